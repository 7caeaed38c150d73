import PyProof.Rows.All
import Wide.All
import OpenK.AllK
import Wide.FinOn
import PyProof.EqAt
import PyProof.EqKinds
import PyProof.TupleCall
import HandS.ForExc
import HandS.Comp
import HandS.Iter
import HandS.Gcd
import HandS.Wide
import HandS.Evl
import HandS.Defaults
import HandS.ExcIs
import HandS.TupAny
import HandS.TupMul
import HandS.Walk
import HandS.Rev
import HandS.TupAny
import HandS.TupMul
import HandS.Style
import HandS.Deep
import HandS.Dict
import HandS.ForMost
import HandS.Conv
import HandS.Sort
import HandS.SortInts
import HandS.NoneIn
import KE.DatumOrd
import HandS.IsInst
import HandS.TupSets
import HandS.SetFor
import HandS.StrMore
import HandS.Text
import HandS.Codes
import HandS.ExcInit
import HandS.ExcField
import HandS.DictComp
import PyProof.ReprRoads
import PyProof.ReprLen
import PyProof.CallFns
import PyProof.Rows.RegStrFacts
import HandS.List
import KE.LtData
import KE.KDictList
import KE.GoesMore
import KE.DataMinMax
import HandS.CallLocal
import KE.KMathGC
import HandS.HotCalls
import HandS.ExcCtx
import HandS.Words
import PyProof.Seq
import HandS.Strs
import KE.KDictKeyed
import KE.KeyNested
import KE.KExcIs
import HandS.ExcOwn
import HandS.More
import PySem.Challenge.RW_threadworth_k28_words_and_their_diagrams
set_option Elab.async false
set_option linter.all false
set_option maxRecDepth 100000
set_option maxHeartbeats 4000000
namespace T
open PySem PySem.Spec PyProof.Rows L2
/-! ### the mathematics of worlds and numbers -/
def primes : List Int := [2, 3, 5, 7, 11, 13, 17, 19, 23, 29, 31]
def isW (p d : Int) : Bool := if p = 0 then (if -20 ≤ d then decide (d ≤ 20) else false) else (if inV (.int p) (primes.map V.int) = true then (if 0 ≤ d then decide (d < p) else false) else false)
theorem inV_ints {p : Int} : ∀ {l : List Int}, inV (.int p) (l.map V.int) = true → p ∈ l
  | [], h => by cases h
  | x :: l, h => by
    have h1 : ((eqV (.int x) (.int p)) || inV (.int p) (l.map V.int)) = true := h
    rcases (Bool.or_eq_true _ _).mp h1 with h | h
    · have : x = p := of_decide_eq_true (show decide (x = p) = true by simpa [eqV] using h)
      rw [this]
      exact List.mem_cons_self
    · exact List.mem_cons_of_mem _ (inV_ints h)
theorem isW_prime {p d : Int} (h : isW p d = true) (hp : p ≠ 0) : p ∈ primes ∧ 0 ≤ d ∧ d < p := by
  unfold isW at h
  rw [if_neg hp] at h
  by_cases e : inV (.int p) (primes.map V.int) = true
  · rw [if_pos e] at h
    by_cases e2 : 0 ≤ d
    · rw [if_pos e2] at h
      exact ⟨inV_ints e, e2, of_decide_eq_true h⟩
    · rw [if_neg e2] at h
      cases h
  · rw [if_neg e] at h
    cases h
theorem prime_pos {p : Int} (h : p ∈ primes) : 2 ≤ p ∧ p ≤ 31 := by
  simp only [primes, List.mem_cons, List.not_mem_nil, or_false] at h
  omega
theorem inv_exN : ∀ p ∈ [2, 3, 5, 7, 11, 13, 17, 19, 23, 29, 31], ∀ r, r < p → r ≠ 0 → ∃ k, k < p ∧ (k * r) % p = 1 := by decide +kernel
theorem inv_ex {p : Int} (hp : p ∈ primes) {r : Int} (h0 : 0 ≤ r) (h1 : r < p) (hr : r ≠ 0) : ∃ k : Int, 1 ≤ k ∧ k < p ∧ k * r % p = 1 := by
  obtain ⟨n, rfl⟩ := Int.eq_ofNat_of_zero_le (show 0 ≤ p by have := prime_pos hp; omega)
  obtain ⟨m, rfl⟩ := Int.eq_ofNat_of_zero_le h0
  have hn : n ∈ [2, 3, 5, 7, 11, 13, 17, 19, 23, 29, 31] := by
    simp only [primes, List.mem_cons, List.not_mem_nil, or_false] at hp ⊢
    omega
  obtain ⟨k, hk, e⟩ := inv_exN n hn m (by omega) (by omega)
  refine ⟨(k : Int), ?_, by omega, ?_⟩
  · rcases Nat.eq_zero_or_pos k with z | z
    · subst z
      rw [Nat.zero_mul, Nat.zero_mod] at e
      cases e
    · omega
  · have : ((k * m % n : Nat) : Int) = ((1 : Nat) : Int) := by rw [e]
    rw [← Int.natCast_mul, ← Int.natCast_emod, e]
    rfl
/-- lowest terms -/
def gI (a b : Int) : Int := ((Nat.gcd a.natAbs b.natAbs : Nat) : Int)
def low (a b : Int) : Int × Int := if b < 0 then ((-a) / gI a b, (-b) / gI a b) else (a / gI a b, b / gI a b)
theorem gI_pos {a b : Int} (hb : b ≠ 0) : 0 < gI a b := by
  have : 0 < Nat.gcd a.natAbs b.natAbs := Nat.gcd_pos_of_pos_right _ (by omega)
  unfold gI
  omega
theorem gI_le {a b : Int} (hb : b ≠ 0) : gI a b ≤ b.natAbs := by
  have := Nat.gcd_le_right (m := a.natAbs) (n := b.natAbs) (by omega)
  unfold gI
  omega
theorem fdiv_negg (a g : Int) (hg : 0 ≤ g) : a.fdiv (-g) = (-a) / g := by
  rw [← Int.fdiv_eq_ediv_of_nonneg _ hg, ← Int.neg_fdiv_neg (-a) g, Int.neg_neg]
/-- the number a / b -/
def bad (p b : Int) : Prop := b = 0 ∨ (0 < p ∧ b % p = 0)
def IsNum (p a b x y : Int) : Prop := (0 < p ∧ y = 1 ∧ 0 ≤ x ∧ x < p ∧ (x * b - a) % p = 0) ∨ (¬ 0 < p ∧ (x, y) = low a b)
theorem inv_solves {p a b k : Int} (hp : 0 < p) (e : k * (b % p) % p = 1) (h1 : 1 < p) : ((a * k % p) * b - a) % p = 0 := by
  have e1 : (k * b) % p = 1 := by
    rw [Int.mul_emod, Int.emod_emod_of_dvd _ (Int.dvd_refl p), ← Int.mul_emod] at e
    exact e
  have d1 : p ∣ k * b - 1 := by
    apply Int.dvd_of_emod_eq_zero
    rw [Int.sub_emod, e1, Int.emod_eq_of_lt (by omega) h1]
    simp
  have d2 : p ∣ a * k - a * k % p := Int.dvd_self_sub_emod
  apply Int.emod_eq_zero_of_dvd
  have : (a * k % p) * b - a = a * (k * b - 1) - (a * k - a * k % p) * b := by
    rw [Int.mul_sub, Int.sub_mul, Int.mul_assoc]
    omega
  rw [this]
  exact Int.dvd_sub (Int.dvd_mul_of_dvd_right d1) (Int.dvd_mul_of_dvd_left d2)
theorem num_unique {p a b x y x' y' : Int} (hp : p = 0 ∨ p ∈ primes) (hb : ¬ bad p b) (h : IsNum p a b x y) (h' : IsNum p a b x' y') : x = x' ∧ y = y' := by
  rcases h with ⟨h0, e1, l1, u1, m1⟩ | ⟨h0, e1⟩
  · rcases h' with ⟨_, e2, l2, u2, m2⟩ | ⟨h0', _⟩
    · refine ⟨?_, e1.trans e2.symm⟩
      rcases hp with rfl | hp
      · omega
      · have hp2 := prime_pos hp
        have hbp : b % p ≠ 0 := fun z => hb (.inr ⟨h0, z⟩)
        obtain ⟨k, k1, k2, ek⟩ := inv_ex hp (Int.emod_nonneg b (by omega)) (Int.emod_lt_of_pos b h0) hbp
        have e1 : (k * b) % p = 1 := by
          rw [Int.mul_emod, Int.emod_emod_of_dvd _ (Int.dvd_refl p), ← Int.mul_emod] at ek
          exact ek
        have d1 : p ∣ k * b - 1 := by
          apply Int.dvd_of_emod_eq_zero
          rw [Int.sub_emod, e1, Int.emod_eq_of_lt (show (0:Int) ≤ 1 by omega) (show (1:Int) < p by omega)]
          simp
        have d2 : p ∣ (x * b - a) - (x' * b - a) := Int.dvd_sub (Int.dvd_of_emod_eq_zero m1) (Int.dvd_of_emod_eq_zero m2)
        have d3 : p ∣ x - x' := by
          have e : x - x' = k * ((x * b - a) - (x' * b - a)) - (x - x') * (k * b - 1) := by
            have e3 : (x * b - a) - (x' * b - a) = (x - x') * b := by
              rw [Int.sub_mul]
              omega
            rw [e3, Int.mul_sub, Int.mul_one, ← Int.mul_assoc, Int.mul_comm k (x - x'), Int.mul_assoc]
            omega
          rw [e]
          exact Int.dvd_sub (Int.dvd_mul_of_dvd_right d2) (Int.dvd_mul_of_dvd_right d1)
        obtain ⟨c, ec⟩ := d3
        have hc : c = 0 := by
          rcases Int.lt_trichotomy c 0 with z | z | z
          · have : p * c ≤ p * (-1) := Int.mul_le_mul_of_nonneg_left (by omega) (by omega)
            omega
          · exact z
          · have : p * 1 ≤ p * c := Int.mul_le_mul_of_nonneg_left (by omega) (by omega)
            omega
        rw [hc, Int.mul_zero] at ec
        omega
    · exact absurd h0 h0'
  · rcases h' with ⟨h0', _⟩ | ⟨_, e2⟩
    · exact absurd h0' h0
    · have := e1.trans e2.symm
      exact ⟨congrArg Prod.fst this, congrArg Prod.snd this⟩
end T

/-! ### defs that are called where nothing is being shown (no repr is under way): what the law's own def may know -/
namespace L2
open PySem PySem.Spec PyProof.Rows
structure FnG (P : Program) (w : World) (K : PySem.W.Frag) (mg : Str → Option Value) (base : Heap) (k : Nat) (f : Addr) (fd : FuncData) (ps : List Str) (sp : Sp) : Prop where
  len : ∀ vs H Q E, sp vs H Q E → vs.length = ps.length
  run : ∀ (A : Around) (outer : List Env) (s : Shared) (H : Hp) (args : Args) (us : List Value) (vs : List V) (Q : VK) (E : XK), A.guards = some [] → Room k A → Env0 P w K mg base A outer s H →
    BindsTo s fd args (ps.zip us) → Vals vs us → sp vs H Q E → codeAny (model P w) A (.call (.ref f) args) (CR CX0 outer P w H s Q E) s
theorem CE_of {P : Program} {w : World} {K : PySem.W.Frag} {mg : Str → Option Value} {base : Heap} {N : List Str} {qual : Str} {scope : Scope} {f : Addr} {cdv : Value} {A : Around} {outer : List Env} {s s' : Shared} {H H' : Hp} {E : XK} {Q : VK} {σ' : St} {v : V} {u : Value}
    (J : Inv (cxOf CX0 P w K mg base N qual scope f cdv A outer s H E) [] σ' H' s') (rv : RelV v u) (q : Q v H') : CE outer P w H s Q u s' := ⟨v, H', J.os, J.bare, J.base, J.hok, rv, q⟩
theorem Fun.okG {P : Program} {w : World} {K : PySem.W.Frag} {mg : Str → Option Value} {base : Heap} {x qual : Str} {st : Stmt} {f : Addr} {fd : FuncData} {N ps : List Str} {k : Nat} {sp : Sp} (F : Fun K x qual st f fd) (S : FnScope N ps (defScope st))
    (len : ∀ vs H Q E, sp vs H Q E → vs.length = ps.length)
    (hbody : ∀ (cdv : Value) (A : Around) (outer : List Env) (s : Shared) (H : Hp) (vs : List V) (Q : VK) (E : XK), (A.deeper (envOfC qual (defScope st) s.heap.objs.size f cdv)).guards = some [] →
      Room k (A.deeper (envOfC qual (defScope st) s.heap.objs.size f cdv)) → sp vs H Q E →
      ∃ t, PSs (cxOf CX0 P w K mg base N qual (defScope st) f cdv A outer s H E).nox (defBody st) t ∧ t { nx := fun _ H' => Q .non H', rt := Q } (start N vs) H) : FnG P w K mg base (k + 1) f fd ps sp := by
  obtain ⟨oc, od, kV, doc, pm, an, cdv, ct, osl, rfl, lk, hcd⟩ := F.ex
  refine ⟨len, fun A outer s H args us vs Q E hgu hr e0 hb r hsp => ?_⟩
  have keep := fun b o (e : base.get? b = some o) => (e0.bs b o e).1
  have inK : K.In s.heap := e0.mod.kin.keeps keep
  refine codeAny_call_function hr.depth (inK _ _ lk) rfl S.co S.gen rfl (PySem.W.codeRec_of inK hcd) (hb _ _ _ _ ?_)
  refine wpAny_newFunctionEnv_cells S.kind (fun ⟨n, v⟩ hy => ?_) fun env he s1 xx => ?_
  · exact (S.par n (List.of_mem_zip hy).1).elim .inl fun q => .inr ⟨q, PySem.W.cellsFrom_some _ _ _ (.inl q)⟩
  · subst he
    refine ⟨(e0.mod.nolimit.keeps keep).keeps xx.toInCall.keep, codeAny_func ?_⟩
    obtain ⟨t, ht, hq⟩ := hbody cdv A outer s H vs Q E hgu (hr.deeper _) hsp
    have I := inv_start (CX := CX0) (E := E) S hr.hd e0 (len _ _ _ _ hsp) r xx
    refine wpAny_mono (ht.nox.run [] s1 _ H _ I hq) (fun fl s' hs => ?_) fun e s' hs => hs
    rcases fl with _ | _ | _ | u
    · obtain ⟨σ', H', J, q⟩ := hs
      exact CE_of (v := V.non) (u := Value.none) J rfl q
    · exact hs.elim fun _ z => z.elim fun _ z => z.2.elim
    · exact hs.elim fun _ z => z.elim fun _ z => z.2.elim
    · obtain ⟨v, σ', H', J, rv, q⟩ := hs
      exact CE_of J rv q
end L2

namespace L2
open PySem PySem.Spec PyProof.Rows
/-- the law's def, called by the claim's caller: nothing is being shown there -/
theorem goes_at {P : Program} {w : World} {K : PySem.W.Frag} {mg mb : Str → Option Value} {k : Nat} {fa a : Addr} {fd : FuncData} {x : Str} {sp : Sp} {t : Shared} {vs : List Value} {xs : List V} {H : Hp}
    (KX : K.In t.heap) (hns : t.heap.Ns mainGlobals mg) (hb : t.heap.Ns builtinsNs mb) (hbb : ∀ y : Str, y ≠ "__name__" → mb y = bootBuiltins y) (hlim : t.heap.NoLimit) (hg : t.gens = #[])
    (ha : t.heap.get? a = some { cls := .type "list", data := .seq vs.toArray }) (hr : Room k callerA)
    (F : ∀ base : Heap, K.In base → base.Ns mainGlobals mg → FnG P w K mg base k fa fd [x] sp) (hbind : ∀ (s : Shared) (u : Value), BindsTo s fd ⟨[u], []⟩ [(x, u)])
    (hO : Only H) (hsp : sp [.ref a] H (fun v _ => v = .bl true) fun _ _ _ => False) (hok : HOk P w H t.heap) (hA : ∀ b, H b ≠ none → b = a) (hK : H a ≠ none → K.lookup a = none) :
    codeAny (model P w) callerA (.call (.ref fa) ⟨[.ref a], []⟩) (fun r s' => r = .ok (.ret (.bool true)) ∧ OldK t.heap s'.heap ∧ s'.os = t.os ∧ AllBare s'.gens) t := by
  have free : ∀ {b : Addr}, (H b ≠ none → False) → H b = none := fun {b} z => by
    rcases e : H b with _ | u
    · rfl
    · exact (z (by rw [e]; exact fun q => nomatch q)).elim
  have ns : ∀ {b : Addr} {m : Str → Option Value}, t.heap.Ns b m → (hidT t.heap H).Ns b m := fun {b m} z => by
    obtain ⟨o, es, ep, e, d, r⟩ := z
    refine ⟨o, es, ep, hidT_get e (free fun z => ?_), d, r⟩
    rw [hA b z, ha] at e
    cases e
    cases d
  have inB : K.In (hidT t.heap H) := fun b o e => hidT_get (KX b o e) (free fun z => by
    have eb := hA b z
    rw [eb] at z e
    rw [hK z] at e
    cases e)
  obtain ⟨mc, l1, l2⟩ := hlim
  have env : Env0 P w K mg (hidT t.heap H) callerA [] t H := ⟨rfl, ⟨inB, ns hns, ⟨mb, ns hb, hbb⟩, ⟨mc, ns l1, l2⟩⟩, fun b o e => of_hidT e, Nat.le_of_eq (hidT_size _ _), trivial, fun b hb => (nomatch hb), hok, .of_eq hg⟩
  refine codeAny_mono ((F _ inB (ns hns)).run callerA [] t H _ [.ref a] [.ref a] _ _ rfl hr env (hbind t (.ref a)) (.cons rfl .nil) hsp) fun r s' h => ?_
  rcases r with e | fl
  · exact (show False from h).elim
  · rcases fl with _ | _ | _ | u
    · exact (show False from h).elim
    · exact (show False from h).elim
    · exact (show False from h).elim
    · obtain ⟨v, H', os, bare, un, hok', rv, q⟩ := h
      obtain rfl : v = .bl true := q
      obtain rfl : u = Value.bool true := rv
      refine ⟨rfl, OldK.of_keep fun b o e => ?_, os, bare⟩
      rcases hO b with z | ⟨ob, ys, z⟩
      · exact un.keep b o e z (fun z => nomatch z) (fun z => nomatch z)
      · have e1 := (hok b _ z).1
        rw [e] at e1
        rw [Option.some.inj e1]
        exact (hok' b _ (un.frzs b ob _ z)).1
theorem walk_ofG {l : PySem.W.OpenLaw} {n k : Nat} {q : Program} {loose : List Str} {XP : (Str → Option Value) → Heap → Prop} {YP : World → Heap → Prop} {d : DefRec} {K : Params → PySem.W.Frag} {sp : World → Sp} {x : Str}
    (hn : l.most = some n) (hn2 : n ≤ sizeLine) (hdf : d.params.defaults = []) (hr : Room k callerA) (hY : ∀ (w : World) (h : Heap), YP w h → (K w.params).In h)
    (F : ∀ (w : World) (mg : Str → Option Value) (fa : Addr) (h : Heap), (K w.params).In h → h.Ns mainGlobals mg → mg d.name = some (.ref fa) →
      ∃ fd : FuncData, (∀ (s : Shared) (u : Value), BindsTo s fd ⟨[u], []⟩ [(x, u)]) ∧ ∀ base : Heap, (K w.params).In base → base.Ns mainGlobals mg → FnG l.prog w (K w.params) mg base k fa fd [x] (sp w))
    (hsp : ∀ (w : World) (H : Hp) (a : Addr) (ns : List Int), ns.length ≤ n → SqL (K w.params) H a (ns.map V.int) → sp w [.ref a] H (fun v _ => v = .bl true) fun _ _ _ => False) :
    PySem.W.WalkO q loose XP YP l.row.toRowW d [] (fun f vs => PySem.call f vs) := by
  refine Att.attach_call hn hdf fun w s₀ t mg mb fa o pm cd doc a vs ns G Y ho hd hcd hmg hobj hints hlen hg => ?_
  have KX := hY w _ Y
  obtain ⟨fd, hb, hF⟩ := F w mg fa _ KX G.T.g hmg
  have rv : Vals (ns.map V.int) vs := vals_ints hints
  have lv := hints.length
  rcases hk : (K w.params).lookup a with _ | oa
  · refine goes_at (xs := ns.map V.int) (H := fun b => if b = a then some (.frz { cls := .type "list", data := .seq vs.toArray } (.lst (ns.map V.int))) else none) KX G.T.g G.T.b G.T.builtins G.T.nolimit hg hobj hr hF hb
      (fun b => ?_) (hsp w _ a ns hlen (.inl (.inr ⟨_, if_pos rfl⟩))) (fun b u z => ?_) (fun b z => Decidable.byContradiction fun c => z (if_neg c)) fun _ => hk
    · by_cases c : b = a
      · exact .inr ⟨_, _, if_pos c⟩
      · exact .inl (if_neg c)
    · by_cases c : b = a
      · have z' := (if_pos c).symm.trans z
        cases z'
        subst c
        exact ⟨hobj, by rw [List.length_map]; omega, vs, _, rv, hobj⟩
      · have z' := (if_neg c).symm.trans z
        cases z'
  · have e := (KX a oa hk).symm.trans hobj
    cases e
    exact goes_at (xs := ns.map V.int) (H := fun _ => none) KX G.T.g G.T.b G.T.builtins G.T.nolimit hg hobj hr hF hb (fun _ => .inl rfl)
      (hsp w _ a ns hlen (.inr ⟨_, vs.toArray, _, hk, rfl, rfl, rfl, by rw [List.size_toArray]; omega, rv⟩)) (fun b u z => nomatch z) (fun b z => (z rfl).elim) fun z => (z rfl).elim
end L2

namespace L2
open PySem PySem.Spec PyProof.Rows
/-! ### repr(data), where nothing is being shown -/
mutual
def wt : PyData → Nat
  | .none => 4
  | .bool _ => 5
  | .int _ => 1921
  | .str x => (reprText x).length
  | .list xs => wtAll xs + 3
  | .tuple xs => wtAll xs + 3
  | .dict _ => 0
def wtAll : List PyData → Nat
  | [] => 0
  | x :: xs => wt x + 2 + wtAll xs
end
mutual
theorem shown_wt : ∀ d : PyData, d.showable = true → d.hasDict = false → d.shown.length ≤ wt d
  | .none, _, _ => by simp only [PyData.shown, wt]; decide +kernel
  | .bool b, _, _ => by cases b <;> simp only [PyData.shown, wt] <;> decide +kernel
  | .int i, h, _ => by
    simp only [PyData.shown, wt]
    exact int_text_len_1921 (by simpa [PyData.showable] using h)
  | .str x, _, _ => by simp only [PyData.shown, wt]; exact Nat.le_refl _
  | .list xs, h, h2 => by
    simp only [PyData.showable] at h
    simp only [PyData.hasDict] at h2
    simp only [PyData.shown, wt]
    have h3 := shown_wtAll xs h h2
    have h4 := listText_len_le (PyData.shownAll xs)
    omega
  | .tuple xs, h, h2 => by
    simp only [PyData.showable] at h
    simp only [PyData.hasDict] at h2
    simp only [PyData.shown, wt]
    have h3 := shown_wtAll xs h h2
    have h4 := tupleText_len_le (PyData.shownAll xs)
    omega
  | .dict _, _, h2 => by simp [PyData.hasDict] at h2
theorem shown_wtAll : ∀ xs : List PyData, PyData.showableAll xs = true → PyData.hasDictAll xs = false → ((PyData.shownAll xs).map (·.length)).sum + 2 * (PyData.shownAll xs).length ≤ wtAll xs
  | [], _, _ => by simp [PyData.shownAll, wtAll]
  | x :: xs, h, h2 => by
    simp only [PyData.showableAll, Bool.and_eq_true] at h
    simp only [PyData.hasDictAll, Bool.or_eq_false_iff] at h2
    have h3 := shown_wt x h.1 h2.1
    have h4 := shown_wtAll xs h.2 h2.2
    simp only [PyData.shownAll, wtAll, List.map_cons, List.sum_cons, List.length_cons]
    omega
end
def rReprD (K : PySem.W.Frag) : List V → Hp → VK → Prop := fun xs H Q => ∃ x d, xs = [x] ∧ Dp K H x d ∧ SeqAt.shaped d = true ∧ d.showable = true ∧ wt d ≤ sizeLine ∧ Q (.str d.shown) H
theorem cr_reprD {X : Cx} (hg : X.A.guards = some []) (hu : X.A.units + 65 < cLine) : CallR X (.builtin "repr") (rReprD X.K) := by
  intro pins s σ H vs us Q I r h
  obtain ⟨x, d, rfl, hd, hs, hw, hz, q⟩ := h
  cases r with
  | cons rv rn =>
    rename_i v us'
    cases rn
    have hs' : (d.canLay0 && decide (d.depth ≤ 64)) = true := hs
    rw [Bool.and_eq_true] at hs'
    have nd := PyData.hasDict_of_canLay d hs'.1
    have dep : d.depth ≤ 64 := of_decide_eq_true hs'.2
    have sz := Nat.le_trans (shown_wt d hw nd) hz
    obtain ⟨as, rd⟩ := Dp.reads I d x v hd rv
    have ref : ∀ a : Addr, v = .ref a → wpAny (model X.prog X.w) X.A (call (.builtin "repr") [v]) (EP X pins σ Q) X.xe s := fun a e => by
      subst e
      exact repr_of_reads' rd hw (PyData.noDict_hsm nd) hg (by omega) (fun _ _ e => e) (fun h' u tk hk => ⟨.str _, H, I.kept (t' := tk) hk, ⟨u, rfl⟩, q⟩) sz
    cases hd with
    | non =>
      cases rv
      exact PySem.P.repr_of_none ⟨.str _, H, I.tok _, ⟨_, rfl⟩, by simpa only [PyData.shown] using q⟩
    | bl b =>
      cases rv
      exact PySem.P.repr_of_bool ⟨.str _, H, I.tok _, ⟨_, rfl⟩, by simpa only [PyData.shown] using q⟩
    | int i =>
      obtain ⟨t, rfl⟩ := rv
      exact PySem.P.repr_of_int (by simpa [PyData.showable] using hw) ⟨.str _, H, I.tok _, ⟨_, rfl⟩, by simpa only [PyData.shown] using q⟩
    | str y =>
      obtain ⟨t, rfl⟩ := rv
      exact PySem.P.repr_of_str ⟨.str _, H, I.tok _, ⟨_, rfl⟩, by simpa only [PyData.shown] using q⟩ (by simpa only [PyData.shown] using sz)
    | lst _ _ => exact ref _ rv
    | tup _ _ => exact ref _ rv
end L2

namespace T
/-! ### fractions -/
theorem low_pos {a : Int} {n : Nat} (hn : n ≠ 0) : low a (n : Int) = ((Rat.divInt a (n : Int)).num, ((Rat.divInt a (n : Int)).den : Int)) := by
  have e : Rat.divInt a (n : Int) = Rat.normalize a n hn := by
    show mkRat a n = _
    rw [Rat.mkRat_def, dif_neg hn]
  rw [e, Rat.normalize_eq]
  unfold low gI
  rw [if_neg (by omega), Int.natAbs_natCast]
  show (_, _) = (_, (((n / a.natAbs.gcd n : Nat)) : Int))
  rw [Int.natCast_ediv]
theorem low_rat {a b : Int} (hb : b ≠ 0) : low a b = ((Rat.divInt a b).num, ((Rat.divInt a b).den : Int)) := by
  by_cases c : 0 < b
  · obtain ⟨n, rfl⟩ := Int.eq_ofNat_of_zero_le (Int.le_of_lt c)
    exact low_pos (by omega)
  · obtain ⟨n, hn⟩ := Int.eq_ofNat_of_zero_le (show 0 ≤ -b by omega)
    have e : Rat.divInt a b = Rat.divInt (-a) (n : Int) := (Rat.divInt_eq_divInt_iff hb (by omega)).mpr (by rw [← hn, Int.mul_neg, Int.neg_mul])
    rw [e, ← low_pos (by omega), ← hn]
    unfold low gI
    rw [if_pos (by omega), if_neg (by omega), Int.natAbs_neg, Int.natAbs_neg]
theorem low_congr {a b a' b' : Int} (hb : b ≠ 0) (hb' : b' ≠ 0) (h : a * b' = a' * b) : low a b = low a' b' := by
  rw [low_rat hb, low_rat hb', (Rat.divInt_eq_divInt_iff hb hb').mpr h]
theorem low_q {a b u v : Int} (hb : b ≠ 0) (h : (u, v) = low a b) : Rat.divInt u v = Rat.divInt a b ∧ 0 < v := by
  rw [low_rat hb] at h
  have e1 : u = (Rat.divInt a b).num := congrArg Prod.fst h
  have e2 : v = ((Rat.divInt a b).den : Int) := congrArg Prod.snd h
  rw [e1, e2]
  exact ⟨Rat.num_divInt_den _, by have := (Rat.divInt a b).den_pos; omega⟩
theorem low_cross {a b u v : Int} (hb : b ≠ 0) (h : (u, v) = low a b) : u * b = a * v ∧ 0 < v := by
  obtain ⟨h1, h2⟩ := low_q hb h
  exact ⟨(Rat.divInt_eq_divInt_iff (by omega) hb).mp h1, h2⟩
/-- a number times a number: the parts may be reduced ahead or behind -/
theorem num_step {p A B u v a b u' v' : Int} (hp : p = 0 ∨ p ∈ primes) (hB : p = 0 → B ≠ 0) (hb0 : p = 0 → b ≠ 0) (hb1 : p ≠ 0 → b = 1) (hB1 : p ≠ 0 → B = 1) (h : IsNum p A B u v) (h' : IsNum p (u * a) (v * b) u' v') : IsNum p (A * a) (B * b) u' v' := by
  by_cases c : p = 0
  · obtain ⟨_, e⟩ := h.resolve_left (fun z => by omega)
    obtain ⟨_, e'⟩ := h'.resolve_left (fun z => by omega)
    obtain ⟨x1, x2⟩ := low_cross (hB c) e
    refine .inr ⟨by omega, e'.trans (low_congr (Int.mul_ne_zero (by omega) (hb0 c)) (Int.mul_ne_zero (hB c) (hb0 c)) ?_)⟩
    calc u * a * (B * b) = u * B * (a * b) := by rw [Int.mul_assoc, Int.mul_assoc]; congr 1; rw [← Int.mul_assoc, ← Int.mul_assoc, Int.mul_comm a B]
      _ = A * v * (a * b) := by rw [x1]
      _ = A * a * (v * b) := by rw [Int.mul_assoc, Int.mul_assoc]; congr 1; rw [← Int.mul_assoc, ← Int.mul_assoc, Int.mul_comm v a]
  · have hp2 := prime_pos (hp.resolve_left c)
    obtain ⟨h0, e1, l1, u1, m1⟩ := h.resolve_right (fun z => by omega)
    obtain ⟨_, e2, l2, u2, m2⟩ := h'.resolve_right (fun z => by omega)
    refine .inl ⟨h0, e2, l2, u2, ?_⟩
    rw [hB1 c, hb1 c]
    rw [hB1 c, Int.mul_one] at m1
    rw [hb1 c, e1] at m2
    have d1 := Int.dvd_of_emod_eq_zero m1
    have d2 := Int.dvd_of_emod_eq_zero m2
    apply Int.emod_eq_zero_of_dvd
    have e : u' * (1 * 1) - A * a = (u' * (1 * 1) - u * a) + (u - A) * a := by
      rw [Int.sub_mul]
      omega
    rw [e]
    exact Int.dvd_add d2 (Int.dvd_mul_of_dvd_left d1)
theorem low_small {a b u v : Int} (h : (u, v) = low a b) : u.natAbs ≤ a.natAbs ∧ v.natAbs ≤ b.natAbs := by
  have e1 := congrArg Prod.fst h
  have e2 := congrArg Prod.snd h
  unfold low at e1 e2
  by_cases c : b < 0
  · rw [if_pos c] at e1 e2
    have f1 : u = (-a) / gI a b := e1
    have f2 : v = (-b) / gI a b := e2
    have g1 := Int.natAbs_ediv_le_natAbs (-a) (gI a b)
    have g2 := Int.natAbs_ediv_le_natAbs (-b) (gI a b)
    rw [f1, f2]
    omega
  · rw [if_neg c] at e1 e2
    have f1 : u = a / gI a b := e1
    have f2 : v = b / gI a b := e2
    have g1 := Int.natAbs_ediv_le_natAbs a (gI a b)
    have g2 := Int.natAbs_ediv_le_natAbs b (gI a b)
    rw [f1, f2]
    omega
theorem num_small {p a b u v : Int} (hp : p = 0 ∨ p ∈ primes) (h : IsNum p a b u v) (ha : a.natAbs < 2 ^ 199) (hb : b.natAbs < 2 ^ 199) : u.natAbs < 2 ^ 200 ∧ v.natAbs < 2 ^ 200 := by
  rcases h with ⟨h0, rfl, h1, h2, _⟩ | ⟨_, h⟩
  · have := prime_pos (hp.resolve_left (by omega))
    omega
  · have := low_small h
    omega
theorem isW_cases {p d : Int} (hw : isW p d = true) : (p = 0 ∨ p ∈ primes) ∧ d.natAbs ≤ 31 := by
  by_cases c : p = 0
  · refine ⟨.inl c, ?_⟩
    unfold isW at hw
    rw [if_pos c] at hw
    by_cases h1 : -20 ≤ d
    · rw [if_pos h1] at hw
      have := of_decide_eq_true hw
      omega
    · rw [if_neg h1] at hw
      cases hw
  · obtain ⟨h1, h2, h3⟩ := isW_prime hw c
    have := prime_pos h1
    exact ⟨.inr h1, by omega⟩
end T

namespace T
open PySem PySem.Spec PyProof.Rows L2
/-! ### lists of integers as polynomials -/
def co (l : List Int) (k : Nat) : Int := l.getD k 0
theorem co_ge {l : List Int} {k : Nat} (h : l.length ≤ k) : co l k = 0 := by
  unfold co
  rw [List.getD_eq_getElem?_getD, List.getElem?_eq_none h]
  rfl
theorem co_get {l : List Int} {k : Nat} (h : k < l.length) : l[k]? = some (co l k) := by
  unfold co
  rw [List.getD_eq_getElem?_getD, List.getElem?_eq_getElem h]
  rfl
theorem co_mem {l : List Int} {k : Nat} (h : k < l.length) : co l k ∈ l := by
  have e := co_get h
  exact List.mem_of_getElem? e
theorem at_co {l : List Int} {k : Nat} (h : k < l.length) : atI (l.map V.int) (k : Int) = some (.int (co l k)) := atI_nat (by rw [List.getElem?_map, co_get h]; rfl)
theorem at_end {l : List Int} (h : l ≠ []) : atI (l.map V.int) (-1) = some (.int (co l (l.length - 1))) := by
  have hl : 0 < l.length := List.length_pos_iff.mpr h
  have e : l.map V.int = (l.take (l.length - 1)).map V.int ++ [V.int (co l (l.length - 1))] := by
    have e1 : l = l.take (l.length - 1) ++ [co l (l.length - 1)] := by
      have := List.take_succ (l := l) (i := l.length - 1)
      rw [show l.length - 1 + 1 = l.length by omega, List.take_length, co_get (by omega)] at this
      exact this
    conv => lhs; rw [e1]
    rw [List.map_append]
    rfl
  rw [e]
  exact atI_last _ _
/-- no 0 at the end -/
def Pol (l : List Int) : Prop := l = [] ∨ co l (l.length - 1) ≠ 0
theorem pol_len {l m : List Int} (hm : Pol m) (h : ∀ k, co l k = co m k) : m.length ≤ l.length := by
  rcases hm with rfl | hm
  · exact Nat.zero_le _
  · rcases Nat.lt_or_ge l.length m.length with c | c
    · rw [← h, co_ge (by omega)] at hm
      exact absurd rfl hm
    · exact c
theorem pol_ext {l m : List Int} (hl : Pol l) (hm : Pol m) (h : ∀ k, co l k = co m k) : l = m := by
  have h1 := pol_len hm h
  have h2 := pol_len hl (fun k => (h k).symm)
  refine List.ext_getElem? fun k => ?_
  rcases Nat.lt_or_ge k l.length with c | c
  · rw [co_get c, co_get (by omega), h]
  · rw [List.getElem?_eq_none c, List.getElem?_eq_none (by omega)]
theorem co_take {l : List Int} {s k : Nat} (h : ∀ i, s ≤ i → co l i = 0) : co (l.take s) k = co l k := by
  rcases Nat.lt_or_ge k s with c | c
  · unfold co
    rw [List.getD_eq_getElem?_getD, List.getD_eq_getElem?_getD, List.getElem?_take_of_lt c]
  · rw [h k c, co_ge (by rw [List.length_take]; omega)]
theorem pol_take {l : List Int} {s : Nat} (hs : s ≤ l.length) (h : s = 0 ∨ co l (s - 1) ≠ 0) (hz : ∀ i, s ≤ i → co l i = 0) : Pol (l.take s) := by
  rcases h with rfl | h
  · exact .inl rfl
  · by_cases c : s = 0
    · rw [c]
      exact .inl rfl
    · refine .inr ?_
      rw [List.length_take, Nat.min_eq_left hs, co_take hz]
      exact h
theorem co_map {f : Int → Int} (h0 : f 0 = 0) (l : List Int) (k : Nat) : co (l.map f) k = f (co l k) := by
  rcases Nat.lt_or_ge k l.length with c | c
  · have := co_get c
    unfold co
    rw [List.getD_eq_getElem?_getD, List.getElem?_map, List.getD_eq_getElem?_getD, this]
    rfl
  · rw [co_ge (by rw [List.length_map]; omega), co_ge c, h0]
theorem co_set {l : List Int} {i : Nat} {v : Int} (k : Nat) (h : i < l.length) : co (l.set i v) k = if k = i then v else co l k := by
  unfold co
  rw [List.getD_eq_getElem?_getD, List.getElem?_set]
  by_cases c : i = k
  · rw [if_pos c, if_pos c.symm, if_pos (by omega)]
    rfl
  · rw [if_neg c, if_neg (fun z => c z.symm), List.getD_eq_getElem?_getD]
theorem co_zeros (n k : Nat) : co (List.replicate n 0) k = 0 := by
  unfold co
  rw [List.getD_eq_getElem?_getD, List.getElem?_replicate]
  split <;> rfl
theorem map_set (l : List Int) (i : Nat) (v : Int) : (l.map V.int).set i (V.int v) = (l.set i v).map V.int := List.map_set.symm
/-! the value -/
def ev (x : Int) : List Int → Int
  | [] => 0
  | a :: r => a + x * ev x r
theorem ev_append (x : Int) (l : List Int) (a : Int) : ev x (l ++ [a]) = ev x l + x ^ l.length * a := by
  induction l with
  | nil => show a + x * 0 = 0 + x ^ 0 * a; rw [Int.pow_zero]; grind
  | cons b r ih =>
    show b + x * ev x (r ++ [a]) = b + x * ev x r + x ^ (r.length + 1) * a
    rw [ih, Int.pow_succ]
    grind
theorem ev_take (x : Int) {l : List Int} {i : Nat} (h : i < l.length) : ev x (l.take (i + 1)) = ev x (l.take i) + co l i * x ^ i := by
  have e : l.take (i + 1) = l.take i ++ [co l i] := by rw [List.take_succ, co_get h]; rfl
  rw [e, ev_append, List.length_take, Nat.min_eq_left (by omega), Int.mul_comm]
theorem ev_drop (x : Int) {l : List Int} {i : Nat} (h : i < l.length) : ev x (l.drop i) = co l i + x * ev x (l.drop (i + 1)) := by
  rw [List.drop_eq_getElem_cons h]
  have := co_get h
  rw [List.getElem?_eq_getElem h] at this
  rw [Option.some.inj this]
  rfl
/-! the product: what is there behind i rows, and j entries of the next -/
def row (one other : List Int) (i k : Nat) : Int := if i ≤ k then co one i * co other (k - i) else 0
def conv (one other : List Int) : Nat → Nat → Int
  | 0, _ => 0
  | i + 1, k => conv one other i k + row one other i k
theorem conv_more (one other : List Int) (k : Nat) : ∀ i, one.length ≤ i → conv one other i k = conv one other one.length k
  | 0, h => by rw [show one.length = 0 by omega]
  | i + 1, h => by
    by_cases c : one.length = i + 1
    · rw [c]
    · show conv one other i k + row one other i k = _
      rw [conv_more one other k i (by omega)]
      unfold row
      rw [co_ge (l := one) (by omega)]
      split <;> simp
theorem conv_top (one other : List Int) {k : Nat} : ∀ i, i ≤ one.length → i + other.length ≤ k + 1 → conv one other i k = 0
  | 0, _, _ => rfl
  | i + 1, h, hk => by
    show conv one other i k + row one other i k = 0
    rw [conv_top one other i (by omega) (by omega)]
    unfold row
    rw [if_pos (by omega), co_ge (l := other) (by omega)]
    simp
theorem conv_zero (one : List Int) (k : Nat) : ∀ i, conv one [] i k = 0
  | 0 => rfl
  | i + 1 => by
    show conv one [] i k + row one [] i k = 0
    rw [conv_zero one k i]
    unfold row
    rw [show co [] (k - i) = 0 from co_ge (Nat.zero_le _)]
    split <;> simp
theorem rep0 : ∀ n : Nat, (List.replicate n [V.int 0]).flatten = (List.replicate n (0 : Int)).map V.int
  | 0 => rfl
  | n + 1 => by
    rw [List.replicate_succ, List.flatten_cons, rep0 n, List.replicate_succ, List.map_cons]
    rfl
theorem ixN_nat {n j : Nat} (h : j < n) : ixN n (j : Int) = some j := by
  unfold ixN
  rw [if_pos (by omega), if_pos (by omega)]
  rfl
end T

/-! ### tuple * n for n = 0 and n = 1 -/
namespace L2
open PySem PySem.Spec PyProof.Rows
theorem tuple_mulX (l : Addr) (items : Array Value) (n : Nat) (dd : Option Addr) (sl : Array (Option Value)) (x : Int) (u : Tok) (c0 : (decide (x < -(2 ^ 63)) || decide (x ≥ 2 ^ 63)) = false) (c1 : (items.isEmpty || x == 1) = true) :
    Meets (Builtin.«tuple.__mul__» ⟨[.ref l, .int x u], []⟩) (fun _ R s => s.heap.get? l = some { cls := .type "tuple", dict := dd, data := .seq items n, slots := sl } ∧ R (.ok (.ret (Value.ref l))) s) :=
  .of_wp fun prog w A R s h => by
    obtain ⟨hp, g, d, tk, os⟩ := s
    obtain ⟨hl, h⟩ := h
    have f1 := AutoSeq1.idx_int
    wp_walk using wpAny_loadPart' hl
    repeat (first
      | (refine wpAny_ite_false (decide_eq_false (by rw [c0]; exact Bool.false_ne_true)) ?_; wp_walk using wpAny_loadPart' hl)
      | (refine wpAny_ite_true (decide_eq_true c1) ?_; wp_walk using wpAny_loadPart' hl))
    exact ⟨_, rfl, h⟩
theorem tuple_mulZ (l : Addr) (items : Array Value) (n : Nat) (dd : Option Addr) (sl : Array (Option Value)) (x : Int) (u : Tok) (c0 : (decide (x < -(2 ^ 63)) || decide (x ≥ 2 ^ 63)) = false) (c1 : (items.isEmpty || x == 1) = false) (c2 : (decide (x ≤ 0) || items.isEmpty) = true) :
    Meets (Builtin.«tuple.__mul__» ⟨[.ref l, .int x u], []⟩) (fun _ R s => s.heap.get? l = some { cls := .type "tuple", dict := dd, data := .seq items n, slots := sl } ∧
      R (.ok (.ret (Value.ref s.heap.objs.size))) { s with heap := s.heap.push { cls := Value.type "tuple", data := Data.seq #[] }, toks := s.toks }) :=
  .of_wp fun prog w A R s h => by
    obtain ⟨hp, g, d, tk, os⟩ := s
    obtain ⟨hl, h⟩ := h
    have f1 := AutoSeq1.idx_int
    wp_walk using wpAny_loadPart' hl
    repeat (first
      | (refine wpAny_ite_false (decide_eq_false (by rw [c0]; exact Bool.false_ne_true)) ?_; wp_walk using wpAny_loadPart' hl)
      | (refine wpAny_ite_false (decide_eq_false (by rw [c1]; exact Bool.false_ne_true)) ?_; wp_walk using wpAny_loadPart' hl)
      | (refine wpAny_ite_true (decide_eq_true c2) ?_; wp_walk using wpAny_loadPart' hl))
    exact ⟨_, rfl, h⟩
def rRepA (K : PySem.W.Frag) : R2 := fun x y H Q => ∃ l k xs, x = .ref l ∧ y = .int k ∧ SqT K H l xs ∧ xs ≠ [] ∧ 0 ≤ k ∧ k ≤ 1000 ∧ xs.length ≤ 1000 ∧ (k = 1 → Q (.ref l) H) ∧ (k ≠ 1 → ∀ p, H p = none → Q (.ref p) (upd H p (.tup (List.replicate k.toNat xs).flatten)))
section
variable {X : Cx}
theorem op_repA : OpR X (binaryOp .Mult) (rRepA X.K) := by
  intro pins s σ H x y v u Q I rx ry h
  obtain ⟨l, k, xs, rfl, rfl, hT, hne, h1, h2, hz, q1, q⟩ := h
  by_cases big : 2 ≤ k
  · exact op_repT pins s σ H _ _ v u Q I rx ry ⟨l, k, xs, rfl, rfl, hT, hne, big, h2, hz, q (by omega)⟩
  cases rx
  obtain ⟨t, rfl⟩ := ry
  obtain ⟨its, r, ⟨⟨cls, dd, data, sl⟩, ho, hc, n, hd⟩, hs⟩ := I.tuple hT
  simp only at hc hd
  subst hc hd
  have hle : its.length = xs.length := r.length.symm
  have hn : its ≠ [] := fun e => hne (by
    rw [e] at hle
    exact List.eq_nil_of_length_eq_zero hle.symm)
  have hi : its.toArray.isEmpty = false := by
    cases its with
    | nil => exact absurd rfl hn
    | cons a b => rfl
  have c0 : (decide (k < -(2 ^ 63)) || decide (k ≥ 2 ^ 63)) = false := by
    rw [decide_eq_false (by omega), decide_eq_false (by omega)] <;> rfl
  by_cases one : k = 1
  · have c1 : (its.toArray.isEmpty || k == 1) = true := by
      rw [hi, Bool.false_or]
      exact beq_iff_eq.mpr one
    exact wpAny_binaryOp_repeat_ref (T := "tuple") (U := "int") (by decide) ⟨_, ho, rfl⟩ (fun s' => typeIs_int s' k t) noFill_tuple_mul F.fills_int_mul F.slot_int_rmul repeat_tuple F.slot_int_index.lookup
      (call_meets F.slot_int_rmul (typeIs_int s k t) F.entry_int_rmul (F.args_int_rmul_2 _ _) (int_rmul_tuple k t l its.toArray n dd sl)
        ⟨ho, rfl, ⟨_, ho, rfl⟩, call_meets F.slot_tuple_mul ⟨_, ho, rfl⟩ F.entry_tuple_mul (F.args_tuple_mul_2 _ _) (tuple_mulX l its.toArray n dd sl k t c0 c1) ⟨ho, ⟨.ref l, H, I, rfl, q1 one⟩⟩⟩)
  · have zero : k = 0 := by omega
    have c1 : (its.toArray.isEmpty || k == 1) = false := by
      rw [hi, Bool.false_or]
      exact beq_eq_false_iff_ne.mpr one
    have c2 : (decide (k ≤ 0) || its.toArray.isEmpty) = true := by
      rw [hi, Bool.or_false]
      exact decide_eq_true (by omega)
    refine wpAny_binaryOp_repeat_ref (T := "tuple") (U := "int") (by decide) ⟨_, ho, rfl⟩ (fun s' => typeIs_int s' k t) noFill_tuple_mul F.fills_int_mul F.slot_int_rmul repeat_tuple F.slot_int_index.lookup
      (call_meets F.slot_int_rmul (typeIs_int s k t) F.entry_int_rmul (F.args_int_rmul_2 _ _) (int_rmul_tuple k t l its.toArray n dd sl)
        ⟨ho, rfl, ⟨_, ho, rfl⟩, call_meets F.slot_tuple_mul ⟨_, ho, rfl⟩ F.entry_tuple_mul (F.args_tuple_mul_2 _ _) (tuple_mulZ l its.toArray n dd sl k t c0 c1 c2) ⟨ho, ?_⟩⟩)
    refine ⟨.ref s.heap.objs.size, _, I.laid (t' := s.toks) (o := .tup (List.replicate k.toNat xs).flatten) (fun b ob q => Heap.get?_push_of_some _ q) (Nat.le_refl _) ?_, rfl, q one _ (I.hok.fresh (Nat.le_refl _))⟩
    rw [zero]
    exact ⟨Nat.zero_le _, [], .nil, IsTup.new _ _⟩
end
end L2

/-! ### sorted(tuple of integers), x in tuple of tuples -/
namespace SrtO
open PySem PyProof.Rows Srt
section
variable {prog : Program} {w : World} {A : Around} {E : Value → Shared → Prop} {s : Shared}
theorem collect_tup {l : Addr} {vs : List Value} {Q : List Value → Shared → Prop} (hl : s.heap.IsTuple l vs.toArray)
    (h : Q vs { s with heap := (s.heap.push (seqObj "list" #[] 0)).update s.heap.objs.size (Obj.mapSeq (· ++ vs.toArray)) }) (hsz : vs.length ≤ sizeLine) :
    wpAny (model prog w) A (collect (.ref l)) Q E s := by
  obtain ⟨o, ho, hc, n, hd⟩ := id hl
  unfold collect
  refine wpAny_bind (wpAny_runValue (codeAny_builtin entry_proto_collect' ?_))
  show wpAny _ _ (do again (.builtin "list.__iadd__" ⟨[← newList [], .ref l], []⟩)) _ _ s
  refine wpAny_bind (wpAny_newList (wpAny_pure ⟨Code.quiet_builtin _ (by decide +kernel), codeAny_builtin entry_list_iadd' ?_⟩))
  show wpAny _ _ (Builtin.List.listExtendWith (.ref s.heap.objs.size) (.ref l) (.ref s.heap.objs.size)) _ _ { s with heap := s.heap.push (seqObj "list" #[] 0) }
  unfold Builtin.List.listExtendWith
  have ho' : (s.heap.push (seqObj "list" #[] 0)).get? l = some o := Heap.get?_push_of_some _ ho
  refine wpAny_bind (wpAny_typeOf (T := "tuple") ⟨o, ho', hc⟩ ?_)
  have ht : (Value.type "tuple" == Value.type "tuple") = true := by rfl
  rw [if_pos (by rw [ht]; simp)]
  refine wpAny_bind (listItems_at ho' hd ?_)
  refine wpAny_bind (listItems_at (xs := #[]) (n := 0) (Heap.get?_push_size _ rfl) rfl ?_)
  rw [if_neg (by simp)]
  refine wpAny_bind (listUpdate_at (xs := #[]) (n := 0) (Heap.get?_push_size _ rfl) rfl ?_ (Nat.zero_le _) (by show (#[] ++ vs.toArray).size ≤ sizeLine + 1; simp only [Array.size_append, List.size_toArray, List.length_nil]; omega))
  refine wpAny_pure ?_
  show wpAny (model prog w) A (do
      let o ← load s.heap.objs.size
      match o.data with
      | .seq xs _ => pure xs.toList
      | _ => unsupported "internal:collect") Q E { s with heap := (s.heap.push (seqObj "list" #[] 0)).update s.heap.objs.size (Obj.mapSeq (· ++ vs.toArray)) }
  refine wpAny_bind (wpAny_load (get?_update_seq (Heap.get?_push_size _ rfl) _) ?_)
  show wpAny _ _ (pure ((#[] : Array Value) ++ vs.toArray).toList) Q E _
  rw [show ((#[] : Array Value) ++ vs.toArray).toList = vs by simp]
  exact wpAny_pure h
theorem sorted_ordT {l : Addr} {vs : List Value} {ltv : Value → Value → Bool} {Q : Value → Shared → Prop} (O : Swo ltv) (hl : s.heap.IsTuple l vs.toArray) (hz : vs.length ≤ sizeLine)
    (hS : 2 ≤ vs.length → ∀ (h₁ : Heap) (a : Addr), h₁.get? a = some (seqObj "list" vs.toArray 0) → (∀ b o, s.heap.get? b = some o → b ≠ a ∧ h₁.get? b = some o) → SortableO prog w A.in1.in1 { s with heap := h₁ } a vs ltv)
    (h : ∀ out : List Value, Srtd ltv out → Stb ltv out vs → Q (.ref (s.heap.objs.size + 1)) { s with heap := sortedAll s.heap vs out.toArray }) :
    wpAny (model prog w) A (call (.builtin "sorted") [.ref l]) Q E s := by
  refine Calls.call_function_entry kind_sorted plain_sorted entry_sorted (args_sorted1 _) ?_
  unfold Builtin.«sorted»
  refine wpAny_bind (m := checkCount "sorted" 1 1 _) (wpAny_pure ?_)
  refine wpAny_bind (collect_tup hl ?_ hz)
  refine wpAny_bind (wpAny_newList ?_ hz)
  have hsz : ((s.heap.push (seqObj "list" #[] 0)).update s.heap.objs.size (Obj.mapSeq (· ++ vs.toArray))).objs.size = s.heap.objs.size + 1 := by
    rw [Heap.size_update, size_push']
  have hoL : (((s.heap.push (seqObj "list" #[] 0)).update s.heap.objs.size (Obj.mapSeq (· ++ vs.toArray))).push (seqObj "list" vs.toArray 0)).get? (s.heap.objs.size + 1) = some (seqObj "list" vs.toArray 0) := by
    rw [← hsz]; exact Heap.get?_push_size _ rfl
  have keep : ∀ b o, s.heap.get? b = some o → b ≠ s.heap.objs.size + 1 ∧ (((s.heap.push (seqObj "list" #[] 0)).update s.heap.objs.size (Obj.mapSeq (· ++ vs.toArray))).push (seqObj "list" vs.toArray 0)).get? b = some o := fun b o q => by
    have hlt : b < s.heap.objs.size := Heap.lt_size q
    refine ⟨Nat.ne_of_lt (Nat.lt_succ_of_lt hlt), Heap.get?_push_of_some _ ?_⟩
    rw [Heap.get?_update_ne _ _ _ _ (Nat.ne_of_lt hlt)]
    exact Heap.get?_push_of_some _ q
  show wpAny _ _ _ _ _ { s with heap := ((s.heap.push (seqObj "list" #[] 0)).update s.heap.objs.size (Obj.mapSeq (· ++ vs.toArray))).push (seqObj "list" vs.toArray 0) }
  rw [hsz]
  refine wpAny_bind (wpAny_holding (wpAny_call_entry slot_list_sort ⟨_, hoL, rfl⟩ entry_list_sort (list_sort_ord O hoL hz (fun h2 => hS h2 _ _ hoL keep) fun out hs hb => ⟨_, rfl, ?_⟩) (args_list_sort _)))
  exact wpAny_pure ⟨_, rfl, h out hs hb⟩
end
end SrtO
namespace L2
open PySem PySem.Spec PyProof.Rows
def rSortedIT (K : PySem.W.Frag) : List V → Hp → VK → Prop := fun vs H Q => ∃ (a : Addr) (ns : List Int), vs = [V.ref a] ∧ SqT K H a (ns.map V.int) ∧
  ∀ (ns' : List Int) (p : Addr), ns'.Perm ns → ns'.Pairwise (· ≤ ·) → H p = none → Q (.ref p) (upd H p (.lst (ns'.map V.int)))
def rInDT (K : PySem.W.Frag) : R2 := fun x y H Q => ∃ d ds, Dp K H x d ∧ Dp K H y (.tuple ds) ∧ SeqAt.shaped d = true ∧ SeqAt.shaped (.tuple ds) = true ∧ Q (.bl (ds.any fun z => PyData.eqv z d)) H
section
variable {X : Cx}
theorem cr_sortedIT : CallR X (.builtin "sorted") (rSortedIT X.K) := by
  intro pins s σ H vs us Q I r h
  obtain ⟨a, ns, rfl, hs, q⟩ := h
  obtain ⟨its, rv, hl, hz⟩ := I.tuple hs
  rw [Vals.ref1 r]
  have hi := rv.ints
  refine SrtO.sorted_ordT SrtO.swo_int hl (by rw [← rv.length]; exact hz) (fun h2 h₁ a' _ _ => SrtO.ints_sortable hi h2) fun out h1 h2 => ?_
  obtain ⟨k1, k2, k3⟩ := SrtO.ints_out hi h1 h2
  obtain ⟨ep, he'⟩ := PyProof.Rows.sortedAll_at s.heap its out.toArray
  have hlen : ((out.map SrtO.iv).map V.int).length ≤ sizeLine := by
    rw [List.length_map, k2.length_eq]
    rw [List.length_map] at hz
    exact hz
  exact ⟨.ref _, upd H (s.heap.objs.size + 1) (.lst ((out.map SrtO.iv).map V.int)), I.laid (t' := s.toks) (fun _ _ => PyProof.Rows.sortedAll_old) (Nat.le_succ _) ⟨hlen, out, ep, vals_of_ints k1, he'⟩, rfl, q _ _ k2 k3 (I.hok.fresh (Nat.le_succ _))⟩
theorem op_inDT (hu : X.A.units + 65 < cLine) : OpR X (compareOp .In) (rInDT X.K) := by
  intro pins s σ H x y v u Q I rx ry h
  obtain ⟨d, ds, hd, he, sd, se, q⟩ := h
  obtain ⟨as, r1⟩ := Dp.reads I d x v hd rx
  obtain ⟨bs, r2⟩ := Dp.reads I (.tuple ds) y u he ry
  exact SeqAt.in_tuple_reads r2 r1 (SeqAt.canLay_of_shaped se) (SeqAt.canLay_of_shaped sd) (room_in_shaped sd hu) ⟨.bl _, H, I, rfl, q⟩
end
end L2

/-! ### tuple[::-1], nested data by <, x not in range(..) -/
namespace HT
open PySem PySem.Spec PyProof.Rows
section
variable {prog : Program} {w : World} {A : Around} {E : Value → Shared → Prop} {s : Shared}
theorem sliceApplied_rev {sl : Addr} {vl vu vs : Value} {n : Nat} {Q : Int × Int × Nat → Shared → Prop} (hs : s.heap.IsSliceOf sl vl vu vs) (pl : IsPart vl none) (pu : IsPart vu none) (ps : IsPart vs (some (-1)))
    (h : Q ((n : Int) - 1, -1, n) s) : wpAny (model prog w) A (Builtin.Slice.sliceApplied (.ref sl) (pure (n : Int))) Q E s := by
  obtain ⟨os, hos, hcs, hds⟩ := id hs
  unfold Builtin.Slice.sliceApplied Builtin.Slice.sliceFields
  refine wpAny_bind (wpAny_bind (wpAny_field hos hds (x := vl) rfl (wpAny_bind (wpAny_field hos hds (x := vu) rfl (wpAny_bind (wpAny_field hos hds (x := vs) rfl (wpAny_pure ?_)))))))
  refine wpAny_bind (slicePart_ ps ?_)
  show wpAny _ _ (if ((-1 : Int) == 0) = true then _ else _) _ _ s
  rw [if_neg (by decide)]
  refine wpAny_bind (slicePart_ pl (wpAny_bind (slicePart_ pu (wpAny_bind (wpAny_pure ?_)))))
  have e2 : Builtin.Slice.slicePlaces ((n : Int) - 1) (-1) (-1) = n := by
    unfold Builtin.Slice.slicePlaces
    rw [if_neg (by decide)]
    by_cases c : (n : Int) - 1 > -1
    · rw [if_pos c, show -(-1 : Int) = 1 from rfl, Int.ediv_one]
      omega
    · rw [if_neg c]
      omega
  show wpAny _ _ (pure (((n : Int) - 1), (-1 : Int), Builtin.Slice.slicePlaces ((n : Int) - 1) (-1) (-1))) _ _ s
  rw [e2]
  exact wpAny_pure h
theorem fm_some {α β : Type} {f : α → Option β} {g : α → β} : ∀ l : List α, (∀ k ∈ l, f k = some (g k)) → l.filterMap f = l.map g
  | [], _ => rfl
  | a :: l, h => by
    rw [List.filterMap_cons, h a List.mem_cons_self, List.map_cons, fm_some l fun k hk => h k (List.mem_cons_of_mem _ hk)]
theorem pick_rev (items : Array Value) : ((List.range items.size).filterMap fun (k : Nat) => items[((items.size : Int) - 1 + (k : Int) * (-1)).toNat]?).toArray = items.toList.reverse.toArray := by
  congr 1
  have hlt : ∀ k ∈ List.range items.size, k < items.size := fun k hk => List.mem_range.mp hk
  have e : ∀ k, k < items.size → items[((items.size : Int) - 1 + (k : Int) * (-1)).toNat]? = some (items.toList.reverse.getD k .none) := fun k hk => by
    rw [show ((items.size : Int) - 1 + (k : Int) * (-1)).toNat = items.size - 1 - k by omega, List.getD_eq_getElem?_getD, List.getElem?_reverse (by rw [Array.length_toList]; exact hk), Array.length_toList, Array.getElem?_toList]
    rw [Array.getElem?_eq_getElem (by omega)]
    rfl
  have e2 : ((List.range items.size).filterMap fun (k : Nat) => items[((items.size : Int) - 1 + (k : Int) * (-1)).toNat]?) = (List.range items.size).map fun k => items.toList.reverse.getD k .none := by
    exact fm_some _ fun k hk => e k (hlt k hk)
  rw [e2]
  refine List.ext_getElem (by rw [List.length_map, List.length_range, List.length_reverse, Array.length_toList]) fun i h1 h2 => ?_
  rw [List.getElem_map, List.getElem_range, List.getD_eq_getElem?_getD, List.getElem?_eq_getElem h2]
  rfl
theorem getItem_tuple_rev {t sl : Addr} {items : Array Value} {vl vu vs : Value} {Q : Value → Shared → Prop} (ht : IsTup s.heap t items) (hs : s.heap.IsSliceOf sl vl vu vs) (pl : IsPart vl none) (pu : IsPart vu none) (ps : IsPart vs (some (-1)))
    (h : Q (.ref s.heap.objs.size) { s with heap := s.heap.push { cls := .type "tuple", data := .seq items.toList.reverse.toArray } }) (hsz : items.size ≤ sizeLine) : wpAny (model prog w) A (getItem (.ref t) (.ref sl)) Q E s := by
  have htake : sizeOk (.seq items.toList.reverse.toArray) := by
    show items.toList.reverse.toArray.size ≤ sizeLine
    rw [List.size_toArray, List.length_reverse, Array.length_toList]
    exact hsz
  obtain ⟨os, hos, hcs, hds⟩ := id hs
  have hTs : s.TypeIs (.ref sl) "slice" := ⟨os, hos, hcs⟩
  unfold getItem
  try with_reducible refine wpAny_holding ?_
  first | refine wpAny_bind (wpAny_pure ?_) | skip
  refine wpAny_bind (wpAny_sequenceKey ht.typeIs (by decide) ?_)
  refine wpAny_bind (wpAny_callSpecial?_slot (name := Str.ofString "__getitem__") ht.typeIs PyProof.Rows.slot_tuple_getitem
    (wpAny_call_entry PyProof.Rows.slot_tuple_getitem ht.typeIs entry_tuple_getitem ?_ (args_tuple_getitem _ _)))
  show wpAny _ _ (Builtin.Tuple.tupleItemsOf (.ref t) >>= _) _ _ s
  refine wpAny_bind (tupleItemsOf_ ht ?_)
  refine wpAny_bind (wpAny_typeOf hTs ?_)
  rw [if_pos (by decide)]
  refine wpAny_bind (sliceApplied_rev hs pl pu ps ?_)
  have hno : ¬ ((((items.size : Int) - 1) == 0 && (-1 : Int) == 1 && items.size == items.size) = true) := by
    intro q
    rw [Bool.and_eq_true, Bool.and_eq_true] at q
    have q1 : (-1 : Int) = 1 := eq_of_beq q.1.2
    omega
  show wpAny _ _ (if (((items.size : Int) - 1) == 0 && (-1 : Int) == 1 && items.size == items.size) = true then _ else _) _ _ s
  rw [if_neg hno, pick_rev]
  first
    | exact wpAny_bind (m := Builtin.Tuple.tupleExact _) (wpAny_newObj_type (wpAny_pure ⟨_, rfl, wpAny_pure h⟩) htake)
    | exact wpAny_bind (m := Builtin.Tuple.tupleExact _) (wpAny_newObj_type (wpAny_bind (wpAny_pure (wpAny_pure ⟨_, rfl, wpAny_pure h⟩))) htake)
    | exact wpAny_bind (wpAny_bind (m := Builtin.Tuple.tupleExact _) (wpAny_newObj_type (wpAny_pure (wpAny_pure ⟨_, rfl, wpAny_pure h⟩)) htake))
    | exact wpAny_bind (wpAny_bind (m := Builtin.Tuple.tupleExact _) (wpAny_newObj_type (wpAny_pure ⟨_, rfl, wpAny_pure h⟩) htake))
end
end HT
namespace L2
open PySem PySem.Spec PyProof.Rows
def tRevT (K : PySem.W.Frag) (te : TE) : TE := fun σ H Q => te σ H fun x H1 => ∃ a xs, x = .ref a ∧ SqT K H1 a xs ∧ ∀ p, H1 p = none → Q (.ref p) (upd H1 p (.tup xs.reverse))
section
variable {X : Cx}
theorem pe_revT {e : Expr} {te : TE} {k : Nat} {p1 p2 p3 pos : Pos} {K : PySem.W.Frag} (hK : X.K = K) (he : PE X e te) : PE X (.Subscript e (.Slice none none (some (.UnaryOp .USub (.Constant (.int 1) k p1) p2)) p3) pos) (tRevT K te) := by
  subst hK
  refine ⟨fun pins s σ H Q I h => ?_⟩
  refine Subscript_ (thn (he.run pins s σ H _ I h) fun v s1 ⟨x, H1, I1, r1, q1⟩ => ?_)
  obtain ⟨a, xs, ex, hx, q⟩ := q1
  subst ex
  cases r1
  have hst : PO X (some (.UnaryOp .USub (.Constant (.int 1) k p1) p2)) (tPart (tUn (rU fun i => .int (-i)) (tC (.int 1)))) := po_some (pe_un un_neg pe_int)
  refine wpAny_Slice (thn (po_none.run pins s1 σ H1 (fun o H2 => o = none ∧ H2 = H1) I1 ⟨rfl, rfl⟩) fun vl s2 ⟨l, H2, I2, pl, el, e2⟩ => ?_)
  subst el e2
  refine thn (po_none.run pins s2 σ H2 (fun o H3 => o = none ∧ H3 = H2) I2 ⟨rfl, rfl⟩) fun vu s3 ⟨u, H3, I3, pu, eu, e3⟩ => ?_
  subst eu e3
  refine thn (hst.run pins s3 σ H3 (fun o H4 => o = some (-1) ∧ H4 = H3) I3 ⟨1, rfl, -1, rfl, rfl, rfl⟩) fun vs s4 ⟨o, H4, I4, ps, eo, e4⟩ => ?_
  subst eo e4
  have I5 : Inv X pins σ H4 { s4 with heap := s4.heap.push { cls := .type "slice", data := .fields #[vl, vu, vs] } } := I4.kept (t' := s4.toks) fun b ob q => Heap.get?_push_of_some _ q
  obtain ⟨its, r, ht, hz⟩ := I5.tuple hx
  have hlen := r.length
  show wpAny (model X.prog X.w) X.A (subscriptTail e (.Slice none none (some (.UnaryOp .USub (.Constant (.int 1) k p1) p2)) p3) (.ref a) (.ref s4.heap.objs.size)) (EP X pins σ Q) X.xe { s4 with heap := s4.heap.push { cls := .type "slice", data := .fields #[vl, vu, vs] } }
  refine tail_any (ops := [.ref a, .ref s4.heap.objs.size]) ht.typeIs (PyProof.Rows.slot_tuple_getitem.lookup) ?_ (by with_unfolding_all rfl)
  refine HT.getItem_tuple_rev ht (Heap.IsSliceOf.new _ vl vu vs) pl pu ps ?_ (by rw [List.size_toArray]; omega)
  refine ⟨.ref _, _, I5.laid (t' := s4.toks) (o := .tup xs.reverse) (fun b ob q => Heap.get?_push_of_some _ q) (Nat.le_refl _) ?_, rfl, q _ (I5.hok.fresh (Nat.le_refl _))⟩
  exact ⟨by rw [List.length_reverse]; exact hz, _, r.reverse, IsTup.new _ _⟩
/-- nested data of one shape -/
def rLtD (K : PySem.W.Frag) : R2 := fun x y H Q => ∃ d e, Dp K H x d ∧ Dp K H y e ∧ PySem.W.alike d e = true ∧ d ≠ .none ∧ d.depth ≤ 64 ∧ Q (.bl (PySem.W.dataLt d e)) H
theorem op_ltD (hu : X.A.units + 64 < cLine) : OpR X (compareOp .Lt) (rLtD X.K) := by
  intro pins s σ H x y v u Q I rx ry h
  obtain ⟨d, e, hd, he, al, nn, dep, q⟩ := h
  obtain ⟨as, r1⟩ := Dp.reads I d x v hd rx
  obtain ⟨bs, r2⟩ := Dp.reads I e y u he ry
  exact PySem.W.rcLt_alike d e X.A s v u as bs r1 r2 al nn (by have := Nat.min_le_left d.depth e.depth; omega) X.prog X.w _ _ ⟨.bl _, H, I, rfl, q⟩
theorem cr_range1 : CallR X (.type "range") (fun vs H Q => ∃ j, vs = [V.int j] ∧ ∀ p, H p = none → Q (.ref p) (upd H p (.rng 0 j))) := by
  intro pins s σ H vs us Q I r h
  obtain ⟨j, rfl, q⟩ := h
  obtain ⟨u1, rfl, rj⟩ : ∃ u1, us = [u1] ∧ RelV (.int j) u1 := by
    cases r with
    | cons r rr =>
      cases rr
      exact ⟨_, rfl, r⟩
  obtain ⟨u, rfl⟩ := rj
  refine call_range_1 ⟨.ref s.heap.objs.size, upd H s.heap.objs.size (.rng 0 j), I.laid (t' := s.toks + 1 + 1) (fun b o e => Heap.get?_push_of_some _ e) (Nat.le_refl _) ?_, rfl, q _ (I.hok.fresh (Nat.le_refl _))⟩
  exact ⟨s.toks, u, s.toks + 1, Heap.get?_push_size _ rfl⟩
theorem op_notIn_rng : OpR X (compareOp .NotIn) (fun x y H Q => ∃ i a lo hi, x = V.int i ∧ y = V.ref a ∧ H a = some (.rng lo hi) ∧ Q (.bl (!decide (lo ≤ i ∧ i < hi))) H) := by
  intro pins s σ H x y v u Q I rx ry h
  obtain ⟨i, a, lo, hi, rfl, rfl, ha, q⟩ := h
  obtain ⟨k, rfl⟩ := rx
  obtain rfl : u = Value.ref a := ry
  obtain ⟨t1, t2, t3, ho⟩ := I.hok a _ ha
  show wpAny _ _ (do return Value.bool (!(← contains (Value.ref a) (Value.int i k)))) _ _ s
  refine wpAny_bind (wpAny_contains_slot (T := "range") ⟨_, ho, rfl⟩ F.slot_range_contains (call_meets F.slot_range_contains ⟨_, ho, rfl⟩ F.entry_range_contains (F.args_range_contains_2 _ _) (q_contains a lo hi i t1 t2 t3 k)
    ⟨ho, wpAny_truthy_bool (wpAny_pure ⟨.bl _, H, I, rfl, ?_⟩)⟩))
  rw [place1]
  exact q
end
end L2

/-! ### tuple(d.values()) -/
namespace L2
open PySem PySem.Spec PyProof.Rows PySem.W
section
variable {prog : Program} {w : World} {A : Around} {E : Value → Shared → Prop} {s : Shared} {T : String} {r d : Addr} {n : Nat} {P : Nat → Value → Prop} {OK : Heap → Prop}
theorem collect_kdl {Q : List Value → Shared → Prop} (K : KdlSrc prog w T r d n P OK) (hh : A.handled = none) (hok : OK s.heap) (hn : n ≤ sizeLine)
    (hQ : ∀ (h' : Heap) (tk : Nat) (acc : Array Value), (∀ b o, s.heap.get? b = some o → h'.get? b = some o) → ItemsOf P acc n → Q acc.toList { s with heap := h', toks := tk }) :
    wpAny (model prog w) A (collect (.ref r)) Q E s := by
  have hlt := K.there _ hok
  unfold collect
  refine wpAny_bind (wpAny_runValue (codeAny_builtin F.entry_proto_collect ?_))
  rw [Around.under_plainId F.plain_proto_collect _]
  show wpAny _ A.in1 (newList [] >>= fun l => again (.builtin "list.__iadd__" ⟨[l, .ref r], []⟩)) _ _ s
  refine wpAny_bind (wpAny_newObj_type ?_)
  refine wpAny_pure ⟨plainId_quiet F.plain_list_iadd _, codeAny_builtin F.entry_list_iadd ?_⟩
  rw [Around.under_plainId F.plain_list_iadd _]
  show wpAny _ A.in1 (Builtin.List.listExtendWith (.ref s.heap.objs.size) (.ref r) (.ref s.heap.objs.size)) _ _ _
  have hS : (s.heap.push { cls := .type "list", data := .seq ([] : List Value).toArray }).get? s.heap.objs.size = some { cls := .type "list", data := .seq #[] 0 } := Heap.get?_push_size _ rfl
  refine wpAny_mono (kdl_extend (A := A) (R := fun rr s' => rr = .ok (.ret (.ref s.heap.objs.size)) ∧ ∃ (h' : Heap) (tk : Nat) (acc : Array Value) (c' : Nat), s' = { s with heap := h', toks := tk } ∧
      (∀ b o, s.heap.get? b = some o → h'.get? b = some o) ∧ h'.get? s.heap.objs.size = some { cls := .type "list", dict := none, data := .seq acc c', slots := #[] } ∧ ItemsOf P acc n)
    (s := { s with heap := s.heap.push { cls := .type "list", data := .seq ([] : List Value).toArray } }) K hh (K.keep _ _ hok fun b _ o e => Heap.get?_push_of_some _ e) _ (Nat.ne_of_gt hlt.1) (Nat.ne_of_gt hlt.2) _ 0 hS
    (fun h' tk acc c' hk e hi => ⟨rfl, h', tk, acc, c', rfl, fun b o q => hk b o (Nat.ne_of_lt (Heap.lt_size q)) (Heap.get?_push_of_some _ q), e, hi⟩) hn) (fun fin s' h => ?_) (fun e s' h => ?_)
  · cases fin with
    | done f =>
      obtain ⟨e, h', tk, acc, c', rfl, hk, hS', hi⟩ := h
      cases e
      show wpAny _ A (load s.heap.objs.size >>= _) _ _ _
      exact wpAny_bind (wpAny_load hS' (wpAny_pure (hQ h' tk acc hk hi)))
    | again c' =>
      refine ⟨h.1, codeAny_mono h.2 fun rr s'' hr' => ?_⟩
      obtain ⟨rfl, h', tk, acc, c', rfl, hk, hS', hi⟩ := hr'
      show wpAny _ A (load s.heap.objs.size >>= _) _ _ _
      exact wpAny_bind (wpAny_load hS' (wpAny_pure (hQ h' tk acc hk hi)))
  · exact absurd h.1 (by simp)
theorem code_tuple_new_kdl {Q₁ : Value → Shared → Prop} (K : KdlSrc prog w "dict_values" r d n P OK) (hh : A.handled = none) (hok : OK s.heap) (hn : n ≤ sizeLine)
    (h : ∀ (h' : Heap) (tk : Nat) (acc : Array Value), (∀ b o, s.heap.get? b = some o → h'.get? b = some o) → ItemsOf P acc n →
      Q₁ (.ref h'.objs.size) { s with heap := h'.push { cls := .type "tuple", data := .seq acc }, toks := tk }) :
    codeAny (model prog w) A (.call (.builtin "tuple.__new__") ⟨[.type "tuple", .ref r], []⟩) (wants Q₁ E) s := by
  refine codeAny_of_tree ?_
  show wpAny _ A.in1 (do checkBuiltinCall "tuple.__new__" ⟨[.type "tuple", .ref r], []⟩; again (.builtin "tuple.__new__" ⟨[.type "tuple", .ref r], []⟩)) _ _ s
  refine wpAny_bind (wpAny_of_eq (F.newCall_tuple_1 _) (wpAny_pure ⟨plainId_quiet F.plain_tuple_new _, codeAny_builtin F.entry_tuple_new ?_⟩))
  rw [Around.under_plainId F.plain_tuple_new _]
  have hsub := sub_tuple_self
  have hinit := init_tuple_lookup
  have hmh := madeHere_tuple
  have hTI : s.TypeIs (.ref r) "dict_values" := K.type s hok
  have hh1 : A.in1.handled = none := hh
  wp_walk using wpAny_typeOf hTI, collect_kdl (A := A.in1) K hh1 hok hn
  intro h' tk acc hk hacc
  show wpAny _ _ (Builtin.Tuple.tupleExact acc.toList.toArray >>= fun v => ret v) _ _ _
  unfold Builtin.Tuple.tupleExact
  refine wpAny_bind (wpAny_newObj_type ?_ (by show acc.toList.toArray.size ≤ sizeLine; simp only [Array.toArray_toList]; rw [hacc.1]; exact hn))
  refine wpAny_pure ?_
  have e : acc.toList.toArray = acc := by simp
  rw [e]
  exact h h' tk acc hk hacc
theorem call_tuple_kdl {Q : Value → Shared → Prop} (K : KdlSrc prog w "dict_values" r d n P OK) (hh : A.handled = none) (hok : OK s.heap) (hn : n ≤ sizeLine)
    (hQ : ∀ (h' : Heap) (tk : Nat) (acc : Array Value), (∀ b o, s.heap.get? b = some o → h'.get? b = some o) → ItemsOf P acc n →
      Q (.ref h'.objs.size) { s with heap := h'.push { cls := .type "tuple", data := .seq acc }, toks := tk }) :
    wpAny (model prog w) A (call (.type "tuple") [.ref r]) Q E s := by
  refine callType_codes (Q₁ := fun obj s₁ => s₁.TypeIs obj "tuple" ∧ Q obj s₁) F.called_tuple (F.typeCall_tuple_1 _) F.entry_object_init
    (code_tuple_new_kdl (A := A.in1) K hh hok hn fun h' tk acc hk hacc => ⟨⟨_, Heap.get?_push_size _ rfl, rfl⟩, hQ h' tk acc hk hacc⟩) fun obj s₁ h₁ => ?_
  exact ⟨h₁.1, F.args_object_init_2 obj _, object_init_meets F.called_tuple.init.lookup F.called_tuple.made (by decide) prog w A.in1 _ s₁ ⟨h₁.1, rfl, h₁.2⟩⟩
end
def tTupVals (td : TE) : TE := fun σ H Q => td σ H fun x H1 => ∃ a kvs, x = V.ref a ∧ H1 a = some (.dK kvs) ∧ ∀ p, H1 p = none → Q (.ref p) (upd H1 p (.tup (kvs.map (·.2))))
section
variable {X : Cx} {o : Expr} {p pos apos mpos : Pos} {td : TE}
theorem pe_tupVals (hc : X.calm = true) (hg : Gl X "tuple") (hm : X.mg "tuple" = none) (hd : PE X o td) (hbase : attributeBase o "values" X.env (eval o X.env) = eval o X.env := by rfl) (hline : (apos.endLine == mpos.line) = true := by rfl)
    (hse : starEach [Expr.Call (.Attribute o "values" apos) [] [] mpos] X.env = [(false, eval (Expr.Call (.Attribute o "values" apos) [] [] mpos) X.env)] := by rfl) :
    PE X (.Call (.Name "tuple" p) [.Call (.Attribute o "values" apos) [] [] mpos] [] pos) (tTupVals td) := by
  refine ⟨fun pins s σ H Q I h => ?_⟩
  have hse2 : starEach [Expr.Call (.Attribute o "values" apos) [] [] mpos] X.env = (false, eval (Expr.Call (.Attribute o "values" apos) [] [] mpos) X.env) :: starEach [] X.env := hse
  refine Call_ (ld_blt I hg hm boot_tuple (PyProof.Rows.callWith_type1 (args_cons (wpAny_Call_method0_late hbase hline (thn (hd.run pins s σ H _ I h) fun v s1 ⟨x, H1, I1, r1, a, kvs, ex, ha, q⟩ => ?_)) hse2) hse2 rfl))
  subst ex
  obtain rfl : v = Value.ref a := r1
  obtain ⟨z, hsys, vs, rel, dof⟩ := dk_of I1.hok ha
  obtain ⟨ep, dat⟩ := dof.dictAt
  have dat' := dat
  obtain ⟨ob, es, ho, ex, hdat, hko, hpr, hnd⟩ := dat'
  refine ⟨"dict", "dict.values", F.plainAttrs_dict, F.slot_dict_values, F.type_dict_values, ⟨ob, ho, ex.1⟩, fun b e => ?_, Calls.callWith_builtin rfl (PySem.evalArgs_none ?_)⟩
  · cases e
    exact ⟨ob, ho, ex.2.1⟩
  refine call_meetsIn F.slot_dict_values ⟨ob, ho, ex.1⟩ F.entry_dict_values (F.args_dict_values_1 _) (meets_dict_values (mixKind X.prog X.w) a hsys) ⟨⟨vs, dof⟩, ?_⟩
  have k1 : ∀ b u, s1.heap.get? b = some u → (s1.heap.push { cls := .type "dict_values", data := .fields #[.ref a] }).get? b = some u := fun b u e => Heap.get?_push_of_some _ e
  have dat1 : (s1.heap.push { cls := .type "dict_values", data := .fields #[.ref a] }).DictAt (mixKind X.prog X.w) a vs ep := dat.keep k1
  refine args_nil ?_
  have hl : kvs.length = vs.length := Paired.length rel
  have I2 : Inv X pins σ H1 { s1 with heap := s1.heap.push { cls := .type "dict_values", data := .fields #[.ref a] } } := I1.kept (t' := s1.toks) k1
  refine call_tuple_kdl (kdl_values (knd := mixKind X.prog X.w) (d := a) (r := s1.heap.objs.size) (kvs := vs) (ep := ep)) (I.ok.hd hc) ⟨⟨_, Heap.get?_push_size _ rfl, rfl, rfl⟩, dat1⟩ (by rw [← hl]; exact z) fun h' tk acc hk hacc => ?_
  have I3 : Inv X pins σ H1 { s1 with heap := h', toks := tk } := I2.kept (t' := tk) hk
  refine ⟨.ref h'.objs.size, upd H1 h'.objs.size (.tup (kvs.map (·.2))), I3.laid (t' := tk) (fun b o e => Heap.get?_push_of_some _ e) (Nat.le_refl _) (show ObjOk X.prog X.w _ _ _ (.tup (kvs.map (·.2))) from ⟨by rw [List.length_map]; exact z, acc.toList, ?_, by rw [Array.toArray_toList]; exact IsTup.new _ _⟩), rfl, q _ (I3.hok.fresh (Nat.le_refl _))⟩
  have el : acc.toList.length = acc.size := by simp
  refine vals_of_at (by rw [List.length_map, el, hacc.1, hl]) fun j x w h1 h2 => ?_
  obtain ⟨k, hky⟩ := hacc.2 j w (by rw [← Array.getElem?_toList]; exact h2)
  obtain ⟨y, h3, h4⟩ := KV.at' rel hky
  rw [List.getElem?_map, h3] at h1
  cases h1
  exact h4
end
end L2

/-! ### enumerate over a tuple (the hand layer has it over a list) -/
namespace PySem
open Sem (wp)
open AutoSeq1 (wpAny_loadPart')
theorem new_enumT (t : Addr) (its : Array Value) (n : Nat) (dc : Option Addr) (sl : Array (Option Value)) :
    Meets (Builtin.«enumerate.__new__» ⟨[.type "enumerate", .ref t], []⟩) (fun _ R s => s.heap.get? t = some { cls := .type "tuple", dict := dc, data := .seq its n, slots := sl } ∧
      R (.ok (.ret (.ref (s.heap.push { cls := .type "tuple_iterator", data := .fields #[.ref t, .int 0 0] }).objs.size)))
        { s with heap := (s.heap.push { cls := .type "tuple_iterator", data := .fields #[.ref t, .int 0 0] }).push { cls := .type "enumerate", data := .fields #[.none, .bool false, .ref s.heap.objs.size, rawInt 0, .none, .none] } }) :=
  .of_wp fun prog w A R s both => by
    obtain ⟨hp, g, d, tk, os⟩ := s
    obtain ⟨ht, both⟩ := both
    have below := sub_enumerate
    have tup : Heap.IsTuple (Shared.heap ⟨hp, g, d, tk, os⟩) t its := ⟨_, ht, rfl, n, rfl⟩
    wp_walk using wpAny_loadPart' ht
    refine wpAny_stack_any fun _ => wpAny_pure ?_
    split
    · rename_i c _ _ _ _ _
      cases (c == Value.type "enumerate")
      · wp_walk using wpAny_loadPart' ht, wpAny_pyIter_tuple tup
        exact ⟨_, rfl, both⟩
      · wp_walk using wpAny_loadPart' ht, wpAny_pyIter_tuple tup
        exact ⟨_, rfl, both⟩
    · wp_walk using wpAny_loadPart' ht, wpAny_pyIter_tuple tup
      exact ⟨_, rfl, both⟩
section
variable {prog : Program} {w : World} {A : Around} {E : Value → Shared → Prop} {s : Shared}
theorem call_enumT {t : Addr} {its : Array Value} {Q : Value → Shared → Prop} (ht : s.heap.IsTuple t its)
    (q : ∀ h', IsEnum h' (s.heap.objs.size + 1) s.heap.objs.size 0 .none → h'.IsTupleIter s.heap.objs.size t 0 →
      (∀ b o, s.heap.get? b = some o → h'.get? b = some o) → Q (.ref (s.heap.objs.size + 1)) { s with heap := h' }) :
    wpAny (model prog w) A (call (.type "enumerate") [.ref t]) Q E s := by
  obtain ⟨⟨c, dc, da, sl⟩, ht, ec, n, ed⟩ := ht
  obtain rfl : c = .type "tuple" := ec
  obtain rfl : da = .seq its n := ed
  refine callType_new F.called_enumerate (by decide) (F.typeCall_enumerate_1 _) (F.newCall_enumerate_1 _) (fun ob => F.args_object_init_2 ob _) F.entry_enumerate_new (new_enumT t its n dc sl) ⟨ht, ?_⟩
  have sz : (s.heap.push { cls := .type "tuple_iterator", data := .fields #[.ref t, .int 0 0] }).objs.size = s.heap.objs.size + 1 := Heap.size_push ..
  show _ ∧ _
  rw [sz]
  have en : IsEnum ((s.heap.push { cls := .type "tuple_iterator", data := .fields #[.ref t, .int 0 0] }).push { cls := .type "enumerate", data := .fields #[.none, .bool false, .ref s.heap.objs.size, rawInt 0, .none, .none] })
      (s.heap.objs.size + 1) s.heap.objs.size 0 .none := by
    have z := Heap.get?_push_size (s.heap.push { cls := .type "tuple_iterator", data := .fields #[.ref t, .int 0 0] }) (o := { cls := .type "enumerate", data := .fields #[.none, .bool false, .ref s.heap.objs.size, rawInt 0, .none, .none] }) rfl
    rw [sz] at z
    exact z
  exact ⟨⟨_, en, rfl⟩, q _ en ⟨_, Heap.get?_push_of_some _ (Heap.get?_push_size _ rfl), rfl, rfl⟩ fun b o x => Heap.get?_push_of_some _ (Heap.get?_push_of_some _ x)⟩
end
end PySem
namespace L2
open PySem PySem.Spec PyProof.Rows
/-- the tuple at a, each item in a new pair behind its index -/
def IteT (K : PySem.W.Frag) (a : Addr) : It :=
  ⟨fun i H => ∃ (ys : List V) (y : V), SqT K H a ys ∧ ys[i]? = some y, fun i H v H' => ∃ p y, v = .ref p ∧ H p = none ∧ H' = upd H p (.tup [.int (i : Nat), y]) ∧ ∀ ys, SqT K H a ys → ys[i]? = some y,
    fun i H => ∃ ys : List V, SqT K H a ys ∧ ys.length = i⟩
theorem turn_enumT {P : Program} {w : World} {K : PySem.W.Frag} {elts : List Expr} {kk : Nat} {tp : Pos} (a e it : Addr) :
    Turn P w K (.Tuple elts kk tp) (IteT K a) [e, it] e (fun i h => (∃ old, IsEnum h e it ((i : Nat) : Int) old) ∧ h.IsTupleIter it a i ∧ (e ≠ it ∧ a ≠ it ∧ a ≠ e)) where
  mem := by simp
  obj := fun i h st b hb => by
    obtain ⟨⟨old, he⟩, ⟨o, ho, _, dd⟩, _⟩ := st
    rcases (show b = e ∨ b = it by simpa using hb) with rfl | rfl
    · exact ⟨_, he, fun v z => nomatch z⟩
    · exact ⟨o, ho, fun v z => by rw [dd] at z; exact nomatch z⟩
  keep := fun i h h' st k => by
    obtain ⟨⟨old, he⟩, ⟨o, ho, r⟩, ne⟩ := st
    exact ⟨⟨old, k e (by simp) _ he⟩, ⟨o, k it (by simp) _ ho, r⟩, ne⟩
  item := by
    intro X hP hw hK hc i pins s σ H E I hf st hg
    subst hP hw hK
    obtain ⟨⟨old, he⟩, hit, ne, nai, nae⟩ := st
    obtain ⟨ys, y, hq, hy⟩ := hg
    obtain ⟨its, rv, p, hz⟩ := I.tuple hq
    obtain ⟨u, hu, ru⟩ := rv.get hy
    have szE : e < s.heap.objs.size := Heap.lt_size he
    have szI : it < s.heap.objs.size := by
      obtain ⟨_, z, _⟩ := hit
      exact Heap.lt_size z
    have small : ∀ b ∈ [e, it], b < s.heap.objs.size := fun b hb => by
      rcases (show b = e ∨ b = it by simpa using hb) with rfl | rfl <;> assumption
    have D := Draws.tuple (prog := X.prog) (w := X.w) (A := X.A.in1) (I.ok.hd hc) it a nai its.toArray
    have hlt : i < its.toArray.size := by
      have := (List.getElem?_eq_some_iff.mp hu).1
      simpa using this
    refine wpAny_pyNext_enum_itemD D he ⟨hit, p⟩ hlt ne (by simp only [List.mem_cons, List.not_mem_nil, or_false, not_or]; exact ⟨ne, Ne.symm nae⟩) fun x h' tk hx ho st2 hT hsz hk => ?_
    obtain ⟨hit2, _⟩ := st2
    have ex : x = u := by
      have h2 : its.toArray[i]? = some u := by simpa using hu
      rw [h2] at hx
      exact (Option.some.inj hx).symm
    subst ex
    refine ⟨_, rfl, wpAny_letOwnedTupleGo_enum (s := { s with heap := h', toks := tk + 1 }) ho fun h'' he' sb => ?_⟩
    have hT2 : h''.get? s.heap.objs.size = some { cls := .type "tuple", data := .seq #[.int i tk, x] } := (sb.2 _ (Nat.ne_of_gt szE)).trans hT
    have okN : ObjOk X.prog X.w (upd H s.heap.objs.size (.tup [.int (i : Nat), y])) h'' s.heap.objs.size (.tup [.int (i : Nat), y]) :=
      ⟨by show 2 ≤ sizeLine; decide, [.int i tk, x], .cons ⟨_, rfl⟩ (.cons ru .nil), ⟨_, hT2, rfl, _, rfl⟩⟩
    have J : Inv X pins σ (upd H s.heap.objs.size (.tup [.int (i : Nat), y])) { s with heap := h'', toks := tk + 1 } :=
      I.turnedNew (ch := [e, it]) (fun b ob hb z => (sb.2 b (fun y => hb (by simp [y]))).trans (hk b ob (fun y => hb (by simp [y])) (fun y => hb (by simp [y])) z)) hf (Nat.le_refl _) okN
    refine ⟨.ref s.heap.objs.size, _, J, rfl, ⟨_, y, rfl, I.hok.fresh (Nat.le_refl _), rfl, fun zs hs => by rw [I.tuple_inj hs hq]; exact hy⟩, ⟨⟨x, ?_⟩, ?_, ne, nai, nae⟩, fun b hb => ?_⟩
    · rw [show ((i + 1 : Nat) : Int) = (i : Int) + 1 by omega]
      exact he'
    · obtain ⟨o, ho2, r⟩ := hit2
      exact ⟨o, (sb.2 it (Ne.symm ne)).trans ho2, r⟩
    · rw [upd_ne (Nat.ne_of_lt (small b hb))]
      exact (hf b hb).1
  done := by
    intro X hP hw hK hc i pins s σ H E I hf st hg
    subst hP hw hK
    obtain ⟨⟨old, he⟩, hit, ne, nai, nae⟩ := st
    obtain ⟨ys, hq, hle⟩ := hg
    obtain ⟨its, rv, p, hz⟩ := I.tuple hq
    have len : its.toArray.size = i := by
      have := rv.length
      simp
      omega
    obtain ⟨g0, g1, _, g3, g4, g5⟩ := hf it (by simp)
    rw [← len] at hit
    have D := Draws.tuple (prog := X.prog) (w := X.w) (A := X.A.in1) (I.ok.hd hc) it a nai its.toArray
    exact wpAny_pyNext_enum_endD D he ⟨hit, p⟩ fun h' eb => ⟨rfl, I.turned (t' := s.toks) (fun b o hb z => eb b o hb z) g0 g1 g3 g4 g5⟩
  self := fun A i s Q E st h => by
    obtain ⟨⟨_, he⟩, _⟩ := st
    exact wpAny_pyIter_enum he h
def iEnumT (K : PySem.W.Frag) (ta : TA) : TI := fun σ H R => ta σ H fun vs H1 => ∃ a ys, vs = [.ref a] ∧ SqT K H1 a ys ∧ R (IteT K a) H1
theorem pi_enumT {X : Cx} {e : Expr} {ta : TA} {p pos tp : Pos} {elts : List Expr} {kk : Nat} (hg : Gl X "enumerate") (hm : X.mg "enumerate" = none) (ha : PA X [e] ta) (hs : starEach [e] X.env = [(false, eval e X.env)] := by rfl) :
    PI X (.Tuple elts kk tp) (.Call (.Name "enumerate" p) [e] [] pos) (iEnumT X.K ta) := by
  refine ⟨fun pins s σ H R I h => Call_ (ld_blt I hg hm boot_enumerate (PyProof.Rows.callWith_type1 (thn (ha.run pos pins s σ H _ I h) fun us s1 ⟨vs, H1, I1, r1, q1⟩ => ?_) hs rfl))⟩
  obtain ⟨a, ys, rfl, hq, q⟩ := q1
  cases r1 with
  | cons r rr =>
    cases rr
    cases r
    obtain ⟨its, rv, p', hz⟩ := I1.tuple hq
    have hp' : s1.heap.IsTuple a its.toArray := p'
    have old : a < s1.heap.objs.size := by
      obtain ⟨o, ho, _⟩ := hp'
      exact Heap.lt_size ho
    refine call_enumT hp' fun h' he hit hk => wpAny_pyIter_enum he ?_
    refine ⟨s1.heap.objs.size + 1, [s1.heap.objs.size + 1, s1.heap.objs.size], _, _, H1, rfl, I1.kept (t' := s1.toks) hk, turn_enumT a (s1.heap.objs.size + 1) s1.heap.objs.size,
      ⟨⟨.none, he⟩, hit, Nat.succ_ne_self _, Nat.ne_of_lt old, Nat.ne_of_lt (Nat.lt_succ_of_lt old)⟩, fun b hb => ?_, q⟩
    have hle : s1.heap.objs.size ≤ b := by
      rcases (show b = s1.heap.objs.size + 1 ∨ b = s1.heap.objs.size by simpa using hb) with rfl | rfl
      · exact Nat.le_succ _
      · exact Nat.le_refl _
    exact I1.fpOk hle (I1.hok.fresh hle)
theorem walk_enumT {K : PySem.W.Frag} {a : Addr} {xs : List V} : Walk (IteT K a) xs.length (fun H => SqT K H a xs) (YPair (fun i => some (.int (i : Nat))) (fun i => xs[i]?)) :=
  ⟨fun i H hi h => ⟨xs, _, h, List.getElem?_eq_getElem hi⟩, fun H h => ⟨xs, h, rfl⟩, fun i H v H' hi h y => by
    obtain ⟨p, z, rfl, np, rfl, hz⟩ := y
    exact ⟨p, _, z, rfl, np, rfl, rfl, hz xs h⟩⟩
end L2

/-! ### max and min of a tuple of ints -/
namespace L2
open PySem PySem.Spec PyProof.Rows
theorem readsAll_ints {h : Heap} : ∀ {ns : List Int} {its : List Value}, Vals (ns.map V.int) its → ReadsAll h its (ns.map PyData.int) []
  | [], _, .nil => .nil
  | n :: ns, _, .cons r t => by
    obtain ⟨k, rfl⟩ := r
    exact .cons (.int n k) (readsAll_ints t)
theorem alikeAll_ints (ns : List Int) : PySem.W.AlikeAll (ns.map PyData.int) := by
  refine ⟨fun x hx y hy => ?_, fun x hx => ?_⟩
  · obtain ⟨a, _, rfl⟩ := List.mem_map.mp hx
    obtain ⟨b, _, rfl⟩ := List.mem_map.mp hy
    simp [PySem.W.alike]
  · obtain ⟨a, _, rfl⟩ := List.mem_map.mp hx
    exact fun z => nomatch z
theorem depthAll_ints : ∀ ns : List Int, PyData.depthAll (ns.map PyData.int) = 0
  | [] => by simp [PyData.depthAll]
  | _ :: ns => by simp [PyData.depthAll, PyData.depth, depthAll_ints ns]
theorem foldl_max (x : Int) : ∀ xs : List Int, xs.foldl max x ∈ x :: xs ∧ ∀ y ∈ x :: xs, y ≤ xs.foldl max x := by
  intro xs
  induction xs generalizing x with
  | nil => exact ⟨List.mem_cons_self, fun y hy => by rw [List.mem_singleton.mp hy]; exact Int.le_refl _⟩
  | cons a xs ih =>
    obtain ⟨h1, h2⟩ := ih (max x a)
    rw [List.foldl_cons]
    have h3 := h2 _ List.mem_cons_self
    refine ⟨?_, fun y hy => ?_⟩
    · rcases List.mem_cons.mp h1 with e | e
      · rw [e]
        by_cases c : x ≤ a
        · rw [show max x a = a by omega]
          exact List.mem_cons_of_mem _ List.mem_cons_self
        · rw [show max x a = x by omega]
          exact List.mem_cons_self
      · exact List.mem_cons_of_mem _ (List.mem_cons_of_mem _ e)
    · rcases List.mem_cons.mp hy with rfl | hy
      · omega
      · rcases List.mem_cons.mp hy with rfl | hy
        · omega
        · exact h2 y (List.mem_cons_of_mem _ hy)
theorem foldl_min (x : Int) : ∀ xs : List Int, xs.foldl min x ∈ x :: xs ∧ ∀ y ∈ x :: xs, xs.foldl min x ≤ y := by
  intro xs
  induction xs generalizing x with
  | nil => exact ⟨List.mem_cons_self, fun y hy => by rw [List.mem_singleton.mp hy]; exact Int.le_refl _⟩
  | cons a xs ih =>
    obtain ⟨h1, h2⟩ := ih (min x a)
    rw [List.foldl_cons]
    have h3 := h2 _ List.mem_cons_self
    refine ⟨?_, fun y hy => ?_⟩
    · rcases List.mem_cons.mp h1 with e | e
      · rw [e]
        by_cases c : x ≤ a
        · rw [show min x a = x by omega]
          exact List.mem_cons_self
        · rw [show min x a = a by omega]
          exact List.mem_cons_of_mem _ List.mem_cons_self
      · exact List.mem_cons_of_mem _ (List.mem_cons_of_mem _ e)
    · rcases List.mem_cons.mp hy with rfl | hy
      · omega
      · rcases List.mem_cons.mp hy with rfl | hy
        · omega
        · exact h2 y (List.mem_cons_of_mem _ hy)
def rMaxTI (K : PySem.W.Frag) : List V → Hp → VK → Prop := fun vs H Q => ∃ (a : Addr) (ns : List Int), vs = [V.ref a] ∧ SqT K H a (ns.map V.int) ∧ 0 < ns.length ∧ ∀ m, m ∈ ns → (∀ y, y ∈ ns → y ≤ m) → Q (.int m) H
def rMinTI (K : PySem.W.Frag) : List V → Hp → VK → Prop := fun vs H Q => ∃ (a : Addr) (ns : List Int), vs = [V.ref a] ∧ SqT K H a (ns.map V.int) ∧ 0 < ns.length ∧ ∀ m, m ∈ ns → (∀ y, y ∈ ns → m ≤ y) → Q (.int m) H
section
variable {X : Cx}
theorem cr_maxTI (hc : X.calm = true) (hu : X.A.units + 64 < cLine) : CallR X (.builtin "max") (rMaxTI X.K) := by
  intro pins s σ H vs us Q I r h
  obtain ⟨a, ns, rfl, hs, hne, q⟩ := h
  obtain ⟨its, rv, hl, _⟩ := I.tuple hs
  rw [Vals.ref1 r]
  cases ns with
  | nil => exact absurd hne (Nat.lt_irrefl 0)
  | cons x xs =>
    have hr : ReadsAll s.heap its.toArray.toList (PyData.int x :: xs.map PyData.int) [] := readsAll_ints rv
    refine PySem.W.max_tuple_data (I.ok.hd hc) hl hr (alikeAll_ints (x :: xs)) (by rw [show PyData.int x :: xs.map PyData.int = (x :: xs).map PyData.int from rfl, depthAll_ints]; omega) fun i v h' tk bs _ hv hk => ?_
    rw [PySem.W.maxD_ints] at hv
    obtain ⟨m1, m2⟩ := foldl_max x xs
    cases hv
    exact ⟨.int _, H, I.kept hk, ⟨_, rfl⟩, q _ m1 m2⟩
theorem cr_minTI (hc : X.calm = true) (hu : X.A.units + 64 < cLine) : CallR X (.builtin "min") (rMinTI X.K) := by
  intro pins s σ H vs us Q I r h
  obtain ⟨a, ns, rfl, hs, hne, q⟩ := h
  obtain ⟨its, rv, hl, _⟩ := I.tuple hs
  rw [Vals.ref1 r]
  cases ns with
  | nil => exact absurd hne (Nat.lt_irrefl 0)
  | cons x xs =>
    have hr : ReadsAll s.heap its.toArray.toList (PyData.int x :: xs.map PyData.int) [] := readsAll_ints rv
    refine PySem.W.min_tuple_data (I.ok.hd hc) hl hr (alikeAll_ints (x :: xs)) (by rw [show PyData.int x :: xs.map PyData.int = (x :: xs).map PyData.int from rfl, depthAll_ints]; omega) fun i v h' tk bs _ hv hk => ?_
    rw [PySem.W.minD_ints] at hv
    obtain ⟨m1, m2⟩ := foldl_min x xs
    cases hv
    exact ⟨.int _, H, I.kept hk, ⟨_, rfl⟩, q _ m1 m2⟩
end
end L2

/-! ### str(data), and calls of defs that show data, where nothing is being shown -/
namespace L2
open PySem PySem.Spec PyProof.Rows
def rStrD (K : PySem.W.Frag) : List V → Hp → VK → Prop := fun xs H Q => ∃ a d, xs = [.ref a] ∧ Dp K H (.ref a) d ∧ SeqAt.shaped d = true ∧ d.showable = true ∧ wt d ≤ sizeLine ∧ Q (.str d.shown) H
theorem cr_strD {X : Cx} {K : PySem.W.Frag} (hK : X.K = K) (hg : X.A.guards = some []) (hu : X.A.units + 67 < cLine) : CallR X (.type "str") (rStrD K) := by
  subst hK
  intro pins s σ H vs us Q I r h
  obtain ⟨a, d, rfl, hd, hs, hw, hz, q⟩ := h
  cases r with
  | cons rv rn =>
    rename_i v us'
    cases rn
    have hs' : (d.canLay0 && decide (d.depth ≤ 64)) = true := hs
    rw [Bool.and_eq_true] at hs'
    have nd := PyData.hasDict_of_canLay d hs'.1
    have dep : d.depth ≤ 64 := of_decide_eq_true hs'.2
    have sz := Nat.le_trans (shown_wt d hw nd) hz
    obtain ⟨as, rd⟩ := Dp.reads I d (.ref a) v hd rv
    cases rv
    exact str_of_reads rd hw (PyData.noDict_hsm nd) hg (by omega) (fun _ _ e => e) (fun h' u tk hk => ⟨.str _, H, I.kept (t' := tk) hk, ⟨u, rfl⟩, q⟩) sz
section
variable {X : Cx} {k : Nat} {f : Addr} {fd : FuncData} {ps : List Str} {sp : Sp} {ds : List Value} {dvs : List V}
theorem run_fnG {pins : List (Addr × Obj)} {σ : St} {H : Hp} {s : Shared} {Q : VK} {us : List Value} {vs : List V} (hgu : X.A.guards = some []) (F : FnG X.prog X.w X.K X.mg X.base k f fd ps sp) (hr : Room k X.A) (hb : Binds X.K fd ps ds) (hd : Vals dvs ds)
    (I : Inv X pins σ H s) (r : Vals vs us) (h : sp (vs ++ dvs) H Q E0) : wpAny (model X.prog X.w) X.A (call (.ref f) us) (EP X pins σ Q) X.xe s := by
  have r2 : Vals (vs ++ dvs) (us ++ ds) := r.append hd
  have hl : (us ++ ds).length = ps.length := by rw [← r2.length]; exact F.len _ _ _ _ h
  refine wpAny_call (codeAny_mono (F.run X.A X.stack s H ⟨us, []⟩ (us ++ ds) (vs ++ dvs) Q E0 hgu hr I.env0 (hb s us I.kIn hl) r2 h) fun r s' hq => ?_)
  cases r with
  | error e => exact pass0 pins σ H s e s' I hq
  | ok fl =>
    cases fl with
    | ret u => exact I.after hq
    | next => exact False.elim hq
    | brk => exact False.elim hq
    | cont => exact False.elim hq
theorem pe_callG {x : Str} {e : Expr} {es : List Expr} {p pos : Pos} {t : TA} (hgu : X.A.guards = some []) (F : FnG X.prog X.w X.K X.mg X.base k f fd ps sp) (hr : Room k X.A) (hg : Gl X x) (hm : X.mg x = some (.ref f)) (hk : PySem.W.keepIn X.K (.ref f) = true) (hb : Binds X.K fd ps ds) (hd : Vals dvs ds)
    (ha : PA X (e :: es) t) (hdb : (x == ("__debug__" : Str)) = false := by decide) (he : starEach (e :: es) X.env = (false, eval e X.env) :: starEach es X.env := by rfl) (hpl : (backTo pos (starEach es X.env)).any (·.1) = false := by rfl) :
    PE X (.Call (.Name x p) (e :: es) [] pos) (tCall sp dvs E0 t) := by
  refine ⟨fun pins s σ H Q I h => ?_⟩
  refine wpAny_Call_Name_kw (ld_glob I hg hm ?_ hdb)
  refine PySem.W.callWith_K (h₀ := X.base) I.ok.mod.kin hk (thn (ha.run pos pins s σ H _ I h) fun us s1 ⟨vs, H1, I1, r, q⟩ => ⟨I1.kIn, ?_⟩) he hpl
  exact run_fnG hgu F hr hb hd I1 r q
end
end L2

/-! ### fe(e, ..), fe an expression that gives one of several defs -/
namespace L2
open PySem PySem.Spec PyProof.Rows
structure HeldX (P : Program) (w : World) (K : PySem.W.Frag) (mg : Str → Option Value) (base : Heap) (CX : CXT) (k : Nat) (f : Addr) (sp : Sp) : Prop where
  ex : ∃ (fd : FuncData) (ps : List Str), FnOk P w K mg base CX k f fd ps sp ∧ PySem.W.keepIn K (.ref f) = true ∧ Binds K fd ps []
def tCallE (S : Addr → Option Sp) (E : St → XK) (tf : TE) (t : TA) : TE := fun σ H Q => tf σ H fun y H1 => ∃ f sp, y = V.ref f ∧ S f = some sp ∧ t σ H1 fun vs H2 => sp vs H2 Q (E σ)
section
variable {X : Cx} {CX : CXT} {k : Nat} {E : St → XK} {p pos : Pos} {fe e : Expr} {es : List Expr} {tf : TE} {t : TA}
theorem pe_callE {S : Addr → Option Sp} (hf : PE X fe tf) (A : ∀ f sp, S f = some sp → HeldX X.prog X.w X.K X.mg X.base CX k f sp) (hr : Room k X.A) (hx : ∀ σ, PassesAt CX X σ (E σ)) (ha : PA X (e :: es) t)
    (ht : eval (.Call fe (e :: es) [] pos) X.env = (do callWith pos (← eval fe X.env) [] (backTo pos (starEach (e :: es) X.env)) (backToKw pos (keywordEach [] X.env))) := by rfl)
    (he : starEach (e :: es) X.env = (false, eval e X.env) :: starEach es X.env := by rfl) (hpl : (backTo pos (starEach es X.env)).any (·.1) = false := by rfl) : PE X (.Call fe (e :: es) [] pos) (tCallE S E tf t) := by
  refine ⟨fun pins s σ H Q I h => ?_⟩
  refine Call_ (thn (hf.run pins s σ H _ I h) fun u s1 ⟨y, H1, I1, ry, f, sp, ey, hS, q⟩ => ?_) ht
  subst ey
  obtain rfl : u = Value.ref f := ry
  obtain ⟨fd, ps, F, hk, hb⟩ := (A f sp hS).ex
  refine PySem.W.callWith_K (h₀ := X.base) I.ok.mod.kin hk (thn (ha.run pos pins s1 σ H1 _ I1 q) fun us s2 ⟨vs, H2, I2, r, q2⟩ => ⟨I2.kIn, ?_⟩) he hpl
  exact run_fnS F hr hb (hx σ) I2 r q2
end
end L2

/-! ### factorial, comb -/
namespace L2
open PySem PySem.Spec PyProof.Rows
def rFac : List V → Hp → VK → Prop := fun xs H Q => ∃ a : Int, xs = [.int a] ∧ 0 ≤ a ∧ a ≤ 20000 ∧ Q (.int ((Builtin.Math.factorialNat a.toNat : Nat) : Int)) H
theorem cr_fac {X : Cx} : CallR X (.builtin "math.factorial") rFac := by
  intro pins s σ H vs us Q I r h
  obtain ⟨a, rfl, h0, h1, q⟩ := h
  obtain ⟨w1, rfl, t, rfl⟩ := vals1 r
  exact PySem.W.mc_factorial h0 h1 fun _ => ⟨.int _, H, I.tok _, ⟨_, rfl⟩, q⟩
def rComb : List V → Hp → VK → Prop := fun xs H Q => ∃ a b : Int, xs = [.int a, .int b] ∧ 0 ≤ a ∧ 0 ≤ b ∧ a ≤ 18000 ∧ Q (.int (PySem.W.mcComb a b)) H
theorem cr_comb {X : Cx} : CallR X (.builtin "math.comb") rComb := by
  intro pins s σ H vs us Q I r h
  obtain ⟨a, b, rfl, h0, h1, h2, q⟩ := h
  obtain ⟨t, u, rfl⟩ := Vals.int2 r
  have big : (18000 : Int) < 2 ^ 64 := by decide
  exact PySem.W.mc_comb h0 h1 (by omega) (.inr h2) fun _ => ⟨.int _, H, I.tok _, ⟨_, rfl⟩, q⟩
end L2

/-! ### walks of comprehensions with two fors -/
namespace L2
open PySem PySem.Spec PyProof.Rows
theorem walkD_list {K : PySem.W.Frag} {a : Addr} {xs : List V} {H0 : Hp} {Qd : Hp → Prop} {body : V → Hp → (Hp → Prop) → Prop} (Pv : Nat → Hp → Prop) (h0 : Pv 0 H0) (hl : ∀ i H, Pv i H → SqL K H a xs)
    (step : ∀ i x H, xs[i]? = some x → Pv i H → body x H (Pv (i + 1))) (last : ∀ H, Pv xs.length H → Qd H) :
    ∃ W : Nat → Nat → Hp → Prop, (∃ m, W 0 m H0) ∧ ∀ i m H, W i m H → ((Itl K a).stop i H ∧ Qd H) ∨ ((Itl K a).go i H ∧ ∃ Nx : Hp → Prop, (∀ H', Nx H' → ∃ m', m' < m ∧ W (i + 1) m' H') ∧ ∀ x H', (Itl K a).yld i H x H' → body x H' Nx) := by
  refine ⟨fun i m H => i + m = xs.length ∧ Pv i H, ⟨xs.length, Nat.zero_add _, h0⟩, fun i m H ⟨em, p⟩ => ?_⟩
  have sq := hl i H p
  cases m with
  | zero =>
    have e : i = xs.length := em
    exact .inl ⟨⟨xs, sq, by omega⟩, last H (e ▸ p)⟩
  | succ m =>
    have lt : i < xs.length := by omega
    refine .inr ⟨⟨xs, xs[i], sq, List.getElem?_eq_getElem lt⟩, Pv (i + 1), fun H' p' => ⟨m, Nat.lt_succ_self m, by omega, p'⟩, fun x H' ⟨eH, y⟩ => ?_⟩
    rw [eH]
    exact step i x H (y xs sq) p
theorem walkD_range {lo : Int} {n : Nat} {H0 : Hp} {Qd : Hp → Prop} {body : V → Hp → (Hp → Prop) → Prop} (Pv : Nat → Hp → Prop) (h0 : Pv 0 H0)
    (step : ∀ i H, i < n → Pv i H → body (.int (lo + (i : Nat))) H (Pv (i + 1))) (last : ∀ H, Pv n H → Qd H) :
    ∃ W : Nat → Nat → Hp → Prop, (∃ m, W 0 m H0) ∧ ∀ i m H, W i m H → ((Itr lo n).stop i H ∧ Qd H) ∨ ((Itr lo n).go i H ∧ ∃ Nx : Hp → Prop, (∀ H', Nx H' → ∃ m', m' < m ∧ W (i + 1) m' H') ∧ ∀ x H', (Itr lo n).yld i H x H' → body x H' Nx) := by
  refine ⟨fun i m H => i + m = n ∧ Pv i H, ⟨n, Nat.zero_add _, h0⟩, fun i m H ⟨em, p⟩ => ?_⟩
  cases m with
  | zero =>
    have e : i = n := em
    exact .inl ⟨Nat.le_of_eq e.symm, last H (e ▸ p)⟩
  | succ m =>
    have lt : i < n := by omega
    refine .inr ⟨lt, Pv (i + 1), fun H' p' => ⟨m, Nat.lt_succ_self m, by omega, p'⟩, fun x H' ⟨eH, y⟩ => ?_⟩
    rw [eH, y]
    exact step i H lt p
end L2

/-! ### a plain list comprehension over a list within an except suite; defs whose errors have no context -/
namespace HotX
open PySem PySem.Spec PyProof.Rows
variable {prog : Program} {w : World} {A : Around} {E : Value → Shared → Prop} {s : Shared}
theorem list_over_hot {it l x1 : Addr} {i : Nat} {items : Array Value} {Q : Option Value → Shared → Prop} (hot : HotAt A x1 s.heap) (hit : s.heap.IsListIter it l i) (hl : s.heap.IsList l items) (hx : items[i]? = none)
    (hQ : ∀ h', (∀ b o, b ≠ it → s.heap.get? b = some o → h'.get? b = some o) → Q none { s with heap := h' }) : wpAny (model prog w) A (pyNext (.ref it)) Q E s := by
  obtain ⟨oi, gi, ci, di⟩ := id hit
  obtain ⟨ol, gl, _, nl, dl⟩ := hl
  obtain ⟨hh, o1, vs1, g1, d1, c1⟩ := hot
  have ne1 : x1 ≠ it := fun z => by
    rw [z, gi] at g1
    obtain rfl := Option.some.inj g1
    rw [di] at d1
    obtain rfl := Data.fields.inj d1
    exact nomatch (show (some (Value.none) : Option Value) = _ from c1.symm)
  unfold pyNext
  apply wpAny_bind
  apply wpAny_attempt
  apply wpAny_callSpecial?_slot (name := Str.ofString "__next__") hit.typeIs slot_listiter_next
  apply wpAny_call_entry slot_listiter_next hit.typeIs entry_listiter_next ?_ (args_listiter_next _)
  show wpAny _ _ (field (Value.ref it) 0 >>= _) _ _ s
  apply wpAny_bind
  apply wpAny_field gi di (x := Value.ref l) rfl
  show wpAny _ _ (if (Value.ref l == Value.none) = true then _ else _) _ _ s
  rw [if_neg (by exact Bool.false_ne_true)]
  show wpAny _ _ (field (Value.ref it) 1 >>= _) _ _ s
  apply wpAny_bind
  apply wpAny_field gi di (x := Value.int i 0) rfl
  show wpAny _ _ (seqItems? (Value.ref l) >>= _) _ _ s
  apply wpAny_bind
  apply wpAny_seqItems gl dl
  simp only [Int.toNat_natCast, hx]
  apply wpAny_bind
  apply wpAny_rule
  apply wpAny_bind
  apply wpAny_setField gi di (by simp)
  show wpAny _ _ (newExc (Value.type "StopIteration") [] >>= _) _ _ _
  apply wpAny_bind
  simp only [newExc, newTuple]
  apply wpAny_bind
  apply wpAny_newObj_type (hd := by size_fits)
  apply wpAny_bind
  apply wpAny_of_eq (a := Value.none) (by first | rfl | exact rfl)
  apply wpAny_newObj_type (hd := by size_fits)
  have k1 : (s.heap.update it (Obj.mapFields fun x => x.setIfInBounds 0 Value.none)).get? x1 = some o1 := (Heap.get?_update_other _ _ ne1.symm).trans g1
  have k2 : ∀ o o' : Obj, (((s.heap.update it (Obj.mapFields fun x => x.setIfInBounds 0 Value.none)).push o).push o').get? x1 = some o1 := fun o o' => Heap.get?_push_of_some _ (Heap.get?_push_of_some _ k1)
  have k3 := fun o o' => Heap.lt_size (k2 o o')
  refine raiseNew_hot (A := A.in1) (x1 := x1) ⟨hh, o1, vs1, k2 _ _, d1, c1⟩ (Nat.ne_of_lt (Heap.lt_size (Heap.get?_push_of_some _ k1))) (Heap.get?_push_size _ rfl) rfl (by first | (simp; done) | (simp; omega)) ?_
  apply wpAny_bind
  refine wpAny_isInstance (b := true) (T := "StopIteration") ⟨_, Heap.get?_update_self _ (Heap.get?_push_size _ rfl) rfl, rfl⟩ isSubtype_stop (wpAny_pure (hQ _ fun b o nb e => ?_))
  have e1 := (Heap.get?_update_other s.heap (Obj.mapFields fun x => x.setIfInBounds 0 Value.none) (Ne.symm nb)).trans e
  have e2 := Heap.get?_push_of_some { cls := Value.type "tuple", data := Data.seq #[] } e1
  rw [Heap.get?_update_other _ _ (Nat.ne_of_gt (Heap.lt_size e2))]
  exact Heap.get?_push_of_some _ e2
end HotX
namespace L2
open PySem PySem.Spec PyProof.Rows HotX
/-- the except suite's own exception stands, its context is None -/
def HotS (X : Cx) : Prop := ∃ p : Addr × Obj, p ∈ X.pn ∧ X.A.handled = some (.ref p.1) ∧ ∃ vs : Array Value, p.2.data = .fields vs ∧ vs[2]? = some .none
/-- [e for y in xs], e without effect: f of each item -/
def tLcMap (K : PySem.W.Frag) (tl : TE) (g : TG) (te : TE) (vs : List Nat) : TE := fun σ H Q => tl σ H fun x H1 => ∃ (a : Addr) (xs : List V) (f : V → V), x = .ref a ∧ SqL K H1 a xs ∧ xs.length < sizeLine ∧
  (∀ y ∈ xs, ∀ H2 : Hp, g y (wipe σ vs) H2 fun σ2 H3 => wipe σ2 vs = wipe σ vs ∧ te σ2 H3 fun z H4 => z = f y ∧ H4 = H2) ∧ ∀ D, H1 D = none → Q (.ref D) (upd H1 D (.lst (xs.map f)))
theorem pe_lcMap {X : Cx} {elt tg iter : Expr} {scope : Scope} {own : List (Str × Nat)} {pos : Pos} {tl : TE} {g : TG} {te : TE} (hotX : HotS X) (nd : X.N.Nodup) (walked : PE X iter tl) (okb : BlkOk X.N X.env.scope scope own)
    (pgAll : ∀ (s : Shared) (H : Hp) (C : Addr) (cl : List (Str × Addr)) (fp : List Addr), PG (X.blk s H scope (compEnvC scope cl C X.env) fp) tg g)
    (peAll : ∀ (s : Shared) (H : Hp) (C : Addr) (cl : List (Str × Addr)) (fp : List Addr), PE (X.blk s H scope (compEnvC scope cl C X.env) fp) elt te)
    (fold : ∀ x, foldedSetIterable iter X.env x = pure x := by intro _; rfl) : PE X (.ListComp elt [⟨tg, iter, [], 0⟩] scope pos) (tLcMap X.K tl g te (own.map (·.2))) := by
  refine ⟨fun pins s σ H Q I h => ?_⟩
  have frees : ∀ y ∈ scope.names, y.2 = .free → ∃ c, X.env.cells.lookup y.1 = some c := fun y hy e => (okb.free y hy e).elim (fun k => I.ok.has _ (.inl k)) (fun k => I.ok.has _ (.inr k))
  rw [eval_ListComp]
  refine wpAny_comprehension_free (use := none) rfl fold (closure_ok frees) okb.kind (fun y hy e => by rw [okb.uniq y hy, e]) (thn (walked.run pins s σ H _ I h) fun itv s1 gone => ?_)
  obtain ⟨x, H1, I1, rx, a, xs, f, rfl, sq, big, each, q⟩ := gone
  cases rx
  obtain ⟨its, vals, plain, _⟩ := I1.list sq
  have lenV : xs.length = its.length := vals.length
  refine wpAny_pyIter_list plain.isList ?_
  -- the iterator
  have I2 : Inv X pins σ H1 { s1 with heap := s1.heap.push { cls := .type "list_iterator", data := .fields #[.ref a, .int 0 0] } } := I1.kept (t' := s1.toks) fun b o e => Heap.get?_push_of_some _ e
  have fpI := I1.fpOk (H' := H1) (Nat.le_refl s1.heap.objs.size) (I1.hok.fresh (Nat.le_refl _))
  have itr : (s1.heap.push { cls := .type "list_iterator", data := .fields #[.ref a, .int 0 0] }).IsListIter s1.heap.objs.size a 0 := ⟨_, Heap.get?_push_size _ rfl, rfl, rfl⟩
  have plain2 : PlainL (s1.heap.push { cls := .type "list_iterator", data := .fields #[.ref a, .int 0 0] }) a its.toArray := by
    obtain ⟨o, n, e, r⟩ := plain
    exact ⟨o, n, Heap.get?_push_of_some _ e, r⟩
  have lt2 : s1.heap.objs.size < (s1.heap.push { cls := .type "list_iterator", data := .fields #[.ref a, .int 0 0] }).objs.size := by
    rw [Heap.size_push]
    exact Nat.lt_succ_self _
  generalize eit : s1.heap.objs.size = it at itr lt2 fpI ⊢
  generalize es2 : ({ s1 with heap := s1.heap.push { cls := .type "list_iterator", data := .fields #[.ref a, .int 0 0] } } : Shared) = s2 at I2 ⊢
  have itr : s2.heap.IsListIter it a 0 := by rw [← es2]; exact itr
  have plain2 : PlainL s2.heap a its.toArray := by rw [← es2]; exact plain2
  have lt2 : it < s2.heap.objs.size := by rw [← es2]; exact lt2
  clear es2 eit
  -- the new list
  apply wpAny_newObj_type (T := "list") (hd := by show 0 ≤ sizeLine; exact Nat.zero_le _)
  apply newEnv_comp
  have nD : H1 s2.heap.objs.size = none := I2.hok.fresh (Nat.le_refl _)
  have ne0 : it ≠ s2.heap.objs.size := Nat.ne_of_lt lt2
  have I3 : Inv X pins σ (upd H1 s2.heap.objs.size (.lst [])) { s2 with heap := s2.heap.push { cls := .type "list", data := .seq ([] : List Value).toArray } } :=
    I2.laid (t' := s2.toks) (fun b o e => Heap.get?_push_of_some _ e) (Nat.le_refl _) ⟨Nat.zero_le _, [], 0, .nil, Heap.get?_push_size _ rfl⟩
  have itr3 : (s2.heap.push { cls := .type "list", data := .seq ([] : List Value).toArray }).IsListIter it a 0 := by
    obtain ⟨o, e, c, d⟩ := itr
    exact ⟨o, Heap.get?_push_of_some _ e, c, d⟩
  have lt3 : it < (s2.heap.push { cls := .type "list", data := .seq ([] : List Value).toArray }).objs.size := by
    rw [Heap.size_push]
    exact Nat.lt_succ_of_lt lt2
  generalize s2.heap.objs.size = D at nD ne0 I3 ⊢
  have fp3 : FpOk X pins (upd H1 D (.lst [])) it := ⟨by rw [upd_ne ne0]; exact fpI.1, fpI.2⟩
  generalize es3 : ({ s2 with heap := s2.heap.push { cls := .type "list", data := .seq ([] : List Value).toArray } } : Shared) = s3 at I3 ⊢
  have itr3 : s3.heap.IsListIter it a 0 := by rw [← es3]; exact itr3
  have lt3 : it < s3.heap.objs.size := by rw [← es3]; exact lt3
  have ed : s3.drawn = s2.drawn ∧ s3.gens = s2.gens ∧ s3.toks = s2.toks ∧ s3.os = s2.os := by rw [← es3]; exact ⟨rfl, rfl, rfl, rfl⟩
  have frs3 : ∀ b ∈ [it], FpOk X pins (upd H1 D (.lst [])) b ∧ b < s3.heap.objs.size := fun b hb => by rw [List.mem_singleton.mp hb]; exact ⟨fp3, lt3⟩
  have I4 := block_start I3 okb nd frs3
  obtain ⟨hp, hpn, hah, hvs, hfd, hnn⟩ := hotX
  have pin3 := I3.pin hp (List.mem_append_left _ hpn)
  have nostk : hp.1 ∉ frs X.stack := fun hm => (List.mem_cons.mp (I3.stkSub hp.1 hm)).elim pin3.2.2.1 pin3.2.2.2.1
  have noit : hp.1 ≠ it := fp3.2.2.2.2.2 hp (List.mem_append_left _ hpn)
  clear es3
  have pg0 := pgAll s3 (upd H1 D (.lst [])) s3.heap.objs.size (cellsFrom (s3.heap.objs.size + 1) scope.names (cloFrom X.env.cells scope.names [])) [it]
  have pe0 := peAll s3 (upd H1 D (.lst [])) s3.heap.objs.size (cellsFrom (s3.heap.objs.size + 1) scope.names (cloFrom X.env.cells scope.names [])) [it]
  let ce := compEnvC scope (cellsFrom (s3.heap.objs.size + 1) scope.names (cloFrom X.env.cells scope.names [])) s3.heap.objs.size X.env
  have locs : ce.locals = s3.heap.objs.size := rfl
  have noC : upd H1 D (.lst []) s3.heap.objs.size = none := I3.hok.fresh (Nat.le_refl _)
  have fpC := I3.fpOk (H' := upd H1 D (.lst [])) (Nat.le_refl s3.heap.objs.size) noC
  have neDC : s3.heap.objs.size ≠ D := fun z => by
    rw [z, upd_same] at noC
    exact nomatch noC
  have noC1 : H1 s3.heap.objs.size = none := by
    rw [upd_ne neDC] at noC
    exact noC
  show codeAny _ _ (.compStart (.ListComp elt [⟨tg, iter, [], 0⟩] scope pos) 0 (.ref it) (.ref D) ce) (compPost (model X.prog X.w) X.A X.xe none (EP X pins σ Q) (.ref D) s3.heap.objs.size) _
  have itr4 : (pushCells (s3.heap.push { cls := .type "dict", data := .dict #[] }) scope.names).IsListIter it a 0 := by
    obtain ⟨o, e, c, d⟩ := itr3
    exact ⟨o, pushCells_keeps _ _ _ _ (Heap.get?_push_of_some _ e), c, d⟩
  generalize es4 : ({ s3 with heap := pushCells (s3.heap.push { cls := .type "dict", data := .dict #[] }) scope.names } : Shared) = s4 at I4 ⊢
  have itr4 : s4.heap.IsListIter it a 0 := by rw [← es4]; exact itr4
  clear es4
  have twice : ∀ (o o' : HO), upd (upd H1 D o) D o' = upd H1 D o' := fun o o' => by
    funext b
    by_cases e : b = D
    · rw [e, upd_same, upd_same]
    · rw [upd_ne e, upd_ne e, upd_ne e]
  have oldKept : ∀ o : HO, Same H1 (upd H1 D o) := fun o b u e => by rw [upd_ne (ne_of_none e nD)]; exact e
  have itFree : ∀ o : HO, upd H1 D o it = none := fun o => by rw [upd_ne ne0]; exact fpI.1
  have hotAt : ∀ {σ5 : St} {H5 : Hp} {s5 : Shared}, Inv (X.blk s3 (upd H1 D (.lst [])) scope ce [it]) [] σ5 H5 s5 → HotAt X.A hp.1 s5.heap := fun I5 =>
    ⟨hah, hp.2, hvs, I5.base.keep hp.1 hp.2 pin3.1 pin3.2.1 nostk (fun hm => noit (List.mem_singleton.mp hm)), hfd, hnn⟩
  have fixed : ∀ {σ5 : St} {H5 : Hp} {s5 : Shared}, Inv (X.blk s3 (upd H1 D (.lst [])) scope ce [it]) [] σ5 H5 s5 → H5 it = none → FpOk (X.blk s3 (upd H1 D (.lst [])) scope ce [it]) [] H5 it := fun I5 hn =>
    ⟨hn, (I5.ok.exf it List.mem_cons_self).1, I5.ok.exfs it List.mem_cons_self, .inl List.mem_cons_self, fun x c e => (I5.ok.exf it List.mem_cons_self).2 x c e, fun p hp => nomatch hp⟩
  have main : codeAny (model X.prog X.w) X.A (.compLoop (.ListComp elt [⟨tg, iter, [], 0⟩] scope pos) 0 (.ref it) (.ref D) ce) (compPost (model X.prog X.w) X.A X.xe none (EP X pins σ Q) (.ref D) s3.heap.objs.size) s4 := by
    refine compLoop_any (fun n s' => ∃ i, n = xs.length - i ∧ i ≤ xs.length ∧ Inv (X.blk s3 (upd H1 D (.lst [])) scope ce [it]) [] (wipe σ (own.map (·.2))) (upd H1 D (.lst ((xs.take i).map f))) s' ∧ s'.heap.IsListIter it a i) ?_ xs.length ⟨0, rfl, Nat.zero_le _, I4, itr4⟩
    rintro n s5 ⟨i, rfl, hi, I5, it5⟩
    obtain ⟨its5, vals5, plain5, _⟩ := I5.list (show SqL X.K _ a xs from (oldKept _).seq sq)
    obtain ⟨f0, f1, f2, f3, f4, f5⟩ := fixed I5 (itFree _)
    have len5 : xs.length = its5.length := vals5.length
    by_cases c : i < xs.length
    · obtain ⟨u, hu, ru⟩ := vals5.get (List.getElem?_eq_getElem c)
      refine wpAny_pyNext_list_item it5 plain5.isList (x := u) (by simpa using hu) fun h' next sb => ?_
      have I6 := I5.turned (h' := h') (t' := s5.toks) (fun b o hb e => (sb.2 b hb).trans e) f0 f1 f3 f4 f5
      obtain ⟨oi, ei, ci, di⟩ := next
      refine go_of (s := { s5 with heap := h' }) ei ci di (by decide) ?_
      have I6p := I6.pinned (fp := [it]) (fun b hb => by rw [List.mem_singleton.mp hb]; exact fixed I6 (itFree _)) (fun b hb => by rw [List.mem_singleton.mp hb]; exact ⟨oi, ei, fun v z => by rw [di] at z; cases z⟩)
      refine thnF (pg0.run _ _ _ _ xs[i] u _ I6p ru (each _ (List.getElem_mem c) _)) fun _ s7 ⟨σ7, H7, I7, hw, q7⟩ => ?_
      refine wpAny_tests_nil ?_
      rw [if_pos rfl]
      refine thnF (pe0.run _ s7 σ7 H7 _ I7 q7) fun z s8 ⟨yv, H8, I8, r8, ez, eH⟩ => ?_
      subst ez eH
      refine app_ok (X := X.blk s3 (upd H1 D (.lst [])) scope ce [it]) I8 upd_same (by rw [List.length_map, List.length_take]; omega) r8 fun s9 I9 => ?_
      have pinned := (I9.pin (it, oi) (List.mem_append_right _ (List.mem_append_right _ (mem_pinsAt List.mem_cons_self ei)))).1
      refine ⟨xs.length - (i + 1), by omega, i + 1, rfl, c, ?_, ⟨oi, pinned, ci, di⟩⟩
      have I10 := (I9.unpinned (pins := [])).weak (σ' := wipe σ (own.map (·.2))) (by rw [← hw, wipe_length]) fun j v e => by
        rw [← hw] at e
        exact (wipe_some e).1
      rw [twice, show (xs.take i).map f ++ [f xs[i]] = (xs.take (i + 1)).map f by rw [List.take_succ, List.getElem?_eq_getElem c, List.map_append]; rfl] at I10
      exact I10
    · obtain rfl : i = xs.length := by omega
      refine list_over_hot (hotAt I5) it5 plain5.isList (by simp; omega) fun h' kept => ?_
      have I6 := I5.turned (h' := h') (t' := s5.toks) kept f0 f1 f3 f4 f5
      have I7 : Inv X pins σ _ _ := I3.call' (ch := [it]) I6.os I6.base I6.hok I6.bare fun b hb => by
        have z := (frs3 b hb).1
        exact ⟨z.2.2.2.1, z.2.1, z.2.2.2.2.1, z.2.2.2.2.2⟩
      obtain ⟨m, hns, _⟩ := I6.loc
      obtain ⟨_, c1, c2, c3, c4, c5⟩ := fpC
      refine ⟨m, hns, fun h2 sb => ⟨.ref D, _, I7.turned (t' := s5.toks) (fun b o hb e => (sb.2 b hb).trans e) ?_ c1 c3 c4 c5, rfl, ?_⟩⟩
      · rw [upd_ne neDC]
        exact noC1
      · rw [List.take_length]
        exact q D nD
  exact codeAny_compStart_list main (wpAny_pyIter_listiter itr4 main)
end L2
namespace L2
open PySem PySem.Spec PyProof.Rows
/-- a def whose errors have no context -/
theorem Fun.okXN {P : Program} {w : World} {K : PySem.W.Frag} {mg : Str → Option Value} {base : Heap} {x qual : Str} {st : Stmt} {f : Addr} {fd : FuncData} {N ps : List Str} {k : Nat} {sp : Sp} (F : Fun K x qual st f fd) (S : FnScope N ps (defScope st))
    (len : ∀ vs H Q E, sp vs H Q E → vs.length = ps.length)
    (body : ∀ (cdv : Value) (A : Around) (outer : List Env) (s : Shared) (H : Hp) (vs : List V) (Q : VK) (E : XK), Room k (A.deeper (envOfC qual (defScope st) s.heap.objs.size f cdv)) → sp vs H Q E →
      ∃ t, PSs (cxOf (L2N.CX P w) P w K mg base N qual (defScope st) f cdv A outer s H E) (defBody st) t ∧ t { nx := fun _ H' => Q .non H', rt := Q } (start N vs) H) : FnOk P w K mg base (L2N.CX P w) (k + 1) f fd ps sp := by
  obtain ⟨_, _, _, _, _, _, _, _, _, rfl, known, coded⟩ := F.ex
  exact fn_of known coded S len fun A outer s H vs Q E room hsp => body _ A outer s H vs Q E room hsp
/-- what an except suite knows -/
theorem hotS_of {X : Cx} {a : Addr} {oe : Obj} {pn : List (Addr × Obj)} {cls : Value} {d : Option Addr} (hz : L2N.Zn cls d oe) (hf : ∃ vs, oe.data = .fields vs) : HotS (X.suite a ((a, oe) :: pn)) := by
  obtain ⟨vs, e⟩ := hf
  exact ⟨(a, oe), List.mem_cons_self, rfl, vs, e, hz.2.2 vs e⟩
end L2
namespace L2
open PySem PySem.Spec PyProof.Rows
theorem passLN {X : Cx} : Passes (L2N.CX X.prog X.w) X E0 := fun _ _ _ _ _ _ _ h => by
  obtain ⟨_, _, _, _, _, _, _, _, _, _, _, _, no⟩ := h
  exact no.elim
theorem takes0N {X : Cx} : L2N.Takes X (fun _ _ _ _ => False) := fun _ _ h => by
  obtain ⟨_, _, _, _, _, _, _, _, _, _, _, _, _, _, _, _, no⟩ := h
  exact no.elim
end L2
namespace L2
open PySem PySem.Spec PyProof.Rows
theorem pe_lcMapK {X : Cx} {K : PySem.W.Frag} {elt tg iter : Expr} {scope : Scope} {own : List (Str × Nat)} {pos : Pos} {tl : TE} {g : TG} {te : TE} (hK : X.K = K) (nd : X.N.Nodup) (walked : PE X iter tl) (okb : BlkOk X.N X.env.scope scope own)
    (pgAll : ∀ (s : Shared) (H : Hp) (C : Addr) (cl : List (Str × Addr)) (fp : List Addr), PG (X.blk s H scope (compEnvC scope cl C X.env) fp) tg g)
    (peAll : ∀ (s : Shared) (H : Hp) (C : Addr) (cl : List (Str × Addr)) (fp : List Addr), PE (X.blk s H scope (compEnvC scope cl C X.env) fp) elt te) (hotX : HotS X)
    (fold : ∀ x, foldedSetIterable iter X.env x = pure x := by intro _; rfl) : PE X (.ListComp elt [⟨tg, iter, [], 0⟩] scope pos) (tLcMap K tl g te (own.map (·.2))) := by
  subst hK
  exact pe_lcMap hotX nd walked okb pgAll peAll fold
end L2

/-! ### the difference of two sets of small ints -/
namespace L2
open PySem PySem.Spec PyProof.Rows
namespace SD
/-! tables -/
def it (m : Nat) : Nat → Nat → Nat
  | i, 0 => i
  | i, k + 1 => it m ((i * 5 + 1) % (m + 1)) k
def roundB (m : Nat) : Bool := (List.range (m + 1)).all fun i => (List.range (m + 1)).all fun j => (List.range (m + 1)).any fun k => it m i k == j
theorem round_ok {m : Nat} (hm : m = 7 ∨ m = 15 ∨ m = 31 ∨ m = 63) : roundB m = true := by
  rcases hm with rfl | rfl | rfl | rfl <;> decide +kernel
theorem it_all {m i j : Nat} (hm : m = 7 ∨ m = 15 ∨ m = 31 ∨ m = 63) (hi : i ≤ m) (hj : j ≤ m) : ∃ k, k ≤ m ∧ it m i k = j := by
  have h1 := List.all_eq_true.mp (round_ok hm) i (List.mem_range.mpr (by omega))
  have h2 := List.all_eq_true.mp h1 j (List.mem_range.mpr (by omega))
  obtain ⟨k, hk, e⟩ := List.any_eq_true.mp h2
  have := List.mem_range.mp hk
  exact ⟨k, by omega, beq_iff_eq.mp e⟩
def occ (owner : Array (Option Nat)) (j : Nat) : Bool := (owner.getD j (some 0)).isNone
theorem free_cons (m : Nat) (owner : Array (Option Nat)) (f i b : Nat) : SetTable.layClean.free m owner (f + 1) i b = match (List.range (SetTable.runEnd m i + 1 - i)).find? (fun k => occ owner (i + k)) with
    | some k => some (i + k)
    | none => SetTable.layClean.free m owner f (SetTable.leap m i b).1 (SetTable.leap m i b).2 := by
  rw [SetTable.layClean.free]
  rfl
theorem free_is (m : Nat) (owner : Array (Option Nat)) : ∀ (f i b j : Nat), SetTable.layClean.free m owner f i b = some j → occ owner j = true
  | 0, i, b, j, h => by rw [SetTable.layClean.free] at h; cases h
  | f + 1, i, b, j, h => by
    rw [free_cons] at h
    cases e : (List.range (SetTable.runEnd m i + 1 - i)).find? (fun k => occ owner (i + k)) with
    | some k =>
      rw [e] at h
      have := List.find?_some e
      obtain rfl := Option.some.inj h
      exact this
    | none =>
      rw [e] at h
      exact free_is m owner f _ _ j h
theorem free_no (m : Nat) (owner : Array (Option Nat)) : ∀ (f i b : Nat), b < 32 → SetTable.layClean.free m owner f i b = none → ∀ k, k < f → occ owner (it m i k) = false
  | 0, i, b, hb, h, k, hk => absurd hk (Nat.not_lt_zero k)
  | f + 1, i, b, hb, h, k, hk => by
    rw [free_cons] at h
    cases e : (List.range (SetTable.runEnd m i + 1 - i)).find? (fun k => occ owner (i + k)) with
    | some k => rw [e] at h; cases h
    | none =>
      rw [e] at h
      have hz : b / 32 = 0 := Nat.div_eq_of_lt hb
      have el : SetTable.leap m i b = ((i * 5 + 1) % (m + 1), 0) := by
        unfold SetTable.leap
        rw [hz]
      cases k with
      | zero =>
        have := List.find?_eq_none.mp e 0 (List.mem_range.mpr (by unfold SetTable.runEnd; split <;> omega))
        rw [Nat.add_zero] at this
        show occ owner i = false
        exact Bool.not_eq_true _ ▸ this
      | succ k =>
        have h' : SetTable.layClean.free m owner f ((i * 5 + 1) % (m + 1)) 0 = none := by
          rw [el] at h
          exact h
        exact free_no m owner f _ 0 (by decide) h' k (by omega)
theorem set_perm {k : Nat} : ∀ (l : List (Option Nat)) (j : Nat), l[j]? = some none → ((l.set j (some k)).filterMap id).Perm (k :: l.filterMap id)
  | [], j, h => by cases h
  | x :: l, 0, h => by
    obtain rfl : x = none := Option.some.inj h
    exact List.Perm.refl _
  | x :: l, j + 1, h => by
    have ih := set_perm (k := k) l j h
    cases x with
    | none => exact ih
    | some y => exact (ih.cons y).trans (List.Perm.swap k y _)
structure Lay (m : Nat) (owner : Array (Option Nat)) (k : Nat) : Prop where
  sz : owner.size = m + 1
  pm : (owner.toList.filterMap id).Perm (List.range k)
theorem all_some : ∀ (l : List (Option Nat)), (∀ j, j < l.length → l[j]? ≠ some none) → (l.filterMap id).length = l.length
  | [], _ => rfl
  | none :: l, h => absurd rfl (h 0 (Nat.zero_lt_succ _))
  | some y :: l, h => congrArg Nat.succ (all_some l fun j hj => h (j + 1) (Nat.succ_lt_succ hj))
theorem occ_iff {owner : Array (Option Nat)} {j : Nat} : occ owner j = true ↔ owner.toList[j]? = some none := by
  unfold occ
  rw [Array.getElem?_toList, Array.getD_eq_getD_getElem?]
  cases e : owner[j]? with
  | none => simp
  | some x => cases x <;> simp
theorem bits_small {h : Int} (h0 : 0 ≤ h) (h1 : h < 32) : SetTable.bits h < 32 := by
  unfold SetTable.bits
  omega
theorem lay_step {m k : Nat} {owner : Array (Option Nat)} {h : Int} (hm : m = 7 ∨ m = 15 ∨ m = 31 ∨ m = 63) (L : Lay m owner k) (hk : k ≤ m) (h0 : 0 ≤ h) (h1 : h < 32) :
    ∃ owner', stepF m (some (owner, k)) h = some (owner', k + 1) ∧ Lay m owner' (k + 1) := by
  cases e : SetTable.layClean.free m owner (SetTable.turns m) (SetTable.bits h % (m + 1)) (SetTable.bits h) with
  | none =>
    exfalso
    have no := free_no m owner _ _ _ (bits_small h0 h1) e
    have len : (owner.toList.filterMap id).length = owner.toList.length := all_some _ fun j hj z => by
      rw [Array.length_toList, L.sz] at hj
      obtain ⟨c, hc, ec⟩ := it_all hm (i := SetTable.bits h % (m + 1)) (j := j) (Nat.le_of_lt_succ (Nat.mod_lt _ (Nat.succ_pos m))) (by omega)
      have := no c (by unfold SetTable.turns; omega)
      rw [ec, occ_iff.mpr z] at this
      cases this
    rw [L.pm.length_eq, List.length_range, Array.length_toList, L.sz] at len
    omega
  | some j =>
    have hj := occ_iff.mp (free_is m owner _ _ _ _ e)
    refine ⟨owner.setIfInBounds j (some k), stepF_some e, by rw [Array.size_setIfInBounds]; exact L.sz, ?_⟩
    rw [Array.toList_setIfInBounds, List.range_succ]
    exact (set_perm _ _ hj).trans ((L.pm.cons k).trans (List.perm_append_singleton k _).symm)
theorem lay_fold {m : Nat} (hm : m = 7 ∨ m = 15 ∨ m = 31 ∨ m = 63) : ∀ (hs : List Int) (k : Nat) (owner : Array (Option Nat)), Lay m owner k → (∀ h ∈ hs, 0 ≤ h ∧ h < 32) → k + hs.length ≤ m + 1 →
    ∃ owner', hs.foldl (stepF m) (some (owner, k)) = some (owner', k + hs.length) ∧ Lay m owner' (k + hs.length)
  | [], k, owner, L, _, _ => ⟨owner, rfl, L⟩
  | h :: hs, k, owner, L, hb, hn => by
    rw [List.length_cons] at hn
    obtain ⟨o1, e1, L1⟩ := lay_step hm L (by omega) (hb h List.mem_cons_self).1 (hb h List.mem_cons_self).2
    obtain ⟨o2, e2, L2⟩ := lay_fold hm hs (k + 1) o1 L1 (fun x hx => hb x (List.mem_cons_of_mem _ hx)) (by omega)
    refine ⟨o2, ?_, ?_⟩
    · rw [List.foldl_cons, e1, e2, List.length_cons]
      congr 2
      omega
    · rw [List.length_cons, show k + (hs.length + 1) = k + 1 + hs.length by omega]
      exact L2
theorem fm_congr {α β : Type} {f g : α → Option β} : ∀ {l : List α}, (∀ x ∈ l, f x = g x) → l.filterMap f = l.filterMap g
  | [], _ => rfl
  | x :: l, h => by
    rw [List.filterMap_cons, List.filterMap_cons, h x List.mem_cons_self, fm_congr fun y hy => h y (List.mem_cons_of_mem _ hy)]
theorem live_snd (l : List (Option Nat)) : ((List.range l.length).filterMap fun j => (l.getD j none).map fun x => (j, x)).map (·.2) = l.filterMap id := by
  induction l with
  | nil => rfl
  | cons x l ih =>
    rw [List.length_cons, List.range_succ_eq_map, List.filterMap_cons, List.filterMap_map]
    have e : ((List.range l.length).filterMap ((fun j => ((x :: l).getD j none).map fun y => (j, y)) ∘ Nat.succ)).map (·.2) = l.filterMap id := by
      rw [← ih, List.map_filterMap, List.map_filterMap]
      refine fm_congr fun j _ => ?_
      show Option.map _ (Option.map _ ((x :: l).getD (j + 1) none)) = _
      rw [List.getD_cons_succ, Option.map_map, Option.map_map]
      rfl
    cases x with
    | none => exact e
    | some y =>
      show y :: _ = y :: _
      rw [e]
theorem laid_ok {m finger moves : Nat} {led plain : Bool} {hs : Array Int} (hm : m = 7 ∨ m = 15 ∨ m = 31 ∨ m = 63) (hb : ∀ h ∈ hs.toList, 0 ≤ h ∧ h < 32) (hn : hs.size ≤ m) :
    ∃ t order, SetTable.laid m finger moves led plain hs = some (t, order) ∧ order.toList.Perm (List.range hs.size) ∧ t.fits hs.size = true ∧ t.mask = m ∧ t.dummies = #[] := by
  have L0 : Lay m (Array.replicate (m + 1) none) 0 := ⟨Array.size_replicate, by
    rw [Array.toList_replicate]
    have : ∀ n, (List.replicate n (none : Option Nat)).filterMap id = [] := fun n => by
      induction n with
      | zero => rfl
      | succ n ih => rw [List.replicate_succ]; exact ih
    rw [this]
    exact .refl _⟩
  obtain ⟨owner, e, L⟩ := lay_fold hm hs.toList 0 _ L0 hb (by rw [Array.length_toList]; omega)
  rw [Nat.zero_add, Array.length_toList] at e L
  have ec : SetTable.layClean m hs = some owner := by
    rw [layClean_eq, e]
    rfl
  have eg : ∀ j, owner.getD j none = owner.toList.getD j none := fun j => by
    rw [Array.getD_eq_getD_getElem?, List.getD_eq_getElem?_getD, Array.getElem?_toList]
  have el : (List.range (m + 1)).filterMap (fun j => (owner.getD j none).map fun x => (j, x)) = (List.range owner.toList.length).filterMap fun j => (owner.toList.getD j none).map fun x => (j, x) := by
    rw [Array.length_toList, L.sz]
    exact fm_congr fun j _ => by rw [eg]
  have pm : (((List.range (m + 1)).filterMap fun j => (owner.getD j none).map fun x => (j, x)).map (·.2)).Perm (List.range hs.size) := by
    rw [el, live_snd]
    exact L.pm
  have lenl : ((List.range (m + 1)).filterMap fun j => (owner.getD j none).map fun x => (j, x)).length = hs.size := by
    have := pm.length_eq
    rw [List.length_map, List.length_range] at this
    exact this
  refine ⟨{ mask := m, place := (((List.range (m + 1)).filterMap fun j => (owner.getD j none).map fun x => (j, x)).map (·.1)).toArray, dummies := #[], finger, led, moves, plain }, (((List.range (m + 1)).filterMap fun j => (owner.getD j none).map fun x => (j, x)).map (·.2)).toArray, ?_, pm, ?_, rfl, rfl⟩
  · unfold SetTable.laid
    rw [ec]
    rfl
  · unfold SetTable.fits SetTable.fill
    dsimp only
    rw [List.size_toArray, List.length_map, lenl]
    simp [hn]
end SD
end L2

namespace L2
open PySem PySem.Spec PyProof.Rows
namespace SD
/-- a set of ints, as it stands -/
structure Is (h : Heap) (a : Addr) (es : Array (Int × Value)) (ep : Nat) (t : SetTable) : Prop where
  at' : ∃ o, h.get? a = some o ∧ o.ExactSet ∧ o.data = .set es ep t
  good : ∀ e ∈ es.toList, GoodE e
  nd : (es.toList.map keyOf).Nodup
  lt : es.size < scanBound
  fit : t.fits es.size = true
theorem Is.of {w : World} {h : Heap} {a : Addr} {S : Int → Bool} {n : Nat} (R : SetR w h a S n) :
    ∃ es ep t, Is h a es ep t ∧ (∀ k, S k = true ↔ k ∈ es.toList.map keyOf) ∧ es.size = n ∧ (w.params.followText "set-order" = true ∨ t.led = true) := by
  obtain ⟨o, es, ep, t, ho, hx, hd, g, nd, hm, hb, hf, hn, _, hl⟩ := R
  exact ⟨es, ep, t, ⟨⟨o, ho, hx, hd⟩, g, nd, hb, hf⟩, hm, hn, hl⟩
theorem Is.same {h h' : Heap} {a b : Addr} {es : Array (Int × Value)} {ep : Nat} {t : SetTable} (I : Is h a es ep t) (s : Heap.SameBut b h h') (ne : a ≠ b) : Is h' a es ep t := by
  obtain ⟨⟨o, ho, r⟩, g, nd, lt, f⟩ := I
  exact ⟨⟨o, by rw [s.2 a ne]; exact ho, r⟩, g, nd, lt, f⟩
theorem Is.keep {h h' : Heap} {a : Addr} {es : Array (Int × Value)} {ep : Nat} {t : SetTable} (I : Is h a es ep t) (k : ∀ o, h.get? a = some o → h'.get? a = some o) : Is h' a es ep t := by
  obtain ⟨⟨o, ho, r⟩, g, nd, lt, f⟩ := I
  exact ⟨⟨o, k o ho, r⟩, g, nd, lt, f⟩
theorem Is.type {s : Shared} {a : Addr} {es : Array (Int × Value)} {ep : Nat} {t : SetTable} (I : Is s.heap a es ep t) : s.TypeIs (.ref a) "set" := by
  obtain ⟨⟨o, ho, hx, _⟩, _⟩ := I
  exact ⟨o, ho, hx.1⟩
section
variable {P : Program} {w : World} {A : Around} {E : Value → Shared → Prop} {s : Shared} {a : Addr} {es : Array (Int × Value)} {ep : Nat} {t : SetTable}
theorem state (I : Is s.heap a es ep t) {Q : (Array (Int × Value) × Nat × SetTable) → Shared → Prop} (h : Q (es, ep, t) s) : wpAny (model P w) A (setState a) Q E s := by
  obtain ⟨⟨o, ho, _, hd⟩, _, _, _, f⟩ := I
  exact wpAny_setState_of ho hd f h
theorem epoch (I : Is s.heap a es ep t) {Q : Nat → Shared → Prop} (h : Q ep s) : wpAny (model P w) A (setEpoch a) Q E s := by
  obtain ⟨⟨o, ho, _, hd⟩, _, _, _, f⟩ := I
  exact wpAny_setEpoch_of ho hd f h
theorem entries (I : Is s.heap a es ep t) {Q : Array (Int × Value) → Shared → Prop} (h : Q es s) : wpAny (model P w) A (setEntries a) Q E s := by
  obtain ⟨⟨o, ho, _, hd⟩, _, _, _, f⟩ := I
  exact wpAny_setEntries_of ho hd f h
theorem size (I : Is s.heap a es ep t) {Q : Nat → Shared → Prop} (h : Q es.size s) : wpAny (model P w) A (Builtin.Frozenset.sizeOf a) Q E s := by
  unfold Builtin.Frozenset.sizeOf
  exact wpAny_bind (entries I (wpAny_pure h))
theorem anySet (I : Is s.heap a es ep t) {Q : Bool → Shared → Prop} (h : Q true s) : wpAny (model P w) A (Builtin.Frozenset.isAnySet (.ref a)) Q E s := by
  unfold Builtin.Frozenset.isAnySet
  have z := I.type
  have hs := sub_set_self
  obtain ⟨hp, g, d, tk, os⟩ := s
  refine wpAny_bind (m := isInstance (.ref a) (.type "set")) (wpAny_isInstance z hs ?_)
  exact wpAny_pure h
theorem base (I : Is s.heap a es ep t) {Q : Value → Shared → Prop} (h : Q (.type "set") s) : wpAny (model P w) A (Builtin.Frozenset.baseOf a) Q E s := by
  unfold Builtin.Frozenset.baseOf
  exact wpAny_bind (wpAny_isInstance I.type sub_set_self (wpAny_pure h))
theorem not_ref {e : Int × Value} (g : GoodE e) : ∀ b, e.2 ≠ .ref b := fun b z => by
  obtain ⟨k, tk, e1, _⟩ := g
  rw [e1] at z
  cases z

theorem quiet {l : List Addr} {Q : Bool → Shared → Prop} (hl : ∀ b ∈ l, ∃ es ep t, Is s.heap b es ep t) (h : Q true s) : wpAny (model P w) A (setsQuiet l) Q E s := by
  unfold setsQuiet
  refine wpAny_bind (wpAny_forIn_list _ (fun rest (x : Option Bool × Unit) s' => s' = s ∧ x.1 = none ∧ ∀ c ∈ rest, c ∈ l) _ (fun c rest x s1 hI => ?_) (fun x s1 hI => ?_) l (none, ()) ⟨rfl, rfl, fun c hc => hc⟩)
  · obtain ⟨rfl, hx, hc⟩ := hI
    obtain ⟨es, ep, t, I⟩ := hl c (hc c List.mem_cons_self)
    refine wpAny_bind (entries I ?_)
    refine wpAny_bind (wpAny_forIn_array' _ (fun rest (x : Option Bool × Unit) s' => s' = s1 ∧ x = (none, ()) ∧ ∀ e ∈ rest, GoodE e) _ (fun e rest x s2 hJ => ?_) (fun x s2 hJ => ?_) es (none, ()) ⟨rfl, rfl, I.good⟩)
    · obtain ⟨rfl, rfl, hg⟩ := hJ
      obtain ⟨k, tk, e1, _⟩ := hg e List.mem_cons_self
      obtain ⟨e0, e2⟩ := e
      dsimp only at e1
      subst e1
      exact wpAny_pure ⟨rfl, rfl, fun y hy => hg y (List.mem_cons_of_mem _ hy)⟩
    · obtain ⟨rfl, rfl, _⟩ := hJ
      exact wpAny_pure ⟨rfl, rfl, fun y hy => hc y (List.mem_cons_of_mem _ hy)⟩
  · obtain ⟨rfl, hx, _⟩ := hI
    obtain ⟨x1, x2⟩ := x
    dsimp only at hx
    subst hx
    exact wpAny_pure h
/-- the order in which a set is gone through: any -/
theorem walk0 (I : Is s.heap a es ep t) (hl : w.params.followText "set-order" = true ∨ t.led = true) (hp : w.params.followText "set-order" = true ∨ (t.plain = true ∨ es.size ≤ 1)) {Q : Array (Int × Value) → Shared → Prop}
    (h : ∀ es' : Array (Int × Value), es'.toList.Perm es.toList → Q es' s) : wpAny (model P w) A (setWalk a) Q E s := by
  unfold setWalk
  refine wpAny_bind (state I ?_)
  dsimp only
  refine wpAny_bind (wpAny_byText ?_)
  by_cases c : w.params.followText "set-order" = true
  · refine wp_if_pos c ?_
    exact wpAny_bind (wpAny_askSetting (wpAny_pure (h _ (pick_perm _ _))))
  · refine wp_if_neg c ?_
    try refine wpAny_bind (wpAny_pure ?_)
    have hl := hl.resolve_left c
    have hp := hp.resolve_left c
    refine wp_if_neg (by
      show ¬ ((!t.plain && decide (es.size > 1)) = true)
      rcases hp with z | z
      · rw [z]; exact Bool.false_ne_true
      · rw [decide_eq_false (by omega), Bool.and_false]; exact Bool.false_ne_true) ?_
    try refine wpAny_bind (wpAny_pure ?_)
    refine wpAny_bind (wpAny_of_eq (a := ()) ?_ ?_)
    · show (if (!t.led && decide (es.size > 1)) = true then unsupported "set:maker-not-led" else pure ()) = pure ()
      rw [hl]
      rfl
    · exact wpAny_pure (h _ (List.Perm.refl _))
theorem walkN (I : Is s.heap a es ep t) (hl : w.params.followText "set-order" = true ∨ t.led = true) {others : List Addr} (ho : ∀ b ∈ others, ∃ es ep t, Is s.heap b es ep t) {Q : Array (Int × Value) → Shared → Prop}
    (h : ∀ es' : Array (Int × Value), es'.toList.Perm es.toList → Q es' s) : wpAny (model P w) A (setWalkUnseen a others none) Q E s := by
  unfold setWalkUnseen
  refine wpAny_bind (state I ?_)
  dsimp only
  refine wpAny_bind (wpAny_byText ?_)
  by_cases c : (w.params.followText "set-order" || t.led && t.plain || decide (es.size ≤ 1)) = true
  · refine wp_if_pos c (walk0 I hl ?_ h)
    rw [Bool.or_eq_true, Bool.or_eq_true, Bool.and_eq_true, decide_eq_true_eq] at c
    rcases c with (z | z) | z
    · exact .inl z
    · exact .inr (.inl z.2)
    · exact .inr (.inr z)
  · refine wp_if_neg c ?_
    refine wpAny_bind (quiet (l := a :: others) (fun b hb => ?_) ?_)
    · rcases List.mem_cons.mp hb with rfl | hb
      · exact ⟨_, _, _, I⟩
      · exact ho b hb
    · refine wp_if_neg (by simp) ?_
      refine wpAny_bind (wpAny_rule ?_)
      exact wpAny_pure (h _ (List.Perm.refl _))
theorem walkF (I : Is s.heap a es ep t) (hl : w.params.followText "set-order" = true ∨ t.led = true) {others : List Addr} (ho : ∀ b ∈ others, ∃ es ep t, Is s.heap b es ep t) {r : Addr} {S : Int → Bool} {n : Nat} (R : SetR w s.heap r S n)
    {Q : Array (Int × Value) → Shared → Prop}
    (h : ∀ (es' : Array (Int × Value)) h', es'.toList.Perm es.toList → Heap.SameBut r s.heap h' → SetR w h' r S n → Q es' { s with heap := h' }) : wpAny (model P w) A (setWalkUnseen a others (some r)) Q E s := by
  unfold setWalkUnseen
  have h0 : ∀ es' : Array (Int × Value), es'.toList.Perm es.toList → Q es' s := fun es' p => h es' s.heap p (Heap.SameBut.refl r s.heap) R
  refine wpAny_bind (state I ?_)
  dsimp only
  refine wpAny_bind (wpAny_byText ?_)
  by_cases c : (w.params.followText "set-order" || t.led && t.plain || decide (es.size ≤ 1)) = true
  · refine wp_if_pos c (walk0 I hl ?_ h0)
    rw [Bool.or_eq_true, Bool.or_eq_true, Bool.and_eq_true, decide_eq_true_eq] at c
    rcases c with (z | z) | z
    · exact .inl z
    · exact .inr (.inl z.2)
    · exact .inr (.inr z)
  · refine wp_if_neg c ?_
    refine wpAny_bind (quiet (l := a :: others) (fun b hb => ?_) ?_)
    · rcases List.mem_cons.mp hb with rfl | hb
      · exact ⟨_, _, _, I⟩
      · exact ho b hb
    · refine wp_if_neg (by simp) ?_
      refine wpAny_bind (wpAny_rule ?_)
      try dsimp only
      obtain ⟨o, er, epr, tr, hor, hx, hd, g, nd, hm, hb, hf, hn, hr, hlr⟩ := R
      refine wpAny_bind (wpAny_setState_of hor hd hf ?_)
      dsimp only
      split
      · refine wpAny_bind (wpAny_storeSet_of hor hd ?_ (fits_of_scanBound hb))
        refine wpAny_pure (h _ _ (List.Perm.refl _) (Heap.SameBut.update s.heap r _) ⟨_, er, _, _, store_at hor hd, hx, rfl, g, nd, hm, hb, hf, hn, hr, ?_⟩)
        rcases hlr with z | z
        · exact .inl z
        · rcases hl with y | y
          · exact .inl y
          · exact .inr (by rw [z, y]; rfl)
      · exact wpAny_pure (h0 _ (List.Perm.refl _))
end
end SD
end L2

namespace L2
open PySem PySem.Spec PyProof.Rows
namespace SD
section
variable {P : Program} {w : World} {A : Around} {E : Value → Shared → Prop} {s : Shared} {a : Addr} {es : Array (Int × Value)} {ep : Nat} {t : SetTable}
theorem sizeM : ∀ n, n < 32 → 5 ≤ n → (SetTable.sizeAbove ((0 + n) * 2) - 1 = 15 ∨ SetTable.sizeAbove ((0 + n) * 2) - 1 = 31 ∨ SetTable.sizeAbove ((0 + n) * 2) - 1 = 63) ∧ n ≤ SetTable.sizeAbove ((0 + n) * 2) - 1 := by decide +kernel
/-- r, empty: room for n more -/
theorem room_at {r : Addr} {n ep0 : Nat} {led : Bool} (hn : n < 32) (ho : ∃ o, s.heap.get? r = some o ∧ o.ExactSet ∧ o.data = .set #[] ep0 (.fresh 0 0 led)) {Q : Unit → Shared → Prop}
    (h : ∀ h' ep' t', Heap.SameBut r s.heap h' → (∃ o, h'.get? r = some o ∧ o.ExactSet ∧ o.data = .set #[] ep' t') → t'.place = #[] → t'.dummies = #[] → (t'.mask = 7 ∨ t'.mask = 15 ∨ t'.mask = 31 ∨ t'.mask = 63) → n ≤ t'.mask → Q () { s with heap := h' }) :
    wpAny (model P w) A (setRoomFor r n) Q E s := by
  obtain ⟨o, ho, hx, hd⟩ := ho
  have hf : (SetTable.fresh 0 0 led).fits (#[] : Array (Int × Value)).size = true := rfl
  unfold setRoomFor
  refine wpAny_bind (wpAny_setState_of ho hd hf ?_)
  unfold SetTable.roomFor
  by_cases c : n ≤ 4
  · have e : ¬ ((SetTable.fresh 0 0 led).fill + n) * 5 ≥ (SetTable.fresh 0 0 led).mask * 3 := by
      show ¬ (0 + n) * 5 ≥ 7 * 3
      omega
    rw [if_neg e]
    exact wpAny_pure (h s.heap ep0 _ (Heap.SameBut.refl r s.heap) ⟨o, ho, hx, hd⟩ rfl rfl (.inl rfl) (by show n ≤ 7; omega))
  · have e : ((SetTable.fresh 0 0 led).fill + n) * 5 ≥ (SetTable.fresh 0 0 led).mask * 3 := by
      show (0 + n) * 5 ≥ 7 * 3
      omega
    rw [if_pos e]
    obtain ⟨hm, hle⟩ := sizeM n hn (by omega)
    show wpAny _ _ (setRelay r ((0 + n) * 2)) Q E s
    unfold setRelay
    refine wpAny_bind (wpAny_setState_of ho hd hf ?_)
    dsimp only
    refine wp_if_neg (by rw [sizeLine_eq]; omega) ?_
    try refine wpAny_bind (wpAny_pure ?_)
    obtain ⟨t1, order, el, pm, f1, m1, d1⟩ := laid_ok (m := SetTable.sizeAbove ((0 + n) * 2) - 1) (finger := 0) (moves := (SetTable.fresh 0 0 led).movedTo (SetTable.sizeAbove ((0 + n) * 2) - 1)) (led := led) (plain := true) (hs := (#[] : Array Int)) (.inr hm) (fun x hx => by cases hx) (Nat.zero_le _)
    have er : (SetTable.fresh 0 0 led).relaid ((#[] : Array (Int × Value)).map (·.1)) ((0 + n) * 2) = some (t1, order) := by
      unfold SetTable.relaid
      rw [show (#[] : Array (Int × Value)).map (·.1) = #[] from by simp]
      exact el
    have oz : order = #[] := by
      have := pm.length_eq
      rw [Array.length_toList] at this
      exact Array.eq_empty_of_size_eq_zero this
    rw [er, oz]
    have pz : t1.place = #[] := by
      unfold SetTable.fits at f1
      rw [Bool.and_eq_true, beq_iff_eq] at f1
      exact Array.eq_empty_of_size_eq_zero f1.1
    refine wpAny_bind (wpAny_of_eq (a := ((#[] : Array (Int × Value)), t1)) rfl ?_)
    dsimp only
    refine wpAny_storeSet_of ho hd ?_ (Nat.zero_le _)
    exact h _ _ t1 (Heap.SameBut.update s.heap r _) ⟨_, store_at ho hd, hx, rfl⟩ pz d1 (.inr (m1 ▸ hm)) (by rw [m1]; exact hle)
theorem fit_le {t : SetTable} {n : Nat} (h : t.fits n = true) : t.place.size = n ∧ t.fill ≤ t.mask := by
  unfold SetTable.fits at h
  rw [Bool.and_eq_true, beq_iff_eq, decide_eq_true_eq] at h
  exact h
theorem fm_get {α : Type} (l : List α) : (List.range l.length).filterMap (fun i => l[i]?) = l := by
  induction l with
  | nil => rfl
  | cons x l ih =>
    rw [List.length_cons, List.range_succ_eq_map, List.filterMap_cons, List.filterMap_map]
    exact congrArg (x :: ·) ih
theorem order_perm {es : Array (Int × Value)} {order : Array Nat} (pm : order.toList.Perm (List.range es.size)) : (order.filterMap (es[·]?)).toList.Perm es.toList := by
  rw [Array.toList_filterMap]
  have := pm.filterMap (fun i => es[i]?)
  refine this.trans ?_
  have e : (List.range es.size).filterMap (fun i => es[i]?) = es.toList := by
    have := fm_get es.toList
    rw [Array.length_toList] at this
    rw [← this]
    exact fm_congr fun i _ => (Array.getElem?_toList).symm
  rw [e]
theorem hash_all : ∀ n, n < 32 → 0 ≤ hashInt (n : Nat) ∧ hashInt (n : Nat) < 32 := by decide +kernel
theorem hash_small {k : Int} (h0 : 0 ≤ k) (h1 : k < 32) : 0 ≤ hashInt k ∧ hashInt k < 32 := by
  obtain ⟨n, rfl⟩ := Int.eq_ofNat_of_zero_le h0
  exact hash_all n (by omega)
/-- a copy -/
theorem copy_at (I : Is s.heap a es ep t) (hn : es.size < 32) (hk : ∀ k ∈ es.toList.map keyOf, 0 ≤ k ∧ k < 32) {Q : Value → Shared → Prop}
    (h : ∀ h' es' ep' t', (∀ b o, s.heap.get? b = some o → h'.get? b = some o) → Is h' s.heap.objs.size es' ep' t' → es'.toList.Perm es.toList → t'.dummies = #[] → es.size ≤ t'.mask → Q (.ref s.heap.objs.size) { s with heap := h' }) :
    wpAny (model P w) A (Builtin.Frozenset.copyOf a) Q E s := by
  unfold Builtin.Frozenset.copyOf
  refine wpAny_bind (base I ?_)
  refine wpAny_bind (wpAny_newSet_of (knd := intKind P w) fun led _ => ?_)
  unfold Builtin.Frozenset.addrOf
  refine wpAny_bind (wpAny_pure ?_)
  have hlt : a < s.heap.objs.size := by
    obtain ⟨⟨o, ho, _⟩, _⟩ := I
    exact Heap.lt_size ho
  have hne : a ≠ s.heap.objs.size := Nat.ne_of_lt hlt
  have hr0 : (s.heap.push { cls := .type "set", dict := none, data := .set #[] 0 (.fresh 0 0 led) }).get? s.heap.objs.size = some { cls := .type "set", dict := none, data := .set #[] 0 (.fresh 0 0 led) } := Heap.get?_push_size _ rfl
  have k0 : ∀ b o, s.heap.get? b = some o → (s.heap.push { cls := .type "set", dict := none, data := .set #[] 0 (.fresh 0 0 led) }).get? b = some o := fun b o e => Heap.get?_push_of_some _ e
  generalize s.heap.push { cls := .type "set", dict := none, data := .set #[] 0 (.fresh 0 0 led) } = h0 at hr0 k0 ⊢
  have I0 : Is h0 a es ep t := I.keep (k0 a)
  have keep : ∀ {h'}, Heap.SameBut s.heap.objs.size h0 h' → ∀ b o, s.heap.get? b = some o → h'.get? b = some o := fun {h'} sb b o e => by
    rw [sb.2 b (Nat.ne_of_lt (Heap.lt_size e))]
    exact k0 b o e
  unfold setMerge
  refine wpAny_bind ?_
  refine wp_if_neg (by simpa using fun z : s.heap.objs.size = a => hne z.symm) ?_
  try refine wpAny_bind (wpAny_pure ?_)
  refine wpAny_bind (state (s := { s with heap := h0 }) I0 ?_)
  dsimp only
  by_cases ce : es.isEmpty = true
  · refine wp_if_pos ce ?_
    have ez : es = #[] := by simpa using ce
    subst ez
    exact wpAny_pure (wpAny_pure (h h0 #[] 0 _ k0 ⟨⟨_, hr0, ⟨rfl, rfl, rfl⟩, rfl⟩, fun e he => by simp at he, List.Pairwise.nil, by decide, rfl⟩ (.refl _) rfl (Nat.zero_le _)))
  · refine wp_if_neg ce ?_
    try refine wpAny_bind (wpAny_pure ?_)
    refine wpAny_bind (room_at (s := { s with heap := h0 }) hn ⟨_, hr0, ⟨rfl, rfl, rfl⟩, rfl⟩ fun h1 ep1 t1 sb1 ho1 p1 d1 m1 l1 => ?_)
    obtain ⟨o1, ho1, hx1, hd1⟩ := ho1
    have I1 : Is h1 a es ep t := I0.same sb1 hne
    refine wpAny_bind (wpAny_setState_of (s := { s with heap := h1 }) ho1 hd1 (by unfold SetTable.fits SetTable.fill; rw [p1, d1]; simp) ?_)
    dsimp only
    have fz : ¬ ((t1.fill != 0) = true) := by
      unfold SetTable.fill
      rw [p1, d1]
      simp
    unfold SetTable.road
    rw [if_neg fz]
    obtain ⟨fp, fl⟩ := fit_le I.fit
    by_cases cm : (t1.mask == t.mask && t.dummies.isEmpty) = true
    · rw [if_pos cm]
      rw [Bool.and_eq_true, beq_iff_eq] at cm
      have dz : t.dummies = #[] := by simpa using cm.2
      dsimp only
      refine wpAny_storeSet_of (s := { s with heap := h1 }) ho1 hd1 ?_ (fits_of_scanBound I.lt)
      refine wpAny_pure (h _ es _ _ ?_ ⟨⟨_, store_at ho1 hd1, hx1, rfl⟩, I.good, I.nd, I.lt, ?_⟩ (.refl _) dz ?_)
      · exact keep (sb1.trans (Heap.SameBut.update h1 _ _))
      · exact I.fit
      · show es.size ≤ t.mask
        rw [← cm.1]
        exact l1
    · rw [if_neg cm]
      dsimp only
      obtain ⟨t2, order, el, pm, f2, m2, d2⟩ := laid_ok (m := t1.mask) (finger := t1.finger) (moves := t1.moves) (led := t1.led && t.led) (plain := t1.plain && t.plain) (hs := es.map (·.1)) m1 (fun x hx => by
        rw [Array.toList_map, List.mem_map] at hx
        obtain ⟨e, he, rfl⟩ := hx
        obtain ⟨k, tk, e1, e2⟩ := I.good e he
        have hb := hk k (List.mem_map.mpr ⟨e, he, by unfold keyOf; rw [e1]⟩)
        rw [e2]
        exact hash_small hb.1 hb.2) (by rw [Array.size_map]; exact l1)
      rw [el]
      rw [Array.size_map] at pm f2
      have pe := order_perm pm
      have sz : (order.filterMap (es[·]?)).size = es.size := by
        have := pe.length_eq
        rwa [Array.length_toList, Array.length_toList] at this
      refine wpAny_bind (wpAny_of_eq (a := (order.filterMap (es[·]?), t2)) ?_ ?_)
      · show (if ((order.filterMap (es[·]?)).size != es.size) = true then _ else _) = _
        rw [if_neg (by rw [sz]; simp)]
      · dsimp only
        refine wpAny_storeSet_of (s := { s with heap := h1 }) ho1 hd1 ?_ (fits_of_scanBound (by rw [sz]; exact I.lt))
        refine wpAny_pure (h _ (order.filterMap (es[·]?)) _ _ ?_ ⟨⟨_, store_at ho1 hd1, hx1, rfl⟩, fun e he => I.good e (pe.mem_iff.mp he), (pe.map keyOf).nodup_iff.mpr I.nd, by rw [sz]; exact I.lt, by rw [sz]; exact f2⟩ pe d2 (by rw [m2]; exact l1))
        exact keep (sb1.trans (Heap.SameBut.update h1 _ _))
end
end SD
end L2

namespace L2
open PySem PySem.Spec PyProof.Rows
namespace SD
theorem erase_list {α : Type} (xs : Array α) (p : Nat) : (SetTable.eraseAt xs p).toList = xs.toList.eraseIdx p := by
  unfold SetTable.eraseAt
  rw [Array.toList_append, Array.toList_extract, Array.toList_extract, List.eraseIdx_eq_take_drop_succ, List.extract_eq_take_drop, List.extract_eq_take_drop, List.drop_zero, Nat.sub_zero]
  congr 1
  refine List.take_of_length_le ?_
  rw [List.length_drop, Array.length_toList]
  omega
theorem insert_size {α : Type} (xs : Array α) (p : Nat) (x : α) : (SetTable.insertAt xs p x).size = xs.size + 1 := by
  rw [← Array.length_toList, SetTable.toList_insertAt, List.length_append, List.length_cons, List.length_take, List.length_drop, Array.length_toList]
  omega
theorem drop_fit {t : SetTable} {n i : Nat} (h : t.fits n = true) (hi : i < n) : (t.drop i).fits (n - 1) = true ∧ (t.drop i).dummies.size = t.dummies.size + 1 ∧ (t.drop i).mask = t.mask := by
  obtain ⟨h1, h2⟩ := fit_le h
  have e : t.place[i]? = some (t.place[i]'(by omega)) := Array.getElem?_eq_getElem (by omega)
  unfold SetTable.drop
  rw [e]
  dsimp only
  have es : (SetTable.eraseAt t.place i).size = n - 1 := by
    rw [← Array.length_toList, erase_list, List.length_eraseIdx, Array.length_toList, if_pos (by omega), h1]
  refine ⟨?_, insert_size _ _ _, rfl⟩
  unfold SetTable.fits SetTable.fill
  dsimp only
  rw [es, insert_size]
  unfold SetTable.fill at h2
  simp
  omega
section
variable {P : Program} {w : World} {A : Around} {E : Value → Shared → Prop} {s : Shared} {a : Addr} {es : Array (Int × Value)} {ep : Nat} {t : SetTable}
theorem find_at (I : Is s.heap a es ep t) {k : Int} {tk : Tok} {Q : Option Nat → Shared → Prop}
    (h1 : ∀ j, es.toList[j]?.map keyOf = some k → Q (some j) s) (h0 : k ∉ es.toList.map keyOf → Q none s) : wpAny (model P w) A (setFind a (.int k tk) (hashInt k)) Q E s := by
  have hkey : (intKind P w).is k (.int k tk) = true := intKind_is P w k tk
  have hel : ElemsOf (intKind P w) es.toList := good_elems I.good
  unfold setFind setFindIn
  refine wpAny_bind (state I ?_)
  dsimp only
  rw [byScan_of (knd := intKind P w) rfl I.lt hel]
  refine wp_if_pos rfl ?_
  refine wpAny_bind (wpAny_rule ?_)
  obtain ⟨o, ho, _, hd⟩ := I.at'
  refine wpAny_bind (wpAny_setScan_of (knd := intKind P w) hkey ho hd I.fit hel ?_)
  cases e : List.findIdx? (fun e => (intKind P w).is k e.2) es.toList with
  | none =>
    dsimp only
    refine wpAny_pure (h0 fun z => ?_)
    obtain ⟨x, hx, q⟩ := (good_mem (P := P) (w := w) I.good k).1 z
    have := List.findIdx?_eq_none_iff.mp e x hx
    rw [q] at this
    cases this
  | some j =>
    dsimp only
    obtain ⟨hj, pj, _⟩ := List.findIdx?_eq_some_iff_getElem.mp e
    rw [Nat.zero_add]
    refine wpAny_pure (h1 j ?_)
    rw [List.getElem?_eq_getElem hj]
    exact congrArg some ((good_is (P := P) (w := w) (I.good _ (List.getElem_mem hj)) k).1 pj)
theorem erase_mapA {α β : Type} (f : α → β) : ∀ (l : List α) (j : Nat), (l.eraseIdx j).map f = (l.map f).eraseIdx j
  | [], _ => rfl
  | _ :: _, 0 => rfl
  | x :: l, j + 1 => congrArg (f x :: ·) (erase_mapA f l j)
/-- a key less -/
theorem discard_at (I : Is s.heap a es ep t) {k : Int} {tk : Tok} {Q : Bool → Shared → Prop}
    (h : ∀ b h' es' ep' t', Heap.SameBut a s.heap h' → Is h' a es' ep' t' → (es'.toList.map keyOf).Perm ((es.toList.map keyOf).erase k) → t'.dummies.size ≤ t.dummies.size + 1 → t'.mask = t.mask → Q b { s with heap := h' }) :
    wpAny (model P w) A (setDiscardHashed a (.int k tk) (hashInt k)) Q E s := by
  unfold setDiscardHashed
  refine wpAny_bind (find_at I (fun j hj => ?_) fun hk => ?_)
  · dsimp only
    refine wpAny_bind (state I ?_)
    dsimp only
    obtain ⟨o, ho, hx, hd⟩ := I.at'
    have hjl : j < es.toList.length := by
      rcases Nat.lt_or_ge j es.toList.length with c | c
      · exact c
      · rw [List.getElem?_eq_none c] at hj
        cases hj
    have hsz : (SetTable.eraseAt es j).size = es.size - 1 := by
      rw [← Array.length_toList, erase_list, List.length_eraseIdx, if_pos hjl, Array.length_toList]
    refine wpAny_bind (wpAny_storeSet_of ho hd ?_ (fits_of_scanBound (by rw [hsz]; have := I.lt; omega)))
    refine wpAny_bind (wpAny_point (wpAny_pure ?_))
    rw [Array.length_toList] at hjl
    obtain ⟨f1, f2, f3⟩ := drop_fit I.fit hjl
    have ek : (SetTable.eraseAt es j).toList.map keyOf = (es.toList.map keyOf).eraseIdx j := by
      rw [erase_list]
      exact erase_mapA keyOf es.toList j
    have ejk : (es.toList.map keyOf)[j]? = some k := by rw [List.getElem?_map]; exact hj
    have pk : ((es.toList.map keyOf).eraseIdx j).Perm ((es.toList.map keyOf).erase k) := by
      have p1 := erase_perm _ j k ejk
      have p2 := List.perm_cons_erase (List.mem_of_getElem? ejk)
      exact (p1.trans p2).cons_inv
    refine h _ _ (SetTable.eraseAt es j) _ _ (Heap.SameBut.update s.heap a _) ⟨⟨_, store_at ho hd, hx, rfl⟩, fun e he => ?_, ?_, ?_, ?_⟩ (by rw [ek]; exact pk) (Nat.le_of_eq f2) f3
    · rw [erase_list] at he
      exact I.good e (List.mem_of_mem_eraseIdx he)
    · rw [ek]
      exact pk.nodup_iff.mpr (I.nd.erase k)
    · rw [hsz]
      have := I.lt
      omega
    · rw [hsz]
      exact f1
  · exact wpAny_pure (h _ s.heap es ep t (Heap.SameBut.refl a s.heap) I (by rw [List.erase_of_not_mem hk]) (Nat.le_succ _) rfl)
theorem unch (I : Is s.heap a es ep t) {id : String} {Q : Unit → Shared → Prop} (h : Q () s) : wpAny (model P w) A (Builtin.Frozenset.unchanged id a ep) Q E s := by
  unfold Builtin.Frozenset.unchanged
  refine wpAny_bind (epoch I ?_)
  refine wp_if_neg (by simp) ?_
  exact wpAny_pure h
theorem foldErase_mem : ∀ (ks : List Int) (l : List Int) (k : Int), l.Nodup → (k ∈ ks.foldl List.erase l ↔ k ∈ l ∧ k ∉ ks)
  | [], l, k, _ => ⟨fun h => ⟨h, List.not_mem_nil⟩, fun h => h.1⟩
  | x :: ks, l, k, nd => by
    rw [List.foldl_cons, foldErase_mem ks (l.erase x) k (nd.erase x), nd.mem_erase_iff, List.mem_cons]
    constructor
    · rintro ⟨⟨h1, h2⟩, h3⟩
      exact ⟨h2, fun z => z.elim h1 h3⟩
    · rintro ⟨h1, h2⟩
      exact ⟨⟨fun z => h2 (.inl z), h1⟩, fun z => h2 (.inr z)⟩
/-- the keys of b taken away from a -/
theorem update_at {b : Addr} {eb : Array (Int × Value)} {epb : Nat} {tb : SetTable} (I : Is s.heap a es ep t) (J : Is s.heap b eb epb tb) (hne : a ≠ b) (hl : w.params.followText "set-order" = true ∨ tb.led = true)
    (h8 : ¬ eb.size / 8 > es.size) (hd : t.dummies.size + eb.size ≤ t.mask / 4) {Q : Unit → Shared → Prop}
    (h : ∀ h' es' ep' t', Heap.SameBut a s.heap h' → Is h' a es' ep' t' → (∀ k, k ∈ es'.toList.map keyOf ↔ k ∈ es.toList.map keyOf ∧ k ∉ eb.toList.map keyOf) → Q () { s with heap := h' }) :
    wpAny (model P w) A (Builtin.Frozenset.differenceUpdate id0 a (.ref b)) Q E s := by
  unfold Builtin.Frozenset.differenceUpdate
  refine wp_if_neg (by simpa using fun z : b = a => hne z.symm) ?_
  try refine wpAny_bind (wpAny_pure ?_)
  refine wpAny_bind (anySet J ?_)
  dsimp only
  refine wp_if_pos rfl ?_
  unfold Builtin.Frozenset.addrOf
  refine wpAny_bind (wpAny_pure ?_)
  refine wpAny_bind (size J ?_)
  refine wpAny_bind (size I ?_)
  refine wp_if_neg h8 ?_
  try refine wpAny_bind (wpAny_pure ?_)
  refine wpAny_bind (epoch J ?_)
  refine wpAny_bind (m := holding [Value.ref b] _) (wpAny_holding ?_)
  refine wpAny_bind (walkN J hl (fun c hc => ?_) fun ew pw => ?_)
  · obtain rfl := List.mem_singleton.mp hc
    exact ⟨_, _, _, I⟩
  refine wpAny_bind (wpAny_forIn_array' _ (fun rest _ s' => ∃ done h' es' ep' t', ew.toList = done ++ rest ∧ s' = { s with heap := h' } ∧ Heap.SameBut a s.heap h' ∧ Is h' a es' ep' t' ∧
      (es'.toList.map keyOf).Perm ((done.map keyOf).foldl List.erase (es.toList.map keyOf)) ∧ t'.dummies.size ≤ t.dummies.size + done.length ∧ t'.mask = t.mask)
    _ (fun x rest u s1 hI => ?_) (fun u s1 hI => ?_) ew PUnit.unit
    ⟨[], s.heap, es, ep, t, rfl, rfl, Heap.SameBut.refl a s.heap, I, .refl _, Nat.le_add_right _ _, rfl⟩)
  · obtain ⟨done, h1, e1, ep1, t1, esplit, rfl, sb, I1, pm, dm, mk⟩ := hI
    have hx : x ∈ eb.toList := pw.mem_iff.mp (by rw [esplit]; exact List.mem_append_right _ List.mem_cons_self)
    obtain ⟨k, tk, e2, e3⟩ := J.good x hx
    obtain ⟨x1, x2⟩ := x
    dsimp only at e2 e3
    subst e2
    subst e3
    dsimp only
    refine wpAny_bind (m := holding [Value.int k tk] _) (wpAny_holding (discard_at (s := { s with heap := h1 }) I1 fun bb h2 e4 ep4 t4 sb2 I2 pm2 dm2 mk2 => ?_))
    have J2 : Is h2 b eb epb tb := (J.same sb hne.symm).same sb2 hne.symm
    refine wpAny_bind (unch (s := { s with heap := h2 }) J2 ?_)
    refine wpAny_pure ⟨done ++ [(hashInt k, Value.int k tk)], h2, e4, ep4, t4, by rw [esplit, List.append_assoc]; rfl, rfl, sb.trans sb2, I2, ?_, ?_, mk2.trans mk⟩
    · rw [List.map_append, List.foldl_append]
      exact pm2.trans (pm.erase k)
    · rw [List.length_append, List.length_singleton]
      omega
  · obtain ⟨done, h1, e1, ep1, t1, esplit, rfl, sb, I1, pm, dm, mk⟩ := hI
    rw [List.append_nil] at esplit
    rw [← esplit] at pm dm
    try refine wpAny_pure ?_
    unfold setTidy
    refine wpAny_bind (state (s := { s with heap := h1 }) I1 ?_)
    dsimp only
    rw [pw.length_eq, Array.length_toList] at dm
    refine wp_if_neg (by unfold SetTable.tooManyDummies; rw [decide_eq_true_eq, mk]; omega) ?_
    refine wpAny_pure (h h1 e1 ep1 t1 sb I1 fun k => ?_)
    rw [pm.mem_iff, foldErase_mem _ _ _ I.nd, (pw.map keyOf).mem_iff]
end
end SD
end L2

namespace L2
open PySem PySem.Spec PyProof.Rows
namespace SD
section
variable {P : Program} {w : World} {A : Around} {E : Value → Shared → Prop} {s : Shared} {a b : Addr} {S T : Int → Bool} {n m : Nat}
theorem dec_t {l : List Int} {k : Int} {T : Int → Bool} (h : T k = true) (j : Int) : (decide (j ∈ l ++ [k]) && !T j) = (decide (j ∈ l) && !T j) := by
  by_cases e : j = k
  · rw [e, h, Bool.not_true, Bool.and_false, Bool.and_false]
  · congr 1
    simp [e]
theorem dec_f {l : List Int} {k : Int} {T : Int → Bool} (h : T k = false) (j : Int) : (decide (j ∈ l ++ [k]) && !T j) = ((decide (j ∈ l) && !T j) || decide (j = k)) := by
  by_cases e : j = k
  · rw [e, h]
    simp
  · simp [e]
/-- a new set of the keys of a that are not b's -/
def Diff (h0 : Heap) (S T : Int → Bool) (r : Addr) (h' : Heap) : Prop :=
  (∀ b o, h0.get? b = some o → h'.get? b = some o) ∧ ∃ es ep t, Is h' r es ep t ∧ ∀ k, k ∈ es.toList.map keyOf ↔ S k = true ∧ T k = false
theorem diff_at {id0 : String} (R : SetR w s.heap a S n) (R2 : SetR w s.heap b T m) (hne : a ≠ b) (hn : n < 32) (hk : ∀ k, S k = true → 0 ≤ k ∧ k < 32) {Q : Value → Shared → Prop}
    (h : ∀ h', Diff s.heap S T s.heap.objs.size h' → Q (.ref s.heap.objs.size) { s with heap := h' }) : wpAny (model P w) A (Builtin.Frozenset.difference id0 a (.ref b)) Q E s := by
  obtain ⟨es, ep, t, I, hS, hsz, hl⟩ := Is.of R
  obtain ⟨eb, epb, tb, J, hT, hszb, hlb⟩ := Is.of R2
  have lta : a < s.heap.objs.size := R.lt
  have ltb : b < s.heap.objs.size := R2.lt
  unfold Builtin.Frozenset.difference
  refine wpAny_bind (anySet J ?_)
  refine wp_if_neg (by simp) ?_
  try refine wpAny_bind (wpAny_pure ?_)
  refine wp_if_neg (by simp) ?_
  refine wp_if_pos rfl ?_
  refine wpAny_bind (size J ?_)
  refine wpAny_bind (size I ?_)
  by_cases c : es.size / 4 > eb.size
  · refine wp_if_pos c ?_
    refine wpAny_bind (wpAny_rule ?_)
    refine wpAny_bind (copy_at I (by omega) (fun k hkk => hk k ((hS k).mpr hkk)) fun h1 e1 ep1 t1 k1 I1 pm1 d1 m1 => ?_)
    refine wpAny_bind (wpAny_pure ?_)
    have J1 : Is h1 b eb epb tb := J.keep (k1 b)
    have z1 : e1.size = es.size := by
      have := pm1.length_eq
      rwa [Array.length_toList, Array.length_toList] at this
    refine wpAny_bind (wpAny_holding (update_at (s := { s with heap := h1 }) I1 J1 (Nat.ne_of_gt ltb) hlb (by rw [z1]; omega) (by rw [d1]; show 0 + _ ≤ _; omega) fun h2 e2 ep2 t2 sb2 I2 mem2 => ?_))
    refine wpAny_pure (h h2 ⟨fun c o e => ?_, e2, ep2, t2, I2, fun k => ?_⟩)
    · rw [sb2.2 c (Nat.ne_of_lt (Heap.lt_size e))]
      exact k1 c o e
    · rw [mem2 k, (pm1.map keyOf).mem_iff, ← hS k, ← hT k, Bool.not_eq_true]
  · refine wp_if_neg c ?_
    refine wpAny_bind (base I ?_)
    refine wpAny_bind ?_
    unfold newSet
    refine wpAny_bind (wpAny_byText ?_)
    try dsimp only
    simp only [newObj]
    refine wpAny_bind (wpAny_alloc (wpAny_pure ?_))
    have R0 := setR_fresh (h := s.heap) w
    have k0 : ∀ b o, s.heap.get? b = some o → (s.heap.push { cls := .type "set", dict := none, data := .set #[] 0 (.fresh 0 0 (!w.params.followText "set-order")) }).get? b = some o := fun b o e => Heap.get?_push_of_some _ e
    revert R0 k0
    show (SetR w (s.heap.push { cls := .type "set", dict := none, data := .set #[] 0 (.fresh 0 0 (!w.params.followText "set-order")) }) s.heap.objs.size (fun _ => false) 0 → _ → wpAny _ _ _ _ _ { s with heap := s.heap.push { cls := .type "set", dict := none, data := .set #[] 0 (.fresh 0 0 (!w.params.followText "set-order")) } })
    generalize s.heap.push { cls := .type "set", dict := none, data := .set #[] 0 (.fresh 0 0 (!w.params.followText "set-order")) } = h0
    intro R0 k0
    refine wpAny_bind (wpAny_pure ?_)
    have I0 : Is h0 a es ep t := I.keep (k0 a)
    have J0 : SetR w h0 b T m := R2.at (k0 b)
    refine wpAny_bind (epoch (s := { s with heap := h0 }) I0 ?_)
    refine wpAny_bind (wpAny_holding ?_)
    refine wpAny_bind ?_
    refine wp_if_pos (by trivial) ?_
    refine walkF (s := { s with heap := h0 }) I0 hl (fun c hc => ?_) R0 fun ew h1 pw sb1 R1 => ?_
    · rcases List.mem_cons.mp hc with rfl | hc
      · obtain ⟨x1, x2, x3, x4, _⟩ := Is.of J0
        exact ⟨x1, x2, x3, x4⟩
      · obtain rfl := List.mem_singleton.mp hc
        obtain ⟨x1, x2, x3, x4, _⟩ := Is.of R0
        exact ⟨x1, x2, x3, x4⟩
    refine wpAny_bind (wpAny_forIn_array' _ (fun rest _ s' => ∃ done h' c, ew.toList = done ++ rest ∧ s' = { s with heap := h' } ∧ Heap.SameBut s.heap.objs.size h0 h' ∧ c ≤ done.length ∧
      SetR w h' s.heap.objs.size (fun k => decide (k ∈ done.map keyOf) && !T k) c) _ (fun x rest u s1 hI => ?_) (fun u s1 hI => ?_) ew PUnit.unit ⟨[], h1, 0, rfl, rfl, sb1, Nat.le_refl _, R1.congr fun k => by simp⟩)
    · obtain ⟨done, h2, c2, esplit, rfl, sb2, lc, R3⟩ := hI
      have hx : x ∈ es.toList := pw.mem_iff.mp (by rw [esplit]; exact List.mem_append_right _ List.mem_cons_self)
      have hlen : done.length < es.size := by
        have := pw.length_eq
        rw [esplit, List.length_append, List.length_cons] at this
        have l2 : es.toList.length = es.size := Array.length_toList
        omega
      obtain ⟨k, tk, e2, e3⟩ := I.good x hx
      obtain ⟨x1, x2⟩ := x
      dsimp only at e2 e3
      subst e2
      subst e3
      dsimp only
      have I2 : Is h2 a es ep t := I0.same sb2 (Nat.ne_of_lt lta)
      have J2 : SetR w h2 b T m := J0.at fun o e => by rw [sb2.2 b (Nat.ne_of_lt ltb)]; exact e
      have sp : (done ++ [(hashInt k, Value.int k tk)]).map keyOf = done.map keyOf ++ [k] := by rw [List.map_append]; rfl
      refine wpAny_bind (wpAny_holding ?_)
      refine wp_if_pos (by trivial) ?_
      refine wpAny_bind (wpAny_setFind_of (s := { s with heap := h2 }) (knd := intKind P w) (intKind_is P w k tk) rfl J2.setOf fun r hr => ?_)
      try refine wpAny_bind (wpAny_pure ?_)
      cases hTk : T k with
      | true =>
        rw [hTk] at hr
        refine wp_if_neg (by rw [hr]; simp) ?_
        refine wpAny_pure ?_
        refine wpAny_bind (unch (s := { s with heap := h2 }) I2 ?_)
        refine wpAny_pure ⟨done ++ [(hashInt k, Value.int k tk)], h2, c2, by rw [esplit, List.append_assoc]; rfl, rfl, sb2, by rw [List.length_append]; omega, R3.congr fun j => ?_⟩
        rw [sp]
        exact dec_t hTk j
      | false =>
        rw [hTk] at hr
        refine wp_if_pos (by rw [hr]; rfl) ?_
        refine wpAny_bind (setR_add_hashed (s := { s with heap := h2 }) (P := P) R3 (by unfold scanBound; omega) fun h3 sb3 R4 => ?_)
        refine wpAny_pure ?_
        refine wpAny_bind (unch (s := { s with heap := h3 }) (I2.same sb3 (Nat.ne_of_lt lta)) ?_)
        refine wpAny_pure ⟨done ++ [(hashInt k, Value.int k tk)], h3, _, by rw [esplit, List.append_assoc]; rfl, rfl, sb2.trans sb3, ?_, R4.congr fun j => ?_⟩
        · rw [List.length_append, List.length_singleton]
          split <;> omega
        · rw [sp]
          exact dec_f hTk j
    · obtain ⟨done, h2, c2, esplit, rfl, sb2, lc, R3⟩ := hI
      rw [List.append_nil] at esplit
      rw [← esplit] at R3
      refine wpAny_pure (wpAny_pure (h h2 ⟨fun c o e => ?_, ?_⟩))
      · rw [sb2.2 c (Nat.ne_of_lt (Heap.lt_size e))]
        exact k0 c o e
      · obtain ⟨e4, ep4, t4, I4, m4, _⟩ := Is.of R3
        refine ⟨e4, ep4, t4, I4, fun k => ?_⟩
        rw [← m4 k, Bool.and_eq_true, decide_eq_true_eq, (pw.map keyOf).mem_iff, ← hS k, Bool.not_eq_true']
/-- a - b -/
theorem entry_sub : entryFor table "set.__sub__" = some Builtin.«frozenset.__sub__» :=
  entryFor_alias (id' := "frozenset.__sub__") (by kernel_rfl) rfl (by decide +kernel) (by kernel_rfl)
theorem sub_at (R : SetR w s.heap a S n) (R2 : SetR w s.heap b T m) (hne : a ≠ b) (hn : n < 32) (hk : ∀ k, S k = true → 0 ≤ k ∧ k < 32) {Q : Value → Shared → Prop}
    (h : ∀ h', Diff s.heap S T s.heap.objs.size h' → Q (.ref s.heap.objs.size) { s with heap := h' }) : wpAny (model P w) A (binaryOp .Sub (.ref a) (.ref b)) Q E s := by
  obtain ⟨es, ep, t, I, _⟩ := Is.of R
  obtain ⟨eb, epb, tb, J, _⟩ := Is.of R2
  refine wpAny_binaryOp_same (T := "set") (op := .Sub) I.type J.type PySem.F.fills_set_sub PySem.F.slot_set_sub ?_
  refine wpAny_call_entry PySem.F.slot_set_sub I.type entry_sub ?_ (PySem.F.args_set_sub_2 _ _)
  show wpAny _ _ (Builtin.Frozenset.slot1 "__sub__" ⟨[.ref a, .ref b], []⟩ >>= _) _ _ s
  unfold Builtin.Frozenset.slot1 slotArgs
  refine wpAny_bind (m := (do
    let (self, [x]) ← (pure (Value.ref a, [Value.ref b]) : Sem (Value × List Value)) | unsupported "internal:set-binding"
    return (self, x))) (wpAny_bind (wpAny_pure (wpAny_pure ?_)))
  refine wpAny_bind ?_
  refine wpAny_bind (anySet I ?_)
  refine anySet J ?_
  refine wp_if_neg (by simp) ?_
  try refine wpAny_bind (wpAny_pure ?_)
  refine wpAny_bind (diff_at R R2 hne hn hk fun h' d => ?_)
  exact wpAny_pure ⟨_, rfl, (fun z => nomatch z), h h' d⟩
end
end SD
end L2

namespace L2
open PySem PySem.Spec PyProof.Rows
namespace SD
/-- a new empty set, as the maker leaves it -/
def e0 (w : World) : Obj := { cls := .type "set", dict := none, data := .set #[] 0 (.fresh 0 0 (!w.params.followText "set-order")) }
section
variable {P : Program} {w : World} {A : Around} {E : Value → Shared → Prop} {s : Shared}
set_option maxHeartbeats 3200000 in
/-- set(xs), xs a list of ints: as a set that can be gone through -/
theorem set_of_list {l : Addr} {items : Array Value} (ns : List Int) {Q : Value → Shared → Prop} (hh : A.handled = none) (hl : s.heap.IsList l items) (hit : IntsAre items.toList ns) (hb : ns.length + 1 < scanBound)
    (h : ∀ (h' : Heap) (tk c : Nat), SetR w h' s.heap.objs.size (fun j => decide (j ∈ ns)) c → c ≤ ns.length → (∀ b o, s.heap.get? b = some o → h'.get? b = some o) → Q (.ref s.heap.objs.size) { s with heap := h', toks := tk }) :
    wpAny (model P w) A (call (.type "set") [.ref l]) Q E s := by
  have sz : items.size = ns.length := (Array.length_toList (xs := items)).symm.trans (IntsAre.length hit)
  have V : ∀ (i : Nat) (v : Value), items[i]? = some v → ∃ k t, ns[i]? = some k ∧ v = .int k t := fun i v hv => by
    have hi : i < ns.length := sz ▸ (Array.getElem?_eq_some_iff.mp hv).1
    obtain ⟨t, e⟩ := IntsAre.int_at hit i v (by rw [Array.getElem?_toList]; exact hv)
    exact ⟨ns[i], t, List.getElem?_eq_getElem hi, by rw [e, List.getD_eq_getElem?_getD, List.getElem?_eq_getElem hi]; rfl⟩
  obtain ⟨_, _, mro⟩ := PySem.F.called_set.mro
  have made := PySem.F.called_set.made; have sub := PySem.F.called_set.sub
  refine wpAny_call (codeAny_of_tree (show wpAny _ _ (callAny (.type "set") _) _ _ _ from ?_))
  refine wpAny_pure ⟨Code.quiet_builtin _ (by decide +kernel), codeAny_builtin PySem.F.entry_type_call ?_⟩
  rw [Around.under_plain (weight_type_call_type "set" [.ref l] []) rfl]
  have nt := PySem.F.called_set.notType; have cc := PySem.F.called_set.canCreate; have tc := PySem.F.typeCall_set_1 (.ref l)
  repeat (any_goals (first | assumption | wp_step))
  have at0 : (s.heap.push (e0 w)).get? s.heap.objs.size = some (e0 w) := Heap.get?_push_size _ rfl
  have keep0 : ∀ b o, s.heap.get? b = some o → (s.heap.push (e0 w)).get? b = some o := fun b o e => Heap.get?_push_of_some _ e
  refine codeAny_mono (code_set_led1 (.ref l) (E := E) (Q₁ := fun ob s₁ => ob = .ref s.heap.objs.size ∧ s₁ = { s with heap := s.heap.push (e0 w) }) ⟨rfl, rfl⟩) fun r s₁ hr => ?_
  match r, hr with
  | .error e, hr => exact hr
  | .ok (.ret ob), hr =>
    obtain ⟨rfl, rfl⟩ := hr
    have ty : Shared.TypeIs { s with heap := s.heap.push (e0 w) } (.ref s.heap.objs.size) "set" := ⟨_, at0, rfl⟩
    have il := PySem.F.called_set.init.lookup; have ib := PySem.F.called_set.init.bind (.ref s.heap.objs.size)
    repeat (any_goals (first | assumption | wp_step))
    refine codeAny_mono (codeAny_call_builtin (R := wants (fun r s₂ => r = .none ∧ ∃ h' tk c, s₂ = { s with heap := h', toks := tk } ∧ SetR w h' s.heap.objs.size (fun j => decide (j ∈ ns)) c ∧ c ≤ ns.length ∧ ∀ b o, s.heap.get? b = some o → h'.get? b = some o) E)
      PySem.F.called_set.init.plain PySem.F.entry_set_init (check_set_init_1 ty ?_)) fun r₂ s₂ hr₂ => ?_
    · obtain ⟨⟨oc, od, oda, osl⟩, hol, hcl, nl, hdl⟩ := hl
      simp only at hcl hdl
      subst hcl; subst hdl
      have ol' := keep0 _ _ hol
      have s1 := PySem.F.sub_list_set; have s2 := PySem.F.sub_list_frozenset
      have nd : (Value.type "list" == Value.type "dict") = false := by decide
      have isl : (s.heap.push (e0 w)).IsList l items := ⟨_, ol', rfl, nl, rfl⟩
      have lS : l < s.heap.objs.size := Heap.lt_size hol
      have zz : (s.heap.push (e0 w)).objs.size = s.heap.objs.size + 1 := Heap.size_push ..
      unfold Builtin.«set.__init__» noKeywords Builtin.Frozenset.updateFrom
      generalize hPI : pyIter = PI
      wp_walk
      subst hPI
      refine wpAny_pyIter_list isl (wpAny_bind (wpAny_runValue ?_))
      have h3 : A.in1.in1.in1.handled = none := by simp [hh]
      have neI : l ≠ (s.heap.push (e0 w)).objs.size := by rw [zz]; exact Nat.ne_of_lt (Nat.lt_succ_of_lt lS)
      refine set_update_ints ((Walks.list h3 _ l neI items).toS) s.heap.objs.size (by rw [zz]; simpa using fun z : s.heap.objs.size = l => Nat.ne_of_gt lS z) ns sz hb V (items.size - 0) 0 _ (by omega) (Nat.zero_le _) ⟨⟨_, Heap.get?_push_size _ rfl, rfl, rfl⟩, isl.push _⟩
        ⟨0, Nat.le_refl 0, setR_new_at (Heap.get?_push_of_some _ at0)⟩ fun s' c' hm lc hS' => ?_
      obtain ⟨h', g2, d', tk', os'⟩ := s'
      obtain rfl : g2 = s.gens := hm.gens
      obtain rfl : d' = s.drawn := hm.drawn
      obtain rfl : os' = s.os := hm.os
      refine (show wpAny _ _ _ _ _ _ from wpAny_pure ?_)
      refine (show wpAny _ _ (ret Value.none) _ _ _ from wpAny_pure ⟨rfl, h', tk', c', rfl, hS', by omega, fun b o e => ?_⟩)
      have hb0 : b < s.heap.objs.size := Heap.lt_size e
      refine hm.heap b o ?_ (Heap.get?_push_of_some _ (keep0 b o e))
      rw [zz]
      simpa using ⟨Nat.ne_of_lt hb0, Nat.ne_of_lt (Nat.lt_succ_of_lt hb0)⟩
    · match r₂, hr₂ with
      | .error e, hr₂ => exact hr₂
      | .ok (.ret r), hr₂ =>
        obtain ⟨rfl, h', tk, c', rfl, hS', hc', hk'⟩ := hr₂
        repeat (any_goals (first | assumption | wp_step))
        exact h _ _ _ hS' hc' hk'
      | .ok .next, hr₂ => exact hr₂.elim
      | .ok .brk, hr₂ => exact hr₂.elim
      | .ok .cont, hr₂ => exact hr₂.elim
  | .ok .next, hr => exact hr.elim
  | .ok .brk, hr => exact hr.elim
  | .ok .cont, hr => exact hr.elim
end
end SD
end L2

namespace L2
open PySem PySem.Spec PyProof.Rows
namespace SD
theorem pigeon {α : Type} [DecidableEq α] : ∀ (l m : List α), l.Nodup → (∀ x ∈ l, x ∈ m) → l.length ≤ m.length
  | [], _, _, _ => Nat.zero_le _
  | x :: l, m, nd, hs => by
    obtain ⟨n1, n2⟩ := List.nodup_cons.mp nd
    have hx := hs x List.mem_cons_self
    have ih := pigeon l (m.erase x) n2 fun y hy => (List.mem_erase_of_ne fun e => n1 (by rw [← e]; exact hy)).mpr (hs y (List.mem_cons_of_mem _ hy))
    have e := List.length_erase_of_mem hx
    have hp := List.length_pos_of_mem hx
    rw [List.length_cons]
    omega
theorem same_len {α : Type} [DecidableEq α] {l m : List α} (nl : l.Nodup) (nm : m.Nodup) (h : ∀ x, x ∈ l ↔ x ∈ m) : l.length = m.length :=
  Nat.le_antisymm (pigeon l m nl fun x hx => (h x).mp hx) (pigeon m l nm fun x hx => (h x).mpr hx)
section
variable {X : Cx}
/-- len(set(xs)): as many as there are different ones -/
def tLenSet (K : PySem.W.Frag) (ta : TE) : TE := fun σ H Q => ta σ H fun x H1 => ∃ (l : Addr) (ns : List Int), x = V.ref l ∧ SqL K H1 l (ns.map V.int) ∧ ns.length < 64 ∧
  ∀ L : List Int, L.Nodup → (∀ k, k ∈ L ↔ k ∈ ns) → Q (.int L.length) H1
/-- len(set(xs) - set(ys)) -/
def tLenSub (K : PySem.W.Frag) (ta tb : TE) : TE := fun σ H Q => ta σ H fun x H1 => ∃ (l : Addr) (ns : List Int), x = V.ref l ∧ SqL K H1 l (ns.map V.int) ∧ ns.length < 32 ∧ (∀ k ∈ ns, 0 ≤ k ∧ k < 32) ∧
  tb σ H1 fun y H2 => ∃ (l2 : Addr) (ms : List Int), y = V.ref l2 ∧ SqL K H2 l2 (ms.map V.int) ∧ ms.length < 64 ∧ ∀ L : List Int, L.Nodup → (∀ k, k ∈ L ↔ k ∈ ns ∧ k ∉ ms) → Q (.int L.length) H2
theorem pe_lenSetD {a : Expr} {ta : TE} {p p2 q pos : Pos} (hc : X.calm = true) (hg : Gl X "len") (hm : X.mg "len" = none) (hg2 : Gl X "set") (hm2 : X.mg "set" = none) (ha : PE X a ta)
    (na : starEach [a] X.env = (false, eval a X.env) :: starEach [] X.env := by rfl) : PE X (.Call (.Name "len" p) [.Call (.Name "set" p2) [a] [] q] [] pos) (tLenSet X.K ta) := by
  refine ⟨fun pins s σ H Q I h => ?_⟩
  refine Call_ (ld_blt I hg hm PySem.boot_len (callWith_builtin1 (args_cons ?_ rfl) rfl rfl))
  refine Call_ (ld_blt I hg2 hm2 PyProof.Rows.boot_set (callWith_type1 (args_cons (thn (ha.run pins s σ H _ I h) fun v s1 ⟨x, H1, I1, r1, q1⟩ => args_nil ?_) na) na rfl))
  obtain ⟨l, ns, rfl, hq, h1, q1⟩ := q1
  cases r1
  obtain ⟨its, r, pl, hz⟩ := I1.list hq
  refine set_of_list ns (I1.ok.hd hc) pl.isList (by simpa using r.ints) (by unfold scanBound; omega) fun h' tk c R hcn hk => args_nil ?_
  obtain ⟨es, ep, t, J, hS, hsz, _⟩ := Is.of R
  obtain ⟨o, ho, hx, hd⟩ := J.at'
  have I2 : Inv X pins σ H1 { s1 with heap := h', toks := tk } := I1.kept hk
  refine call_len_set ho hx hd J.fit (by omega) ⟨.int (es.toList.map keyOf).length, H1, I2.tok _, ⟨_, by rw [List.length_map, Array.length_toList]⟩, q1 _ J.nd fun k => ?_⟩
  rw [← hS k, decide_eq_true_eq]
theorem pe_lenSub {a b : Expr} {ta tb : TE} {p p2 p3 q q3 pb pos : Pos} (hc : X.calm = true) (hg : Gl X "len") (hm : X.mg "len" = none) (hg2 : Gl X "set") (hm2 : X.mg "set" = none) (ha : PE X a ta) (hb : PE X b tb)
    (na : starEach [a] X.env = (false, eval a X.env) :: starEach [] X.env := by rfl) (nb : starEach [b] X.env = (false, eval b X.env) :: starEach [] X.env := by rfl) :
    PE X (.Call (.Name "len" p) [.BinOp (.Call (.Name "set" p2) [a] [] q) .Sub (.Call (.Name "set" p3) [b] [] q3) pb] [] pos) (tLenSub X.K ta tb) := by
  refine ⟨fun pins s σ H Q I h => ?_⟩
  refine Call_ (ld_blt I hg hm PySem.boot_len (callWith_builtin1 (args_cons (wpAny_BinOp ?_) rfl) rfl rfl))
  refine Call_ (ld_blt I hg2 hm2 PyProof.Rows.boot_set (callWith_type1 (args_cons (thn (ha.run pins s σ H _ I h) fun v s1 ⟨x, H1, I1, r1, q1⟩ => args_nil ?_) na) na rfl))
  obtain ⟨l, ns, rfl, hq, h1, hr, q1⟩ := q1
  cases r1
  obtain ⟨its, r, pl, hz⟩ := I1.list hq
  refine set_of_list ns (I1.ok.hd hc) pl.isList (by simpa using r.ints) (by unfold scanBound; omega) fun h' tk c R hcn hk => ?_
  have I2 : Inv X pins σ H1 { s1 with heap := h', toks := tk } := I1.kept hk
  obtain ⟨oa, hoa⟩ : ∃ o, h'.get? s1.heap.objs.size = some o := by
    obtain ⟨o, _, _, _, ho, _⟩ := id R
    exact ⟨o, ho⟩
  have nocell : ∀ v, oa.data ≠ .cell v := fun v z => by
    obtain ⟨o, es, ep, t, ho, _, hd, _⟩ := id R
    rw [hoa] at ho
    obtain rfl := Option.some.inj ho
    rw [hd] at z
    cases z
  have I3 : Inv X ((s1.heap.objs.size, oa) :: pins) σ H1 { s1 with heap := h', toks := tk } := I2.pins_of fun p hp => by
    rcases List.mem_cons.mp hp with rfl | hp
    · exact ⟨hoa, I1.hok.fresh (Nat.le_refl _), Nat.ne_of_gt I1.lt, I1.nofs (Nat.le_refl _), nocell⟩
    · exact I2.pin p (List.mem_append_right _ hp)
  refine Call_ (ld_blt I3 hg2 hm2 PyProof.Rows.boot_set (callWith_type1 (args_cons (thn (hb.run _ _ σ H1 _ I3 q1) fun u s2 ⟨y, H2, I4, r2, q2⟩ => args_nil ?_) nb) nb rfl))
  obtain ⟨l2, ms, rfl, hq2, h2, q2⟩ := q2
  cases r2
  obtain ⟨its2, r2, pl2, hz2⟩ := I4.list hq2
  refine set_of_list ms (I4.ok.hd hc) pl2.isList (by simpa using r2.ints) (by unfold scanBound; omega) fun h2' tk2 c2 R2 hcn2 hk2 => ?_
  have pa := (I4.pin (s1.heap.objs.size, oa) (List.mem_append_right _ List.mem_cons_self)).1
  have Ra : SetR X.w h2' s1.heap.objs.size (fun j => decide (j ∈ ns)) c := R.at fun o e => by
    rw [hoa] at e
    obtain rfl := Option.some.inj e
    exact hk2 _ _ pa
  have lta : s1.heap.objs.size < s2.heap.objs.size := Heap.lt_size pa
  refine sub_at (s := { s2 with heap := h2', toks := tk2 }) Ra R2 (Nat.ne_of_lt lta) (by omega) (fun k hkk => hr k (of_decide_eq_true hkk)) fun h3 D => args_nil ?_
  obtain ⟨hk3, es, ep, t, J, mem⟩ := D
  obtain ⟨o, ho, hx, hd⟩ := J.at'
  have I5 : Inv X pins σ H2 { s2 with heap := h3, toks := tk2 } := (I4.pins_of fun p hp => I4.pin p (List.mem_append_right _ (List.mem_cons_of_mem _ hp))).kept fun b u e => hk3 b u (hk2 b u e)
  have lt := J.lt
  refine call_len_set (s := { s2 with heap := h3, toks := tk2 }) ho hx hd J.fit (by unfold scanBound at lt; omega) ⟨.int (es.toList.map keyOf).length, H2, I5.tok _, ⟨_, by rw [List.length_map, Array.length_toList]⟩, q2 _ J.nd fun k => ?_⟩
  rw [mem k, decide_eq_true_eq, decide_eq_false_iff_not]
end
end SD
end L2

namespace L2
open PySem PySem.Spec PyProof.Rows
namespace SD
section
variable {P : Program} {w : World} {A : Around} {E : Value → Shared → Prop} {s : Shared}
set_option maxHeartbeats 3200000 in
/-- set(xs), xs a tuple of ints -/
theorem set_of_tup {l : Addr} {items : Array Value} (ns : List Int) {Q : Value → Shared → Prop} (hh : A.handled = none) (hl : IsTup s.heap l items) (hit : IntsAre items.toList ns) (hb : ns.length + 1 < scanBound)
    (h : ∀ (h' : Heap) (tk c : Nat), SetR w h' s.heap.objs.size (fun j => decide (j ∈ ns)) c → c ≤ ns.length → (∀ b o, s.heap.get? b = some o → h'.get? b = some o) → Q (.ref s.heap.objs.size) { s with heap := h', toks := tk }) :
    wpAny (model P w) A (call (.type "set") [.ref l]) Q E s := by
  have sz : items.size = ns.length := (Array.length_toList (xs := items)).symm.trans (IntsAre.length hit)
  have V : ∀ (i : Nat) (v : Value), items[i]? = some v → ∃ k t, ns[i]? = some k ∧ v = .int k t := fun i v hv => by
    have hi : i < ns.length := sz ▸ (Array.getElem?_eq_some_iff.mp hv).1
    obtain ⟨t, e⟩ := IntsAre.int_at hit i v (by rw [Array.getElem?_toList]; exact hv)
    exact ⟨ns[i], t, List.getElem?_eq_getElem hi, by rw [e, List.getD_eq_getElem?_getD, List.getElem?_eq_getElem hi]; rfl⟩
  obtain ⟨_, _, mro⟩ := PySem.F.called_set.mro
  have made := PySem.F.called_set.made; have sub := PySem.F.called_set.sub
  refine wpAny_call (codeAny_of_tree (show wpAny _ _ (callAny (.type "set") _) _ _ _ from ?_))
  refine wpAny_pure ⟨Code.quiet_builtin _ (by decide +kernel), codeAny_builtin PySem.F.entry_type_call ?_⟩
  rw [Around.under_plain (weight_type_call_type "set" [.ref l] []) rfl]
  have nt := PySem.F.called_set.notType; have cc := PySem.F.called_set.canCreate; have tc := PySem.F.typeCall_set_1 (.ref l)
  repeat (any_goals (first | assumption | wp_step))
  have at0 : (s.heap.push (e0 w)).get? s.heap.objs.size = some (e0 w) := Heap.get?_push_size _ rfl
  have keep0 : ∀ b o, s.heap.get? b = some o → (s.heap.push (e0 w)).get? b = some o := fun b o e => Heap.get?_push_of_some _ e
  refine codeAny_mono (code_set_led1 (.ref l) (E := E) (Q₁ := fun ob s₁ => ob = .ref s.heap.objs.size ∧ s₁ = { s with heap := s.heap.push (e0 w) }) ⟨rfl, rfl⟩) fun r s₁ hr => ?_
  match r, hr with
  | .error e, hr => exact hr
  | .ok (.ret ob), hr =>
    obtain ⟨rfl, rfl⟩ := hr
    have ty : Shared.TypeIs { s with heap := s.heap.push (e0 w) } (.ref s.heap.objs.size) "set" := ⟨_, at0, rfl⟩
    have il := PySem.F.called_set.init.lookup; have ib := PySem.F.called_set.init.bind (.ref s.heap.objs.size)
    repeat (any_goals (first | assumption | wp_step))
    refine codeAny_mono (codeAny_call_builtin (R := wants (fun r s₂ => r = .none ∧ ∃ h' tk c, s₂ = { s with heap := h', toks := tk } ∧ SetR w h' s.heap.objs.size (fun j => decide (j ∈ ns)) c ∧ c ≤ ns.length ∧ ∀ b o, s.heap.get? b = some o → h'.get? b = some o) E)
      PySem.F.called_set.init.plain PySem.F.entry_set_init (check_set_init_1 ty ?_)) fun r₂ s₂ hr₂ => ?_
    · obtain ⟨⟨oc, od, oda, osl⟩, hol, hcl, nl, hdl⟩ := hl
      simp only at hcl hdl
      subst hcl; subst hdl
      have ol' := keep0 _ _ hol
      have s1 := PySem.F.sub_tuple_set; have s2 := PySem.F.sub_tuple_frozenset
      have nd : (Value.type "tuple" == Value.type "dict") = false := by decide
      have isl : (s.heap.push (e0 w)).IsTuple l items := ⟨_, ol', rfl, nl, rfl⟩
      have lS : l < s.heap.objs.size := Heap.lt_size hol
      have zz : (s.heap.push (e0 w)).objs.size = s.heap.objs.size + 1 := Heap.size_push ..
      unfold Builtin.«set.__init__» noKeywords Builtin.Frozenset.updateFrom
      generalize hPI : pyIter = PI
      wp_walk
      subst hPI
      refine wpAny_pyIter_tuple isl (wpAny_bind (wpAny_runValue ?_))
      have h3 : A.in1.in1.in1.handled = none := by simp [hh]
      have neI : l ≠ (s.heap.push (e0 w)).objs.size := by rw [zz]; exact Nat.ne_of_lt (Nat.lt_succ_of_lt lS)
      refine set_update_ints ((Walks.tuple h3 _ l neI items).toS) s.heap.objs.size (by rw [zz]; simpa using fun z : s.heap.objs.size = l => Nat.ne_of_gt lS z) ns sz hb V (items.size - 0) 0 _ (by omega) (Nat.zero_le _) ⟨⟨_, Heap.get?_push_size _ rfl, rfl, rfl⟩, ⟨_, Heap.get?_push_of_some _ ol', rfl, nl, rfl⟩⟩
        ⟨0, Nat.le_refl 0, setR_new_at (Heap.get?_push_of_some _ at0)⟩ fun s' c' hm lc hS' => ?_
      obtain ⟨h', g2, d', tk', os'⟩ := s'
      obtain rfl : g2 = s.gens := hm.gens
      obtain rfl : d' = s.drawn := hm.drawn
      obtain rfl : os' = s.os := hm.os
      refine (show wpAny _ _ _ _ _ _ from wpAny_pure ?_)
      refine (show wpAny _ _ (ret Value.none) _ _ _ from wpAny_pure ⟨rfl, h', tk', c', rfl, hS', by omega, fun b o e => ?_⟩)
      have hb0 : b < s.heap.objs.size := Heap.lt_size e
      refine hm.heap b o ?_ (Heap.get?_push_of_some _ (keep0 b o e))
      rw [zz]
      simpa using ⟨Nat.ne_of_lt hb0, Nat.ne_of_lt (Nat.lt_succ_of_lt hb0)⟩
    · match r₂, hr₂ with
      | .error e, hr₂ => exact hr₂
      | .ok (.ret r), hr₂ =>
        obtain ⟨rfl, h', tk, c', rfl, hS', hc', hk'⟩ := hr₂
        repeat (any_goals (first | assumption | wp_step))
        exact h _ _ _ hS' hc' hk'
      | .ok .next, hr₂ => exact hr₂.elim
      | .ok .brk, hr₂ => exact hr₂.elim
      | .ok .cont, hr₂ => exact hr₂.elim
  | .ok .next, hr => exact hr.elim
  | .ok .brk, hr => exact hr.elim
  | .ok .cont, hr => exact hr.elim
end
section
variable {X : Cx}
/-- len(set(t)), t a tuple: as many as there are different ones -/
def tLenSetT (K : PySem.W.Frag) (ta : TE) : TE := fun σ H Q => ta σ H fun x H1 => ∃ (l : Addr) (ns : List Int), x = V.ref l ∧ SqT K H1 l (ns.map V.int) ∧ ns.length < 64 ∧
  ∀ L : List Int, L.Nodup → (∀ k, k ∈ L ↔ k ∈ ns) → Q (.int L.length) H1
theorem pe_lenSetT {a : Expr} {ta : TE} {p p2 q pos : Pos} (hc : X.calm = true) (hg : Gl X "len") (hm : X.mg "len" = none) (hg2 : Gl X "set") (hm2 : X.mg "set" = none) (ha : PE X a ta)
    (na : starEach [a] X.env = (false, eval a X.env) :: starEach [] X.env := by rfl) : PE X (.Call (.Name "len" p) [.Call (.Name "set" p2) [a] [] q] [] pos) (tLenSetT X.K ta) := by
  refine ⟨fun pins s σ H Q I h => ?_⟩
  refine Call_ (ld_blt I hg hm PySem.boot_len (callWith_builtin1 (args_cons ?_ rfl) rfl rfl))
  refine Call_ (ld_blt I hg2 hm2 PyProof.Rows.boot_set (callWith_type1 (args_cons (thn (ha.run pins s σ H _ I h) fun v s1 ⟨x, H1, I1, r1, q1⟩ => args_nil ?_) na) na rfl))
  obtain ⟨l, ns, rfl, hq, h1, q1⟩ := q1
  cases r1
  obtain ⟨its, r, pl, hz⟩ := I1.tuple hq
  refine set_of_tup ns (I1.ok.hd hc) pl (by simpa using r.ints) (by unfold scanBound; omega) fun h' tk c R hcn hk => args_nil ?_
  obtain ⟨es, ep, t, J, hS, hsz, _⟩ := Is.of R
  obtain ⟨o, ho, hx, hd⟩ := J.at'
  have I2 : Inv X pins σ H1 { s1 with heap := h', toks := tk } := I1.kept hk
  refine call_len_set ho hx hd J.fit (by omega) ⟨.int (es.toList.map keyOf).length, H1, I2.tok _, ⟨_, by rw [List.length_map, Array.length_toList]⟩, q1 _ J.nd fun k => ?_⟩
  rw [← hS k, decide_eq_true_eq]
end
end SD
end L2

/-! ### a def that is called, within an except suite, with the exception that the suite holds -/
namespace L2
open PySem PySem.Spec PyProof.Rows
structure FnE (P : Program) (w : World) (K : PySem.W.Frag) (mg : Str → Option Value) (base : Heap) (k : Nat) (f : Addr) (fd : FuncData) (ps : List Str) (sp : Addr → Value → Option Addr → Sp) : Prop where
  len : ∀ a cls d vs H Q E, sp a cls d vs H Q E → vs.length = ps.length
  run : ∀ (A : Around) (outer : List Env) (s : Shared) (H : Hp) (args : Args) (us : List Value) (vs : List V) (Q : VK) (E : XK) (a : Addr) (oe : Obj) (cls : Value) (d : Option Addr), L2H.RoomH k A → L2H.Hot1 A (a, oe) → L2H.PinOk outer H s (a, oe) → Zc cls d oe → Env0 P w K mg base A outer s H →
    BindsTo s fd args (ps.zip us) → Vals vs us → sp a cls d vs H Q E → codeAny (model P w) A (.call (.ref f) args) (CR CX0 outer P w H s Q E) s
theorem Fun.okE {P : Program} {w : World} {K : PySem.W.Frag} {mg : Str → Option Value} {base : Heap} {x qual : Str} {st : Stmt} {f : Addr} {fd : FuncData} {N ps : List Str} {k : Nat} {sp : Addr → Value → Option Addr → Sp} (F : Fun K x qual st f fd) (S : FnScope N ps (defScope st))
    (len : ∀ a cls d vs H Q E, sp a cls d vs H Q E → vs.length = ps.length)
    (hbody : ∀ (cdv : Value) (A : Around) (outer : List Env) (s : Shared) (H : Hp) (vs : List V) (Q : VK) (E : XK) (a : Addr) (oe : Obj) (cls : Value) (d : Option Addr), Zc cls d oe → (∃ vs, oe.data = .fields vs) →
      L2H.RoomH k (A.deeper (envOfC qual (defScope st) s.heap.objs.size f cdv)) → sp a cls d vs H Q E →
      ∃ t, PSs (L2H.cxH CX0 P w K mg base N qual (defScope st) f cdv A outer s H E (a, oe)) (defBody st) t ∧ t { nx := fun _ H' => Q .non H', rt := Q } (start N vs) H) : FnE P w K mg base (k + 1) f fd ps sp := by
  obtain ⟨oc, od, kV, doc, pm, an, cdv, ct, osl, rfl, lk, hcd⟩ := F.ex
  refine ⟨len, fun A outer s H args us vs Q E a oe cls d hr hot hpin hz e0 hb r hsp => ?_⟩
  have keep := fun b o (e : base.get? b = some o) => (e0.bs b o e).1
  have inK : K.In s.heap := e0.mod.kin.keeps keep
  refine codeAny_call_function hr.depth (inK _ _ lk) rfl S.co S.gen rfl (PySem.W.codeRec_of inK hcd) (hb _ _ _ _ ?_)
  refine wpAny_newFunctionEnv_cells S.kind (fun ⟨n, v⟩ hy => ?_) fun env he s1 xx => ?_
  · exact (S.par n (List.of_mem_zip hy).1).elim .inl fun q => .inr ⟨q, PySem.W.cellsFrom_some _ _ _ (.inl q)⟩
  · subst he
    refine ⟨(e0.mod.nolimit.keeps keep).keeps xx.toInCall.keep, codeAny_func ?_⟩
    obtain ⟨t, ht, hq⟩ := hbody cdv A outer s H vs Q E a oe cls d hz ⟨_, hot.2.choose_spec.1⟩ (hr.deeper _) hsp
    have I := L2H.inv_startH (CX := CX0) (E := E) S hpin e0 (len _ _ _ _ _ _ _ hsp) r xx
    refine wpAny_mono (ht.run [] s1 _ H _ I hq) (fun fl s' hs => ?_) fun e s' hs => hs
    have fin : ∀ {σ' : St} {H' : Hp} {v : V} {u : Value}, Inv (L2H.cxH CX0 P w K mg base N qual (defScope st) f cdv A outer s H E (a, oe)) [] σ' H' s' → RelV v u → Q v H' → CE outer P w H s Q u s' :=
      fun {σ' H' v u} J rv q => ⟨v, H', J.os, J.bare, J.base, J.hok, rv, q⟩
    rcases fl with _ | _ | _ | u
    · obtain ⟨σ', H', J, q⟩ := hs
      exact fin (v := V.non) (u := Value.none) J rfl q
    · exact hs.elim fun _ z => z.elim fun _ z => z.2.elim
    · exact hs.elim fun _ z => z.elim fun _ z => z.2.elim
    · obtain ⟨v, σ', H', J, rv, q⟩ := hs
      exact fin J rv q
theorem roomE_of {k : Nat} {A : Around} (r : Room k A) (v : Option Value) : L2H.RoomH k (A.mark v) := ⟨r.dp, r.un⟩
def tCallX1 (sp : Addr → Value → Option Addr → Sp) (a : Addr) (cls : Value) (d : Option Addr) (t : TA) : TE := fun σ H Q => t σ H fun vs H1 => sp a cls d vs H1 Q E0
theorem pe_callX1 {X : Cx} {k : Nat} {f : Addr} {fd : FuncData} {ps : List Str} {sp : Addr → Value → Option Addr → Sp} {x : Str} {q pos : Pos} {e : Expr} {es : List Expr} {t : TA} {a : Addr} {oe : Obj} {cls : Value} {d : Option Addr} {pn : List (Addr × Obj)}
    (F : FnE X.prog X.w X.K X.mg X.base k f fd ps sp) (hr : Room k X.A) (hz : L2N.Zn cls d oe) (hf : ∃ vs, oe.data = .fields vs) (hg : Gl X x) (hm : X.mg x = some (.ref f)) (hk : PySem.W.keepIn X.K (.ref f) = true) (hb : Binds X.K fd ps [])
    (ha : PA (X.suite a ((a, oe) :: pn)) (e :: es) t) (hdb : (x == ("__debug__" : Str)) = false := by decide) (he : starEach (e :: es) X.env = (false, eval e X.env) :: starEach es X.env := by rfl) (hpl : (backTo pos (starEach es X.env)).any (·.1) = false := by rfl) :
    PE (X.suite a ((a, oe) :: pn)) (.Call (.Name x q) (e :: es) [] pos) (tCallX1 sp a cls d t) := by
  refine ⟨fun pins s σ H Q I h => ?_⟩
  refine wpAny_Call_Name_kw (ld_glob (X := X.suite a ((a, oe) :: pn)) I hg hm ?_ hdb)
  refine PySem.W.callWith_K (h₀ := X.base) I.ok.mod.kin hk (thn (ha.run pos pins s σ H _ I h) fun us s1 ⟨vs, H1, I1, r, q⟩ => ⟨I1.kIn, ?_⟩) he hpl
  have hl : us.length = ps.length := by rw [← r.length]; exact F.len _ _ _ _ _ _ _ q
  have b := hb s1 us I1.kIn (by rw [List.append_nil]; exact hl)
  rw [List.append_nil] at b
  have P1 := I1.pin (a, oe) (List.mem_append_left _ List.mem_cons_self)
  have hpin : L2H.PinOk (X.suite a ((a, oe) :: pn)).stack H1 s1 (a, oe) := ⟨P1.1, P1.2.1, fun hm => (List.mem_cons.mp (I1.stkSub a hm)).elim P1.2.2.1 P1.2.2.2.1, P1.2.2.2.2⟩
  have hot : L2H.Hot1 (X.suite a ((a, oe) :: pn)).A (a, oe) := by
    obtain ⟨vs, e⟩ := hf
    exact ⟨rfl, vs, e, hz.2.2 vs e⟩
  refine wpAny_call (codeAny_mono (F.run (X.suite a ((a, oe) :: pn)).A _ s1 H1 ⟨us, []⟩ us vs Q E0 a oe cls d (roomE_of hr _) hot hpin ⟨hz.1, hz.2.1⟩ I1.env0 b r q) fun r s' hq => ?_)
  cases r with
  | error e => exact hq.elim
  | ok fl =>
    cases fl with
    | ret u => exact I1.after hq
    | next => exact False.elim hq
    | brk => exact False.elim hq
    | cont => exact False.elim hq
/-- isinstance of that exception, in that def -/
def rIsEP (K : PySem.W.Frag) (cls : Value) (d : Option Addr) (a : Addr) : List V → Hp → VK → Prop := fun xs H Q => ∃ D : Addr, cls = .ref D ∧ d = none ∧ ExcC K D ∧ rIsE K D a xs H Q
theorem call_isEP {X : Cx} {a : Addr} {oe : Obj} {cls : Value} {d : Option Addr} (hp : (a, oe) ∈ X.pn) (hz : Zc cls d oe) (hf : ∃ vs, oe.data = .fields vs) : CallR X (.builtin "isinstance") (rIsEP X.K cls d a) := by
  intro pins s σ H xs us Q I r h
  obtain ⟨D, rfl, rfl, C, c, cv, b, rfl, hcv, e, q⟩ := h
  cases r with
  | cons rx rr =>
    cases rr with
    | cons rt rr =>
      cases rr
      cases rx
      have ec := hcv _ rt
      subst ec
      obtain ⟨hget, _⟩ := I.pin (a, oe) (List.mem_append.mpr (.inl hp))
      obtain ⟨vs, hv⟩ := hf
      have J : PySem.W.InstAt s.heap a oe D none := by
        obtain ⟨oc, od, oda, osl⟩ := oe
        obtain ⟨h1, h2⟩ := hz
        dsimp only at h1 h2 hv
        subst h1 h2 hv
        exact ⟨hget, rfl, rfl, trivial⟩
      exact PySem.W.kia_one (PySem.W.handS_kitx_exc C.hg C.hk C.hs C.hd C.ha C.hn C.ht C.hm) I.kIn J e (fun z => nomatch z) fun tk => ⟨.bl b, H, I.kept (t' := tk) fun _ _ z => z, rfl, q⟩
theorem call_isEH {P : Program} {w : World} {K : PySem.W.Frag} {mg : Str → Option Value} {base : Heap} {N : List Str} {qual : Str} {scope : Scope} {f : Addr} {cdv : Value} {A : Around} {outer : List Env} {s : Shared} {H : Hp} {E : XK} {a : Addr} {oe : Obj} {cls : Value} {d : Option Addr} (hz : Zc cls d oe) (hf : ∃ vs, oe.data = .fields vs) :
    CallR (L2H.cxH CX0 P w K mg base N qual scope f cdv A outer s H E (a, oe)) (.builtin "isinstance") (rIsEP K cls d a) :=
  call_isEP List.mem_cons_self hz hf
end L2

/-! ### any(list of integers); divmod by a divisor that may be negative -/
namespace L2
open PySem PySem.Spec PyProof.Rows
theorem vals_intsA : ∀ {zs : List Int} {its : List Value}, Vals (zs.map V.int) its → ∀ (i : Nat) (v : Value), its[i]? = some v → ∃ (z : Int) (t : Tok), zs[i]? = some z ∧ v = Value.int z t
  | [], _, h, i, v, e => by
    cases h
    exact nomatch e
  | z :: zs, _, h, i, v, e => by
    cases h with
    | cons r rs =>
      obtain ⟨t, rfl⟩ := r
      cases i with
      | zero => exact ⟨z, t, rfl, (Option.some.inj e).symm⟩
      | succ i => exact vals_intsA rs i v e
def rAnyI (K : PySem.W.Frag) : List V → Hp → VK → Prop := fun vs H Q => ∃ (a : Addr) (zs : List Int), vs = [V.ref a] ∧ SqL K H a (zs.map V.int) ∧ Q (.bl (zs.any (fun z => z != 0))) H
theorem cr_anyI {X : Cx} (hc : X.calm = true) : CallR X (.builtin "any") (rAnyI X.K) := by
  intro pins s σ H vs us Q I r h
  obtain ⟨a, zs, rfl, hs, q⟩ := h
  obtain ⟨its, rv, hl, _⟩ := I.list hs
  rw [Vals.ref1 r]
  have tr : TruthOf X.prog X.w X.A.in1 (fun i v => its.toArray[i]? = some v) (fun i => zs.getD i 0 != 0) := fun i v s Q E hv hq => by
    have hv' : its[i]? = some v := by simpa using hv
    obtain ⟨z, t, hz, rfl⟩ := vals_intsA rv i v hv'
    have e : zs.getD i 0 = z := by rw [List.getD_eq_getElem?_getD, hz]; rfl
    rw [← e]
    exact PySem.P.truthy_int hq
  refine call_any_walk (iter_any hl.isList fun s₂ e2 st hne => ?_)
  subst e2
  refine ⟨_, _, _, _, _, _, _, rfl, Walks.list (A := X.A.in1) (I.ok.hd hc) _ a hne its.toArray, st, tr, fun h' tk hk => ?_⟩
  refine ⟨.bl _, H, I.kept fun b o eo => hk b o (fun mem => ?_) (Heap.get?_push_of_some _ eo), ?_, q⟩
  · rcases List.mem_cons.mp mem with e1 | mem
    · exact absurd (e1 ▸ Heap.lt_size eo) (Nat.lt_irrefl _)
    · exact nomatch mem
  · show Value.bool _ = Value.bool _
    have len : its.toArray.size = zs.length := by
      have := rv.length
      rw [List.length_map] at this
      simp [this]
    have e : ∀ l : List Int, (List.range l.length).any (fun i => l.getD i 0 != 0) = l.any (fun z => z != 0) := fun l => by
      induction l with
      | nil => rfl
      | cons z l ih =>
        rw [List.length_cons, List.range_succ_eq_map, List.any_cons, List.any_map, List.any_cons, ← ih]
        rfl
    rw [len, e]
theorem call_divmodN {X : Cx} : CallR X (.builtin "divmod") (fun xs H Q => ∃ i j, xs = [.int i, .int j] ∧ CDivN i j ∧ ∀ p, H p = none → Q (.ref p) (upd H p (.tup [.int (i.fdiv j), .int (i.fmod j)]))) := by
  intro pins s σ H xs us Q I r h
  obtain ⟨i, j, rfl, ⟨h1, h2⟩, q⟩ := h
  obtain ⟨u, w', rfl, ⟨t, rfl⟩, ⟨t', rfl⟩⟩ := vals2 r
  refine divmod_int h1 ?_ (.inl (PyProof.noPylong_small h2))
  have free : H s.heap.objs.size = none := I.hok.fresh (Nat.le_refl _)
  have laid := I.laid (t' := s.toks + 1 + 1) (o := .tup [.int (i.fdiv j), .int (i.fmod j)]) (a := s.heap.objs.size) (h' := s.heap.push { cls := .type "tuple", data := .seq #[.int (i.fdiv j) s.toks, .int (i.fmod j) (s.toks + 1)] }) (fun b o e => Heap.get?_push_of_some _ e) (Nat.le_refl _)
    ⟨by show 2 ≤ sizeLine; decide, [.int (i.fdiv j) s.toks, .int (i.fmod j) (s.toks + 1)], .cons ⟨_, rfl⟩ (.cons ⟨_, rfl⟩ .nil), ⟨_, Heap.get?_push_size s.heap rfl, rfl, 0, rfl⟩⟩
  exact ⟨.ref s.heap.objs.size, _, laid, rfl, q _ free⟩
end L2

namespace L2
open PySem PySem.Spec PyProof.Rows
/-! ### dicts whose keys are diagrams: tuples (n, m, blocks) -/
namespace KD
abbrev DK := Int × Int × List (List Int)
def nums (b : List Int) : NestedKey := .tup (b.map NestedKey.num)
def key (k : DK) : NestedKey := .tup [.num k.1, .num k.2.1, .tup (k.2.2.map nums)]
theorem map_inj {α β : Type} {f : α → β} (hf : ∀ x y, f x = f y → x = y) : ∀ {a b : List α}, a.map f = b.map f → a = b
  | [], [], _ => rfl
  | [], _ :: _, h => by simp at h
  | _ :: _, [], h => by simp at h
  | x :: a, y :: b, h => by
    rw [List.map_cons, List.map_cons] at h
    rw [hf _ _ (List.cons.inj h).1, map_inj hf (List.cons.inj h).2]
theorem nums_inj {a b : List Int} (h : nums a = nums b) : a = b := by
  have h1 := NestedKey.tup.inj h
  exact map_inj (fun x y e => NestedKey.num.inj e) h1
theorem key_inj {a b : DK} (h : key a = key b) : a = b := by
  have h1 := NestedKey.tup.inj h
  have e1 := NestedKey.num.inj (List.cons.inj h1).1
  have h2 := (List.cons.inj h1).2
  have e2 := NestedKey.num.inj (List.cons.inj h2).1
  have h3 := (List.cons.inj h2).2
  have e3 := NestedKey.tup.inj (List.cons.inj h3).1
  have e4 := map_inj (fun x y e => nums_inj e) e3
  obtain ⟨a1, a2, a3⟩ := a
  obtain ⟨b1, b2, b3⟩ := b
  dsimp only at e1 e2 e4
  rw [e1, e2, e4]
/-- at a stands the tuple of a diagram -/
def IsK (H : Hp) (k : DK) (a : Addr) : Prop := ∃ tb ts, H a = some (.tup [.int k.1, .int k.2.1, .ref tb]) ∧ H tb = some (.tup ts) ∧ Paired (fun v b => ∃ t, v = V.ref t ∧ H t = some (.tup (b.map V.int))) ts k.2.2
theorem IsK.same {H H' : Hp} {k : DK} {a : Addr} (s : ∀ b xs, H b = some (.tup xs) → H' b = some (.tup xs)) (x : IsK H k a) : IsK H' k a := by
  obtain ⟨tb, ts, h1, h2, p⟩ := x
  refine ⟨tb, ts, s _ _ h1, s _ _ h2, Paired.mapP p fun _ _ h => ?_⟩
  obtain ⟨t, e, h⟩ := h
  exact ⟨t, e, s _ _ h⟩
theorem all_nums {h : Heap} : ∀ {b : List Int} {us : List Value}, Vals (b.map V.int) us → NestedAll h (b.map NestedKey.num) us
  | [], us, r => by
    cases r
    exact .nil
  | x :: b, us, r => by
    cases r with
    | cons r t =>
      obtain ⟨tk, rfl⟩ := r
      exact .cons (.int _ _) (all_nums t)
theorem tup_is {P : Program} {w : World} {H : Hp} {h : Heap} {b : List Int} {t : Addr} (ok : HOk P w H h) (e : H t = some (.tup (b.map V.int))) : NestedIs h (nums b) (.ref t) := by
  obtain ⟨_, its, r, o, h1, h2, n, h3⟩ := (show ObjOk P w H h t (.tup (b.map V.int)) from ok t _ e)
  exact .tup h1 h2 h3 (by simpa using all_nums r)
theorem tups_is {P : Program} {w : World} {H : Hp} {h : Heap} (ok : HOk P w H h) : ∀ {ts : List V} {bs : List (List Int)} {us : List Value}, Paired (fun v b => ∃ t, v = V.ref t ∧ H t = some (.tup (b.map V.int))) ts bs → Vals ts us → NestedAll h (bs.map nums) us
  | _, _, us, .nil, r => by
    cases r
    exact .nil
  | _, _, us, .cons f p, r => by
    cases r with
    | cons r t =>
      obtain ⟨a, rfl, ha⟩ := f
      cases r
      exact .cons (tup_is ok ha) (tups_is ok p t)
theorem depth_nums : ∀ b : List Int, NestedKey.depthAll (b.map NestedKey.num) = 0
  | [] => by simp [NestedKey.depthAll]
  | x :: b => by simp [NestedKey.depthAll, NestedKey.depth, depth_nums b]
theorem depth_all : ∀ bs : List (List Int), NestedKey.depthAll (bs.map nums) ≤ 1
  | [] => by simp [NestedKey.depthAll]
  | b :: bs => by
    have := depth_all bs
    simp [NestedKey.depthAll, nums, NestedKey.depth, depth_nums b]
    omega
theorem is_key {P : Program} {w : World} {H : Hp} {h : Heap} {k : DK} {a : Addr} (ok : HOk P w H h) (x : IsK H k a) : (nestedKind P w).is h (key k) a := by
  obtain ⟨tb, ts, h1, h2, p⟩ := x
  obtain ⟨_, its, r, o, g1, g2, n, g3⟩ := (show ObjOk P w H h a (.tup _) from ok a _ h1)
  obtain ⟨_, its2, r2, o2, f1, f2, n2, f3⟩ := (show ObjOk P w H h tb (.tup _) from ok tb _ h2)
  refine ⟨?_, ?_⟩
  · cases r with
    | cons r1 r =>
      cases r with
      | cons r3 r =>
        cases r with
        | cons r4 r =>
          cases r
          obtain ⟨t1, rfl⟩ := r1
          obtain ⟨t2, rfl⟩ := r3
          cases r4
          exact .tup g1 g2 g3 (by
            show NestedAll h [.num k.1, .num k.2.1, .tup (k.2.2.map nums)] _
            exact .cons (.int _ _) (.cons (.int _ _) (.cons (.tup f1 f2 f3 (by simpa using tups_is ok p r2)) .nil)))
  · have := depth_all k.2.2
    show NestedKey.depth (key k) ≤ 8
    simp [key, NestedKey.depth, NestedKey.depthAll]
    omega
/-- what a dict holds: key, the address of its tuple, value -/
abbrev Ents := List (DK × Addr × V)
abbrev Rel (kvs : Ents) (xs : List (NestedKey × Addr × Value)) : Prop := Paired (fun (p : DK × Addr × V) (q : NestedKey × Addr × Value) => q.1 = key p.1 ∧ p.2.1 = q.2.1 ∧ RelV p.2.2 q.2.2) kvs xs
/-- the dict at a -/
def NDict (P : Program) (w : World) (a : Addr) (kvs : Ents) : HO := .ext fun h => kvs.length ≤ sizeLine ∧ (a == sysModules) = false ∧ ∃ xs, Rel kvs xs ∧
  ∃ o es ep, h.get? a = some o ∧ o.ExactDict ∧ o.data = .dict es ep ∧ es.toList = xs.map (entryOfKey (nestedKind P w)) ∧ (xs.map (·.1)).Nodup
def KeysOk (H : Hp) (kvs : Ents) : Prop := ∀ p ∈ kvs, IsK H p.1 p.2.1
theorem KeysOk.same {H H' : Hp} {kvs : Ents} (s : ∀ b xs, H b = some (.tup xs) → H' b = some (.tup xs)) (x : KeysOk H kvs) : KeysOk H' kvs := fun p hp => (x p hp).same s
def valD (kvs : Ents) (k : DK) : Option V := (kvs.find? fun p => decide (p.1 = k)).map (·.2.2)
def putD (kvs : Ents) (k : DK) (a : Addr) (v : V) : Ents := if (valD kvs k).isSome = true then kvs.map fun p => if p.1 = k then (p.1, p.2.1, v) else p else kvs ++ [(k, a, v)]
theorem valD_nil (k : DK) : valD [] k = none := rfl
theorem valD_cons (p : DK × Addr × V) (kvs : Ents) (k : DK) : valD (p :: kvs) k = if p.1 = k then some p.2.2 else valD kvs k := by
  unfold valD
  by_cases e : p.1 = k
  · simp [List.find?_cons, e]
  · simp [List.find?_cons, e]
theorem Rel.val {kvs : Ents} {xs : List (NestedKey × Addr × Value)} (r : Rel kvs xs) (k : DK) : RelO (valD kvs k) ((atKey xs (key k)).map (·.2)) := by
  induction r with
  | nil => exact True.intro
  | @cons p q ps qs h t ih =>
    obtain ⟨h1, _, h2⟩ := h
    rw [valD_cons]
    by_cases e : p.1 = k
    · have e' : q.1 = key k := by rw [h1, e]
      have b : atKey (q :: qs) (key k) = some q.2 := by simp [atKey, List.find?_cons, e']
      rw [if_pos e, b]
      exact h2
    · have e' : ¬ q.1 = key k := fun z => e (key_inj (h1.symm.trans z))
      have b : atKey (q :: qs) (key k) = atKey qs (key k) := by simp [atKey, List.find?_cons, e']
      rw [if_neg e, b]
      exact ih
theorem Rel.put {kvs : Ents} {xs : List (NestedKey × Addr × Value)} (r : Rel kvs xs) (k : DK) {b : Addr} {y : V} {u : Value} (ry : RelV y u) : Rel (putD kvs k b y) (storedH xs (key k) b u) := by
  have e : (valD kvs k).isSome = (atKey xs (key k)).isSome := by rw [(Rel.val r k).isSome_eq, Option.isSome_map]
  unfold putD storedH
  rw [e]
  by_cases q : (atKey xs (key k)).isSome = true
  · rw [if_pos q, if_pos q]
    clear e q
    induction r with
    | nil => exact .nil
    | @cons p q ps qs h t ih =>
      rw [List.map_cons, List.map_cons]
      refine .cons ?_ ih
      obtain ⟨h1, h2, h3⟩ := h
      unfold putAt
      by_cases e : p.1 = k
      · rw [if_pos e, if_pos (by rw [h1, e])]
        exact ⟨h1, h2, ry⟩
      · rw [if_neg e, if_neg (fun z => e (key_inj (h1.symm.trans z)))]
        exact ⟨h1, h2, h3⟩
  · rw [if_neg q, if_neg q]
    exact Paired.snoc r ⟨rfl, rfl, ry⟩
theorem Rel.keys {P : Program} {w : World} {H : Hp} {h : Heap} (ok : HOk P w H h) {kvs : Ents} {xs : List (NestedKey × Addr × Value)} (r : Rel kvs xs) (K : KeysOk H kvs) : ∀ x ∈ xs, (nestedKind P w).is h x.1 x.2.1 := by
  induction r with
  | nil => exact fun x hx => nomatch hx
  | @cons p q ps qs hq t ih =>
    intro x hx
    rcases List.mem_cons.mp hx with e | hx
    · subst e
      have := is_key ok (K p List.mem_cons_self)
      rwa [← hq.1, hq.2.1] at this
    · exact ih (fun p hp => K p (List.mem_cons_of_mem _ hp)) x hx
theorem nd_of {P : Program} {w : World} {H : Hp} {h : Heap} {a : Addr} {kvs : Ents} (ok : HOk P w H h) (e : H a = some (NDict P w a kvs)) (K : KeysOk H kvs) :
    kvs.length ≤ sizeLine ∧ (a == sysModules) = false ∧ ∃ xs, Rel kvs xs ∧ h.DictOfH (nestedKind P w) a xs := by
  obtain ⟨⟨z, y, xs, r, o, es, ep, h1, h2, h3, h4, h5⟩, _⟩ := (show ObjOk P w H h a (NDict P w a kvs) from ok a _ e)
  exact ⟨z, y, xs, r, o, es, ep, h1, h2, h3, h4, Rel.keys ok r K, h5⟩
theorem nd_ok {P : Program} {w : World} {H : Hp} {h : Heap} {a : Addr} {kvs : Ents} {xs : List (NestedKey × Addr × Value)} (z : kvs.length ≤ sizeLine) (y : (a == sysModules) = false) (r : Rel kvs xs) (d : h.DictOfH (nestedKind P w) a xs) : ObjOk P w H h a (NDict P w a kvs) := by
  obtain ⟨o, es, ep, h1, h2, h3, h4, _, h5⟩ := d
  refine ⟨⟨z, y, xs, r, o, es, ep, h1, h2, h3, h4, h5⟩, ⟨o, h1⟩, fun g1 g2 f k => ?_⟩
  obtain ⟨z, y, xs, r, o, es, ep, h1, h⟩ := f
  exact ⟨z, y, xs, r, o, es, ep, k _ h1, h⟩
section
variable {X : Cx}
/-- {} -/
def tNNew (P : Program) (w : World) : TE := fun _ H Q => ∀ p, H p = none → Q (.ref p) (upd H p (NDict P w p []))
theorem pe_nnew {pos : Pos} : PE X (.Dict [] [] pos) (tNNew X.prog X.w) := ⟨fun pins s σ H Q I h =>
  wpAny_Dict_empty ⟨.ref s.heap.objs.size, _, I.laid (a := s.heap.objs.size) (o := NDict X.prog X.w s.heap.objs.size []) (t' := s.toks) (fun _ _ q => Heap.get?_push_of_some _ q) (Nat.le_refl _)
    (nd_ok (Nat.zero_le _) (beq_eq_false_iff_ne.mpr (Ne.symm (Nat.ne_of_lt I.big))) .nil (Heap.DictOfH.new s.heap)), rfl, h _ (I.hok.fresh (Nat.le_refl _))⟩⟩
/-- d, k of a look-up -/
def At (P : Program) (w : World) (H : Hp) (x y : V) (kvs : Ents) (k : DK) : Prop := ∃ a b, x = .ref a ∧ y = .ref b ∧ H a = some (NDict P w a kvs) ∧ KeysOk H kvs ∧ IsK H k b
def rNIn (P : Program) (w : World) : R2 := fun y x H Q => ∃ kvs k, At P w H x y kvs k ∧ Q (.bl (valD kvs k).isSome) H
def rNNotIn (P : Program) (w : World) : R2 := fun y x H Q => ∃ kvs k, At P w H x y kvs k ∧ Q (.bl (!(valD kvs k).isSome)) H
theorem room_in1 {A : Around} (hu : A.units + 64 < cLine) {P : Program} {w : World} : (nestedKind P w).room A.in1 := by
  show A.units + 1 + 8 < cLine
  omega
theorem op_nin (hu : X.A.units + 64 < cLine) : OpR X (compareOp .In) (rNIn X.prog X.w) := by
  intro pins s σ H y x u v Q I ry rx h
  obtain ⟨kvs, k, ⟨a, b, rfl, rfl, ha, K, hb⟩, q⟩ := h
  cases rx
  cases ry
  obtain ⟨z, hd, xs, rel, dd⟩ := nd_of I.hok ha K
  refine wpAny_in_heap (room_in1 hu) (is_key I.hok hb) hd dd ?_
  have e := (Rel.val rel k).isSome_eq
  rw [Option.isSome_map] at e
  rw [← e]
  exact ⟨.bl (valD kvs k).isSome, H, I.tok _, rfl, q⟩
theorem op_nnotin (hu : X.A.units + 64 < cLine) : OpR X (compareOp .NotIn) (rNNotIn X.prog X.w) := by
  intro pins s σ H y x u v Q I ry rx h
  obtain ⟨kvs, k, ⟨a, b, rfl, rfl, ha, K, hb⟩, q⟩ := h
  cases rx
  cases ry
  obtain ⟨z, hd, xs, rel, dd⟩ := nd_of I.hok ha K
  refine wpAny_notIn_heap (room_in1 hu) (is_key I.hok hb) hd dd ?_
  have e := (Rel.val rel k).isSome_eq
  rw [Option.isSome_map] at e
  rw [← e]
  exact ⟨.bl (!(valD kvs k).isSome), H, I.tok _, rfl, q⟩
/-- d[k] -/
def tNGet (P : Program) (w : World) (td ty : TE) : TE := fun σ H Q => td σ H fun x H1 => ty σ H1 fun y H2 => ∃ kvs k v, At P w H2 x y kvs k ∧ valD kvs k = some v ∧ Q v H2
theorem pe_nget {o i : Expr} {pos : Pos} {td ty : TE} (hu : X.A.units + 64 < cLine) (ho : PE X o td) (hi : PE X i ty) (hs : NoSl i) : PE X (.Subscript o i pos) (tNGet X.prog X.w td ty) := by
  refine ⟨fun pins s σ H Q I h => ?_⟩
  refine subD_of PySem.F.slot_dict_getitem.lookup hs (thn (ho.run pins s σ H _ I h) fun u s1 ⟨x, H1, I1, rx, q1⟩ => thn (hi.run pins s1 σ H1 _ I1 q1) fun iv s2 ⟨y, H2, I2, ry, kvs, k, v, ⟨a, b, ex, ey, ha, K, hb⟩, hv, q2⟩ => ?_)
  subst ex
  subst ey
  obtain rfl : u = Value.ref a := rx
  obtain rfl : iv = Value.ref b := ry
  obtain ⟨z, hd, xs, rel, dd⟩ := nd_of I2.hok ha K
  obtain ⟨w', hw, rw'⟩ := RelO.some_of (v := v) (o := (atKey xs (key k)).map (·.2)) (by rw [← hv]; exact Rel.val rel k)
  obtain ⟨p, hp, hp2⟩ := Option.map_eq_some_iff.mp hw
  refine ⟨dd.typeIs, wpAny_getItem_heap (room_in1 hu) (is_key I2.hok hb) dd hp ?_⟩
  rw [hp2]
  exact ⟨v, H2, I2.tok _, rw', q2⟩
/-- d[k] = v -/
def rNSet (P : Program) (w : World) : V → V → V → Hp → (Hp → Prop) → Prop := fun x y v H Q => ∃ kvs k a b, x = .ref a ∧ y = .ref b ∧ H a = some (NDict P w a kvs) ∧ KeysOk H kvs ∧ IsK H k b ∧ kvs.length < sizeLine ∧ Q (upd H a (NDict P w a (putD kvs k b v)))
theorem putD_len (kvs : Ents) (k : DK) (b : Addr) (v : V) : (putD kvs k b v).length ≤ kvs.length + 1 := by
  unfold putD
  split
  · rw [List.length_map]; omega
  · rw [List.length_append]; exact Nat.le_refl _
theorem set_nd (hu : X.A.units + 64 < cLine) : PSet X (rNSet X.prog X.w) := by
  intro pins s σ H x y v xv yv u Q I rx ry rv h
  obtain ⟨kvs, k, a, b, rfl, rfl, ha, K, hb, hl, q⟩ := h
  cases rx
  cases ry
  obtain ⟨z, hd, xs, rel, dd⟩ := nd_of I.hok ha K
  have hz : xs.length ≤ sizeLine := by rw [← Paired.length rel]; exact z
  refine wpAny_setItem_heap (room_in1 hu) (is_key I.hok hb) dd (fun h' hm' hs => ?_) hz
  obtain ⟨o, _, _, ho, _⟩ := id hm'
  have := putD_len kvs k b v
  exact ⟨_, d_write I (by rw [ha]; trivial) hs ⟨o, ho⟩ (nd_ok (by omega) hd (Rel.put rel k rv) hm'), q⟩
end
end KD
end L2

/-! ### isinstance of a held error with a dict of its own -/
namespace L2
open PySem PySem.Spec PyProof.Rows
def rIsED (K : PySem.W.Frag) (cls : Value) (d : Option Addr) (a : Addr) : List V → Hp → VK → Prop := fun xs H Q =>
  ∃ (D dd : Addr) (fs : List (Str × V)) (c : V) (cv : Value) (b : Bool), cls = .ref D ∧ d = some dd ∧ H dd = some (.xd fs) ∧ ExcC K D ∧ xs = [.ref a, c] ∧ (∀ u, RelV c u → u = cv) ∧ PySem.W.kitOne K (.ref D) cv = some b ∧ Q (.bl b) H
theorem call_isED {X : Cx} {a : Addr} {oe : Obj} {pn : List (Addr × Obj)} {cls : Value} {d : Option Addr} (hz : Zc cls d oe) (hf : ∃ vs, oe.data = .fields vs) : CallR (X.suite a ((a, oe) :: pn)) (.builtin "isinstance") (rIsED X.K cls d a) := by
  intro pins s σ H xs us Q I r h
  obtain ⟨D, dd, fs, c, cv, b, rfl, rfl, ea, C, rfl, hcv, e, q⟩ := h
  obtain ⟨u1, u2, rfl, r1, r2⟩ : ∃ u1 u2, us = [u1, u2] ∧ RelV (.ref a) u1 ∧ RelV c u2 := by
    cases r with
    | cons rx rr =>
      cases rr with
      | cons rt rr =>
        cases rr
        exact ⟨_, _, rfl, rx, rt⟩
  obtain rfl : u1 = Value.ref a := r1
  obtain rfl := hcv _ r2
  have mine := (I.pin (a, oe) (List.mem_append_left _ List.mem_cons_self)).1
  obtain ⟨names, hn, _⟩ := I.hok dd _ ea
  obtain ⟨od, hod, _⟩ := lookIn_ns hn
  have J : PySem.W.InstAt s.heap a oe D (some od) := by
    refine ⟨mine, hz.1, ?_, ?_⟩
    · obtain ⟨vs, hv⟩ := hf
      unfold PySem.W.notCls
      rw [hv]
    · rw [hz.2]
      exact hod
  have some1 : (PySem.W.clsIn X.K D).isSome = true := by
    obtain ⟨cd, hc, _⟩ := PySem.W.any_some C.hd
    rw [hc]
    rfl
  exact PySem.W.kia_one (PySem.W.kitx_exc some1 C.hg C.hk C.hs C.ha C.hn C.ht C.hm) I.kIn J e (fun z => nomatch z) fun tk => ⟨.bl b, H, I.kept (t' := tk) fun _ _ z => z, rfl, q⟩
end L2

/-! ### a def that is called with the held exception, which may have a dict of its own: isinstance, and a field -/
namespace L2
open PySem PySem.Spec PyProof.Rows
def rIsEQ (K : PySem.W.Frag) (cls : Value) (d : Option Addr) (a : Addr) : List V → Hp → VK → Prop := fun xs H Q => rIsEP K cls d a xs H Q ∨ rIsED K cls d a xs H Q
theorem call_isEQ {X : Cx} {a : Addr} {oe : Obj} {cls : Value} {d : Option Addr} (hp : (a, oe) ∈ X.pn) (hz : Zc cls d oe) (hf : ∃ vs, oe.data = .fields vs) : CallR X (.builtin "isinstance") (rIsEQ X.K cls d a) := by
  intro pins s σ H xs us Q I r h
  rcases h with h | h
  · exact call_isEP hp hz hf pins s σ H xs us Q I r h
  obtain ⟨D, dd, fs, c, cv, b, rfl, rfl, ea, C, rfl, hcv, e, q⟩ := h
  obtain ⟨u1, u2, rfl, r1, r2⟩ : ∃ u1 u2, us = [u1, u2] ∧ RelV (.ref a) u1 ∧ RelV c u2 := by
    cases r with
    | cons rx rr =>
      cases rr with
      | cons rt rr =>
        cases rr
        exact ⟨_, _, rfl, rx, rt⟩
  obtain rfl : u1 = Value.ref a := r1
  obtain rfl := hcv _ r2
  have mine := (I.pin (a, oe) (List.mem_append.mpr (.inl hp))).1
  obtain ⟨names, hn, _⟩ := I.hok dd _ ea
  obtain ⟨od, hod, _⟩ := lookIn_ns hn
  have J : PySem.W.InstAt s.heap a oe D (some od) := by
    refine ⟨mine, hz.1, ?_, ?_⟩
    · obtain ⟨vs, hv⟩ := hf
      unfold PySem.W.notCls
      rw [hv]
    · rw [hz.2]
      exact hod
  have some1 : (PySem.W.clsIn X.K D).isSome = true := by
    obtain ⟨cd, hc, _⟩ := PySem.W.any_some C.hd
    rw [hc]
    rfl
  exact PySem.W.kia_one (PySem.W.kitx_exc some1 C.hg C.hk C.hs C.ha C.hn C.ht C.hm) I.kIn J e (fun z => nomatch z) fun tk => ⟨.bl b, H, I.kept (t' := tk) fun _ _ z => z, rfl, q⟩
theorem call_isEHQ {P : Program} {w : World} {K : PySem.W.Frag} {mg : Str → Option Value} {base : Heap} {N : List Str} {qual : Str} {scope : Scope} {f : Addr} {cdv : Value} {A : Around} {outer : List Env} {s : Shared} {H : Hp} {E : XK} {a : Addr} {oe : Obj} {cls : Value} {d : Option Addr} (hz : Zc cls d oe) (hf : ∃ vs, oe.data = .fields vs) :
    CallR (L2H.cxH CX0 P w K mg base N qual scope f cdv A outer s H E (a, oe)) (.builtin "isinstance") (rIsEQ K cls d a) :=
  call_isEQ List.mem_cons_self hz hf
theorem pe_xfP {X : Cx} {a C : Addr} {oe : Obj} {cls : Value} {d : Option Addr} {e : Expr} {te : TE} {pos : Pos} {n : Str} (hp : (a, oe) ∈ X.pn) (T : XfC X.K C) (hno : PySem.W.findIn X.K (.ref C) n = some none)
    (hz : Zc cls d oe) (hf : ∃ vs, oe.data = .fields vs) (he : PE X e te) (hb : attributeBase e n X.env (eval e X.env) = eval e X.env := by rfl) :
    PE X (.Attribute e n pos) (tXf a cls d C n te) := by
  refine ⟨fun pins s σ H Q I h => ?_⟩
  refine attr_of hb (thn (he.run pins s σ H _ I h) fun u s1 hh => ?_)
  obtain ⟨x, H1, I1, rx, ex, ec, dd, fs, v, ed, ea, l, q⟩ := hh
  subst ex
  obtain rfl : u = Value.ref a := rx
  subst ec
  subst ed
  obtain ⟨ha, _⟩ := I1.pin (a, oe) (List.mem_append.mpr (.inl hp))
  obtain ⟨vs, hd⟩ := hf
  have hx : ObjOk X.prog X.w H1 s1.heap dd (.xd fs) := I1.hok dd _ ea
  obtain ⟨mA, hns, hr⟩ := hx
  obtain ⟨od, ho, hl⟩ := lookIn_ns hns
  obtain ⟨u, hu, ru⟩ := RelO.some_of (v := v) (o := mA n) (by rw [← l]; exact hr n)
  have J : PySem.W.InstAt s1.heap a oe C (some od) := ⟨ha, hz.1, by unfold PySem.W.notCls; rw [hd] <;> rfl, by rw [hz.2]; exact ho⟩
  exact HandSPX.exc_get I1.kIn J T.ga T.gg T.exC (PySem.W.findObj_own T.hdC hno rfl (by rw [hl, hu])) (handed_of ru) ⟨v, H1, I1.tok _, ru, q⟩
end L2

/-! ### f(e, ..) in a try, where the last arguments have defaults -/
namespace L2
open PySem PySem.Spec PyProof.Rows
section
variable {X : Cx} {CX : CXT} {k : Nat} {f : Addr} {fd : FuncData} {ps : List Str} {ds : List Value} {dvs : List V} {sp : Sp} {E : St → XK} {x : Str} {p pos : Pos} {e : Expr} {es : List Expr} {t : TA}
def tCallSD (sp : Sp) (dvs : List V) (E : St → XK) (t : TA) : TE := fun σ H Q => t σ H fun vs H1 => sp (vs ++ dvs) H1 Q (E σ)
theorem run_fnSD {pins : List (Addr × Obj)} {σ : St} {H : Hp} {s : Shared} {Q : VK} {us : List Value} {vs : List V} (F : FnOk X.prog X.w X.K X.mg X.base CX k f fd ps sp) (hr : Room k X.A) (hb : Binds X.K fd ps ds) (hd : Vals dvs ds) (hx : PassesAt CX X σ (E σ))
    (I : Inv X pins σ H s) (r : Vals vs us) (h : sp (vs ++ dvs) H Q (E σ)) : wpAny (model X.prog X.w) X.A (call (.ref f) us) (EP X pins σ Q) X.xe s := by
  have rr := r.append hd
  have hl : (us ++ ds).length = ps.length := by rw [← rr.length]; exact F.len _ _ _ _ h
  refine wpAny_call (codeAny_mono (F.run X.A X.stack s H ⟨us, []⟩ (us ++ ds) (vs ++ dvs) Q (E σ) hr I.env0 (hb s us I.kIn (by rw [← hl, List.length_append])) rr h) fun r s' hq => ?_)
  cases r with
  | error e => exact hx pins H s e s' I hq
  | ok fl =>
    cases fl with
    | ret u => exact I.after hq
    | next => exact False.elim hq
    | brk => exact False.elim hq
    | cont => exact False.elim hq
theorem pe_callSD (F : FnOk X.prog X.w X.K X.mg X.base CX k f fd ps sp) (hr : Room k X.A) (hg : Gl X x) (hm : X.mg x = some (.ref f)) (hk : PySem.W.keepIn X.K (.ref f) = true) (hb : Binds X.K fd ps ds) (hd : Vals dvs ds) (hx : ∀ σ, PassesAt CX X σ (E σ))
    (ha : PA X (e :: es) t) (hdb : (x == ("__debug__" : Str)) = false := by decide) (he : starEach (e :: es) X.env = (false, eval e X.env) :: starEach es X.env := by rfl) (hpl : (backTo pos (starEach es X.env)).any (·.1) = false := by rfl) :
    PE X (.Call (.Name x p) (e :: es) [] pos) (tCallSD sp dvs E t) := by
  refine ⟨fun pins s σ H Q I h => ?_⟩
  refine wpAny_Call_Name_kw (ld_glob I hg hm ?_ hdb)
  refine PySem.W.callWith_K (h₀ := X.base) I.ok.mod.kin hk (thn (ha.run pos pins s σ H _ I h) fun us s1 ⟨vs, H1, I1, r, q⟩ => ⟨I1.kIn, ?_⟩) he hpl
  exact run_fnSD F hr hb hd (hx σ) I1 r q
end
end L2

/-! ### an own error with a field, raised by a def of the layer that knows of contexts -/
namespace L2N
open PySem PySem.Spec PyProof.Rows L2
theorem pmk_oexN {X : Cx} {CX' : CXT} {x : Str} {e : Expr} {es : List Expr} {ta : TA} {p pos : Pos} {C fI : Addr} {k : Nat} {fd : FuncData} {ps : List Str} {sp : Sp} {ds : List Value} {dvs : List V} (T : OexC X.K C)
    (iC : PySem.W.findIn X.K (.ref C) "__init__" = some (some (.ref fI))) (tI : PySem.W.typeIn X.K (.ref fI) = some (.type "function"))
    (G : FnOk X.prog X.w X.K X.mg X.base CX' k fI fd ps sp) (room : Room (k + 1) X.A) (bd : Binds X.K fd ps ds) (dv : Vals dvs ds) (out : Passes CX' X (fun _ _ _ => False)) (hg : Gl X x) (known : X.mg x = some (.ref C)) (args : PA X (e :: es) ta)
    (hdb : (x == ("__debug__" : Str)) = false := by decide) (he : starEach (e :: es) X.env = (false, eval e X.env) :: starEach es X.env := by rfl) (hpl : (backTo pos (starEach es X.env)).any (·.1) = false := by rfl) :
    L2N.PMk X (.Call (.Name x p) (e :: es) [] pos) (tMkO C sp dvs ta) := by
  intro pins s σ H Q inv h
  obtain ⟨_, _, _, _, bm, _, _, _, _, _, _, _, _, _, _, cls, bms⟩ := T.cls
  refine wpAny_Call_Name_kw (ld_glob inv hg known ?_ hdb)
  refine PySem.W.callWith_K (h₀ := X.base) inv.ok.mod.kin T.kC (thn (args.run pos pins s σ H _ inv h) fun us t ⟨vs, H1, J, rv, _, go⟩ => ⟨J.kIn, ?_⟩) he hpl
  obtain ⟨hp, gens, drawn, toks, os⟩ := t
  let a := hp.objs.size + 1
  let hp2 := (hp.push (PySem.W.kdv_tup us)).push (PySem.HandSPX.excO C hp.objs.size)
  have above : hp.objs.size ≤ a := Nat.le_succ _
  have fresh : H1 a = none := J.hok.fresh above
  have start := go a fresh
  have keeps : ∀ b o, hp.get? b = some o → hp2.get? b = some o := fun b o q => Heap.get?_push_of_some _ (Heap.get?_push_of_some _ q)
  have here : hp2.get? a = some (PySem.HandSPX.excO C hp.objs.size) := by
    show ((hp.push (PySem.W.kdv_tup us)).push (PySem.HandSPX.excO C hp.objs.size)).get? (hp.objs.size + 1) = _
    heap_get
  have J2 : Inv X pins σ (upd H1 a (exo a C none)) ⟨hp2, gens, drawn, toks, os⟩ := J.laid (t' := toks) (a := a) (o := exo a C none) (h' := hp2) keeps above (exo_ok here)
  have all : Vals (V.ref a :: (vs ++ dvs)) (Value.ref a :: (us ++ ds)) := .cons rfl (rv.append dv)
  have count : (Value.ref a :: us ++ ds).length = ps.length := (G.len _ _ _ _ start ▸ all.length).symm
  have small : us.length ≤ sizeLine := by
    have l := Paired.length rv
    rw [sizeLine_eq]
    omega
  refine wpAny_call (PySem.HandSPX.call_own F.excBase_ValueError (fun Y => PySem.HandSPX.refsVE_contains Y bm bms) (J.kIn _ _ cls) (PySem.W.looks_findIn J.kIn iC) (fun self => PySem.W.bind_fn J.kIn self tI) small
    (codeAny_mono (G.run _ X.stack _ _ ⟨Value.ref a :: us, []⟩ (Value.ref a :: (us ++ ds)) _ _ (fun _ _ _ => False) (room.make C us []) (J2.env0.make C us []) (bd _ (Value.ref a :: us) J2.kIn count) all start) fun r s' hr => ?_))
  cases r with
  | error er => exact out pins σ _ _ er s' J2 hr
  | ok fl =>
    cases fl with
    | next => exact hr.elim
    | brk => exact hr.elim
    | cont => exact hr.elim
    | ret u =>
      obtain ⟨v, H2, os2, bare2, un2, ok2, isn, rfl, d, fs, ea, ed, dn, q2⟩ := hr
      obtain ⟨h2, g2, d2, t2, os3⟩ := s'
      obtain ⟨t0, h0, J0, k0, n0, oe, gone⟩ := mk_end0 (d2 := d2) (t2 := t2) J above keeps un2 ok2 os2 bare2 ea ed dn
      exact ⟨isn, a, _, _, ⟨h0, g2, d2, t2, os3⟩, _, .ref C, some d, rfl, J0, k0, n0, oe, ⟨rfl, rfl, fun ws hw => by cases hw; rfl⟩, rfl, rfl, gone, rfl, bare2, raises_own T.exC T.tyC, q2⟩
end L2N

/-! ### d[z], d a dict of the module with text keys -/
namespace L2
open PySem PySem.Spec PyProof.Rows
def tKD (K : PySem.W.Frag) (d : Addr) (td ty : TE) : TE := fun σ H Q => td σ H fun x H1 => ty σ H1 fun y H2 => ∃ (z : Str) (u0 : Value) (v0 : V), x = .ref d ∧ y = .str z ∧ PySem.W.nsIn K d z = some (some u0) ∧ RelV v0 u0 ∧ Q v0 H2
theorem pe_kdget {X : Cx} {K : PySem.W.Frag} (hK : X.K = K) {d : Addr} {es : Array DictEntry} {n : Nat} {o i : Expr} {pos : Pos} {td ty : TE} (D : KDict K X.w d es n) (ho : PE X o td) (hi : PE X i ty) (hs : NoSl i) : PE X (.Subscript o i pos) (tKD K d td ty) := by
  subst hK
  refine ⟨fun pins s σ H Q I h => ?_⟩
  refine subD_of PySem.F.slot_dict_getitem.lookup hs (thn (ho.run pins s σ H _ I h) fun u s1 ⟨x, H1, I1, rx, q1⟩ => thn (hi.run pins s1 σ H1 _ I1 q1) fun iv s2 ⟨y, H2, I2, ry, z, u0, v0, ex, ey, e, r, q2⟩ => ?_)
  subst ex
  obtain rfl : u = Value.ref d := rx
  exact ⟨kd_type D I2, op_item_kd D pins s2 σ H2 (.ref d) y (.ref d) iv Q I2 rfl ry ⟨z, u0, v0, rfl, ey, e, r, q2⟩⟩
end L2

/-! ### enumerate over a text of ascii signs -/
namespace PySem
open Sem (wp)
open AutoSeq1 (wpAny_loadPart')
theorem new_enumS (x : Str) (tk0 : Tok) :
    Meets (Builtin.«enumerate.__new__» ⟨[.type "enumerate", .str x tk0], []⟩) (fun _ R s => x.cps.all (· < 128) = true ∧
      R (.ok (.ret (.ref (s.heap.push { cls := .type "str_ascii_iterator", data := .fields #[.str x tk0, .int 0 0] }).objs.size)))
        { s with heap := (s.heap.push { cls := .type "str_ascii_iterator", data := .fields #[.str x tk0, .int 0 0] }).push { cls := .type "enumerate", data := .fields #[.none, .bool false, .ref s.heap.objs.size, rawInt 0, .none, .none] } }) :=
  .of_wp fun prog w A R s both => by
    obtain ⟨hp, g, d, tk, os⟩ := s
    obtain ⟨ht, both⟩ := both
    have below := sub_enumerate
    wp_walk
    refine wpAny_stack_any fun _ => wpAny_pure ?_
    split
    · rename_i c _ _ _ _ _
      cases (c == Value.type "enumerate")
      · wp_walk using wpAny_pyIter_ascii ht
        exact ⟨_, rfl, both⟩
      · wp_walk using wpAny_pyIter_ascii ht
        exact ⟨_, rfl, both⟩
    · wp_walk using wpAny_pyIter_ascii ht
      exact ⟨_, rfl, both⟩
section
variable {prog : Program} {w : World} {A : Around} {E : Value → Shared → Prop} {s : Shared}
theorem call_enumS {x : Str} {tk0 : Tok} {Q : Value → Shared → Prop} (ht : x.cps.all (· < 128) = true)
    (q : ∀ h', IsEnum h' (s.heap.objs.size + 1) s.heap.objs.size 0 .none → h'.IsStrIter s.heap.objs.size "str_ascii_iterator" x tk0 0 →
      (∀ b o, s.heap.get? b = some o → h'.get? b = some o) → Q (.ref (s.heap.objs.size + 1)) { s with heap := h' }) :
    wpAny (model prog w) A (call (.type "enumerate") [.str x tk0]) Q E s := by
  refine callType_new F.called_enumerate (by decide) (F.typeCall_enumerate_1 _) (F.newCall_enumerate_1 _) (fun ob => F.args_object_init_2 ob _) F.entry_enumerate_new (new_enumS x tk0) ⟨ht, ?_⟩
  have sz : (s.heap.push { cls := .type "str_ascii_iterator", data := .fields #[.str x tk0, .int 0 0] }).objs.size = s.heap.objs.size + 1 := Heap.size_push ..
  show _ ∧ _
  rw [sz]
  have en : IsEnum ((s.heap.push { cls := .type "str_ascii_iterator", data := .fields #[.str x tk0, .int 0 0] }).push { cls := .type "enumerate", data := .fields #[.none, .bool false, .ref s.heap.objs.size, rawInt 0, .none, .none] })
      (s.heap.objs.size + 1) s.heap.objs.size 0 .none := by
    have z := Heap.get?_push_size (s.heap.push { cls := .type "str_ascii_iterator", data := .fields #[.str x tk0, .int 0 0] }) (o := { cls := .type "enumerate", data := .fields #[.none, .bool false, .ref s.heap.objs.size, rawInt 0, .none, .none] }) rfl
    rw [sz] at z
    exact z
  exact ⟨⟨_, en, rfl⟩, q _ en ⟨_, Heap.get?_push_of_some _ (Heap.get?_push_size _ rfl), rfl, rfl⟩ fun b o x => Heap.get?_push_of_some _ (Heap.get?_push_of_some _ x)⟩
end
end PySem
namespace L2
open PySem PySem.Spec PyProof.Rows
/-- the text x, each sign in a new pair behind its index -/
def IteS (x : Str) : It :=
  ⟨fun i _ => i < x.cps.size, fun i H v H' => ∃ p c, v = .ref p ∧ H p = none ∧ x.cps[i]? = some c ∧ H' = upd H p (.tup [.int (i : Nat), .str ⟨#[c]⟩]), fun i _ => x.cps.size ≤ i⟩
theorem turn_enumS {P : Program} {w : World} {K : PySem.W.Frag} {elts : List Expr} {kk : Nat} {tp : Pos} (x : Str) (t0 : Tok) (e it : Addr) :
    Turn P w K (.Tuple elts kk tp) (IteS x) [e, it] e (fun i h => (∃ old, IsEnum h e it ((i : Nat) : Int) old) ∧ h.IsStrIter it "str_ascii_iterator" x t0 i ∧ e ≠ it ∧ i ≤ x.cps.size) where
  mem := by simp
  obj := fun i h st b hb => by
    obtain ⟨⟨old, he⟩, ⟨o, ho, _, dd⟩, _⟩ := st
    rcases (show b = e ∨ b = it by simpa using hb) with rfl | rfl
    · exact ⟨_, he, fun v z => nomatch z⟩
    · exact ⟨o, ho, fun v z => by rw [dd] at z; exact nomatch z⟩
  keep := fun i h h' st k => by
    obtain ⟨⟨old, he⟩, ⟨o, ho, r⟩, ne, bnd⟩ := st
    exact ⟨⟨old, k e (by simp) _ he⟩, ⟨o, k it (by simp) _ ho, r⟩, ne, bnd⟩
  item := by
    intro X hP hw hK hc i pins s σ H E I hf st hg
    subst hP hw hK
    obtain ⟨⟨old, he⟩, hit, ne, bnd⟩ := st
    have szE : e < s.heap.objs.size := Heap.lt_size he
    have szI : it < s.heap.objs.size := by
      obtain ⟨_, z, _⟩ := hit
      exact Heap.lt_size z
    have small : ∀ b ∈ [e, it], b < s.heap.objs.size := fun b hb => by
      rcases (show b = e ∨ b = it by simpa using hb) with rfl | rfl <;> assumption
    have D := Draws.strAscii (prog := X.prog) (w := X.w) (A := X.A.in1) (I.ok.hd hc) it x t0
    refine wpAny_pyNext_enum_itemD D he hit hg ne (by simp only [List.mem_cons, List.not_mem_nil, or_false]; exact ne) fun y h' tk hx ho st2 hT hsz hk => ?_
    obtain ⟨c, u, hcx, rfl⟩ := hx
    refine ⟨_, rfl, wpAny_letOwnedTupleGo_enum (s := { s with heap := h', toks := tk + 1 }) ho fun h'' he' sb => ?_⟩
    have hT2 : h''.get? s.heap.objs.size = some { cls := .type "tuple", data := .seq #[.int i tk, .str ⟨#[c]⟩ u] } := (sb.2 _ (Nat.ne_of_gt szE)).trans hT
    have okN : ObjOk X.prog X.w (upd H s.heap.objs.size (.tup [.int (i : Nat), .str ⟨#[c]⟩])) h'' s.heap.objs.size (.tup [.int (i : Nat), .str ⟨#[c]⟩]) :=
      ⟨by show 2 ≤ sizeLine; decide, [.int i tk, .str ⟨#[c]⟩ u], .cons ⟨_, rfl⟩ (.cons ⟨_, rfl⟩ .nil), ⟨_, hT2, rfl, _, rfl⟩⟩
    have J : Inv X pins σ (upd H s.heap.objs.size (.tup [.int (i : Nat), .str ⟨#[c]⟩])) { s with heap := h'', toks := tk + 1 } :=
      I.turnedNew (ch := [e, it]) (fun b ob hb z => (sb.2 b (fun y => hb (by simp [y]))).trans (hk b ob (fun y => hb (by simp [y])) (fun y => hb (by simp [y])) z)) hf (Nat.le_refl _) okN
    have he'' : IsEnum h'' e it ((i + 1 : Nat) : Int) (.str ⟨#[c]⟩ u) := by
      rw [show ((i + 1 : Nat) : Int) = (i : Int) + 1 by omega]
      exact he'
    refine ⟨.ref s.heap.objs.size, _, J, rfl, ⟨_, c, rfl, I.hok.fresh (Nat.le_refl _), hcx, rfl⟩, ⟨⟨_, he''⟩, ?_, ne, hg⟩, fun b hb => ?_⟩
    · obtain ⟨o, ho2, r⟩ := st2
      exact ⟨o, (sb.2 it (Ne.symm ne)).trans ho2, r⟩
    · rw [upd_ne (Nat.ne_of_lt (small b hb))]
      exact (hf b hb).1
  done := by
    intro X hP hw hK hc i pins s σ H E I hf st hg
    subst hP hw hK
    obtain ⟨⟨old, he⟩, hit, ne, bnd⟩ := st
    obtain ⟨g0, g1, _, g3, g4, g5⟩ := hf it (by simp)
    have len : x.cps.size ≤ i := hg
    have D := Draws.strAscii (prog := X.prog) (w := X.w) (A := X.A.in1) (I.ok.hd hc) it x t0
    have hit' : s.heap.IsStrIter it "str_ascii_iterator" x t0 x.cps.size := by
      have e : i = x.cps.size := Nat.le_antisymm bnd len
      rw [← e]
      exact hit
    exact wpAny_pyNext_enum_endD D he hit' fun h' eb => ⟨rfl, I.turned (t' := s.toks) (fun b o hb z => eb b o hb z) g0 g1 g3 g4 g5⟩
  self := fun A i s Q E st h => by
    obtain ⟨⟨_, he⟩, _⟩ := st
    exact wpAny_pyIter_enum he h
def iEnumS (ta : TA) : TI := fun σ H R => ta σ H fun vs H1 => ∃ x : Str, vs = [.str x] ∧ x.cps.all (· < 128) = true ∧ R (IteS x) H1
theorem pi_enumS {X : Cx} {e : Expr} {ta : TA} {p pos tp : Pos} {elts : List Expr} {kk : Nat} (hg : Gl X "enumerate") (hm : X.mg "enumerate" = none) (ha : PA X [e] ta) (hs : starEach [e] X.env = [(false, eval e X.env)] := by rfl) :
    PI X (.Tuple elts kk tp) (.Call (.Name "enumerate" p) [e] [] pos) (iEnumS ta) := by
  refine ⟨fun pins s σ H R I h => Call_ (ld_blt I hg hm boot_enumerate (PyProof.Rows.callWith_type1 (thn (ha.run pos pins s σ H _ I h) fun us s1 ⟨vs, H1, I1, r1, q1⟩ => ?_) hs rfl))⟩
  obtain ⟨x, rfl, hx, q⟩ := q1
  cases r1 with
  | cons r rr =>
    cases rr
    obtain ⟨tk, rfl⟩ := r
    refine call_enumS hx fun h' he hit hk => wpAny_pyIter_enum he ?_
    refine ⟨s1.heap.objs.size + 1, [s1.heap.objs.size + 1, s1.heap.objs.size], _, _, H1, rfl, I1.kept (t' := s1.toks) hk, turn_enumS x tk (s1.heap.objs.size + 1) s1.heap.objs.size,
      ⟨⟨.none, he⟩, hit, Nat.succ_ne_self _, Nat.zero_le _⟩, fun b hb => ?_, q⟩
    have hle : s1.heap.objs.size ≤ b := by
      rcases (show b = s1.heap.objs.size + 1 ∨ b = s1.heap.objs.size by simpa using hb) with rfl | rfl
      · exact Nat.le_succ _
      · exact Nat.le_refl _
    exact I1.fpOk hle (I1.hok.fresh hle)
theorem walk_enumS {x : Str} : Walk (IteS x) x.cps.size (fun _ => True) (YPair (fun i => some (.int (i : Nat))) (fun i => (x.cps[i]?).map (fun c => .str ⟨#[c]⟩))) :=
  ⟨fun i H hi h => hi, fun H h => Nat.le_refl _, fun i H v H' hi h y => by
    obtain ⟨p, c, rfl, np, hc, rfl⟩ := y
    exact ⟨p, _, _, rfl, np, rfl, rfl, by simp [hc]⟩⟩
end L2

/-! ### a walk over a text in a comprehension with two fors; in, of data, within a comprehension -/
namespace L2
open PySem PySem.Spec PyProof.Rows
theorem walkD_str {x : Str} {H0 : Hp} {Qd : Hp → Prop} {body : V → Hp → (Hp → Prop) → Prop} (Pv : Nat → Hp → Prop) (h0 : Pv 0 H0)
    (step : ∀ i c H, x.cps[i]? = some c → Pv i H → body (.str ⟨#[c]⟩) H (Pv (i + 1))) (last : ∀ H, Pv x.cps.size H → Qd H) :
    ∃ W : Nat → Nat → Hp → Prop, (∃ m, W 0 m H0) ∧ ∀ i m H, W i m H → ((Its x).stop i H ∧ Qd H) ∨ ((Its x).go i H ∧ ∃ Nx : Hp → Prop, (∀ H', Nx H' → ∃ m', m' < m ∧ W (i + 1) m' H') ∧ ∀ y H', (Its x).yld i H y H' → body y H' Nx) := by
  refine ⟨fun i m H => i + m = x.cps.size ∧ Pv i H, ⟨x.cps.size, Nat.zero_add _, h0⟩, fun i m H ⟨em, p⟩ => ?_⟩
  cases m with
  | zero =>
    have e : i = x.cps.size := em
    exact .inl ⟨Nat.le_of_eq e.symm, last H (e ▸ p)⟩
  | succ m =>
    refine .inr ⟨show i < x.cps.size by omega, Pv (i + 1), fun H' p' => ⟨m, Nat.lt_succ_self m, by omega, p'⟩, fun y H' ⟨eH, c, ec, ey⟩ => ?_⟩
    rw [eH, ey]
    exact step i c H ec p
theorem op_inDK {X : Cx} {K : PySem.W.Frag} (hK : X.K = K) (hu : X.A.units + 65 < cLine) : OpR X (compareOp .In) (rInD K) := by
  subst hK
  exact op_inD hu
end L2

/-! ### a dict comprehension over any walk -/
namespace L2
open PySem PySem.Spec PyProof.Rows
theorem dc_it {J : It} {n : Nat} {G : Hp → Prop} {Y : Nat → Hp → V → Hp → Prop} (w : Walk J n G Y) {g : TG} {tt : TT} {tk tv : TE} {vs : List Nat} {σ : St} {H1 : Hp} {D : Addr} {Qd : Hp → Prop} (Pv : Nat → Hp → Prop) (h0 : Pv 0 (upd H1 D (.dK []))) (hG : ∀ i H, i ≤ n → Pv i H → G H)
    (hs : ∀ i x H H', i < n → Pv i H → Y i H x H' → g x (wipe σ vs) H' fun σ2 H2 => wipe σ2 vs = wipe σ vs ∧ tt σ2 H2 fun b H3 =>
      if b = true then tk σ2 H3 fun y H4 => tv σ2 H4 fun z H5 => ∃ kvs k, y = kV k ∧ H5 D = some (.dK kvs) ∧ kvs.length < sizeLine ∧ Pv (i + 1) (upd H5 D (.dK (putK kvs k z))) else Pv (i + 1) H3) (hd : ∀ H, Pv n H → Qd H) :
    ∃ W : Nat → Nat → Hp → Prop, (∃ m, W 0 m (upd H1 D (.dK []))) ∧ ∀ i m H, W i m H →
      (J.stop i H ∧ Qd H) ∨ (J.go i H ∧ ∃ Nx : Hp → Prop, (∀ H', Nx H' → ∃ m', m' < m ∧ W (i + 1) m' H') ∧ ∀ x H', J.yld i H x H' → g x (wipe σ vs) H' fun σ2 H2 => wipe σ2 vs = wipe σ vs ∧ tt σ2 H2 fun b H3 =>
        if b = true then tk σ2 H3 fun y H4 => tv σ2 H4 fun z H5 => ∃ kvs k, y = kV k ∧ H5 D = some (.dK kvs) ∧ kvs.length < sizeLine ∧ Nx (upd H5 D (.dK (putK kvs k z))) else Nx H3) := by
  refine ⟨fun i m H => m = n - i ∧ i ≤ n ∧ Pv i H, ⟨n, by simp, Nat.zero_le _, h0⟩, ?_⟩
  rintro i m H ⟨rfl, hi, p⟩
  have q := hG i H hi p
  by_cases hlt : i < n
  · refine .inr ⟨w.goes i H hlt q, Pv (i + 1), fun H' p' => ⟨n - (i + 1), by omega, rfl, hlt, p'⟩, fun x H' y => hs i x H H' hlt p (w.yields i H x H' hlt q y)⟩
  · have e : i = n := by omega
    subst e
    exact .inl ⟨w.stops H q, hd H p⟩
section
variable {X : Cx}
/-- name = {..} on one line, the name a local of the def -/
theorem ps_setDc {i : Nat} {y : Str} {py : Pos} {kx vx tg iter : Expr} {ifs : List Expr} {scope : Scope} {own : List (Str × Nat)} {pos spos : Pos} {wi : TI} {g : TG} {tt : TT} {tk tv : TE} (hc : X.calm = true) (hN : X.N.Nodup) (hy : X.N[i]? = some y) (hyl : X.env.scope.names.lookup y = some .local)
    (hsw : swapsWith (.DictComp kx vx [⟨tg, iter, ifs, 0⟩] scope pos) (some (.Name y py)) spos.line X.env = pure true) (hi : PI X tg iter wi) (ok : BlkOk X.N X.env.scope scope own)
    (hg : ∀ (s : Shared) (H : Hp) (C : Addr) (cl : List (Str × Addr)) (fp : List Addr), PG (X.blk s H scope (compEnvC scope cl C X.env) fp) tg g) (ht : ∀ (s : Shared) (H : Hp) (C : Addr) (cl : List (Str × Addr)) (fp : List Addr), PTs (X.blk s H scope (compEnvC scope cl C X.env) fp) ifs tt)
    (hk : ∀ (s : Shared) (H : Hp) (C : Addr) (cl : List (Str × Addr)) (fp : List Addr), PE (X.blk s H scope (compEnvC scope cl C X.env) fp) kx tk)
    (he : ∀ (s : Shared) (H : Hp) (C : Addr) (cl : List (Str × Addr)) (fp : List Addr), PE (X.blk s H scope (compEnvC scope cl C X.env) fp) vx tv) (hs : ∀ x, foldedSetIterable iter X.env x = pure x := by intro _; rfl) :
    PS X (.Assign [.Name y py] (.DictComp kx vx [⟨tg, iter, ifs, 0⟩] scope pos) spos) (tAsg (tDc wi g tt tk tv (own.map (·.2))) (gName i)) := by
  refine ⟨fun pins s σ H D I h => ?_⟩
  rw [exec_Assign_Name_used _ _ _ _ hsw]
  refine wpAny_bind (wpAny_standAt (wpAny_bind ?_))
  have h : tDc wi g tt tk tv (own.map (·.2)) σ H (fun x H1 => gName i x σ H1 D.nx) := h
  show wpAny _ X.A (do let _ ← comprehension (.DictComp kx vx [⟨tg, iter, ifs, 0⟩] scope pos) scope X.env (firstIterPos [⟨tg, iter, ifs, 0⟩] pos) newDict false (eval iter X.env) (some (assign (.Name y py) X.env))) _ _ s
  refine wpAny_bind (thn (dc_core (Qf := fun _ s' => SP X pins D .next s') hc hN I hi ok hg ht hk he hs h fun L C s' m H' I' q hn f => ?_) fun _ s' hq => wpAny_pure (wpAny_pure hq))
  show wpAny _ _ (assign (.Name y py) X.env (.ref L)) _ _ _
  refine wpAny_assign_Name (store_ok2 (v := V.ref L) I' hN hy (.inl hyl) rfl (fun s2 I2 ⟨a, sb, ha⟩ => ?_) (.inr hyl))
  obtain ⟨f0, f1, f2, f3, f4, f5⟩ := f
  have ne : C ≠ a := fun e => ha.elim (fun z => f1 (e.trans z)) fun z => f4 y a z e.symm
  refine ⟨m, hn.sameBut sb ne, fun h3 sb3 => ?_⟩
  exact ⟨_, H', I2.turned (t' := s2.toks) (fun b o hb e => (sb3.2 b hb).trans e) f0 f1 f3 f4 f5, q⟩
theorem sw_trueD {kx vx : Expr} {gs : List Comprehension} {scope : Scope} {pos py : Pos} {y : Str} {l : Nat} {env : Env} (hk : env.scope.kind = .function) (hy : env.scope.names.lookup y = some .local) (hl : (py.line == pos.line) = true)
    (ha : (scope.names.any fun (n, k) => n == y && (k == .local || k == .cell)) = false) : swapsWith (.DictComp kx vx gs scope pos) (some (.Name y py)) l env = pure true := by
  have ky : env.kindOf y = some .local := hy
  have hb : env.blockKind = .function := by unfold Env.blockKind; rw [hk]; rfl
  unfold swapsWith
  simp only [hb, ky, ha, Expr.pos, hl]
  rfl
end
end L2

namespace T
open PySem PySem.Spec PyProof.Rows L2
def SameBut (a : Addr) (H H' : Hp) : Prop := ∀ b o, b ≠ a → H b = some o → H' b = some o
theorem SameBut.refl (a : Addr) (H : Hp) : SameBut a H H := fun _ _ _ h => h
theorem SameBut.trans {a : Addr} {H H1 H2 : Hp} (x : SameBut a H H1) (y : SameBut a H1 H2) : SameBut a H H2 := fun b o n h => y b o n (x b o n h)
theorem SameBut.upd {a : Addr} {H : Hp} {o : HO} : SameBut a H (upd H a o) := fun b u n h => by rw [upd_ne n]; exact h
theorem SameBut.new {a p : Addr} {H : Hp} {o : HO} (h : H p = none) : SameBut a H (L2.upd H p o) := fun b u n e => by rw [upd_ne (ne_of_none e h)]; exact e
theorem Same.but {a : Addr} {H H' : Hp} (h : Same H H') : SameBut a H H' := fun b o _ e => h b o e
theorem same_upd {H : Hp} {p : Addr} {o : HO} (h : H p = none) : Same H (upd H p o) := fun b x e => by
  rw [upd_ne (ne_of_none e h)]
  exact e
theorem upd_self {H : Hp} {a : Addr} {o : HO} (h : H a = some o) : upd H a o = H := by
  funext b
  unfold upd
  by_cases e : b = a
  · rw [if_pos e, e, h]
  · rw [if_neg e]
theorem Same.mut {H H' : Hp} {p : Addr} {o : HO} (e : Same H H') (h : H p = none) : Same H (upd H' p o) := fun a u ha => by
  rw [upd_ne (ne_of_none ha h)]
  exact e a u ha
theorem map_int_get {ns : List Int} {i : Nat} {y : V} (hi : (ns.map V.int)[i]? = some y) : ∃ z, ns[i]? = some z ∧ y = V.int z := by
  rw [List.getElem?_map] at hi
  cases e : ns[i]? with
  | none =>
    rw [e] at hi
    cases hi
  | some z =>
    rw [e] at hi
    exact ⟨z, rfl, (Option.some.inj hi).symm⟩
theorem small_of {n : Nat} (h : n ≤ 100000) : n < sizeLine := Nat.lt_of_le_of_lt h (by decide)
structure ErrC (K : PySem.W.Frag) (mg : Str → Option Value) (x : Str) (C : Addr) : Prop where
  gc : mg x = some (.ref C)
  xC : PySem.W.excIn K C [.type "ValueError", .type "Exception", .type "BaseException", .type "object"] "ValueError.__new__" = true
  kc : PySem.W.keepIn K (.ref C) = true
  bc : PySem.W.subIn K (.ref C) (.type "BaseException") = some true
  tc : PySem.W.typeIn K (.ref C) = some (.type "type")
/-- a def whose defaults stand somewhere (called with all its arguments) -/
structure FunA (K : PySem.W.Frag) (x qual : Str) (st : Stmt) (f : Addr) (fd : FuncData) : Prop where
  ex : ∃ (oc : Value) (od : Option Addr) (dV kV doc pm : Value) (an : Option Addr) (cdv ct : Value) (osl : Array (Option Value)),
    fd = PySem.W.fnOf x qual (defArgs st) (defBody st) (defScope st) dV kV doc pm an cdv ct ∧ K.lookup f = some ⟨oc, od, .func fd, osl⟩ ∧ PySem.W.codeIn K cdv qual = true
  kp : PySem.W.keepIn K (.ref f) = true
section
variable {P : Program} {w : World} {K : PySem.W.Frag} {mg : Str → Option Value} {base : Heap}
theorem FunA.okX {x qual : Str} {st : Stmt} {f : Addr} {fd : FuncData} {N ps : List Str} {k : Nat} {sp : Sp} (F : FunA K x qual st f fd) (S : FnScope N ps (defScope st)) (len : ∀ vs H Q E, sp vs H Q E → vs.length = ps.length)
    (hbody : ∀ (cdv : Value) (A : Around) (outer : List Env) (s : Shared) (H : Hp) (vs : List V) (Q : VK) (E : XK), Room k (A.deeper (envOfC qual (defScope st) s.heap.objs.size f cdv)) → sp vs H Q E →
      ∃ t, PSs (cxOf (L2.CX P w) P w K mg base N qual (defScope st) f cdv A outer s H E) (defBody st) t ∧ t { nx := fun _ H' => Q .non H', rt := Q } (start N vs) H) : FnOk P w K mg base (L2.CX P w) (k + 1) f fd ps sp := by
  obtain ⟨oc, od, dV, kV, doc, pm, an, cdv, ct, osl, rfl, lk, hcd⟩ := F.ex
  exact fn_of lk hcd S len fun A outer s H vs Q E hr hsp => hbody cdv A outer s H vs Q E hr hsp
end
theorem if_pos_of {b : Bool} {A B : Prop} (h : b = true) (x : A) : if b = true then A else B := by
  rw [if_pos h]
  exact x
theorem if_neg_of {b : Bool} {A B : Prop} (h : ¬ b = true) (x : B) : if b = true then A else B := by
  rw [if_neg h]
  exact x
theorem sqT_same {K : PySem.W.Frag} {H H' : Hp} {a : Addr} {xs : List V} (e : Same H H') (h : SqT K H a xs) : SqT K H' a xs := by
  rcases h with (h | ⟨o, h⟩) | h
  · exact .inl (.inl (e _ _ h))
  · exact .inl (.inr ⟨o, e _ _ h⟩)
  · exact .inr h
section
variable {P : Program} {w : World} {K : PySem.W.Frag} {mg : Str → Option Value} {base : Heap}
theorem room64 {k : Nat} {A : Around} (hr : Room k A) : A.units + 64 < cLine := by have := hr.un; omega
theorem room65 {k : Nat} {A : Around} (hr : Room k A) : A.units + 65 < cLine := by have := hr.un; omega
theorem inV_primes {p : Int} : inV (.int p) [.int 2, .int 3, .int 5, .int 7, .int 11, .int 13, .int 17, .int 19, .int 23, .int 29, .int 31] = inV (.int p) (primes.map V.int) := rfl
end
theorem sqT_but {K : PySem.W.Frag} {H H' : Hp} {r a : Addr} {xs : List V} (e : SameBut r H H') (n : a ≠ r) (h : SqT K H a xs) : SqT K H' a xs := by
  rcases h with (h | ⟨o, h⟩) | h
  · exact .inl (.inl (e _ _ n h))
  · exact .inl (.inr ⟨o, e _ _ n h⟩)
  · exact .inr h
theorem at_tab {xs : List Int} {i : Int} (h0 : 0 ≤ i) (h1 : i < xs.length) : atI (xs.map V.int) i = some (.int (xs.getD i.toNat 0)) := by
  obtain ⟨n, rfl⟩ := Int.eq_ofNat_of_zero_le h0
  have hn : n < xs.length := by omega
  refine atI_nat ?_
  rw [List.getElem?_map, List.getElem?_eq_getElem hn, List.getD_eq_getElem?_getD, show ((n : Nat) : Int).toNat = n from rfl, List.getElem?_eq_getElem hn]
  rfl
theorem mod_lt8 (n : Int) {m : Int} (h : 0 < m) : 0 ≤ n % m ∧ n % m < m := ⟨Int.emod_nonneg _ (by omega), Int.emod_lt_of_pos _ h⟩
def wtab : List Int := [0, 0, 0, 2, 3, 5, 7, 31]
theorem wtab_in : ∀ k : Nat, k < 8 → wtab.getD k 0 = 0 ∨ (wtab.getD k 0 ≠ 0 ∧ inV (.int (wtab.getD k 0)) (primes.map V.int) = true ∧ 2 ≤ wtab.getD k 0) := by decide
/-! ### isinstance of the error that an except suite holds -/
def rIsE' (K : PySem.W.Frag) (cls : Value) (d : Option Addr) (a : Addr) : List V → Hp → VK → Prop := fun xs H Q => ∃ D : Addr, cls = .ref D ∧ d = none ∧ ExcC K D ∧ rIsE K D a xs H Q
theorem call_isE' {X : Cx} {a : Addr} {oe : Obj} {pn : List (Addr × Obj)} {cls : Value} {d : Option Addr} (hz : Zc cls d oe) (hf : ∃ vs, oe.data = .fields vs) : CallR (X.suite a ((a, oe) :: pn)) (.builtin "isinstance") (rIsE' X.K cls d a) := by
  intro pins s σ H xs us Q I r h
  obtain ⟨D, rfl, rfl, C, h⟩ := h
  exact call_isE C hz hf pins s σ H xs us Q I r h
theorem pe_indexK {X : Cx} {K : PySem.W.Frag} {o e : Expr} {to : TE} {t : TA} {apos cpos : Pos} (hK : X.K = K) (ho : PE X o to) (ha : PA X [e] t)
    (hb : attributeBase o "index" X.env (eval o X.env) = eval o X.env := by rfl)
    (hf : ((backTo cpos (starEach [e] X.env)).all (fun x => !x.1) && (backToKw cpos (keywordEach [] X.env)).all (fun x => x.1.isSome) && decide ([e].length + ([] : List Keyword).length + (if ([] : List Keyword).isEmpty then 0 else 1) < 30)) = true := by rfl)
    (hl : (apos.endLine == cpos.line) = true := by rfl) (hs : starEach [e] X.env = (false, eval e X.env) :: starEach [] X.env := by rfl) (hp : (backTo cpos (starEach [] X.env)).any (·.1) = false := by rfl) :
    PE X (.Call (.Attribute o "index" apos) [e] [] cpos) (tBM K "list" (rIndex K) to t) := by
  subst hK
  exact pe_bm PySem.F.plainAttrs_list PySem.F.slot_list_index PySem.F.type_list_index mt_index ho ha hb hf hl hs hp
/-! ### values without depth -/
inductive Val1 (H : Hp) : V → PyData → Prop
  | non : Val1 H .non .none
  | bl (b : Bool) : Val1 H (.bl b) (.bool b)
  | str (x : Str) : Val1 H (.str x) (.str x)
  | pair {t : Addr} {u v : Int} : H t = some (.tup [.int u, .int v]) → Val1 H (.ref t) (.tuple [.int u, .int v])
theorem Val1.dp {K : PySem.W.Frag} {H : Hp} {x : V} {d : PyData} (h : Val1 H x d) : Dp K H x d := by
  cases h with
  | non => exact .non
  | bl b => exact .bl b
  | str x => exact .str x
  | pair h => exact .tup (.inl (.inl h)) (.cons (.int _) (.cons (.int _) .nil))
theorem Val1.but {H H' : Hp} {D : Addr} {ys : List V} {x : V} {d : PyData} (s : SameBut D H H') (hD : H D = some (.lst ys)) (h : Val1 H x d) : Val1 H' x d := by
  cases h with
  | non => exact .non
  | bl b => exact .bl b
  | str x => exact .str x
  | pair h => exact .pair (s _ _ (ne_of h hD (fun z => nomatch z)) h)
theorem Val1.same {H H' : Hp} {x : V} {d : PyData} (s : Same H H') (h : Val1 H x d) : Val1 H' x d := by
  cases h with
  | non => exact .non
  | bl b => exact .bl b
  | str x => exact .str x
  | pair h => exact .pair (s _ _ h)
theorem vals1_dp {K : PySem.W.Frag} {H : Hp} : ∀ {xs : List V} {ds : List PyData}, Paired (Val1 H) xs ds → DpAll K H xs ds
  | _, _, .nil => .nil
  | _, _, .cons a b => .cons a.dp (vals1_dp b)
theorem paired_snoc {α β : Type} {F : α → β → Prop} {a : α} {b : β} (h : F a b) : ∀ {l : List α} {m : List β}, Paired F l m → Paired F (l ++ [a]) (m ++ [b])
  | _, _, .nil => .cons h .nil
  | _, _, .cons x y => .cons x (paired_snoc h y)

/-- the first def of a class -/
def inCls : Stmt → Stmt
  | .ClassDef _ _ _ body _ _ _ _ _ _ _ => body.getD 0 (.Pass ⟨0, 0, 0, 0⟩)
  | s => s
theorem pt_truthK {X : Cx} {K : PySem.W.Frag} {a : Expr} {ta : TE} (hK : X.K = K) (ha : PE X a ta) (he : ∀ whole, isTrue a X.env whole = (do let v ← whole; standAt a.pos; holding [v] (truthy v))) :
    PT X a (fun σ H Q => ta σ H fun x H' => ∃ k, TruV K x H' k ∧ Q k H') := by
  subst hK
  exact pt_truth ha he
theorem op_in_seqK {X : Cx} {K : PySem.W.Frag} (hK : X.K = K) : OpR X (compareOp .In) (rIn K false) := by
  subst hK
  exact op_in_seq
theorem op_notIn_seqK {X : Cx} {K : PySem.W.Frag} (hK : X.K = K) : OpR X (compareOp .NotIn) (rIn K true) := by
  subst hK
  exact op_notIn_seq
theorem pi_listK {X : Cx} {K : PySem.W.Frag} {tg e : Expr} {te : TE} (hK : X.K = K) (he : PE X e te) : PI X tg e (iList K te) := by
  subst hK
  exact pi_list he

def topS (i : Nat) : Stmt := PySem.Challenge.pw_threadworth_k28_words_and_their_diagrams.main.body.getD i (.Pass ⟨0, 0, 0, 0⟩)
abbrev s_is_size_ : Stmt := topS 16
theorem sc_is_size_ : FnScope ["n", "m"] ["n", "m"] (defScope s_is_size_) := ⟨rfl, rfl, rfl, by decide +kernel, rfl, by decide +kernel, by decide +kernel⟩
abbrev s_check_size_ : Stmt := topS 17
theorem sc_check_size_ : FnScope ["n", "m"] ["n", "m"] (defScope s_check_size_) := ⟨rfl, rfl, rfl, by decide +kernel, rfl, by decide +kernel, by decide +kernel⟩
abbrev s_is_diagram : Stmt := topS 18
theorem sc_is_diagram : FnScope ["diagram", "n", "m", "blocks", "points", "firsts", "block", "point"] ["diagram"] (defScope s_is_diagram) := ⟨rfl, rfl, rfl, by decide +kernel, rfl, by decide +kernel, by decide +kernel⟩
abbrev s_check_diagram : Stmt := topS 19
theorem sc_check_diagram : FnScope ["diagram"] ["diagram"] (defScope s_check_diagram) := ⟨rfl, rfl, rfl, by decide +kernel, rfl, by decide +kernel, by decide +kernel⟩
abbrev s_check_family : Stmt := topS 20
theorem sc_check_family : FnScope ["family"] ["family"] (defScope s_check_family) := ⟨rfl, rfl, rfl, by decide +kernel, rfl, by decide +kernel, by decide +kernel⟩
abbrev s_from_labels : Stmt := topS 21
theorem sc_from_labels : FnScope ["n", "m", "marks", "blocks", "point", "mark"] ["n", "m", "marks"] (defScope s_from_labels) := ⟨rfl, rfl, rfl, by decide +kernel, rfl, by decide +kernel, by decide +kernel⟩
abbrev s_check_ : Stmt := topS 24
theorem sc_check_ : FnScope ["n", "i", "strands"] ["n", "i", "strands"] (defScope s_check_) := ⟨rfl, rfl, rfl, by decide +kernel, rfl, by decide +kernel, by decide +kernel⟩
abbrev s_changed_ : Stmt := topS 25
theorem sc_changed_ : FnScope ["n", "i", "above", "below"] ["n", "i", "above", "below"] (defScope s_changed_) := ⟨rfl, rfl, rfl, by decide +kernel, rfl, by decide +kernel, by decide +kernel⟩
abbrev s_with_marks_ : Stmt := topS 26
theorem sc_with_marks_ : FnScope ["n", "i", "marks"] ["n", "i", "marks"] (defScope s_with_marks_) := ⟨rfl, rfl, rfl, by decide +kernel, rfl, by decide +kernel, by decide +kernel⟩
abbrev s_unit : Stmt := topS 27
theorem sc_unit : FnScope ["n"] ["n"] (defScope s_unit) := ⟨rfl, rfl, rfl, by decide +kernel, rfl, by decide +kernel, by decide +kernel⟩
abbrev s_hook : Stmt := topS 28
theorem sc_hook : FnScope ["n", "i"] ["n", "i"] (defScope s_hook) := ⟨rfl, rfl, rfl, by decide +kernel, rfl, by decide +kernel, by decide +kernel⟩
abbrev s_swap : Stmt := topS 29
theorem sc_swap : FnScope ["n", "i"] ["n", "i"] (defScope s_swap) := ⟨rfl, rfl, rfl, by decide +kernel, rfl, by decide +kernel, by decide +kernel⟩
abbrev s_bridge : Stmt := topS 30
theorem sc_bridge : FnScope ["n", "i"] ["n", "i"] (defScope s_bridge) := ⟨rfl, rfl, rfl, by decide +kernel, rfl, by decide +kernel, by decide +kernel⟩
abbrev s_cut : Stmt := topS 31
theorem sc_cut : FnScope ["n", "i"] ["n", "i"] (defScope s_cut) := ⟨rfl, rfl, rfl, by decide +kernel, rfl, by decide +kernel, by decide +kernel⟩
abbrev s_piece_marks : Stmt := topS 33
theorem sc_piece_marks : FnScope ["size", "groups", "parents", "group", "point", "low"] ["size", "groups"] (defScope s_piece_marks) := ⟨rfl, rfl, rfl, by decide +kernel, rfl, by decide +kernel, by decide +kernel⟩
abbrev s_root_ : Stmt := topS 34
theorem sc_root_ : FnScope ["parents", "point", "found"] ["parents", "point"] (defScope s_root_) := ⟨rfl, rfl, rfl, by decide +kernel, rfl, by decide +kernel, by decide +kernel⟩
abbrev s_hidden_count : Stmt := topS 35
theorem sc_hidden_count : FnScope ["marks", "shown"] ["marks", "shown"] (defScope s_hidden_count) := ⟨rfl, rfl, rfl, by decide +kernel, rfl, by decide +kernel, by decide +kernel⟩
abbrev s_put : Stmt := topS 37
theorem sc_put : FnScope ["one", "other", "n", "m", "upper", "k", "q", "lower", "groups", "marks", "shown", "block", "point"] ["one", "other"] (defScope s_put) := ⟨rfl, rfl, rfl, by decide +kernel, rfl, by decide +kernel, by decide +kernel⟩
abbrev s_letters : Stmt := topS 42
theorem sc_letters : FnScope ["family", "n", "kind", "i"] ["family", "n"] (defScope s_letters) := ⟨rfl, rfl, rfl, by decide +kernel, rfl, by decide +kernel, by decide +kernel⟩
abbrev s_strands_ : Stmt := topS 43
theorem sc_strands_ : FnScope ["kind"] ["kind"] (defScope s_strands_) := ⟨rfl, rfl, rfl, by decide +kernel, rfl, by decide +kernel, by decide +kernel⟩
abbrev s_letter_diagram : Stmt := topS 44
theorem sc_letter_diagram : FnScope ["n", "letter", "kind", "i"] ["n", "letter"] (defScope s_letter_diagram) := ⟨rfl, rfl, rfl, by decide +kernel, rfl, by decide +kernel, by decide +kernel⟩
abbrev s_is_word : Stmt := topS 45
theorem sc_is_word : FnScope ["n", "word"] ["n", "word"] (defScope s_is_word) := ⟨rfl, rfl, rfl, by decide +kernel, rfl, by decide +kernel, by decide +kernel⟩
abbrev s_has_only_ : Stmt := topS 46
theorem sc_has_only_ : FnScope ["allowed", "word", "letter"] ["allowed", "word"] (defScope s_has_only_) := ⟨rfl, rfl, rfl, by decide +kernel, rfl, by decide +kernel, by decide +kernel⟩
abbrev s_check_word : Stmt := topS 47
theorem sc_check_word : FnScope ["n", "word"] ["n", "word"] (defScope s_check_word) := ⟨rfl, rfl, rfl, by decide +kernel, rfl, by decide +kernel, by decide +kernel⟩
abbrev s_diagram_of : Stmt := topS 48
theorem sc_diagram_of : FnScope ["n", "word", "loops", "made", "letter", "more"] ["n", "word"] (defScope s_diagram_of) := ⟨rfl, rfl, rfl, by decide +kernel, rfl, by decide +kernel, by decide +kernel⟩
abbrev s_is_word_of : Stmt := topS 49
theorem sc_is_word_of : FnScope ["family", "n", "word", "allowed"] ["family", "n", "word"] (defScope s_is_word_of) := ⟨rfl, rfl, rfl, by decide +kernel, rfl, by decide +kernel, by decide +kernel⟩
abbrev s_word_text : Stmt := topS 50
theorem sc_word_text : FnScope ["n", "word", "letter"] ["n", "word"] (defScope s_word_text) := ⟨rfl, rfl, rfl, by decide +kernel, rfl, by decide +kernel, by decide +kernel⟩
abbrev s_letter_text_ : Stmt := topS 51
theorem sc_letter_text_ : FnScope ["letter", "kind", "i"] ["letter"] (defScope s_letter_text_) := ⟨rfl, rfl, rfl, by decide +kernel, rfl, by decide +kernel, by decide +kernel⟩
abbrev s_read_word : Stmt := topS 52
theorem sc_read_word : FnScope ["n", "text", "told", "found", "at", "part", "letter"] ["n", "text"] (defScope s_read_word) := ⟨rfl, rfl, rfl, by decide +kernel, rfl, by decide +kernel, by decide +kernel⟩
abbrev s_law_number : Stmt := topS 54
theorem sc_law_number : FnScope ["cell"] ["cell"] (defScope s_law_number) := ⟨rfl, rfl, rfl, by decide +kernel, rfl, by decide +kernel, by decide +kernel⟩
abbrev s_law_draws : Stmt := topS 55
theorem sc_law_draws : FnScope ["script", "draws", "cell", "rest", "k", "once", "twice"] ["script"] (defScope s_law_draws) := ⟨rfl, rfl, rfl, by decide +kernel, rfl, by decide +kernel, by decide +kernel⟩
abbrev s_law_next : Stmt := topS 56
theorem sc_law_next : FnScope ["draws"] ["draws"] (defScope s_law_next) := ⟨rfl, rfl, rfl, by decide +kernel, rfl, by decide +kernel, by decide +kernel⟩
abbrev s_law_marked : Stmt := topS 57
theorem sc_law_marked : FnScope ["n", "m", "marks", "known", "blocks", "at", "block"] ["n", "m", "marks"] (defScope s_law_marked) := ⟨rfl, rfl, rfl, by decide +kernel, rfl, by decide +kernel, by decide +kernel⟩
abbrev s_law_marks : Stmt := topS 58
theorem sc_law_marks : FnScope ["diagram", "marks", "number", "point"] ["diagram"] (defScope s_law_marks) := ⟨rfl, rfl, rfl, by decide +kernel, rfl, by decide +kernel, by decide +kernel⟩
abbrev s_law_belongs : Stmt := topS 59
theorem sc_law_belongs : FnScope ["family", "diagram", "n", "m", "blocks", "block", "crossing"] ["family", "diagram"] (defScope s_law_belongs) := ⟨rfl, rfl, rfl, by decide +kernel, rfl, by decide +kernel, by decide +kernel⟩
abbrev s_law_glued : Stmt := topS 60
theorem sc_law_glued : FnScope ["marks", "pairs", "one", "other", "old", "mark"] ["marks", "pairs"] (defScope s_law_glued) := ⟨rfl, rfl, rfl, by decide +kernel, rfl, by decide +kernel, by decide +kernel⟩
abbrev s_law_kinds : Stmt := topS 61
theorem sc_law_kinds : FnScope ["marks", "kinds", "mark"] ["marks"] (defScope s_law_kinds) := ⟨rfl, rfl, rfl, by decide +kernel, rfl, by decide +kernel, by decide +kernel⟩
abbrev s_law_letter_kinds : Stmt := topS 62
theorem sc_law_letter_kinds : FnScope ["family"] ["family"] (defScope s_law_letter_kinds) := ⟨rfl, rfl, rfl, by decide +kernel, rfl, by decide +kernel, by decide +kernel⟩
abbrev s_law_wide : Stmt := topS 63
theorem sc_law_wide : FnScope ["kind"] ["kind"] (defScope s_law_wide) := ⟨rfl, rfl, rfl, by decide +kernel, rfl, by decide +kernel, by decide +kernel⟩
abbrev s_law_alphabet : Stmt := topS 64
theorem sc_law_alphabet : FnScope ["family", "n", "found", "kind", "i"] ["family", "n"] (defScope s_law_alphabet) := ⟨rfl, rfl, rfl, by decide +kernel, rfl, by decide +kernel, by decide +kernel⟩
abbrev s_law_drawn_word : Stmt := topS 65
theorem sc_law_drawn_word : FnScope ["draws", "family", "n", "most", "some", "word", "j"] ["draws", "family", "n", "most"] (defScope s_law_drawn_word) := ⟨rfl, rfl, rfl, by decide +kernel, rfl, by decide +kernel, by decide +kernel⟩
abbrev s_law_letter_blocks : Stmt := topS 66
theorem sc_law_letter_blocks : FnScope ["letter", "n", "top", "kind", "i", "wide", "blocks", "at"] ["letter", "n", "top"] (defScope s_law_letter_blocks) := ⟨rfl, rfl, rfl, by decide +kernel, rfl, by decide +kernel, by decide +kernel⟩
abbrev s_law_worded : Stmt := topS 67
theorem sc_law_worded : FnScope ["n", "word", "pairs", "at", "marks", "outer"] ["n", "word"] (defScope s_law_worded) := ⟨rfl, rfl, rfl, by decide +kernel, rfl, by decide +kernel, by decide +kernel⟩
abbrev s_law_family : Stmt := topS 68
theorem sc_law_family : FnScope ["draws"] ["draws"] (defScope s_law_family) := ⟨rfl, rfl, rfl, by decide +kernel, rfl, by decide +kernel, by decide +kernel⟩
abbrev s_law_error : Stmt := topS 69
theorem sc_law_error : FnScope ["error", "kinds"] ["error"] (defScope s_law_error) := ⟨rfl, rfl, rfl, by decide +kernel, rfl, by decide +kernel, by decide +kernel⟩
abbrev s_law_turned_over : Stmt := topS 70
theorem sc_law_turned_over : FnScope ["diagram", "n", "m", "marks"] ["diagram"] (defScope s_law_turned_over) := ⟨rfl, rfl, rfl, by decide +kernel, rfl, by decide +kernel, by decide +kernel⟩
abbrev s_law_told : Stmt := topS 71
theorem sc_law_told : FnScope ["which", "family", "n", "word", "error"] ["which", "family", "n", "word"] (defScope s_law_told) := ⟨rfl, rfl, rfl, by decide +kernel, rfl, by decide +kernel, by decide +kernel⟩
abbrev s_law_read : Stmt := topS 72
theorem sc_law_read : FnScope ["n", "text", "error"] ["n", "text"] (defScope s_law_read) := ⟨rfl, rfl, rfl, by decide +kernel, rfl, by decide +kernel, by decide +kernel⟩
abbrev s_law_wrong_texts : Stmt := topS 73
theorem sc_law_wrong_texts : FnScope ["draws", "n", "parts", "at", "bad", "text"] ["draws", "n", "parts"] (defScope s_law_wrong_texts) := ⟨rfl, rfl, rfl, by decide +kernel, rfl, by decide +kernel, by decide +kernel⟩
abbrev s_law_refused : Stmt := topS 74
theorem sc_law_refused : FnScope ["draws", "family", "n", "word", "at", "bad", "wrong", "long", "strange", "which", "count"] ["draws", "family", "n", "word"] (defScope s_law_refused) := ⟨rfl, rfl, rfl, by decide +kernel, rfl, by decide +kernel, by decide +kernel⟩
abbrev s_law : Stmt := topS 75
theorem sc_law : FnScope ["script", "draws", "n", "family", "word", "count", "diagram", "parts", "text", "good", "kind", "i"] ["script"] (defScope s_law) := ⟨rfl, rfl, rfl, by decide +kernel, rfl, by decide +kernel, by decide +kernel⟩
abbrev s_Malformed_init : Stmt := inCls (topS 11)
theorem sc_Malformed_init : FnScope ["self", "at"] ["self", "at"] (defScope s_Malformed_init) := ⟨rfl, rfl, rfl, by decide +kernel, rfl, by decide +kernel, by decide +kernel⟩
structure SmL (n k : Nat) (D : PyData) : Prop where
  lay : D.canLay0 = true
  dep : D.depth ≤ n
  sho : D.showable = true
  wgt : wt D ≤ k
theorem smL_all {n k : Nat} : ∀ {ds : List PyData}, (∀ D ∈ ds, SmL n k D) → PyData.canLayAll0 ds = true ∧ PyData.depthAll ds ≤ n ∧ PyData.showableAll ds = true ∧ wtAll ds ≤ (k + 2) * ds.length
  | [], _ => ⟨by simp [PyData.canLayAll0], by simp [PyData.depthAll], by simp [PyData.showableAll], by simp [wtAll]⟩
  | D :: ds, h => by
    obtain ⟨h1, h2, h3, h4⟩ := smL_all (ds := ds) fun E hE => h E (List.mem_cons_of_mem _ hE)
    have g := h D List.mem_cons_self
    refine ⟨by simp [PyData.canLayAll0, g.lay, h1], ?_, by simp [PyData.showableAll, g.sho, h3], ?_⟩
    · simp only [PyData.depthAll]
      have := g.dep
      omega
    · simp only [wtAll, List.length_cons, Nat.mul_add]
      have := g.wgt
      omega
theorem smL_list {n k : Nat} {ds : List PyData} (h : ∀ D ∈ ds, SmL n k D) : SmL (n + 1) ((k + 2) * ds.length + 3) (.list ds) := by
  obtain ⟨h1, h2, h3, h4⟩ := smL_all h
  exact ⟨by simp [PyData.canLay0, h1], by simp only [PyData.depth]; omega, by simp [PyData.showable, h3], by simp only [wt]; omega⟩
theorem smL_tuple {n k : Nat} {ds : List PyData} (h : ∀ D ∈ ds, SmL n k D) : SmL (n + 1) ((k + 2) * ds.length + 3) (.tuple ds) := by
  obtain ⟨h1, h2, h3, h4⟩ := smL_all h
  exact ⟨by simp [PyData.canLay0, h1], by simp only [PyData.depth]; omega, by simp [PyData.showable, h3], by simp only [wt]; omega⟩
theorem SmL.shaped {n k : Nat} {D : PyData} (h : SmL n k D) (hn : n ≤ 64) : SeqAt.shaped D = true := by
  show (PyData.canLay0 D && decide (PyData.depth D ≤ 64)) = true
  rw [h.lay, decide_eq_true (Nat.le_trans h.dep hn)]
  rfl
theorem SmL.wide {n k : Nat} {D : PyData} (h : SmL n k D) (hk : k ≤ 16777216) : wt D ≤ sizeLine := by
  rw [sizeLine_eq]
  exact Nat.le_trans h.wgt hk
theorem small_log {i : Int} (h : i.natAbs < 2 ^ 200) : i.natAbs.log2 < 1920 := by
  by_cases e : i.natAbs = 0
  · rw [e]
    decide
  · exact (Nat.log2_lt e).mpr (Nat.lt_of_lt_of_le h (Nat.pow_le_pow_right (by decide) (by decide)))
theorem smL_int {i : Int} (h : i.natAbs < 2 ^ 200) : SmL 0 1921 (.int i) := ⟨by simp [PyData.canLay0], by simp [PyData.depth], by simp [PyData.showable, small_log h], by simp only [wt]; omega⟩
theorem smL_pair {u v : Int} (hu : u.natAbs < 2 ^ 200) (hv : v.natAbs < 2 ^ 200) : SmL 1 4000 (.tuple [.int u, .int v]) := by
  have h := smL_tuple (ds := [.int u, .int v]) (n := 0) (k := 1921) fun D hD => by
    rcases List.mem_cons.mp hD with rfl | hD
    · exact smL_int hu
    · rcases List.mem_cons.mp hD with rfl | hD
      · exact smL_int hv
      · cases hD
  exact ⟨h.lay, h.dep, h.sho, Nat.le_trans h.wgt (by show (1921 + 2) * 2 + 3 ≤ 4000; decide)⟩
theorem ok_n : PyData.strOk ("!n" : Str) = true := by decide +kernel
theorem ok_b : PyData.strOk ("!b" : Str) = true := by decide +kernel
theorem ok_w : PyData.strOk ("!w" : Str) = true := by decide +kernel
theorem rl_n : (reprText ("!n" : Str)).length = 4 := by decide +kernel
theorem rl_b : (reprText ("!b" : Str)).length = 4 := by decide +kernel
theorem rl_w : (reprText ("!w" : Str)).length = 4 := by decide +kernel
theorem smL_n : SmL 1 4000 (.str "!n") := ⟨by simp [PyData.canLay0, ok_n], by simp [PyData.depth], by simp [PyData.showable], by simp only [wt, rl_n]; omega⟩
theorem smL_b : SmL 1 4000 (.str "!b") := ⟨by simp [PyData.canLay0, ok_b], by simp [PyData.depth], by simp [PyData.showable], by simp only [wt, rl_b]; omega⟩
theorem smL_w : SmL 1 4000 (.str "!w") := ⟨by simp [PyData.canLay0, ok_w], by simp [PyData.depth], by simp [PyData.showable], by simp only [wt, rl_w]; omega⟩
theorem smL_non : SmL 1 4000 .none := ⟨by simp [PyData.canLay0], by simp [PyData.depth], by simp [PyData.showable], by simp only [wt]; omega⟩
theorem smL_bool (b : Bool) : SmL 1 4000 (.bool b) := ⟨by simp [PyData.canLay0], by simp [PyData.depth], by simp [PyData.showable], by simp only [wt]; omega⟩

section
variable {P : Program} {w : World} {K : PySem.W.Frag} {mg : Str → Option Value} {base : Heap}
/-! ### _law_number -/
def spPlain : Sp := fun vs H Q _ => ∃ n : Int, vs = [.int n] ∧ Q (.int (if n < 0 then -n else n)) H
theorem ok_plain {f : Addr} {fd : FuncData} (F : Fun K "_law_number" "_law_number" s_law_number f fd) : FnOk P w K mg base CX0 1 f fd ["cell"] spPlain := by
  refine F.ok sc_law_number (fun vs H Q E h => ?_) (fun cdv A outer s H vs Q E hr h => ?_)
  · obtain ⟨n, rfl, _⟩ := h
    rfl
  · obtain ⟨n, rfl, q⟩ := h
    refine ⟨_, (pss_cons (ps_if (pt_cmpR op_lt (pv 0) pe_int (nomark _)) (pss_one (ps_ret (pe_op op_sub pe_int (pv 0)))) pss_nil)
  (pss_one (ps_ret (pv 0))))
    , ?_⟩
    refine ⟨_, rfl, _, _, rfl, rfl, _, rfl, ite2 (fun e => ?_) (fun e => ?_)⟩
    · rw [if_pos (of_decide_eq_true e)] at q
      have q' : Q (.int (0 - n)) H := by
        rw [show (0 : Int) - n = -n by omega]
        exact q
      exact ⟨_, rfl, _, _, rfl, rfl, q'⟩
    · rw [if_neg (fun z => e (decide_eq_true z))] at q
      exact ⟨_, rfl, q⟩
end

section
variable {P : Program} {w : World} {K : PySem.W.Frag} {mg : Str → Option Value} {base : Heap}
/-! ### _law_next -/
def spNext : Sp := fun vs H Q _ => ∃ (a : Addr) (ds : List Int), vs = [.ref a] ∧ H a = some (.lst (ds.map V.int)) ∧ ∀ (n : Int) (ds' : List Int), Q (.int n) (upd H a (.lst (ds'.map V.int)))
theorem ok_next {f : Addr} {fd : FuncData} (F : Fun K "_law_next" "_law_next" s_law_next f fd) : FnOk P w K mg base CX0 1 f fd ["draws"] spNext := by
  refine F.ok sc_law_next (fun vs H Q E h => ?_) (fun cdv A outer s H vs Q E hr h => ?_)
  · obtain ⟨a, ds, rfl, _⟩ := h
    rfl
  · obtain ⟨a, ds, rfl, hL, q⟩ := h
    refine ⟨_, (pss_cons (ps_if (pt_truth (pv 0) (by intro _; rfl)) (pss_one (ps_ret (pe_bm0 PySem.F.plainAttrs_list PySem.F.slot_list_pop PySem.F.type_list_pop mt_pop (pv 0)))) pss_nil)
  (pss_one (ps_ret pe_int)))
    , ?_⟩
    refine ⟨_, rfl, _, .inl ⟨_, .inl (.inl hL), rfl⟩, ite2 (fun e => ?_) (fun e => ?_)⟩
    · have hn : ds ≠ [] := fun z => by subst z; cases e
      have hm : ds.map V.int = ds.dropLast.map V.int ++ [V.int (ds.getLast hn)] := by
        rw [← List.map_singleton, ← List.map_append, List.dropLast_concat_getLast]
      refine ⟨_, rfl, .inl ⟨rfl, _, .inl (.inl hL)⟩, a, _, .int (ds.getLast hn), rfl, rfl, hL, ?_, ?_⟩
      · rw [hm]; simp
      · rw [hm, List.dropLast_concat]
        exact q _ _
    · have := q 0 ds
      rw [upd_self hL] at this
      exact this
end

section
variable {P : Program} {w : World} {K : PySem.W.Frag} {mg : Str → Option Value} {base : Heap}
/-! ### _law_draws -/
def spDraws (K : PySem.W.Frag) : Sp := fun vs H Q _ => ∃ (a : Addr) (ns : List Int), vs = [.ref a] ∧ SqL K H a (ns.map V.int) ∧ ns.length ≤ 63 ∧
  ∀ H' r (ds : List Int), Same H H' → H r = none → H' r = some (.lst (ds.map V.int)) → Q (.ref r) H'
theorem ok_draws {f : Addr} {fd : FuncData} {a_law_number : Addr} {fd_law_number : FuncData} (F : Fun K "_law_draws" "_law_draws" s_law_draws f fd) (z_range : mg "range" = none) (z_int : mg "int" = none)
    (G_law_number : FnOk P w K mg base CX0 1 a_law_number fd_law_number ["cell"] spPlain) (g_law_number : mg "_law_number" = some (.ref a_law_number)) (k_law_number : PySem.W.keepIn K (.ref a_law_number) = true) (b_law_number : Binds K fd_law_number ["cell"] []) :
    FnOk P w K mg base CX0 2 f fd ["script"] (spDraws K) := by
  refine F.ok sc_law_draws (fun vs H Q E h => ?_) (fun cdv A outer s H vs Q E hr h => ?_)
  · obtain ⟨n, _, rfl, _⟩ := h
    rfl
  · obtain ⟨a, ns, rfl, hS, hlen, q⟩ := h
    refine ⟨_, (pss_cons (ps_set (i := 1) sc_law_draws.nd rfl (.inl rfl) (pe_lst pa_nil))
  (pss_cons (ps_for PassesOwn.never rfl (pi_list (pv 0)) (pg_name (i := 2) sc_law_draws.nd rfl (.inl rfl)) (pss_cons (ps_set (i := 3) sc_law_draws.nd rfl (.inl rfl) (pe_call G_law_number (hr.mono (by decide)) rfl g_law_number k_law_number b_law_number .nil pass0 (pa_cons (pv 2) pa_nil)))
  (pss_one (ps_if (pt_cmpR op_ge (pv 3) pe_int (nomark _)) (pss_one (ps_for PassesOwn.never rfl (pi_range1 rfl z_range (pa_cons pe_int pa_nil)) (pg_name (i := 4) sc_law_draws.nd rfl (.inl rfl)) (pss_cons (ps_if (pt_cmpR op_eq (pv 3) pe_int (nomark _)) (pss_one ps_break) pss_nil)
  (pss_cons (ps_expr (pe_bm PySem.F.plainAttrs_list PySem.F.slot_list_append PySem.F.type_list_append mt_append (pv 1) (pa_cons (pe_op op_mod (pe_callTy call_int1 (by rfl) z_int boot_int (pa_cons (pv 3) pa_nil)) pe_int) pa_nil)))
  (pss_one (ps_set (i := 3) sc_law_draws.nd rfl (.inl rfl) (pe_op op_fdiv (pv 3) pe_int))))))) (pss_cons (ps_set (i := 5) sc_law_draws.nd rfl (.inl rfl) (pe_op op_mod (pe_callTy call_int1 (by rfl) z_int boot_int (pa_cons (pe_op op_add (pe_op op_mul (pv 3) pe_int) pe_int) pa_nil)) pe_int))
  (pss_cons (ps_set (i := 6) sc_law_draws.nd rfl (.inl rfl) (pe_op op_mod (pe_callTy call_int1 (by rfl) z_int boot_int (pa_cons (pe_op op_add (pe_op op_mul (pv 5) pe_int) (pv 3)) pa_nil)) pe_int))
  (pss_one (ps_expr (pe_bm PySem.F.plainAttrs_list PySem.F.slot_list_extend PySem.F.type_list_extend mt_extend (pv 1) (pa_cons (pe_lst (pa_cons (pe_op op_mod (pe_callTy call_int1 (by rfl) z_int boot_int (pa_cons (pv 3) pa_nil)) pe_int) (pa_cons (pe_op op_mod (pe_callTy call_int1 (by rfl) z_int boot_int (pa_cons (pv 5) pa_nil)) pe_int) (pa_cons (pe_op op_mod (pe_callTy call_int1 (by rfl) z_int boot_int (pa_cons (pv 6) pa_nil)) pe_int) pa_nil)))) pa_nil))))))))))
  (pss_one (ps_ret (pv 1)))))
    , ?_⟩
    refine ⟨Nat.zero_le _, fun o no => ?_⟩
    have s1 : Same H (upd H o (.lst [])) := same_upd no
    refine ⟨.ref a, rfl, a, rfl, ⟨_, s1.seq hS⟩, for_list (K := K) (a := a) (xs := ns.map V.int) (fun i σ H' => ∃ v2 v3 v4 v5 v6 ds, σ = [some (.ref a), some (.ref o), v2, v3, v4, v5, v6] ∧ Same H H' ∧ H' o = some (.lst (ds.map V.int)) ∧ ds.length ≤ 60 * i)
      ⟨none, none, none, none, none, [], rfl, s1, upd_same, Nat.le_refl _⟩ (fun i σ H' _ ⟨_, _, _, _, _, _, _, sm, _⟩ => sm.seq hS) ?_ ?_⟩
    · rintro i y σ H1 hi ⟨v2, v3, v4, v5, v6, ds, rfl, sm, hL, hl⟩
      have hi63 : i < 63 := by
        have := (List.getElem?_eq_some_iff.mp hi).1
        rw [List.length_map] at this
        omega
      obtain ⟨z, hz, rfl⟩ := map_int_get hi
      refine ⟨_, rfl, z, rfl, ?_⟩
      generalize hr0 : (if z < 0 then -z else z) = r0
      have h0 : 0 ≤ r0 := by
        subst hr0
        split <;> omega
      refine ⟨_, rfl, _, _, rfl, rfl, _, rfl, ite2 (fun e => ?_) (fun e => ?_)⟩
      · refine ⟨60, rfl, by decide, by decide, for_range (lo := 0) (n := 60) (fun j σ H' => ∃ r v4 ds', σ = [some (.ref a), some (.ref o), some (.int z), some (.int r), v4, v5, v6] ∧ 0 ≤ r ∧ Same H H' ∧ H' o = some (.lst (ds'.map V.int)) ∧ ds'.length ≤ 60 * i + j)
          ⟨r0, v4, ds, rfl, h0, sm, hL, hl⟩ ?_ ?_⟩
        · rintro j σ H2 hj ⟨r, v4', ds', rfl, hr0', sm2, hL2, hl2⟩
          refine ⟨_, rfl, rfl, _, rfl, ite2 (fun e1 => ?_) (fun e1 => ?_)⟩
          · exact ⟨_, _, _, _, _, ds', rfl, sm2, hL2, by omega⟩
          · refine ⟨.ref o, rfl, .inl ⟨rfl, _, .inl (.inl hL2)⟩, .int r, rfl, .inl ⟨r, rfl, r, 1000, rfl, rfl, (show (0:Int) < 1000 by decide), o, _, _, rfl, rfl, hL2, ?_, ?_⟩⟩
            · rw [List.length_map]
              exact small_of (by omega)
            · refine ⟨_, rfl, r, 1000, rfl, rfl, ⟨by decide, by decide⟩, ?_⟩
              refine ⟨r / 1000, _, ds' ++ [r % 1000], rfl, by omega, Same.mut sm2 no, ?_, ?_⟩
              · rw [upd_same, List.map_append]
                rfl
              · rw [List.length_append]
                show ds'.length + 1 ≤ _
                omega
        · rintro σ H2 ⟨r, v4', ds', rfl, hr0', sm2, hL2, hl2⟩
          exact ⟨_, _, _, _, _, ds', rfl, sm2, hL2, by omega⟩
      · have c1 : CMul r0 48271 := .inr ⟨by decide, by decide⟩
        refine ⟨.int r0, rfl, r0, 48271, rfl, rfl, c1, _, 11, rfl, rfl, .inl ⟨_, rfl, _, 2147483647, rfl, rfl, (show (0:Int) < 2147483647 by decide), ?_⟩⟩
        have c2 : ∀ x : Int, CMul x 69621 := fun _ => .inr ⟨by decide, by decide⟩
        refine ⟨_, rfl, _, 69621, rfl, rfl, c2 _, .int r0, rfl, _, r0, rfl, rfl, .inl ⟨_, rfl, _, 2147483629, rfl, rfl, (show (0:Int) < 2147483629 by decide), ?_⟩⟩
        have p1000 : (0:Int) < 1000 := by decide
        refine ⟨.ref o, rfl, .inl ⟨rfl, _, .inl (.inl hL)⟩, ?_⟩
        refine ⟨.int r0, rfl, .inl ⟨r0, rfl, r0, 1000, rfl, rfl, p1000, _, rfl, .inl ⟨_, rfl, _, 1000, rfl, rfl, p1000, _, rfl, .inl ⟨_, rfl, _, 1000, rfl, rfl, p1000, ?_⟩⟩⟩⟩
        refine ⟨(by show 3 ≤ sizeLine; decide), fun c nc => ?_⟩
        have hoc : o ≠ c := ne_of_none hL nc
        refine ⟨o, c, ds.map V.int, _, rfl, rfl, ?_, upd_same, ?_, ?_⟩
        · rw [upd_ne hoc]
          exact hL
        · rw [List.length_map]
          exact Nat.le_of_lt (small_of (show ds.length + 3 ≤ 100000 by omega))
        · refine ⟨_, _, _, _, _, ds ++ [r0 % 1000, (r0 * 48271 + 11) % 2147483647 % 1000, ((r0 * 48271 + 11) % 2147483647 * 69621 + r0) % 2147483629 % 1000], rfl, Same.mut (Same.trans sm (same_upd nc)) no, ?_, ?_⟩
          · rw [upd_same, List.map_append]
            rfl
          · rw [List.length_append]
            show ds.length + 3 ≤ _
            omega
    · rintro σ H1 ⟨v2, v3, v4, v5, v6, ds, rfl, sm, hL, hl⟩
      exact ⟨_, rfl, q H1 o ds sm no hL⟩
end

theorem sqL_same {K : PySem.W.Frag} {H H' : Hp} {a : Addr} {xs : List V} (e : Same H H') (h : SqL K H a xs) : SqL K H' a xs := by
  rcases h with (h | ⟨o, h⟩) | h
  · exact .inl (.inl (e _ _ h))
  · exact .inl (.inr ⟨o, e _ _ h⟩)
  · exact .inr h
theorem none_back {H H' : Hp} {a : Addr} (s : Same H H') (h : H' a = none) : H a = none := by
  cases e : H a with
  | none => rfl
  | some o =>
    rw [s _ _ e] at h
    exact nomatch h

/-- a tuple of these integers -/
def TP (H : Hp) (v : V) (z : List Int) : Prop := ∃ t, v = .ref t ∧ H t = some (.tup (z.map V.int))
theorem TP.same {H H' : Hp} {v : V} {z : List Int} (s : Same H H') (h : TP H v z) : TP H' v z := by
  obtain ⟨t, rfl, h⟩ := h
  exact ⟨t, rfl, s _ _ h⟩
def dT (z : List Int) : PyData := .tuple (z.map PyData.int)
theorem ints_dp {K : PySem.W.Frag} {H : Hp} : ∀ z : List Int, DpAll K H (z.map V.int) (z.map PyData.int)
  | [] => .nil
  | a :: r => .cons (.int a) (ints_dp r)
theorem TP.dp {K : PySem.W.Frag} {H : Hp} {v : V} {z : List Int} (h : TP H v z) : Dp K H v (dT z) := by
  obtain ⟨t, rfl, h⟩ := h
  exact .tup (.inl (.inl h)) (ints_dp z)
theorem tps_dp {K : PySem.W.Frag} {H : Hp} : ∀ {vs : List V} {zs : List (List Int)}, Paired (TP H) vs zs → DpAll K H vs (zs.map dT)
  | _, _, .nil => .nil
  | _, _, .cons a b => .cons a.dp (tps_dp b)
theorem paired_add {α β : Type} {F : α → β → Prop} {a : α} {b : β} (h : F a b) : ∀ {l : List α} {m : List β}, Paired F l m → Paired F (l ++ [a]) (m ++ [b])
  | _, _, .nil => .cons h .nil
  | _, _, .cons x y => .cons x (paired_add h y)
theorem dT_small {z : List Int} (h : ∀ k, (co z k).natAbs < 2 ^ 200) : SmL 1 (1923 * z.length + 3) (dT z) := by
  have e := smL_tuple (ds := z.map PyData.int) (n := 0) (k := 1921) fun D hD => by
    obtain ⟨a, ha, rfl⟩ := List.mem_map.mp hD
    obtain ⟨i, hi, rfl⟩ := List.mem_iff_getElem.mp ha
    have e1 := co_get hi
    rw [List.getElem?_eq_getElem hi] at e1
    rw [Option.some.inj e1]
    exact smL_int (h i)
  rw [List.length_map] at e
  exact e
theorem SmL.more {n k k' : Nat} {D : PyData} (h : SmL n k D) (hk : k ≤ k') : SmL n k' D := by
  obtain ⟨h1, h2, h3, h4⟩ := h
  exact ⟨h1, h2, h3, Nat.le_trans h4 hk⟩
theorem repT {α : Type} (x : α) : ∀ n : Nat, (List.replicate n [x]).flatten = List.replicate n x
  | 0 => rfl
  | n + 1 => by rw [List.replicate_succ, List.flatten_cons, repT x n, List.replicate_succ]; rfl
def rCatB (K : PySem.W.Frag) : R2 := fun x y H Q => ∃ a b xs ys, x = .ref a ∧ y = .ref b ∧ SqT K H a xs ∧ SqT K H b ys ∧ xs.length + ys.length ≤ sizeLine ∧ ∀ p H', Same H H' → SqT K H' p (xs ++ ys) → Q (.ref p) H'
theorem op_catB {X : Cx} : OpR X (binaryOp .Add) (rCatB X.K) := by
  intro pins s σ H x y v u Q I rx ry h
  obtain ⟨a, b, xs, ys, rfl, rfl, ha, hb, hz, q⟩ := h
  refine op_catA pins s σ H _ _ v u Q I rx ry ⟨a, b, xs, ys, rfl, rfl, ha, hb, hz, fun e => ?_, fun _ e => ?_, fun _ _ p np => ?_⟩
  · exact q b H (Same.refl _) (by rw [e, List.nil_append]; exact hb)
  · exact q a H (Same.refl _) (by rw [e, List.append_nil]; exact ha)
  · exact q p _ (same_upd np) (.inl (.inl upd_same))
theorem sqT_butL {K : PySem.W.Frag} {H H' : Hp} {r a : Addr} {xs ys : List V} (hr : H r = some (.lst ys)) (e : SameBut r H H') (h : SqT K H a xs) : SqT K H' a xs := by
  rcases h with (h | ⟨o, h⟩) | h
  · exact .inl (.inl (e _ _ (ne_of h hr (fun z => nomatch z)) h))
  · exact .inl (.inr ⟨o, e _ _ (ne_of h hr (fun z => nomatch z)) h⟩)
  · exact .inr h
theorem eqvAll_ints : ∀ x y : List Int, PyData.eqvAll (x.map PyData.int) (y.map PyData.int) = decide (x = y)
  | [], [] => by simp [PyData.eqvAll]
  | [], _ :: _ => by simp [PyData.eqvAll]
  | _ :: _, [] => by simp [PyData.eqvAll]
  | a :: x, b :: y => by
    rw [List.map_cons, List.map_cons]
    simp only [PyData.eqvAll, PyData.eqv, eqvAll_ints x y]
    by_cases h1 : a = b
    · by_cases h2 : x = y
      · simp [h1, h2]
      · simp [h2]
    · simp [h1]
theorem eqv_dT (x y : List Int) : PyData.eqv (dT x) (dT y) = decide (x = y) := by
  unfold dT
  simp only [PyData.eqv, eqvAll_ints]
theorem lay_ints : ∀ x : List Int, PyData.canLayAll0 (x.map PyData.int) = true ∧ PyData.depthAll (x.map PyData.int) = 0
  | [] => ⟨by simp [PyData.canLayAll0], by simp [PyData.depthAll]⟩
  | a :: x => by
    obtain ⟨h1, h2⟩ := lay_ints x
    exact ⟨by simp [PyData.canLayAll0, PyData.canLay0, h1], by simp [PyData.depthAll, PyData.depth, h2]⟩
theorem dT_shaped (x : List Int) : SeqAt.shaped (dT x) = true := by
  obtain ⟨h1, h2⟩ := lay_ints x
  show (PyData.canLay0 (dT x) && decide (PyData.depth (dT x) ≤ 64)) = true
  unfold dT
  rw [show PyData.canLay0 (.tuple (x.map PyData.int)) = true by simp [PyData.canLay0, h1], show PyData.depth (.tuple (x.map PyData.int)) = 1 by simp [PyData.depth, h2]]
  rfl
theorem eqD_TP {K : PySem.W.Frag} {H : Hp} {u v : V} {x y : List Int} {Q : VK} (hx : TP H u x) (hy : TP H v y) (q : Q (.bl (decide (x = y))) H) : rEqD K u v H Q :=
  ⟨_, _, hx.dp, hy.dp, dT_shaped x, dT_shaped y, by rw [eqv_dT]; exact q⟩
theorem neD_TP {K : PySem.W.Frag} {H : Hp} {u v : V} {x y : List Int} {Q : VK} (hx : TP H u x) (hy : TP H v y) (q : Q (.bl (!decide (x = y))) H) : rNeD K u v H Q :=
  ⟨_, _, hx.dp, hy.dp, dT_shaped x, dT_shaped y, by rw [eqv_dT]; exact q⟩
def rRepB (K : PySem.W.Frag) : R2 := fun x y H Q => ∃ l k xs, x = .ref l ∧ y = .int k ∧ SqT K H l xs ∧ xs ≠ [] ∧ 0 ≤ k ∧ k ≤ 1000 ∧ xs.length ≤ 1000 ∧ ∀ p H', Same H H' → SqT K H' p (List.replicate k.toNat xs).flatten → Q (.ref p) H'
theorem op_repB {X : Cx} : OpR X (binaryOp .Mult) (rRepB X.K) := by
  intro pins s σ H x y v u Q I rx ry h
  obtain ⟨l, k, xs, rfl, rfl, hT, hne, h1, h2, hz, q⟩ := h
  refine op_repA pins s σ H _ _ v u Q I rx ry ⟨l, k, xs, rfl, rfl, hT, hne, h1, h2, hz, fun e => ?_, fun _ p np => ?_⟩
  · refine q l H (Same.refl _) ?_
    rw [e, show (1 : Int).toNat = 1 from rfl]
    simpa using hT
  · exact q p _ (same_upd np) (.inl (.inl upd_same))
theorem ix_tupK {X : Cx} {K : PySem.W.Frag} (hK : X.K = K) : IxR X (rIxT K) := by
  subst hK
  exact ix_tup
theorem ix_listK {X : Cx} {K : PySem.W.Frag} (hK : X.K = K) : IxR X (rIxL K) := by
  subst hK
  exact ix_list
theorem ite_same {x : V} {A B : Prop} (h : B) : if (!decide (x = x)) = true then A else B := by
  rw [decide_eq_true rfl]
  exact iteF h
theorem pi_tupK {X : Cx} {K : PySem.W.Frag} {tg e : Expr} {te : TE} (hK : X.K = K) (he : PE X e te) : PI X tg e (iTup K te) := by
  subst hK
  exact pi_tup he
theorem call_list_ofK {X : Cx} {K : PySem.W.Frag} (hK : X.K = K) : CallR X (.type "list") (fun xs H Q => ∃ p ys, xs = [.ref p] ∧ (SqL K H p ys ∨ SqT K H p ys) ∧ ∀ l, H l = none → Q (.ref l) (upd H l (.lst ys))) := by
  subst hK
  exact call_list_of
theorem op_eqDK {X : Cx} {K : PySem.W.Frag} (hK : X.K = K) (hu : X.A.units + 64 < cLine) : OpR X (compareOp .Eq) (rEqD K) := by
  subst hK
  exact op_eqD hu

/-! ### marks and blocks -/
def seenL : List Int → List Int → List Int
  | acc, [] => acc
  | acc, x :: l => seenL (if x ∈ acc then acc else acc ++ [x]) l
def ixs (N : Nat) : List Int := (List.range N).map fun (i : Nat) => (i : Int)
def posOf (marks : List Int) (v : Int) : List Int := ((List.range marks.length).filter fun i => decide (co marks i = v)).map fun (i : Nat) => (i : Int)
def blocksOf (marks : List Int) : List (List Int) := (seenL [] marks).map (posOf marks)
theorem seenL_snoc : ∀ (l acc : List Int) (x : Int), seenL acc (l ++ [x]) = if x ∈ seenL acc l then seenL acc l else seenL acc l ++ [x]
  | [], acc, x => rfl
  | y :: l, acc, x => by
    show seenL _ (l ++ [x]) = _
    rw [seenL_snoc l _ x]
    rfl
theorem seenL_sub : ∀ (l acc : List Int) (x : Int), x ∈ acc → x ∈ seenL acc l
  | [], _, _, h => h
  | y :: l, acc, x, h => by
    show x ∈ seenL _ l
    refine seenL_sub l _ x ?_
    split
    · exact h
    · exact List.mem_append_left _ h
theorem seenL_mem : ∀ (l acc : List Int) (x : Int), x ∈ seenL acc l ↔ x ∈ acc ∨ x ∈ l
  | [], acc, x => by
    show x ∈ acc ↔ _
    simp
  | y :: l, acc, x => by
    show x ∈ seenL _ l ↔ _
    rw [seenL_mem l _ x]
    by_cases c : y ∈ acc
    · rw [if_pos c, List.mem_cons]
      constructor
      · rintro (h | h)
        · exact .inl h
        · exact .inr (.inr h)
      · rintro (h | rfl | h)
        · exact .inl h
        · exact .inl c
        · exact .inr h
    · rw [if_neg c, List.mem_cons, List.mem_append, List.mem_singleton, or_assoc]
theorem seenL_nodup : ∀ (l acc : List Int), acc.Nodup → (seenL acc l).Nodup
  | [], _, h => h
  | y :: l, acc, h => by
    refine seenL_nodup l _ ?_
    split
    · exact h
    · rename_i c
      refine List.nodup_append.mpr ⟨h, by simp, fun a ha b hb => ?_⟩
      rw [List.mem_singleton.mp hb]
      exact fun z => c (z ▸ ha)
theorem seenL_len : ∀ (l acc : List Int), (seenL acc l).length ≤ acc.length + l.length
  | [], _ => Nat.le_refl _
  | y :: l, acc => by
    have h := seenL_len l (if y ∈ acc then acc else acc ++ [y])
    show (seenL _ l).length ≤ _
    rw [List.length_cons]
    split at h
    · rename_i c
      rw [if_pos c]
      omega
    · rename_i c
      rw [if_neg c]
      rw [List.length_append] at h
      have : [y].length = 1 := rfl
      omega
/-- equal marks alone count -/
theorem seenL_map {g : Int → Int} : ∀ (l acc : List Int), (∀ x ∈ acc ++ l, ∀ y ∈ acc ++ l, g x = g y → x = y) → seenL (acc.map g) (l.map g) = (seenL acc l).map g
  | [], _, _ => rfl
  | y :: l, acc, h => by
    show seenL (if g y ∈ acc.map g then acc.map g else acc.map g ++ [g y]) (l.map g) = (seenL (if y ∈ acc then acc else acc ++ [y]) l).map g
    by_cases c : y ∈ acc
    · rw [if_pos c, if_pos (List.mem_map_of_mem c)]
      refine seenL_map l acc fun a ha b hb => h a ?_ b ?_
      · rcases List.mem_append.mp ha with z | z
        · exact List.mem_append_left _ z
        · exact List.mem_append_right _ (List.mem_cons_of_mem _ z)
      · rcases List.mem_append.mp hb with z | z
        · exact List.mem_append_left _ z
        · exact List.mem_append_right _ (List.mem_cons_of_mem _ z)
    · have c2 : g y ∉ acc.map g := fun z => by
        obtain ⟨a, ha, e⟩ := List.mem_map.mp z
        exact c (h a (List.mem_append_left _ ha) y (List.mem_append_right _ List.mem_cons_self) e ▸ ha)
      rw [if_neg c, if_neg c2, show acc.map g ++ [g y] = (acc ++ [y]).map g by rw [List.map_append]; rfl]
      refine seenL_map l (acc ++ [y]) fun a ha b hb => h a ?_ b ?_
      · rwa [List.append_assoc] at ha
      · rwa [List.append_assoc] at hb
theorem co_mapI (g : Int → Int) (l : List Int) {i : Nat} (h : i < l.length) : co (l.map g) i = g (co l i) := by
  have e := co_get (l := l.map g) (k := i) (by rw [List.length_map]; exact h)
  rw [List.getElem?_map, co_get h] at e
  exact (Option.some.inj e).symm
theorem posOf_map {g : Int → Int} {marks : List Int} {v : Int} (hv : v ∈ marks) (h : ∀ x ∈ marks, ∀ y ∈ marks, g x = g y → x = y) : posOf (marks.map g) (g v) = posOf marks v := by
  unfold posOf
  rw [List.length_map]
  congr 1
  refine List.filter_congr fun i hi => ?_
  have hi' := List.mem_range.mp hi
  rw [co_mapI g marks hi']
  by_cases c : co marks i = v
  · rw [decide_eq_true c, decide_eq_true (congrArg g c)]
  · rw [decide_eq_false c, decide_eq_false (fun z => c (h _ (co_mem hi') _ hv z))]
theorem blocksOf_map {g : Int → Int} {marks : List Int} (h : ∀ x ∈ marks, ∀ y ∈ marks, g x = g y → x = y) : blocksOf (marks.map g) = blocksOf marks := by
  unfold blocksOf
  rw [show ([] : List Int) = ([] : List Int).map g from rfl, seenL_map marks [] (by rw [List.nil_append]; exact h), List.map_map]
  refine List.map_congr_left fun v hv => ?_
  rcases (seenL_mem marks [] v).mp hv with z | z
  · exact nomatch z
  · exact posOf_map z h
/-! a partition -/
theorem perm_split (p : Nat → Bool) : ∀ l : List Nat, (l.filter p ++ l.filter fun x => !p x).Perm l := fun l => List.filter_append_perm p l
theorem part_perm {f : Nat → Int} : ∀ (vs : List Int) (l : List Nat), vs.Nodup → (∀ x ∈ l, f x ∈ vs) → ((vs.map fun v => l.filter fun i => decide (f i = v)).flatten).Perm l
  | [], l, _, h => by
    have : l = [] := List.eq_nil_iff_forall_not_mem.mpr fun x hx => nomatch h x hx
    rw [this]
    exact .refl _
  | v :: vs, l, nd, h => by
    rw [List.map_cons, List.flatten_cons]
    obtain ⟨nv, nd'⟩ := List.nodup_cons.mp nd
    have ih := part_perm (f := f) vs (l.filter fun i => !decide (f i = v)) nd' fun x hx => by
      obtain ⟨h1, h2⟩ := List.mem_filter.mp hx
      rcases List.mem_cons.mp (h x h1) with e | e
      · rw [decide_eq_true e] at h2
        exact nomatch h2
      · exact e
    have e : (vs.map fun v' => (l.filter fun i => !decide (f i = v)).filter fun i => decide (f i = v')) = vs.map fun v' => l.filter fun i => decide (f i = v') := by
      refine List.map_congr_left fun v' hv' => ?_
      rw [List.filter_filter]
      refine List.filter_congr fun i _ => ?_
      by_cases c : f i = v'
      · have c2 : f i ≠ v := fun z => nv (by rw [← z, c]; exact hv')
        rw [decide_eq_true c, decide_eq_false c2]
        rfl
      · rw [decide_eq_false c]
        rfl
    rw [e] at ih
    exact (List.Perm.append_left _ ih).trans (perm_split _ l)
theorem mem_posOf {marks : List Int} {v x : Int} : x ∈ posOf marks v ↔ ∃ i : Nat, x = (i : Int) ∧ i < marks.length ∧ co marks i = v := by
  unfold posOf
  rw [List.mem_map]
  constructor
  · rintro ⟨i, hi, rfl⟩
    obtain ⟨h1, h2⟩ := List.mem_filter.mp hi
    exact ⟨i, rfl, List.mem_range.mp h1, of_decide_eq_true h2⟩
  · rintro ⟨i, rfl, h1, h2⟩
    exact ⟨i, List.mem_filter.mpr ⟨List.mem_range.mpr h1, decide_eq_true h2⟩, rfl⟩
theorem mem_get {l : List Int} {v : Int} (h : v ∈ l) : ∃ i, i < l.length ∧ co l i = v := by
  obtain ⟨i, hi, e⟩ := List.mem_iff_getElem.mp h
  refine ⟨i, hi, ?_⟩
  have e1 := co_get hi
  rw [List.getElem?_eq_getElem hi] at e1
  rw [← Option.some.inj e1]
  exact e
theorem blocks_perm (marks : List Int) : (blocksOf marks).flatten.Perm (ixs marks.length) := by
  unfold blocksOf ixs
  have h := part_perm (f := co marks) (seenL [] marks) (List.range marks.length) (seenL_nodup marks [] List.nodup_nil) fun x hx => (seenL_mem marks [] _).mpr (.inr (co_mem (List.mem_range.mp hx)))
  have e : ((seenL [] marks).map (posOf marks)).flatten = (((seenL [] marks).map fun v => (List.range marks.length).filter fun i => decide (co marks i = v)).flatten).map fun (i : Nat) => (i : Int) := by
    rw [List.map_flatten, List.map_map]
    rfl
  rw [e]
  exact h.map _
theorem blocks_ne {marks : List Int} : ∀ b ∈ blocksOf marks, b ≠ [] := fun b hb => by
  obtain ⟨v, hv, rfl⟩ := List.mem_map.mp hb
  rcases (seenL_mem marks [] v).mp hv with z | z
  · exact nomatch z
  · obtain ⟨i, hi, e⟩ := mem_get z
    intro c
    have : (i : Int) ∈ posOf marks v := mem_posOf.mpr ⟨i, rfl, hi, e⟩
    rw [c] at this
    exact nomatch this
theorem range_lt (n : Nat) : (List.range n).Pairwise (· < ·) := List.pairwise_lt_range
theorem posOf_asc (marks : List Int) (v : Int) : (posOf marks v).Pairwise (· < ·) := by
  unfold posOf
  exact List.pairwise_map.mpr ((List.Pairwise.filter _ (range_lt _)).imp fun {a b} h => by omega)
theorem head_ix (p : Nat → Bool) {i : Nat} (h0 : ∀ j, j < i → p j = false) (h1 : p i = true) : ∀ N, (N ≤ i → (List.range N).filter p = []) ∧ (i < N → ((List.range N).filter p)[0]? = some i)
  | 0 => ⟨fun _ => rfl, fun h => absurd h (Nat.not_lt_zero _)⟩
  | N + 1 => by
    obtain ⟨a, b⟩ := head_ix p h0 h1 N
    rw [List.range_succ, List.filter_append]
    refine ⟨fun h => ?_, fun h => ?_⟩
    · rw [a (by omega), List.filter_cons, h0 N (by omega)]
      rfl
    · by_cases c : N = i
      · rw [a (by omega), List.filter_cons, c, h1]
        rfl
      · have h2 := b (by omega)
        rw [List.getElem?_append_left (List.getElem?_eq_some_iff.mp h2).1]
        exact h2
theorem posOf_head {marks : List Int} {i : Nat} (hi : i < marks.length) (h : co marks i ∉ marks.take i) : co (posOf marks (co marks i)) 0 = (i : Int) := by
  have h2 := (head_ix (fun j => decide (co marks j = co marks i)) (i := i) (fun j hj => decide_eq_false fun z => h ?_) (decide_eq_true rfl) marks.length).2 hi
  · unfold posOf co
    rw [List.getD_eq_getElem?_getD, List.getElem?_map]
    show ((((List.range marks.length).filter fun j => decide (co marks j = co marks i))[0]?).map fun (i : Nat) => (i : Int)).getD 0 = _
    rw [h2]
    rfl
  · rw [← z]
    have e : (marks.take i)[j]? = some (co marks j) := by rw [List.getElem?_take_of_lt hj, co_get (by omega)]
    exact List.mem_of_getElem? e
theorem take_snoc {l : List Int} {i : Nat} (h : i < l.length) : l.take (i + 1) = l.take i ++ [co l i] := by
  rw [List.take_succ, co_get h]
  rfl
theorem heads_run (marks : List Int) : ∀ i, i ≤ marks.length → ((seenL [] (marks.take i)).map fun v => co (posOf marks v) 0).Pairwise (· < ·) ∧ ∀ v ∈ seenL [] (marks.take i), co (posOf marks v) 0 < (i : Int)
  | 0, _ => ⟨.nil, fun v hv => nomatch hv⟩
  | i + 1, h => by
    obtain ⟨h1, h2⟩ := heads_run marks i (by omega)
    rw [take_snoc (by omega), seenL_snoc]
    by_cases c : co marks i ∈ seenL [] (marks.take i)
    · rw [if_pos c]
      exact ⟨h1, fun v hv => by have := h2 v hv; omega⟩
    · rw [if_neg c]
      have hd := posOf_head (marks := marks) (i := i) (by omega) fun z => c ((seenL_mem _ _ _).mpr (.inr z))
      refine ⟨?_, fun v hv => ?_⟩
      · rw [List.map_append]
        refine List.pairwise_append.mpr ⟨h1, List.pairwise_singleton _ _, fun a ha b hb => ?_⟩
        obtain ⟨v, hv, rfl⟩ := List.mem_map.mp ha
        obtain ⟨u, hu, rfl⟩ := List.mem_map.mp hb
        rw [List.mem_singleton.mp hu, hd]
        exact h2 v hv
      · rcases List.mem_append.mp hv with hv | hv
        · have := h2 v hv
          omega
        · rw [List.mem_singleton.mp hv, hd]
          omega
theorem blocks_heads (marks : List Int) : ((blocksOf marks).map fun b => co b 0).Pairwise (· < ·) := by
  have h := (heads_run marks marks.length (Nat.le_refl _)).1
  rw [List.take_length] at h
  unfold blocksOf
  rw [List.map_map]
  exact h
/-! labels -/
def labFrom : List (List Int) → Nat → List Int → List Int
  | [], _, ms => ms
  | b :: bs, k, ms => labFrom bs (k + 1) (b.foldl (fun ms p => ms.set p.toNat (k : Int)) ms)
def labL (bs : List (List Int)) (N : Nat) : List Int := labFrom bs 0 (List.replicate N 0)
theorem fold_len (k : Int) : ∀ (b ms : List Int), (b.foldl (fun ms p => ms.set p.toNat k) ms).length = ms.length
  | [], _ => rfl
  | p :: b, ms => by
    show (b.foldl _ (ms.set p.toNat k)).length = _
    rw [fold_len k b, List.length_set]
theorem fold_co (k : Int) {i : Nat} : ∀ (b ms : List Int), (∀ p ∈ b, 0 ≤ p ∧ p < ms.length) → co (b.foldl (fun ms p => ms.set p.toNat k) ms) i = if (i : Int) ∈ b then k else co ms i
  | [], _, _ => rfl
  | p :: b, ms, h => by
    show co (b.foldl _ (ms.set p.toNat k)) i = _
    obtain ⟨h1, h2⟩ := h p List.mem_cons_self
    rw [fold_co k b (ms.set p.toNat k) fun q hq => by rw [List.length_set]; exact h q (List.mem_cons_of_mem _ hq), co_set i (by omega)]
    by_cases c : (i : Int) ∈ b
    · rw [if_pos c, if_pos (List.mem_cons_of_mem _ c)]
    · rw [if_neg c]
      by_cases c2 : i = p.toNat
      · rw [if_pos c2, if_pos (List.mem_cons.mpr (.inl (by omega)))]
      · rw [if_neg c2, if_neg]
        intro z
        rcases List.mem_cons.mp z with z | z
        · omega
        · exact c z
theorem labFrom_len : ∀ (bs : List (List Int)) (k : Nat) (ms : List Int), (labFrom bs k ms).length = ms.length
  | [], _, _ => rfl
  | b :: bs, k, ms => by
    show (labFrom bs (k + 1) _).length = _
    rw [labFrom_len bs, fold_len]
theorem labL_len (bs : List (List Int)) (N : Nat) : (labL bs N).length = N := by
  unfold labL
  rw [labFrom_len, List.length_replicate]
theorem labFrom_co {marks : List Int} {i : Nat} (hi : i < marks.length) : ∀ (vs : List Int) (k : Nat) (ms : List Int), vs.Nodup → ms.length = marks.length → co (labFrom (vs.map (posOf marks)) k ms) i = if co marks i ∈ vs then ((k + vs.idxOf (co marks i) : Nat) : Int) else co ms i
  | [], _, _, _, _ => rfl
  | v :: vs, k, ms, nd, hl => by
    obtain ⟨nv, nd'⟩ := List.nodup_cons.mp nd
    show co (labFrom (vs.map (posOf marks)) (k + 1) _) i = _
    rw [labFrom_co hi vs (k + 1) _ nd' (by rw [fold_len, hl]), fold_co (k : Int) (posOf marks v) ms fun p hp => by
      obtain ⟨j, rfl, hj, _⟩ := mem_posOf.mp hp
      omega]
    have e : ((i : Int) ∈ posOf marks v) ↔ co marks i = v := by
      rw [mem_posOf]
      exact ⟨fun ⟨j, e, _, h⟩ => by rw [show i = j by omega]; exact h, fun h => ⟨i, rfl, hi, h⟩⟩
    by_cases c : co marks i = v
    · rw [if_neg (by rw [c]; exact nv), if_pos (e.mpr c), if_pos (List.mem_cons.mpr (.inl c)), c, List.idxOf_cons_self]
      rfl
    · rw [if_neg (fun z => c (e.mp z))]
      by_cases c2 : co marks i ∈ vs
      · rw [if_pos c2, if_pos (List.mem_cons_of_mem _ c2), List.idxOf_cons, cond_eq_ite, if_neg (by simpa using Ne.symm c)]
        congr 1
        omega
      · rw [if_neg c2, if_neg fun z => (List.mem_cons.mp z).elim c c2]
theorem labL_marks (marks : List Int) : labL (blocksOf marks) marks.length = marks.map fun v => (((seenL [] marks).idxOf v : Nat) : Int) := by
  refine List.ext_getElem? fun i => ?_
  have l1 := labL_len (blocksOf marks) marks.length
  rcases Nat.lt_or_ge i marks.length with c | c
  · rw [co_get (by omega), List.getElem?_map, co_get c]
    unfold labL blocksOf
    rw [labFrom_co c (seenL [] marks) 0 _ (seenL_nodup marks [] List.nodup_nil) List.length_replicate, if_pos ((seenL_mem marks [] _).mpr (.inr (co_mem c))), Nat.zero_add]
    rfl
  · rw [List.getElem?_eq_none (by omega), List.getElem?_eq_none (by rw [List.length_map]; exact c)]
theorem idx_inj {l : List Int} {x y : Int} (hx : x ∈ l) (hy : y ∈ l) (h : (((l.idxOf x : Nat) : Int)) = ((l.idxOf y : Nat) : Int)) : x = y := by
  have h' : l.idxOf x = l.idxOf y := by omega
  have e1 := List.getElem_idxOf (List.idxOf_lt_length_of_mem hx)
  have e2 := List.getElem_idxOf (List.idxOf_lt_length_of_mem hy)
  rw [← e1, ← e2]
  congr 1
theorem blocks_lab (marks : List Int) : blocksOf (labL (blocksOf marks) marks.length) = blocksOf marks := by
  rw [labL_marks]
  exact blocksOf_map fun x hx y hy h => idx_inj ((seenL_mem marks [] x).mpr (.inr hx)) ((seenL_mem marks [] y).mpr (.inr hy)) h

def siz (n m : Int) : Bool := decide (0 ≤ n ∧ n ≤ 8 ∧ 0 ≤ m ∧ m ≤ 8 ∧ n + m ≤ 12)
theorem cr_sortedITK {X : Cx} {K : PySem.W.Frag} (hK : X.K = K) : CallR X (.builtin "sorted") (rSortedIT K) := by
  subst hK
  exact cr_sortedIT
theorem outer_it {J : It} {n : Nat} {G : Hp → Prop} {Y : Nat → Hp → V → Hp → Prop} (w : Walk J n G Y) {B : V → Hp → (Hp → Prop) → Prop} {H0 : Hp} {Qd : Hp → Prop} (Pv : Nat → Hp → Prop) (h0 : Pv 0 H0) (hG : ∀ i H, i ≤ n → Pv i H → G H)
    (hs : ∀ i x H H', i < n → Pv i H → Y i H x H' → B x H' (Pv (i + 1))) (hd : ∀ H, Pv n H → Qd H) :
    ∃ W : Nat → Nat → Hp → Prop, (∃ m, W 0 m H0) ∧ ∀ i m H, W i m H → (J.stop i H ∧ Qd H) ∨ (J.go i H ∧ ∃ Nx : Hp → Prop, (∀ H', Nx H' → ∃ m', m' < m ∧ W (i + 1) m' H') ∧ ∀ x H', J.yld i H x H' → B x H' Nx) := by
  refine ⟨fun i m H => m = n - i ∧ i ≤ n ∧ Pv i H, ⟨n, by simp, Nat.zero_le _, h0⟩, ?_⟩
  rintro i m H ⟨rfl, hi, p⟩
  have q := hG i H hi p
  by_cases hlt : i < n
  · refine .inr ⟨w.goes i H hlt q, Pv (i + 1), fun H' p' => ⟨n - (i + 1), by omega, rfl, hlt, p'⟩, fun x H' y => hs i x H H' hlt p (w.yields i H x H' hlt q y)⟩
  · have e : i = n := by omega
    subst e
    exact .inl ⟨w.stops H q, hd H p⟩
/-- a tuple of tuples of integers; a diagram -/
def TT (H : Hp) (v : V) (bs : List (List Int)) : Prop := ∃ tb ts, v = .ref tb ∧ H tb = some (.tup ts) ∧ Paired (TP H) ts bs
def DGv (H : Hp) (v : V) (n m : Int) (bs : List (List Int)) : Prop := ∃ t vb, v = .ref t ∧ H t = some (.tup [.int n, .int m, vb]) ∧ TT H vb bs
theorem TT.same {H H' : Hp} {v : V} {bs : List (List Int)} (s : Same H H') (h : TT H v bs) : TT H' v bs := by
  obtain ⟨tb, ts, rfl, h, pr⟩ := h
  exact ⟨tb, ts, rfl, s _ _ h, Paired.mapP pr fun _ _ h => h.same s⟩
theorem DGv.same {H H' : Hp} {v : V} {n m : Int} {bs : List (List Int)} (s : Same H H') (h : DGv H v n m bs) : DGv H' v n m bs := by
  obtain ⟨t, vb, rfl, h, tt⟩ := h
  exact ⟨t, vb, rfl, s _ _ h, tt.same s⟩
def dTT (bs : List (List Int)) : PyData := .tuple (bs.map dT)
def dDG (n m : Int) (bs : List (List Int)) : PyData := .tuple [.int n, .int m, dTT bs]
theorem TT.dp {K : PySem.W.Frag} {H : Hp} {v : V} {bs : List (List Int)} (h : TT H v bs) : Dp K H v (dTT bs) := by
  obtain ⟨tb, ts, rfl, h, pr⟩ := h
  exact .tup (.inl (.inl h)) (tps_dp pr)
theorem DGv.dp {K : PySem.W.Frag} {H : Hp} {v : V} {n m : Int} {bs : List (List Int)} (h : DGv H v n m bs) : Dp K H v (dDG n m bs) := by
  obtain ⟨t, vb, rfl, h, tt⟩ := h
  exact .tup (.inl (.inl h)) (.cons (.int n) (.cons (.int m) (.cons tt.dp .nil)))
theorem lay_dTs : ∀ bs : List (List Int), PyData.canLayAll0 (bs.map dT) = true ∧ PyData.depthAll (bs.map dT) ≤ 1
  | [] => ⟨by simp [PyData.canLayAll0], by simp [PyData.depthAll]⟩
  | b :: bs => by
    obtain ⟨h1, h2⟩ := lay_dTs bs
    obtain ⟨h3, h4⟩ := lay_ints b
    have e1 : PyData.canLay0 (dT b) = true := by simp [dT, PyData.canLay0, h3]
    have e2 : PyData.depth (dT b) = 1 := by simp [dT, PyData.depth, h4]
    refine ⟨by simp [PyData.canLayAll0, e1, h1], ?_⟩
    simp only [List.map_cons, PyData.depthAll, e2]
    omega
theorem dTT_lay (bs : List (List Int)) : PyData.canLay0 (dTT bs) = true ∧ PyData.depth (dTT bs) ≤ 2 := by
  obtain ⟨h1, h2⟩ := lay_dTs bs
  exact ⟨by simp [dTT, PyData.canLay0, h1], by simp only [dTT, PyData.depth]; omega⟩
theorem dDG_lay (n m : Int) (bs : List (List Int)) : PyData.canLay0 (dDG n m bs) = true ∧ PyData.depth (dDG n m bs) ≤ 3 := by
  obtain ⟨h1, h2⟩ := dTT_lay bs
  exact ⟨by simp [dDG, PyData.canLay0, PyData.canLayAll0, h1], by simp only [dDG, PyData.depth, PyData.depthAll]; omega⟩
theorem dTT_shaped (bs : List (List Int)) : SeqAt.shaped (dTT bs) = true := by
  obtain ⟨h1, h2⟩ := dTT_lay bs
  show (PyData.canLay0 (dTT bs) && decide (PyData.depth (dTT bs) ≤ 64)) = true
  rw [h1, decide_eq_true (by omega)]
  rfl
theorem dDG_shaped (n m : Int) (bs : List (List Int)) : SeqAt.shaped (dDG n m bs) = true := by
  obtain ⟨h1, h2⟩ := dDG_lay n m bs
  show (PyData.canLay0 (dDG n m bs) && decide (PyData.depth (dDG n m bs) ≤ 64)) = true
  rw [h1, decide_eq_true (by omega)]
  rfl
/-- lists of integers -/
def dL (z : List Int) : PyData := .list (z.map PyData.int)
def LP (H : Hp) (v : V) (z : List Int) : Prop := ∃ t, v = .ref t ∧ H t = some (.lst (z.map V.int))
theorem LP.dp {K : PySem.W.Frag} {H : Hp} {v : V} {z : List Int} (h : LP H v z) : Dp K H v (dL z) := by
  obtain ⟨t, rfl, h⟩ := h
  exact .lst (.inl (.inl h)) (ints_dp z)
theorem LP.same {H H' : Hp} {v : V} {z : List Int} (s : Same H H') (h : LP H v z) : LP H' v z := by
  obtain ⟨t, rfl, h⟩ := h
  exact ⟨t, rfl, s _ _ h⟩
theorem dL_shaped (x : List Int) : SeqAt.shaped (dL x) = true := by
  obtain ⟨h1, h2⟩ := lay_ints x
  show (PyData.canLay0 (dL x) && decide (PyData.depth (dL x) ≤ 64)) = true
  unfold dL
  rw [show PyData.canLay0 (.list (x.map PyData.int)) = true by simp [PyData.canLay0, h1], show PyData.depth (.list (x.map PyData.int)) = 1 by simp [PyData.depth, h2]]
  rfl
theorem eqv_dL (x y : List Int) : PyData.eqv (dL x) (dL y) = decide (x = y) := by
  unfold dL
  simp only [PyData.eqv, eqvAll_ints]
theorem eqD_LP {K : PySem.W.Frag} {H : Hp} {u v : V} {x y : List Int} {Q : VK} (hx : LP H u x) (hy : LP H v y) (q : Q (.bl (decide (x = y))) H) : rEqD K u v H Q :=
  ⟨_, _, hx.dp, hy.dp, dL_shaped x, dL_shaped y, by rw [eqv_dL]; exact q⟩
theorem neD_LP {K : PySem.W.Frag} {H : Hp} {u v : V} {x y : List Int} {Q : VK} (hx : LP H u x) (hy : LP H v y) (q : Q (.bl (!decide (x = y))) H) : rNeD K u v H Q :=
  ⟨_, _, hx.dp, hy.dp, dL_shaped x, dL_shaped y, by rw [eqv_dL]; exact q⟩
theorem tt_get {H : Hp} {ts : List V} {bs : List (List Int)} (pr : Paired (TP H) ts bs) {i : Nat} {y : V} (h : ts[i]? = some y) : ∃ b, bs[i]? = some b ∧ TP H y b := by
  induction pr generalizing i with
  | nil => exact nomatch h
  | cons r t ih =>
    cases i with
    | zero =>
      obtain rfl := Option.some.inj h
      exact ⟨_, rfl, r⟩
    | succ i => exact ih h
theorem rgV_ixs {a : Int} (h : 0 ≤ a) : rgV 0 a = (ixs a.toNat).map V.int := by
  unfold rgV ixs
  rw [List.map_map, Int.sub_zero]
  refine List.map_congr_left fun i _ => ?_
  show V.int (0 + (i : Nat)) = V.int (i : Int)
  rw [Int.zero_add]
theorem ixs_len (N : Nat) : (ixs N).length = N := by
  unfold ixs
  rw [List.length_map, List.length_range]
theorem ixs_asc (N : Nat) : (ixs N).Pairwise (· ≤ ·) := by
  unfold ixs
  exact List.pairwise_map.mpr ((range_lt N).imp fun {a b} h => by omega)
theorem sorted_same {a b : List Int} (hp : a.Perm b) (ha : a.Pairwise (· ≤ ·)) (hb : b.Pairwise (· ≤ ·)) : a = b := hp.eq_of_pairwise (fun x y _ _ h1 h2 => Int.le_antisymm h1 h2) ha hb
structure IsDg (n m : Int) (bs : List (List Int)) : Prop where
  sz : siz n m = true
  ne : ∀ b ∈ bs, b ≠ []
  pm : bs.flatten.Perm (ixs (n + m).toNat)
  asc : ∀ b ∈ bs, b.Pairwise (· ≤ ·)
  hd : (bs.map fun b => co b 0).Pairwise (· ≤ ·)
theorem siz_iff {n m : Int} : siz n m = true ↔ (0 ≤ n ∧ n ≤ 8 ∧ 0 ≤ m ∧ m ≤ 8 ∧ n + m ≤ 12) := by
  unfold siz
  exact decide_eq_true_iff
theorem isDg_blocks {n m : Int} {marks : List Int} (h : siz n m = true) (hl : (marks.length : Int) = n + m) : IsDg n m (blocksOf marks) := by
  have hs := siz_iff.mp h
  refine ⟨h, blocks_ne, ?_, fun b hb => ?_, (blocks_heads marks).imp fun {a b} h => by omega⟩
  · have := blocks_perm marks
    rwa [show marks.length = (n + m).toNat by omega] at this
  · obtain ⟨v, _, rfl⟩ := List.mem_map.mp hb
    exact (posOf_asc marks v).imp fun {a b} h => by omega

section
variable {P : Program} {w : World} {K : PySem.W.Frag} {mg : Str → Option Value} {base : Heap}
/-! ### _is_size, _check_size -/
def spIsSize : Sp := fun vs H Q _ => ∃ n m : Int, vs = [.int n, .int m] ∧ Q (.bl (siz n m)) H
theorem ok_is_size_ {f : Addr} {fd : FuncData} {t8 t12 : Tok} (F : Fun K "_is_size" "_is_size" s_is_size_ f fd) (m_MOST_ON_A_SIDE : mg "MOST_ON_A_SIDE" = some (.int 8 t8)) (m_MOST_POINTS : mg "MOST_POINTS" = some (.int 12 t12)) : FnOk P w K mg base CX0 1 f fd ["n", "m"] spIsSize := by
  have r_MOST_ON_A_SIDE : RelV (.int 8) (.int 8 t8) := ⟨_, rfl⟩
  have r_MOST_POINTS : RelV (.int 12) (.int 12 t12) := ⟨_, rfl⟩
  refine F.ok sc_is_size_ (fun vs H Q E h => ?_) (fun cdv A outer s H vs Q E hr h => ?_)
  · obtain ⟨n, m, rfl, _⟩ := h
    rfl
  · obtain ⟨n, m, rfl, q⟩ := h
    refine ⟨_, (pss_one (ps_ret (pe_and (pe_chain op_le op_le pe_int (pv 0) (pe_glob rfl m_MOST_ON_A_SIDE r_MOST_ON_A_SIDE)) (pe_and (pe_chain op_le op_le pe_int (pv 1) (pe_glob rfl m_MOST_ON_A_SIDE r_MOST_ON_A_SIDE)) (pe_one (pe_cmpR op_le (pe_op op_add (pv 0) (pv 1)) (pe_glob rfl m_MOST_POINTS r_MOST_POINTS) (nomark _))))))), ?_⟩
    unfold siz at q
    refine ⟨_, rfl, _, _, rfl, rfl, _, rfl, ?_⟩
    by_cases c0 : 0 ≤ n
    · rw [decide_eq_true c0]
      refine iteT ⟨_, _, rfl, rfl, _, rfl, ?_⟩
      by_cases c1 : n ≤ 8
      · rw [decide_eq_true c1]
        refine iteT ⟨_, rfl, _, _, rfl, rfl, _, rfl, ?_⟩
        by_cases c2 : 0 ≤ m
        · rw [decide_eq_true c2]
          refine iteT ⟨_, _, rfl, rfl, _, rfl, ?_⟩
          by_cases c3 : m ≤ 8
          · rw [decide_eq_true c3]
            refine iteT ⟨_, rfl, _, rfl, _, _, rfl, rfl, _, _, rfl, rfl, ?_⟩
            rwa [show decide (0 ≤ n ∧ n ≤ 8 ∧ 0 ≤ m ∧ m ≤ 8 ∧ n + m ≤ 12) = decide (n + m ≤ 12) from decide_eq_decide.mpr ⟨fun z => z.2.2.2.2, fun z => ⟨c0, c1, c2, c3, z⟩⟩] at q
          · rw [decide_eq_false c3]
            rw [decide_eq_false fun z => c3 z.2.2.2.1] at q
            exact iteF q
        · rw [decide_eq_false c2]
          rw [decide_eq_false fun z => c2 z.2.2.1] at q
          exact iteF ⟨_, rfl, iteF q⟩
      · rw [decide_eq_false c1]
        rw [decide_eq_false fun z => c1 z.2.1] at q
        exact iteF q
    · rw [decide_eq_false c0]
      rw [decide_eq_false fun z => c0 z.1] at q
      exact iteF ⟨_, rfl, iteF q⟩
def spCheckSize (CB : Addr) : Sp := fun vs H Q E => ∃ n m : Int, vs = [.int n, .int m] ∧ (siz n m = true → Q .non H) ∧ (siz n m = false → E (.ref CB) none H)
theorem ok_check_size_ {f CB a_is_size_ : Addr} {fd fd_is_size_ : FuncData} (F : Fun K "_check_size" "_check_size" s_check_size_ f fd) (T : ErrC K mg "BadNumber" CB)
    (G_is_size_ : FnOk P w K mg base CX0 1 a_is_size_ fd_is_size_ ["n", "m"] spIsSize) (g_is_size_ : mg "_is_size" = some (.ref a_is_size_)) (k_is_size_ : PySem.W.keepIn K (.ref a_is_size_) = true) (b_is_size_ : Binds K fd_is_size_ ["n", "m"] []) :
    FnOk P w K mg base (L2N.CX P w) 2 f fd ["n", "m"] (spCheckSize CB) := by
  obtain ⟨gc_BadNumber, x_BadNumber, kc_BadNumber, bc_BadNumber, tc_BadNumber⟩ := T
  refine F.okXN sc_check_size_ (fun vs H Q E h => ?_) (fun cdv A outer s H vs Q E hr h => ?_)
  · obtain ⟨n, m, rfl, _⟩ := h
    rfl
  · obtain ⟨n, m, rfl, q1, q2⟩ := h
    refine ⟨_, (pss_one (ps_if (pt_not (pt_val (pe_call G_is_size_ (hr.mono (by decide)) rfl g_is_size_ k_is_size_ b_is_size_ .nil pass0 (pa_cons (pv 0) (pa_cons (pv 1) pa_nil))))) (pss_one (L2N.ps_raise rfl (L2N.takes_of rfl rfl rfl rfl) (L2N.pmk_own PySem.F.excBase_ValueError x_BadNumber gc_BadNumber kc_BadNumber (raises_own bc_BadNumber tc_BadNumber) rfl))) pss_nil)), ?_⟩
    refine ⟨_, rfl, _, rfl, n, m, rfl, _, rfl, ?_⟩
    cases e : siz n m with
    | true => exact iteF (q1 e)
    | false => exact iteT (q2 e)
end

theorem any_nil (bs : List (List Int)) : ((bs.map dT).any fun z => PyData.eqv z (dT [])) = bs.any fun b => decide (b = []) := by
  rw [List.any_map]
  congr 1
  funext b
  exact eqv_dT b []
theorem flat_take {bs : List (List Int)} {i : Nat} {b : List Int} (h : bs[i]? = some b) : (bs.take (i + 1)).flatten = (bs.take i).flatten ++ b := by
  rw [List.take_succ, h, List.flatten_append]
  show _ ++ (b ++ []) = _
  rw [List.append_nil]
theorem mem_len {bs : List (List Int)} {b : List Int} (h : b ∈ bs) : b.length ≤ bs.flatten.length := by
  induction bs with
  | nil => exact nomatch h
  | cons c bs ih =>
    rw [List.flatten_cons, List.length_append]
    rcases List.mem_cons.mp h with rfl | h
    · omega
    · have := ih h
      omega
section
variable {P : Program} {w : World} {K : PySem.W.Frag} {mg : Str → Option Value} {base : Heap}
/-! ### is_diagram -/
def DgOk (n m : Int) (bs : List (List Int)) : Prop := n.natAbs ≤ 1000 ∧ m.natAbs ≤ 1000 ∧ bs.length ≤ 1000 ∧ bs.flatten.length ≤ 10000
def spIsDiagram : Sp := fun vs H Q _ => ∃ (v : V) (n m : Int) (bs : List (List Int)), vs = [v] ∧ DGv H v n m bs ∧ DgOk n m bs ∧ ∀ H', Same H H' → (IsDg n m bs → Q (.bl true) H') ∧ (¬ IsDg n m bs → Q (.bl false) H')
theorem ok_is_diagram {f a_is_size_ : Addr} {fd fd_is_size_ : FuncData} (F : Fun K "is_diagram" "is_diagram" s_is_diagram f fd) (z_len : mg "len" = none) (z_list : mg "list" = none) (z_range : mg "range" = none) (z_sorted : mg "sorted" = none) (z_all : mg "all" = none)
    (G_is_size_ : FnOk P w K mg base CX0 1 a_is_size_ fd_is_size_ ["n", "m"] spIsSize) (g_is_size_ : mg "_is_size" = some (.ref a_is_size_)) (k_is_size_ : PySem.W.keepIn K (.ref a_is_size_) = true) (b_is_size_ : Binds K fd_is_size_ ["n", "m"] []) : FnOk P w K mg base CX0 2 f fd ["diagram"] spIsDiagram := by
  refine F.ok sc_is_diagram (fun vs H Q E h => ?_) (fun cdv A outer s H vs Q E hr h => ?_)
  · obtain ⟨v, n, m, bs, rfl, _⟩ := h
    rfl
  · obtain ⟨v, n, m, bs, rfl, hv, ⟨bn, bm, bl, bf⟩, q⟩ := h
    refine ⟨_, (pss_cons (ps_if (pt_cmpR op_ne (pe_callB call_len_seq (by rfl) z_len boot_len (pa_cons (pv 0) pa_nil)) pe_int (nomark _)) (pss_one (ps_ret pe_bl)) pss_nil)
  (pss_cons (ps_asg (pv 0) (pg_tup rfl (pgs_cons (pg_name (i := 1) sc_is_diagram.nd rfl (.inl rfl)) (pgs_cons (pg_name (i := 2) sc_is_diagram.nd rfl (.inl rfl)) (pgs_cons (pg_name (i := 3) sc_is_diagram.nd rfl (.inl rfl)) pgs_nil)))))
  (pss_cons (ps_if (L2.PW.pt (pw_or (pt_not (pt_val (pe_call G_is_size_ (hr.mono (by decide)) rfl g_is_size_ k_is_size_ b_is_size_ .nil pass0 (pa_cons (pv 1) (pa_cons (pv 2) pa_nil))))) (pw_or1 (pt_cmpR (op_inDT (room65 hr)) (pe_tup pa_nil) (pv 3) (by with_unfolding_all rfl))))) (pss_one (ps_ret pe_bl)) pss_nil)
  (pss_cons (ps_setLc2 (i := 4) (own := [("block", 6), ("point", 7)]) (vs1 := [7]) rfl sc_is_diagram.nd rfl rfl (sw_true rfl rfl rfl (by decide +kernel)) (pi_tup (pv 3)) (blkOk_by (N := ["diagram", "n", "m", "blocks", "points", "firsts", "block", "point"]) (sc := defScope s_is_diagram) (by decide +kernel)) (by decide) (fun _ _ _ _ _ => (pg_name (i := 6) sc_is_diagram.nd rfl (.inl rfl))) (fun _ _ _ _ _ => pts_nil) (fun _ _ _ _ _ => ((pi_tupK (K := K) rfl) (pv 6))) (fun _ _ _ _ _ => (pg_name (i := 7) sc_is_diagram.nd rfl (.inl rfl))) (fun _ _ _ _ _ => pts_nil) (fun _ _ _ _ _ => (pv 7)))
  (pss_cons (ps_if (pt_cmpR (op_neD (room64 hr)) (pe_callB cr_sortedI (by rfl) z_sorted boot_sorted (pa_cons (pv 4) pa_nil)) (pe_listRg rfl rfl z_list (prg_1 rfl z_range (pe_op op_add (pv 1) (pv 2)))) (nomark _)) (pss_one (ps_ret pe_bl)) pss_nil)
  (pss_cons (ps_if (pt_not (pt_val (pe_callB (cr_all rfl) (by rfl) z_all boot_all (pa_cons (pe_lc (own := [("block", 6)]) rfl sc_is_diagram.nd (pi_tup (pv 3)) (blkOk_by (N := ["diagram", "n", "m", "blocks", "points", "firsts", "block", "point"]) (sc := defScope s_is_diagram) (by first | decide +kernel | rfl)) (fun _ _ _ _ _ => (pg_name (i := 6) sc_is_diagram.nd rfl (.inl rfl))) (fun _ _ _ _ _ => pts_nil) (fun _ _ _ _ _ => (pe_cmpR (op_eqDK (K := K) rfl (room64 hr)) (pe_callTy (call_list_ofK (K := K) rfl) (by rfl) z_list boot_list (pa_cons (pv 6) pa_nil)) (pe_callB (cr_sortedITK (K := K) rfl) (by rfl) z_sorted boot_sorted (pa_cons (pv 6) pa_nil)) (nomark _)))) pa_nil)))) (pss_one (ps_ret pe_bl)) pss_nil)
  (pss_cons (ps_setLc (i := 5) (own := [("block", 6)]) rfl sc_is_diagram.nd rfl rfl (sw_true rfl rfl rfl (by decide +kernel)) (pi_tup (pv 3)) (blkOk_by (N := ["diagram", "n", "m", "blocks", "points", "firsts", "block", "point"]) (sc := defScope s_is_diagram) (by first | decide +kernel | rfl)) (fun _ _ _ _ _ => (pg_name (i := 6) sc_is_diagram.nd rfl (.inl rfl))) (fun _ _ _ _ _ => pts_nil) (fun _ _ _ _ _ => (pe_ix (ix_tupK (K := K) rfl) (pv 6) pe_int (fun _ _ => rfl))))
  (pss_one (ps_ret (pe_cmpR (op_eqD (room64 hr)) (pv 5) (pe_callB cr_sortedI (by rfl) z_sorted boot_sorted (pa_cons (pv 5) pa_nil)) (nomark _))))))))))), ?_⟩
    have szl : 20000 ≤ sizeLine := by decide
    obtain ⟨t, vb, rfl, ht, tb, ts, rfl, htb, pr⟩ := hv
    have lts : ts.length = bs.length := pr.length
    refine ⟨_, rfl, t, _, rfl, .inr (.inl (.inl ht)), rfl, _, rfl, ite_same ?_⟩
    refine ⟨_, rfl, t, _, rfl, .inl (.inl ht), rfl, _, _, rfl, _, _, rfl, _, _, rfl, rfl, ?_⟩
    refine ⟨_, rfl, _, rfl, n, m, rfl, _, rfl, ?_⟩
    by_cases cs : siz n m = true
    · rw [cs]
      refine iteF ?_
      have hs := siz_iff.mp cs
      refine ⟨(by show 0 ≤ sizeLine; decide), fun e0 ne0 => ?_⟩
      have s0 : Same H (upd H e0 (.tup [])) := same_upd ne0
      have tt : TT (upd H e0 (.tup [])) (.ref tb) bs := TT.same s0 ⟨tb, ts, rfl, htb, pr⟩
      refine ⟨_, rfl, dT [], bs.map dT, .tup (.inl (.inl upd_same)) .nil, tt.dp, dT_shaped [], dTT_shaped bs, _, rfl, ?_⟩
      rw [any_nil]
      have htb1 : upd H e0 (.tup []) tb = some (.tup ts) := s0 _ _ htb
      have pr1 : Paired (TP (upd H e0 (.tup []))) ts bs := Paired.mapP pr fun _ _ h => h.same s0
      revert s0 htb1 pr1
      generalize upd H e0 (.tup []) = H1
      intro s0 htb1 pr1
      clear tt htb pr
      by_cases cn : (bs.any fun b => decide (b = [])) = true
      · rw [cn]
        refine iteT ((q H1 s0).2 fun z => ?_)
        obtain ⟨b, hb, e⟩ := List.any_eq_true.mp cn
        exact z.ne b hb (of_decide_eq_true e)
      rw [Bool.not_eq_true _ |>.mp cn]
      refine iteF ?_
      have ne : ∀ b ∈ bs, b ≠ [] := fun b hb z => cn (List.any_eq_true.mpr ⟨b, hb, decide_eq_true z⟩)
      -- points
      refine ⟨_, rfl, tb, rfl, ⟨_, .inl (.inl htb1)⟩, fun D nD => ?_⟩
      have keepD : ∀ {H' : Hp} {a : Addr} {o : HO}, SameBut D H1 H' → H1 a = some o → H' a = some o := fun sb e => sb _ _ (ne_of_none e nD) e
      refine outer_it walk_tup (fun i H' => SameBut D H1 H' ∧ H' D = some (.lst ((bs.take i).flatten.map V.int))) ⟨SameBut.upd, upd_same⟩ (fun i H' _ hP => .inl (.inl (keepD hP.1 htb1))) (fun i y H2 H3 hi hP hy => ?_) (fun H2 hP => ?_)
      · obtain ⟨sb, hD⟩ := hP
        obtain ⟨e0, hy⟩ := hy
        subst e0
        obtain ⟨b, eb, a, rfl, ha⟩ := tt_get pr1 hy
        have mb := List.mem_of_getElem? eb
        have lb := mem_len mb
        refine ⟨rfl, ?_⟩
        refine ⟨_, rfl, a, rfl, ⟨_, .inl (.inl (keepD sb ha))⟩, outer_it walk_tup (fun j H' => SameBut D H1 H' ∧ H' D = some (.lst (((bs.take i).flatten ++ b.take j).map V.int))) ⟨sb, by rw [List.take_zero, List.append_nil]; exact hD⟩ (fun j H' _ hP => .inl (.inl (keepD hP.1 ha))) (fun j z H4 H5 hj hP hz => ?_) (fun H4 hP => ?_)⟩
        · obtain ⟨sb, hD⟩ := hP
          obtain ⟨e0, hz⟩ := hz
          subst e0
          rw [List.length_map] at hj
          have ez : (b.map V.int)[j]? = some (.int (co b j)) := by rw [List.getElem?_map, co_get hj]; rfl
          obtain rfl : V.int (co b j) = z := Option.some.inj (ez.symm.trans hz)
          refine ⟨rfl, ?_⟩
          refine ⟨_, rfl, _, hD, ?_, sb.trans SameBut.upd, ?_⟩
          · rw [List.length_map, List.length_append, List.length_take]
            have : (bs.take i).flatten.length ≤ bs.flatten.length := by
              have e : (bs.take i ++ bs.drop i).flatten.length = bs.flatten.length := congrArg (fun l : List (List Int) => l.flatten.length) (List.take_append_drop i bs)
              rw [List.flatten_append, List.length_append] at e
              omega
            omega
          · rw [upd_same, take_snoc hj, ← List.append_assoc, List.map_append (l₂ := [co b j])]
            rfl
        · obtain ⟨sb, hD⟩ := hP
          rw [List.length_map, List.take_length] at hD
          exact ⟨sb, by rw [flat_take eb]; exact hD⟩
      obtain ⟨sb2, hD⟩ := hP
      rw [lts, List.take_length] at hD
      have s2 : Same H1 H2 := fun b o e => keepD sb2 e
      -- sorted
      refine ⟨_, rfl, D, bs.flatten, rfl, .inl (.inl hD), fun ns' p1 pm1 srt1 np1 => ?_⟩
      refine ⟨_, rfl, _, rfl, _, _, rfl, rfl, n + m, rfl, RgOk.of_le (by decide) (by omega) (by decide) (by omega), fun p2 np2 => ?_⟩
      rw [rgV_ixs (by omega)]
      have s3 : Same H2 (upd (upd H2 p1 (.lst (ns'.map V.int))) p2 (.lst ((ixs (n + m).toNat).map V.int))) := Same.trans (same_upd np1) (same_upd np2)
      refine neD_LP (x := ns') (y := ixs (n + m).toNat) ⟨p1, rfl, same_upd np2 _ _ upd_same⟩ ⟨p2, rfl, upd_same⟩ ⟨_, rfl, ?_⟩
      have s13 := Same.trans s0 (Same.trans s2 s3)
      have htb4 := s3 _ _ (s2 _ _ htb1)
      have pr4 := Paired.mapP pr1 fun _ _ h => (TP.same s2 h).same s3
      revert s13 htb4 pr4
      generalize upd (upd H2 p1 (.lst (ns'.map V.int))) p2 (.lst ((ixs (n + m).toNat).map V.int)) = H4
      intro s13 htb4 pr4
      clear s3 s2 hD sb2 keepD nD np1 np2
      by_cases cp : ns' = ixs (n + m).toNat
      · rw [decide_eq_true cp]
        refine iteF ?_
        have pm : bs.flatten.Perm (ixs (n + m).toNat) := cp ▸ pm1.symm
        -- blocks
        refine ⟨_, rfl, tb, rfl, ⟨_, .inl (.inl htb4)⟩, fun D5 nD5 => ?_⟩
        have keep5 : ∀ {H' : Hp} {a : Addr} {o : HO}, SameBut D5 H4 H' → H4 a = some o → H' a = some o := fun sb e => sb _ _ (ne_of_none e nD5) e
        refine lc_it walk_tup (fun i H' => SameBut D5 H4 H' ∧ H' D5 = some (.lst (((bs.take i).map fun b => decide (b.Pairwise (· ≤ ·))).map V.bl))) ⟨SameBut.upd, upd_same⟩ (fun i H' _ hP => .inl (.inl (keep5 hP.1 htb4))) (fun i y H5 H6 hi hP hy => ?_) (fun H5 hP => ?_)
        · obtain ⟨sb, hD⟩ := hP
          obtain ⟨e0, hy⟩ := hy
          subst e0
          obtain ⟨b, eb, a, rfl, ha⟩ := tt_get pr4 hy
          refine ⟨rfl, ?_⟩
          have ha5 := keep5 sb ha
          refine ⟨_, rfl, a, _, rfl, .inr (.inl (.inl ha5)), fun l1 nl1 => ?_⟩
          refine ⟨_, rfl, a, b, rfl, .inl (.inl (same_upd nl1 _ _ ha5)), fun ns p pm srt np => ?_⟩
          refine eqD_LP (x := b) (y := ns) ⟨l1, rfl, same_upd np _ _ upd_same⟩ ⟨p, rfl, upd_same⟩ ?_
          have sN := Same.trans (same_upd (o := .lst (b.map V.int)) nl1) (same_upd (o := .lst (ns.map V.int)) np)
          have e : decide (b = ns) = decide (b.Pairwise (· ≤ ·)) := decide_eq_decide.mpr ⟨fun z => by rw [z]; exact srt, fun z => sorted_same pm.symm z srt⟩
          refine ⟨_, sN _ _ hD, by rw [List.length_map, List.length_map, List.length_take]; omega, (sb.trans (Same.but sN)).trans SameBut.upd, ?_⟩
          rw [upd_same, List.take_succ, eb, e, List.map_append, List.map_append]
          rfl
        obtain ⟨sb5, hD5⟩ := hP
        rw [lts, List.take_length] at hD5
        have s5 : Same H4 H5 := fun b o e => keep5 sb5 e
        refine ⟨D5, _, rfl, .inl (.inl hD5), _, rfl, ?_⟩
        have htb5 := s5 _ _ htb4
        have pr5 := Paired.mapP pr4 fun _ _ h => TP.same s5 h
        have s15 := Same.trans s13 s5
        by_cases ca : ((bs.map fun b => decide (b.Pairwise (· ≤ ·))).all id) = true
        · rw [ca]
          refine iteF ?_
          have asc : ∀ b ∈ bs, b.Pairwise (· ≤ ·) := fun b hb => of_decide_eq_true (List.all_eq_true.mp ca _ (List.mem_map_of_mem hb))
          -- firsts
          refine ⟨_, rfl, tb, rfl, ⟨_, .inl (.inl htb5)⟩, fun D6 nD6 => ?_⟩
          have keep6 : ∀ {H' : Hp} {a : Addr} {o : HO}, SameBut D6 H5 H' → H5 a = some o → H' a = some o := fun sb e => sb _ _ (ne_of_none e nD6) e
          refine lc_it walk_tup (fun i H' => SameBut D6 H5 H' ∧ H' D6 = some (.lst (((bs.take i).map fun b => co b 0).map V.int))) ⟨SameBut.upd, upd_same⟩ (fun i H' _ hP => .inl (.inl (keep6 hP.1 htb5))) (fun i y H6 H7 hi hP hy => ?_) (fun H6 hP => ?_)
          · obtain ⟨sb, hD⟩ := hP
            obtain ⟨e0, hy⟩ := hy
            subst e0
            obtain ⟨b, eb, a, rfl, ha⟩ := tt_get pr5 hy
            have nb := List.length_pos_iff.mpr (ne b (List.mem_of_getElem? eb))
            refine ⟨rfl, ?_⟩
            refine ⟨_, rfl, a, _, 0, _, rfl, rfl, .inl (.inl (keep6 sb ha)), at_co nb, _, hD, by rw [List.length_map, List.length_map, List.length_take]; omega, sb.trans SameBut.upd, ?_⟩
            rw [upd_same, List.take_succ, eb, List.map_append, List.map_append]
            rfl
          obtain ⟨sb6, hD6⟩ := hP
          rw [lts, List.take_length] at hD6
          have s6 : Same H5 H6 := fun b o e => keep6 sb6 e
          refine ⟨_, rfl, _, rfl, D6, _, rfl, .inl (.inl hD6), fun ns p pm6 srt np => ?_⟩
          refine eqD_LP (x := bs.map fun b => co b 0) (y := ns) ⟨D6, rfl, same_upd np _ _ hD6⟩ ⟨p, rfl, upd_same⟩ ?_
          obtain ⟨qt, qf⟩ := q _ (Same.trans s15 (Same.trans s6 (same_upd np)))
          by_cases ch : (bs.map fun b => co b 0) = ns
          · rw [decide_eq_true ch]
            exact qt ⟨cs, ne, pm, asc, ch ▸ srt⟩
          · rw [decide_eq_false ch]
            exact qf fun z => ch (sorted_same pm6.symm z.hd srt)
        · rw [Bool.not_eq_true _ |>.mp ca]
          refine iteT ((q H5 s15).2 fun z => ca (List.all_eq_true.mpr fun c hc => ?_))
          obtain ⟨b, hb, rfl⟩ := List.mem_map.mp hc
          exact decide_eq_true (z.asc b hb)
      · rw [decide_eq_false cp]
        exact iteT ((q H4 s13).2 fun z => cp (sorted_same (pm1.trans z.pm) srt1 (ixs_asc _)))
    · rw [Bool.not_eq_true _ |>.mp cs]
      exact iteT ((q H (Same.refl _)).2 fun z => cs z.sz)
end

section
variable {P : Program} {w : World} {K : PySem.W.Frag} {mg : Str → Option Value} {base : Heap}
/-! ### check_diagram, labels -/
def spCheckDiagram (CD : Addr) : Sp := fun vs H Q E => ∃ (v : V) (n m : Int) (bs : List (List Int)), vs = [v] ∧ DGv H v n m bs ∧ DgOk n m bs ∧ ∀ H', Same H H' → (IsDg n m bs → Q .non H') ∧ (¬ IsDg n m bs → E (.ref CD) none H')
theorem ok_check_diagram {f CD a_is_diagram : Addr} {fd fd_is_diagram : FuncData} (F : Fun K "check_diagram" "check_diagram" s_check_diagram f fd) (T : ErrC K mg "NotDiagram" CD)
    (G_is_diagram : FnOk P w K mg base CX0 2 a_is_diagram fd_is_diagram ["diagram"] spIsDiagram) (g_is_diagram : mg "is_diagram" = some (.ref a_is_diagram)) (k_is_diagram : PySem.W.keepIn K (.ref a_is_diagram) = true) (b_is_diagram : Binds K fd_is_diagram ["diagram"] []) :
    FnOk P w K mg base (L2N.CX P w) 3 f fd ["diagram"] (spCheckDiagram CD) := by
  obtain ⟨gc_NotDiagram, x_NotDiagram, kc_NotDiagram, bc_NotDiagram, tc_NotDiagram⟩ := T
  refine F.okXN sc_check_diagram (fun vs H Q E h => ?_) (fun cdv A outer s H vs Q E hr h => ?_)
  · obtain ⟨v, n, m, bs, rfl, _⟩ := h
    rfl
  · obtain ⟨v, n, m, bs, rfl, hv, hb, q⟩ := h
    refine ⟨_, (pss_one (ps_if (pt_not (pt_val (pe_call G_is_diagram (hr.mono (by decide)) rfl g_is_diagram k_is_diagram b_is_diagram .nil pass0 (pa_cons (pv 0) pa_nil)))) (pss_one (L2N.ps_raise rfl (L2N.takes_of rfl rfl rfl rfl) (L2N.pmk_own PySem.F.excBase_ValueError x_NotDiagram gc_NotDiagram kc_NotDiagram (raises_own bc_NotDiagram tc_NotDiagram) rfl))) pss_nil)), ?_⟩
    exact ⟨_, rfl, v, n, m, bs, rfl, hv, hb, fun H' s' => ⟨fun h => ⟨_, rfl, iteF ((q H' s').1 h)⟩, fun h => ⟨_, rfl, iteT ((q H' s').2 h)⟩⟩⟩
end
def labN (bs : List (List Int)) (i : Nat) (N : Nat) : List Int := labFrom (bs.take i) 0 (List.replicate N 0)
theorem labFrom_snoc : ∀ (bs : List (List Int)) (b : List Int) (k : Nat) (ms : List Int), labFrom (bs ++ [b]) k ms = b.foldl (fun ms p => ms.set p.toNat ((k + bs.length : Nat) : Int)) (labFrom bs k ms)
  | [], b, k, ms => rfl
  | c :: bs, b, k, ms => by
    show labFrom (bs ++ [b]) (k + 1) _ = _
    rw [labFrom_snoc bs b (k + 1), show k + 1 + bs.length = k + (c :: bs).length by rw [List.length_cons]; omega]
    rfl
theorem fold_take {k : Int} {b ms : List Int} {j : Nat} (h : j < b.length) : (b.take (j + 1)).foldl (fun ms p => ms.set p.toNat k) ms = ((b.take j).foldl (fun ms p => ms.set p.toNat k) ms).set (co b j).toNat k := by
  rw [take_snoc h, List.foldl_append]
  rfl
theorem dg_pt {n m : Int} {bs : List (List Int)} (h : IsDg n m bs) {b : List Int} (hb : b ∈ bs) {p : Int} (hp : p ∈ b) : 0 ≤ p ∧ p < n + m := by
  have h1 := h.pm.mem_iff.mp (List.mem_flatten.mpr ⟨b, hb, hp⟩)
  obtain ⟨i, hi, rfl⟩ := List.mem_map.mp h1
  have := List.mem_range.mp hi
  omega

theorem posOf_take {marks : List Int} {i : Nat} (h : i < marks.length) (v : Int) : posOf (marks.take (i + 1)) v = if co marks i = v then posOf (marks.take i) v ++ [(i : Int)] else posOf (marks.take i) v := by
  have l1 : (marks.take (i + 1)).length = i + 1 := by rw [List.length_take]; omega
  have l0 : (marks.take i).length = i := by rw [List.length_take]; omega
  have c1 : ∀ j, j < i → co (marks.take (i + 1)) j = co (marks.take i) j := fun j hj => by
    unfold co
    rw [List.getD_eq_getElem?_getD, List.getD_eq_getElem?_getD, List.getElem?_take_of_lt (by omega), List.getElem?_take_of_lt hj]
  have c2 : co (marks.take (i + 1)) i = co marks i := by
    unfold co
    rw [List.getD_eq_getElem?_getD, List.getD_eq_getElem?_getD, List.getElem?_take_of_lt (by omega)]
  unfold posOf
  rw [l1, l0, List.range_succ, List.filter_append, List.map_append]
  have e : (List.range i).filter (fun j => decide (co (marks.take (i + 1)) j = v)) = (List.range i).filter fun j => decide (co (marks.take i) j = v) :=
    List.filter_congr fun j hj => by rw [c1 j (List.mem_range.mp hj)]
  rw [e, List.filter_cons, c2]
  by_cases c : co marks i = v
  · rw [if_pos c, decide_eq_true c]
    rfl
  · rw [if_neg c, decide_eq_false c]
    exact List.append_nil _
theorem posOf_none {marks : List Int} {v : Int} (h : v ∉ marks) : posOf marks v = [] := by
  refine List.eq_nil_iff_forall_not_mem.mpr fun x hx => ?_
  obtain ⟨i, _, hi, e⟩ := mem_posOf.mp hx
  exact h (e ▸ co_mem hi)
/-- a dict by integers -/
def KR (H : Hp) (f : Int → List Int) (kv : Key × V) (u : Int) : Prop := kv.1 = Sum.inl u ∧ TP H kv.2 (f u)
theorem kr_get {H : Hp} {f : Int → List Int} {v : Int} : ∀ {kvs : List (Key × V)} {vs : List Int}, Paired (KR H f) kvs vs → (v ∈ vs → ∃ w, valV kvs (Sum.inl v : Key) = some w ∧ TP H w (f v)) ∧ (v ∉ vs → valV kvs (Sum.inl v : Key) = none)
  | _, _, .nil => ⟨fun h => (nomatch h), fun _ => rfl⟩
  | kv :: kvs, u :: vs, .cons ⟨e, t⟩ pr => by
    obtain ⟨a, b⟩ := kr_get (v := v) pr
    by_cases c : u = v
    · refine ⟨fun _ => ⟨kv.2, valV_pos (by rw [e, c]), by rw [← c]; exact t⟩, fun h => absurd (List.mem_cons.mpr (.inl c.symm)) h⟩
    · have ne : ¬ kv.1 = (Sum.inl v : Key) := fun z => c (Sum.inl.inj (e.symm.trans z))
      refine ⟨fun h => ?_, fun h => ?_⟩
      · rw [valV_neg ne]
        exact a ((List.mem_cons.mp h).resolve_left fun z => c z.symm)
      · rw [valV_neg ne]
        exact b fun z => h (List.mem_cons_of_mem _ z)
theorem kr_map {H : Hp} {f g : Int → List Int} {v : Int} {w : V} (hw : TP H w (g v)) (hg : ∀ u, u ≠ v → g u = f u) : ∀ {kvs : List (Key × V)} {vs : List Int}, Paired (KR H f) kvs vs → Paired (KR H g) (kvs.map fun kv => if kv.1 = (Sum.inl v : Key) then (kv.1, w) else kv) vs
  | _, _, .nil => .nil
  | kv :: kvs, u :: vs, .cons ⟨e, t⟩ pr => by
    rw [List.map_cons]
    refine .cons ?_ (kr_map hw hg pr)
    by_cases c : u = v
    · rw [if_pos (by rw [e, c])]
      exact ⟨e, by rw [c]; exact hw⟩
    · rw [if_neg fun z => c (Sum.inl.inj (e.symm.trans z))]
      exact ⟨e, by rw [hg u c]; exact t⟩
theorem kr_put {H : Hp} {f g : Int → List Int} {v : Int} {w : V} {kvs : List (Key × V)} {vs : List Int} (pr : Paired (KR H f) kvs vs) (hw : TP H w (g v)) (hg : ∀ u, u ≠ v → g u = f u) :
    Paired (KR H g) (putK kvs (Sum.inl v : Key) w) (if v ∈ vs then vs else vs ++ [v]) := by
  obtain ⟨a, b⟩ := kr_get (v := v) pr
  by_cases c : v ∈ vs
  · rw [if_pos c]
    obtain ⟨x, hx, _⟩ := a c
    unfold putK
    rw [if_pos (by rw [valV_any, hx]; rfl)]
    exact kr_map hw hg pr
  · rw [if_neg c, putK_new _ (b c)]
    refine paired_snoc ⟨rfl, hw⟩ ?_
    have e : (kvs.map fun kv => if kv.1 = (Sum.inl v : Key) then (kv.1, w) else kv) = kvs := by
      conv => rhs; rw [← List.map_id kvs]
      refine List.map_congr_left fun kv hkv => ?_
      have : (kvs.any fun kv => decide (kv.1 = (Sum.inl v : Key))) = false := by rw [valV_any, b c]; rfl
      have h1 := List.any_eq_false.mp this kv hkv
      rw [if_neg fun z => h1 (decide_eq_true z)]
      rfl
    have := kr_map hw hg pr
    rwa [e] at this
theorem kr_vals {H : Hp} {f : Int → List Int} : ∀ {kvs : List (Key × V)} {vs : List Int}, Paired (KR H f) kvs vs → Paired (TP H) (kvs.map (·.2)) (vs.map f)
  | _, _, .nil => .nil
  | _, _, .cons ⟨_, t⟩ pr => .cons t (kr_vals pr)
def rCatC : R2 := fun x y H Q => ∃ a b xs ys, x = .ref a ∧ y = .ref b ∧ H a = some (.tup xs) ∧ H b = some (.tup ys) ∧ xs.length + ys.length ≤ sizeLine ∧ ∀ p H', Same H H' → H' p = some (.tup (xs ++ ys)) → Q (.ref p) H'
theorem op_catC {X : Cx} : OpR X (binaryOp .Add) rCatC := by
  intro pins s σ H x y v u Q I rx ry h
  obtain ⟨a, b, xs, ys, rfl, rfl, ha, hb, hz, q⟩ := h
  refine op_catA pins s σ H _ _ v u Q I rx ry ⟨a, b, xs, ys, rfl, rfl, .inl (.inl ha), .inl (.inl hb), hz, fun e => ?_, fun _ e => ?_, fun _ _ p np => ?_⟩
  · exact q b H (Same.refl _) (by rw [e, List.nil_append]; exact hb)
  · exact q a H (Same.refl _) (by rw [e, List.append_nil]; exact ha)
  · exact q p _ (same_upd np) upd_same
section
variable {P : Program} {w : World} {K : PySem.W.Frag} {mg : Str → Option Value} {base : Heap}
/-! ### from_labels -/
def spFromLabels (K : PySem.W.Frag) (CB : Addr) : Sp := fun vs H Q E => ∃ (n m : Int) (a : Addr) (marks : List Int), vs = [.int n, .int m, .ref a] ∧ SqL K H a (marks.map V.int) ∧ marks.length ≤ 1000 ∧ (siz n m = false → E (.ref CB) none H) ∧
  (siz n m = true → ((marks.length : Int) ≠ n + m → E (.ref CB) none H) ∧ ((marks.length : Int) = n + m → ∀ v H', Same H H' → DGv H' v n m (blocksOf marks) → Q v H'))
theorem ok_from_labels {f CB a_check_size_ : Addr} {fd fd_check_size_ : FuncData} (F : Fun K "from_labels" "from_labels" s_from_labels f fd) (T : ErrC K mg "BadNumber" CB) (z_len : mg "len" = none) (z_enumerate : mg "enumerate" = none) (z_tuple : mg "tuple" = none)
    (G_check_size_ : FnOk P w K mg base (L2N.CX P w) 2 a_check_size_ fd_check_size_ ["n", "m"] (spCheckSize CB)) (g_check_size_ : mg "_check_size" = some (.ref a_check_size_)) (k_check_size_ : PySem.W.keepIn K (.ref a_check_size_) = true) (b_check_size_ : Binds K fd_check_size_ ["n", "m"] []) :
    FnOk P w K mg base (L2N.CX P w) 3 f fd ["n", "m", "marks"] (spFromLabels K CB) := by
  obtain ⟨gc_BadNumber, x_BadNumber, kc_BadNumber, bc_BadNumber, tc_BadNumber⟩ := T
  refine F.okXN sc_from_labels (fun vs H Q E h => ?_) (fun cdv A outer s H vs Q E hr h => ?_)
  · obtain ⟨n, m, a, marks, rfl, _⟩ := h
    rfl
  · obtain ⟨n, m, a, marks, rfl, ha, hl, q1, q⟩ := h
    refine ⟨_, (pss_cons (ps_expr (pe_call G_check_size_ (hr.mono (by decide)) rfl g_check_size_ k_check_size_ b_check_size_ .nil (L2N.passes_call (L2N.takes_of rfl rfl rfl rfl) (fun _ _ _ _ h => h)) (pa_cons (pv 0) (pa_cons (pv 1) pa_nil))))
  (pss_cons (ps_if (pt_cmpR op_ne (pe_callB call_len_seq (by rfl) z_len boot_len (pa_cons (pv 2) pa_nil)) (pe_op op_add (pv 0) (pv 1)) (nomark _)) (pss_one (L2N.ps_raise rfl (L2N.takes_of rfl rfl rfl rfl) (L2N.pmk_own PySem.F.excBase_ValueError x_BadNumber gc_BadNumber kc_BadNumber (raises_own bc_BadNumber tc_BadNumber) rfl))) pss_nil)
  (pss_cons (ps_set (i := 3) sc_from_labels.nd rfl (.inl rfl) pe_dnewK)
  (pss_cons (ps_for (passes_of rfl) rfl (pi_enum rfl z_enumerate (pa_cons (pv 2) pa_nil)) (pg_tup rfl (pgs_cons (pg_name (i := 4) sc_from_labels.nd rfl (.inl rfl)) (pgs_cons (pg_name (i := 5) sc_from_labels.nd rfl (.inl rfl)) pgs_nil))) (pss_one (ps_dput (hu_of hr) (pv 3) (pv 5) (pe_op op_catC (pe_dget2 (hu_of hr) (pv 3) (pv 5) (pe_tup pa_nil) ⟨by rfl, by rfl, by rfl, by rfl⟩) (pe_tup (pa_cons (pv 4) pa_nil))) rfl)))
  (pss_one (ps_ret (pe_tup (pa_cons (pv 0) (pa_cons (pv 1) (pa_cons (pe_tupVals rfl rfl z_tuple (pv 3)) pa_nil)))))))))), ?_⟩
    have szl : 20000 ≤ sizeLine := by decide
    refine ⟨_, rfl, _, rfl, n, m, rfl, fun cs => ?_, q1⟩
    obtain ⟨qB, q⟩ := q cs
    refine ⟨_, rfl, a, _, rfl, .inl ha, _, rfl, _, rfl, _, _, rfl, rfl, rfl, _, rfl, ?_⟩
    rw [List.length_map]
    by_cases cl : (marks.length : Int) = n + m
    · refine if_neg_of (by rw [decide_eq_true (congrArg V.int cl)]; exact Bool.false_ne_true) ?_
      have q := q cl
      refine fun D nD => ?_
      refine ⟨_, rfl, a, _, rfl, sqL_same (same_upd nD) ha, for_it walk_enum (fun i σ H' => ∃ (kvs : List (Key × V)) (v4 v5 : Option V), σ = [some (.int n), some (.int m), some (.ref a), some (.ref D), v4, v5] ∧ Same H H' ∧ H' D = some (.dK kvs) ∧ kvs.length ≤ i ∧ Paired (KR H' (posOf (marks.take i))) kvs (seenL [] (marks.take i)))
        ⟨[], none, none, rfl, same_upd nD, upd_same, Nat.le_refl _, .nil⟩ (fun i σ H' _ ⟨_, _, _, _, s', _⟩ => sqL_same s' ha) (fun i y σ H2 H3 hi hP hy => ?_) (fun σ H' hP => ?_)⟩
      · obtain ⟨kvs, v4, v5, rfl, s2, hD2, lk, pr⟩ := hP
        obtain ⟨p, x, y', rfl, np, rfl, ex, ey⟩ := hy
        rw [List.length_map] at hi
        obtain rfl : V.int (i : Nat) = x := Option.some.inj ex
        have ey2 : (marks.map V.int)[i]? = some (.int (co marks i)) := by rw [List.getElem?_map, co_get hi]; rfl
        obtain rfl : V.int (co marks i) = y' := Option.some.inj (ey2.symm.trans ey)
        refine ⟨p, _, rfl, .inl (.inl upd_same), rfl, _, _, rfl, _, _, rfl, rfl, ?_⟩
        have q3 := same_upd (o := .tup [.int (i : Nat), .int (co marks i)]) np
        have hD3 := q3 _ _ hD2
        refine ⟨_, rfl, D, rfl, .inl ⟨kvs, .inl hD3⟩, _, rfl, (by show 0 ≤ sizeLine; decide), fun e ne => ?_⟩
        have q4 := Same.trans q3 (same_upd (o := .tup []) ne)
        have hD4 := q4 _ _ hD2
        have pr4 : Paired (KR _ (posOf (marks.take i))) kvs (seenL [] (marks.take i)) := Paired.mapP pr fun _ _ h => ⟨h.1, h.2.same q4⟩
        refine ⟨_, DGet.k (k := (Sum.inl (co marks i) : Key)) hD4, ?_⟩
        obtain ⟨w0, ew, tw⟩ : ∃ w0, (valV kvs (Sum.inl (co marks i) : Key)).getD (.ref e) = w0 ∧ TP (upd (upd H2 p (.tup [.int (i : Nat), .int (co marks i)])) e (.tup [])) w0 (posOf (marks.take i) (co marks i)) := by
          by_cases c : co marks i ∈ seenL [] (marks.take i)
          · obtain ⟨w0, h1, h2⟩ := (kr_get (v := co marks i) pr4).1 c
            exact ⟨w0, by rw [h1]; rfl, h2⟩
          · rw [(kr_get (v := co marks i) pr4).2 c, posOf_none fun z => c ((seenL_mem _ _ _).mpr (.inr z))]
            exact ⟨.ref e, rfl, e, rfl, upd_same⟩
        rw [ew]
        obtain ⟨t0, rfl, ht0⟩ := tw
        refine ⟨_, rfl, (by show 1 ≤ sizeLine; decide), fun p1 np1 => ?_⟩
        have q5 := same_upd (o := .tup [.int (i : Nat)]) np1
        have lpos : (posOf (marks.take i) (co marks i)).length ≤ i := by
          unfold posOf
          rw [List.length_map]
          have h1 := List.length_filter_le (fun j => decide (co (marks.take i) j = co marks i)) (List.range (marks.take i).length)
          rw [List.length_range] at h1
          have h2 : (marks.take i).length ≤ i := by rw [List.length_take]; omega
          omega
        refine ⟨t0, p1, _, [.int (i : Nat)], rfl, rfl, q5 _ _ ht0, upd_same, by rw [List.length_map]; show _ + 1 ≤ _; omega, fun t H6 s6 ht => ?_⟩
        have s26 := Same.trans q4 (Same.trans q5 s6)
        have hD6 := s26 _ _ hD2
        refine ⟨_, rfl, _, rfl, D, _, rfl, DPut.k (k := (Sum.inl (co marks i) : Key)) hD6 (by omega), ?_⟩
        have tnew : TP H6 (.ref t) (posOf (marks.take (i + 1)) (co marks i)) := ⟨t, rfl, by rw [posOf_take hi, if_pos rfl, List.map_append]; exact ht⟩
        have pr6 := kr_put (g := posOf (marks.take (i + 1))) (Paired.mapP pr fun _ _ h => ⟨h.1, h.2.same s26⟩ : Paired (KR H6 (posOf (marks.take i))) kvs (seenL [] (marks.take i))) tnew fun u hu => by rw [posOf_take hi, if_neg (Ne.symm hu)]
        have keepT : ∀ {x : V} {z : List Int}, TP H6 x z → TP (upd H6 D (.dK (putK kvs (Sum.inl (co marks i) : Key) (.ref t)))) x z := fun {x z} ⟨t, e, h⟩ => ⟨t, e, by rw [upd_ne (ne_of h hD6 (fun z => nomatch z))]; exact h⟩
        refine ⟨_, _, _, rfl, Same.mut (Same.trans s2 s26) nD, upd_same, ?_, ?_⟩
        · unfold putK
          split
          · rw [List.length_map]
            omega
          · rw [List.length_append]
            exact Nat.succ_le_succ lk
        · rw [take_snoc hi, seenL_snoc, ← take_snoc hi]
          exact Paired.mapP pr6 fun _ _ h => ⟨h.1, keepT h.2⟩
      · obtain ⟨kvs, v4, v5, rfl, s2, hD2, lk, pr⟩ := hP
        rw [List.length_map, List.take_length] at pr
        refine ⟨_, rfl, _, rfl, _, rfl, D, kvs, rfl, hD2, fun tb ntb => ?_⟩
        refine ⟨(by show 3 ≤ sizeLine; decide), fun t nt => ?_⟩
        have q3 := same_upd (o := .tup (kvs.map (·.2))) ntb
        have q4 := same_upd (o := .tup [.int n, .int m, .ref tb]) nt
        have sf := Same.trans q3 q4
        refine q (.ref t) _ (Same.trans s2 sf) ⟨t, .ref tb, rfl, upd_same, tb, _, rfl, q4 _ _ upd_same, ?_⟩
        unfold blocksOf
        exact kr_vals (Paired.mapP pr fun _ _ h => ⟨h.1, h.2.same sf⟩)
    · exact if_pos_of (by rw [decide_eq_false fun z => cl (V.int.inj z)]; rfl) (qB cl)
end

/-! ### marks as they are drawn -/
def Strand (n : Nat) (l : List Int) : Prop := ∀ p q : Nat, p < q → q < l.length → co l p = co l q → p < n ∧ n ≤ q
def Mated (l : List Int) : Prop := ∀ p : Nat, p < l.length → ∃ q, q < l.length ∧ q ≠ p ∧ co l q = co l p
structure FamM (z : Str) (n m : Nat) (l : List Int) : Prop where
  st : z = "threads" ∨ z = "loose" → Strand n l
  ma : z = "threads" → n = m → Mated l
  pa : z = "pairs" → (n + m) % 2 = 0 → ∀ v ∈ l, l.count v = 2
  lo : z = "lonepairs" → ∀ v, l.count v ≤ 2
  ev : z = "even" → (n + m) % 2 = 0 → ∀ v, l.count v % 2 = 0
theorem mem_ixs {N : Nat} {x : Int} : x ∈ ixs N ↔ 0 ≤ x ∧ x < (N : Int) := by
  unfold ixs
  rw [List.mem_map]
  constructor
  · rintro ⟨i, hi, rfl⟩
    have := List.mem_range.mp hi
    omega
  · rintro ⟨h0, h1⟩
    exact ⟨x.toNat, List.mem_range.mpr (by omega), by omega⟩
theorem ixs_len' (N : Nat) : (ixs N).length = N := by
  unfold ixs
  rw [List.length_map, List.length_range]
theorem co_ixs {N i : Nat} (h : i < N) : co (ixs N) i = (i : Int) := by
  have e := co_get (l := ixs N) (k := i) (by rw [ixs_len']; exact h)
  unfold ixs at e ⊢
  rw [List.getElem?_map, List.getElem?_range h] at e
  exact (Option.some.inj e).symm
theorem ixs_nodup (N : Nat) : (ixs N).Nodup := by
  unfold ixs
  exact List.pairwise_map.mpr ((range_lt N).imp fun {a b} h => by omega)
theorem co_app_l {a b : List Int} {i : Nat} (h : i < a.length) : co (a ++ b) i = co a i := by
  have e := co_get (l := a ++ b) (k := i) (by rw [List.length_append]; omega)
  rw [List.getElem?_append_left h, co_get h] at e
  exact (Option.some.inj e).symm
theorem co_app_r {a b : List Int} {i : Nat} (h : i < b.length) : co (a ++ b) (a.length + i) = co b i := by
  have e := co_get (l := a ++ b) (k := a.length + i) (by rw [List.length_append]; omega)
  rw [List.getElem?_append_right (by omega), show a.length + i - a.length = i by omega, co_get h] at e
  exact (Option.some.inj e).symm
theorem nodup_erase {l : List Int} (h : l.Nodup) {k : Nat} (hk : k < l.length) {y : Int} (hy : y ∈ l.eraseIdx k) : y ∈ l ∧ y ≠ co l k := by
  refine ⟨List.mem_of_mem_eraseIdx hy, fun e => ?_⟩
  obtain ⟨j, hj⟩ := List.mem_eraseIdx_iff_getElem?.mp hy
  have e2 := co_get hk
  rw [← e] at e2
  have lj := (List.getElem?_eq_some_iff.mp hj.2)
  obtain ⟨lj1, lj2⟩ := lj
  obtain ⟨lk1, lk2⟩ := List.getElem?_eq_some_iff.mp e2
  exact hj.1 ((List.getElem_inj h).mp (lj2.trans lk2.symm))
theorem mem_erase_ne {l : List Int} {k : Nat} (hk : k < l.length) {y : Int} (hy : y ∈ l) (ne : y ≠ co l k) : y ∈ l.eraseIdx k := by
  obtain ⟨j, hj, e⟩ := mem_get hy
  refine List.mem_eraseIdx_iff_getElem?.mpr ⟨j, fun c => ne ?_, ?_⟩
  · rw [← e, c]
  · rw [co_get hj, e]
/-- while marks are threaded -/
structure ThrI (n m i : Nat) (l ls : List Int) : Prop where
  len : l.length = n + m
  up : ∀ p : Nat, p < n → co l p = p
  low : ∀ j : Nat, j < m → co l (n + j) = -1 - (j : Int) ∨ (0 ≤ co l (n + j) ∧ co l (n + j) < i)
  dis : ∀ j j' : Nat, j < j' → j' < m → co l (n + j) ≠ co l (n + j')
  nd : ls.Nodup
  free : ∀ x ∈ ls, ∃ j : Nat, x = j ∧ j < m ∧ co l (n + j) = -1 - (j : Int)
  rest : ∀ j : Nat, j < m → (j : Int) ∉ ls → 0 ≤ co l (n + j)
  cap : ls.length ≤ m
structure ThrT (n m i : Nat) (l ls : List Int) : Prop where
  many : ls.length = m - i
  hit : ∀ a : Nat, a < i → ∃ j, j < m ∧ co l (n + j) = a
theorem ThrI.skip {n m i : Nat} {l ls : List Int} (h : ThrI n m i l ls) : ThrI n m (i + 1) l ls :=
  ⟨h.len, h.up, fun j hj => (h.low j hj).imp_right fun z => ⟨z.1, by omega⟩, h.dis, h.nd, h.free, h.rest, h.cap⟩
theorem thr_at {n m i : Nat} {l ls : List Int} (h : ThrI n m i l ls) {k : Nat} (hk : k < ls.length) : ∃ j : Nat, co ls k = j ∧ j < m ∧ co l (n + j) = -1 - (j : Int) := h.free _ (co_mem hk)
theorem ThrI.step {n m i : Nat} {l ls : List Int} (h : ThrI n m i l ls) {k j : Nat} (hk : k < ls.length) (hj : j < m) (ej : co ls k = j) : ThrI n m (i + 1) (l.set (n + j) (i : Int)) (ls.eraseIdx k) := by
  have hl := h.len
  have c : ∀ p : Nat, co (l.set (n + j) (i : Int)) p = if p = n + j then (i : Int) else co l p := fun p => co_set p (by omega)
  refine ⟨by rw [List.length_set]; exact hl, fun p hp => ?_, fun j' hj' => ?_, fun j1 j2 h1 h2 => ?_, h.nd.sublist (List.eraseIdx_sublist _ _), fun x hx => ?_, fun j' hj' hn => ?_, by rw [List.length_eraseIdx_of_lt hk]; have := h.cap; omega⟩
  · rw [c, if_neg (by omega)]
    exact h.up p hp
  · rw [c]
    by_cases e : j' = j
    · rw [if_pos (by omega)]
      exact .inr ⟨by omega, by omega⟩
    · rw [if_neg (by omega)]
      exact (h.low j' hj').imp_right fun z => ⟨z.1, by omega⟩
  · rw [c, c]
    have d := h.dis j1 j2 h1 h2
    have l1 := h.low j1 (by omega)
    have l2 := h.low j2 (by omega)
    by_cases e1 : j1 = j
    · rw [if_pos (by omega), if_neg (by omega)]
      omega
    · rw [if_neg (by omega)]
      by_cases e2 : j2 = j
      · rw [if_pos (by omega)]
        omega
      · rw [if_neg (by omega)]
        exact d
  · obtain ⟨hx1, hx2⟩ := nodup_erase h.nd hk hx
    obtain ⟨j', e1, e2, e3⟩ := h.free x hx1
    refine ⟨j', e1, e2, ?_⟩
    rw [c, if_neg (by omega)]
    exact e3
  · rw [c]
    by_cases e : j' = j
    · rw [if_pos (by omega)]
      omega
    · rw [if_neg (by omega)]
      exact h.rest j' hj' fun z => hn (mem_erase_ne hk z (by rw [ej]; omega))
theorem ThrT.step {n m i : Nat} {l ls : List Int} (h : ThrI n m i l ls) (t : ThrT n m i l ls) {k j : Nat} (hk : k < ls.length) (hj : j < m) (ej : co ls k = j) : ThrT n m (i + 1) (l.set (n + j) (i : Int)) (ls.eraseIdx k) := by
  have hl := h.len
  have c : ∀ p : Nat, co (l.set (n + j) (i : Int)) p = if p = n + j then (i : Int) else co l p := fun p => co_set p (by omega)
  refine ⟨by rw [List.length_eraseIdx_of_lt hk, t.many]; omega, fun a ha => ?_⟩
  by_cases e : a = i
  · exact ⟨j, hj, by rw [c, if_pos rfl, e]⟩
  · obtain ⟨j', h1, h2⟩ := t.hit a (by omega)
    refine ⟨j', h1, ?_⟩
    rw [c, if_neg]
    · exact h2
    · intro z
      obtain ⟨j3, e3, _, e4⟩ := thr_at h hk
      rw [z] at h2
      rw [ej] at e3
      have : j3 = j := by omega
      rw [this] at e4
      omega
theorem ThrI.strand {n m i : Nat} {l ls : List Int} (h : ThrI n m i l ls) : Strand n l := by
  intro p q hpq hq e
  have hl := h.len
  rcases Nat.lt_or_ge q n with c | c
  · rw [h.up p (by omega), h.up q c] at e
    omega
  · refine ⟨?_, c⟩
    rcases Nat.lt_or_ge p n with c2 | c2
    · exact c2
    · refine absurd ?_ (h.dis (p - n) (q - n) (by omega) (by omega))
      rw [show n + (p - n) = p by omega, show n + (q - n) = q by omega]
      exact e
theorem ThrI.mated {n : Nat} {l ls : List Int} (h : ThrI n n n l ls) (t : ThrT n n n l ls) : Mated l := by
  intro p hp
  have hl := h.len
  have e0 : ls = [] := List.length_eq_zero_iff.mp (by rw [t.many]; omega)
  rcases Nat.lt_or_ge p n with c | c
  · obtain ⟨j, hj, e⟩ := t.hit p c
    exact ⟨n + j, by omega, by omega, by rw [e, h.up p c]⟩
  · have r := h.rest (p - n) (by omega) (by rw [e0]; exact fun z => nomatch z)
    have lo := h.low (p - n) (by omega)
    rw [show n + (p - n) = p by omega] at r lo
    refine ⟨(co l p).toNat, by omega, by omega, ?_⟩
    rw [h.up _ (by omega)]
    omega
/-- while marks are paired -/
structure PrI (lone : Bool) (N i : Nat) (l ls : List Int) : Prop where
  len : l.length = N
  nd : ls.Nodup
  free : ∀ x ∈ ls, ∃ p : Nat, x = p ∧ p < N ∧ co l p = x ∧ l.count x = 1
  rest : ∀ v, v ∉ ls → l.count v = 0 ∨ l.count v = 2 ∨ (lone = true ∧ l.count v = 1)
  many : lone = false → ls.length + 2 * i = N
  cap : ls.length ≤ N
theorem count_ixs {N : Nat} {x : Int} (h : x ∈ ixs N) : (ixs N).count x = 1 := (ixs_nodup N).count.trans (if_pos h)
theorem PrI.start (lone : Bool) (N : Nat) : PrI lone N 0 (ixs N) (ixs N) :=
  ⟨ixs_len' N, ixs_nodup N, fun x hx => ⟨x.toNat, by have := mem_ixs.mp hx; omega, by have := mem_ixs.mp hx; omega, by have := mem_ixs.mp hx; rw [co_ixs (by omega)]; omega, count_ixs hx⟩, fun v hv => .inl (List.count_eq_zero.mpr hv), fun _ => ixs_len' N, Nat.le_of_eq (ixs_len' N)⟩
theorem PrI.step {lone : Bool} {N i : Nat} {l ls : List Int} {one : Int} (h : PrI lone N i l (one :: ls)) {k p : Nat} (hk : k < ls.length) (hp : p < N) (ep : co ls k = p) : PrI lone N (i + 1) (l.set p one) (ls.eraseIdx k) := by
  obtain ⟨n1, n2⟩ := List.nodup_cons.mp h.nd
  have mx := co_mem hk
  obtain ⟨p', e1, e2, e3, e4⟩ := h.free (co ls k) (List.mem_cons_of_mem _ mx)
  obtain rfl : p' = p := by omega
  have hl := h.len
  have nx : one ≠ co ls k := fun z => n1 (z ▸ mx)
  obtain ⟨po, o1, o2, o3, o4⟩ := h.free one List.mem_cons_self
  have g : l[p']'(by omega) = co ls k := by
    have := co_get (l := l) (k := p') (by omega)
    rw [List.getElem?_eq_getElem (by omega)] at this
    rw [Option.some.inj this, e3]
  have cs : ∀ b, (l.set p' one).count b = l.count b - (if co ls k = b then 1 else 0) + (if one = b then 1 else 0) := by
    intro b
    rw [List.count_set (by omega), g]
    simp only [beq_iff_eq]
  refine ⟨by rw [List.length_set]; exact hl, n2.sublist (List.eraseIdx_sublist _ _), fun y hy => ?_, fun v hv => ?_, fun e => ?_, by have := h.cap; rw [List.length_cons] at this; rw [List.length_eraseIdx_of_lt hk]; omega⟩
  · obtain ⟨h1, h2⟩ := nodup_erase n2 hk hy
    obtain ⟨q, f1, f2, f3, f4⟩ := h.free y (List.mem_cons_of_mem _ h1)
    refine ⟨q, f1, f2, ?_, ?_⟩
    · rw [co_set q (by omega), if_neg (by omega)]
      exact f3
    · rw [cs, if_neg (Ne.symm h2), if_neg (show ¬ one = y from fun z => n1 (z ▸ h1))]
      exact f4
  · rw [cs]
    by_cases c1 : one = v
    · rw [if_pos c1, if_neg fun z => nx (c1.trans z.symm), ← c1, o4]
      exact .inr (.inl rfl)
    · rw [if_neg c1]
      by_cases c2 : co ls k = v
      · rw [if_pos c2, ← c2, e4]
        exact .inl rfl
      · rw [if_neg c2]
        exact h.rest v fun z => by
          rcases List.mem_cons.mp z with z | z
          · exact c1 z.symm
          · exact hv (mem_erase_ne hk z (Ne.symm c2))
  · have := h.many e
    rw [List.length_cons] at this
    rw [List.length_eraseIdx_of_lt hk]
    omega
theorem PrI.skip {N i : Nat} {l ls : List Int} {one : Int} (h : PrI true N i l (one :: ls)) : PrI true N (i + 1) l ls := by
  obtain ⟨n1, n2⟩ := List.nodup_cons.mp h.nd
  refine ⟨h.len, n2, fun y hy => h.free y (List.mem_cons_of_mem _ hy), fun v hv => ?_, (fun e => nomatch e), by have := h.cap; rw [List.length_cons] at this; omega⟩
  by_cases c : v = one
  · obtain ⟨_, _, _, _, e⟩ := h.free one List.mem_cons_self
    exact .inr (.inr ⟨rfl, c ▸ e⟩)
  · exact h.rest v fun z => (List.mem_cons.mp z).elim c hv
theorem PrI.two {N i : Nat} {l ls : List Int} (h : PrI false N i l ls) (e : ls.length < 2 ∨ i = N) (hN : N % 2 = 0) (v : Int) : l.count v = 0 ∨ l.count v = 2 := by
  have m := h.many rfl
  have e0 : ls = [] := List.length_eq_zero_iff.mp (by omega)
  rcases h.rest v (by rw [e0]; exact fun z => nomatch z) with h | h | h
  · exact .inl h
  · exact .inr h
  · exact nomatch h.1
theorem PrI.most {lone : Bool} {N i : Nat} {l ls : List Int} (h : PrI lone N i l ls) (v : Int) : l.count v ≤ 2 := by
  by_cases c : v ∈ ls
  · obtain ⟨_, _, _, _, e⟩ := h.free v c
    omega
  · rcases h.rest v c with h | h | h <;> omega
/-- two marks joined -/
def jn (l : List Int) (x y : Nat) : List Int := l.map fun c => if c = (if co l y > co l x then co l y else co l x) then (if co l y < co l x then co l y else co l x) else c
theorem jn_len (l : List Int) (x y : Nat) : (jn l x y).length = l.length := List.length_map ..
theorem count_merge (lo hi v : Int) : ∀ l : List Int, (l.map fun c => if c = hi then lo else c).count v = if v = lo then l.count lo + (if hi = lo then 0 else l.count hi) else if v = hi then 0 else l.count v
  | [] => by simp
  | a :: l => by
    rw [List.map_cons, List.count_cons, count_merge lo hi v l, List.count_cons, List.count_cons, List.count_cons]
    simp only [beq_iff_eq]
    by_cases c1 : v = lo
    · subst c1
      rw [if_pos rfl, if_pos rfl]
      by_cases c2 : hi = v
      · subst c2
        rw [if_pos rfl, if_pos rfl]
        by_cases c3 : a = hi <;> simp [c3]
      · rw [if_neg c2, if_neg c2]
        by_cases c3 : a = hi
        · subst c3
          rw [if_pos rfl, if_pos rfl, if_neg c2]
          simp
          omega
        · rw [if_neg c3]
          by_cases c4 : a = v
          · simp [c4]
            rw [if_neg (fun z => c3 (c4.trans z))]
            omega
          · simp [c4, c3]
    · rw [if_neg c1, if_neg c1]
      by_cases c2 : v = hi
      · subst c2
        rw [if_pos rfl, if_pos rfl]
        by_cases c3 : a = v
        · rw [if_pos c3, if_neg (Ne.symm c1)]
        · rw [if_neg c3, if_neg c3]
      · rw [if_neg c2, if_neg c2]
        by_cases c3 : a = hi
        · rw [if_pos c3, if_neg (Ne.symm c1), if_neg]
          intro z
          exact c2 (z.symm.trans c3)
        · rw [if_neg c3]
theorem jn_even {l : List Int} {x y : Nat} (h : ∀ v, l.count v % 2 = 0) (v : Int) : (jn l x y).count v % 2 = 0 := by
  unfold jn
  rw [count_merge]
  have h1 := h (if co l y < co l x then co l y else co l x)
  have h2 := h (if co l y > co l x then co l y else co l x)
  have h3 := h v
  revert h1 h2
  generalize (if co l y < co l x then co l y else co l x) = lo
  generalize (if co l y > co l x then co l y else co l x) = hi
  intro h1 h2
  by_cases c1 : v = lo
  · rw [if_pos c1]
    by_cases c2 : hi = lo
    · rw [if_pos c2]
      omega
    · rw [if_neg c2]
      omega
  · rw [if_neg c1]
    by_cases c2 : v = hi
    · rw [if_pos c2]
    · rw [if_neg c2]
      exact h3

/-! ### tuples of tuples, put together and cut -/
theorem paired_drop {α β : Type} {F : α → β → Prop} : ∀ {l : List α} {m : List β} (i : Nat), Paired F l m → Paired F (l.drop i) (m.drop i)
  | _, _, 0, h => h
  | _, _, _ + 1, .nil => .nil
  | _, _, i + 1, .cons _ h => paired_drop i h
theorem paired_take {α β : Type} {F : α → β → Prop} : ∀ {l : List α} {m : List β} (i : Nat), Paired F l m → Paired F (l.take i) (m.take i)
  | _, _, 0, _ => .nil
  | _, _, _ + 1, .nil => .nil
  | _, _, i + 1, .cons a h => .cons a (paired_take i h)
theorem paired_app {α β : Type} {F : α → β → Prop} : ∀ {l l' : List α} {m m' : List β}, Paired F l m → Paired F l' m' → Paired F (l ++ l') (m ++ m')
  | _, _, _, _, .nil, h => h
  | _, _, _, _, .cons a h, h' => .cons a (paired_app h h')
theorem paired_rev {α β : Type} {F : α → β → Prop} : ∀ {l : List α} {m : List β}, Paired F l m → Paired F l.reverse m.reverse
  | _, _, .nil => .nil
  | _, _, .cons a h => by
    rw [List.reverse_cons, List.reverse_cons]
    exact paired_app (paired_rev h) (.cons a .nil)
def cutL {α : Type} (xs : List α) (lo hi : Option Int) : List α := (xs.drop (HT.sIx xs.length 0 lo)).take (HT.sIx xs.length xs.length hi - HT.sIx xs.length 0 lo)
theorem sIx_all (n : Nat) (h : HT.sIx n 0 none = 0 ∧ HT.sIx n n none = n) : True := trivial
def rCatTT : R2 := fun x y H Q => ∃ bs cs, TT H x bs ∧ TT H y cs ∧ bs.length + cs.length ≤ sizeLine ∧ ∀ v H', Same H H' → TT H' v (bs ++ cs) → Q v H'
theorem op_catTT {X : Cx} : OpR X (binaryOp .Add) rCatTT := by
  intro pins s σ H x y v u Q I rx ry h
  obtain ⟨bs, cs, ⟨a, ts, rfl, ha, pa⟩, ⟨b, us, rfl, hb, pb⟩, hz, q⟩ := h
  have la : ts.length = bs.length := pa.length
  have lb : us.length = cs.length := pb.length
  refine op_catA pins s σ H _ _ v u Q I rx ry ⟨a, b, ts, us, rfl, rfl, .inl (.inl ha), .inl (.inl hb), by omega, fun e => ?_, fun _ e => ?_, fun _ _ p np => ?_⟩
  · refine q _ H (Same.refl _) ⟨b, us, rfl, hb, ?_⟩
    subst e
    cases pa
    exact pb
  · refine q _ H (Same.refl _) ⟨a, ts, rfl, ha, ?_⟩
    subst e
    cases pb
    rw [List.append_nil]
    exact pa
  · have s1 := same_upd (o := .tup (ts ++ us)) np
    exact q _ _ s1 ⟨p, _, rfl, upd_same, paired_app (Paired.mapP pa fun _ _ h => h.same s1) (Paired.mapP pb fun _ _ h => h.same s1)⟩
def rSlTT : V → Option Int → Option Int → Hp → VK → Prop := fun x lo hi H Q => ∃ bs, TT H x bs ∧ ∀ v H', Same H H' → TT H' v (cutL bs lo hi) → Q v H'
theorem sl_TT {X : Cx} : SlR X rSlTT := by
  intro pins s σ H x v vl vu lo hi sl Q I rx hs pl pu h
  obtain ⟨bs, ⟨a, ts, rfl, ha, pa⟩, q⟩ := h
  have la : ts.length = bs.length := pa.length
  refine sl_tupA pins s σ H _ v vl vu lo hi sl Q I rx hs pl pu ⟨a, ts, rfl, .inl (.inl ha), fun e => ?_, fun _ p np => ?_⟩
  · refine q _ H (Same.refl _) ⟨a, ts, rfl, ha, ?_⟩
    unfold cutL
    rw [← la, e.1, e.2, la]
    show Paired (TP H) ts ((bs.drop 0).take (bs.length - 0))
    rw [List.drop_zero, Nat.sub_zero, List.take_length]
    exact pa
  · have s1 := same_upd (o := .tup (cutV ts lo hi)) np
    refine q _ _ s1 ⟨p, _, rfl, upd_same, ?_⟩
    unfold cutL cutV
    rw [← la]
    exact paired_take _ (paired_drop _ (Paired.mapP pa fun _ _ h => h.same s1))
theorem flat_le {c : Nat} : ∀ {bs : List (List Int)}, (∀ b ∈ bs, b.length ≤ c) → bs.flatten.length ≤ c * bs.length
  | [], _ => Nat.zero_le _
  | b :: bs, h => by
    rw [List.flatten_cons, List.length_append, List.length_cons, Nat.mul_succ]
    have := flat_le (bs := bs) fun b hb => h b (List.mem_cons_of_mem _ hb)
    have := h b List.mem_cons_self
    omega
theorem len_flat : ∀ {bs : List (List Int)}, (∀ b ∈ bs, b ≠ []) → bs.length ≤ bs.flatten.length
  | [], _ => Nat.le_refl _
  | b :: bs, h => by
    rw [List.flatten_cons, List.length_append, List.length_cons]
    have := len_flat (bs := bs) fun b hb => h b (List.mem_cons_of_mem _ hb)
    have := List.length_pos_iff.mpr (h b List.mem_cons_self)
    omega
/-- few blocks, each of few points -/
def Few (c : Nat) (bs : List (List Int)) : Prop := bs.length ≤ c ∧ ∀ b ∈ bs, b.length ≤ 13
theorem Few.ok {n m : Int} {bs : List (List Int)} (h : Few 40 bs) (hn : n.natAbs ≤ 1000) (hm : m.natAbs ≤ 1000) : DgOk n m bs := by
  have := flat_le h.2
  exact ⟨hn, hm, by have := h.1; omega, by have := h.1; omega⟩
theorem Few.cut {c : Nat} {bs : List (List Int)} (h : Few c bs) (i j : Nat) : Few c ((bs.drop i).take j) :=
  ⟨by have := h.1; rw [List.length_take, List.length_drop]; omega, fun b hb => h.2 b (List.mem_of_mem_drop (List.mem_of_mem_take hb))⟩
theorem Few.app {c d : Nat} {bs cs : List (List Int)} (h : Few c bs) (g : Few d cs) : Few (c + d) (bs ++ cs) :=
  ⟨by have := h.1; have := g.1; rw [List.length_append]; omega, fun b hb => (List.mem_append.mp hb).elim (h.2 b) (g.2 b)⟩
theorem Few.more {c d : Nat} {bs : List (List Int)} (h : Few c bs) (hd : c ≤ d) : Few d bs := ⟨Nat.le_trans h.1 hd, h.2⟩
theorem IsDg.few {n m : Int} {bs : List (List Int)} (h : IsDg n m bs) : Few 12 bs := by
  have hs := siz_iff.mp h.sz
  have e := h.pm.length_eq
  rw [ixs_len] at e
  have l1 := len_flat h.ne
  refine ⟨by omega, fun b hb => ?_⟩
  have := mem_len hb
  omega

def fams : List Str := ["threads", "loose", "pairs", "lonepairs", "even", "parts"]

/-! ### families -/
def strandB (n : Int) (b : List Int) : Bool := decide (b.length = 2) && decide (co b 0 < n ∧ n ≤ co b 1)
def sizeOk (z : Str) (k : Nat) : Bool := if z = "pairs" then decide (k = 2) else if z = "lonepairs" then decide (k ≤ 2) else if z = "even" then decide (k % 2 = 0) else true
def blockOk (z : Str) (n : Int) (b : List Int) : Bool := if z = "threads" then strandB n b else if z = "loose" then decide (b.length = 1) || strandB n b else sizeOk z b.length
def inFam (z : Str) (n : Int) (bs : List (List Int)) : Bool := bs.all (blockOk z n)
theorem inV_str (z : Str) : ∀ l : List Str, inV (.str z) (l.map V.str) = decide (z ∈ l)
  | [] => rfl
  | x :: l => by
    show (eqV (.str x) (.str z) || inV (.str z) (l.map V.str)) = _
    rw [inV_str z l]
    have e : eqV (.str x) (.str z) = decide (x = z) := by
      by_cases c : x = z <;> simp [eqV, c]
    rw [e]
    by_cases c : x = z
    · rw [decide_eq_true c, decide_eq_true (List.mem_cons.mpr (.inl c.symm))]
      rfl
    · rw [decide_eq_false c, Bool.false_or]
      refine decide_eq_decide.mpr ⟨fun z => List.mem_cons_of_mem _ z, fun z => (List.mem_cons.mp z).resolve_left fun z => c z.symm⟩
theorem dec_int {k : Nat} {c : Nat} : decide (V.int (k : Int) = V.int (c : Int)) = decide (k = c) := decide_eq_decide.mpr ⟨fun h => by have := V.int.inj h; omega, fun h => by rw [h]⟩
section
variable {P : Program} {w : World} {K : PySem.W.Frag} {mg : Str → Option Value} {base : Heap}
def spCheckFamily (CF : Addr) : Sp := fun vs H Q E => ∃ z : Str, vs = [.str z] ∧ (z ∈ fams → Q .non H) ∧ (z ∉ fams → E (.ref CF) none H)
theorem ok_check_family {f CF aF : Addr} {fd : FuncData} (F : Fun K "check_family" "check_family" s_check_family f fd) (T : ErrC K mg "NotFamily" CF) (m_FAMILIES : mg "FAMILIES" = some (.ref aF)) (tF : ∀ H, SqT K H aF (fams.map V.str)) :
    FnOk P w K mg base (L2N.CX P w) 1 f fd ["family"] (spCheckFamily CF) := by
  obtain ⟨gc_NotFamily, x_NotFamily, kc_NotFamily, bc_NotFamily, tc_NotFamily⟩ := T
  have r_FAMILIES : RelV (.ref aF) (.ref aF) := rfl
  refine F.okXN sc_check_family (fun vs H Q E h => ?_) (fun cdv A outer s H vs Q E hr h => ?_)
  · obtain ⟨z, rfl, _⟩ := h
    rfl
  · obtain ⟨z, rfl, q1, q2⟩ := h
    refine ⟨_, (pss_one (ps_if (pt_cmpR op_notIn_seq (pv 0) (pe_glob rfl m_FAMILIES r_FAMILIES) (by with_unfolding_all rfl)) (pss_one (L2N.ps_raise rfl (L2N.takes_of rfl rfl rfl rfl) (L2N.pmk_own PySem.F.excBase_ValueError x_NotFamily gc_NotFamily kc_NotFamily (raises_own bc_NotFamily tc_NotFamily) rfl))) pss_nil)), ?_⟩
    refine ⟨_, rfl, aF, _, rfl, .inr (tF _), rfl, rfl, _, rfl, ?_⟩
    rw [show (if true = true then !inV (.str z) (fams.map V.str) else inV (.str z) (fams.map V.str)) = !inV (.str z) (fams.map V.str) from rfl, inV_str]
    by_cases c : z ∈ fams
    · rw [decide_eq_true c]
      exact iteF (q1 c)
    · rw [decide_eq_false c]
      exact iteT (q2 c)
end

theorem TP.butL {H H' : Hp} {r : Addr} {ys : List V} {v : V} {z : List Int} (hr : H r = some (.lst ys)) (s : SameBut r H H') (h : TP H v z) : TP H' v z := by
  obtain ⟨a, rfl, h⟩ := h
  exact ⟨a, rfl, s _ _ (ne_of h hr (fun z => nomatch z)) h⟩
theorem TT.butL {H H' : Hp} {r : Addr} {ys : List V} {v : V} {bs : List (List Int)} (hr : H r = some (.lst ys)) (s : SameBut r H H') (h : TT H v bs) : TT H' v bs := by
  obtain ⟨a, ts, rfl, h, pr⟩ := h
  exact ⟨a, ts, rfl, s _ _ (ne_of h hr (fun z => nomatch z)) h, Paired.mapP pr fun _ _ h => h.butL hr s⟩
theorem DGv.butL {H H' : Hp} {r : Addr} {ys : List V} {v : V} {n m : Int} {bs : List (List Int)} (hr : H r = some (.lst ys)) (s : SameBut r H H') (h : DGv H v n m bs) : DGv H' v n m bs := by
  obtain ⟨t, vb, rfl, h, tt⟩ := h
  exact ⟨t, vb, rfl, s _ _ (ne_of h hr (fun z => nomatch z)) h, tt.butL hr s⟩
/-- a diagram with these marks -/
def DgAt (H : Hp) (u : V) (n m : Int) (l : List Int) : Prop := DGv H u n m (blocksOf l) ∧ siz n m = true ∧ (l.length : Int) = n + m
theorem DgAt.dg {H : Hp} {u : V} {n m : Int} {l : List Int} (h : DgAt H u n m l) : IsDg n m (blocksOf l) := isDg_blocks h.2.1 h.2.2
theorem DgAt.ok {H : Hp} {u : V} {n m : Int} {l : List Int} (h : DgAt H u n m l) : DgOk n m (blocksOf l) := by
  have := siz_iff.mp h.2.1
  exact (h.dg.few.more (by decide)).ok (by omega) (by omega)
theorem DgAt.same {H H' : Hp} {u : V} {n m : Int} {l : List Int} (s : Same H H') (h : DgAt H u n m l) : DgAt H' u n m l := ⟨h.1.same s, h.2⟩
theorem DgAt.butL {H H' : Hp} {r : Addr} {ys : List V} {u : V} {n m : Int} {l : List Int} (hr : H r = some (.lst ys)) (s : SameBut r H H') (h : DgAt H u n m l) : DgAt H' u n m l := ⟨h.1.butL hr s, h.2⟩
theorem DgAt.ix {H : Hp} {t : Addr} {n m : Int} {l : List Int} (h : DgAt H (.ref t) n m l) : ∃ vb, H t = some (.tup [.int n, .int m, vb]) := by
  obtain ⟨⟨t', vb, e, h, _⟩, _⟩ := h
  obtain rfl := V.ref.inj e
  exact ⟨vb, h⟩
/-- the answer of a comparison is not computed -/
theorem bl_ex {b : Bool} {R : Bool → Prop} (h : R b) : ∃ k, V.bl b = V.bl k ∧ R k := ⟨b, rfl, h⟩
theorem smL_dL {z : List Int} {B : Nat} (h : ∀ x ∈ z, x.natAbs < 2 ^ 200) (hB : z.length ≤ B) : SmL 1 (1923 * B + 3) (dL z) := by
  have e := smL_list (ds := z.map PyData.int) (n := 0) (k := 1921) fun D hD => by
    obtain ⟨a, ha, rfl⟩ := List.mem_map.mp hD
    exact smL_int (h a ha)
  rw [List.length_map] at e
  exact e.more (by show 1923 * z.length + 3 ≤ 1923 * B + 3; omega)
theorem labL_mem {bs : List (List Int)} {N : Nat} : ∀ x ∈ labL bs N, 0 ≤ x ∧ x ≤ (bs.length : Int) := by
  have run : ∀ (bs : List (List Int)) (k : Nat) (ms : List Int) (B : Int), ((k + bs.length : Nat) : Int) ≤ B → (∀ x ∈ ms, 0 ≤ x ∧ x ≤ B) → ∀ x ∈ labFrom bs k ms, 0 ≤ x ∧ x ≤ B := by
    intro bs
    induction bs with
    | nil => exact fun _ _ _ _ h => h
    | cons b bs ih =>
      intro k ms B hk h
      rw [List.length_cons] at hk
      refine ih (k + 1) _ B (by omega) ?_
      clear ih
      induction b generalizing ms with
      | nil => exact h
      | cons p b ih2 =>
        refine ih2 _ fun x hx => ?_
        rcases List.mem_or_eq_of_mem_set hx with hx | rfl
        · exact h x hx
        · omega
  exact run bs 0 _ _ (by omega) fun x hx => by
    have := List.eq_of_mem_replicate hx
    omega
theorem smL_lab {n m : Int} {bs : List (List Int)} (h : IsDg n m bs) : SmL 1 25000 (dL (labL bs (n + m).toNat)) := by
  have hs := siz_iff.mp h.sz
  have f := h.few.1
  refine (smL_dL (B := 12) (fun x hx => ?_) (by rw [labL_len]; omega)).more (by decide)
  have := labL_mem x hx
  have : (12 : Nat) < 2 ^ 200 := by decide
  omega
theorem smL_dg {n m : Int} {bs : List (List Int)} (h : IsDg n m bs) : SmL 3 1000000 (dDG n m bs) := by
  have hs := siz_iff.mp h.sz
  have f := h.few
  have big : (12 : Nat) < 2 ^ 200 := by decide
  have e1 := smL_tuple (n := 1) (k := 25002) (ds := bs.map dT) fun D hD => by
    obtain ⟨b, hb, rfl⟩ := List.mem_map.mp hD
    refine (dT_small (z := b) fun k => ?_).more (by have := f.2 b hb; omega)
    rcases Nat.lt_or_ge k b.length with c | c
    · have := dg_pt h hb (co_mem c)
      omega
    · rw [co_ge c]
      decide
  rw [List.length_map] at e1
  have e1 : SmL 2 310000 (dTT bs) := e1.more (by have := f.1; omega)
  have e2 := smL_tuple (n := 2) (k := 310000) (ds := [.int n, .int m, dTT bs]) fun D hD => by
    have up : ∀ {x : Int}, x.natAbs < 2 ^ 200 → SmL 2 310000 (.int x) := fun hx => by
      obtain ⟨h1, h2, h3, h4⟩ := smL_int hx
      exact ⟨h1, Nat.le_trans h2 (by decide), h3, Nat.le_trans h4 (by decide)⟩
    rcases List.mem_cons.mp hD with rfl | hD
    · exact up (by omega)
    · rcases List.mem_cons.mp hD with rfl | hD
      · exact up (by omega)
      · rw [List.mem_singleton.mp hD]
        exact e1
  exact e2.more (by show (310000 + 2) * 3 + 3 ≤ 1000000; decide)
theorem few_pow {x : Int} (h : 0 ≤ x ∧ x ≤ 1000) : x.natAbs < 2 ^ 64 := by
  have : (1000 : Nat) < 2 ^ 64 := by decide
  omega

/-! ### slices of lists of integers -/
theorem cutI {l : List Int} (lo hi : Option Int) : cutV (l.map V.int) lo hi = ((l.drop (HT.sIx l.length 0 lo)).take (HT.sIx l.length l.length hi - HT.sIx l.length 0 lo)).map V.int := by
  unfold cutV
  rw [List.length_map, ← List.map_drop, ← List.map_take]
theorem cutI_to {l : List Int} {b : Int} (h0 : 0 ≤ b) (h : b ≤ l.length) : cutV (l.map V.int) none (some b) = (l.take b.toNat).map V.int := by
  obtain ⟨k, rfl⟩ := Int.eq_ofNat_of_zero_le h0
  rw [cutI, HT.sIx_none, HT.sIx_nat, Nat.min_eq_left (by omega), List.drop_zero, Nat.sub_zero]
  rfl
theorem cutI_from {l : List Int} {a : Int} (h0 : 0 ≤ a) (h : a ≤ l.length) : cutV (l.map V.int) (some a) none = (l.drop a.toNat).map V.int := by
  obtain ⟨k, rfl⟩ := Int.eq_ofNat_of_zero_le h0
  rw [cutI, HT.sIx_none, HT.sIx_nat, Nat.min_eq_left (by omega)]
  show ((l.drop k).take (l.length - k)).map V.int = (l.drop k).map V.int
  rw [← List.length_drop, List.take_length]
theorem cutI_mid {l : List Int} {a b : Int} (h0 : 0 ≤ a) (h1 : a ≤ b) (h : b ≤ l.length) : cutV (l.map V.int) (some a) (some b) = ((l.drop a.toNat).take (b.toNat - a.toNat)).map V.int := by
  obtain ⟨k, rfl⟩ := Int.eq_ofNat_of_zero_le h0
  obtain ⟨j, rfl⟩ := Int.eq_ofNat_of_zero_le (show 0 ≤ b by omega)
  rw [cutI, HT.sIx_nat, HT.sIx_nat, Nat.min_eq_left (by omega), Nat.min_eq_left (by omega)]
  rfl
theorem sIx_neg1 (n d : Nat) : HT.sIx n d (some (-1)) = n - 1 := by
  show (if (-1 : Int) < 0 then ((-1 : Int) + (n : Int)).toNat else min (-1 : Int).toNat n) = n - 1
  rw [if_pos (by decide)]
  omega
theorem cutI_last {l : List Int} : cutV (l.map V.int) (some (-1)) none = (l.drop (l.length - 1)).map V.int := by
  rw [cutI, HT.sIx_none, sIx_neg1]
  rw [← List.length_drop, List.take_length]
theorem cutI_but {l : List Int} {a : Int} (h0 : 0 ≤ a) (h : a ≤ l.length) : cutV (l.map V.int) (some a) (some (-1)) = ((l.drop a.toNat).take (l.length - 1 - a.toNat)).map V.int := by
  obtain ⟨k, rfl⟩ := Int.eq_ofNat_of_zero_le h0
  rw [cutI, HT.sIx_nat, sIx_neg1, Nat.min_eq_left (by omega)]
  rfl
/-- the labels of a diagram stand for the marks -/
theorem labs_map {n m : Int} {l : List Int} (hl : (l.length : Int) = n + m) : ∃ g : Int → Int, labL (blocksOf l) (n + m).toNat = l.map g ∧ ∀ x ∈ l, ∀ y ∈ l, g x = g y → x = y := by
  refine ⟨fun v => (((seenL [] l).idxOf v : Nat) : Int), ?_, fun x hx y hy h => idx_inj ((seenL_mem l [] x).mpr (.inr hx)) ((seenL_mem l [] y).mpr (.inr hy)) h⟩
  rw [show (n + m).toNat = l.length by omega]
  exact labL_marks l
/-- a choice of marks by their places -/
theorem blocks_sel {n m : Int} {l : List Int} (hl : (l.length : Int) = n + m) {sel : List Int → List Int} (hm : ∀ (g : Int → Int) (z : List Int), sel (z.map g) = (sel z).map g) (hs : ∀ x ∈ sel l, x ∈ l) : blocksOf (sel (labL (blocksOf l) (n + m).toNat)) = blocksOf (sel l) := by
  obtain ⟨g, e, inj⟩ := labs_map hl
  rw [e, hm]
  exact blocksOf_map fun x hx y hy h => inj x (hs x hx) y (hs y hy) h

/-! ### what is joined by links -/
inductive Conn (E : Nat → Nat → Prop) : Nat → Nat → Prop
  | rf (i : Nat) : Conn E i i
  | ed {i j : Nat} : E i j → Conn E i j
  | sy {i j : Nat} : Conn E i j → Conn E j i
  | tr {i j k : Nat} : Conn E i j → Conn E j k → Conn E i k
theorem Conn.map {E F : Nat → Nat → Prop} {f : Nat → Nat} (h : ∀ i j, E i j → Conn F (f i) (f j)) {i j : Nat} (c : Conn E i j) : Conn F (f i) (f j) := by
  induction c with
  | rf i => exact .rf _
  | ed e => exact h _ _ e
  | sy _ ih => exact .sy ih
  | tr _ _ a b => exact .tr a b
theorem Conn.mono {E F : Nat → Nat → Prop} (h : ∀ i j, E i j → Conn F i j) {i j : Nat} (c : Conn E i j) : Conn F i j := Conn.map (f := id) h c
/-- what all links keep -/
theorem Conn.keep {α : Type} {E : Nat → Nat → Prop} {g : Nat → α} (h : ∀ i j, E i j → g i = g j) {i j : Nat} (c : Conn E i j) : g i = g j := by
  induction c with
  | rf i => rfl
  | ed e => exact h _ _ e
  | sy _ ih => exact ih.symm
  | tr _ _ a b => exact a.trans b
def Bd (N : Nat) (E : Nat → Nat → Prop) : Prop := ∀ i j, E i j → i < N ∧ j < N
theorem Conn.bd {N : Nat} {E : Nat → Nat → Prop} (b : Bd N E) {i j : Nat} (c : Conn E i j) : i < N ↔ j < N := by
  induction c with
  | rf i => exact Iff.rfl
  | ed e => exact ⟨fun _ => (b _ _ e).2, fun _ => (b _ _ e).1⟩
  | sy _ ih => exact ih.symm
  | tr _ _ x y => exact x.trans y
/-- two have one mark exactly if they are joined -/
structure Ks (N : Nat) (l : List Int) (E : Nat → Nat → Prop) : Prop where
  len : l.length = N
  bd : Bd N E
  eq : ∀ i j, i < N → j < N → (co l i = co l j ↔ Conn E i j)
theorem Ks.congr {N : Nat} {l : List Int} {E F : Nat → Nat → Prop} (k : Ks N l E) (b : Bd N F) (h1 : ∀ i j, E i j → Conn F i j) (h2 : ∀ i j, F i j → Conn E i j) : Ks N l F :=
  ⟨k.len, b, fun i j hi hj => (k.eq i j hi hj).trans ⟨Conn.mono h1, Conn.mono h2⟩⟩
theorem ks_start (N : Nat) : Ks N (ixs N) fun _ _ => False := ⟨ixs_len' N, fun _ _ h => h.elim, fun i j hi hj => by
  rw [co_ixs hi, co_ixs hj]
  exact ⟨fun h => by rw [Int.ofNat.inj h]; exact .rf _, fun c => by rw [Conn.keep (g := fun i => i) (fun _ _ h => h.elim) c]⟩⟩
theorem ks_marks (l : List Int) : Ks l.length l fun i j => i < l.length ∧ j < l.length ∧ co l i = co l j :=
  ⟨rfl, fun _ _ h => ⟨h.1, h.2.1⟩, fun i j hi hj => ⟨fun h => .ed ⟨hi, hj, h⟩, fun c => Conn.keep (fun _ _ h => h.2.2) c⟩⟩
/-- two marks become one -/
theorem Ks.step {N : Nat} {l l' : List Int} {E : Nat → Nat → Prop} {x y : Nat} {u v : Int} (k : Ks N l E) (hx : x < N) (hy : y < N) (hl : l'.length = N)
    (uv : (u = co l y ∧ v = co l x) ∨ (u = co l x ∧ v = co l y)) (h : ∀ i, i < N → co l' i = if co l i = u then v else co l i) : Ks N l' fun i j => E i j ∨ (i = x ∧ j = y) := by
  have b : Bd N fun i j => E i j ∨ (i = x ∧ j = y) := fun i j h => h.elim (k.bd i j) fun ⟨e1, e2⟩ => by rw [e1, e2]; exact ⟨hx, hy⟩
  have up : ∀ {i j}, Conn E i j → Conn (fun i j => E i j ∨ (i = x ∧ j = y)) i j := fun c => c.mono fun _ _ h => .ed (.inl h)
  have xy : Conn (fun i j => E i j ∨ (i = x ∧ j = y)) x y := .ed (.inr ⟨rfl, rfl⟩)
  -- what has the mark u is joined to what has the mark v
  have uvc : ∀ i j, i < N → j < N → co l i = u → co l j = v → Conn (fun i j => E i j ∨ (i = x ∧ j = y)) i j := fun i j hi hj e1 e2 => by
    rcases uv with ⟨a, b⟩ | ⟨a, b⟩
    · have c1 := (k.eq i y hi hy).mp (by rw [e1, a])
      have c2 := (k.eq j x hj hx).mp (by rw [e2, b])
      exact (up c1).tr (xy.sy.tr (up c2).sy)
    · have c1 := (k.eq i x hi hx).mp (by rw [e1, a])
      have c2 := (k.eq j y hj hy).mp (by rw [e2, b])
      exact (up c1).tr (xy.tr (up c2).sy)
  refine ⟨hl, b, fun i j hi hj => ⟨fun e => ?_, fun c => ?_⟩⟩
  · rw [h i hi, h j hj] at e
    by_cases c1 : co l i = u
    · by_cases c2 : co l j = u
      · exact up ((k.eq i j hi hj).mp (c1.trans c2.symm))
      · rw [if_pos c1, if_neg c2] at e
        exact uvc i j hi hj c1 e.symm
    · by_cases c2 : co l j = u
      · rw [if_neg c1, if_pos c2] at e
        exact (uvc j i hj hi c2 e).sy
      · rw [if_neg c1, if_neg c2] at e
        exact up ((k.eq i j hi hj).mp e)
  · have one : ∀ i j, i < N → j < N → co l i = co l j → co l' i = co l' j := fun i j hi hj e => by rw [h i hi, h j hj, e]
    have both : co l' x = v ∧ co l' y = v := by
      rw [h x hx, h y hy]
      rcases uv with ⟨a, b⟩ | ⟨a, b⟩
      · rw [if_pos a.symm]
        refine ⟨?_, rfl⟩
        by_cases c : co l x = u
        · rw [if_pos c]
        · rw [if_neg c, b]
      · rw [if_pos a.symm]
        refine ⟨rfl, ?_⟩
        by_cases c : co l y = u
        · rw [if_pos c]
        · rw [if_neg c, b]
    have run : ∀ {i j}, Conn (fun i j => E i j ∨ (i = x ∧ j = y)) i j → i < N → co l' i = co l' j := fun {i j} c => by
      induction c with
      | rf i => exact fun _ => rfl
      | ed e =>
        intro hi
        rcases e with e | ⟨rfl, rfl⟩
        · have := k.bd _ _ e
          exact one _ _ this.1 this.2 ((k.eq _ _ this.1 this.2).mpr (.ed e))
        · exact both.1.trans both.2.symm
      | sy c ih => exact fun hi => (ih ((c.bd b).mpr hi)).symm
      | tr c _ ih1 ih2 => exact fun hi => (ih1 hi).trans (ih2 ((c.bd b).mp hi))
    exact run c hi
theorem co_map_lt {f : Int → Int} {l : List Int} {i : Nat} (h : i < l.length) : co (l.map f) i = f (co l i) := co_mapI f l h
/-- the program's way of joining: the second one's mark gives way -/
def uj (l : List Int) (x y : Nat) : List Int := l.map fun c => if c = co l y then co l x else c
theorem uj_len (l : List Int) (x y : Nat) : (uj l x y).length = l.length := List.length_map ..
theorem Ks.uj {N : Nat} {l : List Int} {E : Nat → Nat → Prop} {x y : Nat} (k : Ks N l E) (hx : x < N) (hy : y < N) : Ks N (uj l x y) fun i j => E i j ∨ (i = x ∧ j = y) :=
  k.step hx hy ((uj_len l x y).trans k.len) (.inl ⟨rfl, rfl⟩) fun i hi => co_map_lt (by rw [k.len]; exact hi)
theorem Ks.jn {N : Nat} {l : List Int} {E : Nat → Nat → Prop} {x y : Nat} (k : Ks N l E) (hx : x < N) (hy : y < N) : Ks N (jn l x y) fun i j => E i j ∨ (i = x ∧ j = y) := by
  refine k.step (u := if co l y > co l x then co l y else co l x) (v := if co l y < co l x then co l y else co l x) hx hy ((jn_len l x y).trans k.len) ?_ fun i hi => co_map_lt (by rw [k.len]; exact hi)
  by_cases c : co l y > co l x
  · rw [if_pos c, if_neg (by omega)]
    exact .inl ⟨rfl, rfl⟩
  · rw [if_neg c]
    by_cases d : co l y < co l x
    · rw [if_pos d]
      exact .inr ⟨rfl, rfl⟩
    · rw [if_neg d]
      exact .inl ⟨by omega, rfl⟩
/-- the pieces of groups -/
def ujB (l : List Int) (b : List Int) : List Int := (b.drop 1).foldl (fun l p => uj l (co b 0).toNat p.toNat) l
def ujs (l : List Int) (gs : List (List Int)) : List Int := gs.foldl ujB l
def pcs (N : Nat) (gs : List (List Int)) : List Int := ujs (ixs N) gs
def GE (gs : List (List Int)) (i j : Nat) : Prop := ∃ g ∈ gs, ∃ p ∈ g.drop 1, i = (co g 0).toNat ∧ j = p.toNat
def GBd (N : Nat) (gs : List (List Int)) : Prop := ∀ g ∈ gs, g ≠ [] ∧ ∀ p ∈ g, 0 ≤ p ∧ p < (N : Int)
theorem GBd.head {N : Nat} {gs : List (List Int)} (h : GBd N gs) {g : List Int} (hg : g ∈ gs) : (co g 0).toNat < N := by
  have ne := (h g hg).1
  have := (h g hg).2 (co g 0) (co_mem (by cases g with | nil => exact absurd rfl ne | cons _ _ => exact Nat.zero_lt_succ _))
  omega
theorem GBd.pt {N : Nat} {gs : List (List Int)} (h : GBd N gs) {g : List Int} (hg : g ∈ gs) {p : Int} (hp : p ∈ g) : p.toNat < N := by
  have := (h g hg).2 p hp
  omega
theorem ks_fold {N : Nat} (x : Nat) (hx : x < N) : ∀ (ps : List Int) (l : List Int) (E : Nat → Nat → Prop), (∀ p ∈ ps, p.toNat < N) → Ks N l E → Ks N (ps.foldl (fun l p => uj l x p.toNat) l) fun i j => E i j ∨ ∃ p ∈ ps, i = x ∧ j = p.toNat
  | [], l, E, _, k => k.congr (fun i j h => h.elim (k.bd i j) fun ⟨_, h, _⟩ => nomatch h) (fun i j h => .ed (.inl h)) fun i j h => h.elim .ed fun ⟨_, h, _⟩ => nomatch h
  | p :: ps, l, E, hp, k => by
    have k1 := k.uj hx (hp p List.mem_cons_self)
    have k2 := ks_fold x hx ps _ _ (fun q hq => hp q (List.mem_cons_of_mem _ hq)) k1
    refine k2.congr (fun i j h => ?_) (fun i j h => ?_) fun i j h => ?_
    · rcases h with h | ⟨q, hq, rfl, rfl⟩
      · exact k.bd i j h
      · exact ⟨hx, hp q hq⟩
    · rcases h with (h | ⟨e1, e2⟩) | ⟨q, hq, e⟩
      · exact .ed (.inl h)
      · exact .ed (.inr ⟨p, List.mem_cons_self, e1, e2⟩)
      · exact .ed (.inr ⟨q, List.mem_cons_of_mem _ hq, e⟩)
    · rcases h with h | ⟨q, hq, e⟩
      · exact .ed (.inl (.inl h))
      · rcases List.mem_cons.mp hq with rfl | hq
        · exact .ed (.inl (.inr e))
        · exact .ed (.inr ⟨q, hq, e⟩)
theorem ks_groups {N : Nat} : ∀ (gs : List (List Int)) (l : List Int) (E : Nat → Nat → Prop), GBd N gs → Ks N l E → Ks N (ujs l gs) fun i j => E i j ∨ GE gs i j
  | [], l, E, _, k => k.congr (fun i j h => h.elim (k.bd i j) fun ⟨_, h, _⟩ => nomatch h) (fun i j h => .ed (.inl h)) fun i j h => h.elim .ed fun ⟨_, h, _⟩ => nomatch h
  | g :: gs, l, E, hb, k => by
    have k1 := ks_fold (co g 0).toNat (hb.head List.mem_cons_self) (g.drop 1) l E (fun p hp => hb.pt List.mem_cons_self (List.mem_of_mem_drop hp)) k
    have k2 := ks_groups gs _ _ (fun x hx => hb x (List.mem_cons_of_mem _ hx)) k1
    refine k2.congr (fun i j h => ?_) (fun i j h => ?_) fun i j h => ?_
    · rcases h with h | ⟨x, hx, p, hp, rfl, rfl⟩
      · exact k.bd i j h
      · exact ⟨hb.head hx, hb.pt hx (List.mem_of_mem_drop hp)⟩
    · rcases h with (h | ⟨p, hp, e⟩) | ⟨x, hx, p, hp, e⟩
      · exact .ed (.inl h)
      · exact .ed (.inr ⟨g, List.mem_cons_self, p, hp, e⟩)
      · exact .ed (.inr ⟨x, List.mem_cons_of_mem _ hx, p, hp, e⟩)
    · rcases h with h | ⟨x, hx, p, hp, e⟩
      · exact .ed (.inl (.inl h))
      · rcases List.mem_cons.mp hx with rfl | hx
        · exact .ed (.inl (.inr ⟨p, hp, e⟩))
        · exact .ed (.inr ⟨x, hx, p, hp, e⟩)
theorem ks_pcs {N : Nat} {gs : List (List Int)} (hb : GBd N gs) : Ks N (pcs N gs) (GE gs) := by
  have k := ks_groups gs (ixs N) _ hb (ks_start N)
  exact k.congr (fun i j ⟨x, hx, p, hp, e1, e2⟩ => by rw [e1, e2]; exact ⟨hb.head hx, hb.pt hx (List.mem_of_mem_drop hp)⟩) (fun i j h => h.elim (fun z => z.elim) .ed) fun i j h => .ed (.inr h)
/-- the law's way -/
def jns (l : List Int) (es : List (Nat × Nat)) : List Int := es.foldl (fun l e => jn l e.1 e.2) l
theorem ks_jns {N : Nat} : ∀ (es : List (Nat × Nat)) (l : List Int) (E : Nat → Nat → Prop), (∀ e ∈ es, e.1 < N ∧ e.2 < N) → Ks N l E → Ks N (jns l es) fun i j => E i j ∨ (i, j) ∈ es
  | [], l, E, _, k => k.congr (fun i j h => h.elim (k.bd i j) fun h => nomatch h) (fun i j h => .ed (.inl h)) fun i j h => h.elim .ed fun h => nomatch h
  | e :: es, l, E, hb, k => by
    have k1 := k.jn (hb e List.mem_cons_self).1 (hb e List.mem_cons_self).2
    have k2 := ks_jns es _ _ (fun x hx => hb x (List.mem_cons_of_mem _ hx)) k1
    refine k2.congr (fun i j h => ?_) (fun i j h => ?_) fun i j h => ?_
    · rcases h with h | h
      · exact k.bd i j h
      · exact hb _ h
    · rcases h with (h | ⟨e1, e2⟩) | h
      · exact .ed (.inl h)
      · exact .ed (.inr (by rw [e1, e2]; exact List.mem_cons_self))
      · exact .ed (.inr (List.mem_cons_of_mem _ h))
    · rcases h with h | h
      · exact .ed (.inl (.inl h))
      · rcases List.mem_cons.mp h with h | h
        · have e1 := congrArg Prod.fst h
          have e2 := congrArg Prod.snd h
          exact .ed (.inl (.inr ⟨e1, e2⟩))
        · exact .ed (.inr h)
/-! ### what hangs on the pieces alone -/
def KerEq (a b : List Int) : Prop := a.length = b.length ∧ ∀ i j, i < a.length → j < a.length → (co a i = co a j ↔ co b i = co b j)
theorem Ks.ker {N : Nat} {a b : List Int} {E : Nat → Nat → Prop} (x : Ks N a E) (y : Ks N b E) : KerEq a b :=
  ⟨x.len.trans y.len.symm, fun i j hi hj => by rw [x.len] at hi hj; exact (x.eq i j hi hj).trans (y.eq i j hi hj).symm⟩
theorem ixf_co {l : List Int} {v : Int} (h : v ∈ l) : l.idxOf v < l.length ∧ co l (l.idxOf v) = v := by
  have hl := List.idxOf_lt_length_of_mem h
  refine ⟨hl, ?_⟩
  have e : l[l.idxOf v]? = some v := by rw [List.getElem?_eq_getElem hl, List.getElem_idxOf]
  exact Option.some.inj ((co_get hl).symm.trans e)
theorem co_ext {a b : List Int} (hl : a.length = b.length) (h : ∀ i, i < a.length → co a i = co b i) : a = b := by
  refine List.ext_getElem? fun i => ?_
  by_cases c : i < a.length
  · rw [co_get c, co_get (by omega), h i c]
  · rw [List.getElem?_eq_none (by omega), List.getElem?_eq_none (by omega)]
theorem KerEq.img {a b : List Int} (k : KerEq a b) : ∃ g : Int → Int, b = a.map g ∧ ∀ x ∈ a, ∀ y ∈ a, g x = g y → x = y := by
  refine ⟨fun v => co b (a.idxOf v), ?_, fun x hx y hy e => ?_⟩
  · refine co_ext (by rw [List.length_map, k.1]) fun i hi => ?_
    rw [← k.1] at hi
    rw [co_map_lt hi]
    have m := ixf_co (co_mem hi)
    exact (k.2 i _ hi m.1).mp m.2.symm
  · have m1 := ixf_co hx
    have m2 := ixf_co hy
    have := (k.2 _ _ m1.1 m2.1).mpr e
    rw [m1.2, m2.2] at this
    exact this
theorem KerEq.blocks {a b : List Int} (k : KerEq a b) : blocksOf b = blocksOf a := by
  obtain ⟨g, e, inj⟩ := k.img
  rw [e]
  exact blocksOf_map inj
/-- the pieces of which no mark is shown -/
def hid (ms shown : List Int) : Nat := ((seenL [] ms).filter fun k => decide (k ∉ shown)).length
theorem hid_is {ms shown L : List Int} (nd : L.Nodup) (h : ∀ k, k ∈ L ↔ k ∈ ms ∧ k ∉ shown) : L.length = hid ms shown := by
  refine SD.same_len nd ((seenL_nodup ms [] List.nodup_nil).filter _) fun k => ?_
  rw [h k, List.mem_filter, seenL_mem, decide_eq_true_eq]
  exact ⟨fun z => ⟨.inr z.1, z.2⟩, fun z => ⟨z.1.elim (fun q => nomatch q) id, z.2⟩⟩
def cnt (ms : List Int) : Nat := (seenL [] ms).length
theorem cnt_is {ms L : List Int} (nd : L.Nodup) (h : ∀ k, k ∈ L ↔ k ∈ ms) : L.length = cnt ms := by
  refine SD.same_len nd (seenL_nodup ms [] List.nodup_nil) fun k => ?_
  rw [h k, seenL_mem]
  exact ⟨.inr, fun z => z.elim (fun q => nomatch q) id⟩
theorem cnt_hid (ms : List Int) : cnt ms = hid ms [] := by
  unfold cnt hid
  rw [List.filter_eq_self.mpr fun k _ => decide_eq_true List.not_mem_nil]
/-- pieces told by two rows of points: f leads from the second to the first -/
theorem hid_map {a b sa sb : List Int} (f : Nat → Nat) (hf : ∀ i, i < b.length → f i < a.length) (on : ∀ i, i < a.length → ∃ j, j < b.length ∧ co a (f j) = co a i) (kq : ∀ i j, i < b.length → j < b.length → (co b i = co b j ↔ co a (f i) = co a (f j)))
    (sh : ∀ i, i < b.length → (co b i ∈ sb ↔ co a (f i) ∈ sa)) : hid b sb = hid a sa := by
  have nb := (seenL_nodup b [] List.nodup_nil).filter fun k => decide (k ∉ sb)
  have memb : ∀ k, k ∈ (seenL [] b).filter (fun k => decide (k ∉ sb)) ↔ k ∈ b ∧ k ∉ sb := fun k => by
    rw [List.mem_filter, seenL_mem, decide_eq_true_eq]
    exact ⟨fun z => ⟨z.1.elim (fun q => nomatch q) id, z.2⟩, fun z => ⟨.inr z.1, z.2⟩⟩
  have e : hid b sb = (((seenL [] b).filter fun k => decide (k ∉ sb)).map fun v => co a (f (b.idxOf v))).length := (List.length_map ..).symm
  rw [e]
  refine hid_is ?_ fun k => ?_
  · refine List.Pairwise.map _ (R := fun x y => x ∈ b ∧ y ∈ b ∧ x ≠ y) (fun x y ⟨hx, hy, ne⟩ z => ?_) (List.Pairwise.imp_of_mem (fun hx hy ne => ⟨((memb _).mp hx).1, ((memb _).mp hy).1, ne⟩) nb)
    have m1 := ixf_co hx
    have m2 := ixf_co hy
    have := (kq _ _ m1.1 m2.1).mpr z
    rw [m1.2, m2.2] at this
    exact ne this
  · rw [List.mem_map]
    constructor
    · rintro ⟨v, hv, rfl⟩
      obtain ⟨h1, h2⟩ := (memb v).mp hv
      have m := ixf_co h1
      refine ⟨co_mem (hf _ m.1), fun z => h2 ?_⟩
      rw [← m.2]
      exact (sh _ m.1).mpr z
    · rintro ⟨h1, h2⟩
      have m := ixf_co h1
      obtain ⟨j, hj, ej⟩ := on _ m.1
      rw [m.2] at ej
      have m2 := ixf_co (co_mem hj)
      have back : co a (f (b.idxOf (co b j))) = k := ((kq _ _ m2.1 hj).mp m2.2).trans ej
      refine ⟨co b j, (memb _).mpr ⟨co_mem hj, fun z => h2 ?_⟩, back⟩
      rw [← ej]
      exact (sh j hj).mp z
/-! ### blocks as groups -/
theorem blocks_ge {l : List Int} : ∀ i j, GE (blocksOf l) i j → i < l.length ∧ j < l.length ∧ co l i = co l j := by
  rintro i j ⟨g, hg, p, hp, rfl, rfl⟩
  unfold blocksOf at hg
  obtain ⟨v, hv, rfl⟩ := List.mem_map.mp hg
  have ne := blocks_ne (marks := l) _ (by unfold blocksOf; exact List.mem_map.mpr ⟨v, hv, rfl⟩)
  obtain ⟨a, ea, la, va⟩ := mem_posOf.mp (show co (posOf l v) 0 ∈ posOf l v from co_mem (by cases e : posOf l v with | nil => exact absurd e ne | cons _ _ => exact Nat.zero_lt_succ _))
  obtain ⟨b, eb, lb, vb⟩ := mem_posOf.mp (List.mem_of_mem_drop hp)
  rw [ea, eb]
  exact ⟨la, lb, va.trans vb.symm⟩
theorem ge_blocks {l : List Int} {i j : Nat} (hi : i < l.length) (hj : j < l.length) (e : co l i = co l j) : Conn (GE (blocksOf l)) i j := by
  have hv : co l i ∈ seenL [] l := (seenL_mem _ _ _).mpr (.inr (co_mem hi))
  have hg : posOf l (co l i) ∈ blocksOf l := by unfold blocksOf; exact List.mem_map.mpr ⟨_, hv, rfl⟩
  have one : ∀ k, k < l.length → co l k = co l i → Conn (GE (blocksOf l)) (co (posOf l (co l i)) 0).toNat k := fun k hk ek => by
    have hm : (k : Int) ∈ posOf l (co l i) := mem_posOf.mpr ⟨k, rfl, hk, ek⟩
    cases ep : posOf l (co l i) with
    | nil => rw [ep] at hm; cases hm
    | cons h t =>
      rw [ep] at hm
      rcases List.mem_cons.mp hm with z | z
      · show Conn _ h.toNat k
        rw [← z]
        exact .rf _
      · exact .ed ⟨posOf l (co l i), hg, (k : Int), by rw [ep]; exact z, by rw [ep], rfl⟩
  exact (one i hi rfl).sy.tr (one j hj e.symm)
theorem blocks_gbd (l : List Int) : GBd l.length (blocksOf l) := fun g hg => ⟨blocks_ne g hg, fun p hp => by
  unfold blocksOf at hg
  obtain ⟨v, hv, rfl⟩ := List.mem_map.mp hg
  obtain ⟨a, ea, la, va⟩ := mem_posOf.mp hp
  omega⟩
theorem uj_mem {l : List Int} {x y : Nat} (hx : x < l.length) : ∀ v ∈ uj l x y, v ∈ l := fun v hv => by
  unfold uj at hv
  obtain ⟨c, hc, rfl⟩ := List.mem_map.mp hv
  split
  · exact co_mem hx
  · exact hc
theorem ujB_mem {l : List Int} {b : List Int} (h0 : (co b 0).toNat < l.length) : (ujB l b).length = l.length ∧ ∀ v ∈ ujB l b, v ∈ l := by
  unfold ujB
  generalize b.drop 1 = t
  generalize (co b 0).toNat = x at h0
  revert l
  induction t with
  | nil => exact fun h => ⟨rfl, fun v h => h⟩
  | cons p t ih =>
    intro l h0
    obtain ⟨a, b⟩ := ih (l := uj l x p.toNat) (by rw [uj_len]; exact h0)
    exact ⟨a.trans (uj_len _ _ _), fun v hv => uj_mem h0 v (b v hv)⟩
theorem pcs_mem {N : Nat} {gs : List (List Int)} (hb : GBd N gs) : ∀ v ∈ pcs N gs, 0 ≤ v ∧ v < (N : Int) := by
  have run : ∀ (gs : List (List Int)) (l : List Int), GBd N gs → l.length = N → ∀ v ∈ ujs l gs, v ∈ l := by
    intro gs
    induction gs with
    | nil => exact fun l _ _ v h => h
    | cons g gs ih =>
      intro l hb hl v hv
      obtain ⟨a, b⟩ := ujB_mem (l := l) (b := g) (by rw [hl]; exact hb.head List.mem_cons_self)
      exact b v (ih (ujB l g) (fun x hx => hb x (List.mem_cons_of_mem _ hx)) (a.trans hl) v hv)
  exact fun v hv => mem_ixs.mp (run gs (ixs N) hb (ixs_len' N) v hv)

/-! ### a list or a tuple -/
def SqA (K : PySem.W.Frag) (H : Hp) (a : Addr) (xs : List V) : Prop := SqL K H a xs ∨ SqT K H a xs
def iSeqA (K : PySem.W.Frag) (te : TE) : TI := fun σ H R => te σ H fun x H1 => ∃ a xs, x = .ref a ∧ ((SqL K H1 a xs ∧ R (Itl K a) H1) ∨ (SqT K H1 a xs ∧ R (Itt K a) H1))
theorem pi_ltK {X : Cx} {K : PySem.W.Frag} {tg e : Expr} {te : TE} (hK : X.K = K) (he : PE X e te) : PI X tg e (iSeqA K te) := by
  subst hK
  refine ⟨fun pins s σ H R I h => ?_⟩
  refine thn (he.run pins s σ H _ I h) fun v s1 ⟨x, H1, I1, r1, a, xs, ex, q⟩ => ?_
  subst ex
  have r1' : v = .ref a := r1
  subst r1'
  have fp : ∀ {b : Addr}, b ∈ [s1.heap.objs.size] → _ := fun {b} hb => (by simpa using hb : b = s1.heap.objs.size)
  rcases q with ⟨sq, q⟩ | ⟨sq, q⟩
  · obtain ⟨its, rv, p, _⟩ := I1.list sq
    exact wpAny_pyIter_list p.isList ⟨s1.heap.objs.size, [s1.heap.objs.size], _, _, H1, rfl, I1.kept (t' := s1.toks) fun b o e => Heap.get?_push_of_some _ e, turn_list a _, ⟨_, Heap.get?_push_size _ rfl, rfl, rfl⟩, fun b hb => by rw [fp hb]; exact I1.fpOk (Nat.le_refl _) (I1.hok.fresh (Nat.le_refl _)), q⟩
  · obtain ⟨its, rv, p, _⟩ := I1.tuple sq
    exact wpAny_pyIter_tuple (show s1.heap.IsTuple a its.toArray from p) ⟨s1.heap.objs.size, [s1.heap.objs.size], _, _, H1, rfl, I1.kept (t' := s1.toks) fun b o e => Heap.get?_push_of_some _ e, turn_tuple a _, ⟨_, Heap.get?_push_size _ rfl, rfl, rfl⟩, fun b hb => by rw [fp hb]; exact I1.fpOk (Nat.le_refl _) (I1.hok.fresh (Nat.le_refl _)), q⟩
theorem pi_lt {X : Cx} {tg e : Expr} {te : TE} (he : PE X e te) : PI X tg e (iSeqA X.K te) := pi_ltK rfl he
theorem for_seq {K : PySem.W.Frag} {a : Addr} {xs : List V} {g : TG} {tb : TS} {D : Ends} {σ : L2.St} {H : Hp} (hq : SqA K H a xs) (Pv : Nat → L2.St → Hp → Prop) (h0 : Pv 0 σ H) (hk : ∀ i σ' H', Pv i σ' H' → (SqL K H a xs → SqL K H' a xs) ∧ (SqT K H a xs → SqT K H' a xs))
    (hs : ∀ i x σ H, xs[i]? = some x → Pv i σ H → g x σ H fun σ2 H2 => tb { D with nx := Pv (i + 1), ct := Pv (i + 1), bk := D.nx } σ2 H2) (hd : ∀ σ H, Pv xs.length σ H → D.nx σ H) :
    (SqL K H a xs ∧ ∃ W : Nat → Nat → L2.St → Hp → Prop, (∃ m, W 0 m σ H) ∧ ∀ i m σ H, W i m σ H →
      ((Itl K a).stop i H ∧ D.nx σ H) ∨ ((Itl K a).go i H ∧ ∃ N : L2.St → Hp → Prop, (∀ σ' H', N σ' H' → ∃ m', m' < m ∧ W (i + 1) m' σ' H') ∧ ∀ x H', (Itl K a).yld i H x H' → g x σ H' fun σ2 H2 => tb { D with nx := N, ct := N, bk := D.nx } σ2 H2)) ∨
    (SqT K H a xs ∧ ∃ W : Nat → Nat → L2.St → Hp → Prop, (∃ m, W 0 m σ H) ∧ ∀ i m σ H, W i m σ H →
      ((Itt K a).stop i H ∧ D.nx σ H) ∨ ((Itt K a).go i H ∧ ∃ N : L2.St → Hp → Prop, (∀ σ' H', N σ' H' → ∃ m', m' < m ∧ W (i + 1) m' σ' H') ∧ ∀ x H', (Itt K a).yld i H x H' → g x σ H' fun σ2 H2 => tb { D with nx := N, ct := N, bk := D.nx } σ2 H2)) := by
  rcases hq with hq | hq
  · exact .inl ⟨hq, for_list Pv h0 (fun i σ' H' _ p => (hk i σ' H' p).1 hq) hs hd⟩
  · exact .inr ⟨hq, for_it walk_tup Pv h0 (fun i σ' H' _ p => (hk i σ' H' p).2 hq) (fun i x σ H1 H2 hi p ⟨e, hx⟩ => by subst e; exact hs i x σ _ hx p) hd⟩
def rSlSA (K : PySem.W.Frag) : V → Option Int → Option Int → Hp → VK → Prop := fun x lo hi H Q => ∃ a xs, x = .ref a ∧ SqA K H a xs ∧ ¬ (HT.sIx xs.length 0 lo = 0 ∧ HT.sIx xs.length xs.length hi = xs.length) ∧
  ∀ p H', Same H H' → H p = none → SqA K H' p (cutV xs lo hi) → Q (.ref p) H'
theorem sl_seqA {X : Cx} : SlR X (rSlSA X.K) := by
  intro pins s σ H x v vl vu lo hi sl Q I rx hs pl pu h
  obtain ⟨a, xs, rfl, hq, nw, q⟩ := h
  rcases hq with hq | hq
  · exact sl_list pins s σ H (.ref a) v vl vu lo hi sl Q I rx hs pl pu ⟨a, xs, rfl, hq, fun p np => q p _ (same_upd np) np (.inl (.inl (.inl upd_same)))⟩
  · exact sl_tupA pins s σ H (.ref a) v vl vu lo hi sl Q I rx hs pl pu ⟨a, xs, rfl, hq, fun z => absurd z nw, fun _ p np => q p _ (same_upd np) np (.inr (.inl (.inl upd_same)))⟩
def rIxSA (K : PySem.W.Frag) : R2 := fun x y H Q => ∃ a xs j v, x = .ref a ∧ y = .int j ∧ SqA K H a xs ∧ atI xs j = some v ∧ Q v H
theorem ix_seqA {X : Cx} : IxR X (rIxSA X.K) := by
  intro value slice pins s σ H x y v u Q I rx ry h hs
  obtain ⟨a, xs, j, z, rfl, rfl, hq, e, q⟩ := h
  rcases hq with hq | hq
  · exact ix_list value slice pins s σ H (.ref a) (.int j) v u Q I rx ry ⟨a, xs, j, z, rfl, rfl, hq, e, q⟩ hs
  · exact ix_tup value slice pins s σ H (.ref a) (.int j) v u Q I rx ry ⟨a, xs, j, z, rfl, rfl, hq, e, q⟩ hs
theorem SqA.same {K : PySem.W.Frag} {H H' : Hp} {a : Addr} {xs : List V} (s : Same H H') (h : SqA K H a xs) : SqA K H' a xs := h.elim (fun h => .inl (sqL_same s h)) fun h => .inr (sqT_same s h)
theorem SqA.butN {K : PySem.W.Frag} {H H' : Hp} {r a : Addr} {xs : List V} (n : a ≠ r) (s : SameBut r H H') (h : SqA K H a xs) : SqA K H' a xs := by
  rcases h with ((h | ⟨o, h⟩) | h) | h
  · exact .inl (.inl (.inl (s _ _ n h)))
  · exact .inl (.inl (.inr ⟨o, s _ _ n h⟩))
  · exact .inl (.inr h)
  · exact .inr (sqT_but s n h)
theorem same_butD {H H3 H' : Hp} {D : Addr} (s : Same H H3) (b : SameBut D H3 H') (n : H D = none) : Same H H' := fun a o e => b a o (ne_of_none e n) (s a o e)

section
variable {P : Program} {w : World} {K : PySem.W.Frag} {mg : Str → Option Value} {base : Heap}
/-! ### _root, piece_marks -/
/-- parents, and the root of each -/
def Frst (N : Nat) (par r : List Int) : Prop := par.length = N ∧ r.length = N ∧ ∃ d : Nat → Nat, ∀ x, x < N → (0 ≤ co par x ∧ co par x < (N : Int)) ∧ ((co par x = (x : Int) ∧ co r x = (x : Int)) ∨ (co par x ≠ (x : Int) ∧ d (co par x).toNat < d x ∧ co r x = co r (co par x).toNat))
theorem Frst.root {N : Nat} {par r : List Int} (h : Frst N par r) {x : Nat} (hx : x < N) : ∃ y : Nat, co r x = (y : Int) ∧ y < N ∧ co par y = (y : Int) ∧ co r y = (y : Int) := by
  obtain ⟨_, _, d, h⟩ := h
  have run : ∀ n x, x < N → d x ≤ n → ∃ y : Nat, co r x = (y : Int) ∧ y < N ∧ co par y = (y : Int) ∧ co r y = (y : Int) := by
    intro n
    induction n with
    | zero =>
      intro x hx hd
      obtain ⟨_, ⟨e1, e2⟩ | ⟨_, c, _⟩⟩ := h x hx
      · exact ⟨x, e2, hx, e1, e2⟩
      · omega
    | succ n ih =>
      intro x hx hd
      obtain ⟨bd, ⟨e1, e2⟩ | ⟨_, c, e⟩⟩ := h x hx
      · exact ⟨x, e2, hx, e1, e2⟩
      · obtain ⟨y, ey, r⟩ := ih (co par x).toNat (by omega) (by omega)
        exact ⟨y, e.trans ey, r⟩
  exact run (d x) x hx (Nat.le_refl _)
theorem frst_start (N : Nat) : Frst N (ixs N) (ixs N) := ⟨ixs_len' N, ixs_len' N, fun _ => 0, fun x hx => by rw [co_ixs hx]; exact ⟨by omega, .inl ⟨rfl, rfl⟩⟩⟩
theorem co_setI {l : List Int} {i : Nat} {v : Int} (hi : i < l.length) (j : Nat) : co (l.set i v) j = if j = i then v else co l j := by
  unfold co
  rw [List.getD_eq_getElem?_getD, List.getD_eq_getElem?_getD, List.getElem?_set]
  by_cases c : i = j
  · rw [if_pos c, if_pos c.symm, if_pos hi]
    rfl
  · rw [if_neg c, if_neg fun z => c z.symm]
theorem Frst.join {N : Nat} {par r : List Int} (h : Frst N par r) {x y : Nat} (hx : x < N) (hy : y < N) : Frst N (par.set (co r y).toNat (co r x)) (uj r x y) := by
  obtain ⟨lo, elo, llo, plo, rlo⟩ := h.root hx
  obtain ⟨hi, ehi, lhi, phi, rhi⟩ := h.root hy
  obtain ⟨l1, l2, d, h⟩ := h
  refine ⟨by rw [List.length_set]; exact l1, by rw [uj_len]; exact l2, ?_⟩
  rw [ehi, elo, show ((hi : Int)).toNat = hi from rfl]
  have cp : ∀ z, co (par.set hi (lo : Int)) z = if z = hi then (lo : Int) else co par z := co_setI (by omega)
  have cu : ∀ z, z < N → co (uj r x y) z = if co r z = (hi : Int) then (lo : Int) else co r z := fun z hz => by
    unfold uj
    rw [co_map_lt (by omega), elo, ehi]
  by_cases same : lo = hi
  · subst same
    refine ⟨d, fun z hz => ?_⟩
    have e1 : co (par.set lo (lo : Int)) z = co par z := by
      rw [cp z]
      by_cases c : z = lo
      · rw [if_pos c, c, plo]
      · rw [if_neg c]
    have e2 : ∀ z, z < N → co (uj r x y) z = co r z := fun z hz => by
      rw [cu z hz]
      by_cases c : co r z = (lo : Int)
      · rw [if_pos c, c]
      · rw [if_neg c]
    have hz' := h z hz
    have bd : (co par z).toNat < N := by have := hz'.1; omega
    rw [e1, e2 z hz, e2 _ bd]
    exact hz'
  · refine ⟨fun z => if co r z = (hi : Int) then d z + d lo + 1 else d z, fun z hz => ?_⟩
    have hz' := h z hz
    have bd : (co par z).toNat < N := by have := hz'.1; omega
    rw [cp z, cu z hz]
    by_cases c : z = hi
    · subst c
      rw [if_pos rfl, if_pos rhi]
      refine ⟨by omega, .inr ⟨by omega, ?_, ?_⟩⟩
      · show (if co r (lo : Int).toNat = (z : Int) then _ else _) < (if co r z = (z : Int) then _ else _)
        rw [show ((lo : Int)).toNat = lo from rfl, rlo, if_neg (by omega), if_pos rhi]
        omega
      · rw [show ((lo : Int)).toNat = lo from rfl, cu lo llo, rlo, if_neg (by omega)]
    · rw [if_neg c]
      refine ⟨hz'.1, ?_⟩
      rcases hz'.2 with ⟨e1, e2⟩ | ⟨ne, e1, e2⟩
      · refine .inl ⟨e1, ?_⟩
        rw [if_neg (by rw [e2]; omega), e2]
      · refine .inr ⟨ne, ?_, ?_⟩
        · show (if co r (co par z).toNat = (hi : Int) then _ else _) < (if co r z = (hi : Int) then _ else _)
          rw [← e2]
          split <;> omega
        · rw [cu _ bd, ← e2]
def spRoot (K : PySem.W.Frag) : Sp := fun vs H Q _ => ∃ (D : Addr) (par r : List Int) (N x : Nat), vs = [.ref D, .int (x : Int)] ∧ SqL K H D (par.map V.int) ∧ Frst N par r ∧ x < N ∧ Q (.int (co r x)) H
theorem ok_root_ {f : Addr} {fd : FuncData} (F : Fun K "_root" "_root" s_root_ f fd) : FnOk P w K mg base CX0 1 f fd ["parents", "point"] (spRoot K) := by
  refine F.ok sc_root_ (fun vs H Q E h => ?_) (fun cdv A outer s H vs Q E hr h => ?_)
  · obtain ⟨D, par, r, N, x, rfl, _⟩ := h
    rfl
  · obtain ⟨D, par, r, N, x, rfl, hD, fr, hx, q⟩ := h
    refine ⟨_, (pss_cons (ps_set (i := 2) sc_root_.nd rfl (.inl rfl) (pv 1))
  (pss_cons (ps_while PassesOwn.never (pt_cmpR op_ne (pe_ix ix_list (pv 0) (pv 2) (fun _ _ => rfl)) (pv 2) (nomark _)) (pss_one (ps_set (i := 2) sc_root_.nd rfl (.inl rfl) (pe_ix ix_list (pv 0) (pv 2) (fun _ _ => rfl)))))
  (pss_one (ps_ret (pv 2))))), ?_⟩
    obtain ⟨l1, l2, d, hf⟩ := fr
    refine ⟨_, rfl, ⟨fun m σ H' => ∃ k : Nat, σ = [some (.ref D), some (.int (x : Int)), some (.int (k : Int))] ∧ H' = H ∧ k < N ∧ co r k = co r x ∧ m = d k, ⟨_, x, rfl, rfl, hx, rfl, rfl⟩, ?_⟩⟩
    rintro m σ H' ⟨k, rfl, rfl, hk, ek, rfl⟩
    have hz := hf k hk
    refine ⟨_, rfl, _, rfl, D, _, _, _, rfl, rfl, hD, at_co (by omega), _, rfl, rfl, _, rfl, ?_⟩
    rcases hz.2 with ⟨e1, e2⟩ | ⟨ne, e1, e2⟩
    · rw [e1, decide_eq_true rfl]
      refine iteF ⟨_, rfl, ?_⟩
      rw [← e2, ek]
      exact q
    · rw [decide_eq_false fun z => ne (V.int.inj z)]
      have ep : co par k = (((co par k).toNat : Nat) : Int) := by omega
      exact iteT ⟨_, fun _ _ n => n, _, rfl, _, rfl, D, _, _, _, rfl, rfl, hD, at_co (by omega), _, e1, (co par k).toNat, by rw [← ep]; rfl, rfl, by omega, by rw [← e2, ek], rfl⟩
/-- a group: a list or a tuple of points -/
def Grp (K : PySem.W.Frag) (H : Hp) (v : V) (b : List Int) : Prop := ∃ a, v = .ref a ∧ SqA K H a (b.map V.int)
theorem Grp.same {H H' : Hp} {v : V} {b : List Int} (s : Same H H') (h : Grp K H v b) : Grp K H' v b := by
  obtain ⟨a, e, h⟩ := h
  exact ⟨a, e, h.elim (fun h => .inl (sqL_same s h)) fun h => .inr (sqT_same s h)⟩
theorem sqL_butN {H H' : Hp} {r a : Addr} {xs : List V} (n : a ≠ r) (s : SameBut r H H') (h : SqL K H a xs) : SqL K H' a xs := by
  rcases h with (h | ⟨o, h⟩) | h
  · exact .inl (.inl (s _ _ n h))
  · exact .inl (.inr ⟨o, s _ _ n h⟩)
  · exact .inr h
theorem paired_get {α β : Type} {F : α → β → Prop} : ∀ {l : List α} {m : List β}, Paired F l m → ∀ {i : Nat} {x : α}, l[i]? = some x → ∃ y, m[i]? = some y ∧ F x y
  | _, _, .nil, i, x, h => nomatch h
  | _, _, .cons f _, 0, x, h => by
    obtain rfl := Option.some.inj h
    exact ⟨_, rfl, f⟩
  | _, _, .cons _ t, i + 1, x, h => paired_get t (i := i) h
theorem cut1 {h0 : Int} (tl : List Int) : ¬ (HT.sIx (h0 :: tl).length 0 (some 1) = 0 ∧ HT.sIx (h0 :: tl).length (h0 :: tl).length none = (h0 :: tl).length) := by
  rintro ⟨h, _⟩
  simp [HT.sIx] at h
def spPieceMarks (K : PySem.W.Frag) : Sp := fun vs H Q _ => ∃ (N : Nat) (a : Addr) (gs : List V) (bs : List (List Int)), vs = [.int (N : Int), .ref a] ∧ SqL K H a gs ∧ Paired (Grp K H) gs bs ∧ GBd N bs ∧ N ≤ 1000 ∧
  ∀ D H', Same H H' → H D = none → H' D = some (.lst ((pcs N bs).map V.int)) → Q (.ref D) H'
theorem ok_piece_marks {f a_root_ : Addr} {fd fd_root_ : FuncData} (F : Fun K "piece_marks" "piece_marks" s_piece_marks f fd) (z_list : mg "list" = none) (z_range : mg "range" = none)
    (G_root_ : FnOk P w K mg base CX0 1 a_root_ fd_root_ ["parents", "point"] (spRoot K)) (g_root_ : mg "_root" = some (.ref a_root_)) (k_root_ : PySem.W.keepIn K (.ref a_root_) = true) (b_root_ : Binds K fd_root_ ["parents", "point"] []) :
    FnOk P w K mg base CX0 2 f fd ["size", "groups"] (spPieceMarks K) := by
  refine F.ok sc_piece_marks (fun vs H Q E h => ?_) (fun cdv A outer s H vs Q E hr h => ?_)
  · obtain ⟨N, a, gs, bs, rfl, _⟩ := h
    rfl
  · obtain ⟨N, a, gs, bs, rfl, ha, pr, gb, hN, q⟩ := h
    refine ⟨_, (pss_cons (ps_set (i := 2) sc_piece_marks.nd rfl (.inr rfl) (pe_listRg rfl rfl z_list (prg_1 rfl z_range (pv 0))))
  (pss_cons (ps_for PassesOwn.never rfl (pi_list (pv 1)) (pg_name (i := 3) sc_piece_marks.nd rfl (.inl rfl)) (pss_one (ps_for PassesOwn.never rfl (pi_lt (pe_slice sl_seqA (pv 3) (po_some pe_int) po_none)) (pg_name (i := 4) sc_piece_marks.nd rfl (.inl rfl)) (pss_cons (ps_set (i := 5) sc_piece_marks.nd rfl (.inl rfl) (pe_call G_root_ (hr.mono (by decide)) rfl g_root_ k_root_ b_root_ .nil pass0 (pa_cons (pv 2) (pa_cons (pe_ix ix_seqA (pv 3) pe_int (fun _ _ => rfl)) pa_nil))))
  (pss_one (ps_asg (pv 5) (pg_sub (pv 2) (pe_call G_root_ (hr.mono (by decide)) rfl g_root_ k_root_ b_root_ .nil pass0 (pa_cons (pv 2) (pa_cons (pv 4) pa_nil))) set_list)))))))
  (pss_one (ps_ret (pe_lc (own := [("point", 4)]) rfl sc_piece_marks.nd (pi_range1 rfl z_range (pa_cons (pv 0) pa_nil)) (blkOk_by (N := ["size", "groups", "parents", "group", "point", "low"]) (sc := defScope s_piece_marks) (by first | decide +kernel | rfl)) (fun _ _ _ _ _ => (pg_name (i := 4) sc_piece_marks.nd rfl (.inl rfl))) (fun _ _ _ _ _ => pts_nil) (fun _ _ _ _ _ => (pe_call G_root_ (hr.mono (by decide)) rfl g_root_ k_root_ b_root_ .nil pass0 (pa_cons (pv 2) (pa_cons (pv 4) pa_nil))))))))), ?_⟩
    have szl : 20000 ≤ sizeLine := by decide
    refine ⟨_, rfl, (N : Int), rfl, RgOk.of_le (by omega) (by omega) (by omega) (by omega), fun D nD => ?_⟩
    have s1 := same_upd (o := .lst (rgV 0 (N : Int))) nD
    have hD1 : upd H D (.lst (rgV 0 (N : Int))) D = some (.lst ((ixs N).map V.int)) := by rw [upd_same, rgV_ixs (by omega)]; rfl
    revert s1 hD1
    generalize upd H D (.lst (rgV 0 (N : Int))) = H1
    intro s1 hD1
    refine ⟨_, rfl, a, rfl, ⟨_, sqL_same s1 ha⟩, for_list (xs := gs) (fun i σ H' => ∃ v3 v4 v5 par, σ = [some (.int (N : Int)), some (.ref a), some (.ref D), v3, v4, v5] ∧ Same H H' ∧ H' D = some (.lst (par.map V.int)) ∧ Frst N par (ujs (ixs N) (bs.take i)))
      ⟨none, none, none, ixs N, rfl, s1, hD1, frst_start N⟩ (fun i σ H' _ ⟨_, _, _, _, _, s', _⟩ => sqL_same s' ha) (fun i x σ H2 hx hP => ?_) (fun σ H2 hP => ?_)⟩
    · obtain ⟨v3, v4, v5, par, rfl, s2, hD2, fr⟩ := hP
      obtain ⟨b, eb, hg⟩ := paired_get pr hx
      obtain ⟨g, rfl, hg⟩ := hg.same s2
      have mb := List.mem_of_getElem? eb
      obtain ⟨ne, hb⟩ := gb b mb
      have hi : i < bs.length := (List.getElem?_eq_some_iff.mp eb).1
      obtain ⟨h0, tl, rfl⟩ : ∃ h0 tl, b = h0 :: tl := by
        cases b with
        | nil => exact absurd rfl ne
        | cons h0 tl => exact ⟨h0, tl, rfl⟩
      have hgH : SqA K H2 g ((h0 :: tl).map V.int) := ‹SqA K H2 g _›
      refine ⟨_, rfl, _, rfl, g, _, rfl, hgH, (by rw [List.length_map]; exact cut1 tl), fun p H3 s3 np hp => ?_⟩
      rw [cutI_from (by omega) (by rw [List.length_cons]; omega), show (h0 :: tl).drop (1 : Int).toNat = tl from rfl] at hp
      have hD3 := s3 _ _ hD2
      have npD : p ≠ D := fun z => by rw [z, hD2] at np; cases np
      have s03 := Same.trans s2 s3
      have hh := hb h0 List.mem_cons_self
      refine ⟨_, _, rfl, for_seq hp (fun i2 σ H' => ∃ v4 v5 par, σ = [some (.int (N : Int)), some (.ref a), some (.ref D), some (.ref g), v4, v5] ∧ SameBut D H3 H' ∧ H' D = some (.lst (par.map V.int)) ∧ Frst N par ((tl.take i2).foldl (fun l p => uj l h0.toNat p.toNat) (ujs (ixs N) (bs.take i))))
        ⟨v4, v5, par, rfl, SameBut.refl D H3, hD3, fr⟩ (fun i2 σ' H' ⟨_, _, _, _, sb, _⟩ => ⟨fun h => sqL_butN npD sb h, fun h => sqT_but sb npD h⟩) (fun i2 y σ H4 hy hP => ?_) (fun σ H4 hP => ?_)⟩
      · obtain ⟨v4, v5, par, rfl, sb, hD4, fr⟩ := hP
        have hi2 : i2 < tl.length := by have := (List.getElem?_eq_some_iff.mp hy).1; rwa [List.length_map] at this
        have ez : (tl.map V.int)[i2]? = some (.int (co tl i2)) := by rw [List.getElem?_map, co_get hi2]; rfl
        obtain rfl : V.int (co tl i2) = y := Option.some.inj (ez.symm.trans hy)
        have ht := hb (co tl i2) (List.mem_cons_of_mem _ (co_mem hi2))
        have s04 := same_butD s03 sb nD
        have hg4 := hg.same s04
        obtain ⟨g', eg, hg4⟩ := hg4
        obtain rfl := V.ref.inj eg
        have eh : h0 = ((h0.toNat : Nat) : Int) := by omega
        have et : co tl i2 = (((co tl i2).toNat : Nat) : Int) := by omega
        refine ⟨_, rfl, _, rfl, _, _, _, _, rfl, rfl, hg4, atI_nat (j := 0) rfl, D, par, _, N, h0.toNat, by rw [← eh]; rfl, .inl (.inl hD4), fr, by omega, ?_⟩
        generalize er : (tl.take i2).foldl (fun l p => uj l h0.toNat p.toNat) (ujs (ixs N) (bs.take i)) = r at fr
        obtain ⟨lo, elo, llo, _⟩ := fr.root (x := h0.toNat) (by omega)
        obtain ⟨hi, ehi, lhi, _⟩ := fr.root (x := (co tl i2).toNat) (by omega)
        have lp := fr.1
        refine ⟨_, rfl, _, rfl, _, rfl, _, rfl, D, par, r, N, (co tl i2).toNat, by rw [← et]; rfl, .inl (.inl hD4), fr, by omega, D, _, _, hi, rfl, by rw [ehi], hD4, ixN_nat (by rw [List.length_map]; omega), ?_⟩
        have fj := fr.join (x := h0.toNat) (y := (co tl i2).toNat) (by omega) (by omega)
        rw [ehi, show ((hi : Int)).toNat = hi from rfl] at fj
        refine ⟨_, _, _, rfl, sb.trans SameBut.upd, by rw [upd_same, map_set], ?_⟩
        rw [List.take_succ, co_get hi2, List.foldl_append, er]
        exact fj
      · obtain ⟨v4, v5, par, rfl, sb, hD4, fr⟩ := hP
        rw [List.length_map, List.take_length] at fr
        refine ⟨_, v4, v5, par, rfl, same_butD s03 sb nD, hD4, ?_⟩
        rw [List.take_succ, eb]
        unfold ujs
        rw [List.foldl_append]
        exact fr
    · obtain ⟨v3, v4, v5, par, rfl, s2, hD2, fr⟩ := hP
      have e : ujs (ixs N) (bs.take gs.length) = pcs N bs := by
        rw [pr.length, List.take_length]
        rfl
      rw [e] at fr
      refine ⟨_, rfl, (N : Int), rfl, by omega, by omega, fun Z nZ => ?_⟩
      have lp := fr.2.1
      have hk : ∀ {H5 : Hp}, SameBut Z H2 H5 → Same H2 H5 := fun sb b o e => sb _ _ (ne_of_none e nZ) e
      rw [show (N : Int).toNat = N from rfl]
      refine lc_range (lo := 0) (n := N) (fun i H5 => SameBut Z H2 H5 ∧ H5 Z = some (.lst (((pcs N bs).take i).map V.int))) ⟨SameBut.upd, upd_same⟩ (fun i H5 hi hP => ?_) (fun H5 hP => ?_)
      · obtain ⟨sb, hZ⟩ := hP
        refine ⟨rfl, ?_⟩
        refine ⟨_, rfl, _, rfl, D, par, _, N, i, by rw [Int.zero_add]; rfl, .inl (.inl (hk sb _ _ hD2)), fr, hi, _, hZ, by rw [List.length_map, List.length_take]; omega, sb.trans SameBut.upd, ?_⟩
        rw [upd_same, take_snoc (by omega), List.map_append]
        rfl
      · obtain ⟨sb, hZ⟩ := hP
        rw [List.take_of_length_le (Nat.le_of_eq lp)] at hZ
        exact q Z H5 (Same.trans s2 (hk sb)) (none_back s2 nZ) hZ
end
section
variable {P : Program} {w : World} {K : PySem.W.Frag} {mg : Str → Option Value} {base : Heap}
/-! ### hidden_count -/
def spHidden (K : PySem.W.Frag) : Sp := fun vs H Q _ => ∃ (a b : Addr) (ms sh : List Int), vs = [.ref a, .ref b] ∧ SqL K H a (ms.map V.int) ∧ SqL K H b (sh.map V.int) ∧ ms.length < 32 ∧ (∀ k ∈ ms, 0 ≤ k ∧ k < 32) ∧ sh.length < 64 ∧ Q (.int (hid ms sh : Nat)) H
theorem ok_hidden_count {f : Addr} {fd : FuncData} (F : Fun K "hidden_count" "hidden_count" s_hidden_count f fd) (z_len : mg "len" = none) (z_set : mg "set" = none) : FnOk P w K mg base CX0 1 f fd ["marks", "shown"] (spHidden K) := by
  refine F.ok sc_hidden_count (fun vs H Q E h => ?_) (fun cdv A outer s H vs Q E hr h => ?_)
  · obtain ⟨a, b, ms, sh, rfl, _⟩ := h
    rfl
  · obtain ⟨a, b, ms, sh, rfl, ha, hb, l1, b1, l2, q⟩ := h
    refine ⟨_, (pss_one (ps_ret (SD.pe_lenSub rfl rfl z_len rfl z_set (pv 0) (pv 1)))), ?_⟩
    refine ⟨_, rfl, a, ms, rfl, ha, l1, b1, _, rfl, b, sh, rfl, hb, l2, fun L nd mem => ?_⟩
    rw [hid_is nd mem]
    exact q
end

section
variable {P : Program} {w : World} {K : PySem.W.Frag} {mg : Str → Option Value} {base : Heap}
/-! ### put -/
def putG (n : Nat) (l1 l2 : List Int) : List (List Int) := blocksOf l1 ++ (blocksOf l2).map fun b => b.map fun p => (n : Int) + p
def putM (n m q : Nat) (l1 l2 : List Int) : List Int := pcs (n + m + q) (putG n l1 l2)
def putS (n m q : Nat) (l1 l2 : List Int) : List Int := (putM n m q l1 l2).take n ++ (putM n m q l1 l2).drop (n + m)
def spPut (CD CB CT : Addr) : Sp := fun vs H Q E => ∃ (v u : V) (n m : Int) (bs : List (List Int)) (k q : Int) (cs : List (List Int)), vs = [v, u] ∧ DGv H v n m bs ∧ DgOk n m bs ∧ DGv H u k q cs ∧ DgOk k q cs ∧
  ((¬ IsDg n m bs ∧ ∀ H', Same H H' → E (.ref CD) none H') ∨ ∃ (n' m' : Nat) (l1 : List Int), n = n' ∧ m = m' ∧ bs = blocksOf l1 ∧ siz n m = true ∧ (l1.length : Int) = n + m ∧
    ((¬ IsDg k q cs ∧ ∀ H', Same H H' → E (.ref CD) none H') ∨ ∃ (k' q' : Nat) (l2 : List Int), k = k' ∧ q = q' ∧ cs = blocksOf l2 ∧ siz k q = true ∧ (l2.length : Int) = k + q ∧
      (m' ≠ k' → ∀ H', Same H H' → E (.ref CB) none H') ∧ (m' = k' → 12 < n' + q' → ∀ H', Same H H' → E (.ref CT) none H') ∧
      (m' = k' → n' + q' ≤ 12 → ∀ (t : Addr) (v' : V) (H' : Hp), Same H H' → H' t = some (.tup [.int (hid (putM n' m' q' l1 l2) (putS n' m' q' l1 l2) : Nat), v']) → DgAt H' v' n' q' (putS n' m' q' l1 l2) → Q (.ref t) H')))
/-- a list of points, elsewhere -/
def LQ (Z : Addr) (H : Hp) (v : V) (b : List Int) : Prop := ∃ t, v = .ref t ∧ t ≠ Z ∧ H t = some (.lst (b.map V.int))
theorem putG_bd {n m q : Nat} {l1 l2 : List Int} (h1 : l1.length = n + m) (h2 : l2.length = m + q) : GBd (n + m + q) (putG n l1 l2) := fun g hg => by
  rcases List.mem_append.mp hg with hg | hg
  · have := blocks_gbd l1 g hg
    exact ⟨this.1, fun p hp => by have := this.2 p hp; omega⟩
  · obtain ⟨b, hb, rfl⟩ := List.mem_map.mp hg
    have := blocks_gbd l2 b hb
    refine ⟨fun z => this.1 (List.map_eq_nil_iff.mp z), fun p hp => ?_⟩
    obtain ⟨x, hx, rfl⟩ := List.mem_map.mp hp
    have := this.2 x hx
    omega
theorem ok_put {f CD CB CT a_check_diagram a_piece_marks a_hidden_count a_from_labels : Addr} {tm_MOST_POINTS : Tok} {fd fd_check_diagram fd_piece_marks fd_hidden_count fd_from_labels : FuncData} (F : Fun K "put" "put" s_put f fd) (TB : ErrC K mg "BadNumber" CB) (TT0 : ErrC K mg "TooLarge" CT) (z_list : mg "list" = none) (m_MOST_POINTS : mg "MOST_POINTS" = some (.int 12 tm_MOST_POINTS))
    (G_check_diagram : FnOk P w K mg base (L2N.CX P w) 3 a_check_diagram fd_check_diagram ["diagram"] (spCheckDiagram CD)) (g_check_diagram : mg "check_diagram" = some (.ref a_check_diagram)) (k_check_diagram : PySem.W.keepIn K (.ref a_check_diagram) = true) (b_check_diagram : Binds K fd_check_diagram ["diagram"] [])
    (G_piece_marks : FnOk P w K mg base CX0 2 a_piece_marks fd_piece_marks ["size", "groups"] (spPieceMarks K)) (g_piece_marks : mg "piece_marks" = some (.ref a_piece_marks)) (k_piece_marks : PySem.W.keepIn K (.ref a_piece_marks) = true) (b_piece_marks : Binds K fd_piece_marks ["size", "groups"] [])
    (G_hidden_count : FnOk P w K mg base CX0 1 a_hidden_count fd_hidden_count ["marks", "shown"] (spHidden K)) (g_hidden_count : mg "hidden_count" = some (.ref a_hidden_count)) (k_hidden_count : PySem.W.keepIn K (.ref a_hidden_count) = true) (b_hidden_count : Binds K fd_hidden_count ["marks", "shown"] [])
    (G_from_labels : FnOk P w K mg base (L2N.CX P w) 3 a_from_labels fd_from_labels ["n", "m", "marks"] (spFromLabels K CB)) (g_from_labels : mg "from_labels" = some (.ref a_from_labels)) (k_from_labels : PySem.W.keepIn K (.ref a_from_labels) = true) (b_from_labels : Binds K fd_from_labels ["n", "m", "marks"] []) :
    FnOk P w K mg base (L2N.CX P w) 4 f fd ["one", "other"] (spPut CD CB CT) := by
  obtain ⟨gc_BadNumber, x_BadNumber, kc_BadNumber, bc_BadNumber, tc_BadNumber⟩ := TB
  obtain ⟨gc_TooLarge, x_TooLarge, kc_TooLarge, bc_TooLarge, tc_TooLarge⟩ := TT0
  have r_MOST_POINTS : RelV (.int 12) (.int 12 tm_MOST_POINTS) := ⟨_, rfl⟩
  refine F.okXN sc_put (fun vs H Q E h => ?_) (fun cdv A outer s H vs Q E hr h => ?_)
  · obtain ⟨v, u, n, m, bs, k, q, cs, rfl, _⟩ := h
    rfl
  · obtain ⟨v, u, n, m, bs, k, q, cs, rfl, hv, hb, hu, hc, h⟩ := h
    refine ⟨_, (pss_cons (ps_expr (pe_call G_check_diagram (hr.mono (by decide)) rfl g_check_diagram k_check_diagram b_check_diagram .nil (L2N.passes_call (L2N.takes_of rfl rfl rfl rfl) (fun _ _ _ _ h => h)) (pa_cons (pv 0) pa_nil)))
  (pss_cons (ps_expr (pe_call G_check_diagram (hr.mono (by decide)) rfl g_check_diagram k_check_diagram b_check_diagram .nil (L2N.passes_call (L2N.takes_of rfl rfl rfl rfl) (fun _ _ _ _ h => h)) (pa_cons (pv 1) pa_nil)))
  (pss_cons (ps_asg (pv 0) (pg_tup rfl (pgs_cons (pg_name (i := 2) sc_put.nd rfl (.inr rfl)) (pgs_cons (pg_name (i := 3) sc_put.nd rfl (.inl rfl)) (pgs_cons (pg_name (i := 4) sc_put.nd rfl (.inl rfl)) pgs_nil)))))
  (pss_cons (ps_asg (pv 1) (pg_tup rfl (pgs_cons (pg_name (i := 5) sc_put.nd rfl (.inl rfl)) (pgs_cons (pg_name (i := 6) sc_put.nd rfl (.inl rfl)) (pgs_cons (pg_name (i := 7) sc_put.nd rfl (.inl rfl)) pgs_nil)))))
  (pss_cons (ps_if (pt_cmpR op_ne (pv 3) (pv 5) (nomark _)) (pss_one (L2N.ps_raise rfl (L2N.takes_of rfl rfl rfl rfl) (L2N.pmk_own PySem.F.excBase_ValueError x_BadNumber gc_BadNumber kc_BadNumber (raises_own bc_BadNumber tc_BadNumber) rfl))) pss_nil)
  (pss_cons (ps_if (pt_cmpR op_gt (pe_op op_add (pv 2) (pv 6)) (pe_glob rfl m_MOST_POINTS r_MOST_POINTS) (nomark _)) (pss_one (L2N.ps_raise rfl (L2N.takes_of rfl rfl rfl rfl) (L2N.pmk_own PySem.F.excBase_ValueError x_TooLarge gc_TooLarge kc_TooLarge (raises_own bc_TooLarge tc_TooLarge) rfl))) pss_nil)
  (pss_cons (ps_set (i := 8) sc_put.nd rfl (.inl rfl) (pe_op op_cat (pe_callTy call_list_of (by rfl) z_list boot_list (pa_cons (pv 4) pa_nil)) (pe_lc (own := [("block", 11)]) rfl sc_put.nd (pi_tup (pv 7)) (blkOk_by (N := ["one", "other", "n", "m", "upper", "k", "q", "lower", "groups", "marks", "shown", "block", "point"]) (sc := defScope s_put) (by first | decide +kernel | rfl)) (fun _ _ _ _ _ => (pg_name (i := 11) sc_put.nd rfl (.inl rfl))) (fun _ _ _ _ _ => pts_nil) (fun _ _ _ _ _ => (pe_lc (own := [("point", 12)]) rfl sc_put.nd (pi_tupK (K := K) rfl (pv 11)) (blkOk_by (N := ["one", "other", "n", "m", "upper", "k", "q", "lower", "groups", "marks", "shown", "block", "point"]) (by first | decide +kernel | rfl)) (fun _ _ _ _ _ => (pg_name (i := 12) sc_put.nd rfl (.inl rfl))) (fun _ _ _ _ _ => pts_nil) (fun _ _ _ _ _ => (pe_op op_add (pv 2) (pv 12))))))))
  (pss_cons (ps_set (i := 9) sc_put.nd rfl (.inl rfl) (pe_call G_piece_marks (hr.mono (by decide)) rfl g_piece_marks k_piece_marks b_piece_marks .nil pass0 (pa_cons (pe_op op_add (pe_op op_add (pv 2) (pv 3)) (pv 6)) (pa_cons (pv 8) pa_nil))))
  (pss_cons (ps_set (i := 10) sc_put.nd rfl (.inl rfl) (pe_op op_cat (pe_slice sl_list (pv 9) po_none (po_some (pv 2))) (pe_slice sl_list (pv 9) (po_some (pe_op op_add (pv 2) (pv 3))) po_none)))
  (pss_one (ps_ret (pe_tup (pa_cons (pe_call G_hidden_count (hr.mono (by decide)) rfl g_hidden_count k_hidden_count b_hidden_count .nil pass0 (pa_cons (pv 9) (pa_cons (pv 10) pa_nil))) (pa_cons (pe_call G_from_labels (hr.mono (by decide)) rfl g_from_labels k_from_labels b_from_labels .nil (L2N.passes_call (L2N.takes_of rfl rfl rfl rfl) (fun _ _ _ _ h => h)) (pa_cons (pv 2) (pa_cons (pv 6) (pa_cons (pv 10) pa_nil)))) pa_nil)))))))))))))), ?_⟩
    have szl : 20000 ≤ sizeLine := by decide
    rcases h with ⟨nd, e⟩ | ⟨n', m', l1, rfl, rfl, rfl, sz1, hl1, h⟩
    · exact ⟨_, rfl, v, n, m, bs, rfl, hv, hb, fun H1 s1 => ⟨fun dg => absurd dg nd, fun _ => e H1 s1⟩⟩
    refine ⟨_, rfl, v, _, _, _, rfl, hv, hb, fun H1 s1 => ⟨fun dg1 => ?_, fun nd => absurd (isDg_blocks sz1 hl1) nd⟩⟩
    rcases h with ⟨nd, e⟩ | ⟨k', q', l2, rfl, rfl, rfl, sz2, hl2, qB, qT, q⟩
    · exact ⟨_, rfl, u, k, q, cs, rfl, hu.same s1, hc, fun H2 s2 => ⟨fun dg => absurd dg nd, fun _ => e H2 (Same.trans s1 s2)⟩⟩
    refine ⟨_, rfl, u, _, _, _, rfl, hu.same s1, hc, fun H2 s2 => ⟨fun dg2 => ?_, fun nd => absurd (isDg_blocks sz2 hl2) nd⟩⟩
    have s02 := Same.trans s1 s2
    obtain ⟨t, vb, rfl, ht, tb, ts, rfl, htb, pr⟩ := DGv.same s02 hv
    obtain ⟨t', vb', rfl, ht', tb', ts', rfl, htb', pr'⟩ := DGv.same s02 hu
    have z1 := siz_iff.mp sz1
    have z2 := siz_iff.mp sz2
    refine ⟨_, rfl, t, _, rfl, .inl (.inl ht), rfl, _, _, rfl, _, _, rfl, _, _, rfl, rfl, ?_⟩
    refine ⟨_, rfl, t', _, rfl, .inl (.inl ht'), rfl, _, _, rfl, _, _, rfl, _, _, rfl, rfl, ?_⟩
    refine ⟨_, rfl, _, rfl, rfl, _, rfl, ?_⟩
    by_cases c : m' = k'
    · subst c
      refine ite_same ?_
      refine ⟨_, rfl, _, rfl, _, _, rfl, rfl, _, _, rfl, rfl, _, rfl, ?_⟩
      by_cases c2 : n' + q' ≤ 12
      · refine if_neg_of (by rw [decide_eq_true_eq]; omega) ?_
        have q := q rfl c2
        refine ⟨_, rfl, tb, ts, rfl, .inr (.inl (.inl htb)), fun Lb nLb => ?_⟩
        have s3 := same_upd (o := .lst ts) nLb
        have hLb : upd H2 Lb (.lst ts) Lb = some (.lst ts) := upd_same
        revert s3 hLb
        generalize upd H2 Lb (.lst ts) = H3
        intro s3 hLb
        have htb3 := s3 _ _ htb'
        refine ⟨_, rfl, tb', rfl, ⟨_, .inl (.inl htb3)⟩, fun Z nZ => ?_⟩
        have hk : ∀ {H5 : Hp}, SameBut Z H3 H5 → Same H3 H5 := fun sb b o e => sb _ _ (ne_of_none e nZ) e
        refine lc_tup (K := K) (xs := ts') (fun i H5 => SameBut Z H3 H5 ∧ ∃ es, H5 Z = some (.lst es) ∧ Paired (LQ Z H5) es (((blocksOf l2).take i).map fun b => b.map fun p => (n' : Int) + p)) ⟨SameBut.upd, [], upd_same, .nil⟩ (fun i H5 _ hP => .inl (.inl (hk hP.1 _ _ htb3))) (fun i x H5 hx hP => ?_) (fun H5 hP => ?_)
        · obtain ⟨sb, es, hZ, pe⟩ := hP
          obtain ⟨b, eb, hb0⟩ := paired_get pr' hx
          obtain ⟨a, rfl, ha⟩ := hb0.same (Same.trans s3 (hk sb))
          have mb := List.mem_of_getElem? eb
          have fb := dg2.few.2 b mb
          have fl := dg2.few.1
          have li := (List.getElem?_eq_some_iff.mp eb).1
          have lt : es.length = i := by
            rw [pe.length, List.length_map, List.length_take]
            have := (List.getElem?_eq_some_iff.mp eb).1
            omega
          refine ⟨rfl, ?_⟩
          refine ⟨_, rfl, a, rfl, ⟨_, .inl (.inl ha)⟩, fun Y nY => ?_⟩
          have nYZ : Y ≠ Z := fun z => by rw [z, hZ] at nY; cases nY
          have hk2 : ∀ {H6 : Hp}, SameBut Y H5 H6 → Same H5 H6 := fun sb b o e => sb _ _ (ne_of_none e nY) e
          refine lc_tup (K := K) (xs := b.map V.int) (fun j H6 => SameBut Y H5 H6 ∧ H6 Y = some (.lst (((b.take j).map fun p => (n' : Int) + p).map V.int))) ⟨SameBut.upd, upd_same⟩ (fun j H6 _ hP => .inl (.inl (hk2 hP.1 _ _ ha))) (fun j y H6 hy hP => ?_) (fun H6 hP => ?_)
          · obtain ⟨sb2, hY⟩ := hP
            have lj : j < b.length := by have := (List.getElem?_eq_some_iff.mp hy).1; rwa [List.length_map] at this
            have ez : (b.map V.int)[j]? = some (.int (co b j)) := by rw [List.getElem?_map, co_get lj]; rfl
            obtain rfl : V.int (co b j) = y := Option.some.inj (ez.symm.trans hy)
            refine ⟨rfl, ?_⟩
            refine ⟨_, rfl, _, rfl, _, _, rfl, rfl, _, hY, by rw [List.length_map, List.length_map, List.length_take]; omega, sb2.trans SameBut.upd, ?_⟩
            rw [upd_same, take_snoc lj, List.map_append, List.map_append]
            rfl
          · obtain ⟨sb2, hY⟩ := hP
            rw [List.length_map, List.take_length] at hY
            have s6 := hk2 sb2
            refine ⟨es, s6 _ _ hZ, by omega, (sb.trans (Same.but s6)).trans SameBut.upd, es ++ [.ref Y], upd_same, ?_⟩
            rw [List.take_succ, eb, List.map_append]
            have one : LQ Z (upd H6 Z (.lst (es ++ [.ref Y]))) (.ref Y) (b.map fun p => (n' : Int) + p) := ⟨Y, rfl, nYZ, by rw [upd_ne nYZ]; exact hY⟩
            have old := Paired.mapP (G := LQ Z (upd H6 Z (.lst (es ++ [.ref Y])))) pe fun v b (h : LQ Z H5 v b) => (by
              obtain ⟨q0, e0, nz, h0⟩ := h
              exact ⟨q0, e0, nz, by rw [upd_ne nz]; exact s6 _ _ h0⟩)
            exact paired_snoc one old
        · obtain ⟨sb, es, hZ, pe⟩ := hP
          have s4 := hk sb
          have lts : ts'.length = (blocksOf l2).length := pr'.length
          rw [lts, List.take_length] at pe
          have f1 := dg1.few.1
          have f2 := dg2.few.1
          refine ⟨_, _, _, _, rfl, rfl, s4 _ _ hLb, hZ, by rw [pr.length, pe.length, List.length_map]; omega, fun G nG => ?_⟩
          have s5 := same_upd (o := .lst (ts ++ es)) nG
          have hG : upd H5 G (.lst (ts ++ es)) G = some (.lst (ts ++ es)) := upd_same
          have pg : Paired (Grp K (upd H5 G (.lst (ts ++ es)))) (ts ++ es) (putG n' l1 l2) := by
            refine paired_app (Paired.mapP pr fun _ _ h => ?_) (Paired.mapP pe fun _ _ h => ?_)
            · obtain ⟨a0, e0, h0⟩ := h.same (Same.trans s3 (Same.trans s4 s5))
              exact ⟨a0, e0, .inr (.inl (.inl h0))⟩
            · obtain ⟨a0, e0, _, h0⟩ := h
              exact ⟨a0, e0, .inl (.inl (.inl (s5 _ _ h0)))⟩
          revert s5 hG pg
          generalize upd H5 G (.lst (ts ++ es)) = H6
          intro s5 hG pg
          have lN1 : l1.length = n' + m' := by omega
          have lN2 : l2.length = m' + q' := by omega
          have gb := putG_bd lN1 lN2
          refine ⟨_, rfl, _, rfl, _, _, rfl, rfl, _, rfl, _, _, rfl, rfl, _, rfl, n' + m' + q', G, _, _, rfl, .inl (.inl hG), pg, gb, by omega, fun D H7 s7 nD hD => ?_⟩
          have lM : (putM n' m' q' l1 l2).length = n' + m' + q' := (ks_pcs gb).len
          rw [show pcs (n' + m' + q') (putG n' l1 l2) = putM n' m' q' l1 l2 from rfl] at hD
          refine ⟨_, rfl, _, rfl, _, rfl, D, _, rfl, .inl (.inl hD), fun p1 np1 => ?_⟩
          have q1 := same_upd (o := .lst (cutV ((putM n' m' q' l1 l2).map V.int) none (some (n' : Int)))) np1
          refine ⟨_, rfl, _, rfl, _, rfl, _, _, rfl, rfl, _, rfl, D, _, rfl, .inl (.inl (q1 _ _ hD)), fun p2 np2 => ?_⟩
          have q2 := same_upd (o := .lst (cutV ((putM n' m' q' l1 l2).map V.int) (some ((n' : Int) + (m' : Int))) none)) np2
          rw [cutI_to (by omega) (by omega), cutI_from (by omega) (by omega)] at *
          refine ⟨_, _, _, _, rfl, rfl, q2 _ _ upd_same, upd_same, by rw [List.length_map, List.length_map, List.length_take, List.length_drop]; omega, fun p3 np3 => ?_⟩
          have eS : ((putM n' m' q' l1 l2).take (n' : Int).toNat).map V.int ++ ((putM n' m' q' l1 l2).drop ((n' : Int) + (m' : Int)).toNat).map V.int = (putS n' m' q' l1 l2).map V.int := by
            unfold putS
            rw [← List.map_append, show ((n' : Int) + (m' : Int)).toNat = n' + m' by omega]
            rfl
          have lS : (putS n' m' q' l1 l2).length = n' + q' := by
            unfold putS
            rw [List.length_append, List.length_take, List.length_drop, lM]
            omega
          have q3 := same_upd (o := .lst (((putM n' m' q' l1 l2).take (n' : Int).toNat).map V.int ++ ((putM n' m' q' l1 l2).drop ((n' : Int) + (m' : Int)).toNat).map V.int)) np3
          have s8 := Same.trans q1 (Same.trans q2 q3)
          have hD8 := s8 _ _ hD
          revert s8 hD8
          rw [eS]
          generalize e8 : upd (upd (upd H7 p1 _) p2 _) p3 (.lst ((putS n' m' q' l1 l2).map V.int)) = H8
          intro s8 hD8
          have hS8 : H8 p3 = some (.lst ((putS n' m' q' l1 l2).map V.int)) := by rw [← e8]; exact upd_same
          have s08 := Same.trans s02 (Same.trans s3 (Same.trans s4 (Same.trans s5 (Same.trans s7 s8))))
          refine ⟨_, rfl, _, rfl, D, p3, _, _, rfl, .inl (.inl hD8), .inl (.inl hS8), by omega, fun k hk => ?_, by omega, ?_⟩
          · have := pcs_mem gb k hk
            omega
          · refine ⟨_, rfl, _, rfl, _, rfl, _, _, p3, _, rfl, .inl (.inl hS8), by omega, fun z => ?_, fun sz3 => ⟨fun z => absurd (show ((putS n' m' q' l1 l2).length : Int) = (n' : Int) + (q' : Int) by omega) z, fun _ v' H9 s9 dv => ?_⟩⟩
            · have : siz (n' : Int) (q' : Int) = true := siz_iff.mpr (by omega)
              rw [this] at z
              exact nomatch z
            · refine ⟨(by show 2 ≤ sizeLine; decide), fun t3 nt3 => ?_⟩
              have q4 := same_upd (o := .tup [.int (hid (putM n' m' q' l1 l2) (putS n' m' q' l1 l2) : Nat), v']) nt3
              exact q t3 v' _ (Same.trans s08 (Same.trans s9 q4)) upd_same ⟨dv.same q4, siz_iff.mpr (by omega), by omega⟩
      · refine if_pos_of (by rw [decide_eq_true_eq]; omega) (qT rfl (by omega) H2 s02)
    · exact if_pos_of (by rw [decide_eq_false fun z => c (by have := V.int.inj z; omega)]; rfl) (qB c H2 s02)
end

/-! ### one above another: the same in both ways -/
def inoutL (a b : Nat) (z : List Int) : List Int := z.take a ++ z.drop b
theorem inout_len {a b : Nat} {z : List Int} (h : a ≤ b) (hb : b ≤ z.length) : (inoutL a b z).length = a + (z.length - b) := by
  unfold inoutL
  rw [List.length_append, List.length_take, List.length_drop]
  omega
theorem co_drop (z : List Int) (b i : Nat) : co (z.drop b) i = co z (b + i) := by
  unfold co
  rw [List.getD_eq_getElem?_getD, List.getD_eq_getElem?_getD, List.getElem?_drop]
theorem co_takeB {z : List Int} {a i : Nat} (h : i < a) : co (z.take a) i = co z i := by
  unfold co
  rw [List.getD_eq_getElem?_getD, List.getD_eq_getElem?_getD, List.getElem?_take_of_lt h]
theorem inout_co {a b : Nat} {z : List Int} (h : a ≤ b) (hb : b ≤ z.length) (i : Nat) (hi : i < a + (z.length - b)) : co (inoutL a b z) i = if i < a then co z i else co z (b + (i - a)) := by
  have la : (z.take a).length = a := by rw [List.length_take]; omega
  unfold inoutL
  by_cases c : i < a
  · rw [if_pos c, co_app_l (by omega), co_takeB c]
  · rw [if_neg c]
    have := co_app_r (a := z.take a) (b := z.drop b) (i := i - a) (by rw [List.length_drop]; omega)
    rw [la, show a + (i - a) = i by omega] at this
    rw [this, co_drop]
theorem inout_mem {a b : Nat} {z : List Int} {x : Int} (h : a ≤ b) (hb : b ≤ z.length) : x ∈ inoutL a b z ↔ ∃ p, (p < a ∨ b ≤ p) ∧ p < z.length ∧ co z p = x := by
  constructor
  · intro hx
    obtain ⟨i, hi, e⟩ := mem_get hx
    rw [inout_len h hb] at hi
    rw [inout_co h hb i hi] at e
    by_cases c : i < a
    · rw [if_pos c] at e
      exact ⟨i, .inl c, by omega, e⟩
    · rw [if_neg c] at e
      exact ⟨b + (i - a), .inr (by omega), by omega, e⟩
  · rintro ⟨p, hp, hl, rfl⟩
    rcases hp with hp | hp
    · have := inout_co h hb p (by omega)
      rw [if_pos hp] at this
      rw [← this]
      exact co_mem (by rw [inout_len h hb]; omega)
    · have := inout_co h hb (a + (p - b)) (by omega)
      rw [if_neg (by omega), show b + (a + (p - b) - a) = p by omega] at this
      rw [← this]
      exact co_mem (by rw [inout_len h hb]; omega)
def Fput (n m q : Nat) (l1 l2 : List Int) (i j : Nat) : Prop := (i < n + m ∧ j < n + m ∧ co l1 i = co l1 j) ∨ ∃ a b, a < m + q ∧ b < m + q ∧ i = n + a ∧ j = n + b ∧ co l2 a = co l2 b
theorem map_add_toNat {n : Nat} {g : List Int} (hg : g ≠ []) (h : ∀ p ∈ g, 0 ≤ p) : (co (g.map fun p => (n : Int) + p) 0).toNat = n + (co g 0).toNat := by
  have l0 : 0 < g.length := by cases g with | nil => exact absurd rfl hg | cons _ _ => exact Nat.zero_lt_succ _
  rw [co_map_lt l0]
  have := h _ (co_mem l0)
  omega
theorem ks_putM {n m q : Nat} {l1 l2 : List Int} (h1 : l1.length = n + m) (h2 : l2.length = m + q) : Ks (n + m + q) (putM n m q l1 l2) (Fput n m q l1 l2) := by
  refine (ks_pcs (putG_bd h1 h2)).congr (fun i j h => ?_) (fun i j h => ?_) (fun i j h => ?_)
  · rcases h with ⟨a, b, _⟩ | ⟨a, b, ha, hb, rfl, rfl, _⟩
    · exact ⟨by omega, by omega⟩
    · exact ⟨by omega, by omega⟩
  · obtain ⟨g, hg, p, hp, e1, e2⟩ := h
    rcases List.mem_append.mp hg with hg | hg
    · obtain ⟨a, b, e⟩ := blocks_ge i j ⟨g, hg, p, hp, e1, e2⟩
      exact .ed (.inl ⟨by omega, by omega, e⟩)
    · obtain ⟨b, hb, rfl⟩ := List.mem_map.mp hg
      have bb := blocks_gbd l2 b hb
      rw [← List.map_drop] at hp
      obtain ⟨x, hx, rfl⟩ := List.mem_map.mp hp
      have bx := bb.2 x (List.mem_of_mem_drop hx)
      obtain ⟨c1, c2, c3⟩ := blocks_ge (l := l2) (co b 0).toNat x.toNat ⟨b, hb, x, hx, rfl, rfl⟩
      rw [map_add_toNat bb.1 fun p hp => (bb.2 p hp).1] at e1
      exact .ed (.inr ⟨_, _, by omega, by omega, e1, by omega, c3⟩)
  · rcases h with ⟨a, b, e⟩ | ⟨a, b, ha, hb, rfl, rfl, e⟩
    · exact (ge_blocks (by omega) (by omega) e).mono fun i j ⟨g, hg, r⟩ => .ed ⟨g, List.mem_append_left _ hg, r⟩
    · refine (ge_blocks (l := l2) (i := a) (j := b) (by omega) (by omega) e).map (f := fun x => n + x) fun i j ⟨g, hg, p, hp, e1, e2⟩ => .ed ?_
      have bb := blocks_gbd l2 g hg
      have bx := bb.2 p (List.mem_of_mem_drop hp)
      refine ⟨g.map fun p => (n : Int) + p, List.mem_append_right _ (List.mem_map.mpr ⟨g, hg, rfl⟩), (n : Int) + p, by rw [← List.map_drop]; exact List.mem_map.mpr ⟨p, hp, rfl⟩, ?_, by omega⟩
      rw [map_add_toNat bb.1 fun p hp => (bb.2 p hp).1, e1]
/-- the law's own -/
def lputL (n m : Nat) : List (Nat × Nat) := (List.range m).map fun k => (n + k, n + m + k)
def lputB (n m q : Nat) (l1 l2 : List Int) : List Int := labL (blocksOf l1) (n + m) ++ (labL (blocksOf l2) (m + q)).map fun k => 100 + k
def lputJ (n m q : Nat) (l1 l2 : List Int) : List Int := jns (lputB n m q l1 l2) (lputL n m)
def lputS (n m q : Nat) (l1 l2 : List Int) : List Int := inoutL n (n + m + m) (lputJ n m q l1 l2)
def Eput (n m q : Nat) (l1 l2 : List Int) (i j : Nat) : Prop := (i < n + m ∧ j < n + m ∧ co l1 i = co l1 j) ∨ (∃ a b, a < m + q ∧ b < m + q ∧ i = n + m + a ∧ j = n + m + b ∧ co l2 a = co l2 b) ∨ ∃ k, k < m ∧ i = n + k ∧ j = n + m + k
theorem lab_ker {N : Nat} {l : List Int} (hl : l.length = N) {i j : Nat} (hi : i < N) (hj : j < N) : co (labL (blocksOf l) N) i = co (labL (blocksOf l) N) j ↔ co l i = co l j := by
  obtain ⟨g, eg, inj⟩ := labs_map (n := (N : Int)) (m := 0) (l := l) (by omega)
  rw [show ((N : Int) + 0).toNat = N by omega] at eg
  rw [eg, co_map_lt (by omega), co_map_lt (by omega)]
  exact ⟨fun e => inj _ (co_mem (by omega)) _ (co_mem (by omega)) e, fun e => by rw [e]⟩
theorem ks_lputJ {n m q : Nat} {l1 l2 : List Int} (h1 : l1.length = n + m) (h2 : l2.length = m + q) (sm : n + m ≤ 12) : Ks (n + m + m + q) (lputJ n m q l1 l2) (Eput n m q l1 l2) := by
  have L1 : (labL (blocksOf l1) (n + m)).length = n + m := labL_len _ _
  have L2 : (labL (blocksOf l2) (m + q)).length = m + q := labL_len _ _
  have lB : (lputB n m q l1 l2).length = n + m + m + q := by
    unfold lputB
    rw [List.length_append, List.length_map, L1, L2]
    omega
  have cl : ∀ i, i < n + m → co (lputB n m q l1 l2) i = co (labL (blocksOf l1) (n + m)) i := fun i hi => co_app_l (by omega)
  have cr : ∀ a, a < m + q → co (lputB n m q l1 l2) (n + m + a) = 100 + co (labL (blocksOf l2) (m + q)) a := fun a ha => by
    have := co_app_r (a := labL (blocksOf l1) (n + m)) (b := (labL (blocksOf l2) (m + q)).map fun k => 100 + k) (i := a) (by rw [List.length_map]; omega)
    rw [L1] at this
    exact this.trans (co_map_lt (by omega))
  have b1 : (blocksOf l1).length ≤ 12 := by
    have h3 := seenL_len l1 []
    have h4 : ([] : List Int).length = 0 := rfl
    unfold blocksOf
    rw [List.length_map]
    omega
  have up1 : ∀ i, i < n + m → co (lputB n m q l1 l2) i < 100 := fun i hi => by
    rw [cl i hi]
    have := labL_mem (bs := blocksOf l1) (N := n + m) _ (co_mem (k := i) (by omega))
    omega
  have lo2 : ∀ a, a < m + q → 100 ≤ co (lputB n m q l1 l2) (n + m + a) := fun a ha => by
    rw [cr a ha]
    have := labL_mem (bs := blocksOf l2) (N := m + q) _ (co_mem (k := a) (by omega))
    omega
  have k0 := ks_marks (lputB n m q l1 l2)
  rw [lB] at k0
  have kk := ks_jns (lputL n m) _ _ (fun e he => by
    obtain ⟨k, hk, rfl⟩ := List.mem_map.mp he
    have := List.mem_range.mp hk
    exact ⟨by show n + k < _; omega, by show n + m + k < _; omega⟩) k0
  refine kk.congr (fun i j h => ?_) (fun i j h => ?_) (fun i j h => ?_)
  · rcases h with ⟨a, b, _⟩ | ⟨a, b, ha, hb, rfl, rfl, _⟩ | ⟨k, hk, rfl, rfl⟩ <;> exact ⟨by omega, by omega⟩
  · rcases h with ⟨a, b, e⟩ | h
    · by_cases c1 : i < n + m
      · by_cases c2 : j < n + m
        · rw [cl i c1, cl j c2] at e
          exact .ed (.inl ⟨c1, c2, (lab_ker h1 c1 c2).mp e⟩)
        · have := lo2 (j - (n + m)) (by omega)
          rw [show n + m + (j - (n + m)) = j by omega] at this
          have := up1 i c1
          omega
      · by_cases c2 : j < n + m
        · have := lo2 (i - (n + m)) (by omega)
          rw [show n + m + (i - (n + m)) = i by omega] at this
          have := up1 j c2
          omega
        · obtain ⟨x, rfl⟩ : ∃ x, i = n + m + x := ⟨i - (n + m), by omega⟩
          obtain ⟨y, rfl⟩ : ∃ y, j = n + m + y := ⟨j - (n + m), by omega⟩
          rw [cr x (by omega), cr y (by omega)] at e
          exact .ed (.inr (.inl ⟨x, y, by omega, by omega, rfl, rfl, (lab_ker h2 (by omega) (by omega)).mp (by omega)⟩))
    · obtain ⟨k, hk, e⟩ := List.mem_map.mp h
      have e1 := congrArg Prod.fst e
      have e2 := congrArg Prod.snd e
      exact .ed (.inr (.inr ⟨k, List.mem_range.mp hk, e1.symm, e2.symm⟩))
  · rcases h with ⟨a, b, e⟩ | ⟨a, b, ha, hb, rfl, rfl, e⟩ | ⟨k, hk, rfl, rfl⟩
    · refine .ed (.inl ⟨by omega, by omega, ?_⟩)
      rw [cl i a, cl j b]
      exact (lab_ker h1 a b).mpr e
    · refine .ed (.inl ⟨by omega, by omega, ?_⟩)
      rw [cr a ha, cr b hb, (lab_ker h2 ha hb).mpr e]
    · exact .ed (.inr (List.mem_map.mpr ⟨k, List.mem_range.mpr hk, rfl⟩))
def fput (n m i : Nat) : Nat := if i < n + m then i else i - m
theorem fput_sec (n m p : Nat) : fput n m (if p < n + m then p else p + m) = p := by
  by_cases c : p < n + m
  · rw [if_pos c]
    exact if_pos c
  · rw [if_neg c]
    unfold fput
    by_cases d : p + m < n + m
    · rw [if_pos d]
      omega
    · rw [if_neg d]
      omega
theorem conn_put {n m q : Nat} {l1 l2 : List Int} {i j : Nat} (hi : i < n + m + m + q) (hj : j < n + m + m + q) : Conn (Eput n m q l1 l2) i j ↔ Conn (Fput n m q l1 l2) (fput n m i) (fput n m j) := by
  have fhi : ∀ a, fput n m (n + m + a) = n + a := fun a => by unfold fput; rw [if_neg (by omega)]; omega
  have flo : ∀ i, i < n + m → fput n m i = i := fun i h => if_pos h
  constructor
  · refine Conn.map fun i j h => ?_
    rcases h with ⟨a, b, e⟩ | ⟨a, b, ha, hb, rfl, rfl, e⟩ | ⟨k, hk, rfl, rfl⟩
    · rw [flo i a, flo j b]
      exact .ed (.inl ⟨a, b, e⟩)
    · rw [fhi, fhi]
      exact .ed (.inr ⟨a, b, ha, hb, rfl, rfl, e⟩)
    · rw [fhi, flo _ (by omega)]
      exact .rf _
  · intro c
    have near : ∀ a, a < m + q → Conn (Eput n m q l1 l2) (if n + a < n + m then n + a else n + a + m) (n + m + a) := fun a ha => by
      by_cases c : n + a < n + m
      · rw [if_pos c]
        exact .ed (.inr (.inr ⟨a, by omega, rfl, rfl⟩))
      · rw [if_neg c, show n + a + m = n + m + a by omega]
        exact .rf _
    have back := Conn.map (F := Eput n m q l1 l2) (f := fun x => if x < n + m then x else x + m) (fun i j h => ?_) c
    · have home : ∀ i, i < n + m + m + q → Conn (Eput n m q l1 l2) (if fput n m i < n + m then fput n m i else fput n m i + m) i := fun i hi => by
        by_cases c : i < n + m
        · rw [flo i c, if_pos c]
          exact .rf _
        · obtain ⟨a, rfl⟩ : ∃ a, i = n + m + a := ⟨i - (n + m), by omega⟩
          rw [fhi]
          exact near a (by omega)
      exact ((home i hi).sy.tr back).tr (home j hj)
    · rcases h with ⟨a, b, e⟩ | ⟨a, b, ha, hb, rfl, rfl, e⟩
      · show Conn _ (if i < n + m then i else i + m) (if j < n + m then j else j + m)
        rw [if_pos a, if_pos b]
        exact .ed (.inl ⟨a, b, e⟩)
      · exact ((near a ha).tr (.ed (.inr (.inl ⟨a, b, ha, hb, rfl, rfl, e⟩)))).tr (near b hb).sy
theorem put_same {n m q : Nat} {l1 l2 : List Int} (h1 : l1.length = n + m) (h2 : l2.length = m + q) (sm : n + m ≤ 12) : hid (lputJ n m q l1 l2) (lputS n m q l1 l2) = hid (putM n m q l1 l2) (putS n m q l1 l2) ∧ blocksOf (lputS n m q l1 l2) = blocksOf (putS n m q l1 l2) := by
  have kM := ks_putM h1 h2
  have kJ := ks_lputJ h1 h2 sm
  have eqv : ∀ i j, i < n + m + m + q → j < n + m + m + q → (co (lputJ n m q l1 l2) i = co (lputJ n m q l1 l2) j ↔ co (putM n m q l1 l2) (fput n m i) = co (putM n m q l1 l2) (fput n m j)) := fun i j hi hj => by
    have f1 : fput n m i < n + m + q := by unfold fput; split <;> omega
    have f2 : fput n m j < n + m + q := by unfold fput; split <;> omega
    rw [kJ.eq i j hi hj, kM.eq _ _ f1 f2]
    exact conn_put hi hj
  have lJ := kJ.len
  have lM := kM.len
  have sS : putS n m q l1 l2 = inoutL n (n + m) (putM n m q l1 l2) := rfl
  constructor
  · refine hid_map (fput n m) (fun i hi => by rw [lJ] at hi; rw [lM]; unfold fput; split <;> omega) (fun i hi => ?_) (fun i j hi hj => by rw [lJ] at hi hj; exact eqv i j hi hj) fun i hi => ?_
    · rw [lM] at hi
      exact ⟨if i < n + m then i else i + m, by rw [lJ]; split <;> omega, by rw [fput_sec]⟩
    · rw [lJ] at hi
      rw [sS]
      unfold lputS
      rw [inout_mem (by omega) (by omega), inout_mem (by omega) (by omega)]
      constructor
      · rintro ⟨p, hp, hl, e⟩
        rw [lJ] at hl
        refine ⟨fput n m p, ?_, by rw [lM]; unfold fput; split <;> omega, (eqv p i hl hi).mp e⟩
        unfold fput
        split <;> omega
      · rintro ⟨p, hp, hl, e⟩
        rw [lM] at hl
        refine ⟨if p < n + m then p else p + m, ?_, by rw [lJ]; split <;> omega, ?_⟩
        · split <;> omega
        · refine (eqv _ i (by split <;> omega) hi).mpr ?_
          rw [fput_sec]
          exact e
  · refine KerEq.blocks ⟨?_, fun i j hi hj => ?_⟩
    · rw [sS]
      unfold lputS
      rw [inout_len (by omega) (by omega), inout_len (by omega) (by omega), lJ, lM]
      omega
    · rw [sS, inout_len (by omega) (by omega), lM] at hi hj
      rw [sS]
      unfold lputS
      rw [inout_co (by omega) (by omega) i (by omega), inout_co (by omega) (by omega) j (by omega), inout_co (by omega) (by omega) i (by omega), inout_co (by omega) (by omega) j (by omega)]
      have f : ∀ i, i < n + (n + m + q - (n + m)) → ∃ p, p < n + m + m + q ∧ (if i < n then co (lputJ n m q l1 l2) i else co (lputJ n m q l1 l2) (n + m + m + (i - n))) = co (lputJ n m q l1 l2) p ∧ (if i < n then co (putM n m q l1 l2) i else co (putM n m q l1 l2) (n + m + (i - n))) = co (putM n m q l1 l2) (fput n m p) := fun i hi => by
        by_cases c : i < n
        · refine ⟨i, by omega, if_pos c, ?_⟩
          rw [if_pos c]
          congr 1
          unfold fput
          rw [if_pos (by omega)]
        · refine ⟨n + m + m + (i - n), by omega, if_neg c, ?_⟩
          rw [if_neg c]
          congr 1
          unfold fput
          rw [if_neg (by omega)]
          omega
      obtain ⟨p, hp, e1, e2⟩ := f i hi
      obtain ⟨r, hr, e3, e4⟩ := f j hj
      rw [e1, e2, e3, e4]
      exact (eqv p r hp hr).symm

/-! ### three one above another -/
theorem two_hid {NT NR NP : Nat} {T R P S shT shR : List Int} {e ι : Nat → Nat} {oT oR : Nat → Prop} (lT : T.length = NT) (lR : R.length = NR) (lP : P.length = NP)
    (he : ∀ i, i < NR → e i < NT) (hι : ∀ p, p < NP → ι p < NT)
    (h1 : ∀ i j, i < NR → j < NR → (co R i = co R j ↔ co T (e i) = co T (e j)))
    (h2 : ∀ p, p < NP → co P p ∉ S → ∀ y, y < NT → co T (ι p) = co T y → ∃ p', p' < NP ∧ y = ι p' ∧ co P p' = co P p)
    (hinj : ∀ p p', p < NP → p' < NP → ι p = ι p' → p = p')
    (h3 : ∀ p p', p < NP → p' < NP → co P p = co P p' → co T (ι p) = co T (ι p'))
    (h4 : ∀ x, x < NT → (∃ i, i < NR ∧ co T (e i) = co T x) ∨ ∃ p, p < NP ∧ x = ι p ∧ co P p ∉ S)
    (h5 : ∀ x, x < NT → oT x → ∃ i, i < NR ∧ oR i ∧ e i = x) (h5' : ∀ i, i < NR → oR i → oT (e i))
    (h7 : ∀ i p, i < NR → p < NP → e i = ι p → co P p ∈ S)
    (sT : ∀ k, k ∈ shT ↔ ∃ x, x < NT ∧ oT x ∧ co T x = k) (sR : ∀ k, k ∈ shR ↔ ∃ x, x < NR ∧ oR x ∧ co R x = k) :
    hid T shT = hid P S + hid R shR := by
  have memF : ∀ (b sb : List Int) k, k ∈ (seenL [] b).filter (fun k => decide (k ∉ sb)) ↔ k ∈ b ∧ k ∉ sb := fun b sb k => by
    rw [List.mem_filter, seenL_mem, decide_eq_true_eq]
    exact ⟨fun z => ⟨z.1.elim (fun q => nomatch q) id, z.2⟩, fun z => ⟨.inr z.1, z.2⟩⟩
  have ndF : ∀ (b sb : List Int), ((seenL [] b).filter fun k => decide (k ∉ sb)).Nodup := fun b sb => (seenL_nodup b [] List.nodup_nil).filter _
  have iP : ∀ {v}, v ∈ P → P.idxOf v < NP ∧ co P (P.idxOf v) = v := fun hv => by rw [← lP]; exact ixf_co hv
  have iR : ∀ {v}, v ∈ R → R.idxOf v < NR ∧ co R (R.idxOf v) = v := fun hv => by rw [← lR]; exact ixf_co hv
  have key : ∀ i p, i < NR → p < NP → co P p ∉ S → co T (e i) ≠ co T (ι p) := fun i p hi hp hn z => by
    obtain ⟨p', hp', ey, ev⟩ := h2 p hp hn (e i) (he i hi) z.symm
    exact hn (by rw [← ev]; exact h7 i p' hi hp' ey)
  have e0 : hid P S + hid R shR = (((seenL [] P).filter fun k => decide (k ∉ S)).map (fun v => co T (ι (P.idxOf v))) ++ ((seenL [] R).filter fun k => decide (k ∉ shR)).map fun v => co T (e (R.idxOf v))).length := by
    rw [List.length_append, List.length_map, List.length_map]
    rfl
  rw [e0]
  refine (hid_is ?_ fun k => ?_).symm
  · refine List.nodup_append.mpr ⟨?_, ?_, ?_⟩
    · refine List.Pairwise.map _ (R := fun x y => (x ∈ P ∧ x ∉ S) ∧ y ∈ P ∧ x ≠ y) (fun x y ⟨hx, hy, ne⟩ z => ?_) (List.Pairwise.imp_of_mem (fun hx hy ne => ⟨(memF _ _ _).mp hx, ((memF _ _ _).mp hy).1, ne⟩) (ndF P S))
      have m1 := iP hx.1
      have m2 := iP hy
      obtain ⟨p', hp', ey, ev⟩ := h2 _ m1.1 (by rw [m1.2]; exact hx.2) _ (hι _ m2.1) z
      have := hinj _ _ m2.1 hp' ey
      rw [← this, m2.2, m1.2] at ev
      exact ne ev.symm
    · refine List.Pairwise.map _ (R := fun x y => x ∈ R ∧ y ∈ R ∧ x ≠ y) (fun x y ⟨hx, hy, ne⟩ z => ?_) (List.Pairwise.imp_of_mem (fun hx hy ne => ⟨((memF _ _ _).mp hx).1, ((memF _ _ _).mp hy).1, ne⟩) (ndF R shR))
      have m1 := iR hx
      have m2 := iR hy
      have := (h1 _ _ m1.1 m2.1).mpr z
      rw [m1.2, m2.2] at this
      exact ne this
    · intro x hx y hy z
      obtain ⟨v, hv, rfl⟩ := List.mem_map.mp hx
      obtain ⟨u, hu, rfl⟩ := List.mem_map.mp hy
      have m1 := iP ((memF _ _ _).mp hv).1
      have m2 := iR ((memF _ _ _).mp hu).1
      exact key _ _ m2.1 m1.1 (by rw [m1.2]; exact ((memF _ _ _).mp hv).2) z.symm
  · rw [List.mem_append, List.mem_map, List.mem_map]
    constructor
    · rintro (⟨v, hv, rfl⟩ | ⟨v, hv, rfl⟩)
      · obtain ⟨hv, hn⟩ := (memF _ _ _).mp hv
        have m := iP hv
        refine ⟨co_mem (by rw [lT]; exact hι _ m.1), fun z => ?_⟩
        obtain ⟨x, hx, ox, ex⟩ := (sT _).mp z
        obtain ⟨i, hi, _, rfl⟩ := h5 x hx ox
        exact key i _ hi m.1 (by rw [m.2]; exact hn) ex
      · obtain ⟨hv, hn⟩ := (memF _ _ _).mp hv
        have m := iR hv
        refine ⟨co_mem (by rw [lT]; exact he _ m.1), fun z => hn ?_⟩
        obtain ⟨x, hx, ox, ex⟩ := (sT _).mp z
        obtain ⟨i, hi, oi, rfl⟩ := h5 x hx ox
        exact (sR _).mpr ⟨i, hi, oi, ((h1 _ _ hi m.1).mpr ex).trans m.2⟩
    · rintro ⟨hk, hn⟩
      obtain ⟨x, hx, rfl⟩ := mem_get hk
      rw [lT] at hx
      rcases h4 x hx with ⟨i, hi, ei⟩ | ⟨p, hp, rfl, hp'⟩
      · right
        have mi : co R i ∈ R := co_mem (by rw [lR]; exact hi)
        have m := iR mi
        refine ⟨co R i, (memF _ _ _).mpr ⟨mi, fun z => hn ?_⟩, ((h1 _ _ m.1 hi).mp m.2).trans ei⟩
        obtain ⟨j, hj, oj, ej⟩ := (sR _).mp z
        exact (sT _).mpr ⟨e j, he j hj, h5' j hj oj, ((h1 _ _ hj hi).mp ej).trans ei⟩
      · left
        have mp : co P p ∈ P := co_mem (by rw [lP]; exact hp)
        have m := iP mp
        exact ⟨co P p, (memF _ _ _).mpr ⟨mp, hp'⟩, h3 _ _ m.1 hp m.2⟩
def eA (n m i : Nat) : Nat := if i < n then i else i + m
theorem eA_lo {n m i : Nat} (h : i < n) : eA n m i = i := if_pos h
theorem eA_hi {n m i : Nat} (h : n ≤ i) : eA n m i = i + m := if_neg (by omega)
theorem cutA_co {n m q : Nat} {P : List Int} (hP : P.length = n + m + q) {i : Nat} (hi : i < n + q) : co (inoutL n (n + m) P) i = co P (eA n m i) := by
  rw [inout_co (by omega) (by omega) i (by omega)]
  by_cases c : i < n
  · rw [if_pos c, eA_lo c]
  · rw [if_neg c, eA_hi (by omega)]
    congr 1
    omega
theorem connA {n m q r : Nat} {P l3 : List Int} (hP : P.length = n + m + q) {i j : Nat} (hi : i < n + q + r) (hj : j < n + q + r) :
    Conn (Fput n q r (inoutL n (n + m) P) l3) i j ↔ Conn (Fput (n + m) q r P l3) (eA n m i) (eA n m j) := by
  have lS : (inoutL n (n + m) P).length = n + q := by rw [inout_len (by omega) (by omega)]; omega
  constructor
  · refine Conn.map (f := eA n m) fun i j h => .ed ?_
    rcases h with ⟨a, b, c⟩ | ⟨a, b, ha, hb, rfl, rfl, c⟩
    · rw [cutA_co hP a, cutA_co hP b] at c
      refine .inl ⟨?_, ?_, c⟩
      · unfold eA; split <;> omega
      · unfold eA; split <;> omega
    · exact .inr ⟨a, b, ha, hb, by rw [eA_hi (by omega)]; omega, by rw [eA_hi (by omega)]; omega, c⟩
  · intro h
    have mS : ∀ x, x < n + m + q → (x < n ∨ n + m ≤ x) → co P x ∈ inoutL n (n + m) P := fun x hx ho => (inout_mem (by omega) (by omega)).mpr ⟨x, ho, by omega, rfl⟩
    -- a point of the outer ones has its like
    have like : ∀ i, i < n + q → Conn (Fput n q r (inoutL n (n + m) P) l3) ((inoutL n (n + m) P).idxOf (co P (eA n m i))) i := fun i hi => by
      have hx : co P (eA n m i) ∈ inoutL n (n + m) P := by rw [← cutA_co hP hi]; exact co_mem (by omega)
      have m := ixf_co hx
      rw [lS] at m
      exact .ed (.inl ⟨m.1, hi, by rw [m.2, cutA_co hP hi]⟩)
    have low : ∀ i, i < n + q → eA n m i < n + m + q := fun i hi => by unfold eA; split <;> omega
    have cm := Conn.map (F := Fput n q r (inoutL n (n + m) P) l3) (f := fun x => if x < n + m + q then (inoutL n (n + m) P).idxOf (co P x) else x - m) (fun x y h => ?_) h
    · have fin : ∀ i, i < n + q + r → Conn (Fput n q r (inoutL n (n + m) P) l3) ((fun x => if x < n + m + q then (inoutL n (n + m) P).idxOf (co P x) else x - m) (eA n m i)) i := fun i hi => by
        by_cases c : i < n + q
        · show Conn _ (if _ then _ else _) i
          rw [if_pos (low i c)]
          exact like i c
        · show Conn _ (if _ then _ else _) i
          rw [eA_hi (by omega), if_neg (by omega), show i + m - m = i by omega]
          exact .rf _
      exact .tr (.sy (fin i hi)) (.tr cm (fin j hj))
    · rcases h with ⟨a, b, c⟩ | ⟨a, b, ha, hb, rfl, rfl, c⟩
      · show Conn _ (if _ then _ else _) (if _ then _ else _)
        rw [if_pos a, if_pos b, c]
        exact .rf _
      · have go : ∀ a, a < q + r → Conn (Fput n q r (inoutL n (n + m) P) l3) ((fun x => if x < n + m + q then (inoutL n (n + m) P).idxOf (co P x) else x - m) (n + m + a)) (n + a) := fun a ha => by
          by_cases c : a < q
          · have := like (n + a) (by omega)
            rw [eA_hi (by omega), show n + a + m = n + m + a by omega] at this
            show Conn _ (if _ then _ else _) _
            rw [if_pos (by omega)]
            exact this
          · show Conn _ (if _ then _ else _) _
            rw [if_neg (by omega), show n + m + a - m = n + a by omega]
            exact .rf _
        exact .tr (go a ha) (.tr (.ed (.inr ⟨a, b, ha, hb, rfl, rfl, c⟩)) (.sy (go b hb)))
theorem assocA {n m q r : Nat} {P l3 : List Int} (hP : P.length = n + m + q) (h3 : l3.length = q + r) :
    hid (putM (n + m) q r P l3) (inoutL n (n + m + q) (putM (n + m) q r P l3)) = hid P (inoutL n (n + m) P) + hid (putM n q r (inoutL n (n + m) P) l3) (putS n q r (inoutL n (n + m) P) l3) ∧
    KerEq (inoutL n (n + m + q) (putM (n + m) q r P l3)) (putS n q r (inoutL n (n + m) P) l3) := by
  have lS : (inoutL n (n + m) P).length = n + q := by rw [inout_len (by omega) (by omega)]; omega
  have kT := ks_putM (n := n + m) (m := q) (q := r) hP h3
  have kR := ks_putM (n := n) (m := q) (q := r) lS h3
  have lT := kT.len
  have lR := kR.len
  have e1 : ∀ i j, i < n + q + r → j < n + q + r → (co (putM n q r (inoutL n (n + m) P) l3) i = co (putM n q r (inoutL n (n + m) P) l3) j ↔ co (putM (n + m) q r P l3) (eA n m i) = co (putM (n + m) q r P l3) (eA n m j)) := fun i j hi hj => by
    rw [kR.eq i j hi hj, kT.eq _ _ (by unfold eA; split <;> omega) (by unfold eA; split <;> omega)]
    exact connA hP hi hj
  have sS : putS n q r (inoutL n (n + m) P) l3 = inoutL n (n + q) (putM n q r (inoutL n (n + m) P) l3) := rfl
  have outS : ∀ x, x < n + m + q → (x < n ∨ n + m ≤ x) → co P x ∈ inoutL n (n + m) P := fun x hx ho => (inout_mem (by omega) (by omega)).mpr ⟨x, ho, by omega, rfl⟩
  constructor
  · rw [sS]
    refine two_hid (e := eA n m) (ι := id) (oT := fun x => x < n ∨ n + m + q ≤ x) (oR := fun i => i < n ∨ n + q ≤ i) lT lR hP (fun i hi => by unfold eA; split <;> omega) (fun p hp => by show p < _; omega) e1 ?_ (fun _ _ _ _ h => h) ?_ ?_ ?_ ?_ ?_ ?_ ?_
    · intro p hp hn y hy c
      have c := (kT.eq _ _ (by show p < _; omega) hy).mp c
      have kp := Conn.keep (g := fun x => decide (x < n + m + q ∧ co P x = co P p)) (fun x y h => ?_) c
      · have : decide (p < n + m + q ∧ co P p = co P p) = true := decide_eq_true ⟨hp, rfl⟩
        have z : decide (y < n + m + q ∧ co P y = co P p) = true := by rw [← this]; exact kp.symm
        have z := of_decide_eq_true z
        exact ⟨y, z.1, rfl, z.2⟩
      · rcases h with ⟨a, b, c⟩ | ⟨a, b, ha, hb, rfl, rfl, c⟩
        · show decide _ = decide _
          rw [c]
          exact decide_eq_decide.mpr ⟨fun z => ⟨b, z.2⟩, fun z => ⟨a, z.2⟩⟩
        · have no : ∀ a, ¬ (n + m + a < n + m + q ∧ co P (n + m + a) = co P p) := fun a z => hn (by rw [← z.2]; exact outS _ z.1 (.inr (by omega)))
          show decide _ = decide _
          rw [decide_eq_false (no a), decide_eq_false (no b)]
    · intro p p' hp hp' e
      exact (kT.eq _ _ (by show p < _; omega) (by show p' < _; omega)).mpr (.ed (.inl ⟨hp, hp', e⟩))
    · intro x hx
      by_cases c : x < n + m + q
      · by_cases d : co P x ∈ inoutL n (n + m) P
        · left
          have md := ixf_co d
          rw [lS] at md
          refine ⟨(inoutL n (n + m) P).idxOf (co P x), by have := md.1; omega, (kT.eq _ _ (by have := md.1; unfold eA; split <;> omega) hx).mpr (.ed (.inl ⟨?_, c, ?_⟩))⟩
          · have := md.1
            unfold eA; split <;> omega
          · rw [← cutA_co hP md.1, md.2]
        · exact .inr ⟨x, c, rfl, d⟩
      · left
        exact ⟨x - m, by omega, by rw [eA_hi (by omega), show x - m + m = x by omega]⟩
    · intro x hx o
      rcases o with o | o
      · exact ⟨x, by omega, .inl o, eA_lo o⟩
      · exact ⟨x - m, by omega, .inr (by omega), by rw [eA_hi (by omega)]; omega⟩
    · intro i hi o
      rcases o with o | o
      · exact .inl (by rw [eA_lo o]; exact o)
      · exact .inr (by rw [eA_hi (by omega)]; omega)
    · intro i p hi hp e
      have e : eA n m i = p := e
      refine outS p hp ?_
      unfold eA at e
      split at e <;> omega
    · intro k
      rw [inout_mem (by omega) (by omega), lT]
      exact ⟨fun ⟨p, a, b, c⟩ => ⟨p, b, a, c⟩, fun ⟨p, a, b, c⟩ => ⟨p, b, a, c⟩⟩
    · intro k
      rw [inout_mem (by omega) (by omega), lR]
      exact ⟨fun ⟨p, a, b, c⟩ => ⟨p, b, a, c⟩, fun ⟨p, a, b, c⟩ => ⟨p, b, a, c⟩⟩
  · rw [sS]
    refine ⟨by rw [inout_len (by omega) (by omega), inout_len (by omega) (by omega)]; omega, fun i j hi hj => ?_⟩
    rw [inout_len (by omega) (by omega), lT] at hi hj
    have f : ∀ i, i < n + (n + m + q + r - (n + m + q)) → ∃ p, p < n + q + r ∧ co (inoutL n (n + m + q) (putM (n + m) q r P l3)) i = co (putM (n + m) q r P l3) (eA n m p) ∧ co (inoutL n (n + q) (putM n q r (inoutL n (n + m) P) l3)) i = co (putM n q r (inoutL n (n + m) P) l3) p := fun i hi => by
      rw [inout_co (by omega) (by omega) i (by omega), inout_co (by omega) (by omega) i (by omega)]
      by_cases c : i < n
      · exact ⟨i, by omega, by rw [if_pos c, eA_lo c], by rw [if_pos c]⟩
      · refine ⟨n + q + (i - n), by omega, ?_, by rw [if_neg c]⟩
        rw [if_neg c, eA_hi (by omega)]
        congr 1
        omega
    obtain ⟨p, hp, a1, a2⟩ := f i hi
    obtain ⟨p', hp', b1, b2⟩ := f j hj
    rw [a1, a2, b1, b2]
    exact (e1 p p' hp hp').symm
theorem eA_add {n m q a : Nat} : eA (n + m) q (n + a) = n + eA m q a := by
  unfold eA
  split <;> split <;> omega
theorem connB {n m q r : Nat} {P l1 : List Int} (hP : P.length = m + q + r) {i j : Nat} (hi : i < n + m + r) (hj : j < n + m + r) :
    Conn (Fput n m r l1 (inoutL m (m + q) P)) i j ↔ Conn (Fput n m (q + r) l1 P) (eA (n + m) q i) (eA (n + m) q j) := by
  have lS : (inoutL m (m + q) P).length = m + r := by rw [inout_len (by omega) (by omega)]; omega
  constructor
  · refine Conn.map (f := eA (n + m) q) fun i j h => .ed ?_
    rcases h with ⟨a, b, c⟩ | ⟨a, b, ha, hb, rfl, rfl, c⟩
    · exact .inl ⟨by rw [eA_lo a]; exact a, by rw [eA_lo b]; exact b, by rw [eA_lo a, eA_lo b]; exact c⟩
    · rw [cutA_co hP ha, cutA_co hP hb] at c
      exact .inr ⟨eA m q a, eA m q b, by unfold eA; split <;> omega, by unfold eA; split <;> omega, eA_add, eA_add, c⟩
  · intro h
    have like : ∀ a, a < m + r → Conn (Fput n m r l1 (inoutL m (m + q) P)) (n + (inoutL m (m + q) P).idxOf (co P (eA m q a))) (n + a) := fun a ha => by
      have hx : co P (eA m q a) ∈ inoutL m (m + q) P := by rw [← cutA_co hP ha]; exact co_mem (by omega)
      have md := ixf_co hx
      rw [lS] at md
      exact .ed (.inr ⟨_, a, md.1, ha, rfl, rfl, by rw [md.2, cutA_co hP ha]⟩)
    have cm := Conn.map (F := Fput n m r l1 (inoutL m (m + q) P)) (f := fun x => if x < n then x else n + (inoutL m (m + q) P).idxOf (co P (x - n))) (fun x y h => ?_) h
    · have fin : ∀ i, i < n + m + r → Conn (Fput n m r l1 (inoutL m (m + q) P)) ((fun x => if x < n then x else n + (inoutL m (m + q) P).idxOf (co P (x - n))) (eA (n + m) q i)) i := fun i hi => by
        show Conn _ (if _ then _ else _) i
        by_cases c : i < n
        · rw [eA_lo (by omega), if_pos c]
          exact .rf _
        · obtain ⟨a, rfl⟩ : ∃ a, i = n + a := ⟨i - n, by omega⟩
          rw [eA_add, if_neg (by omega), Nat.add_sub_cancel_left]
          exact like a (by omega)
      exact .tr (.sy (fin i hi)) (.tr cm (fin j hj))
    · rcases h with ⟨a, b, c⟩ | ⟨a, b, ha, hb, rfl, rfl, c⟩
      · have go : ∀ x, x < n + m → Conn (Fput n m r l1 (inoutL m (m + q) P)) ((fun x => if x < n then x else n + (inoutL m (m + q) P).idxOf (co P (x - n))) x) x := fun x hx => by
          show Conn _ (if _ then _ else _) x
          by_cases d : x < n
          · rw [if_pos d]
            exact .rf _
          · obtain ⟨a, rfl⟩ : ∃ a, x = n + a := ⟨x - n, by omega⟩
            have := like a (by omega)
            rw [eA_lo (by omega)] at this
            rw [if_neg d, Nat.add_sub_cancel_left]
            exact this
        exact .tr (go x a) (.tr (.ed (.inl ⟨a, b, c⟩)) (.sy (go y b)))
      · show Conn _ (if _ then _ else _) (if _ then _ else _)
        rw [if_neg (by omega), if_neg (by omega), Nat.add_sub_cancel_left, Nat.add_sub_cancel_left, c]
        exact .rf _
theorem assocB {n m q r : Nat} {P l1 : List Int} (hP : P.length = m + q + r) (h1 : l1.length = n + m) :
    hid (putM n m (q + r) l1 P) (inoutL n (n + m + q) (putM n m (q + r) l1 P)) = hid P (inoutL m (m + q) P) + hid (putM n m r l1 (inoutL m (m + q) P)) (putS n m r l1 (inoutL m (m + q) P)) ∧
    KerEq (inoutL n (n + m + q) (putM n m (q + r) l1 P)) (putS n m r l1 (inoutL m (m + q) P)) := by
  have lS : (inoutL m (m + q) P).length = m + r := by rw [inout_len (by omega) (by omega)]; omega
  have kT := ks_putM (n := n) (m := m) (q := q + r) h1 (l2 := P) (by omega)
  have kR := ks_putM (n := n) (m := m) (q := r) h1 lS
  have lT := kT.len
  have lR := kR.len
  have e1 : ∀ i j, i < n + m + r → j < n + m + r → (co (putM n m r l1 (inoutL m (m + q) P)) i = co (putM n m r l1 (inoutL m (m + q) P)) j ↔ co (putM n m (q + r) l1 P) (eA (n + m) q i) = co (putM n m (q + r) l1 P) (eA (n + m) q j)) := fun i j hi hj => by
    rw [kR.eq i j hi hj, kT.eq _ _ (by unfold eA; split <;> omega) (by unfold eA; split <;> omega)]
    exact connB hP hi hj
  have sS : putS n m r l1 (inoutL m (m + q) P) = inoutL n (n + m) (putM n m r l1 (inoutL m (m + q) P)) := rfl
  have outS : ∀ x, x < m + q + r → (x < m ∨ m + q ≤ x) → co P x ∈ inoutL m (m + q) P := fun x hx ho => (inout_mem (by omega) (by omega)).mpr ⟨x, ho, by omega, rfl⟩
  constructor
  · rw [sS]
    refine two_hid (e := eA (n + m) q) (ι := fun p => n + p) (oT := fun x => x < n ∨ n + m + q ≤ x) (oR := fun i => i < n ∨ n + m ≤ i) lT lR hP (fun i hi => by unfold eA; split <;> omega) (fun p hp => by show n + p < _; omega) e1 ?_ (fun _ _ _ _ h => Nat.add_left_cancel h) ?_ ?_ ?_ ?_ ?_ ?_ ?_
    · intro p hp hn y hy c
      have c := (kT.eq _ _ (by show n + p < _; omega) hy).mp c
      have kp := Conn.keep (g := fun x => decide (n ≤ x ∧ co P (x - n) = co P p)) (fun x y h => ?_) c
      · have : decide (n ≤ n + p ∧ co P (n + p - n) = co P p) = true := decide_eq_true ⟨by omega, by rw [Nat.add_sub_cancel_left]⟩
        have z : decide (n ≤ y ∧ co P (y - n) = co P p) = true := by rw [← this]; exact kp.symm
        have z := of_decide_eq_true z
        exact ⟨y - n, by omega, by show y = n + (y - n); omega, z.2⟩
      · rcases h with ⟨a, b, c⟩ | ⟨a, b, ha, hb, rfl, rfl, c⟩
        · have no : ∀ x, x < n + m → ¬ (n ≤ x ∧ co P (x - n) = co P p) := fun x hx z => hn (by rw [← z.2]; exact outS _ (by omega) (.inl (by omega)))
          show decide _ = decide _
          rw [decide_eq_false (no x a), decide_eq_false (no y b)]
        · show decide _ = decide _
          rw [Nat.add_sub_cancel_left, Nat.add_sub_cancel_left, c]
          exact decide_eq_decide.mpr ⟨fun z => ⟨by omega, z.2⟩, fun z => ⟨by omega, z.2⟩⟩
    · intro p p' hp hp' e
      exact (kT.eq _ _ (by show n + p < _; omega) (by show n + p' < _; omega)).mpr (.ed (.inr ⟨p, p', by omega, by omega, rfl, rfl, e⟩))
    · intro x hx
      by_cases c : x < n
      · exact .inl ⟨x, by omega, by rw [eA_lo (by omega)]⟩
      · obtain ⟨p, rfl⟩ : ∃ p, x = n + p := ⟨x - n, by omega⟩
        by_cases d : co P p ∈ inoutL m (m + q) P
        · left
          have md := ixf_co d
          rw [lS] at md
          refine ⟨n + (inoutL m (m + q) P).idxOf (co P p), by have := md.1; omega, (kT.eq _ _ (by have := md.1; unfold eA; split <;> omega) hx).mpr (.ed (.inr ⟨eA m q ((inoutL m (m + q) P).idxOf (co P p)), p, ?_, by omega, eA_add, rfl, ?_⟩))⟩
          · have := md.1
            unfold eA; split <;> omega
          · rw [← cutA_co hP md.1, md.2]
        · exact .inr ⟨p, by omega, rfl, d⟩
    · intro x hx o
      rcases o with o | o
      · exact ⟨x, by omega, .inl o, eA_lo (by omega)⟩
      · exact ⟨x - q, by omega, .inr (by omega), by rw [eA_hi (by omega)]; omega⟩
    · intro i hi o
      rcases o with o | o
      · exact .inl (by rw [eA_lo (by omega)]; exact o)
      · exact .inr (by rw [eA_hi (by omega)]; omega)
    · intro i p hi hp e
      have e : eA (n + m) q i = n + p := e
      refine outS p hp ?_
      unfold eA at e
      split at e <;> omega
    · intro k
      rw [inout_mem (by omega) (by omega), lT]
      exact ⟨fun ⟨p, a, b, c⟩ => ⟨p, b, a, c⟩, fun ⟨p, a, b, c⟩ => ⟨p, b, a, c⟩⟩
    · intro k
      rw [inout_mem (by omega) (by omega), lR]
      exact ⟨fun ⟨p, a, b, c⟩ => ⟨p, b, a, c⟩, fun ⟨p, a, b, c⟩ => ⟨p, b, a, c⟩⟩
  · rw [sS]
    refine ⟨by rw [inout_len (by omega) (by omega), inout_len (by omega) (by omega)]; omega, fun i j hi hj => ?_⟩
    rw [inout_len (by omega) (by omega), lT] at hi hj
    have f : ∀ i, i < n + (n + m + (q + r) - (n + m + q)) → ∃ p, p < n + m + r ∧ co (inoutL n (n + m + q) (putM n m (q + r) l1 P)) i = co (putM n m (q + r) l1 P) (eA (n + m) q p) ∧ co (inoutL n (n + m) (putM n m r l1 (inoutL m (m + q) P))) i = co (putM n m r l1 (inoutL m (m + q) P)) p := fun i hi => by
      rw [inout_co (by omega) (by omega) i (by omega), inout_co (by omega) (by omega) i (by omega)]
      by_cases c : i < n
      · exact ⟨i, by omega, by rw [if_pos c, eA_lo (by omega)], by rw [if_pos c]⟩
      · refine ⟨n + m + (i - n), by omega, ?_, by rw [if_neg c]⟩
        rw [if_neg c, eA_hi (by omega)]
        congr 1
        omega
    obtain ⟨p, hp, a1, a2⟩ := f i hi
    obtain ⟨p', hp', b1, b2⟩ := f j hj
    rw [a1, a2, b1, b2]
    exact (e1 p p' hp hp').symm
theorem ker_both {n m q r : Nat} {l1 l2 l3 : List Int} (h1 : l1.length = n + m) (h2 : l2.length = m + q) (h3 : l3.length = q + r) : KerEq (putM (n + m) q r (putM n m q l1 l2) l3) (putM n m (q + r) l1 (putM m q r l2 l3)) := by
  have kP := ks_putM h1 h2
  have kQ := ks_putM h2 h3
  have kT := ks_putM (n := n + m) (m := q) (q := r) kP.len h3
  have kU := ks_putM (n := n) (m := m) (q := q + r) h1 (l2 := putM m q r l2 l3) (by have := kQ.len; omega)
  refine Ks.ker (N := n + m + q + r) (E := Fput n m (q + r) l1 (putM m q r l2 l3)) (kT.congr (fun i j h => ?_) (fun i j h => ?_) (fun i j h => ?_)) ⟨by have := kU.len; omega, fun i j h => ?_, fun i j hi hj => kU.eq i j (by omega) (by omega)⟩
  · have := kU.bd i j h
    omega
  · rcases h with ⟨a, b, c⟩ | ⟨a, b, ha, hb, rfl, rfl, c⟩
    · refine ((kP.eq i j a b).mp c).mono fun i j h => .ed ?_
      rcases h with h | ⟨a, b, ha, hb, rfl, rfl, c⟩
      · exact .inl h
      · exact .inr ⟨a, b, by omega, by omega, rfl, rfl, (kQ.eq a b (by omega) (by omega)).mpr (.ed (.inl ⟨ha, hb, c⟩))⟩
    · exact .ed (.inr ⟨m + a, m + b, by omega, by omega, by omega, by omega, (kQ.eq _ _ (by omega) (by omega)).mpr (.ed (.inr ⟨a, b, ha, hb, rfl, rfl, c⟩))⟩)
  · rcases h with ⟨a, b, c⟩ | ⟨a, b, ha, hb, rfl, rfl, c⟩
    · exact .ed (.inl ⟨by omega, by omega, (kP.eq i j (by omega) (by omega)).mpr (.ed (.inl ⟨a, b, c⟩))⟩)
    · refine ((kQ.eq a b (by omega) (by omega)).mp c).map (f := fun x => n + x) fun i j h => .ed ?_
      rcases h with ⟨a, b, c⟩ | ⟨a, b, ha, hb, rfl, rfl, c⟩
      · exact .inl ⟨by omega, by omega, (kP.eq _ _ (by omega) (by omega)).mpr (.ed (.inr ⟨i, j, a, b, rfl, rfl, c⟩))⟩
      · exact .inr ⟨a, b, ha, hb, by omega, by omega, c⟩
  · have := kU.bd i j h
    omega
theorem ker_cut {a b : List Int} (k : KerEq a b) (sel : List Int → List Int) (hm : ∀ (g : Int → Int) (z : List Int), sel (z.map g) = (sel z).map g) (hs : ∀ z, ∀ x ∈ sel z, x ∈ z) : hid b (sel b) = hid a (sel a) ∧ blocksOf (sel b) = blocksOf (sel a) := by
  obtain ⟨g, e, inj⟩ := k.img
  refine ⟨hid_map (fun i => i) (fun i hi => by rw [k.1]; exact hi) (fun i hi => ⟨i, by rw [← k.1]; exact hi, rfl⟩) (fun i j hi hj => by rw [← k.1] at hi hj; exact (k.2 i j hi hj).symm) fun i hi => ?_, ?_⟩
  · have hi' : i < a.length := by rw [k.1]; exact hi
    rw [e, hm, co_map_lt hi']
    constructor
    · intro h
      obtain ⟨x, hx, ex⟩ := List.mem_map.mp h
      rw [← inj x (hs a x hx) (co a i) (co_mem hi') ex]
      exact hx
    · exact fun h => List.mem_map.mpr ⟨_, h, rfl⟩
  · rw [e, hm]
    exact blocksOf_map fun x hx y hy => inj x (hs a x hx) y (hs a y hy)
theorem inoutL_map (a b : Nat) (g : Int → Int) (z : List Int) : inoutL a b (z.map g) = (inoutL a b z).map g := by
  unfold inoutL
  rw [List.map_append, List.map_take, List.map_drop]
theorem inoutL_mem (a b : Nat) (z : List Int) : ∀ x ∈ inoutL a b z, x ∈ z := fun x hx => by
  unfold inoutL at hx
  exact (List.mem_append.mp hx).elim List.mem_of_mem_take List.mem_of_mem_drop
/-- the loops and the diagram of three, in both ways -/
theorem put_assoc {n m q r : Nat} {l1 l2 l3 : List Int} (h1 : l1.length = n + m) (h2 : l2.length = m + q) (h3 : l3.length = q + r) :
    hid (putM n m q l1 l2) (putS n m q l1 l2) + hid (putM n q r (putS n m q l1 l2) l3) (putS n q r (putS n m q l1 l2) l3) = hid (putM m q r l2 l3) (putS m q r l2 l3) + hid (putM n m r l1 (putS m q r l2 l3)) (putS n m r l1 (putS m q r l2 l3)) ∧
    blocksOf (putS n q r (putS n m q l1 l2) l3) = blocksOf (putS n m r l1 (putS m q r l2 l3)) := by
  obtain ⟨a1, a2⟩ := assocA (ks_putM h1 h2).len h3
  obtain ⟨b1, b2⟩ := assocB (ks_putM h2 h3).len h1
  obtain ⟨c1, c2⟩ := ker_cut (ker_both h1 h2 h3) (inoutL n (n + m + q)) (inoutL_map _ _) (inoutL_mem _ _)
  have s1 : putS n m q l1 l2 = inoutL n (n + m) (putM n m q l1 l2) := rfl
  have s2 : putS m q r l2 l3 = inoutL m (m + q) (putM m q r l2 l3) := rfl
  rw [s1, s2, ← a1, ← b1, a2.blocks, b2.blocks]
  exact ⟨c1.symm, c2.symm⟩
/-! ### the unit -/
def uL (n : Nat) : List Int := ixs n ++ ixs n
theorem uL_len (n : Nat) : (uL n).length = n + n := by
  unfold uL
  rw [List.length_append, ixs_len']
theorem uL_co {n i : Nat} (h : i < n + n) : co (uL n) i = ((if i < n then i else i - n : Nat) : Int) := by
  unfold uL
  by_cases c : i < n
  · rw [co_app_l (by rw [ixs_len']; exact c), co_ixs c, if_pos c]
  · have := co_app_r (a := ixs n) (b := ixs n) (i := i - n) (by rw [ixs_len']; omega)
    rw [ixs_len', show n + (i - n) = i by omega] at this
    rw [this, co_ixs (by omega), if_neg c]
theorem hid_zero {ms shown : List Int} (h : ∀ k ∈ ms, k ∈ shown) : hid ms shown = 0 := (hid_is (L := []) List.nodup_nil fun k => ⟨fun z => (nomatch z), fun z => absurd (h k z.1) z.2⟩).symm
theorem put_unitL {n m : Nat} {l : List Int} (hl : l.length = n + m) : hid (putM n n m (uL n) l) (putS n n m (uL n) l) = 0 ∧ blocksOf (putS n n m (uL n) l) = blocksOf l := by
  have kM := ks_putM (uL_len n) hl
  have lM := kM.len
  have sS : putS n n m (uL n) l = inoutL n (n + n) (putM n n m (uL n) l) := rfl
  have st : ∀ i, i < n → Conn (Fput n n m (uL n) l) i (n + i) := fun i hi => .ed (.inl ⟨by omega, by omega, by rw [uL_co (by omega), uL_co (by omega), if_pos hi, if_neg (by omega), Nat.add_sub_cancel_left]⟩)
  constructor
  · refine hid_zero fun k hk => ?_
    obtain ⟨x, hx, rfl⟩ := mem_get hk
    rw [lM] at hx
    rw [sS, inout_mem (by omega) (by omega), lM]
    by_cases c : x < n ∨ n + n ≤ x
    · exact ⟨x, c, hx, rfl⟩
    · refine ⟨x - n, .inl (by omega), by omega, (kM.eq _ _ (by omega) hx).mpr ?_⟩
      have := st (x - n) (by omega)
      rw [show n + (x - n) = x by omega] at this
      exact this
  · refine (KerEq.blocks ⟨?_, fun i j hi hj => ?_⟩ : _)
    · rw [sS, inout_len (by omega) (by omega), lM]
      omega
    · have f : ∀ i, i < n + m → ∃ p, p < n + n + m ∧ co (putS n n m (uL n) l) i = co (putM n n m (uL n) l) p ∧ Conn (Fput n n m (uL n) l) p (n + i) ∧ (fun x => if x < n then co l x else co l (x - n)) p = co l i := fun i hi => by
        rw [sS, inout_co (by omega) (by omega) i (by omega)]
        by_cases c : i < n
        · exact ⟨i, by omega, if_pos c, st i c, if_pos c⟩
        · refine ⟨n + n + (i - n), by omega, if_neg c, ?_, ?_⟩
          · rw [show n + n + (i - n) = n + i by omega]
            exact .rf _
          · show (if _ then _ else _) = _
            rw [if_neg (by omega), show n + n + (i - n) - n = i by omega]
      rw [hl] at hi hj
      obtain ⟨p, hp, a1, a2, a3⟩ := f i hi
      obtain ⟨p', hp', b1, b2, b3⟩ := f j hj
      rw [a1, b1, kM.eq p p' hp hp']
      constructor
      · intro e
        exact .tr a2 (.tr (.ed (.inr ⟨i, j, hi, hj, rfl, rfl, e⟩)) (.sy b2))
      · intro c
        rw [← a3, ← b3]
        refine Conn.keep (g := fun x => if x < n then co l x else co l (x - n)) (fun x y h => ?_) c
        rcases h with ⟨a, b, c⟩ | ⟨a, b, ha, hb, rfl, rfl, c⟩
        · rw [uL_co a, uL_co b] at c
          have c := Int.ofNat.inj c
          have g : ∀ x, (if x < n then co l x else co l (x - n)) = co l (if x < n then x else x - n) := fun x => by split <;> rfl
          show (if _ then _ else _) = (if _ then _ else _)
          rw [g, g, c]
        · show (if _ then _ else _) = (if _ then _ else _)
          rw [if_neg (by omega), if_neg (by omega), Nat.add_sub_cancel_left, Nat.add_sub_cancel_left, c]
theorem put_unitR {n m : Nat} {l : List Int} (hl : l.length = n + m) : hid (putM n m m l (uL m)) (putS n m m l (uL m)) = 0 ∧ blocksOf (putS n m m l (uL m)) = blocksOf l := by
  have kM := ks_putM hl (uL_len m)
  have lM := kM.len
  have sS : putS n m m l (uL m) = inoutL n (n + m) (putM n m m l (uL m)) := rfl
  have st : ∀ i, i < m → Conn (Fput n m m l (uL m)) (n + m + i) (n + i) := fun i hi => .ed (.inr ⟨m + i, i, by omega, by omega, by omega, rfl, by rw [uL_co (by omega), uL_co (by omega), if_pos hi, if_neg (by omega), Nat.add_sub_cancel_left]⟩)
  constructor
  · refine hid_zero fun k hk => ?_
    obtain ⟨x, hx, rfl⟩ := mem_get hk
    rw [lM] at hx
    rw [sS, inout_mem (by omega) (by omega), lM]
    by_cases c : x < n ∨ n + m ≤ x
    · exact ⟨x, c, hx, rfl⟩
    · refine ⟨x + m, .inr (by omega), by omega, (kM.eq _ _ (by omega) hx).mpr ?_⟩
      have := st (x - n) (by omega)
      rw [show n + (x - n) = x by omega, show n + m + (x - n) = x + m by omega] at this
      exact this
  · refine (KerEq.blocks ⟨?_, fun i j hi hj => ?_⟩ : _)
    · rw [sS, inout_len (by omega) (by omega), lM]
      omega
    · have f : ∀ i, i < n + m → ∃ p, p < n + m + m ∧ co (putS n m m l (uL m)) i = co (putM n m m l (uL m)) p ∧ Conn (Fput n m m l (uL m)) p i ∧ (fun x => if x < n + m then co l x else co l (x - m)) p = co l i := fun i hi => by
        rw [sS, inout_co (by omega) (by omega) i (by omega)]
        by_cases c : i < n
        · exact ⟨i, by omega, if_pos c, .rf _, if_pos (by omega)⟩
        · refine ⟨n + m + (i - n), by omega, if_neg c, ?_, ?_⟩
          · have := st (i - n) (by omega)
            rw [show n + (i - n) = i by omega] at this
            exact this
          · show (if _ then _ else _) = _
            rw [if_neg (by omega), show n + m + (i - n) - m = i by omega]
      rw [hl] at hi hj
      obtain ⟨p, hp, a1, a2, a3⟩ := f i hi
      obtain ⟨p', hp', b1, b2, b3⟩ := f j hj
      rw [a1, b1, kM.eq p p' hp hp']
      constructor
      · intro e
        exact .tr a2 (.tr (.ed (.inl ⟨hi, hj, e⟩)) (.sy b2))
      · intro c
        rw [← a3, ← b3]
        refine Conn.keep (g := fun x => if x < n + m then co l x else co l (x - m)) (fun x y h => ?_) c
        have g : ∀ a, a < m + m → (if n + a < n + m then co l (n + a) else co l (n + a - m)) = co l (n + if a < m then a else a - m) := fun a ha => by
          by_cases d : a < m
          · rw [if_pos (by omega), if_pos d]
          · rw [if_neg (by omega), if_neg d, show n + a - m = n + (a - m) by omega]
        rcases h with ⟨a, b, c⟩ | ⟨a, b, ha, hb, rfl, rfl, c⟩
        · show (if _ then _ else _) = (if _ then _ else _)
          rw [if_pos a, if_pos b, c]
        · rw [uL_co ha, uL_co hb] at c
          have c := Int.ofNat.inj c
          show (if _ then _ else _) = (if _ then _ else _)
          rw [g a ha, g b hb, c]

theorem rgV_drop {k n : Nat} : rgV (k : Int) (n : Int) = ((ixs n).drop k).map V.int := by
  unfold rgV ixs
  rw [← List.map_drop, List.map_map, show ((n : Int) - k).toNat = n - k by omega]
  refine List.ext_getElem (by simp) fun j h1 h2 => ?_
  simp
section
variable {P : Program} {w : World} {K : PySem.W.Frag} {mg : Str → Option Value} {base : Heap}
/-! ### the small diagrams -/
def withM (n i : Nat) (ms : List Int) : List Int := ixs i ++ ms ++ (ixs n).drop (i + ms.length)
def spCheckS (CB : Addr) : Sp := fun vs H Q E => ∃ (n i k : Int), vs = [.int n, .int i, .int k] ∧ (¬ (0 ≤ n ∧ n ≤ 6 ∧ 0 ≤ i ∧ i ≤ n - k) → E (.ref CB) none H) ∧ (0 ≤ n ∧ n ≤ 6 ∧ 0 ≤ i ∧ i ≤ n - k → Q .non H)
theorem ok_check_ {f CB : Addr} {tm_MOST_STRANDS : Tok} {fd : FuncData} (F : Fun K "_check" "_check" s_check_ f fd) (T : ErrC K mg "BadNumber" CB) (m_MOST_STRANDS : mg "MOST_STRANDS" = some (.int 6 tm_MOST_STRANDS)) : FnOk P w K mg base (L2N.CX P w) 1 f fd ["n", "i", "strands"] (spCheckS CB) := by
  obtain ⟨gc_BadNumber, x_BadNumber, kc_BadNumber, bc_BadNumber, tc_BadNumber⟩ := T
  have r_MOST_STRANDS : RelV (.int 6) (.int 6 tm_MOST_STRANDS) := ⟨_, rfl⟩
  refine F.okXN sc_check_ (fun vs H Q E h => ?_) (fun cdv A outer s H vs Q E hr h => ?_)
  · obtain ⟨n, i, k, rfl, _⟩ := h
    rfl
  · obtain ⟨n, i, k, rfl, qB, q⟩ := h
    refine ⟨_, (pss_cons (ps_if (pt_not (pt_chain op_le op_le pe_int (pv 0) (pe_glob rfl m_MOST_STRANDS r_MOST_STRANDS))) (pss_one (L2N.ps_raise rfl (L2N.takes_of rfl rfl rfl rfl) (L2N.pmk_own PySem.F.excBase_ValueError x_BadNumber gc_BadNumber kc_BadNumber (raises_own bc_BadNumber tc_BadNumber) rfl))) pss_nil)
  (pss_one (ps_if (pt_not (pt_chain op_le op_le pe_int (pv 1) (pe_op op_sub (pv 0) (pv 2)))) (pss_one (L2N.ps_raise rfl (L2N.takes_of rfl rfl rfl rfl) (L2N.pmk_own PySem.F.excBase_ValueError x_BadNumber gc_BadNumber kc_BadNumber (raises_own bc_BadNumber tc_BadNumber) rfl))) pss_nil))), ?_⟩
    refine ⟨_, rfl, _, _, rfl, rfl, _, rfl, ?_⟩
    by_cases c1 : 0 ≤ n
    · rw [decide_eq_true c1]
      refine iteT ⟨_, _, rfl, rfl, _, rfl, ?_⟩
      by_cases c2 : n ≤ 6
      · rw [decide_eq_true c2]
        refine iteF ⟨_, rfl, _, _, rfl, rfl, _, rfl, ?_⟩
        by_cases c3 : 0 ≤ i
        · rw [decide_eq_true c3]
          refine iteT ⟨_, rfl, _, rfl, _, _, rfl, rfl, _, _, rfl, rfl, _, rfl, ?_⟩
          by_cases c4 : i ≤ n - k
          · rw [decide_eq_true c4]
            exact iteF (q ⟨c1, c2, c3, c4⟩)
          · rw [decide_eq_false c4]
            exact iteT (qB fun z => c4 z.2.2.2)
        · rw [decide_eq_false c3]
          exact iteF ⟨_, rfl, iteT (qB fun z => c3 z.2.2.1)⟩
      · rw [decide_eq_false c2]
        exact iteT (qB fun z => c2 z.2.1)
    · rw [decide_eq_false c1]
      exact iteF ⟨_, rfl, iteT (qB fun z => c1 z.1)⟩
def spWithM : Sp := fun vs H Q _ => ∃ (n i : Nat) (a : Addr) (ms : List Int), vs = [.int n, .int i, .ref a] ∧ H a = some (.lst (ms.map V.int)) ∧ i + ms.length ≤ n ∧ n ≤ 1000 ∧ ∀ D H', Same H H' → H' D = some (.lst ((withM n i ms).map V.int)) → Q (.ref D) H'
theorem ok_with_marks_ {f : Addr} {fd : FuncData} (F : Fun K "_with_marks" "_with_marks" s_with_marks_ f fd) (z_list : mg "list" = none) (z_range : mg "range" = none) (z_len : mg "len" = none) : FnOk P w K mg base CX0 1 f fd ["n", "i", "marks"] spWithM := by
  refine F.ok sc_with_marks_ (fun vs H Q E h => ?_) (fun cdv A outer s H vs Q E hr h => ?_)
  · obtain ⟨n, i, a, ms, rfl, _⟩ := h
    rfl
  · obtain ⟨n, i, a, ms, rfl, ha, hl, hn, q⟩ := h
    refine ⟨_, (pss_one (ps_ret (pe_op op_cat (pe_op op_cat (pe_listRg rfl rfl z_list (prg_1 rfl z_range (pv 1))) (pv 2)) (pe_listRg rfl rfl z_list (prg_2 rfl z_range (pe_op op_add (pv 1) (pe_callB call_len_seq (by rfl) z_len boot_len (pa_cons (pv 2) pa_nil))) (pv 0)))))), ?_⟩
    have szl : 20000 ≤ sizeLine := by decide
    refine ⟨_, rfl, (i : Int), rfl, RgOk.of_le (by omega) (by omega) (by omega) (by omega), fun p1 np1 => ?_⟩
    have s1 := same_upd (o := .lst (rgV 0 (i : Int))) np1
    have ha1 := s1 _ _ ha
    have h1 : upd H p1 (.lst (rgV 0 (i : Int))) p1 = some (.lst ((ixs i).map V.int)) := by rw [upd_same, rgV_ixs (by omega)]; rfl
    revert s1 ha1 h1
    generalize upd H p1 (.lst (rgV 0 (i : Int))) = H1
    intro s1 ha1 h1
    refine ⟨.ref a, rfl, p1, a, _, _, rfl, rfl, h1, ha1, by rw [List.length_map, List.length_map, ixs_len']; omega, fun p2 np2 => ?_⟩
    have s2 := same_upd (o := .lst ((ixs i).map V.int ++ ms.map V.int)) np2
    have h2 : upd H1 p2 (.lst ((ixs i).map V.int ++ ms.map V.int)) p2 = some (.lst ((ixs i ++ ms).map V.int)) := by rw [upd_same, List.map_append]
    have ha2 := s2 _ _ ha1
    have s02 := Same.trans s1 s2
    revert h2 ha2 s02
    generalize upd H1 p2 (.lst ((ixs i).map V.int ++ ms.map V.int)) = H2
    intro h2 ha2 s02
    refine ⟨_, rfl, _, rfl, a, _, rfl, .inl (.inl (.inl ha2)), _, _, rfl, rfl, _, rfl, _, _, rfl, rfl, RgOk.of_le (by omega) (by omega) (by rw [List.length_map]; omega) (by omega), fun p3 np3 => ?_⟩
    rw [List.length_map, show (i : Int) + (ms.length : Int) = ((i + ms.length : Nat) : Int) by omega, rgV_drop] at *
    have s3 := same_upd (o := .lst (((ixs n).drop (i + ms.length)).map V.int)) np3
    refine ⟨p2, p3, _, _, rfl, rfl, s3 _ _ h2, upd_same, by rw [List.length_map, List.length_map, List.length_append, List.length_drop, ixs_len', ixs_len']; omega, fun p4 np4 => ?_⟩
    rw [← List.map_append] at *
    exact q p4 _ (Same.trans s02 (Same.trans s3 (same_upd np4))) upd_same
def spChanged : Sp := fun vs H Q _ => ∃ (n i : Nat) (a b : Addr) (ms ks : List Int), vs = [.int n, .int i, .ref a, .ref b] ∧ H a = some (.lst (ms.map V.int)) ∧ H b = some (.lst (ks.map V.int)) ∧ i + ms.length ≤ n ∧ i + ks.length ≤ n ∧ n ≤ 6 ∧ ∀ v H', Same H H' → DgAt H' v n n (withM n i ms ++ withM n i ks) → Q v H'
theorem withM_len {n i : Nat} {ms : List Int} (h : i + ms.length ≤ n) : (withM n i ms).length = n := by
  unfold withM
  rw [List.length_append, List.length_append, List.length_drop, ixs_len', ixs_len']
  omega
theorem ok_changed_ {f CB a_from_labels a_with_marks_ : Addr} {fd fd_from_labels fd_with_marks_ : FuncData} (F : Fun K "_changed" "_changed" s_changed_ f fd)
    (G_from_labels : FnOk P w K mg base (L2N.CX P w) 3 a_from_labels fd_from_labels ["n", "m", "marks"] (spFromLabels K CB)) (g_from_labels : mg "from_labels" = some (.ref a_from_labels)) (k_from_labels : PySem.W.keepIn K (.ref a_from_labels) = true) (b_from_labels : Binds K fd_from_labels ["n", "m", "marks"] [])
    (G_with_marks_ : FnOk P w K mg base CX0 1 a_with_marks_ fd_with_marks_ ["n", "i", "marks"] spWithM) (g_with_marks_ : mg "_with_marks" = some (.ref a_with_marks_)) (k_with_marks_ : PySem.W.keepIn K (.ref a_with_marks_) = true) (b_with_marks_ : Binds K fd_with_marks_ ["n", "i", "marks"] []) :
    FnOk P w K mg base (L2N.CX P w) 4 f fd ["n", "i", "above", "below"] spChanged := by
  refine F.okXN sc_changed_ (fun vs H Q E h => ?_) (fun cdv A outer s H vs Q E hr h => ?_)
  · obtain ⟨n, i, a, b, ms, ks, rfl, _⟩ := h
    rfl
  · obtain ⟨n, i, a, b, ms, ks, rfl, ha, hb, lm, lk, hn, q⟩ := h
    refine ⟨_, (pss_one (ps_ret (pe_call G_from_labels (hr.mono (by decide)) rfl g_from_labels k_from_labels b_from_labels .nil (L2N.passes_call (L2N.takes_of rfl rfl rfl rfl) (fun _ _ _ _ h => h)) (pa_cons (pv 0) (pa_cons (pv 0) (pa_cons (pe_op op_cat (pe_call G_with_marks_ (hr.mono (by decide)) rfl g_with_marks_ k_with_marks_ b_with_marks_ .nil pass0 (pa_cons (pv 0) (pa_cons (pv 1) (pa_cons (pv 2) pa_nil)))) (pe_call G_with_marks_ (hr.mono (by decide)) rfl g_with_marks_ k_with_marks_ b_with_marks_ .nil pass0 (pa_cons (pv 0) (pa_cons (pv 1) (pa_cons (pv 3) pa_nil))))) pa_nil)))))), ?_⟩
    have szl : 20000 ≤ sizeLine := by decide
    have l1 := withM_len lm
    have l2 := withM_len lk
    refine ⟨_, rfl, _, rfl, _, rfl, _, rfl, _, rfl, n, i, a, ms, rfl, ha, lm, by omega, fun D1 H1 s1 h1 => ?_⟩
    refine ⟨_, rfl, _, rfl, _, rfl, n, i, b, ks, rfl, s1 _ _ hb, lk, by omega, fun D2 H2 s2 h2 => ?_⟩
    refine ⟨D1, D2, _, _, rfl, rfl, s2 _ _ h1, h2, by rw [List.length_map, List.length_map]; omega, fun p np => ?_⟩
    rw [← List.map_append] at *
    have sz : siz (n : Int) (n : Int) = true := siz_iff.mpr (by omega)
    have ll : ((withM n i ms ++ withM n i ks).length : Int) = (n : Int) + (n : Int) := by rw [List.length_append, l1, l2]; omega
    refine ⟨n, n, p, _, rfl, .inl (.inl upd_same), by rw [List.length_append, l1, l2]; omega, ?_⟩
    exact ⟨fun z => (nomatch sz.symm.trans z), fun _ => ⟨fun z => absurd ll z, fun _ v H' s' d => q v H' (Same.trans s1 (Same.trans s2 (Same.trans (same_upd np) s'))) ⟨d, sz, ll⟩⟩⟩
def spUnit (CB : Addr) : Sp := fun vs H Q E => ∃ n : Int, vs = [.int n] ∧ (¬ (0 ≤ n ∧ n ≤ 6) → E (.ref CB) none H) ∧ (∀ n' : Nat, n = n' → n' ≤ 6 → ∀ v H', Same H H' → DgAt H' v n' n' (ixs n' ++ ixs n') → Q v H')
theorem withM_nil {n : Nat} : withM n 0 [] = ixs n := rfl
theorem ok_unit {f CB a_check_ a_changed_ : Addr} {fd fd_check_ fd_changed_ : FuncData} (F : Fun K "unit" "unit" s_unit f fd)
    (G_check_ : FnOk P w K mg base (L2N.CX P w) 1 a_check_ fd_check_ ["n", "i", "strands"] (spCheckS CB)) (g_check_ : mg "_check" = some (.ref a_check_)) (k_check_ : PySem.W.keepIn K (.ref a_check_) = true) (b_check_ : Binds K fd_check_ ["n", "i", "strands"] [])
    (G_changed_ : FnOk P w K mg base (L2N.CX P w) 4 a_changed_ fd_changed_ ["n", "i", "above", "below"] spChanged) (g_changed_ : mg "_changed" = some (.ref a_changed_)) (k_changed_ : PySem.W.keepIn K (.ref a_changed_) = true) (b_changed_ : Binds K fd_changed_ ["n", "i", "above", "below"] []) :
    FnOk P w K mg base (L2N.CX P w) 5 f fd ["n"] (spUnit CB) := by
  refine F.okXN sc_unit (fun vs H Q E h => ?_) (fun cdv A outer s H vs Q E hr h => ?_)
  · obtain ⟨n, rfl, _⟩ := h
    rfl
  · obtain ⟨n, rfl, qB, q⟩ := h
    refine ⟨_, (pss_cons (ps_expr (pe_call G_check_ (hr.mono (by decide)) rfl g_check_ k_check_ b_check_ .nil (L2N.passes_call (L2N.takes_of rfl rfl rfl rfl) (fun _ _ _ _ h => h)) (pa_cons (pv 0) (pa_cons pe_int (pa_cons pe_int pa_nil)))))
  (pss_one (ps_ret (pe_call G_changed_ (hr.mono (by decide)) rfl g_changed_ k_changed_ b_changed_ .nil (L2N.passes_call (L2N.takes_of rfl rfl rfl rfl) (fun _ _ _ _ h => h)) (pa_cons (pv 0) (pa_cons pe_int (pa_cons (pe_lst pa_nil) (pa_cons (pe_lst pa_nil) pa_nil)))))))), ?_⟩
    refine ⟨_, rfl, n, 0, 0, rfl, fun z => qB fun y => z ⟨y.1, y.2, by omega, by omega⟩, fun z => ?_⟩
    obtain ⟨n', rfl⟩ : ∃ n' : Nat, n = n' := ⟨n.toNat, by omega⟩
    refine ⟨_, rfl, (by show 0 ≤ sizeLine; decide), fun p1 np1 => ⟨(by show 0 ≤ sizeLine; decide), fun p2 np2 => ?_⟩⟩
    have s1 := same_upd (o := .lst []) np1
    have s2 := same_upd (o := .lst []) np2
    exact ⟨n', 0, p1, p2, [], [], rfl, s2 _ _ upd_same, upd_same, Nat.zero_le _, Nat.zero_le _, by omega, fun v H' s' d => q n' rfl (by omega) v H' (Same.trans s1 (Same.trans s2 s')) d⟩
end

section
variable {P : Program} {w : World} {K : PySem.W.Frag} {mg : Str → Option Value} {base : Heap}
def spSmall (k : Nat) (g h : Nat → Nat → List Int) (CB : Addr) : Sp := fun vs H Q E => ∃ n i : Int, vs = [.int n, .int i] ∧ (¬ (0 ≤ n ∧ n ≤ 6 ∧ 0 ≤ i ∧ i ≤ n - k) → E (.ref CB) none H) ∧
  (∀ n' i' : Nat, n = n' → i = i' → n' ≤ 6 → i' + k ≤ n' → ∀ v H', Same H H' → DgAt H' v n' n' (withM n' i' (g n' i') ++ withM n' i' (h n' i')) → Q v H')
def hookA : Nat → Nat → List Int := fun _ i => [(i : Int), i]
def hookB : Nat → Nat → List Int := fun n _ => [(n : Int), n]
def swapA : Nat → Nat → List Int := fun _ i => [(i : Int), i + 1]
def swapB : Nat → Nat → List Int := fun _ i => [(i : Int) + 1, i]
def cutA : Nat → Nat → List Int := fun _ i => [(i : Int)]
def cutB : Nat → Nat → List Int := fun n _ => [(n : Int)]
theorem ok_hook {f CB a_check_ a_changed_ : Addr} {fd fd_check_ fd_changed_ : FuncData} (F : Fun K "hook" "hook" s_hook f fd)
    (G_check_ : FnOk P w K mg base (L2N.CX P w) 1 a_check_ fd_check_ ["n", "i", "strands"] (spCheckS CB)) (g_check_ : mg "_check" = some (.ref a_check_)) (k_check_ : PySem.W.keepIn K (.ref a_check_) = true) (b_check_ : Binds K fd_check_ ["n", "i", "strands"] [])
    (G_changed_ : FnOk P w K mg base (L2N.CX P w) 4 a_changed_ fd_changed_ ["n", "i", "above", "below"] spChanged) (g_changed_ : mg "_changed" = some (.ref a_changed_)) (k_changed_ : PySem.W.keepIn K (.ref a_changed_) = true) (b_changed_ : Binds K fd_changed_ ["n", "i", "above", "below"] []) :
    FnOk P w K mg base (L2N.CX P w) 5 f fd ["n", "i"] (spSmall 2 hookA hookB CB) := by
  refine F.okXN sc_hook (fun vs H Q E h => ?_) (fun cdv A outer s H vs Q E hr h => ?_)
  · obtain ⟨n, i, rfl, _⟩ := h
    rfl
  · obtain ⟨n, i, rfl, qB, q⟩ := h
    refine ⟨_, (pss_cons (ps_expr (pe_call G_check_ (hr.mono (by decide)) rfl g_check_ k_check_ b_check_ .nil (L2N.passes_call (L2N.takes_of rfl rfl rfl rfl) (fun _ _ _ _ h => h)) (pa_cons (pv 0) (pa_cons (pv 1) (pa_cons pe_int pa_nil)))))
  (pss_one (ps_ret (pe_call G_changed_ (hr.mono (by decide)) rfl g_changed_ k_changed_ b_changed_ .nil (L2N.passes_call (L2N.takes_of rfl rfl rfl rfl) (fun _ _ _ _ h => h)) (pa_cons (pv 0) (pa_cons (pv 1) (pa_cons (pe_lst (pa_cons (pv 1) (pa_cons (pv 1) pa_nil))) (pa_cons (pe_lst (pa_cons (pv 0) (pa_cons (pv 0) pa_nil))) pa_nil)))))))), ?_⟩
    refine ⟨_, rfl, _, rfl, n, i, 2, rfl, fun z => qB z, fun z => ?_⟩
    obtain ⟨n', rfl⟩ : ∃ n' : Nat, n = n' := ⟨n.toNat, by omega⟩
    obtain ⟨i', rfl⟩ : ∃ i' : Nat, i = i' := ⟨i.toNat, by omega⟩
    refine ⟨_, rfl, _, rfl, _, rfl, _, rfl, (by show 2 ≤ sizeLine; decide), fun p1 np1 => ⟨_, rfl, _, rfl, (by show 2 ≤ sizeLine; decide), fun p2 np2 => ?_⟩⟩
    have s1 := same_upd (o := .lst [.int i', .int i']) np1
    have s2 := same_upd (o := .lst [.int n', .int n']) np2
    exact ⟨n', i', p1, p2, hookA n' i', hookB n' i', rfl, s2 _ _ upd_same, upd_same, by show i' + 2 ≤ n'; omega, by show i' + 2 ≤ n'; omega, by omega, fun v H' s' d => q n' i' rfl rfl (by omega) (by omega) v H' (Same.trans s1 (Same.trans s2 s')) d⟩
theorem ok_swap {f CB a_check_ a_changed_ : Addr} {fd fd_check_ fd_changed_ : FuncData} (F : Fun K "swap" "swap" s_swap f fd)
    (G_check_ : FnOk P w K mg base (L2N.CX P w) 1 a_check_ fd_check_ ["n", "i", "strands"] (spCheckS CB)) (g_check_ : mg "_check" = some (.ref a_check_)) (k_check_ : PySem.W.keepIn K (.ref a_check_) = true) (b_check_ : Binds K fd_check_ ["n", "i", "strands"] [])
    (G_changed_ : FnOk P w K mg base (L2N.CX P w) 4 a_changed_ fd_changed_ ["n", "i", "above", "below"] spChanged) (g_changed_ : mg "_changed" = some (.ref a_changed_)) (k_changed_ : PySem.W.keepIn K (.ref a_changed_) = true) (b_changed_ : Binds K fd_changed_ ["n", "i", "above", "below"] []) :
    FnOk P w K mg base (L2N.CX P w) 5 f fd ["n", "i"] (spSmall 2 swapA swapB CB) := by
  refine F.okXN sc_swap (fun vs H Q E h => ?_) (fun cdv A outer s H vs Q E hr h => ?_)
  · obtain ⟨n, i, rfl, _⟩ := h
    rfl
  · obtain ⟨n, i, rfl, qB, q⟩ := h
    refine ⟨_, (pss_cons (ps_expr (pe_call G_check_ (hr.mono (by decide)) rfl g_check_ k_check_ b_check_ .nil (L2N.passes_call (L2N.takes_of rfl rfl rfl rfl) (fun _ _ _ _ h => h)) (pa_cons (pv 0) (pa_cons (pv 1) (pa_cons pe_int pa_nil)))))
  (pss_one (ps_ret (pe_call G_changed_ (hr.mono (by decide)) rfl g_changed_ k_changed_ b_changed_ .nil (L2N.passes_call (L2N.takes_of rfl rfl rfl rfl) (fun _ _ _ _ h => h)) (pa_cons (pv 0) (pa_cons (pv 1) (pa_cons (pe_lst (pa_cons (pv 1) (pa_cons (pe_op op_add (pv 1) pe_int) pa_nil))) (pa_cons (pe_lst (pa_cons (pe_op op_add (pv 1) pe_int) (pa_cons (pv 1) pa_nil))) pa_nil)))))))), ?_⟩
    refine ⟨_, rfl, _, rfl, n, i, 2, rfl, fun z => qB z, fun z => ?_⟩
    obtain ⟨n', rfl⟩ : ∃ n' : Nat, n = n' := ⟨n.toNat, by omega⟩
    obtain ⟨i', rfl⟩ : ∃ i' : Nat, i = i' := ⟨i.toNat, by omega⟩
    refine ⟨_, rfl, _, rfl, _, rfl, _, rfl, _, _, rfl, rfl, (by show 2 ≤ sizeLine; decide), fun p1 np1 => ⟨_, rfl, _, _, rfl, rfl, _, rfl, (by show 2 ≤ sizeLine; decide), fun p2 np2 => ?_⟩⟩
    have s1 := same_upd (o := .lst [.int i', .int (i' + 1)]) np1
    have s2 := same_upd (o := .lst [.int (i' + 1), .int i']) np2
    exact ⟨n', i', p1, p2, swapA n' i', swapB n' i', rfl, s2 _ _ upd_same, upd_same, by show i' + 2 ≤ n'; omega, by show i' + 2 ≤ n'; omega, by omega, fun v H' s' d => q n' i' rfl rfl (by omega) (by omega) v H' (Same.trans s1 (Same.trans s2 s')) d⟩
theorem ok_bridge {f CB a_check_ a_changed_ : Addr} {fd fd_check_ fd_changed_ : FuncData} (F : Fun K "bridge" "bridge" s_bridge f fd)
    (G_check_ : FnOk P w K mg base (L2N.CX P w) 1 a_check_ fd_check_ ["n", "i", "strands"] (spCheckS CB)) (g_check_ : mg "_check" = some (.ref a_check_)) (k_check_ : PySem.W.keepIn K (.ref a_check_) = true) (b_check_ : Binds K fd_check_ ["n", "i", "strands"] [])
    (G_changed_ : FnOk P w K mg base (L2N.CX P w) 4 a_changed_ fd_changed_ ["n", "i", "above", "below"] spChanged) (g_changed_ : mg "_changed" = some (.ref a_changed_)) (k_changed_ : PySem.W.keepIn K (.ref a_changed_) = true) (b_changed_ : Binds K fd_changed_ ["n", "i", "above", "below"] []) :
    FnOk P w K mg base (L2N.CX P w) 5 f fd ["n", "i"] (spSmall 2 hookA hookA CB) := by
  refine F.okXN sc_bridge (fun vs H Q E h => ?_) (fun cdv A outer s H vs Q E hr h => ?_)
  · obtain ⟨n, i, rfl, _⟩ := h
    rfl
  · obtain ⟨n, i, rfl, qB, q⟩ := h
    refine ⟨_, (pss_cons (ps_expr (pe_call G_check_ (hr.mono (by decide)) rfl g_check_ k_check_ b_check_ .nil (L2N.passes_call (L2N.takes_of rfl rfl rfl rfl) (fun _ _ _ _ h => h)) (pa_cons (pv 0) (pa_cons (pv 1) (pa_cons pe_int pa_nil)))))
  (pss_one (ps_ret (pe_call G_changed_ (hr.mono (by decide)) rfl g_changed_ k_changed_ b_changed_ .nil (L2N.passes_call (L2N.takes_of rfl rfl rfl rfl) (fun _ _ _ _ h => h)) (pa_cons (pv 0) (pa_cons (pv 1) (pa_cons (pe_lst (pa_cons (pv 1) (pa_cons (pv 1) pa_nil))) (pa_cons (pe_lst (pa_cons (pv 1) (pa_cons (pv 1) pa_nil))) pa_nil)))))))), ?_⟩
    refine ⟨_, rfl, _, rfl, n, i, 2, rfl, fun z => qB z, fun z => ?_⟩
    obtain ⟨n', rfl⟩ : ∃ n' : Nat, n = n' := ⟨n.toNat, by omega⟩
    obtain ⟨i', rfl⟩ : ∃ i' : Nat, i = i' := ⟨i.toNat, by omega⟩
    refine ⟨_, rfl, _, rfl, _, rfl, _, rfl, (by show 2 ≤ sizeLine; decide), fun p1 np1 => ⟨_, rfl, _, rfl, (by show 2 ≤ sizeLine; decide), fun p2 np2 => ?_⟩⟩
    have s1 := same_upd (o := .lst [.int i', .int i']) np1
    have s2 := same_upd (o := .lst [.int i', .int i']) np2
    exact ⟨n', i', p1, p2, hookA n' i', hookA n' i', rfl, s2 _ _ upd_same, upd_same, by show i' + 2 ≤ n'; omega, by show i' + 2 ≤ n'; omega, by omega, fun v H' s' d => q n' i' rfl rfl (by omega) (by omega) v H' (Same.trans s1 (Same.trans s2 s')) d⟩
theorem ok_cut {f CB a_check_ a_changed_ : Addr} {fd fd_check_ fd_changed_ : FuncData} (F : Fun K "cut" "cut" s_cut f fd)
    (G_check_ : FnOk P w K mg base (L2N.CX P w) 1 a_check_ fd_check_ ["n", "i", "strands"] (spCheckS CB)) (g_check_ : mg "_check" = some (.ref a_check_)) (k_check_ : PySem.W.keepIn K (.ref a_check_) = true) (b_check_ : Binds K fd_check_ ["n", "i", "strands"] [])
    (G_changed_ : FnOk P w K mg base (L2N.CX P w) 4 a_changed_ fd_changed_ ["n", "i", "above", "below"] spChanged) (g_changed_ : mg "_changed" = some (.ref a_changed_)) (k_changed_ : PySem.W.keepIn K (.ref a_changed_) = true) (b_changed_ : Binds K fd_changed_ ["n", "i", "above", "below"] []) :
    FnOk P w K mg base (L2N.CX P w) 5 f fd ["n", "i"] (spSmall 1 cutA cutB CB) := by
  refine F.okXN sc_cut (fun vs H Q E h => ?_) (fun cdv A outer s H vs Q E hr h => ?_)
  · obtain ⟨n, i, rfl, _⟩ := h
    rfl
  · obtain ⟨n, i, rfl, qB, q⟩ := h
    refine ⟨_, (pss_cons (ps_expr (pe_call G_check_ (hr.mono (by decide)) rfl g_check_ k_check_ b_check_ .nil (L2N.passes_call (L2N.takes_of rfl rfl rfl rfl) (fun _ _ _ _ h => h)) (pa_cons (pv 0) (pa_cons (pv 1) (pa_cons pe_int pa_nil)))))
  (pss_one (ps_ret (pe_call G_changed_ (hr.mono (by decide)) rfl g_changed_ k_changed_ b_changed_ .nil (L2N.passes_call (L2N.takes_of rfl rfl rfl rfl) (fun _ _ _ _ h => h)) (pa_cons (pv 0) (pa_cons (pv 1) (pa_cons (pe_lst (pa_cons (pv 1) pa_nil)) (pa_cons (pe_lst (pa_cons (pv 0) pa_nil)) pa_nil)))))))), ?_⟩
    refine ⟨_, rfl, _, rfl, n, i, 1, rfl, fun z => qB z, fun z => ?_⟩
    obtain ⟨n', rfl⟩ : ∃ n' : Nat, n = n' := ⟨n.toNat, by omega⟩
    obtain ⟨i', rfl⟩ : ∃ i' : Nat, i = i' := ⟨i.toNat, by omega⟩
    refine ⟨_, rfl, _, rfl, _, rfl, (by show 1 ≤ sizeLine; decide), fun p1 np1 => ⟨_, rfl, (by show 1 ≤ sizeLine; decide), fun p2 np2 => ?_⟩⟩
    have s1 := same_upd (o := .lst [.int i']) np1
    have s2 := same_upd (o := .lst [.int n']) np2
    exact ⟨n', i', p1, p2, cutA n' i', cutB n' i', rfl, s2 _ _ upd_same, upd_same, by show i' + 1 ≤ n'; omega, by show i' + 1 ≤ n'; omega, by omega, fun v H' s' d => q n' i' rfl rfl (by omega) (by omega) v H' (Same.trans s1 (Same.trans s2 s')) d⟩
end

/-! ### letters and words -/
abbrev Lt := Str × Int
def TL (H : Hp) (v : V) (x : Lt) : Prop := ∃ t, v = .ref t ∧ H t = some (.tup [.str x.1, .int x.2])
theorem TL.same {H H' : Hp} {v : V} {x : Lt} (s : Same H H') (h : TL H v x) : TL H' v x := by
  obtain ⟨t, e, h⟩ := h
  exact ⟨t, e, s _ _ h⟩
theorem TL.butL {H H' : Hp} {r : Addr} {ys : List V} {v : V} {x : Lt} (hr : H r = some (.lst ys)) (s : SameBut r H H') (h : TL H v x) : TL H' v x := by
  obtain ⟨t, rfl, e⟩ := h
  exact ⟨t, rfl, s _ _ (ne_of e hr (fun z => nomatch z)) e⟩
/-- a word: a tuple of letters -/
def WP (K : PySem.W.Frag) (H : Hp) (v : V) (x : List Lt) : Prop := ∃ t xs, v = .ref t ∧ SqT K H t xs ∧ Paired (TL H) xs x
theorem WP.same {K : PySem.W.Frag} {H H' : Hp} {v : V} {x : List Lt} (s : Same H H') (h : WP K H v x) : WP K H' v x := by
  obtain ⟨t, xs, e, h, p⟩ := h
  exact ⟨t, xs, e, sqT_same s h, Paired.mapP p fun _ _ q => q.same s⟩
def dLt (x : Lt) : PyData := .tuple [.str x.1, .int x.2]
def dWd (x : List Lt) : PyData := .tuple (x.map dLt)
def dLs (x : List Lt) : PyData := .list (x.map dLt)
theorem TL.dp {K : PySem.W.Frag} {H : Hp} {v : V} {x : Lt} (h : TL H v x) : Dp K H v (dLt x) := by
  obtain ⟨t, rfl, e⟩ := h
  exact .tup (.inl (.inl e)) (.cons (.str _) (.cons (.int _) .nil))
theorem lts_dp {K : PySem.W.Frag} {H : Hp} : ∀ {vs : List V} {x : List Lt}, Paired (TL H) vs x → DpAll K H vs (x.map dLt)
  | _, _, .nil => .nil
  | _, _, .cons h t => .cons h.dp (lts_dp t)
theorem WP.dp {K : PySem.W.Frag} {H : Hp} {v : V} {x : List Lt} (h : WP K H v x) : Dp K H v (dWd x) := by
  obtain ⟨t, xs, rfl, e, p⟩ := h
  exact .tup e (lts_dp p)
theorem eqv_dLt (x y : Lt) : PyData.eqv (dLt x) (dLt y) = decide (x = y) := by
  obtain ⟨a, b⟩ := x
  obtain ⟨c, d⟩ := y
  unfold dLt
  simp only [PyData.eqv, PyData.eqvAll]
  by_cases h1 : a = c
  · by_cases h2 : b = d
    · subst h1 h2
      simp
    · simp [h2]
  · simp [h1]
theorem any_dLt (x : Lt) : ∀ l : List Lt, ((l.map dLt).any fun z => PyData.eqv z (dLt x)) = decide (x ∈ l)
  | [] => by simp
  | y :: l => by
    rw [List.map_cons, List.any_cons, any_dLt x l, eqv_dLt]
    by_cases c : y = x
    · rw [decide_eq_true c, c]
      simp
    · rw [decide_eq_false c, Bool.false_or]
      exact decide_eq_decide.mpr ⟨List.mem_cons_of_mem _, fun z => (List.mem_cons.mp z).resolve_left (fun e => c e.symm)⟩
def wideK (k : Str) : Int := if k = "p" then 1 else 2
def kindS (z : Str) : Str := if z = "threads" then "s" else if z = "loose" then "sp" else if z = "pairs" then "se" else if z = "lonepairs" then "sep" else if z = "even" then "seb" else "sepb"
def chL (x : Str) : List Str := x.cps.toList.map fun c => ⟨#[c]⟩
def kindL (z : Str) : List Str := chL (kindS z)
def lettersK (n : Int) (k : Str) : List Lt := (List.range (n - wideK k + 1).toNat).map fun i : Nat => (k, (i : Int))
def lettersL (z : Str) (n : Int) : List Lt := (kindL z).flatMap (lettersK n)
theorem kindL_ok : ∀ z ∈ fams, ∀ k ∈ kindL z, k = "s" ∨ k = "e" ∨ k = "p" ∨ k = "b" := by decide +kernel
theorem kindS_len : ∀ z ∈ fams, (kindS z).cps.size ≤ 4 := by decide +kernel
theorem lettersK_len (n : Int) (k : Str) (h : n ≤ 6) : (lettersK n k).length ≤ 6 := by
  unfold lettersK
  rw [List.length_map, List.length_range]
  unfold wideK
  split <;> omega
/-- a letter has a shape that can be shown and laid -/
theorem dLt_shaped (x : Lt) (h : PyData.strOk x.1 = true) : SeqAt.shaped (dLt x) = true := by
  show (PyData.canLay0 (dLt x) && decide (PyData.depth (dLt x) ≤ 64)) = true
  unfold dLt
  rw [show PyData.canLay0 (.tuple [.str x.1, .int x.2]) = true by simp [PyData.canLay0, PyData.canLayAll0, h], show PyData.depth (.tuple [.str x.1, .int x.2]) = 1 by simp [PyData.depth, PyData.depthAll]]
  rfl
section
variable {P : Program} {w : World} {K : PySem.W.Frag} {mg : Str → Option Value} {base : Heap}
def spStrands : Sp := fun vs H Q _ => ∃ k : Str, vs = [.str k] ∧ Q (.int (wideK k)) H
theorem ok_strands_ {f : Addr} {fd : FuncData} (F : Fun K "_strands" "_strands" s_strands_ f fd) : FnOk P w K mg base CX0 1 f fd ["kind"] spStrands := by
  refine F.ok sc_strands_ (fun vs H Q E h => ?_) (fun cdv A outer s H vs Q E hr h => ?_)
  · obtain ⟨k, rfl, _⟩ := h
    rfl
  · obtain ⟨k, rfl, q⟩ := h
    refine ⟨_, (pss_one (ps_ret (pe_ifExp (pt_cmpR op_eq (pv 0) pe_str (nomark _)) pe_int pe_int))), ?_⟩
    unfold wideK at q
    refine ⟨_, rfl, rfl, _, rfl, ite2 (fun e => ?_) (fun e => ?_)⟩
    · rw [if_pos (V.str.inj (of_decide_eq_true e))] at q
      exact q
    · rw [if_neg (fun z => e (decide_eq_true (congrArg V.str z)))] at q
      exact q
end

theorem paired_endW {α β : Type} {F : α → β → Prop} : ∀ {l : List α} {m : List β} {x : α} {y : β}, Paired F l m → F x y → Paired F (l ++ [x]) (m ++ [y])
  | _, _, _, _, .nil, h => .cons h .nil
  | _, _, _, _, .cons a t, h => .cons a (paired_endW t h)
section
variable {P : Program} {w : World} {K : PySem.W.Frag} {mg : Str → Option Value} {base : Heap}
/-! ### letters -/
def spLetters (CF CB : Addr) : Sp := fun vs H Q E => ∃ (z : Str) (n : Int), vs = [.str z, .int n] ∧ (z ∉ fams → E (.ref CF) none H) ∧ (z ∈ fams → ¬ (0 ≤ n ∧ n ≤ 6) → E (.ref CB) none H) ∧
  (z ∈ fams → 0 ≤ n ∧ n ≤ 6 → ∀ (L : Addr) (ps : List V) H', Same H H' → H' L = some (.lst ps) → Paired (TL H') ps (lettersL z n) → Q (.ref L) H')
theorem ok_letters {f CF CB aKI : Addr} {esK : Array DictEntry} {nK : Nat} {tm : Tok} {fd : FuncData} (F : Fun K "letters" "letters" s_letters f fd) (T : ErrC K mg "BadNumber" CB) (m_MOST_STRANDS : mg "MOST_STRANDS" = some (.int 6 tm)) (z_range : mg "range" = none)
    (m_KINDS : mg "KINDS" = some (.ref aKI)) (D_KINDS : KDict K w aKI esK nK) (v_KINDS : ∀ z ∈ fams, ∃ t, PySem.W.nsIn K aKI z = some (some (.str (kindS z) t)))
    {a_check_family : Addr} {fd_check_family : FuncData} (G_check_family : FnOk P w K mg base (L2N.CX P w) 1 a_check_family fd_check_family ["family"] (spCheckFamily CF)) (g_check_family : mg "check_family" = some (.ref a_check_family)) (k_check_family : PySem.W.keepIn K (.ref a_check_family) = true) (b_check_family : Binds K fd_check_family ["family"] [])
    {a_strands_ : Addr} {fd_strands_ : FuncData} (G_strands_ : FnOk P w K mg base CX0 1 a_strands_ fd_strands_ ["kind"] spStrands) (g_strands_ : mg "_strands" = some (.ref a_strands_)) (k_strands_ : PySem.W.keepIn K (.ref a_strands_) = true) (b_strands_ : Binds K fd_strands_ ["kind"] []) :
    FnOk P w K mg base (L2N.CX P w) 2 f fd ["family", "n"] (spLetters CF CB) := by
  obtain ⟨gc_BadNumber, x_BadNumber, kc_BadNumber, bc_BadNumber, tc_BadNumber⟩ := T
  have r_MOST_STRANDS : RelV (.int 6) (.int 6 tm) := ⟨_, rfl⟩
  have r_KINDS : RelV (.ref aKI) (.ref aKI) := rfl
  refine F.okXN sc_letters (fun vs H Q E h => ?_) (fun cdv A outer s H vs Q E hr h => ?_)
  · obtain ⟨z, n, rfl, _⟩ := h
    rfl
  · obtain ⟨z, n, rfl, q1, q2, q⟩ := h
    refine ⟨_, (pss_cons (ps_expr (pe_call G_check_family (hr.mono (by decide)) rfl g_check_family k_check_family b_check_family .nil (L2N.passes_call (L2N.takes_of rfl rfl rfl rfl) (fun _ _ _ _ h => h)) (pa_cons (pv 0) pa_nil)))
  (pss_cons (ps_if (pt_not (pt_chain op_le op_le pe_int (pv 1) (pe_glob rfl m_MOST_STRANDS r_MOST_STRANDS))) (pss_one (L2N.ps_raise rfl (L2N.takes_of rfl rfl rfl rfl) (L2N.pmk_own PySem.F.excBase_ValueError x_BadNumber gc_BadNumber kc_BadNumber (raises_own bc_BadNumber tc_BadNumber) rfl))) pss_nil)
  (pss_one (ps_ret (pe_lc2 (own := [("kind", 2), ("i", 3)]) (vs1 := [3]) rfl sc_letters.nd (pi_str (L2.pe_kdget (K := K) rfl D_KINDS (pe_glob rfl m_KINDS r_KINDS) (pv 0) (fun _ _ => rfl))) (blkOk_by (N := ["family", "n", "kind", "i"]) (sc := defScope s_letters) (by decide +kernel)) (by decide) (fun _ _ _ _ _ => (pg_name (i := 2) sc_letters.nd rfl (.inl rfl))) (fun _ _ _ _ _ => pts_nil) (fun _ _ _ _ _ => (pi_range1 rfl z_range (pa_cons (pe_op op_add (pe_op op_sub (pv 1) (pe_call G_strands_ (hr.mono (by decide)) rfl g_strands_ k_strands_ b_strands_ .nil pass0 (pa_cons (pv 2) pa_nil))) pe_int) pa_nil))) (fun _ _ _ _ _ => (pg_name (i := 3) sc_letters.nd rfl (.inl rfl))) (fun _ _ _ _ _ => pts_nil) (fun _ _ _ _ _ => (pe_tup (pa_cons (pv 2) (pa_cons (pv 3) pa_nil))))))))), ?_⟩
    have szl : 20000 ≤ sizeLine := by decide
    refine ⟨_, rfl, z, rfl, fun mz => ?_, q1⟩
    have q2 := q2 mz
    have q := q mz
    refine ⟨_, rfl, _, _, rfl, rfl, _, rfl, ite2 (fun e1 => ?_) (fun e1 => ?_)⟩
    · have e1 := of_decide_eq_true e1
      refine ⟨_, _, rfl, rfl, _, rfl, ?_⟩
      by_cases e2 : n ≤ 6
      · rw [decide_eq_true e2]
        refine iteF ?_
        have q := q ⟨e1, e2⟩
        obtain ⟨t, hv⟩ := v_KINDS z mz
        refine ⟨_, rfl, z, _, .str (kindS z), rfl, rfl, hv, ⟨t, rfl⟩, kindS z, rfl, fun D nD => ?_⟩
        have lk : (kindL z).length = (kindS z).cps.size := by
          unfold kindL chL
          rw [List.length_map, Array.length_toList]
        have l4 := kindS_len z mz
        refine walkD_str (fun i H' => SameBut D H H' ∧ ∃ ps, H' D = some (.lst ps) ∧ ps.length ≤ 6 * i ∧ Paired (TL H') ps (((kindL z).take i).flatMap (lettersK n))) ⟨SameBut.upd, [], upd_same, Nat.zero_le _, .nil⟩ (fun i c H1 hc hP => ?_) (fun H1 hP => ?_)
        · obtain ⟨sb, ps, hD, lp, pp⟩ := hP
          have ek : (kindL z)[i]? = some ⟨#[c]⟩ := by
            unfold kindL chL
            rw [List.getElem?_map, Array.getElem?_toList, hc]
            rfl
          have hi : i < 4 := by
            have := (Array.getElem?_eq_some_iff.mp hc).1
            omega
          have et : ((kindL z).take (i + 1)).flatMap (lettersK n) = ((kindL z).take i).flatMap (lettersK n) ++ lettersK n ⟨#[c]⟩ := by
            rw [List.take_succ, ek, List.flatMap_append]
            show _ ++ [_].flatMap _ = _
            rw [List.flatMap_singleton]
          rw [et]
          generalize ((kindL z).take i).flatMap (lettersK n) = base' at pp ⊢
          generalize (⟨#[c]⟩ : Str) = k
          have hw : wideK k = 1 ∨ wideK k = 2 := by unfold wideK; split <;> omega
          refine ⟨rfl, ?_⟩
          have lkn := lettersK_len n k e2
          have lkc : (lettersK n k).length = (n - wideK k + 1).toNat := by unfold lettersK; rw [List.length_map, List.length_range]
          refine ⟨_, rfl, _, rfl, k, rfl, _, _, rfl, rfl, _, _, rfl, rfl, n - wideK k + 1, rfl, by omega, by omega, ?_⟩
          refine walkD_range (lo := 0) (n := (n - wideK k + 1).toNat) (fun j H' => SameBut D H H' ∧ ∃ ps, H' D = some (.lst ps) ∧ ps.length ≤ 6 * i + j ∧ Paired (TL H') ps (base' ++ (lettersK n k).take j)) ⟨sb, ps, hD, lp, by rw [List.take_zero, List.append_nil]; exact pp⟩ (fun j H2 hj hP => ?_) (fun H2 hP => ?_)
          · obtain ⟨sb2, qs, hD2, lq, pq⟩ := hP
            have ej : (lettersK n k)[j]? = some (k, (j : Int)) := by
              unfold lettersK
              rw [List.getElem?_map, List.getElem?_range hj]
              rfl
            refine ⟨rfl, ?_⟩
            rw [show (0 : Int) + (j : Int) = (j : Int) from Int.zero_add _]
            refine ⟨_, rfl, _, rfl, (by show 2 ≤ sizeLine; omega), fun p np => ?_⟩
            have wp := same_upd (o := .tup [.str k, .int (j : Int)]) np
            have hD3 := wp _ _ hD2
            refine ⟨_, hD3, by omega, (sb2.trans fun b o _ e => wp b o e).trans SameBut.upd, _, upd_same, by rw [List.length_append]; show qs.length + 1 ≤ _; omega, ?_⟩
            rw [List.take_succ, ej, ← List.append_assoc]
            exact paired_endW (F := TL _) (Paired.mapP pq fun _ _ h => (h.same wp).butL hD3 SameBut.upd) (TL.butL hD3 SameBut.upd ⟨p, rfl, upd_same⟩)
          · obtain ⟨sb2, qs, hD2, lq, pq⟩ := hP
            rw [← lkc, List.take_length] at pq
            exact ⟨sb2, qs, hD2, by omega, pq⟩
        · obtain ⟨sb, ps, hD, lp, pp⟩ := hP
          rw [← lk, List.take_length] at pp
          exact q D ps H1 (fun b o e => sb b o (ne_of_none e nD) e) hD pp
      · rw [decide_eq_false e2]
        exact iteT (q2 fun z => e2 z.2)
    · exact ⟨_, rfl, iteT (q2 fun z => e1 (decide_eq_true z.1))⟩
end

theorem paired_ix {α β : Type} {F : α → β → Prop} : ∀ {l : List α} {m : List β} {i : Nat} {x : α}, Paired F l m → l[i]? = some x → ∃ y, m[i]? = some y ∧ F x y
  | _, _, 0, _, .cons h _, e => by
    obtain rfl := Option.some.inj e
    exact ⟨_, rfl, h⟩
  | _, _, i + 1, _, .cons _ t, e => paired_ix (i := i) t e

theorem lettersL_len (z : Str) (mz : z ∈ fams) (n : Int) (h : n ≤ 6) : (lettersL z n).length ≤ 24 := by
  have l4 := kindS_len z mz
  have lk : (kindL z).length = (kindS z).cps.size := by
    unfold kindL chL
    rw [List.length_map, Array.length_toList]
  have go : ∀ ks : List Str, (ks.flatMap (lettersK n)).length ≤ 6 * ks.length := by
    intro ks
    induction ks with
    | nil => exact Nat.zero_le _
    | cons k ks ih =>
      have := lettersK_len n k h
      rw [List.flatMap_cons, List.length_append, List.length_cons]
      omega
  have := go (kindL z)
  unfold lettersL
  omega
theorem lettersL_ok {z : Str} (mz : z ∈ fams) {n : Int} {x : Lt} (h : x ∈ lettersL z n) : (x.1 = "s" ∨ x.1 = "e" ∨ x.1 = "p" ∨ x.1 = "b") ∧ 0 ≤ x.2 ∧ x.2 ≤ n - wideK x.1 := by
  obtain ⟨k, hk, hx⟩ := List.mem_flatMap.mp h
  obtain ⟨i, hi, rfl⟩ := List.mem_map.mp hx
  have := List.mem_range.mp hi
  exact ⟨kindL_ok z mz k hk, by show (0 : Int) ≤ (i : Int); omega, by show (i : Int) ≤ n - wideK k; omega⟩
theorem kind_ok {k : Str} (h : k = "s" ∨ k = "e" ∨ k = "p" ∨ k = "b") : PyData.strOk k = true := by
  rcases h with rfl | rfl | rfl | rfl <;> decide +kernel
theorem dLs_shaped {l : List Lt} (h : ∀ x ∈ l, PyData.strOk x.1 = true) : SeqAt.shaped (dLs l) = true := by
  have go : ∀ l : List Lt, (∀ x ∈ l, PyData.strOk x.1 = true) → PyData.canLayAll0 (l.map dLt) = true ∧ PyData.depthAll (l.map dLt) ≤ 1 := by
    intro l
    induction l with
    | nil => intro _; exact ⟨by simp [PyData.canLayAll0], by simp [PyData.depthAll]⟩
    | cons x l ih =>
      intro h
      obtain ⟨h1, h2⟩ := ih fun y hy => h y (List.mem_cons_of_mem _ hy)
      have hx := h x List.mem_cons_self
      refine ⟨?_, ?_⟩
      · rw [List.map_cons]
        simp [PyData.canLayAll0, h1, dLt, PyData.canLay0, hx]
      · rw [List.map_cons]
        simp only [PyData.depthAll, dLt, PyData.depth]
        omega
  obtain ⟨h1, h2⟩ := go l h
  show (PyData.canLay0 (dLs l) && decide (PyData.depth (dLs l) ≤ 64)) = true
  unfold dLs
  rw [show PyData.canLay0 (.list (l.map dLt)) = true by simp [PyData.canLay0, h1], decide_eq_true (by simp only [PyData.depth]; omega)]
  rfl
/-- a word whose letters can be laid -/
def WOk (w : List Lt) : Prop := ∀ x ∈ w, PyData.strOk x.1 = true
def allIn (l w : List Lt) : Bool := w.all fun x => decide (x ∈ l)
def isWd (n : Int) (w : List Lt) : Bool := decide (w.length ≤ 60) && allIn (lettersL "parts" n) w
section
variable {P : Program} {w : World} {K : PySem.W.Frag} {mg : Str → Option Value} {base : Heap}
/-! ### _has_only, is_word, check_word -/
def spHasOnly (K : PySem.W.Frag) : Sp := fun vs H Q _ => ∃ (L : Addr) (ps : List V) (l : List Lt) (v : V) (x : List Lt), vs = [.ref L, v] ∧ H L = some (.lst ps) ∧ Paired (TL H) ps l ∧ WP K H v x ∧ WOk l ∧ WOk x ∧ l.length ≤ 1000 ∧ x.length ≤ 1000 ∧ ∀ H', Same H H' → Q (.bl (allIn l x)) H'
theorem ok_has_only_ {f : Addr} {fd : FuncData} (F : Fun K "_has_only" "_has_only" s_has_only_ f fd) (z_all : mg "all" = none) : FnOk P w K mg base CX0 1 f fd ["allowed", "word"] (spHasOnly K) := by
  refine F.ok sc_has_only_ (fun vs H Q E h => ?_) (fun cdv A outer s H vs Q E hr h => ?_)
  · obtain ⟨L, ps, l, v, x, rfl, _⟩ := h
    rfl
  · obtain ⟨L, ps, l, v, x, rfl, hL, pl, hv, okl, okx, ll, lx, q⟩ := h
    refine ⟨_, (pss_one (ps_ret (pe_callB (cr_all rfl) (by rfl) z_all boot_all (pa_cons (pe_lc (own := [("letter", 2)]) rfl sc_has_only_.nd (pi_tup (pv 1)) (blkOk_by (N := ["allowed", "word", "letter"]) (sc := defScope s_has_only_) (by first | decide +kernel | rfl)) (fun _ _ _ _ _ => (pg_name (i := 2) sc_has_only_.nd rfl (.inl rfl))) (fun _ _ _ _ _ => pts_nil) (fun _ _ _ _ _ => (pe_cmpR (op_inDK (K := K) rfl (room65 hr)) (pv 2) (pv 0) (by with_unfolding_all rfl)))) pa_nil)))), ?_⟩
    have szl : 20000 ≤ sizeLine := by decide
    obtain ⟨t, xs, rfl, ht, px⟩ := hv
    have lxs := px.length
    refine ⟨_, rfl, t, rfl, ⟨_, ht⟩, fun D nD => ?_⟩
    have kp : ∀ {H' : Hp}, SameBut D H H' → Same H H' := fun sb b o e => sb b o (ne_of_none e nD) e
    refine lc_it walk_tup (fun i H' => SameBut D H H' ∧ H' D = some (.lst ((((x.take i).map fun y => decide (y ∈ l))).map V.bl))) ⟨SameBut.upd, upd_same⟩ (fun i H' _ hP => sqT_same (kp hP.1) ht) (fun i y H2 H3 hi hP hy => ?_) (fun H2 hP => ?_)
    · obtain ⟨sb, hD⟩ := hP
      obtain ⟨rfl, ey⟩ := hy
      obtain ⟨xi, exi, hy⟩ := paired_ix px ey
      have hi : i < x.length := (List.getElem?_eq_some_iff.mp exi).1
      refine ⟨rfl, _, rfl, _, rfl, dLt xi, l.map dLt, (hy.same (kp sb)).dp, .lst (.inl (.inl (kp sb _ _ hL))) (lts_dp (Paired.mapP pl fun _ _ h => h.same (kp sb))), dLt_shaped _ (okx xi (List.mem_of_getElem? exi)), dLs_shaped okl, ?_⟩
      rw [any_dLt]
      refine ⟨_, hD, Nat.lt_of_le_of_lt (show _ ≤ i by rw [List.length_map, List.length_map, List.length_take]; omega) (by omega), sb.trans SameBut.upd, ?_⟩
      rw [upd_same, List.take_succ, exi, List.map_append, List.map_append]
      rfl
    · obtain ⟨sb, hD⟩ := hP
      rw [lxs, List.take_length] at hD
      refine ⟨D, _, rfl, .inl (.inl hD), ?_⟩
      have e : ((x.map fun y => decide (y ∈ l))).all id = allIn l x := by
        unfold allIn
        rw [List.all_map]
        rfl
      rw [e]
      exact q H2 (kp sb)
theorem WOk_letters {z : Str} (mz : z ∈ fams) (n : Int) : WOk (lettersL z n) := fun x hx => kind_ok (lettersL_ok mz hx).1
def spIsWord (K : PySem.W.Frag) (CB : Addr) : Sp := fun vs H Q E => ∃ (n : Int) (v : V) (x : List Lt), vs = [.int n, v] ∧ WP K H v x ∧ WOk x ∧ x.length ≤ 1000 ∧ (60 < x.length → ∀ H', Same H H' → Q (.bl false) H') ∧ (x.length ≤ 60 → ¬ (0 ≤ n ∧ n ≤ 6) → E (.ref CB) none H) ∧
  (x.length ≤ 60 → 0 ≤ n ∧ n ≤ 6 → ∀ H', Same H H' → Q (.bl (isWd n x)) H')
theorem ok_is_word {f CF CB : Addr} {tm : Tok} {fd : FuncData} (F : Fun K "is_word" "is_word" s_is_word f fd) (m_MOST_LETTERS : mg "MOST_LETTERS" = some (.int 60 tm)) (z_len : mg "len" = none) {a_letters : Addr} {fd_letters : FuncData} (G_letters : FnOk P w K mg base (L2N.CX P w) 2 a_letters fd_letters ["family", "n"] (spLetters CF CB)) (g_letters : mg "letters" = some (.ref a_letters)) (k_letters : PySem.W.keepIn K (.ref a_letters) = true) (b_letters : Binds K fd_letters ["family", "n"] [])
    {a_has_only_ : Addr} {fd_has_only_ : FuncData} (G_has_only_ : FnOk P w K mg base CX0 1 a_has_only_ fd_has_only_ ["allowed", "word"] (spHasOnly K)) (g_has_only_ : mg "_has_only" = some (.ref a_has_only_)) (k_has_only_ : PySem.W.keepIn K (.ref a_has_only_) = true) (b_has_only_ : Binds K fd_has_only_ ["allowed", "word"] []) :
    FnOk P w K mg base (L2N.CX P w) 3 f fd ["n", "word"] (spIsWord K CB) := by
  have r_MOST_LETTERS : RelV (.int 60) (.int 60 tm) := ⟨_, rfl⟩
  refine F.okXN sc_is_word (fun vs H Q E h => ?_) (fun cdv A outer s H vs Q E hr h => ?_)
  · obtain ⟨n, v, x, rfl, _⟩ := h
    rfl
  · obtain ⟨n, v, x, rfl, hv, okx, lx, q1, q2, q3⟩ := h
    refine ⟨_, (pss_one (ps_ret (pe_and (pe_cmpR op_le (pe_callB call_len_seq (by rfl) z_len boot_len (pa_cons (pv 1) pa_nil)) (pe_glob rfl m_MOST_LETTERS r_MOST_LETTERS) (nomark _)) (pe_one (pe_call G_has_only_ (hr.mono (by decide)) rfl g_has_only_ k_has_only_ b_has_only_ .nil pass0 (pa_cons (pe_call G_letters (hr.mono (by decide)) rfl g_letters k_letters b_letters .nil (L2N.passes_call (L2N.takes_of rfl rfl rfl rfl) (fun _ _ _ _ h => h)) (pa_cons pe_str (pa_cons (pv 0) pa_nil))) (pa_cons (pv 1) pa_nil))))))), ?_⟩
    obtain ⟨t, xs, rfl, ht, px⟩ := id hv
    have lxs := px.length
    have mp : ("parts" : Str) ∈ fams := by decide
    refine ⟨_, rfl, t, xs, rfl, .inr ht, _, _, rfl, rfl, _, rfl, ?_⟩
    by_cases c : x.length ≤ 60
    · refine if_pos_of (decide_eq_true (by omega)) ?_
      refine ⟨_, rfl, "parts", n, rfl, fun z => absurd mp z, fun _ nn => q2 c nn, fun _ hn L ps H1 s1 hL pl => ?_⟩
      have q3 := q3 c hn
      refine ⟨_, rfl, L, ps, lettersL "parts" n, .ref t, x, rfl, hL, pl, hv.same s1, WOk_letters mp n, okx, Nat.le_trans (lettersL_len "parts" mp n hn.2) (by decide), lx, fun H2 s2 => ?_⟩
      have e : isWd n x = allIn (lettersL "parts" n) x := by
        unfold isWd
        rw [decide_eq_true c, Bool.true_and]
      rw [← e]
      exact q3 H2 (Same.trans s1 s2)
    · refine if_neg_of (fun z => c (by have := of_decide_eq_true z; omega)) ?_
      exact q1 (by omega) H (Same.refl H)
def spCheckWord (K : PySem.W.Frag) (CB CWd : Addr) : Sp := fun vs H Q E => ∃ (n : Int) (v : V) (x : List Lt), vs = [.int n, v] ∧ WP K H v x ∧ WOk x ∧ x.length ≤ 1000 ∧ (60 < x.length → ∀ H', Same H H' → E (.ref CWd) none H') ∧ (x.length ≤ 60 → ¬ (0 ≤ n ∧ n ≤ 6) → E (.ref CB) none H) ∧
  (x.length ≤ 60 → 0 ≤ n ∧ n ≤ 6 → isWd n x = false → ∀ H', Same H H' → E (.ref CWd) none H') ∧ (x.length ≤ 60 → 0 ≤ n ∧ n ≤ 6 → isWd n x = true → ∀ H', Same H H' → Q .non H')
theorem ok_check_word {f CB CWd : Addr} {fd : FuncData} (F : Fun K "check_word" "check_word" s_check_word f fd) (T : ErrC K mg "NotWord" CWd) {a_is_word : Addr} {fd_is_word : FuncData} (G_is_word : FnOk P w K mg base (L2N.CX P w) 3 a_is_word fd_is_word ["n", "word"] (spIsWord K CB)) (g_is_word : mg "is_word" = some (.ref a_is_word)) (k_is_word : PySem.W.keepIn K (.ref a_is_word) = true) (b_is_word : Binds K fd_is_word ["n", "word"] []) :
    FnOk P w K mg base (L2N.CX P w) 4 f fd ["n", "word"] (spCheckWord K CB CWd) := by
  obtain ⟨gc_NotWord, x_NotWord, kc_NotWord, bc_NotWord, tc_NotWord⟩ := T
  refine F.okXN sc_check_word (fun vs H Q E h => ?_) (fun cdv A outer s H vs Q E hr h => ?_)
  · obtain ⟨n, v, x, rfl, _⟩ := h
    rfl
  · obtain ⟨n, v, x, rfl, hv, okx, lx, q1, q2, q3, q4⟩ := h
    refine ⟨_, (pss_one (ps_if (pt_not (pt_val (pe_call G_is_word (hr.mono (by decide)) rfl g_is_word k_is_word b_is_word .nil (L2N.passes_call (L2N.takes_of rfl rfl rfl rfl) (fun _ _ _ _ h => h)) (pa_cons (pv 0) (pa_cons (pv 1) pa_nil))))) (pss_one (L2N.ps_raise rfl (L2N.takes_of rfl rfl rfl rfl) (L2N.pmk_own PySem.F.excBase_ValueError x_NotWord gc_NotWord kc_NotWord (raises_own bc_NotWord tc_NotWord) rfl))) pss_nil)), ?_⟩
    refine ⟨_, rfl, _, rfl, n, v, x, rfl, hv, okx, lx, fun c H1 s1 => ⟨_, rfl, if_pos_of rfl (q1 c H1 s1)⟩, q2, fun c hn H1 s1 => ?_⟩
    cases e : isWd n x with
    | true => exact ⟨_, rfl, if_neg_of Bool.false_ne_true (q4 c hn e H1 s1)⟩
    | false => exact ⟨_, rfl, if_pos_of rfl (q3 c hn e H1 s1)⟩
end

/-! ### diagrams of letters and of words -/
def letD (n : Nat) (x : Lt) : List Int :=
  if x.1 = "s" then withM n x.2.toNat (swapA n x.2.toNat) ++ withM n x.2.toNat (swapB n x.2.toNat)
  else if x.1 = "e" then withM n x.2.toNat (hookA n x.2.toNat) ++ withM n x.2.toNat (hookB n x.2.toNat)
  else if x.1 = "p" then withM n x.2.toNat (cutA n x.2.toNat) ++ withM n x.2.toNat (cutB n x.2.toNat)
  else withM n x.2.toNat (hookA n x.2.toNat) ++ withM n x.2.toNat (hookA n x.2.toNat)
def wdStep (n : Nat) (s : Nat × List Int) (x : Lt) : Nat × List Int := (s.1 + hid (putM n n n s.2 (letD n x)) (putS n n n s.2 (letD n x)), putS n n n s.2 (letD n x))
def wdS (n : Nat) (x : List Lt) : Nat × List Int := x.foldl (wdStep n) (0, ixs n ++ ixs n)
theorem wdS_snoc (n : Nat) (x : List Lt) (y : Lt) : wdS n (x ++ [y]) = wdStep n (wdS n x) y := by
  unfold wdS
  rw [List.foldl_append]
  rfl
section
variable {P : Program} {w : World} {K : PySem.W.Frag} {mg : Str → Option Value} {base : Heap}
def spLetD : Sp := fun vs H Q _ => ∃ (n : Nat) (v : V) (x : Lt), vs = [.int (n : Int), v] ∧ TL H v x ∧ n ≤ 6 ∧ x ∈ lettersL "parts" (n : Int) ∧ ∀ v' H', Same H H' → DgAt H' v' n n (letD n x) → Q v' H'
theorem ok_letter_diagram {f CB : Addr} {fd : FuncData} (F : Fun K "letter_diagram" "letter_diagram" s_letter_diagram f fd) {a_swap : Addr} {fd_swap : FuncData} (G_swap : FnOk P w K mg base (L2N.CX P w) 5 a_swap fd_swap ["n", "i"] (spSmall 2 swapA swapB CB)) (g_swap : mg "swap" = some (.ref a_swap)) (k_swap : PySem.W.keepIn K (.ref a_swap) = true) (b_swap : Binds K fd_swap ["n", "i"] [])
    {a_hook : Addr} {fd_hook : FuncData} (G_hook : FnOk P w K mg base (L2N.CX P w) 5 a_hook fd_hook ["n", "i"] (spSmall 2 hookA hookB CB)) (g_hook : mg "hook" = some (.ref a_hook)) (k_hook : PySem.W.keepIn K (.ref a_hook) = true) (b_hook : Binds K fd_hook ["n", "i"] [])
    {a_cut : Addr} {fd_cut : FuncData} (G_cut : FnOk P w K mg base (L2N.CX P w) 5 a_cut fd_cut ["n", "i"] (spSmall 1 cutA cutB CB)) (g_cut : mg "cut" = some (.ref a_cut)) (k_cut : PySem.W.keepIn K (.ref a_cut) = true) (b_cut : Binds K fd_cut ["n", "i"] [])
    {a_bridge : Addr} {fd_bridge : FuncData} (G_bridge : FnOk P w K mg base (L2N.CX P w) 5 a_bridge fd_bridge ["n", "i"] (spSmall 2 hookA hookA CB)) (g_bridge : mg "bridge" = some (.ref a_bridge)) (k_bridge : PySem.W.keepIn K (.ref a_bridge) = true) (b_bridge : Binds K fd_bridge ["n", "i"] []) :
    FnOk P w K mg base (L2N.CX P w) 6 f fd ["n", "letter"] spLetD := by
  refine F.okXN sc_letter_diagram (fun vs H Q E h => ?_) (fun cdv A outer s H vs Q E hr h => ?_)
  · obtain ⟨n, v, x, rfl, _⟩ := h
    rfl
  · obtain ⟨n, v, x, rfl, hv, hn, hx, q⟩ := h
    refine ⟨_, (pss_cons (ps_asg (pv 1) (pg_tup rfl (pgs_cons (pg_name (i := 2) sc_letter_diagram.nd rfl (.inl rfl)) (pgs_cons (pg_name (i := 3) sc_letter_diagram.nd rfl (.inl rfl)) pgs_nil))))
  (pss_cons (ps_if (pt_cmpR op_eq (pv 2) pe_str (nomark _)) (pss_one (ps_ret (pe_call G_swap (hr.mono (by decide)) rfl g_swap k_swap b_swap .nil (L2N.passes_call (L2N.takes_of rfl rfl rfl rfl) (fun _ _ _ _ h => h)) (pa_cons (pv 0) (pa_cons (pv 3) pa_nil))))) pss_nil)
  (pss_cons (ps_if (pt_cmpR op_eq (pv 2) pe_str (nomark _)) (pss_one (ps_ret (pe_call G_hook (hr.mono (by decide)) rfl g_hook k_hook b_hook .nil (L2N.passes_call (L2N.takes_of rfl rfl rfl rfl) (fun _ _ _ _ h => h)) (pa_cons (pv 0) (pa_cons (pv 3) pa_nil))))) pss_nil)
  (pss_cons (ps_if (pt_cmpR op_eq (pv 2) pe_str (nomark _)) (pss_one (ps_ret (pe_call G_cut (hr.mono (by decide)) rfl g_cut k_cut b_cut .nil (L2N.passes_call (L2N.takes_of rfl rfl rfl rfl) (fun _ _ _ _ h => h)) (pa_cons (pv 0) (pa_cons (pv 3) pa_nil))))) pss_nil)
  (pss_one (ps_ret (pe_call G_bridge (hr.mono (by decide)) rfl g_bridge k_bridge b_bridge .nil (L2N.passes_call (L2N.takes_of rfl rfl rfl rfl) (fun _ _ _ _ h => h)) (pa_cons (pv 0) (pa_cons (pv 3) pa_nil))))))))), ?_⟩
    obtain ⟨hk, h0, h1⟩ := lettersL_ok (by decide : ("parts" : Str) ∈ fams) hx
    obtain ⟨t, rfl, ht⟩ := hv
    obtain ⟨k, i⟩ := x
    obtain ⟨i', rfl⟩ : ∃ i' : Nat, i = (i' : Int) := ⟨i.toNat, by omega⟩
    dsimp only at hk h0 h1
    unfold letD at q
    dsimp only at q
    rw [Int.toNat_natCast] at q
    refine ⟨_, rfl, t, _, rfl, .inl (.inl ht), rfl, _, _, rfl, _, _, rfl, rfl, ?_⟩
    rcases hk with rfl | rfl | rfl | rfl
    · rw [if_pos rfl] at q
      have w2 : wideK "s" = 2 := by decide
      rw [w2] at h1
      exact ⟨_, rfl, rfl, _, rfl, if_pos_of (decide_eq_true rfl) ⟨_, rfl, _, rfl, n, i', rfl, fun z => absurd ⟨by omega, by omega, by omega, by omega⟩ z, fun n' i2 e1 e2 _ _ v' H' s' d => by
        obtain rfl : n = n' := by omega
        obtain rfl : i' = i2 := by omega
        exact q v' H' s' d⟩⟩
    · rw [if_neg (by decide), if_pos rfl] at q
      have w2 : wideK "e" = 2 := by decide
      rw [w2] at h1
      exact ⟨_, rfl, rfl, _, rfl, if_neg_of (fun z => absurd (V.str.inj (of_decide_eq_true z)) (by dsimp only; decide)) ⟨_, rfl, rfl, _, rfl, if_pos_of (decide_eq_true rfl) ⟨_, rfl, _, rfl, n, i', rfl, fun z => absurd ⟨by omega, by omega, by omega, by omega⟩ z, fun n' i2 e1 e2 _ _ v' H' s' d => by
        obtain rfl : n = n' := by omega
        obtain rfl : i' = i2 := by omega
        exact q v' H' s' d⟩⟩⟩
    · rw [if_neg (by decide), if_neg (by decide), if_pos rfl] at q
      have w2 : wideK "p" = 1 := by decide
      rw [w2] at h1
      exact ⟨_, rfl, rfl, _, rfl, if_neg_of (fun z => absurd (V.str.inj (of_decide_eq_true z)) (by dsimp only; decide)) ⟨_, rfl, rfl, _, rfl, if_neg_of (fun z => absurd (V.str.inj (of_decide_eq_true z)) (by dsimp only; decide)) ⟨_, rfl, rfl, _, rfl, if_pos_of (decide_eq_true rfl) ⟨_, rfl, _, rfl, n, i', rfl, fun z => absurd ⟨by omega, by omega, by omega, by omega⟩ z, fun n' i2 e1 e2 _ _ v' H' s' d => by
        obtain rfl : n = n' := by omega
        obtain rfl : i' = i2 := by omega
        exact q v' H' s' d⟩⟩⟩⟩
    · rw [if_neg (by decide), if_neg (by decide), if_neg (by decide)] at q
      have w2 : wideK "b" = 2 := by decide
      rw [w2] at h1
      exact ⟨_, rfl, rfl, _, rfl, if_neg_of (fun z => absurd (V.str.inj (of_decide_eq_true z)) (by dsimp only; decide)) ⟨_, rfl, rfl, _, rfl, if_neg_of (fun z => absurd (V.str.inj (of_decide_eq_true z)) (by dsimp only; decide)) ⟨_, rfl, rfl, _, rfl, if_neg_of (fun z => absurd (V.str.inj (of_decide_eq_true z)) (by dsimp only; decide)) ⟨_, rfl, _, rfl, n, i', rfl, fun z => absurd ⟨by omega, by omega, by omega, by omega⟩ z, fun n' i2 e1 e2 _ _ v' H' s' d => by
        obtain rfl : n = n' := by omega
        obtain rfl : i' = i2 := by omega
        exact q v' H' s' d⟩⟩⟩⟩
/-! ### diagram_of -/
def spDiagOf (K : PySem.W.Frag) (CB CWd : Addr) : Sp := fun vs H Q E => ∃ (n : Int) (v : V) (x : List Lt), vs = [.int n, v] ∧ WP K H v x ∧ WOk x ∧ x.length ≤ 1000 ∧ (60 < x.length → ∀ H', Same H H' → E (.ref CWd) none H') ∧ (x.length ≤ 60 → ¬ (0 ≤ n ∧ n ≤ 6) → E (.ref CB) none H) ∧
  (x.length ≤ 60 → 0 ≤ n ∧ n ≤ 6 → isWd n x = false → ∀ H', Same H H' → E (.ref CWd) none H') ∧ (x.length ≤ 60 → 0 ≤ n ∧ n ≤ 6 → isWd n x = true → ∀ (t : Addr) v' H', Same H H' → H' t = some (.tup [.int ((wdS n.toNat x).1 : Nat), v']) → DgAt H' v' n n (wdS n.toNat x).2 → Q (.ref t) H')
theorem ok_diagram_of {f CB CWd CD CT : Addr} {fd : FuncData} (F : Fun K "diagram_of" "diagram_of" s_diagram_of f fd) {a_check_word : Addr} {fd_check_word : FuncData} (G_check_word : FnOk P w K mg base (L2N.CX P w) 4 a_check_word fd_check_word ["n", "word"] (spCheckWord K CB CWd)) (g_check_word : mg "check_word" = some (.ref a_check_word)) (k_check_word : PySem.W.keepIn K (.ref a_check_word) = true) (b_check_word : Binds K fd_check_word ["n", "word"] [])
    {a_unit : Addr} {fd_unit : FuncData} (G_unit : FnOk P w K mg base (L2N.CX P w) 5 a_unit fd_unit ["n"] (spUnit CB)) (g_unit : mg "unit" = some (.ref a_unit)) (k_unit : PySem.W.keepIn K (.ref a_unit) = true) (b_unit : Binds K fd_unit ["n"] [])
    {a_put : Addr} {fd_put : FuncData} (G_put : FnOk P w K mg base (L2N.CX P w) 4 a_put fd_put ["one", "other"] (spPut CD CB CT)) (g_put : mg "put" = some (.ref a_put)) (k_put : PySem.W.keepIn K (.ref a_put) = true) (b_put : Binds K fd_put ["one", "other"] [])
    {a_letter_diagram : Addr} {fd_letter_diagram : FuncData} (G_letter_diagram : FnOk P w K mg base (L2N.CX P w) 6 a_letter_diagram fd_letter_diagram ["n", "letter"] spLetD) (g_letter_diagram : mg "letter_diagram" = some (.ref a_letter_diagram)) (k_letter_diagram : PySem.W.keepIn K (.ref a_letter_diagram) = true) (b_letter_diagram : Binds K fd_letter_diagram ["n", "letter"] []) :
    FnOk P w K mg base (L2N.CX P w) 7 f fd ["n", "word"] (spDiagOf K CB CWd) := by
  refine F.okXN sc_diagram_of (fun vs H Q E h => ?_) (fun cdv A outer s H vs Q E hr h => ?_)
  · obtain ⟨n, v, x, rfl, _⟩ := h
    rfl
  · obtain ⟨n, v, x, rfl, hv, okx, lx, q1, q2, q3, q4⟩ := h
    refine ⟨_, (pss_cons (ps_expr (pe_call G_check_word (hr.mono (by decide)) rfl g_check_word k_check_word b_check_word .nil (L2N.passes_call (L2N.takes_of rfl rfl rfl rfl) (fun _ _ _ _ h => h)) (pa_cons (pv 0) (pa_cons (pv 1) pa_nil))))
  (pss_cons (ps_set (i := 2) sc_diagram_of.nd rfl (.inl rfl) pe_int)
  (pss_cons (ps_set (i := 3) sc_diagram_of.nd rfl (.inl rfl) (pe_call G_unit (hr.mono (by decide)) rfl g_unit k_unit b_unit .nil (L2N.passes_call (L2N.takes_of rfl rfl rfl rfl) (fun _ _ _ _ h => h)) (pa_cons (pv 0) pa_nil)))
  (pss_cons (ps_for (passes_of rfl) rfl (pi_tup (pv 1)) (pg_name (i := 4) sc_diagram_of.nd rfl (.inl rfl)) (pss_cons (ps_asg (pe_call G_put (hr.mono (by decide)) rfl g_put k_put b_put .nil (L2N.passes_call (L2N.takes_of rfl rfl rfl rfl) (fun _ _ _ _ h => h)) (pa_cons (pv 3) (pa_cons (pe_call G_letter_diagram (hr.mono (by decide)) rfl g_letter_diagram k_letter_diagram b_letter_diagram .nil (L2N.passes_call (L2N.takes_of rfl rfl rfl rfl) (fun _ _ _ _ h => h)) (pa_cons (pv 0) (pa_cons (pv 4) pa_nil))) pa_nil))) (pg_tup rfl (pgs_cons (pg_name (i := 5) sc_diagram_of.nd rfl (.inl rfl)) (pgs_cons (pg_name (i := 3) sc_diagram_of.nd rfl (.inl rfl)) pgs_nil))))
  (pss_one (ps_set (i := 2) sc_diagram_of.nd rfl (.inl rfl) (pe_op op_add (pv 2) (pv 5))))))
  (pss_one (ps_ret (pe_tup (pa_cons (pv 2) (pa_cons (pv 3) pa_nil))))))))), ?_⟩
    refine ⟨_, rfl, _, rfl, n, v, x, rfl, hv, okx, lx, q1, q2, q3, fun c hn wd H1 s1 => ?_⟩
    have q := q4 c hn wd
    clear q1 q2 q3 q4
    obtain ⟨m, rfl⟩ : ∃ m : Nat, n = (m : Int) := ⟨n.toNat, by omega⟩
    rw [Int.toNat_natCast] at q
    have m6 : m ≤ 6 := by omega
    have all : ∀ y ∈ x, y ∈ lettersL "parts" (m : Int) := by
      unfold isWd allIn at wd
      have := (Bool.and_eq_true_iff.mp wd).2
      exact fun y hy => of_decide_eq_true (List.all_eq_true.mp this y hy)
    refine ⟨_, rfl, m, rfl, fun z => absurd hn z, fun m' e _ u0 H2 s2 d0 => ?_⟩
    obtain rfl : m = m' := by omega
    obtain ⟨t, xs, rfl, ht, px⟩ := hv.same (Same.trans s1 s2)
    have lxs := px.length
    have szl : 20000 ≤ sizeLine := by decide
    have d00 : DgAt H2 u0 (m : Int) (m : Int) (wdS m (x.take 0)).2 := d0
    refine ⟨_, rfl, t, rfl, ⟨_, ht⟩, for_tup (xs := xs) (fun i σ H' => ∃ (v3 : V) (v4 v5 : Option V), σ = [some (.int (m : Int)), some (.ref t), some (.int ((wdS m (x.take i)).1 : Nat)), some v3, v4, v5] ∧ Same H2 H' ∧ DgAt H' v3 (m : Int) (m : Int) (wdS m (x.take i)).2) ⟨u0, none, none, rfl, Same.refl _, d00⟩ (fun i σ H' _ ⟨_, _, _, _, sm, _⟩ => sqT_same sm ht) (fun i y σ H3 hy hP => ?_) (fun σ H3 hP => ?_)⟩
    · obtain ⟨v3, v4, v5, rfl, s3, d3⟩ := hP
      obtain ⟨xi, exi, hy⟩ := paired_ix px hy
      refine ⟨_, rfl, _, rfl, _, rfl, m, _, xi, rfl, hy.same s3, m6, all xi (List.mem_of_getElem? exi), fun v6 H4 s4 d4 => ?_⟩
      have d3' := d3.same s4
      refine ⟨v3, v6, m, m, _, m, m, _, rfl, d3'.1, d3'.ok, d4.1, d4.ok, .inr ⟨m, m, _, rfl, rfl, rfl, d3'.2.1, d3'.2.2, .inr ⟨m, m, _, rfl, rfl, rfl, d4.2.1, d4.2.2, fun ne => absurd rfl ne, fun _ big => by omega, fun _ _ t7 v7 H5 s5 ht7 d7 => ?_⟩⟩⟩
      refine ⟨_, _, rfl, .inl (.inl ht7), rfl, ?_⟩
      refine ⟨_, _, rfl, _, _, rfl, rfl, ?_⟩
      refine ⟨_, rfl, _, rfl, _, _, rfl, rfl, ?_⟩
      have e : wdS m (x.take (i + 1)) = wdStep m (wdS m (x.take i)) xi := by
        rw [List.take_succ, exi]
        exact wdS_snoc m _ _
      rw [e]
      exact ⟨v7, _, _, rfl, Same.trans (Same.trans s3 s4) s5, d7⟩
    · obtain ⟨v3, v4, v5, rfl, s3, d3⟩ := hP
      rw [lxs, List.take_length] at d3 ⊢
      refine ⟨_, rfl, _, rfl, Nat.le_trans (by decide : 2 ≤ 20000) szl, fun tt ht => ?_⟩
      exact q tt v3 _ (Same.trans (Same.trans (Same.trans s1 s2) s3) (same_upd ht)) upd_same (d3.same (same_upd ht))
end

open TL
/-! ### texts of letters and of words -/
def numI (i : Int) : Str := toString i
def letT (x : Lt) : Str := x.1 ++ numI x.2
def wdT (x : List Lt) : Str := if x = [] then "-" else Txt.join " " (x.map letT)
theorem letT_fine : ∀ n : Nat, n < 7 → ∀ x ∈ lettersL "parts" (n : Int), (letT x).length = 2 := by decide +kernel
theorem log2_fine : ∀ n : Nat, n < 10 → (Int.natAbs (n : Nat)).log2 < 1920 := by decide +kernel
theorem numI_len : ∀ n : Nat, n < 10 → (numI (n : Nat)).length = 1 := by decide +kernel
section
variable {P : Program} {w : World} {K : PySem.W.Frag} {mg : Str → Option Value} {base : Heap}
def spLetText : Sp := fun vs H Q _ => ∃ (v : V) (x : Lt), vs = [v] ∧ TL H v x ∧ 0 ≤ x.2 ∧ x.2 < 10 ∧ x.1.length ≤ 100 ∧ Q (.str (letT x)) H
theorem ok_letter_text_ {f : Addr} {fd : FuncData} (F : Fun K "_letter_text" "_letter_text" s_letter_text_ f fd) (z_str : mg "str" = none) : FnOk P w K mg base CX0 1 f fd ["letter"] spLetText := by
  refine F.ok sc_letter_text_ (fun vs H Q E h => ?_) (fun cdv A outer s H vs Q E hr h => ?_)
  · obtain ⟨v, x, rfl, _⟩ := h
    rfl
  · obtain ⟨v, x, rfl, hv, h0, h1, hl, q⟩ := h
    refine ⟨_, (pss_cons (ps_asg (pv 0) (pg_tup rfl (pgs_cons (pg_name (i := 1) sc_letter_text_.nd rfl (.inl rfl)) (pgs_cons (pg_name (i := 2) sc_letter_text_.nd rfl (.inl rfl)) pgs_nil))))
  (pss_one (ps_ret (pe_op op_add_str (pv 1) (pe_callTy call_str_int (by rfl) z_str boot_str (pa_cons (pv 2) pa_nil)))))), ?_⟩
    obtain ⟨t, rfl, ht⟩ := hv
    obtain ⟨k, i⟩ := x
    obtain ⟨i', rfl⟩ : ∃ i' : Nat, i = (i' : Int) := ⟨i.toNat, by omega⟩
    dsimp only at h1 hl
    have szl : 20000 ≤ sizeLine := by decide
    have l1 := numI_len i' (by omega)
    refine ⟨_, rfl, t, _, rfl, .inl (.inl ht), rfl, _, _, rfl, _, _, rfl, rfl, ?_⟩
    refine ⟨_, rfl, _, rfl, _, rfl, log2_fine i' (by omega), _, _, rfl, rfl, ?_, q⟩
    show k.length + (numI (i' : Int)).length ≤ sizeLine
    omega
def spWordText (K : PySem.W.Frag) (CB CWd : Addr) : Sp := fun vs H Q E => ∃ (n : Int) (v : V) (x : List Lt), vs = [.int n, v] ∧ WP K H v x ∧ WOk x ∧ x.length ≤ 1000 ∧ (60 < x.length → ∀ H', Same H H' → E (.ref CWd) none H') ∧ (x.length ≤ 60 → ¬ (0 ≤ n ∧ n ≤ 6) → E (.ref CB) none H) ∧
  (x.length ≤ 60 → 0 ≤ n ∧ n ≤ 6 → isWd n x = false → ∀ H', Same H H' → E (.ref CWd) none H') ∧ (x.length ≤ 60 → 0 ≤ n ∧ n ≤ 6 → isWd n x = true → ∀ H', Same H H' → Q (.str (wdT x)) H')
theorem ok_word_text {f CB CWd : Addr} {tm : Tok} {fd : FuncData} (F : Fun K "word_text" "word_text" s_word_text f fd) (m_EMPTY_TEXT : mg "EMPTY_TEXT" = some (.str "-" tm)) {a_check_word : Addr} {fd_check_word : FuncData} (G_check_word : FnOk P w K mg base (L2N.CX P w) 4 a_check_word fd_check_word ["n", "word"] (spCheckWord K CB CWd)) (g_check_word : mg "check_word" = some (.ref a_check_word)) (k_check_word : PySem.W.keepIn K (.ref a_check_word) = true) (b_check_word : Binds K fd_check_word ["n", "word"] [])
    {a_letter_text_ : Addr} {fd_letter_text_ : FuncData} (G_letter_text_ : FnOk P w K mg base CX0 1 a_letter_text_ fd_letter_text_ ["letter"] spLetText) (g_letter_text_ : mg "_letter_text" = some (.ref a_letter_text_)) (k_letter_text_ : PySem.W.keepIn K (.ref a_letter_text_) = true) (b_letter_text_ : Binds K fd_letter_text_ ["letter"] []) :
    FnOk P w K mg base (L2N.CX P w) 5 f fd ["n", "word"] (spWordText K CB CWd) := by
  have r_EMPTY_TEXT : RelV (.str "-") (.str "-" tm) := ⟨_, rfl⟩
  refine F.okXN sc_word_text (fun vs H Q E h => ?_) (fun cdv A outer s H vs Q E hr h => ?_)
  · obtain ⟨n, v, x, rfl, _⟩ := h
    rfl
  · obtain ⟨n, v, x, rfl, hv, okx, lx, q1, q2, q3, q4⟩ := h
    refine ⟨_, (pss_cons (ps_expr (pe_call G_check_word (hr.mono (by decide)) rfl g_check_word k_check_word b_check_word .nil (L2N.passes_call (L2N.takes_of rfl rfl rfl rfl) (fun _ _ _ _ h => h)) (pa_cons (pv 0) (pa_cons (pv 1) pa_nil))))
  (pss_cons (ps_if (pt_not (pt_truth (pv 1) (by intro _; rfl))) (pss_one (ps_ret (pe_glob rfl m_EMPTY_TEXT r_EMPTY_TEXT))) pss_nil)
  (pss_one (ps_ret (pe_join pe_str (pe_lc (own := [("letter", 2)]) rfl sc_word_text.nd (pi_tup (pv 1)) (blkOk_by (N := ["n", "word", "letter"]) (sc := defScope s_word_text) (by first | decide +kernel | rfl)) (fun _ _ _ _ _ => (pg_name (i := 2) sc_word_text.nd rfl (.inl rfl))) (fun _ _ _ _ _ => pts_nil) (fun _ _ _ _ _ => (pe_call G_letter_text_ (hr.mono (by decide)) rfl g_letter_text_ k_letter_text_ b_letter_text_ .nil pass0 (pa_cons (pv 2) pa_nil))))))))), ?_⟩
    have szl : 20000 ≤ sizeLine := by decide
    refine ⟨_, rfl, _, rfl, n, v, x, rfl, hv, okx, lx, q1, q2, q3, fun c hn wd H1 s1 => ?_⟩
    have q := q4 c hn wd
    clear q1 q2 q3 q4
    obtain ⟨m, rfl⟩ : ∃ m : Nat, n = (m : Int) := ⟨n.toNat, by omega⟩
    have m6 : m ≤ 6 := by omega
    have all : ∀ y ∈ x, y ∈ lettersL "parts" (m : Int) := by
      unfold isWd allIn at wd
      have := (Bool.and_eq_true_iff.mp wd).2
      exact fun y hy => of_decide_eq_true (List.all_eq_true.mp this y hy)
    obtain ⟨t, xs, rfl, ht, px⟩ := hv.same s1
    have lxs := px.length
    refine ⟨_, rfl, _, .inr (.inl ⟨xs, ht, rfl⟩), ?_⟩
    by_cases e : x = []
    · subst e
      cases px
      exact q H1 s1
    · have ne : xs.isEmpty = false := by
        cases xs with
        | nil => cases px; exact absurd rfl e
        | cons _ _ => rfl
      rw [ne]
      refine if_neg_of Bool.false_ne_true ?_
      have kp : ∀ {D : Addr}, H1 D = none → ∀ {H' : Hp}, SameBut D H1 H' → Same H1 H' := fun {D} nD {H'} sb b o e => sb b o (ne_of_none e nD) e
      refine ⟨⟨_, rfl⟩, _, rfl, t, rfl, ⟨_, ht⟩, fun D nD => ?_⟩
      refine lc_it walk_tup (fun i H' => SameBut D H1 H' ∧ H' D = some (.lst (((x.take i).map letT).map V.str))) ⟨SameBut.upd, upd_same⟩ (fun i H' _ hP => sqT_same (kp nD hP.1) ht) (fun i y H2 H3 hi hP hy => ?_) (fun H2 hP => ?_)
      · obtain ⟨sb, hD⟩ := hP
        obtain ⟨rfl, ey⟩ := hy
        obtain ⟨xi, exi, hy⟩ := paired_ix px ey
        have hi : i < x.length := (List.getElem?_eq_some_iff.mp exi).1
        obtain ⟨k1, k2, k3⟩ := lettersL_ok (by decide : ("parts" : Str) ∈ fams) (all xi (List.mem_of_getElem? exi))
        have kl : xi.1.length ≤ 100 := by
          rcases k1 with e | e | e | e <;> rw [e] <;> decide
        have wk : 1 ≤ wideK xi.1 := by
          unfold wideK
          split <;> decide
        refine ⟨rfl, _, rfl, _, xi, rfl, hy.same (kp nD sb), k2, by omega, kl, ?_⟩
        refine ⟨_, hD, Nat.lt_of_le_of_lt (show _ ≤ i by rw [List.length_map, List.length_map, List.length_take]; omega) (by omega), sb.trans SameBut.upd, ?_⟩
        rw [upd_same, List.take_succ, exi, List.map_append, List.map_append]
        rfl
      · obtain ⟨sb, hD⟩ := hP
        rw [lxs, List.take_length] at hD
        have two : ((x.map letT).map (fun z : Str => z.length)).sum = 2 * x.length := by
          have go : ∀ l : List Lt, (∀ y ∈ l, y ∈ lettersL "parts" (m : Int)) → ((l.map letT).map (fun z : Str => z.length)).sum = 2 * l.length := by
            intro l
            induction l with
            | nil => intro _; rfl
            | cons a l ih =>
              intro h
              rw [List.map_cons, List.map_cons, List.sum_cons, ih (fun y hy => h y (.tail _ hy)), letT_fine m (by omega) a (h a (.head _)), List.length_cons]
              omega
          exact go x all
        refine ⟨" ", D, x.map letT, rfl, rfl, .inl (.inl (.inl hD)), ?_, ?_⟩
        · rw [two, List.length_map]
          rw [show (" " : Str).length = 1 from rfl]
          omega
        · have e2 : wdT x = Txt.join " " (x.map letT) := by
            unfold wdT
            rw [if_neg e]
          rw [← e2]
          exact q H2 (Same.trans s1 (kp nD sb))
/-! ### is_word_of -/
theorem isWd_long {n : Int} {x : List Lt} (h : 60 < x.length) : isWd n x = false := by
  unfold isWd
  rw [decide_eq_false (by omega), Bool.false_and]
def spIsWordOf (K : PySem.W.Frag) (CF CB CWd : Addr) : Sp := fun vs H Q E => ∃ (z : Str) (n : Int) (v : V) (x : List Lt), vs = [.str z, .int n, v] ∧ WP K H v x ∧ WOk x ∧ x.length ≤ 1000 ∧ (z ∉ fams → E (.ref CF) none H) ∧ (z ∈ fams → ¬ (0 ≤ n ∧ n ≤ 6) → E (.ref CB) none H) ∧
  (z ∈ fams → 0 ≤ n ∧ n ≤ 6 → isWd n x = false → ∀ H', Same H H' → E (.ref CWd) none H') ∧ (z ∈ fams → 0 ≤ n ∧ n ≤ 6 → isWd n x = true → ∀ H', Same H H' → Q (.bl (allIn (lettersL z n) x)) H')
theorem ok_is_word_of {f CF CB CWd : Addr} {fd : FuncData} (F : Fun K "is_word_of" "is_word_of" s_is_word_of f fd) {a_letters : Addr} {fd_letters : FuncData} (G_letters : FnOk P w K mg base (L2N.CX P w) 2 a_letters fd_letters ["family", "n"] (spLetters CF CB)) (g_letters : mg "letters" = some (.ref a_letters)) (k_letters : PySem.W.keepIn K (.ref a_letters) = true) (b_letters : Binds K fd_letters ["family", "n"] [])
    {a_check_word : Addr} {fd_check_word : FuncData} (G_check_word : FnOk P w K mg base (L2N.CX P w) 4 a_check_word fd_check_word ["n", "word"] (spCheckWord K CB CWd)) (g_check_word : mg "check_word" = some (.ref a_check_word)) (k_check_word : PySem.W.keepIn K (.ref a_check_word) = true) (b_check_word : Binds K fd_check_word ["n", "word"] [])
    {a_has_only_ : Addr} {fd_has_only_ : FuncData} (G_has_only_ : FnOk P w K mg base CX0 1 a_has_only_ fd_has_only_ ["allowed", "word"] (spHasOnly K)) (g_has_only_ : mg "_has_only" = some (.ref a_has_only_)) (k_has_only_ : PySem.W.keepIn K (.ref a_has_only_) = true) (b_has_only_ : Binds K fd_has_only_ ["allowed", "word"] []) :
    FnOk P w K mg base (L2N.CX P w) 5 f fd ["family", "n", "word"] (spIsWordOf K CF CB CWd) := by
  refine F.okXN sc_is_word_of (fun vs H Q E h => ?_) (fun cdv A outer s H vs Q E hr h => ?_)
  · obtain ⟨z, n, v, x, rfl, _⟩ := h
    rfl
  · obtain ⟨z, n, v, x, rfl, hv, okx, lx, q1, q2, q3, q4⟩ := h
    refine ⟨_, (pss_cons (ps_set (i := 3) sc_is_word_of.nd rfl (.inl rfl) (pe_call G_letters (hr.mono (by decide)) rfl g_letters k_letters b_letters .nil (L2N.passes_call (L2N.takes_of rfl rfl rfl rfl) (fun _ _ _ _ h => h)) (pa_cons (pv 0) (pa_cons (pv 1) pa_nil))))
  (pss_cons (ps_expr (pe_call G_check_word (hr.mono (by decide)) rfl g_check_word k_check_word b_check_word .nil (L2N.passes_call (L2N.takes_of rfl rfl rfl rfl) (fun _ _ _ _ h => h)) (pa_cons (pv 1) (pa_cons (pv 2) pa_nil))))
  (pss_one (ps_ret (pe_call G_has_only_ (hr.mono (by decide)) rfl g_has_only_ k_has_only_ b_has_only_ .nil pass0 (pa_cons (pv 3) (pa_cons (pv 2) pa_nil))))))), ?_⟩
    refine ⟨_, rfl, _, rfl, z, n, rfl, q1, q2, fun mz hn L ps H1 s1 hL pl => ?_⟩
    have q3 := q3 mz hn
    have q4 := q4 mz hn
    refine ⟨_, rfl, _, rfl, n, v, x, rfl, hv.same s1, okx, lx, fun c H2 s2 => q3 (isWd_long c) H2 (Same.trans s1 s2), fun _ nn => absurd hn nn, fun c _ e H2 s2 => q3 e H2 (Same.trans s1 s2), fun c _ e H2 s2 => ?_⟩
    refine ⟨_, rfl, _, rfl, L, ps, lettersL z n, v, x, rfl, s2 _ _ hL, Paired.mapP pl fun _ _ h => h.same s2, hv.same (Same.trans s1 s2), WOk_letters mz n, okx, Nat.le_trans (lettersL_len z mz n hn.2) (by decide), lx, fun H3 s3 => ?_⟩
    exact q4 e H3 (Same.trans (Same.trans s1 s2) s3)
end

/-! ### Malformed(at): the class with its own __init__ -/
section
variable {P : Program} {w : World} {K : PySem.W.Frag} {mg : Str → Option Value} {base : Heap}
def spInitM (K : PySem.W.Frag) : Sp := fun vs H Q _ => ∃ (a C : Addr) (v : V), vs = [.ref a, v] ∧ OexC K C ∧ PySem.W.findIn K (.ref C) "at" = some none ∧ H a = some (exo a C none) ∧
  ∀ dx, H dx = none → dx ≠ a → Q .non (upd (upd H dx (exd dx [(("at" : Str), v)])) a (exo a C (some dx)))
theorem ok_Malformed_init {f : Addr} {fd : FuncData} (F : Fun K "__init__" "Malformed.__init__" s_Malformed_init f fd) : FnOk P w K mg base CX0 1 f fd ["self", "at"] (spInitM K) := by
  refine F.ok sc_Malformed_init (fun vs H Q E h => ?_) (fun cdv A outer s H vs Q E hr h => ?_)
  · obtain ⟨a, C, v, rfl, _⟩ := h
    rfl
  · obtain ⟨a, C, v, rfl, T, hn, ha, q⟩ := h
    refine ⟨_, pss_one (ps_ost (pv 0) (pv 1)), ?_⟩
    exact ⟨_, rfl, _, rfl, a, C, rfl, T, hn, .inl ⟨ha, fun dx nd ne => q dx nd ne⟩⟩
/-- what is known of the class -/
structure MalC (K : PySem.W.Frag) (mg : Str → Option Value) (C fI : Addr) : Prop where
  gc : mg "Malformed" = some (.ref C)
  T : OexC K C
  na : PySem.W.findIn K (.ref C) "at" = some none
  iC : PySem.W.findIn K (.ref C) "__init__" = some (some (.ref fI))
  tI : PySem.W.typeIn K (.ref fI) = some (.type "function")
theorem mal_made {C : Addr} {v : V} {H : Hp} {E : XK} (T : OexC K C) (hn : PySem.W.findIn K (.ref C) "at" = some none) (q : ∀ d H', Same H H' → H d = none → H' d = some (.xd [(("at" : Str), v)]) → E (.ref C) (some d) H') :
    ([v] : List V).length ≤ 1000 ∧ ∀ a, H a = none → spInitM K (.ref a :: ([v] ++ [])) (upd H a (exo a C none))
      (fun u H2 => u = .non ∧ ∃ (d : Addr) (fs : List (Str × V)), H2 a = some (exo a C (some d)) ∧ H2 d = some (exd d fs) ∧ H d = none ∧ E (.ref C) (some d) (upd (del H2 a) d (.xd fs))) (fun _ _ _ => False) := by
  refine ⟨(by show 1 ≤ 1000; decide), fun a na => ⟨a, C, v, rfl, T, hn, upd_same, fun dx nd ne => ⟨rfl, dx, [(("at" : Str), v)], upd_same, ?_, ?_, ?_⟩⟩⟩
  · rw [upd_ne ne, upd_same]
  · rwa [upd_ne ne] at nd
  · have nd2 : H dx = none := by rwa [upd_ne ne] at nd
    refine q dx _ (fun b o hb => ?_) nd2 upd_same
    have b1 : b ≠ dx := ne_of_none hb nd2
    have b2 : b ≠ a := ne_of_none hb na
    rw [upd_ne b1, del_ne b2, upd_ne b2, upd_ne b1, upd_ne b2]
    exact hb
end

/-! ### read_word -/
def letOf (l : List Lt) (z : Str) : Option Lt := l.foldl (fun r x => if letT x = z then some x else r) none
theorem letOf_snoc (l : List Lt) (x : Lt) (z : Str) : letOf (l ++ [x]) z = if letT x = z then some x else letOf l z := by
  unfold letOf
  rw [List.foldl_append]
  rfl
def rdW (l : List Lt) : Nat → List Str → Int ⊕ List Lt
  | _, [] => .inr []
  | i, p :: r => if i = 60 then .inl (i : Int) else match letOf l p with
    | none => .inl (i : Int)
    | some x => match rdW l (i + 1) r with
      | .inl j => .inl j
      | .inr w => .inr (x :: w)
theorem rdW_cons (l : List Lt) (i : Nat) (p : Str) (r : List Str) : rdW l i (p :: r) = if i = 60 then .inl (i : Int) else match letOf l p with
    | none => .inl (i : Int)
    | some x => match rdW l (i + 1) r with
      | .inl j => .inl j
      | .inr w => .inr (x :: w) := by rw [rdW]
def addW (a : List Lt) : Int ⊕ List Lt → Int ⊕ List Lt
  | .inl j => .inl j
  | .inr w => .inr (a ++ w)
def FndL (H : Hp) (o : Option Lt) (v : Option V) : Prop := match o with
  | none => v = none
  | some x => ∃ u, v = some u ∧ TL H u x
section
variable {P : Program} {w : World} {K : PySem.W.Frag} {mg : Str → Option Value} {base : Heap}
def spReadW (K : PySem.W.Frag) (CB CM : Addr) : Sp := fun vs H Q E => ∃ (n : Int) (z : Str), vs = [.int n, .str z] ∧ z.length ≤ 10000 ∧ (¬ (0 ≤ n ∧ n ≤ 6) → E (.ref CB) none H) ∧
  (0 ≤ n ∧ n ≤ 6 → z = "-" → ∀ (t : Addr) H', Same H H' → H' t = some (.tup []) → Q (.ref t) H') ∧
  (0 ≤ n ∧ n ≤ 6 → z ≠ "-" → (∀ i, rdW (lettersL "parts" n) 0 (Txt.split z " ") = .inl i → ∀ d H', Same H H' → H d = none → H' d = some (.xd [(("at" : Str), .int i)]) → E (.ref CM) (some d) H') ∧
    (∀ x, rdW (lettersL "parts" n) 0 (Txt.split z " ") = .inr x → ∀ (t : Addr) H', Same H H' → WP K H' (.ref t) x → Q (.ref t) H'))
theorem ok_read_word {f CF CB CM fI : Addr} {fd fdI : FuncData} {te tl : Tok} (F : Fun K "read_word" "read_word" s_read_word f fd) (m_EMPTY_TEXT : mg "EMPTY_TEXT" = some (.str "-" te)) (m_MOST_LETTERS : mg "MOST_LETTERS" = some (.int 60 tl)) (z_enumerate : mg "enumerate" = none) (z_tuple : mg "tuple" = none)
    (OX_Malformed : MalC K mg CM fI) (G_Malformed_init : FnOk P w K mg base CX0 1 fI fdI ["self", "at"] (spInitM K)) (b_Malformed_init : Binds K fdI ["self", "at"] []) {a_letters : Addr} {fd_letters : FuncData} (G_letters : FnOk P w K mg base (L2N.CX P w) 2 a_letters fd_letters ["family", "n"] (spLetters CF CB)) (g_letters : mg "letters" = some (.ref a_letters)) (k_letters : PySem.W.keepIn K (.ref a_letters) = true) (b_letters : Binds K fd_letters ["family", "n"] [])
    {a_letter_text_ : Addr} {fd_letter_text_ : FuncData} (G_letter_text_ : FnOk P w K mg base CX0 1 a_letter_text_ fd_letter_text_ ["letter"] spLetText) (g_letter_text_ : mg "_letter_text" = some (.ref a_letter_text_)) (k_letter_text_ : PySem.W.keepIn K (.ref a_letter_text_) = true) (b_letter_text_ : Binds K fd_letter_text_ ["letter"] []) :
    FnOk P w K mg base (L2N.CX P w) 4 f fd ["n", "text"] (spReadW K CB CM) := by
  have r_EMPTY_TEXT : RelV (.str "-") (.str "-" te) := ⟨_, rfl⟩
  have r_MOST_LETTERS : RelV (.int 60) (.int 60 tl) := ⟨_, rfl⟩
  refine F.okXN sc_read_word (fun vs H Q E h => ?_) (fun cdv A outer s H vs Q E hr h => ?_)
  · obtain ⟨n, z, rfl, _⟩ := h
    rfl
  · obtain ⟨n, z, rfl, lz, q1, q2, q3⟩ := h
    refine ⟨_, (pss_cons (ps_setDc (i := 2) (own := [("letter", 6)]) rfl sc_read_word.nd rfl rfl (sw_trueD rfl rfl rfl (by decide +kernel)) (pi_list (pe_call G_letters (hr.mono (by decide)) rfl g_letters k_letters b_letters .nil (L2N.passes_call (L2N.takes_of rfl rfl rfl rfl) (fun _ _ _ _ h => h)) (pa_cons pe_str (pa_cons (pv 0) pa_nil)))) (blkOk_by (N := ["n", "text", "told", "found", "at", "part", "letter"]) (sc := defScope s_read_word) (by first | decide +kernel | rfl)) (fun _ _ _ _ _ => (pg_name (i := 6) sc_read_word.nd rfl (.inl rfl))) (fun _ _ _ _ _ => pts_nil) (fun _ _ _ _ _ => (pe_call G_letter_text_ (hr.mono (by decide)) rfl g_letter_text_ k_letter_text_ b_letter_text_ .nil pass0 (pa_cons (pv 6) pa_nil))) (fun _ _ _ _ _ => (pv 6)))
  (pss_cons (ps_if (pt_cmpR op_eq (pv 1) (pe_glob rfl m_EMPTY_TEXT r_EMPTY_TEXT) (nomark _)) (pss_one (ps_ret (pe_tup pa_nil))) pss_nil)
  (pss_cons (ps_set (i := 3) sc_read_word.nd rfl (.inl rfl) (pe_lst pa_nil))
  (pss_cons (ps_for (passes_of rfl) rfl (pi_enum rfl z_enumerate (pa_cons (pe_split (pv 1) pe_str) pa_nil)) (pg_tup rfl (pgs_cons (pg_name (i := 4) sc_read_word.nd rfl (.inl rfl)) (pgs_cons (pg_name (i := 5) sc_read_word.nd rfl (.inl rfl)) pgs_nil))) (pss_cons (ps_if (L2.PW.pt (pw_or (pt_cmpR op_eq (pv 4) (pe_glob rfl m_MOST_LETTERS r_MOST_LETTERS) (nomark _)) (pw_or1 (pt_cmp (pc_dnotin (hu_of hr) (pv 5) (pv 2)) (by with_unfolding_all rfl))))) (pss_one (L2N.ps_raise rfl (L2N.takes_of rfl rfl rfl rfl) (L2N.pmk_oexN OX_Malformed.T OX_Malformed.iC OX_Malformed.tI G_Malformed_init (hr.mono (by decide)) b_Malformed_init .nil pass0 rfl OX_Malformed.gc (pa_cons (pv 4) pa_nil)))) pss_nil)
  (pss_one (ps_expr (pe_bm PySem.F.plainAttrs_list PySem.F.slot_list_append PySem.F.type_list_append mt_append (pv 3) (pa_cons (pe_dget (hu_of hr) (pv 2) (pv 5) (fun _ _ => rfl)) pa_nil))))))
  (pss_one (ps_ret (pe_callTy call_tuple_of (by rfl) z_tuple boot_tuple (pa_cons (pv 3) pa_nil)))))))), ?_⟩
    have szl : 20000 ≤ sizeLine := by decide
    have mp : ("parts" : Str) ∈ fams := by decide
    refine ⟨_, rfl, "parts", n, rfl, fun y => absurd mp y, fun _ => q1, fun _ hn L ps H1 s1 hL pl => ?_⟩
    have q2 := q2 hn
    have q3 := q3 hn
    clear q1
    have lps := pl.length
    have l24 := lettersL_len "parts" mp n hn.2
    generalize eL : lettersL "parts" n = ls at *
    refine ⟨L, rfl, ⟨_, .inl (.inl hL)⟩, fun D nD => ?_⟩
    have kp : ∀ {H' : Hp}, SameBut D H1 H' → Same H1 H' := fun {H'} sb b o e => sb b o (ne_of_none e nD) e
    refine dc_it walk_list (fun i H' => SameBut D H1 H' ∧ ∃ kvs : List (Key × V), H' D = some (.dK kvs) ∧ kvs.length ≤ i ∧ ∀ z, FndL H1 (letOf (ls.take i) z) (valV kvs (.inr z))) ⟨SameBut.upd, [], upd_same, Nat.le_refl _, fun z => rfl⟩ (fun i H' _ hP => .inl (.inl (kp hP.1 _ _ hL))) (fun i y H2 H3 hi hP hy => ?_) (fun H2 hP => ?_)
    · obtain ⟨sb, kvs, hD, lk, fd⟩ := hP
      obtain ⟨rfl, ey⟩ := hy
      obtain ⟨xi, exi, hy⟩ := paired_ix pl ey
      have mx : xi ∈ lettersL "parts" n := by rw [eL]; exact List.mem_of_getElem? exi
      obtain ⟨k1, k2, k3⟩ := lettersL_ok mp mx
      have kl : xi.1.length ≤ 100 := by
        rcases k1 with e | e | e | e <;> rw [e] <;> decide
      have wk : 1 ≤ wideK xi.1 := by
        unfold wideK
        split <;> decide
      refine ⟨rfl, _, rfl, _, xi, rfl, hy.same (kp sb), k2, by omega, kl, _, rfl, kvs, .inr (letT xi), rfl, hD, by omega, sb.trans SameBut.upd, _, upd_same, ?_, fun z => ?_⟩
      · have := length_putK kvs (.inr (letT xi) : Key) y
        omega
      · rw [valV_put, List.take_succ, exi]
        show FndL H1 (letOf (ls.take i ++ [xi]) z) _
        rw [letOf_snoc]
        by_cases e : letT xi = z
        · subst e
          rw [if_pos rfl, if_pos rfl]
          exact ⟨y, rfl, hy⟩
        · rw [if_neg e, if_neg (fun h => e (Sum.inr.inj h).symm)]
          exact fd z
    · obtain ⟨sb, kvs, hD, lk, fd⟩ := hP
      rw [lps, List.take_length] at fd
      have s2 := kp sb
      have raise : ∀ {i : Nat} {H6 : Hp}, Same H H6 → rdW ls 0 (Txt.split z " ") = .inl (i : Int) → z ≠ "-" → ([V.int (i : Nat)] : List V).length ≤ 1000 ∧ ∀ a, H6 a = none → spInitM K (.ref a :: ([V.int (i : Nat)] ++ [])) (upd H6 a (exo a CM none))
          (fun u H2 => u = .non ∧ ∃ (d : Addr) (fs : List (Str × V)), H2 a = some (exo a CM (some d)) ∧ H2 d = some (exd d fs) ∧ H6 d = none ∧ E (.ref CM) (some d) (upd (del H2 a) d (.xd fs))) (fun _ _ _ => False) := fun {i H6} sH e ne =>
        mal_made OX_Malformed.T OX_Malformed.na fun d H' s' nd hd => (q3 ne).1 _ e d H' (Same.trans sH s') (none_back sH nd) hd
      refine ⟨_, rfl, rfl, _, rfl, ite2 (fun e => ?_) (fun e => ?_)⟩
      · have e := V.str.inj (of_decide_eq_true e)
        exact ⟨(by show 0 ≤ sizeLine; omega), fun t nt => q2 e t _ (Same.trans (Same.trans s1 s2) (same_upd nt)) upd_same⟩
      · have ne : z ≠ "-" := fun y => e (decide_eq_true (congrArg V.str y))
        have q := (q3 ne).2
        have raise := fun {i : Nat} {H6 : Hp} a b => raise (i := i) (H6 := H6) a b ne
        refine ⟨(by show 0 ≤ sizeLine; omega), fun G nG => ?_⟩
        have s3 := same_upd (o := .lst []) nG
        refine ⟨_, rfl, ⟨_, rfl⟩, z, " ", rfl, rfl, rfl, by omega, fun S nS => ?_⟩
        have s4 := same_upd (o := .lst ((Txt.split z " ").map V.str)) nS
        generalize eP : Txt.split z " " = parts at *
        generalize e4 : upd (upd H2 G (.lst [])) S (.lst (parts.map V.str)) = H4 at *
        have hS4 : H4 S = some (.lst (parts.map V.str)) := by rw [← e4]; exact upd_same
        have hG4 : H4 G = some (.lst []) := s4 _ _ upd_same
        have neSG : S ≠ G := fun e => by rw [e, upd_same] at nS; exact nomatch nS
        have neDG : D ≠ G := fun e => by rw [← e, hD] at nG; exact nomatch nG
        have hD4 : H4 D = some (.dK kvs) := s4 _ _ (s3 _ _ hD)
        have s14 : Same H1 H4 := Same.trans (Same.trans s2 s3) s4
        have nG1 : H1 G = none := by
          cases e : H1 G with
          | none => rfl
          | some o => rw [s2 _ _ e] at nG; exact nomatch nG
        have k1 : ∀ {H' : Hp}, SameBut G H4 H' → Same H1 H' := fun {H'} sb b o e => sb b o (ne_of_none e nG1) (s14 _ _ e)
        have st : addW [] (rdW ls 0 (parts.drop 0)) = rdW ls 0 parts := by
          rw [List.drop_zero]
          cases rdW ls 0 parts <;> rfl
        refine ⟨S, _, rfl, .inl (.inl hS4), for_it (walk_enum (xs := parts.map V.str)) (fun i σ H' => ∃ (vs : List V) (l : List Lt) (v4 v5 : Option V), σ = [some (.int n), some (.str z), some (.ref D), some (.ref G), v4, v5, none] ∧ SameBut G H4 H' ∧ H' G = some (.lst vs) ∧ Paired (TL H1) vs l ∧ l.length = i ∧ i ≤ 60 ∧ addW l (rdW ls i (parts.drop i)) = rdW ls 0 parts)
          ⟨[], [], none, none, rfl, SameBut.refl _ _, hG4, .nil, rfl, by decide, st⟩ (fun i σ H' _ hP => ?_) (fun i y σ H5 H6 hi hP hy => ?_) (fun σ H5 hP => ?_)⟩
        · obtain ⟨_, _, _, _, _, sb, _⟩ := hP
          exact .inl (.inl (sb _ _ neSG hS4))
        · obtain ⟨vs, l, v4, v5, rfl, sb5, hG5, pv, ll, i60, er⟩ := hP
          obtain ⟨p, u, y', rfl, np, rfl, ex, ey⟩ := hy
          obtain rfl : V.int (i : Nat) = u := Option.some.inj ex
          have ey : (parts.map V.str)[i]? = some y' := ey
          rw [List.getElem?_map] at ey
          obtain ⟨pt, ept, rfl⟩ := Option.map_eq_some_iff.mp ey
          have hip : i < parts.length := (List.getElem?_eq_some_iff.mp ept).1
          have hdrop : parts.drop i = pt :: parts.drop (i + 1) := by
            rw [List.drop_eq_getElem_cons hip]
            congr 1
            exact (List.getElem?_eq_some_iff.mp ept).2
          rw [hdrop, rdW_cons] at er
          have sp := same_upd (o := .tup [.int (i : Nat), .str pt]) np
          have s6 : Same H _ := Same.trans s1 (Same.trans (k1 sb5) sp)
          refine ⟨p, _, rfl, .inl (.inl upd_same), rfl, _, _, rfl, _, _, rfl, rfl, ?_⟩
          refine ⟨_, rfl, rfl, _, rfl, ?_⟩
          by_cases c : i = 60
          · rw [if_pos c] at er
            exact if_pos_of (decide_eq_true (by rw [c]; rfl)) (if_pos_of rfl ⟨_, rfl, raise s6 er.symm⟩)
          · rw [if_neg c] at er
            refine if_neg_of (fun h => c (by have := V.int.inj (of_decide_eq_true h); omega)) ?_
            have hD6 := sp _ _ (sb5 _ _ neDG hD4)
            have f := fd pt
            cases eo : letOf ls pt with
            | none =>
              rw [eo] at er f
              refine ⟨_, rfl, _, rfl, D, none, rfl, .inl ⟨kvs, .inr pt, .inl hD6, rfl, f.symm⟩, _, rfl, ?_⟩
              exact if_pos_of rfl ⟨_, rfl, raise s6 er.symm⟩
            | some x =>
              rw [eo] at er f
              obtain ⟨u, ev, tx⟩ := f
              refine ⟨_, rfl, _, rfl, D, some u, rfl, .inl ⟨kvs, .inr pt, .inl hD6, rfl, ev.symm⟩, _, rfl, ?_⟩
              refine if_neg_of Bool.false_ne_true ?_
              have hG6 := sp _ _ hG5
              refine ⟨_, rfl, .inl ⟨rfl, _, .inl (.inl hG6)⟩, _, rfl, _, rfl, D, u, rfl, .inl ⟨kvs, .inr pt, .inl hD6, rfl, ev.symm⟩, G, vs, u, rfl, rfl, hG6, ?_, ?_⟩
              · have := pv.length
                omega
              · refine ⟨vs ++ [u], l ++ [x], _, _, rfl, ?_, upd_same, paired_endW pv tx, ?_, by omega, ?_⟩
                · exact fun b o nb e => by rw [upd_ne nb]; exact sp _ _ (sb5 b o nb e)
                · rw [List.length_append, ll]
                  rfl
                · rw [← er]
                  cases rdW ls (i + 1) (parts.drop (i + 1)) with
                  | inl j => rfl
                  | inr w => simp [addW]
        · obtain ⟨vs, l, v4, v5, rfl, sb5, hG5, pv, ll, i60, er⟩ := hP
          rw [List.length_map, List.drop_length] at er
          have er : Sum.inr (l ++ []) = rdW ls 0 parts := er
          rw [List.append_nil] at er
          refine ⟨_, rfl, G, vs, rfl, .inl ⟨.inl (.inl hG5), fun t nt => ?_⟩⟩
          exact q l er.symm t _ (Same.trans s1 (Same.trans (k1 sb5) (same_upd nt))) ⟨t, vs, rfl, .inl (.inl upd_same), Paired.mapP pv fun _ _ h => h.same (Same.trans (k1 sb5) (same_upd nt))⟩
end

section
variable {P : Program} {w : World} {K : PySem.W.Frag} {mg : Str → Option Value} {base : Heap}
/-! ### _law_letter_kinds, _law_wide, _law_alphabet -/
def spLKinds : Sp := fun vs H Q _ => ∃ z : Str, vs = [.str z] ∧ Q (.str (kindS z)) H
theorem ok_law_letter_kinds {f : Addr} {fd : FuncData} (F : Fun K "_law_letter_kinds" "_law_letter_kinds" s_law_letter_kinds f fd) : FnOk P w K mg base CX0 1 f fd ["family"] spLKinds := by
  refine F.ok sc_law_letter_kinds (fun vs H Q E h => ?_) (fun cdv A outer s H vs Q E hr h => ?_)
  · obtain ⟨z, rfl, _⟩ := h
    rfl
  · obtain ⟨z, rfl, q⟩ := h
    refine ⟨_, (pss_cons (ps_if (pt_cmpR op_eq (pv 0) pe_str (nomark _)) (pss_one (ps_ret pe_str)) pss_nil)
  (pss_cons (ps_if (pt_cmpR op_eq (pv 0) pe_str (nomark _)) (pss_one (ps_ret pe_str)) pss_nil)
  (pss_cons (ps_if (pt_cmpR op_eq (pv 0) pe_str (nomark _)) (pss_one (ps_ret pe_str)) pss_nil)
  (pss_cons (ps_if (pt_cmpR op_eq (pv 0) pe_str (nomark _)) (pss_one (ps_ret pe_str)) pss_nil)
  (pss_cons (ps_if (pt_cmpR op_eq (pv 0) pe_str (nomark _)) (pss_one (ps_ret pe_str)) pss_nil)
  (pss_one (ps_ret pe_str))))))), ?_⟩
    unfold kindS at q
    have go : ∀ {t : Str} {A B : Prop}, (z = t → A) → (z ≠ t → B) → if decide (V.str z = V.str t) = true then A else B := fun {t A B} a b => ite2 (fun e => a (V.str.inj (of_decide_eq_true e))) (fun e => b (fun y => e (decide_eq_true (congrArg V.str y))))
    refine ⟨_, rfl, rfl, _, rfl, go (fun e => ?_) (fun e => ?_)⟩
    · rw [if_pos e] at q; exact q
    rw [if_neg e] at q
    refine ⟨_, rfl, rfl, _, rfl, go (fun e => ?_) (fun e => ?_)⟩
    · rw [if_pos e] at q; exact q
    rw [if_neg e] at q
    refine ⟨_, rfl, rfl, _, rfl, go (fun e => ?_) (fun e => ?_)⟩
    · rw [if_pos e] at q; exact q
    rw [if_neg e] at q
    refine ⟨_, rfl, rfl, _, rfl, go (fun e => ?_) (fun e => ?_)⟩
    · rw [if_pos e] at q; exact q
    rw [if_neg e] at q
    refine ⟨_, rfl, rfl, _, rfl, go (fun e => ?_) (fun e => ?_)⟩
    · rw [if_pos e] at q; exact q
    rw [if_neg e] at q
    exact q
theorem ok_law_wide {f : Addr} {fd : FuncData} (F : Fun K "_law_wide" "_law_wide" s_law_wide f fd) : FnOk P w K mg base CX0 1 f fd ["kind"] spStrands := by
  refine F.ok sc_law_wide (fun vs H Q E h => ?_) (fun cdv A outer s H vs Q E hr h => ?_)
  · obtain ⟨k, rfl, _⟩ := h
    rfl
  · obtain ⟨k, rfl, q⟩ := h
    refine ⟨_, (pss_one (ps_ret (pe_ifExp (pt_cmpR op_eq (pv 0) pe_str (nomark _)) pe_int pe_int))), ?_⟩
    unfold wideK at q
    refine ⟨_, rfl, rfl, _, rfl, ite2 (fun e => ?_) (fun e => ?_)⟩
    · rw [if_pos (V.str.inj (of_decide_eq_true e))] at q
      exact q
    · rw [if_neg (fun z => e (decide_eq_true (congrArg V.str z)))] at q
      exact q
def spAlpha : Sp := fun vs H Q _ => ∃ (z : Str) (n : Int), vs = [.str z, .int n] ∧ z ∈ fams ∧ 0 ≤ n ∧ n ≤ 6 ∧ ∀ (L : Addr) (ps : List V) H', Same H H' → H L = none → H' L = some (.lst ps) → Paired (TL H') ps (lettersL z n) → Q (.ref L) H'
theorem ok_law_alphabet {f : Addr} {fd : FuncData} (F : Fun K "_law_alphabet" "_law_alphabet" s_law_alphabet f fd) (z_range : mg "range" = none) {a_law_letter_kinds : Addr} {fd_law_letter_kinds : FuncData} (G_law_letter_kinds : FnOk P w K mg base CX0 1 a_law_letter_kinds fd_law_letter_kinds ["family"] spLKinds) (g_law_letter_kinds : mg "_law_letter_kinds" = some (.ref a_law_letter_kinds)) (k_law_letter_kinds : PySem.W.keepIn K (.ref a_law_letter_kinds) = true) (b_law_letter_kinds : Binds K fd_law_letter_kinds ["family"] [])
    {a_law_wide : Addr} {fd_law_wide : FuncData} (G_law_wide : FnOk P w K mg base CX0 1 a_law_wide fd_law_wide ["kind"] spStrands) (g_law_wide : mg "_law_wide" = some (.ref a_law_wide)) (k_law_wide : PySem.W.keepIn K (.ref a_law_wide) = true) (b_law_wide : Binds K fd_law_wide ["kind"] []) : FnOk P w K mg base CX0 2 f fd ["family", "n"] spAlpha := by
  refine F.ok sc_law_alphabet (fun vs H Q E h => ?_) (fun cdv A outer s H vs Q E hr h => ?_)
  · obtain ⟨z, n, rfl, _⟩ := h
    rfl
  · obtain ⟨z, n, rfl, mz, n0, n6, q⟩ := h
    refine ⟨_, (pss_cons (ps_set (i := 2) sc_law_alphabet.nd rfl (.inl rfl) (pe_lst pa_nil))
  (pss_cons (ps_for PassesOwn.never rfl (pi_str (pe_call G_law_letter_kinds (hr.mono (by decide)) rfl g_law_letter_kinds k_law_letter_kinds b_law_letter_kinds .nil pass0 (pa_cons (pv 0) pa_nil))) (pg_name (i := 3) sc_law_alphabet.nd rfl (.inr rfl)) (pss_one (ps_set (i := 2) sc_law_alphabet.nd rfl (.inl rfl) (pe_op op_cat (pv 2) (pe_lc (own := [("i", 4)]) rfl sc_law_alphabet.nd (pi_range1 rfl z_range (pa_cons (pe_op op_add (pe_op op_sub (pv 1) (pe_call G_law_wide (hr.mono (by decide)) rfl g_law_wide k_law_wide b_law_wide .nil pass0 (pa_cons (pv 3) pa_nil))) pe_int) pa_nil)) (blkOk_by (N := ["family", "n", "found", "kind", "i"]) (sc := defScope s_law_alphabet) (by first | decide +kernel | rfl)) (fun _ _ _ _ _ => (pg_name (i := 4) sc_law_alphabet.nd rfl (.inl rfl))) (fun _ _ _ _ _ => pts_nil) (fun _ _ _ _ _ => (pe_tup (pa_cons (pv 3) (pa_cons (pv 4) pa_nil)))))))))
  (pss_one (ps_ret (pv 2))))), ?_⟩
    have szl : 20000 ≤ sizeLine := by decide
    have lk : (kindL z).length = (kindS z).cps.size := by
      unfold kindL chL
      rw [List.length_map, Array.length_toList]
    have l4 := kindS_len z mz
    refine ⟨(by show 0 ≤ sizeLine; omega), fun L0 nL0 => ?_⟩
    refine ⟨_, rfl, z, rfl, kindS z, rfl, for_it walk_str (fun i σ H' => ∃ (L : Addr) (ps : List V) (v3 : Option V), σ = [some (.str z), some (.int n), some (.ref L), v3, none] ∧ Same H H' ∧ H L = none ∧ H' L = some (.lst ps) ∧ ps.length ≤ 6 * i ∧ Paired (TL H') ps (((kindL z).take i).flatMap (lettersK n))) ⟨L0, [], none, rfl, same_upd nL0, nL0, upd_same, Nat.zero_le _, .nil⟩ (fun _ _ _ _ _ => trivial) (fun i y σ H1 H2 hi hP hy => ?_) (fun σ H1 hP => ?_)⟩
    · obtain ⟨L, ps, v3, rfl, s1, nL, hL, lp, pp⟩ := hP
      obtain ⟨rfl, c, hc, rfl⟩ := hy
      have ek : (kindL z)[i]? = some ⟨#[c]⟩ := by
        unfold kindL chL
        rw [List.getElem?_map, Array.getElem?_toList, hc]
        rfl
      have hi : i < 4 := by omega
      have et : ((kindL z).take (i + 1)).flatMap (lettersK n) = ((kindL z).take i).flatMap (lettersK n) ++ lettersK n ⟨#[c]⟩ := by
        rw [List.take_succ, ek, List.flatMap_append]
        show _ ++ [_].flatMap _ = _
        rw [List.flatMap_singleton]
      rw [et]
      generalize ((kindL z).take i).flatMap (lettersK n) = base' at pp ⊢
      generalize (⟨#[c]⟩ : Str) = k
      have hw : wideK k = 1 ∨ wideK k = 2 := by unfold wideK; split <;> omega
      have lkn := lettersK_len n k n6
      have lkc : (lettersK n k).length = (n - wideK k + 1).toNat := by unfold lettersK; rw [List.length_map, List.length_range]
      refine ⟨_, rfl, _, rfl, _, rfl, k, rfl, _, _, rfl, rfl, _, _, rfl, rfl, n - wideK k + 1, rfl, by omega, by omega, fun D nD => ?_⟩
      refine lc_range (lo := 0) (n := (n - wideK k + 1).toNat) (fun j H' => SameBut D H2 H' ∧ ∃ qs, H' D = some (.lst qs) ∧ qs.length ≤ j ∧ Paired (TL H') qs ((lettersK n k).take j)) ⟨SameBut.upd, [], upd_same, Nat.zero_le _, .nil⟩ (fun j H3 hj hP => ?_) (fun H3 hP => ?_)
      · obtain ⟨sb2, qs, hD2, lq, pq⟩ := hP
        have ej : (lettersK n k)[j]? = some (k, (j : Int)) := by
          unfold lettersK
          rw [List.getElem?_map, List.getElem?_range hj]
          rfl
        refine ⟨rfl, ?_⟩
        rw [show (0 : Int) + (j : Int) = (j : Int) from Int.zero_add _]
        refine ⟨_, rfl, _, rfl, (by show 2 ≤ sizeLine; omega), fun p np => ?_⟩
        have wp := same_upd (o := .tup [.str k, .int (j : Int)]) np
        have hD3 := wp _ _ hD2
        refine ⟨_, hD3, by omega, (sb2.trans fun b o _ e => wp b o e).trans SameBut.upd, _, upd_same, by rw [List.length_append]; show qs.length + 1 ≤ _; omega, ?_⟩
        rw [List.take_succ, ej]
        exact paired_endW (F := TL _) (Paired.mapP pq fun _ _ h => (h.same wp).butL hD3 SameBut.upd) (TL.butL hD3 SameBut.upd ⟨p, rfl, upd_same⟩)
      · obtain ⟨sb2, qs, hD2, lq, pq⟩ := hP
        rw [← lkc, List.take_length] at pq
        have s2 : Same H2 H3 := fun b o e => sb2 b o (ne_of_none e nD) e
        have hL3 := s2 _ _ hL
        refine ⟨L, D, ps, qs, rfl, rfl, hL3, hD2, by omega, fun p np => ?_⟩
        have wp := same_upd (o := .lst (ps ++ qs)) np
        have w1 := Same.trans s2 wp
        refine ⟨p, ps ++ qs, _, rfl, Same.trans s1 w1, ?_, upd_same, by rw [List.length_append]; omega, ?_⟩
        · cases e : H p with
          | none => rfl
          | some o => rw [s2 _ _ (s1 _ _ e)] at np; exact nomatch np
        · exact paired_app (Paired.mapP pp fun _ _ h => h.same w1) (Paired.mapP pq fun _ _ h => h.same wp)
    · obtain ⟨L, ps, v3, rfl, s1, nL, hL, lp, pp⟩ := hP
      rw [← lk, List.take_length] at pp
      exact ⟨_, rfl, q L ps H1 s1 nL hL pp⟩
end

/-! ### _law_glued, _law_kinds -/
/-- a pair of points -/
def LnkW (H : Hp) (v : V) (e : Nat × Nat) : Prop := ∃ t, v = .ref t ∧ H t = some (.tup [.int (e.1 : Int), .int (e.2 : Int)])
theorem LnkW.same {H H' : Hp} {v : V} {e : Nat × Nat} (s : Same H H') (h : LnkW H v e) : LnkW H' v e := by
  obtain ⟨t, a, b⟩ := h
  exact ⟨t, a, s _ _ b⟩
def ujP (l : List Int) (es : List (Nat × Nat)) : List Int := es.foldl (fun l e => uj l e.1 e.2) l
theorem ujP_len : ∀ (es : List (Nat × Nat)) (l : List Int), (ujP l es).length = l.length
  | [], _ => rfl
  | e :: es, l => (ujP_len es (uj l e.1 e.2)).trans (uj_len _ _ _)
theorem ujP_app (l : List Int) (a b : List (Nat × Nat)) : ujP l (a ++ b) = ujP (ujP l a) b := List.foldl_append
theorem ks_ujP {N : Nat} : ∀ (es : List (Nat × Nat)) (l : List Int) (E : Nat → Nat → Prop), (∀ e ∈ es, e.1 < N ∧ e.2 < N) → Ks N l E → Ks N (ujP l es) fun i j => E i j ∨ (i, j) ∈ es
  | [], l, E, _, k => k.congr (fun i j h => by
      rcases h with h | h
      · exact k.bd i j h
      · exact nomatch h) (fun i j h => .ed (.inl h)) (fun i j h => by
      rcases h with h | h
      · exact .ed h
      · exact nomatch h)
  | e :: es, l, E, hb, k => by
    have b0 := hb e (.head _)
    have k1 := ks_ujP es (uj l e.1 e.2) _ (fun e' h => hb e' (.tail _ h)) (k.uj b0.1 b0.2)
    refine k1.congr (fun i j h => ?_) (fun i j h => ?_) (fun i j h => ?_)
    · rcases h with h | h
      · exact k.bd i j h
      · exact hb _ h
    · rcases h with (h | ⟨rfl, rfl⟩) | h
      · exact .ed (.inl h)
      · exact .ed (.inr (.head _))
      · exact .ed (.inr (.tail _ h))
    · rcases h with h | h
      · exact .ed (.inl (.inl h))
      · rcases List.mem_cons.mp h with h | h
        · exact .ed (.inl (.inr ⟨congrArg Prod.fst h, congrArg Prod.snd h⟩))
        · exact .ed (.inr h)
section
variable {P : Program} {w : World} {K : PySem.W.Frag} {mg : Str → Option Value} {base : Heap}
def spGlued (K : PySem.W.Frag) : Sp := fun vs H Q _ => ∃ (a p : Addr) (l : List Int) (ts : List V) (es : List (Nat × Nat)), vs = [.ref a, .ref p] ∧ SqL K H a (l.map V.int) ∧ H p = some (.lst ts) ∧ Paired (LnkW H) ts es ∧ (∀ e ∈ es, e.1 < l.length ∧ e.2 < l.length) ∧ l.length ≤ 1000 ∧
  ∀ (D : Addr) (H' : Hp), Same H H' → SqL K H' D ((ujP l es).map V.int) → Q (.ref D) H'
theorem ok_law_glued {f : Addr} {fd : FuncData} (F : Fun K "_law_glued" "_law_glued" s_law_glued f fd) : FnOk P w K mg base CX0 1 f fd ["marks", "pairs"] (spGlued K) := by
  refine F.ok sc_law_glued (fun vs H Q E h => ?_) (fun cdv A outer s H vs Q E hr h => ?_)
  · obtain ⟨a, p, l, ts, es, rfl, _⟩ := h
    rfl
  · obtain ⟨a, p, l, ts, es, rfl, ha, hp, pr, hb, hl, q⟩ := h
    refine ⟨_, (pss_cons (ps_for PassesOwn.never rfl (pi_list (pv 1)) (pg_tup rfl (pgs_cons (pg_name (i := 2) sc_law_glued.nd rfl (.inr rfl)) (pgs_cons (pg_name (i := 3) sc_law_glued.nd rfl (.inl rfl)) pgs_nil))) (pss_cons (ps_set (i := 4) sc_law_glued.nd rfl (.inr rfl) (pe_ix ix_list (pv 0) (pv 3) (fun _ _ => rfl)))
  (pss_one (ps_set (i := 0) sc_law_glued.nd rfl (.inr rfl) (pe_lc (own := [("mark", 5)]) rfl sc_law_glued.nd (pi_list (pv 0)) (blkOk_by (N := ["marks", "pairs", "one", "other", "old", "mark"]) (sc := defScope s_law_glued) (by first | decide +kernel | rfl)) (fun _ _ _ _ _ => (pg_name (i := 5) sc_law_glued.nd rfl (.inl rfl))) (fun _ _ _ _ _ => pts_nil) (fun _ _ _ _ _ => (pe_ifExp (pt_cmpR op_eq (pv 5) (pv 4) (nomark _)) (pe_ix (ix_listK (K := K) rfl) (pv 0) (pv 2) (fun _ _ => rfl)) (pv 5))))))))
  (pss_one (ps_ret (pv 0)))), ?_⟩
    have szl : 20000 ≤ sizeLine := by decide
    refine ⟨_, rfl, p, rfl, ⟨_, .inl (.inl hp)⟩, for_list (K := K) (xs := ts) (fun i σ H' => ∃ (D : Addr) (v2 v3 v4 : Option V), σ = [some (.ref D), some (.ref p), v2, v3, v4, none] ∧ Same H H' ∧ SqL K H' D ((ujP l (es.take i)).map V.int))
      ⟨a, _, _, _, rfl, Same.refl _, ha⟩ (fun i σ H' _ ⟨_, _, _, _, _, s', _⟩ => .inl (.inl (s' _ _ hp))) (fun i z σ H1 hz hP => ?_) (fun σ H' hP => ?_)⟩
    · obtain ⟨D0, v2, v3, v4, rfl, s1, hD0⟩ := hP
      obtain ⟨e, ee, ht⟩ := paired_ix pr hz
      obtain ⟨t, rfl, ht⟩ := ht
      have be := hb e (List.mem_of_getElem? ee)
      have ht1 := s1 _ _ ht
      generalize el : ujP l (es.take i) = L at hD0
      have lL : L.length = l.length := by rw [← el]; exact ujP_len _ _
      refine ⟨t, _, rfl, .inl (.inl ht1), rfl, _, _, rfl, _, _, rfl, rfl, ?_⟩
      refine ⟨_, rfl, _, rfl, D0, _, _, _, rfl, rfl, hD0, at_co (by omega), ?_⟩
      refine ⟨_, rfl, D0, rfl, ⟨_, hD0⟩, fun D nD => ?_⟩
      have hk : ∀ {H2 : Hp}, SameBut D H1 H2 → Same H1 H2 := fun {H2} sb b o e => sb _ _ (ne_of_none e nD) e
      have en : ujP l (es.take (i + 1)) = L.map fun c => if c = co L e.2 then co L e.1 else c := by
        rw [List.take_succ, ee]
        show ujP l (es.take i ++ [e]) = _
        rw [ujP_app, el]
        rfl
      refine lc_list (K := K) (xs := L.map V.int) (fun i H2 => SameBut D H1 H2 ∧ H2 D = some (.lst (((L.take i).map fun c => if c = co L e.2 then co L e.1 else c).map V.int))) ⟨SameBut.upd, upd_same⟩ (fun i H2 _ hP => sqL_same (hk hP.1) hD0) (fun j z H2 hz hP => ?_) (fun H2 hP => ?_)
      · obtain ⟨sb, hD⟩ := hP
        have li : j < L.length := by have := (List.getElem?_eq_some_iff.mp hz).1; rwa [List.length_map] at this
        have ez : (L.map V.int)[j]? = some (.int (co L j)) := by rw [List.getElem?_map, co_get li]; rfl
        obtain rfl : V.int (co L j) = z := Option.some.inj (ez.symm.trans hz)
        refine ⟨rfl, ?_⟩
        have fin : ∀ c : Int, (if co L j = co L e.2 then co L e.1 else co L j) = c → ∃ acc, H2 D = some (.lst acc) ∧ acc.length < sizeLine ∧ SameBut D H1 (upd H2 D (.lst (acc ++ [V.int c]))) ∧ upd H2 D (.lst (acc ++ [V.int c])) D = some (.lst (((L.take (j + 1)).map fun c => if c = co L e.2 then co L e.1 else c).map V.int)) := fun c ec =>
          ⟨_, hD, by rw [List.length_map, List.length_map, List.length_take]; omega, sb.trans SameBut.upd, by rw [upd_same, take_snoc li, List.map_append, List.map_append, ← ec]; rfl⟩
        refine ⟨_, rfl, _, rfl, rfl, _, rfl, ite2 (fun e1 => ⟨_, rfl, _, rfl, D0, _, _, _, rfl, rfl, sqL_same (hk sb) hD0, at_co (by omega), fin _ (if_pos (V.int.inj (of_decide_eq_true e1)))⟩) (fun e1 => ⟨_, rfl, fin _ (if_neg fun z => e1 (decide_eq_true (congrArg V.int z)))⟩)⟩
      · obtain ⟨sb, hD⟩ := hP
        rw [List.length_map, List.take_length] at hD
        exact ⟨D, _, _, _, rfl, Same.trans s1 (hk sb), by rw [en]; exact .inl (.inl hD)⟩
    · obtain ⟨D0, v2, v3, v4, rfl, s1, hD0⟩ := hP
      rw [pr.length, List.take_length] at hD0
      exact ⟨_, rfl, q D0 H' s1 hD0⟩
end

theorem inV_int {p : Int} : ∀ l : List Int, inV (.int p) (l.map V.int) = decide (p ∈ l)
  | [] => rfl
  | x :: l => by
    show (eqV (.int x) (.int p) || inV (.int p) (l.map V.int)) = _
    rw [inV_int l]
    have e : eqV (.int x) (.int p) = decide (x = p) := by
      by_cases c : x = p <;> simp [eqV, c]
    rw [e]
    by_cases c : x = p
    · rw [decide_eq_true c, decide_eq_true (List.mem_cons.mpr (.inl c.symm))]
      rfl
    · rw [decide_eq_false c, Bool.false_or]
      refine decide_eq_decide.mpr ⟨fun z => List.mem_cons_of_mem _ z, fun z => (List.mem_cons.mp z).resolve_left fun z => c z.symm⟩
theorem flat_int : ∀ l : List Int, (l.map V.int).all flatV = true
  | [] => rfl
  | _ :: l => by
    rw [List.map_cons, List.all_cons, flat_int l]
    rfl
section
variable {P : Program} {w : World} {K : PySem.W.Frag} {mg : Str → Option Value} {base : Heap}
/-! ### _law_kinds -/
def spKindsN (K : PySem.W.Frag) : Sp := fun vs H Q _ => ∃ (a : Addr) (l : List Int), vs = [.ref a] ∧ SqL K H a (l.map V.int) ∧ l.length ≤ 1000 ∧ ∀ H', Same H H' → Q (.int (cnt l : Nat)) H'
theorem ok_law_kinds {f : Addr} {fd : FuncData} (F : Fun K "_law_kinds" "_law_kinds" s_law_kinds f fd) (z_len : mg "len" = none) : FnOk P w K mg base CX0 1 f fd ["marks"] (spKindsN K) := by
  refine F.ok sc_law_kinds (fun vs H Q E h => ?_) (fun cdv A outer s H vs Q E hr h => ?_)
  · obtain ⟨a, l, rfl, _⟩ := h
    rfl
  · obtain ⟨a, l, rfl, ha, hl, q⟩ := h
    refine ⟨_, (pss_cons (ps_set (i := 1) sc_law_kinds.nd rfl (.inl rfl) (pe_lst pa_nil))
  (pss_cons (ps_for PassesOwn.never rfl (pi_list (pv 0)) (pg_name (i := 2) sc_law_kinds.nd rfl (.inl rfl)) (pss_one (ps_if (pt_cmpR op_notIn_seq (pv 2) (pv 1) (by with_unfolding_all rfl)) (pss_one (ps_expr (pe_bm PySem.F.plainAttrs_list PySem.F.slot_list_append PySem.F.type_list_append mt_append (pv 1) (pa_cons (pv 2) pa_nil)))) pss_nil)))
  (pss_one (ps_ret (pe_callB call_len_seq (by rfl) z_len boot_len (pa_cons (pv 1) pa_nil)))))), ?_⟩
    have szl : 20000 ≤ sizeLine := by decide
    refine ⟨(by show 0 ≤ sizeLine; decide), fun D nD => ?_⟩
    refine ⟨_, rfl, a, rfl, ⟨_, sqL_same (same_upd nD) ha⟩, for_list (xs := l.map V.int) (fun i σ H' => ∃ v2, σ = [some (.ref a), some (.ref D), v2] ∧ Same H H' ∧ H' D = some (.lst ((seenL [] (l.take i)).map V.int)))
      ⟨none, rfl, same_upd nD, upd_same⟩ (fun i σ H' _ ⟨_, _, s', _⟩ => sqL_same s' ha) (fun i y σ H' hy hP => ?_) (fun σ H' hP => ?_)⟩
    · obtain ⟨v2, rfl, s2, hD⟩ := hP
      have hi : i < l.length := by have := (List.getElem?_eq_some_iff.mp hy).1; rwa [List.length_map] at this
      have ey : (l.map V.int)[i]? = some (.int (co l i)) := by rw [List.getElem?_map, co_get hi]; rfl
      obtain rfl : V.int (co l i) = y := Option.some.inj (ey.symm.trans hy)
      refine ⟨_, rfl, _, rfl, D, _, rfl, .inl (.inl (.inl hD)), rfl, flat_int _, _, rfl, ?_⟩
      have ls := seenL_len (l.take i) []
      rw [List.length_take] at ls
      have ls2 : (seenL [] (l.take i)).length ≤ 1000 := by
        have : ([] : List Int).length = 0 := rfl
        omega
      by_cases c : co l i ∈ seenL [] (l.take i)
      · refine if_neg_of (by show ¬ (!inV _ _) = true; rw [inV_int, decide_eq_true c]; exact Bool.false_ne_true) ⟨_, rfl, s2, ?_⟩
        rw [take_snoc hi, seenL_snoc, if_pos c]
        exact hD
      · refine if_pos_of (by show (!inV _ _) = true; rw [inV_int, decide_eq_false c]; rfl) ?_
        refine ⟨_, rfl, .inl ⟨rfl, _, .inl (.inl hD)⟩, _, rfl, D, _, _, rfl, rfl, hD, by rw [List.length_map]; omega, ?_⟩
        refine ⟨_, rfl, Same.mut s2 nD, ?_⟩
        rw [upd_same, take_snoc hi, seenL_snoc, if_neg c, List.map_append]
        rfl
    · obtain ⟨v2, rfl, s2, hD⟩ := hP
      rw [List.length_map, List.take_length] at hD
      refine ⟨_, rfl, D, _, rfl, .inl (.inl (.inl hD)), ?_⟩
      rw [List.length_map]
      exact q _ s2
end

section
variable {P : Program} {w : World} {K : PySem.W.Frag} {mg : Str → Option Value} {base : Heap}
/-! ### _law_drawn_word -/
theorem WP.mutL {H H' : Hp} {r : Addr} {ys : List V} {v : V} {x : List Lt} (hr : H r = some (.lst ys)) (s : SameBut r H H') (h : WP K H v x) : WP K H' v x := by
  obtain ⟨t, xs, rfl, ht, p⟩ := h
  exact ⟨t, xs, rfl, sqT_butL hr s ht, Paired.mapP p fun _ _ q => q.butL hr s⟩
def spDrawnW (K : PySem.W.Frag) : Sp := fun vs H Q _ => ∃ (r : Addr) (ds : List Int) (z : Str) (n : Int) (mo : Nat), vs = [.ref r, .str z, .int n, .int (mo : Int)] ∧ H r = some (.lst (ds.map V.int)) ∧ z ∈ fams ∧ 0 ≤ n ∧ n ≤ 6 ∧ mo ≤ 60 ∧
  ∀ (v : V) (x : List Lt) (ds' : List Int) H', SameBut r H H' → H' r = some (.lst (ds'.map V.int)) → WP K H' v x → x.length ≤ mo → (∀ y ∈ x, y ∈ lettersL z n) → Q v H'
theorem ok_law_drawn_word {f a_law_next : Addr} {fd fd_law_next : FuncData} (F : Fun K "_law_drawn_word" "_law_drawn_word" s_law_drawn_word f fd) (z_int : mg "int" = none) (z_len : mg "len" = none) (z_range : mg "range" = none)
    (G_law_next : FnOk P w K mg base CX0 1 a_law_next fd_law_next ["draws"] spNext) (g_law_next : mg "_law_next" = some (.ref a_law_next)) (k_law_next : PySem.W.keepIn K (.ref a_law_next) = true) (b_law_next : Binds K fd_law_next ["draws"] []) {a_law_alphabet : Addr} {fd_law_alphabet : FuncData} (G_law_alphabet : FnOk P w K mg base CX0 2 a_law_alphabet fd_law_alphabet ["family", "n"] spAlpha) (g_law_alphabet : mg "_law_alphabet" = some (.ref a_law_alphabet)) (k_law_alphabet : PySem.W.keepIn K (.ref a_law_alphabet) = true) (b_law_alphabet : Binds K fd_law_alphabet ["family", "n"] []) : FnOk P w K mg base CX0 3 f fd ["draws", "family", "n", "most"] (spDrawnW K) := by
  refine F.ok sc_law_drawn_word (fun vs H Q E h => ?_) (fun cdv A outer s H vs Q E hr h => ?_)
  · obtain ⟨r, ds, z, n, mo, rfl, _⟩ := h
    rfl
  · obtain ⟨r, ds, z, n, mo, rfl, hL, mz, n0, n6, hmo, q⟩ := h
    refine ⟨_, (pss_cons (ps_set (i := 4) sc_law_drawn_word.nd rfl (.inl rfl) (pe_call G_law_alphabet (hr.mono (by decide)) rfl g_law_alphabet k_law_alphabet b_law_alphabet .nil pass0 (pa_cons (pv 1) (pa_cons (pv 2) pa_nil))))
  (pss_cons (ps_set (i := 5) sc_law_drawn_word.nd rfl (.inl rfl) (pe_tup pa_nil))
  (pss_cons (ps_for PassesOwn.never rfl (pi_range1 rfl z_range (pa_cons (pe_op op_mod (pe_callTy call_int1 (by rfl) z_int boot_int (pa_cons (pe_call G_law_next (hr.mono (by decide)) rfl g_law_next k_law_next b_law_next .nil pass0 (pa_cons (pv 0) pa_nil)) pa_nil)) (pe_op op_add (pv 3) pe_int)) pa_nil)) (pg_name (i := 6) sc_law_drawn_word.nd rfl (.inl rfl)) (pss_one (ps_if (pt_truth (pv 4) (by intro _; rfl)) (pss_one (ps_set (i := 5) sc_law_drawn_word.nd rfl (.inl rfl) (pe_op op_catB (pv 5) (pe_tup (pa_cons (pe_ix ix_list (pv 4) (pe_op op_mod (pe_callTy call_int1 (by rfl) z_int boot_int (pa_cons (pe_call G_law_next (hr.mono (by decide)) rfl g_law_next k_law_next b_law_next .nil pass0 (pa_cons (pv 0) pa_nil)) pa_nil)) (pe_callB call_len_seq (by rfl) z_len boot_len (pa_cons (pv 4) pa_nil))) (fun _ _ => rfl)) pa_nil))))) pss_nil)))
  (pss_one (ps_ret (pv 5)))))), ?_⟩
    have szl : 20000 ≤ sizeLine := by decide
    refine ⟨_, rfl, _, rfl, z, n, rfl, mz, n0, n6, fun L ps H1 s1 nL hA pl => ?_⟩
    have lps := pl.length
    have l24 := lettersL_len z mz n n6
    have neLr : L ≠ r := fun e => by rw [e, hL] at nL; exact nomatch nL
    refine ⟨(by show 0 ≤ sizeLine; omega), fun t0 nt0 => ?_⟩
    have s2 := same_upd (o := .tup []) nt0
    have hL2 := s2 _ _ (s1 _ _ hL)
    have nrt : t0 ≠ r := fun e => by rw [e, s1 _ _ hL] at nt0; exact nomatch nt0
    refine ⟨_, rfl, r, ds, rfl, hL2, fun n1 ds1 => .inl ⟨n1, rfl, ?_⟩⟩
    have m := mod_lt8 n1 (show (0 : Int) < (mo : Int) + 1 by omega)
    refine ⟨_, rfl, _, _, rfl, rfl, n1, (mo : Int) + 1, rfl, rfl, by omega, ?_⟩
    obtain ⟨k, ek⟩ : ∃ k : Nat, n1 % ((mo : Int) + 1) = (k : Int) := ⟨(n1 % ((mo : Int) + 1)).toNat, by omega⟩
    rw [ek] at m
    have hD2 : ∀ {l : List Int}, SameBut r H1 (upd (upd H1 t0 (.tup [])) r (.lst (l.map V.int))) := fun {l} => SameBut.trans (fun b o _ e => s2 b o e) SameBut.upd
    refine ⟨(k : Int), congrArg (fun z => [V.int z]) ek, by omega, by omega, for_range (lo := 0) (n := k) (fun i σ H' => ∃ (t : Addr) (ys : List V) (x : List Lt) (v6 : Option V) (ds' : List Int), σ = [some (.ref r), some (.str z), some (.int n), some (.int (mo : Int)), some (.ref L), some (.ref t), v6] ∧ SameBut r H1 H' ∧ H' r = some (.lst (ds'.map V.int)) ∧ SqT K H' t ys ∧ Paired (TL H') ys x ∧ x.length ≤ i ∧ ∀ y ∈ x, y ∈ lettersL z n)
      ⟨t0, [], [], none, ds1, rfl, hD2, upd_same, .inl (.inl (by rw [upd_ne nrt, upd_same])), .nil, Nat.zero_le _, fun y hy => nomatch hy⟩ (fun i σ H2 hi hP => ?_) (fun σ H2 hP => ?_)⟩
    · obtain ⟨t, ys, x, v6, ds', rfl, sb, hr2, ht, px, lx, all⟩ := hP
      have lyx := px.length
      have hA2 := sb _ _ neLr hA
      refine ⟨_, rfl, _, .inl ⟨ps, .inl (.inl hA2), rfl⟩, ?_⟩
      by_cases e0 : ps = []
      · subst e0
        exact iteF ⟨t, ys, x, _, ds', rfl, sb, hr2, ht, px, by omega, all⟩
      · have pp : 0 < ps.length := List.length_pos_iff.mpr e0
        have em : ps.isEmpty = false := by
          cases ps with
          | nil => exact absurd rfl e0
          | cons _ _ => rfl
        rw [em]
        refine if_pos_of rfl ?_
        refine ⟨_, rfl, _, rfl, _, rfl, r, ds', rfl, hr2, fun n2 ds2 => .inl ⟨n2, rfl, ?_⟩⟩
        have sb3 : SameBut r H2 (upd H2 r (.lst (ds2.map V.int))) := SameBut.upd
        have hA3 := sb3 _ _ neLr hA2
        refine ⟨_, rfl, L, _, rfl, .inl (.inl (.inl hA3)), n2, _, rfl, rfl, by omega, ?_⟩
        have m2 := mod_lt8 n2 (show (0 : Int) < (ps.length : Int) by omega)
        obtain ⟨j, hj, ej⟩ : ∃ j : Nat, j < ps.length ∧ n2 % (ps.length : Int) = (j : Int) := ⟨(n2 % (ps.length : Int)).toNat, by omega, by omega⟩
        dsimp only
        rw [ej]
        obtain ⟨xj, exj, hxj⟩ := paired_ix pl (List.getElem?_eq_getElem hj)
        refine ⟨L, ps, (j : Int), ps[j], rfl, rfl, .inl (.inl hA3), atI_nat (List.getElem?_eq_getElem hj), (by show 1 ≤ sizeLine; omega), fun p np => ?_⟩
        have wp := same_upd (o := .tup [ps[j]]) np
        have ht3 := sqT_same wp (sqT_butL hr2 sb3 ht)
        refine ⟨t, p, ys, [ps[j]], rfl, rfl, ht3, .inl (.inl upd_same), (by rw [List.length_singleton]; omega), fun p2 H6 s6 hp2 => ?_⟩
        have w6 := Same.trans wp s6
        have sb6 : SameBut r H1 H6 := SameBut.trans (SameBut.trans sb sb3) fun b o _ e => w6 b o e
        refine ⟨p2, ys ++ [ps[j]], x ++ [xj], _, ds2, rfl, sb6, w6 _ _ upd_same, hp2, paired_endW (Paired.mapP px fun _ _ h => (h.butL hr2 sb3).same w6) (hxj.butL (s1 _ _ hL) sb6), (by rw [List.length_append]; show x.length + 1 ≤ _; omega), fun y hy => ?_⟩
        rcases List.mem_append.mp hy with hy | hy
        · exact all y hy
        · rw [List.mem_singleton.mp hy]
          exact List.mem_of_getElem? exj
    · obtain ⟨t, ys, x, v6, ds', rfl, sb, hr2, ht, px, lx, all⟩ := hP
      refine ⟨_, rfl, ?_⟩
      exact q (.ref t) x ds' H2 (SameBut.trans (fun b o _ e => s1 b o e) sb) hr2 ⟨t, ys, rfl, ht, px⟩ (by omega) all
end

/-! ### _law_letter_blocks -/
def wdN (k : Str) : Nat := if k = "p" then 1 else 2
theorem wdN_int (k : Str) : ((wdN k : Nat) : Int) = wideK k := by
  unfold wdN wideK
  split <;> rfl
def lbA (n i w top a : Nat) : List (Nat × Nat) := if a < i ∨ i + w ≤ a then [(top + a, top + n + a)] else []
def lbX (n : Nat) (k : Str) (i top : Nat) : List (Nat × Nat) :=
  if k = "s" then [(top + i, top + n + i + 1), (top + i + 1, top + n + i)]
  else if k = "e" then [(top + i, top + i + 1), (top + n + i, top + n + i + 1)]
  else if k = "b" then [(top + i, top + i + 1), (top + i, top + n + i), (top + i, top + n + i + 1)] else []
def lbW (n : Nat) (k : Str) (i top : Nat) : List (Nat × Nat) := (List.range n).flatMap (lbA n i (wdN k) top) ++ lbX n k i top
theorem LnkW.butL {H H' : Hp} {r : Addr} {ys : List V} {v : V} {e : Nat × Nat} (hr : H r = some (.lst ys)) (s : SameBut r H H') (h : LnkW H v e) : LnkW H' v e := by
  obtain ⟨t, rfl, h⟩ := h
  exact ⟨t, rfl, s _ _ (ne_of h hr (fun z => nomatch z)) h⟩
theorem LnkW.mk {H : Hp} {t : Addr} {x y : Int} {a b : Nat} (h : H t = some (.tup [.int x, .int y])) (ex : x = (a : Int)) (ey : y = (b : Int)) : LnkW H (.ref t) (a, b) := by
  subst ex ey
  exact ⟨t, rfl, h⟩
theorem lbA_len (n i w top : Nat) (l : List Nat) : (l.flatMap (lbA n i w top)).length ≤ l.length := by
  induction l with
  | nil => exact Nat.le_refl _
  | cons a l ih =>
    rw [List.flatMap_cons, List.length_append, List.length_cons]
    have : (lbA n i w top a).length ≤ 1 := by unfold lbA; split <;> simp
    omega
section
variable {P : Program} {w : World} {K : PySem.W.Frag} {mg : Str → Option Value} {base : Heap}
def spLBlocks : Sp := fun vs H Q _ => ∃ (v : V) (k : Str) (i n top : Nat), vs = [v, .int (n : Int), .int (top : Int)] ∧ TL H v (k, (i : Int)) ∧ (k = "s" ∨ k = "e" ∨ k = "p" ∨ k = "b") ∧ n ≤ 6 ∧ i + wdN k ≤ n ∧ top ≤ 1000 ∧
  ∀ (L : Addr) (ts : List V) H', Same H H' → H' L = some (.lst ts) → Paired (LnkW H') ts (lbW n k i top) → Q (.ref L) H'
theorem ok_law_letter_blocks {f : Addr} {fd : FuncData} (F : Fun K "_law_letter_blocks" "_law_letter_blocks" s_law_letter_blocks f fd) (z_range : mg "range" = none) {a_law_wide : Addr} {fd_law_wide : FuncData} (G_law_wide : FnOk P w K mg base CX0 1 a_law_wide fd_law_wide ["kind"] spStrands) (g_law_wide : mg "_law_wide" = some (.ref a_law_wide)) (k_law_wide : PySem.W.keepIn K (.ref a_law_wide) = true) (b_law_wide : Binds K fd_law_wide ["kind"] []) : FnOk P w K mg base CX0 2 f fd ["letter", "n", "top"] spLBlocks := by
  refine F.ok sc_law_letter_blocks (fun vs H Q E h => ?_) (fun cdv A outer s H vs Q E hr h => ?_)
  · obtain ⟨v, k, i, n, top, rfl, _⟩ := h
    rfl
  · obtain ⟨v, k, i, n, top, rfl, hv, hk, n6, iw, t9, q⟩ := h
    refine ⟨_, (pss_cons (ps_asg (pv 0) (pg_tup rfl (pgs_cons (pg_name (i := 3) sc_law_letter_blocks.nd rfl (.inl rfl)) (pgs_cons (pg_name (i := 4) sc_law_letter_blocks.nd rfl (.inr rfl)) pgs_nil))))
  (pss_cons (ps_set (i := 5) sc_law_letter_blocks.nd rfl (.inr rfl) (pe_call G_law_wide (hr.mono (by decide)) rfl g_law_wide k_law_wide b_law_wide .nil pass0 (pa_cons (pv 3) pa_nil)))
  (pss_cons (ps_setLc (i := 6) (own := [("at", 7)]) rfl sc_law_letter_blocks.nd rfl rfl (sw_true rfl rfl rfl (by decide +kernel)) (pi_range1 rfl z_range (pa_cons (pv 1) pa_nil)) (blkOk_by (N := ["letter", "n", "top", "kind", "i", "wide", "blocks", "at"]) (sc := defScope s_law_letter_blocks) (by first | decide +kernel | rfl)) (fun _ _ _ _ _ => (pg_name (i := 7) sc_law_letter_blocks.nd rfl (.inl rfl))) (fun _ _ _ _ _ => pts_one (by exact L2.PW.pt (pw_or (pt_cmpR op_lt (pv 7) (pv 4) (nomark _)) (pw_or1 (pt_cmpR op_ge (pv 7) (pe_op op_add (pv 4) (pv 5)) (nomark _)))))) (fun _ _ _ _ _ => (pe_tup (pa_cons (pe_op op_add (pv 2) (pv 7)) (pa_cons (pe_op op_add (pe_op op_add (pv 2) (pv 1)) (pv 7)) pa_nil)))))
  (pss_cons (ps_if (pt_cmpR op_eq (pv 3) pe_str (nomark _)) (pss_one (ps_set (i := 6) sc_law_letter_blocks.nd rfl (.inl rfl) (pe_op op_cat (pv 6) (pe_lst (pa_cons (pe_tup (pa_cons (pe_op op_add (pv 2) (pv 4)) (pa_cons (pe_op op_add (pe_op op_add (pe_op op_add (pv 2) (pv 1)) (pv 4)) pe_int) pa_nil))) (pa_cons (pe_tup (pa_cons (pe_op op_add (pe_op op_add (pv 2) (pv 4)) pe_int) (pa_cons (pe_op op_add (pe_op op_add (pv 2) (pv 1)) (pv 4)) pa_nil))) pa_nil)))))) pss_nil)
  (pss_cons (ps_if (pt_cmpR op_eq (pv 3) pe_str (nomark _)) (pss_one (ps_set (i := 6) sc_law_letter_blocks.nd rfl (.inl rfl) (pe_op op_cat (pv 6) (pe_lst (pa_cons (pe_tup (pa_cons (pe_op op_add (pv 2) (pv 4)) (pa_cons (pe_op op_add (pe_op op_add (pv 2) (pv 4)) pe_int) pa_nil))) (pa_cons (pe_tup (pa_cons (pe_op op_add (pe_op op_add (pv 2) (pv 1)) (pv 4)) (pa_cons (pe_op op_add (pe_op op_add (pe_op op_add (pv 2) (pv 1)) (pv 4)) pe_int) pa_nil))) pa_nil)))))) pss_nil)
  (pss_cons (ps_if (pt_cmpR op_eq (pv 3) pe_str (nomark _)) (pss_one (ps_set (i := 6) sc_law_letter_blocks.nd rfl (.inl rfl) (pe_op op_cat (pv 6) (pe_lst (pa_cons (pe_tup (pa_cons (pe_op op_add (pv 2) (pv 4)) (pa_cons (pe_op op_add (pe_op op_add (pv 2) (pv 4)) pe_int) pa_nil))) (pa_cons (pe_tup (pa_cons (pe_op op_add (pv 2) (pv 4)) (pa_cons (pe_op op_add (pe_op op_add (pv 2) (pv 1)) (pv 4)) pa_nil))) (pa_cons (pe_tup (pa_cons (pe_op op_add (pv 2) (pv 4)) (pa_cons (pe_op op_add (pe_op op_add (pe_op op_add (pv 2) (pv 1)) (pv 4)) pe_int) pa_nil))) pa_nil))))))) pss_nil)
  (pss_one (ps_ret (pv 6))))))))), ?_⟩
    have szl : 20000 ≤ sizeLine := by decide
    obtain ⟨t, rfl, ht⟩ := hv
    refine ⟨_, rfl, t, _, rfl, .inl (.inl ht), rfl, _, _, rfl, _, _, rfl, rfl, ?_⟩
    refine ⟨_, rfl, k, rfl, ?_⟩
    rw [← wdN_int]
    refine ⟨_, rfl, (n : Int), rfl, by omega, by omega, fun D nD => ?_⟩
    have kp : ∀ {H' : Hp}, SameBut D H H' → Same H H' := fun {H'} sb b o e => sb b o (ne_of_none e nD) e
    refine lc_range (lo := 0) (n := n) (fun j H' => SameBut D H H' ∧ ∃ ts, H' D = some (.lst ts) ∧ Paired (LnkW H') ts ((List.range j).flatMap (lbA n i (wdN k) top))) ⟨SameBut.upd, [], upd_same, .nil⟩ (fun j H2 hj hP => ?_) (fun H2 hP => ?_)
    · obtain ⟨sb, ts, hD, pt⟩ := hP
      refine ⟨rfl, ?_⟩
      have er : (List.range (j + 1)).flatMap (lbA n i (wdN k) top) = (List.range j).flatMap (lbA n i (wdN k) top) ++ lbA n i (wdN k) top j := by
        rw [List.range_succ, List.flatMap_append, List.flatMap_singleton]
      have ln := lbA_len n i (wdN k) top (List.range j)
      rw [List.length_range] at ln
      have lt := pt.length
      rw [er]
      generalize (List.range j).flatMap (lbA n i (wdN k) top) = bs at pt ln lt ⊢
      have fin : lbA n i (wdN k) top j = [(top + j, top + n + j)] → ∀ p, H2 p = none → ∃ acc, (upd H2 p (.tup [.int ((top : Int) + (0 + (j : Int))), .int ((top : Int) + (n : Int) + (0 + (j : Int)))])) D = some (.lst acc) ∧ acc.length < sizeLine ∧ SameBut D H (upd (upd H2 p (.tup [.int ((top : Int) + (0 + (j : Int))), .int ((top : Int) + (n : Int) + (0 + (j : Int)))])) D (.lst (acc ++ [.ref p]))) ∧
          ∃ ts, (upd (upd H2 p (.tup [.int ((top : Int) + (0 + (j : Int))), .int ((top : Int) + (n : Int) + (0 + (j : Int)))])) D (.lst (acc ++ [.ref p]))) D = some (.lst ts) ∧ Paired (LnkW (upd (upd H2 p (.tup [.int ((top : Int) + (0 + (j : Int))), .int ((top : Int) + (n : Int) + (0 + (j : Int)))])) D (.lst (acc ++ [.ref p])))) ts (bs ++ lbA n i (wdN k) top j) := fun el p np => by
        have wp := same_upd (o := .tup [.int ((top : Int) + (0 + (j : Int))), .int ((top : Int) + (n : Int) + (0 + (j : Int)))]) np
        have hD3 := wp _ _ hD
        refine ⟨ts, hD3, by omega, (sb.trans fun b o _ e => wp b o e).trans SameBut.upd, _, upd_same, ?_⟩
        rw [el]
        exact paired_endW (Paired.mapP pt fun _ _ h => (h.same wp).butL hD3 SameBut.upd) (LnkW.butL hD3 SameBut.upd (LnkW.mk upd_same (by omega) (by omega)))
      have nof : lbA n i (wdN k) top j = [] → SameBut D H H2 ∧ ∃ ts, H2 D = some (.lst ts) ∧ Paired (LnkW H2) ts (bs ++ lbA n i (wdN k) top j) := fun el => by
        rw [el, List.append_nil]
        exact ⟨sb, ts, hD, pt⟩
      refine ⟨_, rfl, _, rfl, _, _, rfl, rfl, _, rfl, ?_⟩
      by_cases c1 : j < i
      · refine if_pos_of (decide_eq_true (by omega)) (if_pos_of rfl ⟨_, rfl, _, rfl, _, _, rfl, rfl, _, rfl, _, rfl, _, _, rfl, rfl, _, rfl, _, _, rfl, rfl, (by show 2 ≤ sizeLine; omega), fun p np => fin ?_ p np⟩)
        unfold lbA
        rw [if_pos (.inl c1)]
      · refine if_neg_of (fun z => c1 (by have := of_decide_eq_true z; omega)) ⟨_, rfl, _, rfl, _, rfl, _, _, rfl, rfl, _, _, rfl, rfl, _, rfl, ?_⟩
        by_cases c2 : i + wdN k ≤ j
        · refine if_pos_of (decide_eq_true (by omega)) ⟨_, rfl, _, rfl, _, _, rfl, rfl, _, rfl, _, rfl, _, _, rfl, rfl, _, rfl, _, _, rfl, rfl, (by show 2 ≤ sizeLine; omega), fun p np => fin ?_ p np⟩
          unfold lbA
          rw [if_pos (.inr c2)]
        · refine if_neg_of (fun z => c2 (by have := of_decide_eq_true z; omega)) (nof ?_)
          unfold lbA
          rw [if_neg (fun z => z.elim c1 c2)]
    · obtain ⟨sb, ts, hD, pt⟩ := hP
      have s2 := kp sb
      have ln := lbA_len n i (wdN k) top (List.range n)
      rw [List.length_range] at ln
      have lt := pt.length
      have q : ∀ (L : Addr) (us : List V) H', Same H2 H' → H' L = some (.lst us) → Paired (LnkW H') us ((List.range n).flatMap (lbA n i (wdN k) top) ++ lbX n k i top) → Q (.ref L) H' := fun L us H' s' => q L us H' (Same.trans s2 s')
      unfold lbX at q
      generalize (List.range n).flatMap (lbA n i (wdN k) top) = bs at *
      refine ⟨_, rfl, rfl, _, rfl, ?_⟩
      rcases hk with rfl | rfl | rfl | rfl
      · rw [if_pos rfl] at q
        refine if_pos_of (decide_eq_true rfl) ?_
        refine ⟨_, rfl, ?_⟩
        refine ⟨_, rfl, _, rfl, _, _, rfl, rfl, _, rfl, _, rfl, _, _, rfl, rfl, _, rfl, _, _, rfl, rfl, _, _, rfl, rfl, (by show 2 ≤ sizeLine; omega), fun p0 np0 => ?_⟩
        have w0 := same_upd (o := .tup [.int ((top : Int) + (i : Int)), .int ((top : Int) + (n : Int) + (i : Int) + 1)]) np0
        refine ⟨_, rfl, _, rfl, _, _, rfl, rfl, _, _, rfl, rfl, _, rfl, _, rfl, _, _, rfl, rfl, _, rfl, _, _, rfl, rfl, (by show 2 ≤ sizeLine; omega), fun p1 np1 => ?_⟩
        have w1 := same_upd (o := .tup [.int ((top : Int) + (i : Int) + 1), .int ((top : Int) + (n : Int) + (i : Int))]) np1
        refine ⟨(by show 2 ≤ sizeLine; omega), fun pL npL => ?_⟩
        have wL := same_upd (o := .lst [.ref p0, .ref p1]) npL
        have c0 := Same.trans (Same.trans w0 w1) wL
        refine ⟨D, pL, ts, [.ref p0, .ref p1], rfl, rfl, c0 _ _ hD, upd_same, (by show ts.length + 2 ≤ sizeLine; omega), fun pC npC => ?_⟩
        have wC := same_upd (o := .lst (ts ++ [.ref p0, .ref p1])) npC
        refine ⟨_, rfl, rfl, _, rfl, if_neg_of (fun z => absurd (V.str.inj (of_decide_eq_true z)) (by dsimp only; decide)) ?_⟩
        refine ⟨_, rfl, rfl, _, rfl, if_neg_of (fun z => absurd (V.str.inj (of_decide_eq_true z)) (by dsimp only; decide)) ?_⟩
        exact ⟨_, rfl, q pC _ _ (Same.trans c0 wC) upd_same (paired_app (Paired.mapP pt fun _ _ h => h.same (Same.trans c0 wC)) (.cons (LnkW.mk ((Same.trans (Same.trans w1 wL) wC) _ _ upd_same) (by omega) (by omega)) (.cons (LnkW.mk ((Same.trans wL wC) _ _ upd_same) (by omega) (by omega)) .nil)))⟩
      · rw [if_neg (by decide)] at q
        rw [if_pos rfl] at q
        refine if_neg_of (fun z => absurd (V.str.inj (of_decide_eq_true z)) (by dsimp only; decide)) ?_
        refine ⟨_, rfl, rfl, _, rfl, ?_⟩
        refine if_pos_of (decide_eq_true rfl) ?_
        refine ⟨_, rfl, ?_⟩
        refine ⟨_, rfl, _, rfl, _, _, rfl, rfl, _, rfl, _, rfl, _, _, rfl, rfl, _, _, rfl, rfl, (by show 2 ≤ sizeLine; omega), fun p0 np0 => ?_⟩
        have w0 := same_upd (o := .tup [.int ((top : Int) + (i : Int)), .int ((top : Int) + (i : Int) + 1)]) np0
        refine ⟨_, rfl, _, rfl, _, _, rfl, rfl, _, rfl, _, _, rfl, rfl, _, rfl, _, rfl, _, _, rfl, rfl, _, rfl, _, _, rfl, rfl, _, _, rfl, rfl, (by show 2 ≤ sizeLine; omega), fun p1 np1 => ?_⟩
        have w1 := same_upd (o := .tup [.int ((top : Int) + (n : Int) + (i : Int)), .int ((top : Int) + (n : Int) + (i : Int) + 1)]) np1
        refine ⟨(by show 2 ≤ sizeLine; omega), fun pL npL => ?_⟩
        have wL := same_upd (o := .lst [.ref p0, .ref p1]) npL
        have c0 := Same.trans (Same.trans w0 w1) wL
        refine ⟨D, pL, ts, [.ref p0, .ref p1], rfl, rfl, c0 _ _ hD, upd_same, (by show ts.length + 2 ≤ sizeLine; omega), fun pC npC => ?_⟩
        have wC := same_upd (o := .lst (ts ++ [.ref p0, .ref p1])) npC
        refine ⟨_, rfl, rfl, _, rfl, if_neg_of (fun z => absurd (V.str.inj (of_decide_eq_true z)) (by dsimp only; decide)) ?_⟩
        exact ⟨_, rfl, q pC _ _ (Same.trans c0 wC) upd_same (paired_app (Paired.mapP pt fun _ _ h => h.same (Same.trans c0 wC)) (.cons (LnkW.mk ((Same.trans (Same.trans w1 wL) wC) _ _ upd_same) (by omega) (by omega)) (.cons (LnkW.mk ((Same.trans wL wC) _ _ upd_same) (by omega) (by omega)) .nil)))⟩
      · rw [if_neg (by decide), if_neg (by decide), if_neg (by decide), List.append_nil] at q
        refine if_neg_of (fun z => absurd (V.str.inj (of_decide_eq_true z)) (by dsimp only; decide)) ⟨_, rfl, rfl, _, rfl, if_neg_of (fun z => absurd (V.str.inj (of_decide_eq_true z)) (by dsimp only; decide)) ⟨_, rfl, rfl, _, rfl, if_neg_of (fun z => absurd (V.str.inj (of_decide_eq_true z)) (by dsimp only; decide)) ?_⟩⟩
        exact ⟨_, rfl, q D ts H2 (Same.refl _) hD pt⟩
      · rw [if_neg (by decide)] at q
        rw [if_neg (by decide)] at q
        rw [if_pos rfl] at q
        refine if_neg_of (fun z => absurd (V.str.inj (of_decide_eq_true z)) (by dsimp only; decide)) ?_
        refine ⟨_, rfl, rfl, _, rfl, ?_⟩
        refine if_neg_of (fun z => absurd (V.str.inj (of_decide_eq_true z)) (by dsimp only; decide)) ?_
        refine ⟨_, rfl, rfl, _, rfl, ?_⟩
        refine if_pos_of (decide_eq_true rfl) ?_
        refine ⟨_, rfl, ?_⟩
        refine ⟨_, rfl, _, rfl, _, _, rfl, rfl, _, rfl, _, rfl, _, _, rfl, rfl, _, _, rfl, rfl, (by show 2 ≤ sizeLine; omega), fun p0 np0 => ?_⟩
        have w0 := same_upd (o := .tup [.int ((top : Int) + (i : Int)), .int ((top : Int) + (i : Int) + 1)]) np0
        refine ⟨_, rfl, _, rfl, _, _, rfl, rfl, _, rfl, _, rfl, _, _, rfl, rfl, _, rfl, _, _, rfl, rfl, (by show 2 ≤ sizeLine; omega), fun p1 np1 => ?_⟩
        have w1 := same_upd (o := .tup [.int ((top : Int) + (i : Int)), .int ((top : Int) + (n : Int) + (i : Int))]) np1
        refine ⟨_, rfl, _, rfl, _, _, rfl, rfl, _, rfl, _, rfl, _, _, rfl, rfl, _, rfl, _, _, rfl, rfl, _, _, rfl, rfl, (by show 2 ≤ sizeLine; omega), fun p2 np2 => ?_⟩
        have w2 := same_upd (o := .tup [.int ((top : Int) + (i : Int)), .int ((top : Int) + (n : Int) + (i : Int) + 1)]) np2
        refine ⟨(by show 3 ≤ sizeLine; omega), fun pL npL => ?_⟩
        have wL := same_upd (o := .lst [.ref p0, .ref p1, .ref p2]) npL
        have c0 := Same.trans (Same.trans (Same.trans w0 w1) w2) wL
        refine ⟨D, pL, ts, [.ref p0, .ref p1, .ref p2], rfl, rfl, c0 _ _ hD, upd_same, (by show ts.length + 3 ≤ sizeLine; omega), fun pC npC => ?_⟩
        have wC := same_upd (o := .lst (ts ++ [.ref p0, .ref p1, .ref p2])) npC
        exact ⟨_, rfl, q pC _ _ (Same.trans c0 wC) upd_same (paired_app (Paired.mapP pt fun _ _ h => h.same (Same.trans c0 wC)) (.cons (LnkW.mk ((Same.trans (Same.trans w1 (Same.trans w2 wL)) wC) _ _ upd_same) (by omega) (by omega)) (.cons (LnkW.mk ((Same.trans (Same.trans w2 wL) wC) _ _ upd_same) (by omega) (by omega)) (.cons (LnkW.mk ((Same.trans wL wC) _ _ upd_same) (by omega) (by omega)) .nil))))⟩
end

/-! ### the letters of a word joined at once -/
def zL : Lt := ("", 0)
def wPr (n : Nat) (x : List Lt) (i : Nat) : List (Nat × Nat) := (List.range i).flatMap fun a => lbW n (x.getD a zL).1 (x.getD a zL).2.toNat (a * n)
def wMi (n : Nat) (x : List Lt) (k i : Nat) : List Int := ujP (ixs ((k + 1) * n)) (wPr n x i)
def kq (a b : List Int) : Bool := decide (a.map (fun v => a.idxOf v) = b.map (fun v => b.idxOf v))
theorem ker_of_kq {a b : List Int} (h : kq a b = true) : KerEq a b := by
  have e := of_decide_eq_true h
  have hl : a.length = b.length := by
    have := congrArg List.length e
    rwa [List.length_map, List.length_map] at this
  have at_ : ∀ i, i < a.length → a.idxOf (co a i) = b.idxOf (co b i) := fun i hi => by
    have h1 : (a.map fun v => a.idxOf v)[i]? = some (a.idxOf (co a i)) := by rw [List.getElem?_map, co_get hi]; rfl
    have h2 : (b.map fun v => b.idxOf v)[i]? = some (b.idxOf (co b i)) := by rw [List.getElem?_map, co_get (by omega)]; rfl
    rw [e, h2] at h1
    exact (Option.some.inj h1).symm
  refine ⟨hl, fun i j hi hj => ?_⟩
  have ai := (ixf_co (co_mem hi)).2
  have aj := (ixf_co (co_mem hj)).2
  have bi := (ixf_co (co_mem (show i < b.length by omega))).2
  have bj := (ixf_co (co_mem (show j < b.length by omega))).2
  constructor
  · intro q
    rw [← bi, ← bj, ← at_ i hi, ← at_ j hj, q]
  · intro q
    rw [← ai, ← aj, at_ i hi, at_ j hj, q]
theorem letK : ∀ n : Nat, n < 7 → ∀ y ∈ lettersL "parts" (n : Int), kq (letD n y) (ujP (ixs (n + n)) (lbW n y.1 y.2.toNat 0)) = true ∧ (letD n y).length = n + n ∧ (∀ e ∈ lbW n y.1 y.2.toNat 0, e.1 < n + n ∧ e.2 < n + n) := by decide +kernel
theorem lbW_up (n : Nat) (k : Str) (i top : Nat) : lbW n k i top = (lbW n k i 0).map fun e => (top + e.1, top + e.2) := by
  unfold lbW
  rw [List.map_append, List.map_flatMap]
  congr 1
  · congr 1
    funext a
    unfold lbA
    split
    · simp only [List.map_cons, List.map_nil, Nat.zero_add, Nat.add_assoc]
    · rfl
  · unfold lbX
    split
    · simp only [List.map_cons, List.map_nil, Nat.zero_add, Nat.add_assoc]
    · split
      · simp only [List.map_cons, List.map_nil, Nat.zero_add, Nat.add_assoc]
      · split
        · simp only [List.map_cons, List.map_nil, Nat.zero_add, Nat.add_assoc]
        · rfl
theorem wPr_succ (n : Nat) (x : List Lt) (i : Nat) : wPr n x (i + 1) = wPr n x i ++ lbW n (x.getD i zL).1 (x.getD i zL).2.toNat (i * n) := by
  unfold wPr
  rw [List.range_succ, List.flatMap_append, List.flatMap_singleton]
theorem KerEq.refl' (a : List Int) : KerEq a a := ⟨rfl, fun _ _ _ _ => Iff.rfl⟩
theorem KerEq.symm' {a b : List Int} (h : KerEq a b) : KerEq b a := ⟨h.1.symm, fun i j hi hj => by rw [← h.1] at hi hj; exact (h.2 i j hi hj).symm⟩
theorem KerEq.tr {a b c : List Int} (h : KerEq a b) (g : KerEq b c) : KerEq a c := ⟨h.1.trans g.1, fun i j hi hj => (h.2 i j hi hj).trans (g.2 i j (by rw [← h.1]; exact hi) (by rw [← h.1]; exact hj))⟩
theorem ker_blocks {a b : List Int} (hl : a.length = b.length) (h : blocksOf a = blocksOf b) : KerEq a b := ⟨hl, fun i j hi hj => by
  rw [← lab_ker (l := a) rfl hi hj, ← lab_ker (l := b) rfl (by omega) (by omega), h, hl]⟩
theorem putM_ker {n m q : Nat} {a b c : List Int} (ha : a.length = n + m) (hb : b.length = n + m) (hc : c.length = m + q) (k : KerEq a b) : KerEq (putM n m q a c) (putM n m q b c) := by
  have e : Fput n m q a c = Fput n m q b c := by
    funext i j
    refine propext ⟨fun h => ?_, fun h => ?_⟩
    · rcases h with ⟨hi, hj, h⟩ | h
      · exact .inl ⟨hi, hj, (k.2 i j (by omega) (by omega)).mp h⟩
      · exact .inr h
    · rcases h with ⟨hi, hj, h⟩ | h
      · exact .inl ⟨hi, hj, (k.2 i j (by omega) (by omega)).mpr h⟩
      · exact .inr h
  have k1 := ks_putM ha hc
  rw [e] at k1
  exact k1.ker (ks_putM hb hc)

section
variable {n : Nat} {x : List Lt}
theorem wd_at (all : ∀ y ∈ x, y ∈ lettersL "parts" (n : Int)) {i : Nat} (hi : i < x.length) : x.getD i zL ∈ lettersL "parts" (n : Int) ∧ x[i]? = some (x.getD i zL) := by
  have e : x[i]? = some (x.getD i zL) := by
    rw [List.getD_eq_getElem?_getD, List.getElem?_eq_getElem hi]
    rfl
  exact ⟨all _ (List.mem_of_getElem? e), e⟩
theorem wPr_bd (n6 : n < 7) (all : ∀ y ∈ x, y ∈ lettersL "parts" (n : Int)) {i : Nat} (hi : i ≤ x.length) : ∀ e ∈ wPr n x i, e.1 < i * n + n ∧ e.2 < i * n + n := by
  intro e he
  obtain ⟨a, ha, he⟩ := List.mem_flatMap.mp he
  have ha := List.mem_range.mp ha
  rw [lbW_up] at he
  obtain ⟨e0, he0, rfl⟩ := List.mem_map.mp he
  have b := (letK n n6 _ (wd_at all (show a < x.length by omega)).1).2.2 e0 he0
  have : (a + 1) * n ≤ i * n := Nat.mul_le_mul_right n ha
  rw [Nat.succ_mul] at this
  refine ⟨?_, ?_⟩
  · show a * n + e0.1 < _
    omega
  · show a * n + e0.2 < _
    omega
def wT (n : Nat) (x : List Lt) (i : Nat) : List Int := ujP (ixs (i * n + n)) (wPr n x i)
theorem ks_wT (n6 : n < 7) (all : ∀ y ∈ x, y ∈ lettersL "parts" (n : Int)) {i : Nat} (hi : i ≤ x.length) : Ks (i * n + n) (wT n x i) fun a b => (a, b) ∈ wPr n x i :=
  (ks_ujP (wPr n x i) _ _ (wPr_bd n6 all hi) (ks_start _)).congr (fun a b h => wPr_bd n6 all hi _ h) (fun a b h => h.elim (fun z => z.elim) fun z => .ed z) (fun a b h => .ed (.inr h))
theorem ks_let (n6 : n < 7) {y : Lt} (hy : y ∈ lettersL "parts" (n : Int)) : Ks (n + n) (letD n y) fun a b => (a, b) ∈ lbW n y.1 y.2.toNat 0 := by
  obtain ⟨k, l, b⟩ := letK n n6 y hy
  have k2 := (ks_ujP (lbW n y.1 y.2.toNat 0) _ _ b (ks_start _)).congr (F := fun a b => (a, b) ∈ lbW n y.1 y.2.toNat 0) (fun a b' h => b _ h) (fun a b h => h.elim (fun z => z.elim) fun z => .ed z) (fun a b h => .ed (.inr h))
  have ke := ker_of_kq k
  exact ⟨l, k2.bd, fun i j hi hj => (ke.2 i j (by omega) (by omega)).trans (k2.eq i j hi hj)⟩
theorem wT_step (n6 : n < 7) (all : ∀ y ∈ x, y ∈ lettersL "parts" (n : Int)) {i : Nat} (hi : i < x.length) : KerEq (wT n x (i + 1)) (putM (i * n) n n (wT n x i) (letD n (x.getD i zL))) := by
  have k0 := ks_wT n6 all (show i ≤ x.length by omega)
  have k1 := ks_wT n6 all (show i + 1 ≤ x.length by omega)
  have hy := (wd_at all hi).1
  have kl := ks_let n6 hy
  have kp := ks_putM (n := i * n) (m := n) (q := n) k0.len kl.len
  rw [show (i + 1) * n + n = i * n + n + n by rw [Nat.succ_mul]] at k1
  refine (k1.congr (F := Fput (i * n) n n (wT n x i) (letD n (x.getD i zL))) kp.bd (fun a b h => ?_) (fun a b h => ?_)).ker kp
  · have h : (a, b) ∈ wPr n x (i + 1) := h
    rw [wPr_succ] at h
    rcases List.mem_append.mp h with h | h
    · have bd := k0.bd a b h
      exact .ed (.inl ⟨bd.1, bd.2, (k0.eq a b bd.1 bd.2).mpr (.ed h)⟩)
    · rw [lbW_up] at h
      obtain ⟨⟨a0, b0⟩, he, e⟩ := List.mem_map.mp h
      have bd := kl.bd a0 b0 he
      exact .ed (.inr ⟨a0, b0, bd.1, bd.2, (congrArg Prod.fst e).symm, (congrArg Prod.snd e).symm, (kl.eq a0 b0 bd.1 bd.2).mpr (.ed he)⟩)
  · rcases h with ⟨ha, hb, e⟩ | ⟨a0, b0, ha, hb, rfl, rfl, e⟩
    · refine Conn.mono (fun c d h => .ed ?_) ((k0.eq a b ha hb).mp e)
      show (c, d) ∈ wPr n x (i + 1)
      rw [wPr_succ]
      exact List.mem_append_left _ h
    · refine Conn.map (f := fun z => i * n + z) (fun c d h => .ed ?_) ((kl.eq a0 b0 ha hb).mp e)
      show (i * n + c, i * n + d) ∈ wPr n x (i + 1)
      rw [wPr_succ, lbW_up]
      exact List.mem_append_right _ (List.mem_map.mpr ⟨(c, d), h, rfl⟩)
theorem cut_ker {a b : List Int} {s t : Nat} (k : KerEq a b) (hs : s ≤ t) (ht : t ≤ a.length) : hid a (inoutL s t a) = hid b (inoutL s t b) ∧ KerEq (inoutL s t a) (inoutL s t b) := by
  obtain ⟨h1, h2⟩ := ker_cut k (inoutL s t) (fun g z => inoutL_map s t g z) (fun z y hy => inoutL_mem s t z y hy)
  have := k.1
  exact ⟨h1.symm, ker_blocks (by rw [inout_len hs ht, inout_len hs (by omega), k.1]) h2.symm⟩
theorem wd_same (n6 : n < 7) (all : ∀ y ∈ x, y ∈ lettersL "parts" (n : Int)) : ∀ i, i ≤ x.length → hid (wT n x i) (inoutL n (i * n) (wT n x i)) = (wdS n (x.take i)).1 ∧ KerEq (inoutL n (i * n) (wT n x i)) (wdS n (x.take i)).2
  | 0, _ => by
    have e0 : wT n x 0 = ixs n := by
      show ixs (0 * n + n) = _
      rw [Nat.zero_mul, Nat.zero_add]
    rw [e0, List.take_zero, Nat.zero_mul]
    have e1 : inoutL n 0 (ixs n) = ixs n ++ ixs n := by
      unfold inoutL
      rw [List.drop_zero, List.take_of_length_le (by rw [ixs_len']; exact Nat.le_refl _)]
    rw [e1]
    exact ⟨hid_zero fun k hk => List.mem_append_left _ hk, KerEq.refl' _⟩
  | 1, h => by
    obtain ⟨hy, ey⟩ := wd_at all (show 0 < x.length by omega)
    obtain ⟨kq0, ll, _⟩ := letK n n6 _ hy
    have et : wT n x 1 = ujP (ixs (n + n)) (lbW n (x.getD 0 zL).1 (x.getD 0 zL).2.toNat 0) := by
      unfold wT
      rw [wPr_succ, Nat.one_mul, Nat.zero_mul]
      rfl
    have ke : KerEq (letD n (x.getD 0 zL)) (wT n x 1) := by rw [et]; exact ker_of_kq kq0
    have es : wdS n (x.take 1) = wdStep n (0, uL n) (x.getD 0 zL) := by
      rw [List.take_succ, ey]
      rfl
    rw [es, Nat.one_mul]
    have eo : inoutL n n (wT n x 1) = wT n x 1 := List.take_append_drop n _
    rw [eo]
    obtain ⟨u1, u2⟩ := put_unitL (n := n) (m := n) ll
    refine ⟨?_, ke.symm'.tr (ker_blocks ?_ u2.symm)⟩
    · rw [hid_zero fun k hk => hk]
      show 0 = 0 + _
      rw [u1]
    · have lp := (ks_putM (uL_len n) ll).len
      have : (putS n n n (uL n) (letD n (x.getD 0 zL))).length = n + n := by
        show (inoutL n (n + n) _).length = _
        rw [inout_len (by omega) (by omega)]
        omega
      rw [ll]
      exact this.symm
  | j + 2, h => by
    obtain ⟨ih1, ih2⟩ := wd_same n6 all (j + 1) (by omega)
    have hi : j + 1 < x.length := by omega
    obtain ⟨hy, ey⟩ := wd_at all hi
    have k1 := wT_step n6 all hi
    have kl := ks_let n6 hy
    have kT := ks_wT n6 all h
    have kP := ks_wT n6 all (show j + 1 ≤ x.length by omega)
    have hM : (j + 1) * n = n + j * n := by rw [Nat.succ_mul, Nat.add_comm]
    have hM2 : (j + 2) * n = n + j * n + n := by rw [Nat.succ_mul, hM]
    have et : wdS n (x.take (j + 2)) = wdStep n (wdS n (x.take (j + 1))) (x.getD (j + 1) zL) := by
      rw [List.take_succ, ey]
      exact wdS_snoc n _ _
    rw [et]
    generalize x.getD (j + 1) zL = y at *
    generalize wdS n (x.take (j + 1)) = W at *
    obtain ⟨c, S⟩ := W
    have lT := kT.len
    have lP := kP.len
    rw [hM] at k1 ih1 ih2 lP
    rw [hM2] at lT ⊢
    generalize wT n x (j + 1) = P at *
    generalize wT n x (j + 2) = T at *
    obtain ⟨a1, a2⟩ := assocA (n := n) (m := j * n) (q := n) (r := n) lP kl.len
    obtain ⟨c1, c2⟩ := cut_ker (s := n) (t := n + j * n + n) k1 (by omega) (by omega)
    have lR : (inoutL n (n + j * n) P).length = n + n := by rw [inout_len (by omega) (by omega)]; omega
    have lS : S.length = n + n := by rw [← ih2.1, lR]
    have kk := putM_ker lR lS kl.len ih2
    have lp := (ks_putM lR kl.len).len
    obtain ⟨d1, d2⟩ := cut_ker (s := n) (t := n + n) kk (by omega) (by omega)
    refine ⟨?_, c2.tr (a2.tr d2)⟩
    rw [c1, a1, ih1]
    show c + _ = c + _
    exact congrArg (c + ·) d1
end

/-! ### tables in lists of lists -/
/-- a new list at L of new lists, no two of them the same -/
structure TabH (H0 H : Hp) (L : Addr) (rows : List (List V)) : Prop where
  fr : H0 L = none
  ex : ∃ us, H L = some (.lst us) ∧ us.Nodup ∧ Paired (fun v r => ∃ a, v = .ref a ∧ a ≠ L ∧ H0 a = none ∧ H a = some (.lst r)) us rows
theorem TabH.same {H0 H H' : Hp} {L : Addr} {rows : List (List V)} (s : Same H H') (t : TabH H0 H L rows) : TabH H0 H' L rows := by
  obtain ⟨f, us, hL, nd, pr⟩ := t
  refine ⟨f, us, s _ _ hL, nd, Paired.mapP pr fun _ _ h => ?_⟩
  obtain ⟨a, e, h1, h2, h3⟩ := h
  exact ⟨a, e, h1, h2, s _ _ h3⟩
theorem TabH.from {H0 H1 H : Hp} {L : Addr} {rows : List (List V)} (s : Same H0 H1) (t : TabH H1 H L rows) : TabH H0 H L rows := by
  obtain ⟨f, us, hL, nd, pr⟩ := t
  refine ⟨none_back s f, us, hL, nd, Paired.mapP pr fun _ _ h => ?_⟩
  obtain ⟨a, e, h1, h2, h3⟩ := h
  exact ⟨a, e, h1, none_back s h2, h3⟩
theorem paired_set {α β : Type} {F G : α → β → Prop} : ∀ {us : List α} {rows : List β} {i : Nat} {v : α} {r : β}, Paired F us rows → us[i]? = some v → us.Nodup → G v r → (∀ u b, u ≠ v → F u b → G u b) → Paired G us (rows.set i r)
  | _, _, _, _, _, .nil, e, _, _, _ => nomatch e
  | _ :: us, _ :: rows, 0, _, r, .cons f t, e, nd, g, k => by
    obtain rfl := Option.some.inj e
    obtain ⟨n1, _⟩ := List.nodup_cons.mp nd
    have : ∀ {us : List _} {rows : List _}, Paired F us rows → (∀ u ∈ us, u ≠ _) → Paired G us rows := fun {us rows} pr => by
      intro hu
      induction pr with
      | nil => exact .nil
      | cons f t ih => exact .cons (k _ _ (hu _ List.mem_cons_self) f) (ih fun u h => hu u (List.mem_cons_of_mem _ h))
    exact .cons g (this t fun u hu e => n1 (e ▸ hu))
  | u :: us, _ :: rows, i + 1, v, r, .cons f t, e, nd, g, k => by
    obtain ⟨n1, n2⟩ := List.nodup_cons.mp nd
    have e : us[i]? = some v := e
    exact .cons (k _ _ (fun z => n1 (z ▸ List.mem_of_getElem? e)) f) (paired_set t e n2 g k)
theorem TabH.set {H0 H : Hp} {L : Addr} {rows : List (List V)} (t : TabH H0 H L rows) {us : List V} (hL : H L = some (.lst us)) {i : Nat} {a : Addr} (e : us[i]? = some (.ref a)) (r : List V) : TabH H0 (upd H a (.lst r)) L (rows.set i r) := by
  obtain ⟨f, us', hL', nd, pr⟩ := t
  obtain rfl : us' = us := HO.lst.inj (Option.some.inj (hL'.symm.trans hL))
  obtain ⟨_, _, a', e', h1, h2, _⟩ := paired_get pr e
  obtain rfl := V.ref.inj e'
  refine ⟨f, us', by rw [upd_ne (Ne.symm h1)]; exact hL, nd, paired_set pr e nd ⟨a, rfl, h1, h2, upd_same⟩ fun u b ne h => ?_⟩
  obtain ⟨c, rfl, g1, g2, g3⟩ := h
  exact ⟨c, rfl, g1, g2, by rw [upd_ne fun z => ne (by rw [z])]; exact g3⟩
/-- what does not lie in the table stays -/
theorem TabH.out {H0 H : Hp} {L : Addr} {rows : List (List V)} (t : TabH H0 H L rows) {us : List V} (hL : H L = some (.lst us)) {i : Nat} {a : Addr} (e : us[i]? = some (.ref a)) (r : List V) : ∀ b o, H0 b = some o → H b = some o → upd H a (.lst r) b = some o := by
  obtain ⟨f, us', hL', nd, pr⟩ := t
  obtain rfl : us' = us := HO.lst.inj (Option.some.inj (hL'.symm.trans hL))
  obtain ⟨_, _, a', e', h1, h2, _⟩ := paired_get pr e
  obtain rfl := V.ref.inj e'
  intro b o e0 e1
  rw [upd_ne fun z => by rw [z, h2] at e0; cases e0]
  exact e1
theorem TabH.but {H0 H H' : Hp} {D L : Addr} {rows : List (List V)} {o : HO} (hD : H0 D = some o) (s : SameBut D H H') (t : TabH H0 H L rows) : TabH H0 H' L rows := by
  obtain ⟨f, us, hL, nd, pr⟩ := t
  have n1 : ∀ {a : Addr}, H0 a = none → a ≠ D := fun {a} h z => by rw [z, hD] at h; exact nomatch h
  refine ⟨f, us, s _ _ (n1 f) hL, nd, Paired.mapP pr fun _ _ h => ?_⟩
  obtain ⟨a, e, h1, h2, h3⟩ := h
  exact ⟨a, e, h1, h2, s _ _ (n1 h2) h3⟩
theorem TabH.new {H0 H : Hp} {L : Addr} (h0 : H0 L = none) (h : H L = some (.lst [])) : TabH H0 H L [] := ⟨h0, [], h, List.nodup_nil, .nil⟩
/-- a new row q at the end -/
theorem TabH.push {H0 H : Hp} {L q : Addr} {rows : List (List V)} {us : List V} {r : List V} (t : TabH H0 H L rows) (hL : H L = some (.lst us)) (nq : H q = none) (h0 : H0 q = none) :
    TabH H0 (upd (upd H q (.lst r)) L (.lst (us ++ [.ref q]))) L (rows ++ [r]) := by
  obtain ⟨f, us', hL', nd, pr⟩ := t
  obtain rfl : us' = us := HO.lst.inj (Option.some.inj (hL'.symm.trans hL))
  have qL : q ≠ L := fun z => by rw [z, hL] at nq; exact nomatch nq
  refine ⟨f, us' ++ [.ref q], upd_same, ?_, ?_⟩
  · rw [List.nodup_append]
    refine ⟨nd, List.nodup_cons.mpr ⟨List.not_mem_nil, List.nodup_nil⟩, fun a ha b hb e => ?_⟩
    rw [List.mem_singleton.mp hb] at e
    rw [e] at ha
    obtain ⟨i, hi, e⟩ := List.mem_iff_getElem.mp ha
    obtain ⟨_, _, a', e', _, _, h⟩ := paired_get pr (show us'[i]? = some (.ref q) by rw [List.getElem?_eq_getElem hi, e])
    obtain rfl := V.ref.inj e'
    rw [nq] at h
    exact nomatch h
  · refine paired_add ⟨q, rfl, qL, h0, by rw [upd_ne qL, upd_same]⟩ (Paired.mapP pr fun _ _ h => ?_)
    obtain ⟨a, e, h1, h2, h3⟩ := h
    exact ⟨a, e, h1, h2, by rw [upd_ne h1]; exact same_upd nq _ _ h3⟩
/-- a list that is not at D -/
def RowD (D : Addr) (H : Hp) (v : V) (z : List Int) : Prop := ∃ a, v = .ref a ∧ a ≠ D ∧ H a = some (.lst (z.map V.int))
theorem rowD_keep {D : Addr} {H H' : Hp} {x : V} {z : List Int} (sb : SameBut D H H') (h : RowD D H x z) : RowD D H' x z := by
  obtain ⟨a, rfl, ne, ha⟩ := h
  exact ⟨a, rfl, ne, sb _ _ ne ha⟩

/-! ### _law_marked -/
theorem call_tuple_ofKM {X : Cx} {K : PySem.W.Frag} (hK : X.K = K) : CallR X (.type "tuple") (fun xs H Q => ∃ p ys, xs = [.ref p] ∧ ((SqL K H p ys ∧ ∀ l, H l = none → Q (.ref l) (upd H l (.tup ys))) ∨ (SqT K H p ys ∧ Q (.ref p) H))) := by
  subst hK
  exact call_tuple_of
theorem inV_intM {p : Int} : ∀ l : List Int, inV (.int p) (l.map V.int) = decide (p ∈ l)
  | [] => rfl
  | x :: l => by
    show (eqV (.int x) (.int p) || inV (.int p) (l.map V.int)) = _
    rw [inV_intM l]
    have e : eqV (.int x) (.int p) = decide (x = p) := by
      by_cases c : x = p <;> simp [eqV, c]
    rw [e]
    by_cases c : x = p
    · rw [decide_eq_true c, decide_eq_true (List.mem_cons.mpr (.inl c.symm))]
      rfl
    · rw [decide_eq_false c, Bool.false_or]
      refine decide_eq_decide.mpr ⟨fun z => List.mem_cons_of_mem _ z, fun z => (List.mem_cons.mp z).resolve_left fun z => c z.symm⟩
theorem flat_intM : ∀ l : List Int, (l.map V.int).all flatV = true
  | [] => rfl
  | _ :: l => by
    rw [List.map_cons, List.all_cons, flat_intM l]
    rfl
section
variable {P : Program} {w : World} {K : PySem.W.Frag} {mg : Str → Option Value} {base : Heap}
def spMarked (K : PySem.W.Frag) : Sp := fun vs H Q _ => ∃ (n m : Int) (a : Addr) (marks : List Int), vs = [.int n, .int m, .ref a] ∧ SqL K H a (marks.map V.int) ∧ marks.length ≤ 1000 ∧ (marks.length : Int) = n + m ∧
  ∀ v H', Same H H' → (∀ t, v = .ref t → H t = none) → DGv H' v n m (blocksOf marks) → Q v H'
theorem ok_law_marked {f : Addr} {fd : FuncData} (F : Fun K "_law_marked" "_law_marked" s_law_marked f fd) (z_tuple : mg "tuple" = none) (z_range : mg "range" = none) (z_len : mg "len" = none) :
    FnOk P w K mg base CX0 1 f fd ["n", "m", "marks"] (spMarked K) := by
  refine F.ok sc_law_marked (fun vs H Q E h => ?_) (fun cdv A outer s H vs Q E hr h => ?_)
  · obtain ⟨n, m, a, marks, rfl, _⟩ := h
    rfl
  · obtain ⟨n, m, a, marks, rfl, ha, hl, hN, q⟩ := h
    refine ⟨_, (pss_cons (ps_set (i := 3) sc_law_marked.nd rfl (.inl rfl) (pe_lst pa_nil))
  (pss_cons (ps_set (i := 4) sc_law_marked.nd rfl (.inl rfl) (pe_lst pa_nil))
  (pss_cons (ps_for PassesOwn.never rfl (pi_range1 rfl z_range (pa_cons (pe_callB call_len_seq (by rfl) z_len boot_len (pa_cons (pv 2) pa_nil)) pa_nil)) (pg_name (i := 5) sc_law_marked.nd rfl (.inl rfl)) (Evl.pss_cut (ps_if (pt_cmpR op_notIn_seq (pe_ix ix_list (pv 2) (pv 5) (fun _ _ => rfl)) (pv 3) (by with_unfolding_all rfl)) (pss_cons (ps_expr (pe_bm PySem.F.plainAttrs_list PySem.F.slot_list_append PySem.F.type_list_append mt_append (pv 3) (pa_cons (pe_ix ix_list (pv 2) (pv 5) (fun _ _ => rfl)) pa_nil)))
  (pss_one (ps_expr (pe_bm PySem.F.plainAttrs_list PySem.F.slot_list_append PySem.F.type_list_append mt_append (pv 4) (pa_cons (pe_lst pa_nil) pa_nil))))) pss_nil)
  (pss_one (ps_expr (pe_bm PySem.F.plainAttrs_list PySem.F.slot_list_append PySem.F.type_list_append mt_append (pe_ix ix_list (pv 4) (pe_bm PySem.F.plainAttrs_list PySem.F.slot_list_index PySem.F.type_list_index mt_index (pv 3) (pa_cons (pe_ix ix_list (pv 2) (pv 5) (fun _ _ => rfl)) pa_nil)) (fun _ _ => rfl)) (pa_cons (pv 5) pa_nil))))))
  (pss_one (ps_ret (pe_tup (pa_cons (pv 0) (pa_cons (pv 1) (pa_cons (pe_callTy call_tuple_of (by rfl) z_tuple boot_tuple (pa_cons (pe_lc (own := [("block", 6)]) rfl sc_law_marked.nd (pi_list (pv 4)) (blkOk_by (N := ["n", "m", "marks", "known", "blocks", "at", "block"]) (sc := defScope s_law_marked) (by first | decide +kernel | rfl)) (fun _ _ _ _ _ => (pg_name (i := 6) sc_law_marked.nd rfl (.inl rfl))) (fun _ _ _ _ _ => pts_nil) (fun _ _ _ _ _ => (pe_callTy (call_tuple_ofKM (K := K) rfl) (by rfl) z_tuple boot_tuple (pa_cons (pv 6) pa_nil)))) pa_nil)) pa_nil))))))))), ?_⟩
    have szl : 20000 ≤ sizeLine := by decide
    refine ⟨(by show 0 ≤ sizeLine; decide), fun D nD => ⟨(by show 0 ≤ sizeLine; decide), fun B nB => ?_⟩⟩
    have s1 := same_upd (o := .lst []) nD
    have s2 := same_upd (o := .lst []) nB
    have h1D : upd H D (.lst []) D = some (.lst []) := upd_same
    have hD2 : upd (upd H D (.lst [])) B (.lst []) D = some (.lst []) := s2 _ _ h1D
    have tb0 : TabH (upd H D (.lst [])) (upd (upd H D (.lst [])) B (.lst [])) B [] := .new nB upd_same
    have DB : B ≠ D := fun z => by rw [z, h1D] at nB; exact nomatch nB
    have s12 : Same H (upd (upd H D (.lst [])) B (.lst [])) := Same.trans s1 s2
    have hS1 : ∀ b o, upd H D (.lst []) b = some o → b = D ∨ H b = some o := fun b o e => by
      by_cases c : b = D
      · exact .inl c
      · rw [upd_ne c] at e
        exact .inr e
    generalize upd H D (.lst []) = H1 at *
    generalize upd H1 B (.lst []) = H2 at *
    refine ⟨_, rfl, a, marks.map V.int, rfl, .inl (sqL_same s12 ha), _, rfl, by omega, by rw [List.length_map]; omega, ?_⟩
    rw [List.length_map, show ((marks.length : Nat) : Int).toNat = marks.length from rfl]
    refine for_range (lo := 0) (n := marks.length) (fun k σ H' => ∃ v5 : Option V, σ = [some (.int n), some (.int m), some (.ref a), some (.ref D), some (.ref B), v5, none] ∧ Same H H' ∧ H' D = some (.lst ((seenL [] (marks.take k)).map V.int)) ∧
      TabH H1 H' B ((seenL [] (marks.take k)).map fun v => (posOf (marks.take k) v).map V.int)) ⟨none, rfl, s12, hD2, tb0⟩ (fun k σ H3 hk hP => ?_) (fun σ H3 hP => ?_)
    · obtain ⟨v5, rfl, s3, hD, tb⟩ := hP
      have ha3 := sqL_same s3 ha
      have ek : (0 : Int) + (k : Int) = (k : Int) := Int.zero_add _
      rw [ek]
      have ls := seenL_len (marks.take k) []
      rw [List.length_take] at ls
      have ls2 : (seenL [] (marks.take k)).length ≤ 1000 := by
        have : ([] : List Int).length = 0 := rfl
        omega
      obtain ⟨_, us, hB, _, pU⟩ := id tb
      have lus : us.length ≤ 1000 := by rw [pU.length, List.length_map]; exact ls2
      refine ⟨fun σ H' => σ = [some (.int n), some (.int m), some (.ref a), some (.ref D), some (.ref B), some (.int (k : Int)), none] ∧ Same H H' ∧ H' D = some (.lst ((seenL [] (marks.take (k + 1))).map V.int)) ∧
        TabH H1 H' B ((seenL [] (marks.take (k + 1))).map fun v => (posOf (marks.take k) v).map V.int), ?_, ?_⟩
      · refine ⟨_, rfl, _, rfl, a, _, _, _, rfl, rfl, ha3, at_co hk, _, rfl, D, _, rfl, .inl (.inl (.inl hD)), rfl, flat_intM _, _, rfl, ?_⟩
        by_cases c : co marks k ∈ seenL [] (marks.take k)
        · refine if_neg_of (by show ¬ (!inV _ _) = true; rw [inV_intM, decide_eq_true c]; exact Bool.false_ne_true) ⟨rfl, s3, ?_⟩
          rw [take_snoc hk, seenL_snoc, if_pos c]
          exact ⟨hD, tb⟩
        · refine if_pos_of (by show (!inV _ _) = true; rw [inV_intM, decide_eq_false c]; rfl) ?_
          refine ⟨_, rfl, .inl ⟨rfl, _, .inl (.inl hD)⟩, _, rfl, _, rfl, a, _, _, _, rfl, rfl, ha3, at_co hk, D, _, _, rfl, rfl, hD, by rw [List.length_map]; omega, ?_⟩
          have sbD := SameBut.upd (H := H3) (a := D) (o := .lst ((seenL [] (marks.take k)).map V.int ++ [.int (co marks k)]))
          have tb4 := tb.but h1D sbD
          have hB4 := sbD _ _ DB hB
          have hD4 : upd H3 D (.lst ((seenL [] (marks.take k)).map V.int ++ [.int (co marks k)])) D = some (.lst ((seenL [] (marks.take (k + 1))).map V.int)) := by rw [upd_same, take_snoc hk, seenL_snoc, if_neg c, List.map_append]; rfl
          have s4 : Same H (upd H3 D (.lst ((seenL [] (marks.take k)).map V.int ++ [.int (co marks k)]))) := Same.mut s3 nD
          revert tb4 hB4 hD4 s4
          generalize upd H3 D (.lst ((seenL [] (marks.take k)).map V.int ++ [.int (co marks k)])) = H4
          intro tb4 hB4 hD4 s4
          refine ⟨_, rfl, .inl ⟨rfl, _, .inl (.inl hB4)⟩, (by show 0 ≤ sizeLine; decide), fun q1 nq1 => ?_⟩
          have w1 := same_upd (o := .lst []) nq1
          refine ⟨B, _, _, rfl, rfl, w1 _ _ hB4, by omega, rfl, Same.mut (Same.trans s4 w1) (none_back s1 nB), ?_, ?_⟩
          · rw [upd_ne (Ne.symm DB)]
            exact w1 _ _ hD4
          · have n1 : H1 q1 = none := by
              cases e : H1 q1 with
              | none => rfl
              | some o =>
                rcases hS1 _ _ e with z | z
                · rw [z, hD4] at nq1
                  exact nomatch nq1
                · rw [s4 _ _ z] at nq1
                  exact nomatch nq1
            have := tb4.push hB4 nq1 n1 (r := [])
            rw [take_snoc hk, seenL_snoc, if_neg c, List.map_append]
            show TabH H1 _ B (_ ++ [(posOf (marks.take k) (co marks k)).map V.int])
            rw [posOf_none (fun z => c ((seenL_mem _ [] _).mpr (.inr z)))]
            exact this
      clear tb
      rintro σ H4 ⟨rfl, s4, hD4, tb4⟩
      obtain ⟨_, us, hB, _, pU⟩ := id tb4
      have hin : co marks k ∈ seenL [] (marks.take (k + 1)) := (seenL_mem _ [] _).mpr (.inr (by rw [take_snoc hk]; exact List.mem_append_right _ (List.mem_singleton.mpr rfl)))
      have hj := List.idxOf_lt_length_of_mem hin
      have ej := List.getElem_idxOf hj
      have ndS := seenL_nodup (marks.take (k + 1)) [] List.nodup_nil
      obtain ⟨y, ey⟩ : ∃ y, us[(seenL [] (marks.take (k + 1))).idxOf (co marks k)]? = some y := ⟨_, List.getElem?_eq_getElem (by rw [pU.length, List.length_map]; exact hj)⟩
      obtain ⟨r, er, x, rfl, xB, nx, hx⟩ := paired_get pU ey
      rw [List.getElem?_map, List.getElem?_eq_getElem hj, ej] at er
      have er := Option.some.inj er
      dsimp only at er
      subst er
      have lp : (posOf (marks.take k) (co marks k)).length ≤ 1000 := by
        unfold posOf
        rw [List.length_map]
        refine Nat.le_trans (List.length_filter_le _ _) ?_
        rw [List.length_range, List.length_take]
        omega
      refine ⟨_, rfl, _, rfl, .inl ⟨rfl, _, .inl (.inl hD4)⟩, _, rfl, _, rfl, a, _, _, _, rfl, rfl, sqL_same s4 ha, at_co hk, D, _, .int (co marks k), (seenL [] (marks.take (k + 1))).idxOf (co marks k), .int (co marks k), rfl, rfl, .inl (.inl hD4), rfl, flat_intM _, ?_, ?_, fun i z hi hz => ?_, ?_⟩
      · rw [List.getElem?_map, List.getElem?_eq_getElem hj, ej]
        rfl
      · simp [eqV]
      · rw [List.getElem?_map] at hz
        obtain ⟨b, hb, rfl⟩ := Option.map_eq_some_iff.mp hz
        have : b ≠ co marks k := fun e => by
          subst e
          obtain ⟨hi', e2⟩ := List.getElem?_eq_some_iff.mp hb
          have := List.pairwise_iff_getElem.mp ndS i _ hi' hj hi
          rw [e2, ej] at this
          exact this rfl
        simp [eqV, this]
      · refine ⟨B, us, _, .ref x, rfl, rfl, .inl (.inl hB), atI_nat (j := (seenL [] (marks.take (k + 1))).idxOf (co marks k)) ey, ?_⟩
        refine ⟨.inl ⟨rfl, _, .inl (.inl hx)⟩, _, rfl, x, _, _, rfl, rfl, hx, by rw [List.length_map]; omega, ?_⟩
        have nxD : x ≠ D := fun z => by rw [z, h1D] at nx; exact nomatch nx
        have nxH : H x = none := none_back s1 nx
        refine ⟨_, rfl, Same.mut s4 nxH, by rw [upd_ne (Ne.symm nxD)]; exact hD4, ?_⟩
        have := tb4.set hB ey ((posOf (marks.take k) (co marks k)).map V.int ++ [V.int (k : Int)])
        have e : ((seenL [] (marks.take (k + 1))).map fun v => (posOf (marks.take k) v).map V.int).set ((seenL [] (marks.take (k + 1))).idxOf (co marks k)) ((posOf (marks.take k) (co marks k)).map V.int ++ [V.int (k : Int)]) = (seenL [] (marks.take (k + 1))).map fun v => (posOf (marks.take (k + 1)) v).map V.int := by
          refine List.ext_getElem? fun i => ?_
          rw [List.getElem?_set, List.length_map, List.getElem?_map, List.getElem?_map]
          by_cases c : (seenL [] (marks.take (k + 1))).idxOf (co marks k) = i
          · subst c
            rw [if_pos rfl, if_pos hj, List.getElem?_eq_getElem hj, ej]
            show _ = some ((posOf (marks.take (k + 1)) (co marks k)).map V.int)
            rw [posOf_take hk, if_pos rfl, List.map_append]
            rfl
          · rw [if_neg c]
            cases e : (seenL [] (marks.take (k + 1)))[i]? with
            | none => rfl
            | some v =>
              have nv : co marks k ≠ v := fun z => c (by
                obtain ⟨hi, e2⟩ := List.getElem?_eq_some_iff.mp e
                rw [z, ← e2]
                exact List.Nodup.idxOf_getElem ndS i hi)
              show some ((posOf (marks.take k) v).map V.int) = some ((posOf (marks.take (k + 1)) v).map V.int)
              rw [posOf_take hk, if_neg nv]
        rw [e] at this
        exact this
    · obtain ⟨v5, rfl, s3, hD, tb⟩ := hP
      rw [List.take_length] at tb
      obtain ⟨_, us, hB, _, pU⟩ := id tb
      have lus : us.length ≤ 1000 := by
        rw [pU.length, List.length_map]
        have := seenL_len marks []
        have e : ([] : List Int).length = 0 := rfl
        omega
      refine ⟨_, rfl, _, rfl, _, rfl, B, rfl, ⟨_, .inl (.inl hB)⟩, fun L nL => ?_⟩
      have BL : B ≠ L := ne_of_none hB nL
      have kL : ∀ {H' : Hp}, SameBut L H3 H' → Same H3 H' := fun sb b o e => sb b o (ne_of_none e nL) e
      refine lc_list (xs := us) (fun i H' => SameBut L H3 H' ∧ ∃ ts, H' L = some (.lst ts) ∧ Paired (TP H') ts (((seenL [] marks).take i).map (posOf marks))) ⟨SameBut.upd, [], upd_same, .nil⟩ (fun i H' _ hP => .inl (.inl (hP.1 _ _ BL hB))) (fun i x H4 hx hP => ?_) (fun H4 hP => ?_)
      · obtain ⟨sb, ts, hL, pt⟩ := hP
        obtain ⟨r, er, y, rfl, _, _, hy⟩ := paired_get pU hx
        rw [List.getElem?_map] at er
        obtain ⟨v, ev, rfl⟩ := Option.map_eq_some_iff.mp er
        refine ⟨rfl, _, rfl, y, _, rfl, .inl ⟨.inl (.inl (kL sb _ _ hy)), fun t nt => ?_⟩⟩
        have w1 := same_upd (o := .tup ((posOf marks v).map V.int)) nt
        have hL5 := w1 _ _ hL
        have li := (List.getElem?_eq_some_iff.mp hx).1
        refine ⟨ts, hL5, by rw [pt.length, List.length_map, List.length_take]; omega, (sb.trans (Same.but w1)).trans SameBut.upd, _, upd_same, ?_⟩
        rw [List.take_succ, ev, List.map_append]
        exact Paired.mapP (paired_add ⟨t, rfl, upd_same⟩ (Paired.mapP pt fun _ _ h => h.same w1)) fun _ _ h => TP.butL hL5 SameBut.upd h
      · obtain ⟨sb, ts, hL, pt⟩ := hP
        have el : (seenL [] marks).length = us.length := by rw [pU.length, List.length_map]
        rw [← el, List.take_length] at pt
        refine ⟨L, _, rfl, .inl ⟨.inl (.inl hL), fun tb' ntb => ?_⟩⟩
        refine ⟨(by show 3 ≤ sizeLine; decide), fun t nt => ?_⟩
        have q3 := same_upd (o := .tup ts) ntb
        have q4 := same_upd (o := .tup [.int n, .int m, .ref tb']) nt
        have sf := Same.trans q3 q4
        have sA := Same.trans s3 (kL sb)
        exact q (.ref t) _ (Same.trans sA sf) (fun t' e => by cases e; exact none_back (Same.trans sA q3) nt) ⟨t, .ref tb', rfl, upd_same, tb', _, rfl, q4 _ _ upd_same, Paired.mapP pt fun _ _ h => h.same sf⟩
end

section
variable {P : Program} {w : World} {K : PySem.W.Frag} {mg : Str → Option Value} {base : Heap}
/-! ### _law_worded -/
theorem lbW_len (n : Nat) (k : Str) (i top : Nat) : (lbW n k i top).length ≤ n + 3 := by
  unfold lbW
  rw [List.length_append]
  have a := lbA_len n i (wdN k) top (List.range n)
  rw [List.length_range] at a
  have b : (lbX n k i top).length ≤ 3 := by
    unfold lbX
    split
    · simp
    · split
      · simp
      · split <;> simp
  omega
theorem cnt_sub {ms sh : List Int} (h : ∀ k ∈ sh, k ∈ ms) : cnt ms = hid ms sh + cnt sh := by
  have nd := seenL_nodup ms [] List.nodup_nil
  have e : cnt sh = ((seenL [] ms).filter fun k => !decide (k ∉ sh)).length := (cnt_is (nd.filter _) fun k => by
    rw [List.mem_filter, seenL_mem]
    constructor
    · rintro ⟨_, h2⟩
      by_cases c : k ∈ sh
      · exact c
      · rw [decide_eq_true c] at h2; exact nomatch h2
    · intro hk
      exact ⟨.inr (h k hk), by rw [decide_eq_false (fun z => z hk)]; rfl⟩).symm
  rw [e]
  unfold cnt hid
  generalize seenL [] ms = l
  induction l with
  | nil => rfl
  | cons a l ih =>
    rw [List.filter_cons, List.filter_cons, List.length_cons]
    by_cases c : a ∈ sh
    · rw [decide_eq_false (fun z => z c)]
      simp only [Bool.not_false, if_true, List.length_cons, Bool.false_eq_true, if_false]
      rw [ih]; omega
    · rw [decide_eq_true c]
      simp only [Bool.not_true, if_true, List.length_cons, Bool.false_eq_true, if_false]
      rw [ih]; omega
def spWorded (K : PySem.W.Frag) : Sp := fun vs H Q _ => ∃ (n : Nat) (v : V) (x : List Lt), vs = [.int (n : Int), v] ∧ WP K H v x ∧ x.length ≤ 8 ∧ n ≤ 6 ∧ (∀ y ∈ x, y ∈ lettersL "parts" (n : Int)) ∧
  ∀ (D : Addr) v' H', Same H H' → H' D = some (.lst [.int ((wdS n x).1 : Nat), v']) → DGv H' v' n n (blocksOf (wdS n x).2) → Q (.ref D) H'
theorem ok_law_worded {f : Addr} {fd : FuncData} (F : Fun K "_law_worded" "_law_worded" s_law_worded f fd) (z_len : mg "len" = none) (z_range : mg "range" = none) (z_list : mg "list" = none) {a_law_letter_blocks : Addr} {fd_law_letter_blocks : FuncData} (G_law_letter_blocks : FnOk P w K mg base CX0 2 a_law_letter_blocks fd_law_letter_blocks ["letter", "n", "top"] spLBlocks) (g_law_letter_blocks : mg "_law_letter_blocks" = some (.ref a_law_letter_blocks)) (k_law_letter_blocks : PySem.W.keepIn K (.ref a_law_letter_blocks) = true) (b_law_letter_blocks : Binds K fd_law_letter_blocks ["letter", "n", "top"] [])
    {a_law_glued : Addr} {fd_law_glued : FuncData} (G_law_glued : FnOk P w K mg base CX0 1 a_law_glued fd_law_glued ["marks", "pairs"] (spGlued K)) (g_law_glued : mg "_law_glued" = some (.ref a_law_glued)) (k_law_glued : PySem.W.keepIn K (.ref a_law_glued) = true) (b_law_glued : Binds K fd_law_glued ["marks", "pairs"] [])
    {a_law_kinds : Addr} {fd_law_kinds : FuncData} (G_law_kinds : FnOk P w K mg base CX0 1 a_law_kinds fd_law_kinds ["marks"] (spKindsN K)) (g_law_kinds : mg "_law_kinds" = some (.ref a_law_kinds)) (k_law_kinds : PySem.W.keepIn K (.ref a_law_kinds) = true) (b_law_kinds : Binds K fd_law_kinds ["marks"] [])
    {a_law_marked : Addr} {fd_law_marked : FuncData} (G_law_marked : FnOk P w K mg base CX0 1 a_law_marked fd_law_marked ["n", "m", "marks"] (spMarked K)) (g_law_marked : mg "_law_marked" = some (.ref a_law_marked)) (k_law_marked : PySem.W.keepIn K (.ref a_law_marked) = true) (b_law_marked : Binds K fd_law_marked ["n", "m", "marks"] []) : FnOk P w K mg base CX0 3 f fd ["n", "word"] (spWorded K) := by
  refine F.ok sc_law_worded (fun vs H Q E h => ?_) (fun cdv A outer s H vs Q E hr h => ?_)
  · obtain ⟨n, v, x, rfl, _⟩ := h
    rfl
  · obtain ⟨n, v, x, rfl, hv, x8, n6, all, q⟩ := h
    refine ⟨_, (pss_cons (ps_set (i := 2) sc_law_worded.nd rfl (.inl rfl) (pe_lst pa_nil))
  (pss_cons (ps_for PassesOwn.never rfl (pi_range1 rfl z_range (pa_cons (pe_callB call_len_seq (by rfl) z_len boot_len (pa_cons (pv 1) pa_nil)) pa_nil)) (pg_name (i := 3) sc_law_worded.nd rfl (.inl rfl)) (pss_one (ps_set (i := 2) sc_law_worded.nd rfl (.inl rfl) (pe_op op_cat (pv 2) (pe_call G_law_letter_blocks (hr.mono (by decide)) rfl g_law_letter_blocks k_law_letter_blocks b_law_letter_blocks .nil pass0 (pa_cons (pe_ix ix_tup (pv 1) (pv 3) (fun _ _ => rfl)) (pa_cons (pv 0) (pa_cons (pe_op op_mul (pv 3) (pv 0)) pa_nil))))))))
  (pss_cons (ps_set (i := 4) sc_law_worded.nd rfl (.inl rfl) (pe_call G_law_glued (hr.mono (by decide)) rfl g_law_glued k_law_glued b_law_glued .nil pass0 (pa_cons (pe_listRg rfl rfl z_list (prg_1 rfl z_range (pe_op op_mul (pe_op op_add (pe_callB call_len_seq (by rfl) z_len boot_len (pa_cons (pv 1) pa_nil)) pe_int) (pv 0)))) (pa_cons (pv 2) pa_nil))))
  (pss_cons (ps_set (i := 5) sc_law_worded.nd rfl (.inl rfl) (pe_op op_cat (pe_slice sl_list (pv 4) po_none (po_some (pv 0))) (pe_slice sl_list (pv 4) (po_some (pe_op op_mul (pe_callB call_len_seq (by rfl) z_len boot_len (pa_cons (pv 1) pa_nil)) (pv 0))) po_none)))
  (pss_one (ps_ret (pe_lst (pa_cons (pe_op op_sub (pe_call G_law_kinds (hr.mono (by decide)) rfl g_law_kinds k_law_kinds b_law_kinds .nil pass0 (pa_cons (pv 4) pa_nil)) (pe_call G_law_kinds (hr.mono (by decide)) rfl g_law_kinds k_law_kinds b_law_kinds .nil pass0 (pa_cons (pv 5) pa_nil))) (pa_cons (pe_call G_law_marked (hr.mono (by decide)) rfl g_law_marked k_law_marked b_law_marked .nil pass0 (pa_cons (pv 0) (pa_cons (pv 0) (pa_cons (pv 5) pa_nil)))) pa_nil))))))))), ?_⟩
    have szl : 20000 ≤ sizeLine := by decide
    obtain ⟨t, xs, rfl, ht, px⟩ := hv
    have lxs := px.length
    refine ⟨(by show 0 ≤ sizeLine; omega), fun D0 nD0 => ?_⟩
    have s1 := same_upd (o := .lst []) nD0
    refine ⟨_, rfl, t, xs, rfl, .inr (sqT_same s1 ht), ?_⟩
    refine ⟨(xs.length : Int), rfl, by omega, by omega, for_range (lo := 0) (n := xs.length) (fun i σ H' => ∃ (D : Addr) (ts : List V) (v3 : Option V), σ = [some (.int (n : Int)), some (.ref t), some (.ref D), v3, none, none] ∧ Same H H' ∧ H' D = some (.lst ts) ∧ Paired (LnkW H') ts (wPr n x i) ∧ ts.length ≤ 9 * i) ⟨D0, [], none, rfl, s1, upd_same, .nil, Nat.zero_le _⟩ (fun i σ H2 hi hP => ?_) (fun σ H2 hP => ?_)⟩
    · obtain ⟨D, ts, v3, rfl, s2, hD, pt, lt⟩ := hP
      have hix : i < x.length := by omega
      obtain ⟨hy, ey⟩ := wd_at all hix
      obtain ⟨k1, k2, k3⟩ := lettersL_ok (by decide : ("parts" : Str) ∈ fams) hy
      have ei := List.getElem?_eq_getElem hi
      obtain ⟨yi, eyi, hyi⟩ := paired_ix px ei
      obtain rfl : x.getD i zL = yi := Option.some.inj (ey.symm.trans eyi)
      have wp := wPr_succ n x i
      generalize x.getD i zL = y at *
      obtain ⟨k, m⟩ := y
      obtain ⟨m, rfl⟩ : ∃ m' : Nat, m = (m' : Int) := ⟨m.toNat, by omega⟩
      rw [show (k, (m : Int)).2.toNat = m from rfl] at wp
      have i8 : i * n ≤ 8 * 6 := Nat.mul_le_mul (by omega) n6
      have iw : m + wdN k ≤ n := by
        have := wdN_int k
        have k3 : (m : Int) ≤ (n : Int) - wideK k := k3
        omega
      have ez : (0 : Int) + (i : Int) = (i : Int) := Int.zero_add _
      rw [ez]
      have i48 : (i : Int) * (n : Int) = ((i * n : Nat) : Int) := (Int.natCast_mul i n).symm
      refine ⟨_, rfl, _, rfl, _, rfl, t, xs, (i : Int), xs[i], rfl, rfl, sqT_same s2 ht, atI_nat ei, _, rfl, _, rfl, _, rfl, (i : Int), (n : Int), rfl, rfl, .inl ⟨by omega, by omega⟩, ?_⟩
      refine ⟨xs[i], k, m, n, i * n, congrArg (fun z => [xs[i], V.int (n : Int), V.int z]) i48, hyi.same s2, k1, n6, iw, by omega, fun L us H3 s3 hL pu => ?_⟩
      have hD3 := s3 _ _ hD
      have lu := pu.length
      have lb := lbW_len n k m (i * n)
      refine ⟨D, L, ts, us, rfl, rfl, hD3, hL, by omega, fun p np => ?_⟩
      have wC := same_upd (o := .lst (ts ++ us)) np
      refine ⟨p, ts ++ us, _, rfl, Same.trans s2 (Same.trans s3 wC), upd_same, ?_, by rw [List.length_append]; omega⟩
      rw [wp]
      exact paired_app (Paired.mapP pt fun _ _ h => h.same (Same.trans s3 wC)) (Paired.mapP pu fun _ _ h => h.same wC)
    · obtain ⟨D, ts, v3, rfl, s2, hD, pt, lt⟩ := hP
      rw [lxs] at pt lt
      obtain ⟨w1, w2⟩ := wd_same (by omega) all x.length (Nat.le_refl _)
      rw [List.take_length] at w1 w2
      have bd := wPr_bd (by omega : n < 7) all (Nat.le_refl _)
      have lT := (ks_wT (by omega : n < 7) all (Nat.le_refl _)).len
      have i8 : x.length * n ≤ 8 * 6 := Nat.mul_le_mul x8 n6
      have eN : ((xs.length : Int) + 1) * (n : Int) = ((x.length * n + n : Nat) : Int) := by
        rw [lxs, Int.add_mul, Int.one_mul, ← Int.natCast_mul, Int.natCast_add]
      have eM : (xs.length : Int) * (n : Int) = ((x.length * n : Nat) : Int) := by rw [lxs, Int.natCast_mul]
      have eT : ujP (ixs (x.length * n + n)) (wPr n x x.length) = wT n x x.length := rfl
      generalize x.length * n = M at *
      generalize wT n x x.length = T at *
      generalize wPr n x x.length = es at *
      generalize wdS n x = W at *
      have ht2 := sqT_same s2 ht
      refine ⟨_, rfl, t, xs, rfl, .inr ht2, _, _, rfl, rfl, _, rfl, _, _, rfl, rfl, .inr ⟨by omega, by omega⟩, ((M + n : Nat) : Int), congrArg V.int eN, RgOk.of_le (by omega) (by omega) (by omega) (by omega), fun p1 np1 => ?_⟩
      have s3 := same_upd (o := .lst (rgV 0 ((M + n : Nat) : Int))) np1
      have h1 : upd H2 p1 (.lst (rgV 0 ((M + n : Nat) : Int))) p1 = some (.lst ((ixs (M + n)).map V.int)) := by rw [upd_same, rgV_ixs (by omega)]; rfl
      generalize upd H2 p1 (.lst (rgV 0 ((M + n : Nat) : Int))) = H3 at s3 h1
      refine ⟨_, rfl, p1, D, ixs (M + n), ts, es, rfl, .inl (.inl h1), s3 _ _ hD, Paired.mapP pt fun _ _ h => h.same s3, fun e he => by rw [ixs_len']; exact bd e he, by rw [ixs_len']; omega, fun G H4 s4 hG => ?_⟩
      rw [eT] at hG
      have s24 := Same.trans s3 s4
      have ht4 := sqT_same s24 ht2
      refine ⟨_, rfl, _, rfl, _, rfl, G, _, rfl, hG, fun p2 np2 => ?_⟩
      have s5 := same_upd (o := .lst (cutV (T.map V.int) none (some (n : Int)))) np2
      have hG5 := sqL_same s5 hG
      have ht5 := sqT_same s5 ht4
      refine ⟨_, rfl, _, rfl, t, xs, rfl, .inr ht5, _, rfl, _, _, rfl, rfl, .inr ⟨by omega, by omega⟩, _, rfl, G, _, rfl, hG5, fun p3 np3 => ?_⟩
      have s6 := same_upd (o := .lst (cutV (T.map V.int) (some ((xs.length : Int) * (n : Int))) none)) np3
      refine ⟨p2, p3, _, _, rfl, rfl, s6 _ _ upd_same, upd_same, ?_, fun p4 np4 => ?_⟩
      · rw [cutI_to (by omega) (by omega), eM, cutI_from (by omega) (by omega), List.length_map, List.length_map, List.length_take, List.length_drop]
        omega
      have s7 := same_upd (o := .lst (cutV (T.map V.int) none (some (n : Int)) ++ cutV (T.map V.int) (some ((xs.length : Int) * (n : Int))) none)) np4
      have hO : cutV (T.map V.int) none (some (n : Int)) ++ cutV (T.map V.int) (some ((xs.length : Int) * (n : Int))) none = (inoutL n M T).map V.int := by
        rw [cutI_to (by omega) (by omega), eM, cutI_from (by omega) (by omega), ← List.map_append]
        rfl
      have h4 : (upd (upd (upd H4 p2 (.lst (cutV (T.map V.int) none (some (n : Int))))) p3 (.lst (cutV (T.map V.int) (some ((xs.length : Int) * (n : Int))) none))) p4 (.lst (cutV (T.map V.int) none (some (n : Int)) ++ cutV (T.map V.int) (some ((xs.length : Int) * (n : Int))) none))) p4 = some (.lst ((inoutL n M T).map V.int)) := by rw [upd_same, hO]
      have sH := Same.trans s2 (Same.trans s24 (Same.trans s5 (Same.trans s6 s7)))
      have hG7 := sqL_same (Same.trans s6 s7) hG5
      generalize upd (upd (upd H4 p2 (.lst (cutV (T.map V.int) none (some (n : Int))))) p3 (.lst (cutV (T.map V.int) (some ((xs.length : Int) * (n : Int))) none))) p4 (.lst (cutV (T.map V.int) none (some (n : Int)) ++ cutV (T.map V.int) (some ((xs.length : Int) * (n : Int))) none)) = H7 at *
      have lO : (inoutL n M T).length = n + n := by
        by_cases c : n ≤ M
        · rw [inout_len c (by omega)]; omega
        · unfold inoutL
          rw [List.length_append, List.length_take, List.length_drop]
          omega
      refine ⟨_, rfl, G, T, rfl, hG7, by omega, fun H8 s8 => ?_⟩
      refine ⟨_, rfl, p4, inoutL n M T, rfl, .inl (.inl (s8 _ _ h4)), by omega, fun H9 s9 => ?_⟩
      have ec : ((cnt T : Nat) : Int) - ((cnt (inoutL n M T) : Nat) : Int) = ((W.1 : Nat) : Int) := by
        rw [cnt_sub (ms := T) (sh := inoutL n M T) (fun k hk => inoutL_mem n M T k hk), w1]
        omega
      refine ⟨_, _, rfl, rfl, _, rfl, _, rfl, _, rfl, (n : Int), (n : Int), p4, inoutL n M T, rfl, .inl (.inl (s9 _ _ (s8 _ _ h4))), by omega, by omega, fun v' H10 s10 _ dv => ?_⟩
      refine ⟨(by show 2 ≤ sizeLine; omega), fun D' nD' => ?_⟩
      have s11 := same_upd (o := .lst [.int (((cnt T : Nat) : Int) - ((cnt (inoutL n M T) : Nat) : Int)), v']) nD'
      refine q D' v' _ (Same.trans sH (Same.trans s8 (Same.trans s9 (Same.trans s10 s11)))) ?_ ?_
      · rw [upd_same]
        show some (HO.lst [V.int (((cnt T : Nat) : Int) - ((cnt (inoutL n M T) : Nat) : Int)), v']) = _
        rw [ec]
      · rw [w2.blocks]
        exact DGv.same s11 dv
end

section
variable {P : Program} {w : World} {K : PySem.W.Frag} {mg : Str → Option Value} {base : Heap}
/-! ### _law_family (where a law has no _law_pick) -/
def spFamily : Sp := fun vs H Q _ => ∃ (r : Addr) (ds : List Int), vs = [.ref r] ∧ H r = some (.lst (ds.map V.int)) ∧ ∀ (z : Str) (ds' : List Int) (H' : Hp), z ∈ fams → SameBut r H H' → H' r = some (.lst (ds'.map V.int)) → Q (.str z) H'
theorem ok_law_family {f a_law_next : Addr} {fd fd_law_next : FuncData} (F : Fun K "_law_family" "_law_family" s_law_family f fd) (z_int : mg "int" = none)
    (G_law_next : FnOk P w K mg base CX0 1 a_law_next fd_law_next ["draws"] spNext) (g_law_next : mg "_law_next" = some (.ref a_law_next)) (k_law_next : PySem.W.keepIn K (.ref a_law_next) = true) (b_law_next : Binds K fd_law_next ["draws"] []) : FnOk P w K mg base CX0 2 f fd ["draws"] spFamily := by
  refine F.ok sc_law_family (fun vs H Q E h => ?_) (fun cdv A outer s H vs Q E hr h => ?_)
  · obtain ⟨r, ds, rfl, _⟩ := h
    rfl
  · obtain ⟨r, ds, rfl, hL, q⟩ := h
    refine ⟨_, (pss_one (ps_ret (pe_ix ix_list (pe_lst (pa_cons pe_str (pa_cons pe_str (pa_cons pe_str (pa_cons pe_str (pa_cons pe_str (pa_cons pe_str pa_nil))))))) (pe_op op_mod (pe_callTy call_int1 (by rfl) z_int boot_int (pa_cons (pe_call G_law_next (hr.mono (by decide)) rfl g_law_next k_law_next b_law_next .nil pass0 (pa_cons (pv 0) pa_nil)) pa_nil)) pe_int) (fun _ _ => rfl)))), ?_⟩
    refine ⟨(by show 6 ≤ sizeLine; decide), fun p np => ?_⟩
    have nrp : r ≠ p := ne_of_none hL np
    refine ⟨_, rfl, r, ds, rfl, (by rw [upd_ne nrp]; exact hL), fun n0 ds0 => .inl ⟨n0, rfl, n0, 6, rfl, rfl, (show (0 : Int) < 6 by decide), ?_⟩⟩
    have m := mod_lt8 n0 (show (0 : Int) < 6 by decide)
    obtain ⟨k, hk, ek⟩ : ∃ k : Nat, k < 6 ∧ n0 % 6 = (k : Int) := ⟨(n0 % 6).toNat, by omega, by omega⟩
    dsimp only
    rw [ek]
    have go : ∀ z : Str, z ∈ fams → Q (.str z) (upd (upd H p (.lst [.str "threads", .str "loose", .str "pairs", .str "lonepairs", .str "even", .str "parts"])) r (.lst (ds0.map V.int))) := fun z mz => q z ds0 _ mz (fun b o nb hb => by rw [upd_ne nb, upd_ne (ne_of_none hb np)]; exact hb) upd_same
    obtain ⟨z, mz, ez⟩ : ∃ z : Str, z ∈ fams ∧ [V.str "threads", .str "loose", .str "pairs", .str "lonepairs", .str "even", .str "parts"][k]? = some (.str z) := by
      match k, hk with
      | 0, _ => exact ⟨fams[0]'(by decide), List.getElem_mem _, rfl⟩
      | 1, _ => exact ⟨fams[1]'(by decide), List.getElem_mem _, rfl⟩
      | 2, _ => exact ⟨fams[2]'(by decide), List.getElem_mem _, rfl⟩
      | 3, _ => exact ⟨fams[3]'(by decide), List.getElem_mem _, rfl⟩
      | 4, _ => exact ⟨fams[4]'(by decide), List.getElem_mem _, rfl⟩
      | 5, _ => exact ⟨fams[5]'(by decide), List.getElem_mem _, rfl⟩
    exact ⟨p, _, _, _, rfl, rfl, .inl (.inl (by rw [upd_ne (Ne.symm nrp), upd_same])), atI_nat ez, go z mz⟩
end

section
variable {P : Program} {w : World} {K : PySem.W.Frag} {mg : Str → Option Value} {base : Heap}
/-! ### _law_marks -/
def spMarks : Sp := fun vs H Q _ => ∃ (v : V) (n m : Int) (bs : List (List Int)), vs = [v] ∧ DGv H v n m bs ∧ IsDg n m bs ∧ bs.length ≤ 1000 ∧ ∀ D H', Same H H' → H D = none → H' D = some (.lst ((labL bs (n + m).toNat).map V.int)) → Q (.ref D) H'
theorem ok_law_marks {f : Addr} {fd : FuncData} (F : Fun K "_law_marks" "_law_marks" s_law_marks f fd) (z_len : mg "len" = none) (z_range : mg "range" = none) : FnOk P w K mg base CX0 1 f fd ["diagram"] spMarks := by
  refine F.ok sc_law_marks (fun vs H Q E h => ?_) (fun cdv A outer s H vs Q E hr h => ?_)
  · obtain ⟨v, n, m, bs, rfl, _⟩ := h
    rfl
  · obtain ⟨v, n, m, bs, rfl, hv, dg, lb, q⟩ := h
    refine ⟨_, (pss_cons (ps_set (i := 1) sc_law_marks.nd rfl (.inl rfl) (pe_op op_rep (pe_lst (pa_cons pe_int pa_nil)) (pe_op op_add (pe_ix ix_tup (pv 0) pe_int (fun _ _ => rfl)) (pe_ix ix_tup (pv 0) pe_int (fun _ _ => rfl)))))
  (pss_cons (ps_for PassesOwn.never rfl (pi_range1 rfl z_range (pa_cons (pe_callB call_len_seq (by rfl) z_len boot_len (pa_cons (pe_ix ix_tup (pv 0) pe_int (fun _ _ => rfl)) pa_nil)) pa_nil)) (pg_name (i := 2) sc_law_marks.nd rfl (.inl rfl)) (pss_one (ps_for PassesOwn.never rfl (pi_tup (pe_ix ix_tup (pe_ix ix_tup (pv 0) pe_int (fun _ _ => rfl)) (pv 2) (fun _ _ => rfl))) (pg_name (i := 3) sc_law_marks.nd rfl (.inl rfl)) (pss_one (ps_asg (pv 2) (pg_sub (pv 1) (pv 3) set_list))))))
  (pss_one (ps_ret (pv 1))))), ?_⟩
    have szl : 20000 ≤ sizeLine := by decide
    have hs := siz_iff.mp dg.sz
    obtain ⟨t, vb, rfl, ht, tb, ts, rfl, htb, pr⟩ := hv
    have lts : ts.length = bs.length := pr.length
    obtain ⟨N, eN⟩ : ∃ N : Nat, n + m = (N : Int) := ⟨(n + m).toNat, by omega⟩
    refine ⟨(by show 1 ≤ sizeLine; decide), fun z nz => ?_⟩
    have q0 := same_upd (o := .lst [.int 0]) nz
    refine ⟨_, rfl, t, _, 0, .int n, rfl, rfl, .inl (.inl (q0 _ _ ht)), atI_nat (j := 0) rfl, _, rfl, t, _, 1, .int m, rfl, rfl, .inl (.inl (q0 _ _ ht)), atI_nat (j := 1) rfl, _, _, rfl, rfl, z, _, _, rfl, rfl, upd_same, ?_⟩
    dsimp only
    rw [eN]
    refine ⟨by omega, by omega, by show 1 * _ ≤ sizeLine; omega, fun D nD => ?_⟩
    rw [show ((N : Nat) : Int).toNat = N from rfl, rep0]
    have s1 : Same H (upd (upd H z (.lst [.int 0])) D (.lst ((List.replicate N (0 : Int)).map V.int))) := Same.trans q0 (same_upd nD)
    have hD1 : upd (upd H z (.lst [.int 0])) D (.lst ((List.replicate N (0 : Int)).map V.int)) D = some (.lst ((List.replicate N (0 : Int)).map V.int)) := upd_same
    have nD0 := none_back q0 nD
    revert s1 hD1
    generalize upd (upd H z (.lst [.int 0])) D (.lst ((List.replicate N (0 : Int)).map V.int)) = H1
    intro s1 hD1
    refine ⟨_, rfl, t, _, 2, .ref tb, rfl, rfl, .inl (.inl (s1 _ _ ht)), atI_nat (j := 2) rfl, tb, _, rfl, .inr (.inl (.inl (s1 _ _ htb))), ?_⟩
    rw [lts]
    refine ⟨_, rfl, by omega, by omega, for_range (lo := 0) (n := bs.length) (fun i σ H' => ∃ v2 v3, σ = [some (.ref t), some (.ref D), v2, v3] ∧ Same H H' ∧ H' D = some (.lst ((labN bs i N).map V.int)))
      ⟨none, none, rfl, s1, hD1⟩ (fun i σ H3 hi hP => ?_) (fun σ H' hP => ?_)⟩
    · obtain ⟨v2, v3, rfl, s3, hD3⟩ := hP
      have ei : (0 : Int) + (i : Int) = ((i : Nat) : Int) := Int.zero_add _
      have hti : i < ts.length := by omega
      obtain ⟨b, eb, a, ea, ha⟩ := tt_get pr (List.getElem?_eq_getElem hti)
      have mb := List.mem_of_getElem? eb
      have eti : atI ts ((0 : Int) + (i : Int)) = some (.ref a) := by rw [ei]; exact atI_nat (by rw [List.getElem?_eq_getElem hti, ea])
      refine ⟨_, rfl, t, _, 2, .ref tb, rfl, rfl, .inl (.inl (s3 _ _ ht)), atI_nat (j := 2) rfl, _, rfl, tb, _, _, _, rfl, rfl, .inl (.inl (s3 _ _ htb)), eti, a, rfl, ⟨_, .inl (.inl (s3 _ _ ha))⟩, for_it walk_tup (fun j σ H' => ∃ v3, σ = [some (.ref t), some (.ref D), some (.int (0 + (i : Int))), v3] ∧ Same H H' ∧ H' D = some (.lst (((b.take j).foldl (fun ms p => ms.set p.toNat (i : Int)) (labN bs i N)).map V.int)))
        ⟨v3, rfl, s3, hD3⟩ (fun j σ H' _ ⟨_, _, s', _⟩ => .inl (.inl (s' _ _ ha))) (fun j y σ H6 H7 hj hP hy => ?_) (fun σ H' hP => ?_)⟩
      · obtain ⟨v3, rfl, s5, hD5⟩ := hP
        obtain ⟨e0, hy⟩ := hy
        subst e0
        rw [List.length_map] at hj
        have ez : (b.map V.int)[j]? = some (.int (co b j)) := by rw [List.getElem?_map, co_get hj]; rfl
        obtain rfl : V.int (co b j) = y := Option.some.inj (ez.symm.trans hy)
        obtain ⟨c0, c1⟩ := dg_pt dg mb (co_mem hj)
        have ll : ((b.take j).foldl (fun ms p => ms.set p.toNat (i : Int)) (labN bs i N)).length = N := by
          rw [fold_len]
          unfold labN
          rw [labFrom_len, List.length_replicate]
        refine ⟨_, rfl, _, rfl, _, rfl, D, _, _, (co b j).toNat, rfl, rfl, hD5, (by obtain ⟨u, hu⟩ := Int.eq_ofNat_of_zero_le c0; rw [hu]; exact ixN_nat (by rw [List.length_map, ll]; omega)), ?_⟩
        refine ⟨_, rfl, Same.mut s5 nD0, ?_⟩
        rw [upd_same, ei, map_set, fold_take hj]
      · obtain ⟨v3, rfl, s5, hD5⟩ := hP
        rw [List.length_map, List.take_length] at hD5
        refine ⟨_, _, rfl, s5, ?_⟩
        rw [hD5]
        unfold labN
        rw [List.take_succ, eb, show (some b).toList = [b] from rfl, labFrom_snoc, List.length_take, Nat.min_eq_left (by omega), Nat.zero_add]
    · obtain ⟨v2, v3, rfl, s3, hD3⟩ := hP
      refine ⟨_, rfl, q D H' s3 nD0 ?_⟩
      rw [hD3, eN]
      unfold labN labL
      rw [List.take_length]
      rfl
end

section
variable {P : Program} {w : World} {K : PySem.W.Frag} {mg : Str → Option Value} {base : Heap}
/-! ### _law_belongs -/
def spBelongs : Sp := fun vs H Q _ => ∃ (z : Str) (v : V) (n m : Int) (bs : List (List Int)), vs = [.str z, v] ∧ DGv H v n m bs ∧ z ∈ fams ∧ (∀ b ∈ bs, b ≠ []) ∧ Q (.bl (inFam z n bs)) H
theorem ok_law_belongs {f : Addr} {fd : FuncData} (F : Fun K "_law_belongs" "_law_belongs" s_law_belongs f fd) (z_len : mg "len" = none) (z_int : mg "int" = none) :
    FnOk P w K mg base CX0 1 f fd ["family", "diagram"] spBelongs := by
  refine F.ok sc_law_belongs (fun vs H Q E h => ?_) (fun cdv A outer s H vs Q E hr h => ?_)
  · obtain ⟨z, v, n, m, bs, rfl, _⟩ := h
    rfl
  · obtain ⟨z, v, n, m, bs, rfl, hv, mz, nb, q⟩ := h
    refine ⟨_, (pss_cons (ps_asg (pv 1) (pg_tup rfl (pgs_cons (pg_name (i := 2) sc_law_belongs.nd rfl (.inl rfl)) (pgs_cons (pg_name (i := 3) sc_law_belongs.nd rfl (.inl rfl)) (pgs_cons (pg_name (i := 4) sc_law_belongs.nd rfl (.inl rfl)) pgs_nil)))))
  (pss_cons (ps_for PassesOwn.never rfl (pi_tup (pv 4)) (pg_name (i := 5) sc_law_belongs.nd rfl (.inl rfl)) (Evl.pss_cut (ps_set (i := 6) sc_law_belongs.nd rfl (.inl rfl) (pe_and (pe_cmpR op_eq (pe_callB call_len_seq (by rfl) z_len boot_len (pa_cons (pv 5) pa_nil)) pe_int (nomark _)) (pe_one (pe_chain op_lt op_le (pe_ix ix_tup (pv 5) pe_int (fun _ _ => rfl)) (pv 2) (pe_ix ix_tup (pv 5) pe_int (fun _ _ => rfl))))))
  (Evl.pss_cut (ps_if (L2.PW.pt (pw_or (L2.PW.pt (pw_and (pt_cmpR op_eq (pv 0) pe_str (nomark _)) (pw_and1 (pt_not (pt_truth (pv 6) (by intro _; rfl)))))) (pw_or1 (L2.PW.pt (pw_and (pt_cmpR op_eq (pv 0) pe_str (nomark _)) (pw_and (pt_not (pt_truth (pv 6) (by intro _; rfl))) (pw_and1 (pt_cmpR op_gt (pe_callB call_len_seq (by rfl) z_len boot_len (pa_cons (pv 5) pa_nil)) pe_int (nomark _))))))))) (pss_one (ps_ret pe_bl)) pss_nil)
  (Evl.pss_cut (ps_if (L2.PW.pt (pw_or (L2.PW.pt (pw_and (pt_cmpR op_eq (pv 0) pe_str (nomark _)) (pw_and1 (pt_cmpR op_ne (pe_callB call_len_seq (by rfl) z_len boot_len (pa_cons (pv 5) pa_nil)) pe_int (nomark _))))) (pw_or1 (L2.PW.pt (pw_and (pt_cmpR op_eq (pv 0) pe_str (nomark _)) (pw_and1 (pt_cmpR op_gt (pe_callB call_len_seq (by rfl) z_len boot_len (pa_cons (pv 5) pa_nil)) pe_int (nomark _)))))))) (pss_one (ps_ret pe_bl)) pss_nil)
  (pss_one (ps_if (L2.PW.pt (pw_and (pt_cmpR op_eq (pv 0) pe_str (nomark _)) (pw_and1 (pt_cmpR op_eq (pe_op op_mod (pe_callTy call_int1 (by rfl) z_int boot_int (pa_cons (pe_callB call_len_seq (by rfl) z_len boot_len (pa_cons (pv 5) pa_nil)) pa_nil)) pe_int) pe_int (nomark _))))) (pss_one (ps_ret pe_bl)) pss_nil))))))
  (pss_one (ps_ret pe_bl)))), ?_⟩
    obtain ⟨t, vb, rfl, ht, tb, ts, rfl, htb, pr⟩ := id hv
    refine ⟨_, rfl, t, _, rfl, .inl (.inl ht), rfl, _, _, rfl, _, _, rfl, _, _, rfl, rfl, ?_⟩
    refine ⟨_, rfl, tb, rfl, ⟨_, .inl (.inl htb)⟩, for_it walk_tup (fun i σ H' => ∃ v5 v6 : Option V, σ = [some (.str z), some (.ref t), some (.int n), some (.int m), some (.ref tb), v5, v6] ∧ H' = H ∧ (bs.take i).all (blockOk z n) = true) ⟨none, none, rfl, rfl, rfl⟩ (fun i σ H' _ ⟨_, _, _, e, _⟩ => by rw [e]; exact .inl (.inl htb)) (fun i x σ H1 H2 hi hP hy => ?_) (fun σ H1 hP => ?_)⟩
    · obtain ⟨v5, v6, rfl, rfl, al⟩ := hP
      obtain ⟨rfl, ey⟩ := hy
      obtain ⟨b, eb, u, rfl, hu⟩ := tt_get pr ey
      have et : (bs.take (i + 1)).all (blockOk z n) = blockOk z n b := by
        rw [List.take_succ, eb, List.all_append, al, Bool.true_and]
        exact Bool.and_true _
      have mb := List.mem_of_getElem? eb
      have bad : blockOk z n b = false → inFam z n bs = false := fun h => by
        cases e : inFam z n bs with
        | false => rfl
        | true => exact nomatch h.symm.trans (List.all_eq_true.mp e b mb)
      refine ⟨fun σ H' => σ = [some (.str z), some (.ref t), some (.int n), some (.int m), some (.ref tb), some (.ref u), some (.bl (strandB n b))] ∧ H' = H2, ?_, ?_⟩
      · refine ⟨_, rfl, u, _, rfl, .inr (.inl (.inl hu)), rfl, _, rfl, ?_⟩
        rw [List.length_map]
        by_cases l2 : b.length = 2
        · refine if_pos_of (decide_eq_true (by rw [l2]; rfl)) ?_
          obtain ⟨x, y, rfl⟩ : ∃ x y, b = [x, y] := by
            match b, l2 with
            | [x, y], _ => exact ⟨x, y, rfl⟩
          have es : strandB n [x, y] = (decide (x < n) && decide (n ≤ y)) := by
            show (true && decide (x < n ∧ n ≤ y)) = _
            rw [Bool.true_and, Bool.decide_and]
          rw [es]
          refine ⟨_, rfl, u, _, 0, .int x, rfl, rfl, .inl (.inl hu), atI_nat (j := 0) rfl, _, rfl, _, _, rfl, rfl, _, rfl, ?_⟩
          by_cases c1 : x < n
          · rw [decide_eq_true c1]
            exact iteT ⟨_, rfl, u, _, 1, .int y, rfl, rfl, .inl (.inl hu), atI_nat (j := 1) rfl, _, _, rfl, rfl, rfl, rfl⟩
          · rw [decide_eq_false c1]
            exact iteF ⟨rfl, rfl⟩
        · refine if_neg_of (fun z => l2 (by have := V.int.inj (of_decide_eq_true z); omega)) ⟨?_, rfl⟩
          have : strandB n b = false := by
            unfold strandB
            rw [decide_eq_false l2]
            rfl
          rw [this]
          rfl
      rintro σ H1 ⟨rfl, rfl⟩
      have bOk : ∀ {x : Str}, z = x → blockOk z n b = blockOk x n b := fun e => by rw [e]
      refine ⟨fun σ H' => σ = [some (.str z), some (.ref t), some (.int n), some (.int m), some (.ref tb), some (.ref u), some (.bl (strandB n b))] ∧ H' = H1 ∧ (z = "threads" ∨ z = "loose" → blockOk z n b = true), ?_, ?_⟩
      · have hq : blockOk z n b = false → Q (.bl false) H1 := fun h => by rw [bad h] at q; exact q
        refine ⟨_, rfl, rfl, _, rfl, ?_⟩
        by_cases c1 : z = "threads"
        · refine if_pos_of (decide_eq_true (congrArg V.str c1)) ?_
          have e1 : blockOk z n b = strandB n b := bOk c1
          cases cs : strandB n b with
          | true =>
            refine ⟨_, rfl, true, rfl, if_neg_of Bool.false_ne_true ?_⟩
            refine ⟨_, rfl, rfl, _, rfl, if_neg_of (fun z => by have := V.str.inj (of_decide_eq_true z); rw [c1] at this; exact absurd this (by decide)) (if_neg_of Bool.false_ne_true ⟨rfl, rfl, fun _ => by rw [e1, cs]⟩)⟩
          | false =>
            exact ⟨_, rfl, false, rfl, if_pos_of rfl (iteT (hq (by rw [e1, cs])))⟩
        · refine if_neg_of (fun z => c1 (V.str.inj (of_decide_eq_true z))) (if_neg_of Bool.false_ne_true ?_)
          refine ⟨_, rfl, rfl, _, rfl, ?_⟩
          by_cases c2 : z = "loose"
          · refine if_pos_of (decide_eq_true (congrArg V.str c2)) ?_
            have e1 : blockOk z n b = (decide (b.length = 1) || strandB n b) := bOk c2
            cases cs : strandB n b with
            | true =>
              exact ⟨_, rfl, true, rfl, if_neg_of Bool.false_ne_true (if_neg_of Bool.false_ne_true ⟨rfl, rfl, fun _ => by rw [e1, cs, Bool.or_true]⟩)⟩
            | false =>
              refine ⟨_, rfl, false, rfl, if_pos_of rfl ⟨_, rfl, u, _, rfl, .inr (.inl (.inl hu)), _, _, rfl, rfl, _, rfl, ?_⟩⟩
              rw [List.length_map]
              have bne : b ≠ [] := nb b mb
              have lpos := List.length_pos_iff.mpr bne
              by_cases c3 : b.length = 1
              · exact if_neg_of (fun z => by have := of_decide_eq_true z; omega) ⟨rfl, rfl, fun _ => by rw [e1, decide_eq_true c3]; rfl⟩
              · exact if_pos_of (decide_eq_true (by omega)) (hq (by rw [e1, cs, decide_eq_false c3]; rfl))
          · exact if_neg_of (fun z => c2 (V.str.inj (of_decide_eq_true z))) (if_neg_of Bool.false_ne_true ⟨rfl, rfl, fun h => absurd h (fun h => h.elim c1 c2)⟩)
      rintro σ H1 ⟨rfl, rfl, k1⟩
      have hq : blockOk z n b = false → Q (.bl false) H1 := fun h => by rw [bad h] at q; exact q
      have sz : ∀ {x : Str}, z = x → x ≠ "threads" → x ≠ "loose" → blockOk z n b = sizeOk x b.length := fun {x} e h1 h2 => by
        rw [e]
        unfold blockOk
        rw [if_neg h1, if_neg h2]
      refine ⟨fun σ H' => σ = [some (.str z), some (.ref t), some (.int n), some (.int m), some (.ref tb), some (.ref u), some (.bl (strandB n b))] ∧ H' = H1 ∧ (z ≠ "even" → blockOk z n b = true), ?_, ?_⟩
      · refine ⟨_, rfl, rfl, _, rfl, ?_⟩
        by_cases c1 : z = "pairs"
        · refine if_pos_of (decide_eq_true (congrArg V.str c1)) ?_
          have e1 : blockOk z n b = decide (b.length = 2) := sz c1 (by decide) (by decide)
          refine ⟨_, rfl, u, _, rfl, .inr (.inl (.inl hu)), rfl, _, rfl, ?_⟩
          rw [List.length_map]
          by_cases c3 : b.length = 2
          · refine if_neg_of (by rw [show V.int ((b.length : Nat) : Int) = V.int 2 by rw [c3]; rfl, decide_eq_true rfl]; exact Bool.false_ne_true) ?_
            refine ⟨_, rfl, rfl, _, rfl, if_neg_of (fun z => by have := V.str.inj (of_decide_eq_true z); rw [c1] at this; exact absurd this (by decide)) (if_neg_of Bool.false_ne_true ⟨rfl, rfl, fun _ => by rw [e1, decide_eq_true c3]⟩)⟩
          · exact if_pos_of (by rw [decide_eq_false fun z => c3 (by have := V.int.inj z; omega)]; rfl) (iteT (hq (by rw [e1, decide_eq_false c3])))
        · refine if_neg_of (fun z => c1 (V.str.inj (of_decide_eq_true z))) (if_neg_of Bool.false_ne_true ?_)
          refine ⟨_, rfl, rfl, _, rfl, ?_⟩
          by_cases c2 : z = "lonepairs"
          · refine if_pos_of (decide_eq_true (congrArg V.str c2)) ?_
            have e1 : blockOk z n b = decide (b.length ≤ 2) := sz c2 (by decide) (by decide)
            refine ⟨_, rfl, u, _, rfl, .inr (.inl (.inl hu)), _, _, rfl, rfl, _, rfl, ?_⟩
            rw [List.length_map]
            by_cases c3 : b.length ≤ 2
            · exact if_neg_of (fun z => by have := of_decide_eq_true z; omega) ⟨rfl, rfl, fun _ => by rw [e1, decide_eq_true c3]⟩
            · exact if_pos_of (decide_eq_true (by omega)) (hq (by rw [e1, decide_eq_false c3]))
          · refine if_neg_of (fun z => c2 (V.str.inj (of_decide_eq_true z))) (if_neg_of Bool.false_ne_true ⟨rfl, rfl, fun ne => ?_⟩)
            by_cases c3 : z = "threads" ∨ z = "loose"
            · exact k1 c3
            · have : z = "parts" := by
                unfold fams at mz
                simp only [List.mem_cons, List.not_mem_nil, or_false] at mz
                rcases mz with h | h | h | h | h | h
                · exact absurd (.inl h) c3
                · exact absurd (.inr h) c3
                · exact absurd h c1
                · exact absurd h c2
                · exact absurd h ne
                · exact h
              rw [sz this (by decide) (by decide)]
              rfl
      clear k1
      rintro σ H1 ⟨rfl, rfl, k1⟩
      have fin : blockOk z n b = true → (bs.take (i + 1)).all (blockOk z n) = true := fun h => by rw [et]; exact h
      refine ⟨_, rfl, rfl, _, rfl, ?_⟩
      by_cases c1 : z = "even"
      · refine if_pos_of (decide_eq_true (congrArg V.str c1)) ?_
        have e1 : blockOk z n b = decide (b.length % 2 = 0) := sz c1 (by decide) (by decide)
        refine ⟨_, rfl, u, _, rfl, .inr (.inl (.inl hu)), .inl ⟨_, rfl, _, 2, rfl, rfl, (show (0 : Int) < 2 by decide), rfl, _, rfl, ?_⟩⟩
        rw [List.length_map]
        by_cases c3 : b.length % 2 = 0
        · exact if_neg_of (fun z => by have := V.int.inj (of_decide_eq_true z); omega) ⟨_, _, rfl, rfl, fin (by rw [e1, decide_eq_true c3])⟩
        · exact if_pos_of (decide_eq_true (congrArg V.int (show ((b.length : Nat) : Int) % 2 = 1 by omega))) (hq (by rw [e1, decide_eq_false c3]))
      · exact if_neg_of (fun z => c1 (V.str.inj (of_decide_eq_true z))) (if_neg_of Bool.false_ne_true ⟨_, _, rfl, rfl, fin (k1 c1)⟩)
    · obtain ⟨v5, v6, rfl, rfl, al⟩ := hP
      rw [pr.length, List.take_length] at al
      have : inFam z n bs = true := al
      rw [this] at q
      exact q
end

section
variable {P : Program} {w : World} {K : PySem.W.Frag} {mg : Str → Option Value} {base : Heap}
/-! ### _law_error -/
theorem fl_pos {z x : Str} {l : List Str} (h : x = z) : ((l ++ [x]).filter fun t => decide (t = z)).map V.str = (l.filter fun t => decide (t = z)).map V.str ++ [.str x] := by
  rw [List.filter_append, List.map_append, List.filter_cons, decide_eq_true h]
  rfl
theorem fl_neg {z x : Str} {l : List Str} (h : x ≠ z) : ((l ++ [x]).filter fun t => decide (t = z)).map V.str = (l.filter fun t => decide (t = z)).map V.str := by
  rw [List.filter_append, List.filter_cons, decide_eq_false h]
  exact congrArg _ (List.append_nil _)
theorem fl_len (z : Str) (l : List Str) : ((l.filter fun t => decide (t = z)).map V.str).length ≤ l.length := by
  rw [List.length_map]
  exact List.length_filter_le _ _
/-- what an error class must say here: its name is z -/
structure KindE (K : PySem.W.Frag) (CE X_NotWorld CF CD X_NotNumber CWd X_NotMatrix CB X_NoAnswer CT CM D : Addr) (z : Str) : Prop where
  C : ExcC K D
  e : PySem.W.kitOne K (.ref D) (.ref CE) = some true
  n : z ∈ (["world", "family", "diagram", "value", "word", "matrix", "number", "answer", "large"] : List Str)
  k0 : PySem.W.kitOne K (.ref D) (.ref X_NotWorld) = some (decide (("world" : Str) = z))
  k1 : PySem.W.kitOne K (.ref D) (.ref CF) = some (decide (("family" : Str) = z))
  k2 : PySem.W.kitOne K (.ref D) (.ref CD) = some (decide (("diagram" : Str) = z))
  k3 : PySem.W.kitOne K (.ref D) (.ref X_NotNumber) = some (decide (("value" : Str) = z))
  k4 : PySem.W.kitOne K (.ref D) (.ref CWd) = some (decide (("word" : Str) = z))
  k5 : PySem.W.kitOne K (.ref D) (.ref X_NotMatrix) = some (decide (("matrix" : Str) = z))
  k6 : PySem.W.kitOne K (.ref D) (.ref CB) = some (decide (("number" : Str) = z))
  k7 : PySem.W.kitOne K (.ref D) (.ref X_NoAnswer) = some (decide (("answer" : Str) = z))
  k8 : PySem.W.kitOne K (.ref D) (.ref CT) = some (decide (("large" : Str) = z))
  k9 : PySem.W.kitOne K (.ref D) (.ref CM) = some false
/-- Malformed -/
structure KindM (K : PySem.W.Frag) (CE X_NotWorld CF CD X_NotNumber CWd X_NotMatrix CB X_NoAnswer CT CM : Addr) : Prop where
  C : ExcC K CM
  e : PySem.W.kitOne K (.ref CM) (.ref CE) = some true
  k0 : PySem.W.kitOne K (.ref CM) (.ref X_NotWorld) = some false
  k1 : PySem.W.kitOne K (.ref CM) (.ref CF) = some false
  k2 : PySem.W.kitOne K (.ref CM) (.ref CD) = some false
  k3 : PySem.W.kitOne K (.ref CM) (.ref X_NotNumber) = some false
  k4 : PySem.W.kitOne K (.ref CM) (.ref CWd) = some false
  k5 : PySem.W.kitOne K (.ref CM) (.ref X_NotMatrix) = some false
  k6 : PySem.W.kitOne K (.ref CM) (.ref CB) = some false
  k7 : PySem.W.kitOne K (.ref CM) (.ref X_NoAnswer) = some false
  k8 : PySem.W.kitOne K (.ref CM) (.ref CT) = some false
  k9 : PySem.W.kitOne K (.ref CM) (.ref CM) = some true
def txI (i : Int) : Str := Str.ofString (toString i)
def spLErr (K : PySem.W.Frag) (CE X_NotWorld CF CD X_NotNumber CWd X_NotMatrix CB X_NoAnswer CT CM : Addr) : Addr → Value → Option Addr → Sp := fun a cls d vs H Q _ => vs = [.ref a] ∧ ((∃ D z, cls = .ref D ∧ d = none ∧ KindE K CE X_NotWorld CF CD X_NotNumber CWd X_NotMatrix CB X_NoAnswer CT CM D z ∧ ∀ H', Same H H' → Q (.str (("!" : Str) ++ z)) H') ∨
  ∃ (dd : Addr) (fs : List (Str × V)) (at' : Int), cls = .ref CM ∧ d = some dd ∧ H dd = some (.xd fs) ∧ fs.lookup ("at" : Str) = some (.int at') ∧ at'.natAbs.log2 < 1920 ∧ (txI at').length ≤ 10000 ∧ KindM K CE X_NotWorld CF CD X_NotNumber CWd X_NotMatrix CB X_NoAnswer CT CM ∧ ∀ H', Same H H' → Q (.str (("!" : Str) ++ (("at " : Str) ++ txI at'))) H')
theorem ok_law_error {f fI CE X_NotWorld CF CD X_NotNumber CWd X_NotMatrix CB X_NoAnswer CT CM : Addr} {fd : FuncData} (F : Fun K "_law_error" "_law_error" s_law_error f fd) (m_WorthError : mg "WorthError" = some (.ref CE)) (m_NotWorld : mg "NotWorld" = some (.ref X_NotWorld)) (m_NotFamily : mg "NotFamily" = some (.ref CF)) (m_NotDiagram : mg "NotDiagram" = some (.ref CD)) (m_NotNumber : mg "NotNumber" = some (.ref X_NotNumber)) (m_NotWord : mg "NotWord" = some (.ref CWd)) (m_NotMatrix : mg "NotMatrix" = some (.ref X_NotMatrix)) (m_BadNumber : mg "BadNumber" = some (.ref CB)) (m_NoAnswer : mg "NoAnswer" = some (.ref X_NoAnswer)) (m_TooLarge : mg "TooLarge" = some (.ref CT)) (m_Malformed : mg "Malformed" = some (.ref CM)) (OX_Malformed : MalC K mg CM fI) (XM : XfC K CM) (z_isinstance : mg "isinstance" = none) (z_len : mg "len" = none) (z_str : mg "str" = none) :
    FnE P w K mg base 1 f fd ["error"] (spLErr K CE X_NotWorld CF CD X_NotNumber CWd X_NotMatrix CB X_NoAnswer CT CM) := by
  have r_WorthError : RelV (.ref CE) (.ref CE) := rfl
  have r_NotWorld : RelV (.ref X_NotWorld) (.ref X_NotWorld) := rfl
  have r_NotFamily : RelV (.ref CF) (.ref CF) := rfl
  have r_NotDiagram : RelV (.ref CD) (.ref CD) := rfl
  have r_NotNumber : RelV (.ref X_NotNumber) (.ref X_NotNumber) := rfl
  have r_NotWord : RelV (.ref CWd) (.ref CWd) := rfl
  have r_NotMatrix : RelV (.ref X_NotMatrix) (.ref X_NotMatrix) := rfl
  have r_BadNumber : RelV (.ref CB) (.ref CB) := rfl
  have r_NoAnswer : RelV (.ref X_NoAnswer) (.ref X_NoAnswer) := rfl
  have r_TooLarge : RelV (.ref CT) (.ref CT) := rfl
  have r_Malformed : RelV (.ref CM) (.ref CM) := rfl
  refine F.okE sc_law_error (fun a cls d vs H Q E h => h.1 ▸ rfl) (fun cdv A outer s H vs Q E a oe cls d hz hf hr h => ?_)
  obtain ⟨rfl, h⟩ := h
  refine ⟨_, (pss_cons (ps_set (i := 1) sc_law_error.nd rfl (.inl rfl) (pe_lst pa_nil))
  (Evl.pss_cut (ps_if (pt_val (pe_callB (call_isEHQ hz hf) (by rfl) z_isinstance boot_isinstance (pa_cons (pv 0) (pa_cons (pe_glob rfl m_NotWorld r_NotWorld) pa_nil)))) (pss_one (ps_expr (pe_bm PySem.F.plainAttrs_list PySem.F.slot_list_append PySem.F.type_list_append mt_append (pv 1) (pa_cons pe_str pa_nil)))) pss_nil)
  (Evl.pss_cut (ps_if (pt_val (pe_callB (call_isEHQ hz hf) (by rfl) z_isinstance boot_isinstance (pa_cons (pv 0) (pa_cons (pe_glob rfl m_NotFamily r_NotFamily) pa_nil)))) (pss_one (ps_expr (pe_bm PySem.F.plainAttrs_list PySem.F.slot_list_append PySem.F.type_list_append mt_append (pv 1) (pa_cons pe_str pa_nil)))) pss_nil)
  (Evl.pss_cut (ps_if (pt_val (pe_callB (call_isEHQ hz hf) (by rfl) z_isinstance boot_isinstance (pa_cons (pv 0) (pa_cons (pe_glob rfl m_NotDiagram r_NotDiagram) pa_nil)))) (pss_one (ps_expr (pe_bm PySem.F.plainAttrs_list PySem.F.slot_list_append PySem.F.type_list_append mt_append (pv 1) (pa_cons pe_str pa_nil)))) pss_nil)
  (Evl.pss_cut (ps_if (pt_val (pe_callB (call_isEHQ hz hf) (by rfl) z_isinstance boot_isinstance (pa_cons (pv 0) (pa_cons (pe_glob rfl m_NotNumber r_NotNumber) pa_nil)))) (pss_one (ps_expr (pe_bm PySem.F.plainAttrs_list PySem.F.slot_list_append PySem.F.type_list_append mt_append (pv 1) (pa_cons pe_str pa_nil)))) pss_nil)
  (Evl.pss_cut (ps_if (pt_val (pe_callB (call_isEHQ hz hf) (by rfl) z_isinstance boot_isinstance (pa_cons (pv 0) (pa_cons (pe_glob rfl m_NotWord r_NotWord) pa_nil)))) (pss_one (ps_expr (pe_bm PySem.F.plainAttrs_list PySem.F.slot_list_append PySem.F.type_list_append mt_append (pv 1) (pa_cons pe_str pa_nil)))) pss_nil)
  (Evl.pss_cut (ps_if (pt_val (pe_callB (call_isEHQ hz hf) (by rfl) z_isinstance boot_isinstance (pa_cons (pv 0) (pa_cons (pe_glob rfl m_NotMatrix r_NotMatrix) pa_nil)))) (pss_one (ps_expr (pe_bm PySem.F.plainAttrs_list PySem.F.slot_list_append PySem.F.type_list_append mt_append (pv 1) (pa_cons pe_str pa_nil)))) pss_nil)
  (Evl.pss_cut (ps_if (pt_val (pe_callB (call_isEHQ hz hf) (by rfl) z_isinstance boot_isinstance (pa_cons (pv 0) (pa_cons (pe_glob rfl m_BadNumber r_BadNumber) pa_nil)))) (pss_one (ps_expr (pe_bm PySem.F.plainAttrs_list PySem.F.slot_list_append PySem.F.type_list_append mt_append (pv 1) (pa_cons pe_str pa_nil)))) pss_nil)
  (Evl.pss_cut (ps_if (pt_val (pe_callB (call_isEHQ hz hf) (by rfl) z_isinstance boot_isinstance (pa_cons (pv 0) (pa_cons (pe_glob rfl m_NoAnswer r_NoAnswer) pa_nil)))) (pss_one (ps_expr (pe_bm PySem.F.plainAttrs_list PySem.F.slot_list_append PySem.F.type_list_append mt_append (pv 1) (pa_cons pe_str pa_nil)))) pss_nil)
  (Evl.pss_cut (ps_if (pt_val (pe_callB (call_isEHQ hz hf) (by rfl) z_isinstance boot_isinstance (pa_cons (pv 0) (pa_cons (pe_glob rfl m_TooLarge r_TooLarge) pa_nil)))) (pss_one (ps_expr (pe_bm PySem.F.plainAttrs_list PySem.F.slot_list_append PySem.F.type_list_append mt_append (pv 1) (pa_cons pe_str pa_nil)))) pss_nil)
  (Evl.pss_cut (ps_if (pt_val (pe_callB (call_isEHQ hz hf) (by rfl) z_isinstance boot_isinstance (pa_cons (pv 0) (pa_cons (pe_glob rfl m_Malformed r_Malformed) pa_nil)))) (pss_one (ps_expr (pe_bm PySem.F.plainAttrs_list PySem.F.slot_list_append PySem.F.type_list_append mt_append (pv 1) (pa_cons (pe_op op_add_str pe_str (pe_callTy call_str_int (by rfl) z_str boot_str (pa_cons (L2.pe_xfP List.mem_cons_self XM OX_Malformed.na hz hf (pv 0)) pa_nil))) pa_nil)))) pss_nil)
  (pss_cons (ps_if (L2.PW.pt (pw_and (pt_cmpR op_eq (pe_callB call_len_seq (by rfl) z_len boot_len (pa_cons (pv 1) pa_nil)) pe_int (nomark _)) (pw_and1 (pt_val (pe_callB (call_isEHQ hz hf) (by rfl) z_isinstance boot_isinstance (pa_cons (pv 0) (pa_cons (pe_glob rfl m_WorthError r_WorthError) pa_nil))))))) (pss_one (ps_ret (pe_op op_add_str pe_str (pe_ix ix_list (pv 1) pe_int (fun _ _ => rfl))))) pss_nil)
  (pss_one (ps_ret pe_str)))))))))))))), ?_⟩
  have szl : 20000 ≤ sizeLine := by decide
  refine ⟨(by show 0 ≤ sizeLine; decide), fun L nL => ?_⟩
  rcases h with ⟨D, z, rfl, rfl, k, q⟩ | ⟨dd, fs, at', rfl, rfl, hfs, lk, lg, ltx, k, q⟩
  · have st0 : Same H (upd H L (.lst [])) ∧ upd H L (.lst []) L = some (.lst ((([] : List Str).filter fun t => decide (t = z)).map V.str)) := ⟨same_upd nL, upd_same⟩
    revert st0
    generalize upd H L (.lst []) = H0
    intro st0
    refine ⟨fun σ H' => σ = [some (.ref a), some (.ref L)] ∧ Same H H' ∧ H' L = some (.lst (((["world"] : List Str).filter fun t => decide (t = z)).map V.str)), ?_, ?_⟩
    · refine ⟨_, rfl, .inl ⟨D, rfl, rfl, k.C, .ref X_NotWorld, .ref X_NotWorld, _, rfl, fun _ r => r, k.k0, _, rfl, ?_⟩⟩
      by_cases c : ("world" : Str) = z
      · refine if_pos_of (decide_eq_true c) ⟨_, rfl, .inl ⟨rfl, _, .inl (.inl st0.2)⟩, L, _, _, rfl, rfl, st0.2, Nat.lt_of_le_of_lt (fl_len z ([] : List Str)) (Nat.lt_of_lt_of_le (by decide : ([] : List Str).length < 20) (by omega)), ?_⟩
        refine ⟨rfl, Same.mut st0.1 nL, ?_⟩
        rw [show (["world"] : List Str) = ([] : List Str) ++ (["world"] : List Str) from rfl, fl_pos c]
        exact upd_same
      · refine if_neg_of (fun h => c (of_decide_eq_true h)) ⟨rfl, st0.1, ?_⟩
        rw [show (["world"] : List Str) = ([] : List Str) ++ (["world"] : List Str) from rfl, fl_neg c]
        exact st0.2
    clear st0
    rintro σ H1 ⟨rfl, st0⟩
    refine ⟨fun σ H' => σ = [some (.ref a), some (.ref L)] ∧ Same H H' ∧ H' L = some (.lst (((["world", "family"] : List Str).filter fun t => decide (t = z)).map V.str)), ?_, ?_⟩
    · refine ⟨_, rfl, .inl ⟨D, rfl, rfl, k.C, .ref CF, .ref CF, _, rfl, fun _ r => r, k.k1, _, rfl, ?_⟩⟩
      by_cases c : ("family" : Str) = z
      · refine if_pos_of (decide_eq_true c) ⟨_, rfl, .inl ⟨rfl, _, .inl (.inl st0.2)⟩, L, _, _, rfl, rfl, st0.2, Nat.lt_of_le_of_lt (fl_len z (["world"] : List Str)) (Nat.lt_of_lt_of_le (by decide : (["world"] : List Str).length < 20) (by omega)), ?_⟩
        refine ⟨rfl, Same.mut st0.1 nL, ?_⟩
        rw [show (["world", "family"] : List Str) = (["world"] : List Str) ++ (["family"] : List Str) from rfl, fl_pos c]
        exact upd_same
      · refine if_neg_of (fun h => c (of_decide_eq_true h)) ⟨rfl, st0.1, ?_⟩
        rw [show (["world", "family"] : List Str) = (["world"] : List Str) ++ (["family"] : List Str) from rfl, fl_neg c]
        exact st0.2
    clear st0
    rintro σ H2 ⟨rfl, st0⟩
    refine ⟨fun σ H' => σ = [some (.ref a), some (.ref L)] ∧ Same H H' ∧ H' L = some (.lst (((["world", "family", "diagram"] : List Str).filter fun t => decide (t = z)).map V.str)), ?_, ?_⟩
    · refine ⟨_, rfl, .inl ⟨D, rfl, rfl, k.C, .ref CD, .ref CD, _, rfl, fun _ r => r, k.k2, _, rfl, ?_⟩⟩
      by_cases c : ("diagram" : Str) = z
      · refine if_pos_of (decide_eq_true c) ⟨_, rfl, .inl ⟨rfl, _, .inl (.inl st0.2)⟩, L, _, _, rfl, rfl, st0.2, Nat.lt_of_le_of_lt (fl_len z (["world", "family"] : List Str)) (Nat.lt_of_lt_of_le (by decide : (["world", "family"] : List Str).length < 20) (by omega)), ?_⟩
        refine ⟨rfl, Same.mut st0.1 nL, ?_⟩
        rw [show (["world", "family", "diagram"] : List Str) = (["world", "family"] : List Str) ++ (["diagram"] : List Str) from rfl, fl_pos c]
        exact upd_same
      · refine if_neg_of (fun h => c (of_decide_eq_true h)) ⟨rfl, st0.1, ?_⟩
        rw [show (["world", "family", "diagram"] : List Str) = (["world", "family"] : List Str) ++ (["diagram"] : List Str) from rfl, fl_neg c]
        exact st0.2
    clear st0
    rintro σ H3 ⟨rfl, st0⟩
    refine ⟨fun σ H' => σ = [some (.ref a), some (.ref L)] ∧ Same H H' ∧ H' L = some (.lst (((["world", "family", "diagram", "value"] : List Str).filter fun t => decide (t = z)).map V.str)), ?_, ?_⟩
    · refine ⟨_, rfl, .inl ⟨D, rfl, rfl, k.C, .ref X_NotNumber, .ref X_NotNumber, _, rfl, fun _ r => r, k.k3, _, rfl, ?_⟩⟩
      by_cases c : ("value" : Str) = z
      · refine if_pos_of (decide_eq_true c) ⟨_, rfl, .inl ⟨rfl, _, .inl (.inl st0.2)⟩, L, _, _, rfl, rfl, st0.2, Nat.lt_of_le_of_lt (fl_len z (["world", "family", "diagram"] : List Str)) (Nat.lt_of_lt_of_le (by decide : (["world", "family", "diagram"] : List Str).length < 20) (by omega)), ?_⟩
        refine ⟨rfl, Same.mut st0.1 nL, ?_⟩
        rw [show (["world", "family", "diagram", "value"] : List Str) = (["world", "family", "diagram"] : List Str) ++ (["value"] : List Str) from rfl, fl_pos c]
        exact upd_same
      · refine if_neg_of (fun h => c (of_decide_eq_true h)) ⟨rfl, st0.1, ?_⟩
        rw [show (["world", "family", "diagram", "value"] : List Str) = (["world", "family", "diagram"] : List Str) ++ (["value"] : List Str) from rfl, fl_neg c]
        exact st0.2
    clear st0
    rintro σ H4 ⟨rfl, st0⟩
    refine ⟨fun σ H' => σ = [some (.ref a), some (.ref L)] ∧ Same H H' ∧ H' L = some (.lst (((["world", "family", "diagram", "value", "word"] : List Str).filter fun t => decide (t = z)).map V.str)), ?_, ?_⟩
    · refine ⟨_, rfl, .inl ⟨D, rfl, rfl, k.C, .ref CWd, .ref CWd, _, rfl, fun _ r => r, k.k4, _, rfl, ?_⟩⟩
      by_cases c : ("word" : Str) = z
      · refine if_pos_of (decide_eq_true c) ⟨_, rfl, .inl ⟨rfl, _, .inl (.inl st0.2)⟩, L, _, _, rfl, rfl, st0.2, Nat.lt_of_le_of_lt (fl_len z (["world", "family", "diagram", "value"] : List Str)) (Nat.lt_of_lt_of_le (by decide : (["world", "family", "diagram", "value"] : List Str).length < 20) (by omega)), ?_⟩
        refine ⟨rfl, Same.mut st0.1 nL, ?_⟩
        rw [show (["world", "family", "diagram", "value", "word"] : List Str) = (["world", "family", "diagram", "value"] : List Str) ++ (["word"] : List Str) from rfl, fl_pos c]
        exact upd_same
      · refine if_neg_of (fun h => c (of_decide_eq_true h)) ⟨rfl, st0.1, ?_⟩
        rw [show (["world", "family", "diagram", "value", "word"] : List Str) = (["world", "family", "diagram", "value"] : List Str) ++ (["word"] : List Str) from rfl, fl_neg c]
        exact st0.2
    clear st0
    rintro σ H5 ⟨rfl, st0⟩
    refine ⟨fun σ H' => σ = [some (.ref a), some (.ref L)] ∧ Same H H' ∧ H' L = some (.lst (((["world", "family", "diagram", "value", "word", "matrix"] : List Str).filter fun t => decide (t = z)).map V.str)), ?_, ?_⟩
    · refine ⟨_, rfl, .inl ⟨D, rfl, rfl, k.C, .ref X_NotMatrix, .ref X_NotMatrix, _, rfl, fun _ r => r, k.k5, _, rfl, ?_⟩⟩
      by_cases c : ("matrix" : Str) = z
      · refine if_pos_of (decide_eq_true c) ⟨_, rfl, .inl ⟨rfl, _, .inl (.inl st0.2)⟩, L, _, _, rfl, rfl, st0.2, Nat.lt_of_le_of_lt (fl_len z (["world", "family", "diagram", "value", "word"] : List Str)) (Nat.lt_of_lt_of_le (by decide : (["world", "family", "diagram", "value", "word"] : List Str).length < 20) (by omega)), ?_⟩
        refine ⟨rfl, Same.mut st0.1 nL, ?_⟩
        rw [show (["world", "family", "diagram", "value", "word", "matrix"] : List Str) = (["world", "family", "diagram", "value", "word"] : List Str) ++ (["matrix"] : List Str) from rfl, fl_pos c]
        exact upd_same
      · refine if_neg_of (fun h => c (of_decide_eq_true h)) ⟨rfl, st0.1, ?_⟩
        rw [show (["world", "family", "diagram", "value", "word", "matrix"] : List Str) = (["world", "family", "diagram", "value", "word"] : List Str) ++ (["matrix"] : List Str) from rfl, fl_neg c]
        exact st0.2
    clear st0
    rintro σ H6 ⟨rfl, st0⟩
    refine ⟨fun σ H' => σ = [some (.ref a), some (.ref L)] ∧ Same H H' ∧ H' L = some (.lst (((["world", "family", "diagram", "value", "word", "matrix", "number"] : List Str).filter fun t => decide (t = z)).map V.str)), ?_, ?_⟩
    · refine ⟨_, rfl, .inl ⟨D, rfl, rfl, k.C, .ref CB, .ref CB, _, rfl, fun _ r => r, k.k6, _, rfl, ?_⟩⟩
      by_cases c : ("number" : Str) = z
      · refine if_pos_of (decide_eq_true c) ⟨_, rfl, .inl ⟨rfl, _, .inl (.inl st0.2)⟩, L, _, _, rfl, rfl, st0.2, Nat.lt_of_le_of_lt (fl_len z (["world", "family", "diagram", "value", "word", "matrix"] : List Str)) (Nat.lt_of_lt_of_le (by decide : (["world", "family", "diagram", "value", "word", "matrix"] : List Str).length < 20) (by omega)), ?_⟩
        refine ⟨rfl, Same.mut st0.1 nL, ?_⟩
        rw [show (["world", "family", "diagram", "value", "word", "matrix", "number"] : List Str) = (["world", "family", "diagram", "value", "word", "matrix"] : List Str) ++ (["number"] : List Str) from rfl, fl_pos c]
        exact upd_same
      · refine if_neg_of (fun h => c (of_decide_eq_true h)) ⟨rfl, st0.1, ?_⟩
        rw [show (["world", "family", "diagram", "value", "word", "matrix", "number"] : List Str) = (["world", "family", "diagram", "value", "word", "matrix"] : List Str) ++ (["number"] : List Str) from rfl, fl_neg c]
        exact st0.2
    clear st0
    rintro σ H7 ⟨rfl, st0⟩
    refine ⟨fun σ H' => σ = [some (.ref a), some (.ref L)] ∧ Same H H' ∧ H' L = some (.lst (((["world", "family", "diagram", "value", "word", "matrix", "number", "answer"] : List Str).filter fun t => decide (t = z)).map V.str)), ?_, ?_⟩
    · refine ⟨_, rfl, .inl ⟨D, rfl, rfl, k.C, .ref X_NoAnswer, .ref X_NoAnswer, _, rfl, fun _ r => r, k.k7, _, rfl, ?_⟩⟩
      by_cases c : ("answer" : Str) = z
      · refine if_pos_of (decide_eq_true c) ⟨_, rfl, .inl ⟨rfl, _, .inl (.inl st0.2)⟩, L, _, _, rfl, rfl, st0.2, Nat.lt_of_le_of_lt (fl_len z (["world", "family", "diagram", "value", "word", "matrix", "number"] : List Str)) (Nat.lt_of_lt_of_le (by decide : (["world", "family", "diagram", "value", "word", "matrix", "number"] : List Str).length < 20) (by omega)), ?_⟩
        refine ⟨rfl, Same.mut st0.1 nL, ?_⟩
        rw [show (["world", "family", "diagram", "value", "word", "matrix", "number", "answer"] : List Str) = (["world", "family", "diagram", "value", "word", "matrix", "number"] : List Str) ++ (["answer"] : List Str) from rfl, fl_pos c]
        exact upd_same
      · refine if_neg_of (fun h => c (of_decide_eq_true h)) ⟨rfl, st0.1, ?_⟩
        rw [show (["world", "family", "diagram", "value", "word", "matrix", "number", "answer"] : List Str) = (["world", "family", "diagram", "value", "word", "matrix", "number"] : List Str) ++ (["answer"] : List Str) from rfl, fl_neg c]
        exact st0.2
    clear st0
    rintro σ H8 ⟨rfl, st0⟩
    refine ⟨fun σ H' => σ = [some (.ref a), some (.ref L)] ∧ Same H H' ∧ H' L = some (.lst (((["world", "family", "diagram", "value", "word", "matrix", "number", "answer", "large"] : List Str).filter fun t => decide (t = z)).map V.str)), ?_, ?_⟩
    · refine ⟨_, rfl, .inl ⟨D, rfl, rfl, k.C, .ref CT, .ref CT, _, rfl, fun _ r => r, k.k8, _, rfl, ?_⟩⟩
      by_cases c : ("large" : Str) = z
      · refine if_pos_of (decide_eq_true c) ⟨_, rfl, .inl ⟨rfl, _, .inl (.inl st0.2)⟩, L, _, _, rfl, rfl, st0.2, Nat.lt_of_le_of_lt (fl_len z (["world", "family", "diagram", "value", "word", "matrix", "number", "answer"] : List Str)) (Nat.lt_of_lt_of_le (by decide : (["world", "family", "diagram", "value", "word", "matrix", "number", "answer"] : List Str).length < 20) (by omega)), ?_⟩
        refine ⟨rfl, Same.mut st0.1 nL, ?_⟩
        rw [show (["world", "family", "diagram", "value", "word", "matrix", "number", "answer", "large"] : List Str) = (["world", "family", "diagram", "value", "word", "matrix", "number", "answer"] : List Str) ++ (["large"] : List Str) from rfl, fl_pos c]
        exact upd_same
      · refine if_neg_of (fun h => c (of_decide_eq_true h)) ⟨rfl, st0.1, ?_⟩
        rw [show (["world", "family", "diagram", "value", "word", "matrix", "number", "answer", "large"] : List Str) = (["world", "family", "diagram", "value", "word", "matrix", "number", "answer"] : List Str) ++ (["large"] : List Str) from rfl, fl_neg c]
        exact st0.2
    clear st0
    rintro σ H9 ⟨rfl, st0⟩
    refine ⟨fun σ H' => σ = [some (.ref a), some (.ref L)] ∧ Same H H' ∧ H' L = some (.lst (((["world", "family", "diagram", "value", "word", "matrix", "number", "answer", "large"] : List Str).filter fun t => decide (t = z)).map V.str)), ?_, ?_⟩
    · refine ⟨_, rfl, .inl ⟨D, rfl, rfl, k.C, .ref CM, .ref CM, _, rfl, fun _ r => r, k.k9, _, rfl, ?_⟩⟩
      exact if_neg_of Bool.false_ne_true ⟨rfl, st0⟩
    clear st0
    rintro σ H10 ⟨rfl, st0⟩
    have e1 : ((["world", "family", "diagram", "value", "word", "matrix", "number", "answer", "large"] : List Str).filter fun t => decide (t = z)) = [z] := by
      have n := k.n
      simp only [List.mem_cons, List.not_mem_nil, or_false] at n
      rcases n with rfl | rfl | rfl | rfl | rfl | rfl | rfl | rfl | rfl <;> decide
    rw [e1] at st0
    have zl : z.length ≤ 20 := by
      have n := k.n
      simp only [List.mem_cons, List.not_mem_nil, or_false] at n
      rcases n with rfl | rfl | rfl | rfl | rfl | rfl | rfl | rfl | rfl <;> decide
    refine ⟨_, rfl, L, _, rfl, .inl (.inl (.inl st0.2)), rfl, _, rfl, if_pos_of rfl ⟨_, rfl, .inl ⟨D, rfl, rfl, k.C, .ref CE, .ref CE, true, rfl, fun _ r => r, k.e, _, rfl, if_pos_of rfl ?_⟩⟩⟩
    exact ⟨_, rfl, L, _, 0, .str z, rfl, rfl, .inl (.inl st0.2), rfl, "!", z, rfl, rfl, Nat.le_trans (Nat.add_le_add_left zl _) (Nat.le_trans (by decide) szl), q _ st0.1⟩
  · have st0 : Same H (upd H L (.lst [])) ∧ upd H L (.lst []) L = some (.lst []) := ⟨same_upd nL, upd_same⟩
    revert st0
    generalize upd H L (.lst []) = H0
    intro st0
    refine ⟨fun σ H' => σ = [some (.ref a), some (.ref L)] ∧ Same H H' ∧ H' L = some (.lst []), ?_, ?_⟩
    · exact ⟨_, rfl, .inr ⟨CM, dd, fs, .ref X_NotWorld, .ref X_NotWorld, _, rfl, rfl, st0.1 _ _ hfs, k.C, rfl, fun _ r => r, k.k0, _, rfl, if_neg_of Bool.false_ne_true ⟨rfl, st0⟩⟩⟩
    clear st0
    rintro σ H1 ⟨rfl, st0⟩
    refine ⟨fun σ H' => σ = [some (.ref a), some (.ref L)] ∧ Same H H' ∧ H' L = some (.lst []), ?_, ?_⟩
    · exact ⟨_, rfl, .inr ⟨CM, dd, fs, .ref CF, .ref CF, _, rfl, rfl, st0.1 _ _ hfs, k.C, rfl, fun _ r => r, k.k1, _, rfl, if_neg_of Bool.false_ne_true ⟨rfl, st0⟩⟩⟩
    clear st0
    rintro σ H2 ⟨rfl, st0⟩
    refine ⟨fun σ H' => σ = [some (.ref a), some (.ref L)] ∧ Same H H' ∧ H' L = some (.lst []), ?_, ?_⟩
    · exact ⟨_, rfl, .inr ⟨CM, dd, fs, .ref CD, .ref CD, _, rfl, rfl, st0.1 _ _ hfs, k.C, rfl, fun _ r => r, k.k2, _, rfl, if_neg_of Bool.false_ne_true ⟨rfl, st0⟩⟩⟩
    clear st0
    rintro σ H3 ⟨rfl, st0⟩
    refine ⟨fun σ H' => σ = [some (.ref a), some (.ref L)] ∧ Same H H' ∧ H' L = some (.lst []), ?_, ?_⟩
    · exact ⟨_, rfl, .inr ⟨CM, dd, fs, .ref X_NotNumber, .ref X_NotNumber, _, rfl, rfl, st0.1 _ _ hfs, k.C, rfl, fun _ r => r, k.k3, _, rfl, if_neg_of Bool.false_ne_true ⟨rfl, st0⟩⟩⟩
    clear st0
    rintro σ H4 ⟨rfl, st0⟩
    refine ⟨fun σ H' => σ = [some (.ref a), some (.ref L)] ∧ Same H H' ∧ H' L = some (.lst []), ?_, ?_⟩
    · exact ⟨_, rfl, .inr ⟨CM, dd, fs, .ref CWd, .ref CWd, _, rfl, rfl, st0.1 _ _ hfs, k.C, rfl, fun _ r => r, k.k4, _, rfl, if_neg_of Bool.false_ne_true ⟨rfl, st0⟩⟩⟩
    clear st0
    rintro σ H5 ⟨rfl, st0⟩
    refine ⟨fun σ H' => σ = [some (.ref a), some (.ref L)] ∧ Same H H' ∧ H' L = some (.lst []), ?_, ?_⟩
    · exact ⟨_, rfl, .inr ⟨CM, dd, fs, .ref X_NotMatrix, .ref X_NotMatrix, _, rfl, rfl, st0.1 _ _ hfs, k.C, rfl, fun _ r => r, k.k5, _, rfl, if_neg_of Bool.false_ne_true ⟨rfl, st0⟩⟩⟩
    clear st0
    rintro σ H6 ⟨rfl, st0⟩
    refine ⟨fun σ H' => σ = [some (.ref a), some (.ref L)] ∧ Same H H' ∧ H' L = some (.lst []), ?_, ?_⟩
    · exact ⟨_, rfl, .inr ⟨CM, dd, fs, .ref CB, .ref CB, _, rfl, rfl, st0.1 _ _ hfs, k.C, rfl, fun _ r => r, k.k6, _, rfl, if_neg_of Bool.false_ne_true ⟨rfl, st0⟩⟩⟩
    clear st0
    rintro σ H7 ⟨rfl, st0⟩
    refine ⟨fun σ H' => σ = [some (.ref a), some (.ref L)] ∧ Same H H' ∧ H' L = some (.lst []), ?_, ?_⟩
    · exact ⟨_, rfl, .inr ⟨CM, dd, fs, .ref X_NoAnswer, .ref X_NoAnswer, _, rfl, rfl, st0.1 _ _ hfs, k.C, rfl, fun _ r => r, k.k7, _, rfl, if_neg_of Bool.false_ne_true ⟨rfl, st0⟩⟩⟩
    clear st0
    rintro σ H8 ⟨rfl, st0⟩
    refine ⟨fun σ H' => σ = [some (.ref a), some (.ref L)] ∧ Same H H' ∧ H' L = some (.lst []), ?_, ?_⟩
    · exact ⟨_, rfl, .inr ⟨CM, dd, fs, .ref CT, .ref CT, _, rfl, rfl, st0.1 _ _ hfs, k.C, rfl, fun _ r => r, k.k8, _, rfl, if_neg_of Bool.false_ne_true ⟨rfl, st0⟩⟩⟩
    clear st0
    rintro σ H9 ⟨rfl, st0⟩
    have h3 : ("at " : Str).length = 3 := by decide +kernel
    have h1 : ("!" : Str).length = 1 := by decide +kernel
    refine ⟨fun σ H' => σ = [some (.ref a), some (.ref L)] ∧ Same H H' ∧ H' L = some (.lst [.str (("at " : Str) ++ txI at')]), ?_, ?_⟩
    · refine ⟨_, rfl, .inr ⟨CM, dd, fs, .ref CM, .ref CM, _, rfl, rfl, st0.1 _ _ hfs, k.C, rfl, fun _ r => r, k.k9, _, rfl, if_pos_of rfl ?_⟩⟩
      refine ⟨_, rfl, .inl ⟨rfl, _, .inl (.inl st0.2)⟩, _, rfl, rfl, rfl, dd, fs, .int at', rfl, st0.1 _ _ hfs, lk, at', rfl, lg, _, _, rfl, rfl, ?_, L, _, _, rfl, rfl, st0.2, (by show 0 < sizeLine; omega), ?_⟩
      · show ("at " : Str).length + (txI at').length ≤ _
        omega
      · exact ⟨rfl, Same.mut st0.1 nL, upd_same⟩
    clear st0
    rintro σ H10 ⟨rfl, st0⟩
    refine ⟨_, rfl, L, _, rfl, .inl (.inl (.inl st0.2)), rfl, _, rfl, if_pos_of rfl ⟨_, rfl, .inr ⟨CM, dd, fs, .ref CE, .ref CE, true, rfl, rfl, st0.1 _ _ hfs, k.C, rfl, fun _ r => r, k.e, _, rfl, if_pos_of rfl ?_⟩⟩⟩
    have l2 : (("at " : Str) ++ txI at').length = 3 + (txI at').length := by rw [Str.length_append, h3]
    exact ⟨_, rfl, L, _, 0, .str (("at " : Str) ++ txI at'), rfl, rfl, .inl (.inl st0.2), rfl, "!", ("at " : Str) ++ txI at', rfl, rfl, (by rw [h1, l2]; omega), q _ st0.1⟩
end

section
variable {P : Program} {w : World} {K : PySem.W.Frag} {mg : Str → Option Value} {base : Heap}
/-! ### _law_told, _law_read -/
structure ErrE (K : PySem.W.Frag) (mg : Str → Option Value) (CE X_NotWorld CF CD X_NotNumber CWd X_NotMatrix CB X_NoAnswer CT CM : Addr) : Prop where
  gE : mg "WorthError" = some (.ref CE)
  ebc : PySem.W.subIn K (.ref CE) (.type "BaseException") = some true
  ehd : PySem.W.hasDictIn K CE = true
  ety : PySem.W.typeIn K (.ref CE) = some (.type "type")
  sF : PySem.W.subIn K (.ref CF) (.ref CE) = some true
  sW : PySem.W.subIn K (.ref CWd) (.ref CE) = some true
  sB : PySem.W.subIn K (.ref CB) (.ref CE) = some true
  sM : PySem.W.subIn K (.ref CM) (.ref CE) = some true
  kF : KindE K CE X_NotWorld CF CD X_NotNumber CWd X_NotMatrix CB X_NoAnswer CT CM CF "family"
  kW : KindE K CE X_NotWorld CF CD X_NotNumber CWd X_NotMatrix CB X_NoAnswer CT CM CWd "word"
  kB : KindE K CE X_NotWorld CF CD X_NotNumber CWd X_NotMatrix CB X_NoAnswer CT CM CB "number"
  kM : KindM K CE X_NotWorld CF CD X_NotNumber CWd X_NotMatrix CB X_NoAnswer CT CM
def errW (n : Int) (x : List Lt) : Option Str := if 60 < x.length then some ("!word" : Str) else if ¬ (0 ≤ n ∧ n ≤ 6) then some ("!number" : Str) else if isWd n x = false then some ("!word" : Str) else none
def errF (z : Str) (n : Int) (b : Bool) : Option Str := if z ∉ fams then some ("!family" : Str) else if ¬ (0 ≤ n ∧ n ≤ 6) then some ("!number" : Str) else if b = false then some ("!word" : Str) else none
def errT (way : Int) (z : Str) (n : Int) (x : List Lt) : Option Str :=
  if way = 0 ∨ way = 1 ∨ way = 3 then errW n x else if way = 2 then errF z n (isWd n x) else if way = 4 then (if x.length ≤ 60 ∧ ¬ (0 ≤ n ∧ n ≤ 6) then some ("!number" : Str) else none) else errF z n true
def spTold28 (K : PySem.W.Frag) : Sp := fun vs H Q _ => ∃ (way : Int) (z : Str) (n : Int) (v : V) (x : List Lt), vs = [.int way, .str z, .int n, v] ∧ 0 ≤ way ∧ way ≤ 5 ∧ WP K H v x ∧ WOk x ∧ x.length ≤ 1000 ∧
  (∀ t, errT way z n x = some t → ∀ H', Same H H' → Q (.str t) H') ∧
  (errT way z n x = none → (way = 0 → ∀ (t : Addr) v' H', Same H H' → H' t = some (.tup [.int ((wdS n.toNat x).1 : Nat), v']) → DgAt H' v' n n (wdS n.toNat x).2 → Q (.ref t) H') ∧
    (way = 1 → ∀ H', Same H H' → Q (.str (wdT x)) H') ∧ (way = 2 → ∀ H', Same H H' → Q (.bl (allIn (lettersL z n) x)) H') ∧ (way = 3 → ∀ H', Same H H' → Q .non H') ∧ (way = 4 → ∀ H', Same H H' → Q (.bl (isWd n x)) H') ∧
    (way = 5 → ∀ (L : Addr) (ps : List V) H', Same H H' → H' L = some (.lst ps) → Paired (TL H') ps (lettersL z n) → Q (.ref L) H'))
theorem errW1 {n : Int} {x : List Lt} (c : 60 < x.length) : errW n x = some ("!word" : Str) := if_pos c
theorem errW2 {n : Int} {x : List Lt} (c : x.length ≤ 60) (h : ¬ (0 ≤ n ∧ n ≤ 6)) : errW n x = some ("!number" : Str) := by
  unfold errW
  rw [if_neg (by omega), if_pos h]
theorem errW3 {n : Int} {x : List Lt} (c : x.length ≤ 60) (h : 0 ≤ n ∧ n ≤ 6) (e : isWd n x = false) : errW n x = some ("!word" : Str) := by
  unfold errW
  rw [if_neg (by omega), if_neg (fun z => z h), if_pos e]
theorem errW4 {n : Int} {x : List Lt} (c : x.length ≤ 60) (h : 0 ≤ n ∧ n ≤ 6) (e : isWd n x = true) : errW n x = none := by
  unfold errW
  rw [if_neg (by omega), if_neg (fun z => z h), if_neg (by rw [e]; decide)]
theorem errF1 {z : Str} {n : Int} {b : Bool} (c : z ∉ fams) : errF z n b = some ("!family" : Str) := if_pos c
theorem errF2 {z : Str} {n : Int} {b : Bool} (c : z ∈ fams) (h : ¬ (0 ≤ n ∧ n ≤ 6)) : errF z n b = some ("!number" : Str) := by
  unfold errF
  rw [if_neg (fun y => y c), if_pos h]
theorem errF3 {z : Str} {n : Int} (c : z ∈ fams) (h : 0 ≤ n ∧ n ≤ 6) : errF z n false = some ("!word" : Str) := by
  unfold errF
  rw [if_neg (fun y => y c), if_neg (fun y => y h), if_pos rfl]
theorem errF4 {z : Str} {n : Int} (c : z ∈ fams) (h : 0 ≤ n ∧ n ≤ 6) : errF z n true = none := by
  unfold errF
  rw [if_neg (fun y => y c), if_neg (fun y => y h), if_neg (by decide)]
theorem t_word : ("!" : Str) ++ ("word" : Str) = "!word" := by decide +kernel
theorem t_family : ("!" : Str) ++ ("family" : Str) = "!family" := by decide +kernel
theorem t_number : ("!" : Str) ++ ("number" : Str) = "!number" := by decide +kernel
theorem ok_law_told {f CE X_NotWorld CF CD X_NotNumber CWd X_NotMatrix CB X_NoAnswer CT CM : Addr} {fd : FuncData} (F : Fun K "_law_told" "_law_told" s_law_told f fd) (T : ErrE K mg CE X_NotWorld CF CD X_NotNumber CWd X_NotMatrix CB X_NoAnswer CT CM)
    {a_diagram_of : Addr} {fd_diagram_of : FuncData} (G_diagram_of : FnOk P w K mg base (L2N.CX P w) 7 a_diagram_of fd_diagram_of ["n", "word"] (spDiagOf K CB CWd)) (g_diagram_of : mg "diagram_of" = some (.ref a_diagram_of)) (k_diagram_of : PySem.W.keepIn K (.ref a_diagram_of) = true) (b_diagram_of : Binds K fd_diagram_of ["n", "word"] [])
    {a_word_text : Addr} {fd_word_text : FuncData} (G_word_text : FnOk P w K mg base (L2N.CX P w) 5 a_word_text fd_word_text ["n", "word"] (spWordText K CB CWd)) (g_word_text : mg "word_text" = some (.ref a_word_text)) (k_word_text : PySem.W.keepIn K (.ref a_word_text) = true) (b_word_text : Binds K fd_word_text ["n", "word"] [])
    {a_is_word_of : Addr} {fd_is_word_of : FuncData} (G_is_word_of : FnOk P w K mg base (L2N.CX P w) 5 a_is_word_of fd_is_word_of ["family", "n", "word"] (spIsWordOf K CF CB CWd)) (g_is_word_of : mg "is_word_of" = some (.ref a_is_word_of)) (k_is_word_of : PySem.W.keepIn K (.ref a_is_word_of) = true) (b_is_word_of : Binds K fd_is_word_of ["family", "n", "word"] [])
    {a_check_word : Addr} {fd_check_word : FuncData} (G_check_word : FnOk P w K mg base (L2N.CX P w) 4 a_check_word fd_check_word ["n", "word"] (spCheckWord K CB CWd)) (g_check_word : mg "check_word" = some (.ref a_check_word)) (k_check_word : PySem.W.keepIn K (.ref a_check_word) = true) (b_check_word : Binds K fd_check_word ["n", "word"] [])
    {a_is_word : Addr} {fd_is_word : FuncData} (G_is_word : FnOk P w K mg base (L2N.CX P w) 3 a_is_word fd_is_word ["n", "word"] (spIsWord K CB)) (g_is_word : mg "is_word" = some (.ref a_is_word)) (k_is_word : PySem.W.keepIn K (.ref a_is_word) = true) (b_is_word : Binds K fd_is_word ["n", "word"] [])
    {a_letters : Addr} {fd_letters : FuncData} (G_letters : FnOk P w K mg base (L2N.CX P w) 2 a_letters fd_letters ["family", "n"] (spLetters CF CB)) (g_letters : mg "letters" = some (.ref a_letters)) (k_letters : PySem.W.keepIn K (.ref a_letters) = true) (b_letters : Binds K fd_letters ["family", "n"] [])
    {a_law_error : Addr} {fd_law_error : FuncData} (G_law_error : FnE P w K mg base  1 a_law_error fd_law_error ["error"] (spLErr K CE X_NotWorld CF CD X_NotNumber CWd X_NotMatrix CB X_NoAnswer CT CM)) (g_law_error : mg "_law_error" = some (.ref a_law_error)) (k_law_error : PySem.W.keepIn K (.ref a_law_error) = true) (b_law_error : Binds K fd_law_error ["error"] []) :
    FnOk P w K mg base CX0 9 f fd ["which", "family", "n", "word"] (spTold28 K) := by
  have gc_WorthError := T.gE
  have eF := PySem.W.exm_ref T.ebc T.ehd T.ety T.sF
  have eW := PySem.W.exm_ref T.ebc T.ehd T.ety T.sW
  have eB := PySem.W.exm_ref T.ebc T.ehd T.ety T.sB
  refine F.ok sc_law_told (fun vs H Q E h => ?_) (fun cdv A outer s H vs Q E hr1 h => ?_)
  · obtain ⟨way, z, n, v, x, rfl, _⟩ := h
    rfl
  · obtain ⟨way, z, n, v, x, rfl, y0, y5, hv, okx, lx, qe, qn⟩ := h
    refine ⟨_, (pss_one (L2N.ps_try_as (i := 4) (Wout := fun _ _ _ _ => False) rfl rfl sc_law_told.nd rfl rfl ⟨rfl, by decide, .inl gc_WorthError⟩ takes0N (fun W pn xe tk _ => by exact (pss_cons (ps_if (pt_cmpR op_eq (pv 0) pe_int (nomark _)) (pss_one (ps_ret (pe_callS G_diagram_of (hr1.mono (by decide)) rfl g_diagram_of k_diagram_of b_diagram_of (fun σ => L2N.passAt tk σ) (pa_cons (pv 2) (pa_cons (pv 3) pa_nil))))) pss_nil)
  (pss_cons (ps_if (pt_cmpR op_eq (pv 0) pe_int (nomark _)) (pss_one (ps_ret (pe_callS G_word_text (hr1.mono (by decide)) rfl g_word_text k_word_text b_word_text (fun σ => L2N.passAt tk σ) (pa_cons (pv 2) (pa_cons (pv 3) pa_nil))))) pss_nil)
  (pss_cons (ps_if (pt_cmpR op_eq (pv 0) pe_int (nomark _)) (pss_one (ps_ret (pe_callS G_is_word_of (hr1.mono (by decide)) rfl g_is_word_of k_is_word_of b_is_word_of (fun σ => L2N.passAt tk σ) (pa_cons (pv 1) (pa_cons (pv 2) (pa_cons (pv 3) pa_nil)))))) pss_nil)
  (pss_cons (ps_if (pt_cmpR op_eq (pv 0) pe_int (nomark _)) (pss_one (ps_ret (pe_callS G_check_word (hr1.mono (by decide)) rfl g_check_word k_check_word b_check_word (fun σ => L2N.passAt tk σ) (pa_cons (pv 2) (pa_cons (pv 3) pa_nil))))) pss_nil)
  (pss_cons (ps_if (pt_cmpR op_eq (pv 0) pe_int (nomark _)) (pss_one (ps_ret (pe_callS G_is_word (hr1.mono (by decide)) rfl g_is_word k_is_word b_is_word (fun σ => L2N.passAt tk σ) (pa_cons (pv 2) (pa_cons (pv 3) pa_nil))))) pss_nil)
  (pss_one (ps_ret (pe_callS G_letters (hr1.mono (by decide)) rfl g_letters k_letters b_letters (fun σ => L2N.passAt tk σ) (pa_cons (pv 1) (pa_cons (pv 2) pa_nil))))))))))) (fun ax oe cls dx pn hz hf => by exact (pss_one (ps_ret (pe_callX1 G_law_error (hr1.mono (by decide)) hz hf rfl g_law_error k_law_error b_law_error (pa_cons (pv 4) pa_nil))))))), ?_⟩
    unfold errT at qe qn
    by_cases w0 : way = 0
    · subst w0
      rw [if_pos (.inl rfl)] at qe qn
      refine ⟨_, rfl, rfl, _, rfl, iteT (⟨_, rfl, _, rfl, n, v, x, rfl, hv, okx, lx, fun c H1 s1 => ⟨true, eW, fun _ ax _ => ⟨_, rfl, rfl, .inl ⟨_, _, rfl, rfl, T.kW, fun H2 s2 => by rw [t_word]; exact qe _ (errW1 c) H2 (Same.trans s1 s2)⟩⟩, fun z => nomatch z⟩, fun c nn => ⟨true, eB, fun _ ax _ => ⟨_, rfl, rfl, .inl ⟨_, _, rfl, rfl, T.kB, fun H2 s2 => by rw [t_number]; exact qe _ (errW2 c nn) H2 (Same.trans (Same.refl H) s2)⟩⟩, fun z => nomatch z⟩, fun c hn wd H1 s1 => ⟨true, eW, fun _ ax _ => ⟨_, rfl, rfl, .inl ⟨_, _, rfl, rfl, T.kW, fun H2 s2 => by rw [t_word]; exact qe _ (errW3 c hn wd) H2 (Same.trans s1 s2)⟩⟩, fun z => nomatch z⟩, fun c hn wd t v2 H1 s1 ht d => ((qn (errW4 c hn wd)).1 rfl t v2 H1 s1 ht d)⟩)⟩
    by_cases w1 : way = 1
    · subst w1
      rw [if_pos (.inr (.inl rfl))] at qe qn
      refine ⟨_, rfl, rfl, _, rfl, iteF ⟨_, rfl, rfl, _, rfl, iteT (⟨_, rfl, _, rfl, n, v, x, rfl, hv, okx, lx, fun c H1 s1 => ⟨true, eW, fun _ ax _ => ⟨_, rfl, rfl, .inl ⟨_, _, rfl, rfl, T.kW, fun H2 s2 => by rw [t_word]; exact qe _ (errW1 c) H2 (Same.trans s1 s2)⟩⟩, fun z => nomatch z⟩, fun c nn => ⟨true, eB, fun _ ax _ => ⟨_, rfl, rfl, .inl ⟨_, _, rfl, rfl, T.kB, fun H2 s2 => by rw [t_number]; exact qe _ (errW2 c nn) H2 (Same.trans (Same.refl H) s2)⟩⟩, fun z => nomatch z⟩, fun c hn wd H1 s1 => ⟨true, eW, fun _ ax _ => ⟨_, rfl, rfl, .inl ⟨_, _, rfl, rfl, T.kW, fun H2 s2 => by rw [t_word]; exact qe _ (errW3 c hn wd) H2 (Same.trans s1 s2)⟩⟩, fun z => nomatch z⟩, fun c hn wd H1 s1 => ((qn (errW4 c hn wd)).2.1 rfl H1 s1)⟩)⟩⟩
    by_cases w2 : way = 2
    · subst w2
      rw [if_neg (by decide), if_pos rfl] at qe qn
      refine ⟨_, rfl, rfl, _, rfl, iteF ⟨_, rfl, rfl, _, rfl, iteF ⟨_, rfl, rfl, _, rfl, iteT (⟨_, rfl, _, rfl, _, rfl, z, n, v, x, rfl, hv, okx, lx, fun c => ⟨true, eF, fun _ ax _ => ⟨_, rfl, rfl, .inl ⟨_, _, rfl, rfl, T.kF, fun H2 s2 => by rw [t_family]; exact qe _ (errF1 c) H2 (Same.trans (Same.refl H) s2)⟩⟩, fun z => nomatch z⟩, fun c nn => ⟨true, eB, fun _ ax _ => ⟨_, rfl, rfl, .inl ⟨_, _, rfl, rfl, T.kB, fun H2 s2 => by rw [t_number]; exact qe _ (errF2 c nn) H2 (Same.trans (Same.refl H) s2)⟩⟩, fun z => nomatch z⟩, fun c hn wd H1 s1 => ⟨true, eW, fun _ ax _ => ⟨_, rfl, rfl, .inl ⟨_, _, rfl, rfl, T.kW, fun H2 s2 => by rw [t_word]; exact qe _ (by rw [wd]; exact errF3 c hn) H2 (Same.trans s1 s2)⟩⟩, fun z => nomatch z⟩, fun c hn wd H1 s1 => ((qn (by rw [wd]; exact errF4 c hn)).2.2.1 rfl H1 s1)⟩)⟩⟩⟩
    by_cases w3 : way = 3
    · subst w3
      rw [if_pos (.inr (.inr rfl))] at qe qn
      refine ⟨_, rfl, rfl, _, rfl, iteF ⟨_, rfl, rfl, _, rfl, iteF ⟨_, rfl, rfl, _, rfl, iteF ⟨_, rfl, rfl, _, rfl, iteT (⟨_, rfl, _, rfl, n, v, x, rfl, hv, okx, lx, fun c H1 s1 => ⟨true, eW, fun _ ax _ => ⟨_, rfl, rfl, .inl ⟨_, _, rfl, rfl, T.kW, fun H2 s2 => by rw [t_word]; exact qe _ (errW1 c) H2 (Same.trans s1 s2)⟩⟩, fun z => nomatch z⟩, fun c nn => ⟨true, eB, fun _ ax _ => ⟨_, rfl, rfl, .inl ⟨_, _, rfl, rfl, T.kB, fun H2 s2 => by rw [t_number]; exact qe _ (errW2 c nn) H2 (Same.trans (Same.refl H) s2)⟩⟩, fun z => nomatch z⟩, fun c hn wd H1 s1 => ⟨true, eW, fun _ ax _ => ⟨_, rfl, rfl, .inl ⟨_, _, rfl, rfl, T.kW, fun H2 s2 => by rw [t_word]; exact qe _ (errW3 c hn wd) H2 (Same.trans s1 s2)⟩⟩, fun z => nomatch z⟩, fun c hn wd H1 s1 => ((qn (errW4 c hn wd)).2.2.2.1 rfl H1 s1)⟩)⟩⟩⟩⟩
    by_cases w4 : way = 4
    · subst w4
      rw [if_neg (by decide), if_neg (by decide), if_pos rfl] at qe qn
      refine ⟨_, rfl, rfl, _, rfl, iteF ⟨_, rfl, rfl, _, rfl, iteF ⟨_, rfl, rfl, _, rfl, iteF ⟨_, rfl, rfl, _, rfl, iteF ⟨_, rfl, rfl, _, rfl, iteT (⟨_, rfl, _, rfl, n, v, x, rfl, hv, okx, lx, fun c H1 s1 => by rw [← isWd_long (n := n) c]; exact (qn (if_neg (fun h => by omega))).2.2.2.2.1 rfl H1 s1, fun c nn => ⟨true, eB, fun _ ax _ => ⟨_, rfl, rfl, .inl ⟨_, _, rfl, rfl, T.kB, fun H2 s2 => by rw [t_number]; exact qe _ (if_pos ⟨c, nn⟩) H2 (Same.trans (Same.refl H) s2)⟩⟩, fun z => nomatch z⟩, fun c hn H1 s1 => ((qn (if_neg (fun h => h.2 hn))).2.2.2.2.1 rfl H1 s1)⟩)⟩⟩⟩⟩⟩
    obtain rfl : way = 5 := by omega
    rw [if_neg (by decide), if_neg (by decide), if_neg (by decide)] at qe qn
    refine ⟨_, rfl, rfl, _, rfl, iteF ⟨_, rfl, rfl, _, rfl, iteF ⟨_, rfl, rfl, _, rfl, iteF ⟨_, rfl, rfl, _, rfl, iteF ⟨_, rfl, rfl, _, rfl, iteF ?_⟩⟩⟩⟩⟩
    exact ⟨_, rfl, _, rfl, z, n, rfl, fun c => ⟨true, eF, fun _ ax _ => ⟨_, rfl, rfl, .inl ⟨_, _, rfl, rfl, T.kF, fun H2 s2 => by rw [t_family]; exact qe _ (errF1 c) H2 (Same.trans (Same.refl H) s2)⟩⟩, fun z => nomatch z⟩, fun c nn => ⟨true, eB, fun _ ax _ => ⟨_, rfl, rfl, .inl ⟨_, _, rfl, rfl, T.kB, fun H2 s2 => by rw [t_number]; exact qe _ (errF2 c nn) H2 (Same.trans (Same.refl H) s2)⟩⟩, fun z => nomatch z⟩, fun c hn L ps H1 s1 hL pl => (qn (errF4 c hn)).2.2.2.2.2 rfl L ps H1 s1 hL pl⟩
end

theorem rdW_bd (l : List Lt) : ∀ (ps : List Str) (i : Nat) (j : Int), i ≤ 60 → rdW l i ps = .inl j → ∃ m : Nat, j = (m : Int) ∧ m ≤ 60
  | [], i, j, _, h => by
    rw [rdW] at h
    exact nomatch h
  | p :: r, i, j, hi, h => by
    rw [rdW_cons] at h
    by_cases c : i = 60
    · rw [if_pos c] at h
      exact ⟨i, (Sum.inl.inj h).symm, hi⟩
    · rw [if_neg c] at h
      cases e : letOf l p with
      | none =>
        rw [e] at h
        exact ⟨i, (Sum.inl.inj h).symm, hi⟩
      | some x =>
        rw [e] at h
        cases e2 : rdW l (i + 1) r with
        | inl k =>
          rw [e2] at h
          obtain rfl := Sum.inl.inj h
          exact rdW_bd l r (i + 1) k (by omega) e2
        | inr w =>
          rw [e2] at h
          exact nomatch h
theorem txI_fine : ∀ m : Nat, m < 61 → (Int.natAbs (m : Nat)).log2 < 1920 ∧ (txI (m : Nat)).length ≤ 10000 := by decide +kernel
section
variable {P : Program} {w : World} {K : PySem.W.Frag} {mg : Str → Option Value} {base : Heap}
def spLRead (K : PySem.W.Frag) : Sp := fun vs H Q _ => ∃ (n : Int) (z : Str), vs = [.int n, .str z] ∧ z.length ≤ 10000 ∧ (¬ (0 ≤ n ∧ n ≤ 6) → ∀ H', Same H H' → Q (.str "!number") H') ∧
  (0 ≤ n ∧ n ≤ 6 → z = "-" → ∀ (t : Addr) H', Same H H' → H' t = some (.tup []) → Q (.ref t) H') ∧
  (0 ≤ n ∧ n ≤ 6 → z ≠ "-" → (∀ i, rdW (lettersL "parts" n) 0 (Txt.split z " ") = .inl i → ∀ H', Same H H' → Q (.str (("!" : Str) ++ (("at " : Str) ++ txI i))) H') ∧
    (∀ x, rdW (lettersL "parts" n) 0 (Txt.split z " ") = .inr x → ∀ (t : Addr) H', Same H H' → WP K H' (.ref t) x → Q (.ref t) H'))
theorem ok_law_read {f CE X_NotWorld CF CD X_NotNumber CWd X_NotMatrix CB X_NoAnswer CT CM : Addr} {fd : FuncData} (F : Fun K "_law_read" "_law_read" s_law_read f fd) (T : ErrE K mg CE X_NotWorld CF CD X_NotNumber CWd X_NotMatrix CB X_NoAnswer CT CM)
    {a_read_word : Addr} {fd_read_word : FuncData} (G_read_word : FnOk P w K mg base (L2N.CX P w) 4 a_read_word fd_read_word ["n", "text"] (spReadW K CB CM)) (g_read_word : mg "read_word" = some (.ref a_read_word)) (k_read_word : PySem.W.keepIn K (.ref a_read_word) = true) (b_read_word : Binds K fd_read_word ["n", "text"] [])
    {a_law_error : Addr} {fd_law_error : FuncData} (G_law_error : FnE P w K mg base  1 a_law_error fd_law_error ["error"] (spLErr K CE X_NotWorld CF CD X_NotNumber CWd X_NotMatrix CB X_NoAnswer CT CM)) (g_law_error : mg "_law_error" = some (.ref a_law_error)) (k_law_error : PySem.W.keepIn K (.ref a_law_error) = true) (b_law_error : Binds K fd_law_error ["error"] []) : FnOk P w K mg base CX0 9 f fd ["n", "text"] (spLRead K) := by
  have gc_WorthError := T.gE
  have eB := PySem.W.exm_ref T.ebc T.ehd T.ety T.sB
  have eM := PySem.W.exm_ref T.ebc T.ehd T.ety T.sM
  refine F.ok sc_law_read (fun vs H Q E h => ?_) (fun cdv A outer s H vs Q E hr1 h => ?_)
  · obtain ⟨n, z, rfl, _⟩ := h
    rfl
  · obtain ⟨n, z, rfl, lz, q1, q2, q3⟩ := h
    refine ⟨_, (pss_one (L2N.ps_try_as (i := 2) (Wout := fun _ _ _ _ => False) rfl rfl sc_law_read.nd rfl rfl ⟨rfl, by decide, .inl gc_WorthError⟩ takes0N (fun W pn xe tk _ => by exact (pss_one (ps_ret (pe_callS G_read_word (hr1.mono (by decide)) rfl g_read_word k_read_word b_read_word (fun σ => L2N.passAt tk σ) (pa_cons (pv 0) (pa_cons (pv 1) pa_nil)))))) (fun ax oe cls dx pn hz hf => by exact (pss_one (ps_ret (pe_callX1 G_law_error (hr1.mono (by decide)) hz hf rfl g_law_error k_law_error b_law_error (pa_cons (pv 2) pa_nil))))))), ?_⟩
    refine ⟨_, rfl, _, rfl, n, z, rfl, lz, fun nn => ⟨true, eB, fun _ ax _ => ⟨_, rfl, rfl, .inl ⟨_, _, rfl, rfl, T.kB, fun H2 s2 => by rw [t_number]; exact q1 nn H2 s2⟩⟩, fun z => nomatch z⟩, fun hn e t H1 s1 ht => q2 hn e t H1 s1 ht, fun hn e => ⟨fun i ei dd H1 s1 nd hd => ?_, fun x ex t H1 s1 hx => (q3 hn e).2 x ex t H1 s1 hx⟩⟩
    obtain ⟨m, rfl, hm⟩ := rdW_bd _ _ 0 i (by decide) ei
    obtain ⟨f1, f2⟩ := txI_fine m (by omega)
    exact ⟨true, eM, fun _ ax _ => ⟨_, rfl, rfl, .inr ⟨dd, _, (m : Int), rfl, rfl, hd, rfl, f1, f2, T.kM, fun H2 s2 => (q3 hn e).1 _ ei H2 (Same.trans s1 s2)⟩⟩, fun z => nomatch z⟩
end

/-! ### turned over, one above another -/
theorem iso_ks {N : Nat} {a b : List Int} {E F : Nat → Nat → Prop} {g h : Nat → Nat} (ka : Ks N a E) (kb : Ks N b F) (hg : ∀ i, i < N → g i < N ∧ h (g i) = i)
    (eg : ∀ i j, E i j → Conn F (g i) (g j)) (eh : ∀ i j, F i j → Conn E (h i) (h j)) : ∀ i j, i < N → j < N → (co a i = co a j ↔ co b (g i) = co b (g j)) := fun i j hi hj => by
  rw [ka.eq i j hi hj, kb.eq _ _ (hg i hi).1 (hg j hj).1]
  constructor
  · exact Conn.map (f := g) eg
  · intro c
    have := Conn.map (f := h) eh c
    rw [(hg i hi).2, (hg j hj).2] at this
    exact this
def ovL (n : Nat) (l : List Int) : List Int := l.drop n ++ l.take n
theorem ovL_len {n : Nat} {l : List Int} (h : n ≤ l.length) : (ovL n l).length = l.length := by
  unfold ovL
  rw [List.length_append, List.length_drop, List.length_take]
  omega
theorem ovL_co {n m : Nat} {l : List Int} (hl : l.length = n + m) {i : Nat} (hi : i < m + n) : co (ovL n l) i = co l (if i < m then n + i else i - m) := by
  unfold ovL
  have ld : (l.drop n).length = m := by rw [List.length_drop]; omega
  by_cases c : i < m
  · rw [if_pos c, co_app_l (by omega), co_drop]
  · rw [if_neg c]
    have := co_app_r (a := l.drop n) (b := l.take n) (i := i - m) (by rw [List.length_take]; omega)
    rw [ld, show m + (i - m) = i by omega] at this
    rw [this, co_takeB (by omega)]
def gO (n m q i : Nat) : Nat := if i < q then n + m + i else if i < q + m then n + (i - q) else i - (q + m)
theorem put_over {n m q : Nat} {l1 l2 : List Int} (h1 : l1.length = n + m) (h2 : l2.length = m + q) :
    hid (putM q m n (ovL m l2) (ovL n l1)) (putS q m n (ovL m l2) (ovL n l1)) = hid (putM n m q l1 l2) (putS n m q l1 l2) ∧ blocksOf (putS q m n (ovL m l2) (ovL n l1)) = blocksOf (ovL n (putS n m q l1 l2)) := by
  have L1 : (ovL n l1).length = m + n := by rw [ovL_len (by omega)]; omega
  have L2 : (ovL m l2).length = q + m := by rw [ovL_len (by omega)]; omega
  have kA := ks_putM (n := q) (m := m) (q := n) L2 L1
  have kB := ks_putM h1 h2
  have lA := kA.len
  have lB := kB.len
  have g1 : ∀ i, i < q + m + n → gO n m q i < n + m + q ∧ gO q m n (gO n m q i) = i := fun i hi => by
    unfold gO
    refine ⟨?_, ?_⟩
    · split
      · omega
      · split <;> omega
    by_cases c : i < q
    · rw [if_pos c, if_neg (by omega), if_neg (by omega)]
      omega
    · rw [if_neg c]
      by_cases d : i < q + m
      · rw [if_pos d, if_neg (by omega), if_pos (by omega)]
        omega
      · rw [if_neg d, if_pos (by omega)]
        omega
  have lo : ∀ i, i < q + m → gO n m q i = n + (if i < q then m + i else i - q) := fun i hi => by
    unfold gO
    by_cases c : i < q
    · rw [if_pos c, if_pos c]
      omega
    · rw [if_neg c, if_neg c, if_pos hi]
  have hi : ∀ a, a < m + n → gO n m q (q + a) = if a < m then n + a else a - m := fun a ha => by
    unfold gO
    rw [if_neg (by omega)]
    by_cases c : a < m
    · rw [if_pos (by omega), if_pos c]
      omega
    · rw [if_neg (by omega), if_neg c]
      omega
  have e1 : ∀ i j, i < q + m + n → j < q + m + n → (co (putM q m n (ovL m l2) (ovL n l1)) i = co (putM q m n (ovL m l2) (ovL n l1)) j ↔ co (putM n m q l1 l2) (gO n m q i) = co (putM n m q l1 l2) (gO n m q j)) := by
    refine iso_ks (N := q + m + n) (h := gO q m n) kA ⟨by omega, fun i j h => by have := kB.bd i j h; omega, fun i j hi hj => kB.eq i j (by omega) (by omega)⟩ (fun i hi => ⟨by have := (g1 i hi).1; omega, (g1 i hi).2⟩) (fun i j h => .ed ?_) (fun i j h => .ed ?_)
    · rcases h with ⟨a, b, c⟩ | ⟨a, b, ha, hb, rfl, rfl, c⟩
      · rw [ovL_co h2 (by omega), ovL_co h2 (by omega)] at c
        exact .inr ⟨_, _, by split <;> omega, by split <;> omega, lo i a, lo j b, c⟩
      · rw [ovL_co h1 ha, ovL_co h1 hb] at c
        rw [hi a ha, hi b hb]
        exact .inl ⟨by split <;> omega, by split <;> omega, c⟩
    · have back1 : ∀ i, i < n + m → ∃ a, a < m + n ∧ gO q m n i = q + a ∧ (if a < m then n + a else a - m) = i := fun i hi => by
        unfold gO
        by_cases c : i < n
        · exact ⟨m + i, by omega, by rw [if_pos c]; omega, by rw [if_neg (by omega)]; omega⟩
        · exact ⟨i - n, by omega, by rw [if_neg c, if_pos hi], by rw [if_pos (by omega)]; omega⟩
      have back2 : ∀ a, a < m + q → gO q m n (n + a) < q + m ∧ (if gO q m n (n + a) < q then m + gO q m n (n + a) else gO q m n (n + a) - q) = a := fun a ha => by
        unfold gO
        rw [if_neg (by omega)]
        by_cases c : a < m
        · rw [if_pos (by omega)]
          exact ⟨by omega, by rw [if_neg (by omega)]; omega⟩
        · rw [if_neg (by omega)]
          exact ⟨by omega, by rw [if_pos (by omega)]; omega⟩
      rcases h with ⟨a, b, c⟩ | ⟨a, b, ha, hb, rfl, rfl, c⟩
      · obtain ⟨x, hx, e1, e2⟩ := back1 i a
        obtain ⟨y, hy, e3, e4⟩ := back1 j b
        exact .inr ⟨x, y, hx, hy, e1, e3, by rw [ovL_co h1 hx, ovL_co h1 hy, e2, e4]; exact c⟩
      · obtain ⟨x1, x2⟩ := back2 a ha
        obtain ⟨y1, y2⟩ := back2 b hb
        exact .inl ⟨x1, y1, by rw [ovL_co h2 (by omega), ovL_co h2 (by omega), x2, y2]; exact c⟩
  have sA : putS q m n (ovL m l2) (ovL n l1) = inoutL q (q + m) (putM q m n (ovL m l2) (ovL n l1)) := rfl
  have sB : putS n m q l1 l2 = inoutL n (n + m) (putM n m q l1 l2) := rfl
  have out : ∀ i, i < q + m + n → ((i < q ∨ q + m ≤ i) ↔ (gO n m q i < n ∨ n + m ≤ gO n m q i)) := fun i hi => by
    unfold gO
    by_cases c : i < q
    · rw [if_pos c]
      omega
    · rw [if_neg c]
      by_cases d : i < q + m
      · rw [if_pos d]
        omega
      · rw [if_neg d]
        omega
  have inv : ∀ x, x < n + m + q → gO q m n x < q + m + n ∧ gO n m q (gO q m n x) = x := fun x hx => by
    unfold gO
    refine ⟨?_, ?_⟩
    · split
      · omega
      · split <;> omega
    by_cases c : x < n
    · rw [if_pos c, if_neg (by omega), if_neg (by omega)]
      omega
    · rw [if_neg c]
      by_cases d : x < n + m
      · rw [if_pos d, if_neg (by omega), if_pos (by omega)]
        omega
      · rw [if_neg d, if_pos (by omega)]
        omega
  constructor
  · refine hid_map (gO n m q) (fun i hi => by rw [lA] at hi; rw [lB]; exact (g1 i hi).1) (fun i hi => ?_) (fun i j hi hj => by rw [lA] at hi hj; exact e1 i j hi hj) fun i hi => ?_
    · rw [lB] at hi
      exact ⟨gO q m n i, by rw [lA]; exact (inv i hi).1, by rw [(inv i hi).2]⟩
    · rw [lA] at hi
      rw [sA, sB, inout_mem (by omega) (by omega), inout_mem (by omega) (by omega)]
      constructor
      · rintro ⟨p, hp, hl, e⟩
        rw [lA] at hl
        exact ⟨gO n m q p, (out p hl).mp hp, by rw [lB]; exact (g1 p hl).1, (e1 p i hl hi).mp e⟩
      · rintro ⟨p, hp, hl, e⟩
        rw [lB] at hl
        have v := inv p hl
        refine ⟨gO q m n p, (out _ v.1).mpr (by rw [v.2]; exact hp), by rw [lA]; exact v.1, (e1 _ i v.1 hi).mpr (by rw [v.2]; exact e)⟩
  · have lS : (putS n m q l1 l2).length = n + q := by rw [sB, inout_len (by omega) (by omega)]; omega
    refine KerEq.blocks ⟨by rw [ovL_len (by omega), lS, sA, inout_len (by omega) (by omega)]; omega, fun i j hi hj => ?_⟩
    rw [ovL_len (by omega), lS] at hi hj
    have f : ∀ i, i < n + q → ∃ p, p < q + m + n ∧ co (putS q m n (ovL m l2) (ovL n l1)) i = co (putM q m n (ovL m l2) (ovL n l1)) p ∧ co (ovL n (putS n m q l1 l2)) i = co (putM n m q l1 l2) (gO n m q p) := fun i hi => by
      rw [ovL_co lS (by omega), sA, sB, inout_co (by omega) (by omega) i (by omega)]
      by_cases c : i < q
      · refine ⟨i, by omega, if_pos c, ?_⟩
        rw [if_pos c, inout_co (by omega) (by omega) _ (by omega), if_neg (by omega)]
        congr 1
        unfold gO
        rw [if_pos c]
        omega
      · refine ⟨q + m + (i - q), by omega, if_neg c, ?_⟩
        rw [if_neg c, inout_co (by omega) (by omega) _ (by omega), if_pos (by omega)]
        congr 1
        unfold gO
        rw [if_neg (by omega), if_neg (by omega)]
        omega
    obtain ⟨p, hp, a1, a2⟩ := f i hi
    obtain ⟨p', hp', b1, b2⟩ := f j hj
    rw [a1, a2, b1, b2]
    exact (e1 p p' hp hp').symm
/-! ### pieces of two that stand apart -/
theorem sum_hid {NT NA NB : Nat} {T A B sT sA sB : List Int} {e ι : Nat → Nat} (lT : T.length = NT) (lA : A.length = NA) (lB : B.length = NB)
    (he : ∀ i, i < NA → e i < NT) (hι : ∀ p, p < NB → ι p < NT)
    (h1 : ∀ i j, i < NA → j < NA → (co A i = co A j ↔ co T (e i) = co T (e j))) (h2 : ∀ i j, i < NB → j < NB → (co B i = co B j ↔ co T (ι i) = co T (ι j)))
    (h3 : ∀ i j, i < NA → j < NB → co T (e i) ≠ co T (ι j)) (h4 : ∀ x, x < NT → (∃ i, i < NA ∧ e i = x) ∨ ∃ j, j < NB ∧ ι j = x)
    (h5 : ∀ i, i < NA → (co A i ∈ sA ↔ co T (e i) ∈ sT)) (h6 : ∀ j, j < NB → (co B j ∈ sB ↔ co T (ι j) ∈ sT)) : hid T sT = hid A sA + hid B sB := by
  have memF : ∀ (b sb : List Int) k, k ∈ (seenL [] b).filter (fun k => decide (k ∉ sb)) ↔ k ∈ b ∧ k ∉ sb := fun b sb k => by
    rw [List.mem_filter, seenL_mem, decide_eq_true_eq]
    exact ⟨fun z => ⟨z.1.elim (fun q => nomatch q) id, z.2⟩, fun z => ⟨.inr z.1, z.2⟩⟩
  have ndF : ∀ (b sb : List Int), ((seenL [] b).filter fun k => decide (k ∉ sb)).Nodup := fun b sb => (seenL_nodup b [] List.nodup_nil).filter _
  have iA : ∀ {v}, v ∈ A → A.idxOf v < NA ∧ co A (A.idxOf v) = v := fun hv => by rw [← lA]; exact ixf_co hv
  have iB : ∀ {v}, v ∈ B → B.idxOf v < NB ∧ co B (B.idxOf v) = v := fun hv => by rw [← lB]; exact ixf_co hv
  have e0 : hid A sA + hid B sB = (((seenL [] A).filter fun k => decide (k ∉ sA)).map (fun v => co T (e (A.idxOf v))) ++ ((seenL [] B).filter fun k => decide (k ∉ sB)).map fun v => co T (ι (B.idxOf v))).length := by
    rw [List.length_append, List.length_map, List.length_map]
    rfl
  rw [e0]
  refine (hid_is ?_ fun k => ?_).symm
  · refine List.nodup_append.mpr ⟨?_, ?_, ?_⟩
    · refine List.Pairwise.map _ (R := fun x y => x ∈ A ∧ y ∈ A ∧ x ≠ y) (fun x y ⟨hx, hy, ne⟩ z => ?_) (List.Pairwise.imp_of_mem (fun hx hy ne => ⟨((memF _ _ _).mp hx).1, ((memF _ _ _).mp hy).1, ne⟩) (ndF A sA))
      have m1 := iA hx
      have m2 := iA hy
      have := (h1 _ _ m1.1 m2.1).mpr z
      rw [m1.2, m2.2] at this
      exact ne this
    · refine List.Pairwise.map _ (R := fun x y => x ∈ B ∧ y ∈ B ∧ x ≠ y) (fun x y ⟨hx, hy, ne⟩ z => ?_) (List.Pairwise.imp_of_mem (fun hx hy ne => ⟨((memF _ _ _).mp hx).1, ((memF _ _ _).mp hy).1, ne⟩) (ndF B sB))
      have m1 := iB hx
      have m2 := iB hy
      have := (h2 _ _ m1.1 m2.1).mpr z
      rw [m1.2, m2.2] at this
      exact ne this
    · intro x hx y hy z
      obtain ⟨v, hv, rfl⟩ := List.mem_map.mp hx
      obtain ⟨u, hu, rfl⟩ := List.mem_map.mp hy
      exact h3 _ _ (iA ((memF _ _ _).mp hv).1).1 (iB ((memF _ _ _).mp hu).1).1 z
  · rw [List.mem_append, List.mem_map, List.mem_map]
    constructor
    · rintro (⟨v, hv, rfl⟩ | ⟨v, hv, rfl⟩)
      · obtain ⟨hv, hn⟩ := (memF _ _ _).mp hv
        have m := iA hv
        exact ⟨co_mem (by rw [lT]; exact he _ m.1), fun z => hn (by rw [← m.2]; exact (h5 _ m.1).mpr z)⟩
      · obtain ⟨hv, hn⟩ := (memF _ _ _).mp hv
        have m := iB hv
        exact ⟨co_mem (by rw [lT]; exact hι _ m.1), fun z => hn (by rw [← m.2]; exact (h6 _ m.1).mpr z)⟩
    · rintro ⟨hk, hn⟩
      obtain ⟨x, hx, rfl⟩ := mem_get hk
      rw [lT] at hx
      rcases h4 x hx with ⟨i, hi, rfl⟩ | ⟨j, hj, rfl⟩
      · left
        have mi : co A i ∈ A := co_mem (by rw [lA]; exact hi)
        have m := iA mi
        exact ⟨co A i, (memF _ _ _).mpr ⟨mi, fun z => hn ((h5 i hi).mp z)⟩, (h1 _ _ m.1 hi).mp m.2⟩
      · right
        have mj : co B j ∈ B := co_mem (by rw [lB]; exact hj)
        have m := iB mj
        exact ⟨co B j, (memF _ _ _).mpr ⟨mj, fun z => hn ((h6 j hj).mp z)⟩, (h2 _ _ m.1 hj).mp m.2⟩

section
variable {P : Program} {w : World} {K : PySem.W.Frag} {mg : Str → Option Value} {base : Heap}
/-! ### _law_turned_over -/
def spTurned : Sp := fun vs H Q _ => ∃ (v : V) (n m : Nat) (l : List Int), vs = [v] ∧ DgAt H v n m l ∧ ∀ v' H', Same H H' → DGv H' v' m n (blocksOf (ovL n l)) → Q v' H'
theorem ok_law_turned_over {f : Addr} {fd : FuncData} (F : Fun K "_law_turned_over" "_law_turned_over" s_law_turned_over f fd) {a_law_marks : Addr} {fd_law_marks : FuncData} (G_law_marks : FnOk P w K mg base CX0 1 a_law_marks fd_law_marks ["diagram"] spMarks) (g_law_marks : mg "_law_marks" = some (.ref a_law_marks)) (k_law_marks : PySem.W.keepIn K (.ref a_law_marks) = true) (b_law_marks : Binds K fd_law_marks ["diagram"] [])
    {a_law_marked : Addr} {fd_law_marked : FuncData} (G_law_marked : FnOk P w K mg base CX0 1 a_law_marked fd_law_marked ["n", "m", "marks"] (spMarked K)) (g_law_marked : mg "_law_marked" = some (.ref a_law_marked)) (k_law_marked : PySem.W.keepIn K (.ref a_law_marked) = true) (b_law_marked : Binds K fd_law_marked ["n", "m", "marks"] []) : FnOk P w K mg base CX0 3 f fd ["diagram"] spTurned := by
  refine F.ok sc_law_turned_over (fun vs H Q E h => ?_) (fun cdv A outer s H vs Q E hr h => ?_)
  · obtain ⟨v, n, m, l, rfl, _⟩ := h
    rfl
  · obtain ⟨v, n, m, l, rfl, d, q⟩ := h
    refine ⟨_, (pss_cons (ps_asg (pe_slice sl_tup (pv 0) po_none (po_some pe_int)) (pg_tup rfl (pgs_cons (pg_name (i := 1) sc_law_turned_over.nd rfl (.inl rfl)) (pgs_cons (pg_name (i := 2) sc_law_turned_over.nd rfl (.inl rfl)) pgs_nil))))
  (pss_cons (ps_set (i := 3) sc_law_turned_over.nd rfl (.inl rfl) (pe_call G_law_marks (hr.mono (by decide)) rfl g_law_marks k_law_marks b_law_marks .nil pass0 (pa_cons (pv 0) pa_nil)))
  (pss_one (ps_ret (pe_call G_law_marked (hr.mono (by decide)) rfl g_law_marked k_law_marked b_law_marked .nil pass0 (pa_cons (pv 2) (pa_cons (pv 1) (pa_cons (pe_op op_cat (pe_slice sl_list (pv 3) (po_some (pv 1)) po_none) (pe_slice sl_list (pv 3) po_none (po_some (pv 1)))) pa_nil)))))))), ?_⟩
    have szl : 20000 ≤ sizeLine := by decide
    have hl : l.length = n + m := by have := d.2.2; omega
    have z1 := siz_iff.mp d.2.1
    obtain ⟨t, rfl⟩ : ∃ t, v = .ref t := by
      obtain ⟨⟨t, _, e, _⟩, _⟩ := d
      exact ⟨t, e⟩
    obtain ⟨vb, ht⟩ := d.ix
    refine ⟨_, rfl, _, rfl, t, _, rfl, .inl (.inl ht), (show ¬ (HT.sIx 3 0 none = 0 ∧ HT.sIx 3 3 (some 2) = 3) from by decide), fun p0 np0 => ?_⟩
    have s0 := same_upd (o := .tup (cutV [V.int (n : Int), .int (m : Int), vb] none (some 2))) np0
    have ec : cutV [V.int (n : Int), .int (m : Int), vb] none (some 2) = [V.int (n : Int), .int (m : Int)] := rfl
    have h0 : upd H p0 (.tup (cutV [V.int (n : Int), .int (m : Int), vb] none (some 2))) p0 = some (.tup [V.int (n : Int), .int (m : Int)]) := by rw [upd_same, ec]
    generalize upd H p0 (.tup (cutV [V.int (n : Int), .int (m : Int), vb] none (some 2))) = H0 at s0 h0
    refine ⟨p0, _, rfl, .inl (.inl h0), rfl, _, _, rfl, _, _, rfl, rfl, ?_⟩
    have d0 := d.same s0
    refine ⟨_, rfl, .ref t, n, m, _, rfl, d0.1, d0.dg, by have := d0.dg.few.1; omega, fun D H1 s1 _ hD => ?_⟩
    have e1 : ((n : Int) + (m : Int)).toNat = n + m := by omega
    rw [e1] at hD
    have kL : KerEq l (labL (blocksOf l) (n + m)) := ⟨by rw [labL_len, hl], fun i j hi hj => (lab_ker hl (by omega) (by omega)).symm⟩
    have bs := (ker_cut kL (fun z => ovL n z) (fun g z => by unfold ovL; rw [List.map_append, List.map_drop, List.map_take]) (fun z y hy => (List.mem_append.mp hy).elim List.mem_of_mem_drop List.mem_of_mem_take)).2
    have a1 := labL_len (blocksOf l) (n + m)
    generalize labL (blocksOf l) (n + m) = L1 at hD bs a1
    refine ⟨_, rfl, _, rfl, _, rfl, _, rfl, _, rfl, D, _, rfl, .inl (.inl hD), fun p1 np1 => ?_⟩
    rw [cutI_from (by omega) (by omega), Int.toNat_natCast]
    have w1 := same_upd (o := .lst ((L1.drop n).map V.int)) np1
    refine ⟨_, rfl, _, rfl, _, rfl, D, _, rfl, .inl (.inl (w1 _ _ hD)), fun p2 np2 => ?_⟩
    rw [cutI_to (by omega) (by omega), Int.toNat_natCast]
    have w2 := same_upd (o := .lst ((L1.take n).map V.int)) np2
    refine ⟨_, _, _, _, rfl, rfl, w2 _ _ upd_same, upd_same, by rw [List.length_map, List.length_map, List.length_take, List.length_drop]; omega, fun p3 np3 => ?_⟩
    rw [← List.map_append]
    have w3 := same_upd (o := .lst ((L1.drop n ++ L1.take n).map V.int)) np3
    have lM : (L1.drop n ++ L1.take n).length = m + n := by rw [List.length_append, List.length_take, List.length_drop]; omega
    refine ⟨(m : Int), (n : Int), p3, L1.drop n ++ L1.take n, rfl, .inl (.inl upd_same), by omega, by omega, fun v' H8 s8 _ dv => ?_⟩
    rw [show L1.drop n ++ L1.take n = ovL n L1 from rfl, bs] at dv
    exact q v' H8 (Same.trans s0 (Same.trans s1 (Same.trans w1 (Same.trans w2 (Same.trans w3 s8))))) dv
end

/-! ### the word backwards -/
def gR (n k p : Nat) : Nat := (k - p / n) * n + p % n
theorem gR_at {n k a b : Nat} (h : b < n) : gR n k (a * n + b) = (k - a) * n + b := by
  unfold gR
  rw [Nat.add_comm (a * n) b, Nat.add_mul_div_right _ _ (by omega), Nat.add_mul_mod_self_right, Nat.div_eq_of_lt h, Nat.mod_eq_of_lt h, Nat.zero_add]
theorem gR_spl {n k p : Nat} (h : p < k * n + n) : ∃ a b, a ≤ k ∧ b < n ∧ p = a * n + b := by
  have n0 : 0 < n := by
    rcases Nat.eq_zero_or_pos n with e | e
    · subst e; omega
    · exact e
  refine ⟨p / n, p % n, ?_, Nat.mod_lt _ n0, ?_⟩
  · have : p < (k + 1) * n := by rw [Nat.succ_mul]; exact h
    have := (Nat.div_lt_iff_lt_mul n0).mpr this
    omega
  · rw [Nat.mul_comm]
    exact (Nat.div_add_mod p n).symm
theorem gR_lt {n k p : Nat} (h : p < k * n + n) : gR n k p < k * n + n ∧ gR n k (gR n k p) = p := by
  obtain ⟨a, b, ha, hb, rfl⟩ := gR_spl h
  rw [gR_at hb, gR_at hb]
  refine ⟨?_, by rw [show k - (k - a) = a by omega]⟩
  have : (k - a) * n ≤ k * n := Nat.mul_le_mul_right n (by omega)
  omega
theorem letF : ∀ n : Nat, n < 7 → ∀ y ∈ lettersL "parts" (n : Int), kq (letD n y) (ovL n (letD n y)) = true := by decide +kernel
def sgm (n u : Nat) : Nat := if u < n then n + u else u - n
theorem let_flip {n : Nat} (n6 : n < 7) {y : Lt} (hy : y ∈ lettersL "parts" (n : Int)) {u v : Nat} (h : (u, v) ∈ lbW n y.1 y.2.toNat 0) : Conn (fun a b => (a, b) ∈ lbW n y.1 y.2.toNat 0) (sgm n u) (sgm n v) := by
  have kl := ks_let n6 hy
  have bd := kl.bd u v h
  have ll := kl.len
  have su : sgm n u < n + n := by unfold sgm; split <;> omega
  have sv : sgm n v < n + n := by unfold sgm; split <;> omega
  have e := (kl.eq u v bd.1 bd.2).mpr (.ed h)
  have e2 := ((ker_of_kq (letF n n6 y hy)).2 u v (by omega) (by omega)).mp e
  rw [ovL_co (m := n) ll bd.1, ovL_co (m := n) ll bd.2] at e2
  exact (kl.eq _ _ su sv).mp e2
section
variable {n : Nat} {x : List Lt}
theorem gR_pair (n6 : n < 7) (all : ∀ y ∈ x, y ∈ lettersL "parts" (n : Int)) {i j : Nat} (h : (i, j) ∈ wPr n x x.length) : Conn (fun a b => (a, b) ∈ wPr n x.reverse x.length) (gR n x.length i) (gR n x.length j) := by
  obtain ⟨a, ha, he⟩ := List.mem_flatMap.mp h
  have ha := List.mem_range.mp ha
  obtain ⟨hy, ey⟩ := wd_at all ha
  rw [lbW_up] at he
  obtain ⟨⟨u, v⟩, hz, e⟩ := List.mem_map.mp he
  clear he h
  obtain rfl : a * n + u = i := congrArg Prod.fst e
  obtain rfl : a * n + v = j := congrArg Prod.snd e
  have bd := (ks_let n6 hy).bd u v hz
  have go : ∀ u, u < n + n → gR n x.length (a * n + u) = (x.length - 1 - a) * n + sgm n u := fun u hu => by
    unfold sgm
    by_cases c : u < n
    · rw [if_pos c, gR_at c, show x.length - a = x.length - 1 - a + 1 by omega, Nat.succ_mul, Nat.add_assoc]
    · rw [if_neg c, show a * n + u = (a + 1) * n + (u - n) by rw [Nat.succ_mul]; omega, gR_at (by omega), show x.length - (a + 1) = x.length - 1 - a by omega]
  rw [go u bd.1, go v bd.2]
  refine Conn.map (f := fun z => (x.length - 1 - a) * n + z) (fun c d hcd => .ed ?_) (let_flip n6 hy hz)
  show ((x.length - 1 - a) * n + c, (x.length - 1 - a) * n + d) ∈ wPr n x.reverse x.length
  refine List.mem_flatMap.mpr ⟨x.length - 1 - a, List.mem_range.mpr (by omega), ?_⟩
  have er : x.reverse.getD (x.length - 1 - a) zL = x.getD a zL := by
    rw [List.getD_eq_getElem?_getD, List.getD_eq_getElem?_getD, List.getElem?_reverse (by omega), show x.length - 1 - (x.length - 1 - a) = a by omega]
  rw [er, lbW_up]
  exact List.mem_map.mpr ⟨(c, d), hcd, rfl⟩
theorem gR_one (n6 : n < 7) (all : ∀ y ∈ x, y ∈ lettersL "parts" (n : Int)) {i j : Nat} (hi : i < x.length * n + n) (hj : j < x.length * n + n) (e : co (wT n x x.length) i = co (wT n x x.length) j) : co (wT n x.reverse x.length) (gR n x.length i) = co (wT n x.reverse x.length) (gR n x.length j) := by
  have k1 := ks_wT n6 all (Nat.le_refl _)
  have k2 := ks_wT (x := x.reverse) n6 (fun y hy => all y (List.mem_reverse.mp hy)) (i := x.length) (by rw [List.length_reverse]; exact Nat.le_refl _)
  exact (k2.eq _ _ (gR_lt hi).1 (gR_lt hj).1).mpr (Conn.map (f := gR n x.length) (fun a b h => gR_pair n6 all h) ((k1.eq i j hi hj).mp e))
theorem gR_ker (n6 : n < 7) (all : ∀ y ∈ x, y ∈ lettersL "parts" (n : Int)) {i j : Nat} (hi : i < x.length * n + n) (hj : j < x.length * n + n) : co (wT n x x.length) i = co (wT n x x.length) j ↔ co (wT n x.reverse x.length) (gR n x.length i) = co (wT n x.reverse x.length) (gR n x.length j) := by
  refine ⟨gR_one n6 all hi hj, fun e => ?_⟩
  have h := gR_one (x := x.reverse) n6 (fun y hy => all y (List.mem_reverse.mp hy)) (i := gR n x.length i) (j := gR n x.length j) (by rw [List.length_reverse]; exact (gR_lt hi).1) (by rw [List.length_reverse]; exact (gR_lt hj).1)
  rw [List.length_reverse, List.reverse_reverse, (gR_lt hi).2, (gR_lt hj).2] at h
  exact h e
theorem wd_rev (n6 : n < 7) (all : ∀ y ∈ x, y ∈ lettersL "parts" (n : Int)) : (wdS n x.reverse).1 = (wdS n x).1 ∧ blocksOf (wdS n x.reverse).2 = blocksOf (ovL n (wdS n x).2) := by
  rcases Nat.eq_zero_or_pos x.length with e0 | pos
  · obtain rfl := List.length_eq_zero_iff.mp e0
    refine ⟨rfl, ?_⟩
    have : ovL n (wdS n []).2 = (wdS n []).2 := by
      show (ixs n ++ ixs n).drop n ++ (ixs n ++ ixs n).take n = ixs n ++ ixs n
      rw [List.drop_left' (ixs_len' n), List.take_left' (ixs_len' n)]
    rw [this]
    rfl
  have all' : ∀ y ∈ x.reverse, y ∈ lettersL "parts" (n : Int) := fun y hy => all y (List.mem_reverse.mp hy)
  obtain ⟨a1, a2⟩ := wd_same n6 all x.length (Nat.le_refl _)
  obtain ⟨b1, b2⟩ := wd_same (x := x.reverse) n6 all' x.length (by rw [List.length_reverse]; exact Nat.le_refl _)
  rw [List.take_length] at a1 a2
  rw [show x.reverse.take x.length = x.reverse by rw [← List.length_reverse, List.take_length]] at b1 b2
  have lT := (ks_wT n6 all (Nat.le_refl _)).len
  have lT' := (ks_wT (x := x.reverse) n6 all' (i := x.length) (by rw [List.length_reverse]; exact Nat.le_refl _)).len
  have hk : n ≤ x.length * n := Nat.le_mul_of_pos_left n pos
  have ker := fun {i j : Nat} hi hj => gR_ker n6 all (i := i) (j := j) hi hj
  have top : ∀ {b}, b < n → gR n x.length b = x.length * n + b := fun {b} hb => by
    have := gR_at (n := n) (k := x.length) (a := 0) (b := b) hb
    rw [Nat.zero_mul, Nat.zero_add] at this
    exact this
  have bot : ∀ {b}, b < n → gR n x.length (x.length * n + b) = b := fun {b} hb => by
    rw [gR_at hb, Nat.sub_self, Nat.zero_mul, Nat.zero_add]
  have glt := fun {p : Nat} (h : p < x.length * n + n) => gR_lt h
  generalize wT n x x.length = T at *
  generalize wT n x.reverse x.length = T' at *
  generalize wdS n x = W at *
  generalize wdS n x.reverse = W' at *
  generalize x.length * n = M at *
  have gout : ∀ {p}, p < M + n → (p < n ∨ M ≤ p) → (gR n x.length p < n ∨ M ≤ gR n x.length p) := fun {p} hp h => by
    rcases h with h | h
    · rw [top h]; omega
    · obtain ⟨b, rfl⟩ : ∃ b, p = M + b := ⟨p - M, by omega⟩
      rw [bot (by omega)]; omega
  constructor
  · rw [← a1, ← b1]
    refine (hid_map (a := T') (b := T) (gR n x.length) (fun i hi => by rw [lT']; exact (glt (by omega)).1) (fun i hi => ⟨gR n x.length i, by rw [lT]; exact (glt (by omega)).1, by rw [(glt (by omega)).2]⟩) (fun i j hi hj => ker (by omega) (by omega)) (fun i hi => ?_)).symm
    rw [inout_mem hk (by omega), inout_mem hk (by omega)]
    constructor
    · rintro ⟨p, hp, hp2, e⟩
      exact ⟨gR n x.length p, gout (by omega) hp, by rw [lT']; exact (glt (by omega)).1, (ker (by omega) (by omega)).mp e⟩
    · rintro ⟨p, hp, hp2, e⟩
      have g := glt (p := p) (by omega)
      refine ⟨gR n x.length p, gout (by omega) hp, by rw [lT]; exact g.1, (ker g.1 (by omega)).mpr ?_⟩
      rw [g.2]
      exact e
  · have lO : (inoutL n M T).length = n + n := by rw [inout_len hk (by omega)]; omega
    have lO' : (inoutL n M T').length = n + n := by rw [inout_len hk (by omega)]; omega
    have lW : W.2.length = n + n := by rw [← a2.1, lO]
    rw [← b2.symm'.blocks]
    refine KerEq.blocks ⟨by rw [ovL_len (by omega), lW, lO'], fun i j hi hj => ?_⟩
    rw [ovL_len (by omega), lW] at hi hj
    have h1 : ∀ i, i < n + n → ∃ p, p < M + n ∧ co (inoutL n M T) (if i < n then n + i else i - n) = co T p ∧ co (inoutL n M T') i = co T' (gR n x.length p) := fun i hi => by
      by_cases c : i < n
      · refine ⟨M + i, by omega, ?_, ?_⟩
        · rw [if_pos c, inout_co hk (by omega) _ (by omega), if_neg (by omega), show M + (n + i - n) = M + i by omega]
        · rw [bot c, inout_co hk (by omega) _ (by omega), if_pos c]
      · refine ⟨i - n, by omega, ?_, ?_⟩
        · rw [if_neg c, inout_co hk (by omega) _ (by omega), if_pos (by omega)]
        · rw [top (by omega), inout_co hk (by omega) _ (by omega), if_neg c]
    obtain ⟨p, hp, e1, e2⟩ := h1 i hi
    obtain ⟨q, hq, e3, e4⟩ := h1 j hj
    rw [ovL_co (m := n) lW hi, ovL_co (m := n) lW hj, ← a2.2 _ _ (by rw [lO]; split <;> omega) (by rw [lO]; split <;> omega), e1, e2, e3, e4]
    exact ker hp hq
end

/-! ### a word's text is read back -/
open _root_.TL
theorem letB : ∀ n : Nat, n < 7 → ∀ y ∈ lettersL "parts" (n : Int), letOf (lettersL "parts" (n : Int)) (letT y) = some y ∧ (32 : Nat) ∉ tl (letT y) := by decide +kernel
theorem rdW_map {l : List Lt} : ∀ (x : List Lt) (i : Nat), (∀ y ∈ x, letOf l (letT y) = some y) → i + x.length ≤ 60 → rdW l i (x.map letT) = .inr x
  | [], i, _, _ => by
    rw [List.map_nil, rdW]
  | y :: x, i, h, hl => by
    rw [List.length_cons] at hl
    rw [List.map_cons, rdW_cons, if_neg (by omega), h y (.head _)]
    show (match rdW l (i + 1) (x.map letT) with
      | .inl j => (.inl j : Int ⊕ List Lt)
      | .inr w => (.inr (y :: w) : Int ⊕ List Lt)) = _
    rw [rdW_map x (i + 1) (fun z hz => h z (.tail _ hz)) (by omega)]
theorem rd_wd {n : Nat} {x : List Lt} (n6 : n < 7) (all : ∀ y ∈ x, y ∈ lettersL "parts" (n : Int)) (l60 : x.length ≤ 60) (ne : x ≠ []) : rdW (lettersL "parts" (n : Int)) 0 (Txt.split (wdT x) " ") = .inr x := by
  have e : wdT x = Txt.join " " (x.map letT) := by
    unfold wdT
    rw [if_neg ne]
  have sp : Txt.split (Txt.join " " (x.map letT)) " " = x.map letT := split_join (y := " ") (s := 32) (S := []) rfl (by decide +kernel) (fun z => ne (List.map_eq_nil_iff.mp z)) (fun p hp => by
    obtain ⟨y, hy, rfl⟩ := List.mem_map.mp hp
    exact (letB n n6 y (all y hy)).2)
  rw [e, sp]
  exact rdW_map x 0 (fun y hy => (letB n n6 y (all y hy)).1) (by omega)

/-! ### texts that are no texts of words -/
theorem rdW_bad {l : List Lt} {b : Str} (hb : letOf l b = none) (r : List Str) : ∀ (x : List Lt) (i : Nat), (∀ y ∈ x, letOf l (letT y) = some y) → i + x.length ≤ 60 → rdW l i (x.map letT ++ b :: r) = .inl ((i + x.length : Nat) : Int)
  | [], i, _, hi => by
    rw [List.map_nil, List.nil_append, rdW_cons, hb, List.length_nil]
    split <;> rfl
  | y :: x, i, h, hl => by
    rw [List.length_cons] at hl
    rw [List.map_cons, List.cons_append, rdW_cons, if_neg (by omega), h y (.head _)]
    show (match rdW l (i + 1) (x.map letT ++ b :: r) with
      | .inl j => (.inl j : Int ⊕ List Lt)
      | .inr w => (.inr (y :: w) : Int ⊕ List Lt)) = _
    rw [rdW_bad hb r x (i + 1) (fun z hz => h z (.tail _ hz)) (by omega), List.length_cons, show i + 1 + x.length = i + (x.length + 1) by omega]
def badT (n : Nat) : List Str := ["s9", "x0", "s", "s00", "", ("p" : Str) ++ numI (n : Int), "0s", "s-1"]
theorem badT_no : ∀ n : Nat, n < 7 → ∀ b ∈ badT n, letOf (lettersL "parts" (n : Int)) b = none ∧ (32 : Nat) ∉ _root_.TL.tl b ∧ b.length ≤ 3 := by decide +kernel
theorem rd_bad {n : Nat} {x : List Lt} (n6 : n < 7) (all : ∀ y ∈ x, y ∈ lettersL "parts" (n : Int)) (l60 : x.length ≤ 60) {b : Str} (hb : b ∈ badT n) (k : Nat) (hk : k ≤ x.length) :
    rdW (lettersL "parts" (n : Int)) 0 (Txt.split (Txt.join " " ((x.map letT).take k ++ [b] ++ (x.map letT).drop k)) " ") = .inl (k : Int) := by
  obtain ⟨b1, b2, _⟩ := badT_no n n6 b hb
  have no : ∀ p ∈ x.map letT, (32 : Nat) ∉ _root_.TL.tl p := fun p hp => by
    obtain ⟨y, hy, rfl⟩ := List.mem_map.mp hp
    exact (letB n n6 y (all y hy)).2
  have sp := _root_.TL.split_join (y := " ") (s := 32) (S := []) rfl (by decide +kernel) (parts := (x.map letT).take k ++ [b] ++ (x.map letT).drop k) (by simp) (fun p hp => by
    rcases List.mem_append.mp hp with hp | hp
    · rcases List.mem_append.mp hp with hp | hp
      · exact no p (List.mem_of_mem_take hp)
      · rw [List.mem_singleton.mp hp]; exact b2
    · exact no p (List.mem_of_mem_drop hp))
  rw [sp, List.append_assoc, List.singleton_append, ← List.map_take]
  have := rdW_bad b1 ((x.map letT).drop k) (x.take k) 0 (fun y hy => (letB n n6 y (all y (List.mem_of_mem_take hy))).1) (by rw [List.length_take]; omega)
  rw [this, List.length_take, show 0 + min k x.length = k by omega]
theorem rd_empty : ∀ n : Nat, n < 7 → rdW (lettersL "parts" (n : Int)) 0 (Txt.split "" " ") = .inl 0 := by decide +kernel

/-! ### families are kept, link by link -/
def okUD (z : Str) (u d : Nat) : Prop :=
  (z = "threads" → (u = 1 ∧ d = 1) ∨ (u = 0 ∧ d = 0)) ∧ (z = "loose" → u ≤ 1 ∧ d ≤ 1) ∧ (z = "pairs" → u + d = 2 ∨ u + d = 0) ∧ (z = "lonepairs" → u + d ≤ 2) ∧ (z = "even" → (u + d) % 2 = 0)
theorem okUD_zero (z : Str) : okUD z 0 0 := ⟨fun _ => .inr ⟨rfl, rfl⟩, fun _ => ⟨by decide, by decide⟩, fun _ => .inr rfl, fun _ => by decide, fun _ => rfl⟩
theorem okUD_dec {z : Str} {u d : Nat} (h : okUD z (u + 1) (d + 1)) : okUD z u d := by
  obtain ⟨a, b, c, e, f⟩ := h
  exact ⟨fun x => by have := a x; omega, fun x => by have := b x; omega, fun x => by have := c x; omega, fun x => by have := e x; omega, fun x => by have := f x; omega⟩
theorem okUD_join {z : Str} {u1 u2 d1 d2 : Nat} (h : okUD z u1 (d1 + 1)) (k : okUD z (u2 + 1) d2) : okUD z (u1 + u2) (d1 + d2) := by
  obtain ⟨a, b, c, e, f⟩ := h
  obtain ⟨a', b', c', e', f'⟩ := k
  exact ⟨fun x => by have := a x; have := a' x; omega, fun x => by have := b x; have := b' x; omega, fun x => by have := c x; have := c' x; omega, fun x => by have := e x; have := e' x; omega, fun x => by have := f x; have := f' x; omega⟩
def cN (N : Nat) (p : Nat → Bool) (J : List Int) (v : Int) : Nat := (List.range N).countP fun i => p i && decide (co J i = v)
theorem cN_succ (N : Nat) (p : Nat → Bool) (J : List Int) (v : Int) : cN (N + 1) p J v = cN N p J v + if p N = true ∧ co J N = v then 1 else 0 := by
  unfold cN
  rw [List.range_succ, List.countP_append, List.countP_singleton]
  congr 1
  by_cases c : p N = true ∧ co J N = v
  · rw [if_pos c, if_pos (by rw [c.1, decide_eq_true c.2]; rfl)]
  · rw [if_neg c, if_neg fun z => c (by rw [Bool.and_eq_true, decide_eq_true_eq] at z; exact z)]
theorem cN_congr {p p' : Nat → Bool} {J J' : List Int} {v v' : Int} : ∀ {N : Nat}, (∀ i, i < N → ((p i = true ∧ co J i = v) ↔ (p' i = true ∧ co J' i = v'))) → cN N p J v = cN N p' J' v'
  | 0, _ => rfl
  | N + 1, h => by
    rw [cN_succ, cN_succ, cN_congr (N := N) fun i hi => h i (by omega)]
    congr 1
    have := h N (by omega)
    by_cases c : p N = true ∧ co J N = v
    · rw [if_pos c, if_pos (this.mp c)]
    · rw [if_neg c, if_neg fun z => c (this.mpr z)]
theorem cN_zero {p : Nat → Bool} {J : List Int} {v : Int} : ∀ {N : Nat}, (∀ i, i < N → p i = true → co J i ≠ v) → cN N p J v = 0
  | 0, _ => rfl
  | N + 1, h => by
    rw [cN_succ, cN_zero (N := N) fun i hi => h i (by omega), if_neg fun z => h N (by omega) z.1 z.2]
def del (p : Nat → Bool) (y : Nat) : Nat → Bool := fun i => p i && decide (i ≠ y)
theorem del_iff {p : Nat → Bool} {y i : Nat} : del p y i = true ↔ p i = true ∧ i ≠ y := by
  unfold del
  rw [Bool.and_eq_true, decide_eq_true_eq]
theorem cN_del {p : Nat → Bool} {J : List Int} {v : Int} {y : Nat} (hy : p y = true) : ∀ {N : Nat}, y < N → cN N p J v = cN N (del p y) J v + if co J y = v then 1 else 0
  | 0, h => absurd h (Nat.not_lt_zero _)
  | N + 1, h => by
    rw [cN_succ, cN_succ]
    by_cases c : y = N
    · subst c
      have e : cN y p J v = cN y (del p y) J v := cN_congr fun i hi => by
        rw [del_iff]
        exact ⟨fun z => ⟨⟨z.1, by omega⟩, z.2⟩, fun z => ⟨z.1.1, z.2⟩⟩
      rw [e, if_neg (c := del p y y = true ∧ _) fun z => (del_iff.mp z.1).2 rfl]
      by_cases d : co J y = v
      · rw [if_pos ⟨hy, d⟩, if_pos d]
      · rw [if_neg fun z => d z.2, if_neg d]
    · rw [cN_del hy (N := N) (by omega)]
      have e : (if p N = true ∧ co J N = v then 1 else 0) = if del p y N = true ∧ co J N = v then 1 else 0 := by
        by_cases d : p N = true ∧ co J N = v
        · rw [if_pos d, if_pos ⟨del_iff.mpr ⟨d.1, fun z => c z.symm⟩, d.2⟩]
        · rw [if_neg d, if_neg fun z => d ⟨(del_iff.mp z.1).1, z.2⟩]
      rw [e]
      omega
theorem cN_merge {p : Nat → Bool} {J J' : List Int} {lo hi v : Int} (ne : lo ≠ hi) : ∀ {N : Nat}, (∀ i, i < N → co J' i = if co J i = hi then lo else co J i) →
    cN N p J' v = if v = lo then cN N p J lo + cN N p J hi else if v = hi then 0 else cN N p J v
  | 0, _ => by
    show 0 = _
    split
    · rfl
    · split <;> rfl
  | N + 1, h => by
    rw [cN_succ, cN_merge ne (N := N) fun i hi => h i (by omega), cN_succ, cN_succ, cN_succ, h N (by omega)]
    by_cases c : p N = true
    · by_cases c1 : v = lo
      · subst c1
        rw [if_pos rfl, if_pos rfl]
        by_cases c2 : co J N = hi
        · rw [if_pos c2, if_pos ⟨c, rfl⟩, if_neg fun z => ne (z.2.symm.trans c2), if_pos ⟨c, c2⟩]
          omega
        · rw [if_neg c2, if_neg (c := p N = true ∧ co J N = hi) fun z => c2 z.2]
          by_cases c3 : co J N = v
          · rw [if_pos ⟨c, c3⟩]
            omega
          · rw [if_neg fun z => c3 z.2]
            omega
      · rw [if_neg c1, if_neg c1]
        by_cases c4 : v = hi
        · subst c4
          rw [if_pos rfl, if_pos rfl]
          by_cases c2 : co J N = v
          · rw [if_pos c2, if_neg fun z => ne z.2]
          · rw [if_neg c2, if_neg fun z => c2 z.2]
        · rw [if_neg c4, if_neg c4]
          congr 1
          by_cases c2 : co J N = hi
          · rw [if_pos c2, if_neg fun z => c1 z.2.symm, if_neg fun z => c4 (z.2.symm.trans c2)]
          · rw [if_neg c2]
    · rw [if_neg (c := p N = true ∧ _) fun z => c z.1, if_neg (c := p N = true ∧ _) fun z => c z.1, if_neg (c := p N = true ∧ _) fun z => c z.1, if_neg (c := p N = true ∧ _) fun z => c z.1]
      rfl
theorem fam_step {z : Str} {J : List Int} {N x y : Nat} {up dn : Nat → Bool} (hN : J.length = N) (hx : x < N) (hy : y < N) (hu : up y = true) (hd : dn x = true) (g : ∀ v, okUD z (cN N up J v) (cN N dn J v)) (v : Int) :
    okUD z (cN N (del up y) (jn J x y) v) (cN N (del dn x) (jn J x y) v) := by
  have eu := fun v => cN_del (J := J) (v := v) hu hy
  have ed := fun v => cN_del (J := J) (v := v) hd hx
  by_cases c : co J x = co J y
  · have e : jn J x y = J := by
      unfold jn
      rw [c, if_neg (c := co J y > co J y) (Int.lt_irrefl _)]
      conv => rhs; rw [← List.map_id J]
      refine List.map_congr_left fun a _ => ?_
      split
      · rename_i h
        exact h.symm
      · rfl
    rw [e]
    have h := g v
    rw [eu, ed, c] at h
    by_cases d : co J y = v
    · rw [if_pos d] at h
      exact okUD_dec h
    · rw [if_neg d] at h
      exact h
  · have ga := g (co J x)
    have gb := g (co J y)
    rw [eu, ed, if_neg fun z => c z.symm, if_pos rfl] at ga
    rw [eu, ed, if_pos rfl, if_neg c] at gb
    have both := okUD_join ga gb
    obtain ⟨lo, hi, ne, hm, hh⟩ : ∃ lo hi, lo ≠ hi ∧ (∀ i, i < N → co (jn J x y) i = if co J i = hi then lo else co J i) ∧ ((lo = co J x ∧ hi = co J y) ∨ (lo = co J y ∧ hi = co J x)) := by
      rcases Int.lt_or_gt_of_ne c with d | d
      · refine ⟨co J x, co J y, c, fun i hi => ?_, .inl ⟨rfl, rfl⟩⟩
        unfold jn
        rw [co_map_lt (by omega), if_pos (c := co J y > co J x) d, if_neg (c := co J y < co J x) (by omega)]
      · refine ⟨co J y, co J x, fun z => c z.symm, fun i hi => ?_, .inr ⟨rfl, rfl⟩⟩
        unfold jn
        rw [co_map_lt (by omega), if_neg (c := co J y > co J x) (by omega), if_pos (c := co J y < co J x) d]
    rw [cN_merge ne hm, cN_merge ne hm]
    by_cases c1 : v = lo
    · rw [if_pos c1, if_pos c1]
      rcases hh with ⟨rfl, rfl⟩ | ⟨rfl, rfl⟩
      · exact both
      · rw [Nat.add_comm (cN N (del up y) J (co J y)), Nat.add_comm (cN N (del dn x) J (co J y))]
        exact both
    · rw [if_neg c1, if_neg c1]
      by_cases c2 : v = hi
      · rw [if_pos c2, if_pos c2]
        exact okUD_zero z
      · rw [if_neg c2, if_neg c2]
        have h := g v
        have n1 : ¬ co J y = v := fun z => by
          rcases hh with ⟨h1, h2⟩ | ⟨h1, h2⟩
          · exact c2 (by rw [h2, z])
          · exact c1 (by rw [h1, z])
        have n2 : ¬ co J x = v := fun z => by
          rcases hh with ⟨h1, h2⟩ | ⟨h1, h2⟩
          · exact c1 (by rw [h1, z])
          · exact c2 (by rw [h2, z])
        rw [eu, ed, if_neg n1, if_neg n2] at h
        exact h
theorem cN_cut {p : Nat → Bool} {J : List Int} {v : Int} {M : Nat} : ∀ {K : Nat}, (∀ i, M ≤ i → i < M + K → p i = true → co J i ≠ v) → cN (M + K) p J v = cN M p J v
  | 0, _ => rfl
  | K + 1, h => by
    rw [← Nat.add_assoc, cN_succ, cN_cut (K := K) fun i hi hj => h i hi (by omega), if_neg fun z => h (M + K) (by omega) (by omega) z.1 z.2]
    rfl
theorem cN_shift {p p' : Nat → Bool} {J J' : List Int} {v v' : Int} {M : Nat} (h0 : ∀ i, i < M → p i = true → co J i ≠ v) : ∀ {K : Nat}, (∀ a, a < K → ((p (M + a) = true ∧ co J (M + a) = v) ↔ (p' a = true ∧ co J' a = v'))) → cN (M + K) p J v = cN K p' J' v'
  | 0, _ => cN_zero h0
  | K + 1, h => by
    rw [← Nat.add_assoc, cN_succ, cN_succ, cN_shift h0 (K := K) fun a ha => h a (by omega)]
    congr 1
    have := h K (by omega)
    by_cases c : p (M + K) = true ∧ co J (M + K) = v
    · rw [if_pos c, if_pos (this.mp c)]
    · rw [if_neg c, if_neg fun z => c (this.mpr z)]
/-- a block by its points above and below -/
def loP (n : Nat) : Int → Bool := fun x => decide (x < (n : Int))
def hiP (n : Nat) : Int → Bool := fun x => decide ((n : Int) ≤ x)
theorem lo_hi (n : Nat) : ∀ b : List Int, b.length = b.countP (loP n) + b.countP (hiP n)
  | [] => rfl
  | x :: b => by
    rw [List.length_cons, lo_hi n b, List.countP_cons, List.countP_cons]
    unfold loP hiP
    by_cases c : x < (n : Int)
    · rw [if_pos (decide_eq_true c), if_neg (by rw [decide_eq_true_eq]; omega)]
      omega
    · rw [if_neg (by rw [decide_eq_true_eq]; omega), if_pos (decide_eq_true (by omega))]
      omega
theorem strand_ud {n : Nat} {b : List Int} (asc : b.Pairwise (· < ·)) : strandB n b = true ↔ b.countP (loP n) = 1 ∧ b.countP (hiP n) = 1 := by
  have lh := lo_hi n b
  match b, asc, lh with
  | [], _, _ => exact ⟨fun z => absurd z (by unfold strandB; simp), fun z => absurd (show (0 : Nat) = 1 from z.1) (by decide)⟩
  | [x], _, lh => exact ⟨fun z => absurd z (by unfold strandB; simp), fun z => by rw [z.1, z.2] at lh; exact absurd (show (1 : Nat) = 2 from lh) (by decide)⟩
  | [x, y], asc, lh =>
    have xy : x < y := (List.pairwise_cons.mp asc).1 y (List.mem_singleton.mpr rfl)
    have e : strandB n [x, y] = decide (x < (n : Int) ∧ (n : Int) ≤ y) := rfl
    rw [e, decide_eq_true_eq]
    unfold loP hiP
    rw [List.countP_cons, List.countP_cons, List.countP_cons, List.countP_cons, List.countP_nil, List.countP_nil]
    by_cases c1 : x < (n : Int)
    · rw [if_pos (c := decide (x < (n : Int)) = true) (decide_eq_true c1), if_neg (c := decide ((n : Int) ≤ x) = true) (by rw [decide_eq_true_eq]; omega)]
      by_cases c2 : y < (n : Int)
      · rw [if_pos (c := decide (y < (n : Int)) = true) (decide_eq_true c2), if_neg (c := decide ((n : Int) ≤ y) = true) (by rw [decide_eq_true_eq]; omega)]
        omega
      · rw [if_neg (c := decide (y < (n : Int)) = true) (by rw [decide_eq_true_eq]; omega), if_pos (c := decide ((n : Int) ≤ y) = true) (decide_eq_true (by omega))]
        omega
    · rw [if_neg (c := decide (x < (n : Int)) = true) (by rw [decide_eq_true_eq]; omega), if_neg (c := decide (y < (n : Int)) = true) (by rw [decide_eq_true_eq]; omega)]
      omega
  | x :: y :: w :: b, _, lh =>
    refine ⟨fun z => absurd z ?_, fun z => ?_⟩
    · unfold strandB
      rw [decide_eq_false (by rw [List.length_cons, List.length_cons, List.length_cons]; omega)]
      simp
    · rw [z.1, z.2, List.length_cons, List.length_cons, List.length_cons] at lh
      omega
theorem block_ud {z : Str} {n : Nat} {b : List Int} (asc : b.Pairwise (· < ·)) (ne : 0 < b.length) : blockOk z n b = true ↔ okUD z (b.countP (loP n)) (b.countP (hiP n)) := by
  have lh := lo_hi n b
  have st := strand_ud (n := n) asc
  unfold blockOk
  by_cases c1 : z = "threads"
  · rw [if_pos c1, st]
    constructor
    · intro h
      refine ⟨fun _ => .inl h, fun x => ?_, fun x => ?_, fun x => ?_, fun x => ?_⟩ <;> rw [c1] at x <;> exact absurd x (by decide)
    · intro h
      rcases h.1 c1 with h | h
      · exact h
      · omega
  rw [if_neg c1]
  by_cases c2 : z = "loose"
  · rw [if_pos c2, Bool.or_eq_true, st, decide_eq_true_eq]
    constructor
    · intro h
      refine ⟨fun x => absurd x c1, fun x => by omega, fun x => ?_, fun x => ?_, fun x => ?_⟩ <;> rw [c2] at x <;> exact absurd x (by decide)
    · intro h
      have := h.2.1 c2
      omega
  rw [if_neg c2]
  unfold sizeOk
  by_cases c3 : z = "pairs"
  · rw [if_pos c3, decide_eq_true_eq]
    constructor
    · intro h
      refine ⟨fun x => absurd x c1, fun x => absurd x c2, fun x => by omega, fun x => ?_, fun x => ?_⟩ <;> rw [c3] at x <;> exact absurd x (by decide)
    · intro h
      have := h.2.2.1 c3
      omega
  rw [if_neg c3]
  by_cases c4 : z = "lonepairs"
  · rw [if_pos c4, decide_eq_true_eq]
    constructor
    · intro h
      refine ⟨fun x => absurd x c1, fun x => absurd x c2, fun x => absurd x c3, fun x => by omega, fun x => ?_⟩
      rw [c4] at x
      exact absurd x (by decide)
    · intro h
      have := h.2.2.2.1 c4
      omega
  rw [if_neg c4]
  by_cases c5 : z = "even"
  · rw [if_pos c5, decide_eq_true_eq]
    constructor
    · intro h
      exact ⟨fun x => absurd x c1, fun x => absurd x c2, fun x => absurd x c3, fun x => absurd x c4, fun x => by omega⟩
    · intro h
      have := h.2.2.2.2 c5
      omega
  rw [if_neg c5]
  exact ⟨fun _ => ⟨fun x => absurd x c1, fun x => absurd x c2, fun x => absurd x c3, fun x => absurd x c4, fun x => absurd x c5⟩, fun _ => rfl⟩
def loI (n : Nat) : Nat → Bool := fun i => decide (i < n)
def hiI (n : Nat) : Nat → Bool := fun i => decide (n ≤ i)
theorem pos_lo (n : Nat) (l : List Int) (w : Int) : (posOf l w).countP (loP n) = cN l.length (loI n) l w := by
  unfold posOf cN
  rw [List.countP_map, List.countP_filter]
  refine List.countP_congr fun i _ => ?_
  show (decide ((i : Int) < n) && decide _) = true ↔ (decide (i < n) && decide _) = true
  rw [Bool.and_eq_true, Bool.and_eq_true, decide_eq_true_eq, decide_eq_true_eq, decide_eq_true_eq]
  omega
theorem pos_hi (n : Nat) (l : List Int) (w : Int) : (posOf l w).countP (hiP n) = cN l.length (hiI n) l w := by
  unfold posOf cN
  rw [List.countP_map, List.countP_filter]
  refine List.countP_congr fun i _ => ?_
  show (decide ((n : Int) ≤ i) && decide _) = true ↔ (decide (n ≤ i) && decide _) = true
  rw [Bool.and_eq_true, Bool.and_eq_true, decide_eq_true_eq, decide_eq_true_eq, decide_eq_true_eq]
  omega
theorem range_co (l : List Int) : (List.range l.length).map (co l) = l := by
  refine List.ext_getElem? fun i => ?_
  rcases Nat.lt_or_ge i l.length with c | c
  · rw [List.getElem?_map, List.getElem?_range c, co_get c]
    rfl
  · rw [List.getElem?_eq_none (by rw [List.length_map, List.length_range]; exact c), List.getElem?_eq_none c]
theorem posOf_len (l : List Int) (v : Int) : (posOf l v).length = l.count v := by
  unfold posOf
  rw [List.length_map]
  have e : l.count v = ((List.range l.length).map (co l)).count v := by rw [range_co]
  rw [e, List.count_eq_countP, List.countP_map, List.countP_eq_length_filter]
  congr 1
theorem posOf_pos {l : List Int} {v : Int} (h : v ∈ l) : 0 < (posOf l v).length := by
  rw [posOf_len]
  exact List.count_pos_iff.mpr h
theorem fam_ud {z : Str} {n : Nat} {l : List Int} : inFam z n (blocksOf l) = true ↔ ∀ w ∈ l, okUD z (cN l.length (loI n) l w) (cN l.length (hiI n) l w) := by
  unfold inFam blocksOf
  rw [List.all_map, List.all_eq_true]
  have key : ∀ w ∈ l, ((blockOk z n ∘ posOf l) w = true ↔ okUD z (cN l.length (loI n) l w) (cN l.length (hiI n) l w)) := fun w hw => by
    rw [← pos_lo, ← pos_hi]
    exact block_ud (posOf_asc l w) (posOf_pos hw)
  have m : ∀ w, w ∈ seenL [] l ↔ w ∈ l := fun w => (seenL_mem l [] w).trans ⟨fun z => z.elim (fun q => nomatch q) id, .inr⟩
  exact ⟨fun h w hw => (key w hw).mp (h w ((m w).mpr hw)), fun h w hw => (key w ((m w).mp hw)).mpr (h w ((m w).mp hw))⟩
def upO (n m k : Nat) : Nat → Bool := fun i => decide (i < n ∨ (n + m + k ≤ i ∧ i < n + m + m))
def dnO (n m k : Nat) : Nat → Bool := fun i => decide ((n + k ≤ i ∧ i < n + m) ∨ n + m + m ≤ i)
def lk (n m k : Nat) : List (Nat × Nat) := (List.range k).map fun j => (n + j, n + m + j)
theorem fam_links {z : Str} {n m q : Nat} {B : List Int} (hB : B.length = n + m + m + q) (g0 : ∀ v, okUD z (cN (n + m + m + q) (upO n m 0) B v) (cN (n + m + m + q) (dnO n m 0) B v)) :
    ∀ k, k ≤ m → (jns B (lk n m k)).length = n + m + m + q ∧ ∀ v, okUD z (cN (n + m + m + q) (upO n m k) (jns B (lk n m k)) v) (cN (n + m + m + q) (dnO n m k) (jns B (lk n m k)) v)
  | 0, _ => ⟨hB, g0⟩
  | k + 1, hk => by
    obtain ⟨hl, g⟩ := fam_links hB g0 k (by omega)
    have e : jns B (lk n m (k + 1)) = jn (jns B (lk n m k)) (n + k) (n + m + k) := by
      unfold jns lk
      rw [List.range_succ, List.map_append, List.foldl_append]
      rfl
    refine ⟨by rw [e, jn_len, hl], fun v => ?_⟩
    rw [e]
    have s := fam_step hl (x := n + k) (y := n + m + k) (up := upO n m k) (dn := dnO n m k) (by omega) (by omega) (decide_eq_true (by omega)) (decide_eq_true (by omega)) g v
    have e1 : cN (n + m + m + q) (del (upO n m k) (n + m + k)) (jn (jns B (lk n m k)) (n + k) (n + m + k)) v = cN (n + m + m + q) (upO n m (k + 1)) (jn (jns B (lk n m k)) (n + k) (n + m + k)) v := cN_congr fun i hi => by
      rw [del_iff]
      unfold upO
      rw [decide_eq_true_eq, decide_eq_true_eq]
      refine and_congr ?_ Iff.rfl
      omega
    have e2 : cN (n + m + m + q) (del (dnO n m k) (n + k)) (jn (jns B (lk n m k)) (n + k) (n + m + k)) v = cN (n + m + m + q) (dnO n m (k + 1)) (jn (jns B (lk n m k)) (n + k) (n + m + k)) v := cN_congr fun i hi => by
      rw [del_iff]
      unfold dnO
      rw [decide_eq_true_eq, decide_eq_true_eq]
      refine and_congr ?_ Iff.rfl
      omega
    rw [e1, e2] at s
    exact s
theorem fam_put {z : Str} {n m q : Nat} {l1 l2 : List Int} (h1 : l1.length = n + m) (h2 : l2.length = m + q) (sm : n + m ≤ 12) (f1 : inFam z n (blocksOf l1) = true) (f2 : inFam z m (blocksOf l2) = true) : inFam z n (blocksOf (putS n m q l1 l2)) = true := by
  rw [← (put_same h1 h2 sm).2]
  have L1 : (labL (blocksOf l1) (n + m)).length = n + m := labL_len _ _
  have L2 : (labL (blocksOf l2) (m + q)).length = m + q := labL_len _ _
  have lB : (lputB n m q l1 l2).length = n + m + m + q := by
    unfold lputB
    rw [List.length_append, List.length_map, L1, L2]
    omega
  have cl : ∀ i, i < n + m → co (lputB n m q l1 l2) i = co (labL (blocksOf l1) (n + m)) i := fun i hi => co_app_l (by omega)
  have cr : ∀ a, a < m + q → co (lputB n m q l1 l2) (n + m + a) = 100 + co (labL (blocksOf l2) (m + q)) a := fun a ha => by
    have := co_app_r (a := labL (blocksOf l1) (n + m)) (b := (labL (blocksOf l2) (m + q)).map fun k => 100 + k) (i := a) (by rw [List.length_map]; omega)
    rw [L1] at this
    exact this.trans (co_map_lt (by omega))
  have b1 : (blocksOf l1).length ≤ 12 := by
    have h3 := seenL_len l1 []
    have h4 : ([] : List Int).length = 0 := rfl
    unfold blocksOf
    rw [List.length_map]
    omega
  have lo : ∀ i, i < n + m → co (lputB n m q l1 l2) i < 100 := fun i hi => by
    rw [cl i hi]
    have := (labL_mem _ (co_mem (l := labL (blocksOf l1) (n + m)) (k := i) (by omega))).2
    omega
  have hi : ∀ a, a < m + q → 100 ≤ co (lputB n m q l1 l2) (n + m + a) := fun a ha => by
    rw [cr a ha]
    have := (labL_mem _ (co_mem (l := labL (blocksOf l2) (m + q)) (k := a) (by omega))).1
    omega
  have g0 : ∀ v, okUD z (cN (n + m + m + q) (upO n m 0) (lputB n m q l1 l2) v) (cN (n + m + m + q) (dnO n m 0) (lputB n m q l1 l2) v) := fun v => by
    rw [show n + m + m + q = n + m + (m + q) by omega]
    by_cases c : ∃ i, i < n + m ∧ co (lputB n m q l1 l2) i = v
    · obtain ⟨i0, hi0, rfl⟩ := c
      have f := fam_ud.mp f1 (co l1 i0) (co_mem (by omega))
      rw [h1] at f
      have far : ∀ p : Nat → Bool, ∀ i, n + m ≤ i → i < n + m + (m + q) → p i = true → co (lputB n m q l1 l2) i ≠ co (lputB n m q l1 l2) i0 := fun p i a b _ z => by
        have x := hi (i - (n + m)) (by omega)
        rw [show n + m + (i - (n + m)) = i by omega] at x
        have y := lo i0 hi0
        omega
      rw [cN_cut (far _), cN_cut (far _)]
      have same : ∀ i, i < n + m → (co (lputB n m q l1 l2) i = co (lputB n m q l1 l2) i0 ↔ co l1 i = co l1 i0) := fun i hi => by rw [cl i hi, cl i0 hi0]; exact lab_ker h1 hi hi0
      have e1 : cN (n + m) (upO n m 0) (lputB n m q l1 l2) (co (lputB n m q l1 l2) i0) = cN (n + m) (loI n) l1 (co l1 i0) := cN_congr fun i hi => by
        rw [same i hi]
        unfold upO loI
        rw [decide_eq_true_eq, decide_eq_true_eq]
        refine and_congr ?_ Iff.rfl
        omega
      have e2 : cN (n + m) (dnO n m 0) (lputB n m q l1 l2) (co (lputB n m q l1 l2) i0) = cN (n + m) (hiI n) l1 (co l1 i0) := cN_congr fun i hi => by
        rw [same i hi]
        unfold dnO hiI
        rw [decide_eq_true_eq, decide_eq_true_eq]
        refine and_congr ?_ Iff.rfl
        omega
      rw [e1, e2]
      exact f
    · have none : ∀ p : Nat → Bool, ∀ i, i < n + m → p i = true → co (lputB n m q l1 l2) i ≠ v := fun p i hi _ z => c ⟨i, hi, z⟩
      by_cases d : ∃ a, a < m + q ∧ co (lputB n m q l1 l2) (n + m + a) = v
      · obtain ⟨a0, ha0, rfl⟩ := d
        have f := fam_ud.mp f2 (co l2 a0) (co_mem (by omega))
        rw [h2] at f
        have same : ∀ a, a < m + q → (co (lputB n m q l1 l2) (n + m + a) = co (lputB n m q l1 l2) (n + m + a0) ↔ co l2 a = co l2 a0) := fun a ha => by
          rw [cr a ha, cr a0 ha0]
          exact ⟨fun z => (lab_ker h2 ha ha0).mp (by omega), fun z => by rw [(lab_ker h2 ha ha0).mpr z]⟩
        have e1 := cN_shift (p := upO n m 0) (p' := loI m) (J' := l2) (v' := co l2 a0) (none _) (K := m + q) fun a ha => by
          rw [same a ha]
          unfold upO loI
          rw [decide_eq_true_eq, decide_eq_true_eq]
          refine and_congr ?_ Iff.rfl
          omega
        have e2 := cN_shift (p := dnO n m 0) (p' := hiI m) (J' := l2) (v' := co l2 a0) (none _) (K := m + q) fun a ha => by
          rw [same a ha]
          unfold dnO hiI
          rw [decide_eq_true_eq, decide_eq_true_eq]
          refine and_congr ?_ Iff.rfl
          omega
        rw [e1, e2]
        exact f
      · have all : ∀ p : Nat → Bool, ∀ i, i < n + m + (m + q) → p i = true → co (lputB n m q l1 l2) i ≠ v := fun p i hi _ z => by
          by_cases e : i < n + m
          · exact c ⟨i, e, z⟩
          · exact d ⟨i - (n + m), by omega, by rw [show n + m + (i - (n + m)) = i by omega]; exact z⟩
        rw [cN_zero (all _), cN_zero (all _)]
        exact okUD_zero z
  obtain ⟨lJ, g⟩ := fam_links lB g0 m (Nat.le_refl _)
  have eJ : jns (lputB n m q l1 l2) (lk n m m) = lputJ n m q l1 l2 := rfl
  rw [eJ] at lJ g
  have lS : (lputS n m q l1 l2).length = n + q := by
    unfold lputS
    rw [inout_len (by omega) (by omega)]
    omega
  have cS : ∀ i, i < n + q → co (lputS n m q l1 l2) i = if i < n then co (lputJ n m q l1 l2) i else co (lputJ n m q l1 l2) (n + m + m + (i - n)) := fun i hi => inout_co (by omega) (by omega) i (by omega)
  refine fam_ud.mpr fun w _ => ?_
  rw [lS]
  have gw := g w
  have e1 : cN (n + q) (loI n) (lputS n m q l1 l2) w = cN (n + m + m + q) (upO n m m) (lputJ n m q l1 l2) w := by
    have q1 : cN (n + q) (loI n) (lputS n m q l1 l2) w = cN n (loI n) (lputS n m q l1 l2) w := cN_cut fun i a _ b => by
      have b : i < n := of_decide_eq_true b
      omega
    have q2 : cN (n + (m + m + q)) (upO n m m) (lputJ n m q l1 l2) w = cN n (upO n m m) (lputJ n m q l1 l2) w := cN_cut fun i a _ b => by
      have b : i < n ∨ (n + m + m ≤ i ∧ i < n + m + m) := of_decide_eq_true b
      omega
    rw [q1, show n + m + m + q = n + (m + m + q) by omega, q2]
    refine cN_congr fun i hi => ?_
    rw [cS i (by omega), if_pos hi]
    unfold upO loI
    rw [decide_eq_true_eq, decide_eq_true_eq]
    refine and_congr ?_ Iff.rfl
    omega
  have e2 : cN (n + q) (hiI n) (lputS n m q l1 l2) w = cN (n + m + m + q) (dnO n m m) (lputJ n m q l1 l2) w := by
    have q1 : cN (n + q) (hiI n) (lputS n m q l1 l2) w = cN q (fun _ => true) ((lputJ n m q l1 l2).drop (n + m + m)) w := cN_shift (fun i a b => by
      have b : n ≤ i := of_decide_eq_true b
      omega) fun a ha => by
        rw [co_drop, cS _ (by omega), if_neg (by omega), show n + a - n = a by omega]
        unfold hiI
        rw [decide_eq_true_eq]
        exact ⟨fun z => ⟨rfl, z.2⟩, fun z => ⟨by omega, z.2⟩⟩
    have q2 : cN (n + m + m + q) (dnO n m m) (lputJ n m q l1 l2) w = cN q (fun _ => true) ((lputJ n m q l1 l2).drop (n + m + m)) w := cN_shift (fun i a b => by
      have b : (n + m ≤ i ∧ i < n + m) ∨ n + m + m ≤ i := of_decide_eq_true b
      omega) fun a ha => by
        rw [co_drop]
        unfold dnO
        rw [decide_eq_true_eq]
        exact ⟨fun z => ⟨rfl, z.2⟩, fun z => ⟨by omega, z.2⟩⟩
    rw [q1, q2]
  rw [e1, e2]
  exact gw

/-! ### the family of a word -/
theorem letFam : ∀ z ∈ fams, ∀ n : Nat, n < 7 → ∀ y ∈ lettersL z (n : Int), inFam z (n : Int) (blocksOf (letD n y)) = true ∧ (letD n y).length = n + n := by decide +kernel
theorem unitFam : ∀ z ∈ fams, ∀ n : Nat, n < 7 → inFam z (n : Int) (blocksOf (ixs n ++ ixs n)) = true := by decide +kernel
theorem kinds_sub : ∀ z ∈ fams, ∀ k ∈ kindL z, k ∈ kindL "parts" := by decide +kernel
theorem letters_sub {z : Str} (mz : z ∈ fams) {n : Int} {y : Lt} (h : y ∈ lettersL z n) : y ∈ lettersL "parts" n := by
  obtain ⟨k, hk, hy⟩ := List.mem_flatMap.mp h
  exact List.mem_flatMap.mpr ⟨k, kinds_sub z mz k hk, hy⟩
theorem letters_kind {z : Str} {n : Int} {y : Lt} (h : y ∈ lettersL "parts" n) : y ∈ lettersL z n ↔ y.1 ∈ kindL z := by
  obtain ⟨k, hk, hy⟩ := List.mem_flatMap.mp h
  obtain ⟨i, hi, rfl⟩ := List.mem_map.mp hy
  constructor
  · intro h2
    obtain ⟨k2, hk2, hy2⟩ := List.mem_flatMap.mp h2
    obtain ⟨i2, _, e⟩ := List.mem_map.mp hy2
    have : k2 = k := congrArg Prod.fst e
    exact this ▸ hk2
  · intro h2
    exact List.mem_flatMap.mpr ⟨k, h2, hy⟩
theorem wdS_fam {z : Str} (mz : z ∈ fams) {n : Nat} (n6 : n < 7) : ∀ (x : List Lt) (s : Nat × List Int), (∀ y ∈ x, y ∈ lettersL z (n : Int)) → s.2.length = n + n → inFam z (n : Int) (blocksOf s.2) = true → (x.foldl (wdStep n) s).2.length = n + n ∧ inFam z (n : Int) (blocksOf (x.foldl (wdStep n) s).2) = true
  | [], s, _, h1, h2 => ⟨h1, h2⟩
  | y :: x, s, all, h1, h2 => by
    obtain ⟨f, l⟩ := letFam z mz n n6 y (all y (.head _))
    refine wdS_fam mz n6 x (wdStep n s y) (fun w hw => all w (.tail _ hw)) ?_ ?_
    · show (putS n n n s.2 (letD n y)).length = n + n
      have lp := (ks_putM h1 l).len
      show (inoutL n (n + n) _).length = _
      rw [inout_len (by omega) (by omega)]
      omega
    · exact fam_put h1 l (by omega) h2 f
theorem wd_fam {z : Str} (mz : z ∈ fams) {n : Nat} (n6 : n < 7) {x : List Lt} (all : ∀ y ∈ x, y ∈ lettersL z (n : Int)) : (wdS n x).2.length = n + n ∧ inFam z (n : Int) (blocksOf (wdS n x).2) = true :=
  wdS_fam mz n6 x (0, ixs n ++ ixs n) all (by rw [List.length_append, ixs_len']) (unitFam z mz n n6)

open _root_.TL
theorem op_mul_str {X : Cx} : OpR X (binaryOp .Mult) (fun x y H Q => ∃ (i : Str) (n : Int), x = .str i ∧ y = .int n ∧ MulOk i n ∧ Q (.str (Txt.mul i n)) H) := by
  intro pins s σ H x y v u Q I rx ry h
  obtain ⟨i, n, rfl, rfl, hc, q⟩ := h
  obtain ⟨t, rfl⟩ := rx
  obtain ⟨t', rfl⟩ := ry
  exact PySem.SB.mul hc (fun t2 k => ⟨.str _, H, I.tok k, ⟨_, rfl⟩, q⟩)
theorem fold_a : ∀ (k : Nat) (z : Array Nat), ((List.replicate k #[97]).foldl (· ++ ·) z).toList = z.toList ++ List.replicate k 97
  | 0, z => (List.append_nil _).symm
  | k + 1, z => by
    show ((List.replicate k #[97]).foldl (· ++ ·) (z ++ #[97])).toList = _
    rw [fold_a k, Array.toList_append, List.append_assoc]
    rfl
theorem mul_a {n : Int} (h : 2 ≤ n) : Txt.mul "a" n = ⟨(List.replicate n.toNat 97).toArray⟩ := by
  refine ext_tl ?_
  have e1 : ¬ n < 1 := by omega
  have e2 : (n == 1 || ("a" : Str).length == 0) = false := by
    rw [show (("a" : Str).length == 0) = false from rfl, Bool.or_false]
    exact beq_false_of_ne (by omega)
  unfold Txt.mul
  rw [if_neg e1, e2, if_neg Bool.false_ne_true]
  exact fold_a n.toNat #[]
theorem mulOk_a {n : Int} (h : 2 ≤ n) (g : n ≤ 1100) : MulOk "a" n := by
  have e3 : ("a" : Str).length = 1 := rfl
  refine ⟨?_, fun _ _ => ?_, fun _ _ => ?_⟩
  · rw [decide_eq_false (by omega), decide_eq_false (by omega)]
    rfl
  · rw [e3]
    have : (1 : Int) ≤ (2 ^ 63 - 1) / n := by
      rw [Int.le_ediv_iff_mul_le (by omega)]
      omega
    omega
  · rw [e3]
    have szl : 20000 ≤ sizeLine := by decide
    exact decide_eq_false (by omega)

theorem p0_60 : ∀ n : Nat, n < 7 → 0 < n → rdW (lettersL "parts" (n : Int)) 0 (Txt.split (("p0" : Str) ++ Txt.mul " p0" 60) " ") = .inl 60 := by decide +kernel
theorem p0_59 : ∀ n : Nat, n < 7 → 0 < n → rdW (lettersL "parts" (n : Int)) 0 (Txt.split (("p0" : Str) ++ Txt.mul " p0" 59) " ") = .inr (List.replicate 60 (("p", 0) : Lt)) := by decide +kernel
theorem p0_len : (Txt.mul " p0" 60).length = 180 ∧ (Txt.mul " p0" 59).length = 177 ∧ (("p0" : Str) ++ Txt.mul " p0" 60).length = 182 ∧ (("p0" : Str) ++ Txt.mul " p0" 59).length = 179 ∧ ("p0" : Str) ++ Txt.mul " p0" 60 ≠ "-" ∧ ("p0" : Str) ++ Txt.mul " p0" 59 ≠ "-" := by decide +kernel
theorem at60 : V.str (("!" : Str) ++ (("at " : Str) ++ txI 60)) = V.str "!at 60" := by decide +kernel
theorem p0_mul {n : Int} (h : n = 59 ∨ n = 60) : MulOk " p0" n := by
  have e3 : (" p0" : Str).length = 3 := rfl
  have szl : 20000 ≤ sizeLine := by decide
  refine ⟨?_, fun _ _ => ?_, fun _ _ => ?_⟩
  · rw [decide_eq_false (by omega), decide_eq_false (by omega)]
    rfl
  · rw [e3]
    rcases h with rfl | rfl <;> decide
  · rw [e3]
    exact decide_eq_false (by omega)
theorem p0_eqv : PyData.eqv (dWd (List.replicate 60 (("p", 0) : Lt))) (dWd (List.replicate 60 (("p", 0) : Lt))) = true := by decide +kernel
theorem p0_shaped : SeqAt.shaped (dWd (List.replicate 60 (("p", 0) : Lt))) = true := by decide +kernel
theorem paired_repl {α β : Type} {F : α → β → Prop} {a : α} {b : β} (h : F a b) : ∀ k : Nat, Paired F (List.replicate k [a]).flatten (List.replicate k b)
  | 0 => .nil
  | k + 1 => .cons h (paired_repl h k)

theorem cutM_to {α : Type} {g : α → V} {l : List α} (b : Nat) : cutV (l.map g) none (some (b : Int)) = (l.take b).map g := by
  show ((l.map g).drop _).take _ = _
  rw [HT.sIx_none, HT.sIx_nat, List.drop_zero, Nat.sub_zero, List.length_map, ← List.map_take]
  congr 1
  rw [List.take_eq_take_iff]
  omega
theorem cutM_from {α : Type} {g : α → V} {l : List α} (b : Nat) : cutV (l.map g) (some (b : Int)) none = (l.drop b).map g := by
  show ((l.map g).drop _).take _ = _
  rw [HT.sIx_none, HT.sIx_nat, List.length_map, ← List.map_drop, List.take_of_length_le (by rw [List.length_map, List.length_drop]; omega)]
  congr 1
  by_cases c : b ≤ l.length
  · rw [Nat.min_eq_left c]
  · rw [Nat.min_eq_right (by omega), List.drop_of_length_le (by omega), List.drop_of_length_le (by omega)]
section
variable {P : Program} {w : World} {K : PySem.W.Frag} {mg : Str → Option Value} {base : Heap}
/-! ### _law_wrong_texts -/
theorem at_txt : ∀ k : Nat, k < 61 → ("!" : Str) ++ (("at " : Str) ++ txI (k : Int)) = ("!at " : Str) ++ numI (k : Int) ∧ (numI (k : Int)).length ≤ 2 ∧ (Int.natAbs (k : Nat)).log2 < 1920 := by decide +kernel
theorem badT_dash : ∀ n : Nat, n < 7 → ∀ b ∈ badT n, b ≠ "-" := by decide +kernel
theorem split_dash : Txt.split "-" " " = [("-" : Str)] := by decide +kernel
theorem rd_bad_ne {n : Nat} {x : List Lt} (n6 : n < 7) (all : ∀ y ∈ x, y ∈ lettersL "parts" (n : Int)) {b : Str} (hb : b ∈ badT n) (k : Nat) : Txt.join " " ((x.map letT).take k ++ [b] ++ (x.map letT).drop k) ≠ "-" := fun e => by
  have no : ∀ p ∈ x.map letT, (32 : Nat) ∉ _root_.TL.tl p := fun p hp => by
    obtain ⟨y, hy, rfl⟩ := List.mem_map.mp hp
    exact (letB n n6 y (all y hy)).2
  have sp := _root_.TL.split_join (y := " ") (s := 32) (S := []) rfl (by decide +kernel) (parts := (x.map letT).take k ++ [b] ++ (x.map letT).drop k) (by simp) (fun p hp => by
    rcases List.mem_append.mp hp with hp | hp
    · rcases List.mem_append.mp hp with hp | hp
      · exact no p (List.mem_of_mem_take hp)
      · rw [List.mem_singleton.mp hp]; exact (badT_no n n6 b hb).2.1
    · exact no p (List.mem_of_mem_drop hp))
  rw [e, split_dash] at sp
  have mb : b ∈ (["-"] : List Str) := by
    rw [sp]
    exact List.mem_append_left _ (List.mem_append_right _ (.head _))
  exact badT_dash n n6 b hb (List.mem_singleton.mp mb)
theorem joinL3 : ∀ ys : List (List Nat), (∀ y ∈ ys, y.length ≤ 3) → (_root_.TL.joinL [32] ys).length ≤ 4 * ys.length
  | [], _ => Nat.zero_le _
  | [p], h => by
    have := h p (.head _)
    show p.length ≤ 4 * 1
    omega
  | p :: q :: r, h => by
    have ih := joinL3 (q :: r) fun y hy => h y (.tail _ hy)
    have := h p (.head _)
    show (p ++ ([32] ++ _root_.TL.joinL [32] (q :: r))).length ≤ _
    have e : (p :: q :: r).length = (q :: r).length + 1 := rfl
    rw [List.length_append, List.length_append, e]
    show p.length + (1 + _) ≤ _
    omega
theorem join3 {ys : List Str} (h : ∀ y ∈ ys, y.length ≤ 3) : (Txt.join " " ys).length ≤ 4 * ys.length := by
  rw [_root_.TL.len_tl, _root_.TL.join_eq, _root_.TL.tl_join, show _root_.TL.tl " " = [32] from rfl]
  have := joinL3 (ys.map _root_.TL.tl) fun y hy => by
    obtain ⟨z, hz, rfl⟩ := List.mem_map.mp hy
    rw [← _root_.TL.len_tl]
    exact h z hz
  rwa [List.length_map] at this
theorem sum3 : ∀ ys : List Str, (∀ y ∈ ys, y.length ≤ 3) → (ys.map (fun z : Str => z.length)).sum ≤ 3 * ys.length
  | [], _ => Nat.le_refl _
  | y :: ys, h => by
    have := sum3 ys fun z hz => h z (.tail _ hz)
    have := h y (.head _)
    rw [List.map_cons, List.sum_cons, List.length_cons]
    omega
def spWrongT (K : PySem.W.Frag) : Sp := fun vs H Q _ => ∃ (r p : Addr) (ds : List Int) (n : Nat) (x : List Lt), vs = [.ref r, .int (n : Int), .ref p] ∧ r ≠ p ∧ H r = some (.lst (ds.map V.int)) ∧ H p = some (.lst ((x.map letT).map V.str)) ∧ n ≤ 6 ∧ x.length ≤ 8 ∧ (∀ y ∈ x, y ∈ lettersL "parts" (n : Int)) ∧
  ∀ (ds' : List Int) H', SameBut r H H' → H' r = some (.lst (ds'.map V.int)) → Q (.bl true) H'
theorem ok_law_wrong_texts {f a_law_next : Addr} {fd fd_law_next : FuncData} (F : Fun K "_law_wrong_texts" "_law_wrong_texts" s_law_wrong_texts f fd) (z_int : mg "int" = none) (z_len : mg "len" = none) (z_str : mg "str" = none)
    (G_law_next : FnOk P w K mg base CX0 1 a_law_next fd_law_next ["draws"] spNext) (g_law_next : mg "_law_next" = some (.ref a_law_next)) (k_law_next : PySem.W.keepIn K (.ref a_law_next) = true) (b_law_next : Binds K fd_law_next ["draws"] []) {a_law_read : Addr} {fd_law_read : FuncData} (G_law_read : FnOk P w K mg base CX0 9 a_law_read fd_law_read ["n", "text"] (spLRead K)) (g_law_read : mg "_law_read" = some (.ref a_law_read)) (k_law_read : PySem.W.keepIn K (.ref a_law_read) = true) (b_law_read : Binds K fd_law_read ["n", "text"] []) : FnOk P w K mg base CX0 10 f fd ["draws", "n", "parts"] (spWrongT K) := by
  refine F.ok sc_law_wrong_texts (fun vs H Q E h => ?_) (fun cdv A outer s H vs Q E hr h => ?_)
  · obtain ⟨r, p, ds, n, x, rfl, _⟩ := h
    rfl
  · obtain ⟨r, p, ds, n, x, rfl, nrp, hL, hp, n6, x8, all, q⟩ := h
    refine ⟨_, (pss_cons (ps_set (i := 3) sc_law_wrong_texts.nd rfl (.inl rfl) (pe_op op_mod (pe_callTy call_int1 (by rfl) z_int boot_int (pa_cons (pe_call G_law_next (hr.mono (by decide)) rfl g_law_next k_law_next b_law_next .nil pass0 (pa_cons (pv 0) pa_nil)) pa_nil)) (pe_op op_add (pe_callB call_len_seq (by rfl) z_len boot_len (pa_cons (pv 2) pa_nil)) pe_int)))
  (pss_cons (ps_set (i := 4) sc_law_wrong_texts.nd rfl (.inl rfl) (pe_ix ix_list (pe_lst (pa_cons pe_str (pa_cons pe_str (pa_cons pe_str (pa_cons pe_str (pa_cons pe_str (pa_cons (pe_op op_add_str pe_str (pe_callTy call_str_int (by rfl) z_str boot_str (pa_cons (pv 1) pa_nil))) (pa_cons pe_str (pa_cons pe_str pa_nil))))))))) (pe_op op_mod (pe_callTy call_int1 (by rfl) z_int boot_int (pa_cons (pe_call G_law_next (hr.mono (by decide)) rfl g_law_next k_law_next b_law_next .nil pass0 (pa_cons (pv 0) pa_nil)) pa_nil)) pe_int) (fun _ _ => rfl)))
  (pss_cons (ps_set (i := 5) sc_law_wrong_texts.nd rfl (.inl rfl) (pe_join pe_str (pe_op op_cat (pe_op op_cat (pe_slice sl_list (pv 2) po_none (po_some (pv 3))) (pe_lst (pa_cons (pv 4) pa_nil))) (pe_slice sl_list (pv 2) (po_some (pv 3)) po_none))))
  (pss_cons (ps_if (pt_cmpR op_ne (pe_call G_law_read (hr.mono (by decide)) rfl g_law_read k_law_read b_law_read .nil pass0 (pa_cons (pv 1) (pa_cons (pv 5) pa_nil))) (pe_op op_add_str pe_str (pe_callTy call_str_int (by rfl) z_str boot_str (pa_cons (pv 3) pa_nil))) (nomark _)) (pss_one (ps_ret pe_bl)) pss_nil)
  (pss_cons (ps_if (L2.PW.pt (pw_and (pt_cmpR op_gt (pv 1) pe_int (nomark _)) (pw_and1 (L2.PW.pt (pw_or (pt_cmpR op_ne (pe_call G_law_read (hr.mono (by decide)) rfl g_law_read k_law_read b_law_read .nil pass0 (pa_cons (pv 1) (pa_cons (pe_op op_add_str pe_str (pe_op op_mul_str pe_str pe_int)) pa_nil))) pe_str (nomark _)) (pw_or1 (pt_cmpR (op_neD (room64 hr)) (pe_call G_law_read (hr.mono (by decide)) rfl g_law_read k_law_read b_law_read .nil pass0 (pa_cons (pv 1) (pa_cons (pe_op op_add_str pe_str (pe_op op_mul_str pe_str pe_int)) pa_nil))) (pe_op op_repA (pe_tup (pa_cons (pe_tup (pa_cons pe_str (pa_cons pe_int pa_nil))) pa_nil)) pe_int) (nomark _)))))))) (pss_one (ps_ret pe_bl)) pss_nil)
  (pss_one (ps_ret (pe_and (pe_cmpR op_eq (pe_call G_law_read (hr.mono (by decide)) rfl g_law_read k_law_read b_law_read .nil pass0 (pa_cons (pv 1) (pa_cons pe_str pa_nil))) pe_str (nomark _)) (pe_and (pe_cmpR op_eq (pe_call G_law_read (hr.mono (by decide)) rfl g_law_read k_law_read b_law_read .nil pass0 (pa_cons pe_int (pa_cons pe_str pa_nil))) pe_str (nomark _)) (pe_one (pe_cmpR op_eq (pe_call G_law_read (hr.mono (by decide)) rfl g_law_read k_law_read b_law_read .nil pass0 (pa_cons (pe_un un_neg pe_int) (pa_cons pe_str pa_nil))) pe_str (nomark _)))))))))))), ?_⟩
    have szl : 20000 ≤ sizeLine := by decide
    refine ⟨_, rfl, r, ds, rfl, hL, fun n0 ds0 => .inl ⟨n0, rfl, ?_⟩⟩
    have sb0 : SameBut r H (upd H r (.lst (ds0.map V.int))) := SameBut.upd
    have hL0 : upd H r (.lst (ds0.map V.int)) r = some (.lst (ds0.map V.int)) := upd_same
    generalize upd H r (.lst (ds0.map V.int)) = H0 at sb0 hL0
    have hp0 := sb0 _ _ (Ne.symm nrp) hp
    refine ⟨_, rfl, p, _, rfl, .inl (.inl (.inl hp0)), _, _, rfl, rfl, n0, _, rfl, rfl, by omega, ?_⟩
    have m := mod_lt8 n0 (show (0 : Int) < (((x.map letT).map V.str).length : Int) + 1 by omega)
    rw [List.length_map, List.length_map] at m
    obtain ⟨k, ek⟩ : ∃ k : Nat, n0 % (((x.map letT).map V.str).length + 1 : Int) = (k : Int) := ⟨(n0 % (((x.map letT).map V.str).length + 1 : Int)).toNat, by rw [List.length_map, List.length_map]; omega⟩
    have hk : k ≤ x.length := by
      rw [List.length_map, List.length_map] at ek
      omega
    dsimp only
    rw [ek]
    have l1 := (at_txt n (by omega)).2
    refine ⟨_, rfl, _, rfl, l1.2, _, _, rfl, rfl, ?_, ?_⟩
    · show 1 + (numI (n : Int)).length ≤ sizeLine
      omega
    refine ⟨(by show 8 ≤ sizeLine; omega), fun pB npB => ?_⟩
    have wB := same_upd (o := .lst [V.str "s9", .str "x0", .str "s", .str "s00", .str "", .str (("p" : Str) ++ Str.ofString (toString (n : Int))), .str "0s", .str "s-1"]) npB
    have hB : upd H0 pB (.lst [V.str "s9", .str "x0", .str "s", .str "s00", .str "", .str (("p" : Str) ++ Str.ofString (toString (n : Int))), .str "0s", .str "s-1"]) pB = some (.lst ((badT n).map V.str)) := upd_same
    have hLB := wB _ _ hL0
    have hpB := wB _ _ hp0
    have nrB : pB ≠ r := fun e => by rw [e, hL0] at npB; exact nomatch npB
    have sbB : SameBut r H (upd H0 pB (.lst [V.str "s9", .str "x0", .str "s", .str "s00", .str "", .str (("p" : Str) ++ Str.ofString (toString (n : Int))), .str "0s", .str "s-1"])) := SameBut.trans sb0 fun b o _ e => wB b o e
    refine ⟨_, rfl, r, ds0, rfl, hLB, fun n1 ds1 => .inl ⟨n1, rfl, n1, 8, rfl, rfl, (show (0 : Int) < 8 by decide), ?_⟩⟩
    have m1 := mod_lt8 n1 (show (0 : Int) < 8 by decide)
    obtain ⟨j, hj, ej⟩ : ∃ j : Nat, j < 8 ∧ n1 % 8 = (j : Int) := ⟨(n1 % 8).toNat, by omega, by omega⟩
    dsimp only
    rw [ej]
    generalize upd H0 pB (.lst [V.str "s9", .str "x0", .str "s", .str "s00", .str "", .str (("p" : Str) ++ Str.ofString (toString (n : Int))), .str "0s", .str "s-1"]) = H1 at *
    obtain ⟨b, mb, eb⟩ : ∃ b, b ∈ badT n ∧ (badT n)[j]? = some b := ⟨(badT n)[j]'hj, List.getElem_mem _, List.getElem?_eq_getElem _⟩
    have sb2 : SameBut r H (upd H1 r (.lst (ds1.map V.int))) := SameBut.trans sbB SameBut.upd
    have hB2 : upd H1 r (.lst (ds1.map V.int)) pB = some (.lst ((badT n).map V.str)) := by rw [upd_ne nrB]; exact hB
    have hp2 : upd H1 r (.lst (ds1.map V.int)) p = some (.lst ((x.map letT).map V.str)) := by rw [upd_ne (Ne.symm nrp)]; exact hpB
    have hL2 : upd H1 r (.lst (ds1.map V.int)) r = some (.lst (ds1.map V.int)) := upd_same
    generalize upd H1 r (.lst (ds1.map V.int)) = H2 at *
    refine ⟨pB, (badT n).map V.str, (j : Int), .str b, rfl, rfl, .inl (.inl hB2), atI_nat (by rw [List.getElem?_map, eb]; rfl), ?_⟩
    refine ⟨⟨_, rfl⟩, _, rfl, _, rfl, _, rfl, p, _, rfl, .inl (.inl hp2), fun p1 np1 => ?_⟩
    rw [cutM_to k]
    have w1 := same_upd (o := .lst (((x.map letT).take k).map V.str)) np1
    refine ⟨_, rfl, (by show 1 ≤ sizeLine; omega), fun p2 np2 => ?_⟩
    have w2 := same_upd (o := .lst [V.str b]) np2
    refine ⟨p1, p2, _, _, rfl, rfl, w2 _ _ upd_same, upd_same, (by rw [List.length_map, List.length_take, List.length_map]; show _ + 1 ≤ _; omega), fun p3 np3 => ?_⟩
    have w3 := same_upd (o := .lst (((x.map letT).take k).map V.str ++ [V.str b])) np3
    refine ⟨_, rfl, _, rfl, _, rfl, p, _, rfl, .inl (.inl (w3 _ _ (w2 _ _ (w1 _ _ hp2)))), fun p4 np4 => ?_⟩
    rw [cutM_from k]
    have w4 := same_upd (o := .lst (((x.map letT).drop k).map V.str)) np4
    refine ⟨p3, p4, _, _, rfl, rfl, w4 _ _ upd_same, upd_same, (by rw [List.length_append, List.length_map, List.length_map, List.length_take, List.length_drop, List.length_map]; show _ + 1 + _ ≤ _; omega), fun p5 np5 => ?_⟩
    have w5 := same_upd (o := .lst (((x.map letT).take k).map V.str ++ [V.str b] ++ ((x.map letT).drop k).map V.str)) np5
    have wAll := Same.trans w1 (Same.trans w2 (Same.trans w3 (Same.trans w4 w5)))
    have l3 : ∀ y ∈ (x.map letT).take k ++ [b] ++ (x.map letT).drop k, y.length ≤ 3 := fun y hy => by
      have lx : ∀ y ∈ x.map letT, y.length ≤ 3 := fun y hy => by
        obtain ⟨z, hz, rfl⟩ := List.mem_map.mp hy
        rw [letT_fine n (by omega) z (all z hz)]
        decide
      rcases List.mem_append.mp hy with hy | hy
      · rcases List.mem_append.mp hy with hy | hy
        · exact lx y (List.mem_of_mem_take hy)
        · rw [List.mem_singleton.mp hy]; exact (badT_no n (by omega) b mb).2.2
      · exact lx y (List.mem_of_mem_drop hy)
    have ln : ((x.map letT).take k ++ [b] ++ (x.map letT).drop k).length ≤ 10 := by
      rw [List.length_append, List.length_append, List.length_take, List.length_drop, List.length_map]
      show _ + 1 + _ ≤ _
      omega
    have rb := rd_bad (by omega : n < 7) all (by omega) mb k hk
    have nd := rd_bad_ne (by omega : n < 7) all mb k
    have js := join3 l3
    have ss := sum3 _ l3
    have hy5 : (((x.map letT).take k).map V.str ++ [V.str b] ++ ((x.map letT).drop k).map V.str) = ((x.map letT).take k ++ [b] ++ (x.map letT).drop k).map V.str := by
      rw [List.map_append, List.map_append]
      rfl
    rw [hy5]
    rw [hy5] at wAll w5
    generalize (x.map letT).take k ++ [b] ++ (x.map letT).drop k = ys at *
    refine ⟨" ", p5, ys, rfl, rfl, .inl (.inl (.inl upd_same)), ?_, ?_⟩
    · rw [show (" " : Str).length = 1 from rfl]
      omega
    have hn : (0 : Int) ≤ (n : Int) ∧ (n : Int) ≤ 6 := by omega
    have sb5 : SameBut r H (upd (upd (upd (upd (upd H2 p1 (.lst (((x.map letT).take k).map V.str))) p2 (.lst [V.str b])) p3 (.lst (((x.map letT).take k).map V.str ++ [V.str b]))) p4 (.lst (((x.map letT).drop k).map V.str))) p5 (.lst (ys.map V.str))) := SameBut.trans sb2 fun b o _ e => wAll b o e
    have hL5 := wAll _ _ hL2
    generalize upd (upd (upd (upd (upd H2 p1 (.lst (((x.map letT).take k).map V.str))) p2 (.lst [V.str b])) p3 (.lst (((x.map letT).take k).map V.str ++ [V.str b]))) p4 (.lst (((x.map letT).drop k).map V.str))) p5 (.lst (ys.map V.str)) = H5 at *
    obtain ⟨t1, t2, t3⟩ := at_txt k (by omega)
    refine ⟨_, rfl, _, rfl, (n : Int), Txt.join " " ys, rfl, by omega, fun z => absurd hn z, fun _ z => absurd z nd, fun _ _ => ⟨fun i ei H6 s6 => ?_, fun w ew => nomatch rb.symm.trans ew⟩⟩
    obtain rfl : (k : Int) = i := Sum.inl.inj (rb.symm.trans ei)
    have sb6 : SameBut r H H6 := SameBut.trans sb5 fun b o _ e => s6 b o e
    have hL6 := s6 _ _ hL5
    have t4 : V.str (("!" : Str) ++ (("at " : Str) ++ txI (k : Int))) = V.str (("!at " : Str) ++ Str.ofString (toString (k : Int))) := congrArg V.str t1
    refine ⟨_, rfl, (k : Int), rfl, t3, _, _, rfl, rfl, ?_, rfl, _, rfl, if_neg_of (fun z => by rw [decide_eq_true t4] at z; exact nomatch z) ?_⟩
    · show 4 + (numI (k : Int)).length ≤ sizeLine
      omega
    have q := fun H7 s7 => q ds1 H7 (SameBut.trans sb6 fun b o _ e => (show Same H6 H7 from s7) b o e) (s7 _ _ hL6)
    refine ⟨_, rfl, _, _, rfl, rfl, _, rfl, ?_⟩
    by_cases n0 : n = 0
    · refine if_neg_of (fun z => by have := of_decide_eq_true z; omega) ?_
      refine iteF ?_
      refine ⟨_, rfl, (n : Int), "", rfl, by decide, fun z => absurd hn z, fun _ z => absurd z (by decide), fun _ _ => ⟨fun i ei H7 s7 => ?_, fun w ew => nomatch (rd_empty n (by omega)).symm.trans ew⟩⟩
      obtain rfl : (0 : Int) = i := Sum.inl.inj ((rd_empty n (by omega)).symm.trans ei)
      have n7 : ¬ ((0 : Int) ≤ 7 ∧ (7 : Int) ≤ 6) := by decide
      have nm : ¬ ((0 : Int) ≤ -1 ∧ (-1 : Int) ≤ 6) := by decide
      have e0 : V.str (("!" : Str) ++ (("at " : Str) ++ txI 0)) = V.str "!at 0" := by decide +kernel
      refine ⟨rfl, true, congrArg V.bl (decide_eq_true e0), if_pos_of rfl ?_⟩
      refine ⟨(7 : Int), "x", rfl, by decide, fun _ H8 s8 => ?_, fun z => absurd z n7, fun z => absurd z n7⟩
      refine ⟨rfl, true, congrArg V.bl (decide_eq_true rfl), if_pos_of rfl ?_⟩
      refine ⟨_, rfl, (-1 : Int), "", rfl, by decide, fun _ H9 s9 => ?_, fun z => absurd z nm, fun z => absurd z nm⟩
      refine ⟨rfl, ?_⟩
      rw [decide_eq_true rfl]
      exact q H9 (Same.trans (Same.trans s7 s8) s9)
    · refine if_pos_of (decide_eq_true (by omega)) ?_
      obtain ⟨p1', p2', p3', p4', p5', p6'⟩ := p0_len
      have r60 := p0_60 n (by omega) (by omega)
      have r59 := p0_59 n (by omega) (by omega)
      refine ⟨_, rfl, " p0", 60, rfl, rfl, p0_mul (.inr rfl), "p0", Txt.mul " p0" 60, rfl, rfl, (by rw [p1']; show 2 + 180 ≤ sizeLine; omega), (n : Int), ("p0" : Str) ++ Txt.mul " p0" 60, rfl, by omega, fun z => absurd hn z, fun _ z => absurd z p5', fun _ _ => ⟨fun i ei H7 s7 => ?_, fun w ew => nomatch r60.symm.trans ew⟩⟩
      obtain rfl : (60 : Int) = i := Sum.inl.inj (r60.symm.trans ei)
      refine ⟨rfl, _, rfl, if_neg_of (fun z => by rw [decide_eq_true at60] at z; exact nomatch z) ?_⟩
      refine ⟨_, rfl, " p0", 59, rfl, rfl, p0_mul (.inl rfl), "p0", Txt.mul " p0" 59, rfl, rfl, (by rw [p2']; show 2 + 177 ≤ sizeLine; omega), (n : Int), ("p0" : Str) ++ Txt.mul " p0" 59, rfl, by omega, fun z => absurd hn z, fun _ z => absurd z p6', fun _ _ => ⟨fun i ei => (nomatch r59.symm.trans ei), fun w ew t H8 s8 hw => ?_⟩⟩
      obtain rfl : List.replicate 60 (("p", 0) : Lt) = w := Sum.inr.inj (r59.symm.trans ew)
      refine ⟨(by show 2 ≤ sizeLine; omega), fun pi npi => ?_⟩
      have v1 := same_upd (o := .tup [.str "p", .int 0]) npi
      refine ⟨(by show 1 ≤ sizeLine; omega), fun po npo => ?_⟩
      have v2 := same_upd (o := .tup [.ref pi]) npo
      refine ⟨po, 60, [.ref pi], rfl, rfl, .inl (.inl upd_same), (fun z => nomatch z), by decide, by decide, (by show 1 ≤ 1000; decide), fun z => absurd z (by decide), fun _ pr npr => ?_⟩
      have v3 := same_upd (o := .tup (List.replicate (60 : Int).toNat [V.ref pi]).flatten) npr
      have hw2 := hw.same (Same.trans v1 (Same.trans v2 v3))
      refine ⟨dWd (List.replicate 60 (("p", 0) : Lt)), dWd (List.replicate 60 (("p", 0) : Lt)), hw2.dp, WP.dp (K := K) ⟨pr, _, rfl, .inl (.inl upd_same), paired_repl ⟨pi, rfl, (Same.trans v2 v3) _ _ upd_same⟩ 60⟩, p0_shaped, p0_shaped, ?_⟩
      rw [p0_eqv]
      have wX := Same.trans s7 (Same.trans s8 (Same.trans v1 (Same.trans v2 v3)))
      refine ⟨_, rfl, iteF ?_⟩
      refine ⟨_, rfl, (n : Int), "", rfl, by decide, fun z => absurd hn z, fun _ z => absurd z (by decide), fun _ _ => ⟨fun i ei G7 u7 => ?_, fun w ew => nomatch (rd_empty n (by omega)).symm.trans ew⟩⟩
      obtain rfl : (0 : Int) = i := Sum.inl.inj ((rd_empty n (by omega)).symm.trans ei)
      have n7 : ¬ ((0 : Int) ≤ 7 ∧ (7 : Int) ≤ 6) := by decide
      have nm : ¬ ((0 : Int) ≤ -1 ∧ (-1 : Int) ≤ 6) := by decide
      have e0 : V.str (("!" : Str) ++ (("at " : Str) ++ txI 0)) = V.str "!at 0" := by decide +kernel
      refine ⟨rfl, true, congrArg V.bl (decide_eq_true e0), if_pos_of rfl ?_⟩
      refine ⟨(7 : Int), "x", rfl, by decide, fun _ G8 u8 => ?_, fun z => absurd z n7, fun z => absurd z n7⟩
      refine ⟨rfl, true, congrArg V.bl (decide_eq_true rfl), if_pos_of rfl ?_⟩
      refine ⟨_, rfl, (-1 : Int), "", rfl, by decide, fun _ G9 u9 => ?_, fun z => absurd z nm, fun z => absurd z nm⟩
      refine ⟨rfl, ?_⟩
      rw [decide_eq_true rfl]
      exact q G9 (Same.trans wX (Same.trans (Same.trans u7 u8) u9))
end

/-! ### loops and a diagram -/
def dPut (k : Nat) (n m : Int) (bs : List (List Int)) : PyData := .tuple [.int (k : Int), dDG n m bs]
theorem put_dp {K : PySem.W.Frag} {H : Hp} {t : Addr} {v : V} {k : Nat} {n m : Int} {bs : List (List Int)} (ht : H t = some (.tup [.int (k : Int), v])) (hv : DGv H v n m bs) : Dp K H (.ref t) (dPut k n m bs) :=
  .tup (.inl (.inl ht)) (.cons (.int _) (.cons hv.dp .nil))
theorem smL_put {k : Nat} {n m : Int} {bs : List (List Int)} (hk : k ≤ 1000) (h : IsDg n m bs) : SmL 4 3000000 (dPut k n m bs) := by
  have big : (1000 : Nat) < 2 ^ 200 := by decide
  refine (smL_tuple (n := 3) (k := 1000000) (ds := [.int (k : Int), dDG n m bs]) fun D hD => ?_).more (by show (1000000 + 2) * 2 + 3 ≤ 3000000; decide)
  rcases List.mem_cons.mp hD with rfl | hD
  · obtain ⟨h1, h2, h3, h4⟩ := smL_int (i := (k : Int)) (by omega)
    exact ⟨h1, Nat.le_trans h2 (by decide), h3, Nat.le_trans h4 (by decide)⟩
  · rw [List.mem_singleton.mp hD]
    exact smL_dg h
theorem hid_le (ms sh : List Int) : hid ms sh ≤ ms.length := by
  have h1 := List.length_filter_le (fun k => decide (k ∉ sh)) (seenL [] ms)
  have h2 := seenL_len ms []
  have h3 : ([] : List Int).length = 0 := rfl
  unfold hid
  omega
theorem cnt_le (ms : List Int) : cnt ms ≤ ms.length := by
  rw [cnt_hid]
  exact hid_le _ _
theorem smL_num {k : Nat} (hk : k ≤ 1000) : SmL 4 3000000 (.int (k : Int)) := by
  have big : (1000 : Nat) < 2 ^ 200 := by decide
  obtain ⟨h1, h2, h3, h4⟩ := smL_int (i := (k : Int)) (by omega)
  exact ⟨h1, Nat.le_trans h2 (by decide), h3, Nat.le_trans h4 (by decide)⟩
theorem ok_s {s : Str} (h1 : PyData.strOk s = true) (h2 : (reprText s).length ≤ 4000) : SmL 4 3000000 (.str s) := ⟨by simp [PyData.canLay0, h1], by simp [PyData.depth], by simp [PyData.showable], by simp only [wt]; exact Nat.le_trans h2 (by decide)⟩
theorem smP_010 : SmL 4 3000000 (.str "![0, 1, 0]") := ok_s (by decide +kernel) (by decide +kernel)
theorem smP_100 : SmL 4 3000000 (.str "![1, 0, 0]") := ok_s (by decide +kernel) (by decide +kernel)
theorem smP_001 : SmL 4 3000000 (.str "![0, 0, 1]") := ok_s (by decide +kernel) (by decide +kernel)
/-- a tuple of one more in a list that is being made -/
theorem sing_step {H0 H5 : Hp} {Z p : Addr} {es : List V} {x y : Int} {L : List (List Int)} (sb : SameBut Z H0 H5) (hZ : H5 Z = some (.lst es)) (np : H5 p = none) (pe : Paired (TP H5) es L) (e : x = y) :
    upd H5 p (.tup [.int x]) Z = some (.lst es) ∧ SameBut Z H0 (upd (upd H5 p (.tup [.int x])) Z (.lst (es ++ [.ref p]))) ∧
    ∃ es', upd (upd H5 p (.tup [.int x])) Z (.lst (es ++ [.ref p])) Z = some (.lst es') ∧ Paired (TP (upd (upd H5 p (.tup [.int x])) Z (.lst (es ++ [.ref p])))) es' (L ++ [[y]]) := by
  subst e
  have sp := same_upd (o := .tup [.int x]) np
  have npZ : p ≠ Z := fun z => by rw [z, hZ] at np; cases np
  refine ⟨sp _ _ hZ, (sb.trans (Same.but sp)).trans SameBut.upd, es ++ [.ref p], upd_same, ?_⟩
  have one : TP (upd (upd H5 p (.tup [.int x])) Z (.lst (es ++ [.ref p]))) (.ref p) [x] := ⟨p, rfl, by rw [upd_ne npZ, upd_same]; rfl⟩
  refine paired_snoc one (Paired.mapP pe fun v e h => ?_)
  obtain ⟨q0, e0, h0⟩ := h
  exact ⟨q0, e0, by rw [upd_ne (ne_of h0 hZ (fun z => nomatch z))]; exact sp _ _ h0⟩
def singL (N : Nat) : List (List Int) := (List.range N).map fun (i : Nat) => [(i : Int)]
theorem sing_blocks : ∀ N, N ≤ 13 → blocksOf (ixs N) = singL N := by decide +kernel
theorem sing_at {H : Hp} {t : Addr} {vb : V} {n m : Nat} (ht : H t = some (.tup [.int (n : Int), .int (m : Int), vb])) (hb : TT H vb (singL (n + m))) (sz : siz n m = true) : DgAt H (.ref t) n m (ixs (n + m)) := by
  have z := siz_iff.mp sz
  refine ⟨⟨t, vb, rfl, ht, ?_⟩, sz, by rw [ixs_len']; omega⟩
  rw [sing_blocks (n + m) (by omega)]
  exact hb

theorem pg_tupK {X : Cx} {K : PySem.W.Frag} (hK : X.K = K) {es : List Expr} {k : Nat} {t : TGs} {n : Nat} {pos : Pos} (hc : X.calm = true) (h : PGs X es t)
    (hn : (assignEach es X.env).length = n := by rfl) (hst : (assignEach es X.env).findIdx? (·.1) = none := by rfl) : PG X (.Tuple es k pos) (gTup K n t) := by
  subst hK
  exact pg_tup hc h hn hst
theorem sl_tupK {X : Cx} {K : PySem.W.Frag} (hK : X.K = K) : SlR X (rSlT K) := by
  subst hK
  exact sl_tup

section
variable {P : Program} {w : World} {K : PySem.W.Frag} {mg : Str → Option Value} {base : Heap}
/-! ### words put together and cut; _law_refused -/
def rCatW (K : PySem.W.Frag) : R2 := fun x y H Q => ∃ bs cs, WP K H x bs ∧ WP K H y cs ∧ bs.length + cs.length ≤ sizeLine ∧ ∀ v H', Same H H' → WP K H' v (bs ++ cs) → Q v H'
theorem op_catW {X : Cx} : OpR X (binaryOp .Add) (rCatW X.K) := by
  intro pins s σ H x y v u Q I rx ry h
  obtain ⟨bs, cs, ⟨a, ts, rfl, ha, pa⟩, ⟨b, us, rfl, hb, pb⟩, hz, q⟩ := h
  have la : ts.length = bs.length := pa.length
  have lb : us.length = cs.length := pb.length
  refine op_catB pins s σ H _ _ v u Q I rx ry ⟨a, b, ts, us, rfl, rfl, ha, hb, by omega, fun p H' s1 hp => ?_⟩
  exact q _ _ s1 ⟨p, _, rfl, hp, paired_app (Paired.mapP pa fun _ _ h => h.same s1) (Paired.mapP pb fun _ _ h => h.same s1)⟩
def rSlW (K : PySem.W.Frag) : V → Option Int → Option Int → Hp → VK → Prop := fun x lo hi H Q => ∃ bs, WP K H x bs ∧ ∀ v H', Same H H' → WP K H' v (cutL bs lo hi) → Q v H'
theorem sl_W {X : Cx} : SlR X (rSlW X.K) := by
  intro pins s σ H x v vl vu lo hi sl Q I rx hs pl pu h
  obtain ⟨bs, ⟨a, ts, rfl, ha, pa⟩, q⟩ := h
  have la : ts.length = bs.length := pa.length
  refine sl_tupA pins s σ H _ v vl vu lo hi sl Q I rx hs pl pu ⟨a, ts, rfl, ha, fun e => ?_, fun _ p np => ?_⟩
  · refine q _ H (Same.refl _) ⟨a, ts, rfl, ha, ?_⟩
    unfold cutL
    rw [← la, e.1, e.2, la]
    show Paired (TL H) ts ((bs.drop 0).take (bs.length - 0))
    rw [List.drop_zero, Nat.sub_zero, List.take_length]
    exact pa
  · have s1 := same_upd (o := .tup (cutV ts lo hi)) np
    refine q _ _ s1 ⟨p, _, rfl, .inl (.inl upd_same), ?_⟩
    unfold cutL cutV
    rw [← la]
    exact paired_take _ (paired_drop _ (Paired.mapP pa fun _ _ h => h.same s1))
theorem cutL_to {α : Type} {l : List α} (b : Nat) : cutL l none (some (b : Int)) = l.take b := by
  unfold cutL
  rw [HT.sIx_none, HT.sIx_nat, List.drop_zero, Nat.sub_zero, List.take_eq_take_iff]
  omega
theorem cutL_from {α : Type} {l : List α} (b : Nat) : cutL l (some (b : Int)) none = l.drop b := by
  unfold cutL
  rw [HT.sIx_none, HT.sIx_nat, List.take_of_length_le (by rw [List.length_drop]; omega)]
  by_cases c : b ≤ l.length
  · rw [Nat.min_eq_left c]
  · rw [Nat.min_eq_right (by omega), List.drop_of_length_le (by omega), List.drop_of_length_le (by omega)]
def badLt (n : Nat) : List Lt := [("s", (n : Int) - 1), ("e", -1), ("p", (n : Int)), ("x", 0), ("", 0), ("se", 0)]
theorem badLt_ok : ∀ n : Nat, n < 7 → ∀ b ∈ badLt n, b ∉ lettersL "parts" (n : Int) ∧ PyData.strOk b.1 = true := by decide +kernel
theorem isWd_bad {n : Int} {x : List Lt} {b : Lt} (hb : b ∈ x) (h : b ∉ lettersL "parts" n) : isWd n x = false := by
  unfold isWd allIn
  have e : (x.all fun y => decide (y ∈ lettersL "parts" n)) = false := by
    rw [List.all_eq_false]
    exact ⟨b, hb, by rw [decide_eq_false h]; decide⟩
  rw [e, Bool.and_false]
/-- a word that is told as one at no place -/
def BadW (n : Int) (x : List Lt) : Prop := isWd n x = false ∧ WOk x ∧ x.length ≤ 1000
theorem errT_bad {way : Int} {z : Str} {n : Int} {x : List Lt} (h0 : 0 ≤ way) (h4 : way < 4) (mz : z ∈ fams) (hn : 0 ≤ n ∧ n ≤ 6) (e : isWd n x = false) : errT way z n x = some ("!word" : Str) := by
  unfold errT
  by_cases c : way = 0 ∨ way = 1 ∨ way = 3
  · rw [if_pos c]
    by_cases cl : 60 < x.length
    · exact errW1 cl
    · exact errW3 (by omega) hn e
  · rw [if_neg c, if_pos (by omega), e]
    exact errF3 mz hn
theorem errT_4 {z : Str} {n : Int} {x : List Lt} (hn : 0 ≤ n ∧ n ≤ 6) : errT 4 z n x = none := by
  unfold errT
  rw [if_neg (by decide), if_neg (by decide), if_pos rfl, if_neg (fun y => y.2 hn)]
theorem errT_num {way : Int} {z : Str} {n : Int} {x : List Lt} (h0 : 0 ≤ way) (h6 : way < 6) (mz : z ∈ fams) (lx : x.length ≤ 60) (hn : ¬ (0 ≤ n ∧ n ≤ 6)) : errT way z n x = some ("!number" : Str) := by
  unfold errT
  by_cases c : way = 0 ∨ way = 1 ∨ way = 3
  · rw [if_pos c]
    exact errW2 lx hn
  · rw [if_neg c]
    by_cases c2 : way = 2
    · rw [if_pos c2]
      exact errF2 mz hn
    · rw [if_neg c2]
      by_cases c4 : way = 4
      · rw [if_pos c4, if_pos ⟨lx, hn⟩]
      · rw [if_neg c4]
        exact errF2 mz hn
theorem long_60 : ∀ n : Nat, n < 7 → 0 < n → isWd (n : Int) (List.replicate 60 (("p", 0) : Lt)) = true := by decide +kernel
def spRefused (K : PySem.W.Frag) : Sp := fun vs H Q _ => ∃ (r : Addr) (v : V) (ds : List Int) (z : Str) (n : Nat) (x : List Lt), vs = [.ref r, .str z, .int (n : Int), v] ∧ H r = some (.lst (ds.map V.int)) ∧ z ∈ fams ∧ n ≤ 6 ∧ WP K H v x ∧ x.length ≤ 8 ∧ (∀ y ∈ x, y ∈ lettersL "parts" (n : Int)) ∧ ∀ H', Q (.bl true) H'
theorem ok_law_refused {f a_law_next : Addr} {fd fd_law_next : FuncData} (F : Fun K "_law_refused" "_law_refused" s_law_refused f fd) (z_int : mg "int" = none) (z_len : mg "len" = none) (z_range : mg "range" = none)
    (G_law_next : FnOk P w K mg base CX0 1 a_law_next fd_law_next ["draws"] spNext) (g_law_next : mg "_law_next" = some (.ref a_law_next)) (k_law_next : PySem.W.keepIn K (.ref a_law_next) = true) (b_law_next : Binds K fd_law_next ["draws"] []) {a_law_told : Addr} {fd_law_told : FuncData} (G_law_told : FnOk P w K mg base CX0 9 a_law_told fd_law_told ["which", "family", "n", "word"] (spTold28 K)) (g_law_told : mg "_law_told" = some (.ref a_law_told)) (k_law_told : PySem.W.keepIn K (.ref a_law_told) = true) (b_law_told : Binds K fd_law_told ["which", "family", "n", "word"] []) : FnOk P w K mg base CX0 10 f fd ["draws", "family", "n", "word"] (spRefused K) := by
  refine F.ok sc_law_refused (fun vs H Q E h => ?_) (fun cdv A outer s H vs Q E hr h => ?_)
  · obtain ⟨r, v, ds, z, n, x, rfl, _⟩ := h
    rfl
  · obtain ⟨r, v, ds, z, n, x, rfl, hL, mz, n6, hv, x8, all, q⟩ := h
    refine ⟨_, (pss_cons (ps_set (i := 4) sc_law_refused.nd rfl (.inl rfl) (pe_op op_mod (pe_callTy call_int1 (by rfl) z_int boot_int (pa_cons (pe_call G_law_next (hr.mono (by decide)) rfl g_law_next k_law_next b_law_next .nil pass0 (pa_cons (pv 0) pa_nil)) pa_nil)) (pe_op op_add (pe_callB call_len_seq (by rfl) z_len boot_len (pa_cons (pv 3) pa_nil)) pe_int)))
  (pss_cons (ps_set (i := 5) sc_law_refused.nd rfl (.inl rfl) (pe_ix ix_list (pe_lst (pa_cons (pe_tup (pa_cons pe_str (pa_cons (pe_op op_sub (pv 2) pe_int) pa_nil))) (pa_cons (pe_tup (pa_cons pe_str (pa_cons (pe_un un_neg pe_int) pa_nil))) (pa_cons (pe_tup (pa_cons pe_str (pa_cons (pv 2) pa_nil))) (pa_cons (pe_tup (pa_cons pe_str (pa_cons pe_int pa_nil))) (pa_cons (pe_tup (pa_cons pe_str (pa_cons pe_int pa_nil))) (pa_cons (pe_tup (pa_cons pe_str (pa_cons pe_int pa_nil))) pa_nil))))))) (pe_op op_mod (pe_callTy call_int1 (by rfl) z_int boot_int (pa_cons (pe_call G_law_next (hr.mono (by decide)) rfl g_law_next k_law_next b_law_next .nil pass0 (pa_cons (pv 0) pa_nil)) pa_nil)) pe_int) (fun _ _ => rfl)))
  (pss_cons (ps_set (i := 6) sc_law_refused.nd rfl (.inl rfl) (pe_op op_catW (pe_op op_catW (pe_slice sl_W (pv 3) po_none (po_some (pv 4))) (pe_tup (pa_cons (pv 5) pa_nil))) (pe_slice sl_W (pv 3) (po_some (pv 4)) po_none)))
  (pss_cons (ps_set (i := 7) sc_law_refused.nd rfl (.inl rfl) (pe_op op_repA (pe_tup (pa_cons (pe_tup (pa_cons pe_str (pa_cons pe_int pa_nil))) pa_nil)) pe_int))
  (pss_cons (ps_for PassesOwn.never rfl (pi_list (pe_lst (pa_cons (pv 6) (pa_cons (pv 7) pa_nil)))) (pg_name (i := 8) sc_law_refused.nd rfl (.inl rfl)) (pss_cons (ps_for PassesOwn.never rfl (pi_range1 rfl z_range (pa_cons pe_int pa_nil)) (pg_name (i := 9) sc_law_refused.nd rfl (.inl rfl)) (pss_one (ps_if (pt_cmpR op_ne (pe_call G_law_told (hr.mono (by decide)) rfl g_law_told k_law_told b_law_told .nil pass0 (pa_cons (pv 9) (pa_cons (pv 1) (pa_cons (pv 2) (pa_cons (pv 8) pa_nil))))) pe_str (nomark _)) (pss_one (ps_ret pe_bl)) pss_nil)))
  (pss_one (ps_if (pt_cmpR op_notBl (pe_call G_law_told (hr.mono (by decide)) rfl g_law_told k_law_told b_law_told .nil pass0 (pa_cons pe_int (pa_cons (pv 1) (pa_cons (pv 2) (pa_cons (pv 8) pa_nil))))) pe_bl (nomark _)) (pss_one (ps_ret pe_bl)) pss_nil))))
  (pss_cons (ps_for PassesOwn.never rfl (pi_list (pe_lst (pa_cons (pe_un un_neg pe_int) (pa_cons pe_int pa_nil)))) (pg_name (i := 10) sc_law_refused.nd rfl (.inl rfl)) (pss_one (ps_for PassesOwn.never rfl (pi_range1 rfl z_range (pa_cons pe_int pa_nil)) (pg_name (i := 9) sc_law_refused.nd rfl (.inl rfl)) (pss_one (ps_if (pt_cmpR op_ne (pe_call G_law_told (hr.mono (by decide)) rfl g_law_told k_law_told b_law_told .nil pass0 (pa_cons (pv 9) (pa_cons (pv 1) (pa_cons (pv 10) (pa_cons (pv 6) pa_nil))))) pe_str (nomark _)) (pss_one (ps_ret pe_bl)) pss_nil)))))
  (pss_cons (ps_if (L2.PW.pt (pw_or (pt_cmpR op_ne (pe_call G_law_told (hr.mono (by decide)) rfl g_law_told k_law_told b_law_told .nil pass0 (pa_cons pe_int (pa_cons pe_str (pa_cons pe_int (pa_cons (pv 6) pa_nil))))) pe_str (nomark _)) (pw_or1 (pt_cmpR op_ne (pe_call G_law_told (hr.mono (by decide)) rfl g_law_told k_law_told b_law_told .nil pass0 (pa_cons pe_int (pa_cons pe_str (pa_cons pe_int (pa_cons (pv 6) pa_nil))))) pe_str (nomark _))))) (pss_one (ps_ret pe_bl)) pss_nil)
  (pss_one (ps_ret (pe_or (pe_cmpR op_eq (pv 2) pe_int (nomark _)) (pe_one (pe_cmpR op_isBl (pe_call G_law_told (hr.mono (by decide)) rfl g_law_told k_law_told b_law_told .nil pass0 (pa_cons pe_int (pa_cons (pv 1) (pa_cons (pv 2) (pa_cons (pe_slice sl_W (pv 7) (po_some pe_int) po_none) pa_nil))))) pe_bl (nomark _))))))))))))), ?_⟩
    have szl : 20000 ≤ sizeLine := by decide
    have hn : (0 : Int) ≤ (n : Int) ∧ (n : Int) ≤ 6 := by omega
    obtain ⟨tv, xv, rfl, hxv, pxv⟩ := hv
    have lxv := pxv.length
    refine ⟨_, rfl, r, ds, rfl, hL, fun n0 ds0 => .inl ⟨n0, rfl, ?_⟩⟩
    have sb0 : SameBut r H (upd H r (.lst (ds0.map V.int))) := SameBut.upd
    have hL0 : upd H r (.lst (ds0.map V.int)) r = some (.lst (ds0.map V.int)) := upd_same
    have hv0 : WP K (upd H r (.lst (ds0.map V.int))) (.ref tv) x := WP.mutL hL sb0 ⟨tv, xv, rfl, hxv, pxv⟩
    have hx0 := sqT_butL hL sb0 hxv
    generalize upd H r (.lst (ds0.map V.int)) = H0 at sb0 hL0 hv0 hx0
    refine ⟨_, rfl, tv, _, rfl, .inr hx0, _, _, rfl, rfl, n0, _, rfl, rfl, by omega, ?_⟩
    have m := mod_lt8 n0 (show (0 : Int) < (xv.length : Int) + 1 by omega)
    obtain ⟨k, ek⟩ : ∃ k : Nat, n0 % ((xv.length : Nat) + 1 : Int) = (k : Int) := ⟨(n0 % ((xv.length : Nat) + 1 : Int)).toNat, by omega⟩
    have hk : k ≤ x.length := by omega
    dsimp only
    rw [ek]
    clear m ek
    refine ⟨_, rfl, _, _, rfl, rfl, (by show 2 ≤ sizeLine; omega), fun p1 np1 => ⟨1, rfl, (by show 2 ≤ sizeLine; omega), fun p2 np2 => ⟨_, rfl, (by show 2 ≤ sizeLine; omega), fun p3 np3 => ⟨(by show 2 ≤ sizeLine; omega), fun p4 np4 => ⟨(by show 2 ≤ sizeLine; omega), fun p5 np5 => ⟨(by show 2 ≤ sizeLine; omega), fun p6 np6 => ⟨(by show 6 ≤ sizeLine; omega), fun pB npB => ?_⟩⟩⟩⟩⟩⟩⟩
    have w1 := same_upd (o := .tup [.str "s", .int ((n : Int) - 1)]) np1
    have w2 := same_upd (o := .tup [.str "e", .int (-1)]) np2
    have w3 := same_upd (o := .tup [.str "p", .int (n : Int)]) np3
    have w4 := same_upd (o := .tup [.str "x", .int 0]) np4
    have w5 := same_upd (o := .tup [.str "", .int 0]) np5
    have w6 := same_upd (o := .tup [.str "se", .int 0]) np6
    have wB := same_upd (o := .lst [.ref p1, .ref p2, .ref p3, .ref p4, .ref p5, .ref p6]) npB
    obtain ⟨HB, eHB⟩ : ∃ HB, HB = upd (upd (upd (upd (upd (upd (upd H0 p1 (.tup [.str "s", .int ((n : Int) - 1)])) p2 (.tup [.str "e", .int (-1)])) p3 (.tup [.str "p", .int (n : Int)])) p4 (.tup [.str "x", .int 0])) p5 (.tup [.str "", .int 0])) p6 (.tup [.str "se", .int 0])) pB (.lst [.ref p1, .ref p2, .ref p3, .ref p4, .ref p5, .ref p6]) := ⟨_, rfl⟩
    have s6 := Same.trans w6 wB
    have s5 := Same.trans w5 s6
    have s4 := Same.trans w4 s5
    have s3 := Same.trans w3 s4
    have s2 := Same.trans w2 s3
    have s1 := Same.trans w1 s2
    have pb : Paired (TL HB) [.ref p1, .ref p2, .ref p3, .ref p4, .ref p5, .ref p6] (badLt n) := by
      rw [eHB]
      exact .cons ⟨p1, rfl, s2 _ _ upd_same⟩ (.cons ⟨p2, rfl, s3 _ _ upd_same⟩ (.cons ⟨p3, rfl, s4 _ _ upd_same⟩ (.cons ⟨p4, rfl, s5 _ _ upd_same⟩ (.cons ⟨p5, rfl, s6 _ _ upd_same⟩ (.cons ⟨p6, rfl, wB _ _ upd_same⟩ .nil)))))
    have hB : HB pB = some (.lst [.ref p1, .ref p2, .ref p3, .ref p4, .ref p5, .ref p6]) := by rw [eHB]; exact upd_same
    rw [← eHB] at s1 ⊢
    have hLB := s1 _ _ hL0
    have hvB := hv0.same s1
    have nrB : pB ≠ r := fun e => by
      rw [e, (Same.trans w1 (Same.trans w2 (Same.trans w3 (Same.trans w4 (Same.trans w5 w6))))) _ _ hL0] at npB
      exact nomatch npB
    clear w1 w2 w3 w4 w5 w6 wB s1 s2 s3 s4 s5 s6 np1 np2 np3 np4 np5 np6 npB eHB
    refine ⟨_, rfl, r, ds0, rfl, hLB, fun n1 ds1 => .inl ⟨n1, rfl, n1, 6, rfl, rfl, (show (0 : Int) < 6 by decide), ?_⟩⟩
    have m1 := mod_lt8 n1 (show (0 : Int) < 6 by decide)
    obtain ⟨j, hj, ej⟩ : ∃ j : Nat, j < 6 ∧ n1 % 6 = (j : Int) := ⟨(n1 % 6).toNat, by omega, by omega⟩
    dsimp only
    rw [ej]
    clear m1 ej
    have sb1 : SameBut r HB (upd HB r (.lst (ds1.map V.int))) := SameBut.upd
    have hv1 := WP.mutL hLB sb1 hvB
    have hB1 := sb1 _ _ nrB hB
    have pb1 : Paired (TL (upd HB r (.lst (ds1.map V.int)))) [.ref p1, .ref p2, .ref p3, .ref p4, .ref p5, .ref p6] (badLt n) := Paired.mapP pb fun _ _ h => h.butL hLB sb1
    generalize upd HB r (.lst (ds1.map V.int)) = H1 at hv1 hB1 pb1 ⊢
    obtain ⟨ve, hve⟩ : ∃ v, ([.ref p1, .ref p2, .ref p3, .ref p4, .ref p5, .ref p6] : List V)[j]? = some v := ⟨_, List.getElem?_eq_getElem (by exact hj)⟩
    obtain ⟨b, heb, hb⟩ := paired_ix pb1 hve
    obtain ⟨nb, okb⟩ := badLt_ok n (by omega) b (List.mem_of_getElem? heb)
    refine ⟨pB, _, (j : Int), ve, rfl, rfl, .inl (.inl hB1), atI_nat hve, ?_⟩
    clear hB1 pb1 hve heb pb hB hLB hvB nrB sb1
    refine ⟨_, rfl, _, rfl, _, rfl, x, hv1, fun va H2 s2 hva => ?_⟩
    rw [cutL_to k] at hva
    refine ⟨_, rfl, (by show 1 ≤ sizeLine; omega), fun p1 np1 => ?_⟩
    have w1 := same_upd (o := .tup [ve]) np1
    have hone : WP K (upd H2 p1 (.tup [ve])) (.ref p1) [b] := ⟨p1, _, rfl, .inl (.inl upd_same), .cons ((hb.same s2).same w1) .nil⟩
    refine ⟨_, _, hva.same w1, hone, (by rw [List.length_take]; show _ + 1 ≤ _; omega), fun vb H3 s3 hvb => ?_⟩
    have hv3 := hv1.same (Same.trans s2 (Same.trans w1 s3))
    refine ⟨_, rfl, _, rfl, _, rfl, x, hv3, fun vc H4 s4 hvc => ?_⟩
    rw [cutL_from k] at hvc
    refine ⟨_, _, hvb.same s4, hvc, (by rw [List.length_append, List.length_take, List.length_drop]; show _ + 1 + _ ≤ _; omega), fun vw H5 s5 hvw => ?_⟩
    have lw : (x.take k ++ [b] ++ x.drop k).length ≤ 10 := by
      rw [List.length_append, List.length_append, List.length_take, List.length_drop]
      show _ + 1 + _ ≤ _
      omega
    have bw : isWd (n : Int) (x.take k ++ [b] ++ x.drop k) = false := isWd_bad (List.mem_append_left _ (List.mem_append_right _ (.head _))) nb
    have okx : WOk x := fun y hy => WOk_letters (by decide : ("parts" : Str) ∈ fams) (n : Int) y (all y hy)
    have okw : WOk (x.take k ++ [b] ++ x.drop k) := fun y hy => by
      rcases List.mem_append.mp hy with hy | hy
      · rcases List.mem_append.mp hy with hy | hy
        · exact okx y (List.mem_of_mem_take hy)
        · rw [List.mem_singleton.mp hy]; exact okb
      · exact okx y (List.mem_of_mem_drop hy)
    generalize x.take k ++ [b] ++ x.drop k = xw at hvw lw bw okw
    clear hva hvb hvc hv1 hv3 hone
    refine ⟨(by show 2 ≤ sizeLine; omega), fun pi npi => ?_⟩
    have u1 := same_upd (o := .tup [.str "p", .int 0]) npi
    refine ⟨(by show 1 ≤ sizeLine; omega), fun po npo => ?_⟩
    have u2 := same_upd (o := .tup [.ref pi]) npo
    refine ⟨po, 61, [.ref pi], rfl, rfl, .inl (.inl upd_same), (fun z => nomatch z), by decide, by decide, (by show 1 ≤ 1000; decide), fun z => absurd z (by decide), fun _ pr npr => ?_⟩
    have u3 := same_upd (o := .tup (List.replicate (61 : Int).toNat [V.ref pi]).flatten) npr
    have hlo : WP K (upd (upd (upd H5 pi (.tup [.str "p", .int 0])) po (.tup [.ref pi])) pr (.tup (List.replicate (61 : Int).toNat [V.ref pi]).flatten)) (.ref pr) (List.replicate 61 (("p", 0) : Lt)) := ⟨pr, _, rfl, .inl (.inl upd_same), paired_repl ⟨pi, rfl, (Same.trans u2 u3) _ _ upd_same⟩ 61⟩
    have hvw := hvw.same (Same.trans u1 (Same.trans u2 u3))
    generalize upd (upd (upd H5 pi (.tup [.str "p", .int 0])) po (.tup [.ref pi])) pr (.tup (List.replicate (61 : Int).toNat [V.ref pi]).flatten) = H6 at *
    clear u1 u2 u3 npi npo npr
    have okl : WOk (List.replicate 61 (("p", 0) : Lt)) := fun y hy => by
      rw [List.eq_of_mem_replicate hy]
      exact kind_ok (.inr (.inr (.inl rfl)))
    have bl : isWd (n : Int) (List.replicate 61 (("p", 0) : Lt)) = false := isWd_long (by rw [List.length_replicate]; decide)
    refine ⟨_, rfl, _, rfl, (by show 2 ≤ sizeLine; omega), fun W nW => ?_⟩
    have sW := same_upd (o := .lst [vw, .ref pr]) nW
    have hvw7 := hvw.same sW
    have hlo7 := hlo.same sW
    have hW : upd H6 W (.lst [vw, .ref pr]) W = some (.lst [vw, .ref pr]) := upd_same
    generalize upd H6 W (.lst [vw, .ref pr]) = H7 at hvw7 hlo7 hW ⊢
    refine ⟨W, rfl, ⟨_, .inl (.inl hW)⟩, for_list (xs := [vw, .ref pr]) (fun i σ H' => ∃ v8 v9, σ = [some (.ref r), some (.str z), some (.int (n : Int)), some (.ref tv), some (.int (k : Int)), some ve, some vw, some (.ref pr), v8, v9, none] ∧ Same H7 H')
      ⟨none, none, rfl, Same.refl _⟩ (fun i σ H' _ ⟨_, _, _, s'⟩ => .inl (.inl (s' _ _ hW))) (fun i y σ H8 hy hP => ?_) (fun σ H8 hP => ?_)⟩
    · obtain ⟨v8, v9, rfl, s8⟩ := hP
      obtain ⟨xs, hxs, bxs, oxs, lxs⟩ : ∃ xs, WP K H7 y xs ∧ isWd (n : Int) xs = false ∧ WOk xs ∧ xs.length ≤ 1000 := by
        match i, hy with
        | 0, hy => exact ⟨xw, Option.some.inj hy ▸ hvw7, bw, okw, by omega⟩
        | 1, hy => exact ⟨_, Option.some.inj hy ▸ hlo7, bl, okl, by rw [List.length_replicate]; decide⟩
      refine ⟨4, rfl, by decide, by decide, for_range (lo := 0) (n := 4) (fun j σ H' => ∃ v9, σ = [some (.ref r), some (.str z), some (.int (n : Int)), some (.ref tv), some (.int (k : Int)), some ve, some vw, some (.ref pr), some y, v9, none] ∧ Same H7 H')
        ⟨v9, rfl, s8⟩ (fun j σ H9 hj hP => ?_) (fun σ H9 hP => ?_)⟩
      · obtain ⟨v9, rfl, s9⟩ := hP
        have et := errT_bad (x := xs) (way := 0 + (j : Int)) (by omega) (by omega) mz hn bxs
        refine ⟨_, rfl, _, rfl, _, rfl, _, rfl, 0 + (j : Int), z, (n : Int), y, xs, rfl, by omega, by omega, hxs.same s9, oxs, lxs, fun t e H10 s10 => ?_, fun e => nomatch et.symm.trans e⟩
        obtain rfl := Option.some.inj (et.symm.trans e)
        exact ⟨rfl, _, rfl, ite_same ⟨_, rfl, Same.trans s9 s10⟩⟩
      · obtain ⟨v9, rfl, s9⟩ := hP
        have et := errT_4 (z := z) (x := xs) hn
        refine ⟨_, rfl, _, rfl, _, rfl, 4, z, (n : Int), y, xs, rfl, by decide, by decide, hxs.same s9, oxs, lxs, fun t e => ?_, fun _ => ⟨fun z => absurd z (by decide), fun z => absurd z (by decide), fun z => absurd z (by decide), fun z => absurd z (by decide), fun _ H10 s10 => ?_, fun z => absurd z (by decide)⟩⟩
        · exact nomatch et.symm.trans e
        exact ⟨false, false, by rw [bxs], rfl, _, rfl, if_neg_of (by decide) ⟨_, _, rfl, Same.trans s9 s10⟩⟩
    · obtain ⟨v8, v9, rfl, s8⟩ := hP
      have hvw8 := hvw7.same s8
      have hlo8 := hlo7.same s8
      clear hvw7 hlo7 hW s8
      refine ⟨1, rfl, (by show 2 ≤ sizeLine; omega), fun C nC => ?_⟩
      have sC := same_upd (o := .lst [.int (-1), .int 7]) nC
      have hvw9 := hvw8.same sC
      have hlo9 := hlo8.same sC
      have hC : upd H8 C (.lst [.int (-1), .int 7]) C = some (.lst [.int (-1), .int 7]) := upd_same
      generalize upd H8 C (.lst [.int (-1), .int 7]) = H9 at hvw9 hlo9 hC ⊢
      refine ⟨C, rfl, ⟨_, .inl (.inl hC)⟩, for_list (xs := [.int (-1), .int 7]) (fun i σ H' => ∃ v9 v10, σ = [some (.ref r), some (.str z), some (.int (n : Int)), some (.ref tv), some (.int (k : Int)), some ve, some vw, some (.ref pr), v8, v9, v10] ∧ Same H9 H')
        ⟨v9, none, rfl, Same.refl _⟩ (fun i σ H' _ ⟨_, _, _, s'⟩ => .inl (.inl (s' _ _ hC))) (fun i y σ H10 hy hP => ?_) (fun σ H10 hP => ?_)⟩
      · obtain ⟨v9, v10, rfl, s10⟩ := hP
        obtain ⟨c, rfl, bad⟩ : ∃ c : Int, y = .int c ∧ ¬ (0 ≤ c ∧ c ≤ 6) := by
          match i, hy with
          | 0, hy => exact ⟨-1, (Option.some.inj hy).symm, by omega⟩
          | 1, hy => exact ⟨7, (Option.some.inj hy).symm, by omega⟩
        refine ⟨6, rfl, by decide, by decide, for_range (lo := 0) (n := 6) (fun j σ H' => ∃ v9, σ = [some (.ref r), some (.str z), some (.int (n : Int)), some (.ref tv), some (.int (k : Int)), some ve, some vw, some (.ref pr), v8, v9, some (.int c)] ∧ Same H9 H')
          ⟨v9, rfl, s10⟩ (fun j σ H11 hj hP => ?_) (fun σ H11 hP => ?_)⟩
        · obtain ⟨v9, rfl, s11⟩ := hP
          have et := errT_num (x := xw) (way := 0 + (j : Int)) (by omega) (by omega) mz (by omega) bad
          refine ⟨_, rfl, _, rfl, _, rfl, _, rfl, 0 + (j : Int), z, c, vw, xw, rfl, by omega, by omega, hvw9.same s11, okw, by omega, fun t e H12 s12 => ?_, fun e => nomatch et.symm.trans e⟩
          obtain rfl := Option.some.inj (et.symm.trans e)
          exact ⟨rfl, _, rfl, ite_same ⟨_, rfl, Same.trans s11 s12⟩⟩
        · obtain ⟨v9, rfl, s11⟩ := hP
          exact ⟨_, _, rfl, s11⟩
      · obtain ⟨v9, v10, rfl, s10⟩ := hP
        have hvw := hvw9.same s10
        have hlo := hlo9.same s10
        clear hvw9 hlo9 hvw8 hlo8 hC s10
        have e2 : errT 2 "part" 9 xw = some ("!family" : Str) := by
          unfold errT
          rw [if_neg (by decide), if_pos rfl]
          exact errF1 (by decide)
        have e5 : errT 5 "" 9 xw = some ("!family" : Str) := by
          unfold errT
          rw [if_neg (by decide), if_neg (by decide), if_neg (by decide)]
          exact errF1 (by decide)
        refine ⟨_, rfl, 2, "part", 9, vw, xw, rfl, by decide, by decide, hvw, okw, by omega, fun t e H11 s11 => ?_, fun e => nomatch e2.symm.trans e⟩
        obtain rfl := Option.some.inj (e2.symm.trans e)
        refine ⟨rfl, _, rfl, ite_same ?_⟩
        refine ⟨_, rfl, 5, "", 9, vw, xw, rfl, by decide, by decide, hvw.same s11, okw, by omega, fun t e H12 s12 => ?_, fun e => nomatch e5.symm.trans e⟩
        obtain rfl := Option.some.inj (e5.symm.trans e)
        refine ⟨rfl, _, rfl, iteF ?_⟩
        refine ⟨_, rfl, rfl, _, rfl, ?_⟩
        by_cases n0 : n = 0
        · exact if_pos_of (decide_eq_true (by rw [n0]; rfl)) (q H12)
        · refine if_neg_of (fun z => n0 (by have := V.int.inj (of_decide_eq_true z); omega)) ?_
          refine ⟨_, rfl, _, rfl, _, rfl, 1, rfl, List.replicate 61 (("p", 0) : Lt), hlo.same (Same.trans s11 s12), fun v6 H13 s13 h13 => ?_⟩
          have e60 : cutL (List.replicate 61 (("p", 0) : Lt)) (some 1) none = List.replicate 60 (("p", 0) : Lt) := by
            rw [show (1 : Int) = ((1 : Nat) : Int) from rfl, cutL_from 1]
            rfl
          rw [e60] at h13
          have okl6 : WOk (List.replicate 60 (("p", 0) : Lt)) := fun y hy => okl y (by rw [List.eq_of_mem_replicate hy]; exact List.mem_replicate.mpr ⟨by decide, rfl⟩)
          have et := errT_4 (z := z) (x := List.replicate 60 (("p", 0) : Lt)) hn
          refine ⟨4, z, (n : Int), v6, _, rfl, by decide, by decide, h13, okl6, (by rw [List.length_replicate]; decide), fun t e => ?_, fun _ => ⟨fun z => absurd z (by decide), fun z => absurd z (by decide), fun z => absurd z (by decide), fun z => absurd z (by decide), fun _ H14 s14 => ?_, fun z => absurd z (by decide)⟩⟩
          · exact nomatch et.symm.trans e
          exact ⟨true, true, by rw [long_60 n (by omega) (by omega)], rfl, q H14⟩
end

theorem lt_sm0 : ∀ n : Nat, n < 7 → ∀ y ∈ lettersL "parts" (n : Int), PyData.canLay0 (dLt y) = true ∧ PyData.depth (dLt y) ≤ 1 ∧ PyData.showable (dLt y) = true ∧ wt (dLt y) ≤ 4000 := by decide +kernel
theorem smL_wd {n : Nat} (n6 : n < 7) {x : List Lt} (all : ∀ y ∈ x, y ∈ lettersL "parts" (n : Int)) (l : x.length ≤ 24) : SmL 2 100000 (dWd x) := by
  have e := smL_tuple (n := 1) (k := 4000) (ds := x.map dLt) fun D hD => by
    obtain ⟨y, hy, rfl⟩ := List.mem_map.mp hD
    obtain ⟨h1, h2, h3, h4⟩ := lt_sm0 n n6 y (all y hy)
    exact ⟨h1, h2, h3, h4⟩
  rw [List.length_map] at e
  exact ⟨e.lay, e.dep, e.sho, Nat.le_trans e.wgt (by omega)⟩
theorem smL_ls {n : Nat} (n6 : n < 7) {x : List Lt} (all : ∀ y ∈ x, y ∈ lettersL "parts" (n : Int)) (l : x.length ≤ 24) : SmL 2 100000 (dLs x) := by
  have e := smL_list (n := 1) (k := 4000) (ds := x.map dLt) fun D hD => by
    obtain ⟨y, hy, rfl⟩ := List.mem_map.mp hD
    obtain ⟨h1, h2, h3, h4⟩ := lt_sm0 n n6 y (all y hy)
    exact ⟨h1, h2, h3, h4⟩
  rw [List.length_map] at e
  exact ⟨e.lay, e.dep, e.sho, Nat.le_trans e.wgt (by omega)⟩
theorem kin28 : ∀ z ∈ fams, ∀ n : Nat, n < 7 → ∀ y ∈ lettersL "parts" (n : Int), (!(Builtin.Str.occurrences (kindS z) y.1 0 (kindS z).length 1).isEmpty) = decide (y ∈ lettersL z (n : Int)) := by decide +kernel
theorem isWd_ok {n : Nat} {x : List Lt} (all : ∀ y ∈ x, y ∈ lettersL "parts" (n : Int)) (l : x.length ≤ 60) : isWd (n : Int) x = true := by
  unfold isWd allIn
  rw [decide_eq_true l, Bool.true_and]
  exact List.all_eq_true.mpr fun y hy => decide_eq_true (all y hy)
theorem errT_ok {way : Int} {z : Str} {n : Nat} {x : List Lt} (mz : z ∈ fams) (n6 : n < 7) (all : ∀ y ∈ x, y ∈ lettersL "parts" (n : Int)) (l : x.length ≤ 60) : errT way z n x = none := by
  have hn : (0 : Int) ≤ (n : Int) ∧ (n : Int) ≤ 6 := by omega
  have e := isWd_ok all l
  unfold errT
  by_cases c : way = 0 ∨ way = 1 ∨ way = 3
  · rw [if_pos c]
    exact errW4 l hn e
  · rw [if_neg c]
    by_cases c2 : way = 2
    · rw [if_pos c2, e]
      exact errF4 mz hn
    · rw [if_neg c2]
      by_cases c4 : way = 4
      · rw [if_pos c4, if_neg (fun y => y.2 hn)]
      · rw [if_neg c4]
        exact errF4 mz hn
theorem rd_dash : ∀ n : Nat, n < 7 → rdW (lettersL "parts" (n : Int)) 0 (Txt.split "-" " ") = .inl 0 := by decide +kernel
theorem wdT_dash {n : Nat} {x : List Lt} (n6 : n < 7) (all : ∀ y ∈ x, y ∈ lettersL "parts" (n : Int)) (l60 : x.length ≤ 60) (ne : x ≠ []) : wdT x ≠ "-" := fun e => by
  have h := rd_wd n6 all l60 ne
  rw [e, rd_dash n n6] at h
  exact nomatch h
theorem wdS_le {n : Nat} {x : List Lt} (n6 : n < 7) (all : ∀ y ∈ x, y ∈ lettersL "parts" (n : Int)) (l : x.length ≤ 8) : (wdS n x).1 ≤ 1000 := by
  obtain ⟨h1, _⟩ := wd_same n6 all x.length (Nat.le_refl _)
  rw [List.take_length] at h1
  rw [← h1]
  refine Nat.le_trans (hid_le _ _) ?_
  unfold wT
  rw [ujP_len, ixs_len']
  have := Nat.mul_le_mul l (show n ≤ 6 by omega)
  omega
/-- the law's draws and its word -/
structure W28 (K : PySem.W.Frag) (H : Hp) (r tv : Addr) (n : Nat) (x : List Lt) (ds : List Int) : Prop where
  hr : H r = some (.lst (ds.map V.int))
  hv : WP K H (.ref tv) x
theorem W28.same {K : PySem.W.Frag} {H H' : Hp} {r tv : Addr} {n : Nat} {x : List Lt} {ds : List Int} (s : Same H H') (h : W28 K H r tv n x ds) : W28 K H' r tv n x ds := ⟨s _ _ h.hr, h.hv.same s⟩
section
variable {P : Program} {w : World} {K : PySem.W.Frag} {mg : Str → Option Value} {base : Heap}
def spLaw (K : PySem.W.Frag) : Sp := fun vs H Q _ => ∃ (a : Addr) (ns : List Int), vs = [.ref a] ∧ SqL K H a (ns.map V.int) ∧ ns.length ≤ 63 ∧ ∀ H', Q (.bl true) H'
theorem ok_law {f CF CB a_law_next : Addr} {fd fd_law_next : FuncData} (F : Fun K "law" "law" s_law f fd) (z_int : mg "int" = none) (z_repr : mg "repr" = none) (z_str : mg "str" = none) (z_all : mg "all" = none)
    (G_law_next : FnOk P w K mg base CX0 1 a_law_next fd_law_next ["draws"] spNext) (g_law_next : mg "_law_next" = some (.ref a_law_next)) (k_law_next : PySem.W.keepIn K (.ref a_law_next) = true) (b_law_next : Binds K fd_law_next ["draws"] [])
    {a_law_draws : Addr} {fd_law_draws : FuncData} (G_law_draws : FnOk P w K mg base CX0 2 a_law_draws fd_law_draws ["script"] (spDraws K)) (g_law_draws : mg "_law_draws" = some (.ref a_law_draws)) (k_law_draws : PySem.W.keepIn K (.ref a_law_draws) = true) (b_law_draws : Binds K fd_law_draws ["script"] [])
    {a_law_family : Addr} {fd_law_family : FuncData} (G_law_family : FnOk P w K mg base CX0 2 a_law_family fd_law_family ["draws"] spFamily) (g_law_family : mg "_law_family" = some (.ref a_law_family)) (k_law_family : PySem.W.keepIn K (.ref a_law_family) = true) (b_law_family : Binds K fd_law_family ["draws"] [])
    {a_law_drawn_word : Addr} {fd_law_drawn_word : FuncData} (G_law_drawn_word : FnOk P w K mg base CX0 3 a_law_drawn_word fd_law_drawn_word ["draws", "family", "n", "most"] (spDrawnW K)) (g_law_drawn_word : mg "_law_drawn_word" = some (.ref a_law_drawn_word)) (k_law_drawn_word : PySem.W.keepIn K (.ref a_law_drawn_word) = true) (b_law_drawn_word : Binds K fd_law_drawn_word ["draws", "family", "n", "most"] [])
    {a_letters : Addr} {fd_letters : FuncData} (G_letters : FnOk P w K mg base (L2N.CX P w) 2 a_letters fd_letters ["family", "n"] (spLetters CF CB)) (g_letters : mg "letters" = some (.ref a_letters)) (k_letters : PySem.W.keepIn K (.ref a_letters) = true) (b_letters : Binds K fd_letters ["family", "n"] [])
    {a_law_alphabet : Addr} {fd_law_alphabet : FuncData} (G_law_alphabet : FnOk P w K mg base CX0 2 a_law_alphabet fd_law_alphabet ["family", "n"] spAlpha) (g_law_alphabet : mg "_law_alphabet" = some (.ref a_law_alphabet)) (k_law_alphabet : PySem.W.keepIn K (.ref a_law_alphabet) = true) (b_law_alphabet : Binds K fd_law_alphabet ["family", "n"] [])
    {a_law_worded : Addr} {fd_law_worded : FuncData} (G_law_worded : FnOk P w K mg base CX0 3 a_law_worded fd_law_worded ["n", "word"] (spWorded K)) (g_law_worded : mg "_law_worded" = some (.ref a_law_worded)) (k_law_worded : PySem.W.keepIn K (.ref a_law_worded) = true) (b_law_worded : Binds K fd_law_worded ["n", "word"] [])
    {a_law_told : Addr} {fd_law_told : FuncData} (G_law_told : FnOk P w K mg base CX0 9 a_law_told fd_law_told ["which", "family", "n", "word"] (spTold28 K)) (g_law_told : mg "_law_told" = some (.ref a_law_told)) (k_law_told : PySem.W.keepIn K (.ref a_law_told) = true) (b_law_told : Binds K fd_law_told ["which", "family", "n", "word"] [])
    {a_law_turned_over : Addr} {fd_law_turned_over : FuncData} (G_law_turned_over : FnOk P w K mg base CX0 3 a_law_turned_over fd_law_turned_over ["diagram"] spTurned) (g_law_turned_over : mg "_law_turned_over" = some (.ref a_law_turned_over)) (k_law_turned_over : PySem.W.keepIn K (.ref a_law_turned_over) = true) (b_law_turned_over : Binds K fd_law_turned_over ["diagram"] [])
    {a_law_read : Addr} {fd_law_read : FuncData} (G_law_read : FnOk P w K mg base CX0 9 a_law_read fd_law_read ["n", "text"] (spLRead K)) (g_law_read : mg "_law_read" = some (.ref a_law_read)) (k_law_read : PySem.W.keepIn K (.ref a_law_read) = true) (b_law_read : Binds K fd_law_read ["n", "text"] [])
    {a_law_letter_kinds : Addr} {fd_law_letter_kinds : FuncData} (G_law_letter_kinds : FnOk P w K mg base CX0 1 a_law_letter_kinds fd_law_letter_kinds ["family"] spLKinds) (g_law_letter_kinds : mg "_law_letter_kinds" = some (.ref a_law_letter_kinds)) (k_law_letter_kinds : PySem.W.keepIn K (.ref a_law_letter_kinds) = true) (b_law_letter_kinds : Binds K fd_law_letter_kinds ["family"] [])
    {a_law_belongs : Addr} {fd_law_belongs : FuncData} (G_law_belongs : FnOk P w K mg base CX0 1 a_law_belongs fd_law_belongs ["family", "diagram"] spBelongs) (g_law_belongs : mg "_law_belongs" = some (.ref a_law_belongs)) (k_law_belongs : PySem.W.keepIn K (.ref a_law_belongs) = true) (b_law_belongs : Binds K fd_law_belongs ["family", "diagram"] [])
    {a_law_wrong_texts : Addr} {fd_law_wrong_texts : FuncData} (G_law_wrong_texts : FnOk P w K mg base CX0 10 a_law_wrong_texts fd_law_wrong_texts ["draws", "n", "parts"] (spWrongT K)) (g_law_wrong_texts : mg "_law_wrong_texts" = some (.ref a_law_wrong_texts)) (k_law_wrong_texts : PySem.W.keepIn K (.ref a_law_wrong_texts) = true) (b_law_wrong_texts : Binds K fd_law_wrong_texts ["draws", "n", "parts"] [])
    {a_law_refused : Addr} {fd_law_refused : FuncData} (G_law_refused : FnOk P w K mg base CX0 10 a_law_refused fd_law_refused ["draws", "family", "n", "word"] (spRefused K)) (g_law_refused : mg "_law_refused" = some (.ref a_law_refused)) (k_law_refused : PySem.W.keepIn K (.ref a_law_refused) = true) (b_law_refused : Binds K fd_law_refused ["draws", "family", "n", "word"] []) :
    FnG P w K mg base 11 f fd ["script"] (spLaw K) := by
  refine F.okG sc_law (fun vs H Q E h => ?_) (fun cdv A outer s H vs Q E hgu hr h => ?_)
  · obtain ⟨a, ns, rfl, _⟩ := h
    rfl
  · obtain ⟨sc, ns, rfl, hS, hlen, q⟩ := h
    refine ⟨_, (pss_cons (ps_set (i := 1) sc_law.nd rfl (.inl rfl) (pe_call G_law_draws (hr.mono (by decide)) rfl g_law_draws k_law_draws b_law_draws .nil pass0 (pa_cons (pv 0) pa_nil)))
  (pss_cons (ps_expr (pe_bm0 PySem.F.plainAttrs_list PySem.F.slot_list_reverse PySem.F.type_list_reverse mt_reverse (pv 1)))
  (pss_cons (ps_set (i := 2) sc_law.nd rfl (.inl rfl) (pe_op op_mod (pe_callTy call_int1 (by rfl) z_int boot_int (pa_cons (pe_call G_law_next (hr.mono (by decide)) rfl g_law_next k_law_next b_law_next .nil pass0 (pa_cons (pv 1) pa_nil)) pa_nil)) pe_int))
  (pss_cons (ps_set (i := 3) sc_law.nd rfl (.inr rfl) (pe_call G_law_family (hr.mono (by decide)) rfl g_law_family k_law_family b_law_family .nil pass0 (pa_cons (pv 1) pa_nil)))
  (pss_cons (ps_set (i := 4) sc_law.nd rfl (.inl rfl) (pe_call G_law_drawn_word (hr.mono (by decide)) rfl g_law_drawn_word k_law_drawn_word b_law_drawn_word .nil pass0 (pa_cons (pv 1) (pa_cons pe_str (pa_cons (pv 2) (pa_cons pe_int pa_nil))))))
  (Evl.pss_cut (ps_if (pt_cmpR op_eq (pe_op op_mod (pe_callTy call_int1 (by rfl) z_int boot_int (pa_cons (pe_call G_law_next (hr.mono (by decide)) rfl g_law_next k_law_next b_law_next .nil pass0 (pa_cons (pv 1) pa_nil)) pa_nil)) pe_int) pe_int (nomark _)) (pss_one (ps_set (i := 4) sc_law.nd rfl (.inl rfl) (pe_call G_law_drawn_word (hr.mono (by decide)) rfl g_law_drawn_word k_law_drawn_word b_law_drawn_word .nil pass0 (pa_cons (pv 1) (pa_cons (pv 3) (pa_cons (pv 2) (pa_cons pe_int pa_nil))))))) pss_nil)
  (Evl.pss_cut (ps_if (pt_cmpR op_ne (pe_callB (cr_reprD hgu (room65 hr)) (by rfl) z_repr boot_repr (pa_cons (pe_call G_letters (hr.mono (by decide)) rfl g_letters k_letters b_letters .nil passLN (pa_cons (pv 3) (pa_cons (pv 2) pa_nil))) pa_nil)) (pe_callB (cr_reprD hgu (room65 hr)) (by rfl) z_repr boot_repr (pa_cons (pe_call G_law_alphabet (hr.mono (by decide)) rfl g_law_alphabet k_law_alphabet b_law_alphabet .nil pass0 (pa_cons (pv 3) (pa_cons (pv 2) pa_nil))) pa_nil)) (nomark _)) (pss_one (ps_ret pe_bl)) pss_nil)
  (pss_cons (ps_asg (pe_call G_law_worded (hr.mono (by decide)) rfl g_law_worded k_law_worded b_law_worded .nil pass0 (pa_cons (pv 2) (pa_cons (pv 4) pa_nil))) (pg_unl rfl (pgs_cons (pg_name (i := 5) sc_law.nd rfl (.inl rfl)) (pgs_cons (pg_name (i := 6) sc_law.nd rfl (.inl rfl)) pgs_nil))))
  (Evl.pss_cut (ps_if (pt_cmpR op_ne (pe_callB (cr_reprD hgu (room65 hr)) (by rfl) z_repr boot_repr (pa_cons (pe_call G_law_told (hr.mono (by decide)) rfl g_law_told k_law_told b_law_told .nil pass0 (pa_cons pe_int (pa_cons (pv 3) (pa_cons (pv 2) (pa_cons (pv 4) pa_nil))))) pa_nil)) (pe_callB (cr_reprD hgu (room65 hr)) (by rfl) z_repr boot_repr (pa_cons (pe_tup (pa_cons (pv 5) (pa_cons (pv 6) pa_nil))) pa_nil)) (nomark _)) (pss_one (ps_ret pe_bl)) pss_nil)
  (Evl.pss_cut (ps_if (pt_cmpR op_ne (pe_callB (cr_reprD hgu (room65 hr)) (by rfl) z_repr boot_repr (pa_cons (pe_call G_law_told (hr.mono (by decide)) rfl g_law_told k_law_told b_law_told .nil pass0 (pa_cons pe_int (pa_cons (pv 3) (pa_cons (pv 2) (pa_cons (pe_revT (K := K) rfl (pv 4)) pa_nil))))) pa_nil)) (pe_callB (cr_reprD hgu (room65 hr)) (by rfl) z_repr boot_repr (pa_cons (pe_tup (pa_cons (pv 5) (pa_cons (pe_call G_law_turned_over (hr.mono (by decide)) rfl g_law_turned_over k_law_turned_over b_law_turned_over .nil pass0 (pa_cons (pv 6) pa_nil)) pa_nil))) pa_nil)) (nomark _)) (pss_one (ps_ret pe_bl)) pss_nil)
  (pss_cons (ps_setLc (i := 7) (own := [("kind", 10), ("i", 11)]) rfl sc_law.nd rfl rfl (sw_true rfl rfl rfl (by decide +kernel)) (pi_tup (pv 4)) (blkOk_by (N := ["script", "draws", "n", "family", "word", "count", "diagram", "parts", "text", "good", "kind", "i"]) (sc := defScope s_law) (by first | decide +kernel | rfl)) (fun _ _ _ _ _ => (pg_tupK (n := 2) (K := K) rfl rfl (pgs_cons (pg_name (i := 10) sc_law.nd rfl (.inl rfl)) (pgs_cons (pg_name (i := 11) sc_law.nd rfl (.inl rfl)) pgs_nil)))) (fun _ _ _ _ _ => pts_nil) (fun _ _ _ _ _ => (pe_op op_add_str (pv 10) (pe_callTy call_str_int (by rfl) z_str boot_str (pa_cons (pv 11) pa_nil)))))
  (Evl.pss_cut (ps_set (i := 8) sc_law.nd rfl (.inl rfl) (pe_ifExp (pt_truth (pv 7) (by intro _; rfl)) (pe_join pe_str (pv 7)) pe_str))
  (Evl.pss_cut (ps_if (L2.PW.pt (pw_or (pt_cmpR op_ne (pe_call G_law_told (hr.mono (by decide)) rfl g_law_told k_law_told b_law_told .nil pass0 (pa_cons pe_int (pa_cons (pv 3) (pa_cons (pv 2) (pa_cons (pv 4) pa_nil))))) (pv 8) (nomark _)) (pw_or1 (pt_cmpR op_ne (pe_callB (cr_reprD hgu (room65 hr)) (by rfl) z_repr boot_repr (pa_cons (pe_call G_law_read (hr.mono (by decide)) rfl g_law_read k_law_read b_law_read .nil pass0 (pa_cons (pv 2) (pa_cons (pv 8) pa_nil))) pa_nil)) (pe_callB (cr_reprD hgu (room65 hr)) (by rfl) z_repr boot_repr (pa_cons (pv 4) pa_nil)) (nomark _))))) (pss_one (ps_ret pe_bl)) pss_nil)
  (Evl.pss_cut (ps_set (i := 9) sc_law.nd rfl (.inl rfl) (pe_callB (cr_all rfl) (by rfl) z_all boot_all (pa_cons (pe_lc (own := [("kind", 10), ("i", 11)]) rfl sc_law.nd (pi_tup (pv 4)) (blkOk_by (N := ["script", "draws", "n", "family", "word", "count", "diagram", "parts", "text", "good", "kind", "i"]) (sc := defScope s_law) (by first | decide +kernel | rfl)) (fun _ _ _ _ _ => (pg_tupK (n := 2) (K := K) rfl rfl (pgs_cons (pg_name (i := 10) sc_law.nd rfl (.inl rfl)) (pgs_cons (pg_name (i := 11) sc_law.nd rfl (.inl rfl)) pgs_nil)))) (fun _ _ _ _ _ => pts_nil) (fun _ _ _ _ _ => (pe_cmpR op_in_str (pv 10) (pe_call G_law_letter_kinds (hr.mono (by decide)) rfl g_law_letter_kinds k_law_letter_kinds b_law_letter_kinds .nil pass0 (pa_cons (pv 3) pa_nil)) (by with_unfolding_all rfl)))) pa_nil)))
  (Evl.pss_cut (ps_if (L2.PW.pt (pw_or (pt_cmpR op_ne (pe_callB (cr_reprD hgu (room65 hr)) (by rfl) z_repr boot_repr (pa_cons (pe_call G_law_told (hr.mono (by decide)) rfl g_law_told k_law_told b_law_told .nil pass0 (pa_cons pe_int (pa_cons (pv 3) (pa_cons (pv 2) (pa_cons (pv 4) pa_nil))))) pa_nil)) (pe_callB (cr_reprD hgu (room65 hr)) (by rfl) z_repr boot_repr (pa_cons (pv 9) pa_nil)) (nomark _)) (pw_or1 (pt_cmpR op_notN (pe_call G_law_told (hr.mono (by decide)) rfl g_law_told k_law_told b_law_told .nil pass0 (pa_cons pe_int (pa_cons (pv 3) (pa_cons (pv 2) (pa_cons (pv 4) pa_nil))))) pe_non (nomark _))))) (pss_one (ps_ret pe_bl)) pss_nil)
  (Evl.pss_cut (ps_if (L2.PW.pt (pw_or (L2.PW.pt (pw_and (pt_truth (pv 9) (by intro _; rfl)) (pw_and1 (pt_not (pt_val (pe_call G_law_belongs (hr.mono (by decide)) rfl g_law_belongs k_law_belongs b_law_belongs .nil pass0 (pa_cons (pv 3) (pa_cons (pv 6) pa_nil)))))))) (pw_or1 (pt_cmpR op_notBl (pe_call G_law_told (hr.mono (by decide)) rfl g_law_told k_law_told b_law_told .nil pass0 (pa_cons pe_int (pa_cons (pv 3) (pa_cons (pv 2) (pa_cons (pv 4) pa_nil))))) pe_bl (nomark _))))) (pss_one (ps_ret pe_bl)) pss_nil)
  (pss_one (ps_ret (pe_and (pe_call G_law_wrong_texts (hr.mono (by decide)) rfl g_law_wrong_texts k_law_wrong_texts b_law_wrong_texts .nil pass0 (pa_cons (pv 1) (pa_cons (pv 2) (pa_cons (pv 7) pa_nil)))) (pe_one (pe_call G_law_refused (hr.mono (by decide)) rfl g_law_refused k_law_refused b_law_refused .nil pass0 (pa_cons (pv 1) (pa_cons (pv 3) (pa_cons (pv 2) (pa_cons (pv 4) pa_nil))))))))))))))))))))))))), ?_⟩
    have szl : 20000 ≤ sizeLine := by decide
    have szw : (3000000 : Nat) ≤ 16777216 := by decide
    have szv : (100000 : Nat) ≤ 16777216 := by decide
    refine ⟨_, rfl, sc, ns, rfl, hS, hlen, fun H1 r ds s1 nr hL => ?_⟩
    refine ⟨_, rfl, .inl ⟨rfl, _, .inl (.inl hL)⟩, r, _, rfl, rfl, hL, ?_⟩
    have hr1 : upd H1 r (.lst (ds.map V.int).reverse) r = some (.lst (ds.reverse.map V.int)) := by rw [upd_same, List.map_reverse]
    revert hr1
    generalize upd H1 r (.lst (ds.map V.int).reverse) = H2
    generalize ds.reverse = ds
    intro hr1
    clear hL s1 nr hS
    refine ⟨_, rfl, r, ds, rfl, hr1, fun n0 ds0 => .inl ⟨n0, rfl, n0, 7, rfl, rfl, (show (0 : Int) < 7 by decide), ?_⟩⟩
    have m := mod_lt8 n0 (show (0 : Int) < 7 by decide)
    obtain ⟨n, hn7, en⟩ : ∃ n : Nat, n < 7 ∧ n0 % 7 = (n : Int) := ⟨(n0 % 7).toNat, by omega, by omega⟩
    dsimp only
    rw [en]
    have hn : (0 : Int) ≤ (n : Int) ∧ (n : Int) ≤ 6 := by omega
    clear m en
    refine ⟨_, rfl, r, ds0, rfl, upd_same, fun z ds1 H3 mz sb3 hr3 => ?_⟩
    refine ⟨_, rfl, _, rfl, r, ds1, "parts", (n : Int), 8, rfl, hr3, (by decide), hn.1, hn.2, by decide, fun v x ds2 H4 sb4 hr4 hv4 x8 all => ?_⟩
    obtain ⟨tv, rfl⟩ : ∃ t, v = .ref t := by
      obtain ⟨t, _, e, _⟩ := hv4
      exact ⟨t, e⟩
    clear hr3 sb3 sb4 hr1
    refine ⟨fun σ H' => ∃ tv x ds, σ = [some (.ref sc), some (.ref r), some (.int (n : Int)), some (.str z), some (.ref tv), none, none, none, none, none, none, none] ∧ W28 K H' r tv n x ds ∧ x.length ≤ 8 ∧ (∀ y ∈ x, y ∈ lettersL "parts" (n : Int)), ?_, ?_⟩
    · refine ⟨_, rfl, r, ds2, rfl, hr4, fun n1 ds3 => .inl ⟨n1, rfl, n1, 2, rfl, rfl, (show (0 : Int) < 2 by decide), ?_⟩⟩
      have sb5 : SameBut r H4 (upd H4 r (.lst (ds3.map V.int))) := SameBut.upd
      have hv5 := WP.mutL hr4 sb5 hv4
      refine ⟨rfl, _, rfl, ite2 (fun e => ?_) (fun e => ?_)⟩
      · refine ⟨_, rfl, _, rfl, _, rfl, r, ds3, z, (n : Int), 8, rfl, upd_same, mz, hn.1, hn.2, by decide, fun v x' ds4 H6 sb6 hr6 hv6 x8 all => ?_⟩
        obtain ⟨tv', rfl⟩ : ∃ t, v = .ref t := by
          obtain ⟨t, _, e, _⟩ := hv6
          exact ⟨t, e⟩
        exact ⟨tv', x', ds4, rfl, ⟨hr6, hv6⟩, x8, fun y hy => letters_sub mz (all y hy)⟩
      · exact ⟨tv, x, ds3, rfl, ⟨upd_same, hv5⟩, x8, all⟩
    clear hv4 hr4 x8 all
    rintro σ H5 ⟨tv, x, ds, rfl, w5, x8, all⟩
    have l24 := lettersL_len z mz (n : Int) hn.2
    refine ⟨fun σ H' => σ = [some (.ref sc), some (.ref r), some (.int (n : Int)), some (.str z), some (.ref tv), none, none, none, none, none, none, none] ∧ W28 K H' r tv n x ds, ?_, ?_⟩
    · have sm := smL_ls hn7 (fun y hy => letters_sub mz hy) l24
      refine ⟨_, rfl, _, rfl, z, (n : Int), rfl, (fun y => absurd mz y), (fun _ y => absurd hn y), fun _ _ L ps H6 s6 hL pL => ?_⟩
      refine ⟨.ref L, dLs (lettersL z (n : Int)), rfl, .lst (.inl (.inl hL)) (lts_dp pL), sm.shaped (by decide), sm.sho, sm.wide szv, ?_⟩
      refine ⟨_, rfl, _, rfl, z, (n : Int), rfl, mz, hn.1, hn.2, fun L2 ps2 H7 s7 _ hL2 pL2 => ?_⟩
      refine ⟨.ref L2, dLs (lettersL z (n : Int)), rfl, .lst (.inl (.inl hL2)) (lts_dp pL2), sm.shaped (by decide), sm.sho, sm.wide szv, rfl, ?_⟩
      generalize PyData.shown _ = X
      exact ⟨_, rfl, if_neg_of (by rw [decide_eq_true rfl]; exact Bool.false_ne_true) ⟨rfl, w5.same (Same.trans s6 s7)⟩⟩
    clear w5
    rintro σ H6 ⟨rfl, w6⟩
    refine ⟨_, rfl, _, rfl, n, .ref tv, x, rfl, w6.hv, x8, by omega, all, fun D v' H7 s7 hD hd => ?_⟩
    refine ⟨D, _, rfl, .inl (.inl hD), rfl, _, _, rfl, _, _, rfl, rfl, ?_⟩
    obtain ⟨hl, hF⟩ := wd_fam (by decide : ("parts" : Str) ∈ fams) hn7 all
    have lec := wdS_le hn7 all x8
    have okx : WOk x := fun y hy => WOk_letters (by decide : ("parts" : Str) ∈ fams) (n : Int) y (all y hy)
    have eok : ∀ way, errT way z (n : Int) x = none := fun way => errT_ok mz hn7 all (by omega)
    have snn : siz (n : Int) (n : Int) = true := siz_iff.mpr (by omega)
    have w7 := w6.same s7
    have d7 : DgAt H7 v' n n (wdS n x).2 := ⟨hd, snn, by omega⟩
    clear w6 s7 hD hd
    refine ⟨fun σ H' => σ = [some (.ref sc), some (.ref r), some (.int (n : Int)), some (.str z), some (.ref tv), some (.int ((wdS n x).1 : Nat)), some v', none, none, none, none, none] ∧ W28 K H' r tv n x ds ∧ DgAt H' v' n n (wdS n x).2, ?_, ?_⟩
    · refine ⟨_, rfl, _, rfl, _, rfl, 0, z, (n : Int), .ref tv, x, rfl, by decide, by decide, w7.hv, okx, by omega, fun t e => ?_, fun _ => ⟨fun _ t v2 H8 s8 ht dv => ?_, fun z => absurd z (by decide), fun z => absurd z (by decide), fun z => absurd z (by decide), fun z => absurd z (by decide), fun z => absurd z (by decide)⟩⟩
      · exact nomatch (eok 0).symm.trans e
      rw [Int.toNat_natCast] at ht dv
      have sm := smL_put lec dv.dg
      refine ⟨.ref t, _, rfl, put_dp ht dv.1, sm.shaped (by decide), sm.sho, sm.wide szw, ?_⟩
      refine ⟨_, rfl, _, rfl, (by show 2 ≤ sizeLine; omega), fun p np => ?_⟩
      have s9 := same_upd (o := .tup [.int ((wdS n x).1 : Nat), v']) np
      have d9 := (d7.same s8).same s9
      refine ⟨.ref p, _, rfl, put_dp upd_same d9.1, sm.shaped (by decide), sm.sho, sm.wide szw, rfl, ?_⟩
      generalize PyData.shown _ = X
      exact ⟨_, rfl, if_neg_of (by rw [decide_eq_true rfl]; exact Bool.false_ne_true) ⟨rfl, (w7.same s8).same s9, d9⟩⟩
    clear w7 d7
    rintro σ H7 ⟨rfl, w7, d7⟩
    refine ⟨fun σ H' => σ = [some (.ref sc), some (.ref r), some (.int (n : Int)), some (.str z), some (.ref tv), some (.int ((wdS n x).1 : Nat)), some v', none, none, none, none, none] ∧ W28 K H' r tv n x ds ∧ DgAt H' v' n n (wdS n x).2, ?_, ?_⟩
    · obtain ⟨tv', xv, ee, hxv, pxv⟩ := w7.hv
      obtain rfl := V.ref.inj ee
      have lxr : x.reverse.length ≤ 8 := by rw [List.length_reverse]; exact x8
      have allr : ∀ y ∈ x.reverse, y ∈ lettersL "parts" (n : Int) := fun y hy => all y (List.mem_reverse.mp hy)
      have er : errT 0 z (n : Int) x.reverse = none := errT_ok mz hn7 allr (by omega)
      obtain ⟨er1, er2⟩ := wd_rev hn7 all
      refine ⟨_, rfl, _, rfl, _, rfl, tv, xv, rfl, hxv, fun p np => ?_⟩
      have s8 := same_upd (o := .tup xv.reverse) np
      have w8 := w7.same s8
      have d8 := d7.same s8
      refine ⟨0, z, (n : Int), .ref p, x.reverse, rfl, by decide, by decide, ⟨p, _, rfl, .inl (.inl upd_same), paired_rev (Paired.mapP pxv fun _ _ h => h.same s8)⟩, (fun y hy => okx y (List.mem_reverse.mp hy)), by omega, fun t e => ?_, fun _ => ⟨fun _ t v2 H9 s9 ht dv => ?_, fun z => absurd z (by decide), fun z => absurd z (by decide), fun z => absurd z (by decide), fun z => absurd z (by decide), fun z => absurd z (by decide)⟩⟩
      · exact nomatch er.symm.trans e
      rw [Int.toNat_natCast] at ht dv
      have sm := smL_put lec dv.dg
      rw [er1] at ht
      refine ⟨.ref t, _, rfl, put_dp ht dv.1, sm.shaped (by decide), sm.sho, sm.wide szw, ?_⟩
      refine ⟨_, rfl, _, rfl, v', n, n, _, rfl, d8.same s9, fun v3 H10 s10 d10 => ?_⟩
      rw [← er2] at d10
      refine ⟨(by show 2 ≤ sizeLine; omega), fun p2 np2 => ?_⟩
      have s11 := same_upd (o := .tup [.int ((wdS n x).1 : Nat), v3]) np2
      refine ⟨.ref p2, _, rfl, put_dp upd_same (d10.same s11), sm.shaped (by decide), sm.sho, sm.wide szw, rfl, ?_⟩
      generalize PyData.shown _ = X
      have sA := Same.trans s9 (Same.trans s10 s11)
      exact ⟨_, rfl, if_neg_of (by rw [decide_eq_true rfl]; exact Bool.false_ne_true) ⟨rfl, w8.same sA, d8.same sA⟩⟩
    clear w7 d7
    rintro σ H8 ⟨rfl, w8, d8⟩
    obtain ⟨tv', xv, ee, hxv, pxv⟩ := w8.hv
    obtain rfl := V.ref.inj ee
    have lxv := pxv.length
    have kp : ∀ {D : Addr}, H8 D = none → ∀ {H' : Hp}, SameBut D H8 H' → Same H8 H' := fun {D} nD {H'} sb b o e => sb b o (ne_of_none e nD) e
    have two : ∀ y ∈ x.map letT, y.length = 2 := fun y hy => by
      obtain ⟨y0, hy0, rfl⟩ := List.mem_map.mp hy
      exact letT_fine n hn7 y0 (all y0 hy0)
    refine ⟨_, rfl, tv, rfl, ⟨_, hxv⟩, fun D nD => ?_⟩
    refine lc_it walk_tup (fun i H' => SameBut D H8 H' ∧ H' D = some (.lst (((x.take i).map letT).map V.str))) ⟨SameBut.upd, upd_same⟩ (fun i H' _ hP => sqT_same (kp nD hP.1) hxv) (fun i y H9 H10 hi hP hy => ?_) (fun H9 hP => ?_)
    · obtain ⟨sb, hD⟩ := hP
      obtain ⟨rfl, ey⟩ := hy
      obtain ⟨xi, exi, hy⟩ := paired_ix pxv ey
      have hi : i < x.length := (List.getElem?_eq_some_iff.mp exi).1
      have mi := List.mem_of_getElem? exi
      obtain ⟨k1, k2, k3⟩ := lettersL_ok (by decide : ("parts" : Str) ∈ fams) (all xi mi)
      have wk : 1 ≤ wideK xi.1 := by
        unfold wideK
        split <;> decide
      obtain ⟨t, rfl, ht⟩ := hy.same (kp nD sb)
      obtain ⟨i', ei'⟩ : ∃ i' : Nat, xi.2 = (i' : Int) := ⟨xi.2.toNat, by omega⟩
      have l2 := two (letT xi) (List.mem_map_of_mem mi)
      refine ⟨t, _, rfl, .inl (.inl ht), rfl, _, _, rfl, _, _, rfl, rfl, rfl, ?_⟩
      refine ⟨_, rfl, _, rfl, _, rfl, (by rw [ei']; exact log2_fine i' (by omega)), _, _, rfl, rfl, ?_, ?_⟩
      · have kl : xi.1.length ≤ 100 := by
          rcases k1 with e | e | e | e <;> rw [e] <;> decide
        have l1 := numI_len i' (by omega)
        rw [← ei'] at l1
        show xi.1.length + (numI xi.2).length ≤ sizeLine
        omega
      refine ⟨_, hD, Nat.lt_of_le_of_lt (show _ ≤ i by rw [List.length_map, List.length_map, List.length_take]; omega) (by omega), sb.trans SameBut.upd, ?_⟩
      rw [upd_same, List.take_succ, exi, List.map_append, List.map_append]
      rfl
    obtain ⟨sb, hD⟩ := hP
    rw [lxv, List.take_length] at hD
    have nDr : r ≠ D := fun e => by
      rw [← e, w8.hr] at nD
      exact nomatch nD
    have w9 := w8.same (kp nD sb)
    have d9 := d8.same (kp nD sb)
    clear w8 d8 sb nD hxv pxv kp
    refine ⟨fun σ H' => σ = [some (.ref sc), some (.ref r), some (.int (n : Int)), some (.str z), some (.ref tv), some (.int ((wdS n x).1 : Nat)), some v', some (.ref D), some (.str (wdT x)), none, none, none] ∧ H' = H9, ?_, ?_⟩
    · refine ⟨_, rfl, !(((x.map letT).map V.str).isEmpty), .inl ⟨_, .inl (.inl hD), rfl⟩, ?_⟩
      by_cases e0 : x = []
      · subst e0
        exact if_neg_of Bool.false_ne_true ⟨rfl, rfl⟩
      · have ne : ((x.map letT).map V.str).isEmpty = false := by
          cases x with
          | nil => exact absurd rfl e0
          | cons _ _ => rfl
        rw [ne]
        refine if_pos_of rfl ?_
        have ew : wdT x = Txt.join " " (x.map letT) := by
          unfold wdT
          rw [if_neg e0]
        refine ⟨⟨_, rfl⟩, _, rfl, " ", D, x.map letT, rfl, rfl, .inl (.inl (.inl hD)), ?_, ?_⟩
        · have := sum3 (x.map letT) (fun y hy => by rw [two y hy]; decide)
          rw [List.length_map] at this ⊢
          rw [show (" " : Str).length = 1 from rfl]
          omega
        rw [← ew]
        exact ⟨rfl, rfl⟩
    rintro σ H10 ⟨rfl, rfl⟩
    have lw : (wdT x).length ≤ 40 := by
      by_cases e0 : x = []
      · subst e0
        decide
      · have ew : wdT x = Txt.join " " (x.map letT) := by
          unfold wdT
          rw [if_neg e0]
        have := join3 (fun y hy => by rw [two y hy]; decide : ∀ y ∈ x.map letT, y.length ≤ 3)
        rw [List.length_map] at this
        rw [ew]
        omega
    refine ⟨fun σ H' => σ = [some (.ref sc), some (.ref r), some (.int (n : Int)), some (.str z), some (.ref tv), some (.int ((wdS n x).1 : Nat)), some v', some (.ref D), some (.str (wdT x)), none, none, none] ∧ W28 K H' r tv n x ds ∧ DgAt H' v' n n (wdS n x).2 ∧ H' D = some (.lst ((x.map letT).map V.str)), ?_, ?_⟩
    · refine ⟨_, rfl, _, rfl, _, rfl, 1, z, (n : Int), .ref tv, x, rfl, by decide, by decide, w9.hv, okx, by omega, fun t e => ?_, fun _ => ⟨fun z => absurd z (by decide), fun _ H11 s11 => ?_, fun z => absurd z (by decide), fun z => absurd z (by decide), fun z => absurd z (by decide), fun z => absurd z (by decide)⟩⟩
      · exact nomatch (eok 1).symm.trans e
      refine ⟨_, rfl, rfl, _, rfl, ite_same ?_⟩
      have sm := smL_wd hn7 all (by omega)
      refine ⟨_, rfl, _, rfl, (n : Int), wdT x, rfl, by omega, fun z => absurd hn z, fun _ e0 t H12 s12 ht => ?_, fun _ e0 => ⟨fun i ei => ?_, fun y ey t H12 s12 hy => ?_⟩⟩
      · have ex : x = [] := Classical.byContradiction fun ne => wdT_dash hn7 all (by omega) ne e0
        have sA := Same.trans s11 s12
        refine ⟨.ref t, dWd x, rfl, WP.dp (K := K) ⟨t, [], rfl, .inl (.inl ht), by rw [ex]; exact .nil⟩, sm.shaped (by decide), sm.sho, sm.wide szv, ?_⟩
        refine ⟨_, rfl, .ref tv, dWd x, rfl, (w9.same sA).hv.dp, sm.shaped (by decide), sm.sho, sm.wide szv, rfl, ?_⟩
        generalize PyData.shown _ = X
        exact ⟨_, rfl, ite_same ⟨rfl, w9.same sA, d9.same sA, sA _ _ hD⟩⟩
      · have ne : x ≠ [] := fun z => e0 (by rw [z]; rfl)
        exact nomatch (rd_wd hn7 all (by omega) ne).symm.trans ei
      · have ne : x ≠ [] := fun z => e0 (by rw [z]; rfl)
        obtain rfl : x = y := Sum.inr.inj ((rd_wd hn7 all (by omega) ne).symm.trans ey)
        have sA := Same.trans s11 s12
        refine ⟨.ref t, dWd x, rfl, hy.dp, sm.shaped (by decide), sm.sho, sm.wide szv, ?_⟩
        refine ⟨_, rfl, .ref tv, dWd x, rfl, (w9.same sA).hv.dp, sm.shaped (by decide), sm.sho, sm.wide szv, rfl, ?_⟩
        generalize PyData.shown _ = X
        exact ⟨_, rfl, ite_same ⟨rfl, w9.same sA, d9.same sA, sA _ _ hD⟩⟩
    clear w9 d9 hD
    rintro σ H9 ⟨rfl, w9, d9, hD⟩
    obtain ⟨tv', xv, ee, hxv, pxv⟩ := w9.hv
    obtain rfl := V.ref.inj ee
    have lxv := pxv.length
    have kp : ∀ {D : Addr}, H9 D = none → ∀ {H' : Hp}, SameBut D H9 H' → Same H9 H' := fun {D} nD {H'} sb b o e => sb b o (ne_of_none e nD) e
    refine ⟨fun σ H' => σ = [some (.ref sc), some (.ref r), some (.int (n : Int)), some (.str z), some (.ref tv), some (.int ((wdS n x).1 : Nat)), some v', some (.ref D), some (.str (wdT x)), some (.bl (allIn (lettersL z (n : Int)) x)), none, none] ∧ W28 K H' r tv n x ds ∧ DgAt H' v' n n (wdS n x).2 ∧ H' D = some (.lst ((x.map letT).map V.str)), ?_, ?_⟩
    · refine ⟨_, rfl, tv, rfl, ⟨_, hxv⟩, fun G nG => ?_⟩
      refine lc_it walk_tup (fun i H' => SameBut G H9 H' ∧ H' G = some (.lst (((x.take i).map fun y => decide (y ∈ lettersL z (n : Int))).map V.bl))) ⟨SameBut.upd, upd_same⟩ (fun i H' _ hP => sqT_same (kp nG hP.1) hxv) (fun i y H10 H11 hi hP hy => ?_) (fun H10 hP => ?_)
      · obtain ⟨sb, hG⟩ := hP
        obtain ⟨rfl, ey⟩ := hy
        obtain ⟨xi, exi, hy⟩ := paired_ix pxv ey
        have hi : i < x.length := (List.getElem?_eq_some_iff.mp exi).1
        have mi := List.mem_of_getElem? exi
        obtain ⟨t, rfl, ht⟩ := hy.same (kp nG sb)
        refine ⟨t, _, rfl, .inl (.inl ht), rfl, _, _, rfl, _, _, rfl, rfl, rfl, ?_⟩
        refine ⟨_, rfl, _, rfl, z, rfl, _, _, rfl, rfl, ?_⟩
        rw [kin28 z mz n hn7 xi (all xi mi)]
        refine ⟨_, hG, Nat.lt_of_le_of_lt (show _ ≤ i by rw [List.length_map, List.length_map, List.length_take]; omega) (by omega), sb.trans SameBut.upd, ?_⟩
        rw [upd_same, List.take_succ, exi, List.map_append, List.map_append]
        rfl
      · obtain ⟨sb, hG⟩ := hP
        rw [lxv, List.take_length] at hG
        refine ⟨G, _, rfl, .inl (.inl hG), ?_⟩
        have e : ((x.map fun y => decide (y ∈ lettersL z (n : Int)))).all id = allIn (lettersL z (n : Int)) x := by
          unfold allIn
          rw [List.all_map]
          rfl
        rw [e]
        exact ⟨rfl, w9.same (kp nG sb), d9.same (kp nG sb), kp nG sb _ _ hD⟩
    clear w9 d9 hD kp hxv pxv
    rintro σ H9 ⟨rfl, w9, d9, hD⟩
    refine ⟨fun σ H' => σ = [some (.ref sc), some (.ref r), some (.int (n : Int)), some (.str z), some (.ref tv), some (.int ((wdS n x).1 : Nat)), some v', some (.ref D), some (.str (wdT x)), some (.bl (allIn (lettersL z (n : Int)) x)), none, none] ∧ W28 K H' r tv n x ds ∧ DgAt H' v' n n (wdS n x).2 ∧ H' D = some (.lst ((x.map letT).map V.str)), ?_, ?_⟩
    · refine ⟨_, rfl, _, rfl, _, rfl, 2, z, (n : Int), .ref tv, x, rfl, by decide, by decide, w9.hv, okx, by omega, fun t e => ?_, fun _ => ⟨fun z => absurd z (by decide), fun z => absurd z (by decide), fun _ H10 s10 => ?_, fun z => absurd z (by decide), fun z => absurd z (by decide), fun z => absurd z (by decide)⟩⟩
      · exact nomatch (eok 2).symm.trans e
      have sm := smL_bool (allIn (lettersL z (n : Int)) x)
      have w10 := w9.same s10
      refine ⟨.bl _, _, rfl, .bl _, sm.shaped (by decide), sm.sho, sm.wide (by decide), ?_⟩
      refine ⟨_, rfl, .bl _, _, rfl, .bl _, sm.shaped (by decide), sm.sho, sm.wide (by decide), rfl, ?_⟩
      generalize PyData.shown _ = X
      refine ⟨_, rfl, ite_same ?_⟩
      refine ⟨_, rfl, _, rfl, _, rfl, 3, z, (n : Int), .ref tv, x, rfl, by decide, by decide, w10.hv, okx, by omega, fun t e => ?_, fun _ => ⟨fun z => absurd z (by decide), fun z => absurd z (by decide), fun z => absurd z (by decide), fun _ H11 s11 => ?_, fun z => absurd z (by decide), fun z => absurd z (by decide)⟩⟩
      · exact nomatch (eok 3).symm.trans e
      have sA := Same.trans s10 s11
      exact ⟨rfl, _, rfl, ite_same ⟨rfl, w9.same sA, d9.same sA, sA _ _ hD⟩⟩
    clear w9 d9 hD
    rintro σ H9 ⟨rfl, w9, d9, hD⟩
    refine ⟨fun σ H' => σ = [some (.ref sc), some (.ref r), some (.int (n : Int)), some (.str z), some (.ref tv), some (.int ((wdS n x).1 : Nat)), some v', some (.ref D), some (.str (wdT x)), some (.bl (allIn (lettersL z (n : Int)) x)), none, none] ∧ W28 K H' r tv n x ds ∧ H' D = some (.lst ((x.map letT).map V.str)), ?_, ?_⟩
    · refine ⟨_, rfl, _, rfl, ?_⟩
      have t4 : ∀ H10, Same H9 H10 → errT 4 z (n : Int) x = none := fun _ _ => eok 4
      have iw := isWd_ok all (by omega)
      cases ea : allIn (lettersL z (n : Int)) x with
      | true =>
        have allz : ∀ y ∈ x, y ∈ lettersL z (n : Int) := by
          unfold allIn at ea
          exact fun y hy => of_decide_eq_true (List.all_eq_true.mp ea y hy)
        obtain ⟨_, hFz⟩ := wd_fam mz hn7 allz
        refine if_pos_of rfl ?_
        refine ⟨_, rfl, _, rfl, z, v', n, n, _, rfl, d9.1, mz, blocks_ne, ?_⟩
        rw [hFz]
        refine ⟨_, rfl, if_neg_of (by decide) ?_⟩
        refine ⟨_, rfl, _, rfl, _, rfl, 4, z, (n : Int), .ref tv, x, rfl, by decide, by decide, w9.hv, okx, by omega, fun t e => ?_, fun _ => ⟨fun z => absurd z (by decide), fun z => absurd z (by decide), fun z => absurd z (by decide), fun z => absurd z (by decide), fun _ H10 s10 => ?_, fun z => absurd z (by decide)⟩⟩
        · exact nomatch (eok 4).symm.trans e
        exact ⟨true, true, by rw [iw], rfl, _, rfl, iteF ⟨rfl, w9.same s10, s10 _ _ hD⟩⟩
      | false =>
        refine if_neg_of Bool.false_ne_true ?_
        refine ⟨_, rfl, _, rfl, _, rfl, 4, z, (n : Int), .ref tv, x, rfl, by decide, by decide, w9.hv, okx, by omega, fun t e => ?_, fun _ => ⟨fun z => absurd z (by decide), fun z => absurd z (by decide), fun z => absurd z (by decide), fun z => absurd z (by decide), fun _ H10 s10 => ?_, fun z => absurd z (by decide)⟩⟩
        · exact nomatch (eok 4).symm.trans e
        exact ⟨true, true, by rw [iw], rfl, _, rfl, iteF ⟨rfl, w9.same s10, s10 _ _ hD⟩⟩
    clear w9 d9 hD
    rintro σ H9 ⟨rfl, w9, hD⟩
    refine ⟨_, rfl, _, rfl, _, rfl, r, D, ds, n, x, rfl, nDr, w9.hr, hD, by omega, x8, all, fun ds' H10 sb10 hr10 => ?_⟩
    refine ⟨true, rfl, if_pos_of rfl ?_⟩
    exact ⟨_, rfl, _, rfl, _, rfl, _, rfl, r, .ref tv, ds', z, n, x, rfl, hr10, mz, by omega, WP.mutL w9.hr sb10 w9.hv, x8, all, q⟩
end

theorem all_mk {P : Program} {w : World} {K : PySem.W.Frag} {h : Heap} {mg : Str → Option Value} {fa : Addr} (X : K.In h) (G : h.Ns mainGlobals mg) (hfa : mg "law" = some (.ref fa))
    {f_law_number : Addr} {od_law_number an_law_number : Option Addr} {sl_law_number : Array (Option Value)} {oc_law_number kV_law_number dc_law_number pm_law_number cd_law_number ct_law_number : Value}
    {f_law_next : Addr} {od_law_next an_law_next : Option Addr} {sl_law_next : Array (Option Value)} {oc_law_next kV_law_next dc_law_next pm_law_next cd_law_next ct_law_next : Value}
    {f_law_draws : Addr} {od_law_draws an_law_draws : Option Addr} {sl_law_draws : Array (Option Value)} {oc_law_draws kV_law_draws dc_law_draws pm_law_draws cd_law_draws ct_law_draws : Value}
    {f_is_size_ : Addr} {od_is_size_ an_is_size_ : Option Addr} {sl_is_size_ : Array (Option Value)} {oc_is_size_ kV_is_size_ dc_is_size_ pm_is_size_ cd_is_size_ ct_is_size_ : Value}
    {f_check_size_ : Addr} {od_check_size_ an_check_size_ : Option Addr} {sl_check_size_ : Array (Option Value)} {oc_check_size_ kV_check_size_ dc_check_size_ pm_check_size_ cd_check_size_ ct_check_size_ : Value}
    {f_is_diagram : Addr} {od_is_diagram an_is_diagram : Option Addr} {sl_is_diagram : Array (Option Value)} {oc_is_diagram kV_is_diagram dc_is_diagram pm_is_diagram cd_is_diagram ct_is_diagram : Value}
    {f_check_diagram : Addr} {od_check_diagram an_check_diagram : Option Addr} {sl_check_diagram : Array (Option Value)} {oc_check_diagram kV_check_diagram dc_check_diagram pm_check_diagram cd_check_diagram ct_check_diagram : Value}
    {f_from_labels : Addr} {od_from_labels an_from_labels : Option Addr} {sl_from_labels : Array (Option Value)} {oc_from_labels kV_from_labels dc_from_labels pm_from_labels cd_from_labels ct_from_labels : Value}
    {f_check_family : Addr} {od_check_family an_check_family : Option Addr} {sl_check_family : Array (Option Value)} {oc_check_family kV_check_family dc_check_family pm_check_family cd_check_family ct_check_family : Value}
    {f_root_ : Addr} {od_root_ an_root_ : Option Addr} {sl_root_ : Array (Option Value)} {oc_root_ kV_root_ dc_root_ pm_root_ cd_root_ ct_root_ : Value}
    {f_piece_marks : Addr} {od_piece_marks an_piece_marks : Option Addr} {sl_piece_marks : Array (Option Value)} {oc_piece_marks kV_piece_marks dc_piece_marks pm_piece_marks cd_piece_marks ct_piece_marks : Value}
    {f_hidden_count : Addr} {od_hidden_count an_hidden_count : Option Addr} {sl_hidden_count : Array (Option Value)} {oc_hidden_count kV_hidden_count dc_hidden_count pm_hidden_count cd_hidden_count ct_hidden_count : Value}
    {f_put : Addr} {od_put an_put : Option Addr} {sl_put : Array (Option Value)} {oc_put kV_put dc_put pm_put cd_put ct_put : Value}
    {f_check_ : Addr} {od_check_ an_check_ : Option Addr} {sl_check_ : Array (Option Value)} {oc_check_ kV_check_ dc_check_ pm_check_ cd_check_ ct_check_ : Value}
    {f_with_marks_ : Addr} {od_with_marks_ an_with_marks_ : Option Addr} {sl_with_marks_ : Array (Option Value)} {oc_with_marks_ kV_with_marks_ dc_with_marks_ pm_with_marks_ cd_with_marks_ ct_with_marks_ : Value}
    {f_changed_ : Addr} {od_changed_ an_changed_ : Option Addr} {sl_changed_ : Array (Option Value)} {oc_changed_ kV_changed_ dc_changed_ pm_changed_ cd_changed_ ct_changed_ : Value}
    {f_unit : Addr} {od_unit an_unit : Option Addr} {sl_unit : Array (Option Value)} {oc_unit kV_unit dc_unit pm_unit cd_unit ct_unit : Value}
    {f_hook : Addr} {od_hook an_hook : Option Addr} {sl_hook : Array (Option Value)} {oc_hook kV_hook dc_hook pm_hook cd_hook ct_hook : Value}
    {f_swap : Addr} {od_swap an_swap : Option Addr} {sl_swap : Array (Option Value)} {oc_swap kV_swap dc_swap pm_swap cd_swap ct_swap : Value}
    {f_bridge : Addr} {od_bridge an_bridge : Option Addr} {sl_bridge : Array (Option Value)} {oc_bridge kV_bridge dc_bridge pm_bridge cd_bridge ct_bridge : Value}
    {f_cut : Addr} {od_cut an_cut : Option Addr} {sl_cut : Array (Option Value)} {oc_cut kV_cut dc_cut pm_cut cd_cut ct_cut : Value}
    {f_strands_ : Addr} {od_strands_ an_strands_ : Option Addr} {sl_strands_ : Array (Option Value)} {oc_strands_ kV_strands_ dc_strands_ pm_strands_ cd_strands_ ct_strands_ : Value}
    {f_letters : Addr} {od_letters an_letters : Option Addr} {sl_letters : Array (Option Value)} {oc_letters kV_letters dc_letters pm_letters cd_letters ct_letters : Value}
    {f_has_only_ : Addr} {od_has_only_ an_has_only_ : Option Addr} {sl_has_only_ : Array (Option Value)} {oc_has_only_ kV_has_only_ dc_has_only_ pm_has_only_ cd_has_only_ ct_has_only_ : Value}
    {f_is_word : Addr} {od_is_word an_is_word : Option Addr} {sl_is_word : Array (Option Value)} {oc_is_word kV_is_word dc_is_word pm_is_word cd_is_word ct_is_word : Value}
    {f_check_word : Addr} {od_check_word an_check_word : Option Addr} {sl_check_word : Array (Option Value)} {oc_check_word kV_check_word dc_check_word pm_check_word cd_check_word ct_check_word : Value}
    {f_letter_diagram : Addr} {od_letter_diagram an_letter_diagram : Option Addr} {sl_letter_diagram : Array (Option Value)} {oc_letter_diagram kV_letter_diagram dc_letter_diagram pm_letter_diagram cd_letter_diagram ct_letter_diagram : Value}
    {f_diagram_of : Addr} {od_diagram_of an_diagram_of : Option Addr} {sl_diagram_of : Array (Option Value)} {oc_diagram_of kV_diagram_of dc_diagram_of pm_diagram_of cd_diagram_of ct_diagram_of : Value}
    {f_letter_text_ : Addr} {od_letter_text_ an_letter_text_ : Option Addr} {sl_letter_text_ : Array (Option Value)} {oc_letter_text_ kV_letter_text_ dc_letter_text_ pm_letter_text_ cd_letter_text_ ct_letter_text_ : Value}
    {f_word_text : Addr} {od_word_text an_word_text : Option Addr} {sl_word_text : Array (Option Value)} {oc_word_text kV_word_text dc_word_text pm_word_text cd_word_text ct_word_text : Value}
    {f_is_word_of : Addr} {od_is_word_of an_is_word_of : Option Addr} {sl_is_word_of : Array (Option Value)} {oc_is_word_of kV_is_word_of dc_is_word_of pm_is_word_of cd_is_word_of ct_is_word_of : Value}
    {f_Malformed_init : Addr} {od_Malformed_init an_Malformed_init : Option Addr} {sl_Malformed_init : Array (Option Value)} {oc_Malformed_init kV_Malformed_init dc_Malformed_init pm_Malformed_init cd_Malformed_init ct_Malformed_init : Value}
    {f_read_word : Addr} {od_read_word an_read_word : Option Addr} {sl_read_word : Array (Option Value)} {oc_read_word kV_read_word dc_read_word pm_read_word cd_read_word ct_read_word : Value}
    {f_law_letter_kinds : Addr} {od_law_letter_kinds an_law_letter_kinds : Option Addr} {sl_law_letter_kinds : Array (Option Value)} {oc_law_letter_kinds kV_law_letter_kinds dc_law_letter_kinds pm_law_letter_kinds cd_law_letter_kinds ct_law_letter_kinds : Value}
    {f_law_wide : Addr} {od_law_wide an_law_wide : Option Addr} {sl_law_wide : Array (Option Value)} {oc_law_wide kV_law_wide dc_law_wide pm_law_wide cd_law_wide ct_law_wide : Value}
    {f_law_alphabet : Addr} {od_law_alphabet an_law_alphabet : Option Addr} {sl_law_alphabet : Array (Option Value)} {oc_law_alphabet kV_law_alphabet dc_law_alphabet pm_law_alphabet cd_law_alphabet ct_law_alphabet : Value}
    {f_law_glued : Addr} {od_law_glued an_law_glued : Option Addr} {sl_law_glued : Array (Option Value)} {oc_law_glued kV_law_glued dc_law_glued pm_law_glued cd_law_glued ct_law_glued : Value}
    {f_law_kinds : Addr} {od_law_kinds an_law_kinds : Option Addr} {sl_law_kinds : Array (Option Value)} {oc_law_kinds kV_law_kinds dc_law_kinds pm_law_kinds cd_law_kinds ct_law_kinds : Value}
    {f_law_drawn_word : Addr} {od_law_drawn_word an_law_drawn_word : Option Addr} {sl_law_drawn_word : Array (Option Value)} {oc_law_drawn_word kV_law_drawn_word dc_law_drawn_word pm_law_drawn_word cd_law_drawn_word ct_law_drawn_word : Value}
    {f_law_letter_blocks : Addr} {od_law_letter_blocks an_law_letter_blocks : Option Addr} {sl_law_letter_blocks : Array (Option Value)} {oc_law_letter_blocks kV_law_letter_blocks dc_law_letter_blocks pm_law_letter_blocks cd_law_letter_blocks ct_law_letter_blocks : Value}
    {f_law_marked : Addr} {od_law_marked an_law_marked : Option Addr} {sl_law_marked : Array (Option Value)} {oc_law_marked kV_law_marked dc_law_marked pm_law_marked cd_law_marked ct_law_marked : Value}
    {f_law_worded : Addr} {od_law_worded an_law_worded : Option Addr} {sl_law_worded : Array (Option Value)} {oc_law_worded kV_law_worded dc_law_worded pm_law_worded cd_law_worded ct_law_worded : Value}
    {f_law_family : Addr} {od_law_family an_law_family : Option Addr} {sl_law_family : Array (Option Value)} {oc_law_family kV_law_family dc_law_family pm_law_family cd_law_family ct_law_family : Value}
    {f_law_marks : Addr} {od_law_marks an_law_marks : Option Addr} {sl_law_marks : Array (Option Value)} {oc_law_marks kV_law_marks dc_law_marks pm_law_marks cd_law_marks ct_law_marks : Value}
    {f_law_belongs : Addr} {od_law_belongs an_law_belongs : Option Addr} {sl_law_belongs : Array (Option Value)} {oc_law_belongs kV_law_belongs dc_law_belongs pm_law_belongs cd_law_belongs ct_law_belongs : Value}
    {f_law_error : Addr} {od_law_error an_law_error : Option Addr} {sl_law_error : Array (Option Value)} {oc_law_error kV_law_error dc_law_error pm_law_error cd_law_error ct_law_error : Value}
    {f_law_told : Addr} {od_law_told an_law_told : Option Addr} {sl_law_told : Array (Option Value)} {oc_law_told kV_law_told dc_law_told pm_law_told cd_law_told ct_law_told : Value}
    {f_law_read : Addr} {od_law_read an_law_read : Option Addr} {sl_law_read : Array (Option Value)} {oc_law_read kV_law_read dc_law_read pm_law_read cd_law_read ct_law_read : Value}
    {f_law_turned_over : Addr} {od_law_turned_over an_law_turned_over : Option Addr} {sl_law_turned_over : Array (Option Value)} {oc_law_turned_over kV_law_turned_over dc_law_turned_over pm_law_turned_over cd_law_turned_over ct_law_turned_over : Value}
    {f_law_wrong_texts : Addr} {od_law_wrong_texts an_law_wrong_texts : Option Addr} {sl_law_wrong_texts : Array (Option Value)} {oc_law_wrong_texts kV_law_wrong_texts dc_law_wrong_texts pm_law_wrong_texts cd_law_wrong_texts ct_law_wrong_texts : Value}
    {f_law_refused : Addr} {od_law_refused an_law_refused : Option Addr} {sl_law_refused : Array (Option Value)} {oc_law_refused kV_law_refused dc_law_refused pm_law_refused cd_law_refused ct_law_refused : Value}
    {f_law : Addr} {od_law an_law : Option Addr} {sl_law : Array (Option Value)} {oc_law kV_law dc_law pm_law cd_law ct_law : Value}
    {CF : Addr}
    {CD : Addr}
    {CWd : Addr}
    {CB : Addr}
    {CT : Addr}
    {tm_MOST_ON_A_SIDE : Tok}
    {tm_MOST_POINTS : Tok}
    {tm_MOST_STRANDS : Tok}
    {tm_MOST_LETTERS : Tok}
    {tm_EMPTY_TEXT : Tok}
    {aF : Addr} {ddF : Option Addr} {nF : Nat} {slF : Array (Option Value)} {uf0 uf1 uf2 uf3 uf4 uf5 : Tok}
    {aKI : Addr} {esK : Array DictEntry} {nK : Nat} {tk0 tk1 tk2 tk3 tk4 tk5 : Tok}
    {CM N_Malformed : Addr} {nm_Malformed q_Malformed : Str} {bs_Malformed bm_Malformed sub_Malformed : List Value} {sn_Malformed : List Str} {ab_Malformed : Bool} {col_Malformed : Option Bool} {dd_Malformed : Option Addr} {m0_Malformed m1_Malformed m2_Malformed m3_Malformed m5_Malformed : Option Value}
    {CE : Addr}
    {X_NotWorld : Addr}
    {X_NotNumber : Addr}
    {X_NotMatrix : Addr}
    {X_NoAnswer : Addr}
    (a_law_number : PySem.W.nsIn K mainGlobals "_law_number" = some (some (.ref f_law_number))) (l_law_number : K.lookup f_law_number = some ⟨oc_law_number, od_law_number, .func (PySem.W.fnOf "_law_number" "_law_number" (defArgs s_law_number) (defBody s_law_number) (defScope s_law_number) .none kV_law_number dc_law_number pm_law_number an_law_number cd_law_number ct_law_number), sl_law_number⟩) (c_law_number : PySem.W.codeIn K cd_law_number "_law_number" = true) (k_law_number : PySem.W.keepIn K (.ref f_law_number) = true)
    (a_law_next : PySem.W.nsIn K mainGlobals "_law_next" = some (some (.ref f_law_next))) (l_law_next : K.lookup f_law_next = some ⟨oc_law_next, od_law_next, .func (PySem.W.fnOf "_law_next" "_law_next" (defArgs s_law_next) (defBody s_law_next) (defScope s_law_next) .none kV_law_next dc_law_next pm_law_next an_law_next cd_law_next ct_law_next), sl_law_next⟩) (c_law_next : PySem.W.codeIn K cd_law_next "_law_next" = true) (k_law_next : PySem.W.keepIn K (.ref f_law_next) = true)
    (a_law_draws : PySem.W.nsIn K mainGlobals "_law_draws" = some (some (.ref f_law_draws))) (l_law_draws : K.lookup f_law_draws = some ⟨oc_law_draws, od_law_draws, .func (PySem.W.fnOf "_law_draws" "_law_draws" (defArgs s_law_draws) (defBody s_law_draws) (defScope s_law_draws) .none kV_law_draws dc_law_draws pm_law_draws an_law_draws cd_law_draws ct_law_draws), sl_law_draws⟩) (c_law_draws : PySem.W.codeIn K cd_law_draws "_law_draws" = true) (k_law_draws : PySem.W.keepIn K (.ref f_law_draws) = true)
    (a_is_size_ : PySem.W.nsIn K mainGlobals "_is_size" = some (some (.ref f_is_size_))) (l_is_size_ : K.lookup f_is_size_ = some ⟨oc_is_size_, od_is_size_, .func (PySem.W.fnOf "_is_size" "_is_size" (defArgs s_is_size_) (defBody s_is_size_) (defScope s_is_size_) .none kV_is_size_ dc_is_size_ pm_is_size_ an_is_size_ cd_is_size_ ct_is_size_), sl_is_size_⟩) (c_is_size_ : PySem.W.codeIn K cd_is_size_ "_is_size" = true) (k_is_size_ : PySem.W.keepIn K (.ref f_is_size_) = true)
    (a_check_size_ : PySem.W.nsIn K mainGlobals "_check_size" = some (some (.ref f_check_size_))) (l_check_size_ : K.lookup f_check_size_ = some ⟨oc_check_size_, od_check_size_, .func (PySem.W.fnOf "_check_size" "_check_size" (defArgs s_check_size_) (defBody s_check_size_) (defScope s_check_size_) .none kV_check_size_ dc_check_size_ pm_check_size_ an_check_size_ cd_check_size_ ct_check_size_), sl_check_size_⟩) (c_check_size_ : PySem.W.codeIn K cd_check_size_ "_check_size" = true) (k_check_size_ : PySem.W.keepIn K (.ref f_check_size_) = true)
    (a_is_diagram : PySem.W.nsIn K mainGlobals "is_diagram" = some (some (.ref f_is_diagram))) (l_is_diagram : K.lookup f_is_diagram = some ⟨oc_is_diagram, od_is_diagram, .func (PySem.W.fnOf "is_diagram" "is_diagram" (defArgs s_is_diagram) (defBody s_is_diagram) (defScope s_is_diagram) .none kV_is_diagram dc_is_diagram pm_is_diagram an_is_diagram cd_is_diagram ct_is_diagram), sl_is_diagram⟩) (c_is_diagram : PySem.W.codeIn K cd_is_diagram "is_diagram" = true) (k_is_diagram : PySem.W.keepIn K (.ref f_is_diagram) = true)
    (a_check_diagram : PySem.W.nsIn K mainGlobals "check_diagram" = some (some (.ref f_check_diagram))) (l_check_diagram : K.lookup f_check_diagram = some ⟨oc_check_diagram, od_check_diagram, .func (PySem.W.fnOf "check_diagram" "check_diagram" (defArgs s_check_diagram) (defBody s_check_diagram) (defScope s_check_diagram) .none kV_check_diagram dc_check_diagram pm_check_diagram an_check_diagram cd_check_diagram ct_check_diagram), sl_check_diagram⟩) (c_check_diagram : PySem.W.codeIn K cd_check_diagram "check_diagram" = true) (k_check_diagram : PySem.W.keepIn K (.ref f_check_diagram) = true)
    (a_from_labels : PySem.W.nsIn K mainGlobals "from_labels" = some (some (.ref f_from_labels))) (l_from_labels : K.lookup f_from_labels = some ⟨oc_from_labels, od_from_labels, .func (PySem.W.fnOf "from_labels" "from_labels" (defArgs s_from_labels) (defBody s_from_labels) (defScope s_from_labels) .none kV_from_labels dc_from_labels pm_from_labels an_from_labels cd_from_labels ct_from_labels), sl_from_labels⟩) (c_from_labels : PySem.W.codeIn K cd_from_labels "from_labels" = true) (k_from_labels : PySem.W.keepIn K (.ref f_from_labels) = true)
    (a_check_family : PySem.W.nsIn K mainGlobals "check_family" = some (some (.ref f_check_family))) (l_check_family : K.lookup f_check_family = some ⟨oc_check_family, od_check_family, .func (PySem.W.fnOf "check_family" "check_family" (defArgs s_check_family) (defBody s_check_family) (defScope s_check_family) .none kV_check_family dc_check_family pm_check_family an_check_family cd_check_family ct_check_family), sl_check_family⟩) (c_check_family : PySem.W.codeIn K cd_check_family "check_family" = true) (k_check_family : PySem.W.keepIn K (.ref f_check_family) = true)
    (a_root_ : PySem.W.nsIn K mainGlobals "_root" = some (some (.ref f_root_))) (l_root_ : K.lookup f_root_ = some ⟨oc_root_, od_root_, .func (PySem.W.fnOf "_root" "_root" (defArgs s_root_) (defBody s_root_) (defScope s_root_) .none kV_root_ dc_root_ pm_root_ an_root_ cd_root_ ct_root_), sl_root_⟩) (c_root_ : PySem.W.codeIn K cd_root_ "_root" = true) (k_root_ : PySem.W.keepIn K (.ref f_root_) = true)
    (a_piece_marks : PySem.W.nsIn K mainGlobals "piece_marks" = some (some (.ref f_piece_marks))) (l_piece_marks : K.lookup f_piece_marks = some ⟨oc_piece_marks, od_piece_marks, .func (PySem.W.fnOf "piece_marks" "piece_marks" (defArgs s_piece_marks) (defBody s_piece_marks) (defScope s_piece_marks) .none kV_piece_marks dc_piece_marks pm_piece_marks an_piece_marks cd_piece_marks ct_piece_marks), sl_piece_marks⟩) (c_piece_marks : PySem.W.codeIn K cd_piece_marks "piece_marks" = true) (k_piece_marks : PySem.W.keepIn K (.ref f_piece_marks) = true)
    (a_hidden_count : PySem.W.nsIn K mainGlobals "hidden_count" = some (some (.ref f_hidden_count))) (l_hidden_count : K.lookup f_hidden_count = some ⟨oc_hidden_count, od_hidden_count, .func (PySem.W.fnOf "hidden_count" "hidden_count" (defArgs s_hidden_count) (defBody s_hidden_count) (defScope s_hidden_count) .none kV_hidden_count dc_hidden_count pm_hidden_count an_hidden_count cd_hidden_count ct_hidden_count), sl_hidden_count⟩) (c_hidden_count : PySem.W.codeIn K cd_hidden_count "hidden_count" = true) (k_hidden_count : PySem.W.keepIn K (.ref f_hidden_count) = true)
    (a_put : PySem.W.nsIn K mainGlobals "put" = some (some (.ref f_put))) (l_put : K.lookup f_put = some ⟨oc_put, od_put, .func (PySem.W.fnOf "put" "put" (defArgs s_put) (defBody s_put) (defScope s_put) .none kV_put dc_put pm_put an_put cd_put ct_put), sl_put⟩) (c_put : PySem.W.codeIn K cd_put "put" = true) (k_put : PySem.W.keepIn K (.ref f_put) = true)
    (a_check_ : PySem.W.nsIn K mainGlobals "_check" = some (some (.ref f_check_))) (l_check_ : K.lookup f_check_ = some ⟨oc_check_, od_check_, .func (PySem.W.fnOf "_check" "_check" (defArgs s_check_) (defBody s_check_) (defScope s_check_) .none kV_check_ dc_check_ pm_check_ an_check_ cd_check_ ct_check_), sl_check_⟩) (c_check_ : PySem.W.codeIn K cd_check_ "_check" = true) (k_check_ : PySem.W.keepIn K (.ref f_check_) = true)
    (a_with_marks_ : PySem.W.nsIn K mainGlobals "_with_marks" = some (some (.ref f_with_marks_))) (l_with_marks_ : K.lookup f_with_marks_ = some ⟨oc_with_marks_, od_with_marks_, .func (PySem.W.fnOf "_with_marks" "_with_marks" (defArgs s_with_marks_) (defBody s_with_marks_) (defScope s_with_marks_) .none kV_with_marks_ dc_with_marks_ pm_with_marks_ an_with_marks_ cd_with_marks_ ct_with_marks_), sl_with_marks_⟩) (c_with_marks_ : PySem.W.codeIn K cd_with_marks_ "_with_marks" = true) (k_with_marks_ : PySem.W.keepIn K (.ref f_with_marks_) = true)
    (a_changed_ : PySem.W.nsIn K mainGlobals "_changed" = some (some (.ref f_changed_))) (l_changed_ : K.lookup f_changed_ = some ⟨oc_changed_, od_changed_, .func (PySem.W.fnOf "_changed" "_changed" (defArgs s_changed_) (defBody s_changed_) (defScope s_changed_) .none kV_changed_ dc_changed_ pm_changed_ an_changed_ cd_changed_ ct_changed_), sl_changed_⟩) (c_changed_ : PySem.W.codeIn K cd_changed_ "_changed" = true) (k_changed_ : PySem.W.keepIn K (.ref f_changed_) = true)
    (a_unit : PySem.W.nsIn K mainGlobals "unit" = some (some (.ref f_unit))) (l_unit : K.lookup f_unit = some ⟨oc_unit, od_unit, .func (PySem.W.fnOf "unit" "unit" (defArgs s_unit) (defBody s_unit) (defScope s_unit) .none kV_unit dc_unit pm_unit an_unit cd_unit ct_unit), sl_unit⟩) (c_unit : PySem.W.codeIn K cd_unit "unit" = true) (k_unit : PySem.W.keepIn K (.ref f_unit) = true)
    (a_hook : PySem.W.nsIn K mainGlobals "hook" = some (some (.ref f_hook))) (l_hook : K.lookup f_hook = some ⟨oc_hook, od_hook, .func (PySem.W.fnOf "hook" "hook" (defArgs s_hook) (defBody s_hook) (defScope s_hook) .none kV_hook dc_hook pm_hook an_hook cd_hook ct_hook), sl_hook⟩) (c_hook : PySem.W.codeIn K cd_hook "hook" = true) (k_hook : PySem.W.keepIn K (.ref f_hook) = true)
    (a_swap : PySem.W.nsIn K mainGlobals "swap" = some (some (.ref f_swap))) (l_swap : K.lookup f_swap = some ⟨oc_swap, od_swap, .func (PySem.W.fnOf "swap" "swap" (defArgs s_swap) (defBody s_swap) (defScope s_swap) .none kV_swap dc_swap pm_swap an_swap cd_swap ct_swap), sl_swap⟩) (c_swap : PySem.W.codeIn K cd_swap "swap" = true) (k_swap : PySem.W.keepIn K (.ref f_swap) = true)
    (a_bridge : PySem.W.nsIn K mainGlobals "bridge" = some (some (.ref f_bridge))) (l_bridge : K.lookup f_bridge = some ⟨oc_bridge, od_bridge, .func (PySem.W.fnOf "bridge" "bridge" (defArgs s_bridge) (defBody s_bridge) (defScope s_bridge) .none kV_bridge dc_bridge pm_bridge an_bridge cd_bridge ct_bridge), sl_bridge⟩) (c_bridge : PySem.W.codeIn K cd_bridge "bridge" = true) (k_bridge : PySem.W.keepIn K (.ref f_bridge) = true)
    (a_cut : PySem.W.nsIn K mainGlobals "cut" = some (some (.ref f_cut))) (l_cut : K.lookup f_cut = some ⟨oc_cut, od_cut, .func (PySem.W.fnOf "cut" "cut" (defArgs s_cut) (defBody s_cut) (defScope s_cut) .none kV_cut dc_cut pm_cut an_cut cd_cut ct_cut), sl_cut⟩) (c_cut : PySem.W.codeIn K cd_cut "cut" = true) (k_cut : PySem.W.keepIn K (.ref f_cut) = true)
    (a_strands_ : PySem.W.nsIn K mainGlobals "_strands" = some (some (.ref f_strands_))) (l_strands_ : K.lookup f_strands_ = some ⟨oc_strands_, od_strands_, .func (PySem.W.fnOf "_strands" "_strands" (defArgs s_strands_) (defBody s_strands_) (defScope s_strands_) .none kV_strands_ dc_strands_ pm_strands_ an_strands_ cd_strands_ ct_strands_), sl_strands_⟩) (c_strands_ : PySem.W.codeIn K cd_strands_ "_strands" = true) (k_strands_ : PySem.W.keepIn K (.ref f_strands_) = true)
    (a_letters : PySem.W.nsIn K mainGlobals "letters" = some (some (.ref f_letters))) (l_letters : K.lookup f_letters = some ⟨oc_letters, od_letters, .func (PySem.W.fnOf "letters" "letters" (defArgs s_letters) (defBody s_letters) (defScope s_letters) .none kV_letters dc_letters pm_letters an_letters cd_letters ct_letters), sl_letters⟩) (c_letters : PySem.W.codeIn K cd_letters "letters" = true) (k_letters : PySem.W.keepIn K (.ref f_letters) = true)
    (a_has_only_ : PySem.W.nsIn K mainGlobals "_has_only" = some (some (.ref f_has_only_))) (l_has_only_ : K.lookup f_has_only_ = some ⟨oc_has_only_, od_has_only_, .func (PySem.W.fnOf "_has_only" "_has_only" (defArgs s_has_only_) (defBody s_has_only_) (defScope s_has_only_) .none kV_has_only_ dc_has_only_ pm_has_only_ an_has_only_ cd_has_only_ ct_has_only_), sl_has_only_⟩) (c_has_only_ : PySem.W.codeIn K cd_has_only_ "_has_only" = true) (k_has_only_ : PySem.W.keepIn K (.ref f_has_only_) = true)
    (a_is_word : PySem.W.nsIn K mainGlobals "is_word" = some (some (.ref f_is_word))) (l_is_word : K.lookup f_is_word = some ⟨oc_is_word, od_is_word, .func (PySem.W.fnOf "is_word" "is_word" (defArgs s_is_word) (defBody s_is_word) (defScope s_is_word) .none kV_is_word dc_is_word pm_is_word an_is_word cd_is_word ct_is_word), sl_is_word⟩) (c_is_word : PySem.W.codeIn K cd_is_word "is_word" = true) (k_is_word : PySem.W.keepIn K (.ref f_is_word) = true)
    (a_check_word : PySem.W.nsIn K mainGlobals "check_word" = some (some (.ref f_check_word))) (l_check_word : K.lookup f_check_word = some ⟨oc_check_word, od_check_word, .func (PySem.W.fnOf "check_word" "check_word" (defArgs s_check_word) (defBody s_check_word) (defScope s_check_word) .none kV_check_word dc_check_word pm_check_word an_check_word cd_check_word ct_check_word), sl_check_word⟩) (c_check_word : PySem.W.codeIn K cd_check_word "check_word" = true) (k_check_word : PySem.W.keepIn K (.ref f_check_word) = true)
    (a_letter_diagram : PySem.W.nsIn K mainGlobals "letter_diagram" = some (some (.ref f_letter_diagram))) (l_letter_diagram : K.lookup f_letter_diagram = some ⟨oc_letter_diagram, od_letter_diagram, .func (PySem.W.fnOf "letter_diagram" "letter_diagram" (defArgs s_letter_diagram) (defBody s_letter_diagram) (defScope s_letter_diagram) .none kV_letter_diagram dc_letter_diagram pm_letter_diagram an_letter_diagram cd_letter_diagram ct_letter_diagram), sl_letter_diagram⟩) (c_letter_diagram : PySem.W.codeIn K cd_letter_diagram "letter_diagram" = true) (k_letter_diagram : PySem.W.keepIn K (.ref f_letter_diagram) = true)
    (a_diagram_of : PySem.W.nsIn K mainGlobals "diagram_of" = some (some (.ref f_diagram_of))) (l_diagram_of : K.lookup f_diagram_of = some ⟨oc_diagram_of, od_diagram_of, .func (PySem.W.fnOf "diagram_of" "diagram_of" (defArgs s_diagram_of) (defBody s_diagram_of) (defScope s_diagram_of) .none kV_diagram_of dc_diagram_of pm_diagram_of an_diagram_of cd_diagram_of ct_diagram_of), sl_diagram_of⟩) (c_diagram_of : PySem.W.codeIn K cd_diagram_of "diagram_of" = true) (k_diagram_of : PySem.W.keepIn K (.ref f_diagram_of) = true)
    (a_letter_text_ : PySem.W.nsIn K mainGlobals "_letter_text" = some (some (.ref f_letter_text_))) (l_letter_text_ : K.lookup f_letter_text_ = some ⟨oc_letter_text_, od_letter_text_, .func (PySem.W.fnOf "_letter_text" "_letter_text" (defArgs s_letter_text_) (defBody s_letter_text_) (defScope s_letter_text_) .none kV_letter_text_ dc_letter_text_ pm_letter_text_ an_letter_text_ cd_letter_text_ ct_letter_text_), sl_letter_text_⟩) (c_letter_text_ : PySem.W.codeIn K cd_letter_text_ "_letter_text" = true) (k_letter_text_ : PySem.W.keepIn K (.ref f_letter_text_) = true)
    (a_word_text : PySem.W.nsIn K mainGlobals "word_text" = some (some (.ref f_word_text))) (l_word_text : K.lookup f_word_text = some ⟨oc_word_text, od_word_text, .func (PySem.W.fnOf "word_text" "word_text" (defArgs s_word_text) (defBody s_word_text) (defScope s_word_text) .none kV_word_text dc_word_text pm_word_text an_word_text cd_word_text ct_word_text), sl_word_text⟩) (c_word_text : PySem.W.codeIn K cd_word_text "word_text" = true) (k_word_text : PySem.W.keepIn K (.ref f_word_text) = true)
    (a_is_word_of : PySem.W.nsIn K mainGlobals "is_word_of" = some (some (.ref f_is_word_of))) (l_is_word_of : K.lookup f_is_word_of = some ⟨oc_is_word_of, od_is_word_of, .func (PySem.W.fnOf "is_word_of" "is_word_of" (defArgs s_is_word_of) (defBody s_is_word_of) (defScope s_is_word_of) .none kV_is_word_of dc_is_word_of pm_is_word_of an_is_word_of cd_is_word_of ct_is_word_of), sl_is_word_of⟩) (c_is_word_of : PySem.W.codeIn K cd_is_word_of "is_word_of" = true) (k_is_word_of : PySem.W.keepIn K (.ref f_is_word_of) = true)
    (l_Malformed_init : K.lookup f_Malformed_init = some ⟨oc_Malformed_init, od_Malformed_init, .func (PySem.W.fnOf "__init__" "Malformed.__init__" (defArgs s_Malformed_init) (defBody s_Malformed_init) (defScope s_Malformed_init) .none kV_Malformed_init dc_Malformed_init pm_Malformed_init an_Malformed_init cd_Malformed_init ct_Malformed_init), sl_Malformed_init⟩) (c_Malformed_init : PySem.W.codeIn K cd_Malformed_init "Malformed.__init__" = true) (k_Malformed_init : PySem.W.keepIn K (.ref f_Malformed_init) = true)
    (a_read_word : PySem.W.nsIn K mainGlobals "read_word" = some (some (.ref f_read_word))) (l_read_word : K.lookup f_read_word = some ⟨oc_read_word, od_read_word, .func (PySem.W.fnOf "read_word" "read_word" (defArgs s_read_word) (defBody s_read_word) (defScope s_read_word) .none kV_read_word dc_read_word pm_read_word an_read_word cd_read_word ct_read_word), sl_read_word⟩) (c_read_word : PySem.W.codeIn K cd_read_word "read_word" = true) (k_read_word : PySem.W.keepIn K (.ref f_read_word) = true)
    (a_law_letter_kinds : PySem.W.nsIn K mainGlobals "_law_letter_kinds" = some (some (.ref f_law_letter_kinds))) (l_law_letter_kinds : K.lookup f_law_letter_kinds = some ⟨oc_law_letter_kinds, od_law_letter_kinds, .func (PySem.W.fnOf "_law_letter_kinds" "_law_letter_kinds" (defArgs s_law_letter_kinds) (defBody s_law_letter_kinds) (defScope s_law_letter_kinds) .none kV_law_letter_kinds dc_law_letter_kinds pm_law_letter_kinds an_law_letter_kinds cd_law_letter_kinds ct_law_letter_kinds), sl_law_letter_kinds⟩) (c_law_letter_kinds : PySem.W.codeIn K cd_law_letter_kinds "_law_letter_kinds" = true) (k_law_letter_kinds : PySem.W.keepIn K (.ref f_law_letter_kinds) = true)
    (a_law_wide : PySem.W.nsIn K mainGlobals "_law_wide" = some (some (.ref f_law_wide))) (l_law_wide : K.lookup f_law_wide = some ⟨oc_law_wide, od_law_wide, .func (PySem.W.fnOf "_law_wide" "_law_wide" (defArgs s_law_wide) (defBody s_law_wide) (defScope s_law_wide) .none kV_law_wide dc_law_wide pm_law_wide an_law_wide cd_law_wide ct_law_wide), sl_law_wide⟩) (c_law_wide : PySem.W.codeIn K cd_law_wide "_law_wide" = true) (k_law_wide : PySem.W.keepIn K (.ref f_law_wide) = true)
    (a_law_alphabet : PySem.W.nsIn K mainGlobals "_law_alphabet" = some (some (.ref f_law_alphabet))) (l_law_alphabet : K.lookup f_law_alphabet = some ⟨oc_law_alphabet, od_law_alphabet, .func (PySem.W.fnOf "_law_alphabet" "_law_alphabet" (defArgs s_law_alphabet) (defBody s_law_alphabet) (defScope s_law_alphabet) .none kV_law_alphabet dc_law_alphabet pm_law_alphabet an_law_alphabet cd_law_alphabet ct_law_alphabet), sl_law_alphabet⟩) (c_law_alphabet : PySem.W.codeIn K cd_law_alphabet "_law_alphabet" = true) (k_law_alphabet : PySem.W.keepIn K (.ref f_law_alphabet) = true)
    (a_law_glued : PySem.W.nsIn K mainGlobals "_law_glued" = some (some (.ref f_law_glued))) (l_law_glued : K.lookup f_law_glued = some ⟨oc_law_glued, od_law_glued, .func (PySem.W.fnOf "_law_glued" "_law_glued" (defArgs s_law_glued) (defBody s_law_glued) (defScope s_law_glued) .none kV_law_glued dc_law_glued pm_law_glued an_law_glued cd_law_glued ct_law_glued), sl_law_glued⟩) (c_law_glued : PySem.W.codeIn K cd_law_glued "_law_glued" = true) (k_law_glued : PySem.W.keepIn K (.ref f_law_glued) = true)
    (a_law_kinds : PySem.W.nsIn K mainGlobals "_law_kinds" = some (some (.ref f_law_kinds))) (l_law_kinds : K.lookup f_law_kinds = some ⟨oc_law_kinds, od_law_kinds, .func (PySem.W.fnOf "_law_kinds" "_law_kinds" (defArgs s_law_kinds) (defBody s_law_kinds) (defScope s_law_kinds) .none kV_law_kinds dc_law_kinds pm_law_kinds an_law_kinds cd_law_kinds ct_law_kinds), sl_law_kinds⟩) (c_law_kinds : PySem.W.codeIn K cd_law_kinds "_law_kinds" = true) (k_law_kinds : PySem.W.keepIn K (.ref f_law_kinds) = true)
    (a_law_drawn_word : PySem.W.nsIn K mainGlobals "_law_drawn_word" = some (some (.ref f_law_drawn_word))) (l_law_drawn_word : K.lookup f_law_drawn_word = some ⟨oc_law_drawn_word, od_law_drawn_word, .func (PySem.W.fnOf "_law_drawn_word" "_law_drawn_word" (defArgs s_law_drawn_word) (defBody s_law_drawn_word) (defScope s_law_drawn_word) .none kV_law_drawn_word dc_law_drawn_word pm_law_drawn_word an_law_drawn_word cd_law_drawn_word ct_law_drawn_word), sl_law_drawn_word⟩) (c_law_drawn_word : PySem.W.codeIn K cd_law_drawn_word "_law_drawn_word" = true) (k_law_drawn_word : PySem.W.keepIn K (.ref f_law_drawn_word) = true)
    (a_law_letter_blocks : PySem.W.nsIn K mainGlobals "_law_letter_blocks" = some (some (.ref f_law_letter_blocks))) (l_law_letter_blocks : K.lookup f_law_letter_blocks = some ⟨oc_law_letter_blocks, od_law_letter_blocks, .func (PySem.W.fnOf "_law_letter_blocks" "_law_letter_blocks" (defArgs s_law_letter_blocks) (defBody s_law_letter_blocks) (defScope s_law_letter_blocks) .none kV_law_letter_blocks dc_law_letter_blocks pm_law_letter_blocks an_law_letter_blocks cd_law_letter_blocks ct_law_letter_blocks), sl_law_letter_blocks⟩) (c_law_letter_blocks : PySem.W.codeIn K cd_law_letter_blocks "_law_letter_blocks" = true) (k_law_letter_blocks : PySem.W.keepIn K (.ref f_law_letter_blocks) = true)
    (a_law_marked : PySem.W.nsIn K mainGlobals "_law_marked" = some (some (.ref f_law_marked))) (l_law_marked : K.lookup f_law_marked = some ⟨oc_law_marked, od_law_marked, .func (PySem.W.fnOf "_law_marked" "_law_marked" (defArgs s_law_marked) (defBody s_law_marked) (defScope s_law_marked) .none kV_law_marked dc_law_marked pm_law_marked an_law_marked cd_law_marked ct_law_marked), sl_law_marked⟩) (c_law_marked : PySem.W.codeIn K cd_law_marked "_law_marked" = true) (k_law_marked : PySem.W.keepIn K (.ref f_law_marked) = true)
    (a_law_worded : PySem.W.nsIn K mainGlobals "_law_worded" = some (some (.ref f_law_worded))) (l_law_worded : K.lookup f_law_worded = some ⟨oc_law_worded, od_law_worded, .func (PySem.W.fnOf "_law_worded" "_law_worded" (defArgs s_law_worded) (defBody s_law_worded) (defScope s_law_worded) .none kV_law_worded dc_law_worded pm_law_worded an_law_worded cd_law_worded ct_law_worded), sl_law_worded⟩) (c_law_worded : PySem.W.codeIn K cd_law_worded "_law_worded" = true) (k_law_worded : PySem.W.keepIn K (.ref f_law_worded) = true)
    (a_law_family : PySem.W.nsIn K mainGlobals "_law_family" = some (some (.ref f_law_family))) (l_law_family : K.lookup f_law_family = some ⟨oc_law_family, od_law_family, .func (PySem.W.fnOf "_law_family" "_law_family" (defArgs s_law_family) (defBody s_law_family) (defScope s_law_family) .none kV_law_family dc_law_family pm_law_family an_law_family cd_law_family ct_law_family), sl_law_family⟩) (c_law_family : PySem.W.codeIn K cd_law_family "_law_family" = true) (k_law_family : PySem.W.keepIn K (.ref f_law_family) = true)
    (a_law_marks : PySem.W.nsIn K mainGlobals "_law_marks" = some (some (.ref f_law_marks))) (l_law_marks : K.lookup f_law_marks = some ⟨oc_law_marks, od_law_marks, .func (PySem.W.fnOf "_law_marks" "_law_marks" (defArgs s_law_marks) (defBody s_law_marks) (defScope s_law_marks) .none kV_law_marks dc_law_marks pm_law_marks an_law_marks cd_law_marks ct_law_marks), sl_law_marks⟩) (c_law_marks : PySem.W.codeIn K cd_law_marks "_law_marks" = true) (k_law_marks : PySem.W.keepIn K (.ref f_law_marks) = true)
    (a_law_belongs : PySem.W.nsIn K mainGlobals "_law_belongs" = some (some (.ref f_law_belongs))) (l_law_belongs : K.lookup f_law_belongs = some ⟨oc_law_belongs, od_law_belongs, .func (PySem.W.fnOf "_law_belongs" "_law_belongs" (defArgs s_law_belongs) (defBody s_law_belongs) (defScope s_law_belongs) .none kV_law_belongs dc_law_belongs pm_law_belongs an_law_belongs cd_law_belongs ct_law_belongs), sl_law_belongs⟩) (c_law_belongs : PySem.W.codeIn K cd_law_belongs "_law_belongs" = true) (k_law_belongs : PySem.W.keepIn K (.ref f_law_belongs) = true)
    (a_law_error : PySem.W.nsIn K mainGlobals "_law_error" = some (some (.ref f_law_error))) (l_law_error : K.lookup f_law_error = some ⟨oc_law_error, od_law_error, .func (PySem.W.fnOf "_law_error" "_law_error" (defArgs s_law_error) (defBody s_law_error) (defScope s_law_error) .none kV_law_error dc_law_error pm_law_error an_law_error cd_law_error ct_law_error), sl_law_error⟩) (c_law_error : PySem.W.codeIn K cd_law_error "_law_error" = true) (k_law_error : PySem.W.keepIn K (.ref f_law_error) = true)
    (a_law_told : PySem.W.nsIn K mainGlobals "_law_told" = some (some (.ref f_law_told))) (l_law_told : K.lookup f_law_told = some ⟨oc_law_told, od_law_told, .func (PySem.W.fnOf "_law_told" "_law_told" (defArgs s_law_told) (defBody s_law_told) (defScope s_law_told) .none kV_law_told dc_law_told pm_law_told an_law_told cd_law_told ct_law_told), sl_law_told⟩) (c_law_told : PySem.W.codeIn K cd_law_told "_law_told" = true) (k_law_told : PySem.W.keepIn K (.ref f_law_told) = true)
    (a_law_read : PySem.W.nsIn K mainGlobals "_law_read" = some (some (.ref f_law_read))) (l_law_read : K.lookup f_law_read = some ⟨oc_law_read, od_law_read, .func (PySem.W.fnOf "_law_read" "_law_read" (defArgs s_law_read) (defBody s_law_read) (defScope s_law_read) .none kV_law_read dc_law_read pm_law_read an_law_read cd_law_read ct_law_read), sl_law_read⟩) (c_law_read : PySem.W.codeIn K cd_law_read "_law_read" = true) (k_law_read : PySem.W.keepIn K (.ref f_law_read) = true)
    (a_law_turned_over : PySem.W.nsIn K mainGlobals "_law_turned_over" = some (some (.ref f_law_turned_over))) (l_law_turned_over : K.lookup f_law_turned_over = some ⟨oc_law_turned_over, od_law_turned_over, .func (PySem.W.fnOf "_law_turned_over" "_law_turned_over" (defArgs s_law_turned_over) (defBody s_law_turned_over) (defScope s_law_turned_over) .none kV_law_turned_over dc_law_turned_over pm_law_turned_over an_law_turned_over cd_law_turned_over ct_law_turned_over), sl_law_turned_over⟩) (c_law_turned_over : PySem.W.codeIn K cd_law_turned_over "_law_turned_over" = true) (k_law_turned_over : PySem.W.keepIn K (.ref f_law_turned_over) = true)
    (a_law_wrong_texts : PySem.W.nsIn K mainGlobals "_law_wrong_texts" = some (some (.ref f_law_wrong_texts))) (l_law_wrong_texts : K.lookup f_law_wrong_texts = some ⟨oc_law_wrong_texts, od_law_wrong_texts, .func (PySem.W.fnOf "_law_wrong_texts" "_law_wrong_texts" (defArgs s_law_wrong_texts) (defBody s_law_wrong_texts) (defScope s_law_wrong_texts) .none kV_law_wrong_texts dc_law_wrong_texts pm_law_wrong_texts an_law_wrong_texts cd_law_wrong_texts ct_law_wrong_texts), sl_law_wrong_texts⟩) (c_law_wrong_texts : PySem.W.codeIn K cd_law_wrong_texts "_law_wrong_texts" = true) (k_law_wrong_texts : PySem.W.keepIn K (.ref f_law_wrong_texts) = true)
    (a_law_refused : PySem.W.nsIn K mainGlobals "_law_refused" = some (some (.ref f_law_refused))) (l_law_refused : K.lookup f_law_refused = some ⟨oc_law_refused, od_law_refused, .func (PySem.W.fnOf "_law_refused" "_law_refused" (defArgs s_law_refused) (defBody s_law_refused) (defScope s_law_refused) .none kV_law_refused dc_law_refused pm_law_refused an_law_refused cd_law_refused ct_law_refused), sl_law_refused⟩) (c_law_refused : PySem.W.codeIn K cd_law_refused "_law_refused" = true) (k_law_refused : PySem.W.keepIn K (.ref f_law_refused) = true)
    (a_law : PySem.W.nsIn K mainGlobals "law" = some (some (.ref f_law))) (l_law : K.lookup f_law = some ⟨oc_law, od_law, .func (PySem.W.fnOf "law" "law" (defArgs s_law) (defBody s_law) (defScope s_law) .none kV_law dc_law pm_law an_law cd_law ct_law), sl_law⟩) (c_law : PySem.W.codeIn K cd_law "law" = true) (k_law : PySem.W.keepIn K (.ref f_law) = true)
    (zn_int : PySem.W.nsIn K mainGlobals "int" = some none)
    (zn_range : PySem.W.nsIn K mainGlobals "range" = some none)
    (zn_len : PySem.W.nsIn K mainGlobals "len" = some none)
    (zn_list : PySem.W.nsIn K mainGlobals "list" = some none)
    (zn_tuple : PySem.W.nsIn K mainGlobals "tuple" = some none)
    (zn_all : PySem.W.nsIn K mainGlobals "all" = some none)
    (zn_any : PySem.W.nsIn K mainGlobals "any" = some none)
    (zn_sorted : PySem.W.nsIn K mainGlobals "sorted" = some none)
    (zn_repr : PySem.W.nsIn K mainGlobals "repr" = some none)
    (zn_isinstance : PySem.W.nsIn K mainGlobals "isinstance" = some none)
    (zn_enumerate : PySem.W.nsIn K mainGlobals "enumerate" = some none)
    (zn_str : PySem.W.nsIn K mainGlobals "str" = some none)
    (zn_set : PySem.W.nsIn K mainGlobals "set" = some none)
    (zn_min : PySem.W.nsIn K mainGlobals "min" = some none)
    (zn_max : PySem.W.nsIn K mainGlobals "max" = some none)
    (zn_dict : PySem.W.nsIn K mainGlobals "dict" = some none)
    (n_NotFamily : PySem.W.nsIn K mainGlobals "NotFamily" = some (some (.ref CF)))
    (x_NotFamily : PySem.W.excIn K CF [.type "ValueError", .type "Exception", .type "BaseException", .type "object"] "ValueError.__new__" = true)
    (kc_NotFamily : PySem.W.keepIn K (.ref CF) = true)
    (bc_NotFamily : PySem.W.subIn K (.ref CF) (.type "BaseException") = some true)
    (tc_NotFamily : PySem.W.typeIn K (.ref CF) = some (.type "type"))
    (n_NotDiagram : PySem.W.nsIn K mainGlobals "NotDiagram" = some (some (.ref CD)))
    (x_NotDiagram : PySem.W.excIn K CD [.type "ValueError", .type "Exception", .type "BaseException", .type "object"] "ValueError.__new__" = true)
    (kc_NotDiagram : PySem.W.keepIn K (.ref CD) = true)
    (bc_NotDiagram : PySem.W.subIn K (.ref CD) (.type "BaseException") = some true)
    (tc_NotDiagram : PySem.W.typeIn K (.ref CD) = some (.type "type"))
    (n_NotWord : PySem.W.nsIn K mainGlobals "NotWord" = some (some (.ref CWd)))
    (x_NotWord : PySem.W.excIn K CWd [.type "ValueError", .type "Exception", .type "BaseException", .type "object"] "ValueError.__new__" = true)
    (kc_NotWord : PySem.W.keepIn K (.ref CWd) = true)
    (bc_NotWord : PySem.W.subIn K (.ref CWd) (.type "BaseException") = some true)
    (tc_NotWord : PySem.W.typeIn K (.ref CWd) = some (.type "type"))
    (n_BadNumber : PySem.W.nsIn K mainGlobals "BadNumber" = some (some (.ref CB)))
    (x_BadNumber : PySem.W.excIn K CB [.type "ValueError", .type "Exception", .type "BaseException", .type "object"] "ValueError.__new__" = true)
    (kc_BadNumber : PySem.W.keepIn K (.ref CB) = true)
    (bc_BadNumber : PySem.W.subIn K (.ref CB) (.type "BaseException") = some true)
    (tc_BadNumber : PySem.W.typeIn K (.ref CB) = some (.type "type"))
    (n_TooLarge : PySem.W.nsIn K mainGlobals "TooLarge" = some (some (.ref CT)))
    (x_TooLarge : PySem.W.excIn K CT [.type "ValueError", .type "Exception", .type "BaseException", .type "object"] "ValueError.__new__" = true)
    (kc_TooLarge : PySem.W.keepIn K (.ref CT) = true)
    (bc_TooLarge : PySem.W.subIn K (.ref CT) (.type "BaseException") = some true)
    (tc_TooLarge : PySem.W.typeIn K (.ref CT) = some (.type "type"))
    (n_MOST_ON_A_SIDE : PySem.W.nsIn K mainGlobals "MOST_ON_A_SIDE" = some (some (.int 8 tm_MOST_ON_A_SIDE)))
    (n_MOST_POINTS : PySem.W.nsIn K mainGlobals "MOST_POINTS" = some (some (.int 12 tm_MOST_POINTS)))
    (n_MOST_STRANDS : PySem.W.nsIn K mainGlobals "MOST_STRANDS" = some (some (.int 6 tm_MOST_STRANDS)))
    (n_MOST_LETTERS : PySem.W.nsIn K mainGlobals "MOST_LETTERS" = some (some (.int 60 tm_MOST_LETTERS)))
    (n_EMPTY_TEXT : PySem.W.nsIn K mainGlobals "EMPTY_TEXT" = some (some (.str "-" tm_EMPTY_TEXT)))
    (n_FAMILIES : PySem.W.nsIn K mainGlobals "FAMILIES" = some (some (.ref aF)))
    (l_FAMILIES : K.lookup aF = some ⟨.type "tuple", ddF, .seq #[.str "threads" uf0, .str "loose" uf1, .str "pairs" uf2, .str "lonepairs" uf3, .str "even" uf4, .str "parts" uf5] nF, slF⟩)
    (n_KINDS : PySem.W.nsIn K mainGlobals "KINDS" = some (some (.ref aKI)))
    (l_KINDS : K.lookup aKI = some ⟨.type "dict", none, .dict esK nK, #[]⟩)
    (kl_KINDS : PySem.W.KeysLit w.params esK.toList)
    (lo_KINDS : (aKI == sysModules) = false)
    (vk0 : PySem.W.nsIn K aKI "threads" = some (some (.str "s" tk0)))
    (vk1 : PySem.W.nsIn K aKI "loose" = some (some (.str "sp" tk1)))
    (vk2 : PySem.W.nsIn K aKI "pairs" = some (some (.str "se" tk2)))
    (vk3 : PySem.W.nsIn K aKI "lonepairs" = some (some (.str "sep" tk3)))
    (vk4 : PySem.W.nsIn K aKI "even" = some (some (.str "seb" tk4)))
    (vk5 : PySem.W.nsIn K aKI "parts" = some (some (.str "sepb" tk5)))
    (n_Malformed : PySem.W.nsIn K mainGlobals "Malformed" = some (some (.ref CM)))
    (x_Malformed : K.lookup CM = some (excClassObj nm_Malformed q_Malformed CM N_Malformed bs_Malformed bm_Malformed true sn_Malformed sub_Malformed ab_Malformed col_Malformed dd_Malformed m0_Malformed m1_Malformed m2_Malformed m3_Malformed m5_Malformed "ValueError.__new__"))
    (r_Malformed : PySem.HandSPX.refsVE bm_Malformed = true)
    (sa_Malformed : PySem.W.findIn K (.ref CM) "__setattr__" = some (some (.builtin "object.__setattr__")))
    (ga_Malformed : PySem.W.findIn K (.ref CM) "__getattribute__" = some (some (.builtin "BaseException.__getattribute__")))
    (gg_Malformed : PySem.W.findIn K (.ref CM) "__getattr__" = some none)
    (na_Malformed : PySem.W.findIn K (.ref CM) "at" = some none)
    (ii_Malformed : PySem.W.findIn K (.ref CM) "__init__" = some (some (.ref f_Malformed_init)))
    (kc_Malformed : PySem.W.keepIn K (.ref CM) = true)
    (ec_Malformed : PySem.W.subIn K (.ref CM) (.type "BaseException") = some true)
    (tc_Malformed : PySem.W.typeIn K (.ref CM) = some (.type "type"))
    (hd_Malformed : PySem.W.hasDictIn K CM = true)
    (ti_Malformed : PySem.W.typeIn K (.ref f_Malformed_init) = some (.type "function"))
    (ss_Malformed : PySem.W.subIn K (.ref CM) (.ref CM) = some true)
    (n_WorthError : PySem.W.nsIn K mainGlobals "WorthError" = some (some (.ref CE)))
    (ebc : PySem.W.subIn K (.ref CE) (.type "BaseException") = some true)
    (ehd : PySem.W.hasDictIn K CE = true)
    (ety : PySem.W.typeIn K (.ref CE) = some (.type "type"))
    (hn_cls : PySem.W.specialIn K (.builtin "object.__class__") "__get__" = some (some (.builtin "getset_descriptor.__get__")))
    (ht_cls : PySem.W.takesIn K (.builtin "object.__class__") = some true)
    (n_NotWorld : PySem.W.nsIn K mainGlobals "NotWorld" = some (some (.ref X_NotWorld)))
    (n_NotNumber : PySem.W.nsIn K mainGlobals "NotNumber" = some (some (.ref X_NotNumber)))
    (n_NotMatrix : PySem.W.nsIn K mainGlobals "NotMatrix" = some (some (.ref X_NotMatrix)))
    (n_NoAnswer : PySem.W.nsIn K mainGlobals "NoAnswer" = some (some (.ref X_NoAnswer)))
    (hg_NotFamily : PySem.W.findIn K (.ref CF) "__getattribute__" = some (some (.builtin "BaseException.__getattribute__")))
    (hk_NotFamily : PySem.W.findIn K (.ref CF) "__getattr__" = some none)
    (hd_NotFamily : PySem.W.hasDictIn K CF = true)
    (ha_NotFamily : PySem.W.findIn K (.ref CF) "__class__" = some (some (.builtin "object.__class__")))
    (hm_NotFamily : PySem.W.mroIn K CF (.type "object") = some true)
    (sE_NotFamily : PySem.W.subIn K (.ref CF) (.ref CE) = some true)
    (tE_NotFamily : PySem.W.kitOne K (.ref CF) (.ref CE) = some true)
    (t_NotFamily_NotWorld : PySem.W.kitOne K (.ref CF) (.ref X_NotWorld) = some false)
    (t_NotFamily_NotFamily : PySem.W.kitOne K (.ref CF) (.ref CF) = some true)
    (t_NotFamily_NotDiagram : PySem.W.kitOne K (.ref CF) (.ref CD) = some false)
    (t_NotFamily_NotNumber : PySem.W.kitOne K (.ref CF) (.ref X_NotNumber) = some false)
    (t_NotFamily_NotWord : PySem.W.kitOne K (.ref CF) (.ref CWd) = some false)
    (t_NotFamily_NotMatrix : PySem.W.kitOne K (.ref CF) (.ref X_NotMatrix) = some false)
    (t_NotFamily_BadNumber : PySem.W.kitOne K (.ref CF) (.ref CB) = some false)
    (t_NotFamily_NoAnswer : PySem.W.kitOne K (.ref CF) (.ref X_NoAnswer) = some false)
    (t_NotFamily_TooLarge : PySem.W.kitOne K (.ref CF) (.ref CT) = some false)
    (t_NotFamily_Malformed : PySem.W.kitOne K (.ref CF) (.ref CM) = some false)
    (hg_NotWord : PySem.W.findIn K (.ref CWd) "__getattribute__" = some (some (.builtin "BaseException.__getattribute__")))
    (hk_NotWord : PySem.W.findIn K (.ref CWd) "__getattr__" = some none)
    (hd_NotWord : PySem.W.hasDictIn K CWd = true)
    (ha_NotWord : PySem.W.findIn K (.ref CWd) "__class__" = some (some (.builtin "object.__class__")))
    (hm_NotWord : PySem.W.mroIn K CWd (.type "object") = some true)
    (sE_NotWord : PySem.W.subIn K (.ref CWd) (.ref CE) = some true)
    (tE_NotWord : PySem.W.kitOne K (.ref CWd) (.ref CE) = some true)
    (t_NotWord_NotWorld : PySem.W.kitOne K (.ref CWd) (.ref X_NotWorld) = some false)
    (t_NotWord_NotFamily : PySem.W.kitOne K (.ref CWd) (.ref CF) = some false)
    (t_NotWord_NotDiagram : PySem.W.kitOne K (.ref CWd) (.ref CD) = some false)
    (t_NotWord_NotNumber : PySem.W.kitOne K (.ref CWd) (.ref X_NotNumber) = some false)
    (t_NotWord_NotWord : PySem.W.kitOne K (.ref CWd) (.ref CWd) = some true)
    (t_NotWord_NotMatrix : PySem.W.kitOne K (.ref CWd) (.ref X_NotMatrix) = some false)
    (t_NotWord_BadNumber : PySem.W.kitOne K (.ref CWd) (.ref CB) = some false)
    (t_NotWord_NoAnswer : PySem.W.kitOne K (.ref CWd) (.ref X_NoAnswer) = some false)
    (t_NotWord_TooLarge : PySem.W.kitOne K (.ref CWd) (.ref CT) = some false)
    (t_NotWord_Malformed : PySem.W.kitOne K (.ref CWd) (.ref CM) = some false)
    (hg_BadNumber : PySem.W.findIn K (.ref CB) "__getattribute__" = some (some (.builtin "BaseException.__getattribute__")))
    (hk_BadNumber : PySem.W.findIn K (.ref CB) "__getattr__" = some none)
    (hd_BadNumber : PySem.W.hasDictIn K CB = true)
    (ha_BadNumber : PySem.W.findIn K (.ref CB) "__class__" = some (some (.builtin "object.__class__")))
    (hm_BadNumber : PySem.W.mroIn K CB (.type "object") = some true)
    (sE_BadNumber : PySem.W.subIn K (.ref CB) (.ref CE) = some true)
    (tE_BadNumber : PySem.W.kitOne K (.ref CB) (.ref CE) = some true)
    (t_BadNumber_NotWorld : PySem.W.kitOne K (.ref CB) (.ref X_NotWorld) = some false)
    (t_BadNumber_NotFamily : PySem.W.kitOne K (.ref CB) (.ref CF) = some false)
    (t_BadNumber_NotDiagram : PySem.W.kitOne K (.ref CB) (.ref CD) = some false)
    (t_BadNumber_NotNumber : PySem.W.kitOne K (.ref CB) (.ref X_NotNumber) = some false)
    (t_BadNumber_NotWord : PySem.W.kitOne K (.ref CB) (.ref CWd) = some false)
    (t_BadNumber_NotMatrix : PySem.W.kitOne K (.ref CB) (.ref X_NotMatrix) = some false)
    (t_BadNumber_BadNumber : PySem.W.kitOne K (.ref CB) (.ref CB) = some true)
    (t_BadNumber_NoAnswer : PySem.W.kitOne K (.ref CB) (.ref X_NoAnswer) = some false)
    (t_BadNumber_TooLarge : PySem.W.kitOne K (.ref CB) (.ref CT) = some false)
    (t_BadNumber_Malformed : PySem.W.kitOne K (.ref CB) (.ref CM) = some false)
    (hg_Malformed : PySem.W.findIn K (.ref CM) "__getattribute__" = some (some (.builtin "BaseException.__getattribute__")))
    (hk_Malformed : PySem.W.findIn K (.ref CM) "__getattr__" = some none)
    (ha_Malformed : PySem.W.findIn K (.ref CM) "__class__" = some (some (.builtin "object.__class__")))
    (hm_Malformed : PySem.W.mroIn K CM (.type "object") = some true)
    (sE_Malformed : PySem.W.subIn K (.ref CM) (.ref CE) = some true)
    (tE_Malformed : PySem.W.kitOne K (.ref CM) (.ref CE) = some true)
    (t_Malformed_NotWorld : PySem.W.kitOne K (.ref CM) (.ref X_NotWorld) = some false)
    (t_Malformed_NotFamily : PySem.W.kitOne K (.ref CM) (.ref CF) = some false)
    (t_Malformed_NotDiagram : PySem.W.kitOne K (.ref CM) (.ref CD) = some false)
    (t_Malformed_NotNumber : PySem.W.kitOne K (.ref CM) (.ref X_NotNumber) = some false)
    (t_Malformed_NotWord : PySem.W.kitOne K (.ref CM) (.ref CWd) = some false)
    (t_Malformed_NotMatrix : PySem.W.kitOne K (.ref CM) (.ref X_NotMatrix) = some false)
    (t_Malformed_BadNumber : PySem.W.kitOne K (.ref CM) (.ref CB) = some false)
    (t_Malformed_NoAnswer : PySem.W.kitOne K (.ref CM) (.ref X_NoAnswer) = some false)
    (t_Malformed_TooLarge : PySem.W.kitOne K (.ref CM) (.ref CT) = some false)
    (t_Malformed_Malformed : PySem.W.kitOne K (.ref CM) (.ref CM) = some true)
    : ∃ fd : FuncData, (∀ (s : Shared) (v : Value), BindsTo s fd ⟨[v], []⟩ [("script", v)]) ∧ ∀ base : Heap, K.In base → base.Ns mainGlobals mg → FnG P w K mg base 11 fa fd ["script"] (spLaw K) := by
  have e := hfa.symm.trans (PySem.W.mg_of X G a_law)
  cases e
  have F_law_number := fun_mk (st := s_law_number) l_law_number c_law_number k_law_number
  have g_law_number := PySem.W.mg_of X G a_law_number
  have b_law_number := F_law_number.binds (ps := ["cell"]) fun _ _ _ _ _ _ us hl => match us, hl with | [_], _ => rfl
  have F_law_next := fun_mk (st := s_law_next) l_law_next c_law_next k_law_next
  have g_law_next := PySem.W.mg_of X G a_law_next
  have b_law_next := F_law_next.binds (ps := ["draws"]) fun _ _ _ _ _ _ us hl => match us, hl with | [_], _ => rfl
  have F_law_draws := fun_mk (st := s_law_draws) l_law_draws c_law_draws k_law_draws
  have g_law_draws := PySem.W.mg_of X G a_law_draws
  have b_law_draws := F_law_draws.binds (ps := ["script"]) fun _ _ _ _ _ _ us hl => match us, hl with | [_], _ => rfl
  have F_is_size_ := fun_mk (st := s_is_size_) l_is_size_ c_is_size_ k_is_size_
  have g_is_size_ := PySem.W.mg_of X G a_is_size_
  have b_is_size_ := F_is_size_.binds (ps := ["n", "m"]) fun _ _ _ _ _ _ us hl => match us, hl with | [_, _], _ => rfl
  have F_check_size_ := fun_mk (st := s_check_size_) l_check_size_ c_check_size_ k_check_size_
  have g_check_size_ := PySem.W.mg_of X G a_check_size_
  have b_check_size_ := F_check_size_.binds (ps := ["n", "m"]) fun _ _ _ _ _ _ us hl => match us, hl with | [_, _], _ => rfl
  have F_is_diagram := fun_mk (st := s_is_diagram) l_is_diagram c_is_diagram k_is_diagram
  have g_is_diagram := PySem.W.mg_of X G a_is_diagram
  have b_is_diagram := F_is_diagram.binds (ps := ["diagram"]) fun _ _ _ _ _ _ us hl => match us, hl with | [_], _ => rfl
  have F_check_diagram := fun_mk (st := s_check_diagram) l_check_diagram c_check_diagram k_check_diagram
  have g_check_diagram := PySem.W.mg_of X G a_check_diagram
  have b_check_diagram := F_check_diagram.binds (ps := ["diagram"]) fun _ _ _ _ _ _ us hl => match us, hl with | [_], _ => rfl
  have F_from_labels := fun_mk (st := s_from_labels) l_from_labels c_from_labels k_from_labels
  have g_from_labels := PySem.W.mg_of X G a_from_labels
  have b_from_labels := F_from_labels.binds (ps := ["n", "m", "marks"]) fun _ _ _ _ _ _ us hl => match us, hl with | [_, _, _], _ => rfl
  have F_check_family := fun_mk (st := s_check_family) l_check_family c_check_family k_check_family
  have g_check_family := PySem.W.mg_of X G a_check_family
  have b_check_family := F_check_family.binds (ps := ["family"]) fun _ _ _ _ _ _ us hl => match us, hl with | [_], _ => rfl
  have F_root_ := fun_mk (st := s_root_) l_root_ c_root_ k_root_
  have g_root_ := PySem.W.mg_of X G a_root_
  have b_root_ := F_root_.binds (ps := ["parents", "point"]) fun _ _ _ _ _ _ us hl => match us, hl with | [_, _], _ => rfl
  have F_piece_marks := fun_mk (st := s_piece_marks) l_piece_marks c_piece_marks k_piece_marks
  have g_piece_marks := PySem.W.mg_of X G a_piece_marks
  have b_piece_marks := F_piece_marks.binds (ps := ["size", "groups"]) fun _ _ _ _ _ _ us hl => match us, hl with | [_, _], _ => rfl
  have F_hidden_count := fun_mk (st := s_hidden_count) l_hidden_count c_hidden_count k_hidden_count
  have g_hidden_count := PySem.W.mg_of X G a_hidden_count
  have b_hidden_count := F_hidden_count.binds (ps := ["marks", "shown"]) fun _ _ _ _ _ _ us hl => match us, hl with | [_, _], _ => rfl
  have F_put := fun_mk (st := s_put) l_put c_put k_put
  have g_put := PySem.W.mg_of X G a_put
  have b_put := F_put.binds (ps := ["one", "other"]) fun _ _ _ _ _ _ us hl => match us, hl with | [_, _], _ => rfl
  have F_check_ := fun_mk (st := s_check_) l_check_ c_check_ k_check_
  have g_check_ := PySem.W.mg_of X G a_check_
  have b_check_ := F_check_.binds (ps := ["n", "i", "strands"]) fun _ _ _ _ _ _ us hl => match us, hl with | [_, _, _], _ => rfl
  have F_with_marks_ := fun_mk (st := s_with_marks_) l_with_marks_ c_with_marks_ k_with_marks_
  have g_with_marks_ := PySem.W.mg_of X G a_with_marks_
  have b_with_marks_ := F_with_marks_.binds (ps := ["n", "i", "marks"]) fun _ _ _ _ _ _ us hl => match us, hl with | [_, _, _], _ => rfl
  have F_changed_ := fun_mk (st := s_changed_) l_changed_ c_changed_ k_changed_
  have g_changed_ := PySem.W.mg_of X G a_changed_
  have b_changed_ := F_changed_.binds (ps := ["n", "i", "above", "below"]) fun _ _ _ _ _ _ us hl => match us, hl with | [_, _, _, _], _ => rfl
  have F_unit := fun_mk (st := s_unit) l_unit c_unit k_unit
  have g_unit := PySem.W.mg_of X G a_unit
  have b_unit := F_unit.binds (ps := ["n"]) fun _ _ _ _ _ _ us hl => match us, hl with | [_], _ => rfl
  have F_hook := fun_mk (st := s_hook) l_hook c_hook k_hook
  have g_hook := PySem.W.mg_of X G a_hook
  have b_hook := F_hook.binds (ps := ["n", "i"]) fun _ _ _ _ _ _ us hl => match us, hl with | [_, _], _ => rfl
  have F_swap := fun_mk (st := s_swap) l_swap c_swap k_swap
  have g_swap := PySem.W.mg_of X G a_swap
  have b_swap := F_swap.binds (ps := ["n", "i"]) fun _ _ _ _ _ _ us hl => match us, hl with | [_, _], _ => rfl
  have F_bridge := fun_mk (st := s_bridge) l_bridge c_bridge k_bridge
  have g_bridge := PySem.W.mg_of X G a_bridge
  have b_bridge := F_bridge.binds (ps := ["n", "i"]) fun _ _ _ _ _ _ us hl => match us, hl with | [_, _], _ => rfl
  have F_cut := fun_mk (st := s_cut) l_cut c_cut k_cut
  have g_cut := PySem.W.mg_of X G a_cut
  have b_cut := F_cut.binds (ps := ["n", "i"]) fun _ _ _ _ _ _ us hl => match us, hl with | [_, _], _ => rfl
  have F_strands_ := fun_mk (st := s_strands_) l_strands_ c_strands_ k_strands_
  have g_strands_ := PySem.W.mg_of X G a_strands_
  have b_strands_ := F_strands_.binds (ps := ["kind"]) fun _ _ _ _ _ _ us hl => match us, hl with | [_], _ => rfl
  have F_letters := fun_mk (st := s_letters) l_letters c_letters k_letters
  have g_letters := PySem.W.mg_of X G a_letters
  have b_letters := F_letters.binds (ps := ["family", "n"]) fun _ _ _ _ _ _ us hl => match us, hl with | [_, _], _ => rfl
  have F_has_only_ := fun_mk (st := s_has_only_) l_has_only_ c_has_only_ k_has_only_
  have g_has_only_ := PySem.W.mg_of X G a_has_only_
  have b_has_only_ := F_has_only_.binds (ps := ["allowed", "word"]) fun _ _ _ _ _ _ us hl => match us, hl with | [_, _], _ => rfl
  have F_is_word := fun_mk (st := s_is_word) l_is_word c_is_word k_is_word
  have g_is_word := PySem.W.mg_of X G a_is_word
  have b_is_word := F_is_word.binds (ps := ["n", "word"]) fun _ _ _ _ _ _ us hl => match us, hl with | [_, _], _ => rfl
  have F_check_word := fun_mk (st := s_check_word) l_check_word c_check_word k_check_word
  have g_check_word := PySem.W.mg_of X G a_check_word
  have b_check_word := F_check_word.binds (ps := ["n", "word"]) fun _ _ _ _ _ _ us hl => match us, hl with | [_, _], _ => rfl
  have F_letter_diagram := fun_mk (st := s_letter_diagram) l_letter_diagram c_letter_diagram k_letter_diagram
  have g_letter_diagram := PySem.W.mg_of X G a_letter_diagram
  have b_letter_diagram := F_letter_diagram.binds (ps := ["n", "letter"]) fun _ _ _ _ _ _ us hl => match us, hl with | [_, _], _ => rfl
  have F_diagram_of := fun_mk (st := s_diagram_of) l_diagram_of c_diagram_of k_diagram_of
  have g_diagram_of := PySem.W.mg_of X G a_diagram_of
  have b_diagram_of := F_diagram_of.binds (ps := ["n", "word"]) fun _ _ _ _ _ _ us hl => match us, hl with | [_, _], _ => rfl
  have F_letter_text_ := fun_mk (st := s_letter_text_) l_letter_text_ c_letter_text_ k_letter_text_
  have g_letter_text_ := PySem.W.mg_of X G a_letter_text_
  have b_letter_text_ := F_letter_text_.binds (ps := ["letter"]) fun _ _ _ _ _ _ us hl => match us, hl with | [_], _ => rfl
  have F_word_text := fun_mk (st := s_word_text) l_word_text c_word_text k_word_text
  have g_word_text := PySem.W.mg_of X G a_word_text
  have b_word_text := F_word_text.binds (ps := ["n", "word"]) fun _ _ _ _ _ _ us hl => match us, hl with | [_, _], _ => rfl
  have F_is_word_of := fun_mk (st := s_is_word_of) l_is_word_of c_is_word_of k_is_word_of
  have g_is_word_of := PySem.W.mg_of X G a_is_word_of
  have b_is_word_of := F_is_word_of.binds (ps := ["family", "n", "word"]) fun _ _ _ _ _ _ us hl => match us, hl with | [_, _, _], _ => rfl
  have F_Malformed_init := fun_mk (st := s_Malformed_init) l_Malformed_init c_Malformed_init k_Malformed_init
  have b_Malformed_init := F_Malformed_init.binds (ps := ["self", "at"]) fun _ _ _ _ _ _ us hl => match us, hl with | [_, _], _ => rfl
  have F_read_word := fun_mk (st := s_read_word) l_read_word c_read_word k_read_word
  have g_read_word := PySem.W.mg_of X G a_read_word
  have b_read_word := F_read_word.binds (ps := ["n", "text"]) fun _ _ _ _ _ _ us hl => match us, hl with | [_, _], _ => rfl
  have F_law_letter_kinds := fun_mk (st := s_law_letter_kinds) l_law_letter_kinds c_law_letter_kinds k_law_letter_kinds
  have g_law_letter_kinds := PySem.W.mg_of X G a_law_letter_kinds
  have b_law_letter_kinds := F_law_letter_kinds.binds (ps := ["family"]) fun _ _ _ _ _ _ us hl => match us, hl with | [_], _ => rfl
  have F_law_wide := fun_mk (st := s_law_wide) l_law_wide c_law_wide k_law_wide
  have g_law_wide := PySem.W.mg_of X G a_law_wide
  have b_law_wide := F_law_wide.binds (ps := ["kind"]) fun _ _ _ _ _ _ us hl => match us, hl with | [_], _ => rfl
  have F_law_alphabet := fun_mk (st := s_law_alphabet) l_law_alphabet c_law_alphabet k_law_alphabet
  have g_law_alphabet := PySem.W.mg_of X G a_law_alphabet
  have b_law_alphabet := F_law_alphabet.binds (ps := ["family", "n"]) fun _ _ _ _ _ _ us hl => match us, hl with | [_, _], _ => rfl
  have F_law_glued := fun_mk (st := s_law_glued) l_law_glued c_law_glued k_law_glued
  have g_law_glued := PySem.W.mg_of X G a_law_glued
  have b_law_glued := F_law_glued.binds (ps := ["marks", "pairs"]) fun _ _ _ _ _ _ us hl => match us, hl with | [_, _], _ => rfl
  have F_law_kinds := fun_mk (st := s_law_kinds) l_law_kinds c_law_kinds k_law_kinds
  have g_law_kinds := PySem.W.mg_of X G a_law_kinds
  have b_law_kinds := F_law_kinds.binds (ps := ["marks"]) fun _ _ _ _ _ _ us hl => match us, hl with | [_], _ => rfl
  have F_law_drawn_word := fun_mk (st := s_law_drawn_word) l_law_drawn_word c_law_drawn_word k_law_drawn_word
  have g_law_drawn_word := PySem.W.mg_of X G a_law_drawn_word
  have b_law_drawn_word := F_law_drawn_word.binds (ps := ["draws", "family", "n", "most"]) fun _ _ _ _ _ _ us hl => match us, hl with | [_, _, _, _], _ => rfl
  have F_law_letter_blocks := fun_mk (st := s_law_letter_blocks) l_law_letter_blocks c_law_letter_blocks k_law_letter_blocks
  have g_law_letter_blocks := PySem.W.mg_of X G a_law_letter_blocks
  have b_law_letter_blocks := F_law_letter_blocks.binds (ps := ["letter", "n", "top"]) fun _ _ _ _ _ _ us hl => match us, hl with | [_, _, _], _ => rfl
  have F_law_marked := fun_mk (st := s_law_marked) l_law_marked c_law_marked k_law_marked
  have g_law_marked := PySem.W.mg_of X G a_law_marked
  have b_law_marked := F_law_marked.binds (ps := ["n", "m", "marks"]) fun _ _ _ _ _ _ us hl => match us, hl with | [_, _, _], _ => rfl
  have F_law_worded := fun_mk (st := s_law_worded) l_law_worded c_law_worded k_law_worded
  have g_law_worded := PySem.W.mg_of X G a_law_worded
  have b_law_worded := F_law_worded.binds (ps := ["n", "word"]) fun _ _ _ _ _ _ us hl => match us, hl with | [_, _], _ => rfl
  have F_law_family := fun_mk (st := s_law_family) l_law_family c_law_family k_law_family
  have g_law_family := PySem.W.mg_of X G a_law_family
  have b_law_family := F_law_family.binds (ps := ["draws"]) fun _ _ _ _ _ _ us hl => match us, hl with | [_], _ => rfl
  have F_law_marks := fun_mk (st := s_law_marks) l_law_marks c_law_marks k_law_marks
  have g_law_marks := PySem.W.mg_of X G a_law_marks
  have b_law_marks := F_law_marks.binds (ps := ["diagram"]) fun _ _ _ _ _ _ us hl => match us, hl with | [_], _ => rfl
  have F_law_belongs := fun_mk (st := s_law_belongs) l_law_belongs c_law_belongs k_law_belongs
  have g_law_belongs := PySem.W.mg_of X G a_law_belongs
  have b_law_belongs := F_law_belongs.binds (ps := ["family", "diagram"]) fun _ _ _ _ _ _ us hl => match us, hl with | [_, _], _ => rfl
  have F_law_error := fun_mk (st := s_law_error) l_law_error c_law_error k_law_error
  have g_law_error := PySem.W.mg_of X G a_law_error
  have b_law_error := F_law_error.binds (ps := ["error"]) fun _ _ _ _ _ _ us hl => match us, hl with | [_], _ => rfl
  have F_law_told := fun_mk (st := s_law_told) l_law_told c_law_told k_law_told
  have g_law_told := PySem.W.mg_of X G a_law_told
  have b_law_told := F_law_told.binds (ps := ["which", "family", "n", "word"]) fun _ _ _ _ _ _ us hl => match us, hl with | [_, _, _, _], _ => rfl
  have F_law_read := fun_mk (st := s_law_read) l_law_read c_law_read k_law_read
  have g_law_read := PySem.W.mg_of X G a_law_read
  have b_law_read := F_law_read.binds (ps := ["n", "text"]) fun _ _ _ _ _ _ us hl => match us, hl with | [_, _], _ => rfl
  have F_law_turned_over := fun_mk (st := s_law_turned_over) l_law_turned_over c_law_turned_over k_law_turned_over
  have g_law_turned_over := PySem.W.mg_of X G a_law_turned_over
  have b_law_turned_over := F_law_turned_over.binds (ps := ["diagram"]) fun _ _ _ _ _ _ us hl => match us, hl with | [_], _ => rfl
  have F_law_wrong_texts := fun_mk (st := s_law_wrong_texts) l_law_wrong_texts c_law_wrong_texts k_law_wrong_texts
  have g_law_wrong_texts := PySem.W.mg_of X G a_law_wrong_texts
  have b_law_wrong_texts := F_law_wrong_texts.binds (ps := ["draws", "n", "parts"]) fun _ _ _ _ _ _ us hl => match us, hl with | [_, _, _], _ => rfl
  have F_law_refused := fun_mk (st := s_law_refused) l_law_refused c_law_refused k_law_refused
  have g_law_refused := PySem.W.mg_of X G a_law_refused
  have b_law_refused := F_law_refused.binds (ps := ["draws", "family", "n", "word"]) fun _ _ _ _ _ _ us hl => match us, hl with | [_, _, _, _], _ => rfl
  have F_law := fun_mk (st := s_law) l_law c_law k_law
  have g_law := PySem.W.mg_of X G a_law
  have b_law := F_law.binds (ps := ["script"]) fun _ _ _ _ _ _ us hl => match us, hl with | [_], _ => rfl
  have z_int := PySem.W.mg_none_of X G zn_int
  have z_range := PySem.W.mg_none_of X G zn_range
  have z_len := PySem.W.mg_none_of X G zn_len
  have z_list := PySem.W.mg_none_of X G zn_list
  have z_tuple := PySem.W.mg_none_of X G zn_tuple
  have z_all := PySem.W.mg_none_of X G zn_all
  have z_any := PySem.W.mg_none_of X G zn_any
  have z_sorted := PySem.W.mg_none_of X G zn_sorted
  have z_repr := PySem.W.mg_none_of X G zn_repr
  have z_isinstance := PySem.W.mg_none_of X G zn_isinstance
  have z_enumerate := PySem.W.mg_none_of X G zn_enumerate
  have z_str := PySem.W.mg_none_of X G zn_str
  have z_set := PySem.W.mg_none_of X G zn_set
  have z_min := PySem.W.mg_none_of X G zn_min
  have z_max := PySem.W.mg_none_of X G zn_max
  have z_dict := PySem.W.mg_none_of X G zn_dict
  have E_NotFamily : ErrC K mg "NotFamily" CF := ⟨PySem.W.mg_of X G n_NotFamily, x_NotFamily, kc_NotFamily, bc_NotFamily, tc_NotFamily⟩
  have E_NotDiagram : ErrC K mg "NotDiagram" CD := ⟨PySem.W.mg_of X G n_NotDiagram, x_NotDiagram, kc_NotDiagram, bc_NotDiagram, tc_NotDiagram⟩
  have E_NotWord : ErrC K mg "NotWord" CWd := ⟨PySem.W.mg_of X G n_NotWord, x_NotWord, kc_NotWord, bc_NotWord, tc_NotWord⟩
  have E_BadNumber : ErrC K mg "BadNumber" CB := ⟨PySem.W.mg_of X G n_BadNumber, x_BadNumber, kc_BadNumber, bc_BadNumber, tc_BadNumber⟩
  have E_TooLarge : ErrC K mg "TooLarge" CT := ⟨PySem.W.mg_of X G n_TooLarge, x_TooLarge, kc_TooLarge, bc_TooLarge, tc_TooLarge⟩
  have m_MOST_ON_A_SIDE := PySem.W.mg_of X G n_MOST_ON_A_SIDE
  have m_MOST_POINTS := PySem.W.mg_of X G n_MOST_POINTS
  have m_MOST_STRANDS := PySem.W.mg_of X G n_MOST_STRANDS
  have m_MOST_LETTERS := PySem.W.mg_of X G n_MOST_LETTERS
  have m_EMPTY_TEXT := PySem.W.mg_of X G n_EMPTY_TEXT
  have m_FAMILIES := PySem.W.mg_of X G n_FAMILIES
  have tF : ∀ H, SqT K H aF (fams.map V.str) := fun H => .inr ⟨_, _, _, l_FAMILIES, rfl, rfl, (by show 6 ≤ sizeLine; decide), .cons ⟨_, rfl⟩ (.cons ⟨_, rfl⟩ (.cons ⟨_, rfl⟩ (.cons ⟨_, rfl⟩ (.cons ⟨_, rfl⟩ (.cons ⟨_, rfl⟩ (.nil))))))⟩
  have m_KINDS := PySem.W.mg_of X G n_KINDS
  have D_KINDS : KDict K w aKI esK nK := ⟨l_KINDS, kl_KINDS, lo_KINDS⟩
  have v_KINDS : ∀ z ∈ fams, ∃ t, PySem.W.nsIn K aKI z = some (some (.str (kindS z) t)) := fun z hz => by
    have h : z = "threads" ∨ z = "loose" ∨ z = "pairs" ∨ z = "lonepairs" ∨ z = "even" ∨ z = "parts" := by simpa [fams] using hz
    rcases h with rfl | rfl | rfl | rfl | rfl | rfl
    · rw [show kindS "threads" = "s" by decide +kernel]; exact ⟨_, vk0⟩
    · rw [show kindS "loose" = "sp" by decide +kernel]; exact ⟨_, vk1⟩
    · rw [show kindS "pairs" = "se" by decide +kernel]; exact ⟨_, vk2⟩
    · rw [show kindS "lonepairs" = "sep" by decide +kernel]; exact ⟨_, vk3⟩
    · rw [show kindS "even" = "seb" by decide +kernel]; exact ⟨_, vk4⟩
    · rw [show kindS "parts" = "sepb" by decide +kernel]; exact ⟨_, vk5⟩
  have OX_Malformed : MalC K mg CM f_Malformed_init := ⟨PySem.W.mg_of X G n_Malformed, ⟨⟨_, _, _, _, _, _, _, _, _, _, _, _, _, _, _, x_Malformed, r_Malformed⟩, sa_Malformed, ec_Malformed, tc_Malformed, kc_Malformed⟩, na_Malformed, ii_Malformed, ti_Malformed⟩
  have XM : XfC K CM := ⟨ga_Malformed, gg_Malformed, ec_Malformed, hd_Malformed⟩
  have m_WorthError := PySem.W.mg_of X G n_WorthError
  have m_NotWorld := PySem.W.mg_of X G n_NotWorld
  have m_NotFamily := PySem.W.mg_of X G n_NotFamily
  have m_NotDiagram := PySem.W.mg_of X G n_NotDiagram
  have m_NotNumber := PySem.W.mg_of X G n_NotNumber
  have m_NotWord := PySem.W.mg_of X G n_NotWord
  have m_NotMatrix := PySem.W.mg_of X G n_NotMatrix
  have m_BadNumber := PySem.W.mg_of X G n_BadNumber
  have m_NoAnswer := PySem.W.mg_of X G n_NoAnswer
  have m_TooLarge := PySem.W.mg_of X G n_TooLarge
  have m_Malformed := PySem.W.mg_of X G n_Malformed
  have I_NotFamily : ExcC K CF := ⟨hg_NotFamily, hk_NotFamily, bc_NotFamily, hd_NotFamily, ha_NotFamily, hn_cls, ht_cls, hm_NotFamily⟩
  have J_NotFamily : KindE K CE X_NotWorld CF CD X_NotNumber CWd X_NotMatrix CB X_NoAnswer CT CM CF "family" := ⟨I_NotFamily, tE_NotFamily, by decide, t_NotFamily_NotWorld, t_NotFamily_NotFamily, t_NotFamily_NotDiagram, t_NotFamily_NotNumber, t_NotFamily_NotWord, t_NotFamily_NotMatrix, t_NotFamily_BadNumber, t_NotFamily_NoAnswer, t_NotFamily_TooLarge, t_NotFamily_Malformed⟩
  have I_NotWord : ExcC K CWd := ⟨hg_NotWord, hk_NotWord, bc_NotWord, hd_NotWord, ha_NotWord, hn_cls, ht_cls, hm_NotWord⟩
  have J_NotWord : KindE K CE X_NotWorld CF CD X_NotNumber CWd X_NotMatrix CB X_NoAnswer CT CM CWd "word" := ⟨I_NotWord, tE_NotWord, by decide, t_NotWord_NotWorld, t_NotWord_NotFamily, t_NotWord_NotDiagram, t_NotWord_NotNumber, t_NotWord_NotWord, t_NotWord_NotMatrix, t_NotWord_BadNumber, t_NotWord_NoAnswer, t_NotWord_TooLarge, t_NotWord_Malformed⟩
  have I_BadNumber : ExcC K CB := ⟨hg_BadNumber, hk_BadNumber, bc_BadNumber, hd_BadNumber, ha_BadNumber, hn_cls, ht_cls, hm_BadNumber⟩
  have J_BadNumber : KindE K CE X_NotWorld CF CD X_NotNumber CWd X_NotMatrix CB X_NoAnswer CT CM CB "number" := ⟨I_BadNumber, tE_BadNumber, by decide, t_BadNumber_NotWorld, t_BadNumber_NotFamily, t_BadNumber_NotDiagram, t_BadNumber_NotNumber, t_BadNumber_NotWord, t_BadNumber_NotMatrix, t_BadNumber_BadNumber, t_BadNumber_NoAnswer, t_BadNumber_TooLarge, t_BadNumber_Malformed⟩
  have I_Malformed : ExcC K CM := ⟨hg_Malformed, hk_Malformed, ec_Malformed, hd_Malformed, ha_Malformed, hn_cls, ht_cls, hm_Malformed⟩
  have J_Malformed : KindM K CE X_NotWorld CF CD X_NotNumber CWd X_NotMatrix CB X_NoAnswer CT CM := ⟨I_Malformed, tE_Malformed, t_Malformed_NotWorld, t_Malformed_NotFamily, t_Malformed_NotDiagram, t_Malformed_NotNumber, t_Malformed_NotWord, t_Malformed_NotMatrix, t_Malformed_BadNumber, t_Malformed_NoAnswer, t_Malformed_TooLarge, t_Malformed_Malformed⟩
  have T_told : ErrE K mg CE X_NotWorld CF CD X_NotNumber CWd X_NotMatrix CB X_NoAnswer CT CM := ⟨PySem.W.mg_of X G n_WorthError, ebc, ehd, ety, sE_NotFamily, sE_NotWord, sE_BadNumber, sE_Malformed, J_NotFamily, J_NotWord, J_BadNumber, J_Malformed⟩
  refine ⟨PySem.W.fnOf "law" "law" (defArgs s_law) (defBody s_law) (defScope s_law) .none kV_law dc_law pm_law an_law cd_law ct_law, fun s v => .of_eq rfl, fun base _ _ => ?_⟩
  have G_law_number := ok_plain (P := P) (w := w) (mg := mg) (base := base) (F := F_law_number)
  have G_law_next := ok_next (P := P) (w := w) (mg := mg) (base := base) (F := F_law_next)
  have G_law_draws := ok_draws (P := P) (w := w) (mg := mg) (base := base) (F := F_law_draws) (z_range := z_range) (z_int := z_int) (G_law_number := G_law_number) (g_law_number := g_law_number) (k_law_number := k_law_number) (b_law_number := b_law_number)
  have G_is_size_ := ok_is_size_ (P := P) (w := w) (mg := mg) (base := base) (F := F_is_size_) (m_MOST_ON_A_SIDE := m_MOST_ON_A_SIDE) (m_MOST_POINTS := m_MOST_POINTS)
  have G_check_size_ := ok_check_size_ (P := P) (w := w) (mg := mg) (base := base) (F := F_check_size_) (T := E_BadNumber) (G_is_size_ := G_is_size_) (g_is_size_ := g_is_size_) (k_is_size_ := k_is_size_) (b_is_size_ := b_is_size_)
  have G_is_diagram := ok_is_diagram (P := P) (w := w) (mg := mg) (base := base) (F := F_is_diagram) (z_len := z_len) (z_list := z_list) (z_range := z_range) (z_sorted := z_sorted) (z_all := z_all) (G_is_size_ := G_is_size_) (g_is_size_ := g_is_size_) (k_is_size_ := k_is_size_) (b_is_size_ := b_is_size_)
  have G_check_diagram := ok_check_diagram (P := P) (w := w) (mg := mg) (base := base) (F := F_check_diagram) (T := E_NotDiagram) (G_is_diagram := G_is_diagram) (g_is_diagram := g_is_diagram) (k_is_diagram := k_is_diagram) (b_is_diagram := b_is_diagram)
  have G_from_labels := ok_from_labels (P := P) (w := w) (mg := mg) (base := base) (F := F_from_labels) (T := E_BadNumber) (z_len := z_len) (z_enumerate := z_enumerate) (z_tuple := z_tuple) (G_check_size_ := G_check_size_) (g_check_size_ := g_check_size_) (k_check_size_ := k_check_size_) (b_check_size_ := b_check_size_)
  have G_check_family := ok_check_family (P := P) (w := w) (mg := mg) (base := base) (F := F_check_family) (T := E_NotFamily) (m_FAMILIES := m_FAMILIES) (tF := tF)
  have G_root_ := ok_root_ (P := P) (w := w) (mg := mg) (base := base) (F := F_root_)
  have G_piece_marks := ok_piece_marks (P := P) (w := w) (mg := mg) (base := base) (F := F_piece_marks) (z_list := z_list) (z_range := z_range) (G_root_ := G_root_) (g_root_ := g_root_) (k_root_ := k_root_) (b_root_ := b_root_)
  have G_hidden_count := ok_hidden_count (P := P) (w := w) (mg := mg) (base := base) (F := F_hidden_count) (z_len := z_len) (z_set := z_set)
  have G_put := ok_put (P := P) (w := w) (mg := mg) (base := base) (F := F_put) (TB := E_BadNumber) (TT0 := E_TooLarge) (z_list := z_list) (m_MOST_POINTS := m_MOST_POINTS) (G_check_diagram := G_check_diagram) (g_check_diagram := g_check_diagram) (k_check_diagram := k_check_diagram) (b_check_diagram := b_check_diagram) (G_piece_marks := G_piece_marks) (g_piece_marks := g_piece_marks) (k_piece_marks := k_piece_marks) (b_piece_marks := b_piece_marks) (G_hidden_count := G_hidden_count) (g_hidden_count := g_hidden_count) (k_hidden_count := k_hidden_count) (b_hidden_count := b_hidden_count) (G_from_labels := G_from_labels) (g_from_labels := g_from_labels) (k_from_labels := k_from_labels) (b_from_labels := b_from_labels)
  have G_check_ := ok_check_ (P := P) (w := w) (mg := mg) (base := base) (F := F_check_) (T := E_BadNumber) (m_MOST_STRANDS := m_MOST_STRANDS)
  have G_with_marks_ := ok_with_marks_ (P := P) (w := w) (mg := mg) (base := base) (F := F_with_marks_) (z_list := z_list) (z_range := z_range) (z_len := z_len)
  have G_changed_ := ok_changed_ (P := P) (w := w) (mg := mg) (base := base) (F := F_changed_) (G_from_labels := G_from_labels) (g_from_labels := g_from_labels) (k_from_labels := k_from_labels) (b_from_labels := b_from_labels) (G_with_marks_ := G_with_marks_) (g_with_marks_ := g_with_marks_) (k_with_marks_ := k_with_marks_) (b_with_marks_ := b_with_marks_)
  have G_unit := ok_unit (P := P) (w := w) (mg := mg) (base := base) (F := F_unit) (G_check_ := G_check_) (g_check_ := g_check_) (k_check_ := k_check_) (b_check_ := b_check_) (G_changed_ := G_changed_) (g_changed_ := g_changed_) (k_changed_ := k_changed_) (b_changed_ := b_changed_)
  have G_hook := ok_hook (P := P) (w := w) (mg := mg) (base := base) (F := F_hook) (G_check_ := G_check_) (g_check_ := g_check_) (k_check_ := k_check_) (b_check_ := b_check_) (G_changed_ := G_changed_) (g_changed_ := g_changed_) (k_changed_ := k_changed_) (b_changed_ := b_changed_)
  have G_swap := ok_swap (P := P) (w := w) (mg := mg) (base := base) (F := F_swap) (G_check_ := G_check_) (g_check_ := g_check_) (k_check_ := k_check_) (b_check_ := b_check_) (G_changed_ := G_changed_) (g_changed_ := g_changed_) (k_changed_ := k_changed_) (b_changed_ := b_changed_)
  have G_bridge := ok_bridge (P := P) (w := w) (mg := mg) (base := base) (F := F_bridge) (G_check_ := G_check_) (g_check_ := g_check_) (k_check_ := k_check_) (b_check_ := b_check_) (G_changed_ := G_changed_) (g_changed_ := g_changed_) (k_changed_ := k_changed_) (b_changed_ := b_changed_)
  have G_cut := ok_cut (P := P) (w := w) (mg := mg) (base := base) (F := F_cut) (G_check_ := G_check_) (g_check_ := g_check_) (k_check_ := k_check_) (b_check_ := b_check_) (G_changed_ := G_changed_) (g_changed_ := g_changed_) (k_changed_ := k_changed_) (b_changed_ := b_changed_)
  have G_strands_ := ok_strands_ (P := P) (w := w) (mg := mg) (base := base) (F := F_strands_)
  have G_letters := ok_letters (P := P) (w := w) (mg := mg) (base := base) (F := F_letters) (T := E_BadNumber) (m_MOST_STRANDS := m_MOST_STRANDS) (z_range := z_range) (m_KINDS := m_KINDS) (D_KINDS := D_KINDS) (v_KINDS := v_KINDS) (G_check_family := G_check_family) (g_check_family := g_check_family) (k_check_family := k_check_family) (b_check_family := b_check_family) (G_strands_ := G_strands_) (g_strands_ := g_strands_) (k_strands_ := k_strands_) (b_strands_ := b_strands_)
  have G_has_only_ := ok_has_only_ (P := P) (w := w) (mg := mg) (base := base) (F := F_has_only_) (z_all := z_all)
  have G_is_word := ok_is_word (P := P) (w := w) (mg := mg) (base := base) (F := F_is_word) (m_MOST_LETTERS := m_MOST_LETTERS) (z_len := z_len) (G_letters := G_letters) (g_letters := g_letters) (k_letters := k_letters) (b_letters := b_letters) (G_has_only_ := G_has_only_) (g_has_only_ := g_has_only_) (k_has_only_ := k_has_only_) (b_has_only_ := b_has_only_)
  have G_check_word := ok_check_word (P := P) (w := w) (mg := mg) (base := base) (F := F_check_word) (T := E_NotWord) (G_is_word := G_is_word) (g_is_word := g_is_word) (k_is_word := k_is_word) (b_is_word := b_is_word)
  have G_letter_diagram := ok_letter_diagram (P := P) (w := w) (mg := mg) (base := base) (F := F_letter_diagram) (G_swap := G_swap) (g_swap := g_swap) (k_swap := k_swap) (b_swap := b_swap) (G_hook := G_hook) (g_hook := g_hook) (k_hook := k_hook) (b_hook := b_hook) (G_cut := G_cut) (g_cut := g_cut) (k_cut := k_cut) (b_cut := b_cut) (G_bridge := G_bridge) (g_bridge := g_bridge) (k_bridge := k_bridge) (b_bridge := b_bridge)
  have G_diagram_of := ok_diagram_of (P := P) (w := w) (mg := mg) (base := base) (F := F_diagram_of) (G_check_word := G_check_word) (g_check_word := g_check_word) (k_check_word := k_check_word) (b_check_word := b_check_word) (G_unit := G_unit) (g_unit := g_unit) (k_unit := k_unit) (b_unit := b_unit) (G_put := G_put) (g_put := g_put) (k_put := k_put) (b_put := b_put) (G_letter_diagram := G_letter_diagram) (g_letter_diagram := g_letter_diagram) (k_letter_diagram := k_letter_diagram) (b_letter_diagram := b_letter_diagram)
  have G_letter_text_ := ok_letter_text_ (P := P) (w := w) (mg := mg) (base := base) (F := F_letter_text_) (z_str := z_str)
  have G_word_text := ok_word_text (P := P) (w := w) (mg := mg) (base := base) (F := F_word_text) (m_EMPTY_TEXT := m_EMPTY_TEXT) (G_check_word := G_check_word) (g_check_word := g_check_word) (k_check_word := k_check_word) (b_check_word := b_check_word) (G_letter_text_ := G_letter_text_) (g_letter_text_ := g_letter_text_) (k_letter_text_ := k_letter_text_) (b_letter_text_ := b_letter_text_)
  have G_is_word_of := ok_is_word_of (P := P) (w := w) (mg := mg) (base := base) (F := F_is_word_of) (G_letters := G_letters) (g_letters := g_letters) (k_letters := k_letters) (b_letters := b_letters) (G_check_word := G_check_word) (g_check_word := g_check_word) (k_check_word := k_check_word) (b_check_word := b_check_word) (G_has_only_ := G_has_only_) (g_has_only_ := g_has_only_) (k_has_only_ := k_has_only_) (b_has_only_ := b_has_only_)
  have G_Malformed_init := ok_Malformed_init (P := P) (w := w) (mg := mg) (base := base) (F := F_Malformed_init)
  have G_read_word := ok_read_word (P := P) (w := w) (mg := mg) (base := base) (F := F_read_word) (m_EMPTY_TEXT := m_EMPTY_TEXT) (m_MOST_LETTERS := m_MOST_LETTERS) (z_enumerate := z_enumerate) (z_tuple := z_tuple) (OX_Malformed := OX_Malformed) (G_Malformed_init := G_Malformed_init) (b_Malformed_init := b_Malformed_init) (G_letters := G_letters) (g_letters := g_letters) (k_letters := k_letters) (b_letters := b_letters) (G_letter_text_ := G_letter_text_) (g_letter_text_ := g_letter_text_) (k_letter_text_ := k_letter_text_) (b_letter_text_ := b_letter_text_)
  have G_law_letter_kinds := ok_law_letter_kinds (P := P) (w := w) (mg := mg) (base := base) (F := F_law_letter_kinds)
  have G_law_wide := ok_law_wide (P := P) (w := w) (mg := mg) (base := base) (F := F_law_wide)
  have G_law_alphabet := ok_law_alphabet (P := P) (w := w) (mg := mg) (base := base) (F := F_law_alphabet) (z_range := z_range) (G_law_letter_kinds := G_law_letter_kinds) (g_law_letter_kinds := g_law_letter_kinds) (k_law_letter_kinds := k_law_letter_kinds) (b_law_letter_kinds := b_law_letter_kinds) (G_law_wide := G_law_wide) (g_law_wide := g_law_wide) (k_law_wide := k_law_wide) (b_law_wide := b_law_wide)
  have G_law_glued := ok_law_glued (P := P) (w := w) (mg := mg) (base := base) (F := F_law_glued)
  have G_law_kinds := ok_law_kinds (P := P) (w := w) (mg := mg) (base := base) (F := F_law_kinds) (z_len := z_len)
  have G_law_drawn_word := ok_law_drawn_word (P := P) (w := w) (mg := mg) (base := base) (F := F_law_drawn_word) (z_int := z_int) (z_len := z_len) (z_range := z_range) (G_law_next := G_law_next) (g_law_next := g_law_next) (k_law_next := k_law_next) (b_law_next := b_law_next) (G_law_alphabet := G_law_alphabet) (g_law_alphabet := g_law_alphabet) (k_law_alphabet := k_law_alphabet) (b_law_alphabet := b_law_alphabet)
  have G_law_letter_blocks := ok_law_letter_blocks (P := P) (w := w) (mg := mg) (base := base) (F := F_law_letter_blocks) (z_range := z_range) (G_law_wide := G_law_wide) (g_law_wide := g_law_wide) (k_law_wide := k_law_wide) (b_law_wide := b_law_wide)
  have G_law_marked := ok_law_marked (P := P) (w := w) (mg := mg) (base := base) (F := F_law_marked) (z_tuple := z_tuple) (z_range := z_range) (z_len := z_len)
  have G_law_worded := ok_law_worded (P := P) (w := w) (mg := mg) (base := base) (F := F_law_worded) (z_len := z_len) (z_range := z_range) (z_list := z_list) (G_law_letter_blocks := G_law_letter_blocks) (g_law_letter_blocks := g_law_letter_blocks) (k_law_letter_blocks := k_law_letter_blocks) (b_law_letter_blocks := b_law_letter_blocks) (G_law_glued := G_law_glued) (g_law_glued := g_law_glued) (k_law_glued := k_law_glued) (b_law_glued := b_law_glued) (G_law_kinds := G_law_kinds) (g_law_kinds := g_law_kinds) (k_law_kinds := k_law_kinds) (b_law_kinds := b_law_kinds) (G_law_marked := G_law_marked) (g_law_marked := g_law_marked) (k_law_marked := k_law_marked) (b_law_marked := b_law_marked)
  have G_law_family := ok_law_family (P := P) (w := w) (mg := mg) (base := base) (F := F_law_family) (z_int := z_int) (G_law_next := G_law_next) (g_law_next := g_law_next) (k_law_next := k_law_next) (b_law_next := b_law_next)
  have G_law_marks := ok_law_marks (P := P) (w := w) (mg := mg) (base := base) (F := F_law_marks) (z_len := z_len) (z_range := z_range)
  have G_law_belongs := ok_law_belongs (P := P) (w := w) (mg := mg) (base := base) (F := F_law_belongs) (z_len := z_len) (z_int := z_int)
  have G_law_error := ok_law_error (P := P) (w := w) (mg := mg) (base := base) (F := F_law_error) (m_WorthError := m_WorthError) (m_NotWorld := m_NotWorld) (m_NotFamily := m_NotFamily) (m_NotDiagram := m_NotDiagram) (m_NotNumber := m_NotNumber) (m_NotWord := m_NotWord) (m_NotMatrix := m_NotMatrix) (m_BadNumber := m_BadNumber) (m_NoAnswer := m_NoAnswer) (m_TooLarge := m_TooLarge) (m_Malformed := m_Malformed) (OX_Malformed := OX_Malformed) (XM := XM) (z_isinstance := z_isinstance) (z_len := z_len) (z_str := z_str)
  have G_law_told := ok_law_told (P := P) (w := w) (mg := mg) (base := base) (F := F_law_told) (T := T_told) (G_diagram_of := G_diagram_of) (g_diagram_of := g_diagram_of) (k_diagram_of := k_diagram_of) (b_diagram_of := b_diagram_of) (G_word_text := G_word_text) (g_word_text := g_word_text) (k_word_text := k_word_text) (b_word_text := b_word_text) (G_is_word_of := G_is_word_of) (g_is_word_of := g_is_word_of) (k_is_word_of := k_is_word_of) (b_is_word_of := b_is_word_of) (G_check_word := G_check_word) (g_check_word := g_check_word) (k_check_word := k_check_word) (b_check_word := b_check_word) (G_is_word := G_is_word) (g_is_word := g_is_word) (k_is_word := k_is_word) (b_is_word := b_is_word) (G_letters := G_letters) (g_letters := g_letters) (k_letters := k_letters) (b_letters := b_letters) (G_law_error := G_law_error) (g_law_error := g_law_error) (k_law_error := k_law_error) (b_law_error := b_law_error)
  have G_law_read := ok_law_read (P := P) (w := w) (mg := mg) (base := base) (F := F_law_read) (T := T_told) (G_read_word := G_read_word) (g_read_word := g_read_word) (k_read_word := k_read_word) (b_read_word := b_read_word) (G_law_error := G_law_error) (g_law_error := g_law_error) (k_law_error := k_law_error) (b_law_error := b_law_error)
  have G_law_turned_over := ok_law_turned_over (P := P) (w := w) (mg := mg) (base := base) (F := F_law_turned_over) (G_law_marks := G_law_marks) (g_law_marks := g_law_marks) (k_law_marks := k_law_marks) (b_law_marks := b_law_marks) (G_law_marked := G_law_marked) (g_law_marked := g_law_marked) (k_law_marked := k_law_marked) (b_law_marked := b_law_marked)
  have G_law_wrong_texts := ok_law_wrong_texts (P := P) (w := w) (mg := mg) (base := base) (F := F_law_wrong_texts) (z_int := z_int) (z_len := z_len) (z_str := z_str) (G_law_next := G_law_next) (g_law_next := g_law_next) (k_law_next := k_law_next) (b_law_next := b_law_next) (G_law_read := G_law_read) (g_law_read := g_law_read) (k_law_read := k_law_read) (b_law_read := b_law_read)
  have G_law_refused := ok_law_refused (P := P) (w := w) (mg := mg) (base := base) (F := F_law_refused) (z_int := z_int) (z_len := z_len) (z_range := z_range) (G_law_next := G_law_next) (g_law_next := g_law_next) (k_law_next := k_law_next) (b_law_next := b_law_next) (G_law_told := G_law_told) (g_law_told := g_law_told) (k_law_told := k_law_told) (b_law_told := b_law_told)
  exact ok_law (P := P) (w := w) (mg := mg) (base := base) (F := F_law) (z_int := z_int) (z_repr := z_repr) (z_str := z_str) (z_all := z_all) (G_law_next := G_law_next) (g_law_next := g_law_next) (k_law_next := k_law_next) (b_law_next := b_law_next) (G_law_draws := G_law_draws) (g_law_draws := g_law_draws) (k_law_draws := k_law_draws) (b_law_draws := b_law_draws) (G_law_family := G_law_family) (g_law_family := g_law_family) (k_law_family := k_law_family) (b_law_family := b_law_family) (G_law_drawn_word := G_law_drawn_word) (g_law_drawn_word := g_law_drawn_word) (k_law_drawn_word := k_law_drawn_word) (b_law_drawn_word := b_law_drawn_word) (G_letters := G_letters) (g_letters := g_letters) (k_letters := k_letters) (b_letters := b_letters) (G_law_alphabet := G_law_alphabet) (g_law_alphabet := g_law_alphabet) (k_law_alphabet := k_law_alphabet) (b_law_alphabet := b_law_alphabet) (G_law_worded := G_law_worded) (g_law_worded := g_law_worded) (k_law_worded := k_law_worded) (b_law_worded := b_law_worded) (G_law_told := G_law_told) (g_law_told := g_law_told) (k_law_told := k_law_told) (b_law_told := b_law_told) (G_law_turned_over := G_law_turned_over) (g_law_turned_over := g_law_turned_over) (k_law_turned_over := k_law_turned_over) (b_law_turned_over := b_law_turned_over) (G_law_read := G_law_read) (g_law_read := g_law_read) (k_law_read := k_law_read) (b_law_read := b_law_read) (G_law_letter_kinds := G_law_letter_kinds) (g_law_letter_kinds := g_law_letter_kinds) (k_law_letter_kinds := k_law_letter_kinds) (b_law_letter_kinds := b_law_letter_kinds) (G_law_belongs := G_law_belongs) (g_law_belongs := g_law_belongs) (k_law_belongs := k_law_belongs) (b_law_belongs := b_law_belongs) (G_law_wrong_texts := G_law_wrong_texts) (g_law_wrong_texts := g_law_wrong_texts) (k_law_wrong_texts := k_law_wrong_texts) (b_law_wrong_texts := b_law_wrong_texts) (G_law_refused := G_law_refused) (g_law_refused := g_law_refused) (k_law_refused := k_law_refused) (b_law_refused := b_law_refused)
end T
open PySem PySem.W PyProof.Rows
set_option maxHeartbeats 0 in
theorem PySem.Challenge.cw_threadworth_k28_words_and_their_diagrams_holds : PySem.Challenge.rw_threadworth_k28_words_and_their_diagrams.Holds := by
  w_on; o_law; k_head; (case hw => w_witness2)
  k_fill
  refine L2.walk_ofG (l := PySem.Challenge.rw_threadworth_k28_words_and_their_diagrams) (n := 63) (k := 11) (x := "script") (sp := fun w => T.spLaw _) rfl (by decide) rfl ⟨rfl, by decide, by decide⟩ (fun w h Y => PySem.W.kIn_of Y) ?F (fun _ _ a ns hl hS => ⟨a, ns, rfl, hS, hl, fun _ => rfl⟩)
  case F =>
    intro w mg fa h KX G hmg
    refine' T.all_mk KX G hmg ?a_law_number ?l_law_number ?c_law_number ?k_law_number ?a_law_next ?l_law_next ?c_law_next ?k_law_next ?a_law_draws ?l_law_draws ?c_law_draws ?k_law_draws ?a_is_size_ ?l_is_size_ ?c_is_size_ ?k_is_size_ ?a_check_size_ ?l_check_size_ ?c_check_size_ ?k_check_size_ ?a_is_diagram ?l_is_diagram ?c_is_diagram ?k_is_diagram ?a_check_diagram ?l_check_diagram ?c_check_diagram ?k_check_diagram ?a_from_labels ?l_from_labels ?c_from_labels ?k_from_labels ?a_check_family ?l_check_family ?c_check_family ?k_check_family ?a_root_ ?l_root_ ?c_root_ ?k_root_ ?a_piece_marks ?l_piece_marks ?c_piece_marks ?k_piece_marks ?a_hidden_count ?l_hidden_count ?c_hidden_count ?k_hidden_count ?a_put ?l_put ?c_put ?k_put ?a_check_ ?l_check_ ?c_check_ ?k_check_ ?a_with_marks_ ?l_with_marks_ ?c_with_marks_ ?k_with_marks_ ?a_changed_ ?l_changed_ ?c_changed_ ?k_changed_ ?a_unit ?l_unit ?c_unit ?k_unit ?a_hook ?l_hook ?c_hook ?k_hook ?a_swap ?l_swap ?c_swap ?k_swap ?a_bridge ?l_bridge ?c_bridge ?k_bridge ?a_cut ?l_cut ?c_cut ?k_cut ?a_strands_ ?l_strands_ ?c_strands_ ?k_strands_ ?a_letters ?l_letters ?c_letters ?k_letters ?a_has_only_ ?l_has_only_ ?c_has_only_ ?k_has_only_ ?a_is_word ?l_is_word ?c_is_word ?k_is_word ?a_check_word ?l_check_word ?c_check_word ?k_check_word ?a_letter_diagram ?l_letter_diagram ?c_letter_diagram ?k_letter_diagram ?a_diagram_of ?l_diagram_of ?c_diagram_of ?k_diagram_of ?a_letter_text_ ?l_letter_text_ ?c_letter_text_ ?k_letter_text_ ?a_word_text ?l_word_text ?c_word_text ?k_word_text ?a_is_word_of ?l_is_word_of ?c_is_word_of ?k_is_word_of ?l_Malformed_init ?c_Malformed_init ?k_Malformed_init ?a_read_word ?l_read_word ?c_read_word ?k_read_word ?a_law_letter_kinds ?l_law_letter_kinds ?c_law_letter_kinds ?k_law_letter_kinds ?a_law_wide ?l_law_wide ?c_law_wide ?k_law_wide ?a_law_alphabet ?l_law_alphabet ?c_law_alphabet ?k_law_alphabet ?a_law_glued ?l_law_glued ?c_law_glued ?k_law_glued ?a_law_kinds ?l_law_kinds ?c_law_kinds ?k_law_kinds ?a_law_drawn_word ?l_law_drawn_word ?c_law_drawn_word ?k_law_drawn_word ?a_law_letter_blocks ?l_law_letter_blocks ?c_law_letter_blocks ?k_law_letter_blocks ?a_law_marked ?l_law_marked ?c_law_marked ?k_law_marked ?a_law_worded ?l_law_worded ?c_law_worded ?k_law_worded ?a_law_family ?l_law_family ?c_law_family ?k_law_family ?a_law_marks ?l_law_marks ?c_law_marks ?k_law_marks ?a_law_belongs ?l_law_belongs ?c_law_belongs ?k_law_belongs ?a_law_error ?l_law_error ?c_law_error ?k_law_error ?a_law_told ?l_law_told ?c_law_told ?k_law_told ?a_law_read ?l_law_read ?c_law_read ?k_law_read ?a_law_turned_over ?l_law_turned_over ?c_law_turned_over ?k_law_turned_over ?a_law_wrong_texts ?l_law_wrong_texts ?c_law_wrong_texts ?k_law_wrong_texts ?a_law_refused ?l_law_refused ?c_law_refused ?k_law_refused ?a_law ?l_law ?c_law ?k_law ?zn_int ?zn_range ?zn_len ?zn_list ?zn_tuple ?zn_all ?zn_any ?zn_sorted ?zn_repr ?zn_isinstance ?zn_enumerate ?zn_str ?zn_set ?zn_min ?zn_max ?zn_dict ?n_NotFamily ?x_NotFamily ?kc_NotFamily ?bc_NotFamily ?tc_NotFamily ?n_NotDiagram ?x_NotDiagram ?kc_NotDiagram ?bc_NotDiagram ?tc_NotDiagram ?n_NotWord ?x_NotWord ?kc_NotWord ?bc_NotWord ?tc_NotWord ?n_BadNumber ?x_BadNumber ?kc_BadNumber ?bc_BadNumber ?tc_BadNumber ?n_TooLarge ?x_TooLarge ?kc_TooLarge ?bc_TooLarge ?tc_TooLarge ?n_MOST_ON_A_SIDE ?n_MOST_POINTS ?n_MOST_STRANDS ?n_MOST_LETTERS ?n_EMPTY_TEXT ?n_FAMILIES ?l_FAMILIES ?n_KINDS ?l_KINDS ?kl_KINDS ?lo_KINDS ?vk0 ?vk1 ?vk2 ?vk3 ?vk4 ?vk5 ?n_Malformed ?x_Malformed ?r_Malformed ?sa_Malformed ?ga_Malformed ?gg_Malformed ?na_Malformed ?ii_Malformed ?kc_Malformed ?ec_Malformed ?tc_Malformed ?hd_Malformed ?ti_Malformed ?ss_Malformed ?n_WorthError ?ebc ?ehd ?ety ?hn_cls ?ht_cls ?n_NotWorld ?n_NotNumber ?n_NotMatrix ?n_NoAnswer ?hg_NotFamily ?hk_NotFamily ?hd_NotFamily ?ha_NotFamily ?hm_NotFamily ?sE_NotFamily ?tE_NotFamily ?t_NotFamily_NotWorld ?t_NotFamily_NotFamily ?t_NotFamily_NotDiagram ?t_NotFamily_NotNumber ?t_NotFamily_NotWord ?t_NotFamily_NotMatrix ?t_NotFamily_BadNumber ?t_NotFamily_NoAnswer ?t_NotFamily_TooLarge ?t_NotFamily_Malformed ?hg_NotWord ?hk_NotWord ?hd_NotWord ?ha_NotWord ?hm_NotWord ?sE_NotWord ?tE_NotWord ?t_NotWord_NotWorld ?t_NotWord_NotFamily ?t_NotWord_NotDiagram ?t_NotWord_NotNumber ?t_NotWord_NotWord ?t_NotWord_NotMatrix ?t_NotWord_BadNumber ?t_NotWord_NoAnswer ?t_NotWord_TooLarge ?t_NotWord_Malformed ?hg_BadNumber ?hk_BadNumber ?hd_BadNumber ?ha_BadNumber ?hm_BadNumber ?sE_BadNumber ?tE_BadNumber ?t_BadNumber_NotWorld ?t_BadNumber_NotFamily ?t_BadNumber_NotDiagram ?t_BadNumber_NotNumber ?t_BadNumber_NotWord ?t_BadNumber_NotMatrix ?t_BadNumber_BadNumber ?t_BadNumber_NoAnswer ?t_BadNumber_TooLarge ?t_BadNumber_Malformed ?hg_Malformed ?hk_Malformed ?ha_Malformed ?hm_Malformed ?sE_Malformed ?tE_Malformed ?t_Malformed_NotWorld ?t_Malformed_NotFamily ?t_Malformed_NotDiagram ?t_Malformed_NotNumber ?t_Malformed_NotWord ?t_Malformed_NotMatrix ?t_Malformed_BadNumber ?t_Malformed_NoAnswer ?t_Malformed_TooLarge ?t_Malformed_Malformed
    (case a_law_number => k_is); (case l_law_number => k_is); (case c_law_number => k_is); (case k_law_number => k_is); (case a_law_next => k_is); (case l_law_next => k_is); (case c_law_next => k_is); (case k_law_next => k_is)
    (case a_law_draws => k_is); (case l_law_draws => k_is); (case c_law_draws => k_is); (case k_law_draws => k_is); (case a_is_size_ => k_is); (case l_is_size_ => k_is); (case c_is_size_ => k_is); (case k_is_size_ => k_is)
    (case a_check_size_ => k_is); (case l_check_size_ => k_is); (case c_check_size_ => k_is); (case k_check_size_ => k_is); (case a_is_diagram => k_is); (case l_is_diagram => k_is); (case c_is_diagram => k_is); (case k_is_diagram => k_is)
    (case a_check_diagram => k_is); (case l_check_diagram => k_is); (case c_check_diagram => k_is); (case k_check_diagram => k_is); (case a_from_labels => k_is); (case l_from_labels => k_is); (case c_from_labels => k_is); (case k_from_labels => k_is)
    (case a_check_family => k_is); (case l_check_family => k_is); (case c_check_family => k_is); (case k_check_family => k_is); (case a_root_ => k_is); (case l_root_ => k_is); (case c_root_ => k_is); (case k_root_ => k_is)
    (case a_piece_marks => k_is); (case l_piece_marks => k_is); (case c_piece_marks => k_is); (case k_piece_marks => k_is); (case a_hidden_count => k_is); (case l_hidden_count => k_is); (case c_hidden_count => k_is); (case k_hidden_count => k_is)
    (case a_put => k_is); (case l_put => k_is); (case c_put => k_is); (case k_put => k_is); (case a_check_ => k_is); (case l_check_ => k_is); (case c_check_ => k_is); (case k_check_ => k_is)
    (case a_with_marks_ => k_is); (case l_with_marks_ => k_is); (case c_with_marks_ => k_is); (case k_with_marks_ => k_is); (case a_changed_ => k_is); (case l_changed_ => k_is); (case c_changed_ => k_is); (case k_changed_ => k_is)
    (case a_unit => k_is); (case l_unit => k_is); (case c_unit => k_is); (case k_unit => k_is); (case a_hook => k_is); (case l_hook => k_is); (case c_hook => k_is); (case k_hook => k_is)
    (case a_swap => k_is); (case l_swap => k_is); (case c_swap => k_is); (case k_swap => k_is); (case a_bridge => k_is); (case l_bridge => k_is); (case c_bridge => k_is); (case k_bridge => k_is)
    (case a_cut => k_is); (case l_cut => k_is); (case c_cut => k_is); (case k_cut => k_is); (case a_strands_ => k_is); (case l_strands_ => k_is); (case c_strands_ => k_is); (case k_strands_ => k_is)
    (case a_letters => k_is); (case l_letters => k_is); (case c_letters => k_is); (case k_letters => k_is); (case a_has_only_ => k_is); (case l_has_only_ => k_is); (case c_has_only_ => k_is); (case k_has_only_ => k_is)
    (case a_is_word => k_is); (case l_is_word => k_is); (case c_is_word => k_is); (case k_is_word => k_is); (case a_check_word => k_is); (case l_check_word => k_is); (case c_check_word => k_is); (case k_check_word => k_is)
    (case a_letter_diagram => k_is); (case l_letter_diagram => k_is); (case c_letter_diagram => k_is); (case k_letter_diagram => k_is); (case a_diagram_of => k_is); (case l_diagram_of => k_is); (case c_diagram_of => k_is); (case k_diagram_of => k_is)
    (case a_letter_text_ => k_is); (case l_letter_text_ => k_is); (case c_letter_text_ => k_is); (case k_letter_text_ => k_is); (case a_word_text => k_is); (case l_word_text => k_is); (case c_word_text => k_is); (case k_word_text => k_is)
    (case a_is_word_of => k_is); (case l_is_word_of => k_is); (case c_is_word_of => k_is); (case k_is_word_of => k_is); (case a_read_word => k_is); (case l_read_word => k_is); (case c_read_word => k_is); (case k_read_word => k_is)
    (case a_law_letter_kinds => k_is); (case l_law_letter_kinds => k_is); (case c_law_letter_kinds => k_is); (case k_law_letter_kinds => k_is); (case a_law_wide => k_is); (case l_law_wide => k_is); (case c_law_wide => k_is); (case k_law_wide => k_is)
    (case a_law_alphabet => k_is); (case l_law_alphabet => k_is); (case c_law_alphabet => k_is); (case k_law_alphabet => k_is); (case a_law_glued => k_is); (case l_law_glued => k_is); (case c_law_glued => k_is); (case k_law_glued => k_is)
    (case a_law_kinds => k_is); (case l_law_kinds => k_is); (case c_law_kinds => k_is); (case k_law_kinds => k_is); (case a_law_drawn_word => k_is); (case l_law_drawn_word => k_is); (case c_law_drawn_word => k_is); (case k_law_drawn_word => k_is)
    (case a_law_letter_blocks => k_is); (case l_law_letter_blocks => k_is); (case c_law_letter_blocks => k_is); (case k_law_letter_blocks => k_is); (case a_law_marked => k_is); (case l_law_marked => k_is); (case c_law_marked => k_is); (case k_law_marked => k_is)
    (case a_law_worded => k_is); (case l_law_worded => k_is); (case c_law_worded => k_is); (case k_law_worded => k_is); (case a_law_family => k_is); (case l_law_family => k_is); (case c_law_family => k_is); (case k_law_family => k_is)
    (case a_law_marks => k_is); (case l_law_marks => k_is); (case c_law_marks => k_is); (case k_law_marks => k_is); (case a_law_belongs => k_is); (case l_law_belongs => k_is); (case c_law_belongs => k_is); (case k_law_belongs => k_is)
    (case a_law_error => k_is); (case l_law_error => k_is); (case c_law_error => k_is); (case k_law_error => k_is); (case a_law_told => k_is); (case l_law_told => k_is); (case c_law_told => k_is); (case k_law_told => k_is)
    (case a_law_read => k_is); (case l_law_read => k_is); (case c_law_read => k_is); (case k_law_read => k_is); (case a_law_turned_over => k_is); (case l_law_turned_over => k_is); (case c_law_turned_over => k_is); (case k_law_turned_over => k_is)
    (case a_law_wrong_texts => k_is); (case l_law_wrong_texts => k_is); (case c_law_wrong_texts => k_is); (case k_law_wrong_texts => k_is); (case a_law_refused => k_is); (case l_law_refused => k_is); (case c_law_refused => k_is); (case k_law_refused => k_is)
    (case a_law => k_is); (case l_law => k_is); (case c_law => k_is); (case k_law => k_is); (case zn_int => k_is); (case zn_range => k_is); (case zn_len => k_is); (case zn_list => k_is)
    (case zn_tuple => k_is); (case zn_all => k_is); (case zn_any => k_is); (case zn_sorted => k_is); (case zn_repr => k_is); (case zn_isinstance => k_is); (case zn_enumerate => k_is); (case zn_str => k_is)
    (case zn_set => k_is); (case zn_min => k_is); (case zn_max => k_is); (case zn_dict => k_is); (case n_NotFamily => k_is); (case x_NotFamily => k_exc); (case kc_NotFamily => k_is); (case bc_NotFamily => k_is)
    (case tc_NotFamily => k_is); (case n_NotDiagram => k_is); (case x_NotDiagram => k_exc); (case kc_NotDiagram => k_is); (case bc_NotDiagram => k_is); (case tc_NotDiagram => k_is); (case n_NotWord => k_is); (case x_NotWord => k_exc)
    (case kc_NotWord => k_is); (case bc_NotWord => k_is); (case tc_NotWord => k_is); (case n_BadNumber => k_is); (case x_BadNumber => k_exc); (case kc_BadNumber => k_is); (case bc_BadNumber => k_is); (case tc_BadNumber => k_is)
    (case n_TooLarge => k_is); (case x_TooLarge => k_exc); (case kc_TooLarge => k_is); (case bc_TooLarge => k_is); (case tc_TooLarge => k_is); (case n_MOST_ON_A_SIDE => k_is); (case n_MOST_POINTS => k_is); (case n_MOST_STRANDS => k_is)
    (case n_MOST_LETTERS => k_is); (case n_EMPTY_TEXT => k_is); (case n_FAMILIES => k_is); (case l_FAMILIES => k_is); (case n_KINDS => k_is); (case l_KINDS => k_is); (case kl_KINDS => exact ⟨⟨_, _, rfl, rfl⟩, ⟨⟨_, _, rfl, rfl⟩, ⟨⟨_, _, rfl, rfl⟩, ⟨⟨_, _, rfl, rfl⟩, ⟨⟨_, _, rfl, rfl⟩, ⟨⟨_, _, rfl, rfl⟩, trivial⟩⟩⟩⟩⟩⟩); (case lo_KINDS => first | rfl | decide)
    (case vk0 => k_is); (case vk1 => k_is); (case vk2 => k_is); (case vk3 => k_is); (case vk4 => k_is); (case vk5 => k_is); (case n_Malformed => k_is); (case x_Malformed => k_is)
    (case r_Malformed => rfl); (case sa_Malformed => k_is); (case ga_Malformed => k_is); (case gg_Malformed => k_is); (case na_Malformed => k_is); (case ii_Malformed => k_is); (case kc_Malformed => k_is); (case ec_Malformed => k_is)
    (case tc_Malformed => k_is); (case hd_Malformed => k_is); (case ti_Malformed => k_is); (case ss_Malformed => first | rfl | k_is); (case n_WorthError => k_is); (case ebc => k_is); (case ehd => k_is); (case ety => k_is)
    (case hn_cls => k_is); (case ht_cls => k_is); (case n_NotWorld => k_is); (case n_NotNumber => k_is); (case n_NotMatrix => k_is); (case n_NoAnswer => k_is); (case hg_NotFamily => k_is); (case hk_NotFamily => k_is)
    (case hd_NotFamily => k_is); (case ha_NotFamily => k_is); (case hm_NotFamily => k_is); (case sE_NotFamily => k_is); (case tE_NotFamily => kit_is); (case t_NotFamily_NotWorld => kit_is); (case t_NotFamily_NotFamily => kit_is); (case t_NotFamily_NotDiagram => kit_is)
    (case t_NotFamily_NotNumber => kit_is); (case t_NotFamily_NotWord => kit_is); (case t_NotFamily_NotMatrix => kit_is); (case t_NotFamily_BadNumber => kit_is); (case t_NotFamily_NoAnswer => kit_is); (case t_NotFamily_TooLarge => kit_is); (case t_NotFamily_Malformed => kit_is); (case hg_NotWord => k_is)
    (case hk_NotWord => k_is); (case hd_NotWord => k_is); (case ha_NotWord => k_is); (case hm_NotWord => k_is); (case sE_NotWord => k_is); (case tE_NotWord => kit_is); (case t_NotWord_NotWorld => kit_is); (case t_NotWord_NotFamily => kit_is)
    (case t_NotWord_NotDiagram => kit_is); (case t_NotWord_NotNumber => kit_is); (case t_NotWord_NotWord => kit_is); (case t_NotWord_NotMatrix => kit_is); (case t_NotWord_BadNumber => kit_is); (case t_NotWord_NoAnswer => kit_is); (case t_NotWord_TooLarge => kit_is); (case t_NotWord_Malformed => kit_is)
    (case hg_BadNumber => k_is); (case hk_BadNumber => k_is); (case hd_BadNumber => k_is); (case ha_BadNumber => k_is); (case hm_BadNumber => k_is); (case sE_BadNumber => k_is); (case tE_BadNumber => kit_is); (case t_BadNumber_NotWorld => kit_is)
    (case t_BadNumber_NotFamily => kit_is); (case t_BadNumber_NotDiagram => kit_is); (case t_BadNumber_NotNumber => kit_is); (case t_BadNumber_NotWord => kit_is); (case t_BadNumber_NotMatrix => kit_is); (case t_BadNumber_BadNumber => kit_is); (case t_BadNumber_NoAnswer => kit_is); (case t_BadNumber_TooLarge => kit_is)
    (case t_BadNumber_Malformed => kit_is); (case hg_Malformed => k_is); (case hk_Malformed => k_is); (case ha_Malformed => k_is); (case hm_Malformed => k_is); (case sE_Malformed => k_is); (case tE_Malformed => kit_is); (case t_Malformed_NotWorld => kit_is)
    (case t_Malformed_NotFamily => kit_is); (case t_Malformed_NotDiagram => kit_is); (case t_Malformed_NotNumber => kit_is); (case t_Malformed_NotWord => kit_is); (case t_Malformed_NotMatrix => kit_is); (case t_Malformed_BadNumber => kit_is); (case t_Malformed_NoAnswer => kit_is); (case t_Malformed_TooLarge => kit_is)
    (case t_Malformed_Malformed => kit_is); (case l_Malformed_init => k_is); (case c_Malformed_init => k_is); (case k_Malformed_init => k_is)
