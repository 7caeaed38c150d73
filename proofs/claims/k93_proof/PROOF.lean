import PyProof.Rows.All
import Wide.All
import OpenK.AllK
import Wide.FinOn
import PyProof.EqAt
import PyProof.EqKinds
import PyProof.TupleCall
import HandS.ForExc
import HandS.Comp
import HandS.Iter
import HandS.Gcd
import HandS.Wide
import HandS.Evl
import HandS.Defaults
import HandS.ExcIs
import HandS.TupAny
import HandS.TupMul
import HandS.Walk
import HandS.Rev
import HandS.TupAny
import HandS.TupMul
import HandS.Style
import HandS.Deep
import HandS.Dict
import HandS.ForMost
import HandS.Conv
import HandS.Sort
import HandS.SortInts
import HandS.NoneIn
import KE.DatumOrd
import HandS.IsInst
import HandS.SetFor
import PyProof.ReprRoads
import PyProof.ReprLen
import PyProof.CallFns
import PyProof.Rows.RegStrFacts
import HandS.List
import KE.LtData
import KE.KDictList
import KE.GoesMore
import KE.DataMinMax
import HandS.CallLocal
import KE.KMathGC
import HandS.SortKw
import HandS.HotCalls
import HandS.ExcCtx
import HandS.Words
import PyProof.Seq
import HandS.ExcField
import HandS.SortRule
import KE.SortData
import PySem.Challenge.RW_threadworth_k93_refusals_of_diagrams
set_option Elab.async false
set_option linter.all false
set_option maxRecDepth 100000
set_option maxHeartbeats 4000000
namespace T
open PySem PySem.Spec PyProof.Rows L2
/-! ### the mathematics of worlds and numbers -/
def primes : List Int := [2, 3, 5, 7, 11, 13, 17, 19, 23, 29, 31]
def isW (p d : Int) : Bool := if p = 0 then (if -20 ≤ d then decide (d ≤ 20) else false) else (if inV (.int p) (primes.map V.int) = true then (if 0 ≤ d then decide (d < p) else false) else false)
theorem inV_ints {p : Int} : ∀ {l : List Int}, inV (.int p) (l.map V.int) = true → p ∈ l
  | [], h => by cases h
  | x :: l, h => by
    have h1 : ((eqV (.int x) (.int p)) || inV (.int p) (l.map V.int)) = true := h
    rcases (Bool.or_eq_true _ _).mp h1 with h | h
    · have : x = p := of_decide_eq_true (show decide (x = p) = true by simpa [eqV] using h)
      rw [this]
      exact List.mem_cons_self
    · exact List.mem_cons_of_mem _ (inV_ints h)
theorem isW_prime {p d : Int} (h : isW p d = true) (hp : p ≠ 0) : p ∈ primes ∧ 0 ≤ d ∧ d < p := by
  unfold isW at h
  rw [if_neg hp] at h
  by_cases e : inV (.int p) (primes.map V.int) = true
  · rw [if_pos e] at h
    by_cases e2 : 0 ≤ d
    · rw [if_pos e2] at h
      exact ⟨inV_ints e, e2, of_decide_eq_true h⟩
    · rw [if_neg e2] at h
      cases h
  · rw [if_neg e] at h
    cases h
theorem prime_pos {p : Int} (h : p ∈ primes) : 2 ≤ p ∧ p ≤ 31 := by
  simp only [primes, List.mem_cons, List.not_mem_nil, or_false] at h
  omega
theorem inv_exN : ∀ p ∈ [2, 3, 5, 7, 11, 13, 17, 19, 23, 29, 31], ∀ r, r < p → r ≠ 0 → ∃ k, k < p ∧ (k * r) % p = 1 := by decide +kernel
theorem inv_ex {p : Int} (hp : p ∈ primes) {r : Int} (h0 : 0 ≤ r) (h1 : r < p) (hr : r ≠ 0) : ∃ k : Int, 1 ≤ k ∧ k < p ∧ k * r % p = 1 := by
  obtain ⟨n, rfl⟩ := Int.eq_ofNat_of_zero_le (show 0 ≤ p by have := prime_pos hp; omega)
  obtain ⟨m, rfl⟩ := Int.eq_ofNat_of_zero_le h0
  have hn : n ∈ [2, 3, 5, 7, 11, 13, 17, 19, 23, 29, 31] := by
    simp only [primes, List.mem_cons, List.not_mem_nil, or_false] at hp ⊢
    omega
  obtain ⟨k, hk, e⟩ := inv_exN n hn m (by omega) (by omega)
  refine ⟨(k : Int), ?_, by omega, ?_⟩
  · rcases Nat.eq_zero_or_pos k with z | z
    · subst z
      rw [Nat.zero_mul, Nat.zero_mod] at e
      cases e
    · omega
  · have : ((k * m % n : Nat) : Int) = ((1 : Nat) : Int) := by rw [e]
    rw [← Int.natCast_mul, ← Int.natCast_emod, e]
    rfl
/-- lowest terms -/
def gI (a b : Int) : Int := ((Nat.gcd a.natAbs b.natAbs : Nat) : Int)
def low (a b : Int) : Int × Int := if b < 0 then ((-a) / gI a b, (-b) / gI a b) else (a / gI a b, b / gI a b)
theorem gI_pos {a b : Int} (hb : b ≠ 0) : 0 < gI a b := by
  have : 0 < Nat.gcd a.natAbs b.natAbs := Nat.gcd_pos_of_pos_right _ (by omega)
  unfold gI
  omega
theorem gI_le {a b : Int} (hb : b ≠ 0) : gI a b ≤ b.natAbs := by
  have := Nat.gcd_le_right (m := a.natAbs) (n := b.natAbs) (by omega)
  unfold gI
  omega
theorem fdiv_negg (a g : Int) (hg : 0 ≤ g) : a.fdiv (-g) = (-a) / g := by
  rw [← Int.fdiv_eq_ediv_of_nonneg _ hg, ← Int.neg_fdiv_neg (-a) g, Int.neg_neg]
/-- the number a / b -/
def bad (p b : Int) : Prop := b = 0 ∨ (0 < p ∧ b % p = 0)
def IsNum (p a b x y : Int) : Prop := (0 < p ∧ y = 1 ∧ 0 ≤ x ∧ x < p ∧ (x * b - a) % p = 0) ∨ (¬ 0 < p ∧ (x, y) = low a b)
theorem inv_solves {p a b k : Int} (hp : 0 < p) (e : k * (b % p) % p = 1) (h1 : 1 < p) : ((a * k % p) * b - a) % p = 0 := by
  have e1 : (k * b) % p = 1 := by
    rw [Int.mul_emod, Int.emod_emod_of_dvd _ (Int.dvd_refl p), ← Int.mul_emod] at e
    exact e
  have d1 : p ∣ k * b - 1 := by
    apply Int.dvd_of_emod_eq_zero
    rw [Int.sub_emod, e1, Int.emod_eq_of_lt (by omega) h1]
    simp
  have d2 : p ∣ a * k - a * k % p := Int.dvd_self_sub_emod
  apply Int.emod_eq_zero_of_dvd
  have : (a * k % p) * b - a = a * (k * b - 1) - (a * k - a * k % p) * b := by
    rw [Int.mul_sub, Int.sub_mul, Int.mul_assoc]
    omega
  rw [this]
  exact Int.dvd_sub (Int.dvd_mul_of_dvd_right d1) (Int.dvd_mul_of_dvd_left d2)
theorem num_unique {p a b x y x' y' : Int} (hp : p = 0 ∨ p ∈ primes) (hb : ¬ bad p b) (h : IsNum p a b x y) (h' : IsNum p a b x' y') : x = x' ∧ y = y' := by
  rcases h with ⟨h0, e1, l1, u1, m1⟩ | ⟨h0, e1⟩
  · rcases h' with ⟨_, e2, l2, u2, m2⟩ | ⟨h0', _⟩
    · refine ⟨?_, e1.trans e2.symm⟩
      rcases hp with rfl | hp
      · omega
      · have hp2 := prime_pos hp
        have hbp : b % p ≠ 0 := fun z => hb (.inr ⟨h0, z⟩)
        obtain ⟨k, k1, k2, ek⟩ := inv_ex hp (Int.emod_nonneg b (by omega)) (Int.emod_lt_of_pos b h0) hbp
        have e1 : (k * b) % p = 1 := by
          rw [Int.mul_emod, Int.emod_emod_of_dvd _ (Int.dvd_refl p), ← Int.mul_emod] at ek
          exact ek
        have d1 : p ∣ k * b - 1 := by
          apply Int.dvd_of_emod_eq_zero
          rw [Int.sub_emod, e1, Int.emod_eq_of_lt (show (0:Int) ≤ 1 by omega) (show (1:Int) < p by omega)]
          simp
        have d2 : p ∣ (x * b - a) - (x' * b - a) := Int.dvd_sub (Int.dvd_of_emod_eq_zero m1) (Int.dvd_of_emod_eq_zero m2)
        have d3 : p ∣ x - x' := by
          have e : x - x' = k * ((x * b - a) - (x' * b - a)) - (x - x') * (k * b - 1) := by
            have e3 : (x * b - a) - (x' * b - a) = (x - x') * b := by
              rw [Int.sub_mul]
              omega
            rw [e3, Int.mul_sub, Int.mul_one, ← Int.mul_assoc, Int.mul_comm k (x - x'), Int.mul_assoc]
            omega
          rw [e]
          exact Int.dvd_sub (Int.dvd_mul_of_dvd_right d2) (Int.dvd_mul_of_dvd_right d1)
        obtain ⟨c, ec⟩ := d3
        have hc : c = 0 := by
          rcases Int.lt_trichotomy c 0 with z | z | z
          · have : p * c ≤ p * (-1) := Int.mul_le_mul_of_nonneg_left (by omega) (by omega)
            omega
          · exact z
          · have : p * 1 ≤ p * c := Int.mul_le_mul_of_nonneg_left (by omega) (by omega)
            omega
        rw [hc, Int.mul_zero] at ec
        omega
    · exact absurd h0 h0'
  · rcases h' with ⟨h0', _⟩ | ⟨_, e2⟩
    · exact absurd h0' h0
    · have := e1.trans e2.symm
      exact ⟨congrArg Prod.fst this, congrArg Prod.snd this⟩
end T

/-! ### defs that are called where nothing is being shown (no repr is under way): what the law's own def may know -/
namespace L2
open PySem PySem.Spec PyProof.Rows
structure FnG (P : Program) (w : World) (K : PySem.W.Frag) (mg : Str → Option Value) (base : Heap) (k : Nat) (f : Addr) (fd : FuncData) (ps : List Str) (sp : Sp) : Prop where
  len : ∀ vs H Q E, sp vs H Q E → vs.length = ps.length
  run : ∀ (A : Around) (outer : List Env) (s : Shared) (H : Hp) (args : Args) (us : List Value) (vs : List V) (Q : VK) (E : XK), A.guards = some [] → Room k A → Env0 P w K mg base A outer s H →
    BindsTo s fd args (ps.zip us) → Vals vs us → sp vs H Q E → codeAny (model P w) A (.call (.ref f) args) (CR CX0 outer P w H s Q E) s
theorem CE_of {P : Program} {w : World} {K : PySem.W.Frag} {mg : Str → Option Value} {base : Heap} {N : List Str} {qual : Str} {scope : Scope} {f : Addr} {cdv : Value} {A : Around} {outer : List Env} {s s' : Shared} {H H' : Hp} {E : XK} {Q : VK} {σ' : St} {v : V} {u : Value}
    (J : Inv (cxOf CX0 P w K mg base N qual scope f cdv A outer s H E) [] σ' H' s') (rv : RelV v u) (q : Q v H') : CE outer P w H s Q u s' := ⟨v, H', J.os, J.bare, J.base, J.hok, rv, q⟩
theorem Fun.okG {P : Program} {w : World} {K : PySem.W.Frag} {mg : Str → Option Value} {base : Heap} {x qual : Str} {st : Stmt} {f : Addr} {fd : FuncData} {N ps : List Str} {k : Nat} {sp : Sp} (F : Fun K x qual st f fd) (S : FnScope N ps (defScope st))
    (len : ∀ vs H Q E, sp vs H Q E → vs.length = ps.length)
    (hbody : ∀ (cdv : Value) (A : Around) (outer : List Env) (s : Shared) (H : Hp) (vs : List V) (Q : VK) (E : XK), (A.deeper (envOfC qual (defScope st) s.heap.objs.size f cdv)).guards = some [] →
      Room k (A.deeper (envOfC qual (defScope st) s.heap.objs.size f cdv)) → sp vs H Q E →
      ∃ t, PSs (cxOf CX0 P w K mg base N qual (defScope st) f cdv A outer s H E).nox (defBody st) t ∧ t { nx := fun _ H' => Q .non H', rt := Q } (start N vs) H) : FnG P w K mg base (k + 1) f fd ps sp := by
  obtain ⟨oc, od, kV, doc, pm, an, cdv, ct, osl, rfl, lk, hcd⟩ := F.ex
  refine ⟨len, fun A outer s H args us vs Q E hgu hr e0 hb r hsp => ?_⟩
  have keep := fun b o (e : base.get? b = some o) => (e0.bs b o e).1
  have inK : K.In s.heap := e0.mod.kin.keeps keep
  refine codeAny_call_function hr.depth (inK _ _ lk) rfl S.co S.gen rfl (PySem.W.codeRec_of inK hcd) (hb _ _ _ _ ?_)
  refine wpAny_newFunctionEnv_cells S.kind (fun ⟨n, v⟩ hy => ?_) fun env he s1 xx => ?_
  · exact (S.par n (List.of_mem_zip hy).1).elim .inl fun q => .inr ⟨q, PySem.W.cellsFrom_some _ _ _ (.inl q)⟩
  · subst he
    refine ⟨(e0.mod.nolimit.keeps keep).keeps xx.toInCall.keep, codeAny_func ?_⟩
    obtain ⟨t, ht, hq⟩ := hbody cdv A outer s H vs Q E hgu (hr.deeper _) hsp
    have I := inv_start (CX := CX0) (E := E) S hr.hd e0 (len _ _ _ _ hsp) r xx
    refine wpAny_mono (ht.nox.run [] s1 _ H _ I hq) (fun fl s' hs => ?_) fun e s' hs => hs
    rcases fl with _ | _ | _ | u
    · obtain ⟨σ', H', J, q⟩ := hs
      exact CE_of (v := V.non) (u := Value.none) J rfl q
    · exact hs.elim fun _ z => z.elim fun _ z => z.2.elim
    · exact hs.elim fun _ z => z.elim fun _ z => z.2.elim
    · obtain ⟨v, σ', H', J, rv, q⟩ := hs
      exact CE_of J rv q
end L2

namespace L2
open PySem PySem.Spec PyProof.Rows
/-- the law's def, called by the claim's caller: nothing is being shown there -/
theorem goes_at {P : Program} {w : World} {K : PySem.W.Frag} {mg mb : Str → Option Value} {k : Nat} {fa a : Addr} {fd : FuncData} {x : Str} {sp : Sp} {t : Shared} {vs : List Value} {xs : List V} {H : Hp}
    (KX : K.In t.heap) (hns : t.heap.Ns mainGlobals mg) (hb : t.heap.Ns builtinsNs mb) (hbb : ∀ y : Str, y ≠ "__name__" → mb y = bootBuiltins y) (hlim : t.heap.NoLimit) (hg : t.gens = #[])
    (ha : t.heap.get? a = some { cls := .type "list", data := .seq vs.toArray }) (hr : Room k callerA)
    (F : ∀ base : Heap, K.In base → base.Ns mainGlobals mg → FnG P w K mg base k fa fd [x] sp) (hbind : ∀ (s : Shared) (u : Value), BindsTo s fd ⟨[u], []⟩ [(x, u)])
    (hO : Only H) (hsp : sp [.ref a] H (fun v _ => v = .bl true) fun _ _ _ => False) (hok : HOk P w H t.heap) (hA : ∀ b, H b ≠ none → b = a) (hK : H a ≠ none → K.lookup a = none) :
    codeAny (model P w) callerA (.call (.ref fa) ⟨[.ref a], []⟩) (fun r s' => r = .ok (.ret (.bool true)) ∧ OldK t.heap s'.heap ∧ s'.os = t.os ∧ AllBare s'.gens) t := by
  have free : ∀ {b : Addr}, (H b ≠ none → False) → H b = none := fun {b} z => by
    rcases e : H b with _ | u
    · rfl
    · exact (z (by rw [e]; exact fun q => nomatch q)).elim
  have ns : ∀ {b : Addr} {m : Str → Option Value}, t.heap.Ns b m → (hidT t.heap H).Ns b m := fun {b m} z => by
    obtain ⟨o, es, ep, e, d, r⟩ := z
    refine ⟨o, es, ep, hidT_get e (free fun z => ?_), d, r⟩
    rw [hA b z, ha] at e
    cases e
    cases d
  have inB : K.In (hidT t.heap H) := fun b o e => hidT_get (KX b o e) (free fun z => by
    have eb := hA b z
    rw [eb] at z e
    rw [hK z] at e
    cases e)
  obtain ⟨mc, l1, l2⟩ := hlim
  have env : Env0 P w K mg (hidT t.heap H) callerA [] t H := ⟨rfl, ⟨inB, ns hns, ⟨mb, ns hb, hbb⟩, ⟨mc, ns l1, l2⟩⟩, fun b o e => of_hidT e, Nat.le_of_eq (hidT_size _ _), trivial, fun b hb => (nomatch hb), hok, .of_eq hg⟩
  refine codeAny_mono ((F _ inB (ns hns)).run callerA [] t H _ [.ref a] [.ref a] _ _ rfl hr env (hbind t (.ref a)) (.cons rfl .nil) hsp) fun r s' h => ?_
  rcases r with e | fl
  · exact (show False from h).elim
  · rcases fl with _ | _ | _ | u
    · exact (show False from h).elim
    · exact (show False from h).elim
    · exact (show False from h).elim
    · obtain ⟨v, H', os, bare, un, hok', rv, q⟩ := h
      obtain rfl : v = .bl true := q
      obtain rfl : u = Value.bool true := rv
      refine ⟨rfl, OldK.of_keep fun b o e => ?_, os, bare⟩
      rcases hO b with z | ⟨ob, ys, z⟩
      · exact un.keep b o e z (fun z => nomatch z) (fun z => nomatch z)
      · have e1 := (hok b _ z).1
        rw [e] at e1
        rw [Option.some.inj e1]
        exact (hok' b _ (un.frzs b ob _ z)).1
theorem walk_ofG {l : PySem.W.OpenLaw} {n k : Nat} {q : Program} {loose : List Str} {XP : (Str → Option Value) → Heap → Prop} {YP : World → Heap → Prop} {d : DefRec} {K : Params → PySem.W.Frag} {sp : World → Sp} {x : Str}
    (hn : l.most = some n) (hn2 : n ≤ sizeLine) (hdf : d.params.defaults = []) (hr : Room k callerA) (hY : ∀ (w : World) (h : Heap), YP w h → (K w.params).In h)
    (F : ∀ (w : World) (mg : Str → Option Value) (fa : Addr) (h : Heap), (K w.params).In h → h.Ns mainGlobals mg → mg d.name = some (.ref fa) →
      ∃ fd : FuncData, (∀ (s : Shared) (u : Value), BindsTo s fd ⟨[u], []⟩ [(x, u)]) ∧ ∀ base : Heap, (K w.params).In base → base.Ns mainGlobals mg → FnG l.prog w (K w.params) mg base k fa fd [x] (sp w))
    (hsp : ∀ (w : World) (H : Hp) (a : Addr) (ns : List Int), ns.length ≤ n → SqL (K w.params) H a (ns.map V.int) → sp w [.ref a] H (fun v _ => v = .bl true) fun _ _ _ => False) :
    PySem.W.WalkO q loose XP YP l.row.toRowW d [] (fun f vs => PySem.call f vs) := by
  refine Att.attach_call hn hdf fun w s₀ t mg mb fa o pm cd doc a vs ns G Y ho hd hcd hmg hobj hints hlen hg => ?_
  have KX := hY w _ Y
  obtain ⟨fd, hb, hF⟩ := F w mg fa _ KX G.T.g hmg
  have rv : Vals (ns.map V.int) vs := vals_ints hints
  have lv := hints.length
  rcases hk : (K w.params).lookup a with _ | oa
  · refine goes_at (xs := ns.map V.int) (H := fun b => if b = a then some (.frz { cls := .type "list", data := .seq vs.toArray } (.lst (ns.map V.int))) else none) KX G.T.g G.T.b G.T.builtins G.T.nolimit hg hobj hr hF hb
      (fun b => ?_) (hsp w _ a ns hlen (.inl (.inr ⟨_, if_pos rfl⟩))) (fun b u z => ?_) (fun b z => Decidable.byContradiction fun c => z (if_neg c)) fun _ => hk
    · by_cases c : b = a
      · exact .inr ⟨_, _, if_pos c⟩
      · exact .inl (if_neg c)
    · by_cases c : b = a
      · have z' := (if_pos c).symm.trans z
        cases z'
        subst c
        exact ⟨hobj, by rw [List.length_map]; omega, vs, _, rv, hobj⟩
      · have z' := (if_neg c).symm.trans z
        cases z'
  · have e := (KX a oa hk).symm.trans hobj
    cases e
    exact goes_at (xs := ns.map V.int) (H := fun _ => none) KX G.T.g G.T.b G.T.builtins G.T.nolimit hg hobj hr hF hb (fun _ => .inl rfl)
      (hsp w _ a ns hlen (.inr ⟨_, vs.toArray, _, hk, rfl, rfl, rfl, by rw [List.size_toArray]; omega, rv⟩)) (fun b u z => nomatch z) (fun b z => (z rfl).elim) fun z => (z rfl).elim
end L2

namespace L2
open PySem PySem.Spec PyProof.Rows
/-! ### repr(data), where nothing is being shown -/
mutual
def wt : PyData → Nat
  | .none => 4
  | .bool _ => 5
  | .int _ => 1921
  | .str x => (reprText x).length
  | .list xs => wtAll xs + 3
  | .tuple xs => wtAll xs + 3
  | .dict _ => 0
def wtAll : List PyData → Nat
  | [] => 0
  | x :: xs => wt x + 2 + wtAll xs
end
mutual
theorem shown_wt : ∀ d : PyData, d.showable = true → d.hasDict = false → d.shown.length ≤ wt d
  | .none, _, _ => by simp only [PyData.shown, wt]; decide +kernel
  | .bool b, _, _ => by cases b <;> simp only [PyData.shown, wt] <;> decide +kernel
  | .int i, h, _ => by
    simp only [PyData.shown, wt]
    exact int_text_len_1921 (by simpa [PyData.showable] using h)
  | .str x, _, _ => by simp only [PyData.shown, wt]; exact Nat.le_refl _
  | .list xs, h, h2 => by
    simp only [PyData.showable] at h
    simp only [PyData.hasDict] at h2
    simp only [PyData.shown, wt]
    have h3 := shown_wtAll xs h h2
    have h4 := listText_len_le (PyData.shownAll xs)
    omega
  | .tuple xs, h, h2 => by
    simp only [PyData.showable] at h
    simp only [PyData.hasDict] at h2
    simp only [PyData.shown, wt]
    have h3 := shown_wtAll xs h h2
    have h4 := tupleText_len_le (PyData.shownAll xs)
    omega
  | .dict _, _, h2 => by simp [PyData.hasDict] at h2
theorem shown_wtAll : ∀ xs : List PyData, PyData.showableAll xs = true → PyData.hasDictAll xs = false → ((PyData.shownAll xs).map (·.length)).sum + 2 * (PyData.shownAll xs).length ≤ wtAll xs
  | [], _, _ => by simp [PyData.shownAll, wtAll]
  | x :: xs, h, h2 => by
    simp only [PyData.showableAll, Bool.and_eq_true] at h
    simp only [PyData.hasDictAll, Bool.or_eq_false_iff] at h2
    have h3 := shown_wt x h.1 h2.1
    have h4 := shown_wtAll xs h.2 h2.2
    simp only [PyData.shownAll, wtAll, List.map_cons, List.sum_cons, List.length_cons]
    omega
end
def rReprD (K : PySem.W.Frag) : List V → Hp → VK → Prop := fun xs H Q => ∃ x d, xs = [x] ∧ Dp K H x d ∧ SeqAt.shaped d = true ∧ d.showable = true ∧ wt d ≤ sizeLine ∧ Q (.str d.shown) H
theorem cr_reprD {X : Cx} (hg : X.A.guards = some []) (hu : X.A.units + 65 < cLine) : CallR X (.builtin "repr") (rReprD X.K) := by
  intro pins s σ H vs us Q I r h
  obtain ⟨x, d, rfl, hd, hs, hw, hz, q⟩ := h
  cases r with
  | cons rv rn =>
    rename_i v us'
    cases rn
    have hs' : (d.canLay0 && decide (d.depth ≤ 64)) = true := hs
    rw [Bool.and_eq_true] at hs'
    have nd := PyData.hasDict_of_canLay d hs'.1
    have dep : d.depth ≤ 64 := of_decide_eq_true hs'.2
    have sz := Nat.le_trans (shown_wt d hw nd) hz
    obtain ⟨as, rd⟩ := Dp.reads I d x v hd rv
    have ref : ∀ a : Addr, v = .ref a → wpAny (model X.prog X.w) X.A (call (.builtin "repr") [v]) (EP X pins σ Q) X.xe s := fun a e => by
      subst e
      exact repr_of_reads' rd hw (PyData.noDict_hsm nd) hg (by omega) (fun _ _ e => e) (fun h' u tk hk => ⟨.str _, H, I.kept (t' := tk) hk, ⟨u, rfl⟩, q⟩) sz
    cases hd with
    | non =>
      cases rv
      exact PySem.P.repr_of_none ⟨.str _, H, I.tok _, ⟨_, rfl⟩, by simpa only [PyData.shown] using q⟩
    | bl b =>
      cases rv
      exact PySem.P.repr_of_bool ⟨.str _, H, I.tok _, ⟨_, rfl⟩, by simpa only [PyData.shown] using q⟩
    | int i =>
      obtain ⟨t, rfl⟩ := rv
      exact PySem.P.repr_of_int (by simpa [PyData.showable] using hw) ⟨.str _, H, I.tok _, ⟨_, rfl⟩, by simpa only [PyData.shown] using q⟩
    | str y =>
      obtain ⟨t, rfl⟩ := rv
      exact PySem.P.repr_of_str ⟨.str _, H, I.tok _, ⟨_, rfl⟩, by simpa only [PyData.shown] using q⟩ (by simpa only [PyData.shown] using sz)
    | lst _ _ => exact ref _ rv
    | tup _ _ => exact ref _ rv
end L2

namespace T
/-! ### fractions -/
theorem low_pos {a : Int} {n : Nat} (hn : n ≠ 0) : low a (n : Int) = ((Rat.divInt a (n : Int)).num, ((Rat.divInt a (n : Int)).den : Int)) := by
  have e : Rat.divInt a (n : Int) = Rat.normalize a n hn := by
    show mkRat a n = _
    rw [Rat.mkRat_def, dif_neg hn]
  rw [e, Rat.normalize_eq]
  unfold low gI
  rw [if_neg (by omega), Int.natAbs_natCast]
  show (_, _) = (_, (((n / a.natAbs.gcd n : Nat)) : Int))
  rw [Int.natCast_ediv]
theorem low_rat {a b : Int} (hb : b ≠ 0) : low a b = ((Rat.divInt a b).num, ((Rat.divInt a b).den : Int)) := by
  by_cases c : 0 < b
  · obtain ⟨n, rfl⟩ := Int.eq_ofNat_of_zero_le (Int.le_of_lt c)
    exact low_pos (by omega)
  · obtain ⟨n, hn⟩ := Int.eq_ofNat_of_zero_le (show 0 ≤ -b by omega)
    have e : Rat.divInt a b = Rat.divInt (-a) (n : Int) := (Rat.divInt_eq_divInt_iff hb (by omega)).mpr (by rw [← hn, Int.mul_neg, Int.neg_mul])
    rw [e, ← low_pos (by omega), ← hn]
    unfold low gI
    rw [if_pos (by omega), if_neg (by omega), Int.natAbs_neg, Int.natAbs_neg]
theorem low_congr {a b a' b' : Int} (hb : b ≠ 0) (hb' : b' ≠ 0) (h : a * b' = a' * b) : low a b = low a' b' := by
  rw [low_rat hb, low_rat hb', (Rat.divInt_eq_divInt_iff hb hb').mpr h]
theorem low_q {a b u v : Int} (hb : b ≠ 0) (h : (u, v) = low a b) : Rat.divInt u v = Rat.divInt a b ∧ 0 < v := by
  rw [low_rat hb] at h
  have e1 : u = (Rat.divInt a b).num := congrArg Prod.fst h
  have e2 : v = ((Rat.divInt a b).den : Int) := congrArg Prod.snd h
  rw [e1, e2]
  exact ⟨Rat.num_divInt_den _, by have := (Rat.divInt a b).den_pos; omega⟩
theorem low_cross {a b u v : Int} (hb : b ≠ 0) (h : (u, v) = low a b) : u * b = a * v ∧ 0 < v := by
  obtain ⟨h1, h2⟩ := low_q hb h
  exact ⟨(Rat.divInt_eq_divInt_iff (by omega) hb).mp h1, h2⟩
/-- a number times a number: the parts may be reduced ahead or behind -/
theorem num_step {p A B u v a b u' v' : Int} (hp : p = 0 ∨ p ∈ primes) (hB : p = 0 → B ≠ 0) (hb0 : p = 0 → b ≠ 0) (hb1 : p ≠ 0 → b = 1) (hB1 : p ≠ 0 → B = 1) (h : IsNum p A B u v) (h' : IsNum p (u * a) (v * b) u' v') : IsNum p (A * a) (B * b) u' v' := by
  by_cases c : p = 0
  · obtain ⟨_, e⟩ := h.resolve_left (fun z => by omega)
    obtain ⟨_, e'⟩ := h'.resolve_left (fun z => by omega)
    obtain ⟨x1, x2⟩ := low_cross (hB c) e
    refine .inr ⟨by omega, e'.trans (low_congr (Int.mul_ne_zero (by omega) (hb0 c)) (Int.mul_ne_zero (hB c) (hb0 c)) ?_)⟩
    calc u * a * (B * b) = u * B * (a * b) := by rw [Int.mul_assoc, Int.mul_assoc]; congr 1; rw [← Int.mul_assoc, ← Int.mul_assoc, Int.mul_comm a B]
      _ = A * v * (a * b) := by rw [x1]
      _ = A * a * (v * b) := by rw [Int.mul_assoc, Int.mul_assoc]; congr 1; rw [← Int.mul_assoc, ← Int.mul_assoc, Int.mul_comm v a]
  · have hp2 := prime_pos (hp.resolve_left c)
    obtain ⟨h0, e1, l1, u1, m1⟩ := h.resolve_right (fun z => by omega)
    obtain ⟨_, e2, l2, u2, m2⟩ := h'.resolve_right (fun z => by omega)
    refine .inl ⟨h0, e2, l2, u2, ?_⟩
    rw [hB1 c, hb1 c]
    rw [hB1 c, Int.mul_one] at m1
    rw [hb1 c, e1] at m2
    have d1 := Int.dvd_of_emod_eq_zero m1
    have d2 := Int.dvd_of_emod_eq_zero m2
    apply Int.emod_eq_zero_of_dvd
    have e : u' * (1 * 1) - A * a = (u' * (1 * 1) - u * a) + (u - A) * a := by
      rw [Int.sub_mul]
      omega
    rw [e]
    exact Int.dvd_add d2 (Int.dvd_mul_of_dvd_left d1)
theorem low_small {a b u v : Int} (h : (u, v) = low a b) : u.natAbs ≤ a.natAbs ∧ v.natAbs ≤ b.natAbs := by
  have e1 := congrArg Prod.fst h
  have e2 := congrArg Prod.snd h
  unfold low at e1 e2
  by_cases c : b < 0
  · rw [if_pos c] at e1 e2
    have f1 : u = (-a) / gI a b := e1
    have f2 : v = (-b) / gI a b := e2
    have g1 := Int.natAbs_ediv_le_natAbs (-a) (gI a b)
    have g2 := Int.natAbs_ediv_le_natAbs (-b) (gI a b)
    rw [f1, f2]
    omega
  · rw [if_neg c] at e1 e2
    have f1 : u = a / gI a b := e1
    have f2 : v = b / gI a b := e2
    have g1 := Int.natAbs_ediv_le_natAbs a (gI a b)
    have g2 := Int.natAbs_ediv_le_natAbs b (gI a b)
    rw [f1, f2]
    omega
theorem num_small {p a b u v : Int} (hp : p = 0 ∨ p ∈ primes) (h : IsNum p a b u v) (ha : a.natAbs < 2 ^ 199) (hb : b.natAbs < 2 ^ 199) : u.natAbs < 2 ^ 200 ∧ v.natAbs < 2 ^ 200 := by
  rcases h with ⟨h0, rfl, h1, h2, _⟩ | ⟨_, h⟩
  · have := prime_pos (hp.resolve_left (by omega))
    omega
  · have := low_small h
    omega
theorem isW_cases {p d : Int} (hw : isW p d = true) : (p = 0 ∨ p ∈ primes) ∧ d.natAbs ≤ 31 := by
  by_cases c : p = 0
  · refine ⟨.inl c, ?_⟩
    unfold isW at hw
    rw [if_pos c] at hw
    by_cases h1 : -20 ≤ d
    · rw [if_pos h1] at hw
      have := of_decide_eq_true hw
      omega
    · rw [if_neg h1] at hw
      cases hw
  · obtain ⟨h1, h2, h3⟩ := isW_prime hw c
    have := prime_pos h1
    exact ⟨.inr h1, by omega⟩
end T

namespace T
open PySem PySem.Spec PyProof.Rows L2
/-! ### lists of integers as polynomials -/
def co (l : List Int) (k : Nat) : Int := l.getD k 0
theorem co_ge {l : List Int} {k : Nat} (h : l.length ≤ k) : co l k = 0 := by
  unfold co
  rw [List.getD_eq_getElem?_getD, List.getElem?_eq_none h]
  rfl
theorem co_get {l : List Int} {k : Nat} (h : k < l.length) : l[k]? = some (co l k) := by
  unfold co
  rw [List.getD_eq_getElem?_getD, List.getElem?_eq_getElem h]
  rfl
theorem co_mem {l : List Int} {k : Nat} (h : k < l.length) : co l k ∈ l := by
  have e := co_get h
  exact List.mem_of_getElem? e
theorem at_co {l : List Int} {k : Nat} (h : k < l.length) : atI (l.map V.int) (k : Int) = some (.int (co l k)) := atI_nat (by rw [List.getElem?_map, co_get h]; rfl)
theorem at_end {l : List Int} (h : l ≠ []) : atI (l.map V.int) (-1) = some (.int (co l (l.length - 1))) := by
  have hl : 0 < l.length := List.length_pos_iff.mpr h
  have e : l.map V.int = (l.take (l.length - 1)).map V.int ++ [V.int (co l (l.length - 1))] := by
    have e1 : l = l.take (l.length - 1) ++ [co l (l.length - 1)] := by
      have := List.take_succ (l := l) (i := l.length - 1)
      rw [show l.length - 1 + 1 = l.length by omega, List.take_length, co_get (by omega)] at this
      exact this
    conv => lhs; rw [e1]
    rw [List.map_append]
    rfl
  rw [e]
  exact atI_last _ _
/-- no 0 at the end -/
def Pol (l : List Int) : Prop := l = [] ∨ co l (l.length - 1) ≠ 0
theorem pol_len {l m : List Int} (hm : Pol m) (h : ∀ k, co l k = co m k) : m.length ≤ l.length := by
  rcases hm with rfl | hm
  · exact Nat.zero_le _
  · rcases Nat.lt_or_ge l.length m.length with c | c
    · rw [← h, co_ge (by omega)] at hm
      exact absurd rfl hm
    · exact c
theorem pol_ext {l m : List Int} (hl : Pol l) (hm : Pol m) (h : ∀ k, co l k = co m k) : l = m := by
  have h1 := pol_len hm h
  have h2 := pol_len hl (fun k => (h k).symm)
  refine List.ext_getElem? fun k => ?_
  rcases Nat.lt_or_ge k l.length with c | c
  · rw [co_get c, co_get (by omega), h]
  · rw [List.getElem?_eq_none c, List.getElem?_eq_none (by omega)]
theorem co_take {l : List Int} {s k : Nat} (h : ∀ i, s ≤ i → co l i = 0) : co (l.take s) k = co l k := by
  rcases Nat.lt_or_ge k s with c | c
  · unfold co
    rw [List.getD_eq_getElem?_getD, List.getD_eq_getElem?_getD, List.getElem?_take_of_lt c]
  · rw [h k c, co_ge (by rw [List.length_take]; omega)]
theorem pol_take {l : List Int} {s : Nat} (hs : s ≤ l.length) (h : s = 0 ∨ co l (s - 1) ≠ 0) (hz : ∀ i, s ≤ i → co l i = 0) : Pol (l.take s) := by
  rcases h with rfl | h
  · exact .inl rfl
  · by_cases c : s = 0
    · rw [c]
      exact .inl rfl
    · refine .inr ?_
      rw [List.length_take, Nat.min_eq_left hs, co_take hz]
      exact h
theorem co_map {f : Int → Int} (h0 : f 0 = 0) (l : List Int) (k : Nat) : co (l.map f) k = f (co l k) := by
  rcases Nat.lt_or_ge k l.length with c | c
  · have := co_get c
    unfold co
    rw [List.getD_eq_getElem?_getD, List.getElem?_map, List.getD_eq_getElem?_getD, this]
    rfl
  · rw [co_ge (by rw [List.length_map]; omega), co_ge c, h0]
theorem co_set {l : List Int} {i : Nat} {v : Int} (k : Nat) (h : i < l.length) : co (l.set i v) k = if k = i then v else co l k := by
  unfold co
  rw [List.getD_eq_getElem?_getD, List.getElem?_set]
  by_cases c : i = k
  · rw [if_pos c, if_pos c.symm, if_pos (by omega)]
    rfl
  · rw [if_neg c, if_neg (fun z => c z.symm), List.getD_eq_getElem?_getD]
theorem co_zeros (n k : Nat) : co (List.replicate n 0) k = 0 := by
  unfold co
  rw [List.getD_eq_getElem?_getD, List.getElem?_replicate]
  split <;> rfl
theorem map_set (l : List Int) (i : Nat) (v : Int) : (l.map V.int).set i (V.int v) = (l.set i v).map V.int := List.map_set.symm
/-! the value -/
def ev (x : Int) : List Int → Int
  | [] => 0
  | a :: r => a + x * ev x r
theorem ev_append (x : Int) (l : List Int) (a : Int) : ev x (l ++ [a]) = ev x l + x ^ l.length * a := by
  induction l with
  | nil => show a + x * 0 = 0 + x ^ 0 * a; rw [Int.pow_zero]; grind
  | cons b r ih =>
    show b + x * ev x (r ++ [a]) = b + x * ev x r + x ^ (r.length + 1) * a
    rw [ih, Int.pow_succ]
    grind
theorem ev_take (x : Int) {l : List Int} {i : Nat} (h : i < l.length) : ev x (l.take (i + 1)) = ev x (l.take i) + co l i * x ^ i := by
  have e : l.take (i + 1) = l.take i ++ [co l i] := by rw [List.take_succ, co_get h]; rfl
  rw [e, ev_append, List.length_take, Nat.min_eq_left (by omega), Int.mul_comm]
theorem ev_drop (x : Int) {l : List Int} {i : Nat} (h : i < l.length) : ev x (l.drop i) = co l i + x * ev x (l.drop (i + 1)) := by
  rw [List.drop_eq_getElem_cons h]
  have := co_get h
  rw [List.getElem?_eq_getElem h] at this
  rw [Option.some.inj this]
  rfl
/-! the product: what is there behind i rows, and j entries of the next -/
def row (one other : List Int) (i k : Nat) : Int := if i ≤ k then co one i * co other (k - i) else 0
def conv (one other : List Int) : Nat → Nat → Int
  | 0, _ => 0
  | i + 1, k => conv one other i k + row one other i k
theorem conv_more (one other : List Int) (k : Nat) : ∀ i, one.length ≤ i → conv one other i k = conv one other one.length k
  | 0, h => by rw [show one.length = 0 by omega]
  | i + 1, h => by
    by_cases c : one.length = i + 1
    · rw [c]
    · show conv one other i k + row one other i k = _
      rw [conv_more one other k i (by omega)]
      unfold row
      rw [co_ge (l := one) (by omega)]
      split <;> simp
theorem conv_top (one other : List Int) {k : Nat} : ∀ i, i ≤ one.length → i + other.length ≤ k + 1 → conv one other i k = 0
  | 0, _, _ => rfl
  | i + 1, h, hk => by
    show conv one other i k + row one other i k = 0
    rw [conv_top one other i (by omega) (by omega)]
    unfold row
    rw [if_pos (by omega), co_ge (l := other) (by omega)]
    simp
theorem conv_zero (one : List Int) (k : Nat) : ∀ i, conv one [] i k = 0
  | 0 => rfl
  | i + 1 => by
    show conv one [] i k + row one [] i k = 0
    rw [conv_zero one k i]
    unfold row
    rw [show co [] (k - i) = 0 from co_ge (Nat.zero_le _)]
    split <;> simp
theorem rep0 : ∀ n : Nat, (List.replicate n [V.int 0]).flatten = (List.replicate n (0 : Int)).map V.int
  | 0 => rfl
  | n + 1 => by
    rw [List.replicate_succ, List.flatten_cons, rep0 n, List.replicate_succ, List.map_cons]
    rfl
theorem ixN_nat {n j : Nat} (h : j < n) : ixN n (j : Int) = some j := by
  unfold ixN
  rw [if_pos (by omega), if_pos (by omega)]
  rfl
end T

/-! ### tuple * n for n = 0 and n = 1 -/
namespace L2
open PySem PySem.Spec PyProof.Rows
theorem tuple_mulX (l : Addr) (items : Array Value) (n : Nat) (dd : Option Addr) (sl : Array (Option Value)) (x : Int) (u : Tok) (c0 : (decide (x < -(2 ^ 63)) || decide (x ≥ 2 ^ 63)) = false) (c1 : (items.isEmpty || x == 1) = true) :
    Meets (Builtin.«tuple.__mul__» ⟨[.ref l, .int x u], []⟩) (fun _ R s => s.heap.get? l = some { cls := .type "tuple", dict := dd, data := .seq items n, slots := sl } ∧ R (.ok (.ret (Value.ref l))) s) :=
  .of_wp fun prog w A R s h => by
    obtain ⟨hp, g, d, tk, os⟩ := s
    obtain ⟨hl, h⟩ := h
    have f1 := AutoSeq1.idx_int
    wp_walk using wpAny_loadPart' hl
    repeat (first
      | (refine wpAny_ite_false (decide_eq_false (by rw [c0]; exact Bool.false_ne_true)) ?_; wp_walk using wpAny_loadPart' hl)
      | (refine wpAny_ite_true (decide_eq_true c1) ?_; wp_walk using wpAny_loadPart' hl))
    exact ⟨_, rfl, h⟩
theorem tuple_mulZ (l : Addr) (items : Array Value) (n : Nat) (dd : Option Addr) (sl : Array (Option Value)) (x : Int) (u : Tok) (c0 : (decide (x < -(2 ^ 63)) || decide (x ≥ 2 ^ 63)) = false) (c1 : (items.isEmpty || x == 1) = false) (c2 : (decide (x ≤ 0) || items.isEmpty) = true) :
    Meets (Builtin.«tuple.__mul__» ⟨[.ref l, .int x u], []⟩) (fun _ R s => s.heap.get? l = some { cls := .type "tuple", dict := dd, data := .seq items n, slots := sl } ∧
      R (.ok (.ret (Value.ref s.heap.objs.size))) { s with heap := s.heap.push { cls := Value.type "tuple", data := Data.seq #[] }, toks := s.toks }) :=
  .of_wp fun prog w A R s h => by
    obtain ⟨hp, g, d, tk, os⟩ := s
    obtain ⟨hl, h⟩ := h
    have f1 := AutoSeq1.idx_int
    wp_walk using wpAny_loadPart' hl
    repeat (first
      | (refine wpAny_ite_false (decide_eq_false (by rw [c0]; exact Bool.false_ne_true)) ?_; wp_walk using wpAny_loadPart' hl)
      | (refine wpAny_ite_false (decide_eq_false (by rw [c1]; exact Bool.false_ne_true)) ?_; wp_walk using wpAny_loadPart' hl)
      | (refine wpAny_ite_true (decide_eq_true c2) ?_; wp_walk using wpAny_loadPart' hl))
    exact ⟨_, rfl, h⟩
def rRepA (K : PySem.W.Frag) : R2 := fun x y H Q => ∃ l k xs, x = .ref l ∧ y = .int k ∧ SqT K H l xs ∧ xs ≠ [] ∧ 0 ≤ k ∧ k ≤ 1000 ∧ xs.length ≤ 1000 ∧ (k = 1 → Q (.ref l) H) ∧ (k ≠ 1 → ∀ p, H p = none → Q (.ref p) (upd H p (.tup (List.replicate k.toNat xs).flatten)))
section
variable {X : Cx}
theorem op_repA : OpR X (binaryOp .Mult) (rRepA X.K) := by
  intro pins s σ H x y v u Q I rx ry h
  obtain ⟨l, k, xs, rfl, rfl, hT, hne, h1, h2, hz, q1, q⟩ := h
  by_cases big : 2 ≤ k
  · exact op_repT pins s σ H _ _ v u Q I rx ry ⟨l, k, xs, rfl, rfl, hT, hne, big, h2, hz, q (by omega)⟩
  cases rx
  obtain ⟨t, rfl⟩ := ry
  obtain ⟨its, r, ⟨⟨cls, dd, data, sl⟩, ho, hc, n, hd⟩, hs⟩ := I.tuple hT
  simp only at hc hd
  subst hc hd
  have hle : its.length = xs.length := r.length.symm
  have hn : its ≠ [] := fun e => hne (by
    rw [e] at hle
    exact List.eq_nil_of_length_eq_zero hle.symm)
  have hi : its.toArray.isEmpty = false := by
    cases its with
    | nil => exact absurd rfl hn
    | cons a b => rfl
  have c0 : (decide (k < -(2 ^ 63)) || decide (k ≥ 2 ^ 63)) = false := by
    rw [decide_eq_false (by omega), decide_eq_false (by omega)] <;> rfl
  by_cases one : k = 1
  · have c1 : (its.toArray.isEmpty || k == 1) = true := by
      rw [hi, Bool.false_or]
      exact beq_iff_eq.mpr one
    exact wpAny_binaryOp_repeat_ref (T := "tuple") (U := "int") (by decide) ⟨_, ho, rfl⟩ (fun s' => typeIs_int s' k t) noFill_tuple_mul F.fills_int_mul F.slot_int_rmul repeat_tuple F.slot_int_index.lookup
      (call_meets F.slot_int_rmul (typeIs_int s k t) F.entry_int_rmul (F.args_int_rmul_2 _ _) (int_rmul_tuple k t l its.toArray n dd sl)
        ⟨ho, rfl, ⟨_, ho, rfl⟩, call_meets F.slot_tuple_mul ⟨_, ho, rfl⟩ F.entry_tuple_mul (F.args_tuple_mul_2 _ _) (tuple_mulX l its.toArray n dd sl k t c0 c1) ⟨ho, ⟨.ref l, H, I, rfl, q1 one⟩⟩⟩)
  · have zero : k = 0 := by omega
    have c1 : (its.toArray.isEmpty || k == 1) = false := by
      rw [hi, Bool.false_or]
      exact beq_eq_false_iff_ne.mpr one
    have c2 : (decide (k ≤ 0) || its.toArray.isEmpty) = true := by
      rw [hi, Bool.or_false]
      exact decide_eq_true (by omega)
    refine wpAny_binaryOp_repeat_ref (T := "tuple") (U := "int") (by decide) ⟨_, ho, rfl⟩ (fun s' => typeIs_int s' k t) noFill_tuple_mul F.fills_int_mul F.slot_int_rmul repeat_tuple F.slot_int_index.lookup
      (call_meets F.slot_int_rmul (typeIs_int s k t) F.entry_int_rmul (F.args_int_rmul_2 _ _) (int_rmul_tuple k t l its.toArray n dd sl)
        ⟨ho, rfl, ⟨_, ho, rfl⟩, call_meets F.slot_tuple_mul ⟨_, ho, rfl⟩ F.entry_tuple_mul (F.args_tuple_mul_2 _ _) (tuple_mulZ l its.toArray n dd sl k t c0 c1 c2) ⟨ho, ?_⟩⟩)
    refine ⟨.ref s.heap.objs.size, _, I.laid (t' := s.toks) (o := .tup (List.replicate k.toNat xs).flatten) (fun b ob q => Heap.get?_push_of_some _ q) (Nat.le_refl _) ?_, rfl, q one _ (I.hok.fresh (Nat.le_refl _))⟩
    rw [zero]
    exact ⟨Nat.zero_le _, [], .nil, IsTup.new _ _⟩
end
end L2

/-! ### sorted(tuple of integers), x in tuple of tuples -/
namespace SrtO
open PySem PyProof.Rows Srt
section
variable {prog : Program} {w : World} {A : Around} {E : Value → Shared → Prop} {s : Shared}
theorem collect_tup {l : Addr} {vs : List Value} {Q : List Value → Shared → Prop} (hl : s.heap.IsTuple l vs.toArray)
    (h : Q vs { s with heap := (s.heap.push (seqObj "list" #[] 0)).update s.heap.objs.size (Obj.mapSeq (· ++ vs.toArray)) }) (hsz : vs.length ≤ sizeLine) :
    wpAny (model prog w) A (collect (.ref l)) Q E s := by
  obtain ⟨o, ho, hc, n, hd⟩ := id hl
  unfold collect
  refine wpAny_bind (wpAny_runValue (codeAny_builtin entry_proto_collect' ?_))
  show wpAny _ _ (do again (.builtin "list.__iadd__" ⟨[← newList [], .ref l], []⟩)) _ _ s
  refine wpAny_bind (wpAny_newList (wpAny_pure ⟨Code.quiet_builtin _ (by decide +kernel), codeAny_builtin entry_list_iadd' ?_⟩))
  show wpAny _ _ (Builtin.List.listExtendWith (.ref s.heap.objs.size) (.ref l) (.ref s.heap.objs.size)) _ _ { s with heap := s.heap.push (seqObj "list" #[] 0) }
  unfold Builtin.List.listExtendWith
  have ho' : (s.heap.push (seqObj "list" #[] 0)).get? l = some o := Heap.get?_push_of_some _ ho
  refine wpAny_bind (wpAny_typeOf (T := "tuple") ⟨o, ho', hc⟩ ?_)
  have ht : (Value.type "tuple" == Value.type "tuple") = true := by rfl
  rw [if_pos (by rw [ht]; simp)]
  refine wpAny_bind (listItems_at ho' hd ?_)
  refine wpAny_bind (listItems_at (xs := #[]) (n := 0) (Heap.get?_push_size _ rfl) rfl ?_)
  rw [if_neg (by simp)]
  refine wpAny_bind (listUpdate_at (xs := #[]) (n := 0) (Heap.get?_push_size _ rfl) rfl ?_ (Nat.zero_le _) (by show (#[] ++ vs.toArray).size ≤ sizeLine + 1; simp only [Array.size_append, List.size_toArray, List.length_nil]; omega))
  refine wpAny_pure ?_
  show wpAny (model prog w) A (do
      let o ← load s.heap.objs.size
      match o.data with
      | .seq xs _ => pure xs.toList
      | _ => unsupported "internal:collect") Q E { s with heap := (s.heap.push (seqObj "list" #[] 0)).update s.heap.objs.size (Obj.mapSeq (· ++ vs.toArray)) }
  refine wpAny_bind (wpAny_load (get?_update_seq (Heap.get?_push_size _ rfl) _) ?_)
  show wpAny _ _ (pure ((#[] : Array Value) ++ vs.toArray).toList) Q E _
  rw [show ((#[] : Array Value) ++ vs.toArray).toList = vs by simp]
  exact wpAny_pure h
theorem sorted_ordT {l : Addr} {vs : List Value} {ltv : Value → Value → Bool} {Q : Value → Shared → Prop} (O : Swo ltv) (hl : s.heap.IsTuple l vs.toArray) (hz : vs.length ≤ sizeLine)
    (hS : 2 ≤ vs.length → ∀ (h₁ : Heap) (a : Addr), h₁.get? a = some (seqObj "list" vs.toArray 0) → (∀ b o, s.heap.get? b = some o → b ≠ a ∧ h₁.get? b = some o) → SortableO prog w A.in1.in1 { s with heap := h₁ } a vs ltv)
    (h : ∀ out : List Value, Srtd ltv out → Stb ltv out vs → Q (.ref (s.heap.objs.size + 1)) { s with heap := sortedAll s.heap vs out.toArray }) :
    wpAny (model prog w) A (call (.builtin "sorted") [.ref l]) Q E s := by
  refine Calls.call_function_entry kind_sorted plain_sorted entry_sorted (args_sorted1 _) ?_
  unfold Builtin.«sorted»
  refine wpAny_bind (m := checkCount "sorted" 1 1 _) (wpAny_pure ?_)
  refine wpAny_bind (collect_tup hl ?_ hz)
  refine wpAny_bind (wpAny_newList ?_ hz)
  have hsz : ((s.heap.push (seqObj "list" #[] 0)).update s.heap.objs.size (Obj.mapSeq (· ++ vs.toArray))).objs.size = s.heap.objs.size + 1 := by
    rw [Heap.size_update, size_push']
  have hoL : (((s.heap.push (seqObj "list" #[] 0)).update s.heap.objs.size (Obj.mapSeq (· ++ vs.toArray))).push (seqObj "list" vs.toArray 0)).get? (s.heap.objs.size + 1) = some (seqObj "list" vs.toArray 0) := by
    rw [← hsz]; exact Heap.get?_push_size _ rfl
  have keep : ∀ b o, s.heap.get? b = some o → b ≠ s.heap.objs.size + 1 ∧ (((s.heap.push (seqObj "list" #[] 0)).update s.heap.objs.size (Obj.mapSeq (· ++ vs.toArray))).push (seqObj "list" vs.toArray 0)).get? b = some o := fun b o q => by
    have hlt : b < s.heap.objs.size := Heap.lt_size q
    refine ⟨Nat.ne_of_lt (Nat.lt_succ_of_lt hlt), Heap.get?_push_of_some _ ?_⟩
    rw [Heap.get?_update_ne _ _ _ _ (Nat.ne_of_lt hlt)]
    exact Heap.get?_push_of_some _ q
  show wpAny _ _ _ _ _ { s with heap := ((s.heap.push (seqObj "list" #[] 0)).update s.heap.objs.size (Obj.mapSeq (· ++ vs.toArray))).push (seqObj "list" vs.toArray 0) }
  rw [hsz]
  refine wpAny_bind (wpAny_holding (wpAny_call_entry slot_list_sort ⟨_, hoL, rfl⟩ entry_list_sort (list_sort_ord O hoL hz (fun h2 => hS h2 _ _ hoL keep) fun out hs hb => ⟨_, rfl, ?_⟩) (args_list_sort _)))
  exact wpAny_pure ⟨_, rfl, h out hs hb⟩
end
end SrtO
namespace L2
open PySem PySem.Spec PyProof.Rows
def rSortedIT (K : PySem.W.Frag) : List V → Hp → VK → Prop := fun vs H Q => ∃ (a : Addr) (ns : List Int), vs = [V.ref a] ∧ SqT K H a (ns.map V.int) ∧
  ∀ (ns' : List Int) (p : Addr), ns'.Perm ns → ns'.Pairwise (· ≤ ·) → H p = none → Q (.ref p) (upd H p (.lst (ns'.map V.int)))
def rInDT (K : PySem.W.Frag) : R2 := fun x y H Q => ∃ d ds, Dp K H x d ∧ Dp K H y (.tuple ds) ∧ SeqAt.shaped d = true ∧ SeqAt.shaped (.tuple ds) = true ∧ Q (.bl (ds.any fun z => PyData.eqv z d)) H
section
variable {X : Cx}
theorem cr_sortedIT : CallR X (.builtin "sorted") (rSortedIT X.K) := by
  intro pins s σ H vs us Q I r h
  obtain ⟨a, ns, rfl, hs, q⟩ := h
  obtain ⟨its, rv, hl, hz⟩ := I.tuple hs
  rw [Vals.ref1 r]
  have hi := rv.ints
  refine SrtO.sorted_ordT SrtO.swo_int hl (by rw [← rv.length]; exact hz) (fun h2 h₁ a' _ _ => SrtO.ints_sortable hi h2) fun out h1 h2 => ?_
  obtain ⟨k1, k2, k3⟩ := SrtO.ints_out hi h1 h2
  obtain ⟨ep, he'⟩ := PyProof.Rows.sortedAll_at s.heap its out.toArray
  have hlen : ((out.map SrtO.iv).map V.int).length ≤ sizeLine := by
    rw [List.length_map, k2.length_eq]
    rw [List.length_map] at hz
    exact hz
  exact ⟨.ref _, upd H (s.heap.objs.size + 1) (.lst ((out.map SrtO.iv).map V.int)), I.laid (t' := s.toks) (fun _ _ => PyProof.Rows.sortedAll_old) (Nat.le_succ _) ⟨hlen, out, ep, vals_of_ints k1, he'⟩, rfl, q _ _ k2 k3 (I.hok.fresh (Nat.le_succ _))⟩
theorem op_inDT (hu : X.A.units + 65 < cLine) : OpR X (compareOp .In) (rInDT X.K) := by
  intro pins s σ H x y v u Q I rx ry h
  obtain ⟨d, ds, hd, he, sd, se, q⟩ := h
  obtain ⟨as, r1⟩ := Dp.reads I d x v hd rx
  obtain ⟨bs, r2⟩ := Dp.reads I (.tuple ds) y u he ry
  exact SeqAt.in_tuple_reads r2 r1 (SeqAt.canLay_of_shaped se) (SeqAt.canLay_of_shaped sd) (room_in_shaped sd hu) ⟨.bl _, H, I, rfl, q⟩
end
end L2

/-! ### tuple[::-1], nested data by <, x not in range(..) -/
namespace HT
open PySem PySem.Spec PyProof.Rows
section
variable {prog : Program} {w : World} {A : Around} {E : Value → Shared → Prop} {s : Shared}
theorem sliceApplied_rev {sl : Addr} {vl vu vs : Value} {n : Nat} {Q : Int × Int × Nat → Shared → Prop} (hs : s.heap.IsSliceOf sl vl vu vs) (pl : IsPart vl none) (pu : IsPart vu none) (ps : IsPart vs (some (-1)))
    (h : Q ((n : Int) - 1, -1, n) s) : wpAny (model prog w) A (Builtin.Slice.sliceApplied (.ref sl) (pure (n : Int))) Q E s := by
  obtain ⟨os, hos, hcs, hds⟩ := id hs
  unfold Builtin.Slice.sliceApplied Builtin.Slice.sliceFields
  refine wpAny_bind (wpAny_bind (wpAny_field hos hds (x := vl) rfl (wpAny_bind (wpAny_field hos hds (x := vu) rfl (wpAny_bind (wpAny_field hos hds (x := vs) rfl (wpAny_pure ?_)))))))
  refine wpAny_bind (slicePart_ ps ?_)
  show wpAny _ _ (if ((-1 : Int) == 0) = true then _ else _) _ _ s
  rw [if_neg (by decide)]
  refine wpAny_bind (slicePart_ pl (wpAny_bind (slicePart_ pu (wpAny_bind (wpAny_pure ?_)))))
  have e2 : Builtin.Slice.slicePlaces ((n : Int) - 1) (-1) (-1) = n := by
    unfold Builtin.Slice.slicePlaces
    rw [if_neg (by decide)]
    by_cases c : (n : Int) - 1 > -1
    · rw [if_pos c, show -(-1 : Int) = 1 from rfl, Int.ediv_one]
      omega
    · rw [if_neg c]
      omega
  show wpAny _ _ (pure (((n : Int) - 1), (-1 : Int), Builtin.Slice.slicePlaces ((n : Int) - 1) (-1) (-1))) _ _ s
  rw [e2]
  exact wpAny_pure h
theorem fm_some {α β : Type} {f : α → Option β} {g : α → β} : ∀ l : List α, (∀ k ∈ l, f k = some (g k)) → l.filterMap f = l.map g
  | [], _ => rfl
  | a :: l, h => by
    rw [List.filterMap_cons, h a List.mem_cons_self, List.map_cons, fm_some l fun k hk => h k (List.mem_cons_of_mem _ hk)]
theorem pick_rev (items : Array Value) : ((List.range items.size).filterMap fun (k : Nat) => items[((items.size : Int) - 1 + (k : Int) * (-1)).toNat]?).toArray = items.toList.reverse.toArray := by
  congr 1
  have hlt : ∀ k ∈ List.range items.size, k < items.size := fun k hk => List.mem_range.mp hk
  have e : ∀ k, k < items.size → items[((items.size : Int) - 1 + (k : Int) * (-1)).toNat]? = some (items.toList.reverse.getD k .none) := fun k hk => by
    rw [show ((items.size : Int) - 1 + (k : Int) * (-1)).toNat = items.size - 1 - k by omega, List.getD_eq_getElem?_getD, List.getElem?_reverse (by rw [Array.length_toList]; exact hk), Array.length_toList, Array.getElem?_toList]
    rw [Array.getElem?_eq_getElem (by omega)]
    rfl
  have e2 : ((List.range items.size).filterMap fun (k : Nat) => items[((items.size : Int) - 1 + (k : Int) * (-1)).toNat]?) = (List.range items.size).map fun k => items.toList.reverse.getD k .none := by
    exact fm_some _ fun k hk => e k (hlt k hk)
  rw [e2]
  refine List.ext_getElem (by rw [List.length_map, List.length_range, List.length_reverse, Array.length_toList]) fun i h1 h2 => ?_
  rw [List.getElem_map, List.getElem_range, List.getD_eq_getElem?_getD, List.getElem?_eq_getElem h2]
  rfl
theorem getItem_tuple_rev {t sl : Addr} {items : Array Value} {vl vu vs : Value} {Q : Value → Shared → Prop} (ht : IsTup s.heap t items) (hs : s.heap.IsSliceOf sl vl vu vs) (pl : IsPart vl none) (pu : IsPart vu none) (ps : IsPart vs (some (-1)))
    (h : Q (.ref s.heap.objs.size) { s with heap := s.heap.push { cls := .type "tuple", data := .seq items.toList.reverse.toArray } }) (hsz : items.size ≤ sizeLine) : wpAny (model prog w) A (getItem (.ref t) (.ref sl)) Q E s := by
  have htake : sizeOk (.seq items.toList.reverse.toArray) := by
    show items.toList.reverse.toArray.size ≤ sizeLine
    rw [List.size_toArray, List.length_reverse, Array.length_toList]
    exact hsz
  obtain ⟨os, hos, hcs, hds⟩ := id hs
  have hTs : s.TypeIs (.ref sl) "slice" := ⟨os, hos, hcs⟩
  unfold getItem
  try with_reducible refine wpAny_holding ?_
  first | refine wpAny_bind (wpAny_pure ?_) | skip
  refine wpAny_bind (wpAny_sequenceKey ht.typeIs (by decide) ?_)
  refine wpAny_bind (wpAny_callSpecial?_slot (name := Str.ofString "__getitem__") ht.typeIs PyProof.Rows.slot_tuple_getitem
    (wpAny_call_entry PyProof.Rows.slot_tuple_getitem ht.typeIs entry_tuple_getitem ?_ (args_tuple_getitem _ _)))
  show wpAny _ _ (Builtin.Tuple.tupleItemsOf (.ref t) >>= _) _ _ s
  refine wpAny_bind (tupleItemsOf_ ht ?_)
  refine wpAny_bind (wpAny_typeOf hTs ?_)
  rw [if_pos (by decide)]
  refine wpAny_bind (sliceApplied_rev hs pl pu ps ?_)
  have hno : ¬ ((((items.size : Int) - 1) == 0 && (-1 : Int) == 1 && items.size == items.size) = true) := by
    intro q
    rw [Bool.and_eq_true, Bool.and_eq_true] at q
    have q1 : (-1 : Int) = 1 := eq_of_beq q.1.2
    omega
  show wpAny _ _ (if (((items.size : Int) - 1) == 0 && (-1 : Int) == 1 && items.size == items.size) = true then _ else _) _ _ s
  rw [if_neg hno, pick_rev]
  first
    | exact wpAny_bind (m := Builtin.Tuple.tupleExact _) (wpAny_newObj_type (wpAny_pure ⟨_, rfl, wpAny_pure h⟩) htake)
    | exact wpAny_bind (m := Builtin.Tuple.tupleExact _) (wpAny_newObj_type (wpAny_bind (wpAny_pure (wpAny_pure ⟨_, rfl, wpAny_pure h⟩))) htake)
    | exact wpAny_bind (wpAny_bind (m := Builtin.Tuple.tupleExact _) (wpAny_newObj_type (wpAny_pure (wpAny_pure ⟨_, rfl, wpAny_pure h⟩)) htake))
    | exact wpAny_bind (wpAny_bind (m := Builtin.Tuple.tupleExact _) (wpAny_newObj_type (wpAny_pure ⟨_, rfl, wpAny_pure h⟩) htake))
end
end HT
namespace L2
open PySem PySem.Spec PyProof.Rows
def tRevT (K : PySem.W.Frag) (te : TE) : TE := fun σ H Q => te σ H fun x H1 => ∃ a xs, x = .ref a ∧ SqT K H1 a xs ∧ ∀ p, H1 p = none → Q (.ref p) (upd H1 p (.tup xs.reverse))
section
variable {X : Cx}
theorem pe_revT {e : Expr} {te : TE} {k : Nat} {p1 p2 p3 pos : Pos} {K : PySem.W.Frag} (hK : X.K = K) (he : PE X e te) : PE X (.Subscript e (.Slice none none (some (.UnaryOp .USub (.Constant (.int 1) k p1) p2)) p3) pos) (tRevT K te) := by
  subst hK
  refine ⟨fun pins s σ H Q I h => ?_⟩
  refine Subscript_ (thn (he.run pins s σ H _ I h) fun v s1 ⟨x, H1, I1, r1, q1⟩ => ?_)
  obtain ⟨a, xs, ex, hx, q⟩ := q1
  subst ex
  cases r1
  have hst : PO X (some (.UnaryOp .USub (.Constant (.int 1) k p1) p2)) (tPart (tUn (rU fun i => .int (-i)) (tC (.int 1)))) := po_some (pe_un un_neg pe_int)
  refine wpAny_Slice (thn (po_none.run pins s1 σ H1 (fun o H2 => o = none ∧ H2 = H1) I1 ⟨rfl, rfl⟩) fun vl s2 ⟨l, H2, I2, pl, el, e2⟩ => ?_)
  subst el e2
  refine thn (po_none.run pins s2 σ H2 (fun o H3 => o = none ∧ H3 = H2) I2 ⟨rfl, rfl⟩) fun vu s3 ⟨u, H3, I3, pu, eu, e3⟩ => ?_
  subst eu e3
  refine thn (hst.run pins s3 σ H3 (fun o H4 => o = some (-1) ∧ H4 = H3) I3 ⟨1, rfl, -1, rfl, rfl, rfl⟩) fun vs s4 ⟨o, H4, I4, ps, eo, e4⟩ => ?_
  subst eo e4
  have I5 : Inv X pins σ H4 { s4 with heap := s4.heap.push { cls := .type "slice", data := .fields #[vl, vu, vs] } } := I4.kept (t' := s4.toks) fun b ob q => Heap.get?_push_of_some _ q
  obtain ⟨its, r, ht, hz⟩ := I5.tuple hx
  have hlen := r.length
  show wpAny (model X.prog X.w) X.A (subscriptTail e (.Slice none none (some (.UnaryOp .USub (.Constant (.int 1) k p1) p2)) p3) (.ref a) (.ref s4.heap.objs.size)) (EP X pins σ Q) X.xe { s4 with heap := s4.heap.push { cls := .type "slice", data := .fields #[vl, vu, vs] } }
  refine tail_any (ops := [.ref a, .ref s4.heap.objs.size]) ht.typeIs (PyProof.Rows.slot_tuple_getitem.lookup) ?_ (by with_unfolding_all rfl)
  refine HT.getItem_tuple_rev ht (Heap.IsSliceOf.new _ vl vu vs) pl pu ps ?_ (by rw [List.size_toArray]; omega)
  refine ⟨.ref _, _, I5.laid (t' := s4.toks) (o := .tup xs.reverse) (fun b ob q => Heap.get?_push_of_some _ q) (Nat.le_refl _) ?_, rfl, q _ (I5.hok.fresh (Nat.le_refl _))⟩
  exact ⟨by rw [List.length_reverse]; exact hz, _, r.reverse, IsTup.new _ _⟩
/-- nested data of one shape -/
def rLtD (K : PySem.W.Frag) : R2 := fun x y H Q => ∃ d e, Dp K H x d ∧ Dp K H y e ∧ PySem.W.alike d e = true ∧ d ≠ .none ∧ d.depth ≤ 64 ∧ Q (.bl (PySem.W.dataLt d e)) H
theorem op_ltD (hu : X.A.units + 64 < cLine) : OpR X (compareOp .Lt) (rLtD X.K) := by
  intro pins s σ H x y v u Q I rx ry h
  obtain ⟨d, e, hd, he, al, nn, dep, q⟩ := h
  obtain ⟨as, r1⟩ := Dp.reads I d x v hd rx
  obtain ⟨bs, r2⟩ := Dp.reads I e y u he ry
  exact PySem.W.rcLt_alike d e X.A s v u as bs r1 r2 al nn (by have := Nat.min_le_left d.depth e.depth; omega) X.prog X.w _ _ ⟨.bl _, H, I, rfl, q⟩
theorem cr_range1 : CallR X (.type "range") (fun vs H Q => ∃ j, vs = [V.int j] ∧ ∀ p, H p = none → Q (.ref p) (upd H p (.rng 0 j))) := by
  intro pins s σ H vs us Q I r h
  obtain ⟨j, rfl, q⟩ := h
  obtain ⟨u1, rfl, rj⟩ : ∃ u1, us = [u1] ∧ RelV (.int j) u1 := by
    cases r with
    | cons r rr =>
      cases rr
      exact ⟨_, rfl, r⟩
  obtain ⟨u, rfl⟩ := rj
  refine call_range_1 ⟨.ref s.heap.objs.size, upd H s.heap.objs.size (.rng 0 j), I.laid (t' := s.toks + 1 + 1) (fun b o e => Heap.get?_push_of_some _ e) (Nat.le_refl _) ?_, rfl, q _ (I.hok.fresh (Nat.le_refl _))⟩
  exact ⟨s.toks, u, s.toks + 1, Heap.get?_push_size _ rfl⟩
theorem op_notIn_rng : OpR X (compareOp .NotIn) (fun x y H Q => ∃ i a lo hi, x = V.int i ∧ y = V.ref a ∧ H a = some (.rng lo hi) ∧ Q (.bl (!decide (lo ≤ i ∧ i < hi))) H) := by
  intro pins s σ H x y v u Q I rx ry h
  obtain ⟨i, a, lo, hi, rfl, rfl, ha, q⟩ := h
  obtain ⟨k, rfl⟩ := rx
  obtain rfl : u = Value.ref a := ry
  obtain ⟨t1, t2, t3, ho⟩ := I.hok a _ ha
  show wpAny _ _ (do return Value.bool (!(← contains (Value.ref a) (Value.int i k)))) _ _ s
  refine wpAny_bind (wpAny_contains_slot (T := "range") ⟨_, ho, rfl⟩ F.slot_range_contains (call_meets F.slot_range_contains ⟨_, ho, rfl⟩ F.entry_range_contains (F.args_range_contains_2 _ _) (q_contains a lo hi i t1 t2 t3 k)
    ⟨ho, wpAny_truthy_bool (wpAny_pure ⟨.bl _, H, I, rfl, ?_⟩)⟩))
  rw [place1]
  exact q
end
end L2

/-! ### tuple(d.values()) -/
namespace L2
open PySem PySem.Spec PyProof.Rows PySem.W
section
variable {prog : Program} {w : World} {A : Around} {E : Value → Shared → Prop} {s : Shared} {T : String} {r d : Addr} {n : Nat} {P : Nat → Value → Prop} {OK : Heap → Prop}
theorem collect_kdl {Q : List Value → Shared → Prop} (K : KdlSrc prog w T r d n P OK) (hh : A.handled = none) (hok : OK s.heap) (hn : n ≤ sizeLine)
    (hQ : ∀ (h' : Heap) (tk : Nat) (acc : Array Value), (∀ b o, s.heap.get? b = some o → h'.get? b = some o) → ItemsOf P acc n → Q acc.toList { s with heap := h', toks := tk }) :
    wpAny (model prog w) A (collect (.ref r)) Q E s := by
  have hlt := K.there _ hok
  unfold collect
  refine wpAny_bind (wpAny_runValue (codeAny_builtin F.entry_proto_collect ?_))
  rw [Around.under_plainId F.plain_proto_collect _]
  show wpAny _ A.in1 (newList [] >>= fun l => again (.builtin "list.__iadd__" ⟨[l, .ref r], []⟩)) _ _ s
  refine wpAny_bind (wpAny_newObj_type ?_)
  refine wpAny_pure ⟨plainId_quiet F.plain_list_iadd _, codeAny_builtin F.entry_list_iadd ?_⟩
  rw [Around.under_plainId F.plain_list_iadd _]
  show wpAny _ A.in1 (Builtin.List.listExtendWith (.ref s.heap.objs.size) (.ref r) (.ref s.heap.objs.size)) _ _ _
  have hS : (s.heap.push { cls := .type "list", data := .seq ([] : List Value).toArray }).get? s.heap.objs.size = some { cls := .type "list", data := .seq #[] 0 } := Heap.get?_push_size _ rfl
  refine wpAny_mono (kdl_extend (A := A) (R := fun rr s' => rr = .ok (.ret (.ref s.heap.objs.size)) ∧ ∃ (h' : Heap) (tk : Nat) (acc : Array Value) (c' : Nat), s' = { s with heap := h', toks := tk } ∧
      (∀ b o, s.heap.get? b = some o → h'.get? b = some o) ∧ h'.get? s.heap.objs.size = some { cls := .type "list", dict := none, data := .seq acc c', slots := #[] } ∧ ItemsOf P acc n)
    (s := { s with heap := s.heap.push { cls := .type "list", data := .seq ([] : List Value).toArray } }) K hh (K.keep _ _ hok fun b _ o e => Heap.get?_push_of_some _ e) _ (Nat.ne_of_gt hlt.1) (Nat.ne_of_gt hlt.2) _ 0 hS
    (fun h' tk acc c' hk e hi => ⟨rfl, h', tk, acc, c', rfl, fun b o q => hk b o (Nat.ne_of_lt (Heap.lt_size q)) (Heap.get?_push_of_some _ q), e, hi⟩) hn) (fun fin s' h => ?_) (fun e s' h => ?_)
  · cases fin with
    | done f =>
      obtain ⟨e, h', tk, acc, c', rfl, hk, hS', hi⟩ := h
      cases e
      show wpAny _ A (load s.heap.objs.size >>= _) _ _ _
      exact wpAny_bind (wpAny_load hS' (wpAny_pure (hQ h' tk acc hk hi)))
    | again c' =>
      refine ⟨h.1, codeAny_mono h.2 fun rr s'' hr' => ?_⟩
      obtain ⟨rfl, h', tk, acc, c', rfl, hk, hS', hi⟩ := hr'
      show wpAny _ A (load s.heap.objs.size >>= _) _ _ _
      exact wpAny_bind (wpAny_load hS' (wpAny_pure (hQ h' tk acc hk hi)))
  · exact absurd h.1 (by simp)
theorem code_tuple_new_kdl {Q₁ : Value → Shared → Prop} (K : KdlSrc prog w "dict_values" r d n P OK) (hh : A.handled = none) (hok : OK s.heap) (hn : n ≤ sizeLine)
    (h : ∀ (h' : Heap) (tk : Nat) (acc : Array Value), (∀ b o, s.heap.get? b = some o → h'.get? b = some o) → ItemsOf P acc n →
      Q₁ (.ref h'.objs.size) { s with heap := h'.push { cls := .type "tuple", data := .seq acc }, toks := tk }) :
    codeAny (model prog w) A (.call (.builtin "tuple.__new__") ⟨[.type "tuple", .ref r], []⟩) (wants Q₁ E) s := by
  refine codeAny_of_tree ?_
  show wpAny _ A.in1 (do checkBuiltinCall "tuple.__new__" ⟨[.type "tuple", .ref r], []⟩; again (.builtin "tuple.__new__" ⟨[.type "tuple", .ref r], []⟩)) _ _ s
  refine wpAny_bind (wpAny_of_eq (F.newCall_tuple_1 _) (wpAny_pure ⟨plainId_quiet F.plain_tuple_new _, codeAny_builtin F.entry_tuple_new ?_⟩))
  rw [Around.under_plainId F.plain_tuple_new _]
  have hsub := sub_tuple_self
  have hinit := init_tuple_lookup
  have hmh := madeHere_tuple
  have hTI : s.TypeIs (.ref r) "dict_values" := K.type s hok
  have hh1 : A.in1.handled = none := hh
  wp_walk using wpAny_typeOf hTI, collect_kdl (A := A.in1) K hh1 hok hn
  intro h' tk acc hk hacc
  show wpAny _ _ (Builtin.Tuple.tupleExact acc.toList.toArray >>= fun v => ret v) _ _ _
  unfold Builtin.Tuple.tupleExact
  refine wpAny_bind (wpAny_newObj_type ?_ (by show acc.toList.toArray.size ≤ sizeLine; simp only [Array.toArray_toList]; rw [hacc.1]; exact hn))
  refine wpAny_pure ?_
  have e : acc.toList.toArray = acc := by simp
  rw [e]
  exact h h' tk acc hk hacc
theorem call_tuple_kdl {Q : Value → Shared → Prop} (K : KdlSrc prog w "dict_values" r d n P OK) (hh : A.handled = none) (hok : OK s.heap) (hn : n ≤ sizeLine)
    (hQ : ∀ (h' : Heap) (tk : Nat) (acc : Array Value), (∀ b o, s.heap.get? b = some o → h'.get? b = some o) → ItemsOf P acc n →
      Q (.ref h'.objs.size) { s with heap := h'.push { cls := .type "tuple", data := .seq acc }, toks := tk }) :
    wpAny (model prog w) A (call (.type "tuple") [.ref r]) Q E s := by
  refine callType_codes (Q₁ := fun obj s₁ => s₁.TypeIs obj "tuple" ∧ Q obj s₁) F.called_tuple (F.typeCall_tuple_1 _) F.entry_object_init
    (code_tuple_new_kdl (A := A.in1) K hh hok hn fun h' tk acc hk hacc => ⟨⟨_, Heap.get?_push_size _ rfl, rfl⟩, hQ h' tk acc hk hacc⟩) fun obj s₁ h₁ => ?_
  exact ⟨h₁.1, F.args_object_init_2 obj _, object_init_meets F.called_tuple.init.lookup F.called_tuple.made (by decide) prog w A.in1 _ s₁ ⟨h₁.1, rfl, h₁.2⟩⟩
end
def tTupVals (td : TE) : TE := fun σ H Q => td σ H fun x H1 => ∃ a kvs, x = V.ref a ∧ H1 a = some (.dK kvs) ∧ ∀ p, H1 p = none → Q (.ref p) (upd H1 p (.tup (kvs.map (·.2))))
section
variable {X : Cx} {o : Expr} {p pos apos mpos : Pos} {td : TE}
theorem pe_tupVals (hc : X.calm = true) (hg : Gl X "tuple") (hm : X.mg "tuple" = none) (hd : PE X o td) (hbase : attributeBase o "values" X.env (eval o X.env) = eval o X.env := by rfl) (hline : (apos.endLine == mpos.line) = true := by rfl)
    (hse : starEach [Expr.Call (.Attribute o "values" apos) [] [] mpos] X.env = [(false, eval (Expr.Call (.Attribute o "values" apos) [] [] mpos) X.env)] := by rfl) :
    PE X (.Call (.Name "tuple" p) [.Call (.Attribute o "values" apos) [] [] mpos] [] pos) (tTupVals td) := by
  refine ⟨fun pins s σ H Q I h => ?_⟩
  have hse2 : starEach [Expr.Call (.Attribute o "values" apos) [] [] mpos] X.env = (false, eval (Expr.Call (.Attribute o "values" apos) [] [] mpos) X.env) :: starEach [] X.env := hse
  refine Call_ (ld_blt I hg hm boot_tuple (PyProof.Rows.callWith_type1 (args_cons (wpAny_Call_method0_late hbase hline (thn (hd.run pins s σ H _ I h) fun v s1 ⟨x, H1, I1, r1, a, kvs, ex, ha, q⟩ => ?_)) hse2) hse2 rfl))
  subst ex
  obtain rfl : v = Value.ref a := r1
  obtain ⟨z, hsys, vs, rel, dof⟩ := dk_of I1.hok ha
  obtain ⟨ep, dat⟩ := dof.dictAt
  have dat' := dat
  obtain ⟨ob, es, ho, ex, hdat, hko, hpr, hnd⟩ := dat'
  refine ⟨"dict", "dict.values", F.plainAttrs_dict, F.slot_dict_values, F.type_dict_values, ⟨ob, ho, ex.1⟩, fun b e => ?_, Calls.callWith_builtin rfl (PySem.evalArgs_none ?_)⟩
  · cases e
    exact ⟨ob, ho, ex.2.1⟩
  refine call_meetsIn F.slot_dict_values ⟨ob, ho, ex.1⟩ F.entry_dict_values (F.args_dict_values_1 _) (meets_dict_values (mixKind X.prog X.w) a hsys) ⟨⟨vs, dof⟩, ?_⟩
  have k1 : ∀ b u, s1.heap.get? b = some u → (s1.heap.push { cls := .type "dict_values", data := .fields #[.ref a] }).get? b = some u := fun b u e => Heap.get?_push_of_some _ e
  have dat1 : (s1.heap.push { cls := .type "dict_values", data := .fields #[.ref a] }).DictAt (mixKind X.prog X.w) a vs ep := dat.keep k1
  refine args_nil ?_
  have hl : kvs.length = vs.length := Paired.length rel
  have I2 : Inv X pins σ H1 { s1 with heap := s1.heap.push { cls := .type "dict_values", data := .fields #[.ref a] } } := I1.kept (t' := s1.toks) k1
  refine call_tuple_kdl (kdl_values (knd := mixKind X.prog X.w) (d := a) (r := s1.heap.objs.size) (kvs := vs) (ep := ep)) (I.ok.hd hc) ⟨⟨_, Heap.get?_push_size _ rfl, rfl, rfl⟩, dat1⟩ (by rw [← hl]; exact z) fun h' tk acc hk hacc => ?_
  have I3 : Inv X pins σ H1 { s1 with heap := h', toks := tk } := I2.kept (t' := tk) hk
  refine ⟨.ref h'.objs.size, upd H1 h'.objs.size (.tup (kvs.map (·.2))), I3.laid (t' := tk) (fun b o e => Heap.get?_push_of_some _ e) (Nat.le_refl _) (show ObjOk X.prog X.w _ _ _ (.tup (kvs.map (·.2))) from ⟨by rw [List.length_map]; exact z, acc.toList, ?_, by rw [Array.toArray_toList]; exact IsTup.new _ _⟩), rfl, q _ (I3.hok.fresh (Nat.le_refl _))⟩
  have el : acc.toList.length = acc.size := by simp
  refine vals_of_at (by rw [List.length_map, el, hacc.1, hl]) fun j x w h1 h2 => ?_
  obtain ⟨k, hky⟩ := hacc.2 j w (by rw [← Array.getElem?_toList]; exact h2)
  obtain ⟨y, h3, h4⟩ := KV.at' rel hky
  rw [List.getElem?_map, h3] at h1
  cases h1
  exact h4
end
end L2

/-! ### enumerate over a tuple (the hand layer has it over a list) -/
namespace PySem
open Sem (wp)
open AutoSeq1 (wpAny_loadPart')
theorem new_enumT (t : Addr) (its : Array Value) (n : Nat) (dc : Option Addr) (sl : Array (Option Value)) :
    Meets (Builtin.«enumerate.__new__» ⟨[.type "enumerate", .ref t], []⟩) (fun _ R s => s.heap.get? t = some { cls := .type "tuple", dict := dc, data := .seq its n, slots := sl } ∧
      R (.ok (.ret (.ref (s.heap.push { cls := .type "tuple_iterator", data := .fields #[.ref t, .int 0 0] }).objs.size)))
        { s with heap := (s.heap.push { cls := .type "tuple_iterator", data := .fields #[.ref t, .int 0 0] }).push { cls := .type "enumerate", data := .fields #[.none, .bool false, .ref s.heap.objs.size, rawInt 0, .none, .none] } }) :=
  .of_wp fun prog w A R s both => by
    obtain ⟨hp, g, d, tk, os⟩ := s
    obtain ⟨ht, both⟩ := both
    have below := sub_enumerate
    have tup : Heap.IsTuple (Shared.heap ⟨hp, g, d, tk, os⟩) t its := ⟨_, ht, rfl, n, rfl⟩
    wp_walk using wpAny_loadPart' ht
    refine wpAny_stack_any fun _ => wpAny_pure ?_
    split
    · rename_i c _ _ _ _ _
      cases (c == Value.type "enumerate")
      · wp_walk using wpAny_loadPart' ht, wpAny_pyIter_tuple tup
        exact ⟨_, rfl, both⟩
      · wp_walk using wpAny_loadPart' ht, wpAny_pyIter_tuple tup
        exact ⟨_, rfl, both⟩
    · wp_walk using wpAny_loadPart' ht, wpAny_pyIter_tuple tup
      exact ⟨_, rfl, both⟩
section
variable {prog : Program} {w : World} {A : Around} {E : Value → Shared → Prop} {s : Shared}
theorem call_enumT {t : Addr} {its : Array Value} {Q : Value → Shared → Prop} (ht : s.heap.IsTuple t its)
    (q : ∀ h', IsEnum h' (s.heap.objs.size + 1) s.heap.objs.size 0 .none → h'.IsTupleIter s.heap.objs.size t 0 →
      (∀ b o, s.heap.get? b = some o → h'.get? b = some o) → Q (.ref (s.heap.objs.size + 1)) { s with heap := h' }) :
    wpAny (model prog w) A (call (.type "enumerate") [.ref t]) Q E s := by
  obtain ⟨⟨c, dc, da, sl⟩, ht, ec, n, ed⟩ := ht
  obtain rfl : c = .type "tuple" := ec
  obtain rfl : da = .seq its n := ed
  refine callType_new F.called_enumerate (by decide) (F.typeCall_enumerate_1 _) (F.newCall_enumerate_1 _) (fun ob => F.args_object_init_2 ob _) F.entry_enumerate_new (new_enumT t its n dc sl) ⟨ht, ?_⟩
  have sz : (s.heap.push { cls := .type "tuple_iterator", data := .fields #[.ref t, .int 0 0] }).objs.size = s.heap.objs.size + 1 := Heap.size_push ..
  show _ ∧ _
  rw [sz]
  have en : IsEnum ((s.heap.push { cls := .type "tuple_iterator", data := .fields #[.ref t, .int 0 0] }).push { cls := .type "enumerate", data := .fields #[.none, .bool false, .ref s.heap.objs.size, rawInt 0, .none, .none] })
      (s.heap.objs.size + 1) s.heap.objs.size 0 .none := by
    have z := Heap.get?_push_size (s.heap.push { cls := .type "tuple_iterator", data := .fields #[.ref t, .int 0 0] }) (o := { cls := .type "enumerate", data := .fields #[.none, .bool false, .ref s.heap.objs.size, rawInt 0, .none, .none] }) rfl
    rw [sz] at z
    exact z
  exact ⟨⟨_, en, rfl⟩, q _ en ⟨_, Heap.get?_push_of_some _ (Heap.get?_push_size _ rfl), rfl, rfl⟩ fun b o x => Heap.get?_push_of_some _ (Heap.get?_push_of_some _ x)⟩
end
end PySem
namespace L2
open PySem PySem.Spec PyProof.Rows
/-- the tuple at a, each item in a new pair behind its index -/
def IteT (K : PySem.W.Frag) (a : Addr) : It :=
  ⟨fun i H => ∃ (ys : List V) (y : V), SqT K H a ys ∧ ys[i]? = some y, fun i H v H' => ∃ p y, v = .ref p ∧ H p = none ∧ H' = upd H p (.tup [.int (i : Nat), y]) ∧ ∀ ys, SqT K H a ys → ys[i]? = some y,
    fun i H => ∃ ys : List V, SqT K H a ys ∧ ys.length = i⟩
theorem turn_enumT {P : Program} {w : World} {K : PySem.W.Frag} {elts : List Expr} {kk : Nat} {tp : Pos} (a e it : Addr) :
    Turn P w K (.Tuple elts kk tp) (IteT K a) [e, it] e (fun i h => (∃ old, IsEnum h e it ((i : Nat) : Int) old) ∧ h.IsTupleIter it a i ∧ (e ≠ it ∧ a ≠ it ∧ a ≠ e)) where
  mem := by simp
  obj := fun i h st b hb => by
    obtain ⟨⟨old, he⟩, ⟨o, ho, _, dd⟩, _⟩ := st
    rcases (show b = e ∨ b = it by simpa using hb) with rfl | rfl
    · exact ⟨_, he, fun v z => nomatch z⟩
    · exact ⟨o, ho, fun v z => by rw [dd] at z; exact nomatch z⟩
  keep := fun i h h' st k => by
    obtain ⟨⟨old, he⟩, ⟨o, ho, r⟩, ne⟩ := st
    exact ⟨⟨old, k e (by simp) _ he⟩, ⟨o, k it (by simp) _ ho, r⟩, ne⟩
  item := by
    intro X hP hw hK hc i pins s σ H E I hf st hg
    subst hP hw hK
    obtain ⟨⟨old, he⟩, hit, ne, nai, nae⟩ := st
    obtain ⟨ys, y, hq, hy⟩ := hg
    obtain ⟨its, rv, p, hz⟩ := I.tuple hq
    obtain ⟨u, hu, ru⟩ := rv.get hy
    have szE : e < s.heap.objs.size := Heap.lt_size he
    have szI : it < s.heap.objs.size := by
      obtain ⟨_, z, _⟩ := hit
      exact Heap.lt_size z
    have small : ∀ b ∈ [e, it], b < s.heap.objs.size := fun b hb => by
      rcases (show b = e ∨ b = it by simpa using hb) with rfl | rfl <;> assumption
    have D := Draws.tuple (prog := X.prog) (w := X.w) (A := X.A.in1) (I.ok.hd hc) it a nai its.toArray
    have hlt : i < its.toArray.size := by
      have := (List.getElem?_eq_some_iff.mp hu).1
      simpa using this
    refine wpAny_pyNext_enum_itemD D he ⟨hit, p⟩ hlt ne (by simp only [List.mem_cons, List.not_mem_nil, or_false, not_or]; exact ⟨ne, Ne.symm nae⟩) fun x h' tk hx ho st2 hT hsz hk => ?_
    obtain ⟨hit2, _⟩ := st2
    have ex : x = u := by
      have h2 : its.toArray[i]? = some u := by simpa using hu
      rw [h2] at hx
      exact (Option.some.inj hx).symm
    subst ex
    refine ⟨_, rfl, wpAny_letOwnedTupleGo_enum (s := { s with heap := h', toks := tk + 1 }) ho fun h'' he' sb => ?_⟩
    have hT2 : h''.get? s.heap.objs.size = some { cls := .type "tuple", data := .seq #[.int i tk, x] } := (sb.2 _ (Nat.ne_of_gt szE)).trans hT
    have okN : ObjOk X.prog X.w (upd H s.heap.objs.size (.tup [.int (i : Nat), y])) h'' s.heap.objs.size (.tup [.int (i : Nat), y]) :=
      ⟨by show 2 ≤ sizeLine; decide, [.int i tk, x], .cons ⟨_, rfl⟩ (.cons ru .nil), ⟨_, hT2, rfl, _, rfl⟩⟩
    have J : Inv X pins σ (upd H s.heap.objs.size (.tup [.int (i : Nat), y])) { s with heap := h'', toks := tk + 1 } :=
      I.turnedNew (ch := [e, it]) (fun b ob hb z => (sb.2 b (fun y => hb (by simp [y]))).trans (hk b ob (fun y => hb (by simp [y])) (fun y => hb (by simp [y])) z)) hf (Nat.le_refl _) okN
    refine ⟨.ref s.heap.objs.size, _, J, rfl, ⟨_, y, rfl, I.hok.fresh (Nat.le_refl _), rfl, fun zs hs => by rw [I.tuple_inj hs hq]; exact hy⟩, ⟨⟨x, ?_⟩, ?_, ne, nai, nae⟩, fun b hb => ?_⟩
    · rw [show ((i + 1 : Nat) : Int) = (i : Int) + 1 by omega]
      exact he'
    · obtain ⟨o, ho2, r⟩ := hit2
      exact ⟨o, (sb.2 it (Ne.symm ne)).trans ho2, r⟩
    · rw [upd_ne (Nat.ne_of_lt (small b hb))]
      exact (hf b hb).1
  done := by
    intro X hP hw hK hc i pins s σ H E I hf st hg
    subst hP hw hK
    obtain ⟨⟨old, he⟩, hit, ne, nai, nae⟩ := st
    obtain ⟨ys, hq, hle⟩ := hg
    obtain ⟨its, rv, p, hz⟩ := I.tuple hq
    have len : its.toArray.size = i := by
      have := rv.length
      simp
      omega
    obtain ⟨g0, g1, _, g3, g4, g5⟩ := hf it (by simp)
    rw [← len] at hit
    have D := Draws.tuple (prog := X.prog) (w := X.w) (A := X.A.in1) (I.ok.hd hc) it a nai its.toArray
    exact wpAny_pyNext_enum_endD D he ⟨hit, p⟩ fun h' eb => ⟨rfl, I.turned (t' := s.toks) (fun b o hb z => eb b o hb z) g0 g1 g3 g4 g5⟩
  self := fun A i s Q E st h => by
    obtain ⟨⟨_, he⟩, _⟩ := st
    exact wpAny_pyIter_enum he h
def iEnumT (K : PySem.W.Frag) (ta : TA) : TI := fun σ H R => ta σ H fun vs H1 => ∃ a ys, vs = [.ref a] ∧ SqT K H1 a ys ∧ R (IteT K a) H1
theorem pi_enumT {X : Cx} {e : Expr} {ta : TA} {p pos tp : Pos} {elts : List Expr} {kk : Nat} (hg : Gl X "enumerate") (hm : X.mg "enumerate" = none) (ha : PA X [e] ta) (hs : starEach [e] X.env = [(false, eval e X.env)] := by rfl) :
    PI X (.Tuple elts kk tp) (.Call (.Name "enumerate" p) [e] [] pos) (iEnumT X.K ta) := by
  refine ⟨fun pins s σ H R I h => Call_ (ld_blt I hg hm boot_enumerate (PyProof.Rows.callWith_type1 (thn (ha.run pos pins s σ H _ I h) fun us s1 ⟨vs, H1, I1, r1, q1⟩ => ?_) hs rfl))⟩
  obtain ⟨a, ys, rfl, hq, q⟩ := q1
  cases r1 with
  | cons r rr =>
    cases rr
    cases r
    obtain ⟨its, rv, p', hz⟩ := I1.tuple hq
    have hp' : s1.heap.IsTuple a its.toArray := p'
    have old : a < s1.heap.objs.size := by
      obtain ⟨o, ho, _⟩ := hp'
      exact Heap.lt_size ho
    refine call_enumT hp' fun h' he hit hk => wpAny_pyIter_enum he ?_
    refine ⟨s1.heap.objs.size + 1, [s1.heap.objs.size + 1, s1.heap.objs.size], _, _, H1, rfl, I1.kept (t' := s1.toks) hk, turn_enumT a (s1.heap.objs.size + 1) s1.heap.objs.size,
      ⟨⟨.none, he⟩, hit, Nat.succ_ne_self _, Nat.ne_of_lt old, Nat.ne_of_lt (Nat.lt_succ_of_lt old)⟩, fun b hb => ?_, q⟩
    have hle : s1.heap.objs.size ≤ b := by
      rcases (show b = s1.heap.objs.size + 1 ∨ b = s1.heap.objs.size by simpa using hb) with rfl | rfl
      · exact Nat.le_succ _
      · exact Nat.le_refl _
    exact I1.fpOk hle (I1.hok.fresh hle)
theorem walk_enumT {K : PySem.W.Frag} {a : Addr} {xs : List V} : Walk (IteT K a) xs.length (fun H => SqT K H a xs) (YPair (fun i => some (.int (i : Nat))) (fun i => xs[i]?)) :=
  ⟨fun i H hi h => ⟨xs, _, h, List.getElem?_eq_getElem hi⟩, fun H h => ⟨xs, h, rfl⟩, fun i H v H' hi h y => by
    obtain ⟨p, z, rfl, np, rfl, hz⟩ := y
    exact ⟨p, _, z, rfl, np, rfl, rfl, hz xs h⟩⟩
end L2

/-! ### max and min of a tuple of ints -/
namespace L2
open PySem PySem.Spec PyProof.Rows
theorem readsAll_ints {h : Heap} : ∀ {ns : List Int} {its : List Value}, Vals (ns.map V.int) its → ReadsAll h its (ns.map PyData.int) []
  | [], _, .nil => .nil
  | n :: ns, _, .cons r t => by
    obtain ⟨k, rfl⟩ := r
    exact .cons (.int n k) (readsAll_ints t)
theorem alikeAll_ints (ns : List Int) : PySem.W.AlikeAll (ns.map PyData.int) := by
  refine ⟨fun x hx y hy => ?_, fun x hx => ?_⟩
  · obtain ⟨a, _, rfl⟩ := List.mem_map.mp hx
    obtain ⟨b, _, rfl⟩ := List.mem_map.mp hy
    simp [PySem.W.alike]
  · obtain ⟨a, _, rfl⟩ := List.mem_map.mp hx
    exact fun z => nomatch z
theorem depthAll_ints : ∀ ns : List Int, PyData.depthAll (ns.map PyData.int) = 0
  | [] => by simp [PyData.depthAll]
  | _ :: ns => by simp [PyData.depthAll, PyData.depth, depthAll_ints ns]
theorem foldl_max (x : Int) : ∀ xs : List Int, xs.foldl max x ∈ x :: xs ∧ ∀ y ∈ x :: xs, y ≤ xs.foldl max x := by
  intro xs
  induction xs generalizing x with
  | nil => exact ⟨List.mem_cons_self, fun y hy => by rw [List.mem_singleton.mp hy]; exact Int.le_refl _⟩
  | cons a xs ih =>
    obtain ⟨h1, h2⟩ := ih (max x a)
    rw [List.foldl_cons]
    have h3 := h2 _ List.mem_cons_self
    refine ⟨?_, fun y hy => ?_⟩
    · rcases List.mem_cons.mp h1 with e | e
      · rw [e]
        by_cases c : x ≤ a
        · rw [show max x a = a by omega]
          exact List.mem_cons_of_mem _ List.mem_cons_self
        · rw [show max x a = x by omega]
          exact List.mem_cons_self
      · exact List.mem_cons_of_mem _ (List.mem_cons_of_mem _ e)
    · rcases List.mem_cons.mp hy with rfl | hy
      · omega
      · rcases List.mem_cons.mp hy with rfl | hy
        · omega
        · exact h2 y (List.mem_cons_of_mem _ hy)
theorem foldl_min (x : Int) : ∀ xs : List Int, xs.foldl min x ∈ x :: xs ∧ ∀ y ∈ x :: xs, xs.foldl min x ≤ y := by
  intro xs
  induction xs generalizing x with
  | nil => exact ⟨List.mem_cons_self, fun y hy => by rw [List.mem_singleton.mp hy]; exact Int.le_refl _⟩
  | cons a xs ih =>
    obtain ⟨h1, h2⟩ := ih (min x a)
    rw [List.foldl_cons]
    have h3 := h2 _ List.mem_cons_self
    refine ⟨?_, fun y hy => ?_⟩
    · rcases List.mem_cons.mp h1 with e | e
      · rw [e]
        by_cases c : x ≤ a
        · rw [show min x a = x by omega]
          exact List.mem_cons_self
        · rw [show min x a = a by omega]
          exact List.mem_cons_of_mem _ List.mem_cons_self
      · exact List.mem_cons_of_mem _ (List.mem_cons_of_mem _ e)
    · rcases List.mem_cons.mp hy with rfl | hy
      · omega
      · rcases List.mem_cons.mp hy with rfl | hy
        · omega
        · exact h2 y (List.mem_cons_of_mem _ hy)
def rMaxTI (K : PySem.W.Frag) : List V → Hp → VK → Prop := fun vs H Q => ∃ (a : Addr) (ns : List Int), vs = [V.ref a] ∧ SqT K H a (ns.map V.int) ∧ 0 < ns.length ∧ ∀ m, m ∈ ns → (∀ y, y ∈ ns → y ≤ m) → Q (.int m) H
def rMinTI (K : PySem.W.Frag) : List V → Hp → VK → Prop := fun vs H Q => ∃ (a : Addr) (ns : List Int), vs = [V.ref a] ∧ SqT K H a (ns.map V.int) ∧ 0 < ns.length ∧ ∀ m, m ∈ ns → (∀ y, y ∈ ns → m ≤ y) → Q (.int m) H
section
variable {X : Cx}
theorem cr_maxTI (hc : X.calm = true) (hu : X.A.units + 64 < cLine) : CallR X (.builtin "max") (rMaxTI X.K) := by
  intro pins s σ H vs us Q I r h
  obtain ⟨a, ns, rfl, hs, hne, q⟩ := h
  obtain ⟨its, rv, hl, _⟩ := I.tuple hs
  rw [Vals.ref1 r]
  cases ns with
  | nil => exact absurd hne (Nat.lt_irrefl 0)
  | cons x xs =>
    have hr : ReadsAll s.heap its.toArray.toList (PyData.int x :: xs.map PyData.int) [] := readsAll_ints rv
    refine PySem.W.max_tuple_data (I.ok.hd hc) hl hr (alikeAll_ints (x :: xs)) (by rw [show PyData.int x :: xs.map PyData.int = (x :: xs).map PyData.int from rfl, depthAll_ints]; omega) fun i v h' tk bs _ hv hk => ?_
    rw [PySem.W.maxD_ints] at hv
    obtain ⟨m1, m2⟩ := foldl_max x xs
    cases hv
    exact ⟨.int _, H, I.kept hk, ⟨_, rfl⟩, q _ m1 m2⟩
theorem cr_minTI (hc : X.calm = true) (hu : X.A.units + 64 < cLine) : CallR X (.builtin "min") (rMinTI X.K) := by
  intro pins s σ H vs us Q I r h
  obtain ⟨a, ns, rfl, hs, hne, q⟩ := h
  obtain ⟨its, rv, hl, _⟩ := I.tuple hs
  rw [Vals.ref1 r]
  cases ns with
  | nil => exact absurd hne (Nat.lt_irrefl 0)
  | cons x xs =>
    have hr : ReadsAll s.heap its.toArray.toList (PyData.int x :: xs.map PyData.int) [] := readsAll_ints rv
    refine PySem.W.min_tuple_data (I.ok.hd hc) hl hr (alikeAll_ints (x :: xs)) (by rw [show PyData.int x :: xs.map PyData.int = (x :: xs).map PyData.int from rfl, depthAll_ints]; omega) fun i v h' tk bs _ hv hk => ?_
    rw [PySem.W.minD_ints] at hv
    obtain ⟨m1, m2⟩ := foldl_min x xs
    cases hv
    exact ⟨.int _, H, I.kept hk, ⟨_, rfl⟩, q _ m1 m2⟩
end
end L2

/-! ### str(data), and calls of defs that show data, where nothing is being shown -/
namespace L2
open PySem PySem.Spec PyProof.Rows
def rStrD (K : PySem.W.Frag) : List V → Hp → VK → Prop := fun xs H Q => ∃ a d, xs = [.ref a] ∧ Dp K H (.ref a) d ∧ SeqAt.shaped d = true ∧ d.showable = true ∧ wt d ≤ sizeLine ∧ Q (.str d.shown) H
theorem cr_strD {X : Cx} {K : PySem.W.Frag} (hK : X.K = K) (hg : X.A.guards = some []) (hu : X.A.units + 67 < cLine) : CallR X (.type "str") (rStrD K) := by
  subst hK
  intro pins s σ H vs us Q I r h
  obtain ⟨a, d, rfl, hd, hs, hw, hz, q⟩ := h
  cases r with
  | cons rv rn =>
    rename_i v us'
    cases rn
    have hs' : (d.canLay0 && decide (d.depth ≤ 64)) = true := hs
    rw [Bool.and_eq_true] at hs'
    have nd := PyData.hasDict_of_canLay d hs'.1
    have dep : d.depth ≤ 64 := of_decide_eq_true hs'.2
    have sz := Nat.le_trans (shown_wt d hw nd) hz
    obtain ⟨as, rd⟩ := Dp.reads I d (.ref a) v hd rv
    cases rv
    exact str_of_reads rd hw (PyData.noDict_hsm nd) hg (by omega) (fun _ _ e => e) (fun h' u tk hk => ⟨.str _, H, I.kept (t' := tk) hk, ⟨u, rfl⟩, q⟩) sz
section
variable {X : Cx} {k : Nat} {f : Addr} {fd : FuncData} {ps : List Str} {sp : Sp} {ds : List Value} {dvs : List V}
theorem run_fnG {pins : List (Addr × Obj)} {σ : St} {H : Hp} {s : Shared} {Q : VK} {us : List Value} {vs : List V} (hgu : X.A.guards = some []) (F : FnG X.prog X.w X.K X.mg X.base k f fd ps sp) (hr : Room k X.A) (hb : Binds X.K fd ps ds) (hd : Vals dvs ds)
    (I : Inv X pins σ H s) (r : Vals vs us) (h : sp (vs ++ dvs) H Q E0) : wpAny (model X.prog X.w) X.A (call (.ref f) us) (EP X pins σ Q) X.xe s := by
  have r2 : Vals (vs ++ dvs) (us ++ ds) := r.append hd
  have hl : (us ++ ds).length = ps.length := by rw [← r2.length]; exact F.len _ _ _ _ h
  refine wpAny_call (codeAny_mono (F.run X.A X.stack s H ⟨us, []⟩ (us ++ ds) (vs ++ dvs) Q E0 hgu hr I.env0 (hb s us I.kIn hl) r2 h) fun r s' hq => ?_)
  cases r with
  | error e => exact pass0 pins σ H s e s' I hq
  | ok fl =>
    cases fl with
    | ret u => exact I.after hq
    | next => exact False.elim hq
    | brk => exact False.elim hq
    | cont => exact False.elim hq
theorem pe_callG {x : Str} {e : Expr} {es : List Expr} {p pos : Pos} {t : TA} (hgu : X.A.guards = some []) (F : FnG X.prog X.w X.K X.mg X.base k f fd ps sp) (hr : Room k X.A) (hg : Gl X x) (hm : X.mg x = some (.ref f)) (hk : PySem.W.keepIn X.K (.ref f) = true) (hb : Binds X.K fd ps ds) (hd : Vals dvs ds)
    (ha : PA X (e :: es) t) (hdb : (x == ("__debug__" : Str)) = false := by decide) (he : starEach (e :: es) X.env = (false, eval e X.env) :: starEach es X.env := by rfl) (hpl : (backTo pos (starEach es X.env)).any (·.1) = false := by rfl) :
    PE X (.Call (.Name x p) (e :: es) [] pos) (tCall sp dvs E0 t) := by
  refine ⟨fun pins s σ H Q I h => ?_⟩
  refine wpAny_Call_Name_kw (ld_glob I hg hm ?_ hdb)
  refine PySem.W.callWith_K (h₀ := X.base) I.ok.mod.kin hk (thn (ha.run pos pins s σ H _ I h) fun us s1 ⟨vs, H1, I1, r, q⟩ => ⟨I1.kIn, ?_⟩) he hpl
  exact run_fnG hgu F hr hb hd I1 r q
end
end L2

/-! ### fe(e, ..), fe an expression that gives one of several defs -/
namespace L2
open PySem PySem.Spec PyProof.Rows
structure HeldX (P : Program) (w : World) (K : PySem.W.Frag) (mg : Str → Option Value) (base : Heap) (CX : CXT) (k : Nat) (f : Addr) (sp : Sp) : Prop where
  ex : ∃ (fd : FuncData) (ps : List Str), FnOk P w K mg base CX k f fd ps sp ∧ PySem.W.keepIn K (.ref f) = true ∧ Binds K fd ps []
def tCallE (S : Addr → Option Sp) (E : St → XK) (tf : TE) (t : TA) : TE := fun σ H Q => tf σ H fun y H1 => ∃ f sp, y = V.ref f ∧ S f = some sp ∧ t σ H1 fun vs H2 => sp vs H2 Q (E σ)
section
variable {X : Cx} {CX : CXT} {k : Nat} {E : St → XK} {p pos : Pos} {fe e : Expr} {es : List Expr} {tf : TE} {t : TA}
theorem pe_callE {S : Addr → Option Sp} (hf : PE X fe tf) (A : ∀ f sp, S f = some sp → HeldX X.prog X.w X.K X.mg X.base CX k f sp) (hr : Room k X.A) (hx : ∀ σ, PassesAt CX X σ (E σ)) (ha : PA X (e :: es) t)
    (ht : eval (.Call fe (e :: es) [] pos) X.env = (do callWith pos (← eval fe X.env) [] (backTo pos (starEach (e :: es) X.env)) (backToKw pos (keywordEach [] X.env))) := by rfl)
    (he : starEach (e :: es) X.env = (false, eval e X.env) :: starEach es X.env := by rfl) (hpl : (backTo pos (starEach es X.env)).any (·.1) = false := by rfl) : PE X (.Call fe (e :: es) [] pos) (tCallE S E tf t) := by
  refine ⟨fun pins s σ H Q I h => ?_⟩
  refine Call_ (thn (hf.run pins s σ H _ I h) fun u s1 ⟨y, H1, I1, ry, f, sp, ey, hS, q⟩ => ?_) ht
  subst ey
  obtain rfl : u = Value.ref f := ry
  obtain ⟨fd, ps, F, hk, hb⟩ := (A f sp hS).ex
  refine PySem.W.callWith_K (h₀ := X.base) I.ok.mod.kin hk (thn (ha.run pos pins s1 σ H1 _ I1 q) fun us s2 ⟨vs, H2, I2, r, q2⟩ => ⟨I2.kIn, ?_⟩) he hpl
  exact run_fnS F hr hb (hx σ) I2 r q2
end
end L2

/-! ### factorial, comb -/
namespace L2
open PySem PySem.Spec PyProof.Rows
def rFac : List V → Hp → VK → Prop := fun xs H Q => ∃ a : Int, xs = [.int a] ∧ 0 ≤ a ∧ a ≤ 20000 ∧ Q (.int ((Builtin.Math.factorialNat a.toNat : Nat) : Int)) H
theorem cr_fac {X : Cx} : CallR X (.builtin "math.factorial") rFac := by
  intro pins s σ H vs us Q I r h
  obtain ⟨a, rfl, h0, h1, q⟩ := h
  obtain ⟨w1, rfl, t, rfl⟩ := vals1 r
  exact PySem.W.mc_factorial h0 h1 fun _ => ⟨.int _, H, I.tok _, ⟨_, rfl⟩, q⟩
def rComb : List V → Hp → VK → Prop := fun xs H Q => ∃ a b : Int, xs = [.int a, .int b] ∧ 0 ≤ a ∧ 0 ≤ b ∧ a ≤ 18000 ∧ Q (.int (PySem.W.mcComb a b)) H
theorem cr_comb {X : Cx} : CallR X (.builtin "math.comb") rComb := by
  intro pins s σ H vs us Q I r h
  obtain ⟨a, b, rfl, h0, h1, h2, q⟩ := h
  obtain ⟨t, u, rfl⟩ := Vals.int2 r
  have big : (18000 : Int) < 2 ^ 64 := by decide
  exact PySem.W.mc_comb h0 h1 (by omega) (.inr h2) fun _ => ⟨.int _, H, I.tok _, ⟨_, rfl⟩, q⟩
end L2

/-! ### max(list of ints, default=d) -/
namespace L2
open PySem PySem.Spec PyProof.Rows
def rMaxDef (K : PySem.W.Frag) : List V → List V → Hp → VK → Prop := fun xs zs H Q => ∃ (a : Addr) (ns : List Int) (d : Int), xs = [.ref a] ∧ zs = [.int d] ∧ SqL K H a (ns.map V.int) ∧ (ns = [] → Q (.int d) H) ∧ ∀ m, m ∈ ns → (∀ y, y ∈ ns → y ≤ m) → Q (.int m) H
theorem cr_maxDef {X : Cx} {K : PySem.W.Frag} (hK : X.K = K) (hc : X.calm = true) (hu : X.A.units + 64 < cLine) : CallRK X (.builtin "max") [Str.ofString "default"] (rMaxDef K) := by
  subst hK
  intro pins s σ H vs zs us ws Q I r rz h
  obtain ⟨a, ns, d, rfl, rfl, hs, q0, q1⟩ := h
  obtain rfl := Vals.ref1 r
  obtain ⟨w1, rfl, t, rfl⟩ := vals1 rz
  obtain ⟨its, rv, hl, _⟩ := I.list hs
  have hr : ReadsAll s.heap its.toArray.toList (ns.map PyData.int) [] := readsAll_ints rv
  refine PySem.W.max_list_default (I.ok.hd hc) hl.isList hr (alikeAll_ints ns) (by rw [depthAll_ints]; omega) (fun e h' tk hk => ⟨.int d, H, I.kept hk, ⟨_, rfl⟩, q0 (List.map_eq_nil_iff.mp e)⟩) fun y ys i v h' tk bs e _ hv hk => ?_
  cases ns with
  | nil => exact nomatch e
  | cons x xs =>
    obtain ⟨rfl, rfl⟩ := List.cons.inj e
    rw [PySem.W.maxD_ints] at hv
    obtain ⟨m1, m2⟩ := foldl_max x xs
    cases hv
    exact ⟨.int _, H, I.kept hk, ⟨_, rfl⟩, q1 _ m1 m2⟩
end L2

/-! ### walks of comprehensions with two fors -/
namespace L2
open PySem PySem.Spec PyProof.Rows
theorem walkD_list {K : PySem.W.Frag} {a : Addr} {xs : List V} {H0 : Hp} {Qd : Hp → Prop} {body : V → Hp → (Hp → Prop) → Prop} (Pv : Nat → Hp → Prop) (h0 : Pv 0 H0) (hl : ∀ i H, Pv i H → SqL K H a xs)
    (step : ∀ i x H, xs[i]? = some x → Pv i H → body x H (Pv (i + 1))) (last : ∀ H, Pv xs.length H → Qd H) :
    ∃ W : Nat → Nat → Hp → Prop, (∃ m, W 0 m H0) ∧ ∀ i m H, W i m H → ((Itl K a).stop i H ∧ Qd H) ∨ ((Itl K a).go i H ∧ ∃ Nx : Hp → Prop, (∀ H', Nx H' → ∃ m', m' < m ∧ W (i + 1) m' H') ∧ ∀ x H', (Itl K a).yld i H x H' → body x H' Nx) := by
  refine ⟨fun i m H => i + m = xs.length ∧ Pv i H, ⟨xs.length, Nat.zero_add _, h0⟩, fun i m H ⟨em, p⟩ => ?_⟩
  have sq := hl i H p
  cases m with
  | zero =>
    have e : i = xs.length := em
    exact .inl ⟨⟨xs, sq, by omega⟩, last H (e ▸ p)⟩
  | succ m =>
    have lt : i < xs.length := by omega
    refine .inr ⟨⟨xs, xs[i], sq, List.getElem?_eq_getElem lt⟩, Pv (i + 1), fun H' p' => ⟨m, Nat.lt_succ_self m, by omega, p'⟩, fun x H' ⟨eH, y⟩ => ?_⟩
    rw [eH]
    exact step i x H (y xs sq) p
theorem walkD_range {lo : Int} {n : Nat} {H0 : Hp} {Qd : Hp → Prop} {body : V → Hp → (Hp → Prop) → Prop} (Pv : Nat → Hp → Prop) (h0 : Pv 0 H0)
    (step : ∀ i H, i < n → Pv i H → body (.int (lo + (i : Nat))) H (Pv (i + 1))) (last : ∀ H, Pv n H → Qd H) :
    ∃ W : Nat → Nat → Hp → Prop, (∃ m, W 0 m H0) ∧ ∀ i m H, W i m H → ((Itr lo n).stop i H ∧ Qd H) ∨ ((Itr lo n).go i H ∧ ∃ Nx : Hp → Prop, (∀ H', Nx H' → ∃ m', m' < m ∧ W (i + 1) m' H') ∧ ∀ x H', (Itr lo n).yld i H x H' → body x H' Nx) := by
  refine ⟨fun i m H => i + m = n ∧ Pv i H, ⟨n, Nat.zero_add _, h0⟩, fun i m H ⟨em, p⟩ => ?_⟩
  cases m with
  | zero =>
    have e : i = n := em
    exact .inl ⟨Nat.le_of_eq e.symm, last H (e ▸ p)⟩
  | succ m =>
    have lt : i < n := by omega
    refine .inr ⟨lt, Pv (i + 1), fun H' p' => ⟨m, Nat.lt_succ_self m, by omega, p'⟩, fun x H' ⟨eH, y⟩ => ?_⟩
    rw [eH, y]
    exact step i H lt p
end L2

/-! ### a plain list comprehension over a list within an except suite; defs whose errors have no context -/
namespace HotX
open PySem PySem.Spec PyProof.Rows
variable {prog : Program} {w : World} {A : Around} {E : Value → Shared → Prop} {s : Shared}
theorem list_over_hot {it l x1 : Addr} {i : Nat} {items : Array Value} {Q : Option Value → Shared → Prop} (hot : HotAt A x1 s.heap) (hit : s.heap.IsListIter it l i) (hl : s.heap.IsList l items) (hx : items[i]? = none)
    (hQ : ∀ h', (∀ b o, b ≠ it → s.heap.get? b = some o → h'.get? b = some o) → Q none { s with heap := h' }) : wpAny (model prog w) A (pyNext (.ref it)) Q E s := by
  obtain ⟨oi, gi, ci, di⟩ := id hit
  obtain ⟨ol, gl, _, nl, dl⟩ := hl
  obtain ⟨hh, o1, vs1, g1, d1, c1⟩ := hot
  have ne1 : x1 ≠ it := fun z => by
    rw [z, gi] at g1
    obtain rfl := Option.some.inj g1
    rw [di] at d1
    obtain rfl := Data.fields.inj d1
    exact nomatch (show (some (Value.none) : Option Value) = _ from c1.symm)
  unfold pyNext
  apply wpAny_bind
  apply wpAny_attempt
  apply wpAny_callSpecial?_slot (name := Str.ofString "__next__") hit.typeIs slot_listiter_next
  apply wpAny_call_entry slot_listiter_next hit.typeIs entry_listiter_next ?_ (args_listiter_next _)
  show wpAny _ _ (field (Value.ref it) 0 >>= _) _ _ s
  apply wpAny_bind
  apply wpAny_field gi di (x := Value.ref l) rfl
  show wpAny _ _ (if (Value.ref l == Value.none) = true then _ else _) _ _ s
  rw [if_neg (by exact Bool.false_ne_true)]
  show wpAny _ _ (field (Value.ref it) 1 >>= _) _ _ s
  apply wpAny_bind
  apply wpAny_field gi di (x := Value.int i 0) rfl
  show wpAny _ _ (seqItems? (Value.ref l) >>= _) _ _ s
  apply wpAny_bind
  apply wpAny_seqItems gl dl
  simp only [Int.toNat_natCast, hx]
  apply wpAny_bind
  apply wpAny_rule
  apply wpAny_bind
  apply wpAny_setField gi di (by simp)
  show wpAny _ _ (newExc (Value.type "StopIteration") [] >>= _) _ _ _
  apply wpAny_bind
  simp only [newExc, newTuple]
  apply wpAny_bind
  apply wpAny_newObj_type (hd := by size_fits)
  apply wpAny_bind
  apply wpAny_of_eq (a := Value.none) (by first | rfl | exact rfl)
  apply wpAny_newObj_type (hd := by size_fits)
  have k1 : (s.heap.update it (Obj.mapFields fun x => x.setIfInBounds 0 Value.none)).get? x1 = some o1 := (Heap.get?_update_other _ _ ne1.symm).trans g1
  have k2 : ∀ o o' : Obj, (((s.heap.update it (Obj.mapFields fun x => x.setIfInBounds 0 Value.none)).push o).push o').get? x1 = some o1 := fun o o' => Heap.get?_push_of_some _ (Heap.get?_push_of_some _ k1)
  have k3 := fun o o' => Heap.lt_size (k2 o o')
  refine raiseNew_hot (A := A.in1) (x1 := x1) ⟨hh, o1, vs1, k2 _ _, d1, c1⟩ (Nat.ne_of_lt (Heap.lt_size (Heap.get?_push_of_some _ k1))) (Heap.get?_push_size _ rfl) rfl (by first | (simp; done) | (simp; omega)) ?_
  apply wpAny_bind
  refine wpAny_isInstance (b := true) (T := "StopIteration") ⟨_, Heap.get?_update_self _ (Heap.get?_push_size _ rfl) rfl, rfl⟩ isSubtype_stop (wpAny_pure (hQ _ fun b o nb e => ?_))
  have e1 := (Heap.get?_update_other s.heap (Obj.mapFields fun x => x.setIfInBounds 0 Value.none) (Ne.symm nb)).trans e
  have e2 := Heap.get?_push_of_some { cls := Value.type "tuple", data := Data.seq #[] } e1
  rw [Heap.get?_update_other _ _ (Nat.ne_of_gt (Heap.lt_size e2))]
  exact Heap.get?_push_of_some _ e2
end HotX
namespace L2
open PySem PySem.Spec PyProof.Rows HotX
/-- the except suite's own exception stands, its context is None -/
def HotS (X : Cx) : Prop := ∃ p : Addr × Obj, p ∈ X.pn ∧ X.A.handled = some (.ref p.1) ∧ ∃ vs : Array Value, p.2.data = .fields vs ∧ vs[2]? = some .none
/-- [e for y in xs], e without effect: f of each item -/
def tLcMap (K : PySem.W.Frag) (tl : TE) (g : TG) (te : TE) (vs : List Nat) : TE := fun σ H Q => tl σ H fun x H1 => ∃ (a : Addr) (xs : List V) (f : V → V), x = .ref a ∧ SqL K H1 a xs ∧ xs.length < sizeLine ∧
  (∀ y ∈ xs, ∀ H2 : Hp, g y (wipe σ vs) H2 fun σ2 H3 => wipe σ2 vs = wipe σ vs ∧ te σ2 H3 fun z H4 => z = f y ∧ H4 = H2) ∧ ∀ D, H1 D = none → Q (.ref D) (upd H1 D (.lst (xs.map f)))
theorem pe_lcMap {X : Cx} {elt tg iter : Expr} {scope : Scope} {own : List (Str × Nat)} {pos : Pos} {tl : TE} {g : TG} {te : TE} (hotX : HotS X) (nd : X.N.Nodup) (walked : PE X iter tl) (okb : BlkOk X.N X.env.scope scope own)
    (pgAll : ∀ (s : Shared) (H : Hp) (C : Addr) (cl : List (Str × Addr)) (fp : List Addr), PG (X.blk s H scope (compEnvC scope cl C X.env) fp) tg g)
    (peAll : ∀ (s : Shared) (H : Hp) (C : Addr) (cl : List (Str × Addr)) (fp : List Addr), PE (X.blk s H scope (compEnvC scope cl C X.env) fp) elt te)
    (fold : ∀ x, foldedSetIterable iter X.env x = pure x := by intro _; rfl) : PE X (.ListComp elt [⟨tg, iter, [], 0⟩] scope pos) (tLcMap X.K tl g te (own.map (·.2))) := by
  refine ⟨fun pins s σ H Q I h => ?_⟩
  have frees : ∀ y ∈ scope.names, y.2 = .free → ∃ c, X.env.cells.lookup y.1 = some c := fun y hy e => (okb.free y hy e).elim (fun k => I.ok.has _ (.inl k)) (fun k => I.ok.has _ (.inr k))
  rw [eval_ListComp]
  refine wpAny_comprehension_free (use := none) rfl fold (closure_ok frees) okb.kind (fun y hy e => by rw [okb.uniq y hy, e]) (thn (walked.run pins s σ H _ I h) fun itv s1 gone => ?_)
  obtain ⟨x, H1, I1, rx, a, xs, f, rfl, sq, big, each, q⟩ := gone
  cases rx
  obtain ⟨its, vals, plain, _⟩ := I1.list sq
  have lenV : xs.length = its.length := vals.length
  refine wpAny_pyIter_list plain.isList ?_
  -- the iterator
  have I2 : Inv X pins σ H1 { s1 with heap := s1.heap.push { cls := .type "list_iterator", data := .fields #[.ref a, .int 0 0] } } := I1.kept (t' := s1.toks) fun b o e => Heap.get?_push_of_some _ e
  have fpI := I1.fpOk (H' := H1) (Nat.le_refl s1.heap.objs.size) (I1.hok.fresh (Nat.le_refl _))
  have itr : (s1.heap.push { cls := .type "list_iterator", data := .fields #[.ref a, .int 0 0] }).IsListIter s1.heap.objs.size a 0 := ⟨_, Heap.get?_push_size _ rfl, rfl, rfl⟩
  have plain2 : PlainL (s1.heap.push { cls := .type "list_iterator", data := .fields #[.ref a, .int 0 0] }) a its.toArray := by
    obtain ⟨o, n, e, r⟩ := plain
    exact ⟨o, n, Heap.get?_push_of_some _ e, r⟩
  have lt2 : s1.heap.objs.size < (s1.heap.push { cls := .type "list_iterator", data := .fields #[.ref a, .int 0 0] }).objs.size := by
    rw [Heap.size_push]
    exact Nat.lt_succ_self _
  generalize eit : s1.heap.objs.size = it at itr lt2 fpI ⊢
  generalize es2 : ({ s1 with heap := s1.heap.push { cls := .type "list_iterator", data := .fields #[.ref a, .int 0 0] } } : Shared) = s2 at I2 ⊢
  have itr : s2.heap.IsListIter it a 0 := by rw [← es2]; exact itr
  have plain2 : PlainL s2.heap a its.toArray := by rw [← es2]; exact plain2
  have lt2 : it < s2.heap.objs.size := by rw [← es2]; exact lt2
  clear es2 eit
  -- the new list
  apply wpAny_newObj_type (T := "list") (hd := by show 0 ≤ sizeLine; exact Nat.zero_le _)
  apply newEnv_comp
  have nD : H1 s2.heap.objs.size = none := I2.hok.fresh (Nat.le_refl _)
  have ne0 : it ≠ s2.heap.objs.size := Nat.ne_of_lt lt2
  have I3 : Inv X pins σ (upd H1 s2.heap.objs.size (.lst [])) { s2 with heap := s2.heap.push { cls := .type "list", data := .seq ([] : List Value).toArray } } :=
    I2.laid (t' := s2.toks) (fun b o e => Heap.get?_push_of_some _ e) (Nat.le_refl _) ⟨Nat.zero_le _, [], 0, .nil, Heap.get?_push_size _ rfl⟩
  have itr3 : (s2.heap.push { cls := .type "list", data := .seq ([] : List Value).toArray }).IsListIter it a 0 := by
    obtain ⟨o, e, c, d⟩ := itr
    exact ⟨o, Heap.get?_push_of_some _ e, c, d⟩
  have lt3 : it < (s2.heap.push { cls := .type "list", data := .seq ([] : List Value).toArray }).objs.size := by
    rw [Heap.size_push]
    exact Nat.lt_succ_of_lt lt2
  generalize s2.heap.objs.size = D at nD ne0 I3 ⊢
  have fp3 : FpOk X pins (upd H1 D (.lst [])) it := ⟨by rw [upd_ne ne0]; exact fpI.1, fpI.2⟩
  generalize es3 : ({ s2 with heap := s2.heap.push { cls := .type "list", data := .seq ([] : List Value).toArray } } : Shared) = s3 at I3 ⊢
  have itr3 : s3.heap.IsListIter it a 0 := by rw [← es3]; exact itr3
  have lt3 : it < s3.heap.objs.size := by rw [← es3]; exact lt3
  have ed : s3.drawn = s2.drawn ∧ s3.gens = s2.gens ∧ s3.toks = s2.toks ∧ s3.os = s2.os := by rw [← es3]; exact ⟨rfl, rfl, rfl, rfl⟩
  have frs3 : ∀ b ∈ [it], FpOk X pins (upd H1 D (.lst [])) b ∧ b < s3.heap.objs.size := fun b hb => by rw [List.mem_singleton.mp hb]; exact ⟨fp3, lt3⟩
  have I4 := block_start I3 okb nd frs3
  obtain ⟨hp, hpn, hah, hvs, hfd, hnn⟩ := hotX
  have pin3 := I3.pin hp (List.mem_append_left _ hpn)
  have nostk : hp.1 ∉ frs X.stack := fun hm => (List.mem_cons.mp (I3.stkSub hp.1 hm)).elim pin3.2.2.1 pin3.2.2.2.1
  have noit : hp.1 ≠ it := fp3.2.2.2.2.2 hp (List.mem_append_left _ hpn)
  clear es3
  have pg0 := pgAll s3 (upd H1 D (.lst [])) s3.heap.objs.size (cellsFrom (s3.heap.objs.size + 1) scope.names (cloFrom X.env.cells scope.names [])) [it]
  have pe0 := peAll s3 (upd H1 D (.lst [])) s3.heap.objs.size (cellsFrom (s3.heap.objs.size + 1) scope.names (cloFrom X.env.cells scope.names [])) [it]
  let ce := compEnvC scope (cellsFrom (s3.heap.objs.size + 1) scope.names (cloFrom X.env.cells scope.names [])) s3.heap.objs.size X.env
  have locs : ce.locals = s3.heap.objs.size := rfl
  have noC : upd H1 D (.lst []) s3.heap.objs.size = none := I3.hok.fresh (Nat.le_refl _)
  have fpC := I3.fpOk (H' := upd H1 D (.lst [])) (Nat.le_refl s3.heap.objs.size) noC
  have neDC : s3.heap.objs.size ≠ D := fun z => by
    rw [z, upd_same] at noC
    exact nomatch noC
  have noC1 : H1 s3.heap.objs.size = none := by
    rw [upd_ne neDC] at noC
    exact noC
  show codeAny _ _ (.compStart (.ListComp elt [⟨tg, iter, [], 0⟩] scope pos) 0 (.ref it) (.ref D) ce) (compPost (model X.prog X.w) X.A X.xe none (EP X pins σ Q) (.ref D) s3.heap.objs.size) _
  have itr4 : (pushCells (s3.heap.push { cls := .type "dict", data := .dict #[] }) scope.names).IsListIter it a 0 := by
    obtain ⟨o, e, c, d⟩ := itr3
    exact ⟨o, pushCells_keeps _ _ _ _ (Heap.get?_push_of_some _ e), c, d⟩
  generalize es4 : ({ s3 with heap := pushCells (s3.heap.push { cls := .type "dict", data := .dict #[] }) scope.names } : Shared) = s4 at I4 ⊢
  have itr4 : s4.heap.IsListIter it a 0 := by rw [← es4]; exact itr4
  clear es4
  have twice : ∀ (o o' : HO), upd (upd H1 D o) D o' = upd H1 D o' := fun o o' => by
    funext b
    by_cases e : b = D
    · rw [e, upd_same, upd_same]
    · rw [upd_ne e, upd_ne e, upd_ne e]
  have oldKept : ∀ o : HO, Same H1 (upd H1 D o) := fun o b u e => by rw [upd_ne (ne_of_none e nD)]; exact e
  have itFree : ∀ o : HO, upd H1 D o it = none := fun o => by rw [upd_ne ne0]; exact fpI.1
  have hotAt : ∀ {σ5 : St} {H5 : Hp} {s5 : Shared}, Inv (X.blk s3 (upd H1 D (.lst [])) scope ce [it]) [] σ5 H5 s5 → HotAt X.A hp.1 s5.heap := fun I5 =>
    ⟨hah, hp.2, hvs, I5.base.keep hp.1 hp.2 pin3.1 pin3.2.1 nostk (fun hm => noit (List.mem_singleton.mp hm)), hfd, hnn⟩
  have fixed : ∀ {σ5 : St} {H5 : Hp} {s5 : Shared}, Inv (X.blk s3 (upd H1 D (.lst [])) scope ce [it]) [] σ5 H5 s5 → H5 it = none → FpOk (X.blk s3 (upd H1 D (.lst [])) scope ce [it]) [] H5 it := fun I5 hn =>
    ⟨hn, (I5.ok.exf it List.mem_cons_self).1, I5.ok.exfs it List.mem_cons_self, .inl List.mem_cons_self, fun x c e => (I5.ok.exf it List.mem_cons_self).2 x c e, fun p hp => nomatch hp⟩
  have main : codeAny (model X.prog X.w) X.A (.compLoop (.ListComp elt [⟨tg, iter, [], 0⟩] scope pos) 0 (.ref it) (.ref D) ce) (compPost (model X.prog X.w) X.A X.xe none (EP X pins σ Q) (.ref D) s3.heap.objs.size) s4 := by
    refine compLoop_any (fun n s' => ∃ i, n = xs.length - i ∧ i ≤ xs.length ∧ Inv (X.blk s3 (upd H1 D (.lst [])) scope ce [it]) [] (wipe σ (own.map (·.2))) (upd H1 D (.lst ((xs.take i).map f))) s' ∧ s'.heap.IsListIter it a i) ?_ xs.length ⟨0, rfl, Nat.zero_le _, I4, itr4⟩
    rintro n s5 ⟨i, rfl, hi, I5, it5⟩
    obtain ⟨its5, vals5, plain5, _⟩ := I5.list (show SqL X.K _ a xs from (oldKept _).seq sq)
    obtain ⟨f0, f1, f2, f3, f4, f5⟩ := fixed I5 (itFree _)
    have len5 : xs.length = its5.length := vals5.length
    by_cases c : i < xs.length
    · obtain ⟨u, hu, ru⟩ := vals5.get (List.getElem?_eq_getElem c)
      refine wpAny_pyNext_list_item it5 plain5.isList (x := u) (by simpa using hu) fun h' next sb => ?_
      have I6 := I5.turned (h' := h') (t' := s5.toks) (fun b o hb e => (sb.2 b hb).trans e) f0 f1 f3 f4 f5
      obtain ⟨oi, ei, ci, di⟩ := next
      refine go_of (s := { s5 with heap := h' }) ei ci di (by decide) ?_
      have I6p := I6.pinned (fp := [it]) (fun b hb => by rw [List.mem_singleton.mp hb]; exact fixed I6 (itFree _)) (fun b hb => by rw [List.mem_singleton.mp hb]; exact ⟨oi, ei, fun v z => by rw [di] at z; cases z⟩)
      refine thnF (pg0.run _ _ _ _ xs[i] u _ I6p ru (each _ (List.getElem_mem c) _)) fun _ s7 ⟨σ7, H7, I7, hw, q7⟩ => ?_
      refine wpAny_tests_nil ?_
      rw [if_pos rfl]
      refine thnF (pe0.run _ s7 σ7 H7 _ I7 q7) fun z s8 ⟨yv, H8, I8, r8, ez, eH⟩ => ?_
      subst ez eH
      refine app_ok (X := X.blk s3 (upd H1 D (.lst [])) scope ce [it]) I8 upd_same (by rw [List.length_map, List.length_take]; omega) r8 fun s9 I9 => ?_
      have pinned := (I9.pin (it, oi) (List.mem_append_right _ (List.mem_append_right _ (mem_pinsAt List.mem_cons_self ei)))).1
      refine ⟨xs.length - (i + 1), by omega, i + 1, rfl, c, ?_, ⟨oi, pinned, ci, di⟩⟩
      have I10 := (I9.unpinned (pins := [])).weak (σ' := wipe σ (own.map (·.2))) (by rw [← hw, wipe_length]) fun j v e => by
        rw [← hw] at e
        exact (wipe_some e).1
      rw [twice, show (xs.take i).map f ++ [f xs[i]] = (xs.take (i + 1)).map f by rw [List.take_succ, List.getElem?_eq_getElem c, List.map_append]; rfl] at I10
      exact I10
    · obtain rfl : i = xs.length := by omega
      refine list_over_hot (hotAt I5) it5 plain5.isList (by simp; omega) fun h' kept => ?_
      have I6 := I5.turned (h' := h') (t' := s5.toks) kept f0 f1 f3 f4 f5
      have I7 : Inv X pins σ _ _ := I3.call' (ch := [it]) I6.os I6.base I6.hok I6.bare fun b hb => by
        have z := (frs3 b hb).1
        exact ⟨z.2.2.2.1, z.2.1, z.2.2.2.2.1, z.2.2.2.2.2⟩
      obtain ⟨m, hns, _⟩ := I6.loc
      obtain ⟨_, c1, c2, c3, c4, c5⟩ := fpC
      refine ⟨m, hns, fun h2 sb => ⟨.ref D, _, I7.turned (t' := s5.toks) (fun b o hb e => (sb.2 b hb).trans e) ?_ c1 c3 c4 c5, rfl, ?_⟩⟩
      · rw [upd_ne neDC]
        exact noC1
      · rw [List.take_length]
        exact q D nD
  exact codeAny_compStart_list main (wpAny_pyIter_listiter itr4 main)
end L2
namespace L2
open PySem PySem.Spec PyProof.Rows
/-- a def whose errors have no context -/
theorem Fun.okXN {P : Program} {w : World} {K : PySem.W.Frag} {mg : Str → Option Value} {base : Heap} {x qual : Str} {st : Stmt} {f : Addr} {fd : FuncData} {N ps : List Str} {k : Nat} {sp : Sp} (F : Fun K x qual st f fd) (S : FnScope N ps (defScope st))
    (len : ∀ vs H Q E, sp vs H Q E → vs.length = ps.length)
    (body : ∀ (cdv : Value) (A : Around) (outer : List Env) (s : Shared) (H : Hp) (vs : List V) (Q : VK) (E : XK), Room k (A.deeper (envOfC qual (defScope st) s.heap.objs.size f cdv)) → sp vs H Q E →
      ∃ t, PSs (cxOf (L2N.CX P w) P w K mg base N qual (defScope st) f cdv A outer s H E) (defBody st) t ∧ t { nx := fun _ H' => Q .non H', rt := Q } (start N vs) H) : FnOk P w K mg base (L2N.CX P w) (k + 1) f fd ps sp := by
  obtain ⟨_, _, _, _, _, _, _, _, _, rfl, known, coded⟩ := F.ex
  exact fn_of known coded S len fun A outer s H vs Q E room hsp => body _ A outer s H vs Q E room hsp
/-- what an except suite knows -/
theorem hotS_of {X : Cx} {a : Addr} {oe : Obj} {pn : List (Addr × Obj)} {cls : Value} {d : Option Addr} (hz : L2N.Zn cls d oe) (hf : ∃ vs, oe.data = .fields vs) : HotS (X.suite a ((a, oe) :: pn)) := by
  obtain ⟨vs, e⟩ := hf
  exact ⟨(a, oe), List.mem_cons_self, rfl, vs, e, hz.2.2 vs e⟩
end L2
namespace L2
open PySem PySem.Spec PyProof.Rows
theorem passLN {X : Cx} : Passes (L2N.CX X.prog X.w) X E0 := fun _ _ _ _ _ _ _ h => by
  obtain ⟨_, _, _, _, _, _, _, _, _, _, _, _, no⟩ := h
  exact no.elim
theorem takes0N {X : Cx} : L2N.Takes X (fun _ _ _ _ => False) := fun _ _ h => by
  obtain ⟨_, _, _, _, _, _, _, _, _, _, _, _, _, _, _, _, no⟩ := h
  exact no.elim
end L2
namespace L2
open PySem PySem.Spec PyProof.Rows
theorem pe_lcMapK {X : Cx} {K : PySem.W.Frag} {elt tg iter : Expr} {scope : Scope} {own : List (Str × Nat)} {pos : Pos} {tl : TE} {g : TG} {te : TE} (hK : X.K = K) (nd : X.N.Nodup) (walked : PE X iter tl) (okb : BlkOk X.N X.env.scope scope own)
    (pgAll : ∀ (s : Shared) (H : Hp) (C : Addr) (cl : List (Str × Addr)) (fp : List Addr), PG (X.blk s H scope (compEnvC scope cl C X.env) fp) tg g)
    (peAll : ∀ (s : Shared) (H : Hp) (C : Addr) (cl : List (Str × Addr)) (fp : List Addr), PE (X.blk s H scope (compEnvC scope cl C X.env) fp) elt te) (hotX : HotS X)
    (fold : ∀ x, foldedSetIterable iter X.env x = pure x := by intro _; rfl) : PE X (.ListComp elt [⟨tg, iter, [], 0⟩] scope pos) (tLcMap K tl g te (own.map (·.2))) := by
  subst hK
  exact pe_lcMap hotX nd walked okb pgAll peAll fold
end L2

/-! ### a def that is called, within an except suite, with the exception that the suite holds -/
namespace L2
open PySem PySem.Spec PyProof.Rows
structure FnE (P : Program) (w : World) (K : PySem.W.Frag) (mg : Str → Option Value) (base : Heap) (k : Nat) (f : Addr) (fd : FuncData) (ps : List Str) (sp : Addr → Value → Option Addr → Sp) : Prop where
  len : ∀ a cls d vs H Q E, sp a cls d vs H Q E → vs.length = ps.length
  run : ∀ (A : Around) (outer : List Env) (s : Shared) (H : Hp) (args : Args) (us : List Value) (vs : List V) (Q : VK) (E : XK) (a : Addr) (oe : Obj) (cls : Value) (d : Option Addr), L2H.RoomH k A → L2H.Hot1 A (a, oe) → L2H.PinOk outer H s (a, oe) → Zc cls d oe → Env0 P w K mg base A outer s H →
    BindsTo s fd args (ps.zip us) → Vals vs us → sp a cls d vs H Q E → codeAny (model P w) A (.call (.ref f) args) (CR CX0 outer P w H s Q E) s
theorem Fun.okE {P : Program} {w : World} {K : PySem.W.Frag} {mg : Str → Option Value} {base : Heap} {x qual : Str} {st : Stmt} {f : Addr} {fd : FuncData} {N ps : List Str} {k : Nat} {sp : Addr → Value → Option Addr → Sp} (F : Fun K x qual st f fd) (S : FnScope N ps (defScope st))
    (len : ∀ a cls d vs H Q E, sp a cls d vs H Q E → vs.length = ps.length)
    (hbody : ∀ (cdv : Value) (A : Around) (outer : List Env) (s : Shared) (H : Hp) (vs : List V) (Q : VK) (E : XK) (a : Addr) (oe : Obj) (cls : Value) (d : Option Addr), Zc cls d oe → (∃ vs, oe.data = .fields vs) →
      L2H.RoomH k (A.deeper (envOfC qual (defScope st) s.heap.objs.size f cdv)) → sp a cls d vs H Q E →
      ∃ t, PSs (L2H.cxH CX0 P w K mg base N qual (defScope st) f cdv A outer s H E (a, oe)) (defBody st) t ∧ t { nx := fun _ H' => Q .non H', rt := Q } (start N vs) H) : FnE P w K mg base (k + 1) f fd ps sp := by
  obtain ⟨oc, od, kV, doc, pm, an, cdv, ct, osl, rfl, lk, hcd⟩ := F.ex
  refine ⟨len, fun A outer s H args us vs Q E a oe cls d hr hot hpin hz e0 hb r hsp => ?_⟩
  have keep := fun b o (e : base.get? b = some o) => (e0.bs b o e).1
  have inK : K.In s.heap := e0.mod.kin.keeps keep
  refine codeAny_call_function hr.depth (inK _ _ lk) rfl S.co S.gen rfl (PySem.W.codeRec_of inK hcd) (hb _ _ _ _ ?_)
  refine wpAny_newFunctionEnv_cells S.kind (fun ⟨n, v⟩ hy => ?_) fun env he s1 xx => ?_
  · exact (S.par n (List.of_mem_zip hy).1).elim .inl fun q => .inr ⟨q, PySem.W.cellsFrom_some _ _ _ (.inl q)⟩
  · subst he
    refine ⟨(e0.mod.nolimit.keeps keep).keeps xx.toInCall.keep, codeAny_func ?_⟩
    obtain ⟨t, ht, hq⟩ := hbody cdv A outer s H vs Q E a oe cls d hz ⟨_, hot.2.choose_spec.1⟩ (hr.deeper _) hsp
    have I := L2H.inv_startH (CX := CX0) (E := E) S hpin e0 (len _ _ _ _ _ _ _ hsp) r xx
    refine wpAny_mono (ht.run [] s1 _ H _ I hq) (fun fl s' hs => ?_) fun e s' hs => hs
    have fin : ∀ {σ' : St} {H' : Hp} {v : V} {u : Value}, Inv (L2H.cxH CX0 P w K mg base N qual (defScope st) f cdv A outer s H E (a, oe)) [] σ' H' s' → RelV v u → Q v H' → CE outer P w H s Q u s' :=
      fun {σ' H' v u} J rv q => ⟨v, H', J.os, J.bare, J.base, J.hok, rv, q⟩
    rcases fl with _ | _ | _ | u
    · obtain ⟨σ', H', J, q⟩ := hs
      exact fin (v := V.non) (u := Value.none) J rfl q
    · exact hs.elim fun _ z => z.elim fun _ z => z.2.elim
    · exact hs.elim fun _ z => z.elim fun _ z => z.2.elim
    · obtain ⟨v, σ', H', J, rv, q⟩ := hs
      exact fin J rv q
theorem roomE_of {k : Nat} {A : Around} (r : Room k A) (v : Option Value) : L2H.RoomH k (A.mark v) := ⟨r.dp, r.un⟩
def tCallX1 (sp : Addr → Value → Option Addr → Sp) (a : Addr) (cls : Value) (d : Option Addr) (t : TA) : TE := fun σ H Q => t σ H fun vs H1 => sp a cls d vs H1 Q E0
theorem pe_callX1 {X : Cx} {k : Nat} {f : Addr} {fd : FuncData} {ps : List Str} {sp : Addr → Value → Option Addr → Sp} {x : Str} {q pos : Pos} {e : Expr} {es : List Expr} {t : TA} {a : Addr} {oe : Obj} {cls : Value} {d : Option Addr} {pn : List (Addr × Obj)}
    (F : FnE X.prog X.w X.K X.mg X.base k f fd ps sp) (hr : Room k X.A) (hz : L2N.Zn cls d oe) (hf : ∃ vs, oe.data = .fields vs) (hg : Gl X x) (hm : X.mg x = some (.ref f)) (hk : PySem.W.keepIn X.K (.ref f) = true) (hb : Binds X.K fd ps [])
    (ha : PA (X.suite a ((a, oe) :: pn)) (e :: es) t) (hdb : (x == ("__debug__" : Str)) = false := by decide) (he : starEach (e :: es) X.env = (false, eval e X.env) :: starEach es X.env := by rfl) (hpl : (backTo pos (starEach es X.env)).any (·.1) = false := by rfl) :
    PE (X.suite a ((a, oe) :: pn)) (.Call (.Name x q) (e :: es) [] pos) (tCallX1 sp a cls d t) := by
  refine ⟨fun pins s σ H Q I h => ?_⟩
  refine wpAny_Call_Name_kw (ld_glob (X := X.suite a ((a, oe) :: pn)) I hg hm ?_ hdb)
  refine PySem.W.callWith_K (h₀ := X.base) I.ok.mod.kin hk (thn (ha.run pos pins s σ H _ I h) fun us s1 ⟨vs, H1, I1, r, q⟩ => ⟨I1.kIn, ?_⟩) he hpl
  have hl : us.length = ps.length := by rw [← r.length]; exact F.len _ _ _ _ _ _ _ q
  have b := hb s1 us I1.kIn (by rw [List.append_nil]; exact hl)
  rw [List.append_nil] at b
  have P1 := I1.pin (a, oe) (List.mem_append_left _ List.mem_cons_self)
  have hpin : L2H.PinOk (X.suite a ((a, oe) :: pn)).stack H1 s1 (a, oe) := ⟨P1.1, P1.2.1, fun hm => (List.mem_cons.mp (I1.stkSub a hm)).elim P1.2.2.1 P1.2.2.2.1, P1.2.2.2.2⟩
  have hot : L2H.Hot1 (X.suite a ((a, oe) :: pn)).A (a, oe) := by
    obtain ⟨vs, e⟩ := hf
    exact ⟨rfl, vs, e, hz.2.2 vs e⟩
  refine wpAny_call (codeAny_mono (F.run (X.suite a ((a, oe) :: pn)).A _ s1 H1 ⟨us, []⟩ us vs Q E0 a oe cls d (roomE_of hr _) hot hpin ⟨hz.1, hz.2.1⟩ I1.env0 b r q) fun r s' hq => ?_)
  cases r with
  | error e => exact hq.elim
  | ok fl =>
    cases fl with
    | ret u => exact I1.after hq
    | next => exact False.elim hq
    | brk => exact False.elim hq
    | cont => exact False.elim hq
/-- isinstance of that exception, in that def -/
def rIsEP (K : PySem.W.Frag) (cls : Value) (d : Option Addr) (a : Addr) : List V → Hp → VK → Prop := fun xs H Q => ∃ D : Addr, cls = .ref D ∧ d = none ∧ ExcC K D ∧ rIsE K D a xs H Q
theorem call_isEP {X : Cx} {a : Addr} {oe : Obj} {cls : Value} {d : Option Addr} (hp : (a, oe) ∈ X.pn) (hz : Zc cls d oe) (hf : ∃ vs, oe.data = .fields vs) : CallR X (.builtin "isinstance") (rIsEP X.K cls d a) := by
  intro pins s σ H xs us Q I r h
  obtain ⟨D, rfl, rfl, C, c, cv, b, rfl, hcv, e, q⟩ := h
  cases r with
  | cons rx rr =>
    cases rr with
    | cons rt rr =>
      cases rr
      cases rx
      have ec := hcv _ rt
      subst ec
      obtain ⟨hget, _⟩ := I.pin (a, oe) (List.mem_append.mpr (.inl hp))
      obtain ⟨vs, hv⟩ := hf
      have J : PySem.W.InstAt s.heap a oe D none := by
        obtain ⟨oc, od, oda, osl⟩ := oe
        obtain ⟨h1, h2⟩ := hz
        dsimp only at h1 h2 hv
        subst h1 h2 hv
        exact ⟨hget, rfl, rfl, trivial⟩
      exact PySem.W.kia_one (PySem.W.handS_kitx_exc C.hg C.hk C.hs C.hd C.ha C.hn C.ht C.hm) I.kIn J e (fun z => nomatch z) fun tk => ⟨.bl b, H, I.kept (t' := tk) fun _ _ z => z, rfl, q⟩
theorem call_isEH {P : Program} {w : World} {K : PySem.W.Frag} {mg : Str → Option Value} {base : Heap} {N : List Str} {qual : Str} {scope : Scope} {f : Addr} {cdv : Value} {A : Around} {outer : List Env} {s : Shared} {H : Hp} {E : XK} {a : Addr} {oe : Obj} {cls : Value} {d : Option Addr} (hz : Zc cls d oe) (hf : ∃ vs, oe.data = .fields vs) :
    CallR (L2H.cxH CX0 P w K mg base N qual scope f cdv A outer s H E (a, oe)) (.builtin "isinstance") (rIsEP K cls d a) :=
  call_isEP List.mem_cons_self hz hf
end L2

/-! ### list.count of a plain value -/
namespace L2
open PySem PySem.Spec PyProof.Rows
theorem countU {y : V} {uy : Value} (f : V → Bool) (g : Value → Bool) (h : ∀ z u, flatV z = true → RelV z u → g u = f z) : ∀ {ys : List V} {its : List Value}, Vals ys its → ys.all flatV = true → its.countP g = ys.countP f
  | _, _, .nil, _ => rfl
  | _, _, .cons r t, a => by
    rw [List.all_cons, Bool.and_eq_true] at a
    rw [List.countP_cons, List.countP_cons, countU (y := y) (uy := uy) f g h t a.2, h _ _ a.1 r]
def rCntV (K : PySem.W.Frag) : V → List V → Hp → VK → Prop := fun x xs H Q => ∃ (a : Addr) (ys : List V) (y : V), x = V.ref a ∧ xs = [y] ∧ SqL K H a ys ∧ flatV y = true ∧ ys.all flatV = true ∧ Q (.int (ys.countP fun z => eqV z y : Nat)) H
section
variable {X : Cx}
theorem mt_countV : MtR X "list.count" (rCntV X.K) := by
  intro pins s σ H x xs v us Q I rx rxs h
  obtain ⟨a, ys, y, rfl, rfl, hs, fy, fys, q⟩ := h
  cases rx
  cases rxs with
  | cons ry rt =>
    rename_i uy ut
    cases rt
    obtain ⟨its, rv, ⟨⟨cls, dd, data, sl⟩, n, ho, hc, hdn, hd⟩, hlen⟩ := I.list hs
    simp only at hc hd
    subst hc hd
    refine call_meets PySem.F.slot_list_count ⟨_, ho, rfl⟩ PySem.F.entry_list_count (PySem.F.args_list_count_2 _ _)
      (SeqAt.list_countAt a its.toArray n dd sl uy (eqU y)) ⟨ho, fun u' hu' => mem_eqAt ry fy rv fys u' (by simpa using hu'), ?_⟩
    have ec : its.toArray.toList.countP (eqU y) = ys.countP fun z => eqV z y := countU (y := y) (uy := uy) _ _ (fun z u fz r => eqU_of r fz) rv fys
    refine ⟨.int (ys.countP fun z => eqV z y : Nat), H, I.tok _, ⟨s.toks, ?_⟩, q⟩
    show Value.int ((its.toArray.toList.countP (eqU y) : Nat) : Int) s.toks = _
    rw [ec]
end
end L2

/-! ### sorted(list of data) -/
namespace L2
open PySem PySem.Spec PyProof.Rows
def rSortG (K : PySem.W.Frag) : List V → Hp → VK → Prop := fun vs H Q => ∃ (β : Type) (enc : β → PyData) (R : V → β → Prop) (a : Addr) (xs : List V) (bs : List β), vs = [V.ref a] ∧ SqL K H a xs ∧ (∀ x ∈ xs, ∃ t, x = V.ref t) ∧ Paired R xs bs ∧ Paired (fun x b => Dp K H x (enc b)) xs bs ∧
  PySem.W.AllAlike (bs.map enc) ∧ PySem.W.Sortable (bs.map enc) ∧ (∀ b ∈ bs, (enc b).depth ≤ 60) ∧ ∀ ys p, Paired R ys (bs.mergeSort (PySem.W.dataLe false enc)) → H p = none → Q (.ref p) (upd H p (.lst ys))
theorem each_of {β : Type} {R : V → β → Prop} : ∀ {us : List Value} {bs : List β}, Paired R (us.map backV) bs → PySem.W.EachIs (fun u b => R (backV u) b) us bs
  | [], _, h => by
    cases h
    exact .nil
  | u :: us, _, h => by
    cases h with
    | cons a t => exact .cons a (each_of t)
theorem of_each {β : Type} {R : V → β → Prop} : ∀ {us : List Value} {bs : List β}, PySem.W.EachIs (fun u b => R (backV u) b) us bs → Paired R (us.map backV) bs
  | _, _, .nil => .nil
  | _, _, .cons a t => .cons a (of_each t)
theorem each_and {α β : Type} {R S : α → β → Prop} : ∀ {us : List α} {bs : List β}, PySem.W.EachIs R us bs → PySem.W.EachIs S us bs → PySem.W.EachIs (fun u b => R u b ∧ S u b) us bs
  | _, _, .nil, .nil => .nil
  | _, _, .cons a t, .cons b u => .cons ⟨a, b⟩ (each_and t u)
theorem each_ref {β : Type} : ∀ {us : List Value} {bs : List β}, us.length = bs.length → (∀ u ∈ us, ∃ a, u = Value.ref a) → PySem.W.EachIs (fun u (_ : β) => ∃ a, u = Value.ref a) us bs
  | [], [], _, _ => .nil
  | u :: us, b :: bs, h, k => .cons (k u List.mem_cons_self) (each_ref (Nat.succ.inj h) fun v hv => k v (List.mem_cons_of_mem _ hv))
theorem each_mem {β : Type} {R : Value → β → Prop} {p : Value → Prop} (h : ∀ u b, R u b → p u) : ∀ {us : List Value} {bs : List β}, PySem.W.EachIs R us bs → ∀ u ∈ us, p u
  | _, _, .nil, u, hu => nomatch hu
  | _, _, .cons a t, u, hu => by
    rcases List.mem_cons.mp hu with rfl | hu
    · exact h _ _ a
    · exact each_mem h t u hu
theorem each_mono {β : Type} {R S : Value → β → Prop} (h : ∀ u b, R u b → S u b) : ∀ {us : List Value} {bs : List β}, PySem.W.EachIs R us bs → PySem.W.EachIs S us bs
  | _, _, .nil => .nil
  | _, _, .cons a t => .cons (h _ _ a) (each_mono h t)
theorem each_reads {X : Cx} {pins : List (Addr × Obj)} {σ : St} {H : Hp} {s : Shared} (I : Inv X pins σ H s) {β : Type} {enc : β → PyData} : ∀ {xs : List V} {us : List Value} {bs : List β}, Vals xs us → Paired (fun x b => Dp X.K H x (enc b)) xs bs → PySem.W.EachIs (fun v b => ∃ as, PySem.Reads s.heap v (enc b) as) us bs
  | _, _, _, .nil, .nil => .nil
  | _, _, _, .cons r t, .cons a u => .cons (Dp.reads I _ _ _ a r) (each_reads I t u)
section
variable {X : Cx}
theorem cr_sortedG (hu : X.A.units + 64 < cLine) : CallR X (.builtin "sorted") (rSortG X.K) := by
  intro pins s σ H vs us Q I r h
  obtain ⟨β, enc, R, a, xs, bs, rfl, hs, hx, pR, pD, al, so, dp, q⟩ := h
  obtain ⟨its, rv, hl, hz⟩ := I.list hs
  obtain ⟨u, rfl, ru⟩ := vals1 r
  obtain rfl : u = Value.ref a := ru
  obtain ⟨e1, e2⟩ := refs_back rv hx
  have er := each_reads I rv pD
  have lx : its.length = bs.length := by rw [← rv.length, pR.length]
  have eR : PySem.W.EachIs (fun u b => R (backV u) b) its bs := each_of (e1 ▸ pR)
  have eA := each_and eR (each_ref lx e2)
  refine PySem.W.sorted_data (enc := enc) hl.isList eA er al so (by rw [← lx, ← rv.length]; exact hz) (fun b hb => by have := dp b hb; omega) fun out ho eo => ?_
  obtain ⟨c, hc⟩ := PyProof.Rows.sortedAll_at s.heap its out.toArray
  have h3 : ∀ u ∈ out, ∃ a, u = Value.ref a := each_mem (fun _ _ h => h.2) eo
  have pO : Paired R (out.map backV) (bs.mergeSort (PySem.W.dataLe false enc)) := of_each (each_mono (fun _ _ h => h.1) eo)
  refine ⟨.ref (s.heap.objs.size + 1), upd H (s.heap.objs.size + 1) (.lst (out.map backV)), I.laid (t' := s.toks) (fun b o e => PyProof.Rows.sortedAll_old e) (Nat.le_succ _) ⟨?_, out, c, vals_back h3, hc⟩, rfl, q _ _ pO (I.hok.fresh (Nat.le_succ _))⟩
  rw [List.length_map, ho, ← lx, ← rv.length]
  exact hz
end
end L2

namespace T
open PySem PySem.Spec PyProof.Rows L2
def SameBut (a : Addr) (H H' : Hp) : Prop := ∀ b o, b ≠ a → H b = some o → H' b = some o
theorem SameBut.refl (a : Addr) (H : Hp) : SameBut a H H := fun _ _ _ h => h
theorem SameBut.trans {a : Addr} {H H1 H2 : Hp} (x : SameBut a H H1) (y : SameBut a H1 H2) : SameBut a H H2 := fun b o n h => y b o n (x b o n h)
theorem SameBut.upd {a : Addr} {H : Hp} {o : HO} : SameBut a H (upd H a o) := fun b u n h => by rw [upd_ne n]; exact h
theorem SameBut.new {a p : Addr} {H : Hp} {o : HO} (h : H p = none) : SameBut a H (L2.upd H p o) := fun b u n e => by rw [upd_ne (ne_of_none e h)]; exact e
theorem Same.but {a : Addr} {H H' : Hp} (h : Same H H') : SameBut a H H' := fun b o _ e => h b o e
theorem same_upd {H : Hp} {p : Addr} {o : HO} (h : H p = none) : Same H (upd H p o) := fun b x e => by
  rw [upd_ne (ne_of_none e h)]
  exact e
theorem upd_self {H : Hp} {a : Addr} {o : HO} (h : H a = some o) : upd H a o = H := by
  funext b
  unfold upd
  by_cases e : b = a
  · rw [if_pos e, e, h]
  · rw [if_neg e]
theorem Same.mut {H H' : Hp} {p : Addr} {o : HO} (e : Same H H') (h : H p = none) : Same H (upd H' p o) := fun a u ha => by
  rw [upd_ne (ne_of_none ha h)]
  exact e a u ha
theorem map_int_get {ns : List Int} {i : Nat} {y : V} (hi : (ns.map V.int)[i]? = some y) : ∃ z, ns[i]? = some z ∧ y = V.int z := by
  rw [List.getElem?_map] at hi
  cases e : ns[i]? with
  | none =>
    rw [e] at hi
    cases hi
  | some z =>
    rw [e] at hi
    exact ⟨z, rfl, (Option.some.inj hi).symm⟩
theorem small_of {n : Nat} (h : n ≤ 100000) : n < sizeLine := Nat.lt_of_le_of_lt h (by decide)
structure ErrC (K : PySem.W.Frag) (mg : Str → Option Value) (x : Str) (C : Addr) : Prop where
  gc : mg x = some (.ref C)
  xC : PySem.W.excIn K C [.type "ValueError", .type "Exception", .type "BaseException", .type "object"] "ValueError.__new__" = true
  kc : PySem.W.keepIn K (.ref C) = true
  bc : PySem.W.subIn K (.ref C) (.type "BaseException") = some true
  tc : PySem.W.typeIn K (.ref C) = some (.type "type")
/-- a def whose defaults stand somewhere (called with all its arguments) -/
structure FunA (K : PySem.W.Frag) (x qual : Str) (st : Stmt) (f : Addr) (fd : FuncData) : Prop where
  ex : ∃ (oc : Value) (od : Option Addr) (dV kV doc pm : Value) (an : Option Addr) (cdv ct : Value) (osl : Array (Option Value)),
    fd = PySem.W.fnOf x qual (defArgs st) (defBody st) (defScope st) dV kV doc pm an cdv ct ∧ K.lookup f = some ⟨oc, od, .func fd, osl⟩ ∧ PySem.W.codeIn K cdv qual = true
  kp : PySem.W.keepIn K (.ref f) = true
section
variable {P : Program} {w : World} {K : PySem.W.Frag} {mg : Str → Option Value} {base : Heap}
theorem FunA.okX {x qual : Str} {st : Stmt} {f : Addr} {fd : FuncData} {N ps : List Str} {k : Nat} {sp : Sp} (F : FunA K x qual st f fd) (S : FnScope N ps (defScope st)) (len : ∀ vs H Q E, sp vs H Q E → vs.length = ps.length)
    (hbody : ∀ (cdv : Value) (A : Around) (outer : List Env) (s : Shared) (H : Hp) (vs : List V) (Q : VK) (E : XK), Room k (A.deeper (envOfC qual (defScope st) s.heap.objs.size f cdv)) → sp vs H Q E →
      ∃ t, PSs (cxOf (L2.CX P w) P w K mg base N qual (defScope st) f cdv A outer s H E) (defBody st) t ∧ t { nx := fun _ H' => Q .non H', rt := Q } (start N vs) H) : FnOk P w K mg base (L2.CX P w) (k + 1) f fd ps sp := by
  obtain ⟨oc, od, dV, kV, doc, pm, an, cdv, ct, osl, rfl, lk, hcd⟩ := F.ex
  exact fn_of lk hcd S len fun A outer s H vs Q E hr hsp => hbody cdv A outer s H vs Q E hr hsp
end
theorem if_pos_of {b : Bool} {A B : Prop} (h : b = true) (x : A) : if b = true then A else B := by
  rw [if_pos h]
  exact x
theorem if_neg_of {b : Bool} {A B : Prop} (h : ¬ b = true) (x : B) : if b = true then A else B := by
  rw [if_neg h]
  exact x
theorem sqT_same {K : PySem.W.Frag} {H H' : Hp} {a : Addr} {xs : List V} (e : Same H H') (h : SqT K H a xs) : SqT K H' a xs := by
  rcases h with (h | ⟨o, h⟩) | h
  · exact .inl (.inl (e _ _ h))
  · exact .inl (.inr ⟨o, e _ _ h⟩)
  · exact .inr h
section
variable {P : Program} {w : World} {K : PySem.W.Frag} {mg : Str → Option Value} {base : Heap}
theorem room64 {k : Nat} {A : Around} (hr : Room k A) : A.units + 64 < cLine := by have := hr.un; omega
theorem room65 {k : Nat} {A : Around} (hr : Room k A) : A.units + 65 < cLine := by have := hr.un; omega
theorem inV_primes {p : Int} : inV (.int p) [.int 2, .int 3, .int 5, .int 7, .int 11, .int 13, .int 17, .int 19, .int 23, .int 29, .int 31] = inV (.int p) (primes.map V.int) := rfl
end
theorem sqT_but {K : PySem.W.Frag} {H H' : Hp} {r a : Addr} {xs : List V} (e : SameBut r H H') (n : a ≠ r) (h : SqT K H a xs) : SqT K H' a xs := by
  rcases h with (h | ⟨o, h⟩) | h
  · exact .inl (.inl (e _ _ n h))
  · exact .inl (.inr ⟨o, e _ _ n h⟩)
  · exact .inr h
theorem at_tab {xs : List Int} {i : Int} (h0 : 0 ≤ i) (h1 : i < xs.length) : atI (xs.map V.int) i = some (.int (xs.getD i.toNat 0)) := by
  obtain ⟨n, rfl⟩ := Int.eq_ofNat_of_zero_le h0
  have hn : n < xs.length := by omega
  refine atI_nat ?_
  rw [List.getElem?_map, List.getElem?_eq_getElem hn, List.getD_eq_getElem?_getD, show ((n : Nat) : Int).toNat = n from rfl, List.getElem?_eq_getElem hn]
  rfl
theorem mod_lt8 (n : Int) {m : Int} (h : 0 < m) : 0 ≤ n % m ∧ n % m < m := ⟨Int.emod_nonneg _ (by omega), Int.emod_lt_of_pos _ h⟩
def wtab : List Int := [0, 0, 0, 2, 3, 5, 7, 31]
theorem wtab_in : ∀ k : Nat, k < 8 → wtab.getD k 0 = 0 ∨ (wtab.getD k 0 ≠ 0 ∧ inV (.int (wtab.getD k 0)) (primes.map V.int) = true ∧ 2 ≤ wtab.getD k 0) := by decide
/-! ### isinstance of the error that an except suite holds -/
def rIsE' (K : PySem.W.Frag) (cls : Value) (d : Option Addr) (a : Addr) : List V → Hp → VK → Prop := fun xs H Q => ∃ D : Addr, cls = .ref D ∧ d = none ∧ ExcC K D ∧ rIsE K D a xs H Q
theorem call_isE' {X : Cx} {a : Addr} {oe : Obj} {pn : List (Addr × Obj)} {cls : Value} {d : Option Addr} (hz : Zc cls d oe) (hf : ∃ vs, oe.data = .fields vs) : CallR (X.suite a ((a, oe) :: pn)) (.builtin "isinstance") (rIsE' X.K cls d a) := by
  intro pins s σ H xs us Q I r h
  obtain ⟨D, rfl, rfl, C, h⟩ := h
  exact call_isE C hz hf pins s σ H xs us Q I r h
theorem pe_indexK {X : Cx} {K : PySem.W.Frag} {o e : Expr} {to : TE} {t : TA} {apos cpos : Pos} (hK : X.K = K) (ho : PE X o to) (ha : PA X [e] t)
    (hb : attributeBase o "index" X.env (eval o X.env) = eval o X.env := by rfl)
    (hf : ((backTo cpos (starEach [e] X.env)).all (fun x => !x.1) && (backToKw cpos (keywordEach [] X.env)).all (fun x => x.1.isSome) && decide ([e].length + ([] : List Keyword).length + (if ([] : List Keyword).isEmpty then 0 else 1) < 30)) = true := by rfl)
    (hl : (apos.endLine == cpos.line) = true := by rfl) (hs : starEach [e] X.env = (false, eval e X.env) :: starEach [] X.env := by rfl) (hp : (backTo cpos (starEach [] X.env)).any (·.1) = false := by rfl) :
    PE X (.Call (.Attribute o "index" apos) [e] [] cpos) (tBM K "list" (rIndex K) to t) := by
  subst hK
  exact pe_bm PySem.F.plainAttrs_list PySem.F.slot_list_index PySem.F.type_list_index mt_index ho ha hb hf hl hs hp
/-! ### values without depth -/
inductive Val1 (H : Hp) : V → PyData → Prop
  | non : Val1 H .non .none
  | bl (b : Bool) : Val1 H (.bl b) (.bool b)
  | str (x : Str) : Val1 H (.str x) (.str x)
  | pair {t : Addr} {u v : Int} : H t = some (.tup [.int u, .int v]) → Val1 H (.ref t) (.tuple [.int u, .int v])
theorem Val1.dp {K : PySem.W.Frag} {H : Hp} {x : V} {d : PyData} (h : Val1 H x d) : Dp K H x d := by
  cases h with
  | non => exact .non
  | bl b => exact .bl b
  | str x => exact .str x
  | pair h => exact .tup (.inl (.inl h)) (.cons (.int _) (.cons (.int _) .nil))
theorem Val1.but {H H' : Hp} {D : Addr} {ys : List V} {x : V} {d : PyData} (s : SameBut D H H') (hD : H D = some (.lst ys)) (h : Val1 H x d) : Val1 H' x d := by
  cases h with
  | non => exact .non
  | bl b => exact .bl b
  | str x => exact .str x
  | pair h => exact .pair (s _ _ (ne_of h hD (fun z => nomatch z)) h)
theorem Val1.same {H H' : Hp} {x : V} {d : PyData} (s : Same H H') (h : Val1 H x d) : Val1 H' x d := by
  cases h with
  | non => exact .non
  | bl b => exact .bl b
  | str x => exact .str x
  | pair h => exact .pair (s _ _ h)
theorem vals1_dp {K : PySem.W.Frag} {H : Hp} : ∀ {xs : List V} {ds : List PyData}, Paired (Val1 H) xs ds → DpAll K H xs ds
  | _, _, .nil => .nil
  | _, _, .cons a b => .cons a.dp (vals1_dp b)
theorem paired_snoc {α β : Type} {F : α → β → Prop} {a : α} {b : β} (h : F a b) : ∀ {l : List α} {m : List β}, Paired F l m → Paired F (l ++ [a]) (m ++ [b])
  | _, _, .nil => .cons h .nil
  | _, _, .cons x y => .cons x (paired_snoc h y)

/-- the first def of a class -/
def inCls : Stmt → Stmt
  | .ClassDef _ _ _ body _ _ _ _ _ _ _ => body.getD 0 (.Pass ⟨0, 0, 0, 0⟩)
  | s => s
theorem pt_truthK {X : Cx} {K : PySem.W.Frag} {a : Expr} {ta : TE} (hK : X.K = K) (ha : PE X a ta) (he : ∀ whole, isTrue a X.env whole = (do let v ← whole; standAt a.pos; holding [v] (truthy v))) :
    PT X a (fun σ H Q => ta σ H fun x H' => ∃ k, TruV K x H' k ∧ Q k H') := by
  subst hK
  exact pt_truth ha he
theorem op_in_seqK {X : Cx} {K : PySem.W.Frag} (hK : X.K = K) : OpR X (compareOp .In) (rIn K false) := by
  subst hK
  exact op_in_seq
theorem op_notIn_seqK {X : Cx} {K : PySem.W.Frag} (hK : X.K = K) : OpR X (compareOp .NotIn) (rIn K true) := by
  subst hK
  exact op_notIn_seq
theorem pi_listK {X : Cx} {K : PySem.W.Frag} {tg e : Expr} {te : TE} (hK : X.K = K) (he : PE X e te) : PI X tg e (iList K te) := by
  subst hK
  exact pi_list he

def topS (i : Nat) : Stmt := PySem.Challenge.pw_threadworth_k93_refusals_of_diagrams.main.body.getD i (.Pass ⟨0, 0, 0, 0⟩)
abbrev s_is_size_ : Stmt := topS 12
theorem sc_is_size_ : FnScope ["n", "m"] ["n", "m"] (defScope s_is_size_) := ⟨rfl, rfl, rfl, by decide +kernel, rfl, by decide +kernel, by decide +kernel⟩
abbrev s_check_size_ : Stmt := topS 13
theorem sc_check_size_ : FnScope ["n", "m"] ["n", "m"] (defScope s_check_size_) := ⟨rfl, rfl, rfl, by decide +kernel, rfl, by decide +kernel, by decide +kernel⟩
abbrev s_is_diagram : Stmt := topS 14
theorem sc_is_diagram : FnScope ["diagram", "n", "m", "blocks", "points", "firsts", "block", "point"] ["diagram"] (defScope s_is_diagram) := ⟨rfl, rfl, rfl, by decide +kernel, rfl, by decide +kernel, by decide +kernel⟩
abbrev s_check_diagram : Stmt := topS 15
theorem sc_check_diagram : FnScope ["diagram"] ["diagram"] (defScope s_check_diagram) := ⟨rfl, rfl, rfl, by decide +kernel, rfl, by decide +kernel, by decide +kernel⟩
abbrev s_check_family : Stmt := topS 16
theorem sc_check_family : FnScope ["family"] ["family"] (defScope s_check_family) := ⟨rfl, rfl, rfl, by decide +kernel, rfl, by decide +kernel, by decide +kernel⟩
abbrev s_labels : Stmt := topS 17
theorem sc_labels : FnScope ["diagram", "n", "m", "blocks", "marks", "k", "block", "point", "_"] ["diagram"] (defScope s_labels) := ⟨rfl, rfl, rfl, by decide +kernel, rfl, by decide +kernel, by decide +kernel⟩
abbrev s_from_labels : Stmt := topS 18
theorem sc_from_labels : FnScope ["n", "m", "marks", "blocks", "point", "mark"] ["n", "m", "marks"] (defScope s_from_labels) := ⟨rfl, rfl, rfl, by decide +kernel, rfl, by decide +kernel, by decide +kernel⟩
abbrev s_is_in : Stmt := topS 19
theorem sc_is_in : FnScope ["family", "diagram", "n", "_", "blocks", "block"] ["family", "diagram"] (defScope s_is_in) := ⟨rfl, rfl, rfl, by decide +kernel, rfl, by decide +kernel, by decide +kernel⟩
abbrev s_is_block_of_ : Stmt := topS 20
theorem sc_is_block_of_ : FnScope ["family", "n", "block"] ["family", "n", "block"] (defScope s_is_block_of_) := ⟨rfl, rfl, rfl, by decide +kernel, rfl, by decide +kernel, by decide +kernel⟩
abbrev s_is_strand_ : Stmt := topS 21
theorem sc_is_strand_ : FnScope ["n", "block"] ["n", "block"] (defScope s_is_strand_) := ⟨rfl, rfl, rfl, by decide +kernel, rfl, by decide +kernel, by decide +kernel⟩
abbrev s_is_block_size_ : Stmt := topS 22
theorem sc_is_block_size_ : FnScope ["family", "size"] ["family", "size"] (defScope s_is_block_size_) := ⟨rfl, rfl, rfl, by decide +kernel, rfl, by decide +kernel, by decide +kernel⟩
abbrev s_is_before : Stmt := topS 23
theorem sc_is_before : FnScope ["one", "other"] ["one", "other"] (defScope s_is_before) := ⟨rfl, rfl, rfl, by decide +kernel, rfl, by decide +kernel, by decide +kernel⟩
abbrev s_order_key_ : Stmt := topS 24
theorem sc_order_key_ : FnScope ["diagram", "marks"] ["diagram"] (defScope s_order_key_) := ⟨rfl, rfl, rfl, by decide +kernel, rfl, by decide +kernel, by decide +kernel⟩
abbrev s_counted : Stmt := topS 25
theorem sc_counted : FnScope ["family", "n", "m", "most", "t"] ["family", "n", "m"] (defScope s_counted) := ⟨rfl, rfl, rfl, by decide +kernel, rfl, by decide +kernel, by decide +kernel⟩
abbrev s_counted_by_last_ : Stmt := topS 26
theorem sc_counted_by_last_ : FnScope ["family", "size", "counts", "total", "j"] ["family", "size"] (defScope s_counted_by_last_) := ⟨rfl, rfl, rfl, by decide +kernel, rfl, by decide +kernel, by decide +kernel⟩
abbrev s_listed : Stmt := topS 27
theorem sc_listed : FnScope ["family", "n", "m", "many", "found", "row", "diagram"] ["family", "n", "m"] (defScope s_listed) := ⟨rfl, rfl, rfl, by decide +kernel, rfl, by decide +kernel, by decide +kernel⟩
abbrev s_label_rows_ : Stmt := topS 28
theorem sc_label_rows_ : FnScope ["family", "n", "m", "rows", "_", "row", "mark"] ["family", "n", "m"] (defScope s_label_rows_) := ⟨rfl, rfl, rfl, by decide +kernel, rfl, by decide +kernel, by decide +kernel⟩
abbrev s_may_follow_ : Stmt := topS 29
theorem sc_may_follow_ : FnScope ["family", "n", "row", "mark", "mates"] ["family", "n", "row", "mark"] (defScope s_may_follow_) := ⟨rfl, rfl, rfl, by decide +kernel, rfl, by decide +kernel, by decide +kernel⟩
abbrev s_index_of : Stmt := topS 30
theorem sc_index_of : FnScope ["family", "diagram"] ["family", "diagram"] (defScope s_index_of) := ⟨rfl, rfl, rfl, by decide +kernel, rfl, by decide +kernel, by decide +kernel⟩
abbrev s_piece_marks : Stmt := topS 32
theorem sc_piece_marks : FnScope ["size", "groups", "parents", "group", "point", "low"] ["size", "groups"] (defScope s_piece_marks) := ⟨rfl, rfl, rfl, by decide +kernel, rfl, by decide +kernel, by decide +kernel⟩
abbrev s_root_ : Stmt := topS 33
theorem sc_root_ : FnScope ["parents", "point", "found"] ["parents", "point"] (defScope s_root_) := ⟨rfl, rfl, rfl, by decide +kernel, rfl, by decide +kernel, by decide +kernel⟩
abbrev s_hidden_count : Stmt := topS 34
theorem sc_hidden_count : FnScope ["marks", "shown"] ["marks", "shown"] (defScope s_hidden_count) := ⟨rfl, rfl, rfl, by decide +kernel, rfl, by decide +kernel, by decide +kernel⟩
abbrev s_put : Stmt := topS 36
theorem sc_put : FnScope ["one", "other", "n", "m", "upper", "k", "q", "lower", "groups", "marks", "shown", "block", "point"] ["one", "other"] (defScope s_put) := ⟨rfl, rfl, rfl, by decide +kernel, rfl, by decide +kernel, by decide +kernel⟩
abbrev s_check_ : Stmt := topS 38
theorem sc_check_ : FnScope ["diagram"] ["diagram"] (defScope s_check_) := ⟨rfl, rfl, rfl, by decide +kernel, rfl, by decide +kernel, by decide +kernel⟩
abbrev s_is_square : Stmt := topS 39
theorem sc_is_square : FnScope ["diagram", "_", "made"] ["diagram"] (defScope s_is_square) := ⟨rfl, rfl, rfl, by decide +kernel, rfl, by decide +kernel, by decide +kernel⟩
abbrev s_squares : Stmt := topS 40
theorem sc_squares : FnScope ["family", "n", "diagram"] ["family", "n"] (defScope s_squares) := ⟨rfl, rfl, rfl, by decide +kernel, rfl, by decide +kernel, by decide +kernel⟩
abbrev s_text_of : Stmt := topS 43
theorem sc_text_of : FnScope ["diagram", "letters", "n", "mark"] ["diagram"] (defScope s_text_of) := ⟨rfl, rfl, rfl, by decide +kernel, rfl, by decide +kernel, by decide +kernel⟩
abbrev s_law_number : Stmt := topS 45
theorem sc_law_number : FnScope ["cell"] ["cell"] (defScope s_law_number) := ⟨rfl, rfl, rfl, by decide +kernel, rfl, by decide +kernel, by decide +kernel⟩
abbrev s_law_draws : Stmt := topS 46
theorem sc_law_draws : FnScope ["script", "draws", "cell", "rest", "k", "once", "twice"] ["script"] (defScope s_law_draws) := ⟨rfl, rfl, rfl, by decide +kernel, rfl, by decide +kernel, by decide +kernel⟩
abbrev s_law_next : Stmt := topS 47
theorem sc_law_next : FnScope ["draws"] ["draws"] (defScope s_law_next) := ⟨rfl, rfl, rfl, by decide +kernel, rfl, by decide +kernel, by decide +kernel⟩
abbrev s_law_seen : Stmt := topS 48
theorem sc_law_seen : FnScope ["marks", "seen", "mark"] ["marks"] (defScope s_law_seen) := ⟨rfl, rfl, rfl, by decide +kernel, rfl, by decide +kernel, by decide +kernel⟩
abbrev s_law_from : Stmt := topS 49
theorem sc_law_from : FnScope ["n", "m", "marks", "blocks", "mark", "at"] ["n", "m", "marks"] (defScope s_law_from) := ⟨rfl, rfl, rfl, by decide +kernel, rfl, by decide +kernel, by decide +kernel⟩
abbrev s_law_marks : Stmt := topS 50
theorem sc_law_marks : FnScope ["diagram", "marks", "number", "point"] ["diagram"] (defScope s_law_marks) := ⟨rfl, rfl, rfl, by decide +kernel, rfl, by decide +kernel, by decide +kernel⟩
abbrev s_law_joined : Stmt := topS 51
theorem sc_law_joined : FnScope ["marks", "links", "one", "other", "low", "high", "mark"] ["marks", "links"] (defScope s_law_joined) := ⟨rfl, rfl, rfl, by decide +kernel, rfl, by decide +kernel, by decide +kernel⟩
abbrev s_law_pick : Stmt := topS 52
theorem sc_law_pick : FnScope ["draws", "left"] ["draws", "left"] (defScope s_law_pick) := ⟨rfl, rfl, rfl, by decide +kernel, rfl, by decide +kernel, by decide +kernel⟩
abbrev s_law_family : Stmt := topS 53
theorem sc_law_family : FnScope ["draws"] ["draws"] (defScope s_law_family) := ⟨rfl, rfl, rfl, by decide +kernel, rfl, by decide +kernel, by decide +kernel⟩
abbrev s_law_other_side : Stmt := topS 54
theorem sc_law_other_side : FnScope ["draws", "family", "n", "most", "m"] ["draws", "family", "n", "most"] (defScope s_law_other_side) := ⟨rfl, rfl, rfl, by decide +kernel, rfl, by decide +kernel, by decide +kernel⟩
abbrev s_law_threaded : Stmt := topS 55
theorem sc_law_threaded : FnScope ["draws", "family", "n", "m", "at", "marks", "left"] ["draws", "family", "n", "m"] (defScope s_law_threaded) := ⟨rfl, rfl, rfl, by decide +kernel, rfl, by decide +kernel, by decide +kernel⟩
abbrev s_law_drawn : Stmt := topS 56
theorem sc_law_drawn : FnScope ["draws", "family", "n", "m", "marks", "at", "left", "j", "one"] ["draws", "family", "n", "m"] (defScope s_law_drawn) := ⟨rfl, rfl, rfl, by decide +kernel, rfl, by decide +kernel, by decide +kernel⟩
abbrev s_law_shaped : Stmt := topS 57
theorem sc_law_shaped : FnScope ["draws", "family", "most", "n"] ["draws", "family", "most"] (defScope s_law_shaped) := ⟨rfl, rfl, rfl, by decide +kernel, rfl, by decide +kernel, by decide +kernel⟩
abbrev s_law_kind : Stmt := topS 58
theorem sc_law_kind : FnScope ["error", "kinds"] ["error"] (defScope s_law_kind) := ⟨rfl, rfl, rfl, by decide +kernel, rfl, by decide +kernel, by decide +kernel⟩
abbrev s_law_told : Stmt := topS 59
theorem sc_law_told : FnScope ["way", "family", "one", "other", "error"] ["way", "family", "one", "other"] (defScope s_law_told) := ⟨rfl, rfl, rfl, by decide +kernel, rfl, by decide +kernel, by decide +kernel⟩
abbrev s_law : Stmt := topS 60
theorem sc_law : FnScope ["script", "draws", "family", "one", "bad", "way", "four", "beyond", "name", "n", "m", "large", "within", "told", "rows", "at", "diagram"] ["script"] (defScope s_law) := ⟨rfl, rfl, rfl, by decide +kernel, rfl, by decide +kernel, by decide +kernel⟩
structure SmL (n k : Nat) (D : PyData) : Prop where
  lay : D.canLay0 = true
  dep : D.depth ≤ n
  sho : D.showable = true
  wgt : wt D ≤ k
theorem smL_all {n k : Nat} : ∀ {ds : List PyData}, (∀ D ∈ ds, SmL n k D) → PyData.canLayAll0 ds = true ∧ PyData.depthAll ds ≤ n ∧ PyData.showableAll ds = true ∧ wtAll ds ≤ (k + 2) * ds.length
  | [], _ => ⟨by simp [PyData.canLayAll0], by simp [PyData.depthAll], by simp [PyData.showableAll], by simp [wtAll]⟩
  | D :: ds, h => by
    obtain ⟨h1, h2, h3, h4⟩ := smL_all (ds := ds) fun E hE => h E (List.mem_cons_of_mem _ hE)
    have g := h D List.mem_cons_self
    refine ⟨by simp [PyData.canLayAll0, g.lay, h1], ?_, by simp [PyData.showableAll, g.sho, h3], ?_⟩
    · simp only [PyData.depthAll]
      have := g.dep
      omega
    · simp only [wtAll, List.length_cons, Nat.mul_add]
      have := g.wgt
      omega
theorem smL_list {n k : Nat} {ds : List PyData} (h : ∀ D ∈ ds, SmL n k D) : SmL (n + 1) ((k + 2) * ds.length + 3) (.list ds) := by
  obtain ⟨h1, h2, h3, h4⟩ := smL_all h
  exact ⟨by simp [PyData.canLay0, h1], by simp only [PyData.depth]; omega, by simp [PyData.showable, h3], by simp only [wt]; omega⟩
theorem smL_tuple {n k : Nat} {ds : List PyData} (h : ∀ D ∈ ds, SmL n k D) : SmL (n + 1) ((k + 2) * ds.length + 3) (.tuple ds) := by
  obtain ⟨h1, h2, h3, h4⟩ := smL_all h
  exact ⟨by simp [PyData.canLay0, h1], by simp only [PyData.depth]; omega, by simp [PyData.showable, h3], by simp only [wt]; omega⟩
theorem SmL.shaped {n k : Nat} {D : PyData} (h : SmL n k D) (hn : n ≤ 64) : SeqAt.shaped D = true := by
  show (PyData.canLay0 D && decide (PyData.depth D ≤ 64)) = true
  rw [h.lay, decide_eq_true (Nat.le_trans h.dep hn)]
  rfl
theorem SmL.wide {n k : Nat} {D : PyData} (h : SmL n k D) (hk : k ≤ 16777216) : wt D ≤ sizeLine := by
  rw [sizeLine_eq]
  exact Nat.le_trans h.wgt hk
theorem small_log {i : Int} (h : i.natAbs < 2 ^ 200) : i.natAbs.log2 < 1920 := by
  by_cases e : i.natAbs = 0
  · rw [e]
    decide
  · exact (Nat.log2_lt e).mpr (Nat.lt_of_lt_of_le h (Nat.pow_le_pow_right (by decide) (by decide)))
theorem smL_int {i : Int} (h : i.natAbs < 2 ^ 200) : SmL 0 1921 (.int i) := ⟨by simp [PyData.canLay0], by simp [PyData.depth], by simp [PyData.showable, small_log h], by simp only [wt]; omega⟩
theorem smL_pair {u v : Int} (hu : u.natAbs < 2 ^ 200) (hv : v.natAbs < 2 ^ 200) : SmL 1 4000 (.tuple [.int u, .int v]) := by
  have h := smL_tuple (ds := [.int u, .int v]) (n := 0) (k := 1921) fun D hD => by
    rcases List.mem_cons.mp hD with rfl | hD
    · exact smL_int hu
    · rcases List.mem_cons.mp hD with rfl | hD
      · exact smL_int hv
      · cases hD
  exact ⟨h.lay, h.dep, h.sho, Nat.le_trans h.wgt (by show (1921 + 2) * 2 + 3 ≤ 4000; decide)⟩
theorem ok_n : PyData.strOk ("!n" : Str) = true := by decide +kernel
theorem ok_b : PyData.strOk ("!b" : Str) = true := by decide +kernel
theorem ok_w : PyData.strOk ("!w" : Str) = true := by decide +kernel
theorem rl_n : (reprText ("!n" : Str)).length = 4 := by decide +kernel
theorem rl_b : (reprText ("!b" : Str)).length = 4 := by decide +kernel
theorem rl_w : (reprText ("!w" : Str)).length = 4 := by decide +kernel
theorem smL_n : SmL 1 4000 (.str "!n") := ⟨by simp [PyData.canLay0, ok_n], by simp [PyData.depth], by simp [PyData.showable], by simp only [wt, rl_n]; omega⟩
theorem smL_b : SmL 1 4000 (.str "!b") := ⟨by simp [PyData.canLay0, ok_b], by simp [PyData.depth], by simp [PyData.showable], by simp only [wt, rl_b]; omega⟩
theorem smL_w : SmL 1 4000 (.str "!w") := ⟨by simp [PyData.canLay0, ok_w], by simp [PyData.depth], by simp [PyData.showable], by simp only [wt, rl_w]; omega⟩
theorem smL_non : SmL 1 4000 .none := ⟨by simp [PyData.canLay0], by simp [PyData.depth], by simp [PyData.showable], by simp only [wt]; omega⟩
theorem smL_bool (b : Bool) : SmL 1 4000 (.bool b) := ⟨by simp [PyData.canLay0], by simp [PyData.depth], by simp [PyData.showable], by simp only [wt]; omega⟩

section
variable {P : Program} {w : World} {K : PySem.W.Frag} {mg : Str → Option Value} {base : Heap}
/-! ### _law_number -/
def spPlain : Sp := fun vs H Q _ => ∃ n : Int, vs = [.int n] ∧ Q (.int (if n < 0 then -n else n)) H
theorem ok_plain {f : Addr} {fd : FuncData} (F : Fun K "_law_number" "_law_number" s_law_number f fd) : FnOk P w K mg base CX0 1 f fd ["cell"] spPlain := by
  refine F.ok sc_law_number (fun vs H Q E h => ?_) (fun cdv A outer s H vs Q E hr h => ?_)
  · obtain ⟨n, rfl, _⟩ := h
    rfl
  · obtain ⟨n, rfl, q⟩ := h
    refine ⟨_, (pss_cons (ps_if (pt_cmpR op_lt (pv 0) pe_int (nomark _)) (pss_one (ps_ret (pe_op op_sub pe_int (pv 0)))) pss_nil)
  (pss_one (ps_ret (pv 0))))
    , ?_⟩
    refine ⟨_, rfl, _, _, rfl, rfl, _, rfl, ite2 (fun e => ?_) (fun e => ?_)⟩
    · rw [if_pos (of_decide_eq_true e)] at q
      have q' : Q (.int (0 - n)) H := by
        rw [show (0 : Int) - n = -n by omega]
        exact q
      exact ⟨_, rfl, _, _, rfl, rfl, q'⟩
    · rw [if_neg (fun z => e (decide_eq_true z))] at q
      exact ⟨_, rfl, q⟩
end

section
variable {P : Program} {w : World} {K : PySem.W.Frag} {mg : Str → Option Value} {base : Heap}
/-! ### _law_next -/
def spNext : Sp := fun vs H Q _ => ∃ (a : Addr) (ds : List Int), vs = [.ref a] ∧ H a = some (.lst (ds.map V.int)) ∧ ∀ (n : Int) (ds' : List Int), Q (.int n) (upd H a (.lst (ds'.map V.int)))
theorem ok_next {f : Addr} {fd : FuncData} (F : Fun K "_law_next" "_law_next" s_law_next f fd) : FnOk P w K mg base CX0 1 f fd ["draws"] spNext := by
  refine F.ok sc_law_next (fun vs H Q E h => ?_) (fun cdv A outer s H vs Q E hr h => ?_)
  · obtain ⟨a, ds, rfl, _⟩ := h
    rfl
  · obtain ⟨a, ds, rfl, hL, q⟩ := h
    refine ⟨_, (pss_cons (ps_if (pt_truth (pv 0) (by intro _; rfl)) (pss_one (ps_ret (pe_bm0 PySem.F.plainAttrs_list PySem.F.slot_list_pop PySem.F.type_list_pop mt_pop (pv 0)))) pss_nil)
  (pss_one (ps_ret pe_int)))
    , ?_⟩
    refine ⟨_, rfl, _, .inl ⟨_, .inl (.inl hL), rfl⟩, ite2 (fun e => ?_) (fun e => ?_)⟩
    · have hn : ds ≠ [] := fun z => by subst z; cases e
      have hm : ds.map V.int = ds.dropLast.map V.int ++ [V.int (ds.getLast hn)] := by
        rw [← List.map_singleton, ← List.map_append, List.dropLast_concat_getLast]
      refine ⟨_, rfl, .inl ⟨rfl, _, .inl (.inl hL)⟩, a, _, .int (ds.getLast hn), rfl, rfl, hL, ?_, ?_⟩
      · rw [hm]; simp
      · rw [hm, List.dropLast_concat]
        exact q _ _
    · have := q 0 ds
      rw [upd_self hL] at this
      exact this
end

section
variable {P : Program} {w : World} {K : PySem.W.Frag} {mg : Str → Option Value} {base : Heap}
/-! ### _law_draws -/
def spDraws (K : PySem.W.Frag) : Sp := fun vs H Q _ => ∃ (a : Addr) (ns : List Int), vs = [.ref a] ∧ SqL K H a (ns.map V.int) ∧ ns.length ≤ 63 ∧
  ∀ H' r (ds : List Int), Same H H' → H r = none → H' r = some (.lst (ds.map V.int)) → Q (.ref r) H'
theorem ok_draws {f : Addr} {fd : FuncData} {a_law_number : Addr} {fd_law_number : FuncData} (F : Fun K "_law_draws" "_law_draws" s_law_draws f fd) (z_range : mg "range" = none) (z_int : mg "int" = none)
    (G_law_number : FnOk P w K mg base CX0 1 a_law_number fd_law_number ["cell"] spPlain) (g_law_number : mg "_law_number" = some (.ref a_law_number)) (k_law_number : PySem.W.keepIn K (.ref a_law_number) = true) (b_law_number : Binds K fd_law_number ["cell"] []) :
    FnOk P w K mg base CX0 2 f fd ["script"] (spDraws K) := by
  refine F.ok sc_law_draws (fun vs H Q E h => ?_) (fun cdv A outer s H vs Q E hr h => ?_)
  · obtain ⟨n, _, rfl, _⟩ := h
    rfl
  · obtain ⟨a, ns, rfl, hS, hlen, q⟩ := h
    refine ⟨_, (pss_cons (ps_set (i := 1) sc_law_draws.nd rfl (.inl rfl) (pe_lst pa_nil))
  (pss_cons (ps_for PassesOwn.never rfl (pi_list (pv 0)) (pg_name (i := 2) sc_law_draws.nd rfl (.inl rfl)) (pss_cons (ps_set (i := 3) sc_law_draws.nd rfl (.inl rfl) (pe_call G_law_number (hr.mono (by decide)) rfl g_law_number k_law_number b_law_number .nil pass0 (pa_cons (pv 2) pa_nil)))
  (pss_one (ps_if (pt_cmpR op_ge (pv 3) pe_int (nomark _)) (pss_one (ps_for PassesOwn.never rfl (pi_range1 rfl z_range (pa_cons pe_int pa_nil)) (pg_name (i := 4) sc_law_draws.nd rfl (.inl rfl)) (pss_cons (ps_if (pt_cmpR op_eq (pv 3) pe_int (nomark _)) (pss_one ps_break) pss_nil)
  (pss_cons (ps_expr (pe_bm PySem.F.plainAttrs_list PySem.F.slot_list_append PySem.F.type_list_append mt_append (pv 1) (pa_cons (pe_op op_mod (pe_callTy call_int1 (by rfl) z_int boot_int (pa_cons (pv 3) pa_nil)) pe_int) pa_nil)))
  (pss_one (ps_set (i := 3) sc_law_draws.nd rfl (.inl rfl) (pe_op op_fdiv (pv 3) pe_int))))))) (pss_cons (ps_set (i := 5) sc_law_draws.nd rfl (.inl rfl) (pe_op op_mod (pe_callTy call_int1 (by rfl) z_int boot_int (pa_cons (pe_op op_add (pe_op op_mul (pv 3) pe_int) pe_int) pa_nil)) pe_int))
  (pss_cons (ps_set (i := 6) sc_law_draws.nd rfl (.inl rfl) (pe_op op_mod (pe_callTy call_int1 (by rfl) z_int boot_int (pa_cons (pe_op op_add (pe_op op_mul (pv 5) pe_int) (pv 3)) pa_nil)) pe_int))
  (pss_one (ps_expr (pe_bm PySem.F.plainAttrs_list PySem.F.slot_list_extend PySem.F.type_list_extend mt_extend (pv 1) (pa_cons (pe_lst (pa_cons (pe_op op_mod (pe_callTy call_int1 (by rfl) z_int boot_int (pa_cons (pv 3) pa_nil)) pe_int) (pa_cons (pe_op op_mod (pe_callTy call_int1 (by rfl) z_int boot_int (pa_cons (pv 5) pa_nil)) pe_int) (pa_cons (pe_op op_mod (pe_callTy call_int1 (by rfl) z_int boot_int (pa_cons (pv 6) pa_nil)) pe_int) pa_nil)))) pa_nil))))))))))
  (pss_one (ps_ret (pv 1)))))
    , ?_⟩
    refine ⟨Nat.zero_le _, fun o no => ?_⟩
    have s1 : Same H (upd H o (.lst [])) := same_upd no
    refine ⟨.ref a, rfl, a, rfl, ⟨_, s1.seq hS⟩, for_list (K := K) (a := a) (xs := ns.map V.int) (fun i σ H' => ∃ v2 v3 v4 v5 v6 ds, σ = [some (.ref a), some (.ref o), v2, v3, v4, v5, v6] ∧ Same H H' ∧ H' o = some (.lst (ds.map V.int)) ∧ ds.length ≤ 60 * i)
      ⟨none, none, none, none, none, [], rfl, s1, upd_same, Nat.le_refl _⟩ (fun i σ H' _ ⟨_, _, _, _, _, _, _, sm, _⟩ => sm.seq hS) ?_ ?_⟩
    · rintro i y σ H1 hi ⟨v2, v3, v4, v5, v6, ds, rfl, sm, hL, hl⟩
      have hi63 : i < 63 := by
        have := (List.getElem?_eq_some_iff.mp hi).1
        rw [List.length_map] at this
        omega
      obtain ⟨z, hz, rfl⟩ := map_int_get hi
      refine ⟨_, rfl, z, rfl, ?_⟩
      generalize hr0 : (if z < 0 then -z else z) = r0
      have h0 : 0 ≤ r0 := by
        subst hr0
        split <;> omega
      refine ⟨_, rfl, _, _, rfl, rfl, _, rfl, ite2 (fun e => ?_) (fun e => ?_)⟩
      · refine ⟨60, rfl, by decide, by decide, for_range (lo := 0) (n := 60) (fun j σ H' => ∃ r v4 ds', σ = [some (.ref a), some (.ref o), some (.int z), some (.int r), v4, v5, v6] ∧ 0 ≤ r ∧ Same H H' ∧ H' o = some (.lst (ds'.map V.int)) ∧ ds'.length ≤ 60 * i + j)
          ⟨r0, v4, ds, rfl, h0, sm, hL, hl⟩ ?_ ?_⟩
        · rintro j σ H2 hj ⟨r, v4', ds', rfl, hr0', sm2, hL2, hl2⟩
          refine ⟨_, rfl, rfl, _, rfl, ite2 (fun e1 => ?_) (fun e1 => ?_)⟩
          · exact ⟨_, _, _, _, _, ds', rfl, sm2, hL2, by omega⟩
          · refine ⟨.ref o, rfl, .inl ⟨rfl, _, .inl (.inl hL2)⟩, .int r, rfl, .inl ⟨r, rfl, r, 1000, rfl, rfl, (show (0:Int) < 1000 by decide), o, _, _, rfl, rfl, hL2, ?_, ?_⟩⟩
            · rw [List.length_map]
              exact small_of (by omega)
            · refine ⟨_, rfl, r, 1000, rfl, rfl, ⟨by decide, by decide⟩, ?_⟩
              refine ⟨r / 1000, _, ds' ++ [r % 1000], rfl, by omega, Same.mut sm2 no, ?_, ?_⟩
              · rw [upd_same, List.map_append]
                rfl
              · rw [List.length_append]
                show ds'.length + 1 ≤ _
                omega
        · rintro σ H2 ⟨r, v4', ds', rfl, hr0', sm2, hL2, hl2⟩
          exact ⟨_, _, _, _, _, ds', rfl, sm2, hL2, by omega⟩
      · have c1 : CMul r0 48271 := .inr ⟨by decide, by decide⟩
        refine ⟨.int r0, rfl, r0, 48271, rfl, rfl, c1, _, 11, rfl, rfl, .inl ⟨_, rfl, _, 2147483647, rfl, rfl, (show (0:Int) < 2147483647 by decide), ?_⟩⟩
        have c2 : ∀ x : Int, CMul x 69621 := fun _ => .inr ⟨by decide, by decide⟩
        refine ⟨_, rfl, _, 69621, rfl, rfl, c2 _, .int r0, rfl, _, r0, rfl, rfl, .inl ⟨_, rfl, _, 2147483629, rfl, rfl, (show (0:Int) < 2147483629 by decide), ?_⟩⟩
        have p1000 : (0:Int) < 1000 := by decide
        refine ⟨.ref o, rfl, .inl ⟨rfl, _, .inl (.inl hL)⟩, ?_⟩
        refine ⟨.int r0, rfl, .inl ⟨r0, rfl, r0, 1000, rfl, rfl, p1000, _, rfl, .inl ⟨_, rfl, _, 1000, rfl, rfl, p1000, _, rfl, .inl ⟨_, rfl, _, 1000, rfl, rfl, p1000, ?_⟩⟩⟩⟩
        refine ⟨(by show 3 ≤ sizeLine; decide), fun c nc => ?_⟩
        have hoc : o ≠ c := ne_of_none hL nc
        refine ⟨o, c, ds.map V.int, _, rfl, rfl, ?_, upd_same, ?_, ?_⟩
        · rw [upd_ne hoc]
          exact hL
        · rw [List.length_map]
          exact Nat.le_of_lt (small_of (show ds.length + 3 ≤ 100000 by omega))
        · refine ⟨_, _, _, _, _, ds ++ [r0 % 1000, (r0 * 48271 + 11) % 2147483647 % 1000, ((r0 * 48271 + 11) % 2147483647 * 69621 + r0) % 2147483629 % 1000], rfl, Same.mut (Same.trans sm (same_upd nc)) no, ?_, ?_⟩
          · rw [upd_same, List.map_append]
            rfl
          · rw [List.length_append]
            show ds.length + 3 ≤ _
            omega
    · rintro σ H1 ⟨v2, v3, v4, v5, v6, ds, rfl, sm, hL, hl⟩
      exact ⟨_, rfl, q H1 o ds sm no hL⟩
end

theorem sqL_same {K : PySem.W.Frag} {H H' : Hp} {a : Addr} {xs : List V} (e : Same H H') (h : SqL K H a xs) : SqL K H' a xs := by
  rcases h with (h | ⟨o, h⟩) | h
  · exact .inl (.inl (e _ _ h))
  · exact .inl (.inr ⟨o, e _ _ h⟩)
  · exact .inr h
theorem none_back {H H' : Hp} {a : Addr} (s : Same H H') (h : H' a = none) : H a = none := by
  cases e : H a with
  | none => rfl
  | some o =>
    rw [s _ _ e] at h
    exact nomatch h

/-- a tuple of these integers -/
def TP (H : Hp) (v : V) (z : List Int) : Prop := ∃ t, v = .ref t ∧ H t = some (.tup (z.map V.int))
theorem TP.same {H H' : Hp} {v : V} {z : List Int} (s : Same H H') (h : TP H v z) : TP H' v z := by
  obtain ⟨t, rfl, h⟩ := h
  exact ⟨t, rfl, s _ _ h⟩
def dT (z : List Int) : PyData := .tuple (z.map PyData.int)
theorem ints_dp {K : PySem.W.Frag} {H : Hp} : ∀ z : List Int, DpAll K H (z.map V.int) (z.map PyData.int)
  | [] => .nil
  | a :: r => .cons (.int a) (ints_dp r)
theorem TP.dp {K : PySem.W.Frag} {H : Hp} {v : V} {z : List Int} (h : TP H v z) : Dp K H v (dT z) := by
  obtain ⟨t, rfl, h⟩ := h
  exact .tup (.inl (.inl h)) (ints_dp z)
theorem tps_dp {K : PySem.W.Frag} {H : Hp} : ∀ {vs : List V} {zs : List (List Int)}, Paired (TP H) vs zs → DpAll K H vs (zs.map dT)
  | _, _, .nil => .nil
  | _, _, .cons a b => .cons a.dp (tps_dp b)
theorem paired_add {α β : Type} {F : α → β → Prop} {a : α} {b : β} (h : F a b) : ∀ {l : List α} {m : List β}, Paired F l m → Paired F (l ++ [a]) (m ++ [b])
  | _, _, .nil => .cons h .nil
  | _, _, .cons x y => .cons x (paired_add h y)
theorem dT_small {z : List Int} (h : ∀ k, (co z k).natAbs < 2 ^ 200) : SmL 1 (1923 * z.length + 3) (dT z) := by
  have e := smL_tuple (ds := z.map PyData.int) (n := 0) (k := 1921) fun D hD => by
    obtain ⟨a, ha, rfl⟩ := List.mem_map.mp hD
    obtain ⟨i, hi, rfl⟩ := List.mem_iff_getElem.mp ha
    have e1 := co_get hi
    rw [List.getElem?_eq_getElem hi] at e1
    rw [Option.some.inj e1]
    exact smL_int (h i)
  rw [List.length_map] at e
  exact e
theorem SmL.more {n k k' : Nat} {D : PyData} (h : SmL n k D) (hk : k ≤ k') : SmL n k' D := by
  obtain ⟨h1, h2, h3, h4⟩ := h
  exact ⟨h1, h2, h3, Nat.le_trans h4 hk⟩
theorem repT {α : Type} (x : α) : ∀ n : Nat, (List.replicate n [x]).flatten = List.replicate n x
  | 0 => rfl
  | n + 1 => by rw [List.replicate_succ, List.flatten_cons, repT x n, List.replicate_succ]; rfl
def rCatB (K : PySem.W.Frag) : R2 := fun x y H Q => ∃ a b xs ys, x = .ref a ∧ y = .ref b ∧ SqT K H a xs ∧ SqT K H b ys ∧ xs.length + ys.length ≤ sizeLine ∧ ∀ p H', Same H H' → SqT K H' p (xs ++ ys) → Q (.ref p) H'
theorem op_catB {X : Cx} : OpR X (binaryOp .Add) (rCatB X.K) := by
  intro pins s σ H x y v u Q I rx ry h
  obtain ⟨a, b, xs, ys, rfl, rfl, ha, hb, hz, q⟩ := h
  refine op_catA pins s σ H _ _ v u Q I rx ry ⟨a, b, xs, ys, rfl, rfl, ha, hb, hz, fun e => ?_, fun _ e => ?_, fun _ _ p np => ?_⟩
  · exact q b H (Same.refl _) (by rw [e, List.nil_append]; exact hb)
  · exact q a H (Same.refl _) (by rw [e, List.append_nil]; exact ha)
  · exact q p _ (same_upd np) (.inl (.inl upd_same))
theorem sqT_butL {K : PySem.W.Frag} {H H' : Hp} {r a : Addr} {xs ys : List V} (hr : H r = some (.lst ys)) (e : SameBut r H H') (h : SqT K H a xs) : SqT K H' a xs := by
  rcases h with (h | ⟨o, h⟩) | h
  · exact .inl (.inl (e _ _ (ne_of h hr (fun z => nomatch z)) h))
  · exact .inl (.inr ⟨o, e _ _ (ne_of h hr (fun z => nomatch z)) h⟩)
  · exact .inr h
theorem eqvAll_ints : ∀ x y : List Int, PyData.eqvAll (x.map PyData.int) (y.map PyData.int) = decide (x = y)
  | [], [] => by simp [PyData.eqvAll]
  | [], _ :: _ => by simp [PyData.eqvAll]
  | _ :: _, [] => by simp [PyData.eqvAll]
  | a :: x, b :: y => by
    rw [List.map_cons, List.map_cons]
    simp only [PyData.eqvAll, PyData.eqv, eqvAll_ints x y]
    by_cases h1 : a = b
    · by_cases h2 : x = y
      · simp [h1, h2]
      · simp [h2]
    · simp [h1]
theorem eqv_dT (x y : List Int) : PyData.eqv (dT x) (dT y) = decide (x = y) := by
  unfold dT
  simp only [PyData.eqv, eqvAll_ints]
theorem lay_ints : ∀ x : List Int, PyData.canLayAll0 (x.map PyData.int) = true ∧ PyData.depthAll (x.map PyData.int) = 0
  | [] => ⟨by simp [PyData.canLayAll0], by simp [PyData.depthAll]⟩
  | a :: x => by
    obtain ⟨h1, h2⟩ := lay_ints x
    exact ⟨by simp [PyData.canLayAll0, PyData.canLay0, h1], by simp [PyData.depthAll, PyData.depth, h2]⟩
theorem dT_shaped (x : List Int) : SeqAt.shaped (dT x) = true := by
  obtain ⟨h1, h2⟩ := lay_ints x
  show (PyData.canLay0 (dT x) && decide (PyData.depth (dT x) ≤ 64)) = true
  unfold dT
  rw [show PyData.canLay0 (.tuple (x.map PyData.int)) = true by simp [PyData.canLay0, h1], show PyData.depth (.tuple (x.map PyData.int)) = 1 by simp [PyData.depth, h2]]
  rfl
theorem eqD_TP {K : PySem.W.Frag} {H : Hp} {u v : V} {x y : List Int} {Q : VK} (hx : TP H u x) (hy : TP H v y) (q : Q (.bl (decide (x = y))) H) : rEqD K u v H Q :=
  ⟨_, _, hx.dp, hy.dp, dT_shaped x, dT_shaped y, by rw [eqv_dT]; exact q⟩
theorem neD_TP {K : PySem.W.Frag} {H : Hp} {u v : V} {x y : List Int} {Q : VK} (hx : TP H u x) (hy : TP H v y) (q : Q (.bl (!decide (x = y))) H) : rNeD K u v H Q :=
  ⟨_, _, hx.dp, hy.dp, dT_shaped x, dT_shaped y, by rw [eqv_dT]; exact q⟩
def rRepB (K : PySem.W.Frag) : R2 := fun x y H Q => ∃ l k xs, x = .ref l ∧ y = .int k ∧ SqT K H l xs ∧ xs ≠ [] ∧ 0 ≤ k ∧ k ≤ 1000 ∧ xs.length ≤ 1000 ∧ ∀ p H', Same H H' → SqT K H' p (List.replicate k.toNat xs).flatten → Q (.ref p) H'
theorem op_repB {X : Cx} : OpR X (binaryOp .Mult) (rRepB X.K) := by
  intro pins s σ H x y v u Q I rx ry h
  obtain ⟨l, k, xs, rfl, rfl, hT, hne, h1, h2, hz, q⟩ := h
  refine op_repA pins s σ H _ _ v u Q I rx ry ⟨l, k, xs, rfl, rfl, hT, hne, h1, h2, hz, fun e => ?_, fun _ p np => ?_⟩
  · refine q l H (Same.refl _) ?_
    rw [e, show (1 : Int).toNat = 1 from rfl]
    simpa using hT
  · exact q p _ (same_upd np) (.inl (.inl upd_same))
theorem ix_tupK {X : Cx} {K : PySem.W.Frag} (hK : X.K = K) : IxR X (rIxT K) := by
  subst hK
  exact ix_tup
theorem ix_listK {X : Cx} {K : PySem.W.Frag} (hK : X.K = K) : IxR X (rIxL K) := by
  subst hK
  exact ix_list
theorem ite_same {x : V} {A B : Prop} (h : B) : if (!decide (x = x)) = true then A else B := by
  rw [decide_eq_true rfl]
  exact iteF h
theorem pi_tupK {X : Cx} {K : PySem.W.Frag} {tg e : Expr} {te : TE} (hK : X.K = K) (he : PE X e te) : PI X tg e (iTup K te) := by
  subst hK
  exact pi_tup he
theorem call_list_ofK {X : Cx} {K : PySem.W.Frag} (hK : X.K = K) : CallR X (.type "list") (fun xs H Q => ∃ p ys, xs = [.ref p] ∧ (SqL K H p ys ∨ SqT K H p ys) ∧ ∀ l, H l = none → Q (.ref l) (upd H l (.lst ys))) := by
  subst hK
  exact call_list_of
theorem op_eqDK {X : Cx} {K : PySem.W.Frag} (hK : X.K = K) (hu : X.A.units + 64 < cLine) : OpR X (compareOp .Eq) (rEqD K) := by
  subst hK
  exact op_eqD hu

/-! ### marks and blocks -/
def seenL : List Int → List Int → List Int
  | acc, [] => acc
  | acc, x :: l => seenL (if x ∈ acc then acc else acc ++ [x]) l
def ixs (N : Nat) : List Int := (List.range N).map fun (i : Nat) => (i : Int)
def posOf (marks : List Int) (v : Int) : List Int := ((List.range marks.length).filter fun i => decide (co marks i = v)).map fun (i : Nat) => (i : Int)
def blocksOf (marks : List Int) : List (List Int) := (seenL [] marks).map (posOf marks)
theorem seenL_snoc : ∀ (l acc : List Int) (x : Int), seenL acc (l ++ [x]) = if x ∈ seenL acc l then seenL acc l else seenL acc l ++ [x]
  | [], acc, x => rfl
  | y :: l, acc, x => by
    show seenL _ (l ++ [x]) = _
    rw [seenL_snoc l _ x]
    rfl
theorem seenL_sub : ∀ (l acc : List Int) (x : Int), x ∈ acc → x ∈ seenL acc l
  | [], _, _, h => h
  | y :: l, acc, x, h => by
    show x ∈ seenL _ l
    refine seenL_sub l _ x ?_
    split
    · exact h
    · exact List.mem_append_left _ h
theorem seenL_mem : ∀ (l acc : List Int) (x : Int), x ∈ seenL acc l ↔ x ∈ acc ∨ x ∈ l
  | [], acc, x => by
    show x ∈ acc ↔ _
    simp
  | y :: l, acc, x => by
    show x ∈ seenL _ l ↔ _
    rw [seenL_mem l _ x]
    by_cases c : y ∈ acc
    · rw [if_pos c, List.mem_cons]
      constructor
      · rintro (h | h)
        · exact .inl h
        · exact .inr (.inr h)
      · rintro (h | rfl | h)
        · exact .inl h
        · exact .inl c
        · exact .inr h
    · rw [if_neg c, List.mem_cons, List.mem_append, List.mem_singleton, or_assoc]
theorem seenL_nodup : ∀ (l acc : List Int), acc.Nodup → (seenL acc l).Nodup
  | [], _, h => h
  | y :: l, acc, h => by
    refine seenL_nodup l _ ?_
    split
    · exact h
    · rename_i c
      refine List.nodup_append.mpr ⟨h, by simp, fun a ha b hb => ?_⟩
      rw [List.mem_singleton.mp hb]
      exact fun z => c (z ▸ ha)
theorem seenL_len : ∀ (l acc : List Int), (seenL acc l).length ≤ acc.length + l.length
  | [], _ => Nat.le_refl _
  | y :: l, acc => by
    have h := seenL_len l (if y ∈ acc then acc else acc ++ [y])
    show (seenL _ l).length ≤ _
    rw [List.length_cons]
    split at h
    · rename_i c
      rw [if_pos c]
      omega
    · rename_i c
      rw [if_neg c]
      rw [List.length_append] at h
      have : [y].length = 1 := rfl
      omega
/-- equal marks alone count -/
theorem seenL_map {g : Int → Int} : ∀ (l acc : List Int), (∀ x ∈ acc ++ l, ∀ y ∈ acc ++ l, g x = g y → x = y) → seenL (acc.map g) (l.map g) = (seenL acc l).map g
  | [], _, _ => rfl
  | y :: l, acc, h => by
    show seenL (if g y ∈ acc.map g then acc.map g else acc.map g ++ [g y]) (l.map g) = (seenL (if y ∈ acc then acc else acc ++ [y]) l).map g
    by_cases c : y ∈ acc
    · rw [if_pos c, if_pos (List.mem_map_of_mem c)]
      refine seenL_map l acc fun a ha b hb => h a ?_ b ?_
      · rcases List.mem_append.mp ha with z | z
        · exact List.mem_append_left _ z
        · exact List.mem_append_right _ (List.mem_cons_of_mem _ z)
      · rcases List.mem_append.mp hb with z | z
        · exact List.mem_append_left _ z
        · exact List.mem_append_right _ (List.mem_cons_of_mem _ z)
    · have c2 : g y ∉ acc.map g := fun z => by
        obtain ⟨a, ha, e⟩ := List.mem_map.mp z
        exact c (h a (List.mem_append_left _ ha) y (List.mem_append_right _ List.mem_cons_self) e ▸ ha)
      rw [if_neg c, if_neg c2, show acc.map g ++ [g y] = (acc ++ [y]).map g by rw [List.map_append]; rfl]
      refine seenL_map l (acc ++ [y]) fun a ha b hb => h a ?_ b ?_
      · rwa [List.append_assoc] at ha
      · rwa [List.append_assoc] at hb
theorem co_mapI (g : Int → Int) (l : List Int) {i : Nat} (h : i < l.length) : co (l.map g) i = g (co l i) := by
  have e := co_get (l := l.map g) (k := i) (by rw [List.length_map]; exact h)
  rw [List.getElem?_map, co_get h] at e
  exact (Option.some.inj e).symm
theorem posOf_map {g : Int → Int} {marks : List Int} {v : Int} (hv : v ∈ marks) (h : ∀ x ∈ marks, ∀ y ∈ marks, g x = g y → x = y) : posOf (marks.map g) (g v) = posOf marks v := by
  unfold posOf
  rw [List.length_map]
  congr 1
  refine List.filter_congr fun i hi => ?_
  have hi' := List.mem_range.mp hi
  rw [co_mapI g marks hi']
  by_cases c : co marks i = v
  · rw [decide_eq_true c, decide_eq_true (congrArg g c)]
  · rw [decide_eq_false c, decide_eq_false (fun z => c (h _ (co_mem hi') _ hv z))]
theorem blocksOf_map {g : Int → Int} {marks : List Int} (h : ∀ x ∈ marks, ∀ y ∈ marks, g x = g y → x = y) : blocksOf (marks.map g) = blocksOf marks := by
  unfold blocksOf
  rw [show ([] : List Int) = ([] : List Int).map g from rfl, seenL_map marks [] (by rw [List.nil_append]; exact h), List.map_map]
  refine List.map_congr_left fun v hv => ?_
  rcases (seenL_mem marks [] v).mp hv with z | z
  · exact nomatch z
  · exact posOf_map z h
/-! a partition -/
theorem perm_split (p : Nat → Bool) : ∀ l : List Nat, (l.filter p ++ l.filter fun x => !p x).Perm l := fun l => List.filter_append_perm p l
theorem part_perm {f : Nat → Int} : ∀ (vs : List Int) (l : List Nat), vs.Nodup → (∀ x ∈ l, f x ∈ vs) → ((vs.map fun v => l.filter fun i => decide (f i = v)).flatten).Perm l
  | [], l, _, h => by
    have : l = [] := List.eq_nil_iff_forall_not_mem.mpr fun x hx => nomatch h x hx
    rw [this]
    exact .refl _
  | v :: vs, l, nd, h => by
    rw [List.map_cons, List.flatten_cons]
    obtain ⟨nv, nd'⟩ := List.nodup_cons.mp nd
    have ih := part_perm (f := f) vs (l.filter fun i => !decide (f i = v)) nd' fun x hx => by
      obtain ⟨h1, h2⟩ := List.mem_filter.mp hx
      rcases List.mem_cons.mp (h x h1) with e | e
      · rw [decide_eq_true e] at h2
        exact nomatch h2
      · exact e
    have e : (vs.map fun v' => (l.filter fun i => !decide (f i = v)).filter fun i => decide (f i = v')) = vs.map fun v' => l.filter fun i => decide (f i = v') := by
      refine List.map_congr_left fun v' hv' => ?_
      rw [List.filter_filter]
      refine List.filter_congr fun i _ => ?_
      by_cases c : f i = v'
      · have c2 : f i ≠ v := fun z => nv (by rw [← z, c]; exact hv')
        rw [decide_eq_true c, decide_eq_false c2]
        rfl
      · rw [decide_eq_false c]
        rfl
    rw [e] at ih
    exact (List.Perm.append_left _ ih).trans (perm_split _ l)
theorem mem_posOf {marks : List Int} {v x : Int} : x ∈ posOf marks v ↔ ∃ i : Nat, x = (i : Int) ∧ i < marks.length ∧ co marks i = v := by
  unfold posOf
  rw [List.mem_map]
  constructor
  · rintro ⟨i, hi, rfl⟩
    obtain ⟨h1, h2⟩ := List.mem_filter.mp hi
    exact ⟨i, rfl, List.mem_range.mp h1, of_decide_eq_true h2⟩
  · rintro ⟨i, rfl, h1, h2⟩
    exact ⟨i, List.mem_filter.mpr ⟨List.mem_range.mpr h1, decide_eq_true h2⟩, rfl⟩
theorem mem_get {l : List Int} {v : Int} (h : v ∈ l) : ∃ i, i < l.length ∧ co l i = v := by
  obtain ⟨i, hi, e⟩ := List.mem_iff_getElem.mp h
  refine ⟨i, hi, ?_⟩
  have e1 := co_get hi
  rw [List.getElem?_eq_getElem hi] at e1
  rw [← Option.some.inj e1]
  exact e
theorem blocks_perm (marks : List Int) : (blocksOf marks).flatten.Perm (ixs marks.length) := by
  unfold blocksOf ixs
  have h := part_perm (f := co marks) (seenL [] marks) (List.range marks.length) (seenL_nodup marks [] List.nodup_nil) fun x hx => (seenL_mem marks [] _).mpr (.inr (co_mem (List.mem_range.mp hx)))
  have e : ((seenL [] marks).map (posOf marks)).flatten = (((seenL [] marks).map fun v => (List.range marks.length).filter fun i => decide (co marks i = v)).flatten).map fun (i : Nat) => (i : Int) := by
    rw [List.map_flatten, List.map_map]
    rfl
  rw [e]
  exact h.map _
theorem blocks_ne {marks : List Int} : ∀ b ∈ blocksOf marks, b ≠ [] := fun b hb => by
  obtain ⟨v, hv, rfl⟩ := List.mem_map.mp hb
  rcases (seenL_mem marks [] v).mp hv with z | z
  · exact nomatch z
  · obtain ⟨i, hi, e⟩ := mem_get z
    intro c
    have : (i : Int) ∈ posOf marks v := mem_posOf.mpr ⟨i, rfl, hi, e⟩
    rw [c] at this
    exact nomatch this
theorem range_lt (n : Nat) : (List.range n).Pairwise (· < ·) := List.pairwise_lt_range
theorem posOf_asc (marks : List Int) (v : Int) : (posOf marks v).Pairwise (· < ·) := by
  unfold posOf
  exact List.pairwise_map.mpr ((List.Pairwise.filter _ (range_lt _)).imp fun {a b} h => by omega)
theorem head_ix (p : Nat → Bool) {i : Nat} (h0 : ∀ j, j < i → p j = false) (h1 : p i = true) : ∀ N, (N ≤ i → (List.range N).filter p = []) ∧ (i < N → ((List.range N).filter p)[0]? = some i)
  | 0 => ⟨fun _ => rfl, fun h => absurd h (Nat.not_lt_zero _)⟩
  | N + 1 => by
    obtain ⟨a, b⟩ := head_ix p h0 h1 N
    rw [List.range_succ, List.filter_append]
    refine ⟨fun h => ?_, fun h => ?_⟩
    · rw [a (by omega), List.filter_cons, h0 N (by omega)]
      rfl
    · by_cases c : N = i
      · rw [a (by omega), List.filter_cons, c, h1]
        rfl
      · have h2 := b (by omega)
        rw [List.getElem?_append_left (List.getElem?_eq_some_iff.mp h2).1]
        exact h2
theorem posOf_head {marks : List Int} {i : Nat} (hi : i < marks.length) (h : co marks i ∉ marks.take i) : co (posOf marks (co marks i)) 0 = (i : Int) := by
  have h2 := (head_ix (fun j => decide (co marks j = co marks i)) (i := i) (fun j hj => decide_eq_false fun z => h ?_) (decide_eq_true rfl) marks.length).2 hi
  · unfold posOf co
    rw [List.getD_eq_getElem?_getD, List.getElem?_map]
    show ((((List.range marks.length).filter fun j => decide (co marks j = co marks i))[0]?).map fun (i : Nat) => (i : Int)).getD 0 = _
    rw [h2]
    rfl
  · rw [← z]
    have e : (marks.take i)[j]? = some (co marks j) := by rw [List.getElem?_take_of_lt hj, co_get (by omega)]
    exact List.mem_of_getElem? e
theorem take_snoc {l : List Int} {i : Nat} (h : i < l.length) : l.take (i + 1) = l.take i ++ [co l i] := by
  rw [List.take_succ, co_get h]
  rfl
theorem heads_run (marks : List Int) : ∀ i, i ≤ marks.length → ((seenL [] (marks.take i)).map fun v => co (posOf marks v) 0).Pairwise (· < ·) ∧ ∀ v ∈ seenL [] (marks.take i), co (posOf marks v) 0 < (i : Int)
  | 0, _ => ⟨.nil, fun v hv => nomatch hv⟩
  | i + 1, h => by
    obtain ⟨h1, h2⟩ := heads_run marks i (by omega)
    rw [take_snoc (by omega), seenL_snoc]
    by_cases c : co marks i ∈ seenL [] (marks.take i)
    · rw [if_pos c]
      exact ⟨h1, fun v hv => by have := h2 v hv; omega⟩
    · rw [if_neg c]
      have hd := posOf_head (marks := marks) (i := i) (by omega) fun z => c ((seenL_mem _ _ _).mpr (.inr z))
      refine ⟨?_, fun v hv => ?_⟩
      · rw [List.map_append]
        refine List.pairwise_append.mpr ⟨h1, List.pairwise_singleton _ _, fun a ha b hb => ?_⟩
        obtain ⟨v, hv, rfl⟩ := List.mem_map.mp ha
        obtain ⟨u, hu, rfl⟩ := List.mem_map.mp hb
        rw [List.mem_singleton.mp hu, hd]
        exact h2 v hv
      · rcases List.mem_append.mp hv with hv | hv
        · have := h2 v hv
          omega
        · rw [List.mem_singleton.mp hv, hd]
          omega
theorem blocks_heads (marks : List Int) : ((blocksOf marks).map fun b => co b 0).Pairwise (· < ·) := by
  have h := (heads_run marks marks.length (Nat.le_refl _)).1
  rw [List.take_length] at h
  unfold blocksOf
  rw [List.map_map]
  exact h
/-! labels -/
def labFrom : List (List Int) → Nat → List Int → List Int
  | [], _, ms => ms
  | b :: bs, k, ms => labFrom bs (k + 1) (b.foldl (fun ms p => ms.set p.toNat (k : Int)) ms)
def labL (bs : List (List Int)) (N : Nat) : List Int := labFrom bs 0 (List.replicate N 0)
theorem fold_len (k : Int) : ∀ (b ms : List Int), (b.foldl (fun ms p => ms.set p.toNat k) ms).length = ms.length
  | [], _ => rfl
  | p :: b, ms => by
    show (b.foldl _ (ms.set p.toNat k)).length = _
    rw [fold_len k b, List.length_set]
theorem fold_co (k : Int) {i : Nat} : ∀ (b ms : List Int), (∀ p ∈ b, 0 ≤ p ∧ p < ms.length) → co (b.foldl (fun ms p => ms.set p.toNat k) ms) i = if (i : Int) ∈ b then k else co ms i
  | [], _, _ => rfl
  | p :: b, ms, h => by
    show co (b.foldl _ (ms.set p.toNat k)) i = _
    obtain ⟨h1, h2⟩ := h p List.mem_cons_self
    rw [fold_co k b (ms.set p.toNat k) fun q hq => by rw [List.length_set]; exact h q (List.mem_cons_of_mem _ hq), co_set i (by omega)]
    by_cases c : (i : Int) ∈ b
    · rw [if_pos c, if_pos (List.mem_cons_of_mem _ c)]
    · rw [if_neg c]
      by_cases c2 : i = p.toNat
      · rw [if_pos c2, if_pos (List.mem_cons.mpr (.inl (by omega)))]
      · rw [if_neg c2, if_neg]
        intro z
        rcases List.mem_cons.mp z with z | z
        · omega
        · exact c z
theorem labFrom_len : ∀ (bs : List (List Int)) (k : Nat) (ms : List Int), (labFrom bs k ms).length = ms.length
  | [], _, _ => rfl
  | b :: bs, k, ms => by
    show (labFrom bs (k + 1) _).length = _
    rw [labFrom_len bs, fold_len]
theorem labL_len (bs : List (List Int)) (N : Nat) : (labL bs N).length = N := by
  unfold labL
  rw [labFrom_len, List.length_replicate]
theorem labFrom_co {marks : List Int} {i : Nat} (hi : i < marks.length) : ∀ (vs : List Int) (k : Nat) (ms : List Int), vs.Nodup → ms.length = marks.length → co (labFrom (vs.map (posOf marks)) k ms) i = if co marks i ∈ vs then ((k + vs.idxOf (co marks i) : Nat) : Int) else co ms i
  | [], _, _, _, _ => rfl
  | v :: vs, k, ms, nd, hl => by
    obtain ⟨nv, nd'⟩ := List.nodup_cons.mp nd
    show co (labFrom (vs.map (posOf marks)) (k + 1) _) i = _
    rw [labFrom_co hi vs (k + 1) _ nd' (by rw [fold_len, hl]), fold_co (k : Int) (posOf marks v) ms fun p hp => by
      obtain ⟨j, rfl, hj, _⟩ := mem_posOf.mp hp
      omega]
    have e : ((i : Int) ∈ posOf marks v) ↔ co marks i = v := by
      rw [mem_posOf]
      exact ⟨fun ⟨j, e, _, h⟩ => by rw [show i = j by omega]; exact h, fun h => ⟨i, rfl, hi, h⟩⟩
    by_cases c : co marks i = v
    · rw [if_neg (by rw [c]; exact nv), if_pos (e.mpr c), if_pos (List.mem_cons.mpr (.inl c)), c, List.idxOf_cons_self]
      rfl
    · rw [if_neg (fun z => c (e.mp z))]
      by_cases c2 : co marks i ∈ vs
      · rw [if_pos c2, if_pos (List.mem_cons_of_mem _ c2), List.idxOf_cons, cond_eq_ite, if_neg (by simpa using Ne.symm c)]
        congr 1
        omega
      · rw [if_neg c2, if_neg fun z => (List.mem_cons.mp z).elim c c2]
theorem labL_marks (marks : List Int) : labL (blocksOf marks) marks.length = marks.map fun v => (((seenL [] marks).idxOf v : Nat) : Int) := by
  refine List.ext_getElem? fun i => ?_
  have l1 := labL_len (blocksOf marks) marks.length
  rcases Nat.lt_or_ge i marks.length with c | c
  · rw [co_get (by omega), List.getElem?_map, co_get c]
    unfold labL blocksOf
    rw [labFrom_co c (seenL [] marks) 0 _ (seenL_nodup marks [] List.nodup_nil) List.length_replicate, if_pos ((seenL_mem marks [] _).mpr (.inr (co_mem c))), Nat.zero_add]
    rfl
  · rw [List.getElem?_eq_none (by omega), List.getElem?_eq_none (by rw [List.length_map]; exact c)]
theorem idx_inj {l : List Int} {x y : Int} (hx : x ∈ l) (hy : y ∈ l) (h : (((l.idxOf x : Nat) : Int)) = ((l.idxOf y : Nat) : Int)) : x = y := by
  have h' : l.idxOf x = l.idxOf y := by omega
  have e1 := List.getElem_idxOf (List.idxOf_lt_length_of_mem hx)
  have e2 := List.getElem_idxOf (List.idxOf_lt_length_of_mem hy)
  rw [← e1, ← e2]
  congr 1
theorem blocks_lab (marks : List Int) : blocksOf (labL (blocksOf marks) marks.length) = blocksOf marks := by
  rw [labL_marks]
  exact blocksOf_map fun x hx y hy h => idx_inj ((seenL_mem marks [] x).mpr (.inr hx)) ((seenL_mem marks [] y).mpr (.inr hy)) h

def siz (n m : Int) : Bool := decide (0 ≤ n ∧ n ≤ 8 ∧ 0 ≤ m ∧ m ≤ 8 ∧ n + m ≤ 12)
theorem cr_sortedITK {X : Cx} {K : PySem.W.Frag} (hK : X.K = K) : CallR X (.builtin "sorted") (rSortedIT K) := by
  subst hK
  exact cr_sortedIT
theorem outer_it {J : It} {n : Nat} {G : Hp → Prop} {Y : Nat → Hp → V → Hp → Prop} (w : Walk J n G Y) {B : V → Hp → (Hp → Prop) → Prop} {H0 : Hp} {Qd : Hp → Prop} (Pv : Nat → Hp → Prop) (h0 : Pv 0 H0) (hG : ∀ i H, i ≤ n → Pv i H → G H)
    (hs : ∀ i x H H', i < n → Pv i H → Y i H x H' → B x H' (Pv (i + 1))) (hd : ∀ H, Pv n H → Qd H) :
    ∃ W : Nat → Nat → Hp → Prop, (∃ m, W 0 m H0) ∧ ∀ i m H, W i m H → (J.stop i H ∧ Qd H) ∨ (J.go i H ∧ ∃ Nx : Hp → Prop, (∀ H', Nx H' → ∃ m', m' < m ∧ W (i + 1) m' H') ∧ ∀ x H', J.yld i H x H' → B x H' Nx) := by
  refine ⟨fun i m H => m = n - i ∧ i ≤ n ∧ Pv i H, ⟨n, by simp, Nat.zero_le _, h0⟩, ?_⟩
  rintro i m H ⟨rfl, hi, p⟩
  have q := hG i H hi p
  by_cases hlt : i < n
  · refine .inr ⟨w.goes i H hlt q, Pv (i + 1), fun H' p' => ⟨n - (i + 1), by omega, rfl, hlt, p'⟩, fun x H' y => hs i x H H' hlt p (w.yields i H x H' hlt q y)⟩
  · have e : i = n := by omega
    subst e
    exact .inl ⟨w.stops H q, hd H p⟩
/-- a tuple of tuples of integers; a diagram -/
def TT (H : Hp) (v : V) (bs : List (List Int)) : Prop := ∃ tb ts, v = .ref tb ∧ H tb = some (.tup ts) ∧ Paired (TP H) ts bs
def DGv (H : Hp) (v : V) (n m : Int) (bs : List (List Int)) : Prop := ∃ t vb, v = .ref t ∧ H t = some (.tup [.int n, .int m, vb]) ∧ TT H vb bs
theorem TT.same {H H' : Hp} {v : V} {bs : List (List Int)} (s : Same H H') (h : TT H v bs) : TT H' v bs := by
  obtain ⟨tb, ts, rfl, h, pr⟩ := h
  exact ⟨tb, ts, rfl, s _ _ h, Paired.mapP pr fun _ _ h => h.same s⟩
theorem DGv.same {H H' : Hp} {v : V} {n m : Int} {bs : List (List Int)} (s : Same H H') (h : DGv H v n m bs) : DGv H' v n m bs := by
  obtain ⟨t, vb, rfl, h, tt⟩ := h
  exact ⟨t, vb, rfl, s _ _ h, tt.same s⟩
def dTT (bs : List (List Int)) : PyData := .tuple (bs.map dT)
def dDG (n m : Int) (bs : List (List Int)) : PyData := .tuple [.int n, .int m, dTT bs]
theorem TT.dp {K : PySem.W.Frag} {H : Hp} {v : V} {bs : List (List Int)} (h : TT H v bs) : Dp K H v (dTT bs) := by
  obtain ⟨tb, ts, rfl, h, pr⟩ := h
  exact .tup (.inl (.inl h)) (tps_dp pr)
theorem DGv.dp {K : PySem.W.Frag} {H : Hp} {v : V} {n m : Int} {bs : List (List Int)} (h : DGv H v n m bs) : Dp K H v (dDG n m bs) := by
  obtain ⟨t, vb, rfl, h, tt⟩ := h
  exact .tup (.inl (.inl h)) (.cons (.int n) (.cons (.int m) (.cons tt.dp .nil)))
theorem lay_dTs : ∀ bs : List (List Int), PyData.canLayAll0 (bs.map dT) = true ∧ PyData.depthAll (bs.map dT) ≤ 1
  | [] => ⟨by simp [PyData.canLayAll0], by simp [PyData.depthAll]⟩
  | b :: bs => by
    obtain ⟨h1, h2⟩ := lay_dTs bs
    obtain ⟨h3, h4⟩ := lay_ints b
    have e1 : PyData.canLay0 (dT b) = true := by simp [dT, PyData.canLay0, h3]
    have e2 : PyData.depth (dT b) = 1 := by simp [dT, PyData.depth, h4]
    refine ⟨by simp [PyData.canLayAll0, e1, h1], ?_⟩
    simp only [List.map_cons, PyData.depthAll, e2]
    omega
theorem dTT_lay (bs : List (List Int)) : PyData.canLay0 (dTT bs) = true ∧ PyData.depth (dTT bs) ≤ 2 := by
  obtain ⟨h1, h2⟩ := lay_dTs bs
  exact ⟨by simp [dTT, PyData.canLay0, h1], by simp only [dTT, PyData.depth]; omega⟩
theorem dDG_lay (n m : Int) (bs : List (List Int)) : PyData.canLay0 (dDG n m bs) = true ∧ PyData.depth (dDG n m bs) ≤ 3 := by
  obtain ⟨h1, h2⟩ := dTT_lay bs
  exact ⟨by simp [dDG, PyData.canLay0, PyData.canLayAll0, h1], by simp only [dDG, PyData.depth, PyData.depthAll]; omega⟩
theorem dTT_shaped (bs : List (List Int)) : SeqAt.shaped (dTT bs) = true := by
  obtain ⟨h1, h2⟩ := dTT_lay bs
  show (PyData.canLay0 (dTT bs) && decide (PyData.depth (dTT bs) ≤ 64)) = true
  rw [h1, decide_eq_true (by omega)]
  rfl
theorem dDG_shaped (n m : Int) (bs : List (List Int)) : SeqAt.shaped (dDG n m bs) = true := by
  obtain ⟨h1, h2⟩ := dDG_lay n m bs
  show (PyData.canLay0 (dDG n m bs) && decide (PyData.depth (dDG n m bs) ≤ 64)) = true
  rw [h1, decide_eq_true (by omega)]
  rfl
/-- lists of integers -/
def dL (z : List Int) : PyData := .list (z.map PyData.int)
def LP (H : Hp) (v : V) (z : List Int) : Prop := ∃ t, v = .ref t ∧ H t = some (.lst (z.map V.int))
theorem LP.dp {K : PySem.W.Frag} {H : Hp} {v : V} {z : List Int} (h : LP H v z) : Dp K H v (dL z) := by
  obtain ⟨t, rfl, h⟩ := h
  exact .lst (.inl (.inl h)) (ints_dp z)
theorem LP.same {H H' : Hp} {v : V} {z : List Int} (s : Same H H') (h : LP H v z) : LP H' v z := by
  obtain ⟨t, rfl, h⟩ := h
  exact ⟨t, rfl, s _ _ h⟩
theorem dL_shaped (x : List Int) : SeqAt.shaped (dL x) = true := by
  obtain ⟨h1, h2⟩ := lay_ints x
  show (PyData.canLay0 (dL x) && decide (PyData.depth (dL x) ≤ 64)) = true
  unfold dL
  rw [show PyData.canLay0 (.list (x.map PyData.int)) = true by simp [PyData.canLay0, h1], show PyData.depth (.list (x.map PyData.int)) = 1 by simp [PyData.depth, h2]]
  rfl
theorem eqv_dL (x y : List Int) : PyData.eqv (dL x) (dL y) = decide (x = y) := by
  unfold dL
  simp only [PyData.eqv, eqvAll_ints]
theorem eqD_LP {K : PySem.W.Frag} {H : Hp} {u v : V} {x y : List Int} {Q : VK} (hx : LP H u x) (hy : LP H v y) (q : Q (.bl (decide (x = y))) H) : rEqD K u v H Q :=
  ⟨_, _, hx.dp, hy.dp, dL_shaped x, dL_shaped y, by rw [eqv_dL]; exact q⟩
theorem neD_LP {K : PySem.W.Frag} {H : Hp} {u v : V} {x y : List Int} {Q : VK} (hx : LP H u x) (hy : LP H v y) (q : Q (.bl (!decide (x = y))) H) : rNeD K u v H Q :=
  ⟨_, _, hx.dp, hy.dp, dL_shaped x, dL_shaped y, by rw [eqv_dL]; exact q⟩
theorem tt_get {H : Hp} {ts : List V} {bs : List (List Int)} (pr : Paired (TP H) ts bs) {i : Nat} {y : V} (h : ts[i]? = some y) : ∃ b, bs[i]? = some b ∧ TP H y b := by
  induction pr generalizing i with
  | nil => exact nomatch h
  | cons r t ih =>
    cases i with
    | zero =>
      obtain rfl := Option.some.inj h
      exact ⟨_, rfl, r⟩
    | succ i => exact ih h
theorem rgV_ixs {a : Int} (h : 0 ≤ a) : rgV 0 a = (ixs a.toNat).map V.int := by
  unfold rgV ixs
  rw [List.map_map, Int.sub_zero]
  refine List.map_congr_left fun i _ => ?_
  show V.int (0 + (i : Nat)) = V.int (i : Int)
  rw [Int.zero_add]
theorem ixs_len (N : Nat) : (ixs N).length = N := by
  unfold ixs
  rw [List.length_map, List.length_range]
theorem ixs_asc (N : Nat) : (ixs N).Pairwise (· ≤ ·) := by
  unfold ixs
  exact List.pairwise_map.mpr ((range_lt N).imp fun {a b} h => by omega)
theorem sorted_same {a b : List Int} (hp : a.Perm b) (ha : a.Pairwise (· ≤ ·)) (hb : b.Pairwise (· ≤ ·)) : a = b := hp.eq_of_pairwise (fun x y _ _ h1 h2 => Int.le_antisymm h1 h2) ha hb
structure IsDg (n m : Int) (bs : List (List Int)) : Prop where
  sz : siz n m = true
  ne : ∀ b ∈ bs, b ≠ []
  pm : bs.flatten.Perm (ixs (n + m).toNat)
  asc : ∀ b ∈ bs, b.Pairwise (· ≤ ·)
  hd : (bs.map fun b => co b 0).Pairwise (· ≤ ·)
theorem siz_iff {n m : Int} : siz n m = true ↔ (0 ≤ n ∧ n ≤ 8 ∧ 0 ≤ m ∧ m ≤ 8 ∧ n + m ≤ 12) := by
  unfold siz
  exact decide_eq_true_iff
theorem isDg_blocks {n m : Int} {marks : List Int} (h : siz n m = true) (hl : (marks.length : Int) = n + m) : IsDg n m (blocksOf marks) := by
  have hs := siz_iff.mp h
  refine ⟨h, blocks_ne, ?_, fun b hb => ?_, (blocks_heads marks).imp fun {a b} h => by omega⟩
  · have := blocks_perm marks
    rwa [show marks.length = (n + m).toNat by omega] at this
  · obtain ⟨v, _, rfl⟩ := List.mem_map.mp hb
    exact (posOf_asc marks v).imp fun {a b} h => by omega

section
variable {P : Program} {w : World} {K : PySem.W.Frag} {mg : Str → Option Value} {base : Heap}
/-! ### _is_size, _check_size -/
def spIsSize : Sp := fun vs H Q _ => ∃ n m : Int, vs = [.int n, .int m] ∧ Q (.bl (siz n m)) H
theorem ok_is_size_ {f : Addr} {fd : FuncData} {t8 t12 : Tok} (F : Fun K "_is_size" "_is_size" s_is_size_ f fd) (m_MOST_ON_A_SIDE : mg "MOST_ON_A_SIDE" = some (.int 8 t8)) (m_MOST_POINTS : mg "MOST_POINTS" = some (.int 12 t12)) : FnOk P w K mg base CX0 1 f fd ["n", "m"] spIsSize := by
  have r_MOST_ON_A_SIDE : RelV (.int 8) (.int 8 t8) := ⟨_, rfl⟩
  have r_MOST_POINTS : RelV (.int 12) (.int 12 t12) := ⟨_, rfl⟩
  refine F.ok sc_is_size_ (fun vs H Q E h => ?_) (fun cdv A outer s H vs Q E hr h => ?_)
  · obtain ⟨n, m, rfl, _⟩ := h
    rfl
  · obtain ⟨n, m, rfl, q⟩ := h
    refine ⟨_, (pss_one (ps_ret (pe_and (pe_chain op_le op_le pe_int (pv 0) (pe_glob rfl m_MOST_ON_A_SIDE r_MOST_ON_A_SIDE)) (pe_and (pe_chain op_le op_le pe_int (pv 1) (pe_glob rfl m_MOST_ON_A_SIDE r_MOST_ON_A_SIDE)) (pe_one (pe_cmpR op_le (pe_op op_add (pv 0) (pv 1)) (pe_glob rfl m_MOST_POINTS r_MOST_POINTS) (nomark _))))))), ?_⟩
    unfold siz at q
    refine ⟨_, rfl, _, _, rfl, rfl, _, rfl, ?_⟩
    by_cases c0 : 0 ≤ n
    · rw [decide_eq_true c0]
      refine iteT ⟨_, _, rfl, rfl, _, rfl, ?_⟩
      by_cases c1 : n ≤ 8
      · rw [decide_eq_true c1]
        refine iteT ⟨_, rfl, _, _, rfl, rfl, _, rfl, ?_⟩
        by_cases c2 : 0 ≤ m
        · rw [decide_eq_true c2]
          refine iteT ⟨_, _, rfl, rfl, _, rfl, ?_⟩
          by_cases c3 : m ≤ 8
          · rw [decide_eq_true c3]
            refine iteT ⟨_, rfl, _, rfl, _, _, rfl, rfl, _, _, rfl, rfl, ?_⟩
            rwa [show decide (0 ≤ n ∧ n ≤ 8 ∧ 0 ≤ m ∧ m ≤ 8 ∧ n + m ≤ 12) = decide (n + m ≤ 12) from decide_eq_decide.mpr ⟨fun z => z.2.2.2.2, fun z => ⟨c0, c1, c2, c3, z⟩⟩] at q
          · rw [decide_eq_false c3]
            rw [decide_eq_false fun z => c3 z.2.2.2.1] at q
            exact iteF q
        · rw [decide_eq_false c2]
          rw [decide_eq_false fun z => c2 z.2.2.1] at q
          exact iteF ⟨_, rfl, iteF q⟩
      · rw [decide_eq_false c1]
        rw [decide_eq_false fun z => c1 z.2.1] at q
        exact iteF q
    · rw [decide_eq_false c0]
      rw [decide_eq_false fun z => c0 z.1] at q
      exact iteF ⟨_, rfl, iteF q⟩
def spCheckSize (CB : Addr) : Sp := fun vs H Q E => ∃ n m : Int, vs = [.int n, .int m] ∧ (siz n m = true → Q .non H) ∧ (siz n m = false → E (.ref CB) none H)
theorem ok_check_size_ {f CB a_is_size_ : Addr} {fd fd_is_size_ : FuncData} (F : Fun K "_check_size" "_check_size" s_check_size_ f fd) (T : ErrC K mg "BadNumber" CB)
    (G_is_size_ : FnOk P w K mg base CX0 1 a_is_size_ fd_is_size_ ["n", "m"] spIsSize) (g_is_size_ : mg "_is_size" = some (.ref a_is_size_)) (k_is_size_ : PySem.W.keepIn K (.ref a_is_size_) = true) (b_is_size_ : Binds K fd_is_size_ ["n", "m"] []) :
    FnOk P w K mg base (L2N.CX P w) 2 f fd ["n", "m"] (spCheckSize CB) := by
  obtain ⟨gc_BadNumber, x_BadNumber, kc_BadNumber, bc_BadNumber, tc_BadNumber⟩ := T
  refine F.okXN sc_check_size_ (fun vs H Q E h => ?_) (fun cdv A outer s H vs Q E hr h => ?_)
  · obtain ⟨n, m, rfl, _⟩ := h
    rfl
  · obtain ⟨n, m, rfl, q1, q2⟩ := h
    refine ⟨_, (pss_one (ps_if (pt_not (pt_val (pe_call G_is_size_ (hr.mono (by decide)) rfl g_is_size_ k_is_size_ b_is_size_ .nil pass0 (pa_cons (pv 0) (pa_cons (pv 1) pa_nil))))) (pss_one (L2N.ps_raise rfl (L2N.takes_of rfl rfl rfl rfl) (L2N.pmk_own PySem.F.excBase_ValueError x_BadNumber gc_BadNumber kc_BadNumber (raises_own bc_BadNumber tc_BadNumber) rfl))) pss_nil)), ?_⟩
    refine ⟨_, rfl, _, rfl, n, m, rfl, _, rfl, ?_⟩
    cases e : siz n m with
    | true => exact iteF (q1 e)
    | false => exact iteT (q2 e)
end

theorem any_nil (bs : List (List Int)) : ((bs.map dT).any fun z => PyData.eqv z (dT [])) = bs.any fun b => decide (b = []) := by
  rw [List.any_map]
  congr 1
  funext b
  exact eqv_dT b []
theorem flat_take {bs : List (List Int)} {i : Nat} {b : List Int} (h : bs[i]? = some b) : (bs.take (i + 1)).flatten = (bs.take i).flatten ++ b := by
  rw [List.take_succ, h, List.flatten_append]
  show _ ++ (b ++ []) = _
  rw [List.append_nil]
theorem mem_len {bs : List (List Int)} {b : List Int} (h : b ∈ bs) : b.length ≤ bs.flatten.length := by
  induction bs with
  | nil => exact nomatch h
  | cons c bs ih =>
    rw [List.flatten_cons, List.length_append]
    rcases List.mem_cons.mp h with rfl | h
    · omega
    · have := ih h
      omega
section
variable {P : Program} {w : World} {K : PySem.W.Frag} {mg : Str → Option Value} {base : Heap}
/-! ### is_diagram -/
def DgOk (n m : Int) (bs : List (List Int)) : Prop := n.natAbs ≤ 1000 ∧ m.natAbs ≤ 1000 ∧ bs.length ≤ 1000 ∧ bs.flatten.length ≤ 10000
def spIsDiagram : Sp := fun vs H Q _ => ∃ (v : V) (n m : Int) (bs : List (List Int)), vs = [v] ∧ DGv H v n m bs ∧ DgOk n m bs ∧ ∀ H', Same H H' → (IsDg n m bs → Q (.bl true) H') ∧ (¬ IsDg n m bs → Q (.bl false) H')
theorem ok_is_diagram {f a_is_size_ : Addr} {fd fd_is_size_ : FuncData} (F : Fun K "is_diagram" "is_diagram" s_is_diagram f fd) (z_len : mg "len" = none) (z_list : mg "list" = none) (z_range : mg "range" = none) (z_sorted : mg "sorted" = none) (z_all : mg "all" = none)
    (G_is_size_ : FnOk P w K mg base CX0 1 a_is_size_ fd_is_size_ ["n", "m"] spIsSize) (g_is_size_ : mg "_is_size" = some (.ref a_is_size_)) (k_is_size_ : PySem.W.keepIn K (.ref a_is_size_) = true) (b_is_size_ : Binds K fd_is_size_ ["n", "m"] []) : FnOk P w K mg base CX0 2 f fd ["diagram"] spIsDiagram := by
  refine F.ok sc_is_diagram (fun vs H Q E h => ?_) (fun cdv A outer s H vs Q E hr h => ?_)
  · obtain ⟨v, n, m, bs, rfl, _⟩ := h
    rfl
  · obtain ⟨v, n, m, bs, rfl, hv, ⟨bn, bm, bl, bf⟩, q⟩ := h
    refine ⟨_, (pss_cons (ps_if (pt_cmpR op_ne (pe_callB call_len_seq (by rfl) z_len boot_len (pa_cons (pv 0) pa_nil)) pe_int (nomark _)) (pss_one (ps_ret pe_bl)) pss_nil)
  (pss_cons (ps_asg (pv 0) (pg_tup rfl (pgs_cons (pg_name (i := 1) sc_is_diagram.nd rfl (.inl rfl)) (pgs_cons (pg_name (i := 2) sc_is_diagram.nd rfl (.inl rfl)) (pgs_cons (pg_name (i := 3) sc_is_diagram.nd rfl (.inl rfl)) pgs_nil)))))
  (pss_cons (ps_if (L2.PW.pt (pw_or (pt_not (pt_val (pe_call G_is_size_ (hr.mono (by decide)) rfl g_is_size_ k_is_size_ b_is_size_ .nil pass0 (pa_cons (pv 1) (pa_cons (pv 2) pa_nil))))) (pw_or1 (pt_cmpR (op_inDT (room65 hr)) (pe_tup pa_nil) (pv 3) (by with_unfolding_all rfl))))) (pss_one (ps_ret pe_bl)) pss_nil)
  (pss_cons (ps_setLc2 (i := 4) (own := [("block", 6), ("point", 7)]) (vs1 := [7]) rfl sc_is_diagram.nd rfl rfl (sw_true rfl rfl rfl (by decide +kernel)) (pi_tup (pv 3)) (blkOk_by (N := ["diagram", "n", "m", "blocks", "points", "firsts", "block", "point"]) (sc := defScope s_is_diagram) (by decide +kernel)) (by decide) (fun _ _ _ _ _ => (pg_name (i := 6) sc_is_diagram.nd rfl (.inl rfl))) (fun _ _ _ _ _ => pts_nil) (fun _ _ _ _ _ => ((pi_tupK (K := K) rfl) (pv 6))) (fun _ _ _ _ _ => (pg_name (i := 7) sc_is_diagram.nd rfl (.inl rfl))) (fun _ _ _ _ _ => pts_nil) (fun _ _ _ _ _ => (pv 7)))
  (pss_cons (ps_if (pt_cmpR (op_neD (room64 hr)) (pe_callB cr_sortedI (by rfl) z_sorted boot_sorted (pa_cons (pv 4) pa_nil)) (pe_listRg rfl rfl z_list (prg_1 rfl z_range (pe_op op_add (pv 1) (pv 2)))) (nomark _)) (pss_one (ps_ret pe_bl)) pss_nil)
  (pss_cons (ps_if (pt_not (pt_val (pe_callB (cr_all rfl) (by rfl) z_all boot_all (pa_cons (pe_lc (own := [("block", 6)]) rfl sc_is_diagram.nd (pi_tup (pv 3)) (blkOk_by (N := ["diagram", "n", "m", "blocks", "points", "firsts", "block", "point"]) (sc := defScope s_is_diagram) (by first | decide +kernel | rfl)) (fun _ _ _ _ _ => (pg_name (i := 6) sc_is_diagram.nd rfl (.inl rfl))) (fun _ _ _ _ _ => pts_nil) (fun _ _ _ _ _ => (pe_cmpR (op_eqDK (K := K) rfl (room64 hr)) (pe_callTy (call_list_ofK (K := K) rfl) (by rfl) z_list boot_list (pa_cons (pv 6) pa_nil)) (pe_callB (cr_sortedITK (K := K) rfl) (by rfl) z_sorted boot_sorted (pa_cons (pv 6) pa_nil)) (nomark _)))) pa_nil)))) (pss_one (ps_ret pe_bl)) pss_nil)
  (pss_cons (ps_setLc (i := 5) (own := [("block", 6)]) rfl sc_is_diagram.nd rfl rfl (sw_true rfl rfl rfl (by decide +kernel)) (pi_tup (pv 3)) (blkOk_by (N := ["diagram", "n", "m", "blocks", "points", "firsts", "block", "point"]) (sc := defScope s_is_diagram) (by first | decide +kernel | rfl)) (fun _ _ _ _ _ => (pg_name (i := 6) sc_is_diagram.nd rfl (.inl rfl))) (fun _ _ _ _ _ => pts_nil) (fun _ _ _ _ _ => (pe_ix (ix_tupK (K := K) rfl) (pv 6) pe_int (fun _ _ => rfl))))
  (pss_one (ps_ret (pe_cmpR (op_eqD (room64 hr)) (pv 5) (pe_callB cr_sortedI (by rfl) z_sorted boot_sorted (pa_cons (pv 5) pa_nil)) (nomark _))))))))))), ?_⟩
    have szl : 20000 ≤ sizeLine := by decide
    obtain ⟨t, vb, rfl, ht, tb, ts, rfl, htb, pr⟩ := hv
    have lts : ts.length = bs.length := pr.length
    refine ⟨_, rfl, t, _, rfl, .inr (.inl (.inl ht)), rfl, _, rfl, ite_same ?_⟩
    refine ⟨_, rfl, t, _, rfl, .inl (.inl ht), rfl, _, _, rfl, _, _, rfl, _, _, rfl, rfl, ?_⟩
    refine ⟨_, rfl, _, rfl, n, m, rfl, _, rfl, ?_⟩
    by_cases cs : siz n m = true
    · rw [cs]
      refine iteF ?_
      have hs := siz_iff.mp cs
      refine ⟨(by show 0 ≤ sizeLine; decide), fun e0 ne0 => ?_⟩
      have s0 : Same H (upd H e0 (.tup [])) := same_upd ne0
      have tt : TT (upd H e0 (.tup [])) (.ref tb) bs := TT.same s0 ⟨tb, ts, rfl, htb, pr⟩
      refine ⟨_, rfl, dT [], bs.map dT, .tup (.inl (.inl upd_same)) .nil, tt.dp, dT_shaped [], dTT_shaped bs, _, rfl, ?_⟩
      rw [any_nil]
      have htb1 : upd H e0 (.tup []) tb = some (.tup ts) := s0 _ _ htb
      have pr1 : Paired (TP (upd H e0 (.tup []))) ts bs := Paired.mapP pr fun _ _ h => h.same s0
      revert s0 htb1 pr1
      generalize upd H e0 (.tup []) = H1
      intro s0 htb1 pr1
      clear tt htb pr
      by_cases cn : (bs.any fun b => decide (b = [])) = true
      · rw [cn]
        refine iteT ((q H1 s0).2 fun z => ?_)
        obtain ⟨b, hb, e⟩ := List.any_eq_true.mp cn
        exact z.ne b hb (of_decide_eq_true e)
      rw [Bool.not_eq_true _ |>.mp cn]
      refine iteF ?_
      have ne : ∀ b ∈ bs, b ≠ [] := fun b hb z => cn (List.any_eq_true.mpr ⟨b, hb, decide_eq_true z⟩)
      -- points
      refine ⟨_, rfl, tb, rfl, ⟨_, .inl (.inl htb1)⟩, fun D nD => ?_⟩
      have keepD : ∀ {H' : Hp} {a : Addr} {o : HO}, SameBut D H1 H' → H1 a = some o → H' a = some o := fun sb e => sb _ _ (ne_of_none e nD) e
      refine outer_it walk_tup (fun i H' => SameBut D H1 H' ∧ H' D = some (.lst ((bs.take i).flatten.map V.int))) ⟨SameBut.upd, upd_same⟩ (fun i H' _ hP => .inl (.inl (keepD hP.1 htb1))) (fun i y H2 H3 hi hP hy => ?_) (fun H2 hP => ?_)
      · obtain ⟨sb, hD⟩ := hP
        obtain ⟨e0, hy⟩ := hy
        subst e0
        obtain ⟨b, eb, a, rfl, ha⟩ := tt_get pr1 hy
        have mb := List.mem_of_getElem? eb
        have lb := mem_len mb
        refine ⟨rfl, ?_⟩
        refine ⟨_, rfl, a, rfl, ⟨_, .inl (.inl (keepD sb ha))⟩, outer_it walk_tup (fun j H' => SameBut D H1 H' ∧ H' D = some (.lst (((bs.take i).flatten ++ b.take j).map V.int))) ⟨sb, by rw [List.take_zero, List.append_nil]; exact hD⟩ (fun j H' _ hP => .inl (.inl (keepD hP.1 ha))) (fun j z H4 H5 hj hP hz => ?_) (fun H4 hP => ?_)⟩
        · obtain ⟨sb, hD⟩ := hP
          obtain ⟨e0, hz⟩ := hz
          subst e0
          rw [List.length_map] at hj
          have ez : (b.map V.int)[j]? = some (.int (co b j)) := by rw [List.getElem?_map, co_get hj]; rfl
          obtain rfl : V.int (co b j) = z := Option.some.inj (ez.symm.trans hz)
          refine ⟨rfl, ?_⟩
          refine ⟨_, rfl, _, hD, ?_, sb.trans SameBut.upd, ?_⟩
          · rw [List.length_map, List.length_append, List.length_take]
            have : (bs.take i).flatten.length ≤ bs.flatten.length := by
              have e : (bs.take i ++ bs.drop i).flatten.length = bs.flatten.length := congrArg (fun l : List (List Int) => l.flatten.length) (List.take_append_drop i bs)
              rw [List.flatten_append, List.length_append] at e
              omega
            omega
          · rw [upd_same, take_snoc hj, ← List.append_assoc, List.map_append (l₂ := [co b j])]
            rfl
        · obtain ⟨sb, hD⟩ := hP
          rw [List.length_map, List.take_length] at hD
          exact ⟨sb, by rw [flat_take eb]; exact hD⟩
      obtain ⟨sb2, hD⟩ := hP
      rw [lts, List.take_length] at hD
      have s2 : Same H1 H2 := fun b o e => keepD sb2 e
      -- sorted
      refine ⟨_, rfl, D, bs.flatten, rfl, .inl (.inl hD), fun ns' p1 pm1 srt1 np1 => ?_⟩
      refine ⟨_, rfl, _, rfl, _, _, rfl, rfl, n + m, rfl, RgOk.of_le (by decide) (by omega) (by decide) (by omega), fun p2 np2 => ?_⟩
      rw [rgV_ixs (by omega)]
      have s3 : Same H2 (upd (upd H2 p1 (.lst (ns'.map V.int))) p2 (.lst ((ixs (n + m).toNat).map V.int))) := Same.trans (same_upd np1) (same_upd np2)
      refine neD_LP (x := ns') (y := ixs (n + m).toNat) ⟨p1, rfl, same_upd np2 _ _ upd_same⟩ ⟨p2, rfl, upd_same⟩ ⟨_, rfl, ?_⟩
      have s13 := Same.trans s0 (Same.trans s2 s3)
      have htb4 := s3 _ _ (s2 _ _ htb1)
      have pr4 := Paired.mapP pr1 fun _ _ h => (TP.same s2 h).same s3
      revert s13 htb4 pr4
      generalize upd (upd H2 p1 (.lst (ns'.map V.int))) p2 (.lst ((ixs (n + m).toNat).map V.int)) = H4
      intro s13 htb4 pr4
      clear s3 s2 hD sb2 keepD nD np1 np2
      by_cases cp : ns' = ixs (n + m).toNat
      · rw [decide_eq_true cp]
        refine iteF ?_
        have pm : bs.flatten.Perm (ixs (n + m).toNat) := cp ▸ pm1.symm
        -- blocks
        refine ⟨_, rfl, tb, rfl, ⟨_, .inl (.inl htb4)⟩, fun D5 nD5 => ?_⟩
        have keep5 : ∀ {H' : Hp} {a : Addr} {o : HO}, SameBut D5 H4 H' → H4 a = some o → H' a = some o := fun sb e => sb _ _ (ne_of_none e nD5) e
        refine lc_it walk_tup (fun i H' => SameBut D5 H4 H' ∧ H' D5 = some (.lst (((bs.take i).map fun b => decide (b.Pairwise (· ≤ ·))).map V.bl))) ⟨SameBut.upd, upd_same⟩ (fun i H' _ hP => .inl (.inl (keep5 hP.1 htb4))) (fun i y H5 H6 hi hP hy => ?_) (fun H5 hP => ?_)
        · obtain ⟨sb, hD⟩ := hP
          obtain ⟨e0, hy⟩ := hy
          subst e0
          obtain ⟨b, eb, a, rfl, ha⟩ := tt_get pr4 hy
          refine ⟨rfl, ?_⟩
          have ha5 := keep5 sb ha
          refine ⟨_, rfl, a, _, rfl, .inr (.inl (.inl ha5)), fun l1 nl1 => ?_⟩
          refine ⟨_, rfl, a, b, rfl, .inl (.inl (same_upd nl1 _ _ ha5)), fun ns p pm srt np => ?_⟩
          refine eqD_LP (x := b) (y := ns) ⟨l1, rfl, same_upd np _ _ upd_same⟩ ⟨p, rfl, upd_same⟩ ?_
          have sN := Same.trans (same_upd (o := .lst (b.map V.int)) nl1) (same_upd (o := .lst (ns.map V.int)) np)
          have e : decide (b = ns) = decide (b.Pairwise (· ≤ ·)) := decide_eq_decide.mpr ⟨fun z => by rw [z]; exact srt, fun z => sorted_same pm.symm z srt⟩
          refine ⟨_, sN _ _ hD, by rw [List.length_map, List.length_map, List.length_take]; omega, (sb.trans (Same.but sN)).trans SameBut.upd, ?_⟩
          rw [upd_same, List.take_succ, eb, e, List.map_append, List.map_append]
          rfl
        obtain ⟨sb5, hD5⟩ := hP
        rw [lts, List.take_length] at hD5
        have s5 : Same H4 H5 := fun b o e => keep5 sb5 e
        refine ⟨D5, _, rfl, .inl (.inl hD5), _, rfl, ?_⟩
        have htb5 := s5 _ _ htb4
        have pr5 := Paired.mapP pr4 fun _ _ h => TP.same s5 h
        have s15 := Same.trans s13 s5
        by_cases ca : ((bs.map fun b => decide (b.Pairwise (· ≤ ·))).all id) = true
        · rw [ca]
          refine iteF ?_
          have asc : ∀ b ∈ bs, b.Pairwise (· ≤ ·) := fun b hb => of_decide_eq_true (List.all_eq_true.mp ca _ (List.mem_map_of_mem hb))
          -- firsts
          refine ⟨_, rfl, tb, rfl, ⟨_, .inl (.inl htb5)⟩, fun D6 nD6 => ?_⟩
          have keep6 : ∀ {H' : Hp} {a : Addr} {o : HO}, SameBut D6 H5 H' → H5 a = some o → H' a = some o := fun sb e => sb _ _ (ne_of_none e nD6) e
          refine lc_it walk_tup (fun i H' => SameBut D6 H5 H' ∧ H' D6 = some (.lst (((bs.take i).map fun b => co b 0).map V.int))) ⟨SameBut.upd, upd_same⟩ (fun i H' _ hP => .inl (.inl (keep6 hP.1 htb5))) (fun i y H6 H7 hi hP hy => ?_) (fun H6 hP => ?_)
          · obtain ⟨sb, hD⟩ := hP
            obtain ⟨e0, hy⟩ := hy
            subst e0
            obtain ⟨b, eb, a, rfl, ha⟩ := tt_get pr5 hy
            have nb := List.length_pos_iff.mpr (ne b (List.mem_of_getElem? eb))
            refine ⟨rfl, ?_⟩
            refine ⟨_, rfl, a, _, 0, _, rfl, rfl, .inl (.inl (keep6 sb ha)), at_co nb, _, hD, by rw [List.length_map, List.length_map, List.length_take]; omega, sb.trans SameBut.upd, ?_⟩
            rw [upd_same, List.take_succ, eb, List.map_append, List.map_append]
            rfl
          obtain ⟨sb6, hD6⟩ := hP
          rw [lts, List.take_length] at hD6
          have s6 : Same H5 H6 := fun b o e => keep6 sb6 e
          refine ⟨_, rfl, _, rfl, D6, _, rfl, .inl (.inl hD6), fun ns p pm6 srt np => ?_⟩
          refine eqD_LP (x := bs.map fun b => co b 0) (y := ns) ⟨D6, rfl, same_upd np _ _ hD6⟩ ⟨p, rfl, upd_same⟩ ?_
          obtain ⟨qt, qf⟩ := q _ (Same.trans s15 (Same.trans s6 (same_upd np)))
          by_cases ch : (bs.map fun b => co b 0) = ns
          · rw [decide_eq_true ch]
            exact qt ⟨cs, ne, pm, asc, ch ▸ srt⟩
          · rw [decide_eq_false ch]
            exact qf fun z => ch (sorted_same pm6.symm z.hd srt)
        · rw [Bool.not_eq_true _ |>.mp ca]
          refine iteT ((q H5 s15).2 fun z => ca (List.all_eq_true.mpr fun c hc => ?_))
          obtain ⟨b, hb, rfl⟩ := List.mem_map.mp hc
          exact decide_eq_true (z.asc b hb)
      · rw [decide_eq_false cp]
        exact iteT ((q H4 s13).2 fun z => cp (sorted_same (pm1.trans z.pm) srt1 (ixs_asc _)))
    · rw [Bool.not_eq_true _ |>.mp cs]
      exact iteT ((q H (Same.refl _)).2 fun z => cs z.sz)
end

section
variable {P : Program} {w : World} {K : PySem.W.Frag} {mg : Str → Option Value} {base : Heap}
/-! ### check_diagram, labels -/
def spCheckDiagram (CD : Addr) : Sp := fun vs H Q E => ∃ (v : V) (n m : Int) (bs : List (List Int)), vs = [v] ∧ DGv H v n m bs ∧ DgOk n m bs ∧ ∀ H', Same H H' → (IsDg n m bs → Q .non H') ∧ (¬ IsDg n m bs → E (.ref CD) none H')
theorem ok_check_diagram {f CD a_is_diagram : Addr} {fd fd_is_diagram : FuncData} (F : Fun K "check_diagram" "check_diagram" s_check_diagram f fd) (T : ErrC K mg "NotDiagram" CD)
    (G_is_diagram : FnOk P w K mg base CX0 2 a_is_diagram fd_is_diagram ["diagram"] spIsDiagram) (g_is_diagram : mg "is_diagram" = some (.ref a_is_diagram)) (k_is_diagram : PySem.W.keepIn K (.ref a_is_diagram) = true) (b_is_diagram : Binds K fd_is_diagram ["diagram"] []) :
    FnOk P w K mg base (L2N.CX P w) 3 f fd ["diagram"] (spCheckDiagram CD) := by
  obtain ⟨gc_NotDiagram, x_NotDiagram, kc_NotDiagram, bc_NotDiagram, tc_NotDiagram⟩ := T
  refine F.okXN sc_check_diagram (fun vs H Q E h => ?_) (fun cdv A outer s H vs Q E hr h => ?_)
  · obtain ⟨v, n, m, bs, rfl, _⟩ := h
    rfl
  · obtain ⟨v, n, m, bs, rfl, hv, hb, q⟩ := h
    refine ⟨_, (pss_one (ps_if (pt_not (pt_val (pe_call G_is_diagram (hr.mono (by decide)) rfl g_is_diagram k_is_diagram b_is_diagram .nil pass0 (pa_cons (pv 0) pa_nil)))) (pss_one (L2N.ps_raise rfl (L2N.takes_of rfl rfl rfl rfl) (L2N.pmk_own PySem.F.excBase_ValueError x_NotDiagram gc_NotDiagram kc_NotDiagram (raises_own bc_NotDiagram tc_NotDiagram) rfl))) pss_nil)), ?_⟩
    exact ⟨_, rfl, v, n, m, bs, rfl, hv, hb, fun H' s' => ⟨fun h => ⟨_, rfl, iteF ((q H' s').1 h)⟩, fun h => ⟨_, rfl, iteT ((q H' s').2 h)⟩⟩⟩
end
def labN (bs : List (List Int)) (i : Nat) (N : Nat) : List Int := labFrom (bs.take i) 0 (List.replicate N 0)
theorem labFrom_snoc : ∀ (bs : List (List Int)) (b : List Int) (k : Nat) (ms : List Int), labFrom (bs ++ [b]) k ms = b.foldl (fun ms p => ms.set p.toNat ((k + bs.length : Nat) : Int)) (labFrom bs k ms)
  | [], b, k, ms => rfl
  | c :: bs, b, k, ms => by
    show labFrom (bs ++ [b]) (k + 1) _ = _
    rw [labFrom_snoc bs b (k + 1), show k + 1 + bs.length = k + (c :: bs).length by rw [List.length_cons]; omega]
    rfl
theorem fold_take {k : Int} {b ms : List Int} {j : Nat} (h : j < b.length) : (b.take (j + 1)).foldl (fun ms p => ms.set p.toNat k) ms = ((b.take j).foldl (fun ms p => ms.set p.toNat k) ms).set (co b j).toNat k := by
  rw [take_snoc h, List.foldl_append]
  rfl
theorem dg_pt {n m : Int} {bs : List (List Int)} (h : IsDg n m bs) {b : List Int} (hb : b ∈ bs) {p : Int} (hp : p ∈ b) : 0 ≤ p ∧ p < n + m := by
  have h1 := h.pm.mem_iff.mp (List.mem_flatten.mpr ⟨b, hb, hp⟩)
  obtain ⟨i, hi, rfl⟩ := List.mem_map.mp h1
  have := List.mem_range.mp hi
  omega

section
variable {P : Program} {w : World} {K : PySem.W.Frag} {mg : Str → Option Value} {base : Heap}
def spLabels (CD : Addr) : Sp := fun vs H Q E => ∃ (v : V) (n m : Int) (bs : List (List Int)), vs = [v] ∧ DGv H v n m bs ∧ DgOk n m bs ∧ (¬ IsDg n m bs → ∀ H', Same H H' → E (.ref CD) none H') ∧
  (IsDg n m bs → ∀ D H', Same H H' → H D = none → H' D = some (.lst ((labL bs (n + m).toNat).map V.int)) → Q (.ref D) H')
theorem ok_labels {f CD a_check_diagram : Addr} {fd fd_check_diagram : FuncData} (F : Fun K "labels" "labels" s_labels f fd) (z_enumerate : mg "enumerate" = none) (z_range : mg "range" = none)
    (G_check_diagram : FnOk P w K mg base (L2N.CX P w) 3 a_check_diagram fd_check_diagram ["diagram"] (spCheckDiagram CD)) (g_check_diagram : mg "check_diagram" = some (.ref a_check_diagram)) (k_check_diagram : PySem.W.keepIn K (.ref a_check_diagram) = true) (b_check_diagram : Binds K fd_check_diagram ["diagram"] []) :
    FnOk P w K mg base (L2N.CX P w) 4 f fd ["diagram"] (spLabels CD) := by
  refine F.okXN sc_labels (fun vs H Q E h => ?_) (fun cdv A outer s H vs Q E hr h => ?_)
  · obtain ⟨v, n, m, bs, rfl, _⟩ := h
    rfl
  · obtain ⟨v, n, m, bs, rfl, hv, hb, q1, q⟩ := h
    refine ⟨_, (pss_cons (ps_expr (pe_call G_check_diagram (hr.mono (by decide)) rfl g_check_diagram k_check_diagram b_check_diagram .nil (L2N.passes_call (L2N.takes_of rfl rfl rfl rfl) (fun _ _ _ _ h => h)) (pa_cons (pv 0) pa_nil)))
  (pss_cons (ps_asg (pv 0) (pg_tup rfl (pgs_cons (pg_name (i := 1) sc_labels.nd rfl (.inl rfl)) (pgs_cons (pg_name (i := 2) sc_labels.nd rfl (.inl rfl)) (pgs_cons (pg_name (i := 3) sc_labels.nd rfl (.inl rfl)) pgs_nil)))))
  (pss_cons (ps_setLc (i := 4) (own := [("_", 8)]) rfl sc_labels.nd rfl rfl (sw_true rfl rfl rfl (by decide +kernel)) (pi_range1 rfl z_range (pa_cons (pe_op op_add (pv 1) (pv 2)) pa_nil)) (blkOk_by (N := ["diagram", "n", "m", "blocks", "marks", "k", "block", "point", "_"]) (sc := defScope s_labels) (by first | decide +kernel | rfl)) (fun _ _ _ _ _ => (pg_name (i := 8) sc_labels.nd rfl (.inl rfl))) (fun _ _ _ _ _ => pts_nil) (fun _ _ _ _ _ => pe_int))
  (pss_cons (ps_for (passes_of rfl) rfl (pi_enumT rfl z_enumerate (pa_cons (pv 3) pa_nil)) (pg_tup rfl (pgs_cons (pg_name (i := 5) sc_labels.nd rfl (.inl rfl)) (pgs_cons (pg_name (i := 6) sc_labels.nd rfl (.inl rfl)) pgs_nil))) (pss_one (ps_for (passes_of rfl) rfl (pi_tup (pv 6)) (pg_name (i := 7) sc_labels.nd rfl (.inl rfl)) (pss_one (ps_asg (pv 5) (pg_sub (pv 4) (pv 7) set_list))))))
  (pss_one (ps_ret (pv 4))))))), ?_⟩
    have szl : 20000 ≤ sizeLine := by decide
    refine ⟨_, rfl, v, n, m, bs, rfl, hv, hb, fun H1 s1 => ⟨fun dg => ?_, fun nd => q1 nd H1 s1⟩⟩
    have q := q dg
    have hs := siz_iff.mp dg.sz
    obtain ⟨t, vb, rfl, ht, tb, ts, rfl, htb, pr⟩ := DGv.same s1 hv
    have lts : ts.length = bs.length := pr.length
    refine ⟨_, rfl, t, _, rfl, .inl (.inl ht), rfl, _, _, rfl, _, _, rfl, _, _, rfl, rfl, ?_⟩
    obtain ⟨N, eN⟩ : ∃ N : Nat, n + m = (N : Int) := ⟨(n + m).toNat, by omega⟩
    refine ⟨_, rfl, _, rfl, _, _, rfl, rfl, ?_⟩
    dsimp only
    rw [eN]
    refine ⟨_, rfl, by omega, by omega, fun D nD => lc_range (lo := 0) (n := N) (fun i H' => SameBut D H1 H' ∧ H' D = some (.lst ((List.replicate i (0 : Int)).map V.int))) ⟨SameBut.upd, upd_same⟩ (fun i H' hi hP => ?_) (fun H2 hP => ?_)⟩
    · obtain ⟨sb, hD⟩ := hP
      refine ⟨rfl, _, hD, by rw [List.length_map, List.length_replicate]; omega, sb.trans SameBut.upd, ?_⟩
      rw [upd_same, List.replicate_succ', List.map_append]
      rfl
    obtain ⟨sb, hD2⟩ := hP
    have s2 : Same H1 H2 := fun a o e => sb a o (ne_of_none e nD) e
    have nD1 := nD
    have nD0 := none_back s1 nD1
    have htb2 := s2 _ _ htb
    refine ⟨_, rfl, tb, ts, rfl, .inl (.inl htb2), for_it walk_enumT (fun i σ H' => ∃ v5 v6 v7 v8, σ = [some (.ref t), some (.int n), some (.int m), some (.ref (tb)), some (.ref D), v5, v6, v7, v8] ∧ Same H1 H' ∧ H' D = some (.lst ((labN bs i N).map V.int)))
      ⟨_, _, _, _, rfl, s2, hD2⟩ (fun i σ H' _ ⟨_, _, _, _, _, s', _⟩ => .inl (.inl (s' _ _ htb))) (fun i y σ H3 H4 hi hP hy => ?_) (fun σ H' hP => ?_)⟩
    · obtain ⟨v5, v6, v7, v8, rfl, s3, hD3⟩ := hP
      obtain ⟨p, x, y', rfl, np, rfl, ex, ey⟩ := hy
      obtain rfl : V.int (i : Nat) = x := Option.some.inj ex
      obtain ⟨b, eb, a, rfl, ha⟩ := tt_get pr ey
      have mb := List.mem_of_getElem? eb
      refine ⟨p, _, rfl, .inl (.inl upd_same), rfl, _, _, rfl, _, _, rfl, rfl, ?_⟩
      have s4 : Same H1 (upd H3 p (.tup [.int (i : Nat), .ref a])) := Same.trans s3 (same_upd np)
      have hD4 : upd H3 p (.tup [.int (i : Nat), .ref a]) D = some (.lst ((labN bs i N).map V.int)) := same_upd np _ _ hD3
      revert s4 hD4
      generalize upd H3 p (.tup [.int (i : Nat), .ref a]) = H5
      intro s4 hD4
      have hi' : i < bs.length := by rw [← lts]; exact hi
      refine ⟨_, rfl, a, rfl, ⟨_, .inl (.inl (s4 _ _ ha))⟩, for_it walk_tup (fun j σ H' => ∃ v7, σ = [some (.ref t), some (.int n), some (.int m), some (.ref tb), some (.ref D), some (.int (i : Nat)), some (.ref a), v7, v8] ∧ Same H1 H' ∧ H' D = some (.lst (((b.take j).foldl (fun ms p => ms.set p.toNat (i : Int)) (labN bs i N)).map V.int)))
        ⟨v7, rfl, s4, hD4⟩ (fun j σ H' _ ⟨_, _, s', _⟩ => .inl (.inl (s' _ _ ha))) (fun j y σ H6 H7 hj hP hy => ?_) (fun σ H' hP => ?_)⟩
      · obtain ⟨v7, rfl, s5, hD5⟩ := hP
        obtain ⟨e0, hy⟩ := hy
        subst e0
        rw [List.length_map] at hj
        have ez : (b.map V.int)[j]? = some (.int (co b j)) := by rw [List.getElem?_map, co_get hj]; rfl
        obtain rfl : V.int (co b j) = y := Option.some.inj (ez.symm.trans hy)
        obtain ⟨c0, c1⟩ := dg_pt dg mb (co_mem hj)
        have ll : ((b.take j).foldl (fun ms p => ms.set p.toNat (i : Int)) (labN bs i N)).length = N := by
          rw [fold_len]
          unfold labN
          rw [labFrom_len, List.length_replicate]
        refine ⟨_, rfl, _, rfl, _, rfl, D, _, _, (co b j).toNat, rfl, rfl, hD5, (by obtain ⟨u, hu⟩ := Int.eq_ofNat_of_zero_le c0; rw [hu]; exact ixN_nat (by rw [List.length_map, ll]; omega)), ?_⟩
        refine ⟨_, rfl, Same.mut s5 nD1, ?_⟩
        rw [upd_same, map_set, fold_take hj]
      · obtain ⟨v7, rfl, s5, hD5⟩ := hP
        rw [List.length_map, List.take_length] at hD5
        refine ⟨_, _, _, _, rfl, s5, ?_⟩
        rw [hD5]
        unfold labN
        rw [List.take_succ, eb, show (some b).toList = [b] from rfl, labFrom_snoc, List.length_take, Nat.min_eq_left (by omega), Nat.zero_add]
    · obtain ⟨v5, v6, v7, v8, rfl, s3, hD3⟩ := hP
      refine ⟨_, rfl, q D H' (Same.trans s1 s3) nD0 ?_⟩
      rw [hD3, eN]
      unfold labN labL
      rw [lts, List.take_length]
      rfl
end

theorem posOf_take {marks : List Int} {i : Nat} (h : i < marks.length) (v : Int) : posOf (marks.take (i + 1)) v = if co marks i = v then posOf (marks.take i) v ++ [(i : Int)] else posOf (marks.take i) v := by
  have l1 : (marks.take (i + 1)).length = i + 1 := by rw [List.length_take]; omega
  have l0 : (marks.take i).length = i := by rw [List.length_take]; omega
  have c1 : ∀ j, j < i → co (marks.take (i + 1)) j = co (marks.take i) j := fun j hj => by
    unfold co
    rw [List.getD_eq_getElem?_getD, List.getD_eq_getElem?_getD, List.getElem?_take_of_lt (by omega), List.getElem?_take_of_lt hj]
  have c2 : co (marks.take (i + 1)) i = co marks i := by
    unfold co
    rw [List.getD_eq_getElem?_getD, List.getD_eq_getElem?_getD, List.getElem?_take_of_lt (by omega)]
  unfold posOf
  rw [l1, l0, List.range_succ, List.filter_append, List.map_append]
  have e : (List.range i).filter (fun j => decide (co (marks.take (i + 1)) j = v)) = (List.range i).filter fun j => decide (co (marks.take i) j = v) :=
    List.filter_congr fun j hj => by rw [c1 j (List.mem_range.mp hj)]
  rw [e, List.filter_cons, c2]
  by_cases c : co marks i = v
  · rw [if_pos c, decide_eq_true c]
    rfl
  · rw [if_neg c, decide_eq_false c]
    exact List.append_nil _
theorem posOf_none {marks : List Int} {v : Int} (h : v ∉ marks) : posOf marks v = [] := by
  refine List.eq_nil_iff_forall_not_mem.mpr fun x hx => ?_
  obtain ⟨i, _, hi, e⟩ := mem_posOf.mp hx
  exact h (e ▸ co_mem hi)
/-- a dict by integers -/
def KR (H : Hp) (f : Int → List Int) (kv : Key × V) (u : Int) : Prop := kv.1 = Sum.inl u ∧ TP H kv.2 (f u)
theorem kr_get {H : Hp} {f : Int → List Int} {v : Int} : ∀ {kvs : List (Key × V)} {vs : List Int}, Paired (KR H f) kvs vs → (v ∈ vs → ∃ w, valV kvs (Sum.inl v : Key) = some w ∧ TP H w (f v)) ∧ (v ∉ vs → valV kvs (Sum.inl v : Key) = none)
  | _, _, .nil => ⟨fun h => (nomatch h), fun _ => rfl⟩
  | kv :: kvs, u :: vs, .cons ⟨e, t⟩ pr => by
    obtain ⟨a, b⟩ := kr_get (v := v) pr
    by_cases c : u = v
    · refine ⟨fun _ => ⟨kv.2, valV_pos (by rw [e, c]), by rw [← c]; exact t⟩, fun h => absurd (List.mem_cons.mpr (.inl c.symm)) h⟩
    · have ne : ¬ kv.1 = (Sum.inl v : Key) := fun z => c (Sum.inl.inj (e.symm.trans z))
      refine ⟨fun h => ?_, fun h => ?_⟩
      · rw [valV_neg ne]
        exact a ((List.mem_cons.mp h).resolve_left fun z => c z.symm)
      · rw [valV_neg ne]
        exact b fun z => h (List.mem_cons_of_mem _ z)
theorem kr_map {H : Hp} {f g : Int → List Int} {v : Int} {w : V} (hw : TP H w (g v)) (hg : ∀ u, u ≠ v → g u = f u) : ∀ {kvs : List (Key × V)} {vs : List Int}, Paired (KR H f) kvs vs → Paired (KR H g) (kvs.map fun kv => if kv.1 = (Sum.inl v : Key) then (kv.1, w) else kv) vs
  | _, _, .nil => .nil
  | kv :: kvs, u :: vs, .cons ⟨e, t⟩ pr => by
    rw [List.map_cons]
    refine .cons ?_ (kr_map hw hg pr)
    by_cases c : u = v
    · rw [if_pos (by rw [e, c])]
      exact ⟨e, by rw [c]; exact hw⟩
    · rw [if_neg fun z => c (Sum.inl.inj (e.symm.trans z))]
      exact ⟨e, by rw [hg u c]; exact t⟩
theorem kr_put {H : Hp} {f g : Int → List Int} {v : Int} {w : V} {kvs : List (Key × V)} {vs : List Int} (pr : Paired (KR H f) kvs vs) (hw : TP H w (g v)) (hg : ∀ u, u ≠ v → g u = f u) :
    Paired (KR H g) (putK kvs (Sum.inl v : Key) w) (if v ∈ vs then vs else vs ++ [v]) := by
  obtain ⟨a, b⟩ := kr_get (v := v) pr
  by_cases c : v ∈ vs
  · rw [if_pos c]
    obtain ⟨x, hx, _⟩ := a c
    unfold putK
    rw [if_pos (by rw [valV_any, hx]; rfl)]
    exact kr_map hw hg pr
  · rw [if_neg c, putK_new _ (b c)]
    refine paired_snoc ⟨rfl, hw⟩ ?_
    have e : (kvs.map fun kv => if kv.1 = (Sum.inl v : Key) then (kv.1, w) else kv) = kvs := by
      conv => rhs; rw [← List.map_id kvs]
      refine List.map_congr_left fun kv hkv => ?_
      have : (kvs.any fun kv => decide (kv.1 = (Sum.inl v : Key))) = false := by rw [valV_any, b c]; rfl
      have h1 := List.any_eq_false.mp this kv hkv
      rw [if_neg fun z => h1 (decide_eq_true z)]
      rfl
    have := kr_map hw hg pr
    rwa [e] at this
theorem kr_vals {H : Hp} {f : Int → List Int} : ∀ {kvs : List (Key × V)} {vs : List Int}, Paired (KR H f) kvs vs → Paired (TP H) (kvs.map (·.2)) (vs.map f)
  | _, _, .nil => .nil
  | _, _, .cons ⟨_, t⟩ pr => .cons t (kr_vals pr)
def rCatC : R2 := fun x y H Q => ∃ a b xs ys, x = .ref a ∧ y = .ref b ∧ H a = some (.tup xs) ∧ H b = some (.tup ys) ∧ xs.length + ys.length ≤ sizeLine ∧ ∀ p H', Same H H' → H' p = some (.tup (xs ++ ys)) → Q (.ref p) H'
theorem op_catC {X : Cx} : OpR X (binaryOp .Add) rCatC := by
  intro pins s σ H x y v u Q I rx ry h
  obtain ⟨a, b, xs, ys, rfl, rfl, ha, hb, hz, q⟩ := h
  refine op_catA pins s σ H _ _ v u Q I rx ry ⟨a, b, xs, ys, rfl, rfl, .inl (.inl ha), .inl (.inl hb), hz, fun e => ?_, fun _ e => ?_, fun _ _ p np => ?_⟩
  · exact q b H (Same.refl _) (by rw [e, List.nil_append]; exact hb)
  · exact q a H (Same.refl _) (by rw [e, List.append_nil]; exact ha)
  · exact q p _ (same_upd np) upd_same
section
variable {P : Program} {w : World} {K : PySem.W.Frag} {mg : Str → Option Value} {base : Heap}
/-! ### from_labels -/
def spFromLabels (K : PySem.W.Frag) (CB : Addr) : Sp := fun vs H Q E => ∃ (n m : Int) (a : Addr) (marks : List Int), vs = [.int n, .int m, .ref a] ∧ SqL K H a (marks.map V.int) ∧ marks.length ≤ 1000 ∧ (siz n m = false → E (.ref CB) none H) ∧
  (siz n m = true → ((marks.length : Int) ≠ n + m → E (.ref CB) none H) ∧ ((marks.length : Int) = n + m → ∀ v H', Same H H' → DGv H' v n m (blocksOf marks) → Q v H'))
theorem ok_from_labels {f CB a_check_size_ : Addr} {fd fd_check_size_ : FuncData} (F : Fun K "from_labels" "from_labels" s_from_labels f fd) (T : ErrC K mg "BadNumber" CB) (z_len : mg "len" = none) (z_enumerate : mg "enumerate" = none) (z_tuple : mg "tuple" = none)
    (G_check_size_ : FnOk P w K mg base (L2N.CX P w) 2 a_check_size_ fd_check_size_ ["n", "m"] (spCheckSize CB)) (g_check_size_ : mg "_check_size" = some (.ref a_check_size_)) (k_check_size_ : PySem.W.keepIn K (.ref a_check_size_) = true) (b_check_size_ : Binds K fd_check_size_ ["n", "m"] []) :
    FnOk P w K mg base (L2N.CX P w) 3 f fd ["n", "m", "marks"] (spFromLabels K CB) := by
  obtain ⟨gc_BadNumber, x_BadNumber, kc_BadNumber, bc_BadNumber, tc_BadNumber⟩ := T
  refine F.okXN sc_from_labels (fun vs H Q E h => ?_) (fun cdv A outer s H vs Q E hr h => ?_)
  · obtain ⟨n, m, a, marks, rfl, _⟩ := h
    rfl
  · obtain ⟨n, m, a, marks, rfl, ha, hl, q1, q⟩ := h
    refine ⟨_, (pss_cons (ps_expr (pe_call G_check_size_ (hr.mono (by decide)) rfl g_check_size_ k_check_size_ b_check_size_ .nil (L2N.passes_call (L2N.takes_of rfl rfl rfl rfl) (fun _ _ _ _ h => h)) (pa_cons (pv 0) (pa_cons (pv 1) pa_nil))))
  (pss_cons (ps_if (pt_cmpR op_ne (pe_callB call_len_seq (by rfl) z_len boot_len (pa_cons (pv 2) pa_nil)) (pe_op op_add (pv 0) (pv 1)) (nomark _)) (pss_one (L2N.ps_raise rfl (L2N.takes_of rfl rfl rfl rfl) (L2N.pmk_own PySem.F.excBase_ValueError x_BadNumber gc_BadNumber kc_BadNumber (raises_own bc_BadNumber tc_BadNumber) rfl))) pss_nil)
  (pss_cons (ps_set (i := 3) sc_from_labels.nd rfl (.inl rfl) pe_dnewK)
  (pss_cons (ps_for (passes_of rfl) rfl (pi_enum rfl z_enumerate (pa_cons (pv 2) pa_nil)) (pg_tup rfl (pgs_cons (pg_name (i := 4) sc_from_labels.nd rfl (.inl rfl)) (pgs_cons (pg_name (i := 5) sc_from_labels.nd rfl (.inl rfl)) pgs_nil))) (pss_one (ps_dput (hu_of hr) (pv 3) (pv 5) (pe_op op_catC (pe_dget2 (hu_of hr) (pv 3) (pv 5) (pe_tup pa_nil) ⟨by rfl, by rfl, by rfl, by rfl⟩) (pe_tup (pa_cons (pv 4) pa_nil))) rfl)))
  (pss_one (ps_ret (pe_tup (pa_cons (pv 0) (pa_cons (pv 1) (pa_cons (pe_tupVals rfl rfl z_tuple (pv 3)) pa_nil)))))))))), ?_⟩
    have szl : 20000 ≤ sizeLine := by decide
    refine ⟨_, rfl, _, rfl, n, m, rfl, fun cs => ?_, q1⟩
    obtain ⟨qB, q⟩ := q cs
    refine ⟨_, rfl, a, _, rfl, .inl ha, _, rfl, _, rfl, _, _, rfl, rfl, rfl, _, rfl, ?_⟩
    rw [List.length_map]
    by_cases cl : (marks.length : Int) = n + m
    · refine if_neg_of (by rw [decide_eq_true (congrArg V.int cl)]; exact Bool.false_ne_true) ?_
      have q := q cl
      refine fun D nD => ?_
      refine ⟨_, rfl, a, _, rfl, sqL_same (same_upd nD) ha, for_it walk_enum (fun i σ H' => ∃ (kvs : List (Key × V)) (v4 v5 : Option V), σ = [some (.int n), some (.int m), some (.ref a), some (.ref D), v4, v5] ∧ Same H H' ∧ H' D = some (.dK kvs) ∧ kvs.length ≤ i ∧ Paired (KR H' (posOf (marks.take i))) kvs (seenL [] (marks.take i)))
        ⟨[], none, none, rfl, same_upd nD, upd_same, Nat.le_refl _, .nil⟩ (fun i σ H' _ ⟨_, _, _, _, s', _⟩ => sqL_same s' ha) (fun i y σ H2 H3 hi hP hy => ?_) (fun σ H' hP => ?_)⟩
      · obtain ⟨kvs, v4, v5, rfl, s2, hD2, lk, pr⟩ := hP
        obtain ⟨p, x, y', rfl, np, rfl, ex, ey⟩ := hy
        rw [List.length_map] at hi
        obtain rfl : V.int (i : Nat) = x := Option.some.inj ex
        have ey2 : (marks.map V.int)[i]? = some (.int (co marks i)) := by rw [List.getElem?_map, co_get hi]; rfl
        obtain rfl : V.int (co marks i) = y' := Option.some.inj (ey2.symm.trans ey)
        refine ⟨p, _, rfl, .inl (.inl upd_same), rfl, _, _, rfl, _, _, rfl, rfl, ?_⟩
        have q3 := same_upd (o := .tup [.int (i : Nat), .int (co marks i)]) np
        have hD3 := q3 _ _ hD2
        refine ⟨_, rfl, D, rfl, .inl ⟨kvs, .inl hD3⟩, _, rfl, (by show 0 ≤ sizeLine; decide), fun e ne => ?_⟩
        have q4 := Same.trans q3 (same_upd (o := .tup []) ne)
        have hD4 := q4 _ _ hD2
        have pr4 : Paired (KR _ (posOf (marks.take i))) kvs (seenL [] (marks.take i)) := Paired.mapP pr fun _ _ h => ⟨h.1, h.2.same q4⟩
        refine ⟨_, DGet.k (k := (Sum.inl (co marks i) : Key)) hD4, ?_⟩
        obtain ⟨w0, ew, tw⟩ : ∃ w0, (valV kvs (Sum.inl (co marks i) : Key)).getD (.ref e) = w0 ∧ TP (upd (upd H2 p (.tup [.int (i : Nat), .int (co marks i)])) e (.tup [])) w0 (posOf (marks.take i) (co marks i)) := by
          by_cases c : co marks i ∈ seenL [] (marks.take i)
          · obtain ⟨w0, h1, h2⟩ := (kr_get (v := co marks i) pr4).1 c
            exact ⟨w0, by rw [h1]; rfl, h2⟩
          · rw [(kr_get (v := co marks i) pr4).2 c, posOf_none fun z => c ((seenL_mem _ _ _).mpr (.inr z))]
            exact ⟨.ref e, rfl, e, rfl, upd_same⟩
        rw [ew]
        obtain ⟨t0, rfl, ht0⟩ := tw
        refine ⟨_, rfl, (by show 1 ≤ sizeLine; decide), fun p1 np1 => ?_⟩
        have q5 := same_upd (o := .tup [.int (i : Nat)]) np1
        have lpos : (posOf (marks.take i) (co marks i)).length ≤ i := by
          unfold posOf
          rw [List.length_map]
          have h1 := List.length_filter_le (fun j => decide (co (marks.take i) j = co marks i)) (List.range (marks.take i).length)
          rw [List.length_range] at h1
          have h2 : (marks.take i).length ≤ i := by rw [List.length_take]; omega
          omega
        refine ⟨t0, p1, _, [.int (i : Nat)], rfl, rfl, q5 _ _ ht0, upd_same, by rw [List.length_map]; show _ + 1 ≤ _; omega, fun t H6 s6 ht => ?_⟩
        have s26 := Same.trans q4 (Same.trans q5 s6)
        have hD6 := s26 _ _ hD2
        refine ⟨_, rfl, _, rfl, D, _, rfl, DPut.k (k := (Sum.inl (co marks i) : Key)) hD6 (by omega), ?_⟩
        have tnew : TP H6 (.ref t) (posOf (marks.take (i + 1)) (co marks i)) := ⟨t, rfl, by rw [posOf_take hi, if_pos rfl, List.map_append]; exact ht⟩
        have pr6 := kr_put (g := posOf (marks.take (i + 1))) (Paired.mapP pr fun _ _ h => ⟨h.1, h.2.same s26⟩ : Paired (KR H6 (posOf (marks.take i))) kvs (seenL [] (marks.take i))) tnew fun u hu => by rw [posOf_take hi, if_neg (Ne.symm hu)]
        have keepT : ∀ {x : V} {z : List Int}, TP H6 x z → TP (upd H6 D (.dK (putK kvs (Sum.inl (co marks i) : Key) (.ref t)))) x z := fun {x z} ⟨t, e, h⟩ => ⟨t, e, by rw [upd_ne (ne_of h hD6 (fun z => nomatch z))]; exact h⟩
        refine ⟨_, _, _, rfl, Same.mut (Same.trans s2 s26) nD, upd_same, ?_, ?_⟩
        · unfold putK
          split
          · rw [List.length_map]
            omega
          · rw [List.length_append]
            exact Nat.succ_le_succ lk
        · rw [take_snoc hi, seenL_snoc, ← take_snoc hi]
          exact Paired.mapP pr6 fun _ _ h => ⟨h.1, keepT h.2⟩
      · obtain ⟨kvs, v4, v5, rfl, s2, hD2, lk, pr⟩ := hP
        rw [List.length_map, List.take_length] at pr
        refine ⟨_, rfl, _, rfl, _, rfl, D, kvs, rfl, hD2, fun tb ntb => ?_⟩
        refine ⟨(by show 3 ≤ sizeLine; decide), fun t nt => ?_⟩
        have q3 := same_upd (o := .tup (kvs.map (·.2))) ntb
        have q4 := same_upd (o := .tup [.int n, .int m, .ref tb]) nt
        have sf := Same.trans q3 q4
        refine q (.ref t) _ (Same.trans s2 sf) ⟨t, .ref tb, rfl, upd_same, tb, _, rfl, q4 _ _ upd_same, ?_⟩
        unfold blocksOf
        exact kr_vals (Paired.mapP pr fun _ _ h => ⟨h.1, h.2.same sf⟩)
    · exact if_pos_of (by rw [decide_eq_false fun z => cl (V.int.inj z)]; rfl) (qB cl)
end

theorem inV_int {p : Int} : ∀ l : List Int, inV (.int p) (l.map V.int) = decide (p ∈ l)
  | [] => rfl
  | x :: l => by
    show (eqV (.int x) (.int p) || inV (.int p) (l.map V.int)) = _
    rw [inV_int l]
    have e : eqV (.int x) (.int p) = decide (x = p) := by
      by_cases c : x = p <;> simp [eqV, c]
    rw [e]
    by_cases c : x = p
    · rw [decide_eq_true c, decide_eq_true (List.mem_cons.mpr (.inl c.symm))]
      rfl
    · rw [decide_eq_false c, Bool.false_or]
      refine decide_eq_decide.mpr ⟨fun z => List.mem_cons_of_mem _ z, fun z => (List.mem_cons.mp z).resolve_left fun z => c z.symm⟩
theorem flat_int : ∀ l : List Int, (l.map V.int).all flatV = true
  | [] => rfl
  | _ :: l => by
    rw [List.map_cons, List.all_cons, flat_int l]
    rfl
section
variable {P : Program} {w : World} {K : PySem.W.Frag} {mg : Str → Option Value} {base : Heap}
/-! ### _law_seen, _law_from, _law_marks -/
def spSeen (K : PySem.W.Frag) : Sp := fun vs H Q _ => ∃ (a : Addr) (l : List Int), vs = [.ref a] ∧ SqL K H a (l.map V.int) ∧ l.length ≤ 1000 ∧ ∀ D H', Same H H' → H D = none → H' D = some (.lst ((seenL [] l).map V.int)) → Q (.ref D) H'
theorem ok_law_seen {f : Addr} {fd : FuncData} (F : Fun K "_law_seen" "_law_seen" s_law_seen f fd) : FnOk P w K mg base CX0 1 f fd ["marks"] (spSeen K) := by
  refine F.ok sc_law_seen (fun vs H Q E h => ?_) (fun cdv A outer s H vs Q E hr h => ?_)
  · obtain ⟨a, l, rfl, _⟩ := h
    rfl
  · obtain ⟨a, l, rfl, ha, hl, q⟩ := h
    refine ⟨_, (pss_cons (ps_set (i := 1) sc_law_seen.nd rfl (.inl rfl) (pe_lst pa_nil))
  (pss_cons (ps_for PassesOwn.never rfl (pi_list (pv 0)) (pg_name (i := 2) sc_law_seen.nd rfl (.inl rfl)) (pss_one (ps_if (pt_cmpR op_notIn_seq (pv 2) (pv 1) (by with_unfolding_all rfl)) (pss_one (ps_expr (pe_bm PySem.F.plainAttrs_list PySem.F.slot_list_append PySem.F.type_list_append mt_append (pv 1) (pa_cons (pv 2) pa_nil)))) pss_nil)))
  (pss_one (ps_ret (pv 1))))), ?_⟩
    have szl : 20000 ≤ sizeLine := by decide
    refine ⟨(by show 0 ≤ sizeLine; decide), fun D nD => ?_⟩
    refine ⟨_, rfl, a, rfl, ⟨_, sqL_same (same_upd nD) ha⟩, for_list (xs := l.map V.int) (fun i σ H' => ∃ v2, σ = [some (.ref a), some (.ref D), v2] ∧ Same H H' ∧ H' D = some (.lst ((seenL [] (l.take i)).map V.int)))
      ⟨none, rfl, same_upd nD, upd_same⟩ (fun i σ H' _ ⟨_, _, s', _⟩ => sqL_same s' ha) (fun i y σ H' hy hP => ?_) (fun σ H' hP => ?_)⟩
    · obtain ⟨v2, rfl, s2, hD⟩ := hP
      have hi : i < l.length := by have := (List.getElem?_eq_some_iff.mp hy).1; rwa [List.length_map] at this
      have ey : (l.map V.int)[i]? = some (.int (co l i)) := by rw [List.getElem?_map, co_get hi]; rfl
      obtain rfl : V.int (co l i) = y := Option.some.inj (ey.symm.trans hy)
      refine ⟨_, rfl, _, rfl, D, _, rfl, .inl (.inl (.inl hD)), rfl, flat_int _, _, rfl, ?_⟩
      have ls := seenL_len (l.take i) []
      rw [List.length_take] at ls
      have ls2 : (seenL [] (l.take i)).length ≤ 1000 := by
        have : ([] : List Int).length = 0 := rfl
        omega
      by_cases c : co l i ∈ seenL [] (l.take i)
      · refine if_neg_of (by show ¬ (!inV _ _) = true; rw [inV_int, decide_eq_true c]; exact Bool.false_ne_true) ⟨_, rfl, s2, ?_⟩
        rw [take_snoc hi, seenL_snoc, if_pos c]
        exact hD
      · refine if_pos_of (by show (!inV _ _) = true; rw [inV_int, decide_eq_false c]; rfl) ?_
        refine ⟨_, rfl, .inl ⟨rfl, _, .inl (.inl hD)⟩, _, rfl, D, _, _, rfl, rfl, hD, by rw [List.length_map]; omega, ?_⟩
        refine ⟨_, rfl, Same.mut s2 nD, ?_⟩
        rw [upd_same, take_snoc hi, seenL_snoc, if_neg c, List.map_append]
        rfl
    · obtain ⟨v2, rfl, s2, hD⟩ := hP
      rw [List.length_map, List.take_length] at hD
      exact ⟨_, rfl, q D H' s2 nD hD⟩
theorem posF_co {marks : List Int} {v : Int} {j : Nat} (h : j < marks.length) : ((List.range (j + 1)).filter fun i => decide (co marks i = v)) = ((List.range j).filter fun i => decide (co marks i = v)) ++ (if co marks j = v then [j] else []) := by
  rw [List.range_succ, List.filter_append, List.filter_cons]
  by_cases c : co marks j = v
  · rw [if_pos c, decide_eq_true c]
    rfl
  · rw [if_neg c, decide_eq_false c]
    rfl
def spFrom (K : PySem.W.Frag) : Sp := fun vs H Q _ => ∃ (n m : Int) (a : Addr) (marks : List Int), vs = [.int n, .int m, .ref a] ∧ SqL K H a (marks.map V.int) ∧ marks.length ≤ 1000 ∧ (marks.length : Int) = n + m ∧
  ∀ v H', Same H H' → (∀ t, v = .ref t → H t = none) → DGv H' v n m (blocksOf marks) → Q v H'
theorem ok_law_from {f a_law_seen : Addr} {fd fd_law_seen : FuncData} (F : Fun K "_law_from" "_law_from" s_law_from f fd) (z_tuple : mg "tuple" = none) (z_range : mg "range" = none)
    (G_law_seen : FnOk P w K mg base CX0 1 a_law_seen fd_law_seen ["marks"] (spSeen K)) (g_law_seen : mg "_law_seen" = some (.ref a_law_seen)) (k_law_seen : PySem.W.keepIn K (.ref a_law_seen) = true) (b_law_seen : Binds K fd_law_seen ["marks"] []) : FnOk P w K mg base CX0 2 f fd ["n", "m", "marks"] (spFrom K) := by
  refine F.ok sc_law_from (fun vs H Q E h => ?_) (fun cdv A outer s H vs Q E hr h => ?_)
  · obtain ⟨n, m, a, marks, rfl, _⟩ := h
    rfl
  · obtain ⟨n, m, a, marks, rfl, ha, hl, hN, q⟩ := h
    refine ⟨_, (pss_cons (ps_set (i := 3) sc_law_from.nd rfl (.inl rfl) (pe_lst pa_nil))
  (pss_cons (ps_for PassesOwn.never rfl (pi_list (pe_call G_law_seen (hr.mono (by decide)) rfl g_law_seen k_law_seen b_law_seen .nil pass0 (pa_cons (pv 2) pa_nil))) (pg_name (i := 4) sc_law_from.nd rfl (.inr rfl)) (pss_one (ps_expr (pe_bm PySem.F.plainAttrs_list PySem.F.slot_list_append PySem.F.type_list_append mt_append (pv 3) (pa_cons (pe_callTy call_tuple_of (by rfl) z_tuple boot_tuple (pa_cons (pe_lc (own := [("at", 5)]) rfl sc_law_from.nd (pi_range1 rfl z_range (pa_cons (pe_op op_add (pv 0) (pv 1)) pa_nil)) (blkOk_by (N := ["n", "m", "marks", "blocks", "mark", "at"]) (sc := defScope s_law_from) (by first | decide +kernel | rfl)) (fun _ _ _ _ _ => (pg_name (i := 5) sc_law_from.nd rfl (.inl rfl))) (fun _ _ _ _ _ => pts_one (pt_cmpR op_eq (pe_ix (ix_listK (K := K) rfl) (pv 2) (pv 5) (fun _ _ => rfl)) (pv 4) (nomark _))) (fun _ _ _ _ _ => (pv 5))) pa_nil)) pa_nil)))))
  (pss_one (ps_ret (pe_tup (pa_cons (pv 0) (pa_cons (pv 1) (pa_cons (pe_callTy call_tuple_of (by rfl) z_tuple boot_tuple (pa_cons (pv 3) pa_nil)) pa_nil)))))))), ?_⟩
    have szl : 20000 ≤ sizeLine := by decide
    refine ⟨(by show 0 ≤ sizeLine; decide), fun D nD => ?_⟩
    have s1 := same_upd (o := .lst []) nD
    refine ⟨_, rfl, a, marks, rfl, sqL_same s1 ha, hl, fun S H2 s2 nS hS => ?_⟩
    have hDS : S ≠ D := fun z => by
      rw [z, upd_same] at nS
      exact nomatch nS
    have nS0 : H S = none := none_back s1 nS
    have sl := seenL_len marks []
    have sl2 : (seenL [] marks).length ≤ 1000 := by
      have : ([] : List Int).length = 0 := rfl
      omega
    refine ⟨S, rfl, ⟨_, .inl (.inl hS)⟩, for_list (K := K) (xs := (seenL [] marks).map V.int) (fun i σ H' => ∃ (v4 v5 : Option V) (ts : List V), σ = [some (.int n), some (.int m), some (.ref a), some (.ref D), v4, v5] ∧ Same H H' ∧ H' S = some (.lst ((seenL [] marks).map V.int)) ∧ H' D = some (.lst ts) ∧ Paired (TP H') ts (((seenL [] marks).take i).map (posOf marks)))
      ⟨none, none, [], rfl, Same.trans s1 s2, hS, s2 _ _ upd_same, .nil⟩ (fun i σ H' _ ⟨_, _, _, _, _, h, _⟩ => .inl (.inl h)) (fun i y σ H3 hy hP => ?_) (fun σ H3 hP => ?_)⟩
    · obtain ⟨v4, v5, ts, rfl, s3, hS3, hD3, pr⟩ := hP
      obtain ⟨v, hv, rfl⟩ := map_int_get hy
      have hi := (List.getElem?_eq_some_iff.mp hv).1
      have ha3 := sqL_same s3 ha
      refine ⟨_, rfl, .inl ⟨rfl, _, .inl (.inl hD3)⟩, ?_⟩
      -- the tuple of the places
      refine ⟨_, rfl, _, rfl, _, _, rfl, rfl, n + m, rfl, by omega, by omega, fun D2 nD2 => ?_⟩
      have nD2' : H D2 = none := none_back s3 nD2
      have hk : ∀ {H' : Hp}, SameBut D2 H3 H' → Same H3 H' := fun sb b o e => sb _ _ (ne_of_none e nD2) e
      rw [show (n + m).toNat = marks.length by omega]
      refine lc_range (lo := 0) (n := marks.length) (fun j H' => SameBut D2 H3 H' ∧ H' D2 = some (.lst ((((List.range j).filter fun i => decide (co marks i = v)).map fun (i : Nat) => (i : Int)).map V.int))) ⟨SameBut.upd, upd_same⟩ (fun j H' hj hP => ?_) (fun H4 hP => ?_)
      · obtain ⟨sb, hD⟩ := hP
        refine ⟨rfl, ?_⟩
        have ej : (0 : Int) + (j : Int) = (j : Int) := Int.zero_add _
        refine ⟨_, rfl, _, rfl, a, _, _, _, rfl, rfl, sqL_same (hk sb) ha3, (by rw [ej]; exact at_co hj), _, rfl, rfl, _, rfl, ?_⟩
        rw [posF_co hj]
        by_cases c : co marks j = v
        · rw [decide_eq_true (congrArg V.int c), if_pos c]
          refine iteT ⟨_, rfl, _, hD, ?_, sb.trans SameBut.upd, ?_⟩
          · rw [List.length_map, List.length_map]
            have := List.length_filter_le (fun i => decide (co marks i = v)) (List.range j)
            rw [List.length_range] at this
            omega
          · rw [upd_same, List.map_append, List.map_append, ej]
            rfl
        · rw [decide_eq_false (fun z => c (V.int.inj z)), if_neg c, List.append_nil]
          exact iteF ⟨sb, hD⟩
      obtain ⟨sb, hD⟩ := hP
      have s4 := hk sb
      refine ⟨D2, _, rfl, .inl ⟨.inl (.inl hD), fun t nt => ?_⟩⟩
      have q5 := same_upd (o := .tup ((posOf marks v).map V.int)) nt
      have hD5 := q5 _ _ (s4 _ _ hD3)
      have lts : ts.length ≤ 1000 := by
        have := pr.length
        rw [List.length_map, List.length_take] at this
        omega
      refine ⟨D, _, _, rfl, rfl, hD5, by omega, ?_⟩
      have keepT : ∀ {x : V} {z : List Int} {ys : List V}, TP (upd H4 t (.tup ((posOf marks v).map V.int))) x z → TP (upd (upd H4 t (.tup ((posOf marks v).map V.int))) D (.lst ys)) x z := fun {x z ys} ⟨t, e, h⟩ => ⟨t, e, by rw [upd_ne (ne_of h hD5 (fun z => nomatch z))]; exact h⟩
      refine ⟨_, _, ts ++ [.ref t], rfl, Same.mut (Same.trans s3 (Same.trans s4 q5)) nD, by rw [upd_ne hDS]; exact q5 _ _ (s4 _ _ hS3), upd_same, ?_⟩
      rw [List.take_succ, hv, List.map_append]
      exact paired_snoc (keepT ⟨t, rfl, upd_same⟩) (Paired.mapP pr fun _ _ h => keepT ((h.same s4).same q5))
    · obtain ⟨v4, v5, ts, rfl, s3, hS3, hD3, pr⟩ := hP
      rw [List.length_map, List.take_length] at pr
      refine ⟨_, rfl, _, rfl, _, rfl, D, _, rfl, .inl ⟨.inl (.inl hD3), fun tb ntb => ?_⟩⟩
      refine ⟨(by show 3 ≤ sizeLine; decide), fun t nt => ?_⟩
      have q3 := same_upd (o := .tup ts) ntb
      have q4 := same_upd (o := .tup [.int n, .int m, .ref tb]) nt
      have sf := Same.trans q3 q4
      exact q (.ref t) _ (Same.trans s3 sf) (fun t' e => by cases e; exact none_back (Same.trans s3 q3) nt) ⟨t, .ref tb, rfl, upd_same, tb, _, rfl, q4 _ _ upd_same, Paired.mapP pr fun _ _ h => h.same sf⟩
end

section
variable {P : Program} {w : World} {K : PySem.W.Frag} {mg : Str → Option Value} {base : Heap}
/-! ### _law_marks -/
def spMarks : Sp := fun vs H Q _ => ∃ (v : V) (n m : Int) (bs : List (List Int)), vs = [v] ∧ DGv H v n m bs ∧ IsDg n m bs ∧ bs.length ≤ 1000 ∧ ∀ D H', Same H H' → H D = none → H' D = some (.lst ((labL bs (n + m).toNat).map V.int)) → Q (.ref D) H'
theorem ok_law_marks {f : Addr} {fd : FuncData} (F : Fun K "_law_marks" "_law_marks" s_law_marks f fd) (z_len : mg "len" = none) (z_range : mg "range" = none) : FnOk P w K mg base CX0 1 f fd ["diagram"] spMarks := by
  refine F.ok sc_law_marks (fun vs H Q E h => ?_) (fun cdv A outer s H vs Q E hr h => ?_)
  · obtain ⟨v, n, m, bs, rfl, _⟩ := h
    rfl
  · obtain ⟨v, n, m, bs, rfl, hv, dg, lb, q⟩ := h
    refine ⟨_, (pss_cons (ps_set (i := 1) sc_law_marks.nd rfl (.inl rfl) (pe_op op_rep (pe_lst (pa_cons pe_int pa_nil)) (pe_op op_add (pe_ix ix_tup (pv 0) pe_int (fun _ _ => rfl)) (pe_ix ix_tup (pv 0) pe_int (fun _ _ => rfl)))))
  (pss_cons (ps_for PassesOwn.never rfl (pi_range1 rfl z_range (pa_cons (pe_callB call_len_seq (by rfl) z_len boot_len (pa_cons (pe_ix ix_tup (pv 0) pe_int (fun _ _ => rfl)) pa_nil)) pa_nil)) (pg_name (i := 2) sc_law_marks.nd rfl (.inl rfl)) (pss_one (ps_for PassesOwn.never rfl (pi_tup (pe_ix ix_tup (pe_ix ix_tup (pv 0) pe_int (fun _ _ => rfl)) (pv 2) (fun _ _ => rfl))) (pg_name (i := 3) sc_law_marks.nd rfl (.inl rfl)) (pss_one (ps_asg (pv 2) (pg_sub (pv 1) (pv 3) set_list))))))
  (pss_one (ps_ret (pv 1))))), ?_⟩
    have szl : 20000 ≤ sizeLine := by decide
    have hs := siz_iff.mp dg.sz
    obtain ⟨t, vb, rfl, ht, tb, ts, rfl, htb, pr⟩ := hv
    have lts : ts.length = bs.length := pr.length
    obtain ⟨N, eN⟩ : ∃ N : Nat, n + m = (N : Int) := ⟨(n + m).toNat, by omega⟩
    refine ⟨(by show 1 ≤ sizeLine; decide), fun z nz => ?_⟩
    have q0 := same_upd (o := .lst [.int 0]) nz
    refine ⟨_, rfl, t, _, 0, .int n, rfl, rfl, .inl (.inl (q0 _ _ ht)), atI_nat (j := 0) rfl, _, rfl, t, _, 1, .int m, rfl, rfl, .inl (.inl (q0 _ _ ht)), atI_nat (j := 1) rfl, _, _, rfl, rfl, z, _, _, rfl, rfl, upd_same, ?_⟩
    dsimp only
    rw [eN]
    refine ⟨by omega, by omega, by show 1 * _ ≤ sizeLine; omega, fun D nD => ?_⟩
    rw [show ((N : Nat) : Int).toNat = N from rfl, rep0]
    have s1 : Same H (upd (upd H z (.lst [.int 0])) D (.lst ((List.replicate N (0 : Int)).map V.int))) := Same.trans q0 (same_upd nD)
    have hD1 : upd (upd H z (.lst [.int 0])) D (.lst ((List.replicate N (0 : Int)).map V.int)) D = some (.lst ((List.replicate N (0 : Int)).map V.int)) := upd_same
    have nD0 := none_back q0 nD
    revert s1 hD1
    generalize upd (upd H z (.lst [.int 0])) D (.lst ((List.replicate N (0 : Int)).map V.int)) = H1
    intro s1 hD1
    refine ⟨_, rfl, t, _, 2, .ref tb, rfl, rfl, .inl (.inl (s1 _ _ ht)), atI_nat (j := 2) rfl, tb, _, rfl, .inr (.inl (.inl (s1 _ _ htb))), ?_⟩
    rw [lts]
    refine ⟨_, rfl, by omega, by omega, for_range (lo := 0) (n := bs.length) (fun i σ H' => ∃ v2 v3, σ = [some (.ref t), some (.ref D), v2, v3] ∧ Same H H' ∧ H' D = some (.lst ((labN bs i N).map V.int)))
      ⟨none, none, rfl, s1, hD1⟩ (fun i σ H3 hi hP => ?_) (fun σ H' hP => ?_)⟩
    · obtain ⟨v2, v3, rfl, s3, hD3⟩ := hP
      have ei : (0 : Int) + (i : Int) = ((i : Nat) : Int) := Int.zero_add _
      have hti : i < ts.length := by omega
      obtain ⟨b, eb, a, ea, ha⟩ := tt_get pr (List.getElem?_eq_getElem hti)
      have mb := List.mem_of_getElem? eb
      have eti : atI ts ((0 : Int) + (i : Int)) = some (.ref a) := by rw [ei]; exact atI_nat (by rw [List.getElem?_eq_getElem hti, ea])
      refine ⟨_, rfl, t, _, 2, .ref tb, rfl, rfl, .inl (.inl (s3 _ _ ht)), atI_nat (j := 2) rfl, _, rfl, tb, _, _, _, rfl, rfl, .inl (.inl (s3 _ _ htb)), eti, a, rfl, ⟨_, .inl (.inl (s3 _ _ ha))⟩, for_it walk_tup (fun j σ H' => ∃ v3, σ = [some (.ref t), some (.ref D), some (.int (0 + (i : Int))), v3] ∧ Same H H' ∧ H' D = some (.lst (((b.take j).foldl (fun ms p => ms.set p.toNat (i : Int)) (labN bs i N)).map V.int)))
        ⟨v3, rfl, s3, hD3⟩ (fun j σ H' _ ⟨_, _, s', _⟩ => .inl (.inl (s' _ _ ha))) (fun j y σ H6 H7 hj hP hy => ?_) (fun σ H' hP => ?_)⟩
      · obtain ⟨v3, rfl, s5, hD5⟩ := hP
        obtain ⟨e0, hy⟩ := hy
        subst e0
        rw [List.length_map] at hj
        have ez : (b.map V.int)[j]? = some (.int (co b j)) := by rw [List.getElem?_map, co_get hj]; rfl
        obtain rfl : V.int (co b j) = y := Option.some.inj (ez.symm.trans hy)
        obtain ⟨c0, c1⟩ := dg_pt dg mb (co_mem hj)
        have ll : ((b.take j).foldl (fun ms p => ms.set p.toNat (i : Int)) (labN bs i N)).length = N := by
          rw [fold_len]
          unfold labN
          rw [labFrom_len, List.length_replicate]
        refine ⟨_, rfl, _, rfl, _, rfl, D, _, _, (co b j).toNat, rfl, rfl, hD5, (by obtain ⟨u, hu⟩ := Int.eq_ofNat_of_zero_le c0; rw [hu]; exact ixN_nat (by rw [List.length_map, ll]; omega)), ?_⟩
        refine ⟨_, rfl, Same.mut s5 nD0, ?_⟩
        rw [upd_same, ei, map_set, fold_take hj]
      · obtain ⟨v3, rfl, s5, hD5⟩ := hP
        rw [List.length_map, List.take_length] at hD5
        refine ⟨_, _, rfl, s5, ?_⟩
        rw [hD5]
        unfold labN
        rw [List.take_succ, eb, show (some b).toList = [b] from rfl, labFrom_snoc, List.length_take, Nat.min_eq_left (by omega), Nat.zero_add]
    · obtain ⟨v2, v3, rfl, s3, hD3⟩ := hP
      refine ⟨_, rfl, q D H' s3 nD0 ?_⟩
      rw [hD3, eN]
      unfold labN labL
      rw [List.take_length]
      rfl
end

section
variable {P : Program} {w : World} {K : PySem.W.Frag} {mg : Str → Option Value} {base : Heap}
/-! ### _law_pick, _law_family, _law_other_side -/
theorem seqIx_nat {n k : Nat} (h : k < n) : seqIndex? (k : Int) n = some k := by
  have e0 : ¬ ((k : Int) < 0) := by omega
  simp only [seqIndex?, if_neg e0]
  rw [if_pos (by simp; omega)]
  rfl
theorem mem_erase {l : List Int} {i : Nat} {y : Int} (h : y ∈ l.eraseIdx i) : y ∈ l := List.mem_of_mem_eraseIdx h
theorem erase_map : ∀ (l : List Int) (k : Nat), (l.map V.int).eraseIdx k = (l.eraseIdx k).map V.int
  | [], _ => rfl
  | _ :: _, 0 => rfl
  | a :: l, k + 1 => congrArg (V.int a :: ·) (erase_map l k)
def spPick : Sp := fun vs H Q _ => ∃ (r b : Addr) (ds ls : List Int), vs = [.ref r, .ref b] ∧ r ≠ b ∧ H r = some (.lst (ds.map V.int)) ∧ H b = some (.lst (ls.map V.int)) ∧ ls ≠ [] ∧ ls.length ≤ 1000 ∧
  ∀ (ds' : List Int) (k : Nat), k < ls.length → Q (.int (co ls k)) (upd (upd H r (.lst (ds'.map V.int))) b (.lst ((ls.eraseIdx k).map V.int)))
theorem ok_law_pick {f a_law_next : Addr} {fd fd_law_next : FuncData} (F : Fun K "_law_pick" "_law_pick" s_law_pick f fd) (z_int : mg "int" = none) (z_len : mg "len" = none)
    (G_law_next : FnOk P w K mg base CX0 1 a_law_next fd_law_next ["draws"] spNext) (g_law_next : mg "_law_next" = some (.ref a_law_next)) (k_law_next : PySem.W.keepIn K (.ref a_law_next) = true) (b_law_next : Binds K fd_law_next ["draws"] []) : FnOk P w K mg base CX0 2 f fd ["draws", "left"] spPick := by
  refine F.ok sc_law_pick (fun vs H Q E h => ?_) (fun cdv A outer s H vs Q E hr h => ?_)
  · obtain ⟨r, b, ds, ls, rfl, _⟩ := h
    rfl
  · obtain ⟨r, b, ds, ls, rfl, nrb, hL, hB, hne, hl, q⟩ := h
    refine ⟨_, (pss_one (ps_ret (pe_bm PySem.F.plainAttrs_list PySem.F.slot_list_pop PySem.F.type_list_pop mt_popAt (pv 1) (pa_cons (pe_op op_mod (pe_callTy call_int1 (by rfl) z_int boot_int (pa_cons (pe_call G_law_next (hr.mono (by decide)) rfl g_law_next k_law_next b_law_next .nil pass0 (pa_cons (pv 0) pa_nil)) pa_nil)) (pe_callB call_len_seq (by rfl) z_len boot_len (pa_cons (pv 1) pa_nil))) pa_nil)))), ?_⟩
    have pos : 0 < ls.length := List.length_pos_iff.mpr hne
    refine ⟨_, rfl, .inl ⟨rfl, _, .inl (.inl hB)⟩, _, rfl, r, ds, rfl, hL, fun n0 ds0 => .inl ⟨n0, rfl, ?_⟩⟩
    have hB1 : upd H r (.lst (ds0.map V.int)) b = some (.lst (ls.map V.int)) := by rw [upd_ne (Ne.symm nrb)]; exact hB
    refine ⟨_, rfl, b, _, rfl, .inl (.inl (.inl hB1)), ?_⟩
    rw [List.length_map]
    refine ⟨n0, _, rfl, rfl, by omega, ?_⟩
    have m := mod_lt8 n0 (show (0 : Int) < (ls.length : Int) by omega)
    dsimp only
    obtain ⟨k, hk, ek⟩ : ∃ k : Nat, k < ls.length ∧ n0 % (ls.length : Int) = (k : Int) := ⟨(n0 % (ls.length : Int)).toNat, by omega, by omega⟩
    rw [ek]
    refine ⟨b, _, _, k, .int (co ls k), rfl, rfl, hB1, by omega, by omega, ?_, by rw [List.getElem?_map, co_get hk]; rfl, ?_⟩
    · rw [List.length_map]
      exact seqIx_nat hk
    · have e : (ls.map V.int).eraseIdx k = (ls.eraseIdx k).map V.int := erase_map ls k
      rw [e]
      exact q _ k hk
def fams : List Str := ["threads", "loose", "pairs", "lonepairs", "even", "parts"]
def spFamily : Sp := fun vs H Q _ => ∃ (r : Addr) (ds : List Int), vs = [.ref r] ∧ H r = some (.lst (ds.map V.int)) ∧ ∀ (z : Str) (ds' : List Int) (H' : Hp), z ∈ fams → SameBut r H H' → H' r = some (.lst (ds'.map V.int)) → Q (.str z) H'
theorem ok_law_family {f a_law_next : Addr} {fd fd_law_next : FuncData} (F : Fun K "_law_family" "_law_family" s_law_family f fd) (z_int : mg "int" = none)
    (G_law_next : FnOk P w K mg base CX0 1 a_law_next fd_law_next ["draws"] spNext) (g_law_next : mg "_law_next" = some (.ref a_law_next)) (k_law_next : PySem.W.keepIn K (.ref a_law_next) = true) (b_law_next : Binds K fd_law_next ["draws"] []) : FnOk P w K mg base CX0 2 f fd ["draws"] spFamily := by
  refine F.ok sc_law_family (fun vs H Q E h => ?_) (fun cdv A outer s H vs Q E hr h => ?_)
  · obtain ⟨r, ds, rfl, _⟩ := h
    rfl
  · obtain ⟨r, ds, rfl, hL, q⟩ := h
    refine ⟨_, (pss_one (ps_ret (pe_ix ix_list (pe_lst (pa_cons pe_str (pa_cons pe_str (pa_cons pe_str (pa_cons pe_str (pa_cons pe_str (pa_cons pe_str pa_nil))))))) (pe_op op_mod (pe_callTy call_int1 (by rfl) z_int boot_int (pa_cons (pe_call G_law_next (hr.mono (by decide)) rfl g_law_next k_law_next b_law_next .nil pass0 (pa_cons (pv 0) pa_nil)) pa_nil)) pe_int) (fun _ _ => rfl)))), ?_⟩
    refine ⟨(by show 6 ≤ sizeLine; decide), fun p np => ?_⟩
    have nrp : r ≠ p := ne_of_none hL np
    refine ⟨_, rfl, r, ds, rfl, (by rw [upd_ne nrp]; exact hL), fun n0 ds0 => .inl ⟨n0, rfl, n0, 6, rfl, rfl, (show (0 : Int) < 6 by decide), ?_⟩⟩
    have m := mod_lt8 n0 (show (0 : Int) < 6 by decide)
    obtain ⟨k, hk, ek⟩ : ∃ k : Nat, k < 6 ∧ n0 % 6 = (k : Int) := ⟨(n0 % 6).toNat, by omega, by omega⟩
    dsimp only
    rw [ek]
    have go : ∀ z : Str, z ∈ fams → Q (.str z) (upd (upd H p (.lst [.str "threads", .str "loose", .str "pairs", .str "lonepairs", .str "even", .str "parts"])) r (.lst (ds0.map V.int))) := fun z mz => q z ds0 _ mz (fun b o nb hb => by rw [upd_ne nb, upd_ne (ne_of_none hb np)]; exact hb) upd_same
    obtain ⟨z, mz, ez⟩ : ∃ z : Str, z ∈ fams ∧ [V.str "threads", .str "loose", .str "pairs", .str "lonepairs", .str "even", .str "parts"][k]? = some (.str z) := by
      match k, hk with
      | 0, _ => exact ⟨fams[0]'(by decide), List.getElem_mem _, rfl⟩
      | 1, _ => exact ⟨fams[1]'(by decide), List.getElem_mem _, rfl⟩
      | 2, _ => exact ⟨fams[2]'(by decide), List.getElem_mem _, rfl⟩
      | 3, _ => exact ⟨fams[3]'(by decide), List.getElem_mem _, rfl⟩
      | 4, _ => exact ⟨fams[4]'(by decide), List.getElem_mem _, rfl⟩
      | 5, _ => exact ⟨fams[5]'(by decide), List.getElem_mem _, rfl⟩
    exact ⟨p, _, _, _, rfl, rfl, .inl (.inl (by rw [upd_ne (Ne.symm nrp), upd_same])), atI_nat ez, go z mz⟩
def spOther : Sp := fun vs H Q _ => ∃ (r : Addr) (ds : List Int) (z : Str) (n most : Int), vs = [.ref r, .str z, .int n, .int most] ∧ 0 ≤ n ∧ n ≤ most ∧ 1 ≤ most ∧ H r = some (.lst (ds.map V.int)) ∧ ∀ (m : Int) (ds' : List Int) (H' : Hp), 0 ≤ m → m ≤ most → (z = "threads" → m = n) → (z = "pairs" ∨ z = "even" → (n + m) % 2 = 0) → SameBut r H H' → H' r = some (.lst (ds'.map V.int)) → Q (.int m) H'
theorem ok_law_other_side {f a_law_next : Addr} {fd fd_law_next : FuncData} (F : Fun K "_law_other_side" "_law_other_side" s_law_other_side f fd) (z_int : mg "int" = none)
    (G_law_next : FnOk P w K mg base CX0 1 a_law_next fd_law_next ["draws"] spNext) (g_law_next : mg "_law_next" = some (.ref a_law_next)) (k_law_next : PySem.W.keepIn K (.ref a_law_next) = true) (b_law_next : Binds K fd_law_next ["draws"] []) : FnOk P w K mg base CX0 2 f fd ["draws", "family", "n", "most"] spOther := by
  refine F.ok sc_law_other_side (fun vs H Q E h => ?_) (fun cdv A outer s H vs Q E hr h => ?_)
  · obtain ⟨r, ds, z, n, most, rfl, _⟩ := h
    rfl
  · obtain ⟨r, ds, z, n, most, rfl, h0, h1, h2, hL, q⟩ := h
    refine ⟨_, (pss_cons (ps_if (pt_cmpR op_eq (pv 1) pe_str (nomark _)) (pss_one (ps_ret (pv 2))) pss_nil)
  (pss_cons (ps_set (i := 4) sc_law_other_side.nd rfl (.inl rfl) (pe_op op_mod (pe_callTy call_int1 (by rfl) z_int boot_int (pa_cons (pe_call G_law_next (hr.mono (by decide)) rfl g_law_next k_law_next b_law_next .nil pass0 (pa_cons (pv 0) pa_nil)) pa_nil)) (pe_op op_add (pv 3) pe_int)))
  (pss_cons (ps_if (L2.PW.pt (pw_and (pt_cmpR op_in_seq (pv 1) (pe_lst (pa_cons pe_str (pa_cons pe_str pa_nil))) (by with_unfolding_all rfl)) (pw_and1 (pt_cmpR op_eq (pe_op op_mod (pe_callTy call_int1 (by rfl) z_int boot_int (pa_cons (pe_op op_add (pv 2) (pv 4)) pa_nil)) pe_int) pe_int (nomark _))))) (pss_one (ps_ret (pe_ifExp (pt_cmpR op_lt (pv 4) (pv 3) (nomark _)) (pe_op op_add (pv 4) pe_int) (pe_op op_sub (pv 4) pe_int)))) pss_nil)
  (pss_one (ps_ret (pv 4)))))), ?_⟩
    refine ⟨_, rfl, rfl, _, rfl, ite2 (fun _ => ⟨_, rfl, q n ds H h0 h1 (fun _ => rfl) (fun _ => by omega) (SameBut.refl _ _) hL⟩) (fun nt => ?_)⟩
    have nt : z ≠ "threads" := fun e => nt (decide_eq_true (congrArg V.str e))
    refine ⟨_, rfl, r, ds, rfl, hL, fun n0 ds0 => .inl ⟨n0, rfl, _, rfl, _, _, rfl, rfl, n0, _, rfl, rfl, by omega, ?_⟩⟩
    have mo := mod_lt8 n0 (show (0 : Int) < most + 1 by omega)
    revert mo
    dsimp only
    generalize n0 % (most + 1) = m
    intro mo
    have hr1 : upd H r (.lst (ds0.map V.int)) r = some (.lst (ds0.map V.int)) := upd_same
    have sb1 : SameBut r H (upd H r (.lst (ds0.map V.int))) := SameBut.upd
    revert hr1 sb1
    generalize upd H r (.lst (ds0.map V.int)) = H1
    intro hr1 sb1
    refine ⟨_, rfl, (by show 2 ≤ sizeLine; decide), fun p np => ⟨p, _, rfl, .inl (.inl (.inl upd_same)), rfl, rfl, _, rfl, ?_⟩⟩
    have nrp : r ≠ p := ne_of_none hr1 np
    have sb2 : SameBut r H (upd H1 p (.lst [.str "pairs", .str "even"])) := sb1.trans (SameBut.new np)
    have hr2 : upd H1 p (.lst [.str "pairs", .str "even"]) r = some (.lst (ds0.map V.int)) := by rw [upd_ne nrp]; exact hr1
    refine ite2 (fun _ => ?_) (fun ni => ⟨_, rfl, q m ds0 _ mo.1 (by omega) (fun e => absurd e nt) (fun e => ?_) sb2 hr2⟩)
    rotate_left
    · refine absurd ?_ ni
      rcases e with rfl | rfl <;> decide +kernel
    refine ⟨_, rfl, _, rfl, _, _, rfl, rfl, .inl ⟨_, rfl, _, 2, rfl, rfl, (show (0 : Int) < 2 by decide), rfl, _, rfl, ite2 (fun od => ?_) (fun od => ⟨_, rfl, q m ds0 _ mo.1 (by omega) (fun e => absurd e nt) (fun _ => ?_) sb2 hr2⟩)⟩⟩
    rotate_left
    · have od := fun z => od (decide_eq_true z)
      by_cases c : (n + m) % 2 = 1
      · exact absurd (congrArg V.int c) od
      · omega
    have od : (n + m) % 2 = 1 := V.int.inj (of_decide_eq_true od)
    refine ⟨_, rfl, _, rfl, _, _, rfl, rfl, _, rfl, ?_⟩
    by_cases c : m < most
    · rw [decide_eq_true c]
      exact iteT ⟨_, rfl, _, _, rfl, rfl, q (m + 1) ds0 _ (by omega) (by omega) (fun e => absurd e nt) (fun _ => by omega) sb2 hr2⟩
    · rw [decide_eq_false c]
      exact iteF ⟨_, rfl, _, _, rfl, rfl, q (m - 1) ds0 _ (by omega) (by omega) (fun e => absurd e nt) (fun _ => by omega) sb2 hr2⟩
end

/-! ### marks as they are drawn -/
def Strand (n : Nat) (l : List Int) : Prop := ∀ p q : Nat, p < q → q < l.length → co l p = co l q → p < n ∧ n ≤ q
def Mated (l : List Int) : Prop := ∀ p : Nat, p < l.length → ∃ q, q < l.length ∧ q ≠ p ∧ co l q = co l p
structure FamM (z : Str) (n m : Nat) (l : List Int) : Prop where
  st : z = "threads" ∨ z = "loose" → Strand n l
  ma : z = "threads" → n = m → Mated l
  pa : z = "pairs" → (n + m) % 2 = 0 → ∀ v ∈ l, l.count v = 2
  lo : z = "lonepairs" → ∀ v, l.count v ≤ 2
  ev : z = "even" → (n + m) % 2 = 0 → ∀ v, l.count v % 2 = 0
theorem mem_ixs {N : Nat} {x : Int} : x ∈ ixs N ↔ 0 ≤ x ∧ x < (N : Int) := by
  unfold ixs
  rw [List.mem_map]
  constructor
  · rintro ⟨i, hi, rfl⟩
    have := List.mem_range.mp hi
    omega
  · rintro ⟨h0, h1⟩
    exact ⟨x.toNat, List.mem_range.mpr (by omega), by omega⟩
theorem ixs_len' (N : Nat) : (ixs N).length = N := by
  unfold ixs
  rw [List.length_map, List.length_range]
theorem co_ixs {N i : Nat} (h : i < N) : co (ixs N) i = (i : Int) := by
  have e := co_get (l := ixs N) (k := i) (by rw [ixs_len']; exact h)
  unfold ixs at e ⊢
  rw [List.getElem?_map, List.getElem?_range h] at e
  exact (Option.some.inj e).symm
theorem ixs_nodup (N : Nat) : (ixs N).Nodup := by
  unfold ixs
  exact List.pairwise_map.mpr ((range_lt N).imp fun {a b} h => by omega)
theorem co_app_l {a b : List Int} {i : Nat} (h : i < a.length) : co (a ++ b) i = co a i := by
  have e := co_get (l := a ++ b) (k := i) (by rw [List.length_append]; omega)
  rw [List.getElem?_append_left h, co_get h] at e
  exact (Option.some.inj e).symm
theorem co_app_r {a b : List Int} {i : Nat} (h : i < b.length) : co (a ++ b) (a.length + i) = co b i := by
  have e := co_get (l := a ++ b) (k := a.length + i) (by rw [List.length_append]; omega)
  rw [List.getElem?_append_right (by omega), show a.length + i - a.length = i by omega, co_get h] at e
  exact (Option.some.inj e).symm
theorem nodup_erase {l : List Int} (h : l.Nodup) {k : Nat} (hk : k < l.length) {y : Int} (hy : y ∈ l.eraseIdx k) : y ∈ l ∧ y ≠ co l k := by
  refine ⟨List.mem_of_mem_eraseIdx hy, fun e => ?_⟩
  obtain ⟨j, hj⟩ := List.mem_eraseIdx_iff_getElem?.mp hy
  have e2 := co_get hk
  rw [← e] at e2
  have lj := (List.getElem?_eq_some_iff.mp hj.2)
  obtain ⟨lj1, lj2⟩ := lj
  obtain ⟨lk1, lk2⟩ := List.getElem?_eq_some_iff.mp e2
  exact hj.1 ((List.getElem_inj h).mp (lj2.trans lk2.symm))
theorem mem_erase_ne {l : List Int} {k : Nat} (hk : k < l.length) {y : Int} (hy : y ∈ l) (ne : y ≠ co l k) : y ∈ l.eraseIdx k := by
  obtain ⟨j, hj, e⟩ := mem_get hy
  refine List.mem_eraseIdx_iff_getElem?.mpr ⟨j, fun c => ne ?_, ?_⟩
  · rw [← e, c]
  · rw [co_get hj, e]
/-- while marks are threaded -/
structure ThrI (n m i : Nat) (l ls : List Int) : Prop where
  len : l.length = n + m
  up : ∀ p : Nat, p < n → co l p = p
  low : ∀ j : Nat, j < m → co l (n + j) = -1 - (j : Int) ∨ (0 ≤ co l (n + j) ∧ co l (n + j) < i)
  dis : ∀ j j' : Nat, j < j' → j' < m → co l (n + j) ≠ co l (n + j')
  nd : ls.Nodup
  free : ∀ x ∈ ls, ∃ j : Nat, x = j ∧ j < m ∧ co l (n + j) = -1 - (j : Int)
  rest : ∀ j : Nat, j < m → (j : Int) ∉ ls → 0 ≤ co l (n + j)
  cap : ls.length ≤ m
structure ThrT (n m i : Nat) (l ls : List Int) : Prop where
  many : ls.length = m - i
  hit : ∀ a : Nat, a < i → ∃ j, j < m ∧ co l (n + j) = a
theorem ThrI.skip {n m i : Nat} {l ls : List Int} (h : ThrI n m i l ls) : ThrI n m (i + 1) l ls :=
  ⟨h.len, h.up, fun j hj => (h.low j hj).imp_right fun z => ⟨z.1, by omega⟩, h.dis, h.nd, h.free, h.rest, h.cap⟩
theorem thr_at {n m i : Nat} {l ls : List Int} (h : ThrI n m i l ls) {k : Nat} (hk : k < ls.length) : ∃ j : Nat, co ls k = j ∧ j < m ∧ co l (n + j) = -1 - (j : Int) := h.free _ (co_mem hk)
theorem ThrI.step {n m i : Nat} {l ls : List Int} (h : ThrI n m i l ls) {k j : Nat} (hk : k < ls.length) (hj : j < m) (ej : co ls k = j) : ThrI n m (i + 1) (l.set (n + j) (i : Int)) (ls.eraseIdx k) := by
  have hl := h.len
  have c : ∀ p : Nat, co (l.set (n + j) (i : Int)) p = if p = n + j then (i : Int) else co l p := fun p => co_set p (by omega)
  refine ⟨by rw [List.length_set]; exact hl, fun p hp => ?_, fun j' hj' => ?_, fun j1 j2 h1 h2 => ?_, h.nd.sublist (List.eraseIdx_sublist _ _), fun x hx => ?_, fun j' hj' hn => ?_, by rw [List.length_eraseIdx_of_lt hk]; have := h.cap; omega⟩
  · rw [c, if_neg (by omega)]
    exact h.up p hp
  · rw [c]
    by_cases e : j' = j
    · rw [if_pos (by omega)]
      exact .inr ⟨by omega, by omega⟩
    · rw [if_neg (by omega)]
      exact (h.low j' hj').imp_right fun z => ⟨z.1, by omega⟩
  · rw [c, c]
    have d := h.dis j1 j2 h1 h2
    have l1 := h.low j1 (by omega)
    have l2 := h.low j2 (by omega)
    by_cases e1 : j1 = j
    · rw [if_pos (by omega), if_neg (by omega)]
      omega
    · rw [if_neg (by omega)]
      by_cases e2 : j2 = j
      · rw [if_pos (by omega)]
        omega
      · rw [if_neg (by omega)]
        exact d
  · obtain ⟨hx1, hx2⟩ := nodup_erase h.nd hk hx
    obtain ⟨j', e1, e2, e3⟩ := h.free x hx1
    refine ⟨j', e1, e2, ?_⟩
    rw [c, if_neg (by omega)]
    exact e3
  · rw [c]
    by_cases e : j' = j
    · rw [if_pos (by omega)]
      omega
    · rw [if_neg (by omega)]
      exact h.rest j' hj' fun z => hn (mem_erase_ne hk z (by rw [ej]; omega))
theorem ThrT.step {n m i : Nat} {l ls : List Int} (h : ThrI n m i l ls) (t : ThrT n m i l ls) {k j : Nat} (hk : k < ls.length) (hj : j < m) (ej : co ls k = j) : ThrT n m (i + 1) (l.set (n + j) (i : Int)) (ls.eraseIdx k) := by
  have hl := h.len
  have c : ∀ p : Nat, co (l.set (n + j) (i : Int)) p = if p = n + j then (i : Int) else co l p := fun p => co_set p (by omega)
  refine ⟨by rw [List.length_eraseIdx_of_lt hk, t.many]; omega, fun a ha => ?_⟩
  by_cases e : a = i
  · exact ⟨j, hj, by rw [c, if_pos rfl, e]⟩
  · obtain ⟨j', h1, h2⟩ := t.hit a (by omega)
    refine ⟨j', h1, ?_⟩
    rw [c, if_neg]
    · exact h2
    · intro z
      obtain ⟨j3, e3, _, e4⟩ := thr_at h hk
      rw [z] at h2
      rw [ej] at e3
      have : j3 = j := by omega
      rw [this] at e4
      omega
theorem ThrI.strand {n m i : Nat} {l ls : List Int} (h : ThrI n m i l ls) : Strand n l := by
  intro p q hpq hq e
  have hl := h.len
  rcases Nat.lt_or_ge q n with c | c
  · rw [h.up p (by omega), h.up q c] at e
    omega
  · refine ⟨?_, c⟩
    rcases Nat.lt_or_ge p n with c2 | c2
    · exact c2
    · refine absurd ?_ (h.dis (p - n) (q - n) (by omega) (by omega))
      rw [show n + (p - n) = p by omega, show n + (q - n) = q by omega]
      exact e
theorem ThrI.mated {n : Nat} {l ls : List Int} (h : ThrI n n n l ls) (t : ThrT n n n l ls) : Mated l := by
  intro p hp
  have hl := h.len
  have e0 : ls = [] := List.length_eq_zero_iff.mp (by rw [t.many]; omega)
  rcases Nat.lt_or_ge p n with c | c
  · obtain ⟨j, hj, e⟩ := t.hit p c
    exact ⟨n + j, by omega, by omega, by rw [e, h.up p c]⟩
  · have r := h.rest (p - n) (by omega) (by rw [e0]; exact fun z => nomatch z)
    have lo := h.low (p - n) (by omega)
    rw [show n + (p - n) = p by omega] at r lo
    refine ⟨(co l p).toNat, by omega, by omega, ?_⟩
    rw [h.up _ (by omega)]
    omega
/-- while marks are paired -/
structure PrI (lone : Bool) (N i : Nat) (l ls : List Int) : Prop where
  len : l.length = N
  nd : ls.Nodup
  free : ∀ x ∈ ls, ∃ p : Nat, x = p ∧ p < N ∧ co l p = x ∧ l.count x = 1
  rest : ∀ v, v ∉ ls → l.count v = 0 ∨ l.count v = 2 ∨ (lone = true ∧ l.count v = 1)
  many : lone = false → ls.length + 2 * i = N
  cap : ls.length ≤ N
theorem count_ixs {N : Nat} {x : Int} (h : x ∈ ixs N) : (ixs N).count x = 1 := (ixs_nodup N).count.trans (if_pos h)
theorem PrI.start (lone : Bool) (N : Nat) : PrI lone N 0 (ixs N) (ixs N) :=
  ⟨ixs_len' N, ixs_nodup N, fun x hx => ⟨x.toNat, by have := mem_ixs.mp hx; omega, by have := mem_ixs.mp hx; omega, by have := mem_ixs.mp hx; rw [co_ixs (by omega)]; omega, count_ixs hx⟩, fun v hv => .inl (List.count_eq_zero.mpr hv), fun _ => ixs_len' N, Nat.le_of_eq (ixs_len' N)⟩
theorem PrI.step {lone : Bool} {N i : Nat} {l ls : List Int} {one : Int} (h : PrI lone N i l (one :: ls)) {k p : Nat} (hk : k < ls.length) (hp : p < N) (ep : co ls k = p) : PrI lone N (i + 1) (l.set p one) (ls.eraseIdx k) := by
  obtain ⟨n1, n2⟩ := List.nodup_cons.mp h.nd
  have mx := co_mem hk
  obtain ⟨p', e1, e2, e3, e4⟩ := h.free (co ls k) (List.mem_cons_of_mem _ mx)
  obtain rfl : p' = p := by omega
  have hl := h.len
  have nx : one ≠ co ls k := fun z => n1 (z ▸ mx)
  obtain ⟨po, o1, o2, o3, o4⟩ := h.free one List.mem_cons_self
  have g : l[p']'(by omega) = co ls k := by
    have := co_get (l := l) (k := p') (by omega)
    rw [List.getElem?_eq_getElem (by omega)] at this
    rw [Option.some.inj this, e3]
  have cs : ∀ b, (l.set p' one).count b = l.count b - (if co ls k = b then 1 else 0) + (if one = b then 1 else 0) := by
    intro b
    rw [List.count_set (by omega), g]
    simp only [beq_iff_eq]
  refine ⟨by rw [List.length_set]; exact hl, n2.sublist (List.eraseIdx_sublist _ _), fun y hy => ?_, fun v hv => ?_, fun e => ?_, by have := h.cap; rw [List.length_cons] at this; rw [List.length_eraseIdx_of_lt hk]; omega⟩
  · obtain ⟨h1, h2⟩ := nodup_erase n2 hk hy
    obtain ⟨q, f1, f2, f3, f4⟩ := h.free y (List.mem_cons_of_mem _ h1)
    refine ⟨q, f1, f2, ?_, ?_⟩
    · rw [co_set q (by omega), if_neg (by omega)]
      exact f3
    · rw [cs, if_neg (Ne.symm h2), if_neg (show ¬ one = y from fun z => n1 (z ▸ h1))]
      exact f4
  · rw [cs]
    by_cases c1 : one = v
    · rw [if_pos c1, if_neg fun z => nx (c1.trans z.symm), ← c1, o4]
      exact .inr (.inl rfl)
    · rw [if_neg c1]
      by_cases c2 : co ls k = v
      · rw [if_pos c2, ← c2, e4]
        exact .inl rfl
      · rw [if_neg c2]
        exact h.rest v fun z => by
          rcases List.mem_cons.mp z with z | z
          · exact c1 z.symm
          · exact hv (mem_erase_ne hk z (Ne.symm c2))
  · have := h.many e
    rw [List.length_cons] at this
    rw [List.length_eraseIdx_of_lt hk]
    omega
theorem PrI.skip {N i : Nat} {l ls : List Int} {one : Int} (h : PrI true N i l (one :: ls)) : PrI true N (i + 1) l ls := by
  obtain ⟨n1, n2⟩ := List.nodup_cons.mp h.nd
  refine ⟨h.len, n2, fun y hy => h.free y (List.mem_cons_of_mem _ hy), fun v hv => ?_, (fun e => nomatch e), by have := h.cap; rw [List.length_cons] at this; omega⟩
  by_cases c : v = one
  · obtain ⟨_, _, _, _, e⟩ := h.free one List.mem_cons_self
    exact .inr (.inr ⟨rfl, c ▸ e⟩)
  · exact h.rest v fun z => (List.mem_cons.mp z).elim c hv
theorem PrI.two {N i : Nat} {l ls : List Int} (h : PrI false N i l ls) (e : ls.length < 2 ∨ i = N) (hN : N % 2 = 0) (v : Int) : l.count v = 0 ∨ l.count v = 2 := by
  have m := h.many rfl
  have e0 : ls = [] := List.length_eq_zero_iff.mp (by omega)
  rcases h.rest v (by rw [e0]; exact fun z => nomatch z) with h | h | h
  · exact .inl h
  · exact .inr h
  · exact nomatch h.1
theorem PrI.most {lone : Bool} {N i : Nat} {l ls : List Int} (h : PrI lone N i l ls) (v : Int) : l.count v ≤ 2 := by
  by_cases c : v ∈ ls
  · obtain ⟨_, _, _, _, e⟩ := h.free v c
    omega
  · rcases h.rest v c with h | h | h <;> omega
/-- two marks joined -/
def jn (l : List Int) (x y : Nat) : List Int := l.map fun c => if c = (if co l y > co l x then co l y else co l x) then (if co l y < co l x then co l y else co l x) else c
theorem jn_len (l : List Int) (x y : Nat) : (jn l x y).length = l.length := List.length_map ..
theorem count_merge (lo hi v : Int) : ∀ l : List Int, (l.map fun c => if c = hi then lo else c).count v = if v = lo then l.count lo + (if hi = lo then 0 else l.count hi) else if v = hi then 0 else l.count v
  | [] => by simp
  | a :: l => by
    rw [List.map_cons, List.count_cons, count_merge lo hi v l, List.count_cons, List.count_cons, List.count_cons]
    simp only [beq_iff_eq]
    by_cases c1 : v = lo
    · subst c1
      rw [if_pos rfl, if_pos rfl]
      by_cases c2 : hi = v
      · subst c2
        rw [if_pos rfl, if_pos rfl]
        by_cases c3 : a = hi <;> simp [c3]
      · rw [if_neg c2, if_neg c2]
        by_cases c3 : a = hi
        · subst c3
          rw [if_pos rfl, if_pos rfl, if_neg c2]
          simp
          omega
        · rw [if_neg c3]
          by_cases c4 : a = v
          · simp [c4]
            rw [if_neg (fun z => c3 (c4.trans z))]
            omega
          · simp [c4, c3]
    · rw [if_neg c1, if_neg c1]
      by_cases c2 : v = hi
      · subst c2
        rw [if_pos rfl, if_pos rfl]
        by_cases c3 : a = v
        · rw [if_pos c3, if_neg (Ne.symm c1)]
        · rw [if_neg c3, if_neg c3]
      · rw [if_neg c2, if_neg c2]
        by_cases c3 : a = hi
        · rw [if_pos c3, if_neg (Ne.symm c1), if_neg]
          intro z
          exact c2 (z.symm.trans c3)
        · rw [if_neg c3]
theorem jn_even {l : List Int} {x y : Nat} (h : ∀ v, l.count v % 2 = 0) (v : Int) : (jn l x y).count v % 2 = 0 := by
  unfold jn
  rw [count_merge]
  have h1 := h (if co l y < co l x then co l y else co l x)
  have h2 := h (if co l y > co l x then co l y else co l x)
  have h3 := h v
  revert h1 h2
  generalize (if co l y < co l x then co l y else co l x) = lo
  generalize (if co l y > co l x then co l y else co l x) = hi
  intro h1 h2
  by_cases c1 : v = lo
  · rw [if_pos c1]
    by_cases c2 : hi = lo
    · rw [if_pos c2]
      omega
    · rw [if_neg c2]
      omega
  · rw [if_neg c1]
    by_cases c2 : v = hi
    · rw [if_pos c2]
    · rw [if_neg c2]
      exact h3

/-! ### tuples of tuples, put together and cut -/
theorem paired_drop {α β : Type} {F : α → β → Prop} : ∀ {l : List α} {m : List β} (i : Nat), Paired F l m → Paired F (l.drop i) (m.drop i)
  | _, _, 0, h => h
  | _, _, _ + 1, .nil => .nil
  | _, _, i + 1, .cons _ h => paired_drop i h
theorem paired_take {α β : Type} {F : α → β → Prop} : ∀ {l : List α} {m : List β} (i : Nat), Paired F l m → Paired F (l.take i) (m.take i)
  | _, _, 0, _ => .nil
  | _, _, _ + 1, .nil => .nil
  | _, _, i + 1, .cons a h => .cons a (paired_take i h)
theorem paired_app {α β : Type} {F : α → β → Prop} : ∀ {l l' : List α} {m m' : List β}, Paired F l m → Paired F l' m' → Paired F (l ++ l') (m ++ m')
  | _, _, _, _, .nil, h => h
  | _, _, _, _, .cons a h, h' => .cons a (paired_app h h')
theorem paired_rev {α β : Type} {F : α → β → Prop} : ∀ {l : List α} {m : List β}, Paired F l m → Paired F l.reverse m.reverse
  | _, _, .nil => .nil
  | _, _, .cons a h => by
    rw [List.reverse_cons, List.reverse_cons]
    exact paired_app (paired_rev h) (.cons a .nil)
def cutL {α : Type} (xs : List α) (lo hi : Option Int) : List α := (xs.drop (HT.sIx xs.length 0 lo)).take (HT.sIx xs.length xs.length hi - HT.sIx xs.length 0 lo)
theorem sIx_all (n : Nat) (h : HT.sIx n 0 none = 0 ∧ HT.sIx n n none = n) : True := trivial
def rCatTT : R2 := fun x y H Q => ∃ bs cs, TT H x bs ∧ TT H y cs ∧ bs.length + cs.length ≤ sizeLine ∧ ∀ v H', Same H H' → TT H' v (bs ++ cs) → Q v H'
theorem op_catTT {X : Cx} : OpR X (binaryOp .Add) rCatTT := by
  intro pins s σ H x y v u Q I rx ry h
  obtain ⟨bs, cs, ⟨a, ts, rfl, ha, pa⟩, ⟨b, us, rfl, hb, pb⟩, hz, q⟩ := h
  have la : ts.length = bs.length := pa.length
  have lb : us.length = cs.length := pb.length
  refine op_catA pins s σ H _ _ v u Q I rx ry ⟨a, b, ts, us, rfl, rfl, .inl (.inl ha), .inl (.inl hb), by omega, fun e => ?_, fun _ e => ?_, fun _ _ p np => ?_⟩
  · refine q _ H (Same.refl _) ⟨b, us, rfl, hb, ?_⟩
    subst e
    cases pa
    exact pb
  · refine q _ H (Same.refl _) ⟨a, ts, rfl, ha, ?_⟩
    subst e
    cases pb
    rw [List.append_nil]
    exact pa
  · have s1 := same_upd (o := .tup (ts ++ us)) np
    exact q _ _ s1 ⟨p, _, rfl, upd_same, paired_app (Paired.mapP pa fun _ _ h => h.same s1) (Paired.mapP pb fun _ _ h => h.same s1)⟩
def rSlTT : V → Option Int → Option Int → Hp → VK → Prop := fun x lo hi H Q => ∃ bs, TT H x bs ∧ ∀ v H', Same H H' → TT H' v (cutL bs lo hi) → Q v H'
theorem sl_TT {X : Cx} : SlR X rSlTT := by
  intro pins s σ H x v vl vu lo hi sl Q I rx hs pl pu h
  obtain ⟨bs, ⟨a, ts, rfl, ha, pa⟩, q⟩ := h
  have la : ts.length = bs.length := pa.length
  refine sl_tupA pins s σ H _ v vl vu lo hi sl Q I rx hs pl pu ⟨a, ts, rfl, .inl (.inl ha), fun e => ?_, fun _ p np => ?_⟩
  · refine q _ H (Same.refl _) ⟨a, ts, rfl, ha, ?_⟩
    unfold cutL
    rw [← la, e.1, e.2, la]
    show Paired (TP H) ts ((bs.drop 0).take (bs.length - 0))
    rw [List.drop_zero, Nat.sub_zero, List.take_length]
    exact pa
  · have s1 := same_upd (o := .tup (cutV ts lo hi)) np
    refine q _ _ s1 ⟨p, _, rfl, upd_same, ?_⟩
    unfold cutL cutV
    rw [← la]
    exact paired_take _ (paired_drop _ (Paired.mapP pa fun _ _ h => h.same s1))
theorem flat_le {c : Nat} : ∀ {bs : List (List Int)}, (∀ b ∈ bs, b.length ≤ c) → bs.flatten.length ≤ c * bs.length
  | [], _ => Nat.zero_le _
  | b :: bs, h => by
    rw [List.flatten_cons, List.length_append, List.length_cons, Nat.mul_succ]
    have := flat_le (bs := bs) fun b hb => h b (List.mem_cons_of_mem _ hb)
    have := h b List.mem_cons_self
    omega
theorem len_flat : ∀ {bs : List (List Int)}, (∀ b ∈ bs, b ≠ []) → bs.length ≤ bs.flatten.length
  | [], _ => Nat.le_refl _
  | b :: bs, h => by
    rw [List.flatten_cons, List.length_append, List.length_cons]
    have := len_flat (bs := bs) fun b hb => h b (List.mem_cons_of_mem _ hb)
    have := List.length_pos_iff.mpr (h b List.mem_cons_self)
    omega
/-- few blocks, each of few points -/
def Few (c : Nat) (bs : List (List Int)) : Prop := bs.length ≤ c ∧ ∀ b ∈ bs, b.length ≤ 13
theorem Few.ok {n m : Int} {bs : List (List Int)} (h : Few 40 bs) (hn : n.natAbs ≤ 1000) (hm : m.natAbs ≤ 1000) : DgOk n m bs := by
  have := flat_le h.2
  exact ⟨hn, hm, by have := h.1; omega, by have := h.1; omega⟩
theorem Few.cut {c : Nat} {bs : List (List Int)} (h : Few c bs) (i j : Nat) : Few c ((bs.drop i).take j) :=
  ⟨by have := h.1; rw [List.length_take, List.length_drop]; omega, fun b hb => h.2 b (List.mem_of_mem_drop (List.mem_of_mem_take hb))⟩
theorem Few.app {c d : Nat} {bs cs : List (List Int)} (h : Few c bs) (g : Few d cs) : Few (c + d) (bs ++ cs) :=
  ⟨by have := h.1; have := g.1; rw [List.length_append]; omega, fun b hb => (List.mem_append.mp hb).elim (h.2 b) (g.2 b)⟩
theorem Few.more {c d : Nat} {bs : List (List Int)} (h : Few c bs) (hd : c ≤ d) : Few d bs := ⟨Nat.le_trans h.1 hd, h.2⟩
theorem IsDg.few {n m : Int} {bs : List (List Int)} (h : IsDg n m bs) : Few 12 bs := by
  have hs := siz_iff.mp h.sz
  have e := h.pm.length_eq
  rw [ixs_len] at e
  have l1 := len_flat h.ne
  refine ⟨by omega, fun b hb => ?_⟩
  have := mem_len hb
  omega

theorem TP.butL {H H' : Hp} {r : Addr} {ys : List V} {v : V} {z : List Int} (hr : H r = some (.lst ys)) (s : SameBut r H H') (h : TP H v z) : TP H' v z := by
  obtain ⟨a, rfl, h⟩ := h
  exact ⟨a, rfl, s _ _ (ne_of h hr (fun z => nomatch z)) h⟩
theorem TT.butL {H H' : Hp} {r : Addr} {ys : List V} {v : V} {bs : List (List Int)} (hr : H r = some (.lst ys)) (s : SameBut r H H') (h : TT H v bs) : TT H' v bs := by
  obtain ⟨a, ts, rfl, h, pr⟩ := h
  exact ⟨a, ts, rfl, s _ _ (ne_of h hr (fun z => nomatch z)) h, Paired.mapP pr fun _ _ h => h.butL hr s⟩
theorem DGv.butL {H H' : Hp} {r : Addr} {ys : List V} {v : V} {n m : Int} {bs : List (List Int)} (hr : H r = some (.lst ys)) (s : SameBut r H H') (h : DGv H v n m bs) : DGv H' v n m bs := by
  obtain ⟨t, vb, rfl, h, tt⟩ := h
  exact ⟨t, vb, rfl, s _ _ (ne_of h hr (fun z => nomatch z)) h, tt.butL hr s⟩
/-- a diagram with these marks -/
def DgAt (H : Hp) (u : V) (n m : Int) (l : List Int) : Prop := DGv H u n m (blocksOf l) ∧ siz n m = true ∧ (l.length : Int) = n + m
theorem DgAt.dg {H : Hp} {u : V} {n m : Int} {l : List Int} (h : DgAt H u n m l) : IsDg n m (blocksOf l) := isDg_blocks h.2.1 h.2.2
theorem DgAt.ok {H : Hp} {u : V} {n m : Int} {l : List Int} (h : DgAt H u n m l) : DgOk n m (blocksOf l) := by
  have := siz_iff.mp h.2.1
  exact (h.dg.few.more (by decide)).ok (by omega) (by omega)
theorem DgAt.same {H H' : Hp} {u : V} {n m : Int} {l : List Int} (s : Same H H') (h : DgAt H u n m l) : DgAt H' u n m l := ⟨h.1.same s, h.2⟩
theorem DgAt.butL {H H' : Hp} {r : Addr} {ys : List V} {u : V} {n m : Int} {l : List Int} (hr : H r = some (.lst ys)) (s : SameBut r H H') (h : DgAt H u n m l) : DgAt H' u n m l := ⟨h.1.butL hr s, h.2⟩
theorem DgAt.ix {H : Hp} {t : Addr} {n m : Int} {l : List Int} (h : DgAt H (.ref t) n m l) : ∃ vb, H t = some (.tup [.int n, .int m, vb]) := by
  obtain ⟨⟨t', vb, e, h, _⟩, _⟩ := h
  obtain rfl := V.ref.inj e
  exact ⟨vb, h⟩
/-- the answer of a comparison is not computed -/
theorem bl_ex {b : Bool} {R : Bool → Prop} (h : R b) : ∃ k, V.bl b = V.bl k ∧ R k := ⟨b, rfl, h⟩
theorem smL_dL {z : List Int} {B : Nat} (h : ∀ x ∈ z, x.natAbs < 2 ^ 200) (hB : z.length ≤ B) : SmL 1 (1923 * B + 3) (dL z) := by
  have e := smL_list (ds := z.map PyData.int) (n := 0) (k := 1921) fun D hD => by
    obtain ⟨a, ha, rfl⟩ := List.mem_map.mp hD
    exact smL_int (h a ha)
  rw [List.length_map] at e
  exact e.more (by show 1923 * z.length + 3 ≤ 1923 * B + 3; omega)
theorem labL_mem {bs : List (List Int)} {N : Nat} : ∀ x ∈ labL bs N, 0 ≤ x ∧ x ≤ (bs.length : Int) := by
  have run : ∀ (bs : List (List Int)) (k : Nat) (ms : List Int) (B : Int), ((k + bs.length : Nat) : Int) ≤ B → (∀ x ∈ ms, 0 ≤ x ∧ x ≤ B) → ∀ x ∈ labFrom bs k ms, 0 ≤ x ∧ x ≤ B := by
    intro bs
    induction bs with
    | nil => exact fun _ _ _ _ h => h
    | cons b bs ih =>
      intro k ms B hk h
      rw [List.length_cons] at hk
      refine ih (k + 1) _ B (by omega) ?_
      clear ih
      induction b generalizing ms with
      | nil => exact h
      | cons p b ih2 =>
        refine ih2 _ fun x hx => ?_
        rcases List.mem_or_eq_of_mem_set hx with hx | rfl
        · exact h x hx
        · omega
  exact run bs 0 _ _ (by omega) fun x hx => by
    have := List.eq_of_mem_replicate hx
    omega
theorem smL_lab {n m : Int} {bs : List (List Int)} (h : IsDg n m bs) : SmL 1 25000 (dL (labL bs (n + m).toNat)) := by
  have hs := siz_iff.mp h.sz
  have f := h.few.1
  refine (smL_dL (B := 12) (fun x hx => ?_) (by rw [labL_len]; omega)).more (by decide)
  have := labL_mem x hx
  have : (12 : Nat) < 2 ^ 200 := by decide
  omega
theorem smL_dg {n m : Int} {bs : List (List Int)} (h : IsDg n m bs) : SmL 3 1000000 (dDG n m bs) := by
  have hs := siz_iff.mp h.sz
  have f := h.few
  have big : (12 : Nat) < 2 ^ 200 := by decide
  have e1 := smL_tuple (n := 1) (k := 25002) (ds := bs.map dT) fun D hD => by
    obtain ⟨b, hb, rfl⟩ := List.mem_map.mp hD
    refine (dT_small (z := b) fun k => ?_).more (by have := f.2 b hb; omega)
    rcases Nat.lt_or_ge k b.length with c | c
    · have := dg_pt h hb (co_mem c)
      omega
    · rw [co_ge c]
      decide
  rw [List.length_map] at e1
  have e1 : SmL 2 310000 (dTT bs) := e1.more (by have := f.1; omega)
  have e2 := smL_tuple (n := 2) (k := 310000) (ds := [.int n, .int m, dTT bs]) fun D hD => by
    have up : ∀ {x : Int}, x.natAbs < 2 ^ 200 → SmL 2 310000 (.int x) := fun hx => by
      obtain ⟨h1, h2, h3, h4⟩ := smL_int hx
      exact ⟨h1, Nat.le_trans h2 (by decide), h3, Nat.le_trans h4 (by decide)⟩
    rcases List.mem_cons.mp hD with rfl | hD
    · exact up (by omega)
    · rcases List.mem_cons.mp hD with rfl | hD
      · exact up (by omega)
      · rw [List.mem_singleton.mp hD]
        exact e1
  exact e2.more (by show (310000 + 2) * 3 + 3 ≤ 1000000; decide)
theorem few_pow {x : Int} (h : 0 ≤ x ∧ x ≤ 1000) : x.natAbs < 2 ^ 64 := by
  have : (1000 : Nat) < 2 ^ 64 := by decide
  omega

/-! ### families -/
def strandB (n : Int) (b : List Int) : Bool := decide (b.length = 2) && decide (co b 0 < n ∧ n ≤ co b 1)
def sizeOk (z : Str) (k : Nat) : Bool := if z = "pairs" then decide (k = 2) else if z = "lonepairs" then decide (k ≤ 2) else if z = "even" then decide (k % 2 = 0) else true
def blockOk (z : Str) (n : Int) (b : List Int) : Bool := if z = "threads" then strandB n b else if z = "loose" then decide (b.length = 1) || strandB n b else sizeOk z b.length
def inFam (z : Str) (n : Int) (bs : List (List Int)) : Bool := bs.all (blockOk z n)
theorem inV_str (z : Str) : ∀ l : List Str, inV (.str z) (l.map V.str) = decide (z ∈ l)
  | [] => rfl
  | x :: l => by
    show (eqV (.str x) (.str z) || inV (.str z) (l.map V.str)) = _
    rw [inV_str z l]
    have e : eqV (.str x) (.str z) = decide (x = z) := by
      by_cases c : x = z <;> simp [eqV, c]
    rw [e]
    by_cases c : x = z
    · rw [decide_eq_true c, decide_eq_true (List.mem_cons.mpr (.inl c.symm))]
      rfl
    · rw [decide_eq_false c, Bool.false_or]
      refine decide_eq_decide.mpr ⟨fun z => List.mem_cons_of_mem _ z, fun z => (List.mem_cons.mp z).resolve_left fun z => c z.symm⟩
theorem dec_int {k : Nat} {c : Nat} : decide (V.int (k : Int) = V.int (c : Int)) = decide (k = c) := decide_eq_decide.mpr ⟨fun h => by have := V.int.inj h; omega, fun h => by rw [h]⟩
section
variable {P : Program} {w : World} {K : PySem.W.Frag} {mg : Str → Option Value} {base : Heap}
def spCheckFamily (CF : Addr) : Sp := fun vs H Q E => ∃ z : Str, vs = [.str z] ∧ (z ∈ fams → Q .non H) ∧ (z ∉ fams → E (.ref CF) none H)
theorem ok_check_family {f CF aF : Addr} {fd : FuncData} (F : Fun K "check_family" "check_family" s_check_family f fd) (T : ErrC K mg "NotFamily" CF) (m_FAMILIES : mg "FAMILIES" = some (.ref aF)) (tF : ∀ H, SqT K H aF (fams.map V.str)) :
    FnOk P w K mg base (L2N.CX P w) 1 f fd ["family"] (spCheckFamily CF) := by
  obtain ⟨gc_NotFamily, x_NotFamily, kc_NotFamily, bc_NotFamily, tc_NotFamily⟩ := T
  have r_FAMILIES : RelV (.ref aF) (.ref aF) := rfl
  refine F.okXN sc_check_family (fun vs H Q E h => ?_) (fun cdv A outer s H vs Q E hr h => ?_)
  · obtain ⟨z, rfl, _⟩ := h
    rfl
  · obtain ⟨z, rfl, q1, q2⟩ := h
    refine ⟨_, (pss_one (ps_if (pt_cmpR op_notIn_seq (pv 0) (pe_glob rfl m_FAMILIES r_FAMILIES) (by with_unfolding_all rfl)) (pss_one (L2N.ps_raise rfl (L2N.takes_of rfl rfl rfl rfl) (L2N.pmk_own PySem.F.excBase_ValueError x_NotFamily gc_NotFamily kc_NotFamily (raises_own bc_NotFamily tc_NotFamily) rfl))) pss_nil)), ?_⟩
    refine ⟨_, rfl, aF, _, rfl, .inr (tF _), rfl, rfl, _, rfl, ?_⟩
    rw [show (if true = true then !inV (.str z) (fams.map V.str) else inV (.str z) (fams.map V.str)) = !inV (.str z) (fams.map V.str) from rfl, inV_str]
    by_cases c : z ∈ fams
    · rw [decide_eq_true c]
      exact iteF (q1 c)
    · rw [decide_eq_false c]
      exact iteT (q2 c)
def spIsStrand : Sp := fun vs H Q _ => ∃ (n : Int) (v : V) (b : List Int), vs = [.int n, v] ∧ TP H v b ∧ Q (.bl (strandB n b)) H
theorem ok_is_strand_ {f : Addr} {fd : FuncData} (F : Fun K "_is_strand" "_is_strand" s_is_strand_ f fd) (z_len : mg "len" = none) : FnOk P w K mg base CX0 1 f fd ["n", "block"] spIsStrand := by
  refine F.ok sc_is_strand_ (fun vs H Q E h => ?_) (fun cdv A outer s H vs Q E hr h => ?_)
  · obtain ⟨n, v, b, rfl, _⟩ := h
    rfl
  · obtain ⟨n, v, b, rfl, ⟨t, rfl, ht⟩, q⟩ := h
    refine ⟨_, (pss_one (ps_ret (pe_and (pe_cmpR op_eq (pe_callB call_len_seq (by rfl) z_len boot_len (pa_cons (pv 1) pa_nil)) pe_int (nomark _)) (pe_one (pe_chain op_lt op_le (pe_ix ix_tup (pv 1) pe_int (fun _ _ => rfl)) (pv 0) (pe_ix ix_tup (pv 1) pe_int (fun _ _ => rfl))))))), ?_⟩
    unfold strandB at q
    refine ⟨_, rfl, t, _, rfl, .inr (.inl (.inl ht)), rfl, _, rfl, ?_⟩
    rw [List.length_map, show (2 : Int) = ((2 : Nat) : Int) from rfl, dec_int]
    by_cases c : b.length = 2
    · rw [decide_eq_true c] at q ⊢
      rw [Bool.true_and] at q
      refine iteT ⟨_, rfl, t, _, 0, .int (co b 0), rfl, rfl, .inl (.inl ht), (at_co (k := 0) (by omega)), _, rfl, _, _, rfl, rfl, _, rfl, ?_⟩
      by_cases c1 : co b 0 < n
      · rw [decide_eq_true c1]
        refine iteT ⟨_, rfl, t, _, 1, .int (co b 1), rfl, rfl, .inl (.inl ht), (at_co (k := 1) (by omega)), _, _, rfl, rfl, ?_⟩
        dsimp only
        rw [show decide (n ≤ co b 1) = decide (co b 0 < n ∧ n ≤ co b 1) from decide_eq_decide.mpr ⟨fun h => ⟨c1, h⟩, fun h => h.2⟩]
        exact q
      · rw [decide_eq_false c1]
        refine iteF ?_
        rw [decide_eq_false fun h => c1 h.1] at q
        exact q
    · rw [decide_eq_false c] at q ⊢
      exact iteF q
def spIsBlockSize : Sp := fun vs H Q _ => ∃ (z : Str) (k : Nat), vs = [.str z, .int k] ∧ Q (.bl (sizeOk z k)) H
theorem ok_is_block_size_ {f : Addr} {fd : FuncData} (F : Fun K "_is_block_size" "_is_block_size" s_is_block_size_ f fd) : FnOk P w K mg base CX0 1 f fd ["family", "size"] spIsBlockSize := by
  refine F.ok sc_is_block_size_ (fun vs H Q E h => ?_) (fun cdv A outer s H vs Q E hr h => ?_)
  · obtain ⟨z, k, rfl, _⟩ := h
    rfl
  · obtain ⟨z, k, rfl, q⟩ := h
    refine ⟨_, (pss_cons (ps_if (pt_cmpR op_eq (pv 0) pe_str (nomark _)) (pss_one (ps_ret (pe_cmpR op_eq (pv 1) pe_int (nomark _)))) pss_nil)
  (pss_cons (ps_if (pt_cmpR op_eq (pv 0) pe_str (nomark _)) (pss_one (ps_ret (pe_cmpR op_le (pv 1) pe_int (nomark _)))) pss_nil)
  (pss_cons (ps_if (pt_cmpR op_eq (pv 0) pe_str (nomark _)) (pss_one (ps_ret (pe_cmpR op_eq (pe_op op_mod (pv 1) pe_int) pe_int (nomark _)))) pss_nil)
  (pss_one (ps_ret pe_bl))))), ?_⟩
    unfold sizeOk at q
    refine ⟨_, rfl, rfl, _, rfl, ite2 (fun e => ?_) (fun e => ?_)⟩
    · rw [if_pos (V.str.inj (of_decide_eq_true e))] at q
      refine ⟨_, rfl, rfl, ?_⟩
      rw [show (2 : Int) = ((2 : Nat) : Int) from rfl, dec_int]
      exact q
    rw [if_neg fun z => e (decide_eq_true (congrArg V.str z))] at q
    refine ⟨_, rfl, rfl, _, rfl, ite2 (fun e => ?_) (fun e => ?_)⟩
    · rw [if_pos (V.str.inj (of_decide_eq_true e))] at q
      refine ⟨_, rfl, _, _, rfl, rfl, ?_⟩
      dsimp only
      rw [show decide ((k : Int) ≤ 2) = decide (k ≤ 2) from decide_eq_decide.mpr ⟨fun h => by omega, fun h => by omega⟩]
      exact q
    rw [if_neg fun z => e (decide_eq_true (congrArg V.str z))] at q
    refine ⟨_, rfl, rfl, _, rfl, ite2 (fun e => ?_) (fun e => ?_)⟩
    · rw [if_pos (V.str.inj (of_decide_eq_true e))] at q
      refine ⟨_, rfl, _, _, rfl, rfl, (show (0 : Int) < 2 by decide), rfl, ?_⟩
      have h : decide (V.int ((k : Int) % 2) = V.int 0) = decide (k % 2 = 0) := decide_eq_decide.mpr ⟨fun h => by have := V.int.inj h; omega, fun h => congrArg V.int (by omega)⟩
      dsimp only
      rw [h]
      exact q
    rw [if_neg fun z => e (decide_eq_true (congrArg V.str z))] at q
    exact q
def spIsBlockOf : Sp := fun vs H Q _ => ∃ (z : Str) (n : Int) (v : V) (b : List Int), vs = [.str z, .int n, v] ∧ TP H v b ∧ Q (.bl (blockOk z n b)) H
theorem ok_is_block_of_ {f a_is_strand_ a_is_block_size_ : Addr} {fd fd_is_strand_ fd_is_block_size_ : FuncData} (F : Fun K "_is_block_of" "_is_block_of" s_is_block_of_ f fd) (z_len : mg "len" = none)
    (G_is_strand_ : FnOk P w K mg base CX0 1 a_is_strand_ fd_is_strand_ ["n", "block"] spIsStrand) (g_is_strand_ : mg "_is_strand" = some (.ref a_is_strand_)) (k_is_strand_ : PySem.W.keepIn K (.ref a_is_strand_) = true) (b_is_strand_ : Binds K fd_is_strand_ ["n", "block"] [])
    (G_is_block_size_ : FnOk P w K mg base CX0 1 a_is_block_size_ fd_is_block_size_ ["family", "size"] spIsBlockSize) (g_is_block_size_ : mg "_is_block_size" = some (.ref a_is_block_size_)) (k_is_block_size_ : PySem.W.keepIn K (.ref a_is_block_size_) = true) (b_is_block_size_ : Binds K fd_is_block_size_ ["family", "size"] []) :
    FnOk P w K mg base CX0 2 f fd ["family", "n", "block"] spIsBlockOf := by
  refine F.ok sc_is_block_of_ (fun vs H Q E h => ?_) (fun cdv A outer s H vs Q E hr h => ?_)
  · obtain ⟨z, n, v, b, rfl, _⟩ := h
    rfl
  · obtain ⟨z, n, v, b, rfl, ⟨t, rfl, ht⟩, q⟩ := h
    refine ⟨_, (pss_cons (ps_if (pt_cmpR op_eq (pv 0) pe_str (nomark _)) (pss_one (ps_ret (pe_call G_is_strand_ (hr.mono (by decide)) rfl g_is_strand_ k_is_strand_ b_is_strand_ .nil pass0 (pa_cons (pv 1) (pa_cons (pv 2) pa_nil))))) pss_nil)
  (pss_cons (ps_if (pt_cmpR op_eq (pv 0) pe_str (nomark _)) (pss_one (ps_ret (pe_or (pe_cmpR op_eq (pe_callB call_len_seq (by rfl) z_len boot_len (pa_cons (pv 2) pa_nil)) pe_int (nomark _)) (pe_one (pe_call G_is_strand_ (hr.mono (by decide)) rfl g_is_strand_ k_is_strand_ b_is_strand_ .nil pass0 (pa_cons (pv 1) (pa_cons (pv 2) pa_nil))))))) pss_nil)
  (pss_one (ps_ret (pe_call G_is_block_size_ (hr.mono (by decide)) rfl g_is_block_size_ k_is_block_size_ b_is_block_size_ .nil pass0 (pa_cons (pv 0) (pa_cons (pe_callB call_len_seq (by rfl) z_len boot_len (pa_cons (pv 2) pa_nil)) pa_nil))))))), ?_⟩
    unfold blockOk at q
    refine ⟨_, rfl, rfl, _, rfl, ite2 (fun e => ?_) (fun e => ?_)⟩
    · rw [if_pos (V.str.inj (of_decide_eq_true e))] at q
      exact ⟨_, rfl, _, rfl, n, .ref t, b, rfl, ⟨t, rfl, ht⟩, q⟩
    rw [if_neg fun z => e (decide_eq_true (congrArg V.str z))] at q
    refine ⟨_, rfl, rfl, _, rfl, ite2 (fun e => ?_) (fun e => ?_)⟩
    · rw [if_pos (V.str.inj (of_decide_eq_true e))] at q
      refine ⟨_, rfl, t, _, rfl, .inr (.inl (.inl ht)), rfl, _, rfl, ?_⟩
      rw [List.length_map, show (1 : Int) = ((1 : Nat) : Int) from rfl, dec_int]
      by_cases c : b.length = 1
      · rw [decide_eq_true c] at q ⊢
        exact iteT q
      · rw [decide_eq_false c] at q ⊢
        rw [Bool.false_or] at q
        exact iteF ⟨_, rfl, _, rfl, n, .ref t, b, rfl, ⟨t, rfl, ht⟩, q⟩
    rw [if_neg fun z => e (decide_eq_true (congrArg V.str z))] at q
    refine ⟨_, rfl, _, rfl, t, _, rfl, .inr (.inl (.inl ht)), z, b.length, by rw [List.length_map]; rfl, q⟩
def spIsIn (CF CD : Addr) : Sp := fun vs H Q E => ∃ (z : Str) (v : V) (n m : Int) (bs : List (List Int)), vs = [.str z, v] ∧ DGv H v n m bs ∧ DgOk n m bs ∧ (z ∉ fams → E (.ref CF) none H) ∧ (z ∈ fams → ¬ IsDg n m bs → ∀ H', Same H H' → E (.ref CD) none H') ∧
  (z ∈ fams → IsDg n m bs → ∀ H', Same H H' → Q (.bl (inFam z n bs)) H')
theorem ok_is_in {f CF CD a_check_family a_check_diagram a_is_block_of_ : Addr} {fd fd_check_family fd_check_diagram fd_is_block_of_ : FuncData} (F : Fun K "is_in" "is_in" s_is_in f fd) (z_all : mg "all" = none)
    (G_check_family : FnOk P w K mg base (L2N.CX P w) 1 a_check_family fd_check_family ["family"] (spCheckFamily CF)) (g_check_family : mg "check_family" = some (.ref a_check_family)) (k_check_family : PySem.W.keepIn K (.ref a_check_family) = true) (b_check_family : Binds K fd_check_family ["family"] [])
    (G_check_diagram : FnOk P w K mg base (L2N.CX P w) 3 a_check_diagram fd_check_diagram ["diagram"] (spCheckDiagram CD)) (g_check_diagram : mg "check_diagram" = some (.ref a_check_diagram)) (k_check_diagram : PySem.W.keepIn K (.ref a_check_diagram) = true) (b_check_diagram : Binds K fd_check_diagram ["diagram"] [])
    (G_is_block_of_ : FnOk P w K mg base CX0 2 a_is_block_of_ fd_is_block_of_ ["family", "n", "block"] spIsBlockOf) (g_is_block_of_ : mg "_is_block_of" = some (.ref a_is_block_of_)) (k_is_block_of_ : PySem.W.keepIn K (.ref a_is_block_of_) = true) (b_is_block_of_ : Binds K fd_is_block_of_ ["family", "n", "block"] []) :
    FnOk P w K mg base (L2N.CX P w) 4 f fd ["family", "diagram"] (spIsIn CF CD) := by
  refine F.okXN sc_is_in (fun vs H Q E h => ?_) (fun cdv A outer s H vs Q E hr h => ?_)
  · obtain ⟨z, v, n, m, bs, rfl, _⟩ := h
    rfl
  · obtain ⟨z, v, n, m, bs, rfl, hv, hb, q1, q2, q3⟩ := h
    refine ⟨_, (pss_cons (ps_expr (pe_call G_check_family (hr.mono (by decide)) rfl g_check_family k_check_family b_check_family .nil (L2N.passes_call (L2N.takes_of rfl rfl rfl rfl) (fun _ _ _ _ h => h)) (pa_cons (pv 0) pa_nil)))
  (pss_cons (ps_expr (pe_call G_check_diagram (hr.mono (by decide)) rfl g_check_diagram k_check_diagram b_check_diagram .nil (L2N.passes_call (L2N.takes_of rfl rfl rfl rfl) (fun _ _ _ _ h => h)) (pa_cons (pv 1) pa_nil)))
  (pss_cons (ps_asg (pv 1) (pg_tup rfl (pgs_cons (pg_name (i := 2) sc_is_in.nd rfl (.inr rfl)) (pgs_cons (pg_name (i := 3) sc_is_in.nd rfl (.inl rfl)) (pgs_cons (pg_name (i := 4) sc_is_in.nd rfl (.inl rfl)) pgs_nil)))))
  (pss_one (ps_ret (pe_callB (cr_all rfl) (by rfl) z_all boot_all (pa_cons (pe_lc (own := [("block", 5)]) rfl sc_is_in.nd (pi_tup (pv 4)) (blkOk_by (N := ["family", "diagram", "n", "_", "blocks", "block"]) (sc := defScope s_is_in) (by first | decide +kernel | rfl)) (fun _ _ _ _ _ => (pg_name (i := 5) sc_is_in.nd rfl (.inl rfl))) (fun _ _ _ _ _ => pts_nil) (fun _ _ _ _ _ => (pe_call G_is_block_of_ (hr.mono (by decide)) rfl g_is_block_of_ k_is_block_of_ b_is_block_of_ .nil pass0 (pa_cons (pv 0) (pa_cons (pv 2) (pa_cons (pv 5) pa_nil)))))) pa_nil))))))), ?_⟩
    have szl : 20000 ≤ sizeLine := by decide
    refine ⟨_, rfl, z, rfl, fun mz => ?_, fun nz => q1 nz⟩
    refine ⟨_, rfl, v, n, m, bs, rfl, hv, hb, fun H1 s1 => ⟨fun dg => ?_, fun nd => q2 mz nd H1 s1⟩⟩
    obtain ⟨t, vb, rfl, ht, tb, ts, rfl, htb, pr⟩ := DGv.same s1 hv
    have lts : ts.length = bs.length := pr.length
    have few := dg.few
    refine ⟨_, rfl, t, _, rfl, .inl (.inl ht), rfl, _, _, rfl, _, _, rfl, _, _, rfl, rfl, ?_⟩
    refine ⟨_, rfl, tb, rfl, ⟨_, .inl (.inl htb)⟩, fun D nD => ?_⟩
    have keep : ∀ {H' : Hp} {a : Addr} {o : HO}, SameBut D H1 H' → H1 a = some o → H' a = some o := fun sb e => sb _ _ (ne_of_none e nD) e
    refine lc_it walk_tup (fun i H' => SameBut D H1 H' ∧ H' D = some (.lst (((bs.take i).map (blockOk z n)).map V.bl))) ⟨SameBut.upd, upd_same⟩ (fun i H' _ hP => .inl (.inl (keep hP.1 htb))) (fun i y H5 H6 hi hP hy => ?_) (fun H5 hP => ?_)
    · obtain ⟨sb, hD⟩ := hP
      obtain ⟨e0, hy⟩ := hy
      subst e0
      obtain ⟨b, eb, a, rfl, ha⟩ := tt_get pr hy
      refine ⟨rfl, ?_⟩
      refine ⟨_, rfl, _, rfl, _, rfl, z, n, .ref a, b, rfl, ⟨a, rfl, keep sb ha⟩, _, hD, by rw [List.length_map, List.length_map, List.length_take]; have := few.1; omega, sb.trans SameBut.upd, ?_⟩
      rw [upd_same, List.take_succ, eb, List.map_append, List.map_append]
      rfl
    obtain ⟨sb, hD⟩ := hP
    rw [lts, List.take_length] at hD
    have s5 : Same H1 H5 := fun b o e => keep sb e
    refine ⟨D, _, rfl, .inl (.inl hD), ?_⟩
    rw [show (bs.map (blockOk z n)).all id = inFam z n bs by unfold inFam; rw [List.all_map]; rfl]
    exact q3 mz dg H5 (Same.trans s1 s5)
end

/-! ### counted, from the sizes of blocks -/
open PySem.W (mcComb)
def vz (z : Str) : Nat := if z = "pairs" then 0 else if z = "lonepairs" then 1 else if z = "even" then 2 else 3
def sv (v k : Nat) : Bool := if v = 0 then decide (k = 2) else if v = 1 then decide (k ≤ 2) else if v = 2 then decide (k % 2 = 0) else true
theorem sizeOk_v (z : Str) (k : Nat) : sizeOk z k = sv (vz z) k := by
  unfold sizeOk vz sv
  repeat' split
  all_goals first | rfl | omega
theorem vz_lt (z : Str) : vz z < 4 := by
  unfold vz
  repeat' split
  all_goals omega
def lastT (z : Nat) (cs : List Int) (k j : Nat) : List Int := if sv z (j + 1) = true then [mcComb (k : Int) (j : Int) * co cs (k - j)] else []
def lastL (z : Nat) (cs : List Int) (k : Nat) : Nat → List Int
  | 0 => []
  | j + 1 => lastL z cs k j ++ lastT z cs k j
def sumZ (l : List Int) : Int := l.sum
def cbl (z : Nat) : Nat → List Int
  | 0 => [1]
  | k + 1 => cbl z k ++ [sumZ (lastL z (cbl z k) k (k + 1))]
theorem cbl_len (z : Nat) : ∀ k, (cbl z k).length = k + 1
  | 0 => rfl
  | k + 1 => by
    show (cbl z k ++ [_]).length = _
    rw [List.length_append, cbl_len z k]
    rfl
theorem lastL_len (z : Nat) (cs : List Int) (k : Nat) : ∀ j, (lastL z cs k j).length ≤ j
  | 0 => Nat.le_refl _
  | j + 1 => by
    show (lastL z cs k j ++ lastT z cs k j).length ≤ _
    have := lastL_len z cs k j
    have : (lastT z cs k j).length ≤ 1 := by
      unfold lastT
      split
      · exact Nat.le_refl _
      · exact Nat.zero_le _
    rw [List.length_append]
    omega
theorem cbl_small : ∀ v, v < 4 → ∀ i, i ≤ 12 → ∀ x ∈ cbl v i, 0 ≤ x ∧ x ≤ 10000000 := by decide +kernel
theorem comb_small : ∀ i : Nat, i ≤ 12 → ∀ j : Nat, j ≤ 12 → 0 ≤ mcComb (i : Int) (j : Int) ∧ mcComb (i : Int) (j : Int) ≤ 1000 := by decide +kernel
section
variable {P : Program} {w : World} {K : PySem.W.Frag} {mg : Str → Option Value} {base : Heap}
def spLast : Sp := fun vs H Q _ => ∃ (z : Str) (N : Nat), vs = [.str z, .int N] ∧ N ≤ 12 ∧ ∀ H', Same H H' → Q (.int (co (cbl (vz z) N) N)) H'
theorem ok_counted_by_last_ {f a_is_block_size_ : Addr} {fd fd_is_block_size_ : FuncData} (F : Fun K "_counted_by_last" "_counted_by_last" s_counted_by_last_ f fd) (z_range : mg "range" = none) (z_sum : mg "sum" = none) (m_comb : mg "comb" = some (.builtin "math.comb"))
    (G_is_block_size_ : FnOk P w K mg base CX0 1 a_is_block_size_ fd_is_block_size_ ["family", "size"] spIsBlockSize) (g_is_block_size_ : mg "_is_block_size" = some (.ref a_is_block_size_)) (k_is_block_size_ : PySem.W.keepIn K (.ref a_is_block_size_) = true) (b_is_block_size_ : Binds K fd_is_block_size_ ["family", "size"] []) :
    FnOk P w K mg base CX0 2 f fd ["family", "size"] spLast := by
  refine F.ok sc_counted_by_last_ (fun vs H Q E h => ?_) (fun cdv A outer s H vs Q E hr h => ?_)
  · obtain ⟨z, N, rfl, _⟩ := h
    rfl
  · obtain ⟨z, N, rfl, hN, q⟩ := h
    refine ⟨_, (pss_cons (ps_set (i := 2) sc_counted_by_last_.nd rfl (.inr rfl) (pe_lst (pa_cons pe_int pa_nil)))
  (pss_cons (ps_for PassesOwn.never rfl (pi_range2 rfl z_range (pa_cons pe_int (pa_cons (pe_op op_add (pv 1) pe_int) pa_nil))) (pg_name (i := 3) sc_counted_by_last_.nd rfl (.inr rfl)) (pss_one (ps_expr (pe_bm PySem.F.plainAttrs_list PySem.F.slot_list_append PySem.F.type_list_append mt_append (pv 2) (pa_cons (pe_callB (cr_sum rfl) (by rfl) z_sum boot_sum (pa_cons (pe_lc (own := [("j", 4)]) rfl sc_counted_by_last_.nd (pi_range2 rfl z_range (pa_cons pe_int (pa_cons (pe_op op_add (pv 3) pe_int) pa_nil))) (blkOk_by (N := ["family", "size", "counts", "total", "j"]) (sc := defScope s_counted_by_last_) (by first | decide +kernel | rfl)) (fun _ _ _ _ _ => (pg_name (i := 4) sc_counted_by_last_.nd rfl (.inl rfl))) (fun _ _ _ _ _ => pts_one (pt_val (pe_call G_is_block_size_ (hr.mono (by decide)) rfl g_is_block_size_ k_is_block_size_ b_is_block_size_ .nil pass0 (pa_cons (pv 0) (pa_cons (pv 4) pa_nil))))) (fun _ _ _ _ _ => (pe_op op_mul (pe_callBfun cr_comb rfl m_comb (pa_cons (pe_op op_sub (pv 3) pe_int) (pa_cons (pe_op op_sub (pv 4) pe_int) pa_nil))) (pe_ix (ix_listK (K := K) rfl) (pv 2) (pe_op op_sub (pv 3) (pv 4)) (fun _ _ => rfl))))) pa_nil)) pa_nil)))))
  (pss_one (ps_ret (pe_ix ix_list (pv 2) (pv 1) (fun _ _ => rfl)))))), ?_⟩
    have szl : 20000 ≤ sizeLine := by decide
    refine ⟨(by show 1 ≤ sizeLine; omega), fun B nB => ?_⟩
    have s1 : Same H (upd H B (.lst [.int 1])) := same_upd nB
    have hB1 : upd H B (.lst [.int 1]) B = some (.lst ((cbl (vz z) 0).map V.int)) := upd_same
    have sb1 : SameBut B H (upd H B (.lst [.int 1])) := SameBut.upd
    clear s1
    revert hB1 sb1
    generalize upd H B (.lst [.int 1]) = H1
    intro hB1 sb1
    refine ⟨_, rfl, _, _, rfl, rfl, 1, _, rfl, by omega, ?_⟩
    rw [show ((N : Int) + 1 - 1).toNat = N by omega]
    refine for_range (lo := 1) (n := N) (fun i σ H' => ∃ (v3 : Option V), σ = [some (.str z), some (.int (N : Int)), some (.ref B), v3, none] ∧ SameBut B H H' ∧ H' B = some (.lst ((cbl (vz z) i).map V.int)))
      ⟨none, rfl, sb1, hB1⟩ (fun i σ H3 hi hP => ?_) (fun σ H3 hP => ?_)
    · obtain ⟨v3, rfl, sb, hB⟩ := hP
      have lc := cbl_len (vz z) i
      refine ⟨_, rfl, .inl ⟨rfl, _, .inl (.inl hB)⟩, _, rfl, _, _, rfl, rfl, 1, _, rfl, by omega, fun D nD => ?_⟩
      rw [show ((1 : Int) + (i : Int) + 1 - 1).toNat = i + 1 by omega]
      have hBD : B ≠ D := ne_of_none hB nD
      refine lc_range (lo := 1) (n := i + 1) (fun j H' => SameBut D H3 H' ∧ H' D = some (.lst ((lastL (vz z) (cbl (vz z) i) i j).map V.int))) ⟨SameBut.upd, upd_same⟩ (fun j H' hj hP => ?_) (fun H4 hP => ?_)
      · obtain ⟨sbD, hD⟩ := hP
        have hB' := sbD _ _ hBD hB
        refine ⟨rfl, ?_⟩
        refine ⟨_, rfl, _, rfl, z, j + 1, by rw [show (1 : Int) + (j : Int) = ((j + 1 : Nat) : Int) by omega]; rfl, _, rfl, ?_⟩
        rw [sizeOk_v]
        show if _ then _ else _
        by_cases c : sv (vz z) (j + 1) = true
        · have el : lastL (vz z) (cbl (vz z) i) i (j + 1) = lastL (vz z) (cbl (vz z) i) i j ++ [mcComb (i : Int) (j : Int) * co (cbl (vz z) i) (i - j)] := by
            show _ ++ lastT _ _ _ _ = _
            unfold lastT
            rw [if_pos c]
          have e1 : (1 : Int) + (i : Int) - 1 = (i : Int) := by omega
          have e2 : (1 : Int) + (j : Int) - 1 = (j : Int) := by omega
          have e3 : (1 : Int) + (i : Int) - (1 + (j : Int)) = ((i - j : Nat) : Int) := by omega
          obtain ⟨b1, b2⟩ := comb_small i (by omega) j (by omega)
          have ll := lastL_len (vz z) (cbl (vz z) i) i j
          refine if_pos_of c ⟨_, rfl, _, _, rfl, rfl, _, rfl, _, _, rfl, rfl, (i : Int), (j : Int), by show [V.int ((1 : Int) + (i : Int) - 1), V.int ((1 : Int) + (j : Int) - 1)] = _; rw [e1, e2], by omega, by omega, by omega, _, rfl, _, rfl, _, rfl, _, _, rfl, rfl, B, _, _, _, rfl, rfl, .inl (.inl hB'), by rw [e3]; exact at_co (by omega), _, _, rfl, rfl, .inl ⟨by omega, by omega⟩, _, hD, by rw [List.length_map]; omega, sbD.trans SameBut.upd, ?_⟩
          rw [upd_same, el, List.map_append]
          rfl
        · have el : lastL (vz z) (cbl (vz z) i) i (j + 1) = lastL (vz z) (cbl (vz z) i) i j := by
            show _ ++ lastT _ _ _ _ = _
            unfold lastT
            rw [if_neg c, List.append_nil]
          refine if_neg_of c ⟨sbD, ?_⟩
          rw [el]
          exact hD
      · obtain ⟨sbD, hD⟩ := hP
        have hB' := sbD _ _ hBD hB
        have sH : Same H3 H4 := fun b o e => sbD b o (ne_of_none e nD) e
        refine ⟨D, _, rfl, .inl (.inl hD), B, _, _, rfl, rfl, hB', by rw [List.length_map]; omega, ?_⟩
        refine ⟨_, rfl, (sb.trans (fun b o nb e => sH b o e)).trans SameBut.upd, ?_⟩
        rw [upd_same]
        show _ = some (HO.lst ((cbl (vz z) i ++ [sumZ (lastL (vz z) (cbl (vz z) i) i (i + 1))]).map V.int))
        rw [List.map_append]
        rfl
    · obtain ⟨v3, rfl, sb, hB⟩ := hP
      have lc := cbl_len (vz z) N
      exact ⟨_, rfl, _, rfl, B, _, _, _, rfl, rfl, .inl (.inl hB), at_co (by omega), q _ (fun b o e => sb b o (ne_of_none e nB) e)⟩
end

open PySem.W (mcComb)
/-! ### counted -/
def fac (k : Nat) : Int := ((Builtin.Math.factorialNat k : Nat) : Int)
def looseT (n m t : Nat) : Int := mcComb (n : Int) (t : Int) * mcComb (m : Int) (t : Int) * fac t
def looseL (n m : Nat) : Nat → List Int
  | 0 => []
  | t + 1 => looseL n m t ++ [looseT n m t]
def cntV (z : Str) (n m : Nat) : Int := if z = "threads" then (if n = m then fac n else 0) else if z = "loose" then sumZ (looseL n m (min n m + 1)) else co (cbl (vz z) (n + m)) (n + m)
theorem looseL_len (n m : Nat) : ∀ t, (looseL n m t).length = t
  | 0 => rfl
  | t + 1 => by
    show (looseL n m t ++ [_]).length = _
    rw [List.length_append, looseL_len n m t]
    rfl
theorem fac_small : ∀ k : Nat, k ≤ 12 → 0 ≤ fac k ∧ fac k ≤ 1000000000 := by decide +kernel
section
variable {P : Program} {w : World} {K : PySem.W.Frag} {mg : Str → Option Value} {base : Heap}
def spCounted (CF CB : Addr) : Sp := fun vs H Q E => ∃ (z : Str) (n m : Int), vs = [.str z, .int n, .int m] ∧ (z ∉ fams → E (.ref CF) none H) ∧ (z ∈ fams → siz n m = false → E (.ref CB) none H) ∧
  (z ∈ fams → siz n m = true → ∀ H', Same H H' → Q (.int (cntV z n.toNat m.toNat)) H')
theorem ok_counted {f CF CB a_check_family a_check_size_ a_counted_by_last_ : Addr} {fd fd_check_family fd_check_size_ fd_counted_by_last_ : FuncData} (F : Fun K "counted" "counted" s_counted f fd) (z_range : mg "range" = none) (z_sum : mg "sum" = none) (z_min : mg "min" = none) (m_comb : mg "comb" = some (.builtin "math.comb")) (m_factorial : mg "factorial" = some (.builtin "math.factorial"))
    (G_check_family : FnOk P w K mg base (L2N.CX P w) 1 a_check_family fd_check_family ["family"] (spCheckFamily CF)) (g_check_family : mg "check_family" = some (.ref a_check_family)) (k_check_family : PySem.W.keepIn K (.ref a_check_family) = true) (b_check_family : Binds K fd_check_family ["family"] [])
    (G_check_size_ : FnOk P w K mg base (L2N.CX P w) 2 a_check_size_ fd_check_size_ ["n", "m"] (spCheckSize CB)) (g_check_size_ : mg "_check_size" = some (.ref a_check_size_)) (k_check_size_ : PySem.W.keepIn K (.ref a_check_size_) = true) (b_check_size_ : Binds K fd_check_size_ ["n", "m"] [])
    (G_counted_by_last_ : FnOk P w K mg base CX0 2 a_counted_by_last_ fd_counted_by_last_ ["family", "size"] spLast) (g_counted_by_last_ : mg "_counted_by_last" = some (.ref a_counted_by_last_)) (k_counted_by_last_ : PySem.W.keepIn K (.ref a_counted_by_last_) = true) (b_counted_by_last_ : Binds K fd_counted_by_last_ ["family", "size"] []) :
    FnOk P w K mg base (L2N.CX P w) 3 f fd ["family", "n", "m"] (spCounted CF CB) := by
  refine F.okXN sc_counted (fun vs H Q E h => ?_) (fun cdv A outer s H vs Q E hr h => ?_)
  · obtain ⟨z, n, m, rfl, _⟩ := h
    rfl
  · obtain ⟨z, n, m, rfl, q1, q2, q3⟩ := h
    refine ⟨_, (pss_cons (ps_expr (pe_call G_check_family (hr.mono (by decide)) rfl g_check_family k_check_family b_check_family .nil (L2N.passes_call (L2N.takes_of rfl rfl rfl rfl) (fun _ _ _ _ h => h)) (pa_cons (pv 0) pa_nil)))
  (pss_cons (ps_expr (pe_call G_check_size_ (hr.mono (by decide)) rfl g_check_size_ k_check_size_ b_check_size_ .nil (L2N.passes_call (L2N.takes_of rfl rfl rfl rfl) (fun _ _ _ _ h => h)) (pa_cons (pv 1) (pa_cons (pv 2) pa_nil))))
  (pss_cons (ps_if (pt_cmpR op_eq (pv 0) pe_str (nomark _)) (pss_one (ps_ret (pe_ifExp (pt_cmpR op_eq (pv 1) (pv 2) (nomark _)) (pe_callBfun cr_fac rfl m_factorial (pa_cons (pv 1) pa_nil)) pe_int))) pss_nil)
  (pss_cons (ps_if (pt_cmpR op_eq (pv 0) pe_str (nomark _)) (pss_cons (ps_set (i := 3) sc_counted.nd rfl (.inl rfl) (pe_callB (call_min2 rfl) (by rfl) z_min boot_min (pa_cons (pv 1) (pa_cons (pv 2) pa_nil))))
  (pss_one (ps_ret (pe_callB (cr_sum rfl) (by rfl) z_sum boot_sum (pa_cons (pe_lc (own := [("t", 4)]) rfl sc_counted.nd (pi_range1 rfl z_range (pa_cons (pe_op op_add (pv 3) pe_int) pa_nil)) (blkOk_by (N := ["family", "n", "m", "most", "t"]) (sc := defScope s_counted) (by first | decide +kernel | rfl)) (fun _ _ _ _ _ => (pg_name (i := 4) sc_counted.nd rfl (.inl rfl))) (fun _ _ _ _ _ => pts_nil) (fun _ _ _ _ _ => (pe_op op_mul (pe_op op_mul (pe_callBfun cr_comb rfl m_comb (pa_cons (pv 1) (pa_cons (pv 4) pa_nil))) (pe_callBfun cr_comb rfl m_comb (pa_cons (pv 2) (pa_cons (pv 4) pa_nil)))) (pe_callBfun cr_fac rfl m_factorial (pa_cons (pv 4) pa_nil))))) pa_nil))))) pss_nil)
  (pss_one (ps_ret (pe_call G_counted_by_last_ (hr.mono (by decide)) rfl g_counted_by_last_ k_counted_by_last_ b_counted_by_last_ .nil pass0 (pa_cons (pv 0) (pa_cons (pe_op op_add (pv 1) (pv 2)) pa_nil))))))))), ?_⟩
    have szl : 20000 ≤ sizeLine := by decide
    refine ⟨_, rfl, z, rfl, fun mz => ?_, q1⟩
    refine ⟨_, rfl, _, rfl, n, m, rfl, fun hs => ?_, q2 mz⟩
    have q := q3 mz hs
    have zz := siz_iff.mp hs
    obtain ⟨n, rfl⟩ : ∃ u : Nat, n = (u : Int) := ⟨n.toNat, by omega⟩
    obtain ⟨m, rfl⟩ : ∃ u : Nat, m = (u : Int) := ⟨m.toNat, by omega⟩
    rw [show ((n : Nat) : Int).toNat = n from rfl, show ((m : Nat) : Int).toNat = m from rfl] at q
    unfold cntV at q
    refine ⟨_, rfl, rfl, _, rfl, ?_⟩
    by_cases c1 : z = "threads"
    · rw [if_pos c1] at q
      refine if_pos_of (decide_eq_true (congrArg V.str c1)) ?_
      refine ⟨_, rfl, _, rfl, rfl, _, rfl, ?_⟩
      by_cases c2 : n = m
      · rw [if_pos c2] at q
        exact if_pos_of (decide_eq_true (by rw [c2])) ⟨_, rfl, (n : Int), rfl, by omega, by omega, q H (Same.refl _)⟩
      · rw [if_neg c2] at q
        exact if_neg_of (fun h => c2 (by have := V.int.inj (of_decide_eq_true h); omega)) (q H (Same.refl _))
    rw [if_neg c1] at q
    refine if_neg_of (fun h => c1 (V.str.inj (of_decide_eq_true h))) ?_
    refine ⟨_, rfl, rfl, _, rfl, ?_⟩
    by_cases c2 : z = "loose"
    · rw [if_pos c2] at q
      refine if_pos_of (decide_eq_true (congrArg V.str c2)) ?_
      have em : (if ((m : Nat) : Int) < ((n : Nat) : Int) then ((m : Nat) : Int) else ((n : Nat) : Int)) = ((min n m : Nat) : Int) := by
        split <;> omega
      refine ⟨_, rfl, _, rfl, _, _, rfl, ?_⟩
      rw [em]
      refine ⟨_, rfl, _, _, rfl, rfl, _, rfl, by omega, by omega, fun D nD => ?_⟩
      rw [show (((min n m : Nat) : Int) + 1).toNat = min n m + 1 by omega]
      refine lc_range (lo := 0) (n := min n m + 1) (fun t H' => SameBut D H H' ∧ H' D = some (.lst ((looseL n m t).map V.int))) ⟨SameBut.upd, upd_same⟩ (fun t H' ht hP => ?_) (fun H4 hP => ?_)
      · obtain ⟨sbD, hD⟩ := hP
        have e0 : (0 : Int) + (t : Int) = (t : Int) := Int.zero_add _
        have c1 := comb_small n (by omega) t (by omega)
        have c2 := comb_small m (by omega) t (by omega)
        have c3 := fac_small t (by omega)
        have ll := looseL_len n m t
        refine ⟨rfl, ?_⟩
        rw [e0]
        refine ⟨_, rfl, _, rfl, (n : Int), (t : Int), rfl, by omega, by omega, by omega, _, rfl, _, rfl, (m : Int), (t : Int), rfl, by omega, by omega, by omega, _, _, rfl, rfl, .inl ⟨by omega, by omega⟩, _, rfl, (t : Int), rfl, by omega, by omega, _, _, rfl, rfl, .inr ⟨by show _ < fac t; omega, by show fac t < _; omega⟩, _, hD, by rw [List.length_map]; omega, sbD.trans SameBut.upd, ?_⟩
        rw [upd_same]
        show _ = some (HO.lst ((looseL n m t ++ [looseT n m t]).map V.int))
        rw [List.map_append]
        rfl
      · obtain ⟨sbD, hD⟩ := hP
        exact ⟨D, _, rfl, .inl (.inl hD), q _ (fun b o e => sbD b o (ne_of_none e nD) e)⟩
    rw [if_neg c2] at q
    refine if_neg_of (fun h => c2 (V.str.inj (of_decide_eq_true h))) ?_
    exact ⟨_, rfl, _, rfl, _, rfl, _, _, rfl, rfl, z, n + m, rfl, by omega, q⟩
end

/-! ### _may_follow -/
def mayF (z : Str) (n : Int) (row : List Int) (mark : Int) : Bool :=
  if row.count mark = 0 then true else if z = "even" ∨ z = "parts" then true else if 1 < row.count mark then false else if z = "pairs" ∨ z = "lonepairs" then true else decide ((row.idxOf mark : Int) < n) && decide (n ≤ (row.length : Int))
section
variable {P : Program} {w : World} {K : PySem.W.Frag} {mg : Str → Option Value} {base : Heap}
def spMay (K : PySem.W.Frag) : Sp := fun vs H Q _ => ∃ (z : Str) (n : Int) (p : Addr) (row : List Int) (mark : Int), vs = [.str z, .int n, .ref p, .int mark] ∧ SqL K H p (row.map V.int) ∧ ∀ H', Same H H' → Q (.bl (mayF z n row mark)) H'
theorem ok_may_follow_ {f : Addr} {fd : FuncData} (F : Fun K "_may_follow" "_may_follow" s_may_follow_ f fd) (z_len : mg "len" = none) : FnOk P w K mg base CX0 1 f fd ["family", "n", "row", "mark"] (spMay K) := by
  refine F.ok sc_may_follow_ (fun vs H Q E h => ?_) (fun cdv A outer s H vs Q E hr h => ?_)
  · obtain ⟨z, n, p, row, mark, rfl, _⟩ := h
    rfl
  · obtain ⟨z, n, p, row, mark, rfl, hp, q⟩ := h
    refine ⟨_, (pss_cons (ps_set (i := 4) sc_may_follow_.nd rfl (.inl rfl) (pe_bm PySem.F.plainAttrs_list PySem.F.slot_list_count PySem.F.type_list_count mt_lcount (pv 2) (pa_cons (pv 3) pa_nil)))
  (pss_cons (ps_if (L2.PW.pt (pw_or (pt_cmpR op_eq (pv 4) pe_int (nomark _)) (pw_or1 (pt_cmpR op_in_seq (pv 0) (pe_tup (pa_cons pe_str (pa_cons pe_str pa_nil))) (by with_unfolding_all rfl))))) (pss_one (ps_ret pe_bl)) pss_nil)
  (pss_cons (ps_if (pt_cmpR op_gt (pv 4) pe_int (nomark _)) (pss_one (ps_ret pe_bl)) pss_nil)
  (pss_one (ps_ret (pe_or (pe_cmpR op_in_seq (pv 0) (pe_tup (pa_cons pe_str (pa_cons pe_str pa_nil))) (by with_unfolding_all rfl)) (pe_one (pe_chain op_lt op_le (pe_bm PySem.F.plainAttrs_list PySem.F.slot_list_index PySem.F.type_list_index mt_index (pv 2) (pa_cons (pv 3) pa_nil)) (pv 1) (pe_callB call_len_seq (by rfl) z_len boot_len (pa_cons (pv 2) pa_nil)))))))))), ?_⟩
    have szl : 20000 ≤ sizeLine := by decide
    unfold mayF at q
    refine ⟨_, rfl, .inl ⟨rfl, _, hp⟩, _, rfl, p, row, mark, rfl, rfl, hp, ?_⟩
    refine ⟨_, rfl, rfl, _, rfl, ?_⟩
    by_cases c0 : row.count mark = 0
    · rw [if_pos c0] at q
      exact if_pos_of (decide_eq_true (by rw [c0]; rfl)) (iteT (q H (Same.refl _)))
    rw [if_neg c0] at q
    refine if_neg_of (fun h => c0 (by have := V.int.inj (of_decide_eq_true h); omega)) ?_
    refine ⟨_, rfl, (by show 2 ≤ sizeLine; omega), fun t nt => ?_⟩
    have s1 := same_upd (o := .tup [.str "even", .str "parts"]) nt
    refine ⟨t, _, rfl, .inr (.inl (.inl upd_same)), rfl, rfl, _, rfl, ?_⟩
    have iv : ∀ x y : Str, inV (.str z) [.str x, .str y] = decide (z = x ∨ z = y) := fun x y => by
      rw [show ([.str x, .str y] : List V) = [x, y].map V.str from rfl, inV_str]
      exact decide_eq_decide.mpr (by simp)
    by_cases c1 : z = "even" ∨ z = "parts"
    · rw [if_pos c1] at q
      refine if_pos_of (by show inV (.str z) [.str "even", .str "parts"] = true; rw [iv]; exact decide_eq_true c1) ?_
      exact q _ s1
    rw [if_neg c1] at q
    refine if_neg_of (by show ¬ inV (.str z) [.str "even", .str "parts"] = true; rw [iv]; exact fun h => c1 (of_decide_eq_true h)) ?_
    refine ⟨_, rfl, _, _, rfl, rfl, _, rfl, ?_⟩
    by_cases c2 : 1 < row.count mark
    · rw [if_pos c2] at q
      exact if_pos_of (decide_eq_true (by omega)) (q _ s1)
    rw [if_neg c2] at q
    refine if_neg_of (fun h => c2 (by have := of_decide_eq_true h; omega)) ?_
    refine ⟨_, rfl, (by show 2 ≤ sizeLine; omega), fun t2 nt2 => ?_⟩
    have s2 := Same.trans s1 (same_upd (o := .tup [.str "pairs", .str "lonepairs"]) nt2)
    refine ⟨t2, _, rfl, .inr (.inl (.inl upd_same)), rfl, rfl, _, rfl, ?_⟩
    by_cases c3 : z = "pairs" ∨ z = "lonepairs"
    · rw [if_pos c3] at q
      refine if_pos_of (by show inV (.str z) [.str "pairs", .str "lonepairs"] = true; rw [iv]; exact decide_eq_true c3) ?_
      exact q _ s2
    rw [if_neg c3] at q
    refine if_neg_of (by show ¬ inV (.str z) [.str "pairs", .str "lonepairs"] = true; rw [iv]; exact fun h => c3 (of_decide_eq_true h)) ?_
    have hp2 := sqL_same s2 hp
    have hm : mark ∈ row := List.count_pos_iff.mp (by omega)
    have hj := List.idxOf_lt_length_of_mem hm
    have ej : row[row.idxOf mark]? = some mark := by rw [List.getElem?_eq_getElem hj, List.getElem_idxOf hj]
    have eqi : ∀ a b : Int, eqV (.int a) (.int b) = decide (a = b) := fun a b => by
      show (a == b) = _
      by_cases h : a = b
      · rw [decide_eq_true h, h]
        exact beq_self_eq_true b
      · rw [decide_eq_false h]
        exact beq_eq_false_iff_ne.mpr h
    refine ⟨_, rfl, .inl ⟨rfl, _, hp2⟩, _, rfl, p, _, .int mark, row.idxOf mark, .int mark, rfl, rfl, hp2, rfl, List.all_eq_true.mpr (fun v hv => by obtain ⟨w, _, rfl⟩ := List.mem_map.mp hv; rfl), by rw [List.getElem?_map, ej]; rfl, by rw [eqi]; exact decide_eq_true rfl, fun u z' hu hz => ?_, ?_⟩
    · obtain ⟨y, ey, rfl⟩ := map_int_get hz
      rw [eqi]
      refine decide_eq_false fun e => ?_
      have hul := (List.getElem?_eq_some_iff.mp ey)
      obtain ⟨h1, h2⟩ := hul
      have no := List.not_of_lt_findIdx (p := (· == mark)) (xs := row) hu
      have no : (row[u] == mark) = false := no
      rw [h2, e] at no
      exact absurd (beq_self_eq_true mark) (by rw [no]; exact Bool.false_ne_true)
    refine ⟨_, rfl, _, _, rfl, rfl, _, rfl, ?_⟩
    by_cases c4 : ((row.idxOf mark : Nat) : Int) < n
    · rw [decide_eq_true c4, Bool.true_and] at q
      refine if_pos_of (decide_eq_true c4) ⟨_, rfl, p, _, rfl, .inl hp2, _, _, rfl, rfl, ?_⟩
      rw [List.length_map]
      exact q _ s2
    · rw [decide_eq_false c4, Bool.false_and] at q
      exact if_neg_of (fun h => c4 (of_decide_eq_true h)) (q _ s2)
end

/-! ### _label_rows -/
def topL (l : List Int) : Int := l.foldr (fun x y => if x + 1 > y then x + 1 else y) 0
theorem topL_ge : ∀ {l : List Int} {x : Int}, x ∈ l → x + 1 ≤ topL l
  | a :: l, x, h => by
    unfold topL
    rw [List.foldr_cons]
    show _ ≤ if a + 1 > topL l then a + 1 else topL l
    rcases List.mem_cons.mp h with rfl | h
    · split <;> omega
    · have := topL_ge h
      split <;> omega
theorem topL_of : ∀ {l : List Int} {m : Int}, m ∈ l → (∀ y ∈ l, y ≤ m) → (∀ y ∈ l, 0 ≤ y) → topL l = m + 1
  | [a], m, h, _, h0 => by
    rcases List.mem_cons.mp h with rfl | h
    · have := h0 m h
      show (if m + 1 > 0 then m + 1 else 0) = m + 1
      rw [if_pos (by omega)]
    · exact nomatch h
  | a :: b :: l, m, h, hm, h0 => by
    have ha := hm a (.head _)
    have h0a := h0 a (.head _)
    show (if a + 1 > topL (b :: l) then a + 1 else topL (b :: l)) = m + 1
    by_cases c : m ∈ b :: l
    · rw [topL_of c (fun y hy => hm y (.tail _ hy)) (fun y hy => h0 y (.tail _ hy)), if_neg (by omega)]
    · rcases List.mem_cons.mp h with rfl | h
      · have lt : topL (b :: l) ≤ m := by
          have : ∀ {l : List Int}, (∀ y ∈ l, y < m) → 0 ≤ m → topL l ≤ m := by
            intro l
            induction l with
            | nil => intro _ h; exact h
            | cons x xs ih =>
              intro hx hm0
              have := ih (fun y hy => hx y (.tail _ hy)) hm0
              have := hx x (.head _)
              show (if x + 1 > topL xs then x + 1 else topL xs) ≤ m
              split <;> omega
          refine this (fun y hy => ?_) h0a
          have h1 := hm y (.tail _ hy)
          have : y ≠ m := fun e => c (e ▸ hy)
          omega
        rw [if_pos (by omega)]
      · exact absurd h c
theorem topL_pos : ∀ (l : List Int), 0 ≤ topL l
  | [] => Int.le_refl _
  | a :: l => by
    have := topL_pos l
    show 0 ≤ if a + 1 > topL l then a + 1 else topL l
    split <;> omega
theorem topL_snoc (l : List Int) (a : Int) : topL (l ++ [a]) = if a + 1 > topL l then a + 1 else topL l := by
  induction l with
  | nil => rfl
  | cons b l ih =>
    show (if b + 1 > topL (l ++ [a]) then b + 1 else topL (l ++ [a])) = if a + 1 > (if b + 1 > topL l then b + 1 else topL l) then a + 1 else (if b + 1 > topL l then b + 1 else topL l)
    rw [ih]
    repeat' split
    all_goals omega
def nextR (z : Str) (n : Int) (row : List Int) : Nat → List (List Int)
  | 0 => []
  | j + 1 => nextR z n row j ++ if mayF z n row (j : Int) = true then [row ++ [(j : Int)]] else []
def rowsF (z : Str) (n : Int) : Nat → List (List Int)
  | 0 => [[]]
  | k + 1 => ((rowsF z n k).map fun row => nextR z n row ((topL row).toNat + 1)).flatten
theorem nextR_in {z : Str} {n : Int} {row : List Int} : ∀ {j : Nat} {r : List Int}, r ∈ nextR z n row j → ∃ u : Nat, u < j ∧ r = row ++ [(u : Int)]
  | j + 1, r, h => by
    have h : r ∈ nextR z n row j ++ if mayF z n row (j : Int) = true then [row ++ [(j : Int)]] else [] := h
    rcases List.mem_append.mp h with h | h
    · obtain ⟨u, hu, e⟩ := nextR_in h
      exact ⟨u, Nat.lt_succ_of_lt hu, e⟩
    · split at h
      · exact ⟨j, Nat.lt_succ_self j, List.mem_singleton.mp h⟩
      · exact nomatch h
theorem nextR_len (z : Str) (n : Int) (row : List Int) : ∀ j, (nextR z n row j).length ≤ j
  | 0 => Nat.le_refl _
  | j + 1 => by
    have := nextR_len z n row j
    show (nextR z n row j ++ if mayF z n row (j : Int) = true then [row ++ [(j : Int)]] else []).length ≤ _
    rw [List.length_append]
    split
    · show _ + 1 ≤ _
      omega
    · show _ + 0 ≤ _
      omega
theorem rowsF_ok {z : Str} {n : Int} : ∀ {k : Nat} {row : List Int}, row ∈ rowsF z n k → row.length = k ∧ (∀ y ∈ row, 0 ≤ y) ∧ topL row ≤ (k : Int)
  | 0, row, h => by
    rw [List.mem_singleton.mp h]
    exact ⟨rfl, (fun y hy => nomatch hy), Int.le_refl _⟩
  | k + 1, row, h => by
    obtain ⟨l, hl, hr⟩ := List.mem_flatten.mp h
    obtain ⟨r0, h0, rfl⟩ := List.mem_map.mp hl
    obtain ⟨a1, a2, a3⟩ := rowsF_ok h0
    obtain ⟨u, hu, rfl⟩ := nextR_in hr
    have t0 := topL_pos r0
    refine ⟨by rw [List.length_append, a1]; rfl, fun y hy => ?_, ?_⟩
    · rcases List.mem_append.mp hy with hy | hy
      · exact a2 y hy
      · rw [List.mem_singleton.mp hy]
        omega
    · rw [topL_snoc]
      split <;> omega
def accF (z : Str) (n : Int) (l : List (List Int)) : List (List Int) := (l.map fun row => nextR z n row ((topL row).toNat + 1)).flatten
theorem accF_snoc (z : Str) (n : Int) (l : List (List Int)) (row : List Int) : accF z n (l ++ [row]) = accF z n l ++ nextR z n row ((topL row).toNat + 1) := by
  unfold accF
  rw [List.map_append, List.flatten_append]
  show _ ++ (_ ++ []) = _
  rw [List.append_nil]
theorem accF_take (z : Str) (n : Int) (l : List (List Int)) (i : Nat) : (accF z n (l.take i)).length ≤ (accF z n l).length := by
  conv => rhs; rw [← List.take_append_drop i l]
  unfold accF
  rw [List.map_append, List.flatten_append, List.length_append]
  omega
def RowP (D : Addr) (H : Hp) (p : V) (row : List Int) : Prop := ∃ a, p = .ref a ∧ a ≠ D ∧ H a = some (.lst (row.map V.int))
theorem rowP_but {D D' : Addr} {H H' : Hp} {x : V} {row : List Int} (sb : SameBut D' H H') (nd : H D' = none) (h : RowP D H x row) : RowP D' H' x row := by
  obtain ⟨a, rfl, _, ha⟩ := h
  have ne : a ≠ D' := ne_of_none ha nd
  exact ⟨a, rfl, ne, sb _ _ ne ha⟩
theorem rowP_keep {D : Addr} {H H' : Hp} {x : V} {row : List Int} (sb : SameBut D H H') (h : RowP D H x row) : RowP D H' x row := by
  obtain ⟨a, rfl, ne, ha⟩ := h
  exact ⟨a, rfl, ne, sb _ _ ne ha⟩
theorem paired_end {α β : Type} {F : α → β → Prop} : ∀ {l : List α} {m : List β} {x : α} {y : β}, Paired F l m → F x y → Paired F (l ++ [x]) (m ++ [y])
  | _, _, _, _, .nil, h => .cons h .nil
  | _, _, _, _, .cons a t, h => .cons a (paired_end t h)
theorem paired_at {α β : Type} {F : α → β → Prop} : ∀ {l : List α} {m : List β} {i : Nat} {x : α}, Paired F l m → l[i]? = some x → ∃ y, m[i]? = some y ∧ F x y
  | _, _, 0, _, .cons h _, e => by
    obtain rfl := Option.some.inj e
    exact ⟨_, rfl, h⟩
  | _, _, i + 1, _, .cons _ t, e => paired_at (i := i) t e
section
variable {P : Program} {w : World} {K : PySem.W.Frag} {mg : Str → Option Value} {base : Heap}
def spRows : Sp := fun vs H Q _ => ∃ (z : Str) (n : Int) (m N : Nat), vs = [.str z, .int n, .int m] ∧ n + m = (N : Int) ∧ N ≤ 12 ∧ (∀ k, k ≤ N → (rowsF z n k).length ≤ 10000) ∧
  ∀ (R : Addr) (ps : List V) (H' : Hp), Same H H' → H' R = some (.lst ps) → Paired (RowP R H') ps (rowsF z n N) → Q (.ref R) H'
theorem ok_label_rows_ {f a_may_follow_ : Addr} {fd fd_may_follow_ : FuncData} (F : Fun K "_label_rows" "_label_rows" s_label_rows_ f fd) (z_range : mg "range" = none) (z_max : mg "max" = none)
    (G_may_follow_ : FnOk P w K mg base CX0 1 a_may_follow_ fd_may_follow_ ["family", "n", "row", "mark"] (spMay K)) (g_may_follow_ : mg "_may_follow" = some (.ref a_may_follow_)) (k_may_follow_ : PySem.W.keepIn K (.ref a_may_follow_) = true) (b_may_follow_ : Binds K fd_may_follow_ ["family", "n", "row", "mark"] []) :
    FnOk P w K mg base CX0 2 f fd ["family", "n", "m"] spRows := by
  refine F.ok sc_label_rows_ (fun vs H Q E h => ?_) (fun cdv A outer s H vs Q E hr h => ?_)
  · obtain ⟨z, n, m, N, rfl, _⟩ := h
    rfl
  · obtain ⟨z, n, m, N, rfl, eN, hN, hsz, q⟩ := h
    refine ⟨_, (pss_cons (ps_set (i := 3) sc_label_rows_.nd rfl (.inl rfl) (pe_lst (pa_cons (pe_lst pa_nil) pa_nil)))
  (pss_cons (ps_for PassesOwn.never rfl (pi_range1 rfl z_range (pa_cons (pe_op op_add (pv 1) (pv 2)) pa_nil)) (pg_name (i := 4) sc_label_rows_.nd rfl (.inl rfl)) (pss_one (ps_setLc2 (i := 3) (own := [("row", 5), ("mark", 6)]) (vs1 := [6]) rfl sc_label_rows_.nd rfl rfl (sw_true rfl rfl rfl (by decide +kernel)) (pi_list (pv 3)) (blkOk_by (N := ["family", "n", "m", "rows", "_", "row", "mark"]) (sc := defScope s_label_rows_) (by decide +kernel)) (by decide) (fun _ _ _ _ _ => (pg_name (i := 5) sc_label_rows_.nd rfl (.inl rfl))) (fun _ _ _ _ _ => pts_nil) (fun _ _ _ _ _ => (pi_range1 rfl z_range (pa_cons (pe_op op_add (pe_callBK (cr_maxDef (K := K) rfl rfl (room64 hr)) (by rfl) z_max boot_max (pa_cons (pv 5) pa_nil) (pk_cons (pe_un un_neg pe_int) pk_nil)) pe_int) pa_nil))) (fun _ _ _ _ _ => (pg_name (i := 6) sc_label_rows_.nd rfl (.inl rfl))) (fun _ _ _ _ _ => pts_one (pt_val (pe_call G_may_follow_ (hr.mono (by decide)) rfl g_may_follow_ k_may_follow_ b_may_follow_ .nil pass0 (pa_cons (pv 0) (pa_cons (pv 1) (pa_cons (pv 5) (pa_cons (pv 6) pa_nil))))))) (fun _ _ _ _ _ => (pe_op op_cat (pv 5) (pe_lst (pa_cons (pv 6) pa_nil)))))))
  (pss_one (ps_ret (pv 3))))), ?_⟩
    have szl : 20000 ≤ sizeLine := by decide
    refine ⟨(by show 0 ≤ sizeLine; omega), fun e1 ne1 => ⟨(by show 1 ≤ sizeLine; omega), fun R0 nR0 => ?_⟩⟩
    have ne : e1 ≠ R0 := fun h => by
      rw [h, upd_same] at nR0
      exact nomatch nR0
    have s1 : Same H (upd (upd H e1 (.lst [])) R0 (.lst [.ref e1])) := Same.trans (same_upd ne1) (same_upd nR0)
    have pr1 : Paired (RowP R0 (upd (upd H e1 (.lst [])) R0 (.lst [.ref e1]))) [.ref e1] (rowsF z n 0) := .cons ⟨e1, rfl, ne, by rw [upd_ne ne, upd_same]; rfl⟩ .nil
    have hR1 : upd (upd H e1 (.lst [])) R0 (.lst [.ref e1]) R0 = some (.lst [.ref e1]) := upd_same
    revert s1 pr1 hR1
    generalize upd (upd H e1 (.lst [])) R0 (.lst [.ref e1]) = H1
    intro s1 pr1 hR1
    refine ⟨_, rfl, _, rfl, _, _, rfl, rfl, _, rfl, by show _ ≤ n + (m : Int); omega, by show n + (m : Int) < _; omega, ?_⟩
    rw [show (n + (m : Int)).toNat = N by omega]
    refine for_range (lo := 0) (n := N) (fun k σ H' => ∃ (R : Addr) (ps : List V) (v4 : Option V), σ = [some (.str z), some (.int n), some (.int m), some (.ref R), v4, none, none] ∧ Same H H' ∧ H' R = some (.lst ps) ∧ Paired (RowP R H') ps (rowsF z n k))
      ⟨R0, _, none, rfl, s1, hR1, pr1⟩ (fun k σ H3 hk hP => ?_) (fun σ H3 hP => ?_)
    · obtain ⟨R, ps, v4, rfl, s3, hR, pr⟩ := hP
      refine ⟨_, rfl, R, rfl, ⟨_, .inl (.inl hR)⟩, fun D nD => ?_⟩
      have hRD : R ≠ D := ne_of_none hR nD
      have tot := hsz (k + 1) (by omega)
      have tot : (accF z n (rowsF z n k)).length ≤ 10000 := tot
      refine walkD_list (xs := ps) (fun i H' => SameBut D H3 H' ∧ ∃ qs, H' D = some (.lst qs) ∧ Paired (RowP D H') qs (accF z n ((rowsF z n k).take i))) ⟨SameBut.upd, [], upd_same, .nil⟩ (fun i H' hP => .inl (.inl (hP.1 _ _ hRD hR))) (fun i x H4 hi hP => ?_) (fun H4 hP => ?_)
      · obtain ⟨sb, qs, hD, pq⟩ := hP
        obtain ⟨row, er, ax, rfl, nax, hax⟩ := paired_at pr hi
        obtain ⟨len, pos, top⟩ := rowsF_ok (List.mem_of_getElem? er)
        have et : (rowsF z n k).take (i + 1) = (rowsF z n k).take i ++ [row] := by rw [List.take_succ, er]; rfl
        have t0 := topL_pos row
        have aD : ax ≠ D := ne_of_none hax nD
        have ha4 := sb _ _ aD hax
        rw [et, accF_snoc]
        have atk := accF_take z n (rowsF z n k) i
        refine ⟨rfl, ?_⟩
        refine ⟨_, rfl, _, rfl, ax, row, -1, rfl, rfl, .inl (.inl ha4), fun e => ?_, fun mx hmx hge => ?_⟩
        · have em : topL row = (-1) + 1 := by rw [e]; rfl
          generalize (-1 : Int) = mx at em ⊢
          refine ⟨_, _, rfl, rfl, mx + 2, rfl, by omega, by omega, ?_⟩
          rw [show (mx + 2).toNat = (topL row).toNat + 1 by omega]
          refine walkD_range (lo := 0) (n := (topL row).toNat + 1) (fun j H' => SameBut D H3 H' ∧ ∃ qs, H' D = some (.lst qs) ∧ Paired (RowP D H') qs (accF z n ((rowsF z n k).take i) ++ nextR z n row j)) ⟨sb, qs, hD, by rw [show nextR z n row 0 = [] from rfl, List.append_nil]; exact pq⟩ (fun j H5 hj hP => ?_) (fun H5 hP => hP)
          obtain ⟨sb5, qs5, hD5, pq5⟩ := hP
          have ha5 := sb5 _ _ aD hax
          have nl := nextR_len z n row j
          refine ⟨rfl, ?_⟩
          rw [show (0 : Int) + (j : Int) = (j : Int) from Int.zero_add _]
          refine ⟨_, rfl, _, rfl, _, rfl, _, rfl, z, n, ax, row, (j : Int), rfl, .inl (.inl ha5), fun H6 s6 => ⟨_, rfl, ?_⟩⟩
          have keep : ∀ {H7 : Hp}, SameBut D H6 H7 → SameBut D H3 H7 := fun w => (sb5.trans (fun b o _ e => s6 b o e)).trans w
          have hD6 := s6 _ _ hD5
          have pq6 : Paired (RowP D H6) qs5 (accF z n ((rowsF z n k).take i) ++ nextR z n row j) := Paired.mapP pq5 fun _ _ h => rowP_keep (fun b o _ e => s6 b o e) h
          have ha6 := s6 _ _ ha5
          have lq : qs5.length ≤ 10020 := by
            rw [pq5.length, List.length_append]
            omega
          by_cases c : mayF z n row (j : Int) = true
          · have en : nextR z n row (j + 1) = nextR z n row j ++ [row ++ [(j : Int)]] := by
              show _ ++ (if _ then _ else _) = _
              rw [if_pos c]
            refine if_pos_of c ⟨_, rfl, _, rfl, (by show 1 ≤ sizeLine; omega), fun q1 nq1 => ?_⟩
            have w1 := same_upd (o := .lst [.int (j : Int)]) nq1
            refine ⟨_, _, _, _, rfl, rfl, w1 _ _ ha6, upd_same, by rw [List.length_map]; show _ + 1 ≤ _; omega, fun q2 nq2 => ?_⟩
            have w2 := Same.trans w1 (same_upd (o := .lst (row.map V.int ++ [.int (j : Int)])) nq2)
            have hq2 : upd (upd H6 q1 (.lst [.int (j : Int)])) q2 (.lst (row.map V.int ++ [.int (j : Int)])) q2 = some (.lst ((row ++ [(j : Int)]).map V.int)) := by rw [upd_same, List.map_append]; rfl
            have hD7 := w2 _ _ hD6
            have q2D : q2 ≠ D := fun e => by
              rw [e] at nq2
              exact nomatch nq2.symm.trans (w1 _ _ hD6)
            revert w2 hq2 hD7
            generalize upd (upd H6 q1 (.lst [.int (j : Int)])) q2 (.lst (row.map V.int ++ [.int (j : Int)])) = H7
            intro w2 hq2 hD7
            refine ⟨_, hD7, by omega, keep (fun b o nb e => SameBut.upd b o nb (w2 b o e)), _, upd_same, ?_⟩
            rw [en, ← List.append_assoc]
            exact paired_end (Paired.mapP pq6 fun _ _ h => rowP_keep (fun b o nb e => SameBut.upd b o nb (w2 b o e)) h) ⟨q2, rfl, q2D, SameBut.upd _ _ q2D hq2⟩
          · have en : nextR z n row (j + 1) = nextR z n row j := by
              show _ ++ (if _ then _ else _) = _
              rw [if_neg c, List.append_nil]
            rw [en]
            exact if_neg_of c ⟨keep (fun b o _ e => e), qs5, hD6, pq6⟩
        · have em := topL_of hmx hge pos
          refine ⟨_, _, rfl, rfl, mx + 2, rfl, by omega, by omega, ?_⟩
          rw [show (mx + 2).toNat = (topL row).toNat + 1 by omega]
          refine walkD_range (lo := 0) (n := (topL row).toNat + 1) (fun j H' => SameBut D H3 H' ∧ ∃ qs, H' D = some (.lst qs) ∧ Paired (RowP D H') qs (accF z n ((rowsF z n k).take i) ++ nextR z n row j)) ⟨sb, qs, hD, by rw [show nextR z n row 0 = [] from rfl, List.append_nil]; exact pq⟩ (fun j H5 hj hP => ?_) (fun H5 hP => hP)
          obtain ⟨sb5, qs5, hD5, pq5⟩ := hP
          have ha5 := sb5 _ _ aD hax
          have nl := nextR_len z n row j
          refine ⟨rfl, ?_⟩
          rw [show (0 : Int) + (j : Int) = (j : Int) from Int.zero_add _]
          refine ⟨_, rfl, _, rfl, _, rfl, _, rfl, z, n, ax, row, (j : Int), rfl, .inl (.inl ha5), fun H6 s6 => ⟨_, rfl, ?_⟩⟩
          have keep : ∀ {H7 : Hp}, SameBut D H6 H7 → SameBut D H3 H7 := fun w => (sb5.trans (fun b o _ e => s6 b o e)).trans w
          have hD6 := s6 _ _ hD5
          have pq6 : Paired (RowP D H6) qs5 (accF z n ((rowsF z n k).take i) ++ nextR z n row j) := Paired.mapP pq5 fun _ _ h => rowP_keep (fun b o _ e => s6 b o e) h
          have ha6 := s6 _ _ ha5
          have lq : qs5.length ≤ 10020 := by
            rw [pq5.length, List.length_append]
            omega
          by_cases c : mayF z n row (j : Int) = true
          · have en : nextR z n row (j + 1) = nextR z n row j ++ [row ++ [(j : Int)]] := by
              show _ ++ (if _ then _ else _) = _
              rw [if_pos c]
            refine if_pos_of c ⟨_, rfl, _, rfl, (by show 1 ≤ sizeLine; omega), fun q1 nq1 => ?_⟩
            have w1 := same_upd (o := .lst [.int (j : Int)]) nq1
            refine ⟨_, _, _, _, rfl, rfl, w1 _ _ ha6, upd_same, by rw [List.length_map]; show _ + 1 ≤ _; omega, fun q2 nq2 => ?_⟩
            have w2 := Same.trans w1 (same_upd (o := .lst (row.map V.int ++ [.int (j : Int)])) nq2)
            have hq2 : upd (upd H6 q1 (.lst [.int (j : Int)])) q2 (.lst (row.map V.int ++ [.int (j : Int)])) q2 = some (.lst ((row ++ [(j : Int)]).map V.int)) := by rw [upd_same, List.map_append]; rfl
            have hD7 := w2 _ _ hD6
            have q2D : q2 ≠ D := fun e => by
              rw [e] at nq2
              exact nomatch nq2.symm.trans (w1 _ _ hD6)
            revert w2 hq2 hD7
            generalize upd (upd H6 q1 (.lst [.int (j : Int)])) q2 (.lst (row.map V.int ++ [.int (j : Int)])) = H7
            intro w2 hq2 hD7
            refine ⟨_, hD7, by omega, keep (fun b o nb e => SameBut.upd b o nb (w2 b o e)), _, upd_same, ?_⟩
            rw [en, ← List.append_assoc]
            exact paired_end (Paired.mapP pq6 fun _ _ h => rowP_keep (fun b o nb e => SameBut.upd b o nb (w2 b o e)) h) ⟨q2, rfl, q2D, SameBut.upd _ _ q2D hq2⟩
          · have en : nextR z n row (j + 1) = nextR z n row j := by
              show _ ++ (if _ then _ else _) = _
              rw [if_neg c, List.append_nil]
            rw [en]
            exact if_neg_of c ⟨keep (fun b o _ e => e), qs5, hD6, pq6⟩
      · obtain ⟨sb, qs, hD, pq⟩ := hP
        rw [pr.length, List.take_length] at pq
        exact ⟨D, qs, _, rfl, Same.trans s3 (fun b o e => sb b o (ne_of_none e nD) e), hD, pq⟩
    · obtain ⟨R, ps, v4, rfl, s3, hR, pr⟩ := hP
      exact ⟨_, rfl, q R ps H3 s3 hR pr⟩
end

/-! ### listed -/
def listF (z : Str) (n m : Nat) : List (List (List Int)) := if cntV z n m = 0 then [] else ((rowsF z (n : Int) (n + m)).map blocksOf).filter (inFam z (n : Int))
section
variable {P : Program} {w : World} {K : PySem.W.Frag} {mg : Str → Option Value} {base : Heap}
def spListed (CF CB CT : Addr) : Sp := fun vs H Q E => ∃ (z : Str) (n m : Int), vs = [.str z, .int n, .int m] ∧ (z ∉ fams → E (.ref CF) none H) ∧ (z ∈ fams → siz n m = false → E (.ref CB) none H) ∧
  (z ∈ fams → siz n m = true → (250 < cntV z n.toNat m.toNat → ∀ H', Same H H' → E (.ref CT) none H') ∧
    (cntV z n.toNat m.toNat ≤ 250 → (cntV z n.toNat m.toNat ≠ 0 → ∀ k, k ≤ n.toNat + m.toNat → (rowsF z n k).length ≤ 10000) ∧
      ∀ (L : Addr) (ps : List V) (H' : Hp), Same H H' → H' L = some (.lst ps) → Paired (fun v bs => DGv H' v n m bs) ps (listF z n.toNat m.toNat) → Q (.ref L) H'))
theorem ok_listed {f CF CB CT CD a_counted a_label_rows_ a_from_labels a_is_in : Addr} {fd fd_counted fd_label_rows_ fd_from_labels fd_is_in : FuncData} {tM : Tok} (F : Fun K "listed" "listed" s_listed f fd) (T : ErrC K mg "TooLarge" CT) (m_MOST_LISTED : mg "MOST_LISTED" = some (.int 250 tM))
    (G_counted : FnOk P w K mg base (L2N.CX P w) 3 a_counted fd_counted ["family", "n", "m"] (spCounted CF CB)) (g_counted : mg "counted" = some (.ref a_counted)) (k_counted : PySem.W.keepIn K (.ref a_counted) = true) (b_counted : Binds K fd_counted ["family", "n", "m"] [])
    (G_label_rows_ : FnOk P w K mg base CX0 2 a_label_rows_ fd_label_rows_ ["family", "n", "m"] spRows) (g_label_rows_ : mg "_label_rows" = some (.ref a_label_rows_)) (k_label_rows_ : PySem.W.keepIn K (.ref a_label_rows_) = true) (b_label_rows_ : Binds K fd_label_rows_ ["family", "n", "m"] [])
    (G_from_labels : FnOk P w K mg base (L2N.CX P w) 3 a_from_labels fd_from_labels ["n", "m", "marks"] (spFromLabels K CB)) (g_from_labels : mg "from_labels" = some (.ref a_from_labels)) (k_from_labels : PySem.W.keepIn K (.ref a_from_labels) = true) (b_from_labels : Binds K fd_from_labels ["n", "m", "marks"] [])
    (G_is_in : FnOk P w K mg base (L2N.CX P w) 4 a_is_in fd_is_in ["family", "diagram"] (spIsIn CF CD)) (g_is_in : mg "is_in" = some (.ref a_is_in)) (k_is_in : PySem.W.keepIn K (.ref a_is_in) = true) (b_is_in : Binds K fd_is_in ["family", "diagram"] []) :
    FnOk P w K mg base (L2N.CX P w) 5 f fd ["family", "n", "m"] (spListed CF CB CT) := by
  obtain ⟨gc_TooLarge, x_TooLarge, kc_TooLarge, bc_TooLarge, tc_TooLarge⟩ := T
  have r_MOST_LISTED : RelV (.int 250) (.int 250 tM) := ⟨_, rfl⟩
  refine F.okXN sc_listed (fun vs H Q E h => ?_) (fun cdv A outer s H vs Q E hr h => ?_)
  · obtain ⟨z, n, m, rfl, _⟩ := h
    rfl
  · obtain ⟨z, n, m, rfl, q1, q2, q3⟩ := h
    refine ⟨_, (pss_cons (ps_set (i := 3) sc_listed.nd rfl (.inl rfl) (pe_call G_counted (hr.mono (by decide)) rfl g_counted k_counted b_counted .nil (L2N.passes_call (L2N.takes_of rfl rfl rfl rfl) (fun _ _ _ _ h => h)) (pa_cons (pv 0) (pa_cons (pv 1) (pa_cons (pv 2) pa_nil)))))
  (pss_cons (ps_if (pt_cmpR op_gt (pv 3) (pe_glob rfl m_MOST_LISTED r_MOST_LISTED) (nomark _)) (pss_one (L2N.ps_raise rfl (L2N.takes_of rfl rfl rfl rfl) (L2N.pmk_own PySem.F.excBase_ValueError x_TooLarge gc_TooLarge kc_TooLarge (raises_own bc_TooLarge tc_TooLarge) rfl))) pss_nil)
  (pss_cons (ps_if (pt_cmpR op_eq (pv 3) pe_int (nomark _)) (pss_one (ps_ret (pe_lst pa_nil))) pss_nil)
  (pss_cons (ps_setLc (i := 4) (own := [("row", 5)]) rfl sc_listed.nd rfl rfl (sw_true rfl rfl rfl (by decide +kernel)) (pi_list (pe_call G_label_rows_ (hr.mono (by decide)) rfl g_label_rows_ k_label_rows_ b_label_rows_ .nil pass0 (pa_cons (pv 0) (pa_cons (pv 1) (pa_cons (pv 2) pa_nil))))) (blkOk_by (N := ["family", "n", "m", "many", "found", "row", "diagram"]) (sc := defScope s_listed) (by first | decide +kernel | rfl)) (fun _ _ _ _ _ => (pg_name (i := 5) sc_listed.nd rfl (.inl rfl))) (fun _ _ _ _ _ => pts_nil) (fun _ _ _ _ _ => (pe_call G_from_labels (hr.mono (by decide)) rfl g_from_labels k_from_labels b_from_labels .nil passLN (pa_cons (pv 1) (pa_cons (pv 2) (pa_cons (pv 5) pa_nil))))))
  (pss_one (ps_ret (pe_lc (own := [("diagram", 6)]) rfl sc_listed.nd (pi_list (pv 4)) (blkOk_by (N := ["family", "n", "m", "many", "found", "row", "diagram"]) (sc := defScope s_listed) (by first | decide +kernel | rfl)) (fun _ _ _ _ _ => (pg_name (i := 6) sc_listed.nd rfl (.inl rfl))) (fun _ _ _ _ _ => pts_one (pt_val (pe_call G_is_in (hr.mono (by decide)) rfl g_is_in k_is_in b_is_in .nil passLN (pa_cons (pv 0) (pa_cons (pv 6) pa_nil))))) (fun _ _ _ _ _ => (pv 6))))))))), ?_⟩
    have szl : 20000 ≤ sizeLine := by decide
    refine ⟨_, rfl, _, rfl, _, rfl, z, n, m, rfl, q1, q2, fun mz hs H1 s1 => ?_⟩
    obtain ⟨q4, q5⟩ := q3 mz hs
    have zz := siz_iff.mp hs
    generalize ec : cntV z n.toNat m.toNat = c at q4 q5
    refine ⟨_, rfl, _, _, rfl, rfl, _, rfl, ?_⟩
    by_cases c1 : c > 250
    · exact if_pos_of (decide_eq_true c1) (q4 c1 H1 s1)
    refine if_neg_of (fun h => c1 (of_decide_eq_true h)) ?_
    obtain ⟨hsz, q⟩ := q5 (by omega)
    refine ⟨_, rfl, rfl, _, rfl, ?_⟩
    unfold listF at q
    rw [ec] at q
    by_cases c0 : c = 0
    · rw [if_pos c0] at q
      exact if_pos_of (decide_eq_true (by rw [c0])) ⟨(by show 0 ≤ sizeLine; omega), fun L nL => q L [] _ (Same.trans s1 (same_upd nL)) upd_same .nil⟩
    rw [if_neg c0] at q
    refine if_neg_of (fun h => c0 (V.int.inj (of_decide_eq_true h))) ?_
    obtain ⟨n, rfl⟩ : ∃ u : Nat, n = (u : Int) := ⟨n.toNat, by omega⟩
    obtain ⟨m, rfl⟩ : ∃ u : Nat, m = (u : Int) := ⟨m.toNat, by omega⟩
    rw [show ((n : Nat) : Int).toNat = n from rfl, show ((m : Nat) : Int).toNat = m from rfl] at q hsz
    have hsz := hsz c0
    refine ⟨_, rfl, _, rfl, _, rfl, z, n, m, n + m, rfl, by omega, by omega, hsz, fun R ps H2 s2 hR pr => ?_⟩
    have len1 := hsz (n + m) (Nat.le_refl _)
    have lps := pr.length
    generalize er : rowsF z (n : Int) (n + m) = rows at q pr len1 lps
    have each : ∀ row, row ∈ rows → (row.length : Int) = (n : Int) + (m : Int) := fun row h => by
      rw [← er] at h
      have := (rowsF_ok h).1
      omega
    refine ⟨R, rfl, ⟨_, .inl (.inl hR)⟩, fun D nD => ?_⟩
    have hRD : R ≠ D := ne_of_none hR nD
    refine lc_list (xs := ps) (fun i H' => SameBut D H2 H' ∧ ∃ ds, H' D = some (.lst ds) ∧ Paired (fun v bs => DGv H' v n m bs) ds ((rows.take i).map blocksOf)) ⟨SameBut.upd, [], upd_same, .nil⟩ (fun i H' hi hP => .inl (.inl (hP.1 _ _ hRD hR))) (fun i y H' hi hP => ?_) (fun H4 hP => ?_)
    · obtain ⟨sb, ds, hD, pd⟩ := hP
      obtain ⟨row, erow, ax, rfl, nax, hax⟩ := paired_at pr hi
      have aD : ax ≠ D := ne_of_none hax nD
      have lr := each row (List.mem_of_getElem? erow)
      have ld := pd.length
      rw [List.length_map, List.length_take] at ld
      refine ⟨rfl, ?_⟩
      refine ⟨_, rfl, _, rfl, _, rfl, n, m, ax, row, rfl, .inl (.inl (sb _ _ aD hax)), by omega, (fun z => by rw [hs] at z; exact nomatch z), fun _ => ⟨fun z => absurd lr z, fun _ v H5 s5 dv => ?_⟩⟩
      have hD5 := s5 _ _ hD
      refine ⟨_, hD5, by omega, (sb.trans (fun b o _ e => s5 b o e)).trans SameBut.upd, _, upd_same, ?_⟩
      rw [List.take_succ, erow, List.map_append]
      exact paired_end (Paired.mapP pd fun _ _ h => (h.same s5).butL hD5 SameBut.upd) (dv.butL hD5 SameBut.upd)
    · obtain ⟨sb, ds, hD, pd⟩ := hP
      rw [lps, List.take_length] at pd
      have s4 : Same H2 H4 := fun b o e => sb b o (ne_of_none e nD) e
      have lds := pd.length
      rw [List.length_map] at lds
      refine ⟨_, rfl, D, rfl, ⟨_, .inl (.inl hD)⟩, fun L nL => ?_⟩
      have hDL : D ≠ L := ne_of_none hD nL
      refine lc_list (xs := ds) (fun i H' => SameBut L H4 H' ∧ ∃ es, es.length ≤ i ∧ H' L = some (.lst es) ∧ Paired (fun v bs => DGv H' v n m bs) es (((rows.map blocksOf).take i).filter (inFam z (n : Int)))) ⟨SameBut.upd, [], Nat.le_refl _, upd_same, .nil⟩ (fun i H' hi hP => .inl (.inl (hP.1 _ _ hDL hD))) (fun i y H' hi hP => ?_) (fun H5 hP => ?_)
      · obtain ⟨sbL, es, le, hL, pe⟩ := hP
        obtain ⟨bs, ebs, dv⟩ := paired_at pd hi
        have keep : ∀ {v : V} {b : List (List Int)}, DGv H4 v n m b → DGv H' v n m b := fun {v b} h => h.same (fun b o e => sbL b o (ne_of_none e nL) e)
        obtain ⟨row, erow, rfl⟩ : ∃ row, row ∈ rows ∧ blocksOf row = bs := by
          obtain ⟨row, h1, h2⟩ := List.mem_map.mp (List.mem_of_getElem? ebs)
          exact ⟨row, h1, h2⟩
        have dA : DgAt H' y n m row := ⟨keep dv, hs, each row erow⟩
        have hil : i < ds.length := (List.getElem?_eq_some_iff.mp hi).1
        refine ⟨rfl, ?_⟩
        refine ⟨_, rfl, _, rfl, z, y, n, m, _, rfl, dA.1, dA.ok, (fun nz => absurd mz nz), (fun _ nd => absurd dA.dg nd), fun _ _ H6 s6 => ⟨_, rfl, ?_⟩⟩
        have hL6 := s6 _ _ hL
        have pe6 : Paired (fun v bs => DGv H6 v n m bs) es (((rows.map blocksOf).take i).filter (inFam z (n : Int))) := Paired.mapP pe fun _ _ h => h.same s6
        have sb6 : SameBut L H4 H6 := sbL.trans (fun b o _ e => s6 b o e)
        rw [List.take_succ, ebs, List.filter_append]
        by_cases ci : inFam z (n : Int) (blocksOf row) = true
        · have e1 : (some (blocksOf row)).toList.filter (inFam z (n : Int)) = [blocksOf row] := by
            show [blocksOf row].filter _ = _
            rw [List.filter_cons, if_pos ci]
            rfl
          rw [e1]
          refine if_pos_of ci ⟨_, rfl, _, hL6, by omega, sb6.trans SameBut.upd, _, by rw [List.length_append]; show _ + 1 ≤ _; omega, upd_same, ?_⟩
          exact paired_end (Paired.mapP pe6 fun _ _ h => h.butL hL6 SameBut.upd) ((dA.1.same s6).butL hL6 SameBut.upd)
        · have e1 : (some (blocksOf row)).toList.filter (inFam z (n : Int)) = [] := by
            show [blocksOf row].filter _ = _
            rw [List.filter_cons, if_neg ci]
            rfl
          rw [e1, List.append_nil]
          exact if_neg_of ci ⟨sb6, es, by omega, hL6, pe6⟩
      · obtain ⟨sbL, es, le, hL, pe⟩ := hP
        rw [show (rows.map blocksOf).take ds.length = rows.map blocksOf from by rw [lds, ← List.length_map (f := blocksOf), List.take_length]] at pe
        have s5 : Same H4 H5 := fun b o e => sbL b o (ne_of_none e nL) e
        exact q L es H5 (Same.trans s1 (Same.trans s2 (Same.trans s4 s5))) hL pe
end

/-! ### two diagrams compared -/
theorem eqvAll_dTs : ∀ bs cs : List (List Int), PyData.eqvAll (bs.map dT) (cs.map dT) = decide (bs = cs)
  | [], [] => by simp [PyData.eqvAll]
  | [], _ :: _ => by simp [PyData.eqvAll]
  | _ :: _, [] => by simp [PyData.eqvAll]
  | b :: bs, c :: cs => by
    rw [List.map_cons, List.map_cons]
    simp only [PyData.eqvAll, eqvAll_dTs bs cs, eqv_dT]
    by_cases h1 : b = c
    · by_cases h2 : bs = cs
      · simp [h1, h2]
      · simp [h2]
    · simp [h1]
theorem eqv_dg (n m n' m' : Int) (bs cs : List (List Int)) : PyData.eqv (dDG n m bs) (dDG n' m' cs) = decide (n = n' ∧ m = m' ∧ bs = cs) := by
  unfold dDG dTT
  simp only [PyData.eqv, PyData.eqvAll, eqvAll_dTs, Bool.and_true]
  by_cases h1 : n = n'
  · by_cases h2 : m = m'
    · by_cases h3 : bs = cs
      · simp [h1, h2, h3]
      · simp [h3]
    · simp [h2]
  · simp [h1]
/-- a list of diagrams -/
def dDgs (n m : Int) (ds : List (List (List Int))) : PyData := .list (ds.map (dDG n m))
theorem dgs_dp {K : PySem.W.Frag} {H : Hp} {n m : Int} : ∀ {vs : List V} {ds : List (List (List Int))}, Paired (fun v bs => DGv H v n m bs) vs ds → DpAll K H vs (ds.map (dDG n m))
  | _, _, .nil => .nil
  | _, _, .cons a b => .cons a.dp (dgs_dp b)
theorem wt_ints : ∀ b : List Int, wtAll (b.map PyData.int) = 1923 * b.length
  | [] => rfl
  | a :: b => by
    rw [List.map_cons, List.length_cons]
    simp only [wtAll, wt, wt_ints b]
    omega
theorem wt_dTs : ∀ bs : List (List Int), wtAll (bs.map dT) = 5 * bs.length + 1923 * bs.flatten.length
  | [] => rfl
  | b :: bs => by
    rw [List.map_cons, List.length_cons, List.flatten_cons, List.length_append]
    simp only [wtAll, dT, wt, wt_ints b]
    have := wt_dTs bs
    omega
theorem smL_dgW {n m : Int} {bs : List (List Int)} (h : IsDg n m bs) : SmL 3 27000 (dDG n m bs) := by
  have e := smL_dg h
  have z := siz_iff.mp h.sz
  have f := h.few.1
  have l := h.pm.length_eq
  rw [ixs_len] at l
  refine ⟨e.lay, e.dep, e.sho, ?_⟩
  unfold dDG dTT
  simp only [wt, wtAll, wt_dTs]
  omega
theorem smL_dgs {n m : Int} {ds : List (List (List Int))} {c : Nat} (h : ∀ d ∈ ds, IsDg n m d) (hc : ds.length ≤ c) : SmL 4 (27002 * c + 3) (dDgs n m ds) := by
  have e := smL_list (ds := ds.map (dDG n m)) (n := 3) (k := 27000) fun D hD => by
    obtain ⟨d, hd, rfl⟩ := List.mem_map.mp hD
    exact smL_dgW (h d hd)
  rw [List.length_map] at e
  exact ⟨e.lay, e.dep, e.sho, Nat.le_trans e.wgt (by have := Nat.mul_le_mul_left 27002 hc; omega)⟩

theorem op_never {X : Cx} {op : Value → Value → Sem Value} : OpR X op (fun _ _ _ _ => False) := by
  intro pins s σ H x y v u Q I rx ry h
  exact h.elim
theorem ix_never {X : Cx} : IxR X (fun _ _ _ _ => False) := by
  intro value slice pins s σ H x y v u Q I rx ry h
  exact h.elim
theorem pt_never {X : Cx} {e : Expr} : PT X e (fun _ _ _ => False) := ⟨by
  intro pins s σ H Q I h
  exact h.elim⟩
section
variable {P : Program} {w : World} {K : PySem.W.Frag} {mg : Str → Option Value} {base : Heap}
/-! ### what is refused: _order_key, is_before, text_of, squares -/
def spOrderKeyE (CD : Addr) : Sp := fun vs H Q E => ∃ (v : V) (n m : Int) (bs : List (List Int)), vs = [v] ∧ DGv H v n m bs ∧ DgOk n m bs ∧ (¬ IsDg n m bs → ∀ H', Same H H' → E (.ref CD) none H') ∧ (IsDg n m bs → ∀ u H', Same H H' → Q u H')
theorem ok_order_key_ {f CD : Addr} {fd : FuncData} (F : Fun K "_order_key" "_order_key" s_order_key_ f fd)
    {a_labels : Addr} {fd_labels : FuncData} (G_labels : FnOk P w K mg base (L2N.CX P w) 4 a_labels fd_labels ["diagram"] (spLabels CD)) (g_labels : mg "labels" = some (.ref a_labels)) (k_labels : PySem.W.keepIn K (.ref a_labels) = true) (b_labels : Binds K fd_labels ["diagram"] []) :
    FnOk P w K mg base (L2N.CX P w) 5 f fd ["diagram"] (spOrderKeyE CD) := by
  refine F.okXN sc_order_key_ (fun vs H Q E h => ?_) (fun cdv A outer s H vs Q E hr h => ?_)
  · obtain ⟨v, n, m, bs, rfl, _⟩ := h
    rfl
  · obtain ⟨v, n, m, bs, rfl, hv, hb, e, q⟩ := h
    refine ⟨_, (pss_cons (ps_set (i := 1) sc_order_key_.nd rfl (.inl rfl) (pe_call G_labels (hr.mono (by decide)) rfl g_labels k_labels b_labels .nil (L2N.passes_call (L2N.takes_of rfl rfl rfl rfl) (fun _ _ _ _ h => h)) (pa_cons (pv 0) pa_nil)))
  (pss_one (ps_ret (pe_tup (pa_cons (pe_ix ix_tup (pv 0) pe_int (fun _ _ => rfl)) (pa_cons (pe_ix ix_tup (pv 0) pe_int (fun _ _ => rfl)) (pa_cons (pv 1) pa_nil))))))), ?_⟩
    refine ⟨_, rfl, v, n, m, bs, rfl, hv, hb, fun nd H' s' => e nd H' s', fun dg D H1 s1 _ hD => ?_⟩
    obtain ⟨t, vb, rfl, ht, _⟩ := DGv.same s1 hv
    refine ⟨_, rfl, t, _, 0, .int n, rfl, rfl, .inl (.inl ht), atI_nat (j := 0) rfl, _, rfl, t, _, 1, .int m, rfl, rfl, .inl (.inl ht), atI_nat (j := 1) rfl, _, rfl, (by show 3 ≤ sizeLine; decide), fun u nu => ?_⟩
    exact q dg _ _ (Same.trans s1 (same_upd nu))
def spIsBeforeE (CD : Addr) : Sp := fun vs H Q E => ∃ (v : V) (n m : Int) (bs : List (List Int)) (v' : V) (n' m' : Int) (bs' : List (List Int)), vs = [v, v'] ∧ DGv H v n m bs ∧ DgOk n m bs ∧ DGv H v' n' m' bs' ∧ DgOk n' m' bs' ∧ ¬ IsDg n' m' bs' ∧
  ∀ H', Same H H' → E (.ref CD) none H'
theorem ok_is_before {f CD : Addr} {fd : FuncData} (F : Fun K "is_before" "is_before" s_is_before f fd)
    {a_order_key_ : Addr} {fd_order_key_ : FuncData} (G_order_key_ : FnOk P w K mg base (L2N.CX P w) 5 a_order_key_ fd_order_key_ ["diagram"] (spOrderKeyE CD)) (g_order_key_ : mg "_order_key" = some (.ref a_order_key_)) (k_order_key_ : PySem.W.keepIn K (.ref a_order_key_) = true) (b_order_key_ : Binds K fd_order_key_ ["diagram"] []) :
    FnOk P w K mg base (L2N.CX P w) 6 f fd ["one", "other"] (spIsBeforeE CD) := by
  refine F.okXN sc_is_before (fun vs H Q E h => ?_) (fun cdv A outer s H vs Q E hr h => ?_)
  · obtain ⟨v, n, m, bs, v', n', m', bs', rfl, _⟩ := h
    rfl
  · obtain ⟨v, n, m, bs, v', n', m', bs', rfl, hv, hb, hv', hb', nd', q⟩ := h
    refine ⟨_, (pss_one (ps_ret (pe_cmpR op_never (pe_call G_order_key_ (hr.mono (by decide)) rfl g_order_key_ k_order_key_ b_order_key_ .nil (L2N.passes_call (L2N.takes_of rfl rfl rfl rfl) (fun _ _ _ _ h => h)) (pa_cons (pv 0) pa_nil)) (pe_call G_order_key_ (hr.mono (by decide)) rfl g_order_key_ k_order_key_ b_order_key_ .nil (L2N.passes_call (L2N.takes_of rfl rfl rfl rfl) (fun _ _ _ _ h => h)) (pa_cons (pv 1) pa_nil)) (nomark _)))), ?_⟩
    refine ⟨_, rfl, v, n, m, bs, rfl, hv, hb, fun _ => q, fun dg u H1 s1 => ?_⟩
    exact ⟨_, rfl, v', n', m', bs', rfl, hv'.same s1, hb', fun _ H2 s2 => q H2 (Same.trans s1 s2), fun dg' => absurd dg' nd'⟩
def spTextOfE (CD : Addr) : Sp := fun vs H Q E => ∃ (v : V) (n m : Int) (bs : List (List Int)), vs = [v] ∧ DGv H v n m bs ∧ DgOk n m bs ∧ ¬ IsDg n m bs ∧ ∀ H', Same H H' → E (.ref CD) none H'
theorem ok_text_of {f CD : Addr} {fd : FuncData} {tL : Tok} (F : Fun K "text_of" "text_of" s_text_of f fd) (m_LETTERS : mg "LETTERS" = some (.str "abcdefghijkl" tL))
    {a_labels : Addr} {fd_labels : FuncData} (G_labels : FnOk P w K mg base (L2N.CX P w) 4 a_labels fd_labels ["diagram"] (spLabels CD)) (g_labels : mg "labels" = some (.ref a_labels)) (k_labels : PySem.W.keepIn K (.ref a_labels) = true) (b_labels : Binds K fd_labels ["diagram"] []) :
    FnOk P w K mg base (L2N.CX P w) 5 f fd ["diagram"] (spTextOfE CD) := by
  have r_LETTERS : RelV (.str "abcdefghijkl") (.str "abcdefghijkl" tL) := ⟨_, rfl⟩
  refine F.okXN sc_text_of (fun vs H Q E h => ?_) (fun cdv A outer s H vs Q E hr h => ?_)
  · obtain ⟨v, n, m, bs, rfl, _⟩ := h
    rfl
  · obtain ⟨v, n, m, bs, rfl, hv, hb, nd, q⟩ := h
    refine ⟨_, (pss_cons (ps_setLc (i := 1) (own := [("mark", 3)]) rfl sc_text_of.nd rfl rfl (sw_true rfl rfl rfl (by decide +kernel)) (pi_list (pe_call G_labels (hr.mono (by decide)) rfl g_labels k_labels b_labels .nil (L2N.passes_call (L2N.takes_of rfl rfl rfl rfl) (fun _ _ _ _ h => h)) (pa_cons (pv 0) pa_nil))) (blkOk_by (N := ["diagram", "letters", "n", "mark"]) (sc := defScope s_text_of) (by first | decide +kernel | rfl)) (fun _ _ _ _ _ => (pg_name (i := 3) sc_text_of.nd rfl (.inl rfl))) (fun _ _ _ _ _ => pts_nil) (fun _ _ _ _ _ => (pe_ix ix_never (pe_glob rfl m_LETTERS r_LETTERS) (pv 3) (fun _ _ => rfl))))
  pss_never), ?_⟩
    exact ⟨_, rfl, v, n, m, _, rfl, hv, hb, fun _ H' s' => q H' s', fun dg => absurd dg nd⟩
def spSquaresE (CF CT : Addr) : Sp := fun vs H Q E => ∃ (z : Str) (n : Int), vs = [.str z, .int n] ∧ ((z ∉ fams ∧ E (.ref CF) none H) ∨ (z ∈ fams ∧ siz n n = true ∧ 250 < cntV z n.toNat n.toNat ∧ ∀ H', Same H H' → E (.ref CT) none H'))
theorem ok_squares {f CF CB CT : Addr} {fd : FuncData} (F : Fun K "squares" "squares" s_squares f fd)
    {a_listed : Addr} {fd_listed : FuncData} (G_listed : FnOk P w K mg base (L2N.CX P w) 5 a_listed fd_listed ["family", "n", "m"] (spListed CF CB CT)) (g_listed : mg "listed" = some (.ref a_listed)) (k_listed : PySem.W.keepIn K (.ref a_listed) = true) (b_listed : Binds K fd_listed ["family", "n", "m"] []) :
    FnOk P w K mg base (L2N.CX P w) 6 f fd ["family", "n"] (spSquaresE CF CT) := by
  refine F.okXN sc_squares (fun vs H Q E h => ?_) (fun cdv A outer s H vs Q E hr h => ?_)
  · obtain ⟨z, n, rfl, _⟩ := h
    rfl
  · obtain ⟨z, n, rfl, q⟩ := h
    refine ⟨_, (pss_one (ps_ret (pe_lc (own := [("diagram", 2)]) rfl sc_squares.nd (pi_list (pe_call G_listed (hr.mono (by decide)) rfl g_listed k_listed b_listed .nil (L2N.passes_call (L2N.takes_of rfl rfl rfl rfl) (fun _ _ _ _ h => h)) (pa_cons (pv 0) (pa_cons (pv 1) (pa_cons (pv 1) pa_nil))))) (blkOk_by (N := ["family", "n", "diagram"]) (sc := defScope s_squares) (by first | decide +kernel | rfl)) (fun _ _ _ _ _ => (pg_name (i := 2) sc_squares.nd rfl (.inl rfl))) (fun _ _ _ _ _ => pts_one (pt_never)) (fun _ _ _ _ _ => (pv 2))))), ?_⟩
    rcases q with ⟨nz, q⟩ | ⟨mz, sz, big, q⟩
    · exact ⟨_, rfl, _, rfl, _, rfl, z, n, n, rfl, fun _ => q, (fun mz => absurd mz nz), fun mz => absurd mz nz⟩
    · exact ⟨_, rfl, _, rfl, _, rfl, z, n, n, rfl, fun nz => absurd mz nz, (fun _ ns => nomatch ns.symm.trans sz), fun _ _ => ⟨fun _ H' s' => q H' s', fun few => absurd big (by omega)⟩⟩
end

section
variable {P : Program} {w : World} {K : PySem.W.Frag} {mg : Str → Option Value} {base : Heap}
/-! ### _law_kind -/
structure KindE (K : PySem.W.Frag) (CF CD CB CT D : Addr) (i : Nat) : Prop where
  C : ExcC K D
  lt : i < 4
  k0 : PySem.W.kitOne K (.ref D) (.ref CF) = some (decide (i = 0))
  k1 : PySem.W.kitOne K (.ref D) (.ref CD) = some (decide (i = 1))
  k2 : PySem.W.kitOne K (.ref D) (.ref CB) = some (decide (i = 2))
  k3 : PySem.W.kitOne K (.ref D) (.ref CT) = some (decide (i = 3))
def nameE (i : Nat) : Str := (["!family", "!diagram", "!number", "!large"] : List Str).getD i ""
def spLErr (K : PySem.W.Frag) (CF CD CB CT : Addr) : Addr → Value → Option Addr → Sp := fun a cls d vs H Q _ => ∃ D i, cls = .ref D ∧ d = none ∧ vs = [.ref a] ∧ KindE K CF CD CB CT D i ∧ ∀ H', Same H H' → Q (.str (nameE i)) H'
theorem ok_law_kind {f CF CD CB CT : Addr} {fd : FuncData} (F : Fun K "_law_kind" "_law_kind" s_law_kind f fd) (m_NotFamily : mg "NotFamily" = some (.ref CF)) (m_NotDiagram : mg "NotDiagram" = some (.ref CD)) (m_BadNumber : mg "BadNumber" = some (.ref CB)) (m_TooLarge : mg "TooLarge" = some (.ref CT)) (z_isinstance : mg "isinstance" = none) :
    FnE P w K mg base 1 f fd ["error"] (spLErr K CF CD CB CT) := by
  have r_NotFamily : RelV (.ref CF) (.ref CF) := rfl
  have r_NotDiagram : RelV (.ref CD) (.ref CD) := rfl
  have r_BadNumber : RelV (.ref CB) (.ref CB) := rfl
  have r_TooLarge : RelV (.ref CT) (.ref CT) := rfl
  refine F.okE sc_law_kind (fun a cls d vs H Q E h => ?_) (fun cdv A outer s H vs Q E a oe cls d hz hf hr h => ?_)
  · obtain ⟨D, z, _, _, rfl, _⟩ := h
    rfl
  · obtain ⟨D, i, rfl, rfl, rfl, k, q⟩ := h
    refine ⟨_, (pss_cons (ps_set (i := 1) sc_law_kind.nd rfl (.inl rfl) (pe_lst (pa_cons (pe_callB (call_isEH hz hf) (by rfl) z_isinstance boot_isinstance (pa_cons (pv 0) (pa_cons (pe_glob rfl m_NotFamily r_NotFamily) pa_nil))) (pa_cons (pe_callB (call_isEH hz hf) (by rfl) z_isinstance boot_isinstance (pa_cons (pv 0) (pa_cons (pe_glob rfl m_NotDiagram r_NotDiagram) pa_nil))) pa_nil))))
  (pss_cons (ps_set (i := 1) sc_law_kind.nd rfl (.inl rfl) (pe_op op_cat (pv 1) (pe_lst (pa_cons (pe_callB (call_isEH hz hf) (by rfl) z_isinstance boot_isinstance (pa_cons (pv 0) (pa_cons (pe_glob rfl m_BadNumber r_BadNumber) pa_nil))) (pa_cons (pe_callB (call_isEH hz hf) (by rfl) z_isinstance boot_isinstance (pa_cons (pv 0) (pa_cons (pe_glob rfl m_TooLarge r_TooLarge) pa_nil))) pa_nil)))))
  (pss_cons (ps_if (pt_cmpR op_eq (pe_bm PySem.F.plainAttrs_list PySem.F.slot_list_count PySem.F.type_list_count mt_countV (pv 1) (pa_cons pe_bl pa_nil)) pe_int (nomark _)) (pss_one (ps_ret (pe_ix ix_list (pe_lst (pa_cons pe_str (pa_cons pe_str (pa_cons pe_str (pa_cons pe_str pa_nil))))) (pe_bm PySem.F.plainAttrs_list PySem.F.slot_list_index PySem.F.type_list_index mt_index (pv 1) (pa_cons pe_bl pa_nil)) (fun _ _ => rfl)))) pss_nil)
  (pss_one (ps_ret pe_str))))), ?_⟩
    have szl : 20000 ≤ sizeLine := by decide
    refine ⟨_, rfl, D, rfl, rfl, k.C, .ref CF, .ref CF, _, rfl, fun _ r => r, k.k0, _, rfl, D, rfl, rfl, k.C, .ref CD, .ref CD, _, rfl, fun _ r => r, k.k1, (by show 2 ≤ sizeLine; decide), fun L1 n1 => ?_⟩
    have s1 := same_upd (o := .lst [.bl (decide (i = 0)), .bl (decide (i = 1))]) n1
    refine ⟨_, rfl, _, rfl, D, rfl, rfl, k.C, .ref CB, .ref CB, _, rfl, fun _ r => r, k.k2, _, rfl, D, rfl, rfl, k.C, .ref CT, .ref CT, _, rfl, fun _ r => r, k.k3, (by show 2 ≤ sizeLine; decide), fun L2 n2 => ?_⟩
    have s2 := same_upd (o := .lst [.bl (decide (i = 2)), .bl (decide (i = 3))]) n2
    refine ⟨L1, L2, _, _, rfl, rfl, s2 _ _ upd_same, upd_same, (by show 4 ≤ sizeLine; decide), fun L3 n3 => ?_⟩
    have s3 := same_upd (o := .lst ([.bl (decide (i = 0)), .bl (decide (i = 1))] ++ [.bl (decide (i = 2)), .bl (decide (i = 3))])) n3
    have s13 := Same.trans s1 (Same.trans s2 s3)
    have lt := k.lt
    have hL3 : (upd (upd (upd H L1 (.lst [.bl (decide (i = 0)), .bl (decide (i = 1))])) L2 (.lst [.bl (decide (i = 2)), .bl (decide (i = 3))])) L3 (.lst ([.bl (decide (i = 0)), .bl (decide (i = 1))] ++ [.bl (decide (i = 2)), .bl (decide (i = 3))]))) L3 = some (.lst [.bl (decide (i = 0)), .bl (decide (i = 1)), .bl (decide (i = 2)), .bl (decide (i = 3))]) := upd_same
    revert s13 hL3
    generalize upd (upd (upd H L1 _) L2 _) L3 (.lst ([.bl (decide (i = 0)), .bl (decide (i = 1))] ++ [.bl (decide (i = 2)), .bl (decide (i = 3))])) = H3
    intro s13 hL3
    rcases (show i = 0 ∨ i = 1 ∨ i = 2 ∨ i = 3 by omega) with rfl | rfl | rfl | rfl
    · refine ⟨_, rfl, .inl ⟨rfl, _, .inl (.inl hL3)⟩, L3, _, .bl true, rfl, rfl, .inl (.inl hL3), rfl, rfl, rfl, _, rfl, if_pos_of rfl ?_⟩
      refine ⟨(by show 4 ≤ sizeLine; decide), fun L4 n4 => ?_⟩
      have s4 := same_upd (o := .lst [.str "!family", .str "!diagram", .str "!number", .str "!large"]) n4
      refine ⟨_, rfl, .inl ⟨rfl, _, .inl (.inl (s4 _ _ hL3))⟩, L3, _, .bl true, 0, .bl true, rfl, rfl, .inl (.inl (s4 _ _ hL3)), rfl, rfl, rfl, rfl, fun m z hm hz => ?_, L4, _, _, .str (nameE 0), rfl, rfl, .inl (.inl upd_same), atI_nat (j := 0) rfl, q _ (Same.trans s13 s4)⟩
      exact absurd hm (Nat.not_lt_zero m)
    · refine ⟨_, rfl, .inl ⟨rfl, _, .inl (.inl hL3)⟩, L3, _, .bl true, rfl, rfl, .inl (.inl hL3), rfl, rfl, rfl, _, rfl, if_pos_of rfl ?_⟩
      refine ⟨(by show 4 ≤ sizeLine; decide), fun L4 n4 => ?_⟩
      have s4 := same_upd (o := .lst [.str "!family", .str "!diagram", .str "!number", .str "!large"]) n4
      refine ⟨_, rfl, .inl ⟨rfl, _, .inl (.inl (s4 _ _ hL3))⟩, L3, _, .bl true, 1, .bl true, rfl, rfl, .inl (.inl (s4 _ _ hL3)), rfl, rfl, rfl, rfl, fun m z hm hz => ?_, L4, _, _, .str (nameE 1), rfl, rfl, .inl (.inl upd_same), atI_nat (j := 1) rfl, q _ (Same.trans s13 s4)⟩
      match m, hm with
      | 0, _ =>
        obtain rfl := Option.some.inj hz
        rfl
    · refine ⟨_, rfl, .inl ⟨rfl, _, .inl (.inl hL3)⟩, L3, _, .bl true, rfl, rfl, .inl (.inl hL3), rfl, rfl, rfl, _, rfl, if_pos_of rfl ?_⟩
      refine ⟨(by show 4 ≤ sizeLine; decide), fun L4 n4 => ?_⟩
      have s4 := same_upd (o := .lst [.str "!family", .str "!diagram", .str "!number", .str "!large"]) n4
      refine ⟨_, rfl, .inl ⟨rfl, _, .inl (.inl (s4 _ _ hL3))⟩, L3, _, .bl true, 2, .bl true, rfl, rfl, .inl (.inl (s4 _ _ hL3)), rfl, rfl, rfl, rfl, fun m z hm hz => ?_, L4, _, _, .str (nameE 2), rfl, rfl, .inl (.inl upd_same), atI_nat (j := 2) rfl, q _ (Same.trans s13 s4)⟩
      match m, hm with
      | 0, _ =>
        obtain rfl := Option.some.inj hz
        rfl
      | 1, _ =>
        obtain rfl := Option.some.inj hz
        rfl
    · refine ⟨_, rfl, .inl ⟨rfl, _, .inl (.inl hL3)⟩, L3, _, .bl true, rfl, rfl, .inl (.inl hL3), rfl, rfl, rfl, _, rfl, if_pos_of rfl ?_⟩
      refine ⟨(by show 4 ≤ sizeLine; decide), fun L4 n4 => ?_⟩
      have s4 := same_upd (o := .lst [.str "!family", .str "!diagram", .str "!number", .str "!large"]) n4
      refine ⟨_, rfl, .inl ⟨rfl, _, .inl (.inl (s4 _ _ hL3))⟩, L3, _, .bl true, 3, .bl true, rfl, rfl, .inl (.inl (s4 _ _ hL3)), rfl, rfl, rfl, rfl, fun m z hm hz => ?_, L4, _, _, .str (nameE 3), rfl, rfl, .inl (.inl upd_same), atI_nat (j := 3) rfl, q _ (Same.trans s13 s4)⟩
      match m, hm with
      | 0, _ =>
        obtain rfl := Option.some.inj hz
        rfl
      | 1, _ =>
        obtain rfl := Option.some.inj hz
        rfl
      | 2, _ =>
        obtain rfl := Option.some.inj hz
        rfl
end

section
variable {P : Program} {w : World} {K : PySem.W.Frag} {mg : Str → Option Value} {base : Heap}
/-! ### index_of, with all its errors -/
def spIndexOfT (CF CD CB CT : Addr) : Sp := fun vs H Q E => ∃ (z : Str) (v : V) (n m : Int) (bs : List (List Int)), vs = [.str z, v] ∧ DGv H v n m bs ∧ DgOk n m bs ∧ (z ∉ fams → E (.ref CF) none H) ∧ (z ∈ fams → ¬ IsDg n m bs → ∀ H', Same H H' → E (.ref CD) none H') ∧
  (z ∈ fams → IsDg n m bs → ∃ n' m' : Nat, n = n' ∧ m = m' ∧ (inFam z n bs = false → ∀ H', Same H H' → E (.ref CB) none H') ∧
  (inFam z n bs = true → (250 < cntV z n' m' → ∀ H', Same H H' → E (.ref CT) none H') ∧ (cntV z n' m' ≤ 250 → (cntV z n' m' ≠ 0 → ∀ k, k ≤ n' + m' → (rowsF z n k).length ≤ 10000) ∧ (∀ d ∈ listF z n' m', IsDg n' m' d) ∧ (listF z n' m').length ≤ 250 ∧
    ∃ j : Nat, (listF z n' m')[j]? = some bs ∧ (∀ i : Nat, i < j → (listF z n' m')[i]? ≠ some bs) ∧ ∀ H', Same H H' → Q (.int (j : Int)) H')))
theorem IsDg.ok {n m : Int} {bs : List (List Int)} (h : IsDg n m bs) : DgOk n m bs := by
  have z := siz_iff.mp h.sz
  exact (h.few.more (by decide)).ok (by omega) (by omega)
theorem ok_index_of {f CF CD CB CT : Addr} {fd : FuncData} (F : Fun K "index_of" "index_of" s_index_of f fd) (T : ErrC K mg "BadNumber" CB)
    {a_is_in : Addr} {fd_is_in : FuncData} (G_is_in : FnOk P w K mg base (L2N.CX P w) 4 a_is_in fd_is_in ["family", "diagram"] (spIsIn CF CD)) (g_is_in : mg "is_in" = some (.ref a_is_in)) (k_is_in : PySem.W.keepIn K (.ref a_is_in) = true) (b_is_in : Binds K fd_is_in ["family", "diagram"] [])
    {a_listed : Addr} {fd_listed : FuncData} (G_listed : FnOk P w K mg base (L2N.CX P w) 5 a_listed fd_listed ["family", "n", "m"] (spListed CF CB CT)) (g_listed : mg "listed" = some (.ref a_listed)) (k_listed : PySem.W.keepIn K (.ref a_listed) = true) (b_listed : Binds K fd_listed ["family", "n", "m"] []) :
    FnOk P w K mg base (L2N.CX P w) 6 f fd ["family", "diagram"] (spIndexOfT CF CD CB CT) := by
  obtain ⟨gc_BadNumber, x_BadNumber, kc_BadNumber, bc_BadNumber, tc_BadNumber⟩ := T
  refine F.okXN sc_index_of (fun vs H Q E h => ?_) (fun cdv A outer s H vs Q E hr h => ?_)
  · obtain ⟨z, v, n, m, bs, rfl, _⟩ := h
    rfl
  · obtain ⟨z, v, n, m, bs, rfl, hv, dok, qF, qD, q0⟩ := h
    refine ⟨_, (pss_cons (ps_if (pt_not (pt_val (pe_call G_is_in (hr.mono (by decide)) rfl g_is_in k_is_in b_is_in .nil (L2N.passes_call (L2N.takes_of rfl rfl rfl rfl) (fun _ _ _ _ h => h)) (pa_cons (pv 0) (pa_cons (pv 1) pa_nil))))) (pss_one (L2N.ps_raise rfl (L2N.takes_of rfl rfl rfl rfl) (L2N.pmk_own PySem.F.excBase_ValueError x_BadNumber gc_BadNumber kc_BadNumber (raises_own bc_BadNumber tc_BadNumber) rfl))) pss_nil)
  (pss_one (ps_ret (pe_bm PySem.F.plainAttrs_list PySem.F.slot_list_index PySem.F.type_list_index (mt_indexD (room65 hr)) (pe_call G_listed (hr.mono (by decide)) rfl g_listed k_listed b_listed .nil (L2N.passes_call (L2N.takes_of rfl rfl rfl rfl) (fun _ _ _ _ h => h)) (pa_cons (pv 0) (pa_cons (pe_ix ix_tup (pv 1) pe_int (fun _ _ => rfl)) (pa_cons (pe_ix ix_tup (pv 1) pe_int (fun _ _ => rfl)) pa_nil)))) (pa_cons (pv 1) pa_nil))))), ?_⟩
    refine ⟨_, rfl, _, rfl, z, v, n, m, bs, rfl, hv, dok, qF, qD, fun mz dg H1 s1 => ⟨_, rfl, ?_⟩⟩
    obtain ⟨n, m, rfl, rfl, q1, q2⟩ := q0 mz dg
    by_cases c : inFam z n bs = true
    · rw [c]
      refine if_neg_of Bool.false_ne_true ?_
      have hv1 := hv.same s1
      obtain ⟨t, vb, rfl, ht, _⟩ := id hv1
      refine ⟨_, rfl, _, rfl, t, _, 0, _, rfl, rfl, .inl (.inl ht), atI_nat (j := 0) rfl, _, rfl, t, _, 1, _, rfl, rfl, .inl (.inl ht), atI_nat (j := 1) rfl, z, n, m, rfl, fun no => absurd mz no, (fun _ no => nomatch no.symm.trans dg.sz), fun _ _ => ⟨fun big H' s' => (q2 c).1 big H' (Same.trans s1 s'), fun small => ?_⟩⟩
      obtain ⟨rows, each, len, j, ej, fst, q⟩ := (q2 c).2 small
      refine ⟨rows, fun L ps H2 s2 hL pr => ?_⟩
      refine ⟨.inl ⟨rfl, _, .inl (.inl hL)⟩, _, rfl, ?_⟩
      have pr' : Paired (fun v bs => DGv H2 v n m bs) ps (listF z n m) := pr
      refine ⟨L, _, dDG n m bs, (listF z n m).map (dDG n m), j, dDG n m bs, rfl, rfl, .lst (.inl (.inl hL)) (dgs_dp pr'), (hv1.same s2).dp, (smL_dgs each len).shaped (by decide), dDG_shaped _ _ _, by rw [List.getElem?_map, ej]; rfl, by rw [eqv_dg]; simp, fun i z' hi e => ?_, q _ (Same.trans s1 s2)⟩
      rw [List.getElem?_map] at e
      cases e1 : (listF z n m)[i]? with
      | none =>
        rw [e1] at e
        exact nomatch e
      | some d =>
        rw [e1] at e
        rw [← Option.some.inj e, eqv_dg]
        refine decide_eq_false fun y => fst i hi ?_
        rw [e1, y.2.2]
    · rw [Bool.not_eq_true _ |>.mp c]
      exact if_pos_of rfl (q1 (Bool.not_eq_true _ |>.mp c) H1 s1)
end

section
variable {P : Program} {w : World} {K : PySem.W.Frag} {mg : Str → Option Value} {base : Heap}
/-! ### _law_told -/
/-- the classes of errors, as _law_kind names them -/
structure ErrE (K : PySem.W.Frag) (mg : Str → Option Value) (CE CF CD CB CT : Addr) : Prop where
  gE : mg "WorthError" = some (.ref CE)
  ebc : PySem.W.subIn K (.ref CE) (.type "BaseException") = some true
  ehd : PySem.W.hasDictIn K CE = true
  ety : PySem.W.typeIn K (.ref CE) = some (.type "type")
  sF : PySem.W.subIn K (.ref CF) (.ref CE) = some true
  sD : PySem.W.subIn K (.ref CD) (.ref CE) = some true
  sB : PySem.W.subIn K (.ref CB) (.ref CE) = some true
  sT : PySem.W.subIn K (.ref CT) (.ref CE) = some true
  kF : KindE K CF CD CB CT CF 0
  kD : KindE K CF CD CB CT CD 1
  kB : KindE K CF CD CB CT CB 2
  kT : KindE K CF CD CB CT CT 3
/-- what is told: the name of an error, or what is returned -/
def spTold : Sp := fun vs H Q _ => ∃ (way : Int) (z : Str) (v u : V) (n m : Int) (bs : List (List Int)) (n2 m2 : Int) (bs2 : List (List Int)), vs = [.int way, .str z, v, u] ∧ DGv H v n m bs ∧ DgOk n m bs ∧
  ((way = 0 ∧ DGv H u n2 m2 bs2 ∧ DgOk n2 m2 bs2 ∧ ¬ IsDg n2 m2 bs2 ∧ ∀ H', Same H H' → Q (.str (nameE 1)) H') ∨
   (way = 1 ∧ ((z ∉ fams ∧ ∀ H', Same H H' → Q (.str (nameE 0)) H') ∨ (z ∈ fams ∧ ¬ IsDg n m bs ∧ ∀ H', Same H H' → Q (.str (nameE 1)) H') ∨ (∃ n' m' : Nat, n = n' ∧ m = m' ∧ z ∈ fams ∧ IsDg n m bs ∧ inFam z n bs = false ∧ ∀ H', Same H H' → Q (.str (nameE 2)) H') ∨
      (∃ n' m' : Nat, n = n' ∧ m = m' ∧ z ∈ fams ∧ IsDg n m bs ∧ inFam z n bs = true ∧ 250 < cntV z n' m' ∧ ∀ H', Same H H' → Q (.str (nameE 3)) H'))) ∨
   (way = 2 ∧ ((z ∉ fams ∧ ∀ H', Same H H' → Q (.str (nameE 0)) H') ∨ (z ∈ fams ∧ ¬ IsDg n m bs ∧ ∀ H', Same H H' → Q (.str (nameE 1)) H'))) ∨
   (way = 3 ∧ z ∈ fams ∧ ∃ (t : Addr) (r : List V), u = .ref t ∧ H t = some (.tup (.int n2 :: .int m2 :: r)) ∧
      ((siz n2 m2 = false ∧ ∀ H', Same H H' → Q (.str (nameE 2)) H') ∨ (siz n2 m2 = true ∧ 250 < cntV z n2.toNat m2.toNat ∧ ∀ H', Same H H' → Q (.str (nameE 3)) H') ∨
       (siz n2 m2 = true ∧ cntV z n2.toNat m2.toNat ≤ 250 ∧ (cntV z n2.toNat m2.toNat ≠ 0 → ∀ k, k ≤ n2.toNat + m2.toNat → (rowsF z n2 k).length ≤ 10000) ∧ ∀ (L : Addr) (ps : List V) (H' : Hp), Same H H' → H' L = some (.lst ps) → Paired (fun v bs => DGv H' v n2 m2 bs) ps (listF z n2.toNat m2.toNat) → Q (.ref L) H'))) ∨
   (way = 4 ∧ ∃ (t : Addr) (r : List V), u = .ref t ∧ H t = some (.tup (.int n2 :: r)) ∧ ((z ∉ fams ∧ ∀ H', Same H H' → Q (.str (nameE 0)) H') ∨ (z ∈ fams ∧ siz n2 n2 = true ∧ 250 < cntV z n2.toNat n2.toNat ∧ ∀ H', Same H H' → Q (.str (nameE 3)) H'))) ∨
   (way = 5 ∧ ¬ IsDg n m bs ∧ ∀ H', Same H H' → Q (.str (nameE 1)) H'))
theorem ok_law_told {f CE CF CD CB CT : Addr} {fd : FuncData} (F : Fun K "_law_told" "_law_told" s_law_told f fd) (T : ErrE K mg CE CF CD CB CT)
    {a_is_before : Addr} {fd_is_before : FuncData} (G_is_before : FnOk P w K mg base (L2N.CX P w) 6 a_is_before fd_is_before ["one", "other"] (spIsBeforeE CD)) (g_is_before : mg "is_before" = some (.ref a_is_before)) (k_is_before : PySem.W.keepIn K (.ref a_is_before) = true) (b_is_before : Binds K fd_is_before ["one", "other"] [])
    {a_index_of : Addr} {fd_index_of : FuncData} (G_index_of : FnOk P w K mg base (L2N.CX P w) 6 a_index_of fd_index_of ["family", "diagram"] (spIndexOfT CF CD CB CT)) (g_index_of : mg "index_of" = some (.ref a_index_of)) (k_index_of : PySem.W.keepIn K (.ref a_index_of) = true) (b_index_of : Binds K fd_index_of ["family", "diagram"] [])
    {a_is_in : Addr} {fd_is_in : FuncData} (G_is_in : FnOk P w K mg base (L2N.CX P w) 4 a_is_in fd_is_in ["family", "diagram"] (spIsIn CF CD)) (g_is_in : mg "is_in" = some (.ref a_is_in)) (k_is_in : PySem.W.keepIn K (.ref a_is_in) = true) (b_is_in : Binds K fd_is_in ["family", "diagram"] [])
    {a_listed : Addr} {fd_listed : FuncData} (G_listed : FnOk P w K mg base (L2N.CX P w) 5 a_listed fd_listed ["family", "n", "m"] (spListed CF CB CT)) (g_listed : mg "listed" = some (.ref a_listed)) (k_listed : PySem.W.keepIn K (.ref a_listed) = true) (b_listed : Binds K fd_listed ["family", "n", "m"] [])
    {a_squares : Addr} {fd_squares : FuncData} (G_squares : FnOk P w K mg base (L2N.CX P w) 6 a_squares fd_squares ["family", "n"] (spSquaresE CF CT)) (g_squares : mg "squares" = some (.ref a_squares)) (k_squares : PySem.W.keepIn K (.ref a_squares) = true) (b_squares : Binds K fd_squares ["family", "n"] [])
    {a_text_of : Addr} {fd_text_of : FuncData} (G_text_of : FnOk P w K mg base (L2N.CX P w) 5 a_text_of fd_text_of ["diagram"] (spTextOfE CD)) (g_text_of : mg "text_of" = some (.ref a_text_of)) (k_text_of : PySem.W.keepIn K (.ref a_text_of) = true) (b_text_of : Binds K fd_text_of ["diagram"] [])
    {a_law_kind : Addr} {fd_law_kind : FuncData} (G_law_kind : FnE P w K mg base  1 a_law_kind fd_law_kind ["error"] (spLErr K CF CD CB CT)) (g_law_kind : mg "_law_kind" = some (.ref a_law_kind)) (k_law_kind : PySem.W.keepIn K (.ref a_law_kind) = true) (b_law_kind : Binds K fd_law_kind ["error"] []) :
    FnOk P w K mg base CX0 8 f fd ["way", "family", "one", "other"] spTold := by
  have gc_WorthError := T.gE
  have eF := PySem.W.exm_ref T.ebc T.ehd T.ety T.sF
  have eD := PySem.W.exm_ref T.ebc T.ehd T.ety T.sD
  have eB := PySem.W.exm_ref T.ebc T.ehd T.ety T.sB
  have eT := PySem.W.exm_ref T.ebc T.ehd T.ety T.sT
  refine F.ok sc_law_told (fun vs H Q E h => ?_) (fun cdv A outer s H vs Q E hr1 h => ?_)
  · obtain ⟨way, z, v, u, _, _, _, _, _, _, rfl, _⟩ := h
    rfl
  · obtain ⟨way, z, v, u, n, m, bs, n2, m2, bs2, rfl, hv, dok, q⟩ := h
    refine ⟨_, (pss_one (L2N.ps_try_as (i := 4) (Wout := fun _ _ _ _ => False) rfl rfl sc_law_told.nd rfl rfl ⟨rfl, by decide, .inl gc_WorthError⟩ takes0N (fun W pn xe tk _ => by exact (pss_cons (ps_if (pt_cmpR op_eq (pv 0) pe_int (nomark _)) (pss_one (ps_ret (pe_callS G_is_before (hr1.mono (by decide)) rfl g_is_before k_is_before b_is_before (fun σ => L2N.passAt tk σ) (pa_cons (pv 2) (pa_cons (pv 3) pa_nil))))) pss_nil)
  (pss_cons (ps_if (pt_cmpR op_eq (pv 0) pe_int (nomark _)) (pss_one (ps_ret (pe_callS G_index_of (hr1.mono (by decide)) rfl g_index_of k_index_of b_index_of (fun σ => L2N.passAt tk σ) (pa_cons (pv 1) (pa_cons (pv 2) pa_nil))))) pss_nil)
  (pss_cons (ps_if (pt_cmpR op_eq (pv 0) pe_int (nomark _)) (pss_one (ps_ret (pe_callS G_is_in (hr1.mono (by decide)) rfl g_is_in k_is_in b_is_in (fun σ => L2N.passAt tk σ) (pa_cons (pv 1) (pa_cons (pv 2) pa_nil))))) pss_nil)
  (pss_cons (ps_if (pt_cmpR op_eq (pv 0) pe_int (nomark _)) (pss_one (ps_ret (pe_callS G_listed (hr1.mono (by decide)) rfl g_listed k_listed b_listed (fun σ => L2N.passAt tk σ) (pa_cons (pv 1) (pa_cons (pe_ix (ix_tupK (K := K) rfl) (pv 3) pe_int (fun _ _ => rfl)) (pa_cons (pe_ix (ix_tupK (K := K) rfl) (pv 3) pe_int (fun _ _ => rfl)) pa_nil)))))) pss_nil)
  (pss_cons (ps_if (pt_cmpR op_eq (pv 0) pe_int (nomark _)) (pss_one (ps_ret (pe_callS G_squares (hr1.mono (by decide)) rfl g_squares k_squares b_squares (fun σ => L2N.passAt tk σ) (pa_cons (pv 1) (pa_cons (pe_ix (ix_tupK (K := K) rfl) (pv 3) pe_int (fun _ _ => rfl)) pa_nil))))) pss_nil)
  (pss_one (ps_ret (pe_callS G_text_of (hr1.mono (by decide)) rfl g_text_of k_text_of b_text_of (fun σ => L2N.passAt tk σ) (pa_cons (pv 2) pa_nil)))))))))) (fun ax oe cls dx pn hz hf => by exact (pss_one (ps_ret (pe_callX1 G_law_kind (hr1.mono (by decide)) hz hf rfl g_law_kind k_law_kind b_law_kind (pa_cons (pv 4) pa_nil))))))), ?_⟩
    rcases q with ⟨rfl, hu, dok2, nd2, q⟩ | ⟨rfl, q⟩ | ⟨rfl, q⟩ | ⟨rfl, mz, t, r, rfl, ht, q⟩ | ⟨rfl, t, r, rfl, ht, q⟩ | ⟨rfl, nd, q⟩
    · refine ⟨_, rfl, rfl, _, rfl, iteT ?_⟩
      exact ⟨_, rfl, _, rfl, v, n, m, bs, u, n2, m2, bs2, rfl, hv, dok, hu, dok2, nd2, fun H' s' => ⟨true, eD, fun _ ax _ => ⟨_, rfl, ⟨_, _, rfl, rfl, rfl, T.kD, fun H2 s2 => q H2 (Same.trans s' s2)⟩⟩, fun z => nomatch z⟩⟩
    · refine ⟨_, rfl, rfl, _, rfl, iteF ⟨_, rfl, rfl, _, rfl, iteT ?_⟩⟩
      refine ⟨_, rfl, _, rfl, z, v, n, m, bs, rfl, hv, dok, fun nz => ?_, fun mz nd => ?_, fun mz dg => ?_⟩
      · rcases q with ⟨_, q⟩ | ⟨mz, _⟩ | ⟨_, _, _, _, mz, _⟩ | ⟨_, _, _, _, mz, _⟩
        · exact ⟨true, eF, fun _ ax _ => ⟨_, rfl, ⟨_, _, rfl, rfl, rfl, T.kF, fun H2 s2 => q H2 s2⟩⟩, fun z => nomatch z⟩
        · exact absurd mz nz
        · exact absurd mz nz
        · exact absurd mz nz
      · rcases q with ⟨nz, _⟩ | ⟨_, _, q⟩ | ⟨_, _, _, _, _, dg, _⟩ | ⟨_, _, _, _, _, dg, _⟩
        · exact absurd mz nz
        · exact fun H' s' => ⟨true, eD, fun _ ax _ => ⟨_, rfl, ⟨_, _, rfl, rfl, rfl, T.kD, fun H2 s2 => q H2 (Same.trans s' s2)⟩⟩, fun z => nomatch z⟩
        · exact absurd dg nd
        · exact absurd dg nd
      · rcases q with ⟨nz, _⟩ | ⟨_, nd, _⟩ | ⟨n', m', en, em, _, _, nf, q⟩ | ⟨n', m', en, em, _, _, f, big, q⟩
        · exact absurd mz nz
        · exact absurd dg nd
        · exact ⟨n', m', en, em, fun _ H' s' => ⟨true, eB, fun _ ax _ => ⟨_, rfl, ⟨_, _, rfl, rfl, rfl, T.kB, fun H2 s2 => q H2 (Same.trans s' s2)⟩⟩, fun z => nomatch z⟩, fun f => nomatch nf.symm.trans f⟩
        · exact ⟨n', m', en, em, fun nf => (nomatch nf.symm.trans f), fun _ => ⟨fun _ H' s' => ⟨true, eT, fun _ ax _ => ⟨_, rfl, ⟨_, _, rfl, rfl, rfl, T.kT, fun H2 s2 => q H2 (Same.trans s' s2)⟩⟩, fun z => nomatch z⟩, fun small => absurd small (by omega)⟩⟩
    · refine ⟨_, rfl, rfl, _, rfl, iteF ⟨_, rfl, rfl, _, rfl, iteF ⟨_, rfl, rfl, _, rfl, iteT ?_⟩⟩⟩
      refine ⟨_, rfl, _, rfl, z, v, n, m, bs, rfl, hv, dok, fun nz => ?_, fun mz nd => ?_, fun mz dg => ?_⟩
      · rcases q with ⟨_, q⟩ | ⟨mz, _⟩
        · exact ⟨true, eF, fun _ ax _ => ⟨_, rfl, ⟨_, _, rfl, rfl, rfl, T.kF, fun H2 s2 => q H2 s2⟩⟩, fun z => nomatch z⟩
        · exact absurd mz nz
      · rcases q with ⟨nz, _⟩ | ⟨_, _, q⟩
        · exact absurd mz nz
        · exact fun H' s' => ⟨true, eD, fun _ ax _ => ⟨_, rfl, ⟨_, _, rfl, rfl, rfl, T.kD, fun H2 s2 => q H2 (Same.trans s' s2)⟩⟩, fun z => nomatch z⟩
      · rcases q with ⟨nz, _⟩ | ⟨_, nd, _⟩
        · exact absurd mz nz
        · exact absurd dg nd
    · refine ⟨_, rfl, rfl, _, rfl, iteF ⟨_, rfl, rfl, _, rfl, iteF ⟨_, rfl, rfl, _, rfl, iteF ⟨_, rfl, rfl, _, rfl, iteT ?_⟩⟩⟩⟩
      refine ⟨_, rfl, _, rfl, t, _, 0, _, rfl, rfl, .inl (.inl ht), atI_nat (j := 0) rfl, _, rfl, t, _, 1, _, rfl, rfl, .inl (.inl ht), atI_nat (j := 1) rfl, z, n2, m2, rfl, fun nz => absurd mz nz, fun _ ns => ?_, fun _ sz => ⟨fun big => ?_, fun small => ?_⟩⟩
      · rcases q with ⟨_, q⟩ | ⟨sz, _⟩ | ⟨sz, _⟩
        · exact ⟨true, eB, fun _ ax _ => ⟨_, rfl, ⟨_, _, rfl, rfl, rfl, T.kB, fun H2 s2 => q H2 s2⟩⟩, fun z => nomatch z⟩
        · exact nomatch ns.symm.trans sz
        · exact nomatch ns.symm.trans sz
      · rcases q with ⟨ns, _⟩ | ⟨_, _, q⟩ | ⟨_, small, _⟩
        · exact nomatch ns.symm.trans sz
        · exact fun H' s' => ⟨true, eT, fun _ ax _ => ⟨_, rfl, ⟨_, _, rfl, rfl, rfl, T.kT, fun H2 s2 => q H2 (Same.trans s' s2)⟩⟩, fun z => nomatch z⟩
        · exact absurd small (by omega)
      · rcases q with ⟨ns, _⟩ | ⟨_, big, _⟩ | ⟨_, _, rows, q⟩
        · exact nomatch ns.symm.trans sz
        · exact absurd small (by omega)
        · exact ⟨rows, q⟩
    · refine ⟨_, rfl, rfl, _, rfl, iteF ⟨_, rfl, rfl, _, rfl, iteF ⟨_, rfl, rfl, _, rfl, iteF ⟨_, rfl, rfl, _, rfl, iteF ⟨_, rfl, rfl, _, rfl, iteT ?_⟩⟩⟩⟩⟩
      refine ⟨_, rfl, _, rfl, t, _, 0, _, rfl, rfl, .inl (.inl ht), atI_nat (j := 0) rfl, z, n2, rfl, ?_⟩
      rcases q with ⟨nz, q⟩ | ⟨mz, sz, big, q⟩
      · exact .inl ⟨nz, ⟨true, eF, fun _ ax _ => ⟨_, rfl, ⟨_, _, rfl, rfl, rfl, T.kF, fun H2 s2 => q H2 s2⟩⟩, fun z => nomatch z⟩⟩
      · exact .inr ⟨mz, sz, big, fun H' s' => ⟨true, eT, fun _ ax _ => ⟨_, rfl, ⟨_, _, rfl, rfl, rfl, T.kT, fun H2 s2 => q H2 (Same.trans s' s2)⟩⟩, fun z => nomatch z⟩⟩
    · refine ⟨_, rfl, rfl, _, rfl, iteF ⟨_, rfl, rfl, _, rfl, iteF ⟨_, rfl, rfl, _, rfl, iteF ⟨_, rfl, rfl, _, rfl, iteF ⟨_, rfl, rfl, _, rfl, iteF ?_⟩⟩⟩⟩⟩
      exact ⟨_, rfl, v, n, m, bs, rfl, hv, dok, nd, fun H' s' => ⟨true, eD, fun _ ax _ => ⟨_, rfl, ⟨_, _, rfl, rfl, rfl, T.kD, fun H2 s2 => q H2 (Same.trans s' s2)⟩⟩, fun z => nomatch z⟩⟩
end

/-! ### drawn marks lead to diagrams of their family -/
theorem range_co (l : List Int) : (List.range l.length).map (co l) = l := by
  refine List.ext_getElem? fun i => ?_
  rcases Nat.lt_or_ge i l.length with c | c
  · rw [List.getElem?_map, List.getElem?_range c, co_get c]
    rfl
  · rw [List.getElem?_eq_none (by rw [List.length_map, List.length_range]; exact c), List.getElem?_eq_none c]
theorem posOf_len (l : List Int) (v : Int) : (posOf l v).length = l.count v := by
  unfold posOf
  rw [List.length_map]
  have e : l.count v = ((List.range l.length).map (co l)).count v := by rw [range_co]
  rw [e, List.count_eq_countP, List.countP_map, List.countP_eq_length_filter]
  congr 1
theorem posOf_two {l : List Int} {v : Int} {i j : Nat} (hij : i < j) (hj : j < (posOf l v).length) : ∃ p q : Nat, p < q ∧ q < l.length ∧ co l p = v ∧ co l q = v ∧ co (posOf l v) i = p ∧ co (posOf l v) j = q := by
  obtain ⟨p, e1, h1, h2⟩ := mem_posOf.mp (co_mem (l := posOf l v) (k := i) (by omega))
  obtain ⟨q, e3, h3, h4⟩ := mem_posOf.mp (co_mem hj)
  refine ⟨p, q, ?_, h3, h2, h4, e1, e3⟩
  have := List.pairwise_iff_getElem.mp (posOf_asc l v) i j (by omega) hj hij
  have g1 := co_get (l := posOf l v) (k := i) (by omega)
  have g2 := co_get hj
  rw [List.getElem?_eq_getElem (by omega)] at g1 g2
  rw [Option.some.inj g1, Option.some.inj g2] at this
  omega
theorem strand_two {n : Nat} {l : List Int} (h : Strand n l) (v : Int) : (posOf l v).length ≤ 2 ∧ ((posOf l v).length = 2 → strandB n (posOf l v) = true) := by
  constructor
  · rcases Nat.lt_or_ge 2 (posOf l v).length with c | c
    · obtain ⟨p, q, h1, h2, h3, h4, e1, e2⟩ := posOf_two (l := l) (v := v) (i := 0) (j := 1) (by omega) (by omega)
      obtain ⟨q', r, h5, h6, h7, h8, e3, e4⟩ := posOf_two (l := l) (v := v) (i := 1) (j := 2) (by omega) c
      have := h p q h1 h2 (by rw [h3, h4])
      have := h q' r h5 h6 (by rw [h7, h8])
      omega
    · exact c
  · intro c
    obtain ⟨p, q, h1, h2, h3, h4, e1, e2⟩ := posOf_two (l := l) (v := v) (i := 0) (j := 1) (by omega) (by omega)
    have := h p q h1 h2 (by rw [h3, h4])
    unfold strandB
    rw [decide_eq_true c, e1, e2, Bool.true_and]
    exact decide_eq_true ⟨by omega, by omega⟩
theorem posOf_pos {l : List Int} {v : Int} (h : v ∈ l) : 0 < (posOf l v).length := by
  rw [posOf_len]
  exact List.count_pos_iff.mpr h
theorem fam_in {z : Str} {n m : Nat} {l : List Int} (h : FamM z n m l) (hl : l.length = n + m) (ht : z = "threads" → m = n) (hp : z = "pairs" ∨ z = "even" → (n + m) % 2 = 0) : inFam z (n : Int) (blocksOf l) = true := by
  unfold inFam blocksOf
  rw [List.all_map, List.all_eq_true]
  intro v hv
  have hv : v ∈ l := ((seenL_mem l [] v).mp hv).resolve_left fun z => nomatch z
  have p0 := posOf_pos hv
  show blockOk z n (posOf l v) = true
  unfold blockOk
  by_cases c1 : z = "threads"
  · rw [if_pos c1]
    obtain ⟨h1, h2⟩ := strand_two (h.st (.inl c1)) v
    refine h2 ?_
    obtain ⟨p, hp, e⟩ := mem_get hv
    obtain ⟨q, hq, ne, e2⟩ := h.ma c1 (ht c1).symm p hp
    rcases Nat.lt_or_ge 1 (posOf l v).length with c | c
    · omega
    · have m1 : (p : Int) ∈ posOf l v := mem_posOf.mpr ⟨p, rfl, hp, e⟩
      have m2 : (q : Int) ∈ posOf l v := mem_posOf.mpr ⟨q, rfl, hq, e2.trans e⟩
      obtain ⟨i, hi, ei⟩ := mem_get m1
      obtain ⟨j, hj, ej⟩ := mem_get m2
      have : i = j := by omega
      rw [this] at ei
      omega
  rw [if_neg c1]
  by_cases c2 : z = "loose"
  · rw [if_pos c2]
    obtain ⟨h1, h2⟩ := strand_two (h.st (.inr c2)) v
    rcases Nat.lt_or_ge 1 (posOf l v).length with c | c
    · rw [h2 (by omega), Bool.or_true]
    · rw [decide_eq_true (by omega), Bool.true_or]
  rw [if_neg c2, posOf_len]
  unfold sizeOk
  by_cases c3 : z = "pairs"
  · rw [if_pos c3]
    exact decide_eq_true (h.pa c3 (hp (.inl c3)) v hv)
  rw [if_neg c3]
  by_cases c4 : z = "lonepairs"
  · rw [if_pos c4]
    exact decide_eq_true (h.lo c4 v)
  rw [if_neg c4]
  by_cases c5 : z = "even"
  · rw [if_pos c5]
    exact decide_eq_true (h.ev c5 (hp (.inr c5)) v)
  rw [if_neg c5]
/-! ### lists of strings, of bools -/
def dS (l : List Str) : PyData := .list (l.map PyData.str)
def dB (l : List Bool) : PyData := .list (l.map PyData.bool)
theorem strs_dp {K : PySem.W.Frag} {H : Hp} : ∀ z : List Str, DpAll K H (z.map V.str) (z.map PyData.str)
  | [] => .nil
  | a :: r => .cons (.str a) (strs_dp r)
theorem bools_dp {K : PySem.W.Frag} {H : Hp} : ∀ z : List Bool, DpAll K H (z.map V.bl) (z.map PyData.bool)
  | [] => .nil
  | a :: r => .cons (.bl a) (bools_dp r)
/-- equal data -/
theorem neD_refl {K : PySem.W.Frag} {H : Hp} {u v : V} {d : PyData} {Q : VK} (hu : Dp K H u d) (hv : Dp K H v d) (hs : SeqAt.shaped d = true) (ha : PyData.eqv d d = true) (q : Q (.bl false) H) : rNeD K u v H Q :=
  ⟨d, d, hu, hv, hs, hs, by rw [ha]; exact q⟩
theorem eqv_strs : ∀ l : List Str, PyData.eqvAll (l.map PyData.str) (l.map PyData.str) = true
  | [] => by simp [PyData.eqvAll]
  | a :: l => by simp [PyData.eqvAll, PyData.eqv, eqv_strs l]
theorem eqv_bools : ∀ l : List Bool, PyData.eqvAll (l.map PyData.bool) (l.map PyData.bool) = true
  | [] => by simp [PyData.eqvAll]
  | a :: l => by simp [PyData.eqvAll, PyData.eqv, eqv_bools l]
theorem eqv_dS (l : List Str) : PyData.eqv (dS l) (dS l) = true := by
  unfold dS
  simp only [PyData.eqv, eqv_strs]
theorem eqv_dB (l : List Bool) : PyData.eqv (dB l) (dB l) = true := by
  unfold dB
  simp only [PyData.eqv, eqv_bools]
theorem dB_shaped : ∀ l : List Bool, SeqAt.shaped (dB l) = true := fun l => by
  have h : ∀ l : List Bool, PyData.canLayAll0 (l.map PyData.bool) = true ∧ PyData.depthAll (l.map PyData.bool) = 0 := fun l => by
    induction l with
    | nil => exact ⟨by simp [PyData.canLayAll0], by simp [PyData.depthAll]⟩
    | cons a l ih => exact ⟨by simp [PyData.canLayAll0, PyData.canLay0, ih.1], by simp [PyData.depthAll, PyData.depth, ih.2]⟩
  obtain ⟨h1, h2⟩ := h l
  show (PyData.canLay0 (dB l) && decide (PyData.depth (dB l) ≤ 64)) = true
  unfold dB
  rw [show PyData.canLay0 (.list (l.map PyData.bool)) = true by simp [PyData.canLay0, h1], show PyData.depth (.list (l.map PyData.bool)) = 1 by simp [PyData.depth, h2]]
  rfl
theorem fams_shaped : SeqAt.shaped (dS fams) = true := by decide +kernel

/-! ### the wrong tuples, the lists just beyond and just within -/
theorem nb0 : ¬ IsDg 1 1 [[0, 1], []] := fun h => h.ne [] (.tail _ (.head _)) rfl
theorem nb1 : ¬ IsDg 2 0 [[0], [0, 1]] := fun h => by
  have := h.pm.length_eq
  revert this
  decide
theorem nb2 : ¬ IsDg (-1) 1 [] := fun h => by
  have := h.sz
  revert this
  decide
theorem nb3 : ¬ IsDg 8 5 [] := fun h => by
  have := h.sz
  revert this
  decide
structure Bad (H : Hp) (v : V) (n m : Int) (bs : List (List Int)) : Prop where
  dg : DGv H v n m bs
  ok : DgOk n m bs
  nd : ¬ IsDg n m bs
  who : (n = 1 ∧ m = 1) ∨ (n = 2 ∧ m = 0) ∨ (n = -1 ∧ m = 1) ∨ (n = 8 ∧ m = 5)
theorem Bad.same {H H' : Hp} {v : V} {n m : Int} {bs : List (List Int)} (s : Same H H') (h : Bad H v n m bs) : Bad H' v n m bs := ⟨h.dg.same s, h.ok, h.nd, h.who⟩
def smallOk (z : Str) (n m : Nat) : Prop := cntV z n m ≤ 250 ∧ ∀ k, k < n + m + 1 → (rowsF z n k).length ≤ 10000
instance (z : Str) (n m : Nat) : Decidable (smallOk z n m) := by unfold smallOk; infer_instance
theorem fams_cases {p : Str → Prop} (h0 : p "threads") (h1 : p "loose") (h2 : p "pairs") (h3 : p "lonepairs") (h4 : p "even") (h5 : p "parts") : ∀ z ∈ fams, p z := by
  intro z hz
  unfold fams at hz
  simp only [List.mem_cons, List.not_mem_nil, or_false] at hz
  rcases hz with rfl | rfl | rfl | rfl | rfl | rfl
  · exact h0
  · exact h1
  · exact h2
  · exact h3
  · exact h4
  · exact h5
theorem small11 : ∀ z ∈ fams, smallOk z 1 1 := fams_cases (by decide +kernel) (by decide +kernel) (by decide +kernel) (by decide +kernel) (by decide +kernel) (by decide +kernel)
theorem small20 : ∀ z ∈ fams, smallOk z 2 0 := fams_cases (by decide +kernel) (by decide +kernel) (by decide +kernel) (by decide +kernel) (by decide +kernel) (by decide +kernel)
def four93 (z : Str) : Prop := z ∉ (["even", "parts"] : List Str) → inFam z 2 (blocksOf [0, 0, 0, 0]) = false
theorem four_no : ∀ z ∈ fams, four93 z := fams_cases (fun _ => by decide +kernel) (fun _ => by decide +kernel) (fun _ => by decide +kernel) (fun _ => by decide +kernel) (fun h => absurd (by decide) h) (fun h => absurd (by decide) h)
structure Bey (z : Str) (n m : Nat) : Prop where
  mz : z ∈ fams
  n8 : n ≤ 8
  m8 : m ≤ 8
  nm : n + m ≤ 12
  th : z = "threads" → m = n
  pr : z = "pairs" ∨ z = "even" → (n + m) % 2 = 0
theorem Bey.sz {z : Str} {n m : Nat} (b : Bey z n m) : siz (n : Int) (m : Int) = true := siz_iff.mpr (by have := b.n8; have := b.m8; have := b.nm; omega)
def beyL : List (Str × Nat × Nat) := [("parts", 4, 3), ("even", 4, 4), ("lonepairs", 5, 3), ("pairs", 5, 5), ("loose", 5, 4), ("threads", 6, 6)]
theorem bey_all : ∀ t ∈ beyL, Bey t.1 t.2.1 t.2.2 ∧ 250 < cntV t.1 t.2.1 t.2.2 := by
  intro t ht
  simp only [beyL, List.mem_cons, List.not_mem_nil, or_false] at ht
  rcases ht with rfl | rfl | rfl | rfl | rfl | rfl
  all_goals exact ⟨⟨by decide, by decide, by decide, by decide, by decide, by decide⟩, by decide +kernel⟩
def ascB : List (List Int) → Bool
  | [] => true
  | [_] => true
  | a :: b :: l => decide (a < b) && ascB (b :: l)
theorem ascB_lt : ∀ {l : List (List Int)}, ascB l = true → l.Pairwise (· < ·)
  | [], _ => .nil
  | [_], _ => List.pairwise_singleton _ _
  | a :: b :: l, h => by
    unfold ascB at h
    rw [Bool.and_eq_true, decide_eq_true_eq] at h
    have ih := ascB_lt (l := b :: l) h.2
    refine List.pairwise_cons.mpr ⟨fun c hc => ?_, ih⟩
    rcases List.mem_cons.mp hc with rfl | hc
    · exact h.1
    · exact List.lt_trans h.1 ((List.pairwise_cons.mp ih).1 c hc)
def Fin93 (z : Str) (n m : Nat) : Prop := (0 < cntV z n m ∧ cntV z n m ≤ 250) ∧ (∀ k, k < n + m + 1 → (rowsF z n k).length ≤ 10000) ∧ ((listF z n m).length : Int) = cntV z n m ∧ ascB ((listF z n m).map fun b => labL b (n + m)) = true
instance (z : Str) (n m : Nat) : Decidable (Fin93 z n m) := by unfold Fin93; infer_instance
def witL : List (Str × Nat × Nat) := [("parts", 4, 2), ("even", 3, 3), ("lonepairs", 5, 2), ("pairs", 6, 2), ("loose", 4, 4), ("threads", 5, 5)]
theorem wit0 : Fin93 "parts" 4 2 := by decide +kernel
theorem wit1 : Fin93 "even" 3 3 := by decide +kernel
theorem wit2 : Fin93 "lonepairs" 5 2 := by decide +kernel
theorem wit3 : Fin93 "pairs" 6 2 := by decide +kernel
theorem wit4 : Fin93 "loose" 4 4 := by decide +kernel
theorem wit5 : Fin93 "threads" 5 5 := by decide +kernel
theorem wit_all : ∀ t ∈ witL, Bey t.1 t.2.1 t.2.2 ∧ Fin93 t.1 t.2.1 t.2.2 := by
  intro t ht
  simp only [witL, List.mem_cons, List.not_mem_nil, or_false] at ht
  rcases ht with rfl | rfl | rfl | rfl | rfl | rfl
  · exact ⟨⟨by decide, by decide, by decide, by decide, by decide, by decide⟩, wit0⟩
  · exact ⟨⟨by decide, by decide, by decide, by decide, by decide, by decide⟩, wit1⟩
  · exact ⟨⟨by decide, by decide, by decide, by decide, by decide, by decide⟩, wit2⟩
  · exact ⟨⟨by decide, by decide, by decide, by decide, by decide, by decide⟩, wit3⟩
  · exact ⟨⟨by decide, by decide, by decide, by decide, by decide, by decide⟩, wit4⟩
  · exact ⟨⟨by decide, by decide, by decide, by decide, by decide, by decide⟩, wit5⟩
/-! ### lists of lists of integers, sorted -/
theorem le_dL : PySem.W.dataLe false dL = fun p q => decide (p ≤ q) := PySem.W.dataLe_rows (β := List Int) fun b => b
theorem alike_dL (bs : List (List Int)) : PySem.W.AllAlike (bs.map dL) := PySem.W.AllAlike.of fun b b' => by
  show PySem.W.alike (.list (b.map .int)) (.list (b'.map .int)) = true
  rw [PySem.W.alike]
  exact PySem.W.alike_ints b b'
theorem sortable_dL (bs : List (List Int)) : PySem.W.Sortable (bs.map dL) := PySem.W.Sortable.others fun b => ⟨(fun z => nomatch z), fun xs z => nomatch z⟩
theorem depth_dL (b : List Int) : (dL b).depth ≤ 60 := by
  obtain ⟨_, h2⟩ := lay_ints b
  unfold dL
  rw [show PyData.depth (.list (b.map PyData.int)) = 1 by simp [PyData.depth, h2]]
  decide
theorem sorted_self {l : List (List Int)} (h : l.Pairwise (· < ·)) : l.mergeSort (fun p q => decide (p ≤ q)) = l :=
  List.mergeSort_of_pairwise (h.imp fun {a b} h => decide_eq_true (List.le_of_lt h))
theorem lay_dLs : ∀ bs : List (List Int), PyData.canLayAll0 (bs.map dL) = true ∧ PyData.depthAll (bs.map dL) ≤ 1
  | [] => ⟨by simp [PyData.canLayAll0], by simp [PyData.depthAll]⟩
  | b :: bs => by
    obtain ⟨h1, h2⟩ := lay_dLs bs
    obtain ⟨h3, h4⟩ := lay_ints b
    have e1 : PyData.canLay0 (dL b) = true := by simp [dL, PyData.canLay0, h3]
    have e2 : PyData.depth (dL b) = 1 := by simp [dL, PyData.depth, h4]
    refine ⟨by simp [PyData.canLayAll0, e1, h1], ?_⟩
    simp only [List.map_cons, PyData.depthAll, e2]
    omega
theorem dLL_shaped (bs : List (List Int)) : SeqAt.shaped (.list (bs.map dL)) = true := by
  obtain ⟨h1, h2⟩ := lay_dLs bs
  show (PyData.canLay0 (.list (bs.map dL)) && decide (PyData.depth (.list (bs.map dL)) ≤ 64)) = true
  rw [show PyData.canLay0 (.list (bs.map dL)) = true by simp [PyData.canLay0, h1], decide_eq_true (by simp only [PyData.depth]; omega)]
  rfl
theorem eqv_dLs : ∀ bs : List (List Int), PyData.eqvAll (bs.map dL) (bs.map dL) = true
  | [] => by simp [PyData.eqvAll]
  | b :: bs => by
    rw [List.map_cons]
    simp only [PyData.eqvAll, eqv_dLs bs, dL, PyData.eqv, eqvAll_ints, decide_true, Bool.and_self]
theorem lps_dp {K : PySem.W.Frag} {H : Hp} : ∀ {vs : List V} {zs : List (List Int)}, Paired (LP H) vs zs → DpAll K H vs (zs.map dL)
  | _, _, .nil => .nil
  | _, _, .cons a b => .cons a.dp (lps_dp b)
theorem listF_row {z : Str} {n m : Nat} {d : List (List Int)} (h : d ∈ listF z n m) : ∃ row, d = blocksOf row ∧ row.length = n + m := by
  unfold listF at h
  split at h
  · exact nomatch h
  · obtain ⟨row, hr, rfl⟩ := List.mem_map.mp (List.mem_filter.mp h).1
    exact ⟨row, rfl, (rowsF_ok hr).1⟩
theorem listF_dg {z : Str} {n m : Nat} (h : siz (n : Int) (m : Int) = true) : ∀ d ∈ listF z n m, IsDg (n : Int) (m : Int) d := fun d hd => by
  obtain ⟨row, rfl, e⟩ := listF_row hd
  exact isDg_blocks h (by omega)
theorem listF_len {z : Str} {n m : Nat} (h : (rowsF z n (n + m)).length ≤ 10000) : (listF z n m).length ≤ 10000 := by
  unfold listF
  split
  · exact Nat.zero_le _
  · have := List.length_filter_le (inFam z (n : Int)) ((rowsF z n (n + m)).map blocksOf)
    rw [List.length_map] at this
    omega
theorem num_shaped : SeqAt.shaped (.str "!number") = true := by
  show (PyData.canLay0 (.str "!number") && decide (PyData.depth (.str "!number") ≤ 64)) = true
  rw [show PyData.canLay0 (.str "!number") = true by simp only [PyData.canLay0]; decide +kernel, show PyData.depth (.str "!number") = 0 by simp [PyData.depth]]
  rfl
theorem lab_back {row : List Int} {n m : Nat} (h : row.length = n + m) : blocksOf (labL (blocksOf row) (n + m)) = blocksOf row := by
  have e := labL_marks row
  rw [← h, e]
  exact blocksOf_map fun x hx y hy he => by
    have := idx_inj ((seenL_mem row [] x).mpr (.inr hx)) ((seenL_mem row [] y).mpr (.inr hy)) he
    exact this
theorem fin_first {z : Str} {n m : Nat} (f : Fin93 z n m) {j : Nat} {d : List (List Int)} (h : (listF z n m)[j]? = some d) : ∀ i : Nat, i < j → (listF z n m)[i]? ≠ some d := fun i hi e => by
  have asc := ascB_lt f.2.2.2
  have h1 : ((listF z n m).map fun b => labL b (n + m))[i]? = some (labL d (n + m)) := by rw [List.getElem?_map, e]; rfl
  have h2 : ((listF z n m).map fun b => labL b (n + m))[j]? = some (labL d (n + m)) := by rw [List.getElem?_map, h]; rfl
  obtain ⟨g1, e1⟩ := List.getElem?_eq_some_iff.mp h1
  obtain ⟨g2, e2⟩ := List.getElem?_eq_some_iff.mp h2
  have := List.pairwise_iff_getElem.mp asc i j g1 g2 hi
  rw [e1, e2] at this
  exact List.lt_irrefl _ this
theorem sortG_LP {K : PySem.W.Frag} {H : Hp} {a : Addr} {xs : List V} {bs : List (List Int)} {Q : VK} (hs : SqL K H a xs) (pr : Paired (LP H) xs bs) (asc : bs.Pairwise (· < ·))
    (q : ∀ ys p, Paired (LP H) ys bs → H p = none → Q (.ref p) (upd H p (.lst ys))) : rSortG K [.ref a] H Q := by
  refine ⟨List Int, dL, LP H, a, xs, bs, rfl, hs, fun x hx => ?_, pr, ?_, alike_dL bs, sortable_dL bs, fun b _ => depth_dL b, fun ys p h np => q ys p (by rw [le_dL, sorted_self asc] at h; exact h) np⟩
  · obtain ⟨i, hi, e⟩ := List.mem_iff_getElem.mp hx
    obtain ⟨_, _, t, rfl, _⟩ := paired_at pr (show xs[i]? = some x by rw [List.getElem?_eq_getElem hi, e])
    exact ⟨t, rfl⟩
  · exact Paired.mapP pr fun _ _ h => h.dp

section
variable {P : Program} {w : World} {K : PySem.W.Frag} {mg : Str → Option Value} {base : Heap}
/-! ### _law_joined -/
def spJoined (K : PySem.W.Frag) : Sp := fun vs H Q _ => ∃ (a p t : Addr) (l : List Int) (x y : Nat), vs = [.ref a, .ref p] ∧ SqL K H a (l.map V.int) ∧ H p = some (.lst [.ref t]) ∧ H t = some (.tup [.int (x : Int), .int (y : Int)]) ∧ x < l.length ∧ y < l.length ∧ l.length ≤ 1000 ∧
  ∀ (D : Addr) (l' : List Int) (H' : Hp), Same H H' → H D = none → H' D = some (.lst (l'.map V.int)) → l' = jn l x y → Q (.ref D) H'
theorem ok_law_joined {f : Addr} {fd : FuncData} (F : Fun K "_law_joined" "_law_joined" s_law_joined f fd) (z_min : mg "min" = none) (z_max : mg "max" = none) : FnOk P w K mg base CX0 1 f fd ["marks", "links"] (spJoined K) := by
  refine F.ok sc_law_joined (fun vs H Q E h => ?_) (fun cdv A outer s H vs Q E hr h => ?_)
  · obtain ⟨a, p, t, l, x, y, rfl, _⟩ := h
    rfl
  · obtain ⟨a, p, t, l, x, y, rfl, ha, hp, ht, hx, hy, hl, q⟩ := h
    refine ⟨_, (pss_cons (ps_for PassesOwn.never rfl (pi_list (pv 1)) (pg_tup rfl (pgs_cons (pg_name (i := 2) sc_law_joined.nd rfl (.inl rfl)) (pgs_cons (pg_name (i := 3) sc_law_joined.nd rfl (.inl rfl)) pgs_nil))) (pss_cons (ps_set (i := 4) sc_law_joined.nd rfl (.inr rfl) (pe_callB (call_min2 rfl) (by rfl) z_min boot_min (pa_cons (pe_ix ix_list (pv 0) (pv 2) (fun _ _ => rfl)) (pa_cons (pe_ix ix_list (pv 0) (pv 3) (fun _ _ => rfl)) pa_nil))))
  (pss_cons (ps_set (i := 5) sc_law_joined.nd rfl (.inr rfl) (pe_callB (call_max2 rfl) (by rfl) z_max boot_max (pa_cons (pe_ix ix_list (pv 0) (pv 2) (fun _ _ => rfl)) (pa_cons (pe_ix ix_list (pv 0) (pv 3) (fun _ _ => rfl)) pa_nil))))
  (pss_one (ps_setLc (i := 0) (own := [("mark", 6)]) rfl sc_law_joined.nd rfl rfl (sw_true rfl rfl rfl (by decide +kernel)) (pi_list (pv 0)) (blkOk_by (N := ["marks", "links", "one", "other", "low", "high", "mark"]) (sc := defScope s_law_joined) (by first | decide +kernel | rfl)) (fun _ _ _ _ _ => (pg_name (i := 6) sc_law_joined.nd rfl (.inl rfl))) (fun _ _ _ _ _ => pts_nil) (fun _ _ _ _ _ => (pe_ifExp (pt_cmpR op_eq (pv 6) (pv 5) (nomark _)) (pv 4) (pv 6))))))))
  (pss_one (ps_ret (pv 0)))), ?_⟩
    have szl : 20000 ≤ sizeLine := by decide
    refine ⟨_, rfl, p, rfl, ⟨_, .inl (.inl hp)⟩, for_list (K := K) (xs := [.ref t]) (fun i σ H' => (i = 0 ∧ σ = [some (.ref a), some (.ref p), none, none, none, none, none] ∧ H' = H) ∨ (i = 1 ∧ ∃ (D : Addr) (l' : List Int) (v2 v3 v4 v5 v6 : Option V), σ = [some (.ref D), some (.ref p), v2, v3, v4, v5, v6] ∧ Same H H' ∧ H D = none ∧ H' D = some (.lst (l'.map V.int)) ∧ l' = jn l x y))
      (.inl ⟨rfl, rfl, rfl⟩) (fun i σ H' _ hP => ?_) (fun i z σ H' hz hP => ?_) (fun σ H' hP => ?_)⟩
    · rcases hP with ⟨_, _, rfl⟩ | ⟨_, D, l', v2, v3, v4, v5, v6, _, s1, _⟩
      · exact .inl (.inl hp)
      · exact .inl (.inl (s1 _ _ hp))
    · have hi : i < 1 := (List.getElem?_eq_some_iff.mp hz).1
      obtain rfl : i = 0 := by omega
      obtain rfl : V.ref t = z := Option.some.inj hz
      rcases hP with ⟨_, rfl, rfl⟩ | ⟨e, _⟩
      · refine ⟨t, _, rfl, .inl (.inl ht), rfl, _, _, rfl, _, _, rfl, rfl, ?_⟩
        refine ⟨_, rfl, _, rfl, a, _, _, _, rfl, rfl, ha, at_co hx, _, rfl, _, rfl, a, _, _, _, rfl, rfl, ha, at_co hy, _, _, rfl, ?_⟩
        refine ⟨_, rfl, _, rfl, a, _, _, _, rfl, rfl, ha, at_co hx, _, rfl, _, rfl, a, _, _, _, rfl, rfl, ha, at_co hy, _, _, rfl, ?_⟩
        refine ⟨_, rfl, a, rfl, ⟨_, ha⟩, fun D nD => ?_⟩
        have hk : ∀ {H2 : Hp}, SameBut D H' H2 → Same H' H2 := fun sb b o e => sb _ _ (ne_of_none e nD) e
        have ej : jn l x y = l.map fun c => if c = (if co l y > co l x then co l y else co l x) then (if co l y < co l x then co l y else co l x) else c := rfl
        revert ej
        generalize jn l x y = J
        generalize (if co l y < co l x then co l y else co l x) = lo
        generalize (if co l y > co l x then co l y else co l x) = hi
        intro ej
        subst ej
        refine lc_list (K := K) (xs := l.map V.int) (fun i H2 => SameBut D H' H2 ∧ H2 D = some (.lst (((l.take i).map fun c => if c = hi then lo else c).map V.int))) ⟨SameBut.upd, upd_same⟩ (fun i H2 _ hP => sqL_same (hk hP.1) ha) (fun i z H2 hz hP => ?_) (fun H2 hP => ?_)
        · obtain ⟨sb, hD⟩ := hP
          have li : i < l.length := by have := (List.getElem?_eq_some_iff.mp hz).1; rwa [List.length_map] at this
          have ez : (l.map V.int)[i]? = some (.int (co l i)) := by rw [List.getElem?_map, co_get li]; rfl
          obtain rfl : V.int (co l i) = z := Option.some.inj (ez.symm.trans hz)
          refine ⟨rfl, ?_⟩
          have fin : ∀ c : Int, (if co l i = hi then lo else co l i) = c → ∃ acc, H2 D = some (.lst acc) ∧ acc.length < sizeLine ∧ SameBut D H' (upd H2 D (.lst (acc ++ [V.int c]))) ∧ upd H2 D (.lst (acc ++ [V.int c])) D = some (.lst (((l.take (i + 1)).map fun c => if c = hi then lo else c).map V.int)) := fun c ec =>
            ⟨_, hD, by rw [List.length_map, List.length_map, List.length_take]; omega, sb.trans SameBut.upd, by rw [upd_same, take_snoc li, List.map_append, List.map_append, ← ec]; rfl⟩
          refine ⟨_, rfl, _, rfl, rfl, _, rfl, ite2 (fun e => ⟨_, rfl, fin _ (if_pos (V.int.inj (of_decide_eq_true e)))⟩) (fun e => ⟨_, rfl, fin _ (if_neg fun z => e (decide_eq_true (congrArg V.int z)))⟩)⟩
        · obtain ⟨sb, hD⟩ := hP
          rw [List.length_map, List.take_length] at hD
          exact .inr ⟨rfl, D, _, _, _, _, _, _, rfl, hk sb, nD, hD, rfl⟩
      · omega
    · rcases hP with ⟨e, _⟩ | ⟨_, D, l', v2, v3, v4, v5, v6, rfl, s1, nD, hD, el⟩
      · exact nomatch e
      · exact ⟨_, rfl, q D l' H' s1 nD hD el⟩
end

section
variable {P : Program} {w : World} {K : PySem.W.Frag} {mg : Str → Option Value} {base : Heap}
/-! ### _law_threaded -/
def spThreaded : Sp := fun vs H Q _ => ∃ (r : Addr) (ds : List Int) (z : Str) (n m : Nat), vs = [.ref r, .str z, .int n, .int m] ∧ n ≤ 8 ∧ m ≤ 8 ∧ H r = some (.lst (ds.map V.int)) ∧
  ∀ (D : Addr) (l ds' : List Int) (H' : Hp), SameBut r H H' → H' r = some (.lst (ds'.map V.int)) → D ≠ r → H D = none → H' D = some (.lst (l.map V.int)) → l.length = n + m → (∃ ls, ThrI n m n l ls ∧ (z = "threads" → n = m → ThrT n m n l ls)) → Q (.ref D) H'
theorem ok_law_threaded {f a_law_next a_law_pick : Addr} {fd fd_law_next fd_law_pick : FuncData} (F : Fun K "_law_threaded" "_law_threaded" s_law_threaded f fd) (z_int : mg "int" = none) (z_list : mg "list" = none) (z_range : mg "range" = none)
    (G_law_next : FnOk P w K mg base CX0 1 a_law_next fd_law_next ["draws"] spNext) (g_law_next : mg "_law_next" = some (.ref a_law_next)) (k_law_next : PySem.W.keepIn K (.ref a_law_next) = true) (b_law_next : Binds K fd_law_next ["draws"] [])
    (G_law_pick : FnOk P w K mg base CX0 2 a_law_pick fd_law_pick ["draws", "left"] spPick) (g_law_pick : mg "_law_pick" = some (.ref a_law_pick)) (k_law_pick : PySem.W.keepIn K (.ref a_law_pick) = true) (b_law_pick : Binds K fd_law_pick ["draws", "left"] []) : FnOk P w K mg base CX0 3 f fd ["draws", "family", "n", "m"] spThreaded := by
  refine F.ok sc_law_threaded (fun vs H Q E h => ?_) (fun cdv A outer s H vs Q E hr h => ?_)
  · obtain ⟨r, ds, z, n, m, rfl, _⟩ := h
    rfl
  · obtain ⟨r, ds, z, n, m, rfl, hn, hm, hL, q⟩ := h
    refine ⟨_, (pss_cons (ps_set (i := 5) sc_law_threaded.nd rfl (.inl rfl) (pe_op op_cat (pe_listRg rfl rfl z_list (prg_1 rfl z_range (pv 2))) (pe_lc (own := [("at", 4)]) rfl sc_law_threaded.nd (pi_range1 rfl z_range (pa_cons (pv 3) pa_nil)) (blkOk_by (N := ["draws", "family", "n", "m", "at", "marks", "left"]) (sc := defScope s_law_threaded) (by first | decide +kernel | rfl)) (fun _ _ _ _ _ => (pg_name (i := 4) sc_law_threaded.nd rfl (.inl rfl))) (fun _ _ _ _ _ => pts_nil) (fun _ _ _ _ _ => (pe_op op_sub (pe_op op_sub pe_int pe_int) (pv 4))))))
  (pss_cons (ps_set (i := 6) sc_law_threaded.nd rfl (.inl rfl) (pe_listRg rfl rfl z_list (prg_1 rfl z_range (pv 3))))
  (pss_cons (ps_for PassesOwn.never rfl (pi_range1 rfl z_range (pa_cons (pv 2) pa_nil)) (pg_name (i := 4) sc_law_threaded.nd rfl (.inl rfl)) (pss_one (ps_if (L2.PW.pt (pw_and (pt_truth (pv 6) (by intro _; rfl)) (pw_and1 (L2.PW.pt (pw_or (pt_cmpR op_eq (pv 1) pe_str (nomark _)) (pw_or1 (pt_cmpR op_gt (pe_op op_mod (pe_callTy call_int1 (by rfl) z_int boot_int (pa_cons (pe_call G_law_next (hr.mono (by decide)) rfl g_law_next k_law_next b_law_next .nil pass0 (pa_cons (pv 0) pa_nil)) pa_nil)) pe_int) pe_int (nomark _)))))))) (pss_one (ps_asg (pv 4) (pg_sub (pv 5) (pe_op op_add (pv 2) (pe_call G_law_pick (hr.mono (by decide)) rfl g_law_pick k_law_pick b_law_pick .nil pass0 (pa_cons (pv 0) (pa_cons (pv 6) pa_nil)))) set_list))) pss_nil)))
  (pss_one (ps_ret (pv 5)))))), ?_⟩
    have szl : 20000 ≤ sizeLine := by decide
    refine ⟨_, rfl, (n : Int), rfl, RgOk.of_le (by omega) (by omega) (by omega) (by omega), fun a na => ?_⟩
    have s1 := same_upd (o := .lst (rgV 0 (n : Int))) na
    have ha1 : upd H a (.lst (rgV 0 (n : Int))) a = some (.lst ((ixs n).map V.int)) := by rw [upd_same, rgV_ixs (by omega)]; rfl
    revert s1 ha1
    generalize upd H a (.lst (rgV 0 (n : Int))) = H1
    intro s1 ha1
    refine ⟨_, rfl, m, rfl, by omega, by omega, fun D nD => ?_⟩
    have hk1 : ∀ {H2 : Hp}, SameBut D H1 H2 → Same H1 H2 := fun sb b o e => sb _ _ (ne_of_none e nD) e
    refine lc_range (lo := 0) (n := (m : Int).toNat) (fun i H2 => SameBut D H1 H2 ∧ ∃ l' : List Int, H2 D = some (.lst (l'.map V.int)) ∧ l'.length = i ∧ ∀ j : Nat, j < i → co l' j = -1 - (j : Int)) ⟨SameBut.upd, [], upd_same, rfl, fun j hj => absurd hj (Nat.not_lt_zero _)⟩ (fun i H2 hi hP => ?_) (fun H2 hP => ?_)
    · obtain ⟨sb, l', hD, el, ec⟩ := hP
      refine ⟨rfl, ?_⟩
      refine ⟨_, _, rfl, rfl, _, rfl, _, _, rfl, rfl, _, hD, by rw [List.length_map]; omega, sb.trans SameBut.upd, l' ++ [0 - 1 - (0 + (i : Int))], by rw [upd_same, List.map_append]; rfl, by rw [List.length_append, el]; rfl, fun j hj => ?_⟩
      by_cases c : j = i
      · have := co_app_r (a := l') (b := [0 - 1 - (0 + (i : Int))]) (i := 0) Nat.zero_lt_one
        rw [el] at this
        rw [c]
        refine this.trans ?_
        show 0 - 1 - (0 + (i : Int)) = _
        omega
      · rw [co_app_l (by omega)]
        exact ec j (by omega)
    obtain ⟨sb, l', hD, el, ec⟩ := hP
    have el : l'.length = m := by omega
    refine ⟨_, _, _, _, rfl, rfl, sb _ _ (ne_of_none ha1 nD) ha1, hD, by rw [List.length_map, List.length_map, ixs_len']; omega, fun mk nmk => ?_⟩
    have s2 : Same H (upd H2 mk (.lst ((ixs n).map V.int ++ l'.map V.int))) := Same.trans (Same.trans s1 (hk1 sb)) (same_upd nmk)
    have nmk0 : H mk = none := none_back (Same.trans s1 (hk1 sb)) nmk
    have hmk : upd H2 mk (.lst ((ixs n).map V.int ++ l'.map V.int)) mk = some (.lst ((ixs n ++ l').map V.int)) := by rw [upd_same, List.map_append]
    revert s2 hmk
    generalize upd H2 mk (.lst ((ixs n).map V.int ++ l'.map V.int)) = H3
    intro s2 hmk
    refine ⟨_, rfl, (m : Int), rfl, RgOk.of_le (by omega) (by omega) (by omega) (by omega), fun b nb => ?_⟩
    have nb0 : H b = none := none_back s2 nb
    have nbm : mk ≠ b := ne_of_none hmk nb
    have nrb : r ≠ b := ne_of_none (s2 _ _ hL) nb
    have nrm : r ≠ mk := ne_of_none hL nmk0
    rw [rgV_ixs (by omega), show (m : Int).toNat = m by omega]
    have i0 : ThrI n m 0 (ixs n ++ l') (ixs m) := by
      refine ⟨by rw [List.length_append, ixs_len', el], fun p hp => by rw [co_app_l (by rw [ixs_len']; exact hp), co_ixs hp], fun j hj => ?_, fun j j' h1 h2 => ?_, ixs_nodup m, fun x hx => ?_, fun j hj hn => absurd (mem_ixs.mpr ⟨by omega, by omega⟩) hn, Nat.le_of_eq (ixs_len' m)⟩
      · have := co_app_r (a := ixs n) (b := l') (i := j) (by omega)
        rw [ixs_len'] at this
        exact .inl (this.trans (ec j (by omega)))
      · have e1 := co_app_r (a := ixs n) (b := l') (i := j) (by omega)
        have e2 := co_app_r (a := ixs n) (b := l') (i := j') (by omega)
        rw [ixs_len'] at e1 e2
        rw [e1, e2, ec j (by omega), ec j' (by omega)]
        omega
      · have h := mem_ixs.mp hx
        refine ⟨x.toNat, by omega, by omega, ?_⟩
        have e1 := co_app_r (a := ixs n) (b := l') (i := x.toNat) (by omega)
        rw [ixs_len'] at e1
        exact e1.trans (ec _ (by omega))
    have t0 : z = "threads" → n = m → ThrT n m 0 (ixs n ++ l') (ixs m) := fun _ _ => ⟨ixs_len' m, fun a ha => absurd ha (Nat.not_lt_zero _)⟩
    refine ⟨_, rfl, (n : Int), rfl, by omega, by omega, for_range (lo := 0) (n := (n : Int).toNat) (fun i σ H' => ∃ v6 l ls ds', σ = [some (.ref r), some (.str z), some (.int n), some (.int m), v6, some (.ref mk), some (.ref b)] ∧ SameBut r H H' ∧ H' r = some (.lst (ds'.map V.int)) ∧ H' mk = some (.lst (l.map V.int)) ∧ H' b = some (.lst (ls.map V.int)) ∧ ThrI n m i l ls ∧ (z = "threads" → n = m → ThrT n m i l ls))
      ⟨none, _, _, ds, rfl, (Same.but s2).trans (SameBut.new nb), by rw [upd_ne nrb]; exact s2 _ _ hL, by rw [upd_ne nbm]; exact hmk, upd_same, i0, t0⟩ (fun i σ H' hi hP => ?_) (fun σ H' hP => ?_)⟩
    · obtain ⟨v6, l, ls, ds', rfl, sb1, hr1, hm1, hb1, iv, tv⟩ := hP
      have hi : i < n := by omega
      have ll := iv.len
      have lsm := iv.cap
      have skip : ls = [] ∨ z ≠ "threads" → z = "threads" → n = m → ThrT n m (i + 1) l ls := by
        rintro (e | e) e2 e3
        · have := (tv e2 e3).many
          rw [e] at this
          have : 0 = m - i := this
          omega
        · exact absurd e2 e
      have stay : ls = [] ∨ z ≠ "threads" → ∀ (H4 : Hp) (ds4 : List Int), SameBut r H H4 → H4 r = some (.lst (ds4.map V.int)) → H4 mk = some (.lst (l.map V.int)) → H4 b = some (.lst (ls.map V.int)) → ∃ (v6' : Option V) (l0 ls0 ds0 : List Int), ([some (.ref r), some (.str z), some (.int n), some (.int m), some (.int (0 + (i : Int))), some (.ref mk), some (.ref b)] : List (Option V)) = [some (.ref r), some (.str z), some (.int n), some (.int m), v6', some (.ref mk), some (.ref b)] ∧ SameBut r H H4 ∧ H4 r = some (.lst (ds0.map V.int)) ∧ H4 mk = some (.lst (l0.map V.int)) ∧ H4 b = some (.lst (ls0.map V.int)) ∧ ThrI n m (i + 1) l0 ls0 ∧ (z = "threads" → n = m → ThrT n m (i + 1) l0 ls0) :=
        fun e H4 ds4 a1 a2 a3 a4 => ⟨_, l, ls, ds4, rfl, a1, a2, a3, a4, iv.skip, skip e⟩
      refine ⟨_, rfl, _, .inl ⟨_, .inl (.inl hb1), rfl⟩, ?_⟩
      by_cases ce : ls = []
      · rw [ce]
        refine iteF ?_
        exact stay (.inl ce) H' ds' sb1 hr1 hm1 hb1
      rw [show (List.map V.int ls).isEmpty = false by cases ls with | nil => exact absurd rfl ce | cons => rfl]
      refine iteT ?_
      refine ⟨_, rfl, rfl, _, rfl, ite2 (fun e1 => ?_) (fun e1 => ⟨_, rfl, r, ds', rfl, hr1, fun n0 ds0 => .inl ⟨n0, rfl, n0, 4, rfl, rfl, (show (0 : Int) < 4 by decide), _, _, rfl, rfl, _, rfl, ite2 (fun e2 => ?_) (fun e2 => ?_)⟩⟩)⟩
      rotate_right
      · exact stay (.inr fun e => e1 (decide_eq_true (congrArg V.str e))) _ ds0 (sb1.trans SameBut.upd) upd_same (by rw [upd_ne (Ne.symm nrm)]; exact hm1) (by rw [upd_ne (Ne.symm nrb)]; exact hb1)
      · have sb4 := sb1
        have hr4 := hr1
        have hm4 := hm1
        have hb4 := hb1
        refine ⟨_, rfl, _, rfl, _, rfl, _, rfl, _, rfl, r, b, ds', ls, rfl, nrb, hr4, hb4, ce, by omega, fun ds5 k hk => ?_⟩
        obtain ⟨j, ej, hj, fj⟩ := thr_at iv hk
        rw [ej]
        have hm5 : upd (upd H' r (.lst (ds5.map V.int))) b (.lst ((ls.eraseIdx k).map V.int)) mk = some (.lst (l.map V.int)) := by rw [upd_ne nbm, upd_ne (Ne.symm nrm)]; exact hm4
        refine ⟨_, _, rfl, rfl, mk, _, _, n + j, rfl, rfl, hm5, ixN_nat (by rw [List.length_map]; omega), ?_⟩
        refine ⟨_, l.set (n + j) (i : Int), ls.eraseIdx k, ds5, rfl, fun o u no ho => ?_, ?_, ?_, ?_, iv.step hk hj ej, fun e1 e2 => (tv e1 e2).step iv hk hj ej⟩
        · rw [upd_ne (ne_of_none ho nmk0), upd_ne (ne_of_none ho nb0), upd_ne no]
          exact sb4 o u no ho
        · rw [upd_ne nrm, upd_ne nrb, upd_same]
        · rw [upd_same, Int.zero_add, List.map_set]
        · rw [upd_ne (Ne.symm nbm), upd_same]
      · have sb4 : SameBut r H (upd H' r (.lst (ds0.map V.int))) := sb1.trans SameBut.upd
        have hr4 : upd H' r (.lst (ds0.map V.int)) r = some (.lst (ds0.map V.int)) := upd_same
        have hm4 : upd H' r (.lst (ds0.map V.int)) mk = some (.lst (l.map V.int)) := by rw [upd_ne (Ne.symm nrm)]; exact hm1
        have hb4 : upd H' r (.lst (ds0.map V.int)) b = some (.lst (ls.map V.int)) := by rw [upd_ne (Ne.symm nrb)]; exact hb1
        revert sb4 hr4 hm4 hb4
        generalize upd H' r (.lst (ds0.map V.int)) = H4
        intro sb4 hr4 hm4 hb4
        refine ⟨_, rfl, _, rfl, _, rfl, _, rfl, _, rfl, r, b, ds0, ls, rfl, nrb, hr4, hb4, ce, by omega, fun ds5 k hk => ?_⟩
        obtain ⟨j, ej, hj, fj⟩ := thr_at iv hk
        rw [ej]
        have hm5 : upd (upd H4 r (.lst (ds5.map V.int))) b (.lst ((ls.eraseIdx k).map V.int)) mk = some (.lst (l.map V.int)) := by rw [upd_ne nbm, upd_ne (Ne.symm nrm)]; exact hm4
        refine ⟨_, _, rfl, rfl, mk, _, _, n + j, rfl, rfl, hm5, ixN_nat (by rw [List.length_map]; omega), ?_⟩
        refine ⟨_, l.set (n + j) (i : Int), ls.eraseIdx k, ds5, rfl, fun o u no ho => ?_, ?_, ?_, ?_, iv.step hk hj ej, fun e1 e2 => (tv e1 e2).step iv hk hj ej⟩
        · rw [upd_ne (ne_of_none ho nmk0), upd_ne (ne_of_none ho nb0), upd_ne no]
          exact sb4 o u no ho
        · rw [upd_ne nrm, upd_ne nrb, upd_same]
        · rw [upd_same, Int.zero_add, List.map_set]
        · rw [upd_ne (Ne.symm nbm), upd_same]
    · obtain ⟨v6, l, ls, ds', rfl, sb1, hr1, hm1, hb1, iv, tv⟩ := hP
      rw [show (n : Int).toNat = n by omega] at iv tv
      exact ⟨_, rfl, q mk l ds' H' sb1 hr1 (Ne.symm nrm) nmk0 hm1 iv.len ⟨ls, iv, tv⟩⟩
end

section
variable {P : Program} {w : World} {K : PySem.W.Frag} {mg : Str → Option Value} {base : Heap}
/-! ### _law_drawn -/
theorem fam_threaded {z : Str} {n m : Nat} {l ls : List Int} (hz : z = "threads" ∨ z = "loose") (h : ThrI n m n l ls) (t : z = "threads" → n = m → ThrT n m n l ls) : FamM z n m l := by
  refine ⟨fun _ => h.strand, fun e e2 => ?_, fun e => ?_, fun e => ?_, fun e => ?_⟩
  · have t' := t e e2
    subst e2
    exact h.mated t'
  all_goals
    subst e
    exact absurd hz (by decide +kernel)
theorem fam_parts {n m : Nat} {l : List Int} : FamM "parts" n m l :=
  ⟨fun e => absurd e (by decide +kernel), fun e => absurd e (by decide +kernel), fun e => absurd e (by decide +kernel), fun e => absurd e (by decide +kernel), fun e => absurd e (by decide +kernel)⟩
def Two (z : Str) (N : Nat) (l : List Int) : Prop := (z ≠ "lonepairs" → N % 2 = 0 → ∀ v, l.count v = 0 ∨ l.count v = 2) ∧ ∀ v, l.count v ≤ 2
theorem fam_two {z : Str} {n m : Nat} {l : List Int} (hz : ¬(z = "threads" ∨ z = "loose")) (h : Two z (n + m) l) : FamM z n m l := by
  refine ⟨fun e => absurd e hz, fun e => absurd (.inl e) hz, fun e e2 v hv => ?_, fun e => h.2, fun e e2 v => ?_⟩
  · rcases h.1 (by subst e; decide +kernel) e2 v with c | c
    · exact absurd (List.count_pos_iff.mpr hv) (by omega)
    · exact c
  · rcases h.1 (by subst e; decide +kernel) e2 v with c | c <;> omega
theorem two_of {z : Str} {N i : Nat} {l ls : List Int} (h : PrI (decide (z = "lonepairs")) N i l ls) (e : ls.length < 2 ∨ i = N) : Two z N l := by
  refine ⟨fun nz hN v => ?_, h.most⟩
  rw [decide_eq_false nz] at h
  exact h.two e hN v
theorem fam_even {n m : Nat} {l : List Int} (h : (n + m) % 2 = 0 → ∀ v, l.count v % 2 = 0) : FamM "even" n m l :=
  ⟨fun e => absurd e (by decide +kernel), fun e => absurd e (by decide +kernel), fun e => absurd e (by decide +kernel), fun e => absurd e (by decide +kernel), fun _ e => h e⟩
def spDrawn : Sp := fun vs H Q _ => ∃ (r : Addr) (ds : List Int) (z : Str) (n m : Nat), vs = [.ref r, .str z, .int n, .int m] ∧ n ≤ 8 ∧ m ≤ 8 ∧ H r = some (.lst (ds.map V.int)) ∧
  ∀ (v : V) (l ds' : List Int) (H' : Hp), SameBut r H H' → H' r = some (.lst (ds'.map V.int)) → l.length = n + m → FamM z n m l → DGv H' v n m (blocksOf l) → Q v H'
theorem ok_law_drawn {f a_law_next a_law_pick a_law_from a_law_threaded a_law_joined : Addr} {fd fd_law_next fd_law_pick fd_law_from fd_law_threaded fd_law_joined : FuncData} (F : Fun K "_law_drawn" "_law_drawn" s_law_drawn f fd) (z_int : mg "int" = none) (z_list : mg "list" = none) (z_range : mg "range" = none) (z_len : mg "len" = none) (z_max : mg "max" = none)
    (G_law_next : FnOk P w K mg base CX0 1 a_law_next fd_law_next ["draws"] spNext) (g_law_next : mg "_law_next" = some (.ref a_law_next)) (k_law_next : PySem.W.keepIn K (.ref a_law_next) = true) (b_law_next : Binds K fd_law_next ["draws"] [])
    (G_law_pick : FnOk P w K mg base CX0 2 a_law_pick fd_law_pick ["draws", "left"] spPick) (g_law_pick : mg "_law_pick" = some (.ref a_law_pick)) (k_law_pick : PySem.W.keepIn K (.ref a_law_pick) = true) (b_law_pick : Binds K fd_law_pick ["draws", "left"] [])
    (G_law_from : FnOk P w K mg base CX0 2 a_law_from fd_law_from ["n", "m", "marks"] (spFrom K)) (g_law_from : mg "_law_from" = some (.ref a_law_from)) (k_law_from : PySem.W.keepIn K (.ref a_law_from) = true) (b_law_from : Binds K fd_law_from ["n", "m", "marks"] [])
    (G_law_threaded : FnOk P w K mg base CX0 3 a_law_threaded fd_law_threaded ["draws", "family", "n", "m"] spThreaded) (g_law_threaded : mg "_law_threaded" = some (.ref a_law_threaded)) (k_law_threaded : PySem.W.keepIn K (.ref a_law_threaded) = true) (b_law_threaded : Binds K fd_law_threaded ["draws", "family", "n", "m"] [])
    (G_law_joined : FnOk P w K mg base CX0 1 a_law_joined fd_law_joined ["marks", "links"] (spJoined K)) (g_law_joined : mg "_law_joined" = some (.ref a_law_joined)) (k_law_joined : PySem.W.keepIn K (.ref a_law_joined) = true) (b_law_joined : Binds K fd_law_joined ["marks", "links"] []) :
    FnOk P w K mg base CX0 4 f fd ["draws", "family", "n", "m"] spDrawn := by
  refine F.ok sc_law_drawn (fun vs H Q E h => ?_) (fun cdv A outer s H vs Q E hr h => ?_)
  · obtain ⟨r, ds, z, n, m, rfl, _⟩ := h
    rfl
  · obtain ⟨r, ds, z, n, m, rfl, hn, hm, hL, q⟩ := h
    refine ⟨_, (pss_cons (ps_if (pt_cmpR op_in_seq (pv 1) (pe_lst (pa_cons pe_str (pa_cons pe_str pa_nil))) (by with_unfolding_all rfl)) (pss_one (ps_ret (pe_call G_law_from (hr.mono (by decide)) rfl g_law_from k_law_from b_law_from .nil pass0 (pa_cons (pv 2) (pa_cons (pv 3) (pa_cons (pe_call G_law_threaded (hr.mono (by decide)) rfl g_law_threaded k_law_threaded b_law_threaded .nil pass0 (pa_cons (pv 0) (pa_cons (pv 1) (pa_cons (pv 2) (pa_cons (pv 3) pa_nil))))) pa_nil)))))) pss_nil)
  (pss_cons (ps_set (i := 4) sc_law_drawn.nd rfl (.inl rfl) (pe_lst pa_nil))
  (pss_cons (ps_if (pt_cmpR op_eq (pv 1) pe_str (nomark _)) (pss_cons (ps_for PassesOwn.never rfl (pi_range1 rfl z_range (pa_cons (pe_op op_add (pv 2) (pv 3)) pa_nil)) (pg_name (i := 5) sc_law_drawn.nd rfl (.inl rfl)) (pss_one (ps_expr (pe_bm PySem.F.plainAttrs_list PySem.F.slot_list_append PySem.F.type_list_append mt_append (pv 4) (pa_cons (pe_op op_mod (pe_callTy call_int1 (by rfl) z_int boot_int (pa_cons (pe_call G_law_next (hr.mono (by decide)) rfl g_law_next k_law_next b_law_next .nil pass0 (pa_cons (pv 0) pa_nil)) pa_nil)) (pe_op op_add (pe_callB (cr_max rfl) (by rfl) z_max boot_max (pa_cons (pe_op op_cat (pv 4) (pe_lst (pa_cons (pe_un un_neg pe_int) pa_nil))) pa_nil)) pe_int)) pa_nil)))))
  (pss_one (ps_ret (pe_call G_law_from (hr.mono (by decide)) rfl g_law_from k_law_from b_law_from .nil pass0 (pa_cons (pv 2) (pa_cons (pv 3) (pa_cons (pv 4) pa_nil))))))) pss_nil)
  (pss_cons (ps_set (i := 4) sc_law_drawn.nd rfl (.inl rfl) (pe_listRg rfl rfl z_list (prg_1 rfl z_range (pe_op op_add (pv 2) (pv 3)))))
  (pss_cons (ps_set (i := 6) sc_law_drawn.nd rfl (.inl rfl) (pe_listRg rfl rfl z_list (prg_1 rfl z_range (pe_op op_add (pv 2) (pv 3)))))
  (Evl.pss_cut (ps_for PassesOwn.never rfl (pi_range1 rfl z_range (pa_cons (pe_op op_add (pv 2) (pv 3)) pa_nil)) (pg_name (i := 7) sc_law_drawn.nd rfl (.inl rfl)) (pss_cons (ps_if (pt_cmpR op_lt (pe_callB call_len_seq (by rfl) z_len boot_len (pa_cons (pv 6) pa_nil)) pe_int (nomark _)) (pss_one ps_break) pss_nil)
  (pss_cons (ps_set (i := 8) sc_law_drawn.nd rfl (.inl rfl) (pe_bm PySem.F.plainAttrs_list PySem.F.slot_list_pop PySem.F.type_list_pop mt_popAt (pv 6) (pa_cons pe_int pa_nil)))
  (pss_one (ps_if (L2.PW.pt (pw_or (pt_cmpR op_ne (pv 1) pe_str (nomark _)) (pw_or1 (pt_cmpR op_gt (pe_op op_mod (pe_callTy call_int1 (by rfl) z_int boot_int (pa_cons (pe_call G_law_next (hr.mono (by decide)) rfl g_law_next k_law_next b_law_next .nil pass0 (pa_cons (pv 0) pa_nil)) pa_nil)) pe_int) pe_int (nomark _))))) (pss_one (ps_asg (pv 8) (pg_sub (pv 4) (pe_call G_law_pick (hr.mono (by decide)) rfl g_law_pick k_law_pick b_law_pick .nil pass0 (pa_cons (pv 0) (pa_cons (pv 6) pa_nil))) set_list))) pss_nil)))))
  (Evl.pss_cut (ps_if (L2.PW.pt (pw_and (pt_cmpR op_eq (pv 1) pe_str (nomark _)) (pw_and1 (pt_truth (pv 4) (by intro _; rfl))))) (pss_one (ps_for PassesOwn.never rfl (pi_range1 rfl z_range (pa_cons (pe_op op_mod (pe_callTy call_int1 (by rfl) z_int boot_int (pa_cons (pe_call G_law_next (hr.mono (by decide)) rfl g_law_next k_law_next b_law_next .nil pass0 (pa_cons (pv 0) pa_nil)) pa_nil)) pe_int) pa_nil)) (pg_name (i := 7) sc_law_drawn.nd rfl (.inl rfl)) (pss_cons (ps_set (i := 8) sc_law_drawn.nd rfl (.inl rfl) (pe_op op_mod (pe_callTy call_int1 (by rfl) z_int boot_int (pa_cons (pe_call G_law_next (hr.mono (by decide)) rfl g_law_next k_law_next b_law_next .nil pass0 (pa_cons (pv 0) pa_nil)) pa_nil)) (pe_callB call_len_seq (by rfl) z_len boot_len (pa_cons (pv 4) pa_nil))))
  (pss_one (ps_set (i := 4) sc_law_drawn.nd rfl (.inl rfl) (pe_call G_law_joined (hr.mono (by decide)) rfl g_law_joined k_law_joined b_law_joined .nil pass0 (pa_cons (pv 4) (pa_cons (pe_lst (pa_cons (pe_tup (pa_cons (pv 8) (pa_cons (pe_op op_mod (pe_callTy call_int1 (by rfl) z_int boot_int (pa_cons (pe_call G_law_next (hr.mono (by decide)) rfl g_law_next k_law_next b_law_next .nil pass0 (pa_cons (pv 0) pa_nil)) pa_nil)) (pe_callB call_len_seq (by rfl) z_len boot_len (pa_cons (pv 4) pa_nil))) pa_nil))) pa_nil)) pa_nil)))))))) pss_nil)
  (pss_one (ps_ret (pe_call G_law_from (hr.mono (by decide)) rfl g_law_from k_law_from b_law_from .nil pass0 (pa_cons (pv 2) (pa_cons (pv 3) (pa_cons (pv 4) pa_nil))))))))))))), ?_⟩
    have szl : 20000 ≤ sizeLine := by decide
    refine ⟨_, rfl, (by show 2 ≤ sizeLine; decide), fun p np => ⟨p, _, rfl, .inl (.inl (.inl upd_same)), rfl, rfl, _, rfl, ?_⟩⟩
    have nrp : r ≠ p := ne_of_none hL np
    have sb1 : SameBut r H (upd H p (.lst [.str "threads", .str "loose"])) := SameBut.new np
    have hr1 : upd H p (.lst [.str "threads", .str "loose"]) r = some (.lst (ds.map V.int)) := by rw [upd_ne nrp]; exact hL
    have s01 : Same H (upd H p (.lst [.str "threads", .str "loose"])) := same_upd np
    revert sb1 hr1 s01
    generalize upd H p (.lst [.str "threads", .str "loose"]) = H1
    intro sb1 hr1 s01
    refine ite2 (fun e => ?_) (fun e => ?_)
    · refine ⟨_, rfl, _, rfl, _, rfl, _, rfl, _, rfl, _, rfl, r, ds, z, n, m, rfl, hn, hm, hr1, fun D l ds' H2 sb2 hr2 nDr nD hD hl hx => ?_⟩
      refine ⟨n, m, D, l, rfl, .inl (.inl hD), by omega, by omega, fun v H3 s3 nv hv => ?_⟩
      obtain ⟨ls, iv, tv⟩ := hx
      refine q v l ds' H3 ((sb1.trans sb2).trans (Same.but s3)) (s3 _ _ hr2) hl (fam_threaded ?_ iv tv) hv
      by_cases c1 : z = "threads"
      · exact .inl c1
      · by_cases c2 : z = "loose"
        · exact .inr c2
        · have e' : "threads" = z ∨ "loose" = z := by simpa [inV, eqV] using e
          exact e'.elim (fun h => absurd h.symm c1) fun h => absurd h.symm c2
    have hz : ¬(z = "threads" ∨ z = "loose") := by
      rintro (rfl | rfl) <;> exact absurd e (by decide +kernel)
    refine ⟨(by show 0 ≤ sizeLine; decide), fun e0 ne0 => ?_⟩
    have sb2 : SameBut r H (upd H1 e0 (.lst [])) := sb1.trans (SameBut.new ne0)
    have nre : r ≠ e0 := ne_of_none hr1 ne0
    have hr2 : upd H1 e0 (.lst []) r = some (.lst (ds.map V.int)) := by rw [upd_ne nre]; exact hr1
    refine ⟨_, rfl, rfl, _, rfl, ite2 (fun e1 => ?_) (fun e1 => ?_)⟩
    · obtain rfl : z = "parts" := V.str.inj (of_decide_eq_true e1)
      refine ⟨_, rfl, _, rfl, (n : Int), (m : Int), rfl, rfl, (n : Int) + (m : Int), rfl, by omega, by omega, for_range (lo := 0) (n := ((n : Int) + (m : Int)).toNat) (fun i σ H' => ∃ (v5 : Option V) (l ds' : List Int), σ = [some (.ref r), some (.str "parts"), some (.int n), some (.int m), some (.ref e0), v5, none, none, none] ∧ SameBut r H H' ∧ H' r = some (.lst (ds'.map V.int)) ∧ H' e0 = some (.lst (l.map V.int)) ∧ l.length = i)
        ⟨none, [], ds, rfl, sb2, hr2, upd_same, rfl⟩ (fun i σ H' hi hP => ?_) (fun σ H' hP => ?_)⟩
      · obtain ⟨v5, l, ds', rfl, sb3, hr3, he3, el⟩ := hP
        refine ⟨_, rfl, .inl ⟨rfl, _, .inl (.inl he3)⟩, _, rfl, r, ds', rfl, hr3, fun n0 ds0 => .inl ⟨n0, rfl, ?_⟩⟩
        have sb4 : SameBut r H (upd H' r (.lst (ds0.map V.int))) := sb3.trans SameBut.upd
        have hr4 : upd H' r (.lst (ds0.map V.int)) r = some (.lst (ds0.map V.int)) := upd_same
        have he4 : upd H' r (.lst (ds0.map V.int)) e0 = some (.lst (l.map V.int)) := by rw [upd_ne (Ne.symm nre)]; exact he3
        revert sb4 hr4 he4
        generalize upd H' r (.lst (ds0.map V.int)) = H4
        intro sb4 hr4 he4
        refine ⟨_, rfl, 1, rfl, (by show 1 ≤ sizeLine; decide), fun c nc => ⟨_, _, _, _, rfl, rfl, by rw [upd_ne (ne_of_none he4 nc)]; exact he4, upd_same, by rw [List.length_map]; show l.length + 1 ≤ sizeLine; omega, fun d nd => ?_⟩⟩
        have ec : upd (upd H4 c (.lst [.int (-1)])) d (.lst (l.map V.int ++ [.int (-1)])) d = some (.lst ((l ++ [-1]).map V.int)) := by rw [upd_same, List.map_append]; rfl
        refine ⟨d, l ++ [-1], rfl, .inl (.inl ec), by rw [List.length_append]; exact Nat.succ_pos _, fun mx hmx hge => ?_⟩
        have h1 := hge (-1) (List.mem_append_right _ List.mem_cons_self)
        have s5 : Same H4 (upd (upd H4 c (.lst [.int (-1)])) d (.lst (l.map V.int ++ [.int (-1)]))) := Same.trans (same_upd nc) (same_upd nd)
        refine ⟨_, _, rfl, rfl, _, _, rfl, rfl, by omega, e0, _, _, rfl, rfl, s5 _ _ he4, by rw [List.length_map]; omega, ?_⟩
        refine ⟨_, l ++ [n0 % (mx + 2)], ds0, rfl, fun o u no ho => ?_, ?_, by rw [upd_same, List.map_append]; rfl, by rw [List.length_append, el]; rfl⟩
        · rw [upd_ne (ne_of_none ho (none_back s01 ne0))]
          exact s5 _ _ (sb4 o u no ho)
        · rw [upd_ne nre]
          exact s5 _ _ hr4
      · obtain ⟨v5, l, ds', rfl, sb3, hr3, he3, el⟩ := hP
        refine ⟨_, rfl, _, rfl, _, rfl, n, m, e0, l, rfl, .inl (.inl he3), by omega, by omega, fun v H4 s4 nv hv => ?_⟩
        exact q v l ds' H4 (sb3.trans (Same.but s4)) (s4 _ _ hr3) (by omega) fam_parts hv
    have s02 : Same H (upd H1 e0 (.lst [])) := Same.trans s01 (same_upd ne0)
    revert hr2 s02
    generalize upd H1 e0 (.lst []) = H2
    intro hr2 s02
    clear sb2 sb1 hr1 s01 ne0 nrp np
    have toN : ((n : Int) + (m : Int)).toNat = n + m := by omega
    refine ⟨_, rfl, _, rfl, (n : Int), (m : Int), rfl, rfl, (n : Int) + (m : Int), rfl, RgOk.of_le (by omega) (by omega) (by omega) (by omega), fun mk nmk => ?_⟩
    rw [rgV_ixs (by omega), toN]
    have s03 := Same.trans s02 (same_upd (o := .lst ((ixs (n + m)).map V.int)) nmk)
    have hm3 : upd H2 mk (.lst ((ixs (n + m)).map V.int)) mk = some (.lst ((ixs (n + m)).map V.int)) := upd_same
    have nm0 : H mk = none := none_back s02 nmk
    revert s03 hm3
    generalize upd H2 mk (.lst ((ixs (n + m)).map V.int)) = H3
    intro s03 hm3
    refine ⟨_, rfl, _, rfl, (n : Int), (m : Int), rfl, rfl, (n : Int) + (m : Int), rfl, RgOk.of_le (by omega) (by omega) (by omega) (by omega), fun b nb => ?_⟩
    rw [rgV_ixs (by omega), toN]
    have s04 := Same.trans s03 (same_upd (o := .lst ((ixs (n + m)).map V.int)) nb)
    have hb4 : upd H3 b (.lst ((ixs (n + m)).map V.int)) b = some (.lst ((ixs (n + m)).map V.int)) := upd_same
    have nb0 : H b = none := none_back s03 nb
    have nbm : mk ≠ b := ne_of_none hm3 nb
    have hm4 : upd H3 b (.lst ((ixs (n + m)).map V.int)) mk = some (.lst ((ixs (n + m)).map V.int)) := by rw [upd_ne nbm]; exact hm3
    have hr4 := s04 _ _ hL
    revert s04 hb4 hm4 hr4
    generalize upd H3 b (.lst ((ixs (n + m)).map V.int)) = H4
    intro s04 hb4 hm4 hr4
    clear s03 hm3 nb nmk hr2 s02
    have nrb : r ≠ b := ne_of_none hL nb0
    have nrm : r ≠ mk := ne_of_none hL nm0
    let lone : Bool := decide (z = "lonepairs")
    refine ⟨fun σ H' => ∃ (v5 v7 v8 : Option V) (l ds' ls : List Int), σ = [some (.ref r), some (.str z), some (.int n), some (.int m), some (.ref mk), v5, some (.ref b), v7, v8] ∧ SameBut r H H' ∧ H' r = some (.lst (ds'.map V.int)) ∧ H' mk = some (.lst (l.map V.int)) ∧ H' b = some (.lst (ls.map V.int)) ∧ l.length = n + m ∧ Two z (n + m) l, ?_, ?_⟩
    · refine ⟨_, rfl, _, rfl, (n : Int), (m : Int), rfl, rfl, (n : Int) + (m : Int), rfl, by omega, by omega, for_range (lo := 0) (n := ((n : Int) + (m : Int)).toNat) (fun i σ H' => ∃ (v5 v7 v8 : Option V) (l ds' ls : List Int), σ = [some (.ref r), some (.str z), some (.int n), some (.int m), some (.ref mk), v5, some (.ref b), v7, v8] ∧ SameBut r H H' ∧ H' r = some (.lst (ds'.map V.int)) ∧ H' mk = some (.lst (l.map V.int)) ∧ H' b = some (.lst (ls.map V.int)) ∧ PrI lone (n + m) i l ls)
        ⟨none, none, none, ixs (n + m), ds, ixs (n + m), rfl, Same.but s04, hr4, hm4, hb4, PrI.start lone (n + m)⟩ (fun i σ H' hi hP => ?_) (fun σ H' hP => ?_)⟩
      · obtain ⟨v5, v7, v8, l, ds', ls, rfl, sb5, hr5, hm5, hb5, iv⟩ := hP
        have lsm := iv.cap
        refine ⟨_, rfl, b, _, rfl, .inl (.inl (.inl hb5)), _, _, rfl, rfl, _, rfl, ite2 (fun e2 => ?_) (fun e2 => ?_)⟩
        · rw [List.length_map] at e2
          have e2 : ls.length < 2 := by have := of_decide_eq_true e2; omega
          exact ⟨_, _, _, l, ds', ls, rfl, sb5, hr5, hm5, hb5, iv.len, two_of iv (.inl e2)⟩
        rw [List.length_map] at e2
        have e2 : ¬ ls.length < 2 := fun z => e2 (decide_eq_true (by omega))
        obtain ⟨one, ls, rfl⟩ : ∃ one ls', ls = one :: ls' := by
          cases ls with
          | nil => exact absurd (Nat.zero_lt_two) e2
          | cons a b => exact ⟨a, b, rfl⟩
        rw [List.length_cons] at e2 lsm
        have ll := iv.len
        have nls : ls ≠ [] := fun e => by rw [e] at e2; exact e2 (by decide)
        refine ⟨_, rfl, .inl ⟨rfl, _, .inl (.inl hb5)⟩, b, _, _, 0, .int one, rfl, rfl, hb5, by omega, by omega, seqIx_nat (k := 0) (by rw [List.length_map]; exact Nat.succ_pos _), rfl, ?_⟩
        rw [show (List.map V.int (one :: ls)).eraseIdx 0 = ls.map V.int from rfl]
        have sb6 : SameBut r H (upd H' b (.lst (ls.map V.int))) := fun o u no ho => by rw [upd_ne (ne_of_none ho nb0)]; exact sb5 o u no ho
        have hr6 : upd H' b (.lst (ls.map V.int)) r = some (.lst (ds'.map V.int)) := by rw [upd_ne nrb]; exact hr5
        have hm6 : upd H' b (.lst (ls.map V.int)) mk = some (.lst (l.map V.int)) := by rw [upd_ne nbm]; exact hm5
        have hb6 : upd H' b (.lst (ls.map V.int)) b = some (.lst (ls.map V.int)) := upd_same
        revert sb6 hr6 hm6 hb6
        generalize upd H' b (.lst (ls.map V.int)) = H6
        intro sb6 hr6 hm6 hb6
        refine ⟨_, rfl, rfl, _, rfl, ?_⟩
        by_cases cz : z = "lonepairs"
        · rw [decide_eq_true (congrArg V.str cz)]
          refine iteF ?_
          have iv' : PrI true (n + m) i l (one :: ls) := by
            have e : lone = true := decide_eq_true cz
            rw [e] at iv
            exact iv
          refine ⟨_, rfl, r, ds', rfl, hr6, fun n0 ds0 => .inl ⟨n0, rfl, n0, 4, rfl, rfl, (show (0 : Int) < 4 by decide), _, _, rfl, rfl, _, rfl, ?_⟩⟩
          have sb7 : SameBut r H (upd H6 r (.lst (ds0.map V.int))) := sb6.trans SameBut.upd
          have hr7 : upd H6 r (.lst (ds0.map V.int)) r = some (.lst (ds0.map V.int)) := upd_same
          have hm7 : upd H6 r (.lst (ds0.map V.int)) mk = some (.lst (l.map V.int)) := by rw [upd_ne (Ne.symm nrm)]; exact hm6
          have hb7 : upd H6 r (.lst (ds0.map V.int)) b = some (.lst (ls.map V.int)) := by rw [upd_ne (Ne.symm nrb)]; exact hb6
          revert sb7 hr7 hm7 hb7
          generalize upd H6 r (.lst (ds0.map V.int)) = H7
          intro sb7 hr7 hm7 hb7
          refine ite2 (fun e3 => ?_) (fun e3 => ?_)
          rotate_left
          · refine ⟨_, _, _, l, ds0, ls, rfl, sb7, hr7, hm7, hb7, ?_⟩
            have e : lone = true := decide_eq_true cz
            rw [e]
            exact iv'.skip
          refine ⟨_, rfl, _, rfl, _, rfl, _, rfl, r, b, ds0, ls, rfl, nrb, hr7, hb7, nls, by omega, fun ds5 k hk => ?_⟩
          obtain ⟨pos, ep, hpos, _, _⟩ := iv.free (co ls k) (List.mem_cons_of_mem _ (co_mem hk))
          rw [ep]
          have hm8 : upd (upd H7 r (.lst (ds5.map V.int))) b (.lst ((ls.eraseIdx k).map V.int)) mk = some (.lst (l.map V.int)) := by rw [upd_ne nbm, upd_ne (Ne.symm nrm)]; exact hm7
          refine ⟨mk, _, _, pos, rfl, rfl, hm8, ixN_nat (by rw [List.length_map]; omega), ?_⟩
          refine ⟨_, _, _, l.set pos one, ds5, ls.eraseIdx k, rfl, fun o u no ho => ?_, ?_, ?_, ?_, iv.step hk hpos ep⟩
          · rw [upd_ne (ne_of_none ho nm0), upd_ne (ne_of_none ho nb0), upd_ne no]
            exact sb7 o u no ho
          · rw [upd_ne nrm, upd_ne nrb, upd_same]
          · rw [upd_same, List.map_set]
          · rw [upd_ne (Ne.symm nbm), upd_same]
        · rw [decide_eq_false fun e => cz (V.str.inj e)]
          refine iteT ?_
          have sb7 := sb6
          have hr7 := hr6
          have hm7 := hm6
          have hb7 := hb6
          refine ⟨_, rfl, _, rfl, _, rfl, _, rfl, r, b, ds', ls, rfl, nrb, hr7, hb7, nls, by omega, fun ds5 k hk => ?_⟩
          obtain ⟨pos, ep, hpos, _, _⟩ := iv.free (co ls k) (List.mem_cons_of_mem _ (co_mem hk))
          rw [ep]
          have hm8 : upd (upd H6 r (.lst (ds5.map V.int))) b (.lst ((ls.eraseIdx k).map V.int)) mk = some (.lst (l.map V.int)) := by rw [upd_ne nbm, upd_ne (Ne.symm nrm)]; exact hm7
          refine ⟨mk, _, _, pos, rfl, rfl, hm8, ixN_nat (by rw [List.length_map]; omega), ?_⟩
          refine ⟨_, _, _, l.set pos one, ds5, ls.eraseIdx k, rfl, fun o u no ho => ?_, ?_, ?_, ?_, iv.step hk hpos ep⟩
          · rw [upd_ne (ne_of_none ho nm0), upd_ne (ne_of_none ho nb0), upd_ne no]
            exact sb7 o u no ho
          · rw [upd_ne nrm, upd_ne nrb, upd_same]
          · rw [upd_same, List.map_set]
          · rw [upd_ne (Ne.symm nbm), upd_same]
      · obtain ⟨v5, v7, v8, l, ds', ls, rfl, sb5, hr5, hm5, hb5, iv⟩ := hP
        exact ⟨_, _, _, l, ds', ls, rfl, sb5, hr5, hm5, hb5, iv.len, two_of iv (.inr toN)⟩
    · rintro σ H5 ⟨v5, v7, v8, l, ds', ls, rfl, sb5, hr5, hm5, hb5, ll, tw⟩
      refine ⟨fun σ H' => ∃ (mk2 : Addr) (v5 v6 v7 v8 : Option V) (l ds' : List Int), σ = [some (.ref r), some (.str z), some (.int n), some (.int m), some (.ref mk2), v5, v6, v7, v8] ∧ SameBut r H H' ∧ H' r = some (.lst (ds'.map V.int)) ∧ H' mk2 = some (.lst (l.map V.int)) ∧ l.length = n + m ∧ FamM z n m l, ?_, ?_⟩
      · refine ⟨_, rfl, rfl, _, rfl, ite2 (fun e2 => ?_) (fun e2 => ?_)⟩
        · obtain rfl : z = "even" := V.str.inj (of_decide_eq_true e2)
          refine ⟨_, rfl, _, .inl ⟨_, .inl (.inl hm5), rfl⟩, ?_⟩
          have nl : "even" ≠ ("lonepairs" : Str) := by decide +kernel
          by_cases ce : l = []
          · rw [ce]
            exact iteF ⟨mk, _, _, _, _, l, ds', rfl, sb5, hr5, hm5, ll, fam_two hz tw⟩
          have lpos : 0 < l.length := List.length_pos_iff.mpr ce
          rw [show (List.map V.int l).isEmpty = false by cases l with | nil => exact absurd rfl ce | cons => rfl]
          refine iteT ?_
          refine ⟨_, rfl, r, ds', rfl, hr5, fun n0 ds0 => .inl ⟨n0, rfl, n0, 3, rfl, rfl, (show (0 : Int) < 3 by decide), n0 % 3, rfl, by omega, by omega, for_range (lo := 0) (n := (n0 % 3).toNat) (fun i σ H' => ∃ (mk2 : Addr) (v5 v6 v7 v8 : Option V) (l ds' : List Int), σ = [some (.ref r), some (.str "even"), some (.int n), some (.int m), some (.ref mk2), v5, v6, v7, v8] ∧ r ≠ mk2 ∧ SameBut r H H' ∧ H' r = some (.lst (ds'.map V.int)) ∧ H' mk2 = some (.lst (l.map V.int)) ∧ l.length = n + m ∧ 0 < l.length ∧ ((n + m) % 2 = 0 → ∀ v, l.count v % 2 = 0))
            ⟨mk, _, _, _, _, l, ds0, rfl, nrm, sb5.trans SameBut.upd, upd_same, by rw [upd_ne (Ne.symm nrm)]; exact hm5, ll, lpos, fun e v => ?_⟩ (fun i σ H' hi hP => ?_) (fun σ H' hP => ?_)⟩⟩
          · rcases tw.1 nl e v with c | c <;> omega
          · obtain ⟨mk2, v5, v6, v7, v8, l, ds', rfl, nr2, sb6, hr6, hm6, ll, lpos, ev⟩ := hP
            clear tw hm5 hr5 hb5 sb5 ce
            refine ⟨_, rfl, r, ds', rfl, hr6, fun n0 ds0 => .inl ⟨n0, rfl, ?_⟩⟩
            have sb7 : SameBut r H (upd H' r (.lst (ds0.map V.int))) := sb6.trans SameBut.upd
            have hr7 : upd H' r (.lst (ds0.map V.int)) r = some (.lst (ds0.map V.int)) := upd_same
            have hm7 : upd H' r (.lst (ds0.map V.int)) mk2 = some (.lst (l.map V.int)) := by rw [upd_ne (Ne.symm nr2)]; exact hm6
            revert sb7 hr7 hm7
            generalize upd H' r (.lst (ds0.map V.int)) = H7
            intro sb7 hr7 hm7
            refine ⟨_, rfl, mk2, _, rfl, .inl (.inl (.inl hm7)), ?_⟩
            rw [List.length_map]
            refine ⟨n0, _, rfl, rfl, by omega, ?_⟩
            have m1 := mod_lt8 n0 (show (0 : Int) < (l.length : Int) by omega)
            obtain ⟨x, hx, ex⟩ : ∃ x : Nat, x < l.length ∧ n0 % (l.length : Int) = (x : Int) := ⟨(n0 % (l.length : Int)).toNat, by omega, by omega⟩
            dsimp only
            rw [ex]
            refine ⟨_, rfl, _, rfl, _, rfl, r, ds0, rfl, hr7, fun n1 ds1 => .inl ⟨n1, rfl, ?_⟩⟩
            have sb8 : SameBut r H (upd H7 r (.lst (ds1.map V.int))) := sb7.trans SameBut.upd
            have hr8 : upd H7 r (.lst (ds1.map V.int)) r = some (.lst (ds1.map V.int)) := upd_same
            have hm8 : upd H7 r (.lst (ds1.map V.int)) mk2 = some (.lst (l.map V.int)) := by rw [upd_ne (Ne.symm nr2)]; exact hm7
            revert sb8 hr8 hm8
            generalize upd H7 r (.lst (ds1.map V.int)) = H8
            intro sb8 hr8 hm8
            refine ⟨_, rfl, mk2, _, rfl, .inl (.inl (.inl hm8)), ?_⟩
            rw [List.length_map]
            refine ⟨n1, _, rfl, rfl, by omega, ?_⟩
            have m2 := mod_lt8 n1 (show (0 : Int) < (l.length : Int) by omega)
            obtain ⟨y, hy, ey⟩ : ∃ y : Nat, y < l.length ∧ n1 % (l.length : Int) = (y : Int) := ⟨(n1 % (l.length : Int)).toNat, by omega, by omega⟩
            dsimp only
            rw [ey]
            refine ⟨(by show 2 ≤ sizeLine; decide), fun t nt => ⟨(by show 1 ≤ sizeLine; decide), fun p np => ?_⟩⟩
            have s9 : Same H8 (upd (upd H8 t (.tup [.int x, .int y])) p (.lst [.ref t])) := Same.trans (same_upd nt) (same_upd np)
            refine ⟨mk2, p, t, l, x, y, rfl, .inl (.inl (s9 _ _ hm8)), upd_same, same_upd np _ _ upd_same, hx, hy, by omega, fun D l' H10 s10 nD hD el => ?_⟩
            have s11 := Same.trans s9 s10
            refine ⟨D, _, _, _, _, l', ds1, rfl, ne_of_none (s9 _ _ hr8) nD, sb8.trans (Same.but s11), s11 _ _ hr8, hD, ?_, ?_, fun e v => ?_⟩
            · rw [el, jn_len]
              exact ll
            · rw [el, jn_len]
              exact lpos
            · rw [el]
              exact jn_even (ev e) v
          · obtain ⟨mk2, v5, v6, v7, v8, l, ds', rfl, nr2, sb6, hr6, hm6, ll, lpos, ev⟩ := hP
            exact ⟨mk2, _, _, _, _, l, ds', rfl, sb6, hr6, hm6, ll, fam_even ev⟩
        · exact ⟨mk, _, _, _, _, l, ds', rfl, sb5, hr5, hm5, ll, fam_two hz tw⟩
      · rintro σ H6 ⟨mk2, v5, v6, v7, v8, l, ds', rfl, sb6, hr6, hm6, ll, fm⟩
        refine ⟨_, rfl, _, rfl, _, rfl, n, m, mk2, l, rfl, .inl (.inl hm6), by omega, by omega, fun v H7 s7 nv hv => ?_⟩
        exact q v l ds' H7 (sb6.trans (Same.but s7)) (s7 _ _ hr6) ll fm hv
end

section
variable {P : Program} {w : World} {K : PySem.W.Frag} {mg : Str → Option Value} {base : Heap}
/-! ### _law_shaped -/
def spShaped : Sp := fun vs H Q _ => ∃ (r : Addr) (ds : List Int) (z : Str) (most : Int), vs = [.ref r, .str z, .int most] ∧ 1 ≤ most ∧ most ≤ 6 ∧ H r = some (.lst (ds.map V.int)) ∧
  ∀ (v : V) (n m : Nat) (l ds' : List Int) (H' : Hp), SameBut r H H' → H' r = some (.lst (ds'.map V.int)) → (n : Int) ≤ most → (m : Int) ≤ most → DgAt H' v n m l → FamM z n m l → (z = "threads" → m = n) → (z = "pairs" ∨ z = "even" → (n + m) % 2 = 0) → Q v H'
theorem ok_law_shaped {f a_law_next a_law_drawn a_law_other_side : Addr} {fd fd_law_next fd_law_drawn fd_law_other_side : FuncData} (F : Fun K "_law_shaped" "_law_shaped" s_law_shaped f fd) (z_int : mg "int" = none)
    (G_law_next : FnOk P w K mg base CX0 1 a_law_next fd_law_next ["draws"] spNext) (g_law_next : mg "_law_next" = some (.ref a_law_next)) (k_law_next : PySem.W.keepIn K (.ref a_law_next) = true) (b_law_next : Binds K fd_law_next ["draws"] [])
    (G_law_drawn : FnOk P w K mg base CX0 4 a_law_drawn fd_law_drawn ["draws", "family", "n", "m"] spDrawn) (g_law_drawn : mg "_law_drawn" = some (.ref a_law_drawn)) (k_law_drawn : PySem.W.keepIn K (.ref a_law_drawn) = true) (b_law_drawn : Binds K fd_law_drawn ["draws", "family", "n", "m"] [])
    (G_law_other_side : FnOk P w K mg base CX0 2 a_law_other_side fd_law_other_side ["draws", "family", "n", "most"] spOther) (g_law_other_side : mg "_law_other_side" = some (.ref a_law_other_side)) (k_law_other_side : PySem.W.keepIn K (.ref a_law_other_side) = true) (b_law_other_side : Binds K fd_law_other_side ["draws", "family", "n", "most"] []) :
    FnOk P w K mg base CX0 5 f fd ["draws", "family", "most"] spShaped := by
  refine F.ok sc_law_shaped (fun vs H Q E h => ?_) (fun cdv A outer s H vs Q E hr h => ?_)
  · obtain ⟨r, ds, z, most, rfl, _⟩ := h
    rfl
  · obtain ⟨r, ds, z, most, rfl, h1, h6, hr0, q⟩ := h
    refine ⟨_, (pss_cons (ps_set (i := 3) sc_law_shaped.nd rfl (.inl rfl) (pe_op op_mod (pe_callTy call_int1 (by rfl) z_int boot_int (pa_cons (pe_call G_law_next (hr.mono (by decide)) rfl g_law_next k_law_next b_law_next .nil pass0 (pa_cons (pv 0) pa_nil)) pa_nil)) (pe_op op_add (pv 2) pe_int)))
  (pss_one (ps_ret (pe_call G_law_drawn (hr.mono (by decide)) rfl g_law_drawn k_law_drawn b_law_drawn .nil pass0 (pa_cons (pv 0) (pa_cons (pv 1) (pa_cons (pv 3) (pa_cons (pe_call G_law_other_side (hr.mono (by decide)) rfl g_law_other_side k_law_other_side b_law_other_side .nil pass0 (pa_cons (pv 0) (pa_cons (pv 1) (pa_cons (pv 3) (pa_cons (pv 2) pa_nil))))) pa_nil)))))))), ?_⟩
    refine ⟨_, rfl, r, ds, rfl, hr0, fun n0 ds1 => .inl ⟨n0, rfl, _, rfl, _, _, rfl, rfl, n0, _, rfl, rfl, by omega, ?_⟩⟩
    have mo := mod_lt8 n0 (show (0 : Int) < most + 1 by omega)
    obtain ⟨n, hn, en⟩ : ∃ n : Nat, (n : Int) ≤ most ∧ n0 % (most + 1) = (n : Int) := ⟨(n0 % (most + 1)).toNat, by omega, by omega⟩
    dsimp only
    rw [en]
    have hr5 : upd H r (.lst (ds1.map V.int)) r = some (.lst (ds1.map V.int)) := upd_same
    have sb5 : SameBut r H (upd H r (.lst (ds1.map V.int))) := SameBut.upd
    revert hr5 sb5
    generalize upd H r (.lst (ds1.map V.int)) = H5
    intro hr5 sb5
    refine ⟨_, rfl, _, rfl, _, rfl, _, rfl, _, rfl, _, rfl, _, rfl, r, ds1, z, n, most, rfl, by omega, by omega, by omega, hr5, fun m ds2 H6 m0 m4 mt mp sb6 hr6 => ?_⟩
    obtain ⟨m, rfl⟩ := Int.eq_ofNat_of_zero_le m0
    refine ⟨r, ds2, z, n, m, rfl, by omega, by omega, hr6, fun v l ds3 H7 sb7 hr7 hl fm hv => ?_⟩
    exact q v n m l ds3 H7 (sb5.trans (sb6.trans sb7)) hr7 hn m4 ⟨hv, siz_iff.mpr (by omega), by omega⟩ fm (fun e => by have := mt e; omega) (fun e => by have := mp e; omega)
end

/-- what stays through the law -/
structure K9 (H : Hp) (r : Addr) (v1 vb : V) (n1 m1 : Nat) (l1 ds : List Int) (nb mb : Int) (bb : List (List Int)) : Prop where
  hr : H r = some (.lst (ds.map V.int))
  d1 : DgAt H v1 n1 m1 l1
  bd : Bad H vb nb mb bb
theorem K9.same {H H' : Hp} {r : Addr} {v1 vb : V} {n1 m1 : Nat} {l1 ds : List Int} {nb mb : Int} {bb : List (List Int)} (s : Same H H') (h : K9 H r v1 vb n1 m1 l1 ds nb mb bb) : K9 H' r v1 vb n1 m1 l1 ds nb mb bb := ⟨s _ _ h.hr, h.d1.same s, h.bd.same s⟩
theorem mod_ltN (x : Int) {k : Nat} (h : 0 < k) : ∃ j : Nat, j < k ∧ x % (k : Int) = (j : Int) := ⟨(x % (k : Int)).toNat, by have := Int.emod_lt_of_pos x (show (0 : Int) < k by omega); have := Int.emod_nonneg x (show (k : Int) ≠ 0 by omega); omega, by have := Int.emod_nonneg x (show (k : Int) ≠ 0 by omega); omega⟩
theorem nm_ne {i : Nat} {t : Str} {A B : Prop} (h : nameE i = t) (b : B) : if (!decide (V.str (nameE i) = V.str t)) = true then A else B := by
  rw [h]
  exact ite_same b
theorem listF_in {z : Str} {n m : Nat} {d : List (List Int)} (h : d ∈ listF z n m) : inFam z (n : Int) d = true := by
  unfold listF at h
  split at h
  · exact nomatch h
  · exact (List.mem_filter.mp h).2
theorem mk_obj {H : Hp} {a : Addr} {o : HO} (h : H a = none) : ∃ H', upd H a o = H' ∧ Same H H' ∧ H' a = some o ∧ ∀ b o', H b = some o' → b ≠ a := ⟨_, rfl, same_upd h, upd_same, fun _ _ e => ne_of_none e h⟩
section
variable {P : Program} {w : World} {K : PySem.W.Frag} {mg : Str → Option Value} {base : Heap}
def spLaw (K : PySem.W.Frag) : Sp := fun vs H Q _ => ∃ (a : Addr) (ns : List Int), vs = [.ref a] ∧ SqL K H a (ns.map V.int) ∧ ns.length ≤ 63 ∧ ∀ H', Q (.bl true) H'
theorem ok_law {f CF CD CB CT : Addr} {fd : FuncData} (F : Fun K "law" "law" s_law f fd) (z_int : mg "int" = none) (z_len : mg "len" = none) (z_sorted : mg "sorted" = none)
    {a_law_draws : Addr} {fd_law_draws : FuncData} (G_law_draws : FnOk P w K mg base CX0 2 a_law_draws fd_law_draws ["script"] (spDraws K)) (g_law_draws : mg "_law_draws" = some (.ref a_law_draws)) (k_law_draws : PySem.W.keepIn K (.ref a_law_draws) = true) (b_law_draws : Binds K fd_law_draws ["script"] [])
    {a_law_family : Addr} {fd_law_family : FuncData} (G_law_family : FnOk P w K mg base CX0 2 a_law_family fd_law_family ["draws"] spFamily) (g_law_family : mg "_law_family" = some (.ref a_law_family)) (k_law_family : PySem.W.keepIn K (.ref a_law_family) = true) (b_law_family : Binds K fd_law_family ["draws"] [])
    {a_law_shaped : Addr} {fd_law_shaped : FuncData} (G_law_shaped : FnOk P w K mg base CX0 5 a_law_shaped fd_law_shaped ["draws", "family", "most"] spShaped) (g_law_shaped : mg "_law_shaped" = some (.ref a_law_shaped)) (k_law_shaped : PySem.W.keepIn K (.ref a_law_shaped) = true) (b_law_shaped : Binds K fd_law_shaped ["draws", "family", "most"] [])
    {a_law_next : Addr} {fd_law_next : FuncData} (G_law_next : FnOk P w K mg base CX0 1 a_law_next fd_law_next ["draws"] spNext) (g_law_next : mg "_law_next" = some (.ref a_law_next)) (k_law_next : PySem.W.keepIn K (.ref a_law_next) = true) (b_law_next : Binds K fd_law_next ["draws"] [])
    {a_law_told : Addr} {fd_law_told : FuncData} (G_law_told : FnOk P w K mg base CX0 8 a_law_told fd_law_told ["way", "family", "one", "other"] spTold) (g_law_told : mg "_law_told" = some (.ref a_law_told)) (k_law_told : PySem.W.keepIn K (.ref a_law_told) = true) (b_law_told : Binds K fd_law_told ["way", "family", "one", "other"] [])
    {a_law_from : Addr} {fd_law_from : FuncData} (G_law_from : FnOk P w K mg base CX0 2 a_law_from fd_law_from ["n", "m", "marks"] (spFrom K)) (g_law_from : mg "_law_from" = some (.ref a_law_from)) (k_law_from : PySem.W.keepIn K (.ref a_law_from) = true) (b_law_from : Binds K fd_law_from ["n", "m", "marks"] [])
    {a_law_drawn : Addr} {fd_law_drawn : FuncData} (G_law_drawn : FnOk P w K mg base CX0 4 a_law_drawn fd_law_drawn ["draws", "family", "n", "m"] spDrawn) (g_law_drawn : mg "_law_drawn" = some (.ref a_law_drawn)) (k_law_drawn : PySem.W.keepIn K (.ref a_law_drawn) = true) (b_law_drawn : Binds K fd_law_drawn ["draws", "family", "n", "m"] [])
    {a_listed : Addr} {fd_listed : FuncData} (G_listed : FnOk P w K mg base (L2N.CX P w) 5 a_listed fd_listed ["family", "n", "m"] (spListed CF CB CT)) (g_listed : mg "listed" = some (.ref a_listed)) (k_listed : PySem.W.keepIn K (.ref a_listed) = true) (b_listed : Binds K fd_listed ["family", "n", "m"] [])
    {a_counted : Addr} {fd_counted : FuncData} (G_counted : FnOk P w K mg base (L2N.CX P w) 3 a_counted fd_counted ["family", "n", "m"] (spCounted CF CB)) (g_counted : mg "counted" = some (.ref a_counted)) (k_counted : PySem.W.keepIn K (.ref a_counted) = true) (b_counted : Binds K fd_counted ["family", "n", "m"] [])
    {a_law_marks : Addr} {fd_law_marks : FuncData} (G_law_marks : FnOk P w K mg base CX0 1 a_law_marks fd_law_marks ["diagram"] spMarks) (g_law_marks : mg "_law_marks" = some (.ref a_law_marks)) (k_law_marks : PySem.W.keepIn K (.ref a_law_marks) = true) (b_law_marks : Binds K fd_law_marks ["diagram"] [])
    {a_index_of : Addr} {fd_index_of : FuncData} (G_index_of : FnOk P w K mg base (L2N.CX P w) 6 a_index_of fd_index_of ["family", "diagram"] (spIndexOfT CF CD CB CT)) (g_index_of : mg "index_of" = some (.ref a_index_of)) (k_index_of : PySem.W.keepIn K (.ref a_index_of) = true) (b_index_of : Binds K fd_index_of ["family", "diagram"] []) :
    FnG P w K mg base 9 f fd ["script"] (spLaw K) := by
  refine F.okG sc_law (fun vs H Q E h => ?_) (fun cdv A outer s H vs Q E hgu hr h => ?_)
  · obtain ⟨a, ns, rfl, _⟩ := h
    rfl
  · obtain ⟨sc, ns, rfl, hS, hlen, q⟩ := h
    refine ⟨_, (pss_cons (ps_set (i := 1) sc_law.nd rfl (.inl rfl) (pe_call G_law_draws (hr.mono (by decide)) rfl g_law_draws k_law_draws b_law_draws .nil pass0 (pa_cons (pv 0) pa_nil)))
  (pss_cons (ps_expr (pe_bm0 PySem.F.plainAttrs_list PySem.F.slot_list_reverse PySem.F.type_list_reverse mt_reverse (pv 1)))
  (pss_cons (ps_set (i := 2) sc_law.nd rfl (.inl rfl) (pe_call G_law_family (hr.mono (by decide)) rfl g_law_family k_law_family b_law_family .nil pass0 (pa_cons (pv 1) pa_nil)))
  (pss_cons (ps_set (i := 3) sc_law.nd rfl (.inl rfl) (pe_call G_law_shaped (hr.mono (by decide)) rfl g_law_shaped k_law_shaped b_law_shaped .nil pass0 (pa_cons (pv 1) (pa_cons (pv 2) (pa_cons pe_int pa_nil)))))
  (pss_cons (ps_set (i := 4) sc_law.nd rfl (.inl rfl) (pe_ix ix_list (pe_lst (pa_cons (pe_tup (pa_cons pe_int (pa_cons pe_int (pa_cons (pe_tup (pa_cons (pe_tup (pa_cons pe_int (pa_cons pe_int pa_nil))) (pa_cons (pe_tup pa_nil) pa_nil))) pa_nil)))) (pa_cons (pe_tup (pa_cons pe_int (pa_cons pe_int (pa_cons (pe_tup (pa_cons (pe_tup (pa_cons pe_int pa_nil)) (pa_cons (pe_tup (pa_cons pe_int (pa_cons pe_int pa_nil))) pa_nil))) pa_nil)))) (pa_cons (pe_tup (pa_cons (pe_un un_neg pe_int) (pa_cons pe_int (pa_cons (pe_tup pa_nil) pa_nil)))) (pa_cons (pe_tup (pa_cons pe_int (pa_cons pe_int (pa_cons (pe_tup pa_nil) pa_nil)))) pa_nil))))) (pe_op op_mod (pe_callTy call_int1 (by rfl) z_int boot_int (pa_cons (pe_call G_law_next (hr.mono (by decide)) rfl g_law_next k_law_next b_law_next .nil pass0 (pa_cons (pv 1) pa_nil)) pa_nil)) pe_int) (fun _ _ => rfl)))
  (Evl.pss_cut (ps_if (L2.PW.pt (pw_or (pt_cmpR op_ne (pe_call G_law_told (hr.mono (by decide)) rfl g_law_told k_law_told b_law_told .nil pass0 (pa_cons pe_int (pa_cons (pv 2) (pa_cons (pv 4) (pa_cons (pv 4) pa_nil))))) pe_str (nomark _)) (pw_or1 (pt_cmpR op_ne (pe_call G_law_told (hr.mono (by decide)) rfl g_law_told k_law_told b_law_told .nil pass0 (pa_cons pe_int (pa_cons (pv 2) (pa_cons (pv 3) (pa_cons (pv 4) pa_nil))))) pe_str (nomark _))))) (pss_one (ps_ret pe_bl)) pss_nil)
  (Evl.pss_cut (ps_for PassesOwn.never rfl (pi_list (pe_lst (pa_cons pe_int (pa_cons pe_int pa_nil)))) (pg_name (i := 5) sc_law.nd rfl (.inl rfl)) (pss_one (ps_if (L2.PW.pt (pw_or (pt_cmpR op_ne (pe_call G_law_told (hr.mono (by decide)) rfl g_law_told k_law_told b_law_told .nil pass0 (pa_cons (pv 5) (pa_cons pe_str (pa_cons (pv 4) (pa_cons (pv 4) pa_nil))))) pe_str (nomark _)) (pw_or1 (pt_cmpR op_ne (pe_call G_law_told (hr.mono (by decide)) rfl g_law_told k_law_told b_law_told .nil pass0 (pa_cons (pv 5) (pa_cons (pv 2) (pa_cons (pv 4) (pa_cons (pv 4) pa_nil))))) pe_str (nomark _))))) (pss_one (ps_ret pe_bl)) pss_nil)))
  (Evl.pss_cut (ps_if (L2.PW.pt (pw_or (pt_cmpR op_ne (pe_call G_law_told (hr.mono (by decide)) rfl g_law_told k_law_told b_law_told .nil pass0 (pa_cons pe_int (pa_cons (pv 2) (pa_cons (pv 4) (pa_cons (pv 4) pa_nil))))) pe_str (nomark _)) (pw_or1 (pt_cmpR op_ne (pe_call G_law_told (hr.mono (by decide)) rfl g_law_told k_law_told b_law_told .nil pass0 (pa_cons pe_int (pa_cons pe_str (pa_cons (pv 4) (pa_cons (pv 4) pa_nil))))) pe_str (nomark _))))) (pss_one (ps_ret pe_bl)) pss_nil)
  (Evl.pss_cut (ps_if (L2.PW.pt (pw_and (pt_cmpR (op_neD (room64 hr)) (pe_call G_law_told (hr.mono (by decide)) rfl g_law_told k_law_told b_law_told .nil pass0 (pa_cons pe_int (pa_cons (pv 2) (pa_cons (pv 3) (pa_cons (pv 4) pa_nil))))) pe_str (nomark _)) (pw_and1 (pt_cmpR op_in_seq (pe_ix ix_tup (pv 4) pe_int (fun _ _ => rfl)) (pe_lst (pa_cons (pe_un un_neg pe_int) (pa_cons pe_int pa_nil))) (by with_unfolding_all rfl))))) (pss_one (ps_ret pe_bl)) pss_nil)
  (pss_cons (ps_set (i := 6) sc_law.nd rfl (.inl rfl) (pe_call G_law_from (hr.mono (by decide)) rfl g_law_from k_law_from b_law_from .nil pass0 (pa_cons pe_int (pa_cons pe_int (pa_cons (pe_lst (pa_cons pe_int (pa_cons pe_int (pa_cons pe_int (pa_cons pe_int pa_nil))))) pa_nil)))))
  (Evl.pss_cut (ps_if (L2.PW.pt (pw_and (pt_cmpR op_notIn_seq (pv 2) (pe_lst (pa_cons pe_str (pa_cons pe_str pa_nil))) (by with_unfolding_all rfl)) (pw_and1 (pt_cmpR op_ne (pe_call G_law_told (hr.mono (by decide)) rfl g_law_told k_law_told b_law_told .nil pass0 (pa_cons pe_int (pa_cons (pv 2) (pa_cons (pv 6) (pa_cons (pv 6) pa_nil))))) pe_str (nomark _))))) (pss_one (ps_ret pe_bl)) pss_nil)
  (pss_cons (ps_set (i := 7) sc_law.nd rfl (.inl rfl) (pe_lst (pa_cons (pe_tup (pa_cons pe_str (pa_cons pe_int (pa_cons pe_int pa_nil)))) (pa_cons (pe_tup (pa_cons pe_str (pa_cons pe_int (pa_cons pe_int pa_nil)))) (pa_cons (pe_tup (pa_cons pe_str (pa_cons pe_int (pa_cons pe_int pa_nil)))) (pa_cons (pe_tup (pa_cons pe_str (pa_cons pe_int (pa_cons pe_int pa_nil)))) (pa_cons (pe_tup (pa_cons pe_str (pa_cons pe_int (pa_cons pe_int pa_nil)))) (pa_cons (pe_tup (pa_cons pe_str (pa_cons pe_int (pa_cons pe_int pa_nil)))) pa_nil))))))))
  (pss_cons (ps_asg (pe_ix ix_list (pv 7) (pe_op op_mod (pe_callTy call_int1 (by rfl) z_int boot_int (pa_cons (pe_call G_law_next (hr.mono (by decide)) rfl g_law_next k_law_next b_law_next .nil pass0 (pa_cons (pv 1) pa_nil)) pa_nil)) pe_int) (fun _ _ => rfl)) (pg_tup rfl (pgs_cons (pg_name (i := 8) sc_law.nd rfl (.inl rfl)) (pgs_cons (pg_name (i := 9) sc_law.nd rfl (.inl rfl)) (pgs_cons (pg_name (i := 10) sc_law.nd rfl (.inl rfl)) pgs_nil)))))
  (pss_cons (ps_set (i := 11) sc_law.nd rfl (.inl rfl) (pe_call G_law_drawn (hr.mono (by decide)) rfl g_law_drawn k_law_drawn b_law_drawn .nil pass0 (pa_cons (pv 1) (pa_cons (pv 8) (pa_cons (pv 9) (pa_cons (pv 10) pa_nil))))))
  (Evl.pss_cut (ps_if (L2.PW.pt (pw_or (pt_cmpR op_ne (pe_call G_law_told (hr.mono (by decide)) rfl g_law_told k_law_told b_law_told .nil pass0 (pa_cons pe_int (pa_cons (pv 8) (pa_cons (pv 11) (pa_cons (pv 11) pa_nil))))) pe_str (nomark _)) (pw_or1 (pt_cmpR op_ne (pe_call G_law_told (hr.mono (by decide)) rfl g_law_told k_law_told b_law_told .nil pass0 (pa_cons pe_int (pa_cons (pv 8) (pa_cons (pv 3) (pa_cons (pe_tup (pa_cons (pv 9) (pa_cons (pv 10) pa_nil))) pa_nil))))) pe_str (nomark _))))) (pss_one (ps_ret pe_bl)) pss_nil)
  (Evl.pss_cut (ps_if (L2.PW.pt (pw_and (pt_cmpR op_eq (pv 9) (pv 10) (nomark _)) (pw_and1 (pt_cmpR op_ne (pe_call G_law_told (hr.mono (by decide)) rfl g_law_told k_law_told b_law_told .nil pass0 (pa_cons pe_int (pa_cons (pv 8) (pa_cons (pv 3) (pa_cons (pe_tup (pa_cons (pv 9) (pa_cons (pv 10) pa_nil))) pa_nil))))) pe_str (nomark _))))) (pss_one (ps_ret pe_bl)) pss_nil)
  (Evl.pss_cut (ps_if (pt_cmpR op_ne (pe_op op_mod (pe_callTy call_int1 (by rfl) z_int boot_int (pa_cons (pe_call G_law_next (hr.mono (by decide)) rfl g_law_next k_law_next b_law_next .nil pass0 (pa_cons (pv 1) pa_nil)) pa_nil)) pe_int) pe_int (nomark _)) (pss_one (ps_ret pe_bl)) pss_nil)
  (pss_cons (ps_set (i := 12) sc_law.nd rfl (.inl rfl) (pe_lst (pa_cons (pe_tup (pa_cons pe_str (pa_cons pe_int (pa_cons pe_int pa_nil)))) (pa_cons (pe_tup (pa_cons pe_str (pa_cons pe_int (pa_cons pe_int pa_nil)))) (pa_cons (pe_tup (pa_cons pe_str (pa_cons pe_int (pa_cons pe_int pa_nil)))) (pa_cons (pe_tup (pa_cons pe_str (pa_cons pe_int (pa_cons pe_int pa_nil)))) (pa_cons (pe_tup (pa_cons pe_str (pa_cons pe_int (pa_cons pe_int pa_nil)))) (pa_cons (pe_tup (pa_cons pe_str (pa_cons pe_int (pa_cons pe_int pa_nil)))) pa_nil))))))))
  (pss_cons (ps_asg (pe_ix ix_list (pv 12) (pe_op op_mod (pe_callTy call_int1 (by rfl) z_int boot_int (pa_cons (pe_call G_law_next (hr.mono (by decide)) rfl g_law_next k_law_next b_law_next .nil pass0 (pa_cons (pv 1) pa_nil)) pa_nil)) pe_int) (fun _ _ => rfl)) (pg_tup rfl (pgs_cons (pg_name (i := 8) sc_law.nd rfl (.inl rfl)) (pgs_cons (pg_name (i := 9) sc_law.nd rfl (.inl rfl)) (pgs_cons (pg_name (i := 10) sc_law.nd rfl (.inl rfl)) pgs_nil)))))
  (pss_cons (ps_set (i := 13) sc_law.nd rfl (.inl rfl) (pe_call G_listed (hr.mono (by decide)) rfl g_listed k_listed b_listed .nil passLN (pa_cons (pv 8) (pa_cons (pv 9) (pa_cons (pv 10) pa_nil)))))
  (pss_cons (ps_setLc (i := 14) (own := [("diagram", 16)]) rfl sc_law.nd rfl rfl (sw_true rfl rfl rfl (by decide +kernel)) (pi_list (pv 13)) (blkOk_by (N := ["script", "draws", "family", "one", "bad", "way", "four", "beyond", "name", "n", "m", "large", "within", "told", "rows", "at", "diagram"]) (sc := defScope s_law) (by first | decide +kernel | rfl)) (fun _ _ _ _ _ => (pg_name (i := 16) sc_law.nd rfl (.inl rfl))) (fun _ _ _ _ _ => pts_nil) (fun _ _ _ _ _ => (pe_call G_law_marks (hr.mono (by decide)) rfl g_law_marks k_law_marks b_law_marks .nil pass0 (pa_cons (pv 16) pa_nil))))
  (Evl.pss_cut (ps_if (L2.PW.pt (pw_or (pt_cmpR op_ne (pe_callB call_len_seq (by rfl) z_len boot_len (pa_cons (pv 13) pa_nil)) (pe_call G_counted (hr.mono (by decide)) rfl g_counted k_counted b_counted .nil passLN (pa_cons (pv 8) (pa_cons (pv 9) (pa_cons (pv 10) pa_nil)))) (nomark _)) (pw_or1 (pt_cmpR (op_neD (room64 hr)) (pv 14) (pe_callB (cr_sortedG (room64 hr)) (by rfl) z_sorted boot_sorted (pa_cons (pv 14) pa_nil)) (nomark _))))) (pss_one (ps_ret pe_bl)) pss_nil)
  (pss_cons (ps_set (i := 15) sc_law.nd rfl (.inl rfl) (pe_op op_mod (pe_callTy call_int1 (by rfl) z_int boot_int (pa_cons (pe_call G_law_next (hr.mono (by decide)) rfl g_law_next k_law_next b_law_next .nil pass0 (pa_cons (pv 1) pa_nil)) pa_nil)) (pe_callB call_len_seq (by rfl) z_len boot_len (pa_cons (pv 13) pa_nil))))
  (pss_one (ps_ret (pe_and (pe_cmpR op_eq (pe_call G_index_of (hr.mono (by decide)) rfl g_index_of k_index_of b_index_of .nil passLN (pa_cons (pv 8) (pa_cons (pe_ix ix_list (pv 13) (pv 15) (fun _ _ => rfl)) pa_nil))) (pv 15) (nomark _)) (pe_one (pe_cmpR (op_eqD (room64 hr)) (pe_call G_law_from (hr.mono (by decide)) rfl g_law_from k_law_from b_law_from .nil pass0 (pa_cons (pv 9) (pa_cons (pv 10) (pa_cons (pe_ix ix_list (pv 14) (pv 15) (fun _ _ => rfl)) pa_nil)))) (pe_ix ix_list (pv 13) (pv 15) (fun _ _ => rfl)) (nomark _))))))))))))))))))))))))))))), ?_⟩
    have szl : 20000 ≤ sizeLine := by decide
    refine ⟨_, rfl, sc, ns, rfl, hS, hlen, fun H1 r ds s1 nr hL => ?_⟩
    refine ⟨_, rfl, .inl ⟨rfl, _, .inl (.inl hL)⟩, r, _, rfl, rfl, hL, ?_⟩
    have hr1 : upd H1 r (.lst (ds.map V.int).reverse) r = some (.lst (ds.reverse.map V.int)) := by rw [upd_same, List.map_reverse]
    revert hr1
    generalize upd H1 r (.lst (ds.map V.int).reverse) = H2
    generalize ds.reverse = ds
    intro hr1
    clear hL s1 nr hS
    refine ⟨_, rfl, r, ds, rfl, hr1, fun z ds0 H4 mz sb4 hr4 => ?_⟩
    refine ⟨_, rfl, _, rfl, r, ds0, z, 3, rfl, by decide, by decide, hr4, fun v1 n1 m1 l1 ds1 H5 sb5 hr5 hn hm d5 fm mt mp => ?_⟩
    clear sb4 sb5 hr1 hr4 mt mp fm
    refine ⟨(by show 2 ≤ sizeLine; decide), fun p0 np => ?_⟩
    obtain ⟨G0, eG, t0, e0, f0⟩ := mk_obj (o := .tup [.int 0, .int 1]) np
    rw [eG]
    clear np eG
    refine ⟨(by show 0 ≤ sizeLine; decide), fun p1 np => ?_⟩
    obtain ⟨G1, eG, t1, e1, f1⟩ := mk_obj (o := .tup []) np
    rw [eG]
    clear np eG
    refine ⟨(by show 2 ≤ sizeLine; decide), fun p2 np => ?_⟩
    obtain ⟨G2, eG, t2, e2, f2⟩ := mk_obj (o := .tup [.ref p0, .ref p1]) np
    rw [eG]
    clear np eG
    refine ⟨(by show 3 ≤ sizeLine; decide), fun p3 np => ?_⟩
    obtain ⟨G3, eG, t3, e3, f3⟩ := mk_obj (o := .tup [.int 1, .int 1, .ref p2]) np
    rw [eG]
    clear np eG
    refine ⟨(by show 1 ≤ sizeLine; decide), fun p4 np => ?_⟩
    obtain ⟨G4, eG, t4, e4, f4⟩ := mk_obj (o := .tup [.int 0]) np
    rw [eG]
    clear np eG
    refine ⟨(by show 2 ≤ sizeLine; decide), fun p5 np => ?_⟩
    obtain ⟨G5, eG, t5, e5, f5⟩ := mk_obj (o := .tup [.int 0, .int 1]) np
    rw [eG]
    clear np eG
    refine ⟨(by show 2 ≤ sizeLine; decide), fun p6 np => ?_⟩
    obtain ⟨G6, eG, t6, e6, f6⟩ := mk_obj (o := .tup [.ref p4, .ref p5]) np
    rw [eG]
    clear np eG
    refine ⟨(by show 3 ≤ sizeLine; decide), fun p7 np => ?_⟩
    obtain ⟨G7, eG, t7, e7, f7⟩ := mk_obj (o := .tup [.int 2, .int 0, .ref p6]) np
    rw [eG]
    clear np eG
    refine ⟨_, rfl, ?_⟩
    refine ⟨(by show 0 ≤ sizeLine; decide), fun p8 np => ?_⟩
    obtain ⟨G8, eG, t8, e8, f8⟩ := mk_obj (o := .tup []) np
    rw [eG]
    clear np eG
    refine ⟨(by show 3 ≤ sizeLine; decide), fun p9 np => ?_⟩
    obtain ⟨G9, eG, t9, e9, f9⟩ := mk_obj (o := .tup [.int (-1), .int 1, .ref p8]) np
    rw [eG]
    clear np eG
    refine ⟨(by show 0 ≤ sizeLine; decide), fun p10 np => ?_⟩
    obtain ⟨G10, eG, t10, e10, f10⟩ := mk_obj (o := .tup []) np
    rw [eG]
    clear np eG
    refine ⟨(by show 3 ≤ sizeLine; decide), fun p11 np => ?_⟩
    obtain ⟨G11, eG, t11, e11, f11⟩ := mk_obj (o := .tup [.int 8, .int 5, .ref p10]) np
    rw [eG]
    clear np eG
    refine ⟨(by show 4 ≤ sizeLine; decide), fun p12 np => ?_⟩
    obtain ⟨G12, eG, t12, e12, f12⟩ := mk_obj (o := .lst [.ref p3, .ref p7, .ref p9, .ref p11]) np
    rw [eG]
    clear np eG
    have hrG : H5 r = some (.lst (ds1.map V.int)) := hr5
    have u11 : Same G11 G12 := Same.trans t12 (Same.refl _)
    have u10 : Same G10 G12 := Same.trans t11 u11
    have u9 : Same G9 G12 := Same.trans t10 u10
    have u8 : Same G8 G12 := Same.trans t9 u9
    have u7 : Same G7 G12 := Same.trans t8 u8
    have u6 : Same G6 G12 := Same.trans t7 u7
    have u5 : Same G5 G12 := Same.trans t6 u6
    have u4 : Same G4 G12 := Same.trans t5 u5
    have u3 : Same G3 G12 := Same.trans t4 u4
    have u2 : Same G2 G12 := Same.trans t3 u3
    have u1 : Same G1 G12 := Same.trans t2 u2
    have u0 : Same G0 G12 := Same.trans t1 u1
    have u : Same H5 G12 := Same.trans t0 u0
    have nr12 : r ≠ p12 := f12 _ _ (t11 _ _ (t10 _ _ (t9 _ _ (t8 _ _ (t7 _ _ (t6 _ _ (t5 _ _ (t4 _ _ (t3 _ _ (t2 _ _ (t1 _ _ (t0 _ _ hr5))))))))))))
    have bA : Bad G12 (.ref p3) 1 1 [[0, 1], []] := ⟨⟨p3, .ref p2, rfl, u3 _ _ e3, p2, _, rfl, u2 _ _ e2, .cons ⟨p0, rfl, u0 _ _ e0⟩ (.cons ⟨p1, rfl, u1 _ _ e1⟩ .nil)⟩, ⟨by decide, by decide, by decide, by decide⟩, nb0, .inl ⟨rfl, rfl⟩⟩
    have bB : Bad G12 (.ref p7) 2 0 [[0], [0, 1]] := ⟨⟨p7, .ref p6, rfl, u7 _ _ e7, p6, _, rfl, u6 _ _ e6, .cons ⟨p4, rfl, u4 _ _ e4⟩ (.cons ⟨p5, rfl, u5 _ _ e5⟩ .nil)⟩, ⟨by decide, by decide, by decide, by decide⟩, nb1, .inr (.inl ⟨rfl, rfl⟩)⟩
    have bC : Bad G12 (.ref p9) (-1) 1 [] := ⟨⟨p9, .ref p8, rfl, u9 _ _ e9, p8, _, rfl, u8 _ _ e8, .nil⟩, ⟨by decide, by decide, by decide, by decide⟩, nb2, .inr (.inr (.inl ⟨rfl, rfl⟩))⟩
    have bD : Bad G12 (.ref p11) 8 5 [] := ⟨⟨p11, .ref p10, rfl, u11 _ _ e11, p10, _, rfl, u10 _ _ e10, .nil⟩, ⟨by decide, by decide, by decide, by decide⟩, nb3, .inr (.inr (.inr ⟨rfl, rfl⟩))⟩
    have pick : ∀ j : Nat, j < 4 → ∃ vb nb mb bb, ([V.ref p3, .ref p7, .ref p9, .ref p11] : List V)[j]? = some vb ∧ Bad G12 vb nb mb bb := fun j hj => by
      rcases (show j = 0 ∨ j = 1 ∨ j = 2 ∨ j = 3 by omega) with rfl | rfl | rfl | rfl
      · exact ⟨_, _, _, _, rfl, bA⟩
      · exact ⟨_, _, _, _, rfl, bB⟩
      · exact ⟨_, _, _, _, rfl, bC⟩
      · exact ⟨_, _, _, _, rfl, bD⟩
    have d6 := d5.same u
    have hr6 := u _ _ hr5
    clear f0 f1 f2 f3 f4 f5 f6 f7 f8 f9 f10 f11 f12 t0 t1 t2 t3 t4 t5 t6 t7 t8 t9 t10 t11 t12 u0 u1 u2 u3 u4 u5 u6 u7 u8 u9 u10 u11 e0 e1 e2 e3 e4 e5 e6 e7 e8 e9 e10 e11 u bA bB bC bD d5 hr5 hrG
    refine ⟨_, rfl, r, ds1, rfl, hr6, fun n0 ds2 => .inl ⟨n0, rfl, n0, 4, rfl, rfl, (show (0 : Int) < 4 by decide), ?_⟩⟩
    obtain ⟨j, hj, ej⟩ := mod_ltN n0 (show 0 < 4 by decide)
    have ej : n0 % 4 = (j : Int) := ej
    obtain ⟨vb, nb, mb, bb, evb, bd⟩ := pick j hj
    dsimp only
    rw [ej]
    have hL12 : upd G12 r (.lst (ds2.map V.int)) p12 = some (.lst [.ref p3, .ref p7, .ref p9, .ref p11]) := by rw [upd_ne (Ne.symm nr12)]; exact e12
    have k9 : K9 (upd G12 r (.lst (ds2.map V.int))) r v1 vb n1 m1 l1 ds2 nb mb bb := ⟨upd_same, d6.butL hr6 SameBut.upd, ⟨bd.dg.butL hr6 SameBut.upd, bd.ok, bd.nd, bd.who⟩⟩
    refine ⟨p12, _, (j : Int), vb, rfl, rfl, .inl (.inl hL12), atI_nat (j := j) evb, ?_⟩
    revert k9
    generalize upd G12 r (.lst (ds2.map V.int)) = H6
    intro k9
    clear hL12 bd pick d6 hr6 nr12 e12 evb

    refine ⟨fun σ H' => ∃ (ds : List Int), σ = [some (.ref sc), some (.ref r), some (.str z), some v1, some vb, none, none, none, none, none, none, none, none, none, none, none, none] ∧ K9 H' r v1 vb n1 m1 l1 ds nb mb bb, ?_, ?_⟩
    · refine ⟨_, rfl, _, rfl, _, rfl, 0, z, vb, vb, nb, mb, bb, nb, mb, bb, rfl, k9.bd.dg, k9.bd.ok, .inl ⟨rfl, k9.bd.dg, k9.bd.ok, k9.bd.nd, fun H7 s7 => ⟨rfl, _, rfl, nm_ne rfl ?_⟩⟩⟩
      have k9 := k9.same s7
      exact ⟨_, rfl, _, rfl, _, rfl, 0, z, v1, vb, n1, m1, _, nb, mb, bb, rfl, k9.d1.1, k9.d1.ok, .inl ⟨rfl, k9.bd.dg, k9.bd.ok, k9.bd.nd, fun H8 s8 => ⟨rfl, _, rfl, nm_ne rfl ⟨ds2, rfl, k9.same s8⟩⟩⟩⟩
    clear k9
    rintro σ H6 ⟨ds2, rfl, k9⟩
    refine ⟨fun σ H' => ∃ (v5 : Option V) (ds : List Int), σ = [some (.ref sc), some (.ref r), some (.str z), some v1, some vb, v5, none, none, none, none, none, none, none, none, none, none, none] ∧ K9 H' r v1 vb n1 m1 l1 ds nb mb bb, ?_, ?_⟩
    · refine ⟨(by show 2 ≤ sizeLine; decide), fun p np => ⟨p, rfl, ⟨_, .inl (.inl upd_same)⟩, for_list (K := K) (xs := [.int 1, .int 2]) (fun i σ H' => ∃ (v5 : Option V) (ds : List Int), σ = [some (.ref sc), some (.ref r), some (.str z), some v1, some vb, v5, none, none, none, none, none, none, none, none, none, none, none] ∧ K9 H' r v1 vb n1 m1 l1 ds nb mb bb ∧ H' p = some (.lst [.int 1, .int 2])) ⟨none, ds2, rfl, k9.same (same_upd np), upd_same⟩ (fun i σ H' _ hP => ?_) (fun i y σ H' hy hP => ?_) (fun σ H' hP => ?_)⟩⟩
      · obtain ⟨_, _, _, _, hp⟩ := hP
        exact .inl (.inl hp)
      · obtain ⟨v5, ds, rfl, k, hp⟩ := hP
        match i, hy with
        | 0, hy =>
          obtain rfl := Option.some.inj hy
          refine ⟨_, rfl, _, rfl, _, rfl, 1, "", vb, vb, nb, mb, bb, nb, mb, bb, rfl, k.bd.dg, k.bd.ok, .inr (.inl ⟨rfl, .inl ⟨by decide, fun H7 s7 => ⟨rfl, _, rfl, nm_ne rfl ?_⟩⟩⟩)⟩
          have k := k.same s7
          exact ⟨_, rfl, _, rfl, _, rfl, _, rfl, 1, z, vb, vb, nb, mb, bb, nb, mb, bb, rfl, k.bd.dg, k.bd.ok, .inr (.inl ⟨rfl, .inr (.inl ⟨mz, k.bd.nd, fun H8 s8 => ⟨rfl, _, rfl, nm_ne rfl ⟨_, ds, rfl, k.same s8, s8 _ _ (s7 _ _ hp)⟩⟩⟩)⟩)⟩
        | 1, hy =>
          obtain rfl := Option.some.inj hy
          refine ⟨_, rfl, _, rfl, _, rfl, 2, "", vb, vb, nb, mb, bb, nb, mb, bb, rfl, k.bd.dg, k.bd.ok, .inr (.inr (.inl ⟨rfl, .inl ⟨by decide, fun H7 s7 => ⟨rfl, _, rfl, nm_ne rfl ?_⟩⟩⟩))⟩
          have k := k.same s7
          exact ⟨_, rfl, _, rfl, _, rfl, _, rfl, 2, z, vb, vb, nb, mb, bb, nb, mb, bb, rfl, k.bd.dg, k.bd.ok, .inr (.inr (.inl ⟨rfl, .inr ⟨mz, k.bd.nd, fun H8 s8 => ⟨rfl, _, rfl, nm_ne rfl ⟨_, ds, rfl, k.same s8, s8 _ _ (s7 _ _ hp)⟩⟩⟩⟩))⟩
      · obtain ⟨v5, ds, rfl, k, hp⟩ := hP
        exact ⟨v5, ds, rfl, k⟩
    clear k9
    rintro σ H6 ⟨v5, ds2, rfl, k9⟩
    refine ⟨fun σ H' => ∃ (ds : List Int), σ = [some (.ref sc), some (.ref r), some (.str z), some v1, some vb, v5, none, none, none, none, none, none, none, none, none, none, none] ∧ K9 H' r v1 vb n1 m1 l1 ds nb mb bb, ?_, ?_⟩
    · refine ⟨_, rfl, _, rfl, _, rfl, 5, z, vb, vb, nb, mb, bb, nb, mb, bb, rfl, k9.bd.dg, k9.bd.ok, .inr (.inr (.inr (.inr (.inr ⟨rfl, k9.bd.nd, fun H7 s7 => ⟨rfl, _, rfl, nm_ne rfl ?_⟩⟩))))⟩
      have k9 := k9.same s7
      obtain ⟨t, w0, rfl, ht, _⟩ := id k9.bd.dg
      exact ⟨_, rfl, _, rfl, 4, "", .ref t, .ref t, nb, mb, bb, nb, mb, bb, rfl, k9.bd.dg, k9.bd.ok, .inr (.inr (.inr (.inr (.inl ⟨rfl, t, _, rfl, ht, .inl ⟨by decide, fun H8 s8 => ⟨rfl, _, rfl, nm_ne rfl ⟨ds2, rfl, k9.same s8⟩⟩⟩⟩))))⟩
    clear k9
    rintro σ H6 ⟨ds2, rfl, k9⟩
    refine ⟨fun σ H' => ∃ (ds : List Int), σ = [some (.ref sc), some (.ref r), some (.str z), some v1, some vb, v5, none, none, none, none, none, none, none, none, none, none, none] ∧ K9 H' r v1 vb n1 m1 l1 ds nb mb bb, ?_, ?_⟩
    · obtain ⟨t, w0, rfl, ht, _⟩ := id k9.bd.dg
      rcases k9.bd.who with ⟨rfl, rfl⟩ | ⟨rfl, rfl⟩ | ⟨rfl, rfl⟩ | ⟨rfl, rfl⟩
      · refine ⟨_, rfl, _, rfl, _, rfl, 3, z, v1, .ref t, n1, m1, _, 1, 1, bb, rfl, k9.d1.1, k9.d1.ok, .inr (.inr (.inr (.inl ⟨rfl, mz, t, _, rfl, ht, .inr (.inr ⟨rfl, (small11 z mz).1, fun _ k hk => (small11 z mz).2 k (Nat.lt_succ_of_le hk), fun L ps H7 s7 hL7 pr => ?_⟩)⟩)))⟩
        have pr : Paired (fun v bs => DGv H7 v ((1 : Nat) : Int) ((1 : Nat) : Int) bs) ps (listF z 1 1) := pr
        have each := listF_dg (z := z) (n := 1) (m := 1) rfl
        have len := listF_len (z := z) (n := 1) (m := 1) ((small11 z mz).2 2 (by decide))
        refine ⟨dDgs ((1 : Nat) : Int) ((1 : Nat) : Int) (listF z 1 1), .str "!number", .lst (.inl (.inl hL7)) (dgs_dp pr), .str _, (smL_dgs each len).shaped (by decide), num_shaped, ?_⟩
        rw [show PyData.eqv (dDgs ((1 : Nat) : Int) ((1 : Nat) : Int) (listF z 1 1)) (.str "!number") = false by simp [dDgs, PyData.eqv]]
        refine ⟨_, rfl, if_pos_of rfl ?_⟩
        exact ⟨_, rfl, t, _, 0, _, rfl, rfl, .inl (.inl (s7 _ _ ht)), atI_nat (j := 0) rfl, _, rfl, (by show 2 ≤ sizeLine; decide), fun p np => ⟨p, _, rfl, .inl (.inl (.inl upd_same)), rfl, rfl, _, rfl, if_neg_of (by decide) ⟨ds2, rfl, k9.same (Same.trans s7 (same_upd np))⟩⟩⟩
      · refine ⟨_, rfl, _, rfl, _, rfl, 3, z, v1, .ref t, n1, m1, _, 2, 0, bb, rfl, k9.d1.1, k9.d1.ok, .inr (.inr (.inr (.inl ⟨rfl, mz, t, _, rfl, ht, .inr (.inr ⟨rfl, (small20 z mz).1, fun _ k hk => (small20 z mz).2 k (Nat.lt_succ_of_le hk), fun L ps H7 s7 hL7 pr => ?_⟩)⟩)))⟩
        have pr : Paired (fun v bs => DGv H7 v ((2 : Nat) : Int) ((0 : Nat) : Int) bs) ps (listF z 2 0) := pr
        have each := listF_dg (z := z) (n := 2) (m := 0) rfl
        have len := listF_len (z := z) (n := 2) (m := 0) ((small20 z mz).2 2 (by decide))
        refine ⟨dDgs ((2 : Nat) : Int) ((0 : Nat) : Int) (listF z 2 0), .str "!number", .lst (.inl (.inl hL7)) (dgs_dp pr), .str _, (smL_dgs each len).shaped (by decide), num_shaped, ?_⟩
        rw [show PyData.eqv (dDgs ((2 : Nat) : Int) ((0 : Nat) : Int) (listF z 2 0)) (.str "!number") = false by simp [dDgs, PyData.eqv]]
        refine ⟨_, rfl, if_pos_of rfl ?_⟩
        exact ⟨_, rfl, t, _, 0, _, rfl, rfl, .inl (.inl (s7 _ _ ht)), atI_nat (j := 0) rfl, _, rfl, (by show 2 ≤ sizeLine; decide), fun p np => ⟨p, _, rfl, .inl (.inl (.inl upd_same)), rfl, rfl, _, rfl, if_neg_of (by decide) ⟨ds2, rfl, k9.same (Same.trans s7 (same_upd np))⟩⟩⟩
      · refine ⟨_, rfl, _, rfl, _, rfl, 3, z, v1, .ref t, n1, m1, _, (-1), 1, bb, rfl, k9.d1.1, k9.d1.ok, .inr (.inr (.inr (.inl ⟨rfl, mz, t, _, rfl, ht, .inl ⟨by decide, fun H7 s7 => ?_⟩⟩)))⟩
        refine ⟨.str "!number", .str "!number", .str _, .str _, num_shaped, num_shaped, ?_⟩
        exact ⟨_, rfl, if_neg_of (by decide) (if_neg_of Bool.false_ne_true ⟨ds2, rfl, k9.same s7⟩)⟩
      · refine ⟨_, rfl, _, rfl, _, rfl, 3, z, v1, .ref t, n1, m1, _, 8, 5, bb, rfl, k9.d1.1, k9.d1.ok, .inr (.inr (.inr (.inl ⟨rfl, mz, t, _, rfl, ht, .inl ⟨by decide, fun H7 s7 => ?_⟩⟩)))⟩
        refine ⟨.str "!number", .str "!number", .str _, .str _, num_shaped, num_shaped, ?_⟩
        exact ⟨_, rfl, if_neg_of (by decide) (if_neg_of Bool.false_ne_true ⟨ds2, rfl, k9.same s7⟩)⟩
    clear k9
    rintro σ H6 ⟨ds2, rfl, k9⟩
    refine ⟨(by show 4 ≤ sizeLine; decide), fun p np => ⟨2, 2, p, [0, 0, 0, 0], rfl, .inl (.inl upd_same), by decide, by decide, fun vf H7 s7 _ df => ?_⟩⟩
    have k9 := k9.same (Same.trans (same_upd np) s7)
    have af : DgAt H7 vf (2 : Nat) (2 : Nat) [0, 0, 0, 0] := ⟨df, rfl, rfl⟩
    clear df s7 np

    refine ⟨fun σ H' => ∃ (ds : List Int), σ = [some (.ref sc), some (.ref r), some (.str z), some v1, some vb, v5, some vf, none, none, none, none, none, none, none, none, none, none] ∧ K9 H' r v1 vb n1 m1 l1 ds nb mb bb, ?_, ?_⟩
    · refine ⟨_, rfl, (by show 2 ≤ sizeLine; decide), fun p np => ?_⟩
      have s8 := same_upd (o := .lst [.str "even", .str "parts"]) np
      have k9 := k9.same s8
      have af := af.same s8
      refine ⟨p, _, rfl, .inl (.inl (.inl upd_same)), rfl, rfl, _, rfl, ?_⟩
      by_cases c : z ∈ (["even", "parts"] : List Str)
      · exact if_neg_of (by show ¬ (!inV (.str z) ((["even", "parts"] : List Str).map V.str)) = true; rw [inV_str, decide_eq_true c]; exact Bool.false_ne_true) (if_neg_of Bool.false_ne_true ⟨ds2, rfl, k9⟩)
      · refine if_pos_of (by show (!inV (.str z) ((["even", "parts"] : List Str).map V.str)) = true; rw [inV_str, decide_eq_false c]; rfl) ?_
        exact ⟨_, rfl, _, rfl, _, rfl, 1, z, vf, vf, 2, 2, _, 2, 2, [], rfl, af.1, af.ok, .inr (.inl ⟨rfl, .inr (.inr (.inl ⟨2, 2, rfl, rfl, mz, af.dg, four_no z mz c, fun H9 s9 => ⟨rfl, _, rfl, nm_ne rfl ⟨ds2, rfl, k9.same s9⟩⟩⟩))⟩)⟩
    clear k9 af
    rintro σ H6 ⟨ds2, rfl, k9⟩
    have hr5 := k9.hr
    refine ⟨(by show 3 ≤ sizeLine; decide), fun b0 np => ?_⟩
    obtain ⟨bH0, eG, bt0, be0, bf0⟩ := mk_obj (o := .tup [.str "parts", .int 4, .int 3]) np
    rw [eG]
    clear np eG
    refine ⟨(by show 3 ≤ sizeLine; decide), fun b1 np => ?_⟩
    obtain ⟨bH1, eG, bt1, be1, bf1⟩ := mk_obj (o := .tup [.str "even", .int 4, .int 4]) np
    rw [eG]
    clear np eG
    refine ⟨(by show 3 ≤ sizeLine; decide), fun b2 np => ?_⟩
    obtain ⟨bH2, eG, bt2, be2, bf2⟩ := mk_obj (o := .tup [.str "lonepairs", .int 5, .int 3]) np
    rw [eG]
    clear np eG
    refine ⟨(by show 3 ≤ sizeLine; decide), fun b3 np => ?_⟩
    obtain ⟨bH3, eG, bt3, be3, bf3⟩ := mk_obj (o := .tup [.str "pairs", .int 5, .int 5]) np
    rw [eG]
    clear np eG
    refine ⟨(by show 3 ≤ sizeLine; decide), fun b4 np => ?_⟩
    obtain ⟨bH4, eG, bt4, be4, bf4⟩ := mk_obj (o := .tup [.str "loose", .int 5, .int 4]) np
    rw [eG]
    clear np eG
    refine ⟨(by show 3 ≤ sizeLine; decide), fun b5 np => ?_⟩
    obtain ⟨bH5, eG, bt5, be5, bf5⟩ := mk_obj (o := .tup [.str "threads", .int 6, .int 6]) np
    rw [eG]
    clear np eG
    refine ⟨(by show 6 ≤ sizeLine; decide), fun bL np => ?_⟩
    obtain ⟨bHL, eG, btL, beL, bfL⟩ := mk_obj (o := .lst [.ref b0, .ref b1, .ref b2, .ref b3, .ref b4, .ref b5]) np
    rw [eG]
    clear np eG
    have bu5 := btL
    have bu4 : Same bH4 bHL := Same.trans bt5 bu5
    have bu3 : Same bH3 bHL := Same.trans bt4 bu4
    have bu2 : Same bH2 bHL := Same.trans bt3 bu3
    have bu1 : Same bH1 bHL := Same.trans bt2 bu2
    have bu0 : Same bH0 bHL := Same.trans bt1 bu1
    have bu : Same H6 bHL := Same.trans bt0 bu0
    have bnr : r ≠ bL := bfL _ _ (bt5 _ _ (bt4 _ _ (bt3 _ _ (bt2 _ _ (bt1 _ _ (bt0 _ _  hr5))))))
    have bpick : ∀ j : Nat, j < 6 → ∃ (pp : Addr) (zz : Str) (nn mm : Nat), ([V.ref b0, .ref b1, .ref b2, .ref b3, .ref b4, .ref b5] : List V)[j]? = some (.ref pp) ∧ bHL pp = some (.tup [.str zz, .int nn, .int mm]) ∧ (zz, nn, mm) ∈ beyL := fun j hj => by
      rcases (show j = 0 ∨ j = 1 ∨ j = 2 ∨ j = 3 ∨ j = 4 ∨ j = 5 by omega) with rfl | rfl | rfl | rfl | rfl | rfl
      · exact ⟨_, _, 4, 3, rfl, bu0 _ _ be0, by decide⟩
      · exact ⟨_, _, 4, 4, rfl, bu1 _ _ be1, by decide⟩
      · exact ⟨_, _, 5, 3, rfl, bu2 _ _ be2, by decide⟩
      · exact ⟨_, _, 5, 5, rfl, bu3 _ _ be3, by decide⟩
      · exact ⟨_, _, 5, 4, rfl, bu4 _ _ be4, by decide⟩
      · exact ⟨_, _, 6, 6, rfl, bu5 _ _ be5, by decide⟩
    have k9 := k9.same bu
    clear bt0 bt1 bt2 bt3 bt4 bt5 btL be0 be1 be2 be3 be4 be5 bf0 bf1 bf2 bf3 bf4 bf5 bfL bu0 bu1 bu2 bu3 bu4 bu5 bu hr5
    refine ⟨_, rfl, _, rfl, r, ds2, rfl, k9.hr, fun n0 ds3 => .inl ⟨n0, rfl, n0, 6, rfl, rfl, (show (0 : Int) < 6 by decide), ?_⟩⟩
    obtain ⟨j, hj, ej⟩ := mod_ltN n0 (show 0 < 6 by decide)
    have ej : n0 % 6 = (j : Int) := ej
    obtain ⟨pp, zz, nn, mm, epp, hpp, hin⟩ := bpick j hj
    obtain ⟨by0, big⟩ := bey_all _ hin
    dsimp only at by0 big
    clear bpick hin
    dsimp only
    rw [ej]
    have hL13 : upd bHL r (.lst (ds3.map V.int)) bL = some (.lst [.ref b0, .ref b1, .ref b2, .ref b3, .ref b4, .ref b5]) := by rw [upd_ne (Ne.symm bnr)]; exact beL
    have hp13 : upd bHL r (.lst (ds3.map V.int)) pp = some (.tup [.str zz, .int nn, .int mm]) := by rw [upd_ne (ne_of hpp k9.hr (fun z => nomatch z))]; exact hpp
    have k9 : K9 (upd bHL r (.lst (ds3.map V.int))) r v1 vb n1 m1 l1 ds3 nb mb bb := ⟨upd_same, k9.d1.butL k9.hr SameBut.upd, ⟨k9.bd.dg.butL k9.hr SameBut.upd, k9.bd.ok, k9.bd.nd, k9.bd.who⟩⟩
    refine ⟨bL, _, (j : Int), .ref pp, rfl, rfl, .inl (.inl hL13), atI_nat (j := j) epp, pp, _, rfl, .inl (.inl hp13), rfl, _, _, rfl, _, _, rfl, _, _, rfl, rfl, ?_⟩
    clear hL13 hp13 hpp epp bnr beL
    revert k9
    generalize upd bHL r (.lst (ds3.map V.int)) = H8
    intro k9
    refine ⟨_, rfl, _, rfl, _, rfl, _, rfl, r, ds3, zz, nn, mm, rfl, by0.n8, by0.m8, k9.hr, fun vl ll ds4 H9 sb9 hr9 lenl fml dvl => ?_⟩
    have al : DgAt H9 vl nn mm ll := ⟨dvl, by0.sz, by omega⟩
    have fl := fam_in fml lenl by0.th by0.pr
    have k9 : K9 H9 r v1 vb n1 m1 l1 ds4 nb mb bb := ⟨hr9, k9.d1.butL k9.hr sb9, ⟨k9.bd.dg.butL k9.hr sb9, k9.bd.ok, k9.bd.nd, k9.bd.who⟩⟩
    clear dvl fml sb9
    refine ⟨fun σ H' => ∃ (ds : List Int), σ = [some (.ref sc), some (.ref r), some (.str z), some v1, some vb, v5, some vf, some (.ref bL), some (.str zz), some (.int (nn : Int)), some (.int (mm : Int)), some vl, none, none, none, none, none] ∧ K9 H' r v1 vb n1 m1 l1 ds nb mb bb, ?_, ?_⟩
    · refine ⟨_, rfl, _, rfl, _, rfl, 1, zz, vl, vl, nn, mm, _, nn, mm, [], rfl, al.1, al.ok, .inr (.inl ⟨rfl, .inr (.inr (.inr ⟨nn, mm, rfl, rfl, by0.mz, al.dg, fl, big, fun H10 s10 => ⟨rfl, _, rfl, nm_ne rfl ?_⟩⟩))⟩)⟩
      have k9 := k9.same s10
      refine ⟨_, rfl, _, rfl, _, rfl, _, rfl, (by show 2 ≤ sizeLine; decide), fun p np => ?_⟩
      have s11 := same_upd (o := .tup [.int (nn : Int), .int (mm : Int)]) np
      have k9 := k9.same s11
      exact ⟨3, zz, v1, .ref p, n1, m1, _, nn, mm, [], rfl, k9.d1.1, k9.d1.ok, .inr (.inr (.inr (.inl ⟨rfl, by0.mz, p, [], rfl, upd_same, .inr (.inl ⟨by0.sz, big, fun H12 s12 => ⟨rfl, _, rfl, nm_ne rfl ⟨ds4, rfl, k9.same s12⟩⟩⟩)⟩)))⟩
    clear k9 al
    rintro σ H6 ⟨ds4, rfl, k9⟩
    refine ⟨fun σ H' => ∃ (ds : List Int), σ = [some (.ref sc), some (.ref r), some (.str z), some v1, some vb, v5, some vf, some (.ref bL), some (.str zz), some (.int (nn : Int)), some (.int (mm : Int)), some vl, none, none, none, none, none] ∧ K9 H' r v1 vb n1 m1 l1 ds nb mb bb, ?_, ?_⟩
    · refine ⟨_, rfl, _, rfl, rfl, _, rfl, ?_⟩
      by_cases c : nn = mm
      · refine if_pos_of (decide_eq_true (by rw [c])) ?_
        refine ⟨_, rfl, _, rfl, _, rfl, _, rfl, (by show 2 ≤ sizeLine; decide), fun p np => ?_⟩
        have s11 := same_upd (o := .tup [.int (nn : Int), .int (mm : Int)]) np
        have k9 := k9.same s11
        subst c
        exact ⟨4, zz, v1, .ref p, n1, m1, _, nn, nn, [], rfl, k9.d1.1, k9.d1.ok, .inr (.inr (.inr (.inr (.inl ⟨rfl, p, _, rfl, upd_same, .inr ⟨by0.mz, by0.sz, big, fun H12 s12 => ⟨rfl, _, rfl, nm_ne rfl ⟨ds4, rfl, k9.same s12⟩⟩⟩⟩))))⟩
      · exact if_neg_of (fun h => c (by have := V.int.inj (of_decide_eq_true h); omega)) (if_neg_of Bool.false_ne_true ⟨ds4, rfl, k9⟩)
    clear k9
    rintro σ H6 ⟨ds4, rfl, k9⟩
    refine ⟨fun σ H' => ∃ (ds : List Int), σ = [some (.ref sc), some (.ref r), some (.str z), some v1, some vb, v5, some vf, some (.ref bL), some (.str zz), some (.int (nn : Int)), some (.int (mm : Int)), some vl, none, none, none, none, none] ∧ K9 H' r v1 vb n1 m1 l1 ds nb mb bb, ?_, ?_⟩
    · refine ⟨_, rfl, r, ds4, rfl, k9.hr, fun n0 ds5 => .inl ⟨n0, rfl, n0, 6, rfl, rfl, (show (0 : Int) < 6 by decide), rfl, _, rfl, ?_⟩⟩
      have k9 : K9 (upd H6 r (.lst (ds5.map V.int))) r v1 vb n1 m1 l1 ds5 nb mb bb := ⟨upd_same, k9.d1.butL k9.hr SameBut.upd, ⟨k9.bd.dg.butL k9.hr SameBut.upd, k9.bd.ok, k9.bd.nd, k9.bd.who⟩⟩
      by_cases c : n0 % 6 = 1
      · exact if_neg_of (by show ¬ (!decide (V.int (n0 % 6) = V.int 1)) = true; rw [c, decide_eq_true rfl]; exact Bool.false_ne_true) ⟨ds5, rfl, k9⟩
      · exact if_pos_of (by show (!decide (V.int (n0 % 6) = V.int 1)) = true; rw [decide_eq_false (fun z => c (V.int.inj z))]; rfl) (q _)
    clear k9
    rintro σ H6 ⟨ds4, rfl, k9⟩
    clear big by0 lenl fl hj ej
    have hr5 := k9.hr
    refine ⟨(by show 3 ≤ sizeLine; decide), fun w0 np => ?_⟩
    obtain ⟨wH0, eG, wt0, we0, wf0⟩ := mk_obj (o := .tup [.str "parts", .int 4, .int 2]) np
    rw [eG]
    clear np eG
    refine ⟨(by show 3 ≤ sizeLine; decide), fun w1 np => ?_⟩
    obtain ⟨wH1, eG, wt1, we1, wf1⟩ := mk_obj (o := .tup [.str "even", .int 3, .int 3]) np
    rw [eG]
    clear np eG
    refine ⟨(by show 3 ≤ sizeLine; decide), fun w2 np => ?_⟩
    obtain ⟨wH2, eG, wt2, we2, wf2⟩ := mk_obj (o := .tup [.str "lonepairs", .int 5, .int 2]) np
    rw [eG]
    clear np eG
    refine ⟨(by show 3 ≤ sizeLine; decide), fun w3 np => ?_⟩
    obtain ⟨wH3, eG, wt3, we3, wf3⟩ := mk_obj (o := .tup [.str "pairs", .int 6, .int 2]) np
    rw [eG]
    clear np eG
    refine ⟨(by show 3 ≤ sizeLine; decide), fun w4 np => ?_⟩
    obtain ⟨wH4, eG, wt4, we4, wf4⟩ := mk_obj (o := .tup [.str "loose", .int 4, .int 4]) np
    rw [eG]
    clear np eG
    refine ⟨(by show 3 ≤ sizeLine; decide), fun w5 np => ?_⟩
    obtain ⟨wH5, eG, wt5, we5, wf5⟩ := mk_obj (o := .tup [.str "threads", .int 5, .int 5]) np
    rw [eG]
    clear np eG
    refine ⟨(by show 6 ≤ sizeLine; decide), fun wL np => ?_⟩
    obtain ⟨wHL, eG, wtL, weL, wfL⟩ := mk_obj (o := .lst [.ref w0, .ref w1, .ref w2, .ref w3, .ref w4, .ref w5]) np
    rw [eG]
    clear np eG
    have wu5 := wtL
    have wu4 : Same wH4 wHL := Same.trans wt5 wu5
    have wu3 : Same wH3 wHL := Same.trans wt4 wu4
    have wu2 : Same wH2 wHL := Same.trans wt3 wu3
    have wu1 : Same wH1 wHL := Same.trans wt2 wu2
    have wu0 : Same wH0 wHL := Same.trans wt1 wu1
    have wu : Same H6 wHL := Same.trans wt0 wu0
    have wnr : r ≠ wL := wfL _ _ (wt5 _ _ (wt4 _ _ (wt3 _ _ (wt2 _ _ (wt1 _ _ (wt0 _ _  hr5))))))
    have wpick : ∀ j : Nat, j < 6 → ∃ (pp : Addr) (zz : Str) (nn mm : Nat), ([V.ref w0, .ref w1, .ref w2, .ref w3, .ref w4, .ref w5] : List V)[j]? = some (.ref pp) ∧ wHL pp = some (.tup [.str zz, .int nn, .int mm]) ∧ (zz, nn, mm) ∈ witL := fun j hj => by
      rcases (show j = 0 ∨ j = 1 ∨ j = 2 ∨ j = 3 ∨ j = 4 ∨ j = 5 by omega) with rfl | rfl | rfl | rfl | rfl | rfl
      · exact ⟨_, _, 4, 2, rfl, wu0 _ _ we0, by decide⟩
      · exact ⟨_, _, 3, 3, rfl, wu1 _ _ we1, by decide⟩
      · exact ⟨_, _, 5, 2, rfl, wu2 _ _ we2, by decide⟩
      · exact ⟨_, _, 6, 2, rfl, wu3 _ _ we3, by decide⟩
      · exact ⟨_, _, 4, 4, rfl, wu4 _ _ we4, by decide⟩
      · exact ⟨_, _, 5, 5, rfl, wu5 _ _ we5, by decide⟩
    have k9 := k9.same wu
    clear wt0 wt1 wt2 wt3 wt4 wt5 wtL we0 we1 we2 we3 we4 we5 wf0 wf1 wf2 wf3 wf4 wf5 wfL wu0 wu1 wu2 wu3 wu4 wu5 wu hr5
    refine ⟨_, rfl, _, rfl, r, ds4, rfl, k9.hr, fun n0 ds5 => .inl ⟨n0, rfl, n0, 6, rfl, rfl, (show (0 : Int) < 6 by decide), ?_⟩⟩
    obtain ⟨j, hj, ej⟩ := mod_ltN n0 (show 0 < 6 by decide)
    have ej : n0 % 6 = (j : Int) := ej
    obtain ⟨pp, zz, nn, mm, epp, hpp, hin⟩ := wpick j hj
    obtain ⟨by0, fn⟩ := wit_all _ hin
    dsimp only at by0 fn
    clear wpick hin
    dsimp only
    rw [ej]
    have hL13 : upd wHL r (.lst (ds5.map V.int)) wL = some (.lst [.ref w0, .ref w1, .ref w2, .ref w3, .ref w4, .ref w5]) := by rw [upd_ne (Ne.symm wnr)]; exact weL
    have hp13 : upd wHL r (.lst (ds5.map V.int)) pp = some (.tup [.str zz, .int nn, .int mm]) := by rw [upd_ne (ne_of hpp k9.hr (fun z => nomatch z))]; exact hpp
    have k9 : K9 (upd wHL r (.lst (ds5.map V.int))) r v1 vb n1 m1 l1 ds5 nb mb bb := ⟨upd_same, k9.d1.butL k9.hr SameBut.upd, ⟨k9.bd.dg.butL k9.hr SameBut.upd, k9.bd.ok, k9.bd.nd, k9.bd.who⟩⟩
    refine ⟨wL, _, (j : Int), .ref pp, rfl, rfl, .inl (.inl hL13), atI_nat (j := j) epp, pp, _, rfl, .inl (.inl hp13), rfl, _, _, rfl, _, _, rfl, _, _, rfl, rfl, ?_⟩
    clear hL13 hp13 hpp epp wnr weL
    revert k9
    generalize upd wHL r (.lst (ds5.map V.int)) = H8
    intro k9
    obtain ⟨⟨c0, c250⟩, rows, lenF, asc⟩ := id fn
    have each := listF_dg (z := zz) by0.sz
    refine ⟨_, rfl, _, rfl, _, rfl, zz, nn, mm, rfl, fun no => absurd by0.mz no, (fun _ no => nomatch no.symm.trans by0.sz), fun _ _ => ⟨fun big => absurd (show 250 < cntV zz nn mm from big) (by omega), fun _ => ⟨fun _ k hk => rows k (Nat.lt_succ_of_le hk), fun T ts H9 s9 hT pr => ?_⟩⟩⟩
    have pr : Paired (fun v bs => DGv H9 v (nn : Int) (mm : Int) bs) ts (listF zz nn mm) := pr
    have k9 := k9.same s9
    have lts := pr.length
    refine ⟨_, rfl, T, rfl, ⟨_, .inl (.inl hT)⟩, fun D nD => ?_⟩
    have hTD : T ≠ D := ne_of_none hT nD
    refine lc_list (xs := ts) (fun i H' => SameBut D H9 H' ∧ ∃ us, H' D = some (.lst us) ∧ Paired (fun v z => RowP D H' v z ∧ v ≠ V.ref r) us (((listF zz nn mm).take i).map fun b => labL b (nn + mm))) ⟨SameBut.upd, [], upd_same, .nil⟩ (fun i H' hi hP => .inl (.inl (hP.1 _ _ hTD hT))) (fun i y H' hi hP => ?_) (fun H10 hP => ?_)
    · obtain ⟨sb, us, hD, pu⟩ := hP
      obtain ⟨d, ed, dv⟩ := paired_at pr hi
      have dm := each d (List.mem_of_getElem? ed)
      have sD : Same H9 H' := fun b o e => sb b o (ne_of_none e nD) e
      have lus := pu.length
      rw [List.length_map, List.length_take] at lus
      refine ⟨rfl, _, rfl, y, nn, mm, d, rfl, dv.same sD, dm, by have := dm.few.1; omega, fun D2 H11 s11 nD2 hD2 => ?_⟩
      have hD11 := s11 _ _ hD
      have sbD := SameBut.upd (H := H11) (a := D) (o := .lst (us ++ [.ref D2]))
      have n2 : D2 ≠ D := fun z => by rw [z, hD] at nD2; exact nomatch nD2
      refine ⟨us, hD11, by omega, (sb.trans (Same.but s11)).trans sbD, _, upd_same, ?_⟩
      have e1 : ((listF zz nn mm).take (i + 1)).map (fun b => labL b (nn + mm)) = ((listF zz nn mm).take i).map (fun b => labL b (nn + mm)) ++ [labL d (nn + mm)] := by
        rw [List.take_succ, ed, List.map_append]
        rfl
      rw [e1]
      exact paired_add ⟨⟨D2, rfl, n2, by rw [upd_ne n2]; exact hD2⟩, fun z => by rw [V.ref.inj z, sD _ _ k9.hr] at nD2; exact nomatch nD2⟩ (Paired.mapP pu fun u b h => ⟨rowP_keep ((Same.but s11).trans sbD) h.1, h.2⟩)
    obtain ⟨sb, us, hD, pu⟩ := hP
    rw [lts, List.take_length] at pu
    have s10 : Same H9 H10 := fun b o e => sb b o (ne_of_none e nD) e
    have k9 := k9.same s10
    have hT := s10 _ _ hT
    have pr : Paired (fun v bs => DGv H10 v (nn : Int) (mm : Int) bs) ts (listF zz nn mm) := Paired.mapP pr fun _ _ h => h.same s10
    have pL : Paired (fun v z => LP H10 v z ∧ v ≠ V.ref r) us ((listF zz nn mm).map fun b => labL b (nn + mm)) := Paired.mapP pu fun _ _ h => by obtain ⟨⟨a, rfl, _, h⟩, ne⟩ := h; exact ⟨⟨a, rfl, h⟩, ne⟩
    have lpu := pu.length
    clear pu sb s10 nD hTD
    have hn : (nn : Int).toNat = nn := Int.toNat_natCast nn
    have hm : (mm : Int).toNat = mm := Int.toNat_natCast mm
    refine ⟨fun σ H' => σ = [some (.ref sc), some (.ref r), some (.str z), some v1, some vb, v5, some vf, some (.ref bL), some (.str zz), some (.int (nn : Int)), some (.int (mm : Int)), some vl, some (.ref wL), some (.ref T), some (.ref D), none, none] ∧ Same H10 H', ?_, ?_⟩
    · refine ⟨_, rfl, T, ts, rfl, .inl (.inl (.inl hT)), _, rfl, _, rfl, _, rfl, zz, (nn : Int), (mm : Int), rfl, fun no => absurd by0.mz no, (fun _ no => nomatch no.symm.trans by0.sz), fun _ _ H12 s12 => ?_⟩
      have eL : V.int (ts.length : Int) = V.int (cntV zz (nn : Int).toNat (mm : Int).toNat) := by rw [hn, hm, ← lenF, lts]
      have hD12 := s12 _ _ hD
      have pL12 : Paired (LP H12) us ((listF zz nn mm).map fun b => labL b (nn + mm)) := Paired.mapP pL fun _ _ h => h.1.same s12
      refine ⟨rfl, _, rfl, ?_⟩
      rw [eL]
      refine ite_same ?_ 
      refine ⟨_, rfl, _, rfl, ?_⟩
      dsimp only [tNil]
      refine sortG_LP (K := K) (a := D) (xs := us) (.inl (.inl hD12)) pL12 (ascB_lt asc) fun ys p prs np => ?_
      have s13 := same_upd (o := .lst ys) np
      refine ⟨.list (((listF zz nn mm).map fun b => labL b (nn + mm)).map dL), .list (((listF zz nn mm).map fun b => labL b (nn + mm)).map dL), .lst (.inl (.inl (s13 _ _ hD12))) (lps_dp (Paired.mapP pL12 fun _ _ h => h.same s13)), .lst (.inl (.inl upd_same)) (lps_dp (Paired.mapP prs fun _ _ h => h.same s13)), dLL_shaped _, dLL_shaped _, ?_⟩
      rw [show PyData.eqv (.list (((listF zz nn mm).map fun b => labL b (nn + mm)).map dL)) (.list (((listF zz nn mm).map fun b => labL b (nn + mm)).map dL)) = true by simp only [PyData.eqv, eqv_dLs]]
      exact ⟨_, rfl, if_neg_of Bool.false_ne_true ⟨rfl, Same.trans s12 s13⟩⟩
    rintro σ H11 ⟨rfl, s11⟩
    have k9 := k9.same s11
    have hT := s11 _ _ hT
    have hD := s11 _ _ hD
    have pr : Paired (fun v bs => DGv H11 v (nn : Int) (mm : Int) bs) ts (listF zz nn mm) := Paired.mapP pr fun _ _ h => h.same s11
    have pL : Paired (fun v z => LP H11 v z ∧ v ≠ V.ref r) us ((listF zz nn mm).map fun b => labL b (nn + mm)) := Paired.mapP pL fun _ _ h => ⟨h.1.same s11, h.2⟩
    clear s11
    have lpos : 0 < ts.length := by omega
    obtain ⟨y0, ey0⟩ : ∃ y, ts[0]? = some y := ⟨_, List.getElem?_eq_getElem lpos⟩
    obtain ⟨d0, ed0, dv0⟩ := paired_at pr ey0
    obtain ⟨t0, _, rfl, _⟩ := id dv0
    have nT : T ≠ r := ne_of hT k9.hr (fun z => by rw [HO.lst.inj z, List.getElem?_map] at ey0; cases h : ds5[0]? with
      | none => rw [h] at ey0; exact nomatch ey0
      | some _ => rw [h] at ey0; exact nomatch ey0)
    obtain ⟨u0, eu0⟩ : ∃ y, us[0]? = some y := ⟨_, List.getElem?_eq_getElem (by rw [lpu, List.length_map]; omega)⟩
    obtain ⟨_, _, ⟨x0, rfl, _⟩, _⟩ := paired_at pL eu0
    have nDr : D ≠ r := ne_of hD k9.hr (fun z => by rw [HO.lst.inj z, List.getElem?_map] at eu0; cases h : ds5[0]? with
      | none => rw [h] at eu0; exact nomatch eu0
      | some _ => rw [h] at eu0; exact nomatch eu0)
    refine ⟨_, rfl, r, ds5, rfl, k9.hr, fun n0 ds6 => .inl ⟨n0, rfl, _, rfl, T, ts, rfl, .inl (.inl (.inl (by rw [upd_ne nT]; exact hT))), n0, _, rfl, rfl, (by show (0 : Int) < (ts.length : Int); omega), ?_⟩⟩
    have pr : Paired (fun v bs => DGv (upd H11 r (.lst (ds6.map V.int))) v (nn : Int) (mm : Int) bs) ts (listF zz nn mm) := Paired.mapP pr fun _ _ h => h.butL k9.hr SameBut.upd
    have pL : Paired (LP (upd H11 r (.lst (ds6.map V.int)))) us ((listF zz nn mm).map fun b => labL b (nn + mm)) := Paired.mapP pL fun _ _ h => by
      obtain ⟨⟨t, rfl, ht⟩, ne⟩ := h
      exact ⟨t, rfl, by rw [upd_ne (fun z => ne (by rw [z]))]; exact ht⟩
    obtain ⟨j, hj, ej⟩ := mod_ltN n0 lpos
    dsimp only
    rw [ej]
    have hT : upd H11 r (.lst (ds6.map V.int)) T = some (.lst ts) := by rw [upd_ne nT]; exact hT
    have hD : upd H11 r (.lst (ds6.map V.int)) D = some (.lst us) := by rw [upd_ne nDr]; exact hD
    revert pr pL hT hD
    generalize upd H11 r (.lst (ds6.map V.int)) = H13
    intro pr pL hT hD
    clear k9 ed0 dv0 ey0 eu0
    have hjF : j < (listF zz nn mm).length := by omega
    obtain ⟨y, ey⟩ : ∃ y, ts[j]? = some y := ⟨_, List.getElem?_eq_getElem hj⟩
    obtain ⟨d, ed, dv⟩ := paired_at pr ey
    obtain ⟨x, ex⟩ : ∃ y, us[j]? = some y := ⟨_, List.getElem?_eq_getElem (by rw [lpu, List.length_map]; omega)⟩
    obtain ⟨b, eb, lp⟩ := paired_at pL ex
    rw [List.getElem?_map, ed] at eb
    have eb : labL d (nn + mm) = b := Option.some.inj eb
    subst eb
    have din := List.mem_of_getElem? ed
    have dm := each d din
    refine ⟨_, rfl, _, rfl, _, rfl, T, ts, (j : Int), y, rfl, rfl, .inl (.inl hT), atI_nat (j := j) ey, ?_⟩
    refine ⟨zz, y, nn, mm, d, rfl, dv, dm.ok, fun no => absurd by0.mz no, fun _ no => absurd dm no, fun _ _ => ⟨nn, mm, rfl, rfl, (fun no => nomatch (listF_in din).symm.trans no), fun _ => ⟨fun big => absurd (show 250 < cntV zz nn mm from big) (by omega), fun _ => ⟨fun _ k hk => rows k (Nat.lt_succ_of_le hk), each, by omega, j, ed, fin_first fn ed, fun H14 s14 => ?_⟩⟩⟩⟩
    refine ⟨_, rfl, rfl, _, rfl, if_pos_of (decide_eq_true rfl) ?_⟩
    obtain ⟨xa, rfl, hxa⟩ := lp
    obtain ⟨row, erow, hrow⟩ := listF_row din
    have hx14 := s14 _ _ hxa
    have lb : blocksOf (labL d (nn + mm)) = d := by rw [erow]; exact lab_back hrow
    refine ⟨_, rfl, _, rfl, _, rfl, _, rfl, D, us, (j : Int), .ref xa, rfl, rfl, .inl (.inl (s14 _ _ hD)), atI_nat (j := j) ex, ?_⟩
    refine ⟨nn, mm, xa, labL d (nn + mm), rfl, .inl (.inl hx14), (by have := labL_len d (nn + mm); have := by0.n8; have := by0.m8; omega), (by have := labL_len d (nn + mm); omega), fun v H15 s15 _ dv15 => ?_⟩
    rw [lb] at dv15
    refine ⟨_, rfl, _, rfl, T, ts, (j : Int), y, rfl, rfl, .inl (.inl (s15 _ _ (s14 _ _ hT))), atI_nat (j := j) ey, ?_⟩
    refine ⟨_, _, dv15.dp, ((dv.same s14).same s15).dp, dDG_shaped _ _ _, dDG_shaped _ _ _, ?_⟩
    rw [eqv_dg]
    simp only [decide_true, and_self]
    exact q _
end

theorem all_mk {P : Program} {w : World} {K : PySem.W.Frag} {h : Heap} {mg : Str → Option Value} {fa : Addr} (X : K.In h) (G : h.Ns mainGlobals mg) (hfa : mg "law" = some (.ref fa))
    {f_law_number : Addr} {od_law_number an_law_number : Option Addr} {sl_law_number : Array (Option Value)} {oc_law_number kV_law_number dc_law_number pm_law_number cd_law_number ct_law_number : Value}
    {f_law_next : Addr} {od_law_next an_law_next : Option Addr} {sl_law_next : Array (Option Value)} {oc_law_next kV_law_next dc_law_next pm_law_next cd_law_next ct_law_next : Value}
    {f_law_draws : Addr} {od_law_draws an_law_draws : Option Addr} {sl_law_draws : Array (Option Value)} {oc_law_draws kV_law_draws dc_law_draws pm_law_draws cd_law_draws ct_law_draws : Value}
    {f_is_size_ : Addr} {od_is_size_ an_is_size_ : Option Addr} {sl_is_size_ : Array (Option Value)} {oc_is_size_ kV_is_size_ dc_is_size_ pm_is_size_ cd_is_size_ ct_is_size_ : Value}
    {f_check_size_ : Addr} {od_check_size_ an_check_size_ : Option Addr} {sl_check_size_ : Array (Option Value)} {oc_check_size_ kV_check_size_ dc_check_size_ pm_check_size_ cd_check_size_ ct_check_size_ : Value}
    {f_is_diagram : Addr} {od_is_diagram an_is_diagram : Option Addr} {sl_is_diagram : Array (Option Value)} {oc_is_diagram kV_is_diagram dc_is_diagram pm_is_diagram cd_is_diagram ct_is_diagram : Value}
    {f_check_diagram : Addr} {od_check_diagram an_check_diagram : Option Addr} {sl_check_diagram : Array (Option Value)} {oc_check_diagram kV_check_diagram dc_check_diagram pm_check_diagram cd_check_diagram ct_check_diagram : Value}
    {f_labels : Addr} {od_labels an_labels : Option Addr} {sl_labels : Array (Option Value)} {oc_labels kV_labels dc_labels pm_labels cd_labels ct_labels : Value}
    {f_from_labels : Addr} {od_from_labels an_from_labels : Option Addr} {sl_from_labels : Array (Option Value)} {oc_from_labels kV_from_labels dc_from_labels pm_from_labels cd_from_labels ct_from_labels : Value}
    {f_law_seen : Addr} {od_law_seen an_law_seen : Option Addr} {sl_law_seen : Array (Option Value)} {oc_law_seen kV_law_seen dc_law_seen pm_law_seen cd_law_seen ct_law_seen : Value}
    {f_law_from : Addr} {od_law_from an_law_from : Option Addr} {sl_law_from : Array (Option Value)} {oc_law_from kV_law_from dc_law_from pm_law_from cd_law_from ct_law_from : Value}
    {f_law_marks : Addr} {od_law_marks an_law_marks : Option Addr} {sl_law_marks : Array (Option Value)} {oc_law_marks kV_law_marks dc_law_marks pm_law_marks cd_law_marks ct_law_marks : Value}
    {f_law_pick : Addr} {od_law_pick an_law_pick : Option Addr} {sl_law_pick : Array (Option Value)} {oc_law_pick kV_law_pick dc_law_pick pm_law_pick cd_law_pick ct_law_pick : Value}
    {f_law_family : Addr} {od_law_family an_law_family : Option Addr} {sl_law_family : Array (Option Value)} {oc_law_family kV_law_family dc_law_family pm_law_family cd_law_family ct_law_family : Value}
    {f_law_other_side : Addr} {od_law_other_side an_law_other_side : Option Addr} {sl_law_other_side : Array (Option Value)} {oc_law_other_side kV_law_other_side dc_law_other_side pm_law_other_side cd_law_other_side ct_law_other_side : Value}
    {f_check_family : Addr} {od_check_family an_check_family : Option Addr} {sl_check_family : Array (Option Value)} {oc_check_family kV_check_family dc_check_family pm_check_family cd_check_family ct_check_family : Value}
    {f_is_strand_ : Addr} {od_is_strand_ an_is_strand_ : Option Addr} {sl_is_strand_ : Array (Option Value)} {oc_is_strand_ kV_is_strand_ dc_is_strand_ pm_is_strand_ cd_is_strand_ ct_is_strand_ : Value}
    {f_is_block_size_ : Addr} {od_is_block_size_ an_is_block_size_ : Option Addr} {sl_is_block_size_ : Array (Option Value)} {oc_is_block_size_ kV_is_block_size_ dc_is_block_size_ pm_is_block_size_ cd_is_block_size_ ct_is_block_size_ : Value}
    {f_is_block_of_ : Addr} {od_is_block_of_ an_is_block_of_ : Option Addr} {sl_is_block_of_ : Array (Option Value)} {oc_is_block_of_ kV_is_block_of_ dc_is_block_of_ pm_is_block_of_ cd_is_block_of_ ct_is_block_of_ : Value}
    {f_is_in : Addr} {od_is_in an_is_in : Option Addr} {sl_is_in : Array (Option Value)} {oc_is_in kV_is_in dc_is_in pm_is_in cd_is_in ct_is_in : Value}
    {f_counted_by_last_ : Addr} {od_counted_by_last_ an_counted_by_last_ : Option Addr} {sl_counted_by_last_ : Array (Option Value)} {oc_counted_by_last_ kV_counted_by_last_ dc_counted_by_last_ pm_counted_by_last_ cd_counted_by_last_ ct_counted_by_last_ : Value}
    {f_counted : Addr} {od_counted an_counted : Option Addr} {sl_counted : Array (Option Value)} {oc_counted kV_counted dc_counted pm_counted cd_counted ct_counted : Value}
    {f_may_follow_ : Addr} {od_may_follow_ an_may_follow_ : Option Addr} {sl_may_follow_ : Array (Option Value)} {oc_may_follow_ kV_may_follow_ dc_may_follow_ pm_may_follow_ cd_may_follow_ ct_may_follow_ : Value}
    {f_label_rows_ : Addr} {od_label_rows_ an_label_rows_ : Option Addr} {sl_label_rows_ : Array (Option Value)} {oc_label_rows_ kV_label_rows_ dc_label_rows_ pm_label_rows_ cd_label_rows_ ct_label_rows_ : Value}
    {f_listed : Addr} {od_listed an_listed : Option Addr} {sl_listed : Array (Option Value)} {oc_listed kV_listed dc_listed pm_listed cd_listed ct_listed : Value}
    {f_order_key_ : Addr} {od_order_key_ an_order_key_ : Option Addr} {sl_order_key_ : Array (Option Value)} {oc_order_key_ kV_order_key_ dc_order_key_ pm_order_key_ cd_order_key_ ct_order_key_ : Value}
    {f_is_before : Addr} {od_is_before an_is_before : Option Addr} {sl_is_before : Array (Option Value)} {oc_is_before kV_is_before dc_is_before pm_is_before cd_is_before ct_is_before : Value}
    {f_text_of : Addr} {od_text_of an_text_of : Option Addr} {sl_text_of : Array (Option Value)} {oc_text_of kV_text_of dc_text_of pm_text_of cd_text_of ct_text_of : Value}
    {f_squares : Addr} {od_squares an_squares : Option Addr} {sl_squares : Array (Option Value)} {oc_squares kV_squares dc_squares pm_squares cd_squares ct_squares : Value}
    {f_law_kind : Addr} {od_law_kind an_law_kind : Option Addr} {sl_law_kind : Array (Option Value)} {oc_law_kind kV_law_kind dc_law_kind pm_law_kind cd_law_kind ct_law_kind : Value}
    {f_index_of : Addr} {od_index_of an_index_of : Option Addr} {sl_index_of : Array (Option Value)} {oc_index_of kV_index_of dc_index_of pm_index_of cd_index_of ct_index_of : Value}
    {f_law_told : Addr} {od_law_told an_law_told : Option Addr} {sl_law_told : Array (Option Value)} {oc_law_told kV_law_told dc_law_told pm_law_told cd_law_told ct_law_told : Value}
    {f_law_joined : Addr} {od_law_joined an_law_joined : Option Addr} {sl_law_joined : Array (Option Value)} {oc_law_joined kV_law_joined dc_law_joined pm_law_joined cd_law_joined ct_law_joined : Value}
    {f_law_threaded : Addr} {od_law_threaded an_law_threaded : Option Addr} {sl_law_threaded : Array (Option Value)} {oc_law_threaded kV_law_threaded dc_law_threaded pm_law_threaded cd_law_threaded ct_law_threaded : Value}
    {f_law_drawn : Addr} {od_law_drawn an_law_drawn : Option Addr} {sl_law_drawn : Array (Option Value)} {oc_law_drawn kV_law_drawn dc_law_drawn pm_law_drawn cd_law_drawn ct_law_drawn : Value}
    {f_law_shaped : Addr} {od_law_shaped an_law_shaped : Option Addr} {sl_law_shaped : Array (Option Value)} {oc_law_shaped kV_law_shaped dc_law_shaped pm_law_shaped cd_law_shaped ct_law_shaped : Value}
    {f_law : Addr} {od_law an_law : Option Addr} {sl_law : Array (Option Value)} {oc_law kV_law dc_law pm_law cd_law ct_law : Value}
    {CB : Addr}
    {CD : Addr}
    {CT : Addr}
    {CF : Addr}
    {tm_MOST_ON_A_SIDE : Tok}
    {tm_MOST_POINTS : Tok}
    {tm_MOST_LISTED : Tok}
    {tL_LETTERS : Tok}
    {aF : Addr} {ddF : Option Addr} {nF : Nat} {slF : Array (Option Value)} {uf0 uf1 uf2 uf3 uf4 uf5 : Tok}
    {CE : Addr}
    (a_law_number : PySem.W.nsIn K mainGlobals "_law_number" = some (some (.ref f_law_number))) (l_law_number : K.lookup f_law_number = some ⟨oc_law_number, od_law_number, .func (PySem.W.fnOf "_law_number" "_law_number" (defArgs s_law_number) (defBody s_law_number) (defScope s_law_number) .none kV_law_number dc_law_number pm_law_number an_law_number cd_law_number ct_law_number), sl_law_number⟩) (c_law_number : PySem.W.codeIn K cd_law_number "_law_number" = true) (k_law_number : PySem.W.keepIn K (.ref f_law_number) = true)
    (a_law_next : PySem.W.nsIn K mainGlobals "_law_next" = some (some (.ref f_law_next))) (l_law_next : K.lookup f_law_next = some ⟨oc_law_next, od_law_next, .func (PySem.W.fnOf "_law_next" "_law_next" (defArgs s_law_next) (defBody s_law_next) (defScope s_law_next) .none kV_law_next dc_law_next pm_law_next an_law_next cd_law_next ct_law_next), sl_law_next⟩) (c_law_next : PySem.W.codeIn K cd_law_next "_law_next" = true) (k_law_next : PySem.W.keepIn K (.ref f_law_next) = true)
    (a_law_draws : PySem.W.nsIn K mainGlobals "_law_draws" = some (some (.ref f_law_draws))) (l_law_draws : K.lookup f_law_draws = some ⟨oc_law_draws, od_law_draws, .func (PySem.W.fnOf "_law_draws" "_law_draws" (defArgs s_law_draws) (defBody s_law_draws) (defScope s_law_draws) .none kV_law_draws dc_law_draws pm_law_draws an_law_draws cd_law_draws ct_law_draws), sl_law_draws⟩) (c_law_draws : PySem.W.codeIn K cd_law_draws "_law_draws" = true) (k_law_draws : PySem.W.keepIn K (.ref f_law_draws) = true)
    (a_is_size_ : PySem.W.nsIn K mainGlobals "_is_size" = some (some (.ref f_is_size_))) (l_is_size_ : K.lookup f_is_size_ = some ⟨oc_is_size_, od_is_size_, .func (PySem.W.fnOf "_is_size" "_is_size" (defArgs s_is_size_) (defBody s_is_size_) (defScope s_is_size_) .none kV_is_size_ dc_is_size_ pm_is_size_ an_is_size_ cd_is_size_ ct_is_size_), sl_is_size_⟩) (c_is_size_ : PySem.W.codeIn K cd_is_size_ "_is_size" = true) (k_is_size_ : PySem.W.keepIn K (.ref f_is_size_) = true)
    (a_check_size_ : PySem.W.nsIn K mainGlobals "_check_size" = some (some (.ref f_check_size_))) (l_check_size_ : K.lookup f_check_size_ = some ⟨oc_check_size_, od_check_size_, .func (PySem.W.fnOf "_check_size" "_check_size" (defArgs s_check_size_) (defBody s_check_size_) (defScope s_check_size_) .none kV_check_size_ dc_check_size_ pm_check_size_ an_check_size_ cd_check_size_ ct_check_size_), sl_check_size_⟩) (c_check_size_ : PySem.W.codeIn K cd_check_size_ "_check_size" = true) (k_check_size_ : PySem.W.keepIn K (.ref f_check_size_) = true)
    (a_is_diagram : PySem.W.nsIn K mainGlobals "is_diagram" = some (some (.ref f_is_diagram))) (l_is_diagram : K.lookup f_is_diagram = some ⟨oc_is_diagram, od_is_diagram, .func (PySem.W.fnOf "is_diagram" "is_diagram" (defArgs s_is_diagram) (defBody s_is_diagram) (defScope s_is_diagram) .none kV_is_diagram dc_is_diagram pm_is_diagram an_is_diagram cd_is_diagram ct_is_diagram), sl_is_diagram⟩) (c_is_diagram : PySem.W.codeIn K cd_is_diagram "is_diagram" = true) (k_is_diagram : PySem.W.keepIn K (.ref f_is_diagram) = true)
    (a_check_diagram : PySem.W.nsIn K mainGlobals "check_diagram" = some (some (.ref f_check_diagram))) (l_check_diagram : K.lookup f_check_diagram = some ⟨oc_check_diagram, od_check_diagram, .func (PySem.W.fnOf "check_diagram" "check_diagram" (defArgs s_check_diagram) (defBody s_check_diagram) (defScope s_check_diagram) .none kV_check_diagram dc_check_diagram pm_check_diagram an_check_diagram cd_check_diagram ct_check_diagram), sl_check_diagram⟩) (c_check_diagram : PySem.W.codeIn K cd_check_diagram "check_diagram" = true) (k_check_diagram : PySem.W.keepIn K (.ref f_check_diagram) = true)
    (a_labels : PySem.W.nsIn K mainGlobals "labels" = some (some (.ref f_labels))) (l_labels : K.lookup f_labels = some ⟨oc_labels, od_labels, .func (PySem.W.fnOf "labels" "labels" (defArgs s_labels) (defBody s_labels) (defScope s_labels) .none kV_labels dc_labels pm_labels an_labels cd_labels ct_labels), sl_labels⟩) (c_labels : PySem.W.codeIn K cd_labels "labels" = true) (k_labels : PySem.W.keepIn K (.ref f_labels) = true)
    (a_from_labels : PySem.W.nsIn K mainGlobals "from_labels" = some (some (.ref f_from_labels))) (l_from_labels : K.lookup f_from_labels = some ⟨oc_from_labels, od_from_labels, .func (PySem.W.fnOf "from_labels" "from_labels" (defArgs s_from_labels) (defBody s_from_labels) (defScope s_from_labels) .none kV_from_labels dc_from_labels pm_from_labels an_from_labels cd_from_labels ct_from_labels), sl_from_labels⟩) (c_from_labels : PySem.W.codeIn K cd_from_labels "from_labels" = true) (k_from_labels : PySem.W.keepIn K (.ref f_from_labels) = true)
    (a_law_seen : PySem.W.nsIn K mainGlobals "_law_seen" = some (some (.ref f_law_seen))) (l_law_seen : K.lookup f_law_seen = some ⟨oc_law_seen, od_law_seen, .func (PySem.W.fnOf "_law_seen" "_law_seen" (defArgs s_law_seen) (defBody s_law_seen) (defScope s_law_seen) .none kV_law_seen dc_law_seen pm_law_seen an_law_seen cd_law_seen ct_law_seen), sl_law_seen⟩) (c_law_seen : PySem.W.codeIn K cd_law_seen "_law_seen" = true) (k_law_seen : PySem.W.keepIn K (.ref f_law_seen) = true)
    (a_law_from : PySem.W.nsIn K mainGlobals "_law_from" = some (some (.ref f_law_from))) (l_law_from : K.lookup f_law_from = some ⟨oc_law_from, od_law_from, .func (PySem.W.fnOf "_law_from" "_law_from" (defArgs s_law_from) (defBody s_law_from) (defScope s_law_from) .none kV_law_from dc_law_from pm_law_from an_law_from cd_law_from ct_law_from), sl_law_from⟩) (c_law_from : PySem.W.codeIn K cd_law_from "_law_from" = true) (k_law_from : PySem.W.keepIn K (.ref f_law_from) = true)
    (a_law_marks : PySem.W.nsIn K mainGlobals "_law_marks" = some (some (.ref f_law_marks))) (l_law_marks : K.lookup f_law_marks = some ⟨oc_law_marks, od_law_marks, .func (PySem.W.fnOf "_law_marks" "_law_marks" (defArgs s_law_marks) (defBody s_law_marks) (defScope s_law_marks) .none kV_law_marks dc_law_marks pm_law_marks an_law_marks cd_law_marks ct_law_marks), sl_law_marks⟩) (c_law_marks : PySem.W.codeIn K cd_law_marks "_law_marks" = true) (k_law_marks : PySem.W.keepIn K (.ref f_law_marks) = true)
    (a_law_pick : PySem.W.nsIn K mainGlobals "_law_pick" = some (some (.ref f_law_pick))) (l_law_pick : K.lookup f_law_pick = some ⟨oc_law_pick, od_law_pick, .func (PySem.W.fnOf "_law_pick" "_law_pick" (defArgs s_law_pick) (defBody s_law_pick) (defScope s_law_pick) .none kV_law_pick dc_law_pick pm_law_pick an_law_pick cd_law_pick ct_law_pick), sl_law_pick⟩) (c_law_pick : PySem.W.codeIn K cd_law_pick "_law_pick" = true) (k_law_pick : PySem.W.keepIn K (.ref f_law_pick) = true)
    (a_law_family : PySem.W.nsIn K mainGlobals "_law_family" = some (some (.ref f_law_family))) (l_law_family : K.lookup f_law_family = some ⟨oc_law_family, od_law_family, .func (PySem.W.fnOf "_law_family" "_law_family" (defArgs s_law_family) (defBody s_law_family) (defScope s_law_family) .none kV_law_family dc_law_family pm_law_family an_law_family cd_law_family ct_law_family), sl_law_family⟩) (c_law_family : PySem.W.codeIn K cd_law_family "_law_family" = true) (k_law_family : PySem.W.keepIn K (.ref f_law_family) = true)
    (a_law_other_side : PySem.W.nsIn K mainGlobals "_law_other_side" = some (some (.ref f_law_other_side))) (l_law_other_side : K.lookup f_law_other_side = some ⟨oc_law_other_side, od_law_other_side, .func (PySem.W.fnOf "_law_other_side" "_law_other_side" (defArgs s_law_other_side) (defBody s_law_other_side) (defScope s_law_other_side) .none kV_law_other_side dc_law_other_side pm_law_other_side an_law_other_side cd_law_other_side ct_law_other_side), sl_law_other_side⟩) (c_law_other_side : PySem.W.codeIn K cd_law_other_side "_law_other_side" = true) (k_law_other_side : PySem.W.keepIn K (.ref f_law_other_side) = true)
    (a_check_family : PySem.W.nsIn K mainGlobals "check_family" = some (some (.ref f_check_family))) (l_check_family : K.lookup f_check_family = some ⟨oc_check_family, od_check_family, .func (PySem.W.fnOf "check_family" "check_family" (defArgs s_check_family) (defBody s_check_family) (defScope s_check_family) .none kV_check_family dc_check_family pm_check_family an_check_family cd_check_family ct_check_family), sl_check_family⟩) (c_check_family : PySem.W.codeIn K cd_check_family "check_family" = true) (k_check_family : PySem.W.keepIn K (.ref f_check_family) = true)
    (a_is_strand_ : PySem.W.nsIn K mainGlobals "_is_strand" = some (some (.ref f_is_strand_))) (l_is_strand_ : K.lookup f_is_strand_ = some ⟨oc_is_strand_, od_is_strand_, .func (PySem.W.fnOf "_is_strand" "_is_strand" (defArgs s_is_strand_) (defBody s_is_strand_) (defScope s_is_strand_) .none kV_is_strand_ dc_is_strand_ pm_is_strand_ an_is_strand_ cd_is_strand_ ct_is_strand_), sl_is_strand_⟩) (c_is_strand_ : PySem.W.codeIn K cd_is_strand_ "_is_strand" = true) (k_is_strand_ : PySem.W.keepIn K (.ref f_is_strand_) = true)
    (a_is_block_size_ : PySem.W.nsIn K mainGlobals "_is_block_size" = some (some (.ref f_is_block_size_))) (l_is_block_size_ : K.lookup f_is_block_size_ = some ⟨oc_is_block_size_, od_is_block_size_, .func (PySem.W.fnOf "_is_block_size" "_is_block_size" (defArgs s_is_block_size_) (defBody s_is_block_size_) (defScope s_is_block_size_) .none kV_is_block_size_ dc_is_block_size_ pm_is_block_size_ an_is_block_size_ cd_is_block_size_ ct_is_block_size_), sl_is_block_size_⟩) (c_is_block_size_ : PySem.W.codeIn K cd_is_block_size_ "_is_block_size" = true) (k_is_block_size_ : PySem.W.keepIn K (.ref f_is_block_size_) = true)
    (a_is_block_of_ : PySem.W.nsIn K mainGlobals "_is_block_of" = some (some (.ref f_is_block_of_))) (l_is_block_of_ : K.lookup f_is_block_of_ = some ⟨oc_is_block_of_, od_is_block_of_, .func (PySem.W.fnOf "_is_block_of" "_is_block_of" (defArgs s_is_block_of_) (defBody s_is_block_of_) (defScope s_is_block_of_) .none kV_is_block_of_ dc_is_block_of_ pm_is_block_of_ an_is_block_of_ cd_is_block_of_ ct_is_block_of_), sl_is_block_of_⟩) (c_is_block_of_ : PySem.W.codeIn K cd_is_block_of_ "_is_block_of" = true) (k_is_block_of_ : PySem.W.keepIn K (.ref f_is_block_of_) = true)
    (a_is_in : PySem.W.nsIn K mainGlobals "is_in" = some (some (.ref f_is_in))) (l_is_in : K.lookup f_is_in = some ⟨oc_is_in, od_is_in, .func (PySem.W.fnOf "is_in" "is_in" (defArgs s_is_in) (defBody s_is_in) (defScope s_is_in) .none kV_is_in dc_is_in pm_is_in an_is_in cd_is_in ct_is_in), sl_is_in⟩) (c_is_in : PySem.W.codeIn K cd_is_in "is_in" = true) (k_is_in : PySem.W.keepIn K (.ref f_is_in) = true)
    (a_counted_by_last_ : PySem.W.nsIn K mainGlobals "_counted_by_last" = some (some (.ref f_counted_by_last_))) (l_counted_by_last_ : K.lookup f_counted_by_last_ = some ⟨oc_counted_by_last_, od_counted_by_last_, .func (PySem.W.fnOf "_counted_by_last" "_counted_by_last" (defArgs s_counted_by_last_) (defBody s_counted_by_last_) (defScope s_counted_by_last_) .none kV_counted_by_last_ dc_counted_by_last_ pm_counted_by_last_ an_counted_by_last_ cd_counted_by_last_ ct_counted_by_last_), sl_counted_by_last_⟩) (c_counted_by_last_ : PySem.W.codeIn K cd_counted_by_last_ "_counted_by_last" = true) (k_counted_by_last_ : PySem.W.keepIn K (.ref f_counted_by_last_) = true)
    (a_counted : PySem.W.nsIn K mainGlobals "counted" = some (some (.ref f_counted))) (l_counted : K.lookup f_counted = some ⟨oc_counted, od_counted, .func (PySem.W.fnOf "counted" "counted" (defArgs s_counted) (defBody s_counted) (defScope s_counted) .none kV_counted dc_counted pm_counted an_counted cd_counted ct_counted), sl_counted⟩) (c_counted : PySem.W.codeIn K cd_counted "counted" = true) (k_counted : PySem.W.keepIn K (.ref f_counted) = true)
    (a_may_follow_ : PySem.W.nsIn K mainGlobals "_may_follow" = some (some (.ref f_may_follow_))) (l_may_follow_ : K.lookup f_may_follow_ = some ⟨oc_may_follow_, od_may_follow_, .func (PySem.W.fnOf "_may_follow" "_may_follow" (defArgs s_may_follow_) (defBody s_may_follow_) (defScope s_may_follow_) .none kV_may_follow_ dc_may_follow_ pm_may_follow_ an_may_follow_ cd_may_follow_ ct_may_follow_), sl_may_follow_⟩) (c_may_follow_ : PySem.W.codeIn K cd_may_follow_ "_may_follow" = true) (k_may_follow_ : PySem.W.keepIn K (.ref f_may_follow_) = true)
    (a_label_rows_ : PySem.W.nsIn K mainGlobals "_label_rows" = some (some (.ref f_label_rows_))) (l_label_rows_ : K.lookup f_label_rows_ = some ⟨oc_label_rows_, od_label_rows_, .func (PySem.W.fnOf "_label_rows" "_label_rows" (defArgs s_label_rows_) (defBody s_label_rows_) (defScope s_label_rows_) .none kV_label_rows_ dc_label_rows_ pm_label_rows_ an_label_rows_ cd_label_rows_ ct_label_rows_), sl_label_rows_⟩) (c_label_rows_ : PySem.W.codeIn K cd_label_rows_ "_label_rows" = true) (k_label_rows_ : PySem.W.keepIn K (.ref f_label_rows_) = true)
    (a_listed : PySem.W.nsIn K mainGlobals "listed" = some (some (.ref f_listed))) (l_listed : K.lookup f_listed = some ⟨oc_listed, od_listed, .func (PySem.W.fnOf "listed" "listed" (defArgs s_listed) (defBody s_listed) (defScope s_listed) .none kV_listed dc_listed pm_listed an_listed cd_listed ct_listed), sl_listed⟩) (c_listed : PySem.W.codeIn K cd_listed "listed" = true) (k_listed : PySem.W.keepIn K (.ref f_listed) = true)
    (a_order_key_ : PySem.W.nsIn K mainGlobals "_order_key" = some (some (.ref f_order_key_))) (l_order_key_ : K.lookup f_order_key_ = some ⟨oc_order_key_, od_order_key_, .func (PySem.W.fnOf "_order_key" "_order_key" (defArgs s_order_key_) (defBody s_order_key_) (defScope s_order_key_) .none kV_order_key_ dc_order_key_ pm_order_key_ an_order_key_ cd_order_key_ ct_order_key_), sl_order_key_⟩) (c_order_key_ : PySem.W.codeIn K cd_order_key_ "_order_key" = true) (k_order_key_ : PySem.W.keepIn K (.ref f_order_key_) = true)
    (a_is_before : PySem.W.nsIn K mainGlobals "is_before" = some (some (.ref f_is_before))) (l_is_before : K.lookup f_is_before = some ⟨oc_is_before, od_is_before, .func (PySem.W.fnOf "is_before" "is_before" (defArgs s_is_before) (defBody s_is_before) (defScope s_is_before) .none kV_is_before dc_is_before pm_is_before an_is_before cd_is_before ct_is_before), sl_is_before⟩) (c_is_before : PySem.W.codeIn K cd_is_before "is_before" = true) (k_is_before : PySem.W.keepIn K (.ref f_is_before) = true)
    (a_text_of : PySem.W.nsIn K mainGlobals "text_of" = some (some (.ref f_text_of))) (l_text_of : K.lookup f_text_of = some ⟨oc_text_of, od_text_of, .func (PySem.W.fnOf "text_of" "text_of" (defArgs s_text_of) (defBody s_text_of) (defScope s_text_of) .none kV_text_of dc_text_of pm_text_of an_text_of cd_text_of ct_text_of), sl_text_of⟩) (c_text_of : PySem.W.codeIn K cd_text_of "text_of" = true) (k_text_of : PySem.W.keepIn K (.ref f_text_of) = true)
    (a_squares : PySem.W.nsIn K mainGlobals "squares" = some (some (.ref f_squares))) (l_squares : K.lookup f_squares = some ⟨oc_squares, od_squares, .func (PySem.W.fnOf "squares" "squares" (defArgs s_squares) (defBody s_squares) (defScope s_squares) .none kV_squares dc_squares pm_squares an_squares cd_squares ct_squares), sl_squares⟩) (c_squares : PySem.W.codeIn K cd_squares "squares" = true) (k_squares : PySem.W.keepIn K (.ref f_squares) = true)
    (a_law_kind : PySem.W.nsIn K mainGlobals "_law_kind" = some (some (.ref f_law_kind))) (l_law_kind : K.lookup f_law_kind = some ⟨oc_law_kind, od_law_kind, .func (PySem.W.fnOf "_law_kind" "_law_kind" (defArgs s_law_kind) (defBody s_law_kind) (defScope s_law_kind) .none kV_law_kind dc_law_kind pm_law_kind an_law_kind cd_law_kind ct_law_kind), sl_law_kind⟩) (c_law_kind : PySem.W.codeIn K cd_law_kind "_law_kind" = true) (k_law_kind : PySem.W.keepIn K (.ref f_law_kind) = true)
    (a_index_of : PySem.W.nsIn K mainGlobals "index_of" = some (some (.ref f_index_of))) (l_index_of : K.lookup f_index_of = some ⟨oc_index_of, od_index_of, .func (PySem.W.fnOf "index_of" "index_of" (defArgs s_index_of) (defBody s_index_of) (defScope s_index_of) .none kV_index_of dc_index_of pm_index_of an_index_of cd_index_of ct_index_of), sl_index_of⟩) (c_index_of : PySem.W.codeIn K cd_index_of "index_of" = true) (k_index_of : PySem.W.keepIn K (.ref f_index_of) = true)
    (a_law_told : PySem.W.nsIn K mainGlobals "_law_told" = some (some (.ref f_law_told))) (l_law_told : K.lookup f_law_told = some ⟨oc_law_told, od_law_told, .func (PySem.W.fnOf "_law_told" "_law_told" (defArgs s_law_told) (defBody s_law_told) (defScope s_law_told) .none kV_law_told dc_law_told pm_law_told an_law_told cd_law_told ct_law_told), sl_law_told⟩) (c_law_told : PySem.W.codeIn K cd_law_told "_law_told" = true) (k_law_told : PySem.W.keepIn K (.ref f_law_told) = true)
    (a_law_joined : PySem.W.nsIn K mainGlobals "_law_joined" = some (some (.ref f_law_joined))) (l_law_joined : K.lookup f_law_joined = some ⟨oc_law_joined, od_law_joined, .func (PySem.W.fnOf "_law_joined" "_law_joined" (defArgs s_law_joined) (defBody s_law_joined) (defScope s_law_joined) .none kV_law_joined dc_law_joined pm_law_joined an_law_joined cd_law_joined ct_law_joined), sl_law_joined⟩) (c_law_joined : PySem.W.codeIn K cd_law_joined "_law_joined" = true) (k_law_joined : PySem.W.keepIn K (.ref f_law_joined) = true)
    (a_law_threaded : PySem.W.nsIn K mainGlobals "_law_threaded" = some (some (.ref f_law_threaded))) (l_law_threaded : K.lookup f_law_threaded = some ⟨oc_law_threaded, od_law_threaded, .func (PySem.W.fnOf "_law_threaded" "_law_threaded" (defArgs s_law_threaded) (defBody s_law_threaded) (defScope s_law_threaded) .none kV_law_threaded dc_law_threaded pm_law_threaded an_law_threaded cd_law_threaded ct_law_threaded), sl_law_threaded⟩) (c_law_threaded : PySem.W.codeIn K cd_law_threaded "_law_threaded" = true) (k_law_threaded : PySem.W.keepIn K (.ref f_law_threaded) = true)
    (a_law_drawn : PySem.W.nsIn K mainGlobals "_law_drawn" = some (some (.ref f_law_drawn))) (l_law_drawn : K.lookup f_law_drawn = some ⟨oc_law_drawn, od_law_drawn, .func (PySem.W.fnOf "_law_drawn" "_law_drawn" (defArgs s_law_drawn) (defBody s_law_drawn) (defScope s_law_drawn) .none kV_law_drawn dc_law_drawn pm_law_drawn an_law_drawn cd_law_drawn ct_law_drawn), sl_law_drawn⟩) (c_law_drawn : PySem.W.codeIn K cd_law_drawn "_law_drawn" = true) (k_law_drawn : PySem.W.keepIn K (.ref f_law_drawn) = true)
    (a_law_shaped : PySem.W.nsIn K mainGlobals "_law_shaped" = some (some (.ref f_law_shaped))) (l_law_shaped : K.lookup f_law_shaped = some ⟨oc_law_shaped, od_law_shaped, .func (PySem.W.fnOf "_law_shaped" "_law_shaped" (defArgs s_law_shaped) (defBody s_law_shaped) (defScope s_law_shaped) .none kV_law_shaped dc_law_shaped pm_law_shaped an_law_shaped cd_law_shaped ct_law_shaped), sl_law_shaped⟩) (c_law_shaped : PySem.W.codeIn K cd_law_shaped "_law_shaped" = true) (k_law_shaped : PySem.W.keepIn K (.ref f_law_shaped) = true)
    (a_law : PySem.W.nsIn K mainGlobals "law" = some (some (.ref f_law))) (l_law : K.lookup f_law = some ⟨oc_law, od_law, .func (PySem.W.fnOf "law" "law" (defArgs s_law) (defBody s_law) (defScope s_law) .none kV_law dc_law pm_law an_law cd_law ct_law), sl_law⟩) (c_law : PySem.W.codeIn K cd_law "law" = true) (k_law : PySem.W.keepIn K (.ref f_law) = true)
    (zn_int : PySem.W.nsIn K mainGlobals "int" = some none)
    (zn_range : PySem.W.nsIn K mainGlobals "range" = some none)
    (zn_len : PySem.W.nsIn K mainGlobals "len" = some none)
    (zn_list : PySem.W.nsIn K mainGlobals "list" = some none)
    (zn_tuple : PySem.W.nsIn K mainGlobals "tuple" = some none)
    (zn_max : PySem.W.nsIn K mainGlobals "max" = some none)
    (zn_min : PySem.W.nsIn K mainGlobals "min" = some none)
    (zn_all : PySem.W.nsIn K mainGlobals "all" = some none)
    (zn_sorted : PySem.W.nsIn K mainGlobals "sorted" = some none)
    (zn_isinstance : PySem.W.nsIn K mainGlobals "isinstance" = some none)
    (zn_enumerate : PySem.W.nsIn K mainGlobals "enumerate" = some none)
    (zn_sum : PySem.W.nsIn K mainGlobals "sum" = some none)
    (zn_str : PySem.W.nsIn K mainGlobals "str" = some none)
    (n_BadNumber : PySem.W.nsIn K mainGlobals "BadNumber" = some (some (.ref CB)))
    (x_BadNumber : PySem.W.excIn K CB [.type "ValueError", .type "Exception", .type "BaseException", .type "object"] "ValueError.__new__" = true)
    (kc_BadNumber : PySem.W.keepIn K (.ref CB) = true)
    (bc_BadNumber : PySem.W.subIn K (.ref CB) (.type "BaseException") = some true)
    (tc_BadNumber : PySem.W.typeIn K (.ref CB) = some (.type "type"))
    (n_NotDiagram : PySem.W.nsIn K mainGlobals "NotDiagram" = some (some (.ref CD)))
    (x_NotDiagram : PySem.W.excIn K CD [.type "ValueError", .type "Exception", .type "BaseException", .type "object"] "ValueError.__new__" = true)
    (kc_NotDiagram : PySem.W.keepIn K (.ref CD) = true)
    (bc_NotDiagram : PySem.W.subIn K (.ref CD) (.type "BaseException") = some true)
    (tc_NotDiagram : PySem.W.typeIn K (.ref CD) = some (.type "type"))
    (n_TooLarge : PySem.W.nsIn K mainGlobals "TooLarge" = some (some (.ref CT)))
    (x_TooLarge : PySem.W.excIn K CT [.type "ValueError", .type "Exception", .type "BaseException", .type "object"] "ValueError.__new__" = true)
    (kc_TooLarge : PySem.W.keepIn K (.ref CT) = true)
    (bc_TooLarge : PySem.W.subIn K (.ref CT) (.type "BaseException") = some true)
    (tc_TooLarge : PySem.W.typeIn K (.ref CT) = some (.type "type"))
    (n_NotFamily : PySem.W.nsIn K mainGlobals "NotFamily" = some (some (.ref CF)))
    (x_NotFamily : PySem.W.excIn K CF [.type "ValueError", .type "Exception", .type "BaseException", .type "object"] "ValueError.__new__" = true)
    (kc_NotFamily : PySem.W.keepIn K (.ref CF) = true)
    (bc_NotFamily : PySem.W.subIn K (.ref CF) (.type "BaseException") = some true)
    (tc_NotFamily : PySem.W.typeIn K (.ref CF) = some (.type "type"))
    (n_MOST_ON_A_SIDE : PySem.W.nsIn K mainGlobals "MOST_ON_A_SIDE" = some (some (.int 8 tm_MOST_ON_A_SIDE)))
    (n_MOST_POINTS : PySem.W.nsIn K mainGlobals "MOST_POINTS" = some (some (.int 12 tm_MOST_POINTS)))
    (n_MOST_LISTED : PySem.W.nsIn K mainGlobals "MOST_LISTED" = some (some (.int 250 tm_MOST_LISTED)))
    (n_LETTERS : PySem.W.nsIn K mainGlobals "LETTERS" = some (some (.str "abcdefghijkl" tL_LETTERS)))
    (n_comb : PySem.W.nsIn K mainGlobals "comb" = some (some (.builtin "math.comb")))
    (n_factorial : PySem.W.nsIn K mainGlobals "factorial" = some (some (.builtin "math.factorial")))
    (n_FAMILIES : PySem.W.nsIn K mainGlobals "FAMILIES" = some (some (.ref aF)))
    (l_FAMILIES : K.lookup aF = some ⟨.type "tuple", ddF, .seq #[.str "threads" uf0, .str "loose" uf1, .str "pairs" uf2, .str "lonepairs" uf3, .str "even" uf4, .str "parts" uf5] nF, slF⟩)
    (n_WorthError : PySem.W.nsIn K mainGlobals "WorthError" = some (some (.ref CE)))
    (ebc : PySem.W.subIn K (.ref CE) (.type "BaseException") = some true)
    (ehd : PySem.W.hasDictIn K CE = true)
    (ety : PySem.W.typeIn K (.ref CE) = some (.type "type"))
    (hn_cls : PySem.W.specialIn K (.builtin "object.__class__") "__get__" = some (some (.builtin "getset_descriptor.__get__")))
    (ht_cls : PySem.W.takesIn K (.builtin "object.__class__") = some true)
    (hg_NotFamily : PySem.W.findIn K (.ref CF) "__getattribute__" = some (some (.builtin "BaseException.__getattribute__")))
    (hk_NotFamily : PySem.W.findIn K (.ref CF) "__getattr__" = some none)
    (hd_NotFamily : PySem.W.hasDictIn K CF = true)
    (ha_NotFamily : PySem.W.findIn K (.ref CF) "__class__" = some (some (.builtin "object.__class__")))
    (hm_NotFamily : PySem.W.mroIn K CF (.type "object") = some true)
    (sE_F : PySem.W.subIn K (.ref CF) (.ref CE) = some true)
    (hg_NotDiagram : PySem.W.findIn K (.ref CD) "__getattribute__" = some (some (.builtin "BaseException.__getattribute__")))
    (hk_NotDiagram : PySem.W.findIn K (.ref CD) "__getattr__" = some none)
    (hd_NotDiagram : PySem.W.hasDictIn K CD = true)
    (ha_NotDiagram : PySem.W.findIn K (.ref CD) "__class__" = some (some (.builtin "object.__class__")))
    (hm_NotDiagram : PySem.W.mroIn K CD (.type "object") = some true)
    (sE_D : PySem.W.subIn K (.ref CD) (.ref CE) = some true)
    (hg_BadNumber : PySem.W.findIn K (.ref CB) "__getattribute__" = some (some (.builtin "BaseException.__getattribute__")))
    (hk_BadNumber : PySem.W.findIn K (.ref CB) "__getattr__" = some none)
    (hd_BadNumber : PySem.W.hasDictIn K CB = true)
    (ha_BadNumber : PySem.W.findIn K (.ref CB) "__class__" = some (some (.builtin "object.__class__")))
    (hm_BadNumber : PySem.W.mroIn K CB (.type "object") = some true)
    (sE_B : PySem.W.subIn K (.ref CB) (.ref CE) = some true)
    (hg_TooLarge : PySem.W.findIn K (.ref CT) "__getattribute__" = some (some (.builtin "BaseException.__getattribute__")))
    (hk_TooLarge : PySem.W.findIn K (.ref CT) "__getattr__" = some none)
    (hd_TooLarge : PySem.W.hasDictIn K CT = true)
    (ha_TooLarge : PySem.W.findIn K (.ref CT) "__class__" = some (some (.builtin "object.__class__")))
    (hm_TooLarge : PySem.W.mroIn K CT (.type "object") = some true)
    (sE_T : PySem.W.subIn K (.ref CT) (.ref CE) = some true)
    (t_FF : PySem.W.kitOne K (.ref CF) (.ref CF) = some true)
    (t_FD : PySem.W.kitOne K (.ref CF) (.ref CD) = some false)
    (t_FB : PySem.W.kitOne K (.ref CF) (.ref CB) = some false)
    (t_FT : PySem.W.kitOne K (.ref CF) (.ref CT) = some false)
    (t_DF : PySem.W.kitOne K (.ref CD) (.ref CF) = some false)
    (t_DD : PySem.W.kitOne K (.ref CD) (.ref CD) = some true)
    (t_DB : PySem.W.kitOne K (.ref CD) (.ref CB) = some false)
    (t_DT : PySem.W.kitOne K (.ref CD) (.ref CT) = some false)
    (t_BF : PySem.W.kitOne K (.ref CB) (.ref CF) = some false)
    (t_BD : PySem.W.kitOne K (.ref CB) (.ref CD) = some false)
    (t_BB : PySem.W.kitOne K (.ref CB) (.ref CB) = some true)
    (t_BT : PySem.W.kitOne K (.ref CB) (.ref CT) = some false)
    (t_TF : PySem.W.kitOne K (.ref CT) (.ref CF) = some false)
    (t_TD : PySem.W.kitOne K (.ref CT) (.ref CD) = some false)
    (t_TB : PySem.W.kitOne K (.ref CT) (.ref CB) = some false)
    (t_TT : PySem.W.kitOne K (.ref CT) (.ref CT) = some true)
    : ∃ fd : FuncData, (∀ (s : Shared) (v : Value), BindsTo s fd ⟨[v], []⟩ [("script", v)]) ∧ ∀ base : Heap, K.In base → base.Ns mainGlobals mg → FnG P w K mg base 9 fa fd ["script"] (spLaw K) := by
  have e := hfa.symm.trans (PySem.W.mg_of X G a_law)
  cases e
  have F_law_number := fun_mk (st := s_law_number) l_law_number c_law_number k_law_number
  have g_law_number := PySem.W.mg_of X G a_law_number
  have b_law_number := F_law_number.binds (ps := ["cell"]) fun _ _ _ _ _ _ us hl => match us, hl with | [_], _ => rfl
  have F_law_next := fun_mk (st := s_law_next) l_law_next c_law_next k_law_next
  have g_law_next := PySem.W.mg_of X G a_law_next
  have b_law_next := F_law_next.binds (ps := ["draws"]) fun _ _ _ _ _ _ us hl => match us, hl with | [_], _ => rfl
  have F_law_draws := fun_mk (st := s_law_draws) l_law_draws c_law_draws k_law_draws
  have g_law_draws := PySem.W.mg_of X G a_law_draws
  have b_law_draws := F_law_draws.binds (ps := ["script"]) fun _ _ _ _ _ _ us hl => match us, hl with | [_], _ => rfl
  have F_is_size_ := fun_mk (st := s_is_size_) l_is_size_ c_is_size_ k_is_size_
  have g_is_size_ := PySem.W.mg_of X G a_is_size_
  have b_is_size_ := F_is_size_.binds (ps := ["n", "m"]) fun _ _ _ _ _ _ us hl => match us, hl with | [_, _], _ => rfl
  have F_check_size_ := fun_mk (st := s_check_size_) l_check_size_ c_check_size_ k_check_size_
  have g_check_size_ := PySem.W.mg_of X G a_check_size_
  have b_check_size_ := F_check_size_.binds (ps := ["n", "m"]) fun _ _ _ _ _ _ us hl => match us, hl with | [_, _], _ => rfl
  have F_is_diagram := fun_mk (st := s_is_diagram) l_is_diagram c_is_diagram k_is_diagram
  have g_is_diagram := PySem.W.mg_of X G a_is_diagram
  have b_is_diagram := F_is_diagram.binds (ps := ["diagram"]) fun _ _ _ _ _ _ us hl => match us, hl with | [_], _ => rfl
  have F_check_diagram := fun_mk (st := s_check_diagram) l_check_diagram c_check_diagram k_check_diagram
  have g_check_diagram := PySem.W.mg_of X G a_check_diagram
  have b_check_diagram := F_check_diagram.binds (ps := ["diagram"]) fun _ _ _ _ _ _ us hl => match us, hl with | [_], _ => rfl
  have F_labels := fun_mk (st := s_labels) l_labels c_labels k_labels
  have g_labels := PySem.W.mg_of X G a_labels
  have b_labels := F_labels.binds (ps := ["diagram"]) fun _ _ _ _ _ _ us hl => match us, hl with | [_], _ => rfl
  have F_from_labels := fun_mk (st := s_from_labels) l_from_labels c_from_labels k_from_labels
  have g_from_labels := PySem.W.mg_of X G a_from_labels
  have b_from_labels := F_from_labels.binds (ps := ["n", "m", "marks"]) fun _ _ _ _ _ _ us hl => match us, hl with | [_, _, _], _ => rfl
  have F_law_seen := fun_mk (st := s_law_seen) l_law_seen c_law_seen k_law_seen
  have g_law_seen := PySem.W.mg_of X G a_law_seen
  have b_law_seen := F_law_seen.binds (ps := ["marks"]) fun _ _ _ _ _ _ us hl => match us, hl with | [_], _ => rfl
  have F_law_from := fun_mk (st := s_law_from) l_law_from c_law_from k_law_from
  have g_law_from := PySem.W.mg_of X G a_law_from
  have b_law_from := F_law_from.binds (ps := ["n", "m", "marks"]) fun _ _ _ _ _ _ us hl => match us, hl with | [_, _, _], _ => rfl
  have F_law_marks := fun_mk (st := s_law_marks) l_law_marks c_law_marks k_law_marks
  have g_law_marks := PySem.W.mg_of X G a_law_marks
  have b_law_marks := F_law_marks.binds (ps := ["diagram"]) fun _ _ _ _ _ _ us hl => match us, hl with | [_], _ => rfl
  have F_law_pick := fun_mk (st := s_law_pick) l_law_pick c_law_pick k_law_pick
  have g_law_pick := PySem.W.mg_of X G a_law_pick
  have b_law_pick := F_law_pick.binds (ps := ["draws", "left"]) fun _ _ _ _ _ _ us hl => match us, hl with | [_, _], _ => rfl
  have F_law_family := fun_mk (st := s_law_family) l_law_family c_law_family k_law_family
  have g_law_family := PySem.W.mg_of X G a_law_family
  have b_law_family := F_law_family.binds (ps := ["draws"]) fun _ _ _ _ _ _ us hl => match us, hl with | [_], _ => rfl
  have F_law_other_side := fun_mk (st := s_law_other_side) l_law_other_side c_law_other_side k_law_other_side
  have g_law_other_side := PySem.W.mg_of X G a_law_other_side
  have b_law_other_side := F_law_other_side.binds (ps := ["draws", "family", "n", "most"]) fun _ _ _ _ _ _ us hl => match us, hl with | [_, _, _, _], _ => rfl
  have F_check_family := fun_mk (st := s_check_family) l_check_family c_check_family k_check_family
  have g_check_family := PySem.W.mg_of X G a_check_family
  have b_check_family := F_check_family.binds (ps := ["family"]) fun _ _ _ _ _ _ us hl => match us, hl with | [_], _ => rfl
  have F_is_strand_ := fun_mk (st := s_is_strand_) l_is_strand_ c_is_strand_ k_is_strand_
  have g_is_strand_ := PySem.W.mg_of X G a_is_strand_
  have b_is_strand_ := F_is_strand_.binds (ps := ["n", "block"]) fun _ _ _ _ _ _ us hl => match us, hl with | [_, _], _ => rfl
  have F_is_block_size_ := fun_mk (st := s_is_block_size_) l_is_block_size_ c_is_block_size_ k_is_block_size_
  have g_is_block_size_ := PySem.W.mg_of X G a_is_block_size_
  have b_is_block_size_ := F_is_block_size_.binds (ps := ["family", "size"]) fun _ _ _ _ _ _ us hl => match us, hl with | [_, _], _ => rfl
  have F_is_block_of_ := fun_mk (st := s_is_block_of_) l_is_block_of_ c_is_block_of_ k_is_block_of_
  have g_is_block_of_ := PySem.W.mg_of X G a_is_block_of_
  have b_is_block_of_ := F_is_block_of_.binds (ps := ["family", "n", "block"]) fun _ _ _ _ _ _ us hl => match us, hl with | [_, _, _], _ => rfl
  have F_is_in := fun_mk (st := s_is_in) l_is_in c_is_in k_is_in
  have g_is_in := PySem.W.mg_of X G a_is_in
  have b_is_in := F_is_in.binds (ps := ["family", "diagram"]) fun _ _ _ _ _ _ us hl => match us, hl with | [_, _], _ => rfl
  have F_counted_by_last_ := fun_mk (st := s_counted_by_last_) l_counted_by_last_ c_counted_by_last_ k_counted_by_last_
  have g_counted_by_last_ := PySem.W.mg_of X G a_counted_by_last_
  have b_counted_by_last_ := F_counted_by_last_.binds (ps := ["family", "size"]) fun _ _ _ _ _ _ us hl => match us, hl with | [_, _], _ => rfl
  have F_counted := fun_mk (st := s_counted) l_counted c_counted k_counted
  have g_counted := PySem.W.mg_of X G a_counted
  have b_counted := F_counted.binds (ps := ["family", "n", "m"]) fun _ _ _ _ _ _ us hl => match us, hl with | [_, _, _], _ => rfl
  have F_may_follow_ := fun_mk (st := s_may_follow_) l_may_follow_ c_may_follow_ k_may_follow_
  have g_may_follow_ := PySem.W.mg_of X G a_may_follow_
  have b_may_follow_ := F_may_follow_.binds (ps := ["family", "n", "row", "mark"]) fun _ _ _ _ _ _ us hl => match us, hl with | [_, _, _, _], _ => rfl
  have F_label_rows_ := fun_mk (st := s_label_rows_) l_label_rows_ c_label_rows_ k_label_rows_
  have g_label_rows_ := PySem.W.mg_of X G a_label_rows_
  have b_label_rows_ := F_label_rows_.binds (ps := ["family", "n", "m"]) fun _ _ _ _ _ _ us hl => match us, hl with | [_, _, _], _ => rfl
  have F_listed := fun_mk (st := s_listed) l_listed c_listed k_listed
  have g_listed := PySem.W.mg_of X G a_listed
  have b_listed := F_listed.binds (ps := ["family", "n", "m"]) fun _ _ _ _ _ _ us hl => match us, hl with | [_, _, _], _ => rfl
  have F_order_key_ := fun_mk (st := s_order_key_) l_order_key_ c_order_key_ k_order_key_
  have g_order_key_ := PySem.W.mg_of X G a_order_key_
  have b_order_key_ := F_order_key_.binds (ps := ["diagram"]) fun _ _ _ _ _ _ us hl => match us, hl with | [_], _ => rfl
  have F_is_before := fun_mk (st := s_is_before) l_is_before c_is_before k_is_before
  have g_is_before := PySem.W.mg_of X G a_is_before
  have b_is_before := F_is_before.binds (ps := ["one", "other"]) fun _ _ _ _ _ _ us hl => match us, hl with | [_, _], _ => rfl
  have F_text_of := fun_mk (st := s_text_of) l_text_of c_text_of k_text_of
  have g_text_of := PySem.W.mg_of X G a_text_of
  have b_text_of := F_text_of.binds (ps := ["diagram"]) fun _ _ _ _ _ _ us hl => match us, hl with | [_], _ => rfl
  have F_squares := fun_mk (st := s_squares) l_squares c_squares k_squares
  have g_squares := PySem.W.mg_of X G a_squares
  have b_squares := F_squares.binds (ps := ["family", "n"]) fun _ _ _ _ _ _ us hl => match us, hl with | [_, _], _ => rfl
  have F_law_kind := fun_mk (st := s_law_kind) l_law_kind c_law_kind k_law_kind
  have g_law_kind := PySem.W.mg_of X G a_law_kind
  have b_law_kind := F_law_kind.binds (ps := ["error"]) fun _ _ _ _ _ _ us hl => match us, hl with | [_], _ => rfl
  have F_index_of := fun_mk (st := s_index_of) l_index_of c_index_of k_index_of
  have g_index_of := PySem.W.mg_of X G a_index_of
  have b_index_of := F_index_of.binds (ps := ["family", "diagram"]) fun _ _ _ _ _ _ us hl => match us, hl with | [_, _], _ => rfl
  have F_law_told := fun_mk (st := s_law_told) l_law_told c_law_told k_law_told
  have g_law_told := PySem.W.mg_of X G a_law_told
  have b_law_told := F_law_told.binds (ps := ["way", "family", "one", "other"]) fun _ _ _ _ _ _ us hl => match us, hl with | [_, _, _, _], _ => rfl
  have F_law_joined := fun_mk (st := s_law_joined) l_law_joined c_law_joined k_law_joined
  have g_law_joined := PySem.W.mg_of X G a_law_joined
  have b_law_joined := F_law_joined.binds (ps := ["marks", "links"]) fun _ _ _ _ _ _ us hl => match us, hl with | [_, _], _ => rfl
  have F_law_threaded := fun_mk (st := s_law_threaded) l_law_threaded c_law_threaded k_law_threaded
  have g_law_threaded := PySem.W.mg_of X G a_law_threaded
  have b_law_threaded := F_law_threaded.binds (ps := ["draws", "family", "n", "m"]) fun _ _ _ _ _ _ us hl => match us, hl with | [_, _, _, _], _ => rfl
  have F_law_drawn := fun_mk (st := s_law_drawn) l_law_drawn c_law_drawn k_law_drawn
  have g_law_drawn := PySem.W.mg_of X G a_law_drawn
  have b_law_drawn := F_law_drawn.binds (ps := ["draws", "family", "n", "m"]) fun _ _ _ _ _ _ us hl => match us, hl with | [_, _, _, _], _ => rfl
  have F_law_shaped := fun_mk (st := s_law_shaped) l_law_shaped c_law_shaped k_law_shaped
  have g_law_shaped := PySem.W.mg_of X G a_law_shaped
  have b_law_shaped := F_law_shaped.binds (ps := ["draws", "family", "most"]) fun _ _ _ _ _ _ us hl => match us, hl with | [_, _, _], _ => rfl
  have F_law := fun_mk (st := s_law) l_law c_law k_law
  have g_law := PySem.W.mg_of X G a_law
  have b_law := F_law.binds (ps := ["script"]) fun _ _ _ _ _ _ us hl => match us, hl with | [_], _ => rfl
  have z_int := PySem.W.mg_none_of X G zn_int
  have z_range := PySem.W.mg_none_of X G zn_range
  have z_len := PySem.W.mg_none_of X G zn_len
  have z_list := PySem.W.mg_none_of X G zn_list
  have z_tuple := PySem.W.mg_none_of X G zn_tuple
  have z_max := PySem.W.mg_none_of X G zn_max
  have z_min := PySem.W.mg_none_of X G zn_min
  have z_all := PySem.W.mg_none_of X G zn_all
  have z_sorted := PySem.W.mg_none_of X G zn_sorted
  have z_isinstance := PySem.W.mg_none_of X G zn_isinstance
  have z_enumerate := PySem.W.mg_none_of X G zn_enumerate
  have z_sum := PySem.W.mg_none_of X G zn_sum
  have z_str := PySem.W.mg_none_of X G zn_str
  have E_BadNumber : ErrC K mg "BadNumber" CB := ⟨PySem.W.mg_of X G n_BadNumber, x_BadNumber, kc_BadNumber, bc_BadNumber, tc_BadNumber⟩
  have E_NotDiagram : ErrC K mg "NotDiagram" CD := ⟨PySem.W.mg_of X G n_NotDiagram, x_NotDiagram, kc_NotDiagram, bc_NotDiagram, tc_NotDiagram⟩
  have E_TooLarge : ErrC K mg "TooLarge" CT := ⟨PySem.W.mg_of X G n_TooLarge, x_TooLarge, kc_TooLarge, bc_TooLarge, tc_TooLarge⟩
  have E_NotFamily : ErrC K mg "NotFamily" CF := ⟨PySem.W.mg_of X G n_NotFamily, x_NotFamily, kc_NotFamily, bc_NotFamily, tc_NotFamily⟩
  have m_MOST_ON_A_SIDE := PySem.W.mg_of X G n_MOST_ON_A_SIDE
  have m_MOST_POINTS := PySem.W.mg_of X G n_MOST_POINTS
  have m_MOST_LISTED := PySem.W.mg_of X G n_MOST_LISTED
  have m_LETTERS := PySem.W.mg_of X G n_LETTERS
  have m_comb := PySem.W.mg_of X G n_comb
  have m_factorial := PySem.W.mg_of X G n_factorial
  have m_FAMILIES := PySem.W.mg_of X G n_FAMILIES
  have tF : ∀ H, SqT K H aF (fams.map V.str) := fun H => .inr ⟨_, _, _, l_FAMILIES, rfl, rfl, (by show 6 ≤ sizeLine; decide), .cons ⟨_, rfl⟩ (.cons ⟨_, rfl⟩ (.cons ⟨_, rfl⟩ (.cons ⟨_, rfl⟩ (.cons ⟨_, rfl⟩ (.cons ⟨_, rfl⟩ (.nil))))))⟩
  have I_NotFamily : ExcC K CF := ⟨hg_NotFamily, hk_NotFamily, bc_NotFamily, hd_NotFamily, ha_NotFamily, hn_cls, ht_cls, hm_NotFamily⟩
  have I_NotDiagram : ExcC K CD := ⟨hg_NotDiagram, hk_NotDiagram, bc_NotDiagram, hd_NotDiagram, ha_NotDiagram, hn_cls, ht_cls, hm_NotDiagram⟩
  have I_BadNumber : ExcC K CB := ⟨hg_BadNumber, hk_BadNumber, bc_BadNumber, hd_BadNumber, ha_BadNumber, hn_cls, ht_cls, hm_BadNumber⟩
  have I_TooLarge : ExcC K CT := ⟨hg_TooLarge, hk_TooLarge, bc_TooLarge, hd_TooLarge, ha_TooLarge, hn_cls, ht_cls, hm_TooLarge⟩
  have m_NotFamily := PySem.W.mg_of X G n_NotFamily
  have m_NotDiagram := PySem.W.mg_of X G n_NotDiagram
  have m_BadNumber := PySem.W.mg_of X G n_BadNumber
  have m_TooLarge := PySem.W.mg_of X G n_TooLarge
  have J_F : KindE K CF CD CB CT CF 0 := ⟨I_NotFamily, by decide, t_FF, t_FD, t_FB, t_FT⟩
  have J_D : KindE K CF CD CB CT CD 1 := ⟨I_NotDiagram, by decide, t_DF, t_DD, t_DB, t_DT⟩
  have J_B : KindE K CF CD CB CT CB 2 := ⟨I_BadNumber, by decide, t_BF, t_BD, t_BB, t_BT⟩
  have J_T : KindE K CF CD CB CT CT 3 := ⟨I_TooLarge, by decide, t_TF, t_TD, t_TB, t_TT⟩
  have T_told : ErrE K mg CE CF CD CB CT := ⟨PySem.W.mg_of X G n_WorthError, ebc, ehd, ety, sE_F, sE_D, sE_B, sE_T, J_F, J_D, J_B, J_T⟩
  refine ⟨PySem.W.fnOf "law" "law" (defArgs s_law) (defBody s_law) (defScope s_law) .none kV_law dc_law pm_law an_law cd_law ct_law, fun s v => .of_eq rfl, fun base _ _ => ?_⟩
  have G_law_number := ok_plain (P := P) (w := w) (mg := mg) (base := base) (F := F_law_number)
  have G_law_next := ok_next (P := P) (w := w) (mg := mg) (base := base) (F := F_law_next)
  have G_law_draws := ok_draws (P := P) (w := w) (mg := mg) (base := base) (F := F_law_draws) (z_range := z_range) (z_int := z_int) (G_law_number := G_law_number) (g_law_number := g_law_number) (k_law_number := k_law_number) (b_law_number := b_law_number)
  have G_is_size_ := ok_is_size_ (P := P) (w := w) (mg := mg) (base := base) (F := F_is_size_) (m_MOST_ON_A_SIDE := m_MOST_ON_A_SIDE) (m_MOST_POINTS := m_MOST_POINTS)
  have G_check_size_ := ok_check_size_ (P := P) (w := w) (mg := mg) (base := base) (F := F_check_size_) (T := E_BadNumber) (G_is_size_ := G_is_size_) (g_is_size_ := g_is_size_) (k_is_size_ := k_is_size_) (b_is_size_ := b_is_size_)
  have G_is_diagram := ok_is_diagram (P := P) (w := w) (mg := mg) (base := base) (F := F_is_diagram) (z_len := z_len) (z_list := z_list) (z_range := z_range) (z_sorted := z_sorted) (z_all := z_all) (G_is_size_ := G_is_size_) (g_is_size_ := g_is_size_) (k_is_size_ := k_is_size_) (b_is_size_ := b_is_size_)
  have G_check_diagram := ok_check_diagram (P := P) (w := w) (mg := mg) (base := base) (F := F_check_diagram) (T := E_NotDiagram) (G_is_diagram := G_is_diagram) (g_is_diagram := g_is_diagram) (k_is_diagram := k_is_diagram) (b_is_diagram := b_is_diagram)
  have G_labels := ok_labels (P := P) (w := w) (mg := mg) (base := base) (F := F_labels) (z_enumerate := z_enumerate) (z_range := z_range) (G_check_diagram := G_check_diagram) (g_check_diagram := g_check_diagram) (k_check_diagram := k_check_diagram) (b_check_diagram := b_check_diagram)
  have G_from_labels := ok_from_labels (P := P) (w := w) (mg := mg) (base := base) (F := F_from_labels) (T := E_BadNumber) (z_len := z_len) (z_enumerate := z_enumerate) (z_tuple := z_tuple) (G_check_size_ := G_check_size_) (g_check_size_ := g_check_size_) (k_check_size_ := k_check_size_) (b_check_size_ := b_check_size_)
  have G_law_seen := ok_law_seen (P := P) (w := w) (mg := mg) (base := base) (F := F_law_seen)
  have G_law_from := ok_law_from (P := P) (w := w) (mg := mg) (base := base) (F := F_law_from) (z_tuple := z_tuple) (z_range := z_range) (G_law_seen := G_law_seen) (g_law_seen := g_law_seen) (k_law_seen := k_law_seen) (b_law_seen := b_law_seen)
  have G_law_marks := ok_law_marks (P := P) (w := w) (mg := mg) (base := base) (F := F_law_marks) (z_len := z_len) (z_range := z_range)
  have G_law_pick := ok_law_pick (P := P) (w := w) (mg := mg) (base := base) (F := F_law_pick) (z_int := z_int) (z_len := z_len) (G_law_next := G_law_next) (g_law_next := g_law_next) (k_law_next := k_law_next) (b_law_next := b_law_next)
  have G_law_family := ok_law_family (P := P) (w := w) (mg := mg) (base := base) (F := F_law_family) (z_int := z_int) (G_law_next := G_law_next) (g_law_next := g_law_next) (k_law_next := k_law_next) (b_law_next := b_law_next)
  have G_law_other_side := ok_law_other_side (P := P) (w := w) (mg := mg) (base := base) (F := F_law_other_side) (z_int := z_int) (G_law_next := G_law_next) (g_law_next := g_law_next) (k_law_next := k_law_next) (b_law_next := b_law_next)
  have G_check_family := ok_check_family (P := P) (w := w) (mg := mg) (base := base) (F := F_check_family) (T := E_NotFamily) (m_FAMILIES := m_FAMILIES) (tF := tF)
  have G_is_strand_ := ok_is_strand_ (P := P) (w := w) (mg := mg) (base := base) (F := F_is_strand_) (z_len := z_len)
  have G_is_block_size_ := ok_is_block_size_ (P := P) (w := w) (mg := mg) (base := base) (F := F_is_block_size_)
  have G_is_block_of_ := ok_is_block_of_ (P := P) (w := w) (mg := mg) (base := base) (F := F_is_block_of_) (z_len := z_len) (G_is_strand_ := G_is_strand_) (g_is_strand_ := g_is_strand_) (k_is_strand_ := k_is_strand_) (b_is_strand_ := b_is_strand_) (G_is_block_size_ := G_is_block_size_) (g_is_block_size_ := g_is_block_size_) (k_is_block_size_ := k_is_block_size_) (b_is_block_size_ := b_is_block_size_)
  have G_is_in := ok_is_in (P := P) (w := w) (mg := mg) (base := base) (F := F_is_in) (z_all := z_all) (G_check_family := G_check_family) (g_check_family := g_check_family) (k_check_family := k_check_family) (b_check_family := b_check_family) (G_check_diagram := G_check_diagram) (g_check_diagram := g_check_diagram) (k_check_diagram := k_check_diagram) (b_check_diagram := b_check_diagram) (G_is_block_of_ := G_is_block_of_) (g_is_block_of_ := g_is_block_of_) (k_is_block_of_ := k_is_block_of_) (b_is_block_of_ := b_is_block_of_)
  have G_counted_by_last_ := ok_counted_by_last_ (P := P) (w := w) (mg := mg) (base := base) (F := F_counted_by_last_) (z_range := z_range) (z_sum := z_sum) (m_comb := m_comb) (G_is_block_size_ := G_is_block_size_) (g_is_block_size_ := g_is_block_size_) (k_is_block_size_ := k_is_block_size_) (b_is_block_size_ := b_is_block_size_)
  have G_counted := ok_counted (P := P) (w := w) (mg := mg) (base := base) (F := F_counted) (z_range := z_range) (z_sum := z_sum) (z_min := z_min) (m_comb := m_comb) (m_factorial := m_factorial) (G_check_family := G_check_family) (g_check_family := g_check_family) (k_check_family := k_check_family) (b_check_family := b_check_family) (G_check_size_ := G_check_size_) (g_check_size_ := g_check_size_) (k_check_size_ := k_check_size_) (b_check_size_ := b_check_size_) (G_counted_by_last_ := G_counted_by_last_) (g_counted_by_last_ := g_counted_by_last_) (k_counted_by_last_ := k_counted_by_last_) (b_counted_by_last_ := b_counted_by_last_)
  have G_may_follow_ := ok_may_follow_ (P := P) (w := w) (mg := mg) (base := base) (F := F_may_follow_) (z_len := z_len)
  have G_label_rows_ := ok_label_rows_ (P := P) (w := w) (mg := mg) (base := base) (F := F_label_rows_) (z_range := z_range) (z_max := z_max) (G_may_follow_ := G_may_follow_) (g_may_follow_ := g_may_follow_) (k_may_follow_ := k_may_follow_) (b_may_follow_ := b_may_follow_)
  have G_listed := ok_listed (P := P) (w := w) (mg := mg) (base := base) (F := F_listed) (T := E_TooLarge) (m_MOST_LISTED := m_MOST_LISTED) (G_counted := G_counted) (g_counted := g_counted) (k_counted := k_counted) (b_counted := b_counted) (G_label_rows_ := G_label_rows_) (g_label_rows_ := g_label_rows_) (k_label_rows_ := k_label_rows_) (b_label_rows_ := b_label_rows_) (G_from_labels := G_from_labels) (g_from_labels := g_from_labels) (k_from_labels := k_from_labels) (b_from_labels := b_from_labels) (G_is_in := G_is_in) (g_is_in := g_is_in) (k_is_in := k_is_in) (b_is_in := b_is_in)
  have G_order_key_ := ok_order_key_ (P := P) (w := w) (mg := mg) (base := base) (F := F_order_key_) (G_labels := G_labels) (g_labels := g_labels) (k_labels := k_labels) (b_labels := b_labels)
  have G_is_before := ok_is_before (P := P) (w := w) (mg := mg) (base := base) (F := F_is_before) (G_order_key_ := G_order_key_) (g_order_key_ := g_order_key_) (k_order_key_ := k_order_key_) (b_order_key_ := b_order_key_)
  have G_text_of := ok_text_of (P := P) (w := w) (mg := mg) (base := base) (F := F_text_of) (m_LETTERS := m_LETTERS) (G_labels := G_labels) (g_labels := g_labels) (k_labels := k_labels) (b_labels := b_labels)
  have G_squares := ok_squares (P := P) (w := w) (mg := mg) (base := base) (F := F_squares) (G_listed := G_listed) (g_listed := g_listed) (k_listed := k_listed) (b_listed := b_listed)
  have G_law_kind := ok_law_kind (P := P) (w := w) (mg := mg) (base := base) (F := F_law_kind) (m_NotFamily := m_NotFamily) (m_NotDiagram := m_NotDiagram) (m_BadNumber := m_BadNumber) (m_TooLarge := m_TooLarge) (z_isinstance := z_isinstance)
  have G_index_of := ok_index_of (P := P) (w := w) (mg := mg) (base := base) (F := F_index_of) (T := E_BadNumber) (G_is_in := G_is_in) (g_is_in := g_is_in) (k_is_in := k_is_in) (b_is_in := b_is_in) (G_listed := G_listed) (g_listed := g_listed) (k_listed := k_listed) (b_listed := b_listed)
  have G_law_told := ok_law_told (P := P) (w := w) (mg := mg) (base := base) (F := F_law_told) (T := T_told) (G_is_before := G_is_before) (g_is_before := g_is_before) (k_is_before := k_is_before) (b_is_before := b_is_before) (G_index_of := G_index_of) (g_index_of := g_index_of) (k_index_of := k_index_of) (b_index_of := b_index_of) (G_is_in := G_is_in) (g_is_in := g_is_in) (k_is_in := k_is_in) (b_is_in := b_is_in) (G_listed := G_listed) (g_listed := g_listed) (k_listed := k_listed) (b_listed := b_listed) (G_squares := G_squares) (g_squares := g_squares) (k_squares := k_squares) (b_squares := b_squares) (G_text_of := G_text_of) (g_text_of := g_text_of) (k_text_of := k_text_of) (b_text_of := b_text_of) (G_law_kind := G_law_kind) (g_law_kind := g_law_kind) (k_law_kind := k_law_kind) (b_law_kind := b_law_kind)
  have G_law_joined := ok_law_joined (P := P) (w := w) (mg := mg) (base := base) (F := F_law_joined) (z_min := z_min) (z_max := z_max)
  have G_law_threaded := ok_law_threaded (P := P) (w := w) (mg := mg) (base := base) (F := F_law_threaded) (z_int := z_int) (z_list := z_list) (z_range := z_range) (G_law_next := G_law_next) (g_law_next := g_law_next) (k_law_next := k_law_next) (b_law_next := b_law_next) (G_law_pick := G_law_pick) (g_law_pick := g_law_pick) (k_law_pick := k_law_pick) (b_law_pick := b_law_pick)
  have G_law_drawn := ok_law_drawn (P := P) (w := w) (mg := mg) (base := base) (F := F_law_drawn) (z_int := z_int) (z_list := z_list) (z_range := z_range) (z_len := z_len) (z_max := z_max) (G_law_next := G_law_next) (g_law_next := g_law_next) (k_law_next := k_law_next) (b_law_next := b_law_next) (G_law_pick := G_law_pick) (g_law_pick := g_law_pick) (k_law_pick := k_law_pick) (b_law_pick := b_law_pick) (G_law_from := G_law_from) (g_law_from := g_law_from) (k_law_from := k_law_from) (b_law_from := b_law_from) (G_law_threaded := G_law_threaded) (g_law_threaded := g_law_threaded) (k_law_threaded := k_law_threaded) (b_law_threaded := b_law_threaded) (G_law_joined := G_law_joined) (g_law_joined := g_law_joined) (k_law_joined := k_law_joined) (b_law_joined := b_law_joined)
  have G_law_shaped := ok_law_shaped (P := P) (w := w) (mg := mg) (base := base) (F := F_law_shaped) (z_int := z_int) (G_law_next := G_law_next) (g_law_next := g_law_next) (k_law_next := k_law_next) (b_law_next := b_law_next) (G_law_drawn := G_law_drawn) (g_law_drawn := g_law_drawn) (k_law_drawn := k_law_drawn) (b_law_drawn := b_law_drawn) (G_law_other_side := G_law_other_side) (g_law_other_side := g_law_other_side) (k_law_other_side := k_law_other_side) (b_law_other_side := b_law_other_side)
  exact ok_law (P := P) (w := w) (mg := mg) (base := base) (F := F_law) (z_int := z_int) (z_len := z_len) (z_sorted := z_sorted) (G_law_draws := G_law_draws) (g_law_draws := g_law_draws) (k_law_draws := k_law_draws) (b_law_draws := b_law_draws) (G_law_family := G_law_family) (g_law_family := g_law_family) (k_law_family := k_law_family) (b_law_family := b_law_family) (G_law_shaped := G_law_shaped) (g_law_shaped := g_law_shaped) (k_law_shaped := k_law_shaped) (b_law_shaped := b_law_shaped) (G_law_next := G_law_next) (g_law_next := g_law_next) (k_law_next := k_law_next) (b_law_next := b_law_next) (G_law_told := G_law_told) (g_law_told := g_law_told) (k_law_told := k_law_told) (b_law_told := b_law_told) (G_law_from := G_law_from) (g_law_from := g_law_from) (k_law_from := k_law_from) (b_law_from := b_law_from) (G_law_drawn := G_law_drawn) (g_law_drawn := g_law_drawn) (k_law_drawn := k_law_drawn) (b_law_drawn := b_law_drawn) (G_listed := G_listed) (g_listed := g_listed) (k_listed := k_listed) (b_listed := b_listed) (G_counted := G_counted) (g_counted := g_counted) (k_counted := k_counted) (b_counted := b_counted) (G_law_marks := G_law_marks) (g_law_marks := g_law_marks) (k_law_marks := k_law_marks) (b_law_marks := b_law_marks) (G_index_of := G_index_of) (g_index_of := g_index_of) (k_index_of := k_index_of) (b_index_of := b_index_of)
end T
open PySem PySem.W PyProof.Rows
set_option maxHeartbeats 0 in
theorem PySem.Challenge.cw_threadworth_k93_refusals_of_diagrams_holds : PySem.Challenge.rw_threadworth_k93_refusals_of_diagrams.Holds := by
  w_on; o_law; k_head; (case hw => w_witness2)
  k_fill
  refine L2.walk_ofG (l := PySem.Challenge.rw_threadworth_k93_refusals_of_diagrams) (n := 63) (k := 9) (x := "script") (sp := fun w => T.spLaw _) rfl (by decide) rfl ⟨rfl, by decide, by decide⟩ (fun w h Y => PySem.W.kIn_of Y) ?F (fun _ _ a ns hl hS => ⟨a, ns, rfl, hS, hl, fun _ => rfl⟩)
  case F =>
    intro w mg fa h KX G hmg
    refine' T.all_mk KX G hmg ?a_law_number ?l_law_number ?c_law_number ?k_law_number ?a_law_next ?l_law_next ?c_law_next ?k_law_next ?a_law_draws ?l_law_draws ?c_law_draws ?k_law_draws ?a_is_size_ ?l_is_size_ ?c_is_size_ ?k_is_size_ ?a_check_size_ ?l_check_size_ ?c_check_size_ ?k_check_size_ ?a_is_diagram ?l_is_diagram ?c_is_diagram ?k_is_diagram ?a_check_diagram ?l_check_diagram ?c_check_diagram ?k_check_diagram ?a_labels ?l_labels ?c_labels ?k_labels ?a_from_labels ?l_from_labels ?c_from_labels ?k_from_labels ?a_law_seen ?l_law_seen ?c_law_seen ?k_law_seen ?a_law_from ?l_law_from ?c_law_from ?k_law_from ?a_law_marks ?l_law_marks ?c_law_marks ?k_law_marks ?a_law_pick ?l_law_pick ?c_law_pick ?k_law_pick ?a_law_family ?l_law_family ?c_law_family ?k_law_family ?a_law_other_side ?l_law_other_side ?c_law_other_side ?k_law_other_side ?a_check_family ?l_check_family ?c_check_family ?k_check_family ?a_is_strand_ ?l_is_strand_ ?c_is_strand_ ?k_is_strand_ ?a_is_block_size_ ?l_is_block_size_ ?c_is_block_size_ ?k_is_block_size_ ?a_is_block_of_ ?l_is_block_of_ ?c_is_block_of_ ?k_is_block_of_ ?a_is_in ?l_is_in ?c_is_in ?k_is_in ?a_counted_by_last_ ?l_counted_by_last_ ?c_counted_by_last_ ?k_counted_by_last_ ?a_counted ?l_counted ?c_counted ?k_counted ?a_may_follow_ ?l_may_follow_ ?c_may_follow_ ?k_may_follow_ ?a_label_rows_ ?l_label_rows_ ?c_label_rows_ ?k_label_rows_ ?a_listed ?l_listed ?c_listed ?k_listed ?a_order_key_ ?l_order_key_ ?c_order_key_ ?k_order_key_ ?a_is_before ?l_is_before ?c_is_before ?k_is_before ?a_text_of ?l_text_of ?c_text_of ?k_text_of ?a_squares ?l_squares ?c_squares ?k_squares ?a_law_kind ?l_law_kind ?c_law_kind ?k_law_kind ?a_index_of ?l_index_of ?c_index_of ?k_index_of ?a_law_told ?l_law_told ?c_law_told ?k_law_told ?a_law_joined ?l_law_joined ?c_law_joined ?k_law_joined ?a_law_threaded ?l_law_threaded ?c_law_threaded ?k_law_threaded ?a_law_drawn ?l_law_drawn ?c_law_drawn ?k_law_drawn ?a_law_shaped ?l_law_shaped ?c_law_shaped ?k_law_shaped ?a_law ?l_law ?c_law ?k_law ?zn_int ?zn_range ?zn_len ?zn_list ?zn_tuple ?zn_max ?zn_min ?zn_all ?zn_sorted ?zn_isinstance ?zn_enumerate ?zn_sum ?zn_str ?n_BadNumber ?x_BadNumber ?kc_BadNumber ?bc_BadNumber ?tc_BadNumber ?n_NotDiagram ?x_NotDiagram ?kc_NotDiagram ?bc_NotDiagram ?tc_NotDiagram ?n_TooLarge ?x_TooLarge ?kc_TooLarge ?bc_TooLarge ?tc_TooLarge ?n_NotFamily ?x_NotFamily ?kc_NotFamily ?bc_NotFamily ?tc_NotFamily ?n_MOST_ON_A_SIDE ?n_MOST_POINTS ?n_MOST_LISTED ?n_LETTERS ?n_comb ?n_factorial ?n_FAMILIES ?l_FAMILIES ?n_WorthError ?ebc ?ehd ?ety ?hn_cls ?ht_cls ?hg_NotFamily ?hk_NotFamily ?hd_NotFamily ?ha_NotFamily ?hm_NotFamily ?sE_F ?hg_NotDiagram ?hk_NotDiagram ?hd_NotDiagram ?ha_NotDiagram ?hm_NotDiagram ?sE_D ?hg_BadNumber ?hk_BadNumber ?hd_BadNumber ?ha_BadNumber ?hm_BadNumber ?sE_B ?hg_TooLarge ?hk_TooLarge ?hd_TooLarge ?ha_TooLarge ?hm_TooLarge ?sE_T ?t_FF ?t_FD ?t_FB ?t_FT ?t_DF ?t_DD ?t_DB ?t_DT ?t_BF ?t_BD ?t_BB ?t_BT ?t_TF ?t_TD ?t_TB ?t_TT
    (case a_law_number => k_is); (case l_law_number => k_is); (case c_law_number => k_is); (case k_law_number => k_is); (case a_law_next => k_is); (case l_law_next => k_is); (case c_law_next => k_is); (case k_law_next => k_is)
    (case a_law_draws => k_is); (case l_law_draws => k_is); (case c_law_draws => k_is); (case k_law_draws => k_is); (case a_is_size_ => k_is); (case l_is_size_ => k_is); (case c_is_size_ => k_is); (case k_is_size_ => k_is)
    (case a_check_size_ => k_is); (case l_check_size_ => k_is); (case c_check_size_ => k_is); (case k_check_size_ => k_is); (case a_is_diagram => k_is); (case l_is_diagram => k_is); (case c_is_diagram => k_is); (case k_is_diagram => k_is)
    (case a_check_diagram => k_is); (case l_check_diagram => k_is); (case c_check_diagram => k_is); (case k_check_diagram => k_is); (case a_labels => k_is); (case l_labels => k_is); (case c_labels => k_is); (case k_labels => k_is)
    (case a_from_labels => k_is); (case l_from_labels => k_is); (case c_from_labels => k_is); (case k_from_labels => k_is); (case a_law_seen => k_is); (case l_law_seen => k_is); (case c_law_seen => k_is); (case k_law_seen => k_is)
    (case a_law_from => k_is); (case l_law_from => k_is); (case c_law_from => k_is); (case k_law_from => k_is); (case a_law_marks => k_is); (case l_law_marks => k_is); (case c_law_marks => k_is); (case k_law_marks => k_is)
    (case a_law_pick => k_is); (case l_law_pick => k_is); (case c_law_pick => k_is); (case k_law_pick => k_is); (case a_law_family => k_is); (case l_law_family => k_is); (case c_law_family => k_is); (case k_law_family => k_is)
    (case a_law_other_side => k_is); (case l_law_other_side => k_is); (case c_law_other_side => k_is); (case k_law_other_side => k_is); (case a_check_family => k_is); (case l_check_family => k_is); (case c_check_family => k_is); (case k_check_family => k_is)
    (case a_is_strand_ => k_is); (case l_is_strand_ => k_is); (case c_is_strand_ => k_is); (case k_is_strand_ => k_is); (case a_is_block_size_ => k_is); (case l_is_block_size_ => k_is); (case c_is_block_size_ => k_is); (case k_is_block_size_ => k_is)
    (case a_is_block_of_ => k_is); (case l_is_block_of_ => k_is); (case c_is_block_of_ => k_is); (case k_is_block_of_ => k_is); (case a_is_in => k_is); (case l_is_in => k_is); (case c_is_in => k_is); (case k_is_in => k_is)
    (case a_counted_by_last_ => k_is); (case l_counted_by_last_ => k_is); (case c_counted_by_last_ => k_is); (case k_counted_by_last_ => k_is); (case a_counted => k_is); (case l_counted => k_is); (case c_counted => k_is); (case k_counted => k_is)
    (case a_may_follow_ => k_is); (case l_may_follow_ => k_is); (case c_may_follow_ => k_is); (case k_may_follow_ => k_is); (case a_label_rows_ => k_is); (case l_label_rows_ => k_is); (case c_label_rows_ => k_is); (case k_label_rows_ => k_is)
    (case a_listed => k_is); (case l_listed => k_is); (case c_listed => k_is); (case k_listed => k_is); (case a_order_key_ => k_is); (case l_order_key_ => k_is); (case c_order_key_ => k_is); (case k_order_key_ => k_is)
    (case a_is_before => k_is); (case l_is_before => k_is); (case c_is_before => k_is); (case k_is_before => k_is); (case a_text_of => k_is); (case l_text_of => k_is); (case c_text_of => k_is); (case k_text_of => k_is)
    (case a_squares => k_is); (case l_squares => k_is); (case c_squares => k_is); (case k_squares => k_is); (case a_law_kind => k_is); (case l_law_kind => k_is); (case c_law_kind => k_is); (case k_law_kind => k_is)
    (case a_index_of => k_is); (case l_index_of => k_is); (case c_index_of => k_is); (case k_index_of => k_is); (case a_law_told => k_is); (case l_law_told => k_is); (case c_law_told => k_is); (case k_law_told => k_is)
    (case a_law_joined => k_is); (case l_law_joined => k_is); (case c_law_joined => k_is); (case k_law_joined => k_is); (case a_law_threaded => k_is); (case l_law_threaded => k_is); (case c_law_threaded => k_is); (case k_law_threaded => k_is)
    (case a_law_drawn => k_is); (case l_law_drawn => k_is); (case c_law_drawn => k_is); (case k_law_drawn => k_is); (case a_law_shaped => k_is); (case l_law_shaped => k_is); (case c_law_shaped => k_is); (case k_law_shaped => k_is)
    (case a_law => k_is); (case l_law => k_is); (case c_law => k_is); (case k_law => k_is); (case zn_int => k_is); (case zn_range => k_is); (case zn_len => k_is); (case zn_list => k_is)
    (case zn_tuple => k_is); (case zn_max => k_is); (case zn_min => k_is); (case zn_all => k_is); (case zn_sorted => k_is); (case zn_isinstance => k_is); (case zn_enumerate => k_is); (case zn_sum => k_is)
    (case zn_str => k_is); (case n_BadNumber => k_is); (case x_BadNumber => k_exc); (case kc_BadNumber => k_is); (case bc_BadNumber => k_is); (case tc_BadNumber => k_is); (case n_NotDiagram => k_is); (case x_NotDiagram => k_exc)
    (case kc_NotDiagram => k_is); (case bc_NotDiagram => k_is); (case tc_NotDiagram => k_is); (case n_TooLarge => k_is); (case x_TooLarge => k_exc); (case kc_TooLarge => k_is); (case bc_TooLarge => k_is); (case tc_TooLarge => k_is)
    (case n_NotFamily => k_is); (case x_NotFamily => k_exc); (case kc_NotFamily => k_is); (case bc_NotFamily => k_is); (case tc_NotFamily => k_is); (case n_MOST_ON_A_SIDE => k_is); (case n_MOST_POINTS => k_is); (case n_MOST_LISTED => k_is)
    (case n_LETTERS => k_is); (case n_comb => k_is); (case n_factorial => k_is); (case n_FAMILIES => k_is); (case l_FAMILIES => k_is); (case n_WorthError => k_is); (case ebc => k_is); (case ehd => k_is)
    (case ety => k_is); (case hn_cls => k_is); (case ht_cls => k_is); (case hg_NotFamily => k_is); (case hk_NotFamily => k_is); (case hd_NotFamily => k_is); (case ha_NotFamily => k_is); (case hm_NotFamily => k_is)
    (case sE_F => k_is); (case hg_NotDiagram => k_is); (case hk_NotDiagram => k_is); (case hd_NotDiagram => k_is); (case ha_NotDiagram => k_is); (case hm_NotDiagram => k_is); (case sE_D => k_is); (case hg_BadNumber => k_is)
    (case hk_BadNumber => k_is); (case hd_BadNumber => k_is); (case ha_BadNumber => k_is); (case hm_BadNumber => k_is); (case sE_B => k_is); (case hg_TooLarge => k_is); (case hk_TooLarge => k_is); (case hd_TooLarge => k_is)
    (case ha_TooLarge => k_is); (case hm_TooLarge => k_is); (case sE_T => k_is); (case t_FF => kit_is); (case t_FD => kit_is); (case t_FB => kit_is); (case t_FT => kit_is); (case t_DF => kit_is)
    (case t_DD => kit_is); (case t_DB => kit_is); (case t_DT => kit_is); (case t_BF => kit_is); (case t_BD => kit_is); (case t_BB => kit_is); (case t_BT => kit_is); (case t_TF => kit_is)
    (case t_TD => kit_is); (case t_TB => kit_is); (case t_TT => kit_is)
