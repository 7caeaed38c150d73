import PyProof.Rows.All
import Wide.All
import OpenK.AllK
import Wide.FinOn
import PyProof.EqAt
import PyProof.EqKinds
import PyProof.TupleCall
import HandS.ForExc
import HandS.Comp
import HandS.Iter
import HandS.Gcd
import HandS.Wide
import HandS.Evl
import HandS.Defaults
import HandS.ExcIs
import HandS.TupAny
import HandS.TupMul
import HandS.Walk
import HandS.Rev
import HandS.TupAny
import HandS.TupMul
import HandS.Style
import HandS.Deep
import HandS.Dict
import HandS.ForMost
import HandS.Conv
import HandS.Sort
import HandS.SortInts
import HandS.NoneIn
import KE.DatumOrd
import HandS.IsInst
import HandS.TupSets
import HandS.Zip
import PyProof.ReprRoads
import PyProof.ReprLen
import PyProof.CallFns
import PyProof.Rows.RegStrFacts
import HandS.List
import KE.LtData
import KE.KDictList
import KE.GoesMore
import KE.DataMinMax
import HandS.CallLocal
import HandS.HotCalls
import HandS.ExcCtx
import HandS.Words
import PyProof.Seq
import HandS.SortRule
import KE.SortData
import HandS.ListItems
import HandS.DictTup
import KE.KDictZip
import PySem.Challenge.RW_threadworth_k82_whole_diagrams_that_lead
set_option Elab.async false
set_option linter.all false
set_option maxRecDepth 100000
set_option maxHeartbeats 4000000
namespace T
open PySem PySem.Spec PyProof.Rows L2
/-! ### the mathematics of worlds and numbers -/
def primes : List Int := [2, 3, 5, 7, 11, 13, 17, 19, 23, 29, 31]
def isW (p d : Int) : Bool := if p = 0 then (if -20 ≤ d then decide (d ≤ 20) else false) else (if inV (.int p) (primes.map V.int) = true then (if 0 ≤ d then decide (d < p) else false) else false)
theorem inV_ints {p : Int} : ∀ {l : List Int}, inV (.int p) (l.map V.int) = true → p ∈ l
  | [], h => by cases h
  | x :: l, h => by
    have h1 : ((eqV (.int x) (.int p)) || inV (.int p) (l.map V.int)) = true := h
    rcases (Bool.or_eq_true _ _).mp h1 with h | h
    · have : x = p := of_decide_eq_true (show decide (x = p) = true by simpa [eqV] using h)
      rw [this]
      exact List.mem_cons_self
    · exact List.mem_cons_of_mem _ (inV_ints h)
theorem isW_prime {p d : Int} (h : isW p d = true) (hp : p ≠ 0) : p ∈ primes ∧ 0 ≤ d ∧ d < p := by
  unfold isW at h
  rw [if_neg hp] at h
  by_cases e : inV (.int p) (primes.map V.int) = true
  · rw [if_pos e] at h
    by_cases e2 : 0 ≤ d
    · rw [if_pos e2] at h
      exact ⟨inV_ints e, e2, of_decide_eq_true h⟩
    · rw [if_neg e2] at h
      cases h
  · rw [if_neg e] at h
    cases h
theorem prime_pos {p : Int} (h : p ∈ primes) : 2 ≤ p ∧ p ≤ 31 := by
  simp only [primes, List.mem_cons, List.not_mem_nil, or_false] at h
  omega
theorem inv_exN : ∀ p ∈ [2, 3, 5, 7, 11, 13, 17, 19, 23, 29, 31], ∀ r, r < p → r ≠ 0 → ∃ k, k < p ∧ (k * r) % p = 1 := by decide +kernel
theorem inv_ex {p : Int} (hp : p ∈ primes) {r : Int} (h0 : 0 ≤ r) (h1 : r < p) (hr : r ≠ 0) : ∃ k : Int, 1 ≤ k ∧ k < p ∧ k * r % p = 1 := by
  obtain ⟨n, rfl⟩ := Int.eq_ofNat_of_zero_le (show 0 ≤ p by have := prime_pos hp; omega)
  obtain ⟨m, rfl⟩ := Int.eq_ofNat_of_zero_le h0
  have hn : n ∈ [2, 3, 5, 7, 11, 13, 17, 19, 23, 29, 31] := by
    simp only [primes, List.mem_cons, List.not_mem_nil, or_false] at hp ⊢
    omega
  obtain ⟨k, hk, e⟩ := inv_exN n hn m (by omega) (by omega)
  refine ⟨(k : Int), ?_, by omega, ?_⟩
  · rcases Nat.eq_zero_or_pos k with z | z
    · subst z
      rw [Nat.zero_mul, Nat.zero_mod] at e
      cases e
    · omega
  · have : ((k * m % n : Nat) : Int) = ((1 : Nat) : Int) := by rw [e]
    rw [← Int.natCast_mul, ← Int.natCast_emod, e]
    rfl
/-- lowest terms -/
def gI (a b : Int) : Int := ((Nat.gcd a.natAbs b.natAbs : Nat) : Int)
def low (a b : Int) : Int × Int := if b < 0 then ((-a) / gI a b, (-b) / gI a b) else (a / gI a b, b / gI a b)
theorem gI_pos {a b : Int} (hb : b ≠ 0) : 0 < gI a b := by
  have : 0 < Nat.gcd a.natAbs b.natAbs := Nat.gcd_pos_of_pos_right _ (by omega)
  unfold gI
  omega
theorem gI_le {a b : Int} (hb : b ≠ 0) : gI a b ≤ b.natAbs := by
  have := Nat.gcd_le_right (m := a.natAbs) (n := b.natAbs) (by omega)
  unfold gI
  omega
theorem fdiv_negg (a g : Int) (hg : 0 ≤ g) : a.fdiv (-g) = (-a) / g := by
  rw [← Int.fdiv_eq_ediv_of_nonneg _ hg, ← Int.neg_fdiv_neg (-a) g, Int.neg_neg]
/-- the number a / b -/
def bad (p b : Int) : Prop := b = 0 ∨ (0 < p ∧ b % p = 0)
def IsNum (p a b x y : Int) : Prop := (0 < p ∧ y = 1 ∧ 0 ≤ x ∧ x < p ∧ (x * b - a) % p = 0) ∨ (¬ 0 < p ∧ (x, y) = low a b)
theorem inv_solves {p a b k : Int} (hp : 0 < p) (e : k * (b % p) % p = 1) (h1 : 1 < p) : ((a * k % p) * b - a) % p = 0 := by
  have e1 : (k * b) % p = 1 := by
    rw [Int.mul_emod, Int.emod_emod_of_dvd _ (Int.dvd_refl p), ← Int.mul_emod] at e
    exact e
  have d1 : p ∣ k * b - 1 := by
    apply Int.dvd_of_emod_eq_zero
    rw [Int.sub_emod, e1, Int.emod_eq_of_lt (by omega) h1]
    simp
  have d2 : p ∣ a * k - a * k % p := Int.dvd_self_sub_emod
  apply Int.emod_eq_zero_of_dvd
  have : (a * k % p) * b - a = a * (k * b - 1) - (a * k - a * k % p) * b := by
    rw [Int.mul_sub, Int.sub_mul, Int.mul_assoc]
    omega
  rw [this]
  exact Int.dvd_sub (Int.dvd_mul_of_dvd_right d1) (Int.dvd_mul_of_dvd_left d2)
theorem num_unique {p a b x y x' y' : Int} (hp : p = 0 ∨ p ∈ primes) (hb : ¬ bad p b) (h : IsNum p a b x y) (h' : IsNum p a b x' y') : x = x' ∧ y = y' := by
  rcases h with ⟨h0, e1, l1, u1, m1⟩ | ⟨h0, e1⟩
  · rcases h' with ⟨_, e2, l2, u2, m2⟩ | ⟨h0', _⟩
    · refine ⟨?_, e1.trans e2.symm⟩
      rcases hp with rfl | hp
      · omega
      · have hp2 := prime_pos hp
        have hbp : b % p ≠ 0 := fun z => hb (.inr ⟨h0, z⟩)
        obtain ⟨k, k1, k2, ek⟩ := inv_ex hp (Int.emod_nonneg b (by omega)) (Int.emod_lt_of_pos b h0) hbp
        have e1 : (k * b) % p = 1 := by
          rw [Int.mul_emod, Int.emod_emod_of_dvd _ (Int.dvd_refl p), ← Int.mul_emod] at ek
          exact ek
        have d1 : p ∣ k * b - 1 := by
          apply Int.dvd_of_emod_eq_zero
          rw [Int.sub_emod, e1, Int.emod_eq_of_lt (show (0:Int) ≤ 1 by omega) (show (1:Int) < p by omega)]
          simp
        have d2 : p ∣ (x * b - a) - (x' * b - a) := Int.dvd_sub (Int.dvd_of_emod_eq_zero m1) (Int.dvd_of_emod_eq_zero m2)
        have d3 : p ∣ x - x' := by
          have e : x - x' = k * ((x * b - a) - (x' * b - a)) - (x - x') * (k * b - 1) := by
            have e3 : (x * b - a) - (x' * b - a) = (x - x') * b := by
              rw [Int.sub_mul]
              omega
            rw [e3, Int.mul_sub, Int.mul_one, ← Int.mul_assoc, Int.mul_comm k (x - x'), Int.mul_assoc]
            omega
          rw [e]
          exact Int.dvd_sub (Int.dvd_mul_of_dvd_right d2) (Int.dvd_mul_of_dvd_right d1)
        obtain ⟨c, ec⟩ := d3
        have hc : c = 0 := by
          rcases Int.lt_trichotomy c 0 with z | z | z
          · have : p * c ≤ p * (-1) := Int.mul_le_mul_of_nonneg_left (by omega) (by omega)
            omega
          · exact z
          · have : p * 1 ≤ p * c := Int.mul_le_mul_of_nonneg_left (by omega) (by omega)
            omega
        rw [hc, Int.mul_zero] at ec
        omega
    · exact absurd h0 h0'
  · rcases h' with ⟨h0', _⟩ | ⟨_, e2⟩
    · exact absurd h0' h0
    · have := e1.trans e2.symm
      exact ⟨congrArg Prod.fst this, congrArg Prod.snd this⟩
end T

/-! ### defs that are called where nothing is being shown (no repr is under way): what the law's own def may know -/
namespace L2
open PySem PySem.Spec PyProof.Rows
structure FnG (P : Program) (w : World) (K : PySem.W.Frag) (mg : Str → Option Value) (base : Heap) (k : Nat) (f : Addr) (fd : FuncData) (ps : List Str) (sp : Sp) : Prop where
  len : ∀ vs H Q E, sp vs H Q E → vs.length = ps.length
  run : ∀ (A : Around) (outer : List Env) (s : Shared) (H : Hp) (args : Args) (us : List Value) (vs : List V) (Q : VK) (E : XK), A.guards = some [] → Room k A → Env0 P w K mg base A outer s H →
    BindsTo s fd args (ps.zip us) → Vals vs us → sp vs H Q E → codeAny (model P w) A (.call (.ref f) args) (CR CX0 outer P w H s Q E) s
theorem CE_of {P : Program} {w : World} {K : PySem.W.Frag} {mg : Str → Option Value} {base : Heap} {N : List Str} {qual : Str} {scope : Scope} {f : Addr} {cdv : Value} {A : Around} {outer : List Env} {s s' : Shared} {H H' : Hp} {E : XK} {Q : VK} {σ' : St} {v : V} {u : Value}
    (J : Inv (cxOf CX0 P w K mg base N qual scope f cdv A outer s H E) [] σ' H' s') (rv : RelV v u) (q : Q v H') : CE outer P w H s Q u s' := ⟨v, H', J.os, J.bare, J.base, J.hok, rv, q⟩
theorem Fun.okG {P : Program} {w : World} {K : PySem.W.Frag} {mg : Str → Option Value} {base : Heap} {x qual : Str} {st : Stmt} {f : Addr} {fd : FuncData} {N ps : List Str} {k : Nat} {sp : Sp} (F : Fun K x qual st f fd) (S : FnScope N ps (defScope st))
    (len : ∀ vs H Q E, sp vs H Q E → vs.length = ps.length)
    (hbody : ∀ (cdv : Value) (A : Around) (outer : List Env) (s : Shared) (H : Hp) (vs : List V) (Q : VK) (E : XK), (A.deeper (envOfC qual (defScope st) s.heap.objs.size f cdv)).guards = some [] →
      Room k (A.deeper (envOfC qual (defScope st) s.heap.objs.size f cdv)) → sp vs H Q E →
      ∃ t, PSs (cxOf CX0 P w K mg base N qual (defScope st) f cdv A outer s H E).nox (defBody st) t ∧ t { nx := fun _ H' => Q .non H', rt := Q } (start N vs) H) : FnG P w K mg base (k + 1) f fd ps sp := by
  obtain ⟨oc, od, kV, doc, pm, an, cdv, ct, osl, rfl, lk, hcd⟩ := F.ex
  refine ⟨len, fun A outer s H args us vs Q E hgu hr e0 hb r hsp => ?_⟩
  have keep := fun b o (e : base.get? b = some o) => (e0.bs b o e).1
  have inK : K.In s.heap := e0.mod.kin.keeps keep
  refine codeAny_call_function hr.depth (inK _ _ lk) rfl S.co S.gen rfl (PySem.W.codeRec_of inK hcd) (hb _ _ _ _ ?_)
  refine wpAny_newFunctionEnv_cells S.kind (fun ⟨n, v⟩ hy => ?_) fun env he s1 xx => ?_
  · exact (S.par n (List.of_mem_zip hy).1).elim .inl fun q => .inr ⟨q, PySem.W.cellsFrom_some _ _ _ (.inl q)⟩
  · subst he
    refine ⟨(e0.mod.nolimit.keeps keep).keeps xx.toInCall.keep, codeAny_func ?_⟩
    obtain ⟨t, ht, hq⟩ := hbody cdv A outer s H vs Q E hgu (hr.deeper _) hsp
    have I := inv_start (CX := CX0) (E := E) S hr.hd e0 (len _ _ _ _ hsp) r xx
    refine wpAny_mono (ht.nox.run [] s1 _ H _ I hq) (fun fl s' hs => ?_) fun e s' hs => hs
    rcases fl with _ | _ | _ | u
    · obtain ⟨σ', H', J, q⟩ := hs
      exact CE_of (v := V.non) (u := Value.none) J rfl q
    · exact hs.elim fun _ z => z.elim fun _ z => z.2.elim
    · exact hs.elim fun _ z => z.elim fun _ z => z.2.elim
    · obtain ⟨v, σ', H', J, rv, q⟩ := hs
      exact CE_of J rv q
end L2

namespace L2
open PySem PySem.Spec PyProof.Rows
/-- the law's def, called by the claim's caller: nothing is being shown there -/
theorem goes_at {P : Program} {w : World} {K : PySem.W.Frag} {mg mb : Str → Option Value} {k : Nat} {fa a : Addr} {fd : FuncData} {x : Str} {sp : Sp} {t : Shared} {vs : List Value} {xs : List V} {H : Hp}
    (KX : K.In t.heap) (hns : t.heap.Ns mainGlobals mg) (hb : t.heap.Ns builtinsNs mb) (hbb : ∀ y : Str, y ≠ "__name__" → mb y = bootBuiltins y) (hlim : t.heap.NoLimit) (hg : t.gens = #[])
    (ha : t.heap.get? a = some { cls := .type "list", data := .seq vs.toArray }) (hr : Room k callerA)
    (F : ∀ base : Heap, K.In base → base.Ns mainGlobals mg → FnG P w K mg base k fa fd [x] sp) (hbind : ∀ (s : Shared) (u : Value), BindsTo s fd ⟨[u], []⟩ [(x, u)])
    (hO : Only H) (hsp : sp [.ref a] H (fun v _ => v = .bl true) fun _ _ _ => False) (hok : HOk P w H t.heap) (hA : ∀ b, H b ≠ none → b = a) (hK : H a ≠ none → K.lookup a = none) :
    codeAny (model P w) callerA (.call (.ref fa) ⟨[.ref a], []⟩) (fun r s' => r = .ok (.ret (.bool true)) ∧ OldK t.heap s'.heap ∧ s'.os = t.os ∧ AllBare s'.gens) t := by
  have free : ∀ {b : Addr}, (H b ≠ none → False) → H b = none := fun {b} z => by
    rcases e : H b with _ | u
    · rfl
    · exact (z (by rw [e]; exact fun q => nomatch q)).elim
  have ns : ∀ {b : Addr} {m : Str → Option Value}, t.heap.Ns b m → (hidT t.heap H).Ns b m := fun {b m} z => by
    obtain ⟨o, es, ep, e, d, r⟩ := z
    refine ⟨o, es, ep, hidT_get e (free fun z => ?_), d, r⟩
    rw [hA b z, ha] at e
    cases e
    cases d
  have inB : K.In (hidT t.heap H) := fun b o e => hidT_get (KX b o e) (free fun z => by
    have eb := hA b z
    rw [eb] at z e
    rw [hK z] at e
    cases e)
  obtain ⟨mc, l1, l2⟩ := hlim
  have env : Env0 P w K mg (hidT t.heap H) callerA [] t H := ⟨rfl, ⟨inB, ns hns, ⟨mb, ns hb, hbb⟩, ⟨mc, ns l1, l2⟩⟩, fun b o e => of_hidT e, Nat.le_of_eq (hidT_size _ _), trivial, fun b hb => (nomatch hb), hok, .of_eq hg⟩
  refine codeAny_mono ((F _ inB (ns hns)).run callerA [] t H _ [.ref a] [.ref a] _ _ rfl hr env (hbind t (.ref a)) (.cons rfl .nil) hsp) fun r s' h => ?_
  rcases r with e | fl
  · exact (show False from h).elim
  · rcases fl with _ | _ | _ | u
    · exact (show False from h).elim
    · exact (show False from h).elim
    · exact (show False from h).elim
    · obtain ⟨v, H', os, bare, un, hok', rv, q⟩ := h
      obtain rfl : v = .bl true := q
      obtain rfl : u = Value.bool true := rv
      refine ⟨rfl, OldK.of_keep fun b o e => ?_, os, bare⟩
      rcases hO b with z | ⟨ob, ys, z⟩
      · exact un.keep b o e z (fun z => nomatch z) (fun z => nomatch z)
      · have e1 := (hok b _ z).1
        rw [e] at e1
        rw [Option.some.inj e1]
        exact (hok' b _ (un.frzs b ob _ z)).1
theorem walk_ofG {l : PySem.W.OpenLaw} {n k : Nat} {q : Program} {loose : List Str} {XP : (Str → Option Value) → Heap → Prop} {YP : World → Heap → Prop} {d : DefRec} {K : Params → PySem.W.Frag} {sp : World → Sp} {x : Str}
    (hn : l.most = some n) (hn2 : n ≤ sizeLine) (hdf : d.params.defaults = []) (hr : Room k callerA) (hY : ∀ (w : World) (h : Heap), YP w h → (K w.params).In h)
    (F : ∀ (w : World) (mg : Str → Option Value) (fa : Addr) (h : Heap), (K w.params).In h → h.Ns mainGlobals mg → mg d.name = some (.ref fa) →
      ∃ fd : FuncData, (∀ (s : Shared) (u : Value), BindsTo s fd ⟨[u], []⟩ [(x, u)]) ∧ ∀ base : Heap, (K w.params).In base → base.Ns mainGlobals mg → FnG l.prog w (K w.params) mg base k fa fd [x] (sp w))
    (hsp : ∀ (w : World) (H : Hp) (a : Addr) (ns : List Int), ns.length ≤ n → SqL (K w.params) H a (ns.map V.int) → sp w [.ref a] H (fun v _ => v = .bl true) fun _ _ _ => False) :
    PySem.W.WalkO q loose XP YP l.row.toRowW d [] (fun f vs => PySem.call f vs) := by
  refine Att.attach_call hn hdf fun w s₀ t mg mb fa o pm cd doc a vs ns G Y ho hd hcd hmg hobj hints hlen hg => ?_
  have KX := hY w _ Y
  obtain ⟨fd, hb, hF⟩ := F w mg fa _ KX G.T.g hmg
  have rv : Vals (ns.map V.int) vs := vals_ints hints
  have lv := hints.length
  rcases hk : (K w.params).lookup a with _ | oa
  · refine goes_at (xs := ns.map V.int) (H := fun b => if b = a then some (.frz { cls := .type "list", data := .seq vs.toArray } (.lst (ns.map V.int))) else none) KX G.T.g G.T.b G.T.builtins G.T.nolimit hg hobj hr hF hb
      (fun b => ?_) (hsp w _ a ns hlen (.inl (.inr ⟨_, if_pos rfl⟩))) (fun b u z => ?_) (fun b z => Decidable.byContradiction fun c => z (if_neg c)) fun _ => hk
    · by_cases c : b = a
      · exact .inr ⟨_, _, if_pos c⟩
      · exact .inl (if_neg c)
    · by_cases c : b = a
      · have z' := (if_pos c).symm.trans z
        cases z'
        subst c
        exact ⟨hobj, by rw [List.length_map]; omega, vs, _, rv, hobj⟩
      · have z' := (if_neg c).symm.trans z
        cases z'
  · have e := (KX a oa hk).symm.trans hobj
    cases e
    exact goes_at (xs := ns.map V.int) (H := fun _ => none) KX G.T.g G.T.b G.T.builtins G.T.nolimit hg hobj hr hF hb (fun _ => .inl rfl)
      (hsp w _ a ns hlen (.inr ⟨_, vs.toArray, _, hk, rfl, rfl, rfl, by rw [List.size_toArray]; omega, rv⟩)) (fun b u z => nomatch z) (fun b z => (z rfl).elim) fun z => (z rfl).elim
end L2

namespace L2
open PySem PySem.Spec PyProof.Rows
/-! ### repr(data), where nothing is being shown -/
mutual
def wt : PyData → Nat
  | .none => 4
  | .bool _ => 5
  | .int _ => 1921
  | .str x => (reprText x).length
  | .list xs => wtAll xs + 3
  | .tuple xs => wtAll xs + 3
  | .dict _ => 0
def wtAll : List PyData → Nat
  | [] => 0
  | x :: xs => wt x + 2 + wtAll xs
end
mutual
theorem shown_wt : ∀ d : PyData, d.showable = true → d.hasDict = false → d.shown.length ≤ wt d
  | .none, _, _ => by simp only [PyData.shown, wt]; decide +kernel
  | .bool b, _, _ => by cases b <;> simp only [PyData.shown, wt] <;> decide +kernel
  | .int i, h, _ => by
    simp only [PyData.shown, wt]
    exact int_text_len_1921 (by simpa [PyData.showable] using h)
  | .str x, _, _ => by simp only [PyData.shown, wt]; exact Nat.le_refl _
  | .list xs, h, h2 => by
    simp only [PyData.showable] at h
    simp only [PyData.hasDict] at h2
    simp only [PyData.shown, wt]
    have h3 := shown_wtAll xs h h2
    have h4 := listText_len_le (PyData.shownAll xs)
    omega
  | .tuple xs, h, h2 => by
    simp only [PyData.showable] at h
    simp only [PyData.hasDict] at h2
    simp only [PyData.shown, wt]
    have h3 := shown_wtAll xs h h2
    have h4 := tupleText_len_le (PyData.shownAll xs)
    omega
  | .dict _, _, h2 => by simp [PyData.hasDict] at h2
theorem shown_wtAll : ∀ xs : List PyData, PyData.showableAll xs = true → PyData.hasDictAll xs = false → ((PyData.shownAll xs).map (·.length)).sum + 2 * (PyData.shownAll xs).length ≤ wtAll xs
  | [], _, _ => by simp [PyData.shownAll, wtAll]
  | x :: xs, h, h2 => by
    simp only [PyData.showableAll, Bool.and_eq_true] at h
    simp only [PyData.hasDictAll, Bool.or_eq_false_iff] at h2
    have h3 := shown_wt x h.1 h2.1
    have h4 := shown_wtAll xs h.2 h2.2
    simp only [PyData.shownAll, wtAll, List.map_cons, List.sum_cons, List.length_cons]
    omega
end
def rReprD (K : PySem.W.Frag) : List V → Hp → VK → Prop := fun xs H Q => ∃ x d, xs = [x] ∧ Dp K H x d ∧ SeqAt.shaped d = true ∧ d.showable = true ∧ wt d ≤ sizeLine ∧ Q (.str d.shown) H
theorem cr_reprD {X : Cx} (hg : X.A.guards = some []) (hu : X.A.units + 65 < cLine) : CallR X (.builtin "repr") (rReprD X.K) := by
  intro pins s σ H vs us Q I r h
  obtain ⟨x, d, rfl, hd, hs, hw, hz, q⟩ := h
  cases r with
  | cons rv rn =>
    rename_i v us'
    cases rn
    have hs' : (d.canLay0 && decide (d.depth ≤ 64)) = true := hs
    rw [Bool.and_eq_true] at hs'
    have nd := PyData.hasDict_of_canLay d hs'.1
    have dep : d.depth ≤ 64 := of_decide_eq_true hs'.2
    have sz := Nat.le_trans (shown_wt d hw nd) hz
    obtain ⟨as, rd⟩ := Dp.reads I d x v hd rv
    have ref : ∀ a : Addr, v = .ref a → wpAny (model X.prog X.w) X.A (call (.builtin "repr") [v]) (EP X pins σ Q) X.xe s := fun a e => by
      subst e
      exact repr_of_reads' rd hw (PyData.noDict_hsm nd) hg (by omega) (fun _ _ e => e) (fun h' u tk hk => ⟨.str _, H, I.kept (t' := tk) hk, ⟨u, rfl⟩, q⟩) sz
    cases hd with
    | non =>
      cases rv
      exact PySem.P.repr_of_none ⟨.str _, H, I.tok _, ⟨_, rfl⟩, by simpa only [PyData.shown] using q⟩
    | bl b =>
      cases rv
      exact PySem.P.repr_of_bool ⟨.str _, H, I.tok _, ⟨_, rfl⟩, by simpa only [PyData.shown] using q⟩
    | int i =>
      obtain ⟨t, rfl⟩ := rv
      exact PySem.P.repr_of_int (by simpa [PyData.showable] using hw) ⟨.str _, H, I.tok _, ⟨_, rfl⟩, by simpa only [PyData.shown] using q⟩
    | str y =>
      obtain ⟨t, rfl⟩ := rv
      exact PySem.P.repr_of_str ⟨.str _, H, I.tok _, ⟨_, rfl⟩, by simpa only [PyData.shown] using q⟩ (by simpa only [PyData.shown] using sz)
    | lst _ _ => exact ref _ rv
    | tup _ _ => exact ref _ rv
end L2

namespace T
/-! ### fractions -/
theorem low_pos {a : Int} {n : Nat} (hn : n ≠ 0) : low a (n : Int) = ((Rat.divInt a (n : Int)).num, ((Rat.divInt a (n : Int)).den : Int)) := by
  have e : Rat.divInt a (n : Int) = Rat.normalize a n hn := by
    show mkRat a n = _
    rw [Rat.mkRat_def, dif_neg hn]
  rw [e, Rat.normalize_eq]
  unfold low gI
  rw [if_neg (by omega), Int.natAbs_natCast]
  show (_, _) = (_, (((n / a.natAbs.gcd n : Nat)) : Int))
  rw [Int.natCast_ediv]
theorem low_rat {a b : Int} (hb : b ≠ 0) : low a b = ((Rat.divInt a b).num, ((Rat.divInt a b).den : Int)) := by
  by_cases c : 0 < b
  · obtain ⟨n, rfl⟩ := Int.eq_ofNat_of_zero_le (Int.le_of_lt c)
    exact low_pos (by omega)
  · obtain ⟨n, hn⟩ := Int.eq_ofNat_of_zero_le (show 0 ≤ -b by omega)
    have e : Rat.divInt a b = Rat.divInt (-a) (n : Int) := (Rat.divInt_eq_divInt_iff hb (by omega)).mpr (by rw [← hn, Int.mul_neg, Int.neg_mul])
    rw [e, ← low_pos (by omega), ← hn]
    unfold low gI
    rw [if_pos (by omega), if_neg (by omega), Int.natAbs_neg, Int.natAbs_neg]
theorem low_congr {a b a' b' : Int} (hb : b ≠ 0) (hb' : b' ≠ 0) (h : a * b' = a' * b) : low a b = low a' b' := by
  rw [low_rat hb, low_rat hb', (Rat.divInt_eq_divInt_iff hb hb').mpr h]
theorem low_q {a b u v : Int} (hb : b ≠ 0) (h : (u, v) = low a b) : Rat.divInt u v = Rat.divInt a b ∧ 0 < v := by
  rw [low_rat hb] at h
  have e1 : u = (Rat.divInt a b).num := congrArg Prod.fst h
  have e2 : v = ((Rat.divInt a b).den : Int) := congrArg Prod.snd h
  rw [e1, e2]
  exact ⟨Rat.num_divInt_den _, by have := (Rat.divInt a b).den_pos; omega⟩
theorem low_cross {a b u v : Int} (hb : b ≠ 0) (h : (u, v) = low a b) : u * b = a * v ∧ 0 < v := by
  obtain ⟨h1, h2⟩ := low_q hb h
  exact ⟨(Rat.divInt_eq_divInt_iff (by omega) hb).mp h1, h2⟩
/-- a number times a number: the parts may be reduced ahead or behind -/
theorem num_step {p A B u v a b u' v' : Int} (hp : p = 0 ∨ p ∈ primes) (hB : p = 0 → B ≠ 0) (hb0 : p = 0 → b ≠ 0) (hb1 : p ≠ 0 → b = 1) (hB1 : p ≠ 0 → B = 1) (h : IsNum p A B u v) (h' : IsNum p (u * a) (v * b) u' v') : IsNum p (A * a) (B * b) u' v' := by
  by_cases c : p = 0
  · obtain ⟨_, e⟩ := h.resolve_left (fun z => by omega)
    obtain ⟨_, e'⟩ := h'.resolve_left (fun z => by omega)
    obtain ⟨x1, x2⟩ := low_cross (hB c) e
    refine .inr ⟨by omega, e'.trans (low_congr (Int.mul_ne_zero (by omega) (hb0 c)) (Int.mul_ne_zero (hB c) (hb0 c)) ?_)⟩
    calc u * a * (B * b) = u * B * (a * b) := by rw [Int.mul_assoc, Int.mul_assoc]; congr 1; rw [← Int.mul_assoc, ← Int.mul_assoc, Int.mul_comm a B]
      _ = A * v * (a * b) := by rw [x1]
      _ = A * a * (v * b) := by rw [Int.mul_assoc, Int.mul_assoc]; congr 1; rw [← Int.mul_assoc, ← Int.mul_assoc, Int.mul_comm v a]
  · have hp2 := prime_pos (hp.resolve_left c)
    obtain ⟨h0, e1, l1, u1, m1⟩ := h.resolve_right (fun z => by omega)
    obtain ⟨_, e2, l2, u2, m2⟩ := h'.resolve_right (fun z => by omega)
    refine .inl ⟨h0, e2, l2, u2, ?_⟩
    rw [hB1 c, hb1 c]
    rw [hB1 c, Int.mul_one] at m1
    rw [hb1 c, e1] at m2
    have d1 := Int.dvd_of_emod_eq_zero m1
    have d2 := Int.dvd_of_emod_eq_zero m2
    apply Int.emod_eq_zero_of_dvd
    have e : u' * (1 * 1) - A * a = (u' * (1 * 1) - u * a) + (u - A) * a := by
      rw [Int.sub_mul]
      omega
    rw [e]
    exact Int.dvd_add d2 (Int.dvd_mul_of_dvd_left d1)
theorem low_small {a b u v : Int} (h : (u, v) = low a b) : u.natAbs ≤ a.natAbs ∧ v.natAbs ≤ b.natAbs := by
  have e1 := congrArg Prod.fst h
  have e2 := congrArg Prod.snd h
  unfold low at e1 e2
  by_cases c : b < 0
  · rw [if_pos c] at e1 e2
    have f1 : u = (-a) / gI a b := e1
    have f2 : v = (-b) / gI a b := e2
    have g1 := Int.natAbs_ediv_le_natAbs (-a) (gI a b)
    have g2 := Int.natAbs_ediv_le_natAbs (-b) (gI a b)
    rw [f1, f2]
    omega
  · rw [if_neg c] at e1 e2
    have f1 : u = a / gI a b := e1
    have f2 : v = b / gI a b := e2
    have g1 := Int.natAbs_ediv_le_natAbs a (gI a b)
    have g2 := Int.natAbs_ediv_le_natAbs b (gI a b)
    rw [f1, f2]
    omega
theorem num_small {p a b u v : Int} (hp : p = 0 ∨ p ∈ primes) (h : IsNum p a b u v) (ha : a.natAbs < 2 ^ 199) (hb : b.natAbs < 2 ^ 199) : u.natAbs < 2 ^ 200 ∧ v.natAbs < 2 ^ 200 := by
  rcases h with ⟨h0, rfl, h1, h2, _⟩ | ⟨_, h⟩
  · have := prime_pos (hp.resolve_left (by omega))
    omega
  · have := low_small h
    omega
theorem isW_cases {p d : Int} (hw : isW p d = true) : (p = 0 ∨ p ∈ primes) ∧ d.natAbs ≤ 31 := by
  by_cases c : p = 0
  · refine ⟨.inl c, ?_⟩
    unfold isW at hw
    rw [if_pos c] at hw
    by_cases h1 : -20 ≤ d
    · rw [if_pos h1] at hw
      have := of_decide_eq_true hw
      omega
    · rw [if_neg h1] at hw
      cases hw
  · obtain ⟨h1, h2, h3⟩ := isW_prime hw c
    have := prime_pos h1
    exact ⟨.inr h1, by omega⟩
end T

namespace T
open PySem PySem.Spec PyProof.Rows L2
/-! ### lists of integers as polynomials -/
def co (l : List Int) (k : Nat) : Int := l.getD k 0
theorem co_ge {l : List Int} {k : Nat} (h : l.length ≤ k) : co l k = 0 := by
  unfold co
  rw [List.getD_eq_getElem?_getD, List.getElem?_eq_none h]
  rfl
theorem co_get {l : List Int} {k : Nat} (h : k < l.length) : l[k]? = some (co l k) := by
  unfold co
  rw [List.getD_eq_getElem?_getD, List.getElem?_eq_getElem h]
  rfl
theorem co_mem {l : List Int} {k : Nat} (h : k < l.length) : co l k ∈ l := by
  have e := co_get h
  exact List.mem_of_getElem? e
theorem at_co {l : List Int} {k : Nat} (h : k < l.length) : atI (l.map V.int) (k : Int) = some (.int (co l k)) := atI_nat (by rw [List.getElem?_map, co_get h]; rfl)
theorem at_end {l : List Int} (h : l ≠ []) : atI (l.map V.int) (-1) = some (.int (co l (l.length - 1))) := by
  have hl : 0 < l.length := List.length_pos_iff.mpr h
  have e : l.map V.int = (l.take (l.length - 1)).map V.int ++ [V.int (co l (l.length - 1))] := by
    have e1 : l = l.take (l.length - 1) ++ [co l (l.length - 1)] := by
      have := List.take_succ (l := l) (i := l.length - 1)
      rw [show l.length - 1 + 1 = l.length by omega, List.take_length, co_get (by omega)] at this
      exact this
    conv => lhs; rw [e1]
    rw [List.map_append]
    rfl
  rw [e]
  exact atI_last _ _
/-- no 0 at the end -/
def Pol (l : List Int) : Prop := l = [] ∨ co l (l.length - 1) ≠ 0
theorem pol_len {l m : List Int} (hm : Pol m) (h : ∀ k, co l k = co m k) : m.length ≤ l.length := by
  rcases hm with rfl | hm
  · exact Nat.zero_le _
  · rcases Nat.lt_or_ge l.length m.length with c | c
    · rw [← h, co_ge (by omega)] at hm
      exact absurd rfl hm
    · exact c
theorem pol_ext {l m : List Int} (hl : Pol l) (hm : Pol m) (h : ∀ k, co l k = co m k) : l = m := by
  have h1 := pol_len hm h
  have h2 := pol_len hl (fun k => (h k).symm)
  refine List.ext_getElem? fun k => ?_
  rcases Nat.lt_or_ge k l.length with c | c
  · rw [co_get c, co_get (by omega), h]
  · rw [List.getElem?_eq_none c, List.getElem?_eq_none (by omega)]
theorem co_take {l : List Int} {s k : Nat} (h : ∀ i, s ≤ i → co l i = 0) : co (l.take s) k = co l k := by
  rcases Nat.lt_or_ge k s with c | c
  · unfold co
    rw [List.getD_eq_getElem?_getD, List.getD_eq_getElem?_getD, List.getElem?_take_of_lt c]
  · rw [h k c, co_ge (by rw [List.length_take]; omega)]
theorem pol_take {l : List Int} {s : Nat} (hs : s ≤ l.length) (h : s = 0 ∨ co l (s - 1) ≠ 0) (hz : ∀ i, s ≤ i → co l i = 0) : Pol (l.take s) := by
  rcases h with rfl | h
  · exact .inl rfl
  · by_cases c : s = 0
    · rw [c]
      exact .inl rfl
    · refine .inr ?_
      rw [List.length_take, Nat.min_eq_left hs, co_take hz]
      exact h
theorem co_map {f : Int → Int} (h0 : f 0 = 0) (l : List Int) (k : Nat) : co (l.map f) k = f (co l k) := by
  rcases Nat.lt_or_ge k l.length with c | c
  · have := co_get c
    unfold co
    rw [List.getD_eq_getElem?_getD, List.getElem?_map, List.getD_eq_getElem?_getD, this]
    rfl
  · rw [co_ge (by rw [List.length_map]; omega), co_ge c, h0]
theorem co_set {l : List Int} {i : Nat} {v : Int} (k : Nat) (h : i < l.length) : co (l.set i v) k = if k = i then v else co l k := by
  unfold co
  rw [List.getD_eq_getElem?_getD, List.getElem?_set]
  by_cases c : i = k
  · rw [if_pos c, if_pos c.symm, if_pos (by omega)]
    rfl
  · rw [if_neg c, if_neg (fun z => c z.symm), List.getD_eq_getElem?_getD]
theorem co_zeros (n k : Nat) : co (List.replicate n 0) k = 0 := by
  unfold co
  rw [List.getD_eq_getElem?_getD, List.getElem?_replicate]
  split <;> rfl
theorem map_set (l : List Int) (i : Nat) (v : Int) : (l.map V.int).set i (V.int v) = (l.set i v).map V.int := List.map_set.symm
/-! the value -/
def ev (x : Int) : List Int → Int
  | [] => 0
  | a :: r => a + x * ev x r
theorem ev_append (x : Int) (l : List Int) (a : Int) : ev x (l ++ [a]) = ev x l + x ^ l.length * a := by
  induction l with
  | nil => show a + x * 0 = 0 + x ^ 0 * a; rw [Int.pow_zero]; grind
  | cons b r ih =>
    show b + x * ev x (r ++ [a]) = b + x * ev x r + x ^ (r.length + 1) * a
    rw [ih, Int.pow_succ]
    grind
theorem ev_take (x : Int) {l : List Int} {i : Nat} (h : i < l.length) : ev x (l.take (i + 1)) = ev x (l.take i) + co l i * x ^ i := by
  have e : l.take (i + 1) = l.take i ++ [co l i] := by rw [List.take_succ, co_get h]; rfl
  rw [e, ev_append, List.length_take, Nat.min_eq_left (by omega), Int.mul_comm]
theorem ev_drop (x : Int) {l : List Int} {i : Nat} (h : i < l.length) : ev x (l.drop i) = co l i + x * ev x (l.drop (i + 1)) := by
  rw [List.drop_eq_getElem_cons h]
  have := co_get h
  rw [List.getElem?_eq_getElem h] at this
  rw [Option.some.inj this]
  rfl
/-! the product: what is there behind i rows, and j entries of the next -/
def row (one other : List Int) (i k : Nat) : Int := if i ≤ k then co one i * co other (k - i) else 0
def conv (one other : List Int) : Nat → Nat → Int
  | 0, _ => 0
  | i + 1, k => conv one other i k + row one other i k
theorem conv_more (one other : List Int) (k : Nat) : ∀ i, one.length ≤ i → conv one other i k = conv one other one.length k
  | 0, h => by rw [show one.length = 0 by omega]
  | i + 1, h => by
    by_cases c : one.length = i + 1
    · rw [c]
    · show conv one other i k + row one other i k = _
      rw [conv_more one other k i (by omega)]
      unfold row
      rw [co_ge (l := one) (by omega)]
      split <;> simp
theorem conv_top (one other : List Int) {k : Nat} : ∀ i, i ≤ one.length → i + other.length ≤ k + 1 → conv one other i k = 0
  | 0, _, _ => rfl
  | i + 1, h, hk => by
    show conv one other i k + row one other i k = 0
    rw [conv_top one other i (by omega) (by omega)]
    unfold row
    rw [if_pos (by omega), co_ge (l := other) (by omega)]
    simp
theorem conv_zero (one : List Int) (k : Nat) : ∀ i, conv one [] i k = 0
  | 0 => rfl
  | i + 1 => by
    show conv one [] i k + row one [] i k = 0
    rw [conv_zero one k i]
    unfold row
    rw [show co [] (k - i) = 0 from co_ge (Nat.zero_le _)]
    split <;> simp
theorem rep0 : ∀ n : Nat, (List.replicate n [V.int 0]).flatten = (List.replicate n (0 : Int)).map V.int
  | 0 => rfl
  | n + 1 => by
    rw [List.replicate_succ, List.flatten_cons, rep0 n, List.replicate_succ, List.map_cons]
    rfl
theorem ixN_nat {n j : Nat} (h : j < n) : ixN n (j : Int) = some j := by
  unfold ixN
  rw [if_pos (by omega), if_pos (by omega)]
  rfl
end T

/-! ### tuple * n for n = 0 and n = 1 -/
namespace L2
open PySem PySem.Spec PyProof.Rows
theorem tuple_mulX (l : Addr) (items : Array Value) (n : Nat) (dd : Option Addr) (sl : Array (Option Value)) (x : Int) (u : Tok) (c0 : (decide (x < -(2 ^ 63)) || decide (x ≥ 2 ^ 63)) = false) (c1 : (items.isEmpty || x == 1) = true) :
    Meets (Builtin.«tuple.__mul__» ⟨[.ref l, .int x u], []⟩) (fun _ R s => s.heap.get? l = some { cls := .type "tuple", dict := dd, data := .seq items n, slots := sl } ∧ R (.ok (.ret (Value.ref l))) s) :=
  .of_wp fun prog w A R s h => by
    obtain ⟨hp, g, d, tk, os⟩ := s
    obtain ⟨hl, h⟩ := h
    have f1 := AutoSeq1.idx_int
    wp_walk using wpAny_loadPart' hl
    repeat (first
      | (refine wpAny_ite_false (decide_eq_false (by rw [c0]; exact Bool.false_ne_true)) ?_; wp_walk using wpAny_loadPart' hl)
      | (refine wpAny_ite_true (decide_eq_true c1) ?_; wp_walk using wpAny_loadPart' hl))
    exact ⟨_, rfl, h⟩
theorem tuple_mulZ (l : Addr) (items : Array Value) (n : Nat) (dd : Option Addr) (sl : Array (Option Value)) (x : Int) (u : Tok) (c0 : (decide (x < -(2 ^ 63)) || decide (x ≥ 2 ^ 63)) = false) (c1 : (items.isEmpty || x == 1) = false) (c2 : (decide (x ≤ 0) || items.isEmpty) = true) :
    Meets (Builtin.«tuple.__mul__» ⟨[.ref l, .int x u], []⟩) (fun _ R s => s.heap.get? l = some { cls := .type "tuple", dict := dd, data := .seq items n, slots := sl } ∧
      R (.ok (.ret (Value.ref s.heap.objs.size))) { s with heap := s.heap.push { cls := Value.type "tuple", data := Data.seq #[] }, toks := s.toks }) :=
  .of_wp fun prog w A R s h => by
    obtain ⟨hp, g, d, tk, os⟩ := s
    obtain ⟨hl, h⟩ := h
    have f1 := AutoSeq1.idx_int
    wp_walk using wpAny_loadPart' hl
    repeat (first
      | (refine wpAny_ite_false (decide_eq_false (by rw [c0]; exact Bool.false_ne_true)) ?_; wp_walk using wpAny_loadPart' hl)
      | (refine wpAny_ite_false (decide_eq_false (by rw [c1]; exact Bool.false_ne_true)) ?_; wp_walk using wpAny_loadPart' hl)
      | (refine wpAny_ite_true (decide_eq_true c2) ?_; wp_walk using wpAny_loadPart' hl))
    exact ⟨_, rfl, h⟩
def rRepA (K : PySem.W.Frag) : R2 := fun x y H Q => ∃ l k xs, x = .ref l ∧ y = .int k ∧ SqT K H l xs ∧ xs ≠ [] ∧ 0 ≤ k ∧ k ≤ 1000 ∧ xs.length ≤ 1000 ∧ (k = 1 → Q (.ref l) H) ∧ (k ≠ 1 → ∀ p, H p = none → Q (.ref p) (upd H p (.tup (List.replicate k.toNat xs).flatten)))
section
variable {X : Cx}
theorem op_repA : OpR X (binaryOp .Mult) (rRepA X.K) := by
  intro pins s σ H x y v u Q I rx ry h
  obtain ⟨l, k, xs, rfl, rfl, hT, hne, h1, h2, hz, q1, q⟩ := h
  by_cases big : 2 ≤ k
  · exact op_repT pins s σ H _ _ v u Q I rx ry ⟨l, k, xs, rfl, rfl, hT, hne, big, h2, hz, q (by omega)⟩
  cases rx
  obtain ⟨t, rfl⟩ := ry
  obtain ⟨its, r, ⟨⟨cls, dd, data, sl⟩, ho, hc, n, hd⟩, hs⟩ := I.tuple hT
  simp only at hc hd
  subst hc hd
  have hle : its.length = xs.length := r.length.symm
  have hn : its ≠ [] := fun e => hne (by
    rw [e] at hle
    exact List.eq_nil_of_length_eq_zero hle.symm)
  have hi : its.toArray.isEmpty = false := by
    cases its with
    | nil => exact absurd rfl hn
    | cons a b => rfl
  have c0 : (decide (k < -(2 ^ 63)) || decide (k ≥ 2 ^ 63)) = false := by
    rw [decide_eq_false (by omega), decide_eq_false (by omega)] <;> rfl
  by_cases one : k = 1
  · have c1 : (its.toArray.isEmpty || k == 1) = true := by
      rw [hi, Bool.false_or]
      exact beq_iff_eq.mpr one
    exact wpAny_binaryOp_repeat_ref (T := "tuple") (U := "int") (by decide) ⟨_, ho, rfl⟩ (fun s' => typeIs_int s' k t) noFill_tuple_mul F.fills_int_mul F.slot_int_rmul repeat_tuple F.slot_int_index.lookup
      (call_meets F.slot_int_rmul (typeIs_int s k t) F.entry_int_rmul (F.args_int_rmul_2 _ _) (int_rmul_tuple k t l its.toArray n dd sl)
        ⟨ho, rfl, ⟨_, ho, rfl⟩, call_meets F.slot_tuple_mul ⟨_, ho, rfl⟩ F.entry_tuple_mul (F.args_tuple_mul_2 _ _) (tuple_mulX l its.toArray n dd sl k t c0 c1) ⟨ho, ⟨.ref l, H, I, rfl, q1 one⟩⟩⟩)
  · have zero : k = 0 := by omega
    have c1 : (its.toArray.isEmpty || k == 1) = false := by
      rw [hi, Bool.false_or]
      exact beq_eq_false_iff_ne.mpr one
    have c2 : (decide (k ≤ 0) || its.toArray.isEmpty) = true := by
      rw [hi, Bool.or_false]
      exact decide_eq_true (by omega)
    refine wpAny_binaryOp_repeat_ref (T := "tuple") (U := "int") (by decide) ⟨_, ho, rfl⟩ (fun s' => typeIs_int s' k t) noFill_tuple_mul F.fills_int_mul F.slot_int_rmul repeat_tuple F.slot_int_index.lookup
      (call_meets F.slot_int_rmul (typeIs_int s k t) F.entry_int_rmul (F.args_int_rmul_2 _ _) (int_rmul_tuple k t l its.toArray n dd sl)
        ⟨ho, rfl, ⟨_, ho, rfl⟩, call_meets F.slot_tuple_mul ⟨_, ho, rfl⟩ F.entry_tuple_mul (F.args_tuple_mul_2 _ _) (tuple_mulZ l its.toArray n dd sl k t c0 c1 c2) ⟨ho, ?_⟩⟩)
    refine ⟨.ref s.heap.objs.size, _, I.laid (t' := s.toks) (o := .tup (List.replicate k.toNat xs).flatten) (fun b ob q => Heap.get?_push_of_some _ q) (Nat.le_refl _) ?_, rfl, q one _ (I.hok.fresh (Nat.le_refl _))⟩
    rw [zero]
    exact ⟨Nat.zero_le _, [], .nil, IsTup.new _ _⟩
end
end L2

/-! ### sorted(tuple of integers), x in tuple of tuples -/
namespace SrtO
open PySem PyProof.Rows Srt
section
variable {prog : Program} {w : World} {A : Around} {E : Value → Shared → Prop} {s : Shared}
theorem collect_tup {l : Addr} {vs : List Value} {Q : List Value → Shared → Prop} (hl : s.heap.IsTuple l vs.toArray)
    (h : Q vs { s with heap := (s.heap.push (seqObj "list" #[] 0)).update s.heap.objs.size (Obj.mapSeq (· ++ vs.toArray)) }) (hsz : vs.length ≤ sizeLine) :
    wpAny (model prog w) A (collect (.ref l)) Q E s := by
  obtain ⟨o, ho, hc, n, hd⟩ := id hl
  unfold collect
  refine wpAny_bind (wpAny_runValue (codeAny_builtin entry_proto_collect' ?_))
  show wpAny _ _ (do again (.builtin "list.__iadd__" ⟨[← newList [], .ref l], []⟩)) _ _ s
  refine wpAny_bind (wpAny_newList (wpAny_pure ⟨Code.quiet_builtin _ (by decide +kernel), codeAny_builtin entry_list_iadd' ?_⟩))
  show wpAny _ _ (Builtin.List.listExtendWith (.ref s.heap.objs.size) (.ref l) (.ref s.heap.objs.size)) _ _ { s with heap := s.heap.push (seqObj "list" #[] 0) }
  unfold Builtin.List.listExtendWith
  have ho' : (s.heap.push (seqObj "list" #[] 0)).get? l = some o := Heap.get?_push_of_some _ ho
  refine wpAny_bind (wpAny_typeOf (T := "tuple") ⟨o, ho', hc⟩ ?_)
  have ht : (Value.type "tuple" == Value.type "tuple") = true := by rfl
  rw [if_pos (by rw [ht]; simp)]
  refine wpAny_bind (listItems_at ho' hd ?_)
  refine wpAny_bind (listItems_at (xs := #[]) (n := 0) (Heap.get?_push_size _ rfl) rfl ?_)
  rw [if_neg (by simp)]
  refine wpAny_bind (listUpdate_at (xs := #[]) (n := 0) (Heap.get?_push_size _ rfl) rfl ?_ (Nat.zero_le _) (by show (#[] ++ vs.toArray).size ≤ sizeLine + 1; simp only [Array.size_append, List.size_toArray, List.length_nil]; omega))
  refine wpAny_pure ?_
  show wpAny (model prog w) A (do
      let o ← load s.heap.objs.size
      match o.data with
      | .seq xs _ => pure xs.toList
      | _ => unsupported "internal:collect") Q E { s with heap := (s.heap.push (seqObj "list" #[] 0)).update s.heap.objs.size (Obj.mapSeq (· ++ vs.toArray)) }
  refine wpAny_bind (wpAny_load (get?_update_seq (Heap.get?_push_size _ rfl) _) ?_)
  show wpAny _ _ (pure ((#[] : Array Value) ++ vs.toArray).toList) Q E _
  rw [show ((#[] : Array Value) ++ vs.toArray).toList = vs by simp]
  exact wpAny_pure h
theorem sorted_ordT {l : Addr} {vs : List Value} {ltv : Value → Value → Bool} {Q : Value → Shared → Prop} (O : Swo ltv) (hl : s.heap.IsTuple l vs.toArray) (hz : vs.length ≤ sizeLine)
    (hS : 2 ≤ vs.length → ∀ (h₁ : Heap) (a : Addr), h₁.get? a = some (seqObj "list" vs.toArray 0) → (∀ b o, s.heap.get? b = some o → b ≠ a ∧ h₁.get? b = some o) → SortableO prog w A.in1.in1 { s with heap := h₁ } a vs ltv)
    (h : ∀ out : List Value, Srtd ltv out → Stb ltv out vs → Q (.ref (s.heap.objs.size + 1)) { s with heap := sortedAll s.heap vs out.toArray }) :
    wpAny (model prog w) A (call (.builtin "sorted") [.ref l]) Q E s := by
  refine Calls.call_function_entry kind_sorted plain_sorted entry_sorted (args_sorted1 _) ?_
  unfold Builtin.«sorted»
  refine wpAny_bind (m := checkCount "sorted" 1 1 _) (wpAny_pure ?_)
  refine wpAny_bind (collect_tup hl ?_ hz)
  refine wpAny_bind (wpAny_newList ?_ hz)
  have hsz : ((s.heap.push (seqObj "list" #[] 0)).update s.heap.objs.size (Obj.mapSeq (· ++ vs.toArray))).objs.size = s.heap.objs.size + 1 := by
    rw [Heap.size_update, size_push']
  have hoL : (((s.heap.push (seqObj "list" #[] 0)).update s.heap.objs.size (Obj.mapSeq (· ++ vs.toArray))).push (seqObj "list" vs.toArray 0)).get? (s.heap.objs.size + 1) = some (seqObj "list" vs.toArray 0) := by
    rw [← hsz]; exact Heap.get?_push_size _ rfl
  have keep : ∀ b o, s.heap.get? b = some o → b ≠ s.heap.objs.size + 1 ∧ (((s.heap.push (seqObj "list" #[] 0)).update s.heap.objs.size (Obj.mapSeq (· ++ vs.toArray))).push (seqObj "list" vs.toArray 0)).get? b = some o := fun b o q => by
    have hlt : b < s.heap.objs.size := Heap.lt_size q
    refine ⟨Nat.ne_of_lt (Nat.lt_succ_of_lt hlt), Heap.get?_push_of_some _ ?_⟩
    rw [Heap.get?_update_ne _ _ _ _ (Nat.ne_of_lt hlt)]
    exact Heap.get?_push_of_some _ q
  show wpAny _ _ _ _ _ { s with heap := ((s.heap.push (seqObj "list" #[] 0)).update s.heap.objs.size (Obj.mapSeq (· ++ vs.toArray))).push (seqObj "list" vs.toArray 0) }
  rw [hsz]
  refine wpAny_bind (wpAny_holding (wpAny_call_entry slot_list_sort ⟨_, hoL, rfl⟩ entry_list_sort (list_sort_ord O hoL hz (fun h2 => hS h2 _ _ hoL keep) fun out hs hb => ⟨_, rfl, ?_⟩) (args_list_sort _)))
  exact wpAny_pure ⟨_, rfl, h out hs hb⟩
end
end SrtO
namespace L2
open PySem PySem.Spec PyProof.Rows
def rSortedIT (K : PySem.W.Frag) : List V → Hp → VK → Prop := fun vs H Q => ∃ (a : Addr) (ns : List Int), vs = [V.ref a] ∧ SqT K H a (ns.map V.int) ∧
  ∀ (ns' : List Int) (p : Addr), ns'.Perm ns → ns'.Pairwise (· ≤ ·) → H p = none → Q (.ref p) (upd H p (.lst (ns'.map V.int)))
def rInDT (K : PySem.W.Frag) : R2 := fun x y H Q => ∃ d ds, Dp K H x d ∧ Dp K H y (.tuple ds) ∧ SeqAt.shaped d = true ∧ SeqAt.shaped (.tuple ds) = true ∧ Q (.bl (ds.any fun z => PyData.eqv z d)) H
section
variable {X : Cx}
theorem cr_sortedIT : CallR X (.builtin "sorted") (rSortedIT X.K) := by
  intro pins s σ H vs us Q I r h
  obtain ⟨a, ns, rfl, hs, q⟩ := h
  obtain ⟨its, rv, hl, hz⟩ := I.tuple hs
  rw [Vals.ref1 r]
  have hi := rv.ints
  refine SrtO.sorted_ordT SrtO.swo_int hl (by rw [← rv.length]; exact hz) (fun h2 h₁ a' _ _ => SrtO.ints_sortable hi h2) fun out h1 h2 => ?_
  obtain ⟨k1, k2, k3⟩ := SrtO.ints_out hi h1 h2
  obtain ⟨ep, he'⟩ := PyProof.Rows.sortedAll_at s.heap its out.toArray
  have hlen : ((out.map SrtO.iv).map V.int).length ≤ sizeLine := by
    rw [List.length_map, k2.length_eq]
    rw [List.length_map] at hz
    exact hz
  exact ⟨.ref _, upd H (s.heap.objs.size + 1) (.lst ((out.map SrtO.iv).map V.int)), I.laid (t' := s.toks) (fun _ _ => PyProof.Rows.sortedAll_old) (Nat.le_succ _) ⟨hlen, out, ep, vals_of_ints k1, he'⟩, rfl, q _ _ k2 k3 (I.hok.fresh (Nat.le_succ _))⟩
theorem op_inDT (hu : X.A.units + 65 < cLine) : OpR X (compareOp .In) (rInDT X.K) := by
  intro pins s σ H x y v u Q I rx ry h
  obtain ⟨d, ds, hd, he, sd, se, q⟩ := h
  obtain ⟨as, r1⟩ := Dp.reads I d x v hd rx
  obtain ⟨bs, r2⟩ := Dp.reads I (.tuple ds) y u he ry
  exact SeqAt.in_tuple_reads r2 r1 (SeqAt.canLay_of_shaped se) (SeqAt.canLay_of_shaped sd) (room_in_shaped sd hu) ⟨.bl _, H, I, rfl, q⟩
end
end L2

/-! ### tuple[::-1], nested data by <, x not in range(..) -/
namespace HT
open PySem PySem.Spec PyProof.Rows
section
variable {prog : Program} {w : World} {A : Around} {E : Value → Shared → Prop} {s : Shared}
theorem sliceApplied_rev {sl : Addr} {vl vu vs : Value} {n : Nat} {Q : Int × Int × Nat → Shared → Prop} (hs : s.heap.IsSliceOf sl vl vu vs) (pl : IsPart vl none) (pu : IsPart vu none) (ps : IsPart vs (some (-1)))
    (h : Q ((n : Int) - 1, -1, n) s) : wpAny (model prog w) A (Builtin.Slice.sliceApplied (.ref sl) (pure (n : Int))) Q E s := by
  obtain ⟨os, hos, hcs, hds⟩ := id hs
  unfold Builtin.Slice.sliceApplied Builtin.Slice.sliceFields
  refine wpAny_bind (wpAny_bind (wpAny_field hos hds (x := vl) rfl (wpAny_bind (wpAny_field hos hds (x := vu) rfl (wpAny_bind (wpAny_field hos hds (x := vs) rfl (wpAny_pure ?_)))))))
  refine wpAny_bind (slicePart_ ps ?_)
  show wpAny _ _ (if ((-1 : Int) == 0) = true then _ else _) _ _ s
  rw [if_neg (by decide)]
  refine wpAny_bind (slicePart_ pl (wpAny_bind (slicePart_ pu (wpAny_bind (wpAny_pure ?_)))))
  have e2 : Builtin.Slice.slicePlaces ((n : Int) - 1) (-1) (-1) = n := by
    unfold Builtin.Slice.slicePlaces
    rw [if_neg (by decide)]
    by_cases c : (n : Int) - 1 > -1
    · rw [if_pos c, show -(-1 : Int) = 1 from rfl, Int.ediv_one]
      omega
    · rw [if_neg c]
      omega
  show wpAny _ _ (pure (((n : Int) - 1), (-1 : Int), Builtin.Slice.slicePlaces ((n : Int) - 1) (-1) (-1))) _ _ s
  rw [e2]
  exact wpAny_pure h
theorem fm_some {α β : Type} {f : α → Option β} {g : α → β} : ∀ l : List α, (∀ k ∈ l, f k = some (g k)) → l.filterMap f = l.map g
  | [], _ => rfl
  | a :: l, h => by
    rw [List.filterMap_cons, h a List.mem_cons_self, List.map_cons, fm_some l fun k hk => h k (List.mem_cons_of_mem _ hk)]
theorem pick_rev (items : Array Value) : ((List.range items.size).filterMap fun (k : Nat) => items[((items.size : Int) - 1 + (k : Int) * (-1)).toNat]?).toArray = items.toList.reverse.toArray := by
  congr 1
  have hlt : ∀ k ∈ List.range items.size, k < items.size := fun k hk => List.mem_range.mp hk
  have e : ∀ k, k < items.size → items[((items.size : Int) - 1 + (k : Int) * (-1)).toNat]? = some (items.toList.reverse.getD k .none) := fun k hk => by
    rw [show ((items.size : Int) - 1 + (k : Int) * (-1)).toNat = items.size - 1 - k by omega, List.getD_eq_getElem?_getD, List.getElem?_reverse (by rw [Array.length_toList]; exact hk), Array.length_toList, Array.getElem?_toList]
    rw [Array.getElem?_eq_getElem (by omega)]
    rfl
  have e2 : ((List.range items.size).filterMap fun (k : Nat) => items[((items.size : Int) - 1 + (k : Int) * (-1)).toNat]?) = (List.range items.size).map fun k => items.toList.reverse.getD k .none := by
    exact fm_some _ fun k hk => e k (hlt k hk)
  rw [e2]
  refine List.ext_getElem (by rw [List.length_map, List.length_range, List.length_reverse, Array.length_toList]) fun i h1 h2 => ?_
  rw [List.getElem_map, List.getElem_range, List.getD_eq_getElem?_getD, List.getElem?_eq_getElem h2]
  rfl
theorem getItem_tuple_rev {t sl : Addr} {items : Array Value} {vl vu vs : Value} {Q : Value → Shared → Prop} (ht : IsTup s.heap t items) (hs : s.heap.IsSliceOf sl vl vu vs) (pl : IsPart vl none) (pu : IsPart vu none) (ps : IsPart vs (some (-1)))
    (h : Q (.ref s.heap.objs.size) { s with heap := s.heap.push { cls := .type "tuple", data := .seq items.toList.reverse.toArray } }) (hsz : items.size ≤ sizeLine) : wpAny (model prog w) A (getItem (.ref t) (.ref sl)) Q E s := by
  have htake : sizeOk (.seq items.toList.reverse.toArray) := by
    show items.toList.reverse.toArray.size ≤ sizeLine
    rw [List.size_toArray, List.length_reverse, Array.length_toList]
    exact hsz
  obtain ⟨os, hos, hcs, hds⟩ := id hs
  have hTs : s.TypeIs (.ref sl) "slice" := ⟨os, hos, hcs⟩
  unfold getItem
  try with_reducible refine wpAny_holding ?_
  first | refine wpAny_bind (wpAny_pure ?_) | skip
  refine wpAny_bind (wpAny_sequenceKey ht.typeIs (by decide) ?_)
  refine wpAny_bind (wpAny_callSpecial?_slot (name := Str.ofString "__getitem__") ht.typeIs PyProof.Rows.slot_tuple_getitem
    (wpAny_call_entry PyProof.Rows.slot_tuple_getitem ht.typeIs entry_tuple_getitem ?_ (args_tuple_getitem _ _)))
  show wpAny _ _ (Builtin.Tuple.tupleItemsOf (.ref t) >>= _) _ _ s
  refine wpAny_bind (tupleItemsOf_ ht ?_)
  refine wpAny_bind (wpAny_typeOf hTs ?_)
  rw [if_pos (by decide)]
  refine wpAny_bind (sliceApplied_rev hs pl pu ps ?_)
  have hno : ¬ ((((items.size : Int) - 1) == 0 && (-1 : Int) == 1 && items.size == items.size) = true) := by
    intro q
    rw [Bool.and_eq_true, Bool.and_eq_true] at q
    have q1 : (-1 : Int) = 1 := eq_of_beq q.1.2
    omega
  show wpAny _ _ (if (((items.size : Int) - 1) == 0 && (-1 : Int) == 1 && items.size == items.size) = true then _ else _) _ _ s
  rw [if_neg hno, pick_rev]
  first
    | exact wpAny_bind (m := Builtin.Tuple.tupleExact _) (wpAny_newObj_type (wpAny_pure ⟨_, rfl, wpAny_pure h⟩) htake)
    | exact wpAny_bind (m := Builtin.Tuple.tupleExact _) (wpAny_newObj_type (wpAny_bind (wpAny_pure (wpAny_pure ⟨_, rfl, wpAny_pure h⟩))) htake)
    | exact wpAny_bind (wpAny_bind (m := Builtin.Tuple.tupleExact _) (wpAny_newObj_type (wpAny_pure (wpAny_pure ⟨_, rfl, wpAny_pure h⟩)) htake))
    | exact wpAny_bind (wpAny_bind (m := Builtin.Tuple.tupleExact _) (wpAny_newObj_type (wpAny_pure ⟨_, rfl, wpAny_pure h⟩) htake))
end
end HT
namespace L2
open PySem PySem.Spec PyProof.Rows
def tRevT (K : PySem.W.Frag) (te : TE) : TE := fun σ H Q => te σ H fun x H1 => ∃ a xs, x = .ref a ∧ SqT K H1 a xs ∧ ∀ p, H1 p = none → Q (.ref p) (upd H1 p (.tup xs.reverse))
section
variable {X : Cx}
theorem pe_revT {e : Expr} {te : TE} {k : Nat} {p1 p2 p3 pos : Pos} {K : PySem.W.Frag} (hK : X.K = K) (he : PE X e te) : PE X (.Subscript e (.Slice none none (some (.UnaryOp .USub (.Constant (.int 1) k p1) p2)) p3) pos) (tRevT K te) := by
  subst hK
  refine ⟨fun pins s σ H Q I h => ?_⟩
  refine Subscript_ (thn (he.run pins s σ H _ I h) fun v s1 ⟨x, H1, I1, r1, q1⟩ => ?_)
  obtain ⟨a, xs, ex, hx, q⟩ := q1
  subst ex
  cases r1
  have hst : PO X (some (.UnaryOp .USub (.Constant (.int 1) k p1) p2)) (tPart (tUn (rU fun i => .int (-i)) (tC (.int 1)))) := po_some (pe_un un_neg pe_int)
  refine wpAny_Slice (thn (po_none.run pins s1 σ H1 (fun o H2 => o = none ∧ H2 = H1) I1 ⟨rfl, rfl⟩) fun vl s2 ⟨l, H2, I2, pl, el, e2⟩ => ?_)
  subst el e2
  refine thn (po_none.run pins s2 σ H2 (fun o H3 => o = none ∧ H3 = H2) I2 ⟨rfl, rfl⟩) fun vu s3 ⟨u, H3, I3, pu, eu, e3⟩ => ?_
  subst eu e3
  refine thn (hst.run pins s3 σ H3 (fun o H4 => o = some (-1) ∧ H4 = H3) I3 ⟨1, rfl, -1, rfl, rfl, rfl⟩) fun vs s4 ⟨o, H4, I4, ps, eo, e4⟩ => ?_
  subst eo e4
  have I5 : Inv X pins σ H4 { s4 with heap := s4.heap.push { cls := .type "slice", data := .fields #[vl, vu, vs] } } := I4.kept (t' := s4.toks) fun b ob q => Heap.get?_push_of_some _ q
  obtain ⟨its, r, ht, hz⟩ := I5.tuple hx
  have hlen := r.length
  show wpAny (model X.prog X.w) X.A (subscriptTail e (.Slice none none (some (.UnaryOp .USub (.Constant (.int 1) k p1) p2)) p3) (.ref a) (.ref s4.heap.objs.size)) (EP X pins σ Q) X.xe { s4 with heap := s4.heap.push { cls := .type "slice", data := .fields #[vl, vu, vs] } }
  refine tail_any (ops := [.ref a, .ref s4.heap.objs.size]) ht.typeIs (PyProof.Rows.slot_tuple_getitem.lookup) ?_ (by with_unfolding_all rfl)
  refine HT.getItem_tuple_rev ht (Heap.IsSliceOf.new _ vl vu vs) pl pu ps ?_ (by rw [List.size_toArray]; omega)
  refine ⟨.ref _, _, I5.laid (t' := s4.toks) (o := .tup xs.reverse) (fun b ob q => Heap.get?_push_of_some _ q) (Nat.le_refl _) ?_, rfl, q _ (I5.hok.fresh (Nat.le_refl _))⟩
  exact ⟨by rw [List.length_reverse]; exact hz, _, r.reverse, IsTup.new _ _⟩
/-- nested data of one shape -/
def rLtD (K : PySem.W.Frag) : R2 := fun x y H Q => ∃ d e, Dp K H x d ∧ Dp K H y e ∧ PySem.W.alike d e = true ∧ d ≠ .none ∧ d.depth ≤ 64 ∧ Q (.bl (PySem.W.dataLt d e)) H
theorem op_ltD (hu : X.A.units + 64 < cLine) : OpR X (compareOp .Lt) (rLtD X.K) := by
  intro pins s σ H x y v u Q I rx ry h
  obtain ⟨d, e, hd, he, al, nn, dep, q⟩ := h
  obtain ⟨as, r1⟩ := Dp.reads I d x v hd rx
  obtain ⟨bs, r2⟩ := Dp.reads I e y u he ry
  exact PySem.W.rcLt_alike d e X.A s v u as bs r1 r2 al nn (by have := Nat.min_le_left d.depth e.depth; omega) X.prog X.w _ _ ⟨.bl _, H, I, rfl, q⟩
theorem cr_range1 : CallR X (.type "range") (fun vs H Q => ∃ j, vs = [V.int j] ∧ ∀ p, H p = none → Q (.ref p) (upd H p (.rng 0 j))) := by
  intro pins s σ H vs us Q I r h
  obtain ⟨j, rfl, q⟩ := h
  obtain ⟨u1, rfl, rj⟩ : ∃ u1, us = [u1] ∧ RelV (.int j) u1 := by
    cases r with
    | cons r rr =>
      cases rr
      exact ⟨_, rfl, r⟩
  obtain ⟨u, rfl⟩ := rj
  refine call_range_1 ⟨.ref s.heap.objs.size, upd H s.heap.objs.size (.rng 0 j), I.laid (t' := s.toks + 1 + 1) (fun b o e => Heap.get?_push_of_some _ e) (Nat.le_refl _) ?_, rfl, q _ (I.hok.fresh (Nat.le_refl _))⟩
  exact ⟨s.toks, u, s.toks + 1, Heap.get?_push_size _ rfl⟩
theorem op_notIn_rng : OpR X (compareOp .NotIn) (fun x y H Q => ∃ i a lo hi, x = V.int i ∧ y = V.ref a ∧ H a = some (.rng lo hi) ∧ Q (.bl (!decide (lo ≤ i ∧ i < hi))) H) := by
  intro pins s σ H x y v u Q I rx ry h
  obtain ⟨i, a, lo, hi, rfl, rfl, ha, q⟩ := h
  obtain ⟨k, rfl⟩ := rx
  obtain rfl : u = Value.ref a := ry
  obtain ⟨t1, t2, t3, ho⟩ := I.hok a _ ha
  show wpAny _ _ (do return Value.bool (!(← contains (Value.ref a) (Value.int i k)))) _ _ s
  refine wpAny_bind (wpAny_contains_slot (T := "range") ⟨_, ho, rfl⟩ F.slot_range_contains (call_meets F.slot_range_contains ⟨_, ho, rfl⟩ F.entry_range_contains (F.args_range_contains_2 _ _) (q_contains a lo hi i t1 t2 t3 k)
    ⟨ho, wpAny_truthy_bool (wpAny_pure ⟨.bl _, H, I, rfl, ?_⟩)⟩))
  rw [place1]
  exact q
end
end L2

/-! ### tuple(d.values()) -/
namespace L2
open PySem PySem.Spec PyProof.Rows PySem.W
section
variable {prog : Program} {w : World} {A : Around} {E : Value → Shared → Prop} {s : Shared} {T : String} {r d : Addr} {n : Nat} {P : Nat → Value → Prop} {OK : Heap → Prop}
theorem collect_kdl {Q : List Value → Shared → Prop} (K : KdlSrc prog w T r d n P OK) (hh : A.handled = none) (hok : OK s.heap) (hn : n ≤ sizeLine)
    (hQ : ∀ (h' : Heap) (tk : Nat) (acc : Array Value), (∀ b o, s.heap.get? b = some o → h'.get? b = some o) → ItemsOf P acc n → Q acc.toList { s with heap := h', toks := tk }) :
    wpAny (model prog w) A (collect (.ref r)) Q E s := by
  have hlt := K.there _ hok
  unfold collect
  refine wpAny_bind (wpAny_runValue (codeAny_builtin F.entry_proto_collect ?_))
  rw [Around.under_plainId F.plain_proto_collect _]
  show wpAny _ A.in1 (newList [] >>= fun l => again (.builtin "list.__iadd__" ⟨[l, .ref r], []⟩)) _ _ s
  refine wpAny_bind (wpAny_newObj_type ?_)
  refine wpAny_pure ⟨plainId_quiet F.plain_list_iadd _, codeAny_builtin F.entry_list_iadd ?_⟩
  rw [Around.under_plainId F.plain_list_iadd _]
  show wpAny _ A.in1 (Builtin.List.listExtendWith (.ref s.heap.objs.size) (.ref r) (.ref s.heap.objs.size)) _ _ _
  have hS : (s.heap.push { cls := .type "list", data := .seq ([] : List Value).toArray }).get? s.heap.objs.size = some { cls := .type "list", data := .seq #[] 0 } := Heap.get?_push_size _ rfl
  refine wpAny_mono (kdl_extend (A := A) (R := fun rr s' => rr = .ok (.ret (.ref s.heap.objs.size)) ∧ ∃ (h' : Heap) (tk : Nat) (acc : Array Value) (c' : Nat), s' = { s with heap := h', toks := tk } ∧
      (∀ b o, s.heap.get? b = some o → h'.get? b = some o) ∧ h'.get? s.heap.objs.size = some { cls := .type "list", dict := none, data := .seq acc c', slots := #[] } ∧ ItemsOf P acc n)
    (s := { s with heap := s.heap.push { cls := .type "list", data := .seq ([] : List Value).toArray } }) K hh (K.keep _ _ hok fun b _ o e => Heap.get?_push_of_some _ e) _ (Nat.ne_of_gt hlt.1) (Nat.ne_of_gt hlt.2) _ 0 hS
    (fun h' tk acc c' hk e hi => ⟨rfl, h', tk, acc, c', rfl, fun b o q => hk b o (Nat.ne_of_lt (Heap.lt_size q)) (Heap.get?_push_of_some _ q), e, hi⟩) hn) (fun fin s' h => ?_) (fun e s' h => ?_)
  · cases fin with
    | done f =>
      obtain ⟨e, h', tk, acc, c', rfl, hk, hS', hi⟩ := h
      cases e
      show wpAny _ A (load s.heap.objs.size >>= _) _ _ _
      exact wpAny_bind (wpAny_load hS' (wpAny_pure (hQ h' tk acc hk hi)))
    | again c' =>
      refine ⟨h.1, codeAny_mono h.2 fun rr s'' hr' => ?_⟩
      obtain ⟨rfl, h', tk, acc, c', rfl, hk, hS', hi⟩ := hr'
      show wpAny _ A (load s.heap.objs.size >>= _) _ _ _
      exact wpAny_bind (wpAny_load hS' (wpAny_pure (hQ h' tk acc hk hi)))
  · exact absurd h.1 (by simp)
theorem code_tuple_new_kdl {Q₁ : Value → Shared → Prop} (K : KdlSrc prog w "dict_values" r d n P OK) (hh : A.handled = none) (hok : OK s.heap) (hn : n ≤ sizeLine)
    (h : ∀ (h' : Heap) (tk : Nat) (acc : Array Value), (∀ b o, s.heap.get? b = some o → h'.get? b = some o) → ItemsOf P acc n →
      Q₁ (.ref h'.objs.size) { s with heap := h'.push { cls := .type "tuple", data := .seq acc }, toks := tk }) :
    codeAny (model prog w) A (.call (.builtin "tuple.__new__") ⟨[.type "tuple", .ref r], []⟩) (wants Q₁ E) s := by
  refine codeAny_of_tree ?_
  show wpAny _ A.in1 (do checkBuiltinCall "tuple.__new__" ⟨[.type "tuple", .ref r], []⟩; again (.builtin "tuple.__new__" ⟨[.type "tuple", .ref r], []⟩)) _ _ s
  refine wpAny_bind (wpAny_of_eq (F.newCall_tuple_1 _) (wpAny_pure ⟨plainId_quiet F.plain_tuple_new _, codeAny_builtin F.entry_tuple_new ?_⟩))
  rw [Around.under_plainId F.plain_tuple_new _]
  have hsub := sub_tuple_self
  have hinit := init_tuple_lookup
  have hmh := madeHere_tuple
  have hTI : s.TypeIs (.ref r) "dict_values" := K.type s hok
  have hh1 : A.in1.handled = none := hh
  wp_walk using wpAny_typeOf hTI, collect_kdl (A := A.in1) K hh1 hok hn
  intro h' tk acc hk hacc
  show wpAny _ _ (Builtin.Tuple.tupleExact acc.toList.toArray >>= fun v => ret v) _ _ _
  unfold Builtin.Tuple.tupleExact
  refine wpAny_bind (wpAny_newObj_type ?_ (by show acc.toList.toArray.size ≤ sizeLine; simp only [Array.toArray_toList]; rw [hacc.1]; exact hn))
  refine wpAny_pure ?_
  have e : acc.toList.toArray = acc := by simp
  rw [e]
  exact h h' tk acc hk hacc
theorem call_tuple_kdl {Q : Value → Shared → Prop} (K : KdlSrc prog w "dict_values" r d n P OK) (hh : A.handled = none) (hok : OK s.heap) (hn : n ≤ sizeLine)
    (hQ : ∀ (h' : Heap) (tk : Nat) (acc : Array Value), (∀ b o, s.heap.get? b = some o → h'.get? b = some o) → ItemsOf P acc n →
      Q (.ref h'.objs.size) { s with heap := h'.push { cls := .type "tuple", data := .seq acc }, toks := tk }) :
    wpAny (model prog w) A (call (.type "tuple") [.ref r]) Q E s := by
  refine callType_codes (Q₁ := fun obj s₁ => s₁.TypeIs obj "tuple" ∧ Q obj s₁) F.called_tuple (F.typeCall_tuple_1 _) F.entry_object_init
    (code_tuple_new_kdl (A := A.in1) K hh hok hn fun h' tk acc hk hacc => ⟨⟨_, Heap.get?_push_size _ rfl, rfl⟩, hQ h' tk acc hk hacc⟩) fun obj s₁ h₁ => ?_
  exact ⟨h₁.1, F.args_object_init_2 obj _, object_init_meets F.called_tuple.init.lookup F.called_tuple.made (by decide) prog w A.in1 _ s₁ ⟨h₁.1, rfl, h₁.2⟩⟩
end
def tTupVals (td : TE) : TE := fun σ H Q => td σ H fun x H1 => ∃ a kvs, x = V.ref a ∧ H1 a = some (.dK kvs) ∧ ∀ p, H1 p = none → Q (.ref p) (upd H1 p (.tup (kvs.map (·.2))))
section
variable {X : Cx} {o : Expr} {p pos apos mpos : Pos} {td : TE}
theorem pe_tupVals (hc : X.calm = true) (hg : Gl X "tuple") (hm : X.mg "tuple" = none) (hd : PE X o td) (hbase : attributeBase o "values" X.env (eval o X.env) = eval o X.env := by rfl) (hline : (apos.endLine == mpos.line) = true := by rfl)
    (hse : starEach [Expr.Call (.Attribute o "values" apos) [] [] mpos] X.env = [(false, eval (Expr.Call (.Attribute o "values" apos) [] [] mpos) X.env)] := by rfl) :
    PE X (.Call (.Name "tuple" p) [.Call (.Attribute o "values" apos) [] [] mpos] [] pos) (tTupVals td) := by
  refine ⟨fun pins s σ H Q I h => ?_⟩
  have hse2 : starEach [Expr.Call (.Attribute o "values" apos) [] [] mpos] X.env = (false, eval (Expr.Call (.Attribute o "values" apos) [] [] mpos) X.env) :: starEach [] X.env := hse
  refine Call_ (ld_blt I hg hm boot_tuple (PyProof.Rows.callWith_type1 (args_cons (wpAny_Call_method0_late hbase hline (thn (hd.run pins s σ H _ I h) fun v s1 ⟨x, H1, I1, r1, a, kvs, ex, ha, q⟩ => ?_)) hse2) hse2 rfl))
  subst ex
  obtain rfl : v = Value.ref a := r1
  obtain ⟨z, hsys, vs, rel, dof⟩ := dk_of I1.hok ha
  obtain ⟨ep, dat⟩ := dof.dictAt
  have dat' := dat
  obtain ⟨ob, es, ho, ex, hdat, hko, hpr, hnd⟩ := dat'
  refine ⟨"dict", "dict.values", F.plainAttrs_dict, F.slot_dict_values, F.type_dict_values, ⟨ob, ho, ex.1⟩, fun b e => ?_, Calls.callWith_builtin rfl (PySem.evalArgs_none ?_)⟩
  · cases e
    exact ⟨ob, ho, ex.2.1⟩
  refine call_meetsIn F.slot_dict_values ⟨ob, ho, ex.1⟩ F.entry_dict_values (F.args_dict_values_1 _) (meets_dict_values (mixKind X.prog X.w) a hsys) ⟨⟨vs, dof⟩, ?_⟩
  have k1 : ∀ b u, s1.heap.get? b = some u → (s1.heap.push { cls := .type "dict_values", data := .fields #[.ref a] }).get? b = some u := fun b u e => Heap.get?_push_of_some _ e
  have dat1 : (s1.heap.push { cls := .type "dict_values", data := .fields #[.ref a] }).DictAt (mixKind X.prog X.w) a vs ep := dat.keep k1
  refine args_nil ?_
  have hl : kvs.length = vs.length := Paired.length rel
  have I2 : Inv X pins σ H1 { s1 with heap := s1.heap.push { cls := .type "dict_values", data := .fields #[.ref a] } } := I1.kept (t' := s1.toks) k1
  refine call_tuple_kdl (kdl_values (knd := mixKind X.prog X.w) (d := a) (r := s1.heap.objs.size) (kvs := vs) (ep := ep)) (I.ok.hd hc) ⟨⟨_, Heap.get?_push_size _ rfl, rfl, rfl⟩, dat1⟩ (by rw [← hl]; exact z) fun h' tk acc hk hacc => ?_
  have I3 : Inv X pins σ H1 { s1 with heap := h', toks := tk } := I2.kept (t' := tk) hk
  refine ⟨.ref h'.objs.size, upd H1 h'.objs.size (.tup (kvs.map (·.2))), I3.laid (t' := tk) (fun b o e => Heap.get?_push_of_some _ e) (Nat.le_refl _) (show ObjOk X.prog X.w _ _ _ (.tup (kvs.map (·.2))) from ⟨by rw [List.length_map]; exact z, acc.toList, ?_, by rw [Array.toArray_toList]; exact IsTup.new _ _⟩), rfl, q _ (I3.hok.fresh (Nat.le_refl _))⟩
  have el : acc.toList.length = acc.size := by simp
  refine vals_of_at (by rw [List.length_map, el, hacc.1, hl]) fun j x w h1 h2 => ?_
  obtain ⟨k, hky⟩ := hacc.2 j w (by rw [← Array.getElem?_toList]; exact h2)
  obtain ⟨y, h3, h4⟩ := KV.at' rel hky
  rw [List.getElem?_map, h3] at h1
  cases h1
  exact h4
end
end L2

/-! ### enumerate over a tuple (the hand layer has it over a list) -/
namespace PySem
open Sem (wp)
open AutoSeq1 (wpAny_loadPart')
theorem new_enumT (t : Addr) (its : Array Value) (n : Nat) (dc : Option Addr) (sl : Array (Option Value)) :
    Meets (Builtin.«enumerate.__new__» ⟨[.type "enumerate", .ref t], []⟩) (fun _ R s => s.heap.get? t = some { cls := .type "tuple", dict := dc, data := .seq its n, slots := sl } ∧
      R (.ok (.ret (.ref (s.heap.push { cls := .type "tuple_iterator", data := .fields #[.ref t, .int 0 0] }).objs.size)))
        { s with heap := (s.heap.push { cls := .type "tuple_iterator", data := .fields #[.ref t, .int 0 0] }).push { cls := .type "enumerate", data := .fields #[.none, .bool false, .ref s.heap.objs.size, rawInt 0, .none, .none] } }) :=
  .of_wp fun prog w A R s both => by
    obtain ⟨hp, g, d, tk, os⟩ := s
    obtain ⟨ht, both⟩ := both
    have below := sub_enumerate
    have tup : Heap.IsTuple (Shared.heap ⟨hp, g, d, tk, os⟩) t its := ⟨_, ht, rfl, n, rfl⟩
    wp_walk using wpAny_loadPart' ht
    refine wpAny_stack_any fun _ => wpAny_pure ?_
    split
    · rename_i c _ _ _ _ _
      cases (c == Value.type "enumerate")
      · wp_walk using wpAny_loadPart' ht, wpAny_pyIter_tuple tup
        exact ⟨_, rfl, both⟩
      · wp_walk using wpAny_loadPart' ht, wpAny_pyIter_tuple tup
        exact ⟨_, rfl, both⟩
    · wp_walk using wpAny_loadPart' ht, wpAny_pyIter_tuple tup
      exact ⟨_, rfl, both⟩
section
variable {prog : Program} {w : World} {A : Around} {E : Value → Shared → Prop} {s : Shared}
theorem call_enumT {t : Addr} {its : Array Value} {Q : Value → Shared → Prop} (ht : s.heap.IsTuple t its)
    (q : ∀ h', IsEnum h' (s.heap.objs.size + 1) s.heap.objs.size 0 .none → h'.IsTupleIter s.heap.objs.size t 0 →
      (∀ b o, s.heap.get? b = some o → h'.get? b = some o) → Q (.ref (s.heap.objs.size + 1)) { s with heap := h' }) :
    wpAny (model prog w) A (call (.type "enumerate") [.ref t]) Q E s := by
  obtain ⟨⟨c, dc, da, sl⟩, ht, ec, n, ed⟩ := ht
  obtain rfl : c = .type "tuple" := ec
  obtain rfl : da = .seq its n := ed
  refine callType_new F.called_enumerate (by decide) (F.typeCall_enumerate_1 _) (F.newCall_enumerate_1 _) (fun ob => F.args_object_init_2 ob _) F.entry_enumerate_new (new_enumT t its n dc sl) ⟨ht, ?_⟩
  have sz : (s.heap.push { cls := .type "tuple_iterator", data := .fields #[.ref t, .int 0 0] }).objs.size = s.heap.objs.size + 1 := Heap.size_push ..
  show _ ∧ _
  rw [sz]
  have en : IsEnum ((s.heap.push { cls := .type "tuple_iterator", data := .fields #[.ref t, .int 0 0] }).push { cls := .type "enumerate", data := .fields #[.none, .bool false, .ref s.heap.objs.size, rawInt 0, .none, .none] })
      (s.heap.objs.size + 1) s.heap.objs.size 0 .none := by
    have z := Heap.get?_push_size (s.heap.push { cls := .type "tuple_iterator", data := .fields #[.ref t, .int 0 0] }) (o := { cls := .type "enumerate", data := .fields #[.none, .bool false, .ref s.heap.objs.size, rawInt 0, .none, .none] }) rfl
    rw [sz] at z
    exact z
  exact ⟨⟨_, en, rfl⟩, q _ en ⟨_, Heap.get?_push_of_some _ (Heap.get?_push_size _ rfl), rfl, rfl⟩ fun b o x => Heap.get?_push_of_some _ (Heap.get?_push_of_some _ x)⟩
end
end PySem
namespace L2
open PySem PySem.Spec PyProof.Rows
/-- the tuple at a, each item in a new pair behind its index -/
def IteT (K : PySem.W.Frag) (a : Addr) : It :=
  ⟨fun i H => ∃ (ys : List V) (y : V), SqT K H a ys ∧ ys[i]? = some y, fun i H v H' => ∃ p y, v = .ref p ∧ H p = none ∧ H' = upd H p (.tup [.int (i : Nat), y]) ∧ ∀ ys, SqT K H a ys → ys[i]? = some y,
    fun i H => ∃ ys : List V, SqT K H a ys ∧ ys.length = i⟩
theorem turn_enumT {P : Program} {w : World} {K : PySem.W.Frag} {elts : List Expr} {kk : Nat} {tp : Pos} (a e it : Addr) :
    Turn P w K (.Tuple elts kk tp) (IteT K a) [e, it] e (fun i h => (∃ old, IsEnum h e it ((i : Nat) : Int) old) ∧ h.IsTupleIter it a i ∧ (e ≠ it ∧ a ≠ it ∧ a ≠ e)) where
  mem := by simp
  obj := fun i h st b hb => by
    obtain ⟨⟨old, he⟩, ⟨o, ho, _, dd⟩, _⟩ := st
    rcases (show b = e ∨ b = it by simpa using hb) with rfl | rfl
    · exact ⟨_, he, fun v z => nomatch z⟩
    · exact ⟨o, ho, fun v z => by rw [dd] at z; exact nomatch z⟩
  keep := fun i h h' st k => by
    obtain ⟨⟨old, he⟩, ⟨o, ho, r⟩, ne⟩ := st
    exact ⟨⟨old, k e (by simp) _ he⟩, ⟨o, k it (by simp) _ ho, r⟩, ne⟩
  item := by
    intro X hP hw hK hc i pins s σ H E I hf st hg
    subst hP hw hK
    obtain ⟨⟨old, he⟩, hit, ne, nai, nae⟩ := st
    obtain ⟨ys, y, hq, hy⟩ := hg
    obtain ⟨its, rv, p, hz⟩ := I.tuple hq
    obtain ⟨u, hu, ru⟩ := rv.get hy
    have szE : e < s.heap.objs.size := Heap.lt_size he
    have szI : it < s.heap.objs.size := by
      obtain ⟨_, z, _⟩ := hit
      exact Heap.lt_size z
    have small : ∀ b ∈ [e, it], b < s.heap.objs.size := fun b hb => by
      rcases (show b = e ∨ b = it by simpa using hb) with rfl | rfl <;> assumption
    have D := Draws.tuple (prog := X.prog) (w := X.w) (A := X.A.in1) (I.ok.hd hc) it a nai its.toArray
    have hlt : i < its.toArray.size := by
      have := (List.getElem?_eq_some_iff.mp hu).1
      simpa using this
    refine wpAny_pyNext_enum_itemD D he ⟨hit, p⟩ hlt ne (by simp only [List.mem_cons, List.not_mem_nil, or_false, not_or]; exact ⟨ne, Ne.symm nae⟩) fun x h' tk hx ho st2 hT hsz hk => ?_
    obtain ⟨hit2, _⟩ := st2
    have ex : x = u := by
      have h2 : its.toArray[i]? = some u := by simpa using hu
      rw [h2] at hx
      exact (Option.some.inj hx).symm
    subst ex
    refine ⟨_, rfl, wpAny_letOwnedTupleGo_enum (s := { s with heap := h', toks := tk + 1 }) ho fun h'' he' sb => ?_⟩
    have hT2 : h''.get? s.heap.objs.size = some { cls := .type "tuple", data := .seq #[.int i tk, x] } := (sb.2 _ (Nat.ne_of_gt szE)).trans hT
    have okN : ObjOk X.prog X.w (upd H s.heap.objs.size (.tup [.int (i : Nat), y])) h'' s.heap.objs.size (.tup [.int (i : Nat), y]) :=
      ⟨by show 2 ≤ sizeLine; decide, [.int i tk, x], .cons ⟨_, rfl⟩ (.cons ru .nil), ⟨_, hT2, rfl, _, rfl⟩⟩
    have J : Inv X pins σ (upd H s.heap.objs.size (.tup [.int (i : Nat), y])) { s with heap := h'', toks := tk + 1 } :=
      I.turnedNew (ch := [e, it]) (fun b ob hb z => (sb.2 b (fun y => hb (by simp [y]))).trans (hk b ob (fun y => hb (by simp [y])) (fun y => hb (by simp [y])) z)) hf (Nat.le_refl _) okN
    refine ⟨.ref s.heap.objs.size, _, J, rfl, ⟨_, y, rfl, I.hok.fresh (Nat.le_refl _), rfl, fun zs hs => by rw [I.tuple_inj hs hq]; exact hy⟩, ⟨⟨x, ?_⟩, ?_, ne, nai, nae⟩, fun b hb => ?_⟩
    · rw [show ((i + 1 : Nat) : Int) = (i : Int) + 1 by omega]
      exact he'
    · obtain ⟨o, ho2, r⟩ := hit2
      exact ⟨o, (sb.2 it (Ne.symm ne)).trans ho2, r⟩
    · rw [upd_ne (Nat.ne_of_lt (small b hb))]
      exact (hf b hb).1
  done := by
    intro X hP hw hK hc i pins s σ H E I hf st hg
    subst hP hw hK
    obtain ⟨⟨old, he⟩, hit, ne, nai, nae⟩ := st
    obtain ⟨ys, hq, hle⟩ := hg
    obtain ⟨its, rv, p, hz⟩ := I.tuple hq
    have len : its.toArray.size = i := by
      have := rv.length
      simp
      omega
    obtain ⟨g0, g1, _, g3, g4, g5⟩ := hf it (by simp)
    rw [← len] at hit
    have D := Draws.tuple (prog := X.prog) (w := X.w) (A := X.A.in1) (I.ok.hd hc) it a nai its.toArray
    exact wpAny_pyNext_enum_endD D he ⟨hit, p⟩ fun h' eb => ⟨rfl, I.turned (t' := s.toks) (fun b o hb z => eb b o hb z) g0 g1 g3 g4 g5⟩
  self := fun A i s Q E st h => by
    obtain ⟨⟨_, he⟩, _⟩ := st
    exact wpAny_pyIter_enum he h
def iEnumT (K : PySem.W.Frag) (ta : TA) : TI := fun σ H R => ta σ H fun vs H1 => ∃ a ys, vs = [.ref a] ∧ SqT K H1 a ys ∧ R (IteT K a) H1
theorem pi_enumT {X : Cx} {e : Expr} {ta : TA} {p pos tp : Pos} {elts : List Expr} {kk : Nat} (hg : Gl X "enumerate") (hm : X.mg "enumerate" = none) (ha : PA X [e] ta) (hs : starEach [e] X.env = [(false, eval e X.env)] := by rfl) :
    PI X (.Tuple elts kk tp) (.Call (.Name "enumerate" p) [e] [] pos) (iEnumT X.K ta) := by
  refine ⟨fun pins s σ H R I h => Call_ (ld_blt I hg hm boot_enumerate (PyProof.Rows.callWith_type1 (thn (ha.run pos pins s σ H _ I h) fun us s1 ⟨vs, H1, I1, r1, q1⟩ => ?_) hs rfl))⟩
  obtain ⟨a, ys, rfl, hq, q⟩ := q1
  cases r1 with
  | cons r rr =>
    cases rr
    cases r
    obtain ⟨its, rv, p', hz⟩ := I1.tuple hq
    have hp' : s1.heap.IsTuple a its.toArray := p'
    have old : a < s1.heap.objs.size := by
      obtain ⟨o, ho, _⟩ := hp'
      exact Heap.lt_size ho
    refine call_enumT hp' fun h' he hit hk => wpAny_pyIter_enum he ?_
    refine ⟨s1.heap.objs.size + 1, [s1.heap.objs.size + 1, s1.heap.objs.size], _, _, H1, rfl, I1.kept (t' := s1.toks) hk, turn_enumT a (s1.heap.objs.size + 1) s1.heap.objs.size,
      ⟨⟨.none, he⟩, hit, Nat.succ_ne_self _, Nat.ne_of_lt old, Nat.ne_of_lt (Nat.lt_succ_of_lt old)⟩, fun b hb => ?_, q⟩
    have hle : s1.heap.objs.size ≤ b := by
      rcases (show b = s1.heap.objs.size + 1 ∨ b = s1.heap.objs.size by simpa using hb) with rfl | rfl
      · exact Nat.le_succ _
      · exact Nat.le_refl _
    exact I1.fpOk hle (I1.hok.fresh hle)
theorem walk_enumT {K : PySem.W.Frag} {a : Addr} {xs : List V} : Walk (IteT K a) xs.length (fun H => SqT K H a xs) (YPair (fun i => some (.int (i : Nat))) (fun i => xs[i]?)) :=
  ⟨fun i H hi h => ⟨xs, _, h, List.getElem?_eq_getElem hi⟩, fun H h => ⟨xs, h, rfl⟩, fun i H v H' hi h y => by
    obtain ⟨p, z, rfl, np, rfl, hz⟩ := y
    exact ⟨p, _, z, rfl, np, rfl, rfl, hz xs h⟩⟩
end L2

/-! ### max and min of a tuple of ints -/
namespace L2
open PySem PySem.Spec PyProof.Rows
theorem readsAll_ints {h : Heap} : ∀ {ns : List Int} {its : List Value}, Vals (ns.map V.int) its → ReadsAll h its (ns.map PyData.int) []
  | [], _, .nil => .nil
  | n :: ns, _, .cons r t => by
    obtain ⟨k, rfl⟩ := r
    exact .cons (.int n k) (readsAll_ints t)
theorem alikeAll_ints (ns : List Int) : PySem.W.AlikeAll (ns.map PyData.int) := by
  refine ⟨fun x hx y hy => ?_, fun x hx => ?_⟩
  · obtain ⟨a, _, rfl⟩ := List.mem_map.mp hx
    obtain ⟨b, _, rfl⟩ := List.mem_map.mp hy
    simp [PySem.W.alike]
  · obtain ⟨a, _, rfl⟩ := List.mem_map.mp hx
    exact fun z => nomatch z
theorem depthAll_ints : ∀ ns : List Int, PyData.depthAll (ns.map PyData.int) = 0
  | [] => by simp [PyData.depthAll]
  | _ :: ns => by simp [PyData.depthAll, PyData.depth, depthAll_ints ns]
theorem foldl_max (x : Int) : ∀ xs : List Int, xs.foldl max x ∈ x :: xs ∧ ∀ y ∈ x :: xs, y ≤ xs.foldl max x := by
  intro xs
  induction xs generalizing x with
  | nil => exact ⟨List.mem_cons_self, fun y hy => by rw [List.mem_singleton.mp hy]; exact Int.le_refl _⟩
  | cons a xs ih =>
    obtain ⟨h1, h2⟩ := ih (max x a)
    rw [List.foldl_cons]
    have h3 := h2 _ List.mem_cons_self
    refine ⟨?_, fun y hy => ?_⟩
    · rcases List.mem_cons.mp h1 with e | e
      · rw [e]
        by_cases c : x ≤ a
        · rw [show max x a = a by omega]
          exact List.mem_cons_of_mem _ List.mem_cons_self
        · rw [show max x a = x by omega]
          exact List.mem_cons_self
      · exact List.mem_cons_of_mem _ (List.mem_cons_of_mem _ e)
    · rcases List.mem_cons.mp hy with rfl | hy
      · omega
      · rcases List.mem_cons.mp hy with rfl | hy
        · omega
        · exact h2 y (List.mem_cons_of_mem _ hy)
theorem foldl_min (x : Int) : ∀ xs : List Int, xs.foldl min x ∈ x :: xs ∧ ∀ y ∈ x :: xs, xs.foldl min x ≤ y := by
  intro xs
  induction xs generalizing x with
  | nil => exact ⟨List.mem_cons_self, fun y hy => by rw [List.mem_singleton.mp hy]; exact Int.le_refl _⟩
  | cons a xs ih =>
    obtain ⟨h1, h2⟩ := ih (min x a)
    rw [List.foldl_cons]
    have h3 := h2 _ List.mem_cons_self
    refine ⟨?_, fun y hy => ?_⟩
    · rcases List.mem_cons.mp h1 with e | e
      · rw [e]
        by_cases c : x ≤ a
        · rw [show min x a = x by omega]
          exact List.mem_cons_self
        · rw [show min x a = a by omega]
          exact List.mem_cons_of_mem _ List.mem_cons_self
      · exact List.mem_cons_of_mem _ (List.mem_cons_of_mem _ e)
    · rcases List.mem_cons.mp hy with rfl | hy
      · omega
      · rcases List.mem_cons.mp hy with rfl | hy
        · omega
        · exact h2 y (List.mem_cons_of_mem _ hy)
def rMaxTI (K : PySem.W.Frag) : List V → Hp → VK → Prop := fun vs H Q => ∃ (a : Addr) (ns : List Int), vs = [V.ref a] ∧ SqT K H a (ns.map V.int) ∧ 0 < ns.length ∧ ∀ m, m ∈ ns → (∀ y, y ∈ ns → y ≤ m) → Q (.int m) H
def rMinTI (K : PySem.W.Frag) : List V → Hp → VK → Prop := fun vs H Q => ∃ (a : Addr) (ns : List Int), vs = [V.ref a] ∧ SqT K H a (ns.map V.int) ∧ 0 < ns.length ∧ ∀ m, m ∈ ns → (∀ y, y ∈ ns → m ≤ y) → Q (.int m) H
section
variable {X : Cx}
theorem cr_maxTI (hc : X.calm = true) (hu : X.A.units + 64 < cLine) : CallR X (.builtin "max") (rMaxTI X.K) := by
  intro pins s σ H vs us Q I r h
  obtain ⟨a, ns, rfl, hs, hne, q⟩ := h
  obtain ⟨its, rv, hl, _⟩ := I.tuple hs
  rw [Vals.ref1 r]
  cases ns with
  | nil => exact absurd hne (Nat.lt_irrefl 0)
  | cons x xs =>
    have hr : ReadsAll s.heap its.toArray.toList (PyData.int x :: xs.map PyData.int) [] := readsAll_ints rv
    refine PySem.W.max_tuple_data (I.ok.hd hc) hl hr (alikeAll_ints (x :: xs)) (by rw [show PyData.int x :: xs.map PyData.int = (x :: xs).map PyData.int from rfl, depthAll_ints]; omega) fun i v h' tk bs _ hv hk => ?_
    rw [PySem.W.maxD_ints] at hv
    obtain ⟨m1, m2⟩ := foldl_max x xs
    cases hv
    exact ⟨.int _, H, I.kept hk, ⟨_, rfl⟩, q _ m1 m2⟩
theorem cr_minTI (hc : X.calm = true) (hu : X.A.units + 64 < cLine) : CallR X (.builtin "min") (rMinTI X.K) := by
  intro pins s σ H vs us Q I r h
  obtain ⟨a, ns, rfl, hs, hne, q⟩ := h
  obtain ⟨its, rv, hl, _⟩ := I.tuple hs
  rw [Vals.ref1 r]
  cases ns with
  | nil => exact absurd hne (Nat.lt_irrefl 0)
  | cons x xs =>
    have hr : ReadsAll s.heap its.toArray.toList (PyData.int x :: xs.map PyData.int) [] := readsAll_ints rv
    refine PySem.W.min_tuple_data (I.ok.hd hc) hl hr (alikeAll_ints (x :: xs)) (by rw [show PyData.int x :: xs.map PyData.int = (x :: xs).map PyData.int from rfl, depthAll_ints]; omega) fun i v h' tk bs _ hv hk => ?_
    rw [PySem.W.minD_ints] at hv
    obtain ⟨m1, m2⟩ := foldl_min x xs
    cases hv
    exact ⟨.int _, H, I.kept hk, ⟨_, rfl⟩, q _ m1 m2⟩
end
end L2

/-! ### str(data), and calls of defs that show data, where nothing is being shown -/
namespace L2
open PySem PySem.Spec PyProof.Rows
def rStrD (K : PySem.W.Frag) : List V → Hp → VK → Prop := fun xs H Q => ∃ a d, xs = [.ref a] ∧ Dp K H (.ref a) d ∧ SeqAt.shaped d = true ∧ d.showable = true ∧ wt d ≤ sizeLine ∧ Q (.str d.shown) H
theorem cr_strD {X : Cx} {K : PySem.W.Frag} (hK : X.K = K) (hg : X.A.guards = some []) (hu : X.A.units + 67 < cLine) : CallR X (.type "str") (rStrD K) := by
  subst hK
  intro pins s σ H vs us Q I r h
  obtain ⟨a, d, rfl, hd, hs, hw, hz, q⟩ := h
  cases r with
  | cons rv rn =>
    rename_i v us'
    cases rn
    have hs' : (d.canLay0 && decide (d.depth ≤ 64)) = true := hs
    rw [Bool.and_eq_true] at hs'
    have nd := PyData.hasDict_of_canLay d hs'.1
    have dep : d.depth ≤ 64 := of_decide_eq_true hs'.2
    have sz := Nat.le_trans (shown_wt d hw nd) hz
    obtain ⟨as, rd⟩ := Dp.reads I d (.ref a) v hd rv
    cases rv
    exact str_of_reads rd hw (PyData.noDict_hsm nd) hg (by omega) (fun _ _ e => e) (fun h' u tk hk => ⟨.str _, H, I.kept (t' := tk) hk, ⟨u, rfl⟩, q⟩) sz
section
variable {X : Cx} {k : Nat} {f : Addr} {fd : FuncData} {ps : List Str} {sp : Sp} {ds : List Value} {dvs : List V}
theorem run_fnG {pins : List (Addr × Obj)} {σ : St} {H : Hp} {s : Shared} {Q : VK} {us : List Value} {vs : List V} (hgu : X.A.guards = some []) (F : FnG X.prog X.w X.K X.mg X.base k f fd ps sp) (hr : Room k X.A) (hb : Binds X.K fd ps ds) (hd : Vals dvs ds)
    (I : Inv X pins σ H s) (r : Vals vs us) (h : sp (vs ++ dvs) H Q E0) : wpAny (model X.prog X.w) X.A (call (.ref f) us) (EP X pins σ Q) X.xe s := by
  have r2 : Vals (vs ++ dvs) (us ++ ds) := r.append hd
  have hl : (us ++ ds).length = ps.length := by rw [← r2.length]; exact F.len _ _ _ _ h
  refine wpAny_call (codeAny_mono (F.run X.A X.stack s H ⟨us, []⟩ (us ++ ds) (vs ++ dvs) Q E0 hgu hr I.env0 (hb s us I.kIn hl) r2 h) fun r s' hq => ?_)
  cases r with
  | error e => exact pass0 pins σ H s e s' I hq
  | ok fl =>
    cases fl with
    | ret u => exact I.after hq
    | next => exact False.elim hq
    | brk => exact False.elim hq
    | cont => exact False.elim hq
theorem pe_callG {x : Str} {e : Expr} {es : List Expr} {p pos : Pos} {t : TA} (hgu : X.A.guards = some []) (F : FnG X.prog X.w X.K X.mg X.base k f fd ps sp) (hr : Room k X.A) (hg : Gl X x) (hm : X.mg x = some (.ref f)) (hk : PySem.W.keepIn X.K (.ref f) = true) (hb : Binds X.K fd ps ds) (hd : Vals dvs ds)
    (ha : PA X (e :: es) t) (hdb : (x == ("__debug__" : Str)) = false := by decide) (he : starEach (e :: es) X.env = (false, eval e X.env) :: starEach es X.env := by rfl) (hpl : (backTo pos (starEach es X.env)).any (·.1) = false := by rfl) :
    PE X (.Call (.Name x p) (e :: es) [] pos) (tCall sp dvs E0 t) := by
  refine ⟨fun pins s σ H Q I h => ?_⟩
  refine wpAny_Call_Name_kw (ld_glob I hg hm ?_ hdb)
  refine PySem.W.callWith_K (h₀ := X.base) I.ok.mod.kin hk (thn (ha.run pos pins s σ H _ I h) fun us s1 ⟨vs, H1, I1, r, q⟩ => ⟨I1.kIn, ?_⟩) he hpl
  exact run_fnG hgu F hr hb hd I1 r q
end
end L2

/-! ### fe(e, ..), fe an expression that gives one of several defs -/
namespace L2
open PySem PySem.Spec PyProof.Rows
structure HeldX (P : Program) (w : World) (K : PySem.W.Frag) (mg : Str → Option Value) (base : Heap) (CX : CXT) (k : Nat) (f : Addr) (sp : Sp) : Prop where
  ex : ∃ (fd : FuncData) (ps : List Str), FnOk P w K mg base CX k f fd ps sp ∧ PySem.W.keepIn K (.ref f) = true ∧ Binds K fd ps []
def tCallE (S : Addr → Option Sp) (E : St → XK) (tf : TE) (t : TA) : TE := fun σ H Q => tf σ H fun y H1 => ∃ f sp, y = V.ref f ∧ S f = some sp ∧ t σ H1 fun vs H2 => sp vs H2 Q (E σ)
section
variable {X : Cx} {CX : CXT} {k : Nat} {E : St → XK} {p pos : Pos} {fe e : Expr} {es : List Expr} {tf : TE} {t : TA}
theorem pe_callE {S : Addr → Option Sp} (hf : PE X fe tf) (A : ∀ f sp, S f = some sp → HeldX X.prog X.w X.K X.mg X.base CX k f sp) (hr : Room k X.A) (hx : ∀ σ, PassesAt CX X σ (E σ)) (ha : PA X (e :: es) t)
    (ht : eval (.Call fe (e :: es) [] pos) X.env = (do callWith pos (← eval fe X.env) [] (backTo pos (starEach (e :: es) X.env)) (backToKw pos (keywordEach [] X.env))) := by rfl)
    (he : starEach (e :: es) X.env = (false, eval e X.env) :: starEach es X.env := by rfl) (hpl : (backTo pos (starEach es X.env)).any (·.1) = false := by rfl) : PE X (.Call fe (e :: es) [] pos) (tCallE S E tf t) := by
  refine ⟨fun pins s σ H Q I h => ?_⟩
  refine Call_ (thn (hf.run pins s σ H _ I h) fun u s1 ⟨y, H1, I1, ry, f, sp, ey, hS, q⟩ => ?_) ht
  subst ey
  obtain rfl : u = Value.ref f := ry
  obtain ⟨fd, ps, F, hk, hb⟩ := (A f sp hS).ex
  refine PySem.W.callWith_K (h₀ := X.base) I.ok.mod.kin hk (thn (ha.run pos pins s1 σ H1 _ I1 q) fun us s2 ⟨vs, H2, I2, r, q2⟩ => ⟨I2.kIn, ?_⟩) he hpl
  exact run_fnS F hr hb (hx σ) I2 r q2
end
end L2

/-! ### a plain list comprehension over a list within an except suite; defs whose errors have no context -/
namespace HotX
open PySem PySem.Spec PyProof.Rows
variable {prog : Program} {w : World} {A : Around} {E : Value → Shared → Prop} {s : Shared}
theorem list_over_hot {it l x1 : Addr} {i : Nat} {items : Array Value} {Q : Option Value → Shared → Prop} (hot : HotAt A x1 s.heap) (hit : s.heap.IsListIter it l i) (hl : s.heap.IsList l items) (hx : items[i]? = none)
    (hQ : ∀ h', (∀ b o, b ≠ it → s.heap.get? b = some o → h'.get? b = some o) → Q none { s with heap := h' }) : wpAny (model prog w) A (pyNext (.ref it)) Q E s := by
  obtain ⟨oi, gi, ci, di⟩ := id hit
  obtain ⟨ol, gl, _, nl, dl⟩ := hl
  obtain ⟨hh, o1, vs1, g1, d1, c1⟩ := hot
  have ne1 : x1 ≠ it := fun z => by
    rw [z, gi] at g1
    obtain rfl := Option.some.inj g1
    rw [di] at d1
    obtain rfl := Data.fields.inj d1
    exact nomatch (show (some (Value.none) : Option Value) = _ from c1.symm)
  unfold pyNext
  apply wpAny_bind
  apply wpAny_attempt
  apply wpAny_callSpecial?_slot (name := Str.ofString "__next__") hit.typeIs slot_listiter_next
  apply wpAny_call_entry slot_listiter_next hit.typeIs entry_listiter_next ?_ (args_listiter_next _)
  show wpAny _ _ (field (Value.ref it) 0 >>= _) _ _ s
  apply wpAny_bind
  apply wpAny_field gi di (x := Value.ref l) rfl
  show wpAny _ _ (if (Value.ref l == Value.none) = true then _ else _) _ _ s
  rw [if_neg (by exact Bool.false_ne_true)]
  show wpAny _ _ (field (Value.ref it) 1 >>= _) _ _ s
  apply wpAny_bind
  apply wpAny_field gi di (x := Value.int i 0) rfl
  show wpAny _ _ (seqItems? (Value.ref l) >>= _) _ _ s
  apply wpAny_bind
  apply wpAny_seqItems gl dl
  simp only [Int.toNat_natCast, hx]
  apply wpAny_bind
  apply wpAny_rule
  apply wpAny_bind
  apply wpAny_setField gi di (by simp)
  show wpAny _ _ (newExc (Value.type "StopIteration") [] >>= _) _ _ _
  apply wpAny_bind
  simp only [newExc, newTuple]
  apply wpAny_bind
  apply wpAny_newObj_type (hd := by size_fits)
  apply wpAny_bind
  apply wpAny_of_eq (a := Value.none) (by first | rfl | exact rfl)
  apply wpAny_newObj_type (hd := by size_fits)
  have k1 : (s.heap.update it (Obj.mapFields fun x => x.setIfInBounds 0 Value.none)).get? x1 = some o1 := (Heap.get?_update_other _ _ ne1.symm).trans g1
  have k2 : ∀ o o' : Obj, (((s.heap.update it (Obj.mapFields fun x => x.setIfInBounds 0 Value.none)).push o).push o').get? x1 = some o1 := fun o o' => Heap.get?_push_of_some _ (Heap.get?_push_of_some _ k1)
  have k3 := fun o o' => Heap.lt_size (k2 o o')
  refine raiseNew_hot (A := A.in1) (x1 := x1) ⟨hh, o1, vs1, k2 _ _, d1, c1⟩ (Nat.ne_of_lt (Heap.lt_size (Heap.get?_push_of_some _ k1))) (Heap.get?_push_size _ rfl) rfl (by first | (simp; done) | (simp; omega)) ?_
  apply wpAny_bind
  refine wpAny_isInstance (b := true) (T := "StopIteration") ⟨_, Heap.get?_update_self _ (Heap.get?_push_size _ rfl) rfl, rfl⟩ isSubtype_stop (wpAny_pure (hQ _ fun b o nb e => ?_))
  have e1 := (Heap.get?_update_other s.heap (Obj.mapFields fun x => x.setIfInBounds 0 Value.none) (Ne.symm nb)).trans e
  have e2 := Heap.get?_push_of_some { cls := Value.type "tuple", data := Data.seq #[] } e1
  rw [Heap.get?_update_other _ _ (Nat.ne_of_gt (Heap.lt_size e2))]
  exact Heap.get?_push_of_some _ e2
end HotX
namespace L2
open PySem PySem.Spec PyProof.Rows HotX
/-- the except suite's own exception stands, its context is None -/
def HotS (X : Cx) : Prop := ∃ p : Addr × Obj, p ∈ X.pn ∧ X.A.handled = some (.ref p.1) ∧ ∃ vs : Array Value, p.2.data = .fields vs ∧ vs[2]? = some .none
/-- [e for y in xs], e without effect: f of each item -/
def tLcMap (K : PySem.W.Frag) (tl : TE) (g : TG) (te : TE) (vs : List Nat) : TE := fun σ H Q => tl σ H fun x H1 => ∃ (a : Addr) (xs : List V) (f : V → V), x = .ref a ∧ SqL K H1 a xs ∧ xs.length < sizeLine ∧
  (∀ y ∈ xs, ∀ H2 : Hp, g y (wipe σ vs) H2 fun σ2 H3 => wipe σ2 vs = wipe σ vs ∧ te σ2 H3 fun z H4 => z = f y ∧ H4 = H2) ∧ ∀ D, H1 D = none → Q (.ref D) (upd H1 D (.lst (xs.map f)))
theorem pe_lcMap {X : Cx} {elt tg iter : Expr} {scope : Scope} {own : List (Str × Nat)} {pos : Pos} {tl : TE} {g : TG} {te : TE} (hotX : HotS X) (nd : X.N.Nodup) (walked : PE X iter tl) (okb : BlkOk X.N X.env.scope scope own)
    (pgAll : ∀ (s : Shared) (H : Hp) (C : Addr) (cl : List (Str × Addr)) (fp : List Addr), PG (X.blk s H scope (compEnvC scope cl C X.env) fp) tg g)
    (peAll : ∀ (s : Shared) (H : Hp) (C : Addr) (cl : List (Str × Addr)) (fp : List Addr), PE (X.blk s H scope (compEnvC scope cl C X.env) fp) elt te)
    (fold : ∀ x, foldedSetIterable iter X.env x = pure x := by intro _; rfl) : PE X (.ListComp elt [⟨tg, iter, [], 0⟩] scope pos) (tLcMap X.K tl g te (own.map (·.2))) := by
  refine ⟨fun pins s σ H Q I h => ?_⟩
  have frees : ∀ y ∈ scope.names, y.2 = .free → ∃ c, X.env.cells.lookup y.1 = some c := fun y hy e => (okb.free y hy e).elim (fun k => I.ok.has _ (.inl k)) (fun k => I.ok.has _ (.inr k))
  rw [eval_ListComp]
  refine wpAny_comprehension_free (use := none) rfl fold (closure_ok frees) okb.kind (fun y hy e => by rw [okb.uniq y hy, e]) (thn (walked.run pins s σ H _ I h) fun itv s1 gone => ?_)
  obtain ⟨x, H1, I1, rx, a, xs, f, rfl, sq, big, each, q⟩ := gone
  cases rx
  obtain ⟨its, vals, plain, _⟩ := I1.list sq
  have lenV : xs.length = its.length := vals.length
  refine wpAny_pyIter_list plain.isList ?_
  -- the iterator
  have I2 : Inv X pins σ H1 { s1 with heap := s1.heap.push { cls := .type "list_iterator", data := .fields #[.ref a, .int 0 0] } } := I1.kept (t' := s1.toks) fun b o e => Heap.get?_push_of_some _ e
  have fpI := I1.fpOk (H' := H1) (Nat.le_refl s1.heap.objs.size) (I1.hok.fresh (Nat.le_refl _))
  have itr : (s1.heap.push { cls := .type "list_iterator", data := .fields #[.ref a, .int 0 0] }).IsListIter s1.heap.objs.size a 0 := ⟨_, Heap.get?_push_size _ rfl, rfl, rfl⟩
  have plain2 : PlainL (s1.heap.push { cls := .type "list_iterator", data := .fields #[.ref a, .int 0 0] }) a its.toArray := by
    obtain ⟨o, n, e, r⟩ := plain
    exact ⟨o, n, Heap.get?_push_of_some _ e, r⟩
  have lt2 : s1.heap.objs.size < (s1.heap.push { cls := .type "list_iterator", data := .fields #[.ref a, .int 0 0] }).objs.size := by
    rw [Heap.size_push]
    exact Nat.lt_succ_self _
  generalize eit : s1.heap.objs.size = it at itr lt2 fpI ⊢
  generalize es2 : ({ s1 with heap := s1.heap.push { cls := .type "list_iterator", data := .fields #[.ref a, .int 0 0] } } : Shared) = s2 at I2 ⊢
  have itr : s2.heap.IsListIter it a 0 := by rw [← es2]; exact itr
  have plain2 : PlainL s2.heap a its.toArray := by rw [← es2]; exact plain2
  have lt2 : it < s2.heap.objs.size := by rw [← es2]; exact lt2
  clear es2 eit
  -- the new list
  apply wpAny_newObj_type (T := "list") (hd := by show 0 ≤ sizeLine; exact Nat.zero_le _)
  apply newEnv_comp
  have nD : H1 s2.heap.objs.size = none := I2.hok.fresh (Nat.le_refl _)
  have ne0 : it ≠ s2.heap.objs.size := Nat.ne_of_lt lt2
  have I3 : Inv X pins σ (upd H1 s2.heap.objs.size (.lst [])) { s2 with heap := s2.heap.push { cls := .type "list", data := .seq ([] : List Value).toArray } } :=
    I2.laid (t' := s2.toks) (fun b o e => Heap.get?_push_of_some _ e) (Nat.le_refl _) ⟨Nat.zero_le _, [], 0, .nil, Heap.get?_push_size _ rfl⟩
  have itr3 : (s2.heap.push { cls := .type "list", data := .seq ([] : List Value).toArray }).IsListIter it a 0 := by
    obtain ⟨o, e, c, d⟩ := itr
    exact ⟨o, Heap.get?_push_of_some _ e, c, d⟩
  have lt3 : it < (s2.heap.push { cls := .type "list", data := .seq ([] : List Value).toArray }).objs.size := by
    rw [Heap.size_push]
    exact Nat.lt_succ_of_lt lt2
  generalize s2.heap.objs.size = D at nD ne0 I3 ⊢
  have fp3 : FpOk X pins (upd H1 D (.lst [])) it := ⟨by rw [upd_ne ne0]; exact fpI.1, fpI.2⟩
  generalize es3 : ({ s2 with heap := s2.heap.push { cls := .type "list", data := .seq ([] : List Value).toArray } } : Shared) = s3 at I3 ⊢
  have itr3 : s3.heap.IsListIter it a 0 := by rw [← es3]; exact itr3
  have lt3 : it < s3.heap.objs.size := by rw [← es3]; exact lt3
  have ed : s3.drawn = s2.drawn ∧ s3.gens = s2.gens ∧ s3.toks = s2.toks ∧ s3.os = s2.os := by rw [← es3]; exact ⟨rfl, rfl, rfl, rfl⟩
  have frs3 : ∀ b ∈ [it], FpOk X pins (upd H1 D (.lst [])) b ∧ b < s3.heap.objs.size := fun b hb => by rw [List.mem_singleton.mp hb]; exact ⟨fp3, lt3⟩
  have I4 := block_start I3 okb nd frs3
  obtain ⟨hp, hpn, hah, hvs, hfd, hnn⟩ := hotX
  have pin3 := I3.pin hp (List.mem_append_left _ hpn)
  have nostk : hp.1 ∉ frs X.stack := fun hm => (List.mem_cons.mp (I3.stkSub hp.1 hm)).elim pin3.2.2.1 pin3.2.2.2.1
  have noit : hp.1 ≠ it := fp3.2.2.2.2.2 hp (List.mem_append_left _ hpn)
  clear es3
  have pg0 := pgAll s3 (upd H1 D (.lst [])) s3.heap.objs.size (cellsFrom (s3.heap.objs.size + 1) scope.names (cloFrom X.env.cells scope.names [])) [it]
  have pe0 := peAll s3 (upd H1 D (.lst [])) s3.heap.objs.size (cellsFrom (s3.heap.objs.size + 1) scope.names (cloFrom X.env.cells scope.names [])) [it]
  let ce := compEnvC scope (cellsFrom (s3.heap.objs.size + 1) scope.names (cloFrom X.env.cells scope.names [])) s3.heap.objs.size X.env
  have locs : ce.locals = s3.heap.objs.size := rfl
  have noC : upd H1 D (.lst []) s3.heap.objs.size = none := I3.hok.fresh (Nat.le_refl _)
  have fpC := I3.fpOk (H' := upd H1 D (.lst [])) (Nat.le_refl s3.heap.objs.size) noC
  have neDC : s3.heap.objs.size ≠ D := fun z => by
    rw [z, upd_same] at noC
    exact nomatch noC
  have noC1 : H1 s3.heap.objs.size = none := by
    rw [upd_ne neDC] at noC
    exact noC
  show codeAny _ _ (.compStart (.ListComp elt [⟨tg, iter, [], 0⟩] scope pos) 0 (.ref it) (.ref D) ce) (compPost (model X.prog X.w) X.A X.xe none (EP X pins σ Q) (.ref D) s3.heap.objs.size) _
  have itr4 : (pushCells (s3.heap.push { cls := .type "dict", data := .dict #[] }) scope.names).IsListIter it a 0 := by
    obtain ⟨o, e, c, d⟩ := itr3
    exact ⟨o, pushCells_keeps _ _ _ _ (Heap.get?_push_of_some _ e), c, d⟩
  generalize es4 : ({ s3 with heap := pushCells (s3.heap.push { cls := .type "dict", data := .dict #[] }) scope.names } : Shared) = s4 at I4 ⊢
  have itr4 : s4.heap.IsListIter it a 0 := by rw [← es4]; exact itr4
  clear es4
  have twice : ∀ (o o' : HO), upd (upd H1 D o) D o' = upd H1 D o' := fun o o' => by
    funext b
    by_cases e : b = D
    · rw [e, upd_same, upd_same]
    · rw [upd_ne e, upd_ne e, upd_ne e]
  have oldKept : ∀ o : HO, Same H1 (upd H1 D o) := fun o b u e => by rw [upd_ne (ne_of_none e nD)]; exact e
  have itFree : ∀ o : HO, upd H1 D o it = none := fun o => by rw [upd_ne ne0]; exact fpI.1
  have hotAt : ∀ {σ5 : St} {H5 : Hp} {s5 : Shared}, Inv (X.blk s3 (upd H1 D (.lst [])) scope ce [it]) [] σ5 H5 s5 → HotAt X.A hp.1 s5.heap := fun I5 =>
    ⟨hah, hp.2, hvs, I5.base.keep hp.1 hp.2 pin3.1 pin3.2.1 nostk (fun hm => noit (List.mem_singleton.mp hm)), hfd, hnn⟩
  have fixed : ∀ {σ5 : St} {H5 : Hp} {s5 : Shared}, Inv (X.blk s3 (upd H1 D (.lst [])) scope ce [it]) [] σ5 H5 s5 → H5 it = none → FpOk (X.blk s3 (upd H1 D (.lst [])) scope ce [it]) [] H5 it := fun I5 hn =>
    ⟨hn, (I5.ok.exf it List.mem_cons_self).1, I5.ok.exfs it List.mem_cons_self, .inl List.mem_cons_self, fun x c e => (I5.ok.exf it List.mem_cons_self).2 x c e, fun p hp => nomatch hp⟩
  have main : codeAny (model X.prog X.w) X.A (.compLoop (.ListComp elt [⟨tg, iter, [], 0⟩] scope pos) 0 (.ref it) (.ref D) ce) (compPost (model X.prog X.w) X.A X.xe none (EP X pins σ Q) (.ref D) s3.heap.objs.size) s4 := by
    refine compLoop_any (fun n s' => ∃ i, n = xs.length - i ∧ i ≤ xs.length ∧ Inv (X.blk s3 (upd H1 D (.lst [])) scope ce [it]) [] (wipe σ (own.map (·.2))) (upd H1 D (.lst ((xs.take i).map f))) s' ∧ s'.heap.IsListIter it a i) ?_ xs.length ⟨0, rfl, Nat.zero_le _, I4, itr4⟩
    rintro n s5 ⟨i, rfl, hi, I5, it5⟩
    obtain ⟨its5, vals5, plain5, _⟩ := I5.list (show SqL X.K _ a xs from (oldKept _).seq sq)
    obtain ⟨f0, f1, f2, f3, f4, f5⟩ := fixed I5 (itFree _)
    have len5 : xs.length = its5.length := vals5.length
    by_cases c : i < xs.length
    · obtain ⟨u, hu, ru⟩ := vals5.get (List.getElem?_eq_getElem c)
      refine wpAny_pyNext_list_item it5 plain5.isList (x := u) (by simpa using hu) fun h' next sb => ?_
      have I6 := I5.turned (h' := h') (t' := s5.toks) (fun b o hb e => (sb.2 b hb).trans e) f0 f1 f3 f4 f5
      obtain ⟨oi, ei, ci, di⟩ := next
      refine go_of (s := { s5 with heap := h' }) ei ci di (by decide) ?_
      have I6p := I6.pinned (fp := [it]) (fun b hb => by rw [List.mem_singleton.mp hb]; exact fixed I6 (itFree _)) (fun b hb => by rw [List.mem_singleton.mp hb]; exact ⟨oi, ei, fun v z => by rw [di] at z; cases z⟩)
      refine thnF (pg0.run _ _ _ _ xs[i] u _ I6p ru (each _ (List.getElem_mem c) _)) fun _ s7 ⟨σ7, H7, I7, hw, q7⟩ => ?_
      refine wpAny_tests_nil ?_
      rw [if_pos rfl]
      refine thnF (pe0.run _ s7 σ7 H7 _ I7 q7) fun z s8 ⟨yv, H8, I8, r8, ez, eH⟩ => ?_
      subst ez eH
      refine app_ok (X := X.blk s3 (upd H1 D (.lst [])) scope ce [it]) I8 upd_same (by rw [List.length_map, List.length_take]; omega) r8 fun s9 I9 => ?_
      have pinned := (I9.pin (it, oi) (List.mem_append_right _ (List.mem_append_right _ (mem_pinsAt List.mem_cons_self ei)))).1
      refine ⟨xs.length - (i + 1), by omega, i + 1, rfl, c, ?_, ⟨oi, pinned, ci, di⟩⟩
      have I10 := (I9.unpinned (pins := [])).weak (σ' := wipe σ (own.map (·.2))) (by rw [← hw, wipe_length]) fun j v e => by
        rw [← hw] at e
        exact (wipe_some e).1
      rw [twice, show (xs.take i).map f ++ [f xs[i]] = (xs.take (i + 1)).map f by rw [List.take_succ, List.getElem?_eq_getElem c, List.map_append]; rfl] at I10
      exact I10
    · obtain rfl : i = xs.length := by omega
      refine list_over_hot (hotAt I5) it5 plain5.isList (by simp; omega) fun h' kept => ?_
      have I6 := I5.turned (h' := h') (t' := s5.toks) kept f0 f1 f3 f4 f5
      have I7 : Inv X pins σ _ _ := I3.call' (ch := [it]) I6.os I6.base I6.hok I6.bare fun b hb => by
        have z := (frs3 b hb).1
        exact ⟨z.2.2.2.1, z.2.1, z.2.2.2.2.1, z.2.2.2.2.2⟩
      obtain ⟨m, hns, _⟩ := I6.loc
      obtain ⟨_, c1, c2, c3, c4, c5⟩ := fpC
      refine ⟨m, hns, fun h2 sb => ⟨.ref D, _, I7.turned (t' := s5.toks) (fun b o hb e => (sb.2 b hb).trans e) ?_ c1 c3 c4 c5, rfl, ?_⟩⟩
      · rw [upd_ne neDC]
        exact noC1
      · rw [List.take_length]
        exact q D nD
  exact codeAny_compStart_list main (wpAny_pyIter_listiter itr4 main)
end L2
namespace L2
open PySem PySem.Spec PyProof.Rows
/-- a def whose errors have no context -/
theorem Fun.okXN {P : Program} {w : World} {K : PySem.W.Frag} {mg : Str → Option Value} {base : Heap} {x qual : Str} {st : Stmt} {f : Addr} {fd : FuncData} {N ps : List Str} {k : Nat} {sp : Sp} (F : Fun K x qual st f fd) (S : FnScope N ps (defScope st))
    (len : ∀ vs H Q E, sp vs H Q E → vs.length = ps.length)
    (body : ∀ (cdv : Value) (A : Around) (outer : List Env) (s : Shared) (H : Hp) (vs : List V) (Q : VK) (E : XK), Room k (A.deeper (envOfC qual (defScope st) s.heap.objs.size f cdv)) → sp vs H Q E →
      ∃ t, PSs (cxOf (L2N.CX P w) P w K mg base N qual (defScope st) f cdv A outer s H E) (defBody st) t ∧ t { nx := fun _ H' => Q .non H', rt := Q } (start N vs) H) : FnOk P w K mg base (L2N.CX P w) (k + 1) f fd ps sp := by
  obtain ⟨_, _, _, _, _, _, _, _, _, rfl, known, coded⟩ := F.ex
  exact fn_of known coded S len fun A outer s H vs Q E room hsp => body _ A outer s H vs Q E room hsp
/-- what an except suite knows -/
theorem hotS_of {X : Cx} {a : Addr} {oe : Obj} {pn : List (Addr × Obj)} {cls : Value} {d : Option Addr} (hz : L2N.Zn cls d oe) (hf : ∃ vs, oe.data = .fields vs) : HotS (X.suite a ((a, oe) :: pn)) := by
  obtain ⟨vs, e⟩ := hf
  exact ⟨(a, oe), List.mem_cons_self, rfl, vs, e, hz.2.2 vs e⟩
end L2
namespace L2
open PySem PySem.Spec PyProof.Rows
theorem passLN {X : Cx} : Passes (L2N.CX X.prog X.w) X E0 := fun _ _ _ _ _ _ _ h => by
  obtain ⟨_, _, _, _, _, _, _, _, _, _, _, _, no⟩ := h
  exact no.elim
theorem takes0N {X : Cx} : L2N.Takes X (fun _ _ _ _ => False) := fun _ _ h => by
  obtain ⟨_, _, _, _, _, _, _, _, _, _, _, _, _, _, _, _, no⟩ := h
  exact no.elim
end L2
namespace L2
open PySem PySem.Spec PyProof.Rows
theorem pe_lcMapK {X : Cx} {K : PySem.W.Frag} {elt tg iter : Expr} {scope : Scope} {own : List (Str × Nat)} {pos : Pos} {tl : TE} {g : TG} {te : TE} (hK : X.K = K) (nd : X.N.Nodup) (walked : PE X iter tl) (okb : BlkOk X.N X.env.scope scope own)
    (pgAll : ∀ (s : Shared) (H : Hp) (C : Addr) (cl : List (Str × Addr)) (fp : List Addr), PG (X.blk s H scope (compEnvC scope cl C X.env) fp) tg g)
    (peAll : ∀ (s : Shared) (H : Hp) (C : Addr) (cl : List (Str × Addr)) (fp : List Addr), PE (X.blk s H scope (compEnvC scope cl C X.env) fp) elt te) (hotX : HotS X)
    (fold : ∀ x, foldedSetIterable iter X.env x = pure x := by intro _; rfl) : PE X (.ListComp elt [⟨tg, iter, [], 0⟩] scope pos) (tLcMap K tl g te (own.map (·.2))) := by
  subst hK
  exact pe_lcMap hotX nd walked okb pgAll peAll fold
end L2

/-! ### the difference of two sets of small ints -/
namespace L2
open PySem PySem.Spec PyProof.Rows
namespace SD
/-! tables -/
def it (m : Nat) : Nat → Nat → Nat
  | i, 0 => i
  | i, k + 1 => it m ((i * 5 + 1) % (m + 1)) k
def roundB (m : Nat) : Bool := (List.range (m + 1)).all fun i => (List.range (m + 1)).all fun j => (List.range (m + 1)).any fun k => it m i k == j
theorem round_ok {m : Nat} (hm : m = 7 ∨ m = 15 ∨ m = 31 ∨ m = 63) : roundB m = true := by
  rcases hm with rfl | rfl | rfl | rfl <;> decide +kernel
theorem it_all {m i j : Nat} (hm : m = 7 ∨ m = 15 ∨ m = 31 ∨ m = 63) (hi : i ≤ m) (hj : j ≤ m) : ∃ k, k ≤ m ∧ it m i k = j := by
  have h1 := List.all_eq_true.mp (round_ok hm) i (List.mem_range.mpr (by omega))
  have h2 := List.all_eq_true.mp h1 j (List.mem_range.mpr (by omega))
  obtain ⟨k, hk, e⟩ := List.any_eq_true.mp h2
  have := List.mem_range.mp hk
  exact ⟨k, by omega, beq_iff_eq.mp e⟩
def occ (owner : Array (Option Nat)) (j : Nat) : Bool := (owner.getD j (some 0)).isNone
theorem free_cons (m : Nat) (owner : Array (Option Nat)) (f i b : Nat) : SetTable.layClean.free m owner (f + 1) i b = match (List.range (SetTable.runEnd m i + 1 - i)).find? (fun k => occ owner (i + k)) with
    | some k => some (i + k)
    | none => SetTable.layClean.free m owner f (SetTable.leap m i b).1 (SetTable.leap m i b).2 := by
  rw [SetTable.layClean.free]
  rfl
theorem free_is (m : Nat) (owner : Array (Option Nat)) : ∀ (f i b j : Nat), SetTable.layClean.free m owner f i b = some j → occ owner j = true
  | 0, i, b, j, h => by rw [SetTable.layClean.free] at h; cases h
  | f + 1, i, b, j, h => by
    rw [free_cons] at h
    cases e : (List.range (SetTable.runEnd m i + 1 - i)).find? (fun k => occ owner (i + k)) with
    | some k =>
      rw [e] at h
      have := List.find?_some e
      obtain rfl := Option.some.inj h
      exact this
    | none =>
      rw [e] at h
      exact free_is m owner f _ _ j h
theorem free_no (m : Nat) (owner : Array (Option Nat)) : ∀ (f i b : Nat), b < 32 → SetTable.layClean.free m owner f i b = none → ∀ k, k < f → occ owner (it m i k) = false
  | 0, i, b, hb, h, k, hk => absurd hk (Nat.not_lt_zero k)
  | f + 1, i, b, hb, h, k, hk => by
    rw [free_cons] at h
    cases e : (List.range (SetTable.runEnd m i + 1 - i)).find? (fun k => occ owner (i + k)) with
    | some k => rw [e] at h; cases h
    | none =>
      rw [e] at h
      have hz : b / 32 = 0 := Nat.div_eq_of_lt hb
      have el : SetTable.leap m i b = ((i * 5 + 1) % (m + 1), 0) := by
        unfold SetTable.leap
        rw [hz]
      cases k with
      | zero =>
        have := List.find?_eq_none.mp e 0 (List.mem_range.mpr (by unfold SetTable.runEnd; split <;> omega))
        rw [Nat.add_zero] at this
        show occ owner i = false
        exact Bool.not_eq_true _ ▸ this
      | succ k =>
        have h' : SetTable.layClean.free m owner f ((i * 5 + 1) % (m + 1)) 0 = none := by
          rw [el] at h
          exact h
        exact free_no m owner f _ 0 (by decide) h' k (by omega)
theorem set_perm {k : Nat} : ∀ (l : List (Option Nat)) (j : Nat), l[j]? = some none → ((l.set j (some k)).filterMap id).Perm (k :: l.filterMap id)
  | [], j, h => by cases h
  | x :: l, 0, h => by
    obtain rfl : x = none := Option.some.inj h
    exact List.Perm.refl _
  | x :: l, j + 1, h => by
    have ih := set_perm (k := k) l j h
    cases x with
    | none => exact ih
    | some y => exact (ih.cons y).trans (List.Perm.swap k y _)
structure Lay (m : Nat) (owner : Array (Option Nat)) (k : Nat) : Prop where
  sz : owner.size = m + 1
  pm : (owner.toList.filterMap id).Perm (List.range k)
theorem all_some : ∀ (l : List (Option Nat)), (∀ j, j < l.length → l[j]? ≠ some none) → (l.filterMap id).length = l.length
  | [], _ => rfl
  | none :: l, h => absurd rfl (h 0 (Nat.zero_lt_succ _))
  | some y :: l, h => congrArg Nat.succ (all_some l fun j hj => h (j + 1) (Nat.succ_lt_succ hj))
theorem occ_iff {owner : Array (Option Nat)} {j : Nat} : occ owner j = true ↔ owner.toList[j]? = some none := by
  unfold occ
  rw [Array.getElem?_toList, Array.getD_eq_getD_getElem?]
  cases e : owner[j]? with
  | none => simp
  | some x => cases x <;> simp
theorem bits_small {h : Int} (h0 : 0 ≤ h) (h1 : h < 32) : SetTable.bits h < 32 := by
  unfold SetTable.bits
  omega
theorem lay_step {m k : Nat} {owner : Array (Option Nat)} {h : Int} (hm : m = 7 ∨ m = 15 ∨ m = 31 ∨ m = 63) (L : Lay m owner k) (hk : k ≤ m) (h0 : 0 ≤ h) (h1 : h < 32) :
    ∃ owner', stepF m (some (owner, k)) h = some (owner', k + 1) ∧ Lay m owner' (k + 1) := by
  cases e : SetTable.layClean.free m owner (SetTable.turns m) (SetTable.bits h % (m + 1)) (SetTable.bits h) with
  | none =>
    exfalso
    have no := free_no m owner _ _ _ (bits_small h0 h1) e
    have len : (owner.toList.filterMap id).length = owner.toList.length := all_some _ fun j hj z => by
      rw [Array.length_toList, L.sz] at hj
      obtain ⟨c, hc, ec⟩ := it_all hm (i := SetTable.bits h % (m + 1)) (j := j) (Nat.le_of_lt_succ (Nat.mod_lt _ (Nat.succ_pos m))) (by omega)
      have := no c (by unfold SetTable.turns; omega)
      rw [ec, occ_iff.mpr z] at this
      cases this
    rw [L.pm.length_eq, List.length_range, Array.length_toList, L.sz] at len
    omega
  | some j =>
    have hj := occ_iff.mp (free_is m owner _ _ _ _ e)
    refine ⟨owner.setIfInBounds j (some k), stepF_some e, by rw [Array.size_setIfInBounds]; exact L.sz, ?_⟩
    rw [Array.toList_setIfInBounds, List.range_succ]
    exact (set_perm _ _ hj).trans ((L.pm.cons k).trans (List.perm_append_singleton k _).symm)
theorem lay_fold {m : Nat} (hm : m = 7 ∨ m = 15 ∨ m = 31 ∨ m = 63) : ∀ (hs : List Int) (k : Nat) (owner : Array (Option Nat)), Lay m owner k → (∀ h ∈ hs, 0 ≤ h ∧ h < 32) → k + hs.length ≤ m + 1 →
    ∃ owner', hs.foldl (stepF m) (some (owner, k)) = some (owner', k + hs.length) ∧ Lay m owner' (k + hs.length)
  | [], k, owner, L, _, _ => ⟨owner, rfl, L⟩
  | h :: hs, k, owner, L, hb, hn => by
    rw [List.length_cons] at hn
    obtain ⟨o1, e1, L1⟩ := lay_step hm L (by omega) (hb h List.mem_cons_self).1 (hb h List.mem_cons_self).2
    obtain ⟨o2, e2, L2⟩ := lay_fold hm hs (k + 1) o1 L1 (fun x hx => hb x (List.mem_cons_of_mem _ hx)) (by omega)
    refine ⟨o2, ?_, ?_⟩
    · rw [List.foldl_cons, e1, e2, List.length_cons]
      congr 2
      omega
    · rw [List.length_cons, show k + (hs.length + 1) = k + 1 + hs.length by omega]
      exact L2
theorem fm_congr {α β : Type} {f g : α → Option β} : ∀ {l : List α}, (∀ x ∈ l, f x = g x) → l.filterMap f = l.filterMap g
  | [], _ => rfl
  | x :: l, h => by
    rw [List.filterMap_cons, List.filterMap_cons, h x List.mem_cons_self, fm_congr fun y hy => h y (List.mem_cons_of_mem _ hy)]
theorem live_snd (l : List (Option Nat)) : ((List.range l.length).filterMap fun j => (l.getD j none).map fun x => (j, x)).map (·.2) = l.filterMap id := by
  induction l with
  | nil => rfl
  | cons x l ih =>
    rw [List.length_cons, List.range_succ_eq_map, List.filterMap_cons, List.filterMap_map]
    have e : ((List.range l.length).filterMap ((fun j => ((x :: l).getD j none).map fun y => (j, y)) ∘ Nat.succ)).map (·.2) = l.filterMap id := by
      rw [← ih, List.map_filterMap, List.map_filterMap]
      refine fm_congr fun j _ => ?_
      show Option.map _ (Option.map _ ((x :: l).getD (j + 1) none)) = _
      rw [List.getD_cons_succ, Option.map_map, Option.map_map]
      rfl
    cases x with
    | none => exact e
    | some y =>
      show y :: _ = y :: _
      rw [e]
theorem laid_ok {m finger moves : Nat} {led plain : Bool} {hs : Array Int} (hm : m = 7 ∨ m = 15 ∨ m = 31 ∨ m = 63) (hb : ∀ h ∈ hs.toList, 0 ≤ h ∧ h < 32) (hn : hs.size ≤ m) :
    ∃ t order, SetTable.laid m finger moves led plain hs = some (t, order) ∧ order.toList.Perm (List.range hs.size) ∧ t.fits hs.size = true ∧ t.mask = m ∧ t.dummies = #[] := by
  have L0 : Lay m (Array.replicate (m + 1) none) 0 := ⟨Array.size_replicate, by
    rw [Array.toList_replicate]
    have : ∀ n, (List.replicate n (none : Option Nat)).filterMap id = [] := fun n => by
      induction n with
      | zero => rfl
      | succ n ih => rw [List.replicate_succ]; exact ih
    rw [this]
    exact .refl _⟩
  obtain ⟨owner, e, L⟩ := lay_fold hm hs.toList 0 _ L0 hb (by rw [Array.length_toList]; omega)
  rw [Nat.zero_add, Array.length_toList] at e L
  have ec : SetTable.layClean m hs = some owner := by
    rw [layClean_eq, e]
    rfl
  have eg : ∀ j, owner.getD j none = owner.toList.getD j none := fun j => by
    rw [Array.getD_eq_getD_getElem?, List.getD_eq_getElem?_getD, Array.getElem?_toList]
  have el : (List.range (m + 1)).filterMap (fun j => (owner.getD j none).map fun x => (j, x)) = (List.range owner.toList.length).filterMap fun j => (owner.toList.getD j none).map fun x => (j, x) := by
    rw [Array.length_toList, L.sz]
    exact fm_congr fun j _ => by rw [eg]
  have pm : (((List.range (m + 1)).filterMap fun j => (owner.getD j none).map fun x => (j, x)).map (·.2)).Perm (List.range hs.size) := by
    rw [el, live_snd]
    exact L.pm
  have lenl : ((List.range (m + 1)).filterMap fun j => (owner.getD j none).map fun x => (j, x)).length = hs.size := by
    have := pm.length_eq
    rw [List.length_map, List.length_range] at this
    exact this
  refine ⟨{ mask := m, place := (((List.range (m + 1)).filterMap fun j => (owner.getD j none).map fun x => (j, x)).map (·.1)).toArray, dummies := #[], finger, led, moves, plain }, (((List.range (m + 1)).filterMap fun j => (owner.getD j none).map fun x => (j, x)).map (·.2)).toArray, ?_, pm, ?_, rfl, rfl⟩
  · unfold SetTable.laid
    rw [ec]
    rfl
  · unfold SetTable.fits SetTable.fill
    dsimp only
    rw [List.size_toArray, List.length_map, lenl]
    simp [hn]
end SD
end L2

namespace L2
open PySem PySem.Spec PyProof.Rows
namespace SD
/-- a set of ints, as it stands -/
structure Is (h : Heap) (a : Addr) (es : Array (Int × Value)) (ep : Nat) (t : SetTable) : Prop where
  at' : ∃ o, h.get? a = some o ∧ o.ExactSet ∧ o.data = .set es ep t
  good : ∀ e ∈ es.toList, GoodE e
  nd : (es.toList.map keyOf).Nodup
  lt : es.size < scanBound
  fit : t.fits es.size = true
theorem Is.of {w : World} {h : Heap} {a : Addr} {S : Int → Bool} {n : Nat} (R : SetR w h a S n) :
    ∃ es ep t, Is h a es ep t ∧ (∀ k, S k = true ↔ k ∈ es.toList.map keyOf) ∧ es.size = n ∧ (w.params.followText "set-order" = true ∨ t.led = true) := by
  obtain ⟨o, es, ep, t, ho, hx, hd, g, nd, hm, hb, hf, hn, _, hl⟩ := R
  exact ⟨es, ep, t, ⟨⟨o, ho, hx, hd⟩, g, nd, hb, hf⟩, hm, hn, hl⟩
theorem Is.same {h h' : Heap} {a b : Addr} {es : Array (Int × Value)} {ep : Nat} {t : SetTable} (I : Is h a es ep t) (s : Heap.SameBut b h h') (ne : a ≠ b) : Is h' a es ep t := by
  obtain ⟨⟨o, ho, r⟩, g, nd, lt, f⟩ := I
  exact ⟨⟨o, by rw [s.2 a ne]; exact ho, r⟩, g, nd, lt, f⟩
theorem Is.keep {h h' : Heap} {a : Addr} {es : Array (Int × Value)} {ep : Nat} {t : SetTable} (I : Is h a es ep t) (k : ∀ o, h.get? a = some o → h'.get? a = some o) : Is h' a es ep t := by
  obtain ⟨⟨o, ho, r⟩, g, nd, lt, f⟩ := I
  exact ⟨⟨o, k o ho, r⟩, g, nd, lt, f⟩
theorem Is.type {s : Shared} {a : Addr} {es : Array (Int × Value)} {ep : Nat} {t : SetTable} (I : Is s.heap a es ep t) : s.TypeIs (.ref a) "set" := by
  obtain ⟨⟨o, ho, hx, _⟩, _⟩ := I
  exact ⟨o, ho, hx.1⟩
section
variable {P : Program} {w : World} {A : Around} {E : Value → Shared → Prop} {s : Shared} {a : Addr} {es : Array (Int × Value)} {ep : Nat} {t : SetTable}
theorem state (I : Is s.heap a es ep t) {Q : (Array (Int × Value) × Nat × SetTable) → Shared → Prop} (h : Q (es, ep, t) s) : wpAny (model P w) A (setState a) Q E s := by
  obtain ⟨⟨o, ho, _, hd⟩, _, _, _, f⟩ := I
  exact wpAny_setState_of ho hd f h
theorem epoch (I : Is s.heap a es ep t) {Q : Nat → Shared → Prop} (h : Q ep s) : wpAny (model P w) A (setEpoch a) Q E s := by
  obtain ⟨⟨o, ho, _, hd⟩, _, _, _, f⟩ := I
  exact wpAny_setEpoch_of ho hd f h
theorem entries (I : Is s.heap a es ep t) {Q : Array (Int × Value) → Shared → Prop} (h : Q es s) : wpAny (model P w) A (setEntries a) Q E s := by
  obtain ⟨⟨o, ho, _, hd⟩, _, _, _, f⟩ := I
  exact wpAny_setEntries_of ho hd f h
theorem size (I : Is s.heap a es ep t) {Q : Nat → Shared → Prop} (h : Q es.size s) : wpAny (model P w) A (Builtin.Frozenset.sizeOf a) Q E s := by
  unfold Builtin.Frozenset.sizeOf
  exact wpAny_bind (entries I (wpAny_pure h))
theorem anySet (I : Is s.heap a es ep t) {Q : Bool → Shared → Prop} (h : Q true s) : wpAny (model P w) A (Builtin.Frozenset.isAnySet (.ref a)) Q E s := by
  unfold Builtin.Frozenset.isAnySet
  have z := I.type
  have hs := sub_set_self
  obtain ⟨hp, g, d, tk, os⟩ := s
  refine wpAny_bind (m := isInstance (.ref a) (.type "set")) (wpAny_isInstance z hs ?_)
  exact wpAny_pure h
theorem base (I : Is s.heap a es ep t) {Q : Value → Shared → Prop} (h : Q (.type "set") s) : wpAny (model P w) A (Builtin.Frozenset.baseOf a) Q E s := by
  unfold Builtin.Frozenset.baseOf
  exact wpAny_bind (wpAny_isInstance I.type sub_set_self (wpAny_pure h))
theorem not_ref {e : Int × Value} (g : GoodE e) : ∀ b, e.2 ≠ .ref b := fun b z => by
  obtain ⟨k, tk, e1, _⟩ := g
  rw [e1] at z
  cases z

theorem quiet {l : List Addr} {Q : Bool → Shared → Prop} (hl : ∀ b ∈ l, ∃ es ep t, Is s.heap b es ep t) (h : Q true s) : wpAny (model P w) A (setsQuiet l) Q E s := by
  unfold setsQuiet
  refine wpAny_bind (wpAny_forIn_list _ (fun rest (x : Option Bool × Unit) s' => s' = s ∧ x.1 = none ∧ ∀ c ∈ rest, c ∈ l) _ (fun c rest x s1 hI => ?_) (fun x s1 hI => ?_) l (none, ()) ⟨rfl, rfl, fun c hc => hc⟩)
  · obtain ⟨rfl, hx, hc⟩ := hI
    obtain ⟨es, ep, t, I⟩ := hl c (hc c List.mem_cons_self)
    refine wpAny_bind (entries I ?_)
    refine wpAny_bind (wpAny_forIn_array' _ (fun rest (x : Option Bool × Unit) s' => s' = s1 ∧ x = (none, ()) ∧ ∀ e ∈ rest, GoodE e) _ (fun e rest x s2 hJ => ?_) (fun x s2 hJ => ?_) es (none, ()) ⟨rfl, rfl, I.good⟩)
    · obtain ⟨rfl, rfl, hg⟩ := hJ
      obtain ⟨k, tk, e1, _⟩ := hg e List.mem_cons_self
      obtain ⟨e0, e2⟩ := e
      dsimp only at e1
      subst e1
      exact wpAny_pure ⟨rfl, rfl, fun y hy => hg y (List.mem_cons_of_mem _ hy)⟩
    · obtain ⟨rfl, rfl, _⟩ := hJ
      exact wpAny_pure ⟨rfl, rfl, fun y hy => hc y (List.mem_cons_of_mem _ hy)⟩
  · obtain ⟨rfl, hx, _⟩ := hI
    obtain ⟨x1, x2⟩ := x
    dsimp only at hx
    subst hx
    exact wpAny_pure h
/-- the order in which a set is gone through: any -/
theorem walk0 (I : Is s.heap a es ep t) (hl : w.params.followText "set-order" = true ∨ t.led = true) (hp : w.params.followText "set-order" = true ∨ (t.plain = true ∨ es.size ≤ 1)) {Q : Array (Int × Value) → Shared → Prop}
    (h : ∀ es' : Array (Int × Value), es'.toList.Perm es.toList → Q es' s) : wpAny (model P w) A (setWalk a) Q E s := by
  unfold setWalk
  refine wpAny_bind (state I ?_)
  dsimp only
  refine wpAny_bind (wpAny_byText ?_)
  by_cases c : w.params.followText "set-order" = true
  · refine wp_if_pos c ?_
    exact wpAny_bind (wpAny_askSetting (wpAny_pure (h _ (pick_perm _ _))))
  · refine wp_if_neg c ?_
    try refine wpAny_bind (wpAny_pure ?_)
    have hl := hl.resolve_left c
    have hp := hp.resolve_left c
    refine wp_if_neg (by
      show ¬ ((!t.plain && decide (es.size > 1)) = true)
      rcases hp with z | z
      · rw [z]; exact Bool.false_ne_true
      · rw [decide_eq_false (by omega), Bool.and_false]; exact Bool.false_ne_true) ?_
    try refine wpAny_bind (wpAny_pure ?_)
    refine wpAny_bind (wpAny_of_eq (a := ()) ?_ ?_)
    · show (if (!t.led && decide (es.size > 1)) = true then unsupported "set:maker-not-led" else pure ()) = pure ()
      rw [hl]
      rfl
    · exact wpAny_pure (h _ (List.Perm.refl _))
theorem walkN (I : Is s.heap a es ep t) (hl : w.params.followText "set-order" = true ∨ t.led = true) {others : List Addr} (ho : ∀ b ∈ others, ∃ es ep t, Is s.heap b es ep t) {Q : Array (Int × Value) → Shared → Prop}
    (h : ∀ es' : Array (Int × Value), es'.toList.Perm es.toList → Q es' s) : wpAny (model P w) A (setWalkUnseen a others none) Q E s := by
  unfold setWalkUnseen
  refine wpAny_bind (state I ?_)
  dsimp only
  refine wpAny_bind (wpAny_byText ?_)
  by_cases c : (w.params.followText "set-order" || t.led && t.plain || decide (es.size ≤ 1)) = true
  · refine wp_if_pos c (walk0 I hl ?_ h)
    rw [Bool.or_eq_true, Bool.or_eq_true, Bool.and_eq_true, decide_eq_true_eq] at c
    rcases c with (z | z) | z
    · exact .inl z
    · exact .inr (.inl z.2)
    · exact .inr (.inr z)
  · refine wp_if_neg c ?_
    refine wpAny_bind (quiet (l := a :: others) (fun b hb => ?_) ?_)
    · rcases List.mem_cons.mp hb with rfl | hb
      · exact ⟨_, _, _, I⟩
      · exact ho b hb
    · refine wp_if_neg (by simp) ?_
      refine wpAny_bind (wpAny_rule ?_)
      exact wpAny_pure (h _ (List.Perm.refl _))
theorem walkF (I : Is s.heap a es ep t) (hl : w.params.followText "set-order" = true ∨ t.led = true) {others : List Addr} (ho : ∀ b ∈ others, ∃ es ep t, Is s.heap b es ep t) {r : Addr} {S : Int → Bool} {n : Nat} (R : SetR w s.heap r S n)
    {Q : Array (Int × Value) → Shared → Prop}
    (h : ∀ (es' : Array (Int × Value)) h', es'.toList.Perm es.toList → Heap.SameBut r s.heap h' → SetR w h' r S n → Q es' { s with heap := h' }) : wpAny (model P w) A (setWalkUnseen a others (some r)) Q E s := by
  unfold setWalkUnseen
  have h0 : ∀ es' : Array (Int × Value), es'.toList.Perm es.toList → Q es' s := fun es' p => h es' s.heap p (Heap.SameBut.refl r s.heap) R
  refine wpAny_bind (state I ?_)
  dsimp only
  refine wpAny_bind (wpAny_byText ?_)
  by_cases c : (w.params.followText "set-order" || t.led && t.plain || decide (es.size ≤ 1)) = true
  · refine wp_if_pos c (walk0 I hl ?_ h0)
    rw [Bool.or_eq_true, Bool.or_eq_true, Bool.and_eq_true, decide_eq_true_eq] at c
    rcases c with (z | z) | z
    · exact .inl z
    · exact .inr (.inl z.2)
    · exact .inr (.inr z)
  · refine wp_if_neg c ?_
    refine wpAny_bind (quiet (l := a :: others) (fun b hb => ?_) ?_)
    · rcases List.mem_cons.mp hb with rfl | hb
      · exact ⟨_, _, _, I⟩
      · exact ho b hb
    · refine wp_if_neg (by simp) ?_
      refine wpAny_bind (wpAny_rule ?_)
      try dsimp only
      obtain ⟨o, er, epr, tr, hor, hx, hd, g, nd, hm, hb, hf, hn, hr, hlr⟩ := R
      refine wpAny_bind (wpAny_setState_of hor hd hf ?_)
      dsimp only
      split
      · refine wpAny_bind (wpAny_storeSet_of hor hd ?_ (fits_of_scanBound hb))
        refine wpAny_pure (h _ _ (List.Perm.refl _) (Heap.SameBut.update s.heap r _) ⟨_, er, _, _, store_at hor hd, hx, rfl, g, nd, hm, hb, hf, hn, hr, ?_⟩)
        rcases hlr with z | z
        · exact .inl z
        · rcases hl with y | y
          · exact .inl y
          · exact .inr (by rw [z, y]; rfl)
      · exact wpAny_pure (h0 _ (List.Perm.refl _))
end
end SD
end L2

namespace L2
open PySem PySem.Spec PyProof.Rows
namespace SD
section
variable {P : Program} {w : World} {A : Around} {E : Value → Shared → Prop} {s : Shared} {a : Addr} {es : Array (Int × Value)} {ep : Nat} {t : SetTable}
theorem sizeM : ∀ n, n < 32 → 5 ≤ n → (SetTable.sizeAbove ((0 + n) * 2) - 1 = 15 ∨ SetTable.sizeAbove ((0 + n) * 2) - 1 = 31 ∨ SetTable.sizeAbove ((0 + n) * 2) - 1 = 63) ∧ n ≤ SetTable.sizeAbove ((0 + n) * 2) - 1 := by decide +kernel
/-- r, empty: room for n more -/
theorem room_at {r : Addr} {n ep0 : Nat} {led : Bool} (hn : n < 32) (ho : ∃ o, s.heap.get? r = some o ∧ o.ExactSet ∧ o.data = .set #[] ep0 (.fresh 0 0 led)) {Q : Unit → Shared → Prop}
    (h : ∀ h' ep' t', Heap.SameBut r s.heap h' → (∃ o, h'.get? r = some o ∧ o.ExactSet ∧ o.data = .set #[] ep' t') → t'.place = #[] → t'.dummies = #[] → (t'.mask = 7 ∨ t'.mask = 15 ∨ t'.mask = 31 ∨ t'.mask = 63) → n ≤ t'.mask → Q () { s with heap := h' }) :
    wpAny (model P w) A (setRoomFor r n) Q E s := by
  obtain ⟨o, ho, hx, hd⟩ := ho
  have hf : (SetTable.fresh 0 0 led).fits (#[] : Array (Int × Value)).size = true := rfl
  unfold setRoomFor
  refine wpAny_bind (wpAny_setState_of ho hd hf ?_)
  unfold SetTable.roomFor
  by_cases c : n ≤ 4
  · have e : ¬ ((SetTable.fresh 0 0 led).fill + n) * 5 ≥ (SetTable.fresh 0 0 led).mask * 3 := by
      show ¬ (0 + n) * 5 ≥ 7 * 3
      omega
    rw [if_neg e]
    exact wpAny_pure (h s.heap ep0 _ (Heap.SameBut.refl r s.heap) ⟨o, ho, hx, hd⟩ rfl rfl (.inl rfl) (by show n ≤ 7; omega))
  · have e : ((SetTable.fresh 0 0 led).fill + n) * 5 ≥ (SetTable.fresh 0 0 led).mask * 3 := by
      show (0 + n) * 5 ≥ 7 * 3
      omega
    rw [if_pos e]
    obtain ⟨hm, hle⟩ := sizeM n hn (by omega)
    show wpAny _ _ (setRelay r ((0 + n) * 2)) Q E s
    unfold setRelay
    refine wpAny_bind (wpAny_setState_of ho hd hf ?_)
    dsimp only
    refine wp_if_neg (by rw [sizeLine_eq]; omega) ?_
    try refine wpAny_bind (wpAny_pure ?_)
    obtain ⟨t1, order, el, pm, f1, m1, d1⟩ := laid_ok (m := SetTable.sizeAbove ((0 + n) * 2) - 1) (finger := 0) (moves := (SetTable.fresh 0 0 led).movedTo (SetTable.sizeAbove ((0 + n) * 2) - 1)) (led := led) (plain := true) (hs := (#[] : Array Int)) (.inr hm) (fun x hx => by cases hx) (Nat.zero_le _)
    have er : (SetTable.fresh 0 0 led).relaid ((#[] : Array (Int × Value)).map (·.1)) ((0 + n) * 2) = some (t1, order) := by
      unfold SetTable.relaid
      rw [show (#[] : Array (Int × Value)).map (·.1) = #[] from by simp]
      exact el
    have oz : order = #[] := by
      have := pm.length_eq
      rw [Array.length_toList] at this
      exact Array.eq_empty_of_size_eq_zero this
    rw [er, oz]
    have pz : t1.place = #[] := by
      unfold SetTable.fits at f1
      rw [Bool.and_eq_true, beq_iff_eq] at f1
      exact Array.eq_empty_of_size_eq_zero f1.1
    refine wpAny_bind (wpAny_of_eq (a := ((#[] : Array (Int × Value)), t1)) rfl ?_)
    dsimp only
    refine wpAny_storeSet_of ho hd ?_ (Nat.zero_le _)
    exact h _ _ t1 (Heap.SameBut.update s.heap r _) ⟨_, store_at ho hd, hx, rfl⟩ pz d1 (.inr (m1 ▸ hm)) (by rw [m1]; exact hle)
theorem fit_le {t : SetTable} {n : Nat} (h : t.fits n = true) : t.place.size = n ∧ t.fill ≤ t.mask := by
  unfold SetTable.fits at h
  rw [Bool.and_eq_true, beq_iff_eq, decide_eq_true_eq] at h
  exact h
theorem fm_get {α : Type} (l : List α) : (List.range l.length).filterMap (fun i => l[i]?) = l := by
  induction l with
  | nil => rfl
  | cons x l ih =>
    rw [List.length_cons, List.range_succ_eq_map, List.filterMap_cons, List.filterMap_map]
    exact congrArg (x :: ·) ih
theorem order_perm {es : Array (Int × Value)} {order : Array Nat} (pm : order.toList.Perm (List.range es.size)) : (order.filterMap (es[·]?)).toList.Perm es.toList := by
  rw [Array.toList_filterMap]
  have := pm.filterMap (fun i => es[i]?)
  refine this.trans ?_
  have e : (List.range es.size).filterMap (fun i => es[i]?) = es.toList := by
    have := fm_get es.toList
    rw [Array.length_toList] at this
    rw [← this]
    exact fm_congr fun i _ => (Array.getElem?_toList).symm
  rw [e]
theorem hash_all : ∀ n, n < 32 → 0 ≤ hashInt (n : Nat) ∧ hashInt (n : Nat) < 32 := by decide +kernel
theorem hash_small {k : Int} (h0 : 0 ≤ k) (h1 : k < 32) : 0 ≤ hashInt k ∧ hashInt k < 32 := by
  obtain ⟨n, rfl⟩ := Int.eq_ofNat_of_zero_le h0
  exact hash_all n (by omega)
/-- a copy -/
theorem copy_at (I : Is s.heap a es ep t) (hn : es.size < 32) (hk : ∀ k ∈ es.toList.map keyOf, 0 ≤ k ∧ k < 32) {Q : Value → Shared → Prop}
    (h : ∀ h' es' ep' t', (∀ b o, s.heap.get? b = some o → h'.get? b = some o) → Is h' s.heap.objs.size es' ep' t' → es'.toList.Perm es.toList → t'.dummies = #[] → es.size ≤ t'.mask → Q (.ref s.heap.objs.size) { s with heap := h' }) :
    wpAny (model P w) A (Builtin.Frozenset.copyOf a) Q E s := by
  unfold Builtin.Frozenset.copyOf
  refine wpAny_bind (base I ?_)
  refine wpAny_bind (wpAny_newSet_of (knd := intKind P w) fun led _ => ?_)
  unfold Builtin.Frozenset.addrOf
  refine wpAny_bind (wpAny_pure ?_)
  have hlt : a < s.heap.objs.size := by
    obtain ⟨⟨o, ho, _⟩, _⟩ := I
    exact Heap.lt_size ho
  have hne : a ≠ s.heap.objs.size := Nat.ne_of_lt hlt
  have hr0 : (s.heap.push { cls := .type "set", dict := none, data := .set #[] 0 (.fresh 0 0 led) }).get? s.heap.objs.size = some { cls := .type "set", dict := none, data := .set #[] 0 (.fresh 0 0 led) } := Heap.get?_push_size _ rfl
  have k0 : ∀ b o, s.heap.get? b = some o → (s.heap.push { cls := .type "set", dict := none, data := .set #[] 0 (.fresh 0 0 led) }).get? b = some o := fun b o e => Heap.get?_push_of_some _ e
  generalize s.heap.push { cls := .type "set", dict := none, data := .set #[] 0 (.fresh 0 0 led) } = h0 at hr0 k0 ⊢
  have I0 : Is h0 a es ep t := I.keep (k0 a)
  have keep : ∀ {h'}, Heap.SameBut s.heap.objs.size h0 h' → ∀ b o, s.heap.get? b = some o → h'.get? b = some o := fun {h'} sb b o e => by
    rw [sb.2 b (Nat.ne_of_lt (Heap.lt_size e))]
    exact k0 b o e
  unfold setMerge
  refine wpAny_bind ?_
  refine wp_if_neg (by simpa using fun z : s.heap.objs.size = a => hne z.symm) ?_
  try refine wpAny_bind (wpAny_pure ?_)
  refine wpAny_bind (state (s := { s with heap := h0 }) I0 ?_)
  dsimp only
  by_cases ce : es.isEmpty = true
  · refine wp_if_pos ce ?_
    have ez : es = #[] := by simpa using ce
    subst ez
    exact wpAny_pure (wpAny_pure (h h0 #[] 0 _ k0 ⟨⟨_, hr0, ⟨rfl, rfl, rfl⟩, rfl⟩, fun e he => by simp at he, List.Pairwise.nil, by decide, rfl⟩ (.refl _) rfl (Nat.zero_le _)))
  · refine wp_if_neg ce ?_
    try refine wpAny_bind (wpAny_pure ?_)
    refine wpAny_bind (room_at (s := { s with heap := h0 }) hn ⟨_, hr0, ⟨rfl, rfl, rfl⟩, rfl⟩ fun h1 ep1 t1 sb1 ho1 p1 d1 m1 l1 => ?_)
    obtain ⟨o1, ho1, hx1, hd1⟩ := ho1
    have I1 : Is h1 a es ep t := I0.same sb1 hne
    refine wpAny_bind (wpAny_setState_of (s := { s with heap := h1 }) ho1 hd1 (by unfold SetTable.fits SetTable.fill; rw [p1, d1]; simp) ?_)
    dsimp only
    have fz : ¬ ((t1.fill != 0) = true) := by
      unfold SetTable.fill
      rw [p1, d1]
      simp
    unfold SetTable.road
    rw [if_neg fz]
    obtain ⟨fp, fl⟩ := fit_le I.fit
    by_cases cm : (t1.mask == t.mask && t.dummies.isEmpty) = true
    · rw [if_pos cm]
      rw [Bool.and_eq_true, beq_iff_eq] at cm
      have dz : t.dummies = #[] := by simpa using cm.2
      dsimp only
      refine wpAny_storeSet_of (s := { s with heap := h1 }) ho1 hd1 ?_ (fits_of_scanBound I.lt)
      refine wpAny_pure (h _ es _ _ ?_ ⟨⟨_, store_at ho1 hd1, hx1, rfl⟩, I.good, I.nd, I.lt, ?_⟩ (.refl _) dz ?_)
      · exact keep (sb1.trans (Heap.SameBut.update h1 _ _))
      · exact I.fit
      · show es.size ≤ t.mask
        rw [← cm.1]
        exact l1
    · rw [if_neg cm]
      dsimp only
      obtain ⟨t2, order, el, pm, f2, m2, d2⟩ := laid_ok (m := t1.mask) (finger := t1.finger) (moves := t1.moves) (led := t1.led && t.led) (plain := t1.plain && t.plain) (hs := es.map (·.1)) m1 (fun x hx => by
        rw [Array.toList_map, List.mem_map] at hx
        obtain ⟨e, he, rfl⟩ := hx
        obtain ⟨k, tk, e1, e2⟩ := I.good e he
        have hb := hk k (List.mem_map.mpr ⟨e, he, by unfold keyOf; rw [e1]⟩)
        rw [e2]
        exact hash_small hb.1 hb.2) (by rw [Array.size_map]; exact l1)
      rw [el]
      rw [Array.size_map] at pm f2
      have pe := order_perm pm
      have sz : (order.filterMap (es[·]?)).size = es.size := by
        have := pe.length_eq
        rwa [Array.length_toList, Array.length_toList] at this
      refine wpAny_bind (wpAny_of_eq (a := (order.filterMap (es[·]?), t2)) ?_ ?_)
      · show (if ((order.filterMap (es[·]?)).size != es.size) = true then _ else _) = _
        rw [if_neg (by rw [sz]; simp)]
      · dsimp only
        refine wpAny_storeSet_of (s := { s with heap := h1 }) ho1 hd1 ?_ (fits_of_scanBound (by rw [sz]; exact I.lt))
        refine wpAny_pure (h _ (order.filterMap (es[·]?)) _ _ ?_ ⟨⟨_, store_at ho1 hd1, hx1, rfl⟩, fun e he => I.good e (pe.mem_iff.mp he), (pe.map keyOf).nodup_iff.mpr I.nd, by rw [sz]; exact I.lt, by rw [sz]; exact f2⟩ pe d2 (by rw [m2]; exact l1))
        exact keep (sb1.trans (Heap.SameBut.update h1 _ _))
end
end SD
end L2

namespace L2
open PySem PySem.Spec PyProof.Rows
namespace SD
theorem erase_list {α : Type} (xs : Array α) (p : Nat) : (SetTable.eraseAt xs p).toList = xs.toList.eraseIdx p := by
  unfold SetTable.eraseAt
  rw [Array.toList_append, Array.toList_extract, Array.toList_extract, List.eraseIdx_eq_take_drop_succ, List.extract_eq_take_drop, List.extract_eq_take_drop, List.drop_zero, Nat.sub_zero]
  congr 1
  refine List.take_of_length_le ?_
  rw [List.length_drop, Array.length_toList]
  omega
theorem insert_size {α : Type} (xs : Array α) (p : Nat) (x : α) : (SetTable.insertAt xs p x).size = xs.size + 1 := by
  rw [← Array.length_toList, SetTable.toList_insertAt, List.length_append, List.length_cons, List.length_take, List.length_drop, Array.length_toList]
  omega
theorem drop_fit {t : SetTable} {n i : Nat} (h : t.fits n = true) (hi : i < n) : (t.drop i).fits (n - 1) = true ∧ (t.drop i).dummies.size = t.dummies.size + 1 ∧ (t.drop i).mask = t.mask := by
  obtain ⟨h1, h2⟩ := fit_le h
  have e : t.place[i]? = some (t.place[i]'(by omega)) := Array.getElem?_eq_getElem (by omega)
  unfold SetTable.drop
  rw [e]
  dsimp only
  have es : (SetTable.eraseAt t.place i).size = n - 1 := by
    rw [← Array.length_toList, erase_list, List.length_eraseIdx, Array.length_toList, if_pos (by omega), h1]
  refine ⟨?_, insert_size _ _ _, rfl⟩
  unfold SetTable.fits SetTable.fill
  dsimp only
  rw [es, insert_size]
  unfold SetTable.fill at h2
  simp
  omega
section
variable {P : Program} {w : World} {A : Around} {E : Value → Shared → Prop} {s : Shared} {a : Addr} {es : Array (Int × Value)} {ep : Nat} {t : SetTable}
theorem find_at (I : Is s.heap a es ep t) {k : Int} {tk : Tok} {Q : Option Nat → Shared → Prop}
    (h1 : ∀ j, es.toList[j]?.map keyOf = some k → Q (some j) s) (h0 : k ∉ es.toList.map keyOf → Q none s) : wpAny (model P w) A (setFind a (.int k tk) (hashInt k)) Q E s := by
  have hkey : (intKind P w).is k (.int k tk) = true := intKind_is P w k tk
  have hel : ElemsOf (intKind P w) es.toList := good_elems I.good
  unfold setFind setFindIn
  refine wpAny_bind (state I ?_)
  dsimp only
  rw [byScan_of (knd := intKind P w) rfl I.lt hel]
  refine wp_if_pos rfl ?_
  refine wpAny_bind (wpAny_rule ?_)
  obtain ⟨o, ho, _, hd⟩ := I.at'
  refine wpAny_bind (wpAny_setScan_of (knd := intKind P w) hkey ho hd I.fit hel ?_)
  cases e : List.findIdx? (fun e => (intKind P w).is k e.2) es.toList with
  | none =>
    dsimp only
    refine wpAny_pure (h0 fun z => ?_)
    obtain ⟨x, hx, q⟩ := (good_mem (P := P) (w := w) I.good k).1 z
    have := List.findIdx?_eq_none_iff.mp e x hx
    rw [q] at this
    cases this
  | some j =>
    dsimp only
    obtain ⟨hj, pj, _⟩ := List.findIdx?_eq_some_iff_getElem.mp e
    rw [Nat.zero_add]
    refine wpAny_pure (h1 j ?_)
    rw [List.getElem?_eq_getElem hj]
    exact congrArg some ((good_is (P := P) (w := w) (I.good _ (List.getElem_mem hj)) k).1 pj)
theorem erase_mapA {α β : Type} (f : α → β) : ∀ (l : List α) (j : Nat), (l.eraseIdx j).map f = (l.map f).eraseIdx j
  | [], _ => rfl
  | _ :: _, 0 => rfl
  | x :: l, j + 1 => congrArg (f x :: ·) (erase_mapA f l j)
/-- a key less -/
theorem discard_at (I : Is s.heap a es ep t) {k : Int} {tk : Tok} {Q : Bool → Shared → Prop}
    (h : ∀ b h' es' ep' t', Heap.SameBut a s.heap h' → Is h' a es' ep' t' → (es'.toList.map keyOf).Perm ((es.toList.map keyOf).erase k) → t'.dummies.size ≤ t.dummies.size + 1 → t'.mask = t.mask → Q b { s with heap := h' }) :
    wpAny (model P w) A (setDiscardHashed a (.int k tk) (hashInt k)) Q E s := by
  unfold setDiscardHashed
  refine wpAny_bind (find_at I (fun j hj => ?_) fun hk => ?_)
  · dsimp only
    refine wpAny_bind (state I ?_)
    dsimp only
    obtain ⟨o, ho, hx, hd⟩ := I.at'
    have hjl : j < es.toList.length := by
      rcases Nat.lt_or_ge j es.toList.length with c | c
      · exact c
      · rw [List.getElem?_eq_none c] at hj
        cases hj
    have hsz : (SetTable.eraseAt es j).size = es.size - 1 := by
      rw [← Array.length_toList, erase_list, List.length_eraseIdx, if_pos hjl, Array.length_toList]
    refine wpAny_bind (wpAny_storeSet_of ho hd ?_ (fits_of_scanBound (by rw [hsz]; have := I.lt; omega)))
    refine wpAny_bind (wpAny_point (wpAny_pure ?_))
    rw [Array.length_toList] at hjl
    obtain ⟨f1, f2, f3⟩ := drop_fit I.fit hjl
    have ek : (SetTable.eraseAt es j).toList.map keyOf = (es.toList.map keyOf).eraseIdx j := by
      rw [erase_list]
      exact erase_mapA keyOf es.toList j
    have ejk : (es.toList.map keyOf)[j]? = some k := by rw [List.getElem?_map]; exact hj
    have pk : ((es.toList.map keyOf).eraseIdx j).Perm ((es.toList.map keyOf).erase k) := by
      have p1 := erase_perm _ j k ejk
      have p2 := List.perm_cons_erase (List.mem_of_getElem? ejk)
      exact (p1.trans p2).cons_inv
    refine h _ _ (SetTable.eraseAt es j) _ _ (Heap.SameBut.update s.heap a _) ⟨⟨_, store_at ho hd, hx, rfl⟩, fun e he => ?_, ?_, ?_, ?_⟩ (by rw [ek]; exact pk) (Nat.le_of_eq f2) f3
    · rw [erase_list] at he
      exact I.good e (List.mem_of_mem_eraseIdx he)
    · rw [ek]
      exact pk.nodup_iff.mpr (I.nd.erase k)
    · rw [hsz]
      have := I.lt
      omega
    · rw [hsz]
      exact f1
  · exact wpAny_pure (h _ s.heap es ep t (Heap.SameBut.refl a s.heap) I (by rw [List.erase_of_not_mem hk]) (Nat.le_succ _) rfl)
theorem unch (I : Is s.heap a es ep t) {id : String} {Q : Unit → Shared → Prop} (h : Q () s) : wpAny (model P w) A (Builtin.Frozenset.unchanged id a ep) Q E s := by
  unfold Builtin.Frozenset.unchanged
  refine wpAny_bind (epoch I ?_)
  refine wp_if_neg (by simp) ?_
  exact wpAny_pure h
theorem foldErase_mem : ∀ (ks : List Int) (l : List Int) (k : Int), l.Nodup → (k ∈ ks.foldl List.erase l ↔ k ∈ l ∧ k ∉ ks)
  | [], l, k, _ => ⟨fun h => ⟨h, List.not_mem_nil⟩, fun h => h.1⟩
  | x :: ks, l, k, nd => by
    rw [List.foldl_cons, foldErase_mem ks (l.erase x) k (nd.erase x), nd.mem_erase_iff, List.mem_cons]
    constructor
    · rintro ⟨⟨h1, h2⟩, h3⟩
      exact ⟨h2, fun z => z.elim h1 h3⟩
    · rintro ⟨h1, h2⟩
      exact ⟨⟨fun z => h2 (.inl z), h1⟩, fun z => h2 (.inr z)⟩
/-- the keys of b taken away from a -/
theorem update_at {b : Addr} {eb : Array (Int × Value)} {epb : Nat} {tb : SetTable} (I : Is s.heap a es ep t) (J : Is s.heap b eb epb tb) (hne : a ≠ b) (hl : w.params.followText "set-order" = true ∨ tb.led = true)
    (h8 : ¬ eb.size / 8 > es.size) (hd : t.dummies.size + eb.size ≤ t.mask / 4) {Q : Unit → Shared → Prop}
    (h : ∀ h' es' ep' t', Heap.SameBut a s.heap h' → Is h' a es' ep' t' → (∀ k, k ∈ es'.toList.map keyOf ↔ k ∈ es.toList.map keyOf ∧ k ∉ eb.toList.map keyOf) → Q () { s with heap := h' }) :
    wpAny (model P w) A (Builtin.Frozenset.differenceUpdate id0 a (.ref b)) Q E s := by
  unfold Builtin.Frozenset.differenceUpdate
  refine wp_if_neg (by simpa using fun z : b = a => hne z.symm) ?_
  try refine wpAny_bind (wpAny_pure ?_)
  refine wpAny_bind (anySet J ?_)
  dsimp only
  refine wp_if_pos rfl ?_
  unfold Builtin.Frozenset.addrOf
  refine wpAny_bind (wpAny_pure ?_)
  refine wpAny_bind (size J ?_)
  refine wpAny_bind (size I ?_)
  refine wp_if_neg h8 ?_
  try refine wpAny_bind (wpAny_pure ?_)
  refine wpAny_bind (epoch J ?_)
  refine wpAny_bind (m := holding [Value.ref b] _) (wpAny_holding ?_)
  refine wpAny_bind (walkN J hl (fun c hc => ?_) fun ew pw => ?_)
  · obtain rfl := List.mem_singleton.mp hc
    exact ⟨_, _, _, I⟩
  refine wpAny_bind (wpAny_forIn_array' _ (fun rest _ s' => ∃ done h' es' ep' t', ew.toList = done ++ rest ∧ s' = { s with heap := h' } ∧ Heap.SameBut a s.heap h' ∧ Is h' a es' ep' t' ∧
      (es'.toList.map keyOf).Perm ((done.map keyOf).foldl List.erase (es.toList.map keyOf)) ∧ t'.dummies.size ≤ t.dummies.size + done.length ∧ t'.mask = t.mask)
    _ (fun x rest u s1 hI => ?_) (fun u s1 hI => ?_) ew PUnit.unit
    ⟨[], s.heap, es, ep, t, rfl, rfl, Heap.SameBut.refl a s.heap, I, .refl _, Nat.le_add_right _ _, rfl⟩)
  · obtain ⟨done, h1, e1, ep1, t1, esplit, rfl, sb, I1, pm, dm, mk⟩ := hI
    have hx : x ∈ eb.toList := pw.mem_iff.mp (by rw [esplit]; exact List.mem_append_right _ List.mem_cons_self)
    obtain ⟨k, tk, e2, e3⟩ := J.good x hx
    obtain ⟨x1, x2⟩ := x
    dsimp only at e2 e3
    subst e2
    subst e3
    dsimp only
    refine wpAny_bind (m := holding [Value.int k tk] _) (wpAny_holding (discard_at (s := { s with heap := h1 }) I1 fun bb h2 e4 ep4 t4 sb2 I2 pm2 dm2 mk2 => ?_))
    have J2 : Is h2 b eb epb tb := (J.same sb hne.symm).same sb2 hne.symm
    refine wpAny_bind (unch (s := { s with heap := h2 }) J2 ?_)
    refine wpAny_pure ⟨done ++ [(hashInt k, Value.int k tk)], h2, e4, ep4, t4, by rw [esplit, List.append_assoc]; rfl, rfl, sb.trans sb2, I2, ?_, ?_, mk2.trans mk⟩
    · rw [List.map_append, List.foldl_append]
      exact pm2.trans (pm.erase k)
    · rw [List.length_append, List.length_singleton]
      omega
  · obtain ⟨done, h1, e1, ep1, t1, esplit, rfl, sb, I1, pm, dm, mk⟩ := hI
    rw [List.append_nil] at esplit
    rw [← esplit] at pm dm
    try refine wpAny_pure ?_
    unfold setTidy
    refine wpAny_bind (state (s := { s with heap := h1 }) I1 ?_)
    dsimp only
    rw [pw.length_eq, Array.length_toList] at dm
    refine wp_if_neg (by unfold SetTable.tooManyDummies; rw [decide_eq_true_eq, mk]; omega) ?_
    refine wpAny_pure (h h1 e1 ep1 t1 sb I1 fun k => ?_)
    rw [pm.mem_iff, foldErase_mem _ _ _ I.nd, (pw.map keyOf).mem_iff]
end
end SD
end L2

namespace L2
open PySem PySem.Spec PyProof.Rows
namespace SD
section
variable {P : Program} {w : World} {A : Around} {E : Value → Shared → Prop} {s : Shared} {a b : Addr} {S T : Int → Bool} {n m : Nat}
theorem dec_t {l : List Int} {k : Int} {T : Int → Bool} (h : T k = true) (j : Int) : (decide (j ∈ l ++ [k]) && !T j) = (decide (j ∈ l) && !T j) := by
  by_cases e : j = k
  · rw [e, h, Bool.not_true, Bool.and_false, Bool.and_false]
  · congr 1
    simp [e]
theorem dec_f {l : List Int} {k : Int} {T : Int → Bool} (h : T k = false) (j : Int) : (decide (j ∈ l ++ [k]) && !T j) = ((decide (j ∈ l) && !T j) || decide (j = k)) := by
  by_cases e : j = k
  · rw [e, h]
    simp
  · simp [e]
/-- a new set of the keys of a that are not b's -/
def Diff (h0 : Heap) (S T : Int → Bool) (r : Addr) (h' : Heap) : Prop :=
  (∀ b o, h0.get? b = some o → h'.get? b = some o) ∧ ∃ es ep t, Is h' r es ep t ∧ ∀ k, k ∈ es.toList.map keyOf ↔ S k = true ∧ T k = false
theorem diff_at {id0 : String} (R : SetR w s.heap a S n) (R2 : SetR w s.heap b T m) (hne : a ≠ b) (hn : n < 32) (hk : ∀ k, S k = true → 0 ≤ k ∧ k < 32) {Q : Value → Shared → Prop}
    (h : ∀ h', Diff s.heap S T s.heap.objs.size h' → Q (.ref s.heap.objs.size) { s with heap := h' }) : wpAny (model P w) A (Builtin.Frozenset.difference id0 a (.ref b)) Q E s := by
  obtain ⟨es, ep, t, I, hS, hsz, hl⟩ := Is.of R
  obtain ⟨eb, epb, tb, J, hT, hszb, hlb⟩ := Is.of R2
  have lta : a < s.heap.objs.size := R.lt
  have ltb : b < s.heap.objs.size := R2.lt
  unfold Builtin.Frozenset.difference
  refine wpAny_bind (anySet J ?_)
  refine wp_if_neg (by simp) ?_
  try refine wpAny_bind (wpAny_pure ?_)
  refine wp_if_neg (by simp) ?_
  refine wp_if_pos rfl ?_
  refine wpAny_bind (size J ?_)
  refine wpAny_bind (size I ?_)
  by_cases c : es.size / 4 > eb.size
  · refine wp_if_pos c ?_
    refine wpAny_bind (wpAny_rule ?_)
    refine wpAny_bind (copy_at I (by omega) (fun k hkk => hk k ((hS k).mpr hkk)) fun h1 e1 ep1 t1 k1 I1 pm1 d1 m1 => ?_)
    refine wpAny_bind (wpAny_pure ?_)
    have J1 : Is h1 b eb epb tb := J.keep (k1 b)
    have z1 : e1.size = es.size := by
      have := pm1.length_eq
      rwa [Array.length_toList, Array.length_toList] at this
    refine wpAny_bind (wpAny_holding (update_at (s := { s with heap := h1 }) I1 J1 (Nat.ne_of_gt ltb) hlb (by rw [z1]; omega) (by rw [d1]; show 0 + _ ≤ _; omega) fun h2 e2 ep2 t2 sb2 I2 mem2 => ?_))
    refine wpAny_pure (h h2 ⟨fun c o e => ?_, e2, ep2, t2, I2, fun k => ?_⟩)
    · rw [sb2.2 c (Nat.ne_of_lt (Heap.lt_size e))]
      exact k1 c o e
    · rw [mem2 k, (pm1.map keyOf).mem_iff, ← hS k, ← hT k, Bool.not_eq_true]
  · refine wp_if_neg c ?_
    refine wpAny_bind (base I ?_)
    refine wpAny_bind ?_
    unfold newSet
    refine wpAny_bind (wpAny_byText ?_)
    try dsimp only
    simp only [newObj]
    refine wpAny_bind (wpAny_alloc (wpAny_pure ?_))
    have R0 := setR_fresh (h := s.heap) w
    have k0 : ∀ b o, s.heap.get? b = some o → (s.heap.push { cls := .type "set", dict := none, data := .set #[] 0 (.fresh 0 0 (!w.params.followText "set-order")) }).get? b = some o := fun b o e => Heap.get?_push_of_some _ e
    revert R0 k0
    show (SetR w (s.heap.push { cls := .type "set", dict := none, data := .set #[] 0 (.fresh 0 0 (!w.params.followText "set-order")) }) s.heap.objs.size (fun _ => false) 0 → _ → wpAny _ _ _ _ _ { s with heap := s.heap.push { cls := .type "set", dict := none, data := .set #[] 0 (.fresh 0 0 (!w.params.followText "set-order")) } })
    generalize s.heap.push { cls := .type "set", dict := none, data := .set #[] 0 (.fresh 0 0 (!w.params.followText "set-order")) } = h0
    intro R0 k0
    refine wpAny_bind (wpAny_pure ?_)
    have I0 : Is h0 a es ep t := I.keep (k0 a)
    have J0 : SetR w h0 b T m := R2.at (k0 b)
    refine wpAny_bind (epoch (s := { s with heap := h0 }) I0 ?_)
    refine wpAny_bind (wpAny_holding ?_)
    refine wpAny_bind ?_
    refine wp_if_pos (by trivial) ?_
    refine walkF (s := { s with heap := h0 }) I0 hl (fun c hc => ?_) R0 fun ew h1 pw sb1 R1 => ?_
    · rcases List.mem_cons.mp hc with rfl | hc
      · obtain ⟨x1, x2, x3, x4, _⟩ := Is.of J0
        exact ⟨x1, x2, x3, x4⟩
      · obtain rfl := List.mem_singleton.mp hc
        obtain ⟨x1, x2, x3, x4, _⟩ := Is.of R0
        exact ⟨x1, x2, x3, x4⟩
    refine wpAny_bind (wpAny_forIn_array' _ (fun rest _ s' => ∃ done h' c, ew.toList = done ++ rest ∧ s' = { s with heap := h' } ∧ Heap.SameBut s.heap.objs.size h0 h' ∧ c ≤ done.length ∧
      SetR w h' s.heap.objs.size (fun k => decide (k ∈ done.map keyOf) && !T k) c) _ (fun x rest u s1 hI => ?_) (fun u s1 hI => ?_) ew PUnit.unit ⟨[], h1, 0, rfl, rfl, sb1, Nat.le_refl _, R1.congr fun k => by simp⟩)
    · obtain ⟨done, h2, c2, esplit, rfl, sb2, lc, R3⟩ := hI
      have hx : x ∈ es.toList := pw.mem_iff.mp (by rw [esplit]; exact List.mem_append_right _ List.mem_cons_self)
      have hlen : done.length < es.size := by
        have := pw.length_eq
        rw [esplit, List.length_append, List.length_cons] at this
        have l2 : es.toList.length = es.size := Array.length_toList
        omega
      obtain ⟨k, tk, e2, e3⟩ := I.good x hx
      obtain ⟨x1, x2⟩ := x
      dsimp only at e2 e3
      subst e2
      subst e3
      dsimp only
      have I2 : Is h2 a es ep t := I0.same sb2 (Nat.ne_of_lt lta)
      have J2 : SetR w h2 b T m := J0.at fun o e => by rw [sb2.2 b (Nat.ne_of_lt ltb)]; exact e
      have sp : (done ++ [(hashInt k, Value.int k tk)]).map keyOf = done.map keyOf ++ [k] := by rw [List.map_append]; rfl
      refine wpAny_bind (wpAny_holding ?_)
      refine wp_if_pos (by trivial) ?_
      refine wpAny_bind (wpAny_setFind_of (s := { s with heap := h2 }) (knd := intKind P w) (intKind_is P w k tk) rfl J2.setOf fun r hr => ?_)
      try refine wpAny_bind (wpAny_pure ?_)
      cases hTk : T k with
      | true =>
        rw [hTk] at hr
        refine wp_if_neg (by rw [hr]; simp) ?_
        refine wpAny_pure ?_
        refine wpAny_bind (unch (s := { s with heap := h2 }) I2 ?_)
        refine wpAny_pure ⟨done ++ [(hashInt k, Value.int k tk)], h2, c2, by rw [esplit, List.append_assoc]; rfl, rfl, sb2, by rw [List.length_append]; omega, R3.congr fun j => ?_⟩
        rw [sp]
        exact dec_t hTk j
      | false =>
        rw [hTk] at hr
        refine wp_if_pos (by rw [hr]; rfl) ?_
        refine wpAny_bind (setR_add_hashed (s := { s with heap := h2 }) (P := P) R3 (by unfold scanBound; omega) fun h3 sb3 R4 => ?_)
        refine wpAny_pure ?_
        refine wpAny_bind (unch (s := { s with heap := h3 }) (I2.same sb3 (Nat.ne_of_lt lta)) ?_)
        refine wpAny_pure ⟨done ++ [(hashInt k, Value.int k tk)], h3, _, by rw [esplit, List.append_assoc]; rfl, rfl, sb2.trans sb3, ?_, R4.congr fun j => ?_⟩
        · rw [List.length_append, List.length_singleton]
          split <;> omega
        · rw [sp]
          exact dec_f hTk j
    · obtain ⟨done, h2, c2, esplit, rfl, sb2, lc, R3⟩ := hI
      rw [List.append_nil] at esplit
      rw [← esplit] at R3
      refine wpAny_pure (wpAny_pure (h h2 ⟨fun c o e => ?_, ?_⟩))
      · rw [sb2.2 c (Nat.ne_of_lt (Heap.lt_size e))]
        exact k0 c o e
      · obtain ⟨e4, ep4, t4, I4, m4, _⟩ := Is.of R3
        refine ⟨e4, ep4, t4, I4, fun k => ?_⟩
        rw [← m4 k, Bool.and_eq_true, decide_eq_true_eq, (pw.map keyOf).mem_iff, ← hS k, Bool.not_eq_true']
/-- a - b -/
theorem entry_sub : entryFor table "set.__sub__" = some Builtin.«frozenset.__sub__» :=
  entryFor_alias (id' := "frozenset.__sub__") (by kernel_rfl) rfl (by decide +kernel) (by kernel_rfl)
theorem sub_at (R : SetR w s.heap a S n) (R2 : SetR w s.heap b T m) (hne : a ≠ b) (hn : n < 32) (hk : ∀ k, S k = true → 0 ≤ k ∧ k < 32) {Q : Value → Shared → Prop}
    (h : ∀ h', Diff s.heap S T s.heap.objs.size h' → Q (.ref s.heap.objs.size) { s with heap := h' }) : wpAny (model P w) A (binaryOp .Sub (.ref a) (.ref b)) Q E s := by
  obtain ⟨es, ep, t, I, _⟩ := Is.of R
  obtain ⟨eb, epb, tb, J, _⟩ := Is.of R2
  refine wpAny_binaryOp_same (T := "set") (op := .Sub) I.type J.type PySem.F.fills_set_sub PySem.F.slot_set_sub ?_
  refine wpAny_call_entry PySem.F.slot_set_sub I.type entry_sub ?_ (PySem.F.args_set_sub_2 _ _)
  show wpAny _ _ (Builtin.Frozenset.slot1 "__sub__" ⟨[.ref a, .ref b], []⟩ >>= _) _ _ s
  unfold Builtin.Frozenset.slot1 slotArgs
  refine wpAny_bind (m := (do
    let (self, [x]) ← (pure (Value.ref a, [Value.ref b]) : Sem (Value × List Value)) | unsupported "internal:set-binding"
    return (self, x))) (wpAny_bind (wpAny_pure (wpAny_pure ?_)))
  refine wpAny_bind ?_
  refine wpAny_bind (anySet I ?_)
  refine anySet J ?_
  refine wp_if_neg (by simp) ?_
  try refine wpAny_bind (wpAny_pure ?_)
  refine wpAny_bind (diff_at R R2 hne hn hk fun h' d => ?_)
  exact wpAny_pure ⟨_, rfl, (fun z => nomatch z), h h' d⟩
end
end SD
end L2

namespace L2
open PySem PySem.Spec PyProof.Rows
namespace SD
/-- a new empty set, as the maker leaves it -/
def e0 (w : World) : Obj := { cls := .type "set", dict := none, data := .set #[] 0 (.fresh 0 0 (!w.params.followText "set-order")) }
section
variable {P : Program} {w : World} {A : Around} {E : Value → Shared → Prop} {s : Shared}
set_option maxHeartbeats 3200000 in
/-- set(xs), xs a list of ints: as a set that can be gone through -/
theorem set_of_list {l : Addr} {items : Array Value} (ns : List Int) {Q : Value → Shared → Prop} (hh : A.handled = none) (hl : s.heap.IsList l items) (hit : IntsAre items.toList ns) (hb : ns.length + 1 < scanBound)
    (h : ∀ (h' : Heap) (tk c : Nat), SetR w h' s.heap.objs.size (fun j => decide (j ∈ ns)) c → c ≤ ns.length → (∀ b o, s.heap.get? b = some o → h'.get? b = some o) → Q (.ref s.heap.objs.size) { s with heap := h', toks := tk }) :
    wpAny (model P w) A (call (.type "set") [.ref l]) Q E s := by
  have sz : items.size = ns.length := (Array.length_toList (xs := items)).symm.trans (IntsAre.length hit)
  have V : ∀ (i : Nat) (v : Value), items[i]? = some v → ∃ k t, ns[i]? = some k ∧ v = .int k t := fun i v hv => by
    have hi : i < ns.length := sz ▸ (Array.getElem?_eq_some_iff.mp hv).1
    obtain ⟨t, e⟩ := IntsAre.int_at hit i v (by rw [Array.getElem?_toList]; exact hv)
    exact ⟨ns[i], t, List.getElem?_eq_getElem hi, by rw [e, List.getD_eq_getElem?_getD, List.getElem?_eq_getElem hi]; rfl⟩
  obtain ⟨_, _, mro⟩ := PySem.F.called_set.mro
  have made := PySem.F.called_set.made; have sub := PySem.F.called_set.sub
  refine wpAny_call (codeAny_of_tree (show wpAny _ _ (callAny (.type "set") _) _ _ _ from ?_))
  refine wpAny_pure ⟨Code.quiet_builtin _ (by decide +kernel), codeAny_builtin PySem.F.entry_type_call ?_⟩
  rw [Around.under_plain (weight_type_call_type "set" [.ref l] []) rfl]
  have nt := PySem.F.called_set.notType; have cc := PySem.F.called_set.canCreate; have tc := PySem.F.typeCall_set_1 (.ref l)
  repeat (any_goals (first | assumption | wp_step))
  have at0 : (s.heap.push (e0 w)).get? s.heap.objs.size = some (e0 w) := Heap.get?_push_size _ rfl
  have keep0 : ∀ b o, s.heap.get? b = some o → (s.heap.push (e0 w)).get? b = some o := fun b o e => Heap.get?_push_of_some _ e
  refine codeAny_mono (code_set_led1 (.ref l) (E := E) (Q₁ := fun ob s₁ => ob = .ref s.heap.objs.size ∧ s₁ = { s with heap := s.heap.push (e0 w) }) ⟨rfl, rfl⟩) fun r s₁ hr => ?_
  match r, hr with
  | .error e, hr => exact hr
  | .ok (.ret ob), hr =>
    obtain ⟨rfl, rfl⟩ := hr
    have ty : Shared.TypeIs { s with heap := s.heap.push (e0 w) } (.ref s.heap.objs.size) "set" := ⟨_, at0, rfl⟩
    have il := PySem.F.called_set.init.lookup; have ib := PySem.F.called_set.init.bind (.ref s.heap.objs.size)
    repeat (any_goals (first | assumption | wp_step))
    refine codeAny_mono (codeAny_call_builtin (R := wants (fun r s₂ => r = .none ∧ ∃ h' tk c, s₂ = { s with heap := h', toks := tk } ∧ SetR w h' s.heap.objs.size (fun j => decide (j ∈ ns)) c ∧ c ≤ ns.length ∧ ∀ b o, s.heap.get? b = some o → h'.get? b = some o) E)
      PySem.F.called_set.init.plain PySem.F.entry_set_init (check_set_init_1 ty ?_)) fun r₂ s₂ hr₂ => ?_
    · obtain ⟨⟨oc, od, oda, osl⟩, hol, hcl, nl, hdl⟩ := hl
      simp only at hcl hdl
      subst hcl; subst hdl
      have ol' := keep0 _ _ hol
      have s1 := PySem.F.sub_list_set; have s2 := PySem.F.sub_list_frozenset
      have nd : (Value.type "list" == Value.type "dict") = false := by decide
      have isl : (s.heap.push (e0 w)).IsList l items := ⟨_, ol', rfl, nl, rfl⟩
      have lS : l < s.heap.objs.size := Heap.lt_size hol
      have zz : (s.heap.push (e0 w)).objs.size = s.heap.objs.size + 1 := Heap.size_push ..
      unfold Builtin.«set.__init__» noKeywords Builtin.Frozenset.updateFrom
      generalize hPI : pyIter = PI
      wp_walk
      subst hPI
      refine wpAny_pyIter_list isl (wpAny_bind (wpAny_runValue ?_))
      have h3 : A.in1.in1.in1.handled = none := by simp [hh]
      have neI : l ≠ (s.heap.push (e0 w)).objs.size := by rw [zz]; exact Nat.ne_of_lt (Nat.lt_succ_of_lt lS)
      refine set_update_ints ((Walks.list h3 _ l neI items).toS) s.heap.objs.size (by rw [zz]; simpa using fun z : s.heap.objs.size = l => Nat.ne_of_gt lS z) ns sz hb V (items.size - 0) 0 _ (by omega) (Nat.zero_le _) ⟨⟨_, Heap.get?_push_size _ rfl, rfl, rfl⟩, isl.push _⟩
        ⟨0, Nat.le_refl 0, setR_new_at (Heap.get?_push_of_some _ at0)⟩ fun s' c' hm lc hS' => ?_
      obtain ⟨h', g2, d', tk', os'⟩ := s'
      obtain rfl : g2 = s.gens := hm.gens
      obtain rfl : d' = s.drawn := hm.drawn
      obtain rfl : os' = s.os := hm.os
      refine (show wpAny _ _ _ _ _ _ from wpAny_pure ?_)
      refine (show wpAny _ _ (ret Value.none) _ _ _ from wpAny_pure ⟨rfl, h', tk', c', rfl, hS', by omega, fun b o e => ?_⟩)
      have hb0 : b < s.heap.objs.size := Heap.lt_size e
      refine hm.heap b o ?_ (Heap.get?_push_of_some _ (keep0 b o e))
      rw [zz]
      simpa using ⟨Nat.ne_of_lt hb0, Nat.ne_of_lt (Nat.lt_succ_of_lt hb0)⟩
    · match r₂, hr₂ with
      | .error e, hr₂ => exact hr₂
      | .ok (.ret r), hr₂ =>
        obtain ⟨rfl, h', tk, c', rfl, hS', hc', hk'⟩ := hr₂
        repeat (any_goals (first | assumption | wp_step))
        exact h _ _ _ hS' hc' hk'
      | .ok .next, hr₂ => exact hr₂.elim
      | .ok .brk, hr₂ => exact hr₂.elim
      | .ok .cont, hr₂ => exact hr₂.elim
  | .ok .next, hr => exact hr.elim
  | .ok .brk, hr => exact hr.elim
  | .ok .cont, hr => exact hr.elim
end
end SD
end L2

namespace L2
open PySem PySem.Spec PyProof.Rows
namespace SD
theorem pigeon {α : Type} [DecidableEq α] : ∀ (l m : List α), l.Nodup → (∀ x ∈ l, x ∈ m) → l.length ≤ m.length
  | [], _, _, _ => Nat.zero_le _
  | x :: l, m, nd, hs => by
    obtain ⟨n1, n2⟩ := List.nodup_cons.mp nd
    have hx := hs x List.mem_cons_self
    have ih := pigeon l (m.erase x) n2 fun y hy => (List.mem_erase_of_ne fun e => n1 (by rw [← e]; exact hy)).mpr (hs y (List.mem_cons_of_mem _ hy))
    have e := List.length_erase_of_mem hx
    have hp := List.length_pos_of_mem hx
    rw [List.length_cons]
    omega
theorem same_len {α : Type} [DecidableEq α] {l m : List α} (nl : l.Nodup) (nm : m.Nodup) (h : ∀ x, x ∈ l ↔ x ∈ m) : l.length = m.length :=
  Nat.le_antisymm (pigeon l m nl fun x hx => (h x).mp hx) (pigeon m l nm fun x hx => (h x).mpr hx)
section
variable {X : Cx}
/-- len(set(xs)): as many as there are different ones -/
def tLenSet (K : PySem.W.Frag) (ta : TE) : TE := fun σ H Q => ta σ H fun x H1 => ∃ (l : Addr) (ns : List Int), x = V.ref l ∧ SqL K H1 l (ns.map V.int) ∧ ns.length < 64 ∧
  ∀ L : List Int, L.Nodup → (∀ k, k ∈ L ↔ k ∈ ns) → Q (.int L.length) H1
/-- len(set(xs) - set(ys)) -/
def tLenSub (K : PySem.W.Frag) (ta tb : TE) : TE := fun σ H Q => ta σ H fun x H1 => ∃ (l : Addr) (ns : List Int), x = V.ref l ∧ SqL K H1 l (ns.map V.int) ∧ ns.length < 32 ∧ (∀ k ∈ ns, 0 ≤ k ∧ k < 32) ∧
  tb σ H1 fun y H2 => ∃ (l2 : Addr) (ms : List Int), y = V.ref l2 ∧ SqL K H2 l2 (ms.map V.int) ∧ ms.length < 64 ∧ ∀ L : List Int, L.Nodup → (∀ k, k ∈ L ↔ k ∈ ns ∧ k ∉ ms) → Q (.int L.length) H2
theorem pe_lenSetD {a : Expr} {ta : TE} {p p2 q pos : Pos} (hc : X.calm = true) (hg : Gl X "len") (hm : X.mg "len" = none) (hg2 : Gl X "set") (hm2 : X.mg "set" = none) (ha : PE X a ta)
    (na : starEach [a] X.env = (false, eval a X.env) :: starEach [] X.env := by rfl) : PE X (.Call (.Name "len" p) [.Call (.Name "set" p2) [a] [] q] [] pos) (tLenSet X.K ta) := by
  refine ⟨fun pins s σ H Q I h => ?_⟩
  refine Call_ (ld_blt I hg hm PySem.boot_len (callWith_builtin1 (args_cons ?_ rfl) rfl rfl))
  refine Call_ (ld_blt I hg2 hm2 PyProof.Rows.boot_set (callWith_type1 (args_cons (thn (ha.run pins s σ H _ I h) fun v s1 ⟨x, H1, I1, r1, q1⟩ => args_nil ?_) na) na rfl))
  obtain ⟨l, ns, rfl, hq, h1, q1⟩ := q1
  cases r1
  obtain ⟨its, r, pl, hz⟩ := I1.list hq
  refine set_of_list ns (I1.ok.hd hc) pl.isList (by simpa using r.ints) (by unfold scanBound; omega) fun h' tk c R hcn hk => args_nil ?_
  obtain ⟨es, ep, t, J, hS, hsz, _⟩ := Is.of R
  obtain ⟨o, ho, hx, hd⟩ := J.at'
  have I2 : Inv X pins σ H1 { s1 with heap := h', toks := tk } := I1.kept hk
  refine call_len_set ho hx hd J.fit (by omega) ⟨.int (es.toList.map keyOf).length, H1, I2.tok _, ⟨_, by rw [List.length_map, Array.length_toList]⟩, q1 _ J.nd fun k => ?_⟩
  rw [← hS k, decide_eq_true_eq]
theorem pe_lenSub {a b : Expr} {ta tb : TE} {p p2 p3 q q3 pb pos : Pos} (hc : X.calm = true) (hg : Gl X "len") (hm : X.mg "len" = none) (hg2 : Gl X "set") (hm2 : X.mg "set" = none) (ha : PE X a ta) (hb : PE X b tb)
    (na : starEach [a] X.env = (false, eval a X.env) :: starEach [] X.env := by rfl) (nb : starEach [b] X.env = (false, eval b X.env) :: starEach [] X.env := by rfl) :
    PE X (.Call (.Name "len" p) [.BinOp (.Call (.Name "set" p2) [a] [] q) .Sub (.Call (.Name "set" p3) [b] [] q3) pb] [] pos) (tLenSub X.K ta tb) := by
  refine ⟨fun pins s σ H Q I h => ?_⟩
  refine Call_ (ld_blt I hg hm PySem.boot_len (callWith_builtin1 (args_cons (wpAny_BinOp ?_) rfl) rfl rfl))
  refine Call_ (ld_blt I hg2 hm2 PyProof.Rows.boot_set (callWith_type1 (args_cons (thn (ha.run pins s σ H _ I h) fun v s1 ⟨x, H1, I1, r1, q1⟩ => args_nil ?_) na) na rfl))
  obtain ⟨l, ns, rfl, hq, h1, hr, q1⟩ := q1
  cases r1
  obtain ⟨its, r, pl, hz⟩ := I1.list hq
  refine set_of_list ns (I1.ok.hd hc) pl.isList (by simpa using r.ints) (by unfold scanBound; omega) fun h' tk c R hcn hk => ?_
  have I2 : Inv X pins σ H1 { s1 with heap := h', toks := tk } := I1.kept hk
  obtain ⟨oa, hoa⟩ : ∃ o, h'.get? s1.heap.objs.size = some o := by
    obtain ⟨o, _, _, _, ho, _⟩ := id R
    exact ⟨o, ho⟩
  have nocell : ∀ v, oa.data ≠ .cell v := fun v z => by
    obtain ⟨o, es, ep, t, ho, _, hd, _⟩ := id R
    rw [hoa] at ho
    obtain rfl := Option.some.inj ho
    rw [hd] at z
    cases z
  have I3 : Inv X ((s1.heap.objs.size, oa) :: pins) σ H1 { s1 with heap := h', toks := tk } := I2.pins_of fun p hp => by
    rcases List.mem_cons.mp hp with rfl | hp
    · exact ⟨hoa, I1.hok.fresh (Nat.le_refl _), Nat.ne_of_gt I1.lt, I1.nofs (Nat.le_refl _), nocell⟩
    · exact I2.pin p (List.mem_append_right _ hp)
  refine Call_ (ld_blt I3 hg2 hm2 PyProof.Rows.boot_set (callWith_type1 (args_cons (thn (hb.run _ _ σ H1 _ I3 q1) fun u s2 ⟨y, H2, I4, r2, q2⟩ => args_nil ?_) nb) nb rfl))
  obtain ⟨l2, ms, rfl, hq2, h2, q2⟩ := q2
  cases r2
  obtain ⟨its2, r2, pl2, hz2⟩ := I4.list hq2
  refine set_of_list ms (I4.ok.hd hc) pl2.isList (by simpa using r2.ints) (by unfold scanBound; omega) fun h2' tk2 c2 R2 hcn2 hk2 => ?_
  have pa := (I4.pin (s1.heap.objs.size, oa) (List.mem_append_right _ List.mem_cons_self)).1
  have Ra : SetR X.w h2' s1.heap.objs.size (fun j => decide (j ∈ ns)) c := R.at fun o e => by
    rw [hoa] at e
    obtain rfl := Option.some.inj e
    exact hk2 _ _ pa
  have lta : s1.heap.objs.size < s2.heap.objs.size := Heap.lt_size pa
  refine sub_at (s := { s2 with heap := h2', toks := tk2 }) Ra R2 (Nat.ne_of_lt lta) (by omega) (fun k hkk => hr k (of_decide_eq_true hkk)) fun h3 D => args_nil ?_
  obtain ⟨hk3, es, ep, t, J, mem⟩ := D
  obtain ⟨o, ho, hx, hd⟩ := J.at'
  have I5 : Inv X pins σ H2 { s2 with heap := h3, toks := tk2 } := (I4.pins_of fun p hp => I4.pin p (List.mem_append_right _ (List.mem_cons_of_mem _ hp))).kept fun b u e => hk3 b u (hk2 b u e)
  have lt := J.lt
  refine call_len_set (s := { s2 with heap := h3, toks := tk2 }) ho hx hd J.fit (by unfold scanBound at lt; omega) ⟨.int (es.toList.map keyOf).length, H2, I5.tok _, ⟨_, by rw [List.length_map, Array.length_toList]⟩, q2 _ J.nd fun k => ?_⟩
  rw [mem k, decide_eq_true_eq, decide_eq_false_iff_not]
end
end SD
end L2

/-! ### sorted(list of data) -/
namespace L2
open PySem PySem.Spec PyProof.Rows
def rSortG (K : PySem.W.Frag) : List V → Hp → VK → Prop := fun vs H Q => ∃ (β : Type) (enc : β → PyData) (R : V → β → Prop) (a : Addr) (xs : List V) (bs : List β), vs = [V.ref a] ∧ SqL K H a xs ∧ (∀ x ∈ xs, ∃ t, x = V.ref t) ∧ Paired R xs bs ∧ Paired (fun x b => Dp K H x (enc b)) xs bs ∧
  PySem.W.AllAlike (bs.map enc) ∧ PySem.W.Sortable (bs.map enc) ∧ (∀ b ∈ bs, (enc b).depth ≤ 60) ∧ ∀ ys p, Paired R ys (bs.mergeSort (PySem.W.dataLe false enc)) → H p = none → Q (.ref p) (upd H p (.lst ys))
theorem each_of {β : Type} {R : V → β → Prop} : ∀ {us : List Value} {bs : List β}, Paired R (us.map backV) bs → PySem.W.EachIs (fun u b => R (backV u) b) us bs
  | [], _, h => by
    cases h
    exact .nil
  | u :: us, _, h => by
    cases h with
    | cons a t => exact .cons a (each_of t)
theorem of_each {β : Type} {R : V → β → Prop} : ∀ {us : List Value} {bs : List β}, PySem.W.EachIs (fun u b => R (backV u) b) us bs → Paired R (us.map backV) bs
  | _, _, .nil => .nil
  | _, _, .cons a t => .cons a (of_each t)
theorem each_and {α β : Type} {R S : α → β → Prop} : ∀ {us : List α} {bs : List β}, PySem.W.EachIs R us bs → PySem.W.EachIs S us bs → PySem.W.EachIs (fun u b => R u b ∧ S u b) us bs
  | _, _, .nil, .nil => .nil
  | _, _, .cons a t, .cons b u => .cons ⟨a, b⟩ (each_and t u)
theorem each_ref {β : Type} : ∀ {us : List Value} {bs : List β}, us.length = bs.length → (∀ u ∈ us, ∃ a, u = Value.ref a) → PySem.W.EachIs (fun u (_ : β) => ∃ a, u = Value.ref a) us bs
  | [], [], _, _ => .nil
  | u :: us, b :: bs, h, k => .cons (k u List.mem_cons_self) (each_ref (Nat.succ.inj h) fun v hv => k v (List.mem_cons_of_mem _ hv))
theorem each_mem {β : Type} {R : Value → β → Prop} {p : Value → Prop} (h : ∀ u b, R u b → p u) : ∀ {us : List Value} {bs : List β}, PySem.W.EachIs R us bs → ∀ u ∈ us, p u
  | _, _, .nil, u, hu => nomatch hu
  | _, _, .cons a t, u, hu => by
    rcases List.mem_cons.mp hu with rfl | hu
    · exact h _ _ a
    · exact each_mem h t u hu
theorem each_mono {β : Type} {R S : Value → β → Prop} (h : ∀ u b, R u b → S u b) : ∀ {us : List Value} {bs : List β}, PySem.W.EachIs R us bs → PySem.W.EachIs S us bs
  | _, _, .nil => .nil
  | _, _, .cons a t => .cons (h _ _ a) (each_mono h t)
theorem each_reads {X : Cx} {pins : List (Addr × Obj)} {σ : St} {H : Hp} {s : Shared} (I : Inv X pins σ H s) {β : Type} {enc : β → PyData} : ∀ {xs : List V} {us : List Value} {bs : List β}, Vals xs us → Paired (fun x b => Dp X.K H x (enc b)) xs bs → PySem.W.EachIs (fun v b => ∃ as, PySem.Reads s.heap v (enc b) as) us bs
  | _, _, _, .nil, .nil => .nil
  | _, _, _, .cons r t, .cons a u => .cons (Dp.reads I _ _ _ a r) (each_reads I t u)
section
variable {X : Cx}
theorem cr_sortedG (hu : X.A.units + 64 < cLine) : CallR X (.builtin "sorted") (rSortG X.K) := by
  intro pins s σ H vs us Q I r h
  obtain ⟨β, enc, R, a, xs, bs, rfl, hs, hx, pR, pD, al, so, dp, q⟩ := h
  obtain ⟨its, rv, hl, hz⟩ := I.list hs
  obtain ⟨u, rfl, ru⟩ := vals1 r
  obtain rfl : u = Value.ref a := ru
  obtain ⟨e1, e2⟩ := refs_back rv hx
  have er := each_reads I rv pD
  have lx : its.length = bs.length := by rw [← rv.length, pR.length]
  have eR : PySem.W.EachIs (fun u b => R (backV u) b) its bs := each_of (e1 ▸ pR)
  have eA := each_and eR (each_ref lx e2)
  refine PySem.W.sorted_data (enc := enc) hl.isList eA er al so (by rw [← lx, ← rv.length]; exact hz) (fun b hb => by have := dp b hb; omega) fun out ho eo => ?_
  obtain ⟨c, hc⟩ := PyProof.Rows.sortedAll_at s.heap its out.toArray
  have h3 : ∀ u ∈ out, ∃ a, u = Value.ref a := each_mem (fun _ _ h => h.2) eo
  have pO : Paired R (out.map backV) (bs.mergeSort (PySem.W.dataLe false enc)) := of_each (each_mono (fun _ _ h => h.1) eo)
  refine ⟨.ref (s.heap.objs.size + 1), upd H (s.heap.objs.size + 1) (.lst (out.map backV)), I.laid (t' := s.toks) (fun b o e => PyProof.Rows.sortedAll_old e) (Nat.le_succ _) ⟨?_, out, c, vals_back h3, hc⟩, rfl, q _ _ pO (I.hok.fresh (Nat.le_succ _))⟩
  rw [List.length_map, ho, ← lx, ← rv.length]
  exact hz
end
end L2

/-! ### list(zip(a, b)), a and b lists of one length -/
namespace LiZ
open PySem PySem.W PySem.Calls PyProof.Rows PyProof.V PySem.Spec
theorem zip_no_len : typeLookup (.type "zip") "__len__" = pure none := by rw [typeLookup_type, builtinLookup_eq_fast]; kernel_rfl
theorem zip_no_hint : typeLookup (.type "zip") "__length_hint__" = pure none := by rw [typeLookup_type, builtinLookup_eq_fast]; kernel_rfl
structure ZSt (h : Heap) (z TI TO i1 i2 l1 l2 S : Addr) (i : Nat) : Prop where
  zip : (i = 0 ∧ IsZip h z TI TO .none ∧ ∃ x y, IsPair h TO x y) ∨ ∃ T f oT, IsZipHeld h z TI TO T f ∧ h.get? T = some oT ∧ T ≠ z ∧ T ≠ i1 ∧ T ≠ i2 ∧ T ≠ S
  pr : IsPair h TI (.ref i1) (.ref i2)
  a1 : h.IsListIter i1 l1 i
  a2 : h.IsListIter i2 l2 i
theorem ZSt.keep {h h' : Heap} {z TI TO i1 i2 l1 l2 S : Addr} {i : Nat} (st : ZSt h z TI TO i1 i2 l1 l2 S i) (hS : S ≠ z ∧ S ≠ TI ∧ S ≠ TO ∧ S ≠ i1 ∧ S ≠ i2) (k : ∀ b o, b ≠ S → h.get? b = some o → h'.get? b = some o) : ZSt h' z TI TO i1 i2 l1 l2 S i where
  zip := by
    rcases st.zip with ⟨e, hz, x, y, hTO⟩ | ⟨T, f, oT, hz, hT, n1, n2, n3, n4⟩
    · exact .inl ⟨e, k z _ hS.1.symm hz, x, y, k TO _ hS.2.2.1.symm hTO⟩
    · exact .inr ⟨T, f, oT, k z _ hS.1.symm hz, k T _ n4 hT, n1, n2, n3, n4⟩
  pr := k TI _ hS.2.1.symm st.pr
  a1 := st.a1.at fun o e => k i1 o hS.2.2.2.1.symm e
  a2 := st.a2.at fun o e => k i2 o hS.2.2.2.2.symm e
section
variable {prog : Program} {w : World} {A : Around} {E : Value → Shared → Prop} {s : Shared} {z TI TO i1 i2 l1 l2 S : Addr} {xs ys : Array Value}
theorem nxtZ {i : Nat} {x y : Value} {Q : Option Value → Shared → Prop} (D : ZipApart z TI TO i1 i2 l1 l2) (st : ZSt s.heap z TI TO i1 i2 l1 l2 S i) (hS : S < s.heap.objs.size ∧ S ≠ z ∧ S ≠ TI ∧ S ≠ TO ∧ S ≠ i1 ∧ S ≠ i2) (hl1 : s.heap.IsList l1 xs) (hl2 : s.heap.IsList l2 ys) (hx : xs[i]? = some x) (hy : ys[i]? = some y)
    (hQ : ∀ h', ZSt h' z TI TO i1 i2 l1 l2 S (i + 1) → IsPair h' s.heap.objs.size x y → h'.objs.size = s.heap.objs.size + 1 → (∀ c o, c ≠ z → c ≠ TO → c ≠ i1 → c ≠ i2 → s.heap.get? c = some o → h'.get? c = some o) → Q (some (.ref s.heap.objs.size)) { s with heap := h' }) :
    wpAny (model prog w) A (pyNext (.ref z)) Q E s := by
  have lz : z < s.heap.objs.size := by
    rcases st.zip with ⟨_, hz, _⟩ | ⟨T, f, oT, hz, _⟩
    · exact Heap.lt_size hz
    · exact Heap.lt_size hz
  have lp : TI < s.heap.objs.size := Heap.lt_size st.pr
  have b1 : i1 < s.heap.objs.size := let ⟨_, e, _⟩ := st.a1; Heap.lt_size e
  have b2 : i2 < s.heap.objs.size := let ⟨_, e, _⟩ := st.a2; Heap.lt_size e
  rcases st.zip with ⟨rfl, hz, x0, y0, hTO⟩ | ⟨T, f, oT, hz, hT, n1, n2, n3, n4⟩
  · refine wpAny_pyNext_zip_item D hz st.pr hTO st.a1 st.a2 hl1 hl2 hx hy fun h' z' TO' h1' h2' hp hsz hk => ?_
    refine hQ h' ⟨.inr ⟨s.heap.objs.size, false, _, z', hp, Nat.ne_of_gt lz, Nat.ne_of_gt b1, Nat.ne_of_gt b2, Nat.ne_of_gt hS.1⟩, hk TI _ D.TIz D.TITO D.TIi1 D.TIi2 st.pr, h1', h2'⟩ hp hsz hk
  · refine wpAny_pyNext_zip_item_held D hz hT st.pr st.a1 st.a2 hl1 hl2 hx hy fun h' z' h1' h2' hp hsz hk => ?_
    exact hQ h' ⟨.inr ⟨T, true, oT, z', hk T _ n1 n2 n3 hT, n1, n2, n3, n4⟩, hk TI _ D.TIz D.TIi1 D.TIi2 st.pr, h1', h2'⟩ hp hsz fun c o c1 _ c3 c4 e => hk c o c1 c3 c4 e
theorem finZ {i : Nat} {Q : Option Value → Shared → Prop} (hh : A.handled = none) (D : ZipApart z TI TO i1 i2 l1 l2) (st : ZSt s.heap z TI TO i1 i2 l1 l2 S i) (hl1 : s.heap.IsList l1 xs) (hl2 : s.heap.IsList l2 ys) (hx : xs[i]? = none)
    (hQ : ∀ h', (∀ c o, c ≠ z → c ≠ TO → c ≠ i1 → c ≠ i2 → s.heap.get? c = some o → h'.get? c = some o) → Q none { s with heap := h' }) : wpAny (model prog w) A (pyNext (.ref z)) Q E s := by
  rcases st.zip with ⟨rfl, hz, x0, y0, hTO⟩ | ⟨T, f, oT, hz, hT, n1, n2, n3, n4⟩
  · exact wpAny_pyNext_zip_end hh D hz st.pr hTO st.a1 st.a2 hl1 hl2 (.inl hx) hQ
  · exact wpAny_pyNext_zip_end_held hh D hz hT st.pr st.a1 st.a2 hl1 hl2 (.inl hx) fun h' hk => hQ h' fun c o c1 _ c3 c4 e => hk c o c1 c3 c4 e
end
/-- the pairs that stand at as -/
structure Mz (xs ys : Array Value) (lo : Addr) (h : Heap) (as : List Addr) : Prop where
  rise : as.Pairwise (· < ·)
  above : ∀ a ∈ as, lo < a
  pairs : ∀ (j : Nat) (a : Addr), as[j]? = some a → ∃ x y, xs[j]? = some x ∧ ys[j]? = some y ∧ IsPair h a x y
section
variable {prog : Program} {w : World} {A : Around} {s : Shared} {R : Result → Shared → Prop} {z TI TO i1 i2 l1 l2 S : Addr} {xs ys : Array Value} {n : Nat}
theorem loopZ (hh : A.handled = none) (D : ZipApart z TI TO i1 i2 l1 l2) (hS0 : z < S ∧ TI < S ∧ TO < S ∧ i1 < S ∧ i2 < S ∧ l1 < S ∧ l2 < S) (hx : xs.size = n) (hy : ys.size = n) (hn : n ≤ sizeLine) (res : Value) {h₁ : Heap}
    (hR : ∀ h' tk acc c as, (∀ b o, b ≠ S → b ≠ z → b ≠ TO → b ≠ i1 → b ≠ i2 → h₁.get? b = some o → h'.get? b = some o) → h'.get? S = some { cls := .type "list", dict := none, data := .seq acc c, slots := #[] } → as.length = n → Mz xs ys S h' as →
      acc.toList = as.map Value.ref → R (.ok (.ret res)) { s with heap := h', toks := tk }) :
    ∀ (k i : Nat) (h : Heap) (tk c : Nat) (acc : Array Value) (as : List Addr), n - i = k → i ≤ n → ZSt h z TI TO i1 i2 l1 l2 S i → h.IsList l1 xs → h.IsList l2 ys → (∀ b o, b ≠ S → b ≠ z → b ≠ TO → b ≠ i1 → b ≠ i2 → h₁.get? b = some o → h.get? b = some o) →
      h.get? S = some { cls := .type "list", dict := none, data := .seq acc c, slots := #[] } → acc.toList = as.map Value.ref → as.length = i → Mz xs ys S h as →
      codeAny (model prog w) A (.builtin "list.extend.loop" ⟨[.ref S, .ref z, res], []⟩) R { s with heap := h, toks := tk } := by
  obtain ⟨sz, sTI, sTO, s1, s2, sl1, sl2⟩ := hS0
  intro k
  induction k with
  | zero =>
    intro i h tk c acc as hk hi hst q1 q2 hkeep hS hacc hal hG
    refine codeAny_builtin PySem.F.entry_extend_loop ?_
    rw [Around.under_plainId PySem.F.plain_extend_loop _]
    show wpAny _ A.in1 (pyNext (.ref z) >>= _) _ _ _
    refine wpAny_bind (finZ (s := { s with heap := h, toks := tk }) (A := A.in1) hh D hst q1 q2 (Array.getElem?_eq_none (by omega)) fun h' he => ?_)
    refine wpAny_pure (hR h' tk acc c as (fun b o c1 c2 c3 c4 c5 e => he b o c2 c3 c4 c5 (hkeep b o c1 c2 c3 c4 c5 e)) (he S _ (Nat.ne_of_gt sz) (Nat.ne_of_gt sTO) (Nat.ne_of_gt s1) (Nat.ne_of_gt s2) hS) (by omega) ⟨hG.rise, hG.above, fun j a hj => ?_⟩ hacc)
    obtain ⟨x, y, e1, e2, e3⟩ := hG.pairs j a hj
    have ab := hG.above a (List.mem_of_getElem? hj)
    exact ⟨x, y, e1, e2, he a _ (Nat.ne_of_gt (Nat.lt_trans sz ab)) (Nat.ne_of_gt (Nat.lt_trans sTO ab)) (Nat.ne_of_gt (Nat.lt_trans s1 ab)) (Nat.ne_of_gt (Nat.lt_trans s2 ab)) e3⟩
  | succ k ih =>
    intro i h tk c acc as hk hi hst q1 q2 hkeep hS hacc hal hG
    have hlt : i < n := by omega
    have hsz : acc.size = i := by rw [← Array.length_toList, hacc, List.length_map, hal]
    have hSl : S < h.objs.size := Heap.lt_size hS
    refine codeAny_builtin PySem.F.entry_extend_loop ?_
    rw [Around.under_plainId PySem.F.plain_extend_loop _]
    show wpAny _ A.in1 (pyNext (.ref z) >>= _) _ _ _
    have e1 : xs[i]? = some (xs[i]'(by omega)) := Array.getElem?_eq_getElem _
    have e2 : ys[i]? = some (ys[i]'(by omega)) := Array.getElem?_eq_getElem _
    refine wpAny_bind (nxtZ (s := { s with heap := h, toks := tk }) (S := S) D hst ⟨hSl, Nat.ne_of_gt sz, Nat.ne_of_gt sTI, Nat.ne_of_gt sTO, Nat.ne_of_gt s1, Nat.ne_of_gt s2⟩ q1 q2 e1 e2 fun h' hst' ht hz hkp => ?_)
    dsimp only at ht hz hkp ⊢
    have hS' := hkp S _ (Nat.ne_of_gt sz) (Nat.ne_of_gt sTO) (Nat.ne_of_gt s1) (Nat.ne_of_gt s2) hS
    have up : ∀ b o, b ≠ S → h'.get? b = some o → (h'.update S (Obj.mapSeq (·.push (Value.ref h.objs.size)))).get? b = some o := fun b o hb e => (Heap.get?_update_other _ _ (Ne.symm hb)).trans e
    show wpAny _ A.in1 (updateSeq S (·.push (Value.ref h.objs.size)) >>= _) _ _ _
    refine wpAny_bind ?_
    refine wpAny_updateSeq hS' rfl (wpAny_pure ⟨plainId_quiet PySem.F.plain_extend_loop _, ih (i + 1) _ tk _ (acc.push (Value.ref h.objs.size)) (as ++ [h.objs.size]) (by omega) hlt (hst'.keep ⟨Nat.ne_of_gt sz, Nat.ne_of_gt sTI, Nat.ne_of_gt sTO, Nat.ne_of_gt s1, Nat.ne_of_gt s2⟩ up) ?_ ?_
      (fun b o c1 c2 c3 c4 c5 e => up b o c1 (hkp b o c2 c3 c4 c5 (hkeep b o c1 c2 c3 c4 c5 e))) (Heap.get?_update_self _ hS' rfl) (by rw [Array.toList_push, hacc, List.map_append]; rfl) (by rw [List.length_append, hal]; rfl) ⟨?_, ?_, ?_⟩⟩) (by rw [hsz]; omega) (by show (acc.push (Value.ref h.objs.size)).size ≤ sizeLine + 1; rw [Array.size_push, hsz]; omega)
    · obtain ⟨o, eo, ro⟩ := q1
      exact ⟨o, up l1 _ (Nat.ne_of_lt sl1) (hkp l1 _ D.l1z D.l1TO D.l1i1 D.l1i2 eo), ro⟩
    · obtain ⟨o, eo, ro⟩ := q2
      exact ⟨o, up l2 _ (Nat.ne_of_lt sl2) (hkp l2 _ D.l2z D.l2TO D.l2i1 D.l2i2 eo), ro⟩
    · refine List.pairwise_append.mpr ⟨hG.rise, List.pairwise_singleton _ _, fun a ha b hb => ?_⟩
      rw [List.mem_singleton.mp hb]
      obtain ⟨j, hj⟩ := List.mem_iff_getElem?.mp ha
      obtain ⟨_, _, _, _, e⟩ := hG.pairs j a hj
      exact Heap.lt_size e
    · intro a ha
      rcases List.mem_append.mp ha with ha | ha
      · exact hG.above a ha
      · rw [List.mem_singleton.mp ha]; exact hSl
    · intro j b hj
      rcases Nat.lt_trichotomy j as.length with h1 | h1 | h1
      · rw [List.getElem?_append_left h1] at hj
        obtain ⟨x, y, f1, f2, f3⟩ := hG.pairs j b hj
        have hb := hG.above b (List.mem_of_getElem? hj)
        exact ⟨x, y, f1, f2, up b _ (Nat.ne_of_gt hb) (hkp b _ (Nat.ne_of_gt (Nat.lt_trans sz hb)) (Nat.ne_of_gt (Nat.lt_trans sTO hb)) (Nat.ne_of_gt (Nat.lt_trans s1 hb)) (Nat.ne_of_gt (Nat.lt_trans s2 hb)) f3)⟩
      · subst h1
        have hb : h.objs.size = b := by simpa using hj
        subst hb
        subst hal
        exact ⟨_, _, e1, e2, up _ _ (Nat.ne_of_gt hSl) ht⟩
      · have hnone : (as ++ [h.objs.size])[j]? = none := List.getElem?_eq_none (by rw [List.length_append, List.length_singleton]; omega)
        rw [hnone] at hj; cases hj
end
section
variable {prog : Program} {w : World} {A : Around} {E : Value → Shared → Prop} {s : Shared} {R : Result → Shared → Prop} {z TI TO i1 i2 l1 l2 S : Addr} {xs ys : Array Value} {n : Nat}
theorem extZ (hh : A.handled = none) (D : ZipApart z TI TO i1 i2 l1 l2) (hS0 : z < S ∧ TI < S ∧ TO < S ∧ i1 < S ∧ i2 < S ∧ l1 < S ∧ l2 < S) (hx : xs.size = n) (hy : ys.size = n) (hn : n ≤ sizeLine) (res : Value) (c₀ : Nat)
    (hz : IsZip s.heap z TI TO .none) (hTO : ∃ x y, IsPair s.heap TO x y) (hTI : IsPair s.heap TI (.ref i1) (.ref i2)) (h1 : s.heap.IsListIter i1 l1 0) (h2 : s.heap.IsListIter i2 l2 0) (q1 : s.heap.IsList l1 xs) (q2 : s.heap.IsList l2 ys)
    (hS : s.heap.get? S = some { cls := .type "list", data := .seq #[] c₀ })
    (hR : ∀ h' tk acc c as, (∀ b o, b ≠ S → b ≠ z → b ≠ TO → b ≠ i1 → b ≠ i2 → s.heap.get? b = some o → h'.get? b = some o) → h'.get? S = some { cls := .type "list", dict := none, data := .seq acc c, slots := #[] } → as.length = n → Mz xs ys S h' as →
      acc.toList = as.map Value.ref → R (.ok (.ret res)) { s with heap := h', toks := tk }) :
    wpAny (model prog w) A.in1 (Builtin.List.listExtendWith (.ref S) (.ref z) res)
      (fun fin s' => match fin with | .done f => R (.ok f) s' | .again c' => c'.quiet = true ∧ codeAny (model prog w) A c' R s') (fun e s' => R (.error e) s') s := by
  have hT : s.TypeIs (.ref z) "zip" := ⟨_, hz, rfl⟩
  have hSz : S ≠ z := Nat.ne_of_gt hS0.1
  unfold Builtin.List.listExtendWith
  refine wpAny_bind (wpAny_typeOf (T := "zip") hT ?_)
  have g1 : Builtin.List.listSameRef (.ref S) (.ref z) = false := by simp [Builtin.List.listSameRef, hSz]
  have g2 : (Value.type "zip" == Value.type "list") = false := by decide
  have g3 : (Value.type "zip" == Value.type "tuple") = false := by decide
  simp only [g1, g2, g3, Bool.or_false, Bool.false_eq_true, if_false]
  refine wpAny_bind (wpAny_pyIter_zip hz ?_)
  refine wpAny_bind (wpAny_holding ?_)
  unfold Builtin.List.listLengthHint
  refine wpAny_bind (wpAny_specialOf hT zip_no_len ?_)
  show wpAny _ A.in1 (specialOf (Value.ref z) (Str.ofString "__length_hint__") >>= _) _ _ _
  refine wpAny_bind (wpAny_specialOf hT zip_no_hint ?_)
  refine wpAny_pure ?_
  show wpAny _ A.in1 (rule "list.extend.makes-room" >>= fun _ => Builtin.List.listTouch (.ref S) >>= fun _ =>
    again (.builtin "list.extend.loop" ⟨[.ref S, .ref z, res], []⟩)) _ _ _
  refine wpAny_bind (wpAny_rule ?_)
  refine wpAny_bind ?_
  show wpAny _ A.in1 (updateSeq S (·.push .none) >>= fun _ => updateSeq S (·.pop)) _ _ _
  refine wpAny_bind (wpAny_updateSeq hS rfl ?_)
  have hS₂ := Heap.get?_update_self (Obj.mapSeq (·.push Value.none)) hS rfl
  refine wpAny_updateSeq (hz := by seq_fits) hS₂ rfl ?_
  have hS₃ := Heap.get?_update_self (Obj.mapSeq (·.pop)) hS₂ rfl
  have oth : ∀ b o, b ≠ S → s.heap.get? b = some o → ((s.heap.update S (Obj.mapSeq (·.push Value.none))).update S (Obj.mapSeq (·.pop))).get? b = some o :=
    fun b o hb e => (Heap.get?_update_other _ _ (Ne.symm hb)).trans ((Heap.get?_update_other _ _ (Ne.symm hb)).trans e)
  obtain ⟨sz, sTI, sTO, s1, s2, sl1, sl2⟩ := id hS0
  have st0 : ZSt s.heap z TI TO i1 i2 l1 l2 S 0 := ⟨.inl ⟨rfl, hz, hTO⟩, hTI, h1, h2⟩
  refine wpAny_pure ⟨plainId_quiet PySem.F.plain_extend_loop _, loopZ (s := s) (h₁ := s.heap) hh D hS0 hx hy hn res hR n 0 _ s.toks _ _ [] (Nat.sub_zero _) (Nat.zero_le _) (st0.keep ⟨hSz, Nat.ne_of_gt sTI, Nat.ne_of_gt sTO, Nat.ne_of_gt s1, Nat.ne_of_gt s2⟩ oth) ?_ ?_ (fun b o c1 _ _ _ _ e => oth b o c1 e) hS₃ rfl rfl ⟨List.Pairwise.nil, (fun _ ha => nomatch ha), (fun j a hj => by simp at hj)⟩⟩
  · obtain ⟨o, eo, ro⟩ := q1
    exact ⟨o, oth l1 _ (Nat.ne_of_lt sl1) eo, ro⟩
  · obtain ⟨o, eo, ro⟩ := q2
    exact ⟨o, oth l2 _ (Nat.ne_of_lt sl2) eo, ro⟩
theorem callZ {Q : Value → Shared → Prop} (hh : A.handled = none) (D : ZipApart z TI TO i1 i2 l1 l2) (hS0 : z < s.heap.objs.size ∧ TI < s.heap.objs.size ∧ TO < s.heap.objs.size ∧ i1 < s.heap.objs.size ∧ i2 < s.heap.objs.size ∧ l1 < s.heap.objs.size ∧ l2 < s.heap.objs.size) (hx : xs.size = n) (hy : ys.size = n) (hn : n ≤ sizeLine)
    (hz : IsZip s.heap z TI TO .none) (hTO : ∃ x y, IsPair s.heap TO x y) (hTI : IsPair s.heap TI (.ref i1) (.ref i2)) (h1 : s.heap.IsListIter i1 l1 0) (h2 : s.heap.IsListIter i2 l2 0) (q1 : s.heap.IsList l1 xs) (q2 : s.heap.IsList l2 ys)
    (hQ : ∀ h' tk acc c as, (∀ b o, b ≠ z → b ≠ TO → b ≠ i1 → b ≠ i2 → s.heap.get? b = some o → h'.get? b = some o) → h'.get? s.heap.objs.size = some { cls := .type "list", dict := none, data := .seq acc c, slots := #[] } → as.length = n → Mz xs ys s.heap.objs.size h' as →
      acc.toList = as.map Value.ref → Q (.ref s.heap.objs.size) { s with heap := h', toks := tk }) :
    wpAny (model prog w) A (call (.type "list") [.ref z]) Q E s := by
  refine callType_codes (Q₁ := fun obj s₁ => obj = .ref s.heap.objs.size ∧ s₁ = { s with heap := s.heap.push { cls := .type "list", data := .seq #[] } }) PySem.F.called_list (PySem.F.typeCall_list_1 _) PySem.F.entry_list_init
    (code_list_new _ ⟨rfl, rfl⟩) fun obj s₁ h₁ => ?_
  obtain ⟨rfl, rfl⟩ := h₁
  have hS : (s.heap.push { cls := .type "list", data := .seq #[] }).get? s.heap.objs.size = some { cls := .type "list", data := .seq #[] } := Heap.get?_push_size _ rfl
  refine ⟨⟨_, hS, rfl⟩, PySem.F.args_list_init_2 _ _, ?_⟩
  show wpAny _ _ (do let old ← Builtin.List.listItems (.ref s.heap.objs.size); Builtin.List.listUpdate (.ref s.heap.objs.size) (fun _ => #[]); letGo old.toList.reverse; Builtin.List.listExtendWith (.ref s.heap.objs.size) (.ref z) .none) _ _ _
  refine wpAny_bind ?_
  unfold Builtin.List.listItems
  refine wpAny_bind (wpAny_seqItems hS rfl (wpAny_pure ?_))
  show wpAny _ _ (updateSeq s.heap.objs.size (fun _ => #[]) >>= fun _ => letGo (#[] : Array Value).toList.reverse >>= fun _ => Builtin.List.listExtendWith (.ref s.heap.objs.size) (.ref z) .none) _ _ _
  refine wpAny_bind (wpAny_updateSeq hS rfl ?_)
  have hS₂ := Heap.get?_update_self (Obj.mapSeq (fun _ => (#[] : Array Value))) hS rfl
  have oth : ∀ b o, b ≠ s.heap.objs.size → s.heap.get? b = some o → ((s.heap.push { cls := .type "list", data := .seq #[] }).update s.heap.objs.size (Obj.mapSeq (fun _ => (#[] : Array Value)))).get? b = some o :=
    fun b o hb e => (Heap.get?_update_other _ _ (Ne.symm hb)).trans (Heap.get?_push_of_some _ e)
  obtain ⟨sz, sTI, sTO, s1, s2, sl1, sl2⟩ := id hS0
  refine wpAny_bind (wpAny_letGo ?_)
  refine extZ (A := A.in1) (s := { s with heap := (s.heap.push { cls := .type "list", data := .seq #[] }).update s.heap.objs.size (Obj.mapSeq (fun _ => (#[] : Array Value))) }) hh D hS0 hx hy hn .none _ (oth z _ (Nat.ne_of_lt sz) hz) (let ⟨x, y, e⟩ := hTO; ⟨x, y, oth TO _ (Nat.ne_of_lt sTO) e⟩) (oth TI _ (Nat.ne_of_lt sTI) hTI) (h1.at fun o e => oth i1 o (Nat.ne_of_lt s1) e) (h2.at fun o e => oth i2 o (Nat.ne_of_lt s2) e) ?_ ?_ hS₂ (fun h' tk acc c as hk hS' hl hG hacc => ?_)
  · obtain ⟨o, eo, ro⟩ := q1
    exact ⟨o, oth l1 _ (Nat.ne_of_lt sl1) eo, ro⟩
  · obtain ⟨o, eo, ro⟩ := q2
    exact ⟨o, oth l2 _ (Nat.ne_of_lt sl2) eo, ro⟩
  · exact ⟨rfl, hQ h' tk acc c as (fun b o c1 c2 c3 c4 e => hk b o (Nat.ne_of_lt (Heap.lt_size e)) c1 c2 c3 c4 (oth b o (Nat.ne_of_lt (Heap.lt_size e)) e)) hS' hl hG hacc⟩
end
end LiZ
namespace LiZ
open PySem PySem.Spec PyProof.Rows L2
/-- the tuples tracked at their addresses -/
def putP : Hp → List Addr → List (V × V) → Hp
  | H, a :: as, p :: ps => putP (upd H a (.tup [p.1, p.2])) as ps
  | H, _, _ => H
theorem putP_off {b : Addr} : ∀ (as : List Addr) (ps : List (V × V)) (H : Hp), b ∉ as → putP H as ps b = H b
  | [], _, _, _ => rfl
  | _ :: _, [], _, _ => rfl
  | a :: as, p :: ps, H, h => by
    show putP (upd H a (.tup [p.1, p.2])) as ps b = H b
    rw [putP_off as ps _ (fun z => h (List.mem_cons_of_mem _ z)), upd_ne (fun z => h (by rw [z]; exact List.mem_cons_self))]
theorem putP_at : ∀ (as : List Addr) (ps : List (V × V)) (H : Hp), as.length = ps.length → as.Nodup → Paired (fun (t : Addr) (p : V × V) => putP H as ps t = some (.tup [p.1, p.2])) as ps
  | [], [], _, _, _ => .nil
  | [], _ :: _, _, h, _ => by cases h
  | _ :: _, [], _, h, _ => by cases h
  | a :: as, p :: ps, H, h, hn => by
    have hn' := List.nodup_cons.mp hn
    have ih := putP_at as ps (upd H a (.tup [p.1, p.2])) (Nat.succ.inj h) hn'.2
    refine .cons ?_ ih
    show putP (upd H a (.tup [p.1, p.2])) as ps a = some (.tup [p.1, p.2])
    rw [putP_off as ps _ hn'.1, upd_same]
section
variable {X : Cx} {e1 e2 : Expr} {ta : TA} {p p2 pos pos2 : Pos}
theorem laidZ {pins : List (Addr × Obj)} {σ : L2.St} {H : Hp} {s : Shared} {h' : Heap} {tk : Nat} {S : Addr} {ps : List (V × V)} {acc : Array Value} {c : Nat} {as : List Addr} (I : Inv X pins σ H s) (hSg : s.heap.objs.size ≤ S) (hz : ps.length ≤ sizeLine)
    (hk : ∀ b o, s.heap.get? b = some o → h'.get? b = some o) (hS : h'.get? S = some { cls := .type "list", dict := none, data := .seq acc c, slots := #[] }) (hl : as.length = ps.length) (rise : as.Pairwise (· < ·)) (above : ∀ a ∈ as, S < a)
    (tu : ∀ (j : Nat) (a : Addr) (q : V × V), as[j]? = some a → ps[j]? = some q → ∃ u v, RelV q.1 u ∧ RelV q.2 v ∧ h'.get? a = some { cls := .type "tuple", data := .seq #[u, v] }) (hacc : acc.toList = as.map Value.ref) :
    ∃ H' : Hp, (∀ b o, H b = some o → H' b = some o) ∧ H' S = some (.lst (as.map V.ref)) ∧ Paired (fun (t : Addr) (q : V × V) => H' t = some (.tup [q.1, q.2])) as ps ∧ Inv X pins σ H' { s with heap := h', toks := tk } := by
  have hSn : S ∉ as := fun z => Nat.lt_irrefl _ (above _ z)
  have nd : as.Nodup := List.Pairwise.imp (fun {a b} (h : a < b) => Nat.ne_of_lt h) rise
  have new : ∀ t ∈ as, H t = none := fun t ht => I.hok.fresh (Nat.le_trans hSg (Nat.le_of_lt (above t ht)))
  have newS : H S = none := I.hok.fresh hSg
  have atP := putP_at as ps (upd H S (.lst (as.map V.ref))) (by omega) nd
  have off : ∀ b, b ∉ as → b ≠ S → putP (upd H S (.lst (as.map V.ref))) as ps b = H b := fun b h1 h2 => by rw [putP_off as ps _ h1, upd_ne h2]
  have low : ∀ b o, s.heap.get? b = some o → b ∉ as ∧ b ≠ S := fun b o e => ⟨fun z => absurd (Heap.lt_size e) (Nat.not_lt.mpr (Nat.le_trans hSg (Nat.le_of_lt (above b z)))), fun z => absurd (Heap.lt_size e) (Nat.not_lt.mpr (by rw [z]; exact hSg))⟩
  have kp : ∀ b u, H b = some u → (putP (upd H S (.lst (as.map V.ref))) as ps) b = some u := fun b u e => by
    rw [off b (fun z => by rw [new b z] at e; cases e) (fun z => by rw [z, newS] at e; cases e)]
    exact e
  have eS : putP (upd H S (.lst (as.map V.ref))) as ps S = some (.lst (as.map V.ref)) := by rw [putP_off as ps _ hSn, upd_same]
  refine ⟨putP (upd H S (.lst (as.map V.ref))) as ps, kp, eS, atP, ?_⟩
  refine I.call' (ch := []) rfl ⟨fun b o q _ _ _ => hk b o q, fun b o q _ _ _ => ⟨o.slots, hk b o q⟩, fun b o q n _ => ?_, fun b o q _ => ⟨o, hk b o q⟩, fun b xs q => kp b _ q, fun b o u q => kp b _ q, fun b ps q => ⟨#[], by rw [kp b _ q]; simp⟩⟩ (fun b u q => ?_) I.bare fun b z => by simp at z
  · obtain ⟨z1, z2⟩ := low b o q
    rw [off b z1 z2]
    exact n
  · by_cases hb : b ∈ as
    · obtain ⟨j, pk, f1, f2, f3⟩ := LiI.paired_ix atP hb
      rw [f3] at q
      cases q
      obtain ⟨u, v, r1, r2, g⟩ := tu j b pk f1 f2
      exact ⟨by show 2 ≤ sizeLine; decide, [u, v], .cons r1 (.cons r2 .nil), ⟨_, g, rfl, _, rfl⟩⟩
    · by_cases hb2 : b = S
      · rw [hb2] at q ⊢
        rw [eS] at q
        cases q
        refine ⟨by rw [List.length_map]; omega, acc.toList, c, by rw [hacc]; exact LiI.vals_refs as, ?_⟩
        rw [Array.toArray_toList]
        exact hS
      · rw [off b hb hb2] at q
        exact (I.hok b u q).stay (fun d v _ y => hk d v y) (fun d y => kp d _ y) fun d xs y => kp d _ y
def tListZip (K : PySem.W.Frag) (ta : TA) : TE := fun σ H Q => ta σ H fun vs H1 => ∃ a b xs ys, vs = [.ref a, .ref b] ∧ SqL K H1 a xs ∧ SqL K H1 b ys ∧ xs.length = ys.length ∧
  ∀ (H' : Hp) (p : Addr) (ts : List Addr), (∀ b o, H1 b = some o → H' b = some o) → H' p = some (.lst (ts.map V.ref)) → Paired (fun (t : Addr) (q : V × V) => H' t = some (.tup [q.1, q.2])) ts (xs.zip ys) → Q (.ref p) H'
/-- list(zip(a, b)) -/
theorem pe_listZip (hc : X.calm = true) (hg : Gl X "list") (hm : X.mg "list" = none) (hg2 : Gl X "zip") (hm2 : X.mg "zip" = none) (ha : PA X [e1, e2] ta)
    (hs2 : starEach [e1, e2] X.env = (false, eval e1 X.env) :: starEach [e2] X.env := by rfl) (hpl : (backTo pos2 (starEach [e2] X.env)).any (·.1) = false := by rfl)
    (hs : starEach [.Call (.Name "zip" p2) [e1, e2] [] pos2] X.env = (false, eval (.Call (.Name "zip" p2) [e1, e2] [] pos2) X.env) :: starEach [] X.env := by rfl) :
    PE X (.Call (.Name "list" p) [.Call (.Name "zip" p2) [e1, e2] [] pos2] [] pos) (tListZip X.K ta) := by
  refine ⟨fun pins s σ H Q I h => ?_⟩
  refine Call_ (ld_blt I hg hm boot_list (PyProof.Rows.callWith_type1 (args_cons (Call_ (ld_blt I hg2 hm2 PyProof.Rows.boot_zip (PyProof.Rows.callWith_type1 (thn (ha.run pos2 pins s σ H _ I h) fun us s1 ⟨vs, H1, I1, r1, q1⟩ => ?_) hs2 hpl))) hs) hs rfl))
  obtain ⟨a, b, xs, ys, ex, hqx, hqy, hl, q⟩ := q1
  subst ex
  cases r1 with
  | cons r rr =>
    cases rr with
    | cons r' rr =>
      cases rr
      cases r
      cases r'
      obtain ⟨its, rv, p1, z1⟩ := I1.list hqx
      obtain ⟨its2, rv2, p2', z2⟩ := I1.list hqy
      have lv := rv.length
      have lv2 := rv2.length
      have la : a < s1.heap.objs.size := p1.lt
      have lb : b < s1.heap.objs.size := p2'.lt
      refine call_zip_2 p1.isList p2'.isList fun hZ hz hTI hTO h1 h2 hsz hk => ?_
      refine args_nil ?_
      refine callZ (s := { s1 with heap := hZ }) (n := xs.length) (I1.ok.hd hc) (PySem.W.ktu_apart s1.heap.objs.size a b la lb) ?_ (by rw [List.size_toArray]; omega) (by rw [List.size_toArray]; omega) z1 hz ⟨_, _, hTO⟩ hTI h1 h2 (let ⟨o, eo, ro⟩ := p1.isList; ⟨o, hk _ _ eo, ro⟩) (let ⟨o, eo, ro⟩ := p2'.isList; ⟨o, hk _ _ eo, ro⟩) fun h' tk acc c as hk' hS hl' hG hacc => ?_
      · show _ < hZ.objs.size ∧ _ < hZ.objs.size ∧ _ < hZ.objs.size ∧ _ < hZ.objs.size ∧ _ < hZ.objs.size ∧ _ < hZ.objs.size ∧ _ < hZ.objs.size
        rw [hsz]
        have la' : Nat.lt a s1.heap.objs.size := la
        have lb' : Nat.lt b s1.heap.objs.size := lb
        have step : ∀ {m k : Nat}, m < k → m < k + 5 := fun {m k} h => Nat.lt_of_lt_of_le h (Nat.le_add_right _ _)
        exact ⟨Nat.lt_succ_self _, Nat.add_lt_add_left (by decide) _, Nat.add_lt_add_left (by decide) _, Nat.lt_add_of_pos_right (by decide), Nat.add_lt_add_left (by decide) _, step la', step lb'⟩
      have keep : ∀ b o, s1.heap.get? b = some o → h'.get? b = some o := fun b o e => by
        have lt := Heap.lt_size e
        refine hk' b o ?_ ?_ ?_ ?_ (hk b o e)
        · exact Nat.ne_of_lt (Nat.lt_of_lt_of_le lt (Nat.le_add_right _ _))
        · exact Nat.ne_of_lt (Nat.lt_of_lt_of_le lt (Nat.le_add_right _ _))
        · exact Nat.ne_of_lt lt
        · exact Nat.ne_of_lt (Nat.lt_of_lt_of_le lt (Nat.le_add_right _ _))
      have tu : ∀ (j : Nat) (t : Addr) (pr : V × V), as[j]? = some t → (xs.zip ys)[j]? = some pr → ∃ u v, RelV pr.1 u ∧ RelV pr.2 v ∧ h'.get? t = some { cls := .type "tuple", data := .seq #[u, v] } := fun j t pr e1 e2 => by
        obtain ⟨u, v, f1, f2, f3⟩ := hG.pairs j t e1
        obtain ⟨x, y⟩ := pr
        obtain ⟨g1, g2⟩ := List.getElem?_zip_eq_some.mp e2
        obtain ⟨u', hu, ru⟩ := rv.get g1
        obtain ⟨v', hv, rv'⟩ := rv2.get g2
        have a1 : its[j]? = some u := by simpa using f1
        have a2 : its2[j]? = some v := by simpa using f2
        rw [hu] at a1
        rw [hv] at a2
        cases a1
        cases a2
        exact ⟨_, _, ru, rv', f3⟩
      obtain ⟨H', k1, k2, k3, J⟩ := laidZ (tk := tk) (ps := xs.zip ys) I1 (by show s1.heap.objs.size ≤ hZ.objs.size; rw [hsz]; exact Nat.le_add_right _ _) (by rw [List.length_zip]; omega) keep hS (by rw [List.length_zip, hl', ← hl, Nat.min_self]) hG.rise hG.above tu hacc
      exact ⟨.ref _, H', J, rfl, q H' _ as k1 k2 k3⟩
end
end LiZ

/-! ### a list's slice with a step -/
namespace L2
open PySem PySem.Spec PyProof.Rows
def pickL (xs : List V) (lo st : Option Int) : List V :=
  (sliceRange (sliceBounds lo none st xs.length).1 (sliceBounds lo none st xs.length).2.1 (sliceBounds lo none st xs.length).2.2).filterMap fun i => xs[i]?
theorem vals_pick {xs : List V} {its : List Value} (r : Vals xs its) : ∀ l : List Nat, Vals (l.filterMap fun i => xs[i]?) (l.filterMap fun i => its.toArray[i]?)
  | [] => .nil
  | i :: l => by
    have lv := r.length
    rw [List.filterMap_cons, List.filterMap_cons]
    by_cases h : i < xs.length
    · have e : xs[i]? = some xs[i] := List.getElem?_eq_getElem h
      obtain ⟨u, hu, ru⟩ := r.get e
      have e2 : its.toArray[i]? = some u := by simpa using hu
      rw [e, e2]
      exact .cons ru (vals_pick r l)
    · have e : xs[i]? = none := List.getElem?_eq_none (by omega)
      have e2 : its.toArray[i]? = none := by
        simp
        omega
      rw [e, e2]
      exact vals_pick r l
def tSlS (K : PySem.W.Frag) (te : TE) (tlo : TO) (st : Int) : TE := fun σ H Q => te σ H fun x H1 => tlo σ H1 fun lo H2 => ∃ a xs, x = .ref a ∧ SqL K H2 a xs ∧ (pickL xs lo (some st)).length ≤ sizeLine ∧ ∀ p, H2 p = none → Q (.ref p) (upd H2 p (.lst (pickL xs lo (some st))))
section
variable {X : Cx}
theorem pe_slS {e : Expr} {lo : Option Expr} {te : TE} {tlo : TO} {i : Int} {k : Nat} {p1 p3 pos : Pos} (he : PE X e te) (hlo : PO X lo tlo) (h0 : (some i : Option Int) ≠ some 0 := by decide) :
    PE X (.Subscript e (.Slice lo none (some (.Constant (.int i) k p1)) p3) pos) (tSlS X.K te tlo i) := by
  refine ⟨fun pins s σ H Q I h => ?_⟩
  refine Subscript_ (thn (he.run pins s σ H _ I h) fun v s1 ⟨x, H1, I1, r1, q1⟩ => ?_)
  have hst : PO X (some (.Constant (.int i) k p1)) (tPart (tC (.int i))) := po_some pe_int
  refine wpAny_Slice (thn (hlo.run pins s1 σ H1 _ I1 q1) fun vl s2 ⟨l, H2, I2, pl, q2⟩ => ?_)
  obtain ⟨a, xs, ex, hx, hlen, q⟩ := q2
  subst ex
  cases r1
  refine thn (po_none.run pins s2 σ H2 (fun o H3 => o = none ∧ H3 = H2) I2 ⟨rfl, rfl⟩) fun vu s3 ⟨u, H3, I3, pu, eu, e3⟩ => ?_
  subst eu e3
  refine thn (hst.run pins s3 σ H3 (fun o H4 => o = some i ∧ H4 = H3) I3 ⟨i, rfl, rfl, rfl⟩) fun vs s4 ⟨o, H4, I4, ps, eo, e4⟩ => ?_
  subst eo e4
  have I5 : Inv X pins σ H4 { s4 with heap := s4.heap.push { cls := .type "slice", data := .fields #[vl, vu, vs] } } := I4.kept (t' := s4.toks) fun b ob q => Heap.get?_push_of_some _ q
  obtain ⟨its, r, ht, hz⟩ := I5.list hx
  have hlen' := r.length
  show wpAny (model X.prog X.w) X.A (subscriptTail e (.Slice lo none (some (.Constant (.int i) k p1)) p3) (.ref a) (.ref s4.heap.objs.size)) (EP X pins σ Q) X.xe { s4 with heap := s4.heap.push { cls := .type "slice", data := .fields #[vl, vu, vs] } }
  refine tail_any (ops := [.ref a, .ref s4.heap.objs.size]) ht.isList.typeIs (PySem.slot_list_getitem.lookup) ?_ (by with_unfolding_all rfl)
  refine wpAny_getItem_list_slice ht.isList (Heap.IsSliceOf.new _ vl vu vs) pl pu ps h0 ?_ (by rw [List.size_toArray]; omega)
  refine ⟨.ref _, _, I5.laid (t' := s4.toks) (o := .lst (pickL xs l (some i))) (fun b ob q => Heap.get?_push_of_some _ q) (Nat.le_refl _) ?_, rfl, q _ (I5.hok.fresh (Nat.le_refl _))⟩
  refine ⟨hlen, _, 0, ?_, Heap.get?_push_size _ rfl⟩
  have e : its.toArray.size = xs.length := by rw [List.size_toArray]; omega
  have := vals_pick r (sliceRange (sliceBounds l none (some i) xs.length).1 (sliceBounds l none (some i) xs.length).2.1 (sliceBounds l none (some i) xs.length).2.2)
  unfold pickL
  rw [← e] at this ⊢
  exact this
end
end L2

namespace T
open PySem PySem.Spec PyProof.Rows L2
def SameBut (a : Addr) (H H' : Hp) : Prop := ∀ b o, b ≠ a → H b = some o → H' b = some o
theorem SameBut.refl (a : Addr) (H : Hp) : SameBut a H H := fun _ _ _ h => h
theorem SameBut.trans {a : Addr} {H H1 H2 : Hp} (x : SameBut a H H1) (y : SameBut a H1 H2) : SameBut a H H2 := fun b o n h => y b o n (x b o n h)
theorem SameBut.upd {a : Addr} {H : Hp} {o : HO} : SameBut a H (upd H a o) := fun b u n h => by rw [upd_ne n]; exact h
theorem SameBut.new {a p : Addr} {H : Hp} {o : HO} (h : H p = none) : SameBut a H (L2.upd H p o) := fun b u n e => by rw [upd_ne (ne_of_none e h)]; exact e
theorem Same.but {a : Addr} {H H' : Hp} (h : Same H H') : SameBut a H H' := fun b o _ e => h b o e
theorem same_upd {H : Hp} {p : Addr} {o : HO} (h : H p = none) : Same H (upd H p o) := fun b x e => by
  rw [upd_ne (ne_of_none e h)]
  exact e
theorem upd_self {H : Hp} {a : Addr} {o : HO} (h : H a = some o) : upd H a o = H := by
  funext b
  unfold upd
  by_cases e : b = a
  · rw [if_pos e, e, h]
  · rw [if_neg e]
theorem Same.mut {H H' : Hp} {p : Addr} {o : HO} (e : Same H H') (h : H p = none) : Same H (upd H' p o) := fun a u ha => by
  rw [upd_ne (ne_of_none ha h)]
  exact e a u ha
theorem map_int_get {ns : List Int} {i : Nat} {y : V} (hi : (ns.map V.int)[i]? = some y) : ∃ z, ns[i]? = some z ∧ y = V.int z := by
  rw [List.getElem?_map] at hi
  cases e : ns[i]? with
  | none =>
    rw [e] at hi
    cases hi
  | some z =>
    rw [e] at hi
    exact ⟨z, rfl, (Option.some.inj hi).symm⟩
theorem small_of {n : Nat} (h : n ≤ 100000) : n < sizeLine := Nat.lt_of_le_of_lt h (by decide)
structure ErrC (K : PySem.W.Frag) (mg : Str → Option Value) (x : Str) (C : Addr) : Prop where
  gc : mg x = some (.ref C)
  xC : PySem.W.excIn K C [.type "ValueError", .type "Exception", .type "BaseException", .type "object"] "ValueError.__new__" = true
  kc : PySem.W.keepIn K (.ref C) = true
  bc : PySem.W.subIn K (.ref C) (.type "BaseException") = some true
  tc : PySem.W.typeIn K (.ref C) = some (.type "type")
/-- a def whose defaults stand somewhere (called with all its arguments) -/
structure FunA (K : PySem.W.Frag) (x qual : Str) (st : Stmt) (f : Addr) (fd : FuncData) : Prop where
  ex : ∃ (oc : Value) (od : Option Addr) (dV kV doc pm : Value) (an : Option Addr) (cdv ct : Value) (osl : Array (Option Value)),
    fd = PySem.W.fnOf x qual (defArgs st) (defBody st) (defScope st) dV kV doc pm an cdv ct ∧ K.lookup f = some ⟨oc, od, .func fd, osl⟩ ∧ PySem.W.codeIn K cdv qual = true
  kp : PySem.W.keepIn K (.ref f) = true
section
variable {P : Program} {w : World} {K : PySem.W.Frag} {mg : Str → Option Value} {base : Heap}
theorem FunA.okX {x qual : Str} {st : Stmt} {f : Addr} {fd : FuncData} {N ps : List Str} {k : Nat} {sp : Sp} (F : FunA K x qual st f fd) (S : FnScope N ps (defScope st)) (len : ∀ vs H Q E, sp vs H Q E → vs.length = ps.length)
    (hbody : ∀ (cdv : Value) (A : Around) (outer : List Env) (s : Shared) (H : Hp) (vs : List V) (Q : VK) (E : XK), Room k (A.deeper (envOfC qual (defScope st) s.heap.objs.size f cdv)) → sp vs H Q E →
      ∃ t, PSs (cxOf (L2.CX P w) P w K mg base N qual (defScope st) f cdv A outer s H E) (defBody st) t ∧ t { nx := fun _ H' => Q .non H', rt := Q } (start N vs) H) : FnOk P w K mg base (L2.CX P w) (k + 1) f fd ps sp := by
  obtain ⟨oc, od, dV, kV, doc, pm, an, cdv, ct, osl, rfl, lk, hcd⟩ := F.ex
  exact fn_of lk hcd S len fun A outer s H vs Q E hr hsp => hbody cdv A outer s H vs Q E hr hsp
end
theorem if_pos_of {b : Bool} {A B : Prop} (h : b = true) (x : A) : if b = true then A else B := by
  rw [if_pos h]
  exact x
theorem if_neg_of {b : Bool} {A B : Prop} (h : ¬ b = true) (x : B) : if b = true then A else B := by
  rw [if_neg h]
  exact x
theorem sqT_same {K : PySem.W.Frag} {H H' : Hp} {a : Addr} {xs : List V} (e : Same H H') (h : SqT K H a xs) : SqT K H' a xs := by
  rcases h with (h | ⟨o, h⟩) | h
  · exact .inl (.inl (e _ _ h))
  · exact .inl (.inr ⟨o, e _ _ h⟩)
  · exact .inr h
section
variable {P : Program} {w : World} {K : PySem.W.Frag} {mg : Str → Option Value} {base : Heap}
theorem room64 {k : Nat} {A : Around} (hr : Room k A) : A.units + 64 < cLine := by have := hr.un; omega
theorem room65 {k : Nat} {A : Around} (hr : Room k A) : A.units + 65 < cLine := by have := hr.un; omega
theorem inV_primes {p : Int} : inV (.int p) [.int 2, .int 3, .int 5, .int 7, .int 11, .int 13, .int 17, .int 19, .int 23, .int 29, .int 31] = inV (.int p) (primes.map V.int) := rfl
end
theorem sqT_but {K : PySem.W.Frag} {H H' : Hp} {r a : Addr} {xs : List V} (e : SameBut r H H') (n : a ≠ r) (h : SqT K H a xs) : SqT K H' a xs := by
  rcases h with (h | ⟨o, h⟩) | h
  · exact .inl (.inl (e _ _ n h))
  · exact .inl (.inr ⟨o, e _ _ n h⟩)
  · exact .inr h
theorem at_tab {xs : List Int} {i : Int} (h0 : 0 ≤ i) (h1 : i < xs.length) : atI (xs.map V.int) i = some (.int (xs.getD i.toNat 0)) := by
  obtain ⟨n, rfl⟩ := Int.eq_ofNat_of_zero_le h0
  have hn : n < xs.length := by omega
  refine atI_nat ?_
  rw [List.getElem?_map, List.getElem?_eq_getElem hn, List.getD_eq_getElem?_getD, show ((n : Nat) : Int).toNat = n from rfl, List.getElem?_eq_getElem hn]
  rfl
theorem mod_lt8 (n : Int) {m : Int} (h : 0 < m) : 0 ≤ n % m ∧ n % m < m := ⟨Int.emod_nonneg _ (by omega), Int.emod_lt_of_pos _ h⟩
def wtab : List Int := [0, 0, 0, 2, 3, 5, 7, 31]
theorem wtab_in : ∀ k : Nat, k < 8 → wtab.getD k 0 = 0 ∨ (wtab.getD k 0 ≠ 0 ∧ inV (.int (wtab.getD k 0)) (primes.map V.int) = true ∧ 2 ≤ wtab.getD k 0) := by decide
/-! ### isinstance of the error that an except suite holds -/
def rIsE' (K : PySem.W.Frag) (cls : Value) (d : Option Addr) (a : Addr) : List V → Hp → VK → Prop := fun xs H Q => ∃ D : Addr, cls = .ref D ∧ d = none ∧ ExcC K D ∧ rIsE K D a xs H Q
theorem call_isE' {X : Cx} {a : Addr} {oe : Obj} {pn : List (Addr × Obj)} {cls : Value} {d : Option Addr} (hz : Zc cls d oe) (hf : ∃ vs, oe.data = .fields vs) : CallR (X.suite a ((a, oe) :: pn)) (.builtin "isinstance") (rIsE' X.K cls d a) := by
  intro pins s σ H xs us Q I r h
  obtain ⟨D, rfl, rfl, C, h⟩ := h
  exact call_isE C hz hf pins s σ H xs us Q I r h
theorem pe_indexK {X : Cx} {K : PySem.W.Frag} {o e : Expr} {to : TE} {t : TA} {apos cpos : Pos} (hK : X.K = K) (ho : PE X o to) (ha : PA X [e] t)
    (hb : attributeBase o "index" X.env (eval o X.env) = eval o X.env := by rfl)
    (hf : ((backTo cpos (starEach [e] X.env)).all (fun x => !x.1) && (backToKw cpos (keywordEach [] X.env)).all (fun x => x.1.isSome) && decide ([e].length + ([] : List Keyword).length + (if ([] : List Keyword).isEmpty then 0 else 1) < 30)) = true := by rfl)
    (hl : (apos.endLine == cpos.line) = true := by rfl) (hs : starEach [e] X.env = (false, eval e X.env) :: starEach [] X.env := by rfl) (hp : (backTo cpos (starEach [] X.env)).any (·.1) = false := by rfl) :
    PE X (.Call (.Attribute o "index" apos) [e] [] cpos) (tBM K "list" (rIndex K) to t) := by
  subst hK
  exact pe_bm PySem.F.plainAttrs_list PySem.F.slot_list_index PySem.F.type_list_index mt_index ho ha hb hf hl hs hp
/-! ### values without depth -/
inductive Val1 (H : Hp) : V → PyData → Prop
  | non : Val1 H .non .none
  | bl (b : Bool) : Val1 H (.bl b) (.bool b)
  | str (x : Str) : Val1 H (.str x) (.str x)
  | pair {t : Addr} {u v : Int} : H t = some (.tup [.int u, .int v]) → Val1 H (.ref t) (.tuple [.int u, .int v])
theorem Val1.dp {K : PySem.W.Frag} {H : Hp} {x : V} {d : PyData} (h : Val1 H x d) : Dp K H x d := by
  cases h with
  | non => exact .non
  | bl b => exact .bl b
  | str x => exact .str x
  | pair h => exact .tup (.inl (.inl h)) (.cons (.int _) (.cons (.int _) .nil))
theorem Val1.but {H H' : Hp} {D : Addr} {ys : List V} {x : V} {d : PyData} (s : SameBut D H H') (hD : H D = some (.lst ys)) (h : Val1 H x d) : Val1 H' x d := by
  cases h with
  | non => exact .non
  | bl b => exact .bl b
  | str x => exact .str x
  | pair h => exact .pair (s _ _ (ne_of h hD (fun z => nomatch z)) h)
theorem Val1.same {H H' : Hp} {x : V} {d : PyData} (s : Same H H') (h : Val1 H x d) : Val1 H' x d := by
  cases h with
  | non => exact .non
  | bl b => exact .bl b
  | str x => exact .str x
  | pair h => exact .pair (s _ _ h)
theorem vals1_dp {K : PySem.W.Frag} {H : Hp} : ∀ {xs : List V} {ds : List PyData}, Paired (Val1 H) xs ds → DpAll K H xs ds
  | _, _, .nil => .nil
  | _, _, .cons a b => .cons a.dp (vals1_dp b)
theorem paired_snoc {α β : Type} {F : α → β → Prop} {a : α} {b : β} (h : F a b) : ∀ {l : List α} {m : List β}, Paired F l m → Paired F (l ++ [a]) (m ++ [b])
  | _, _, .nil => .cons h .nil
  | _, _, .cons x y => .cons x (paired_snoc h y)

/-- the first def of a class -/
def inCls : Stmt → Stmt
  | .ClassDef _ _ _ body _ _ _ _ _ _ _ => body.getD 0 (.Pass ⟨0, 0, 0, 0⟩)
  | s => s
theorem pt_truthK {X : Cx} {K : PySem.W.Frag} {a : Expr} {ta : TE} (hK : X.K = K) (ha : PE X a ta) (he : ∀ whole, isTrue a X.env whole = (do let v ← whole; standAt a.pos; holding [v] (truthy v))) :
    PT X a (fun σ H Q => ta σ H fun x H' => ∃ k, TruV K x H' k ∧ Q k H') := by
  subst hK
  exact pt_truth ha he
theorem op_in_seqK {X : Cx} {K : PySem.W.Frag} (hK : X.K = K) : OpR X (compareOp .In) (rIn K false) := by
  subst hK
  exact op_in_seq
theorem op_notIn_seqK {X : Cx} {K : PySem.W.Frag} (hK : X.K = K) : OpR X (compareOp .NotIn) (rIn K true) := by
  subst hK
  exact op_notIn_seq
theorem pi_listK {X : Cx} {K : PySem.W.Frag} {tg e : Expr} {te : TE} (hK : X.K = K) (he : PE X e te) : PI X tg e (iList K te) := by
  subst hK
  exact pi_list he

def topS (i : Nat) : Stmt := PySem.Challenge.pw_threadworth_k82_whole_diagrams_that_lead.main.body.getD i (.Pass ⟨0, 0, 0, 0⟩)
abbrev s_is_size_ : Stmt := topS 10
theorem sc_is_size_ : FnScope ["n", "m"] ["n", "m"] (defScope s_is_size_) := ⟨rfl, rfl, rfl, by decide +kernel, rfl, by decide +kernel, by decide +kernel⟩
abbrev s_check_size_ : Stmt := topS 11
theorem sc_check_size_ : FnScope ["n", "m"] ["n", "m"] (defScope s_check_size_) := ⟨rfl, rfl, rfl, by decide +kernel, rfl, by decide +kernel, by decide +kernel⟩
abbrev s_is_diagram : Stmt := topS 12
theorem sc_is_diagram : FnScope ["diagram", "n", "m", "blocks", "points", "firsts", "block", "point"] ["diagram"] (defScope s_is_diagram) := ⟨rfl, rfl, rfl, by decide +kernel, rfl, by decide +kernel, by decide +kernel⟩
abbrev s_check_diagram : Stmt := topS 13
theorem sc_check_diagram : FnScope ["diagram"] ["diagram"] (defScope s_check_diagram) := ⟨rfl, rfl, rfl, by decide +kernel, rfl, by decide +kernel, by decide +kernel⟩
abbrev s_check_family : Stmt := topS 14
theorem sc_check_family : FnScope ["family"] ["family"] (defScope s_check_family) := ⟨rfl, rfl, rfl, by decide +kernel, rfl, by decide +kernel, by decide +kernel⟩
abbrev s_from_labels : Stmt := topS 15
theorem sc_from_labels : FnScope ["n", "m", "marks", "blocks", "point", "mark"] ["n", "m", "marks"] (defScope s_from_labels) := ⟨rfl, rfl, rfl, by decide +kernel, rfl, by decide +kernel, by decide +kernel⟩
abbrev s_is_in : Stmt := topS 16
theorem sc_is_in : FnScope ["family", "diagram", "n", "_", "blocks", "block"] ["family", "diagram"] (defScope s_is_in) := ⟨rfl, rfl, rfl, by decide +kernel, rfl, by decide +kernel, by decide +kernel⟩
abbrev s_is_block_of_ : Stmt := topS 17
theorem sc_is_block_of_ : FnScope ["family", "n", "block"] ["family", "n", "block"] (defScope s_is_block_of_) := ⟨rfl, rfl, rfl, by decide +kernel, rfl, by decide +kernel, by decide +kernel⟩
abbrev s_is_strand_ : Stmt := topS 18
theorem sc_is_strand_ : FnScope ["n", "block"] ["n", "block"] (defScope s_is_strand_) := ⟨rfl, rfl, rfl, by decide +kernel, rfl, by decide +kernel, by decide +kernel⟩
abbrev s_is_block_size_ : Stmt := topS 19
theorem sc_is_block_size_ : FnScope ["family", "size"] ["family", "size"] (defScope s_is_block_size_) := ⟨rfl, rfl, rfl, by decide +kernel, rfl, by decide +kernel, by decide +kernel⟩
abbrev s_piece_marks : Stmt := topS 21
theorem sc_piece_marks : FnScope ["size", "groups", "parents", "group", "point", "low"] ["size", "groups"] (defScope s_piece_marks) := ⟨rfl, rfl, rfl, by decide +kernel, rfl, by decide +kernel, by decide +kernel⟩
abbrev s_root_ : Stmt := topS 22
theorem sc_root_ : FnScope ["parents", "point", "found"] ["parents", "point"] (defScope s_root_) := ⟨rfl, rfl, rfl, by decide +kernel, rfl, by decide +kernel, by decide +kernel⟩
abbrev s_hidden_count : Stmt := topS 23
theorem sc_hidden_count : FnScope ["marks", "shown"] ["marks", "shown"] (defScope s_hidden_count) := ⟨rfl, rfl, rfl, by decide +kernel, rfl, by decide +kernel, by decide +kernel⟩
abbrev s_put : Stmt := topS 25
theorem sc_put : FnScope ["one", "other", "n", "m", "upper", "k", "q", "lower", "groups", "marks", "shown", "block", "point"] ["one", "other"] (defScope s_put) := ⟨rfl, rfl, rfl, by decide +kernel, rfl, by decide +kernel, by decide +kernel⟩
abbrev s_halves_ : Stmt := topS 27
theorem sc_halves_ : FnScope ["diagram", "n", "_", "blocks", "block", "k"] ["diagram"] (defScope s_halves_) := ⟨rfl, rfl, rfl, by decide +kernel, rfl, by decide +kernel, by decide +kernel⟩
abbrev s_through_halves_ : Stmt := topS 28
theorem sc_through_halves_ : FnScope ["diagram", "above", "below"] ["diagram"] (defScope s_through_halves_) := ⟨rfl, rfl, rfl, by decide +kernel, rfl, by decide +kernel, by decide +kernel⟩
abbrev s_only_above_ : Stmt := topS 29
theorem sc_only_above_ : FnScope ["diagram", "above", "below"] ["diagram"] (defScope s_only_above_) := ⟨rfl, rfl, rfl, by decide +kernel, rfl, by decide +kernel, by decide +kernel⟩
abbrev s_only_below_ : Stmt := topS 30
theorem sc_only_below_ : FnScope ["diagram", "above", "below"] ["diagram"] (defScope s_only_below_) := ⟨rfl, rfl, rfl, by decide +kernel, rfl, by decide +kernel, by decide +kernel⟩
abbrev s_shifted_ : Stmt := topS 31
theorem sc_shifted_ : FnScope ["places", "by", "place"] ["places", "by"] (defScope s_shifted_) := ⟨rfl, rfl, rfl, by decide +kernel, rfl, by decide +kernel, by decide +kernel⟩
abbrev s_with_blocks_ : Stmt := topS 32
theorem sc_with_blocks_ : FnScope ["n", "m", "blocks"] ["n", "m", "blocks"] (defScope s_with_blocks_) := ⟨rfl, rfl, rfl, by decide +kernel, rfl, by decide +kernel, by decide +kernel⟩
abbrev s_through : Stmt := topS 33
theorem sc_through : FnScope ["diagram"] ["diagram"] (defScope s_through) := ⟨rfl, rfl, rfl, by decide +kernel, rfl, by decide +kernel, by decide +kernel⟩
abbrev s_led : Stmt := topS 34
theorem sc_led : FnScope ["family", "one", "other", "n"] ["family", "one", "other"] (defScope s_led) := ⟨rfl, rfl, rfl, by decide +kernel, rfl, by decide +kernel, by decide +kernel⟩
abbrev s_leading_ : Stmt := topS 35
theorem sc_leading_ : FnScope ["family", "one", "other", "n", "halves", "taken", "_", "entries", "exits", "u", "v", "first", "last", "above_loops", "made", "below_loops", "above", "below", "k", "block"] ["family", "one", "other"] (defScope s_leading_) := ⟨rfl, rfl, rfl, by decide +kernel, rfl, by decide +kernel, by decide +kernel⟩
abbrev s_spare_blocks_ : Stmt := topS 36
theorem sc_spare_blocks_ : FnScope ["family", "n", "used", "spare", "k"] ["family", "n", "used"] (defScope s_spare_blocks_) := ⟨rfl, rfl, rfl, by decide +kernel, rfl, by decide +kernel, by decide +kernel⟩
abbrev s_law_number : Stmt := topS 38
theorem sc_law_number : FnScope ["cell"] ["cell"] (defScope s_law_number) := ⟨rfl, rfl, rfl, by decide +kernel, rfl, by decide +kernel, by decide +kernel⟩
abbrev s_law_draws : Stmt := topS 39
theorem sc_law_draws : FnScope ["script", "draws", "cell", "rest", "k", "once", "twice"] ["script"] (defScope s_law_draws) := ⟨rfl, rfl, rfl, by decide +kernel, rfl, by decide +kernel, by decide +kernel⟩
abbrev s_law_next : Stmt := topS 40
theorem sc_law_next : FnScope ["draws"] ["draws"] (defScope s_law_next) := ⟨rfl, rfl, rfl, by decide +kernel, rfl, by decide +kernel, by decide +kernel⟩
abbrev s_law_seen : Stmt := topS 41
theorem sc_law_seen : FnScope ["marks", "seen", "mark"] ["marks"] (defScope s_law_seen) := ⟨rfl, rfl, rfl, by decide +kernel, rfl, by decide +kernel, by decide +kernel⟩
abbrev s_law_from : Stmt := topS 42
theorem sc_law_from : FnScope ["n", "m", "marks", "blocks", "mark", "at"] ["n", "m", "marks"] (defScope s_law_from) := ⟨rfl, rfl, rfl, by decide +kernel, rfl, by decide +kernel, by decide +kernel⟩
abbrev s_law_joined : Stmt := topS 43
theorem sc_law_joined : FnScope ["marks", "links", "one", "other", "low", "high", "mark"] ["marks", "links"] (defScope s_law_joined) := ⟨rfl, rfl, rfl, by decide +kernel, rfl, by decide +kernel, by decide +kernel⟩
abbrev s_law_pick : Stmt := topS 44
theorem sc_law_pick : FnScope ["draws", "left"] ["draws", "left"] (defScope s_law_pick) := ⟨rfl, rfl, rfl, by decide +kernel, rfl, by decide +kernel, by decide +kernel⟩
abbrev s_law_threaded : Stmt := topS 45
theorem sc_law_threaded : FnScope ["draws", "family", "n", "m", "at", "marks", "left"] ["draws", "family", "n", "m"] (defScope s_law_threaded) := ⟨rfl, rfl, rfl, by decide +kernel, rfl, by decide +kernel, by decide +kernel⟩
abbrev s_law_drawn : Stmt := topS 46
theorem sc_law_drawn : FnScope ["draws", "family", "n", "m", "marks", "at", "left", "j", "one"] ["draws", "family", "n", "m"] (defScope s_law_drawn) := ⟨rfl, rfl, rfl, by decide +kernel, rfl, by decide +kernel, by decide +kernel⟩
abbrev s_law_goes : Stmt := topS 47
theorem sc_law_goes : FnScope ["diagram", "block"] ["diagram"] (defScope s_law_goes) := ⟨rfl, rfl, rfl, by decide +kernel, rfl, by decide +kernel, by decide +kernel⟩
abbrev s_law_told : Stmt := topS 48
theorem sc_law_told : FnScope ["family", "one", "other", "error", "kinds", "kind"] ["family", "one", "other"] (defScope s_law_told) := ⟨rfl, rfl, rfl, by decide +kernel, rfl, by decide +kernel, by decide +kernel⟩
abbrev s_law_stacked : Stmt := topS 49
theorem sc_law_stacked : FnScope ["u", "middle", "v", "first", "half", "second", "whole"] ["u", "middle", "v"] (defScope s_law_stacked) := ⟨rfl, rfl, rfl, by decide +kernel, rfl, by decide +kernel, by decide +kernel⟩
abbrev s_law : Stmt := topS 50
theorem sc_law : FnScope ["script", "draws", "family", "n", "one", "other", "first", "second", "told", "j", "u", "loops", "v", "bad", "larger"] ["script"] (defScope s_law) := ⟨rfl, rfl, rfl, by decide +kernel, rfl, by decide +kernel, by decide +kernel⟩
structure SmL (n k : Nat) (D : PyData) : Prop where
  lay : D.canLay0 = true
  dep : D.depth ≤ n
  sho : D.showable = true
  wgt : wt D ≤ k
theorem smL_all {n k : Nat} : ∀ {ds : List PyData}, (∀ D ∈ ds, SmL n k D) → PyData.canLayAll0 ds = true ∧ PyData.depthAll ds ≤ n ∧ PyData.showableAll ds = true ∧ wtAll ds ≤ (k + 2) * ds.length
  | [], _ => ⟨by simp [PyData.canLayAll0], by simp [PyData.depthAll], by simp [PyData.showableAll], by simp [wtAll]⟩
  | D :: ds, h => by
    obtain ⟨h1, h2, h3, h4⟩ := smL_all (ds := ds) fun E hE => h E (List.mem_cons_of_mem _ hE)
    have g := h D List.mem_cons_self
    refine ⟨by simp [PyData.canLayAll0, g.lay, h1], ?_, by simp [PyData.showableAll, g.sho, h3], ?_⟩
    · simp only [PyData.depthAll]
      have := g.dep
      omega
    · simp only [wtAll, List.length_cons, Nat.mul_add]
      have := g.wgt
      omega
theorem smL_list {n k : Nat} {ds : List PyData} (h : ∀ D ∈ ds, SmL n k D) : SmL (n + 1) ((k + 2) * ds.length + 3) (.list ds) := by
  obtain ⟨h1, h2, h3, h4⟩ := smL_all h
  exact ⟨by simp [PyData.canLay0, h1], by simp only [PyData.depth]; omega, by simp [PyData.showable, h3], by simp only [wt]; omega⟩
theorem smL_tuple {n k : Nat} {ds : List PyData} (h : ∀ D ∈ ds, SmL n k D) : SmL (n + 1) ((k + 2) * ds.length + 3) (.tuple ds) := by
  obtain ⟨h1, h2, h3, h4⟩ := smL_all h
  exact ⟨by simp [PyData.canLay0, h1], by simp only [PyData.depth]; omega, by simp [PyData.showable, h3], by simp only [wt]; omega⟩
theorem SmL.shaped {n k : Nat} {D : PyData} (h : SmL n k D) (hn : n ≤ 64) : SeqAt.shaped D = true := by
  show (PyData.canLay0 D && decide (PyData.depth D ≤ 64)) = true
  rw [h.lay, decide_eq_true (Nat.le_trans h.dep hn)]
  rfl
theorem SmL.wide {n k : Nat} {D : PyData} (h : SmL n k D) (hk : k ≤ 16777216) : wt D ≤ sizeLine := by
  rw [sizeLine_eq]
  exact Nat.le_trans h.wgt hk
theorem small_log {i : Int} (h : i.natAbs < 2 ^ 200) : i.natAbs.log2 < 1920 := by
  by_cases e : i.natAbs = 0
  · rw [e]
    decide
  · exact (Nat.log2_lt e).mpr (Nat.lt_of_lt_of_le h (Nat.pow_le_pow_right (by decide) (by decide)))
theorem smL_int {i : Int} (h : i.natAbs < 2 ^ 200) : SmL 0 1921 (.int i) := ⟨by simp [PyData.canLay0], by simp [PyData.depth], by simp [PyData.showable, small_log h], by simp only [wt]; omega⟩
theorem smL_pair {u v : Int} (hu : u.natAbs < 2 ^ 200) (hv : v.natAbs < 2 ^ 200) : SmL 1 4000 (.tuple [.int u, .int v]) := by
  have h := smL_tuple (ds := [.int u, .int v]) (n := 0) (k := 1921) fun D hD => by
    rcases List.mem_cons.mp hD with rfl | hD
    · exact smL_int hu
    · rcases List.mem_cons.mp hD with rfl | hD
      · exact smL_int hv
      · cases hD
  exact ⟨h.lay, h.dep, h.sho, Nat.le_trans h.wgt (by show (1921 + 2) * 2 + 3 ≤ 4000; decide)⟩
theorem ok_n : PyData.strOk ("!n" : Str) = true := by decide +kernel
theorem ok_b : PyData.strOk ("!b" : Str) = true := by decide +kernel
theorem ok_w : PyData.strOk ("!w" : Str) = true := by decide +kernel
theorem rl_n : (reprText ("!n" : Str)).length = 4 := by decide +kernel
theorem rl_b : (reprText ("!b" : Str)).length = 4 := by decide +kernel
theorem rl_w : (reprText ("!w" : Str)).length = 4 := by decide +kernel
theorem smL_n : SmL 1 4000 (.str "!n") := ⟨by simp [PyData.canLay0, ok_n], by simp [PyData.depth], by simp [PyData.showable], by simp only [wt, rl_n]; omega⟩
theorem smL_b : SmL 1 4000 (.str "!b") := ⟨by simp [PyData.canLay0, ok_b], by simp [PyData.depth], by simp [PyData.showable], by simp only [wt, rl_b]; omega⟩
theorem smL_w : SmL 1 4000 (.str "!w") := ⟨by simp [PyData.canLay0, ok_w], by simp [PyData.depth], by simp [PyData.showable], by simp only [wt, rl_w]; omega⟩
theorem smL_non : SmL 1 4000 .none := ⟨by simp [PyData.canLay0], by simp [PyData.depth], by simp [PyData.showable], by simp only [wt]; omega⟩
theorem smL_bool (b : Bool) : SmL 1 4000 (.bool b) := ⟨by simp [PyData.canLay0], by simp [PyData.depth], by simp [PyData.showable], by simp only [wt]; omega⟩

section
variable {P : Program} {w : World} {K : PySem.W.Frag} {mg : Str → Option Value} {base : Heap}
/-! ### _law_number -/
def spPlain : Sp := fun vs H Q _ => ∃ n : Int, vs = [.int n] ∧ Q (.int (if n < 0 then -n else n)) H
theorem ok_plain {f : Addr} {fd : FuncData} (F : Fun K "_law_number" "_law_number" s_law_number f fd) : FnOk P w K mg base CX0 1 f fd ["cell"] spPlain := by
  refine F.ok sc_law_number (fun vs H Q E h => ?_) (fun cdv A outer s H vs Q E hr h => ?_)
  · obtain ⟨n, rfl, _⟩ := h
    rfl
  · obtain ⟨n, rfl, q⟩ := h
    refine ⟨_, (pss_cons (ps_if (pt_cmpR op_lt (pv 0) pe_int (nomark _)) (pss_one (ps_ret (pe_op op_sub pe_int (pv 0)))) pss_nil)
  (pss_one (ps_ret (pv 0))))
    , ?_⟩
    refine ⟨_, rfl, _, _, rfl, rfl, _, rfl, ite2 (fun e => ?_) (fun e => ?_)⟩
    · rw [if_pos (of_decide_eq_true e)] at q
      have q' : Q (.int (0 - n)) H := by
        rw [show (0 : Int) - n = -n by omega]
        exact q
      exact ⟨_, rfl, _, _, rfl, rfl, q'⟩
    · rw [if_neg (fun z => e (decide_eq_true z))] at q
      exact ⟨_, rfl, q⟩
end

section
variable {P : Program} {w : World} {K : PySem.W.Frag} {mg : Str → Option Value} {base : Heap}
/-! ### _law_next -/
def spNext : Sp := fun vs H Q _ => ∃ (a : Addr) (ds : List Int), vs = [.ref a] ∧ H a = some (.lst (ds.map V.int)) ∧ ∀ (n : Int) (ds' : List Int), Q (.int n) (upd H a (.lst (ds'.map V.int)))
theorem ok_next {f : Addr} {fd : FuncData} (F : Fun K "_law_next" "_law_next" s_law_next f fd) : FnOk P w K mg base CX0 1 f fd ["draws"] spNext := by
  refine F.ok sc_law_next (fun vs H Q E h => ?_) (fun cdv A outer s H vs Q E hr h => ?_)
  · obtain ⟨a, ds, rfl, _⟩ := h
    rfl
  · obtain ⟨a, ds, rfl, hL, q⟩ := h
    refine ⟨_, (pss_cons (ps_if (pt_truth (pv 0) (by intro _; rfl)) (pss_one (ps_ret (pe_bm0 PySem.F.plainAttrs_list PySem.F.slot_list_pop PySem.F.type_list_pop mt_pop (pv 0)))) pss_nil)
  (pss_one (ps_ret pe_int)))
    , ?_⟩
    refine ⟨_, rfl, _, .inl ⟨_, .inl (.inl hL), rfl⟩, ite2 (fun e => ?_) (fun e => ?_)⟩
    · have hn : ds ≠ [] := fun z => by subst z; cases e
      have hm : ds.map V.int = ds.dropLast.map V.int ++ [V.int (ds.getLast hn)] := by
        rw [← List.map_singleton, ← List.map_append, List.dropLast_concat_getLast]
      refine ⟨_, rfl, .inl ⟨rfl, _, .inl (.inl hL)⟩, a, _, .int (ds.getLast hn), rfl, rfl, hL, ?_, ?_⟩
      · rw [hm]; simp
      · rw [hm, List.dropLast_concat]
        exact q _ _
    · have := q 0 ds
      rw [upd_self hL] at this
      exact this
end

section
variable {P : Program} {w : World} {K : PySem.W.Frag} {mg : Str → Option Value} {base : Heap}
/-! ### _law_draws -/
def spDraws (K : PySem.W.Frag) : Sp := fun vs H Q _ => ∃ (a : Addr) (ns : List Int), vs = [.ref a] ∧ SqL K H a (ns.map V.int) ∧ ns.length ≤ 63 ∧
  ∀ H' r (ds : List Int), Same H H' → H r = none → H' r = some (.lst (ds.map V.int)) → Q (.ref r) H'
theorem ok_draws {f : Addr} {fd : FuncData} {a_law_number : Addr} {fd_law_number : FuncData} (F : Fun K "_law_draws" "_law_draws" s_law_draws f fd) (z_range : mg "range" = none) (z_int : mg "int" = none)
    (G_law_number : FnOk P w K mg base CX0 1 a_law_number fd_law_number ["cell"] spPlain) (g_law_number : mg "_law_number" = some (.ref a_law_number)) (k_law_number : PySem.W.keepIn K (.ref a_law_number) = true) (b_law_number : Binds K fd_law_number ["cell"] []) :
    FnOk P w K mg base CX0 2 f fd ["script"] (spDraws K) := by
  refine F.ok sc_law_draws (fun vs H Q E h => ?_) (fun cdv A outer s H vs Q E hr h => ?_)
  · obtain ⟨n, _, rfl, _⟩ := h
    rfl
  · obtain ⟨a, ns, rfl, hS, hlen, q⟩ := h
    refine ⟨_, (pss_cons (ps_set (i := 1) sc_law_draws.nd rfl (.inl rfl) (pe_lst pa_nil))
  (pss_cons (ps_for PassesOwn.never rfl (pi_list (pv 0)) (pg_name (i := 2) sc_law_draws.nd rfl (.inl rfl)) (pss_cons (ps_set (i := 3) sc_law_draws.nd rfl (.inl rfl) (pe_call G_law_number (hr.mono (by decide)) rfl g_law_number k_law_number b_law_number .nil pass0 (pa_cons (pv 2) pa_nil)))
  (pss_one (ps_if (pt_cmpR op_ge (pv 3) pe_int (nomark _)) (pss_one (ps_for PassesOwn.never rfl (pi_range1 rfl z_range (pa_cons pe_int pa_nil)) (pg_name (i := 4) sc_law_draws.nd rfl (.inl rfl)) (pss_cons (ps_if (pt_cmpR op_eq (pv 3) pe_int (nomark _)) (pss_one ps_break) pss_nil)
  (pss_cons (ps_expr (pe_bm PySem.F.plainAttrs_list PySem.F.slot_list_append PySem.F.type_list_append mt_append (pv 1) (pa_cons (pe_op op_mod (pe_callTy call_int1 (by rfl) z_int boot_int (pa_cons (pv 3) pa_nil)) pe_int) pa_nil)))
  (pss_one (ps_set (i := 3) sc_law_draws.nd rfl (.inl rfl) (pe_op op_fdiv (pv 3) pe_int))))))) (pss_cons (ps_set (i := 5) sc_law_draws.nd rfl (.inl rfl) (pe_op op_mod (pe_callTy call_int1 (by rfl) z_int boot_int (pa_cons (pe_op op_add (pe_op op_mul (pv 3) pe_int) pe_int) pa_nil)) pe_int))
  (pss_cons (ps_set (i := 6) sc_law_draws.nd rfl (.inl rfl) (pe_op op_mod (pe_callTy call_int1 (by rfl) z_int boot_int (pa_cons (pe_op op_add (pe_op op_mul (pv 5) pe_int) (pv 3)) pa_nil)) pe_int))
  (pss_one (ps_expr (pe_bm PySem.F.plainAttrs_list PySem.F.slot_list_extend PySem.F.type_list_extend mt_extend (pv 1) (pa_cons (pe_lst (pa_cons (pe_op op_mod (pe_callTy call_int1 (by rfl) z_int boot_int (pa_cons (pv 3) pa_nil)) pe_int) (pa_cons (pe_op op_mod (pe_callTy call_int1 (by rfl) z_int boot_int (pa_cons (pv 5) pa_nil)) pe_int) (pa_cons (pe_op op_mod (pe_callTy call_int1 (by rfl) z_int boot_int (pa_cons (pv 6) pa_nil)) pe_int) pa_nil)))) pa_nil))))))))))
  (pss_one (ps_ret (pv 1)))))
    , ?_⟩
    refine ⟨Nat.zero_le _, fun o no => ?_⟩
    have s1 : Same H (upd H o (.lst [])) := same_upd no
    refine ⟨.ref a, rfl, a, rfl, ⟨_, s1.seq hS⟩, for_list (K := K) (a := a) (xs := ns.map V.int) (fun i σ H' => ∃ v2 v3 v4 v5 v6 ds, σ = [some (.ref a), some (.ref o), v2, v3, v4, v5, v6] ∧ Same H H' ∧ H' o = some (.lst (ds.map V.int)) ∧ ds.length ≤ 60 * i)
      ⟨none, none, none, none, none, [], rfl, s1, upd_same, Nat.le_refl _⟩ (fun i σ H' _ ⟨_, _, _, _, _, _, _, sm, _⟩ => sm.seq hS) ?_ ?_⟩
    · rintro i y σ H1 hi ⟨v2, v3, v4, v5, v6, ds, rfl, sm, hL, hl⟩
      have hi63 : i < 63 := by
        have := (List.getElem?_eq_some_iff.mp hi).1
        rw [List.length_map] at this
        omega
      obtain ⟨z, hz, rfl⟩ := map_int_get hi
      refine ⟨_, rfl, z, rfl, ?_⟩
      generalize hr0 : (if z < 0 then -z else z) = r0
      have h0 : 0 ≤ r0 := by
        subst hr0
        split <;> omega
      refine ⟨_, rfl, _, _, rfl, rfl, _, rfl, ite2 (fun e => ?_) (fun e => ?_)⟩
      · refine ⟨60, rfl, by decide, by decide, for_range (lo := 0) (n := 60) (fun j σ H' => ∃ r v4 ds', σ = [some (.ref a), some (.ref o), some (.int z), some (.int r), v4, v5, v6] ∧ 0 ≤ r ∧ Same H H' ∧ H' o = some (.lst (ds'.map V.int)) ∧ ds'.length ≤ 60 * i + j)
          ⟨r0, v4, ds, rfl, h0, sm, hL, hl⟩ ?_ ?_⟩
        · rintro j σ H2 hj ⟨r, v4', ds', rfl, hr0', sm2, hL2, hl2⟩
          refine ⟨_, rfl, rfl, _, rfl, ite2 (fun e1 => ?_) (fun e1 => ?_)⟩
          · exact ⟨_, _, _, _, _, ds', rfl, sm2, hL2, by omega⟩
          · refine ⟨.ref o, rfl, .inl ⟨rfl, _, .inl (.inl hL2)⟩, .int r, rfl, .inl ⟨r, rfl, r, 1000, rfl, rfl, (show (0:Int) < 1000 by decide), o, _, _, rfl, rfl, hL2, ?_, ?_⟩⟩
            · rw [List.length_map]
              exact small_of (by omega)
            · refine ⟨_, rfl, r, 1000, rfl, rfl, ⟨by decide, by decide⟩, ?_⟩
              refine ⟨r / 1000, _, ds' ++ [r % 1000], rfl, by omega, Same.mut sm2 no, ?_, ?_⟩
              · rw [upd_same, List.map_append]
                rfl
              · rw [List.length_append]
                show ds'.length + 1 ≤ _
                omega
        · rintro σ H2 ⟨r, v4', ds', rfl, hr0', sm2, hL2, hl2⟩
          exact ⟨_, _, _, _, _, ds', rfl, sm2, hL2, by omega⟩
      · have c1 : CMul r0 48271 := .inr ⟨by decide, by decide⟩
        refine ⟨.int r0, rfl, r0, 48271, rfl, rfl, c1, _, 11, rfl, rfl, .inl ⟨_, rfl, _, 2147483647, rfl, rfl, (show (0:Int) < 2147483647 by decide), ?_⟩⟩
        have c2 : ∀ x : Int, CMul x 69621 := fun _ => .inr ⟨by decide, by decide⟩
        refine ⟨_, rfl, _, 69621, rfl, rfl, c2 _, .int r0, rfl, _, r0, rfl, rfl, .inl ⟨_, rfl, _, 2147483629, rfl, rfl, (show (0:Int) < 2147483629 by decide), ?_⟩⟩
        have p1000 : (0:Int) < 1000 := by decide
        refine ⟨.ref o, rfl, .inl ⟨rfl, _, .inl (.inl hL)⟩, ?_⟩
        refine ⟨.int r0, rfl, .inl ⟨r0, rfl, r0, 1000, rfl, rfl, p1000, _, rfl, .inl ⟨_, rfl, _, 1000, rfl, rfl, p1000, _, rfl, .inl ⟨_, rfl, _, 1000, rfl, rfl, p1000, ?_⟩⟩⟩⟩
        refine ⟨(by show 3 ≤ sizeLine; decide), fun c nc => ?_⟩
        have hoc : o ≠ c := ne_of_none hL nc
        refine ⟨o, c, ds.map V.int, _, rfl, rfl, ?_, upd_same, ?_, ?_⟩
        · rw [upd_ne hoc]
          exact hL
        · rw [List.length_map]
          exact Nat.le_of_lt (small_of (show ds.length + 3 ≤ 100000 by omega))
        · refine ⟨_, _, _, _, _, ds ++ [r0 % 1000, (r0 * 48271 + 11) % 2147483647 % 1000, ((r0 * 48271 + 11) % 2147483647 * 69621 + r0) % 2147483629 % 1000], rfl, Same.mut (Same.trans sm (same_upd nc)) no, ?_, ?_⟩
          · rw [upd_same, List.map_append]
            rfl
          · rw [List.length_append]
            show ds.length + 3 ≤ _
            omega
    · rintro σ H1 ⟨v2, v3, v4, v5, v6, ds, rfl, sm, hL, hl⟩
      exact ⟨_, rfl, q H1 o ds sm no hL⟩
end

theorem sqL_same {K : PySem.W.Frag} {H H' : Hp} {a : Addr} {xs : List V} (e : Same H H') (h : SqL K H a xs) : SqL K H' a xs := by
  rcases h with (h | ⟨o, h⟩) | h
  · exact .inl (.inl (e _ _ h))
  · exact .inl (.inr ⟨o, e _ _ h⟩)
  · exact .inr h
theorem none_back {H H' : Hp} {a : Addr} (s : Same H H') (h : H' a = none) : H a = none := by
  cases e : H a with
  | none => rfl
  | some o =>
    rw [s _ _ e] at h
    exact nomatch h

/-- a tuple of these integers -/
def TP (H : Hp) (v : V) (z : List Int) : Prop := ∃ t, v = .ref t ∧ H t = some (.tup (z.map V.int))
theorem TP.same {H H' : Hp} {v : V} {z : List Int} (s : Same H H') (h : TP H v z) : TP H' v z := by
  obtain ⟨t, rfl, h⟩ := h
  exact ⟨t, rfl, s _ _ h⟩
def dT (z : List Int) : PyData := .tuple (z.map PyData.int)
theorem ints_dp {K : PySem.W.Frag} {H : Hp} : ∀ z : List Int, DpAll K H (z.map V.int) (z.map PyData.int)
  | [] => .nil
  | a :: r => .cons (.int a) (ints_dp r)
theorem TP.dp {K : PySem.W.Frag} {H : Hp} {v : V} {z : List Int} (h : TP H v z) : Dp K H v (dT z) := by
  obtain ⟨t, rfl, h⟩ := h
  exact .tup (.inl (.inl h)) (ints_dp z)
theorem tps_dp {K : PySem.W.Frag} {H : Hp} : ∀ {vs : List V} {zs : List (List Int)}, Paired (TP H) vs zs → DpAll K H vs (zs.map dT)
  | _, _, .nil => .nil
  | _, _, .cons a b => .cons a.dp (tps_dp b)
theorem paired_add {α β : Type} {F : α → β → Prop} {a : α} {b : β} (h : F a b) : ∀ {l : List α} {m : List β}, Paired F l m → Paired F (l ++ [a]) (m ++ [b])
  | _, _, .nil => .cons h .nil
  | _, _, .cons x y => .cons x (paired_add h y)
theorem dT_small {z : List Int} (h : ∀ k, (co z k).natAbs < 2 ^ 200) : SmL 1 (1923 * z.length + 3) (dT z) := by
  have e := smL_tuple (ds := z.map PyData.int) (n := 0) (k := 1921) fun D hD => by
    obtain ⟨a, ha, rfl⟩ := List.mem_map.mp hD
    obtain ⟨i, hi, rfl⟩ := List.mem_iff_getElem.mp ha
    have e1 := co_get hi
    rw [List.getElem?_eq_getElem hi] at e1
    rw [Option.some.inj e1]
    exact smL_int (h i)
  rw [List.length_map] at e
  exact e
theorem SmL.more {n k k' : Nat} {D : PyData} (h : SmL n k D) (hk : k ≤ k') : SmL n k' D := by
  obtain ⟨h1, h2, h3, h4⟩ := h
  exact ⟨h1, h2, h3, Nat.le_trans h4 hk⟩
theorem repT {α : Type} (x : α) : ∀ n : Nat, (List.replicate n [x]).flatten = List.replicate n x
  | 0 => rfl
  | n + 1 => by rw [List.replicate_succ, List.flatten_cons, repT x n, List.replicate_succ]; rfl
def rCatB (K : PySem.W.Frag) : R2 := fun x y H Q => ∃ a b xs ys, x = .ref a ∧ y = .ref b ∧ SqT K H a xs ∧ SqT K H b ys ∧ xs.length + ys.length ≤ sizeLine ∧ ∀ p H', Same H H' → SqT K H' p (xs ++ ys) → Q (.ref p) H'
theorem op_catB {X : Cx} : OpR X (binaryOp .Add) (rCatB X.K) := by
  intro pins s σ H x y v u Q I rx ry h
  obtain ⟨a, b, xs, ys, rfl, rfl, ha, hb, hz, q⟩ := h
  refine op_catA pins s σ H _ _ v u Q I rx ry ⟨a, b, xs, ys, rfl, rfl, ha, hb, hz, fun e => ?_, fun _ e => ?_, fun _ _ p np => ?_⟩
  · exact q b H (Same.refl _) (by rw [e, List.nil_append]; exact hb)
  · exact q a H (Same.refl _) (by rw [e, List.append_nil]; exact ha)
  · exact q p _ (same_upd np) (.inl (.inl upd_same))
theorem sqT_butL {K : PySem.W.Frag} {H H' : Hp} {r a : Addr} {xs ys : List V} (hr : H r = some (.lst ys)) (e : SameBut r H H') (h : SqT K H a xs) : SqT K H' a xs := by
  rcases h with (h | ⟨o, h⟩) | h
  · exact .inl (.inl (e _ _ (ne_of h hr (fun z => nomatch z)) h))
  · exact .inl (.inr ⟨o, e _ _ (ne_of h hr (fun z => nomatch z)) h⟩)
  · exact .inr h
theorem eqvAll_ints : ∀ x y : List Int, PyData.eqvAll (x.map PyData.int) (y.map PyData.int) = decide (x = y)
  | [], [] => by simp [PyData.eqvAll]
  | [], _ :: _ => by simp [PyData.eqvAll]
  | _ :: _, [] => by simp [PyData.eqvAll]
  | a :: x, b :: y => by
    rw [List.map_cons, List.map_cons]
    simp only [PyData.eqvAll, PyData.eqv, eqvAll_ints x y]
    by_cases h1 : a = b
    · by_cases h2 : x = y
      · simp [h1, h2]
      · simp [h2]
    · simp [h1]
theorem eqv_dT (x y : List Int) : PyData.eqv (dT x) (dT y) = decide (x = y) := by
  unfold dT
  simp only [PyData.eqv, eqvAll_ints]
theorem lay_ints : ∀ x : List Int, PyData.canLayAll0 (x.map PyData.int) = true ∧ PyData.depthAll (x.map PyData.int) = 0
  | [] => ⟨by simp [PyData.canLayAll0], by simp [PyData.depthAll]⟩
  | a :: x => by
    obtain ⟨h1, h2⟩ := lay_ints x
    exact ⟨by simp [PyData.canLayAll0, PyData.canLay0, h1], by simp [PyData.depthAll, PyData.depth, h2]⟩
theorem dT_shaped (x : List Int) : SeqAt.shaped (dT x) = true := by
  obtain ⟨h1, h2⟩ := lay_ints x
  show (PyData.canLay0 (dT x) && decide (PyData.depth (dT x) ≤ 64)) = true
  unfold dT
  rw [show PyData.canLay0 (.tuple (x.map PyData.int)) = true by simp [PyData.canLay0, h1], show PyData.depth (.tuple (x.map PyData.int)) = 1 by simp [PyData.depth, h2]]
  rfl
theorem eqD_TP {K : PySem.W.Frag} {H : Hp} {u v : V} {x y : List Int} {Q : VK} (hx : TP H u x) (hy : TP H v y) (q : Q (.bl (decide (x = y))) H) : rEqD K u v H Q :=
  ⟨_, _, hx.dp, hy.dp, dT_shaped x, dT_shaped y, by rw [eqv_dT]; exact q⟩
theorem neD_TP {K : PySem.W.Frag} {H : Hp} {u v : V} {x y : List Int} {Q : VK} (hx : TP H u x) (hy : TP H v y) (q : Q (.bl (!decide (x = y))) H) : rNeD K u v H Q :=
  ⟨_, _, hx.dp, hy.dp, dT_shaped x, dT_shaped y, by rw [eqv_dT]; exact q⟩
def rRepB (K : PySem.W.Frag) : R2 := fun x y H Q => ∃ l k xs, x = .ref l ∧ y = .int k ∧ SqT K H l xs ∧ xs ≠ [] ∧ 0 ≤ k ∧ k ≤ 1000 ∧ xs.length ≤ 1000 ∧ ∀ p H', Same H H' → SqT K H' p (List.replicate k.toNat xs).flatten → Q (.ref p) H'
theorem op_repB {X : Cx} : OpR X (binaryOp .Mult) (rRepB X.K) := by
  intro pins s σ H x y v u Q I rx ry h
  obtain ⟨l, k, xs, rfl, rfl, hT, hne, h1, h2, hz, q⟩ := h
  refine op_repA pins s σ H _ _ v u Q I rx ry ⟨l, k, xs, rfl, rfl, hT, hne, h1, h2, hz, fun e => ?_, fun _ p np => ?_⟩
  · refine q l H (Same.refl _) ?_
    rw [e, show (1 : Int).toNat = 1 from rfl]
    simpa using hT
  · exact q p _ (same_upd np) (.inl (.inl upd_same))
theorem ix_tupK {X : Cx} {K : PySem.W.Frag} (hK : X.K = K) : IxR X (rIxT K) := by
  subst hK
  exact ix_tup
theorem ix_listK {X : Cx} {K : PySem.W.Frag} (hK : X.K = K) : IxR X (rIxL K) := by
  subst hK
  exact ix_list
theorem ite_same {x : V} {A B : Prop} (h : B) : if (!decide (x = x)) = true then A else B := by
  rw [decide_eq_true rfl]
  exact iteF h
theorem pi_tupK {X : Cx} {K : PySem.W.Frag} {tg e : Expr} {te : TE} (hK : X.K = K) (he : PE X e te) : PI X tg e (iTup K te) := by
  subst hK
  exact pi_tup he
theorem call_list_ofK {X : Cx} {K : PySem.W.Frag} (hK : X.K = K) : CallR X (.type "list") (fun xs H Q => ∃ p ys, xs = [.ref p] ∧ (SqL K H p ys ∨ SqT K H p ys) ∧ ∀ l, H l = none → Q (.ref l) (upd H l (.lst ys))) := by
  subst hK
  exact call_list_of
theorem op_eqDK {X : Cx} {K : PySem.W.Frag} (hK : X.K = K) (hu : X.A.units + 64 < cLine) : OpR X (compareOp .Eq) (rEqD K) := by
  subst hK
  exact op_eqD hu

/-! ### marks and blocks -/
def seenL : List Int → List Int → List Int
  | acc, [] => acc
  | acc, x :: l => seenL (if x ∈ acc then acc else acc ++ [x]) l
def ixs (N : Nat) : List Int := (List.range N).map fun (i : Nat) => (i : Int)
def posOf (marks : List Int) (v : Int) : List Int := ((List.range marks.length).filter fun i => decide (co marks i = v)).map fun (i : Nat) => (i : Int)
def blocksOf (marks : List Int) : List (List Int) := (seenL [] marks).map (posOf marks)
theorem seenL_snoc : ∀ (l acc : List Int) (x : Int), seenL acc (l ++ [x]) = if x ∈ seenL acc l then seenL acc l else seenL acc l ++ [x]
  | [], acc, x => rfl
  | y :: l, acc, x => by
    show seenL _ (l ++ [x]) = _
    rw [seenL_snoc l _ x]
    rfl
theorem seenL_sub : ∀ (l acc : List Int) (x : Int), x ∈ acc → x ∈ seenL acc l
  | [], _, _, h => h
  | y :: l, acc, x, h => by
    show x ∈ seenL _ l
    refine seenL_sub l _ x ?_
    split
    · exact h
    · exact List.mem_append_left _ h
theorem seenL_mem : ∀ (l acc : List Int) (x : Int), x ∈ seenL acc l ↔ x ∈ acc ∨ x ∈ l
  | [], acc, x => by
    show x ∈ acc ↔ _
    simp
  | y :: l, acc, x => by
    show x ∈ seenL _ l ↔ _
    rw [seenL_mem l _ x]
    by_cases c : y ∈ acc
    · rw [if_pos c, List.mem_cons]
      constructor
      · rintro (h | h)
        · exact .inl h
        · exact .inr (.inr h)
      · rintro (h | rfl | h)
        · exact .inl h
        · exact .inl c
        · exact .inr h
    · rw [if_neg c, List.mem_cons, List.mem_append, List.mem_singleton, or_assoc]
theorem seenL_nodup : ∀ (l acc : List Int), acc.Nodup → (seenL acc l).Nodup
  | [], _, h => h
  | y :: l, acc, h => by
    refine seenL_nodup l _ ?_
    split
    · exact h
    · rename_i c
      refine List.nodup_append.mpr ⟨h, by simp, fun a ha b hb => ?_⟩
      rw [List.mem_singleton.mp hb]
      exact fun z => c (z ▸ ha)
theorem seenL_len : ∀ (l acc : List Int), (seenL acc l).length ≤ acc.length + l.length
  | [], _ => Nat.le_refl _
  | y :: l, acc => by
    have h := seenL_len l (if y ∈ acc then acc else acc ++ [y])
    show (seenL _ l).length ≤ _
    rw [List.length_cons]
    split at h
    · rename_i c
      rw [if_pos c]
      omega
    · rename_i c
      rw [if_neg c]
      rw [List.length_append] at h
      have : [y].length = 1 := rfl
      omega
/-- equal marks alone count -/
theorem seenL_map {g : Int → Int} : ∀ (l acc : List Int), (∀ x ∈ acc ++ l, ∀ y ∈ acc ++ l, g x = g y → x = y) → seenL (acc.map g) (l.map g) = (seenL acc l).map g
  | [], _, _ => rfl
  | y :: l, acc, h => by
    show seenL (if g y ∈ acc.map g then acc.map g else acc.map g ++ [g y]) (l.map g) = (seenL (if y ∈ acc then acc else acc ++ [y]) l).map g
    by_cases c : y ∈ acc
    · rw [if_pos c, if_pos (List.mem_map_of_mem c)]
      refine seenL_map l acc fun a ha b hb => h a ?_ b ?_
      · rcases List.mem_append.mp ha with z | z
        · exact List.mem_append_left _ z
        · exact List.mem_append_right _ (List.mem_cons_of_mem _ z)
      · rcases List.mem_append.mp hb with z | z
        · exact List.mem_append_left _ z
        · exact List.mem_append_right _ (List.mem_cons_of_mem _ z)
    · have c2 : g y ∉ acc.map g := fun z => by
        obtain ⟨a, ha, e⟩ := List.mem_map.mp z
        exact c (h a (List.mem_append_left _ ha) y (List.mem_append_right _ List.mem_cons_self) e ▸ ha)
      rw [if_neg c, if_neg c2, show acc.map g ++ [g y] = (acc ++ [y]).map g by rw [List.map_append]; rfl]
      refine seenL_map l (acc ++ [y]) fun a ha b hb => h a ?_ b ?_
      · rwa [List.append_assoc] at ha
      · rwa [List.append_assoc] at hb
theorem co_mapI (g : Int → Int) (l : List Int) {i : Nat} (h : i < l.length) : co (l.map g) i = g (co l i) := by
  have e := co_get (l := l.map g) (k := i) (by rw [List.length_map]; exact h)
  rw [List.getElem?_map, co_get h] at e
  exact (Option.some.inj e).symm
theorem posOf_map {g : Int → Int} {marks : List Int} {v : Int} (hv : v ∈ marks) (h : ∀ x ∈ marks, ∀ y ∈ marks, g x = g y → x = y) : posOf (marks.map g) (g v) = posOf marks v := by
  unfold posOf
  rw [List.length_map]
  congr 1
  refine List.filter_congr fun i hi => ?_
  have hi' := List.mem_range.mp hi
  rw [co_mapI g marks hi']
  by_cases c : co marks i = v
  · rw [decide_eq_true c, decide_eq_true (congrArg g c)]
  · rw [decide_eq_false c, decide_eq_false (fun z => c (h _ (co_mem hi') _ hv z))]
theorem blocksOf_map {g : Int → Int} {marks : List Int} (h : ∀ x ∈ marks, ∀ y ∈ marks, g x = g y → x = y) : blocksOf (marks.map g) = blocksOf marks := by
  unfold blocksOf
  rw [show ([] : List Int) = ([] : List Int).map g from rfl, seenL_map marks [] (by rw [List.nil_append]; exact h), List.map_map]
  refine List.map_congr_left fun v hv => ?_
  rcases (seenL_mem marks [] v).mp hv with z | z
  · exact nomatch z
  · exact posOf_map z h
/-! a partition -/
theorem perm_split (p : Nat → Bool) : ∀ l : List Nat, (l.filter p ++ l.filter fun x => !p x).Perm l := fun l => List.filter_append_perm p l
theorem part_perm {f : Nat → Int} : ∀ (vs : List Int) (l : List Nat), vs.Nodup → (∀ x ∈ l, f x ∈ vs) → ((vs.map fun v => l.filter fun i => decide (f i = v)).flatten).Perm l
  | [], l, _, h => by
    have : l = [] := List.eq_nil_iff_forall_not_mem.mpr fun x hx => nomatch h x hx
    rw [this]
    exact .refl _
  | v :: vs, l, nd, h => by
    rw [List.map_cons, List.flatten_cons]
    obtain ⟨nv, nd'⟩ := List.nodup_cons.mp nd
    have ih := part_perm (f := f) vs (l.filter fun i => !decide (f i = v)) nd' fun x hx => by
      obtain ⟨h1, h2⟩ := List.mem_filter.mp hx
      rcases List.mem_cons.mp (h x h1) with e | e
      · rw [decide_eq_true e] at h2
        exact nomatch h2
      · exact e
    have e : (vs.map fun v' => (l.filter fun i => !decide (f i = v)).filter fun i => decide (f i = v')) = vs.map fun v' => l.filter fun i => decide (f i = v') := by
      refine List.map_congr_left fun v' hv' => ?_
      rw [List.filter_filter]
      refine List.filter_congr fun i _ => ?_
      by_cases c : f i = v'
      · have c2 : f i ≠ v := fun z => nv (by rw [← z, c]; exact hv')
        rw [decide_eq_true c, decide_eq_false c2]
        rfl
      · rw [decide_eq_false c]
        rfl
    rw [e] at ih
    exact (List.Perm.append_left _ ih).trans (perm_split _ l)
theorem mem_posOf {marks : List Int} {v x : Int} : x ∈ posOf marks v ↔ ∃ i : Nat, x = (i : Int) ∧ i < marks.length ∧ co marks i = v := by
  unfold posOf
  rw [List.mem_map]
  constructor
  · rintro ⟨i, hi, rfl⟩
    obtain ⟨h1, h2⟩ := List.mem_filter.mp hi
    exact ⟨i, rfl, List.mem_range.mp h1, of_decide_eq_true h2⟩
  · rintro ⟨i, rfl, h1, h2⟩
    exact ⟨i, List.mem_filter.mpr ⟨List.mem_range.mpr h1, decide_eq_true h2⟩, rfl⟩
theorem mem_get {l : List Int} {v : Int} (h : v ∈ l) : ∃ i, i < l.length ∧ co l i = v := by
  obtain ⟨i, hi, e⟩ := List.mem_iff_getElem.mp h
  refine ⟨i, hi, ?_⟩
  have e1 := co_get hi
  rw [List.getElem?_eq_getElem hi] at e1
  rw [← Option.some.inj e1]
  exact e
theorem blocks_perm (marks : List Int) : (blocksOf marks).flatten.Perm (ixs marks.length) := by
  unfold blocksOf ixs
  have h := part_perm (f := co marks) (seenL [] marks) (List.range marks.length) (seenL_nodup marks [] List.nodup_nil) fun x hx => (seenL_mem marks [] _).mpr (.inr (co_mem (List.mem_range.mp hx)))
  have e : ((seenL [] marks).map (posOf marks)).flatten = (((seenL [] marks).map fun v => (List.range marks.length).filter fun i => decide (co marks i = v)).flatten).map fun (i : Nat) => (i : Int) := by
    rw [List.map_flatten, List.map_map]
    rfl
  rw [e]
  exact h.map _
theorem blocks_ne {marks : List Int} : ∀ b ∈ blocksOf marks, b ≠ [] := fun b hb => by
  obtain ⟨v, hv, rfl⟩ := List.mem_map.mp hb
  rcases (seenL_mem marks [] v).mp hv with z | z
  · exact nomatch z
  · obtain ⟨i, hi, e⟩ := mem_get z
    intro c
    have : (i : Int) ∈ posOf marks v := mem_posOf.mpr ⟨i, rfl, hi, e⟩
    rw [c] at this
    exact nomatch this
theorem range_lt (n : Nat) : (List.range n).Pairwise (· < ·) := List.pairwise_lt_range
theorem posOf_asc (marks : List Int) (v : Int) : (posOf marks v).Pairwise (· < ·) := by
  unfold posOf
  exact List.pairwise_map.mpr ((List.Pairwise.filter _ (range_lt _)).imp fun {a b} h => by omega)
theorem head_ix (p : Nat → Bool) {i : Nat} (h0 : ∀ j, j < i → p j = false) (h1 : p i = true) : ∀ N, (N ≤ i → (List.range N).filter p = []) ∧ (i < N → ((List.range N).filter p)[0]? = some i)
  | 0 => ⟨fun _ => rfl, fun h => absurd h (Nat.not_lt_zero _)⟩
  | N + 1 => by
    obtain ⟨a, b⟩ := head_ix p h0 h1 N
    rw [List.range_succ, List.filter_append]
    refine ⟨fun h => ?_, fun h => ?_⟩
    · rw [a (by omega), List.filter_cons, h0 N (by omega)]
      rfl
    · by_cases c : N = i
      · rw [a (by omega), List.filter_cons, c, h1]
        rfl
      · have h2 := b (by omega)
        rw [List.getElem?_append_left (List.getElem?_eq_some_iff.mp h2).1]
        exact h2
theorem posOf_head {marks : List Int} {i : Nat} (hi : i < marks.length) (h : co marks i ∉ marks.take i) : co (posOf marks (co marks i)) 0 = (i : Int) := by
  have h2 := (head_ix (fun j => decide (co marks j = co marks i)) (i := i) (fun j hj => decide_eq_false fun z => h ?_) (decide_eq_true rfl) marks.length).2 hi
  · unfold posOf co
    rw [List.getD_eq_getElem?_getD, List.getElem?_map]
    show ((((List.range marks.length).filter fun j => decide (co marks j = co marks i))[0]?).map fun (i : Nat) => (i : Int)).getD 0 = _
    rw [h2]
    rfl
  · rw [← z]
    have e : (marks.take i)[j]? = some (co marks j) := by rw [List.getElem?_take_of_lt hj, co_get (by omega)]
    exact List.mem_of_getElem? e
theorem take_snoc {l : List Int} {i : Nat} (h : i < l.length) : l.take (i + 1) = l.take i ++ [co l i] := by
  rw [List.take_succ, co_get h]
  rfl
theorem heads_run (marks : List Int) : ∀ i, i ≤ marks.length → ((seenL [] (marks.take i)).map fun v => co (posOf marks v) 0).Pairwise (· < ·) ∧ ∀ v ∈ seenL [] (marks.take i), co (posOf marks v) 0 < (i : Int)
  | 0, _ => ⟨.nil, fun v hv => nomatch hv⟩
  | i + 1, h => by
    obtain ⟨h1, h2⟩ := heads_run marks i (by omega)
    rw [take_snoc (by omega), seenL_snoc]
    by_cases c : co marks i ∈ seenL [] (marks.take i)
    · rw [if_pos c]
      exact ⟨h1, fun v hv => by have := h2 v hv; omega⟩
    · rw [if_neg c]
      have hd := posOf_head (marks := marks) (i := i) (by omega) fun z => c ((seenL_mem _ _ _).mpr (.inr z))
      refine ⟨?_, fun v hv => ?_⟩
      · rw [List.map_append]
        refine List.pairwise_append.mpr ⟨h1, List.pairwise_singleton _ _, fun a ha b hb => ?_⟩
        obtain ⟨v, hv, rfl⟩ := List.mem_map.mp ha
        obtain ⟨u, hu, rfl⟩ := List.mem_map.mp hb
        rw [List.mem_singleton.mp hu, hd]
        exact h2 v hv
      · rcases List.mem_append.mp hv with hv | hv
        · have := h2 v hv
          omega
        · rw [List.mem_singleton.mp hv, hd]
          omega
theorem blocks_heads (marks : List Int) : ((blocksOf marks).map fun b => co b 0).Pairwise (· < ·) := by
  have h := (heads_run marks marks.length (Nat.le_refl _)).1
  rw [List.take_length] at h
  unfold blocksOf
  rw [List.map_map]
  exact h
/-! labels -/
def labFrom : List (List Int) → Nat → List Int → List Int
  | [], _, ms => ms
  | b :: bs, k, ms => labFrom bs (k + 1) (b.foldl (fun ms p => ms.set p.toNat (k : Int)) ms)
def labL (bs : List (List Int)) (N : Nat) : List Int := labFrom bs 0 (List.replicate N 0)
theorem fold_len (k : Int) : ∀ (b ms : List Int), (b.foldl (fun ms p => ms.set p.toNat k) ms).length = ms.length
  | [], _ => rfl
  | p :: b, ms => by
    show (b.foldl _ (ms.set p.toNat k)).length = _
    rw [fold_len k b, List.length_set]
theorem fold_co (k : Int) {i : Nat} : ∀ (b ms : List Int), (∀ p ∈ b, 0 ≤ p ∧ p < ms.length) → co (b.foldl (fun ms p => ms.set p.toNat k) ms) i = if (i : Int) ∈ b then k else co ms i
  | [], _, _ => rfl
  | p :: b, ms, h => by
    show co (b.foldl _ (ms.set p.toNat k)) i = _
    obtain ⟨h1, h2⟩ := h p List.mem_cons_self
    rw [fold_co k b (ms.set p.toNat k) fun q hq => by rw [List.length_set]; exact h q (List.mem_cons_of_mem _ hq), co_set i (by omega)]
    by_cases c : (i : Int) ∈ b
    · rw [if_pos c, if_pos (List.mem_cons_of_mem _ c)]
    · rw [if_neg c]
      by_cases c2 : i = p.toNat
      · rw [if_pos c2, if_pos (List.mem_cons.mpr (.inl (by omega)))]
      · rw [if_neg c2, if_neg]
        intro z
        rcases List.mem_cons.mp z with z | z
        · omega
        · exact c z
theorem labFrom_len : ∀ (bs : List (List Int)) (k : Nat) (ms : List Int), (labFrom bs k ms).length = ms.length
  | [], _, _ => rfl
  | b :: bs, k, ms => by
    show (labFrom bs (k + 1) _).length = _
    rw [labFrom_len bs, fold_len]
theorem labL_len (bs : List (List Int)) (N : Nat) : (labL bs N).length = N := by
  unfold labL
  rw [labFrom_len, List.length_replicate]
theorem labFrom_co {marks : List Int} {i : Nat} (hi : i < marks.length) : ∀ (vs : List Int) (k : Nat) (ms : List Int), vs.Nodup → ms.length = marks.length → co (labFrom (vs.map (posOf marks)) k ms) i = if co marks i ∈ vs then ((k + vs.idxOf (co marks i) : Nat) : Int) else co ms i
  | [], _, _, _, _ => rfl
  | v :: vs, k, ms, nd, hl => by
    obtain ⟨nv, nd'⟩ := List.nodup_cons.mp nd
    show co (labFrom (vs.map (posOf marks)) (k + 1) _) i = _
    rw [labFrom_co hi vs (k + 1) _ nd' (by rw [fold_len, hl]), fold_co (k : Int) (posOf marks v) ms fun p hp => by
      obtain ⟨j, rfl, hj, _⟩ := mem_posOf.mp hp
      omega]
    have e : ((i : Int) ∈ posOf marks v) ↔ co marks i = v := by
      rw [mem_posOf]
      exact ⟨fun ⟨j, e, _, h⟩ => by rw [show i = j by omega]; exact h, fun h => ⟨i, rfl, hi, h⟩⟩
    by_cases c : co marks i = v
    · rw [if_neg (by rw [c]; exact nv), if_pos (e.mpr c), if_pos (List.mem_cons.mpr (.inl c)), c, List.idxOf_cons_self]
      rfl
    · rw [if_neg (fun z => c (e.mp z))]
      by_cases c2 : co marks i ∈ vs
      · rw [if_pos c2, if_pos (List.mem_cons_of_mem _ c2), List.idxOf_cons, cond_eq_ite, if_neg (by simpa using Ne.symm c)]
        congr 1
        omega
      · rw [if_neg c2, if_neg fun z => (List.mem_cons.mp z).elim c c2]
theorem labL_marks (marks : List Int) : labL (blocksOf marks) marks.length = marks.map fun v => (((seenL [] marks).idxOf v : Nat) : Int) := by
  refine List.ext_getElem? fun i => ?_
  have l1 := labL_len (blocksOf marks) marks.length
  rcases Nat.lt_or_ge i marks.length with c | c
  · rw [co_get (by omega), List.getElem?_map, co_get c]
    unfold labL blocksOf
    rw [labFrom_co c (seenL [] marks) 0 _ (seenL_nodup marks [] List.nodup_nil) List.length_replicate, if_pos ((seenL_mem marks [] _).mpr (.inr (co_mem c))), Nat.zero_add]
    rfl
  · rw [List.getElem?_eq_none (by omega), List.getElem?_eq_none (by rw [List.length_map]; exact c)]
theorem idx_inj {l : List Int} {x y : Int} (hx : x ∈ l) (hy : y ∈ l) (h : (((l.idxOf x : Nat) : Int)) = ((l.idxOf y : Nat) : Int)) : x = y := by
  have h' : l.idxOf x = l.idxOf y := by omega
  have e1 := List.getElem_idxOf (List.idxOf_lt_length_of_mem hx)
  have e2 := List.getElem_idxOf (List.idxOf_lt_length_of_mem hy)
  rw [← e1, ← e2]
  congr 1
theorem blocks_lab (marks : List Int) : blocksOf (labL (blocksOf marks) marks.length) = blocksOf marks := by
  rw [labL_marks]
  exact blocksOf_map fun x hx y hy h => idx_inj ((seenL_mem marks [] x).mpr (.inr hx)) ((seenL_mem marks [] y).mpr (.inr hy)) h

def siz (n m : Int) : Bool := decide (0 ≤ n ∧ n ≤ 8 ∧ 0 ≤ m ∧ m ≤ 8 ∧ n + m ≤ 12)
theorem cr_sortedITK {X : Cx} {K : PySem.W.Frag} (hK : X.K = K) : CallR X (.builtin "sorted") (rSortedIT K) := by
  subst hK
  exact cr_sortedIT
theorem outer_it {J : It} {n : Nat} {G : Hp → Prop} {Y : Nat → Hp → V → Hp → Prop} (w : Walk J n G Y) {B : V → Hp → (Hp → Prop) → Prop} {H0 : Hp} {Qd : Hp → Prop} (Pv : Nat → Hp → Prop) (h0 : Pv 0 H0) (hG : ∀ i H, i ≤ n → Pv i H → G H)
    (hs : ∀ i x H H', i < n → Pv i H → Y i H x H' → B x H' (Pv (i + 1))) (hd : ∀ H, Pv n H → Qd H) :
    ∃ W : Nat → Nat → Hp → Prop, (∃ m, W 0 m H0) ∧ ∀ i m H, W i m H → (J.stop i H ∧ Qd H) ∨ (J.go i H ∧ ∃ Nx : Hp → Prop, (∀ H', Nx H' → ∃ m', m' < m ∧ W (i + 1) m' H') ∧ ∀ x H', J.yld i H x H' → B x H' Nx) := by
  refine ⟨fun i m H => m = n - i ∧ i ≤ n ∧ Pv i H, ⟨n, by simp, Nat.zero_le _, h0⟩, ?_⟩
  rintro i m H ⟨rfl, hi, p⟩
  have q := hG i H hi p
  by_cases hlt : i < n
  · refine .inr ⟨w.goes i H hlt q, Pv (i + 1), fun H' p' => ⟨n - (i + 1), by omega, rfl, hlt, p'⟩, fun x H' y => hs i x H H' hlt p (w.yields i H x H' hlt q y)⟩
  · have e : i = n := by omega
    subst e
    exact .inl ⟨w.stops H q, hd H p⟩
/-- a tuple of tuples of integers; a diagram -/
def TT (H : Hp) (v : V) (bs : List (List Int)) : Prop := ∃ tb ts, v = .ref tb ∧ H tb = some (.tup ts) ∧ Paired (TP H) ts bs
def DGv (H : Hp) (v : V) (n m : Int) (bs : List (List Int)) : Prop := ∃ t vb, v = .ref t ∧ H t = some (.tup [.int n, .int m, vb]) ∧ TT H vb bs
theorem TT.same {H H' : Hp} {v : V} {bs : List (List Int)} (s : Same H H') (h : TT H v bs) : TT H' v bs := by
  obtain ⟨tb, ts, rfl, h, pr⟩ := h
  exact ⟨tb, ts, rfl, s _ _ h, Paired.mapP pr fun _ _ h => h.same s⟩
theorem DGv.same {H H' : Hp} {v : V} {n m : Int} {bs : List (List Int)} (s : Same H H') (h : DGv H v n m bs) : DGv H' v n m bs := by
  obtain ⟨t, vb, rfl, h, tt⟩ := h
  exact ⟨t, vb, rfl, s _ _ h, tt.same s⟩
def dTT (bs : List (List Int)) : PyData := .tuple (bs.map dT)
def dDG (n m : Int) (bs : List (List Int)) : PyData := .tuple [.int n, .int m, dTT bs]
theorem TT.dp {K : PySem.W.Frag} {H : Hp} {v : V} {bs : List (List Int)} (h : TT H v bs) : Dp K H v (dTT bs) := by
  obtain ⟨tb, ts, rfl, h, pr⟩ := h
  exact .tup (.inl (.inl h)) (tps_dp pr)
theorem DGv.dp {K : PySem.W.Frag} {H : Hp} {v : V} {n m : Int} {bs : List (List Int)} (h : DGv H v n m bs) : Dp K H v (dDG n m bs) := by
  obtain ⟨t, vb, rfl, h, tt⟩ := h
  exact .tup (.inl (.inl h)) (.cons (.int n) (.cons (.int m) (.cons tt.dp .nil)))
theorem lay_dTs : ∀ bs : List (List Int), PyData.canLayAll0 (bs.map dT) = true ∧ PyData.depthAll (bs.map dT) ≤ 1
  | [] => ⟨by simp [PyData.canLayAll0], by simp [PyData.depthAll]⟩
  | b :: bs => by
    obtain ⟨h1, h2⟩ := lay_dTs bs
    obtain ⟨h3, h4⟩ := lay_ints b
    have e1 : PyData.canLay0 (dT b) = true := by simp [dT, PyData.canLay0, h3]
    have e2 : PyData.depth (dT b) = 1 := by simp [dT, PyData.depth, h4]
    refine ⟨by simp [PyData.canLayAll0, e1, h1], ?_⟩
    simp only [List.map_cons, PyData.depthAll, e2]
    omega
theorem dTT_lay (bs : List (List Int)) : PyData.canLay0 (dTT bs) = true ∧ PyData.depth (dTT bs) ≤ 2 := by
  obtain ⟨h1, h2⟩ := lay_dTs bs
  exact ⟨by simp [dTT, PyData.canLay0, h1], by simp only [dTT, PyData.depth]; omega⟩
theorem dDG_lay (n m : Int) (bs : List (List Int)) : PyData.canLay0 (dDG n m bs) = true ∧ PyData.depth (dDG n m bs) ≤ 3 := by
  obtain ⟨h1, h2⟩ := dTT_lay bs
  exact ⟨by simp [dDG, PyData.canLay0, PyData.canLayAll0, h1], by simp only [dDG, PyData.depth, PyData.depthAll]; omega⟩
theorem dTT_shaped (bs : List (List Int)) : SeqAt.shaped (dTT bs) = true := by
  obtain ⟨h1, h2⟩ := dTT_lay bs
  show (PyData.canLay0 (dTT bs) && decide (PyData.depth (dTT bs) ≤ 64)) = true
  rw [h1, decide_eq_true (by omega)]
  rfl
theorem dDG_shaped (n m : Int) (bs : List (List Int)) : SeqAt.shaped (dDG n m bs) = true := by
  obtain ⟨h1, h2⟩ := dDG_lay n m bs
  show (PyData.canLay0 (dDG n m bs) && decide (PyData.depth (dDG n m bs) ≤ 64)) = true
  rw [h1, decide_eq_true (by omega)]
  rfl
/-- lists of integers -/
def dL (z : List Int) : PyData := .list (z.map PyData.int)
def LP (H : Hp) (v : V) (z : List Int) : Prop := ∃ t, v = .ref t ∧ H t = some (.lst (z.map V.int))
theorem LP.dp {K : PySem.W.Frag} {H : Hp} {v : V} {z : List Int} (h : LP H v z) : Dp K H v (dL z) := by
  obtain ⟨t, rfl, h⟩ := h
  exact .lst (.inl (.inl h)) (ints_dp z)
theorem LP.same {H H' : Hp} {v : V} {z : List Int} (s : Same H H') (h : LP H v z) : LP H' v z := by
  obtain ⟨t, rfl, h⟩ := h
  exact ⟨t, rfl, s _ _ h⟩
theorem dL_shaped (x : List Int) : SeqAt.shaped (dL x) = true := by
  obtain ⟨h1, h2⟩ := lay_ints x
  show (PyData.canLay0 (dL x) && decide (PyData.depth (dL x) ≤ 64)) = true
  unfold dL
  rw [show PyData.canLay0 (.list (x.map PyData.int)) = true by simp [PyData.canLay0, h1], show PyData.depth (.list (x.map PyData.int)) = 1 by simp [PyData.depth, h2]]
  rfl
theorem eqv_dL (x y : List Int) : PyData.eqv (dL x) (dL y) = decide (x = y) := by
  unfold dL
  simp only [PyData.eqv, eqvAll_ints]
theorem eqD_LP {K : PySem.W.Frag} {H : Hp} {u v : V} {x y : List Int} {Q : VK} (hx : LP H u x) (hy : LP H v y) (q : Q (.bl (decide (x = y))) H) : rEqD K u v H Q :=
  ⟨_, _, hx.dp, hy.dp, dL_shaped x, dL_shaped y, by rw [eqv_dL]; exact q⟩
theorem neD_LP {K : PySem.W.Frag} {H : Hp} {u v : V} {x y : List Int} {Q : VK} (hx : LP H u x) (hy : LP H v y) (q : Q (.bl (!decide (x = y))) H) : rNeD K u v H Q :=
  ⟨_, _, hx.dp, hy.dp, dL_shaped x, dL_shaped y, by rw [eqv_dL]; exact q⟩
theorem tt_get {H : Hp} {ts : List V} {bs : List (List Int)} (pr : Paired (TP H) ts bs) {i : Nat} {y : V} (h : ts[i]? = some y) : ∃ b, bs[i]? = some b ∧ TP H y b := by
  induction pr generalizing i with
  | nil => exact nomatch h
  | cons r t ih =>
    cases i with
    | zero =>
      obtain rfl := Option.some.inj h
      exact ⟨_, rfl, r⟩
    | succ i => exact ih h
theorem rgV_ixs {a : Int} (h : 0 ≤ a) : rgV 0 a = (ixs a.toNat).map V.int := by
  unfold rgV ixs
  rw [List.map_map, Int.sub_zero]
  refine List.map_congr_left fun i _ => ?_
  show V.int (0 + (i : Nat)) = V.int (i : Int)
  rw [Int.zero_add]
theorem ixs_len (N : Nat) : (ixs N).length = N := by
  unfold ixs
  rw [List.length_map, List.length_range]
theorem ixs_asc (N : Nat) : (ixs N).Pairwise (· ≤ ·) := by
  unfold ixs
  exact List.pairwise_map.mpr ((range_lt N).imp fun {a b} h => by omega)
theorem sorted_same {a b : List Int} (hp : a.Perm b) (ha : a.Pairwise (· ≤ ·)) (hb : b.Pairwise (· ≤ ·)) : a = b := hp.eq_of_pairwise (fun x y _ _ h1 h2 => Int.le_antisymm h1 h2) ha hb
structure IsDg (n m : Int) (bs : List (List Int)) : Prop where
  sz : siz n m = true
  ne : ∀ b ∈ bs, b ≠ []
  pm : bs.flatten.Perm (ixs (n + m).toNat)
  asc : ∀ b ∈ bs, b.Pairwise (· ≤ ·)
  hd : (bs.map fun b => co b 0).Pairwise (· ≤ ·)
theorem siz_iff {n m : Int} : siz n m = true ↔ (0 ≤ n ∧ n ≤ 8 ∧ 0 ≤ m ∧ m ≤ 8 ∧ n + m ≤ 12) := by
  unfold siz
  exact decide_eq_true_iff
theorem isDg_blocks {n m : Int} {marks : List Int} (h : siz n m = true) (hl : (marks.length : Int) = n + m) : IsDg n m (blocksOf marks) := by
  have hs := siz_iff.mp h
  refine ⟨h, blocks_ne, ?_, fun b hb => ?_, (blocks_heads marks).imp fun {a b} h => by omega⟩
  · have := blocks_perm marks
    rwa [show marks.length = (n + m).toNat by omega] at this
  · obtain ⟨v, _, rfl⟩ := List.mem_map.mp hb
    exact (posOf_asc marks v).imp fun {a b} h => by omega

section
variable {P : Program} {w : World} {K : PySem.W.Frag} {mg : Str → Option Value} {base : Heap}
/-! ### _is_size, _check_size -/
def spIsSize : Sp := fun vs H Q _ => ∃ n m : Int, vs = [.int n, .int m] ∧ Q (.bl (siz n m)) H
theorem ok_is_size_ {f : Addr} {fd : FuncData} {t8 t12 : Tok} (F : Fun K "_is_size" "_is_size" s_is_size_ f fd) (m_MOST_ON_A_SIDE : mg "MOST_ON_A_SIDE" = some (.int 8 t8)) (m_MOST_POINTS : mg "MOST_POINTS" = some (.int 12 t12)) : FnOk P w K mg base CX0 1 f fd ["n", "m"] spIsSize := by
  have r_MOST_ON_A_SIDE : RelV (.int 8) (.int 8 t8) := ⟨_, rfl⟩
  have r_MOST_POINTS : RelV (.int 12) (.int 12 t12) := ⟨_, rfl⟩
  refine F.ok sc_is_size_ (fun vs H Q E h => ?_) (fun cdv A outer s H vs Q E hr h => ?_)
  · obtain ⟨n, m, rfl, _⟩ := h
    rfl
  · obtain ⟨n, m, rfl, q⟩ := h
    refine ⟨_, (pss_one (ps_ret (pe_and (pe_chain op_le op_le pe_int (pv 0) (pe_glob rfl m_MOST_ON_A_SIDE r_MOST_ON_A_SIDE)) (pe_and (pe_chain op_le op_le pe_int (pv 1) (pe_glob rfl m_MOST_ON_A_SIDE r_MOST_ON_A_SIDE)) (pe_one (pe_cmpR op_le (pe_op op_add (pv 0) (pv 1)) (pe_glob rfl m_MOST_POINTS r_MOST_POINTS) (nomark _))))))), ?_⟩
    unfold siz at q
    refine ⟨_, rfl, _, _, rfl, rfl, _, rfl, ?_⟩
    by_cases c0 : 0 ≤ n
    · rw [decide_eq_true c0]
      refine iteT ⟨_, _, rfl, rfl, _, rfl, ?_⟩
      by_cases c1 : n ≤ 8
      · rw [decide_eq_true c1]
        refine iteT ⟨_, rfl, _, _, rfl, rfl, _, rfl, ?_⟩
        by_cases c2 : 0 ≤ m
        · rw [decide_eq_true c2]
          refine iteT ⟨_, _, rfl, rfl, _, rfl, ?_⟩
          by_cases c3 : m ≤ 8
          · rw [decide_eq_true c3]
            refine iteT ⟨_, rfl, _, rfl, _, _, rfl, rfl, _, _, rfl, rfl, ?_⟩
            rwa [show decide (0 ≤ n ∧ n ≤ 8 ∧ 0 ≤ m ∧ m ≤ 8 ∧ n + m ≤ 12) = decide (n + m ≤ 12) from decide_eq_decide.mpr ⟨fun z => z.2.2.2.2, fun z => ⟨c0, c1, c2, c3, z⟩⟩] at q
          · rw [decide_eq_false c3]
            rw [decide_eq_false fun z => c3 z.2.2.2.1] at q
            exact iteF q
        · rw [decide_eq_false c2]
          rw [decide_eq_false fun z => c2 z.2.2.1] at q
          exact iteF ⟨_, rfl, iteF q⟩
      · rw [decide_eq_false c1]
        rw [decide_eq_false fun z => c1 z.2.1] at q
        exact iteF q
    · rw [decide_eq_false c0]
      rw [decide_eq_false fun z => c0 z.1] at q
      exact iteF ⟨_, rfl, iteF q⟩
def spCheckSize (CB : Addr) : Sp := fun vs H Q E => ∃ n m : Int, vs = [.int n, .int m] ∧ (siz n m = true → Q .non H) ∧ (siz n m = false → E (.ref CB) none H)
theorem ok_check_size_ {f CB a_is_size_ : Addr} {fd fd_is_size_ : FuncData} (F : Fun K "_check_size" "_check_size" s_check_size_ f fd) (T : ErrC K mg "BadNumber" CB)
    (G_is_size_ : FnOk P w K mg base CX0 1 a_is_size_ fd_is_size_ ["n", "m"] spIsSize) (g_is_size_ : mg "_is_size" = some (.ref a_is_size_)) (k_is_size_ : PySem.W.keepIn K (.ref a_is_size_) = true) (b_is_size_ : Binds K fd_is_size_ ["n", "m"] []) :
    FnOk P w K mg base (L2N.CX P w) 2 f fd ["n", "m"] (spCheckSize CB) := by
  obtain ⟨gc_BadNumber, x_BadNumber, kc_BadNumber, bc_BadNumber, tc_BadNumber⟩ := T
  refine F.okXN sc_check_size_ (fun vs H Q E h => ?_) (fun cdv A outer s H vs Q E hr h => ?_)
  · obtain ⟨n, m, rfl, _⟩ := h
    rfl
  · obtain ⟨n, m, rfl, q1, q2⟩ := h
    refine ⟨_, (pss_one (ps_if (pt_not (pt_val (pe_call G_is_size_ (hr.mono (by decide)) rfl g_is_size_ k_is_size_ b_is_size_ .nil pass0 (pa_cons (pv 0) (pa_cons (pv 1) pa_nil))))) (pss_one (L2N.ps_raise rfl (L2N.takes_of rfl rfl rfl rfl) (L2N.pmk_own PySem.F.excBase_ValueError x_BadNumber gc_BadNumber kc_BadNumber (raises_own bc_BadNumber tc_BadNumber) rfl))) pss_nil)), ?_⟩
    refine ⟨_, rfl, _, rfl, n, m, rfl, _, rfl, ?_⟩
    cases e : siz n m with
    | true => exact iteF (q1 e)
    | false => exact iteT (q2 e)
end

theorem any_nil (bs : List (List Int)) : ((bs.map dT).any fun z => PyData.eqv z (dT [])) = bs.any fun b => decide (b = []) := by
  rw [List.any_map]
  congr 1
  funext b
  exact eqv_dT b []
theorem flat_take {bs : List (List Int)} {i : Nat} {b : List Int} (h : bs[i]? = some b) : (bs.take (i + 1)).flatten = (bs.take i).flatten ++ b := by
  rw [List.take_succ, h, List.flatten_append]
  show _ ++ (b ++ []) = _
  rw [List.append_nil]
theorem mem_len {bs : List (List Int)} {b : List Int} (h : b ∈ bs) : b.length ≤ bs.flatten.length := by
  induction bs with
  | nil => exact nomatch h
  | cons c bs ih =>
    rw [List.flatten_cons, List.length_append]
    rcases List.mem_cons.mp h with rfl | h
    · omega
    · have := ih h
      omega
section
variable {P : Program} {w : World} {K : PySem.W.Frag} {mg : Str → Option Value} {base : Heap}
/-! ### is_diagram -/
def DgOk (n m : Int) (bs : List (List Int)) : Prop := n.natAbs ≤ 1000 ∧ m.natAbs ≤ 1000 ∧ bs.length ≤ 1000 ∧ bs.flatten.length ≤ 10000
def spIsDiagram : Sp := fun vs H Q _ => ∃ (v : V) (n m : Int) (bs : List (List Int)), vs = [v] ∧ DGv H v n m bs ∧ DgOk n m bs ∧ ∀ H', Same H H' → (IsDg n m bs → Q (.bl true) H') ∧ (¬ IsDg n m bs → Q (.bl false) H')
theorem ok_is_diagram {f a_is_size_ : Addr} {fd fd_is_size_ : FuncData} (F : Fun K "is_diagram" "is_diagram" s_is_diagram f fd) (z_len : mg "len" = none) (z_list : mg "list" = none) (z_range : mg "range" = none) (z_sorted : mg "sorted" = none) (z_all : mg "all" = none)
    (G_is_size_ : FnOk P w K mg base CX0 1 a_is_size_ fd_is_size_ ["n", "m"] spIsSize) (g_is_size_ : mg "_is_size" = some (.ref a_is_size_)) (k_is_size_ : PySem.W.keepIn K (.ref a_is_size_) = true) (b_is_size_ : Binds K fd_is_size_ ["n", "m"] []) : FnOk P w K mg base CX0 2 f fd ["diagram"] spIsDiagram := by
  refine F.ok sc_is_diagram (fun vs H Q E h => ?_) (fun cdv A outer s H vs Q E hr h => ?_)
  · obtain ⟨v, n, m, bs, rfl, _⟩ := h
    rfl
  · obtain ⟨v, n, m, bs, rfl, hv, ⟨bn, bm, bl, bf⟩, q⟩ := h
    refine ⟨_, (pss_cons (ps_if (pt_cmpR op_ne (pe_callB call_len_seq (by rfl) z_len boot_len (pa_cons (pv 0) pa_nil)) pe_int (nomark _)) (pss_one (ps_ret pe_bl)) pss_nil)
  (pss_cons (ps_asg (pv 0) (pg_tup rfl (pgs_cons (pg_name (i := 1) sc_is_diagram.nd rfl (.inl rfl)) (pgs_cons (pg_name (i := 2) sc_is_diagram.nd rfl (.inl rfl)) (pgs_cons (pg_name (i := 3) sc_is_diagram.nd rfl (.inl rfl)) pgs_nil)))))
  (pss_cons (ps_if (L2.PW.pt (pw_or (pt_not (pt_val (pe_call G_is_size_ (hr.mono (by decide)) rfl g_is_size_ k_is_size_ b_is_size_ .nil pass0 (pa_cons (pv 1) (pa_cons (pv 2) pa_nil))))) (pw_or1 (pt_cmpR (op_inDT (room65 hr)) (pe_tup pa_nil) (pv 3) (by with_unfolding_all rfl))))) (pss_one (ps_ret pe_bl)) pss_nil)
  (pss_cons (ps_setLc2 (i := 4) (own := [("block", 6), ("point", 7)]) (vs1 := [7]) rfl sc_is_diagram.nd rfl rfl (sw_true rfl rfl rfl (by decide +kernel)) (pi_tup (pv 3)) (blkOk_by (N := ["diagram", "n", "m", "blocks", "points", "firsts", "block", "point"]) (sc := defScope s_is_diagram) (by decide +kernel)) (by decide) (fun _ _ _ _ _ => (pg_name (i := 6) sc_is_diagram.nd rfl (.inl rfl))) (fun _ _ _ _ _ => pts_nil) (fun _ _ _ _ _ => ((pi_tupK (K := K) rfl) (pv 6))) (fun _ _ _ _ _ => (pg_name (i := 7) sc_is_diagram.nd rfl (.inl rfl))) (fun _ _ _ _ _ => pts_nil) (fun _ _ _ _ _ => (pv 7)))
  (pss_cons (ps_if (pt_cmpR (op_neD (room64 hr)) (pe_callB cr_sortedI (by rfl) z_sorted boot_sorted (pa_cons (pv 4) pa_nil)) (pe_listRg rfl rfl z_list (prg_1 rfl z_range (pe_op op_add (pv 1) (pv 2)))) (nomark _)) (pss_one (ps_ret pe_bl)) pss_nil)
  (pss_cons (ps_if (pt_not (pt_val (pe_callB (cr_all rfl) (by rfl) z_all boot_all (pa_cons (pe_lc (own := [("block", 6)]) rfl sc_is_diagram.nd (pi_tup (pv 3)) (blkOk_by (N := ["diagram", "n", "m", "blocks", "points", "firsts", "block", "point"]) (sc := defScope s_is_diagram) (by first | decide +kernel | rfl)) (fun _ _ _ _ _ => (pg_name (i := 6) sc_is_diagram.nd rfl (.inl rfl))) (fun _ _ _ _ _ => pts_nil) (fun _ _ _ _ _ => (pe_cmpR (op_eqDK (K := K) rfl (room64 hr)) (pe_callTy (call_list_ofK (K := K) rfl) (by rfl) z_list boot_list (pa_cons (pv 6) pa_nil)) (pe_callB (cr_sortedITK (K := K) rfl) (by rfl) z_sorted boot_sorted (pa_cons (pv 6) pa_nil)) (nomark _)))) pa_nil)))) (pss_one (ps_ret pe_bl)) pss_nil)
  (pss_cons (ps_setLc (i := 5) (own := [("block", 6)]) rfl sc_is_diagram.nd rfl rfl (sw_true rfl rfl rfl (by decide +kernel)) (pi_tup (pv 3)) (blkOk_by (N := ["diagram", "n", "m", "blocks", "points", "firsts", "block", "point"]) (sc := defScope s_is_diagram) (by first | decide +kernel | rfl)) (fun _ _ _ _ _ => (pg_name (i := 6) sc_is_diagram.nd rfl (.inl rfl))) (fun _ _ _ _ _ => pts_nil) (fun _ _ _ _ _ => (pe_ix (ix_tupK (K := K) rfl) (pv 6) pe_int (fun _ _ => rfl))))
  (pss_one (ps_ret (pe_cmpR (op_eqD (room64 hr)) (pv 5) (pe_callB cr_sortedI (by rfl) z_sorted boot_sorted (pa_cons (pv 5) pa_nil)) (nomark _))))))))))), ?_⟩
    have szl : 20000 ≤ sizeLine := by decide
    obtain ⟨t, vb, rfl, ht, tb, ts, rfl, htb, pr⟩ := hv
    have lts : ts.length = bs.length := pr.length
    refine ⟨_, rfl, t, _, rfl, .inr (.inl (.inl ht)), rfl, _, rfl, ite_same ?_⟩
    refine ⟨_, rfl, t, _, rfl, .inl (.inl ht), rfl, _, _, rfl, _, _, rfl, _, _, rfl, rfl, ?_⟩
    refine ⟨_, rfl, _, rfl, n, m, rfl, _, rfl, ?_⟩
    by_cases cs : siz n m = true
    · rw [cs]
      refine iteF ?_
      have hs := siz_iff.mp cs
      refine ⟨(by show 0 ≤ sizeLine; decide), fun e0 ne0 => ?_⟩
      have s0 : Same H (upd H e0 (.tup [])) := same_upd ne0
      have tt : TT (upd H e0 (.tup [])) (.ref tb) bs := TT.same s0 ⟨tb, ts, rfl, htb, pr⟩
      refine ⟨_, rfl, dT [], bs.map dT, .tup (.inl (.inl upd_same)) .nil, tt.dp, dT_shaped [], dTT_shaped bs, _, rfl, ?_⟩
      rw [any_nil]
      have htb1 : upd H e0 (.tup []) tb = some (.tup ts) := s0 _ _ htb
      have pr1 : Paired (TP (upd H e0 (.tup []))) ts bs := Paired.mapP pr fun _ _ h => h.same s0
      revert s0 htb1 pr1
      generalize upd H e0 (.tup []) = H1
      intro s0 htb1 pr1
      clear tt htb pr
      by_cases cn : (bs.any fun b => decide (b = [])) = true
      · rw [cn]
        refine iteT ((q H1 s0).2 fun z => ?_)
        obtain ⟨b, hb, e⟩ := List.any_eq_true.mp cn
        exact z.ne b hb (of_decide_eq_true e)
      rw [Bool.not_eq_true _ |>.mp cn]
      refine iteF ?_
      have ne : ∀ b ∈ bs, b ≠ [] := fun b hb z => cn (List.any_eq_true.mpr ⟨b, hb, decide_eq_true z⟩)
      -- points
      refine ⟨_, rfl, tb, rfl, ⟨_, .inl (.inl htb1)⟩, fun D nD => ?_⟩
      have keepD : ∀ {H' : Hp} {a : Addr} {o : HO}, SameBut D H1 H' → H1 a = some o → H' a = some o := fun sb e => sb _ _ (ne_of_none e nD) e
      refine outer_it walk_tup (fun i H' => SameBut D H1 H' ∧ H' D = some (.lst ((bs.take i).flatten.map V.int))) ⟨SameBut.upd, upd_same⟩ (fun i H' _ hP => .inl (.inl (keepD hP.1 htb1))) (fun i y H2 H3 hi hP hy => ?_) (fun H2 hP => ?_)
      · obtain ⟨sb, hD⟩ := hP
        obtain ⟨e0, hy⟩ := hy
        subst e0
        obtain ⟨b, eb, a, rfl, ha⟩ := tt_get pr1 hy
        have mb := List.mem_of_getElem? eb
        have lb := mem_len mb
        refine ⟨rfl, ?_⟩
        refine ⟨_, rfl, a, rfl, ⟨_, .inl (.inl (keepD sb ha))⟩, outer_it walk_tup (fun j H' => SameBut D H1 H' ∧ H' D = some (.lst (((bs.take i).flatten ++ b.take j).map V.int))) ⟨sb, by rw [List.take_zero, List.append_nil]; exact hD⟩ (fun j H' _ hP => .inl (.inl (keepD hP.1 ha))) (fun j z H4 H5 hj hP hz => ?_) (fun H4 hP => ?_)⟩
        · obtain ⟨sb, hD⟩ := hP
          obtain ⟨e0, hz⟩ := hz
          subst e0
          rw [List.length_map] at hj
          have ez : (b.map V.int)[j]? = some (.int (co b j)) := by rw [List.getElem?_map, co_get hj]; rfl
          obtain rfl : V.int (co b j) = z := Option.some.inj (ez.symm.trans hz)
          refine ⟨rfl, ?_⟩
          refine ⟨_, rfl, _, hD, ?_, sb.trans SameBut.upd, ?_⟩
          · rw [List.length_map, List.length_append, List.length_take]
            have : (bs.take i).flatten.length ≤ bs.flatten.length := by
              have e : (bs.take i ++ bs.drop i).flatten.length = bs.flatten.length := congrArg (fun l : List (List Int) => l.flatten.length) (List.take_append_drop i bs)
              rw [List.flatten_append, List.length_append] at e
              omega
            omega
          · rw [upd_same, take_snoc hj, ← List.append_assoc, List.map_append (l₂ := [co b j])]
            rfl
        · obtain ⟨sb, hD⟩ := hP
          rw [List.length_map, List.take_length] at hD
          exact ⟨sb, by rw [flat_take eb]; exact hD⟩
      obtain ⟨sb2, hD⟩ := hP
      rw [lts, List.take_length] at hD
      have s2 : Same H1 H2 := fun b o e => keepD sb2 e
      -- sorted
      refine ⟨_, rfl, D, bs.flatten, rfl, .inl (.inl hD), fun ns' p1 pm1 srt1 np1 => ?_⟩
      refine ⟨_, rfl, _, rfl, _, _, rfl, rfl, n + m, rfl, RgOk.of_le (by decide) (by omega) (by decide) (by omega), fun p2 np2 => ?_⟩
      rw [rgV_ixs (by omega)]
      have s3 : Same H2 (upd (upd H2 p1 (.lst (ns'.map V.int))) p2 (.lst ((ixs (n + m).toNat).map V.int))) := Same.trans (same_upd np1) (same_upd np2)
      refine neD_LP (x := ns') (y := ixs (n + m).toNat) ⟨p1, rfl, same_upd np2 _ _ upd_same⟩ ⟨p2, rfl, upd_same⟩ ⟨_, rfl, ?_⟩
      have s13 := Same.trans s0 (Same.trans s2 s3)
      have htb4 := s3 _ _ (s2 _ _ htb1)
      have pr4 := Paired.mapP pr1 fun _ _ h => (TP.same s2 h).same s3
      revert s13 htb4 pr4
      generalize upd (upd H2 p1 (.lst (ns'.map V.int))) p2 (.lst ((ixs (n + m).toNat).map V.int)) = H4
      intro s13 htb4 pr4
      clear s3 s2 hD sb2 keepD nD np1 np2
      by_cases cp : ns' = ixs (n + m).toNat
      · rw [decide_eq_true cp]
        refine iteF ?_
        have pm : bs.flatten.Perm (ixs (n + m).toNat) := cp ▸ pm1.symm
        -- blocks
        refine ⟨_, rfl, tb, rfl, ⟨_, .inl (.inl htb4)⟩, fun D5 nD5 => ?_⟩
        have keep5 : ∀ {H' : Hp} {a : Addr} {o : HO}, SameBut D5 H4 H' → H4 a = some o → H' a = some o := fun sb e => sb _ _ (ne_of_none e nD5) e
        refine lc_it walk_tup (fun i H' => SameBut D5 H4 H' ∧ H' D5 = some (.lst (((bs.take i).map fun b => decide (b.Pairwise (· ≤ ·))).map V.bl))) ⟨SameBut.upd, upd_same⟩ (fun i H' _ hP => .inl (.inl (keep5 hP.1 htb4))) (fun i y H5 H6 hi hP hy => ?_) (fun H5 hP => ?_)
        · obtain ⟨sb, hD⟩ := hP
          obtain ⟨e0, hy⟩ := hy
          subst e0
          obtain ⟨b, eb, a, rfl, ha⟩ := tt_get pr4 hy
          refine ⟨rfl, ?_⟩
          have ha5 := keep5 sb ha
          refine ⟨_, rfl, a, _, rfl, .inr (.inl (.inl ha5)), fun l1 nl1 => ?_⟩
          refine ⟨_, rfl, a, b, rfl, .inl (.inl (same_upd nl1 _ _ ha5)), fun ns p pm srt np => ?_⟩
          refine eqD_LP (x := b) (y := ns) ⟨l1, rfl, same_upd np _ _ upd_same⟩ ⟨p, rfl, upd_same⟩ ?_
          have sN := Same.trans (same_upd (o := .lst (b.map V.int)) nl1) (same_upd (o := .lst (ns.map V.int)) np)
          have e : decide (b = ns) = decide (b.Pairwise (· ≤ ·)) := decide_eq_decide.mpr ⟨fun z => by rw [z]; exact srt, fun z => sorted_same pm.symm z srt⟩
          refine ⟨_, sN _ _ hD, by rw [List.length_map, List.length_map, List.length_take]; omega, (sb.trans (Same.but sN)).trans SameBut.upd, ?_⟩
          rw [upd_same, List.take_succ, eb, e, List.map_append, List.map_append]
          rfl
        obtain ⟨sb5, hD5⟩ := hP
        rw [lts, List.take_length] at hD5
        have s5 : Same H4 H5 := fun b o e => keep5 sb5 e
        refine ⟨D5, _, rfl, .inl (.inl hD5), _, rfl, ?_⟩
        have htb5 := s5 _ _ htb4
        have pr5 := Paired.mapP pr4 fun _ _ h => TP.same s5 h
        have s15 := Same.trans s13 s5
        by_cases ca : ((bs.map fun b => decide (b.Pairwise (· ≤ ·))).all id) = true
        · rw [ca]
          refine iteF ?_
          have asc : ∀ b ∈ bs, b.Pairwise (· ≤ ·) := fun b hb => of_decide_eq_true (List.all_eq_true.mp ca _ (List.mem_map_of_mem hb))
          -- firsts
          refine ⟨_, rfl, tb, rfl, ⟨_, .inl (.inl htb5)⟩, fun D6 nD6 => ?_⟩
          have keep6 : ∀ {H' : Hp} {a : Addr} {o : HO}, SameBut D6 H5 H' → H5 a = some o → H' a = some o := fun sb e => sb _ _ (ne_of_none e nD6) e
          refine lc_it walk_tup (fun i H' => SameBut D6 H5 H' ∧ H' D6 = some (.lst (((bs.take i).map fun b => co b 0).map V.int))) ⟨SameBut.upd, upd_same⟩ (fun i H' _ hP => .inl (.inl (keep6 hP.1 htb5))) (fun i y H6 H7 hi hP hy => ?_) (fun H6 hP => ?_)
          · obtain ⟨sb, hD⟩ := hP
            obtain ⟨e0, hy⟩ := hy
            subst e0
            obtain ⟨b, eb, a, rfl, ha⟩ := tt_get pr5 hy
            have nb := List.length_pos_iff.mpr (ne b (List.mem_of_getElem? eb))
            refine ⟨rfl, ?_⟩
            refine ⟨_, rfl, a, _, 0, _, rfl, rfl, .inl (.inl (keep6 sb ha)), at_co nb, _, hD, by rw [List.length_map, List.length_map, List.length_take]; omega, sb.trans SameBut.upd, ?_⟩
            rw [upd_same, List.take_succ, eb, List.map_append, List.map_append]
            rfl
          obtain ⟨sb6, hD6⟩ := hP
          rw [lts, List.take_length] at hD6
          have s6 : Same H5 H6 := fun b o e => keep6 sb6 e
          refine ⟨_, rfl, _, rfl, D6, _, rfl, .inl (.inl hD6), fun ns p pm6 srt np => ?_⟩
          refine eqD_LP (x := bs.map fun b => co b 0) (y := ns) ⟨D6, rfl, same_upd np _ _ hD6⟩ ⟨p, rfl, upd_same⟩ ?_
          obtain ⟨qt, qf⟩ := q _ (Same.trans s15 (Same.trans s6 (same_upd np)))
          by_cases ch : (bs.map fun b => co b 0) = ns
          · rw [decide_eq_true ch]
            exact qt ⟨cs, ne, pm, asc, ch ▸ srt⟩
          · rw [decide_eq_false ch]
            exact qf fun z => ch (sorted_same pm6.symm z.hd srt)
        · rw [Bool.not_eq_true _ |>.mp ca]
          refine iteT ((q H5 s15).2 fun z => ca (List.all_eq_true.mpr fun c hc => ?_))
          obtain ⟨b, hb, rfl⟩ := List.mem_map.mp hc
          exact decide_eq_true (z.asc b hb)
      · rw [decide_eq_false cp]
        exact iteT ((q H4 s13).2 fun z => cp (sorted_same (pm1.trans z.pm) srt1 (ixs_asc _)))
    · rw [Bool.not_eq_true _ |>.mp cs]
      exact iteT ((q H (Same.refl _)).2 fun z => cs z.sz)
end

section
variable {P : Program} {w : World} {K : PySem.W.Frag} {mg : Str → Option Value} {base : Heap}
/-! ### check_diagram, labels -/
def spCheckDiagram (CD : Addr) : Sp := fun vs H Q E => ∃ (v : V) (n m : Int) (bs : List (List Int)), vs = [v] ∧ DGv H v n m bs ∧ DgOk n m bs ∧ ∀ H', Same H H' → (IsDg n m bs → Q .non H') ∧ (¬ IsDg n m bs → E (.ref CD) none H')
theorem ok_check_diagram {f CD a_is_diagram : Addr} {fd fd_is_diagram : FuncData} (F : Fun K "check_diagram" "check_diagram" s_check_diagram f fd) (T : ErrC K mg "NotDiagram" CD)
    (G_is_diagram : FnOk P w K mg base CX0 2 a_is_diagram fd_is_diagram ["diagram"] spIsDiagram) (g_is_diagram : mg "is_diagram" = some (.ref a_is_diagram)) (k_is_diagram : PySem.W.keepIn K (.ref a_is_diagram) = true) (b_is_diagram : Binds K fd_is_diagram ["diagram"] []) :
    FnOk P w K mg base (L2N.CX P w) 3 f fd ["diagram"] (spCheckDiagram CD) := by
  obtain ⟨gc_NotDiagram, x_NotDiagram, kc_NotDiagram, bc_NotDiagram, tc_NotDiagram⟩ := T
  refine F.okXN sc_check_diagram (fun vs H Q E h => ?_) (fun cdv A outer s H vs Q E hr h => ?_)
  · obtain ⟨v, n, m, bs, rfl, _⟩ := h
    rfl
  · obtain ⟨v, n, m, bs, rfl, hv, hb, q⟩ := h
    refine ⟨_, (pss_one (ps_if (pt_not (pt_val (pe_call G_is_diagram (hr.mono (by decide)) rfl g_is_diagram k_is_diagram b_is_diagram .nil pass0 (pa_cons (pv 0) pa_nil)))) (pss_one (L2N.ps_raise rfl (L2N.takes_of rfl rfl rfl rfl) (L2N.pmk_own PySem.F.excBase_ValueError x_NotDiagram gc_NotDiagram kc_NotDiagram (raises_own bc_NotDiagram tc_NotDiagram) rfl))) pss_nil)), ?_⟩
    exact ⟨_, rfl, v, n, m, bs, rfl, hv, hb, fun H' s' => ⟨fun h => ⟨_, rfl, iteF ((q H' s').1 h)⟩, fun h => ⟨_, rfl, iteT ((q H' s').2 h)⟩⟩⟩
end
def labN (bs : List (List Int)) (i : Nat) (N : Nat) : List Int := labFrom (bs.take i) 0 (List.replicate N 0)
theorem labFrom_snoc : ∀ (bs : List (List Int)) (b : List Int) (k : Nat) (ms : List Int), labFrom (bs ++ [b]) k ms = b.foldl (fun ms p => ms.set p.toNat ((k + bs.length : Nat) : Int)) (labFrom bs k ms)
  | [], b, k, ms => rfl
  | c :: bs, b, k, ms => by
    show labFrom (bs ++ [b]) (k + 1) _ = _
    rw [labFrom_snoc bs b (k + 1), show k + 1 + bs.length = k + (c :: bs).length by rw [List.length_cons]; omega]
    rfl
theorem fold_take {k : Int} {b ms : List Int} {j : Nat} (h : j < b.length) : (b.take (j + 1)).foldl (fun ms p => ms.set p.toNat k) ms = ((b.take j).foldl (fun ms p => ms.set p.toNat k) ms).set (co b j).toNat k := by
  rw [take_snoc h, List.foldl_append]
  rfl
theorem dg_pt {n m : Int} {bs : List (List Int)} (h : IsDg n m bs) {b : List Int} (hb : b ∈ bs) {p : Int} (hp : p ∈ b) : 0 ≤ p ∧ p < n + m := by
  have h1 := h.pm.mem_iff.mp (List.mem_flatten.mpr ⟨b, hb, hp⟩)
  obtain ⟨i, hi, rfl⟩ := List.mem_map.mp h1
  have := List.mem_range.mp hi
  omega

theorem posOf_take {marks : List Int} {i : Nat} (h : i < marks.length) (v : Int) : posOf (marks.take (i + 1)) v = if co marks i = v then posOf (marks.take i) v ++ [(i : Int)] else posOf (marks.take i) v := by
  have l1 : (marks.take (i + 1)).length = i + 1 := by rw [List.length_take]; omega
  have l0 : (marks.take i).length = i := by rw [List.length_take]; omega
  have c1 : ∀ j, j < i → co (marks.take (i + 1)) j = co (marks.take i) j := fun j hj => by
    unfold co
    rw [List.getD_eq_getElem?_getD, List.getD_eq_getElem?_getD, List.getElem?_take_of_lt (by omega), List.getElem?_take_of_lt hj]
  have c2 : co (marks.take (i + 1)) i = co marks i := by
    unfold co
    rw [List.getD_eq_getElem?_getD, List.getD_eq_getElem?_getD, List.getElem?_take_of_lt (by omega)]
  unfold posOf
  rw [l1, l0, List.range_succ, List.filter_append, List.map_append]
  have e : (List.range i).filter (fun j => decide (co (marks.take (i + 1)) j = v)) = (List.range i).filter fun j => decide (co (marks.take i) j = v) :=
    List.filter_congr fun j hj => by rw [c1 j (List.mem_range.mp hj)]
  rw [e, List.filter_cons, c2]
  by_cases c : co marks i = v
  · rw [if_pos c, decide_eq_true c]
    rfl
  · rw [if_neg c, decide_eq_false c]
    exact List.append_nil _
theorem posOf_none {marks : List Int} {v : Int} (h : v ∉ marks) : posOf marks v = [] := by
  refine List.eq_nil_iff_forall_not_mem.mpr fun x hx => ?_
  obtain ⟨i, _, hi, e⟩ := mem_posOf.mp hx
  exact h (e ▸ co_mem hi)
/-- a dict by integers -/
def KR (H : Hp) (f : Int → List Int) (kv : Key × V) (u : Int) : Prop := kv.1 = Sum.inl u ∧ TP H kv.2 (f u)
theorem kr_get {H : Hp} {f : Int → List Int} {v : Int} : ∀ {kvs : List (Key × V)} {vs : List Int}, Paired (KR H f) kvs vs → (v ∈ vs → ∃ w, valV kvs (Sum.inl v : Key) = some w ∧ TP H w (f v)) ∧ (v ∉ vs → valV kvs (Sum.inl v : Key) = none)
  | _, _, .nil => ⟨fun h => (nomatch h), fun _ => rfl⟩
  | kv :: kvs, u :: vs, .cons ⟨e, t⟩ pr => by
    obtain ⟨a, b⟩ := kr_get (v := v) pr
    by_cases c : u = v
    · refine ⟨fun _ => ⟨kv.2, valV_pos (by rw [e, c]), by rw [← c]; exact t⟩, fun h => absurd (List.mem_cons.mpr (.inl c.symm)) h⟩
    · have ne : ¬ kv.1 = (Sum.inl v : Key) := fun z => c (Sum.inl.inj (e.symm.trans z))
      refine ⟨fun h => ?_, fun h => ?_⟩
      · rw [valV_neg ne]
        exact a ((List.mem_cons.mp h).resolve_left fun z => c z.symm)
      · rw [valV_neg ne]
        exact b fun z => h (List.mem_cons_of_mem _ z)
theorem kr_map {H : Hp} {f g : Int → List Int} {v : Int} {w : V} (hw : TP H w (g v)) (hg : ∀ u, u ≠ v → g u = f u) : ∀ {kvs : List (Key × V)} {vs : List Int}, Paired (KR H f) kvs vs → Paired (KR H g) (kvs.map fun kv => if kv.1 = (Sum.inl v : Key) then (kv.1, w) else kv) vs
  | _, _, .nil => .nil
  | kv :: kvs, u :: vs, .cons ⟨e, t⟩ pr => by
    rw [List.map_cons]
    refine .cons ?_ (kr_map hw hg pr)
    by_cases c : u = v
    · rw [if_pos (by rw [e, c])]
      exact ⟨e, by rw [c]; exact hw⟩
    · rw [if_neg fun z => c (Sum.inl.inj (e.symm.trans z))]
      exact ⟨e, by rw [hg u c]; exact t⟩
theorem kr_put {H : Hp} {f g : Int → List Int} {v : Int} {w : V} {kvs : List (Key × V)} {vs : List Int} (pr : Paired (KR H f) kvs vs) (hw : TP H w (g v)) (hg : ∀ u, u ≠ v → g u = f u) :
    Paired (KR H g) (putK kvs (Sum.inl v : Key) w) (if v ∈ vs then vs else vs ++ [v]) := by
  obtain ⟨a, b⟩ := kr_get (v := v) pr
  by_cases c : v ∈ vs
  · rw [if_pos c]
    obtain ⟨x, hx, _⟩ := a c
    unfold putK
    rw [if_pos (by rw [valV_any, hx]; rfl)]
    exact kr_map hw hg pr
  · rw [if_neg c, putK_new _ (b c)]
    refine paired_snoc ⟨rfl, hw⟩ ?_
    have e : (kvs.map fun kv => if kv.1 = (Sum.inl v : Key) then (kv.1, w) else kv) = kvs := by
      conv => rhs; rw [← List.map_id kvs]
      refine List.map_congr_left fun kv hkv => ?_
      have : (kvs.any fun kv => decide (kv.1 = (Sum.inl v : Key))) = false := by rw [valV_any, b c]; rfl
      have h1 := List.any_eq_false.mp this kv hkv
      rw [if_neg fun z => h1 (decide_eq_true z)]
      rfl
    have := kr_map hw hg pr
    rwa [e] at this
theorem kr_vals {H : Hp} {f : Int → List Int} : ∀ {kvs : List (Key × V)} {vs : List Int}, Paired (KR H f) kvs vs → Paired (TP H) (kvs.map (·.2)) (vs.map f)
  | _, _, .nil => .nil
  | _, _, .cons ⟨_, t⟩ pr => .cons t (kr_vals pr)
def rCatC : R2 := fun x y H Q => ∃ a b xs ys, x = .ref a ∧ y = .ref b ∧ H a = some (.tup xs) ∧ H b = some (.tup ys) ∧ xs.length + ys.length ≤ sizeLine ∧ ∀ p H', Same H H' → H' p = some (.tup (xs ++ ys)) → Q (.ref p) H'
theorem op_catC {X : Cx} : OpR X (binaryOp .Add) rCatC := by
  intro pins s σ H x y v u Q I rx ry h
  obtain ⟨a, b, xs, ys, rfl, rfl, ha, hb, hz, q⟩ := h
  refine op_catA pins s σ H _ _ v u Q I rx ry ⟨a, b, xs, ys, rfl, rfl, .inl (.inl ha), .inl (.inl hb), hz, fun e => ?_, fun _ e => ?_, fun _ _ p np => ?_⟩
  · exact q b H (Same.refl _) (by rw [e, List.nil_append]; exact hb)
  · exact q a H (Same.refl _) (by rw [e, List.append_nil]; exact ha)
  · exact q p _ (same_upd np) upd_same
section
variable {P : Program} {w : World} {K : PySem.W.Frag} {mg : Str → Option Value} {base : Heap}
/-! ### from_labels -/
def spFromLabels (K : PySem.W.Frag) (CB : Addr) : Sp := fun vs H Q E => ∃ (n m : Int) (a : Addr) (marks : List Int), vs = [.int n, .int m, .ref a] ∧ SqL K H a (marks.map V.int) ∧ marks.length ≤ 1000 ∧ (siz n m = false → E (.ref CB) none H) ∧
  (siz n m = true → ((marks.length : Int) ≠ n + m → E (.ref CB) none H) ∧ ((marks.length : Int) = n + m → ∀ v H', Same H H' → DGv H' v n m (blocksOf marks) → Q v H'))
theorem ok_from_labels {f CB a_check_size_ : Addr} {fd fd_check_size_ : FuncData} (F : Fun K "from_labels" "from_labels" s_from_labels f fd) (T : ErrC K mg "BadNumber" CB) (z_len : mg "len" = none) (z_enumerate : mg "enumerate" = none) (z_tuple : mg "tuple" = none)
    (G_check_size_ : FnOk P w K mg base (L2N.CX P w) 2 a_check_size_ fd_check_size_ ["n", "m"] (spCheckSize CB)) (g_check_size_ : mg "_check_size" = some (.ref a_check_size_)) (k_check_size_ : PySem.W.keepIn K (.ref a_check_size_) = true) (b_check_size_ : Binds K fd_check_size_ ["n", "m"] []) :
    FnOk P w K mg base (L2N.CX P w) 3 f fd ["n", "m", "marks"] (spFromLabels K CB) := by
  obtain ⟨gc_BadNumber, x_BadNumber, kc_BadNumber, bc_BadNumber, tc_BadNumber⟩ := T
  refine F.okXN sc_from_labels (fun vs H Q E h => ?_) (fun cdv A outer s H vs Q E hr h => ?_)
  · obtain ⟨n, m, a, marks, rfl, _⟩ := h
    rfl
  · obtain ⟨n, m, a, marks, rfl, ha, hl, q1, q⟩ := h
    refine ⟨_, (pss_cons (ps_expr (pe_call G_check_size_ (hr.mono (by decide)) rfl g_check_size_ k_check_size_ b_check_size_ .nil (L2N.passes_call (L2N.takes_of rfl rfl rfl rfl) (fun _ _ _ _ h => h)) (pa_cons (pv 0) (pa_cons (pv 1) pa_nil))))
  (pss_cons (ps_if (pt_cmpR op_ne (pe_callB call_len_seq (by rfl) z_len boot_len (pa_cons (pv 2) pa_nil)) (pe_op op_add (pv 0) (pv 1)) (nomark _)) (pss_one (L2N.ps_raise rfl (L2N.takes_of rfl rfl rfl rfl) (L2N.pmk_own PySem.F.excBase_ValueError x_BadNumber gc_BadNumber kc_BadNumber (raises_own bc_BadNumber tc_BadNumber) rfl))) pss_nil)
  (pss_cons (ps_set (i := 3) sc_from_labels.nd rfl (.inl rfl) pe_dnewK)
  (pss_cons (ps_for (passes_of rfl) rfl (pi_enum rfl z_enumerate (pa_cons (pv 2) pa_nil)) (pg_tup rfl (pgs_cons (pg_name (i := 4) sc_from_labels.nd rfl (.inl rfl)) (pgs_cons (pg_name (i := 5) sc_from_labels.nd rfl (.inl rfl)) pgs_nil))) (pss_one (ps_dput (hu_of hr) (pv 3) (pv 5) (pe_op op_catC (pe_dget2 (hu_of hr) (pv 3) (pv 5) (pe_tup pa_nil) ⟨by rfl, by rfl, by rfl, by rfl⟩) (pe_tup (pa_cons (pv 4) pa_nil))) rfl)))
  (pss_one (ps_ret (pe_tup (pa_cons (pv 0) (pa_cons (pv 1) (pa_cons (pe_tupVals rfl rfl z_tuple (pv 3)) pa_nil)))))))))), ?_⟩
    have szl : 20000 ≤ sizeLine := by decide
    refine ⟨_, rfl, _, rfl, n, m, rfl, fun cs => ?_, q1⟩
    obtain ⟨qB, q⟩ := q cs
    refine ⟨_, rfl, a, _, rfl, .inl ha, _, rfl, _, rfl, _, _, rfl, rfl, rfl, _, rfl, ?_⟩
    rw [List.length_map]
    by_cases cl : (marks.length : Int) = n + m
    · refine if_neg_of (by rw [decide_eq_true (congrArg V.int cl)]; exact Bool.false_ne_true) ?_
      have q := q cl
      refine fun D nD => ?_
      refine ⟨_, rfl, a, _, rfl, sqL_same (same_upd nD) ha, for_it walk_enum (fun i σ H' => ∃ (kvs : List (Key × V)) (v4 v5 : Option V), σ = [some (.int n), some (.int m), some (.ref a), some (.ref D), v4, v5] ∧ Same H H' ∧ H' D = some (.dK kvs) ∧ kvs.length ≤ i ∧ Paired (KR H' (posOf (marks.take i))) kvs (seenL [] (marks.take i)))
        ⟨[], none, none, rfl, same_upd nD, upd_same, Nat.le_refl _, .nil⟩ (fun i σ H' _ ⟨_, _, _, _, s', _⟩ => sqL_same s' ha) (fun i y σ H2 H3 hi hP hy => ?_) (fun σ H' hP => ?_)⟩
      · obtain ⟨kvs, v4, v5, rfl, s2, hD2, lk, pr⟩ := hP
        obtain ⟨p, x, y', rfl, np, rfl, ex, ey⟩ := hy
        rw [List.length_map] at hi
        obtain rfl : V.int (i : Nat) = x := Option.some.inj ex
        have ey2 : (marks.map V.int)[i]? = some (.int (co marks i)) := by rw [List.getElem?_map, co_get hi]; rfl
        obtain rfl : V.int (co marks i) = y' := Option.some.inj (ey2.symm.trans ey)
        refine ⟨p, _, rfl, .inl (.inl upd_same), rfl, _, _, rfl, _, _, rfl, rfl, ?_⟩
        have q3 := same_upd (o := .tup [.int (i : Nat), .int (co marks i)]) np
        have hD3 := q3 _ _ hD2
        refine ⟨_, rfl, D, rfl, .inl ⟨kvs, .inl hD3⟩, _, rfl, (by show 0 ≤ sizeLine; decide), fun e ne => ?_⟩
        have q4 := Same.trans q3 (same_upd (o := .tup []) ne)
        have hD4 := q4 _ _ hD2
        have pr4 : Paired (KR _ (posOf (marks.take i))) kvs (seenL [] (marks.take i)) := Paired.mapP pr fun _ _ h => ⟨h.1, h.2.same q4⟩
        refine ⟨_, DGet.k (k := (Sum.inl (co marks i) : Key)) hD4, ?_⟩
        obtain ⟨w0, ew, tw⟩ : ∃ w0, (valV kvs (Sum.inl (co marks i) : Key)).getD (.ref e) = w0 ∧ TP (upd (upd H2 p (.tup [.int (i : Nat), .int (co marks i)])) e (.tup [])) w0 (posOf (marks.take i) (co marks i)) := by
          by_cases c : co marks i ∈ seenL [] (marks.take i)
          · obtain ⟨w0, h1, h2⟩ := (kr_get (v := co marks i) pr4).1 c
            exact ⟨w0, by rw [h1]; rfl, h2⟩
          · rw [(kr_get (v := co marks i) pr4).2 c, posOf_none fun z => c ((seenL_mem _ _ _).mpr (.inr z))]
            exact ⟨.ref e, rfl, e, rfl, upd_same⟩
        rw [ew]
        obtain ⟨t0, rfl, ht0⟩ := tw
        refine ⟨_, rfl, (by show 1 ≤ sizeLine; decide), fun p1 np1 => ?_⟩
        have q5 := same_upd (o := .tup [.int (i : Nat)]) np1
        have lpos : (posOf (marks.take i) (co marks i)).length ≤ i := by
          unfold posOf
          rw [List.length_map]
          have h1 := List.length_filter_le (fun j => decide (co (marks.take i) j = co marks i)) (List.range (marks.take i).length)
          rw [List.length_range] at h1
          have h2 : (marks.take i).length ≤ i := by rw [List.length_take]; omega
          omega
        refine ⟨t0, p1, _, [.int (i : Nat)], rfl, rfl, q5 _ _ ht0, upd_same, by rw [List.length_map]; show _ + 1 ≤ _; omega, fun t H6 s6 ht => ?_⟩
        have s26 := Same.trans q4 (Same.trans q5 s6)
        have hD6 := s26 _ _ hD2
        refine ⟨_, rfl, _, rfl, D, _, rfl, DPut.k (k := (Sum.inl (co marks i) : Key)) hD6 (by omega), ?_⟩
        have tnew : TP H6 (.ref t) (posOf (marks.take (i + 1)) (co marks i)) := ⟨t, rfl, by rw [posOf_take hi, if_pos rfl, List.map_append]; exact ht⟩
        have pr6 := kr_put (g := posOf (marks.take (i + 1))) (Paired.mapP pr fun _ _ h => ⟨h.1, h.2.same s26⟩ : Paired (KR H6 (posOf (marks.take i))) kvs (seenL [] (marks.take i))) tnew fun u hu => by rw [posOf_take hi, if_neg (Ne.symm hu)]
        have keepT : ∀ {x : V} {z : List Int}, TP H6 x z → TP (upd H6 D (.dK (putK kvs (Sum.inl (co marks i) : Key) (.ref t)))) x z := fun {x z} ⟨t, e, h⟩ => ⟨t, e, by rw [upd_ne (ne_of h hD6 (fun z => nomatch z))]; exact h⟩
        refine ⟨_, _, _, rfl, Same.mut (Same.trans s2 s26) nD, upd_same, ?_, ?_⟩
        · unfold putK
          split
          · rw [List.length_map]
            omega
          · rw [List.length_append]
            exact Nat.succ_le_succ lk
        · rw [take_snoc hi, seenL_snoc, ← take_snoc hi]
          exact Paired.mapP pr6 fun _ _ h => ⟨h.1, keepT h.2⟩
      · obtain ⟨kvs, v4, v5, rfl, s2, hD2, lk, pr⟩ := hP
        rw [List.length_map, List.take_length] at pr
        refine ⟨_, rfl, _, rfl, _, rfl, D, kvs, rfl, hD2, fun tb ntb => ?_⟩
        refine ⟨(by show 3 ≤ sizeLine; decide), fun t nt => ?_⟩
        have q3 := same_upd (o := .tup (kvs.map (·.2))) ntb
        have q4 := same_upd (o := .tup [.int n, .int m, .ref tb]) nt
        have sf := Same.trans q3 q4
        refine q (.ref t) _ (Same.trans s2 sf) ⟨t, .ref tb, rfl, upd_same, tb, _, rfl, q4 _ _ upd_same, ?_⟩
        unfold blocksOf
        exact kr_vals (Paired.mapP pr fun _ _ h => ⟨h.1, h.2.same sf⟩)
    · exact if_pos_of (by rw [decide_eq_false fun z => cl (V.int.inj z)]; rfl) (qB cl)
end

theorem inV_int {p : Int} : ∀ l : List Int, inV (.int p) (l.map V.int) = decide (p ∈ l)
  | [] => rfl
  | x :: l => by
    show (eqV (.int x) (.int p) || inV (.int p) (l.map V.int)) = _
    rw [inV_int l]
    have e : eqV (.int x) (.int p) = decide (x = p) := by
      by_cases c : x = p <;> simp [eqV, c]
    rw [e]
    by_cases c : x = p
    · rw [decide_eq_true c, decide_eq_true (List.mem_cons.mpr (.inl c.symm))]
      rfl
    · rw [decide_eq_false c, Bool.false_or]
      refine decide_eq_decide.mpr ⟨fun z => List.mem_cons_of_mem _ z, fun z => (List.mem_cons.mp z).resolve_left fun z => c z.symm⟩
theorem flat_int : ∀ l : List Int, (l.map V.int).all flatV = true
  | [] => rfl
  | _ :: l => by
    rw [List.map_cons, List.all_cons, flat_int l]
    rfl
section
variable {P : Program} {w : World} {K : PySem.W.Frag} {mg : Str → Option Value} {base : Heap}
/-! ### _law_seen, _law_from, _law_marks -/
def spSeen (K : PySem.W.Frag) : Sp := fun vs H Q _ => ∃ (a : Addr) (l : List Int), vs = [.ref a] ∧ SqL K H a (l.map V.int) ∧ l.length ≤ 1000 ∧ ∀ D H', Same H H' → H D = none → H' D = some (.lst ((seenL [] l).map V.int)) → Q (.ref D) H'
theorem ok_law_seen {f : Addr} {fd : FuncData} (F : Fun K "_law_seen" "_law_seen" s_law_seen f fd) : FnOk P w K mg base CX0 1 f fd ["marks"] (spSeen K) := by
  refine F.ok sc_law_seen (fun vs H Q E h => ?_) (fun cdv A outer s H vs Q E hr h => ?_)
  · obtain ⟨a, l, rfl, _⟩ := h
    rfl
  · obtain ⟨a, l, rfl, ha, hl, q⟩ := h
    refine ⟨_, (pss_cons (ps_set (i := 1) sc_law_seen.nd rfl (.inl rfl) (pe_lst pa_nil))
  (pss_cons (ps_for PassesOwn.never rfl (pi_list (pv 0)) (pg_name (i := 2) sc_law_seen.nd rfl (.inl rfl)) (pss_one (ps_if (pt_cmpR op_notIn_seq (pv 2) (pv 1) (by with_unfolding_all rfl)) (pss_one (ps_expr (pe_bm PySem.F.plainAttrs_list PySem.F.slot_list_append PySem.F.type_list_append mt_append (pv 1) (pa_cons (pv 2) pa_nil)))) pss_nil)))
  (pss_one (ps_ret (pv 1))))), ?_⟩
    have szl : 20000 ≤ sizeLine := by decide
    refine ⟨(by show 0 ≤ sizeLine; decide), fun D nD => ?_⟩
    refine ⟨_, rfl, a, rfl, ⟨_, sqL_same (same_upd nD) ha⟩, for_list (xs := l.map V.int) (fun i σ H' => ∃ v2, σ = [some (.ref a), some (.ref D), v2] ∧ Same H H' ∧ H' D = some (.lst ((seenL [] (l.take i)).map V.int)))
      ⟨none, rfl, same_upd nD, upd_same⟩ (fun i σ H' _ ⟨_, _, s', _⟩ => sqL_same s' ha) (fun i y σ H' hy hP => ?_) (fun σ H' hP => ?_)⟩
    · obtain ⟨v2, rfl, s2, hD⟩ := hP
      have hi : i < l.length := by have := (List.getElem?_eq_some_iff.mp hy).1; rwa [List.length_map] at this
      have ey : (l.map V.int)[i]? = some (.int (co l i)) := by rw [List.getElem?_map, co_get hi]; rfl
      obtain rfl : V.int (co l i) = y := Option.some.inj (ey.symm.trans hy)
      refine ⟨_, rfl, _, rfl, D, _, rfl, .inl (.inl (.inl hD)), rfl, flat_int _, _, rfl, ?_⟩
      have ls := seenL_len (l.take i) []
      rw [List.length_take] at ls
      have ls2 : (seenL [] (l.take i)).length ≤ 1000 := by
        have : ([] : List Int).length = 0 := rfl
        omega
      by_cases c : co l i ∈ seenL [] (l.take i)
      · refine if_neg_of (by show ¬ (!inV _ _) = true; rw [inV_int, decide_eq_true c]; exact Bool.false_ne_true) ⟨_, rfl, s2, ?_⟩
        rw [take_snoc hi, seenL_snoc, if_pos c]
        exact hD
      · refine if_pos_of (by show (!inV _ _) = true; rw [inV_int, decide_eq_false c]; rfl) ?_
        refine ⟨_, rfl, .inl ⟨rfl, _, .inl (.inl hD)⟩, _, rfl, D, _, _, rfl, rfl, hD, by rw [List.length_map]; omega, ?_⟩
        refine ⟨_, rfl, Same.mut s2 nD, ?_⟩
        rw [upd_same, take_snoc hi, seenL_snoc, if_neg c, List.map_append]
        rfl
    · obtain ⟨v2, rfl, s2, hD⟩ := hP
      rw [List.length_map, List.take_length] at hD
      exact ⟨_, rfl, q D H' s2 nD hD⟩
theorem posF_co {marks : List Int} {v : Int} {j : Nat} (h : j < marks.length) : ((List.range (j + 1)).filter fun i => decide (co marks i = v)) = ((List.range j).filter fun i => decide (co marks i = v)) ++ (if co marks j = v then [j] else []) := by
  rw [List.range_succ, List.filter_append, List.filter_cons]
  by_cases c : co marks j = v
  · rw [if_pos c, decide_eq_true c]
    rfl
  · rw [if_neg c, decide_eq_false c]
    rfl
def spFrom (K : PySem.W.Frag) : Sp := fun vs H Q _ => ∃ (n m : Int) (a : Addr) (marks : List Int), vs = [.int n, .int m, .ref a] ∧ SqL K H a (marks.map V.int) ∧ marks.length ≤ 1000 ∧ (marks.length : Int) = n + m ∧
  ∀ v H', Same H H' → (∀ t, v = .ref t → H t = none) → DGv H' v n m (blocksOf marks) → Q v H'
theorem ok_law_from {f a_law_seen : Addr} {fd fd_law_seen : FuncData} (F : Fun K "_law_from" "_law_from" s_law_from f fd) (z_tuple : mg "tuple" = none) (z_range : mg "range" = none)
    (G_law_seen : FnOk P w K mg base CX0 1 a_law_seen fd_law_seen ["marks"] (spSeen K)) (g_law_seen : mg "_law_seen" = some (.ref a_law_seen)) (k_law_seen : PySem.W.keepIn K (.ref a_law_seen) = true) (b_law_seen : Binds K fd_law_seen ["marks"] []) : FnOk P w K mg base CX0 2 f fd ["n", "m", "marks"] (spFrom K) := by
  refine F.ok sc_law_from (fun vs H Q E h => ?_) (fun cdv A outer s H vs Q E hr h => ?_)
  · obtain ⟨n, m, a, marks, rfl, _⟩ := h
    rfl
  · obtain ⟨n, m, a, marks, rfl, ha, hl, hN, q⟩ := h
    refine ⟨_, (pss_cons (ps_set (i := 3) sc_law_from.nd rfl (.inl rfl) (pe_lst pa_nil))
  (pss_cons (ps_for PassesOwn.never rfl (pi_list (pe_call G_law_seen (hr.mono (by decide)) rfl g_law_seen k_law_seen b_law_seen .nil pass0 (pa_cons (pv 2) pa_nil))) (pg_name (i := 4) sc_law_from.nd rfl (.inr rfl)) (pss_one (ps_expr (pe_bm PySem.F.plainAttrs_list PySem.F.slot_list_append PySem.F.type_list_append mt_append (pv 3) (pa_cons (pe_callTy call_tuple_of (by rfl) z_tuple boot_tuple (pa_cons (pe_lc (own := [("at", 5)]) rfl sc_law_from.nd (pi_range1 rfl z_range (pa_cons (pe_op op_add (pv 0) (pv 1)) pa_nil)) (blkOk_by (N := ["n", "m", "marks", "blocks", "mark", "at"]) (sc := defScope s_law_from) (by first | decide +kernel | rfl)) (fun _ _ _ _ _ => (pg_name (i := 5) sc_law_from.nd rfl (.inl rfl))) (fun _ _ _ _ _ => pts_one (pt_cmpR op_eq (pe_ix (ix_listK (K := K) rfl) (pv 2) (pv 5) (fun _ _ => rfl)) (pv 4) (nomark _))) (fun _ _ _ _ _ => (pv 5))) pa_nil)) pa_nil)))))
  (pss_one (ps_ret (pe_tup (pa_cons (pv 0) (pa_cons (pv 1) (pa_cons (pe_callTy call_tuple_of (by rfl) z_tuple boot_tuple (pa_cons (pv 3) pa_nil)) pa_nil)))))))), ?_⟩
    have szl : 20000 ≤ sizeLine := by decide
    refine ⟨(by show 0 ≤ sizeLine; decide), fun D nD => ?_⟩
    have s1 := same_upd (o := .lst []) nD
    refine ⟨_, rfl, a, marks, rfl, sqL_same s1 ha, hl, fun S H2 s2 nS hS => ?_⟩
    have hDS : S ≠ D := fun z => by
      rw [z, upd_same] at nS
      exact nomatch nS
    have nS0 : H S = none := none_back s1 nS
    have sl := seenL_len marks []
    have sl2 : (seenL [] marks).length ≤ 1000 := by
      have : ([] : List Int).length = 0 := rfl
      omega
    refine ⟨S, rfl, ⟨_, .inl (.inl hS)⟩, for_list (K := K) (xs := (seenL [] marks).map V.int) (fun i σ H' => ∃ (v4 v5 : Option V) (ts : List V), σ = [some (.int n), some (.int m), some (.ref a), some (.ref D), v4, v5] ∧ Same H H' ∧ H' S = some (.lst ((seenL [] marks).map V.int)) ∧ H' D = some (.lst ts) ∧ Paired (TP H') ts (((seenL [] marks).take i).map (posOf marks)))
      ⟨none, none, [], rfl, Same.trans s1 s2, hS, s2 _ _ upd_same, .nil⟩ (fun i σ H' _ ⟨_, _, _, _, _, h, _⟩ => .inl (.inl h)) (fun i y σ H3 hy hP => ?_) (fun σ H3 hP => ?_)⟩
    · obtain ⟨v4, v5, ts, rfl, s3, hS3, hD3, pr⟩ := hP
      obtain ⟨v, hv, rfl⟩ := map_int_get hy
      have hi := (List.getElem?_eq_some_iff.mp hv).1
      have ha3 := sqL_same s3 ha
      refine ⟨_, rfl, .inl ⟨rfl, _, .inl (.inl hD3)⟩, ?_⟩
      -- the tuple of the places
      refine ⟨_, rfl, _, rfl, _, _, rfl, rfl, n + m, rfl, by omega, by omega, fun D2 nD2 => ?_⟩
      have nD2' : H D2 = none := none_back s3 nD2
      have hk : ∀ {H' : Hp}, SameBut D2 H3 H' → Same H3 H' := fun sb b o e => sb _ _ (ne_of_none e nD2) e
      rw [show (n + m).toNat = marks.length by omega]
      refine lc_range (lo := 0) (n := marks.length) (fun j H' => SameBut D2 H3 H' ∧ H' D2 = some (.lst ((((List.range j).filter fun i => decide (co marks i = v)).map fun (i : Nat) => (i : Int)).map V.int))) ⟨SameBut.upd, upd_same⟩ (fun j H' hj hP => ?_) (fun H4 hP => ?_)
      · obtain ⟨sb, hD⟩ := hP
        refine ⟨rfl, ?_⟩
        have ej : (0 : Int) + (j : Int) = (j : Int) := Int.zero_add _
        refine ⟨_, rfl, _, rfl, a, _, _, _, rfl, rfl, sqL_same (hk sb) ha3, (by rw [ej]; exact at_co hj), _, rfl, rfl, _, rfl, ?_⟩
        rw [posF_co hj]
        by_cases c : co marks j = v
        · rw [decide_eq_true (congrArg V.int c), if_pos c]
          refine iteT ⟨_, rfl, _, hD, ?_, sb.trans SameBut.upd, ?_⟩
          · rw [List.length_map, List.length_map]
            have := List.length_filter_le (fun i => decide (co marks i = v)) (List.range j)
            rw [List.length_range] at this
            omega
          · rw [upd_same, List.map_append, List.map_append, ej]
            rfl
        · rw [decide_eq_false (fun z => c (V.int.inj z)), if_neg c, List.append_nil]
          exact iteF ⟨sb, hD⟩
      obtain ⟨sb, hD⟩ := hP
      have s4 := hk sb
      refine ⟨D2, _, rfl, .inl ⟨.inl (.inl hD), fun t nt => ?_⟩⟩
      have q5 := same_upd (o := .tup ((posOf marks v).map V.int)) nt
      have hD5 := q5 _ _ (s4 _ _ hD3)
      have lts : ts.length ≤ 1000 := by
        have := pr.length
        rw [List.length_map, List.length_take] at this
        omega
      refine ⟨D, _, _, rfl, rfl, hD5, by omega, ?_⟩
      have keepT : ∀ {x : V} {z : List Int} {ys : List V}, TP (upd H4 t (.tup ((posOf marks v).map V.int))) x z → TP (upd (upd H4 t (.tup ((posOf marks v).map V.int))) D (.lst ys)) x z := fun {x z ys} ⟨t, e, h⟩ => ⟨t, e, by rw [upd_ne (ne_of h hD5 (fun z => nomatch z))]; exact h⟩
      refine ⟨_, _, ts ++ [.ref t], rfl, Same.mut (Same.trans s3 (Same.trans s4 q5)) nD, by rw [upd_ne hDS]; exact q5 _ _ (s4 _ _ hS3), upd_same, ?_⟩
      rw [List.take_succ, hv, List.map_append]
      exact paired_snoc (keepT ⟨t, rfl, upd_same⟩) (Paired.mapP pr fun _ _ h => keepT ((h.same s4).same q5))
    · obtain ⟨v4, v5, ts, rfl, s3, hS3, hD3, pr⟩ := hP
      rw [List.length_map, List.take_length] at pr
      refine ⟨_, rfl, _, rfl, _, rfl, D, _, rfl, .inl ⟨.inl (.inl hD3), fun tb ntb => ?_⟩⟩
      refine ⟨(by show 3 ≤ sizeLine; decide), fun t nt => ?_⟩
      have q3 := same_upd (o := .tup ts) ntb
      have q4 := same_upd (o := .tup [.int n, .int m, .ref tb]) nt
      have sf := Same.trans q3 q4
      exact q (.ref t) _ (Same.trans s3 sf) (fun t' e => by cases e; exact none_back (Same.trans s3 q3) nt) ⟨t, .ref tb, rfl, upd_same, tb, _, rfl, q4 _ _ upd_same, Paired.mapP pr fun _ _ h => h.same sf⟩
end

section
variable {P : Program} {w : World} {K : PySem.W.Frag} {mg : Str → Option Value} {base : Heap}
/-! ### _law_pick, _law_family, _law_other_side -/
theorem seqIx_nat {n k : Nat} (h : k < n) : seqIndex? (k : Int) n = some k := by
  have e0 : ¬ ((k : Int) < 0) := by omega
  simp only [seqIndex?, if_neg e0]
  rw [if_pos (by simp; omega)]
  rfl
theorem mem_erase {l : List Int} {i : Nat} {y : Int} (h : y ∈ l.eraseIdx i) : y ∈ l := List.mem_of_mem_eraseIdx h
theorem erase_map : ∀ (l : List Int) (k : Nat), (l.map V.int).eraseIdx k = (l.eraseIdx k).map V.int
  | [], _ => rfl
  | _ :: _, 0 => rfl
  | a :: l, k + 1 => congrArg (V.int a :: ·) (erase_map l k)
def spPick : Sp := fun vs H Q _ => ∃ (r b : Addr) (ds ls : List Int), vs = [.ref r, .ref b] ∧ r ≠ b ∧ H r = some (.lst (ds.map V.int)) ∧ H b = some (.lst (ls.map V.int)) ∧ ls ≠ [] ∧ ls.length ≤ 1000 ∧
  ∀ (ds' : List Int) (k : Nat), k < ls.length → Q (.int (co ls k)) (upd (upd H r (.lst (ds'.map V.int))) b (.lst ((ls.eraseIdx k).map V.int)))
theorem ok_law_pick {f a_law_next : Addr} {fd fd_law_next : FuncData} (F : Fun K "_law_pick" "_law_pick" s_law_pick f fd) (z_int : mg "int" = none) (z_len : mg "len" = none)
    (G_law_next : FnOk P w K mg base CX0 1 a_law_next fd_law_next ["draws"] spNext) (g_law_next : mg "_law_next" = some (.ref a_law_next)) (k_law_next : PySem.W.keepIn K (.ref a_law_next) = true) (b_law_next : Binds K fd_law_next ["draws"] []) : FnOk P w K mg base CX0 2 f fd ["draws", "left"] spPick := by
  refine F.ok sc_law_pick (fun vs H Q E h => ?_) (fun cdv A outer s H vs Q E hr h => ?_)
  · obtain ⟨r, b, ds, ls, rfl, _⟩ := h
    rfl
  · obtain ⟨r, b, ds, ls, rfl, nrb, hL, hB, hne, hl, q⟩ := h
    refine ⟨_, (pss_one (ps_ret (pe_bm PySem.F.plainAttrs_list PySem.F.slot_list_pop PySem.F.type_list_pop mt_popAt (pv 1) (pa_cons (pe_op op_mod (pe_callTy call_int1 (by rfl) z_int boot_int (pa_cons (pe_call G_law_next (hr.mono (by decide)) rfl g_law_next k_law_next b_law_next .nil pass0 (pa_cons (pv 0) pa_nil)) pa_nil)) (pe_callB call_len_seq (by rfl) z_len boot_len (pa_cons (pv 1) pa_nil))) pa_nil)))), ?_⟩
    have pos : 0 < ls.length := List.length_pos_iff.mpr hne
    refine ⟨_, rfl, .inl ⟨rfl, _, .inl (.inl hB)⟩, _, rfl, r, ds, rfl, hL, fun n0 ds0 => .inl ⟨n0, rfl, ?_⟩⟩
    have hB1 : upd H r (.lst (ds0.map V.int)) b = some (.lst (ls.map V.int)) := by rw [upd_ne (Ne.symm nrb)]; exact hB
    refine ⟨_, rfl, b, _, rfl, .inl (.inl (.inl hB1)), ?_⟩
    rw [List.length_map]
    refine ⟨n0, _, rfl, rfl, by omega, ?_⟩
    have m := mod_lt8 n0 (show (0 : Int) < (ls.length : Int) by omega)
    dsimp only
    obtain ⟨k, hk, ek⟩ : ∃ k : Nat, k < ls.length ∧ n0 % (ls.length : Int) = (k : Int) := ⟨(n0 % (ls.length : Int)).toNat, by omega, by omega⟩
    rw [ek]
    refine ⟨b, _, _, k, .int (co ls k), rfl, rfl, hB1, by omega, by omega, ?_, by rw [List.getElem?_map, co_get hk]; rfl, ?_⟩
    · rw [List.length_map]
      exact seqIx_nat hk
    · have e : (ls.map V.int).eraseIdx k = (ls.eraseIdx k).map V.int := erase_map ls k
      rw [e]
      exact q _ k hk
def fams : List Str := ["threads", "loose", "pairs", "lonepairs", "even", "parts"]
end

/-! ### marks as they are drawn -/
def Strand (n : Nat) (l : List Int) : Prop := ∀ p q : Nat, p < q → q < l.length → co l p = co l q → p < n ∧ n ≤ q
def Mated (l : List Int) : Prop := ∀ p : Nat, p < l.length → ∃ q, q < l.length ∧ q ≠ p ∧ co l q = co l p
structure FamM (z : Str) (n m : Nat) (l : List Int) : Prop where
  st : z = "threads" ∨ z = "loose" → Strand n l
  ma : z = "threads" → n = m → Mated l
  pa : z = "pairs" → (n + m) % 2 = 0 → ∀ v ∈ l, l.count v = 2
  lo : z = "lonepairs" → ∀ v, l.count v ≤ 2
  ev : z = "even" → (n + m) % 2 = 0 → ∀ v, l.count v % 2 = 0
theorem mem_ixs {N : Nat} {x : Int} : x ∈ ixs N ↔ 0 ≤ x ∧ x < (N : Int) := by
  unfold ixs
  rw [List.mem_map]
  constructor
  · rintro ⟨i, hi, rfl⟩
    have := List.mem_range.mp hi
    omega
  · rintro ⟨h0, h1⟩
    exact ⟨x.toNat, List.mem_range.mpr (by omega), by omega⟩
theorem ixs_len' (N : Nat) : (ixs N).length = N := by
  unfold ixs
  rw [List.length_map, List.length_range]
theorem co_ixs {N i : Nat} (h : i < N) : co (ixs N) i = (i : Int) := by
  have e := co_get (l := ixs N) (k := i) (by rw [ixs_len']; exact h)
  unfold ixs at e ⊢
  rw [List.getElem?_map, List.getElem?_range h] at e
  exact (Option.some.inj e).symm
theorem ixs_nodup (N : Nat) : (ixs N).Nodup := by
  unfold ixs
  exact List.pairwise_map.mpr ((range_lt N).imp fun {a b} h => by omega)
theorem co_app_l {a b : List Int} {i : Nat} (h : i < a.length) : co (a ++ b) i = co a i := by
  have e := co_get (l := a ++ b) (k := i) (by rw [List.length_append]; omega)
  rw [List.getElem?_append_left h, co_get h] at e
  exact (Option.some.inj e).symm
theorem co_app_r {a b : List Int} {i : Nat} (h : i < b.length) : co (a ++ b) (a.length + i) = co b i := by
  have e := co_get (l := a ++ b) (k := a.length + i) (by rw [List.length_append]; omega)
  rw [List.getElem?_append_right (by omega), show a.length + i - a.length = i by omega, co_get h] at e
  exact (Option.some.inj e).symm
theorem nodup_erase {l : List Int} (h : l.Nodup) {k : Nat} (hk : k < l.length) {y : Int} (hy : y ∈ l.eraseIdx k) : y ∈ l ∧ y ≠ co l k := by
  refine ⟨List.mem_of_mem_eraseIdx hy, fun e => ?_⟩
  obtain ⟨j, hj⟩ := List.mem_eraseIdx_iff_getElem?.mp hy
  have e2 := co_get hk
  rw [← e] at e2
  have lj := (List.getElem?_eq_some_iff.mp hj.2)
  obtain ⟨lj1, lj2⟩ := lj
  obtain ⟨lk1, lk2⟩ := List.getElem?_eq_some_iff.mp e2
  exact hj.1 ((List.getElem_inj h).mp (lj2.trans lk2.symm))
theorem mem_erase_ne {l : List Int} {k : Nat} (hk : k < l.length) {y : Int} (hy : y ∈ l) (ne : y ≠ co l k) : y ∈ l.eraseIdx k := by
  obtain ⟨j, hj, e⟩ := mem_get hy
  refine List.mem_eraseIdx_iff_getElem?.mpr ⟨j, fun c => ne ?_, ?_⟩
  · rw [← e, c]
  · rw [co_get hj, e]
/-- while marks are threaded -/
structure ThrI (n m i : Nat) (l ls : List Int) : Prop where
  len : l.length = n + m
  up : ∀ p : Nat, p < n → co l p = p
  low : ∀ j : Nat, j < m → co l (n + j) = -1 - (j : Int) ∨ (0 ≤ co l (n + j) ∧ co l (n + j) < i)
  dis : ∀ j j' : Nat, j < j' → j' < m → co l (n + j) ≠ co l (n + j')
  nd : ls.Nodup
  free : ∀ x ∈ ls, ∃ j : Nat, x = j ∧ j < m ∧ co l (n + j) = -1 - (j : Int)
  rest : ∀ j : Nat, j < m → (j : Int) ∉ ls → 0 ≤ co l (n + j)
  cap : ls.length ≤ m
structure ThrT (n m i : Nat) (l ls : List Int) : Prop where
  many : ls.length = m - i
  hit : ∀ a : Nat, a < i → ∃ j, j < m ∧ co l (n + j) = a
theorem ThrI.skip {n m i : Nat} {l ls : List Int} (h : ThrI n m i l ls) : ThrI n m (i + 1) l ls :=
  ⟨h.len, h.up, fun j hj => (h.low j hj).imp_right fun z => ⟨z.1, by omega⟩, h.dis, h.nd, h.free, h.rest, h.cap⟩
theorem thr_at {n m i : Nat} {l ls : List Int} (h : ThrI n m i l ls) {k : Nat} (hk : k < ls.length) : ∃ j : Nat, co ls k = j ∧ j < m ∧ co l (n + j) = -1 - (j : Int) := h.free _ (co_mem hk)
theorem ThrI.step {n m i : Nat} {l ls : List Int} (h : ThrI n m i l ls) {k j : Nat} (hk : k < ls.length) (hj : j < m) (ej : co ls k = j) : ThrI n m (i + 1) (l.set (n + j) (i : Int)) (ls.eraseIdx k) := by
  have hl := h.len
  have c : ∀ p : Nat, co (l.set (n + j) (i : Int)) p = if p = n + j then (i : Int) else co l p := fun p => co_set p (by omega)
  refine ⟨by rw [List.length_set]; exact hl, fun p hp => ?_, fun j' hj' => ?_, fun j1 j2 h1 h2 => ?_, h.nd.sublist (List.eraseIdx_sublist _ _), fun x hx => ?_, fun j' hj' hn => ?_, by rw [List.length_eraseIdx_of_lt hk]; have := h.cap; omega⟩
  · rw [c, if_neg (by omega)]
    exact h.up p hp
  · rw [c]
    by_cases e : j' = j
    · rw [if_pos (by omega)]
      exact .inr ⟨by omega, by omega⟩
    · rw [if_neg (by omega)]
      exact (h.low j' hj').imp_right fun z => ⟨z.1, by omega⟩
  · rw [c, c]
    have d := h.dis j1 j2 h1 h2
    have l1 := h.low j1 (by omega)
    have l2 := h.low j2 (by omega)
    by_cases e1 : j1 = j
    · rw [if_pos (by omega), if_neg (by omega)]
      omega
    · rw [if_neg (by omega)]
      by_cases e2 : j2 = j
      · rw [if_pos (by omega)]
        omega
      · rw [if_neg (by omega)]
        exact d
  · obtain ⟨hx1, hx2⟩ := nodup_erase h.nd hk hx
    obtain ⟨j', e1, e2, e3⟩ := h.free x hx1
    refine ⟨j', e1, e2, ?_⟩
    rw [c, if_neg (by omega)]
    exact e3
  · rw [c]
    by_cases e : j' = j
    · rw [if_pos (by omega)]
      omega
    · rw [if_neg (by omega)]
      exact h.rest j' hj' fun z => hn (mem_erase_ne hk z (by rw [ej]; omega))
theorem ThrT.step {n m i : Nat} {l ls : List Int} (h : ThrI n m i l ls) (t : ThrT n m i l ls) {k j : Nat} (hk : k < ls.length) (hj : j < m) (ej : co ls k = j) : ThrT n m (i + 1) (l.set (n + j) (i : Int)) (ls.eraseIdx k) := by
  have hl := h.len
  have c : ∀ p : Nat, co (l.set (n + j) (i : Int)) p = if p = n + j then (i : Int) else co l p := fun p => co_set p (by omega)
  refine ⟨by rw [List.length_eraseIdx_of_lt hk, t.many]; omega, fun a ha => ?_⟩
  by_cases e : a = i
  · exact ⟨j, hj, by rw [c, if_pos rfl, e]⟩
  · obtain ⟨j', h1, h2⟩ := t.hit a (by omega)
    refine ⟨j', h1, ?_⟩
    rw [c, if_neg]
    · exact h2
    · intro z
      obtain ⟨j3, e3, _, e4⟩ := thr_at h hk
      rw [z] at h2
      rw [ej] at e3
      have : j3 = j := by omega
      rw [this] at e4
      omega
theorem ThrI.strand {n m i : Nat} {l ls : List Int} (h : ThrI n m i l ls) : Strand n l := by
  intro p q hpq hq e
  have hl := h.len
  rcases Nat.lt_or_ge q n with c | c
  · rw [h.up p (by omega), h.up q c] at e
    omega
  · refine ⟨?_, c⟩
    rcases Nat.lt_or_ge p n with c2 | c2
    · exact c2
    · refine absurd ?_ (h.dis (p - n) (q - n) (by omega) (by omega))
      rw [show n + (p - n) = p by omega, show n + (q - n) = q by omega]
      exact e
theorem ThrI.mated {n : Nat} {l ls : List Int} (h : ThrI n n n l ls) (t : ThrT n n n l ls) : Mated l := by
  intro p hp
  have hl := h.len
  have e0 : ls = [] := List.length_eq_zero_iff.mp (by rw [t.many]; omega)
  rcases Nat.lt_or_ge p n with c | c
  · obtain ⟨j, hj, e⟩ := t.hit p c
    exact ⟨n + j, by omega, by omega, by rw [e, h.up p c]⟩
  · have r := h.rest (p - n) (by omega) (by rw [e0]; exact fun z => nomatch z)
    have lo := h.low (p - n) (by omega)
    rw [show n + (p - n) = p by omega] at r lo
    refine ⟨(co l p).toNat, by omega, by omega, ?_⟩
    rw [h.up _ (by omega)]
    omega
/-- while marks are paired -/
structure PrI (lone : Bool) (N i : Nat) (l ls : List Int) : Prop where
  len : l.length = N
  nd : ls.Nodup
  free : ∀ x ∈ ls, ∃ p : Nat, x = p ∧ p < N ∧ co l p = x ∧ l.count x = 1
  rest : ∀ v, v ∉ ls → l.count v = 0 ∨ l.count v = 2 ∨ (lone = true ∧ l.count v = 1)
  many : lone = false → ls.length + 2 * i = N
  cap : ls.length ≤ N
theorem count_ixs {N : Nat} {x : Int} (h : x ∈ ixs N) : (ixs N).count x = 1 := (ixs_nodup N).count.trans (if_pos h)
theorem PrI.start (lone : Bool) (N : Nat) : PrI lone N 0 (ixs N) (ixs N) :=
  ⟨ixs_len' N, ixs_nodup N, fun x hx => ⟨x.toNat, by have := mem_ixs.mp hx; omega, by have := mem_ixs.mp hx; omega, by have := mem_ixs.mp hx; rw [co_ixs (by omega)]; omega, count_ixs hx⟩, fun v hv => .inl (List.count_eq_zero.mpr hv), fun _ => ixs_len' N, Nat.le_of_eq (ixs_len' N)⟩
theorem PrI.step {lone : Bool} {N i : Nat} {l ls : List Int} {one : Int} (h : PrI lone N i l (one :: ls)) {k p : Nat} (hk : k < ls.length) (hp : p < N) (ep : co ls k = p) : PrI lone N (i + 1) (l.set p one) (ls.eraseIdx k) := by
  obtain ⟨n1, n2⟩ := List.nodup_cons.mp h.nd
  have mx := co_mem hk
  obtain ⟨p', e1, e2, e3, e4⟩ := h.free (co ls k) (List.mem_cons_of_mem _ mx)
  obtain rfl : p' = p := by omega
  have hl := h.len
  have nx : one ≠ co ls k := fun z => n1 (z ▸ mx)
  obtain ⟨po, o1, o2, o3, o4⟩ := h.free one List.mem_cons_self
  have g : l[p']'(by omega) = co ls k := by
    have := co_get (l := l) (k := p') (by omega)
    rw [List.getElem?_eq_getElem (by omega)] at this
    rw [Option.some.inj this, e3]
  have cs : ∀ b, (l.set p' one).count b = l.count b - (if co ls k = b then 1 else 0) + (if one = b then 1 else 0) := by
    intro b
    rw [List.count_set (by omega), g]
    simp only [beq_iff_eq]
  refine ⟨by rw [List.length_set]; exact hl, n2.sublist (List.eraseIdx_sublist _ _), fun y hy => ?_, fun v hv => ?_, fun e => ?_, by have := h.cap; rw [List.length_cons] at this; rw [List.length_eraseIdx_of_lt hk]; omega⟩
  · obtain ⟨h1, h2⟩ := nodup_erase n2 hk hy
    obtain ⟨q, f1, f2, f3, f4⟩ := h.free y (List.mem_cons_of_mem _ h1)
    refine ⟨q, f1, f2, ?_, ?_⟩
    · rw [co_set q (by omega), if_neg (by omega)]
      exact f3
    · rw [cs, if_neg (Ne.symm h2), if_neg (show ¬ one = y from fun z => n1 (z ▸ h1))]
      exact f4
  · rw [cs]
    by_cases c1 : one = v
    · rw [if_pos c1, if_neg fun z => nx (c1.trans z.symm), ← c1, o4]
      exact .inr (.inl rfl)
    · rw [if_neg c1]
      by_cases c2 : co ls k = v
      · rw [if_pos c2, ← c2, e4]
        exact .inl rfl
      · rw [if_neg c2]
        exact h.rest v fun z => by
          rcases List.mem_cons.mp z with z | z
          · exact c1 z.symm
          · exact hv (mem_erase_ne hk z (Ne.symm c2))
  · have := h.many e
    rw [List.length_cons] at this
    rw [List.length_eraseIdx_of_lt hk]
    omega
theorem PrI.skip {N i : Nat} {l ls : List Int} {one : Int} (h : PrI true N i l (one :: ls)) : PrI true N (i + 1) l ls := by
  obtain ⟨n1, n2⟩ := List.nodup_cons.mp h.nd
  refine ⟨h.len, n2, fun y hy => h.free y (List.mem_cons_of_mem _ hy), fun v hv => ?_, (fun e => nomatch e), by have := h.cap; rw [List.length_cons] at this; omega⟩
  by_cases c : v = one
  · obtain ⟨_, _, _, _, e⟩ := h.free one List.mem_cons_self
    exact .inr (.inr ⟨rfl, c ▸ e⟩)
  · exact h.rest v fun z => (List.mem_cons.mp z).elim c hv
theorem PrI.two {N i : Nat} {l ls : List Int} (h : PrI false N i l ls) (e : ls.length < 2 ∨ i = N) (hN : N % 2 = 0) (v : Int) : l.count v = 0 ∨ l.count v = 2 := by
  have m := h.many rfl
  have e0 : ls = [] := List.length_eq_zero_iff.mp (by omega)
  rcases h.rest v (by rw [e0]; exact fun z => nomatch z) with h | h | h
  · exact .inl h
  · exact .inr h
  · exact nomatch h.1
theorem PrI.most {lone : Bool} {N i : Nat} {l ls : List Int} (h : PrI lone N i l ls) (v : Int) : l.count v ≤ 2 := by
  by_cases c : v ∈ ls
  · obtain ⟨_, _, _, _, e⟩ := h.free v c
    omega
  · rcases h.rest v c with h | h | h <;> omega
/-- two marks joined -/
def jn (l : List Int) (x y : Nat) : List Int := l.map fun c => if c = (if co l y > co l x then co l y else co l x) then (if co l y < co l x then co l y else co l x) else c
theorem jn_len (l : List Int) (x y : Nat) : (jn l x y).length = l.length := List.length_map ..
theorem count_merge (lo hi v : Int) : ∀ l : List Int, (l.map fun c => if c = hi then lo else c).count v = if v = lo then l.count lo + (if hi = lo then 0 else l.count hi) else if v = hi then 0 else l.count v
  | [] => by simp
  | a :: l => by
    rw [List.map_cons, List.count_cons, count_merge lo hi v l, List.count_cons, List.count_cons, List.count_cons]
    simp only [beq_iff_eq]
    by_cases c1 : v = lo
    · subst c1
      rw [if_pos rfl, if_pos rfl]
      by_cases c2 : hi = v
      · subst c2
        rw [if_pos rfl, if_pos rfl]
        by_cases c3 : a = hi <;> simp [c3]
      · rw [if_neg c2, if_neg c2]
        by_cases c3 : a = hi
        · subst c3
          rw [if_pos rfl, if_pos rfl, if_neg c2]
          simp
          omega
        · rw [if_neg c3]
          by_cases c4 : a = v
          · simp [c4]
            rw [if_neg (fun z => c3 (c4.trans z))]
            omega
          · simp [c4, c3]
    · rw [if_neg c1, if_neg c1]
      by_cases c2 : v = hi
      · subst c2
        rw [if_pos rfl, if_pos rfl]
        by_cases c3 : a = v
        · rw [if_pos c3, if_neg (Ne.symm c1)]
        · rw [if_neg c3, if_neg c3]
      · rw [if_neg c2, if_neg c2]
        by_cases c3 : a = hi
        · rw [if_pos c3, if_neg (Ne.symm c1), if_neg]
          intro z
          exact c2 (z.symm.trans c3)
        · rw [if_neg c3]
theorem jn_even {l : List Int} {x y : Nat} (h : ∀ v, l.count v % 2 = 0) (v : Int) : (jn l x y).count v % 2 = 0 := by
  unfold jn
  rw [count_merge]
  have h1 := h (if co l y < co l x then co l y else co l x)
  have h2 := h (if co l y > co l x then co l y else co l x)
  have h3 := h v
  revert h1 h2
  generalize (if co l y < co l x then co l y else co l x) = lo
  generalize (if co l y > co l x then co l y else co l x) = hi
  intro h1 h2
  by_cases c1 : v = lo
  · rw [if_pos c1]
    by_cases c2 : hi = lo
    · rw [if_pos c2]
      omega
    · rw [if_neg c2]
      omega
  · rw [if_neg c1]
    by_cases c2 : v = hi
    · rw [if_pos c2]
    · rw [if_neg c2]
      exact h3

/-! ### tuples of tuples, put together and cut -/
theorem paired_drop {α β : Type} {F : α → β → Prop} : ∀ {l : List α} {m : List β} (i : Nat), Paired F l m → Paired F (l.drop i) (m.drop i)
  | _, _, 0, h => h
  | _, _, _ + 1, .nil => .nil
  | _, _, i + 1, .cons _ h => paired_drop i h
theorem paired_take {α β : Type} {F : α → β → Prop} : ∀ {l : List α} {m : List β} (i : Nat), Paired F l m → Paired F (l.take i) (m.take i)
  | _, _, 0, _ => .nil
  | _, _, _ + 1, .nil => .nil
  | _, _, i + 1, .cons a h => .cons a (paired_take i h)
theorem paired_app {α β : Type} {F : α → β → Prop} : ∀ {l l' : List α} {m m' : List β}, Paired F l m → Paired F l' m' → Paired F (l ++ l') (m ++ m')
  | _, _, _, _, .nil, h => h
  | _, _, _, _, .cons a h, h' => .cons a (paired_app h h')
theorem paired_rev {α β : Type} {F : α → β → Prop} : ∀ {l : List α} {m : List β}, Paired F l m → Paired F l.reverse m.reverse
  | _, _, .nil => .nil
  | _, _, .cons a h => by
    rw [List.reverse_cons, List.reverse_cons]
    exact paired_app (paired_rev h) (.cons a .nil)
def cutL {α : Type} (xs : List α) (lo hi : Option Int) : List α := (xs.drop (HT.sIx xs.length 0 lo)).take (HT.sIx xs.length xs.length hi - HT.sIx xs.length 0 lo)
theorem sIx_all (n : Nat) (h : HT.sIx n 0 none = 0 ∧ HT.sIx n n none = n) : True := trivial
def rCatTT : R2 := fun x y H Q => ∃ bs cs, TT H x bs ∧ TT H y cs ∧ bs.length + cs.length ≤ sizeLine ∧ ∀ v H', Same H H' → TT H' v (bs ++ cs) → Q v H'
theorem op_catTT {X : Cx} : OpR X (binaryOp .Add) rCatTT := by
  intro pins s σ H x y v u Q I rx ry h
  obtain ⟨bs, cs, ⟨a, ts, rfl, ha, pa⟩, ⟨b, us, rfl, hb, pb⟩, hz, q⟩ := h
  have la : ts.length = bs.length := pa.length
  have lb : us.length = cs.length := pb.length
  refine op_catA pins s σ H _ _ v u Q I rx ry ⟨a, b, ts, us, rfl, rfl, .inl (.inl ha), .inl (.inl hb), by omega, fun e => ?_, fun _ e => ?_, fun _ _ p np => ?_⟩
  · refine q _ H (Same.refl _) ⟨b, us, rfl, hb, ?_⟩
    subst e
    cases pa
    exact pb
  · refine q _ H (Same.refl _) ⟨a, ts, rfl, ha, ?_⟩
    subst e
    cases pb
    rw [List.append_nil]
    exact pa
  · have s1 := same_upd (o := .tup (ts ++ us)) np
    exact q _ _ s1 ⟨p, _, rfl, upd_same, paired_app (Paired.mapP pa fun _ _ h => h.same s1) (Paired.mapP pb fun _ _ h => h.same s1)⟩
def rSlTT : V → Option Int → Option Int → Hp → VK → Prop := fun x lo hi H Q => ∃ bs, TT H x bs ∧ ∀ v H', Same H H' → TT H' v (cutL bs lo hi) → Q v H'
theorem sl_TT {X : Cx} : SlR X rSlTT := by
  intro pins s σ H x v vl vu lo hi sl Q I rx hs pl pu h
  obtain ⟨bs, ⟨a, ts, rfl, ha, pa⟩, q⟩ := h
  have la : ts.length = bs.length := pa.length
  refine sl_tupA pins s σ H _ v vl vu lo hi sl Q I rx hs pl pu ⟨a, ts, rfl, .inl (.inl ha), fun e => ?_, fun _ p np => ?_⟩
  · refine q _ H (Same.refl _) ⟨a, ts, rfl, ha, ?_⟩
    unfold cutL
    rw [← la, e.1, e.2, la]
    show Paired (TP H) ts ((bs.drop 0).take (bs.length - 0))
    rw [List.drop_zero, Nat.sub_zero, List.take_length]
    exact pa
  · have s1 := same_upd (o := .tup (cutV ts lo hi)) np
    refine q _ _ s1 ⟨p, _, rfl, upd_same, ?_⟩
    unfold cutL cutV
    rw [← la]
    exact paired_take _ (paired_drop _ (Paired.mapP pa fun _ _ h => h.same s1))
theorem flat_le {c : Nat} : ∀ {bs : List (List Int)}, (∀ b ∈ bs, b.length ≤ c) → bs.flatten.length ≤ c * bs.length
  | [], _ => Nat.zero_le _
  | b :: bs, h => by
    rw [List.flatten_cons, List.length_append, List.length_cons, Nat.mul_succ]
    have := flat_le (bs := bs) fun b hb => h b (List.mem_cons_of_mem _ hb)
    have := h b List.mem_cons_self
    omega
theorem len_flat : ∀ {bs : List (List Int)}, (∀ b ∈ bs, b ≠ []) → bs.length ≤ bs.flatten.length
  | [], _ => Nat.le_refl _
  | b :: bs, h => by
    rw [List.flatten_cons, List.length_append, List.length_cons]
    have := len_flat (bs := bs) fun b hb => h b (List.mem_cons_of_mem _ hb)
    have := List.length_pos_iff.mpr (h b List.mem_cons_self)
    omega
/-- few blocks, each of few points -/
def Few (c : Nat) (bs : List (List Int)) : Prop := bs.length ≤ c ∧ ∀ b ∈ bs, b.length ≤ 13
theorem Few.ok {n m : Int} {bs : List (List Int)} (h : Few 40 bs) (hn : n.natAbs ≤ 1000) (hm : m.natAbs ≤ 1000) : DgOk n m bs := by
  have := flat_le h.2
  exact ⟨hn, hm, by have := h.1; omega, by have := h.1; omega⟩
theorem Few.cut {c : Nat} {bs : List (List Int)} (h : Few c bs) (i j : Nat) : Few c ((bs.drop i).take j) :=
  ⟨by have := h.1; rw [List.length_take, List.length_drop]; omega, fun b hb => h.2 b (List.mem_of_mem_drop (List.mem_of_mem_take hb))⟩
theorem Few.app {c d : Nat} {bs cs : List (List Int)} (h : Few c bs) (g : Few d cs) : Few (c + d) (bs ++ cs) :=
  ⟨by have := h.1; have := g.1; rw [List.length_append]; omega, fun b hb => (List.mem_append.mp hb).elim (h.2 b) (g.2 b)⟩
theorem Few.more {c d : Nat} {bs : List (List Int)} (h : Few c bs) (hd : c ≤ d) : Few d bs := ⟨Nat.le_trans h.1 hd, h.2⟩
theorem IsDg.few {n m : Int} {bs : List (List Int)} (h : IsDg n m bs) : Few 12 bs := by
  have hs := siz_iff.mp h.sz
  have e := h.pm.length_eq
  rw [ixs_len] at e
  have l1 := len_flat h.ne
  refine ⟨by omega, fun b hb => ?_⟩
  have := mem_len hb
  omega

/-! ### families -/
def strandB (n : Int) (b : List Int) : Bool := decide (b.length = 2) && decide (co b 0 < n ∧ n ≤ co b 1)
def sizeOk (z : Str) (k : Nat) : Bool := if z = "pairs" then decide (k = 2) else if z = "lonepairs" then decide (k ≤ 2) else if z = "even" then decide (k % 2 = 0) else true
def blockOk (z : Str) (n : Int) (b : List Int) : Bool := if z = "threads" then strandB n b else if z = "loose" then decide (b.length = 1) || strandB n b else sizeOk z b.length
def inFam (z : Str) (n : Int) (bs : List (List Int)) : Bool := bs.all (blockOk z n)
theorem inV_str (z : Str) : ∀ l : List Str, inV (.str z) (l.map V.str) = decide (z ∈ l)
  | [] => rfl
  | x :: l => by
    show (eqV (.str x) (.str z) || inV (.str z) (l.map V.str)) = _
    rw [inV_str z l]
    have e : eqV (.str x) (.str z) = decide (x = z) := by
      by_cases c : x = z <;> simp [eqV, c]
    rw [e]
    by_cases c : x = z
    · rw [decide_eq_true c, decide_eq_true (List.mem_cons.mpr (.inl c.symm))]
      rfl
    · rw [decide_eq_false c, Bool.false_or]
      refine decide_eq_decide.mpr ⟨fun z => List.mem_cons_of_mem _ z, fun z => (List.mem_cons.mp z).resolve_left fun z => c z.symm⟩
theorem dec_int {k : Nat} {c : Nat} : decide (V.int (k : Int) = V.int (c : Int)) = decide (k = c) := decide_eq_decide.mpr ⟨fun h => by have := V.int.inj h; omega, fun h => by rw [h]⟩
section
variable {P : Program} {w : World} {K : PySem.W.Frag} {mg : Str → Option Value} {base : Heap}
def spCheckFamily (CF : Addr) : Sp := fun vs H Q E => ∃ z : Str, vs = [.str z] ∧ (z ∈ fams → Q .non H) ∧ (z ∉ fams → E (.ref CF) none H)
theorem ok_check_family {f CF aF : Addr} {fd : FuncData} (F : Fun K "check_family" "check_family" s_check_family f fd) (T : ErrC K mg "NotFamily" CF) (m_FAMILIES : mg "FAMILIES" = some (.ref aF)) (tF : ∀ H, SqT K H aF (fams.map V.str)) :
    FnOk P w K mg base (L2N.CX P w) 1 f fd ["family"] (spCheckFamily CF) := by
  obtain ⟨gc_NotFamily, x_NotFamily, kc_NotFamily, bc_NotFamily, tc_NotFamily⟩ := T
  have r_FAMILIES : RelV (.ref aF) (.ref aF) := rfl
  refine F.okXN sc_check_family (fun vs H Q E h => ?_) (fun cdv A outer s H vs Q E hr h => ?_)
  · obtain ⟨z, rfl, _⟩ := h
    rfl
  · obtain ⟨z, rfl, q1, q2⟩ := h
    refine ⟨_, (pss_one (ps_if (pt_cmpR op_notIn_seq (pv 0) (pe_glob rfl m_FAMILIES r_FAMILIES) (by with_unfolding_all rfl)) (pss_one (L2N.ps_raise rfl (L2N.takes_of rfl rfl rfl rfl) (L2N.pmk_own PySem.F.excBase_ValueError x_NotFamily gc_NotFamily kc_NotFamily (raises_own bc_NotFamily tc_NotFamily) rfl))) pss_nil)), ?_⟩
    refine ⟨_, rfl, aF, _, rfl, .inr (tF _), rfl, rfl, _, rfl, ?_⟩
    rw [show (if true = true then !inV (.str z) (fams.map V.str) else inV (.str z) (fams.map V.str)) = !inV (.str z) (fams.map V.str) from rfl, inV_str]
    by_cases c : z ∈ fams
    · rw [decide_eq_true c]
      exact iteF (q1 c)
    · rw [decide_eq_false c]
      exact iteT (q2 c)
def spIsStrand : Sp := fun vs H Q _ => ∃ (n : Int) (v : V) (b : List Int), vs = [.int n, v] ∧ TP H v b ∧ Q (.bl (strandB n b)) H
theorem ok_is_strand_ {f : Addr} {fd : FuncData} (F : Fun K "_is_strand" "_is_strand" s_is_strand_ f fd) (z_len : mg "len" = none) : FnOk P w K mg base CX0 1 f fd ["n", "block"] spIsStrand := by
  refine F.ok sc_is_strand_ (fun vs H Q E h => ?_) (fun cdv A outer s H vs Q E hr h => ?_)
  · obtain ⟨n, v, b, rfl, _⟩ := h
    rfl
  · obtain ⟨n, v, b, rfl, ⟨t, rfl, ht⟩, q⟩ := h
    refine ⟨_, (pss_one (ps_ret (pe_and (pe_cmpR op_eq (pe_callB call_len_seq (by rfl) z_len boot_len (pa_cons (pv 1) pa_nil)) pe_int (nomark _)) (pe_one (pe_chain op_lt op_le (pe_ix ix_tup (pv 1) pe_int (fun _ _ => rfl)) (pv 0) (pe_ix ix_tup (pv 1) pe_int (fun _ _ => rfl))))))), ?_⟩
    unfold strandB at q
    refine ⟨_, rfl, t, _, rfl, .inr (.inl (.inl ht)), rfl, _, rfl, ?_⟩
    rw [List.length_map, show (2 : Int) = ((2 : Nat) : Int) from rfl, dec_int]
    by_cases c : b.length = 2
    · rw [decide_eq_true c] at q ⊢
      rw [Bool.true_and] at q
      refine iteT ⟨_, rfl, t, _, 0, .int (co b 0), rfl, rfl, .inl (.inl ht), (at_co (k := 0) (by omega)), _, rfl, _, _, rfl, rfl, _, rfl, ?_⟩
      by_cases c1 : co b 0 < n
      · rw [decide_eq_true c1]
        refine iteT ⟨_, rfl, t, _, 1, .int (co b 1), rfl, rfl, .inl (.inl ht), (at_co (k := 1) (by omega)), _, _, rfl, rfl, ?_⟩
        dsimp only
        rw [show decide (n ≤ co b 1) = decide (co b 0 < n ∧ n ≤ co b 1) from decide_eq_decide.mpr ⟨fun h => ⟨c1, h⟩, fun h => h.2⟩]
        exact q
      · rw [decide_eq_false c1]
        refine iteF ?_
        rw [decide_eq_false fun h => c1 h.1] at q
        exact q
    · rw [decide_eq_false c] at q ⊢
      exact iteF q
def spIsBlockSize : Sp := fun vs H Q _ => ∃ (z : Str) (k : Nat), vs = [.str z, .int k] ∧ Q (.bl (sizeOk z k)) H
theorem ok_is_block_size_ {f : Addr} {fd : FuncData} (F : Fun K "_is_block_size" "_is_block_size" s_is_block_size_ f fd) : FnOk P w K mg base CX0 1 f fd ["family", "size"] spIsBlockSize := by
  refine F.ok sc_is_block_size_ (fun vs H Q E h => ?_) (fun cdv A outer s H vs Q E hr h => ?_)
  · obtain ⟨z, k, rfl, _⟩ := h
    rfl
  · obtain ⟨z, k, rfl, q⟩ := h
    refine ⟨_, (pss_cons (ps_if (pt_cmpR op_eq (pv 0) pe_str (nomark _)) (pss_one (ps_ret (pe_cmpR op_eq (pv 1) pe_int (nomark _)))) pss_nil)
  (pss_cons (ps_if (pt_cmpR op_eq (pv 0) pe_str (nomark _)) (pss_one (ps_ret (pe_cmpR op_le (pv 1) pe_int (nomark _)))) pss_nil)
  (pss_cons (ps_if (pt_cmpR op_eq (pv 0) pe_str (nomark _)) (pss_one (ps_ret (pe_cmpR op_eq (pe_op op_mod (pv 1) pe_int) pe_int (nomark _)))) pss_nil)
  (pss_one (ps_ret pe_bl))))), ?_⟩
    unfold sizeOk at q
    refine ⟨_, rfl, rfl, _, rfl, ite2 (fun e => ?_) (fun e => ?_)⟩
    · rw [if_pos (V.str.inj (of_decide_eq_true e))] at q
      refine ⟨_, rfl, rfl, ?_⟩
      rw [show (2 : Int) = ((2 : Nat) : Int) from rfl, dec_int]
      exact q
    rw [if_neg fun z => e (decide_eq_true (congrArg V.str z))] at q
    refine ⟨_, rfl, rfl, _, rfl, ite2 (fun e => ?_) (fun e => ?_)⟩
    · rw [if_pos (V.str.inj (of_decide_eq_true e))] at q
      refine ⟨_, rfl, _, _, rfl, rfl, ?_⟩
      dsimp only
      rw [show decide ((k : Int) ≤ 2) = decide (k ≤ 2) from decide_eq_decide.mpr ⟨fun h => by omega, fun h => by omega⟩]
      exact q
    rw [if_neg fun z => e (decide_eq_true (congrArg V.str z))] at q
    refine ⟨_, rfl, rfl, _, rfl, ite2 (fun e => ?_) (fun e => ?_)⟩
    · rw [if_pos (V.str.inj (of_decide_eq_true e))] at q
      refine ⟨_, rfl, _, _, rfl, rfl, (show (0 : Int) < 2 by decide), rfl, ?_⟩
      have h : decide (V.int ((k : Int) % 2) = V.int 0) = decide (k % 2 = 0) := decide_eq_decide.mpr ⟨fun h => by have := V.int.inj h; omega, fun h => congrArg V.int (by omega)⟩
      dsimp only
      rw [h]
      exact q
    rw [if_neg fun z => e (decide_eq_true (congrArg V.str z))] at q
    exact q
def spIsBlockOf : Sp := fun vs H Q _ => ∃ (z : Str) (n : Int) (v : V) (b : List Int), vs = [.str z, .int n, v] ∧ TP H v b ∧ Q (.bl (blockOk z n b)) H
theorem ok_is_block_of_ {f a_is_strand_ a_is_block_size_ : Addr} {fd fd_is_strand_ fd_is_block_size_ : FuncData} (F : Fun K "_is_block_of" "_is_block_of" s_is_block_of_ f fd) (z_len : mg "len" = none)
    (G_is_strand_ : FnOk P w K mg base CX0 1 a_is_strand_ fd_is_strand_ ["n", "block"] spIsStrand) (g_is_strand_ : mg "_is_strand" = some (.ref a_is_strand_)) (k_is_strand_ : PySem.W.keepIn K (.ref a_is_strand_) = true) (b_is_strand_ : Binds K fd_is_strand_ ["n", "block"] [])
    (G_is_block_size_ : FnOk P w K mg base CX0 1 a_is_block_size_ fd_is_block_size_ ["family", "size"] spIsBlockSize) (g_is_block_size_ : mg "_is_block_size" = some (.ref a_is_block_size_)) (k_is_block_size_ : PySem.W.keepIn K (.ref a_is_block_size_) = true) (b_is_block_size_ : Binds K fd_is_block_size_ ["family", "size"] []) :
    FnOk P w K mg base CX0 2 f fd ["family", "n", "block"] spIsBlockOf := by
  refine F.ok sc_is_block_of_ (fun vs H Q E h => ?_) (fun cdv A outer s H vs Q E hr h => ?_)
  · obtain ⟨z, n, v, b, rfl, _⟩ := h
    rfl
  · obtain ⟨z, n, v, b, rfl, ⟨t, rfl, ht⟩, q⟩ := h
    refine ⟨_, (pss_cons (ps_if (pt_cmpR op_eq (pv 0) pe_str (nomark _)) (pss_one (ps_ret (pe_call G_is_strand_ (hr.mono (by decide)) rfl g_is_strand_ k_is_strand_ b_is_strand_ .nil pass0 (pa_cons (pv 1) (pa_cons (pv 2) pa_nil))))) pss_nil)
  (pss_cons (ps_if (pt_cmpR op_eq (pv 0) pe_str (nomark _)) (pss_one (ps_ret (pe_or (pe_cmpR op_eq (pe_callB call_len_seq (by rfl) z_len boot_len (pa_cons (pv 2) pa_nil)) pe_int (nomark _)) (pe_one (pe_call G_is_strand_ (hr.mono (by decide)) rfl g_is_strand_ k_is_strand_ b_is_strand_ .nil pass0 (pa_cons (pv 1) (pa_cons (pv 2) pa_nil))))))) pss_nil)
  (pss_one (ps_ret (pe_call G_is_block_size_ (hr.mono (by decide)) rfl g_is_block_size_ k_is_block_size_ b_is_block_size_ .nil pass0 (pa_cons (pv 0) (pa_cons (pe_callB call_len_seq (by rfl) z_len boot_len (pa_cons (pv 2) pa_nil)) pa_nil))))))), ?_⟩
    unfold blockOk at q
    refine ⟨_, rfl, rfl, _, rfl, ite2 (fun e => ?_) (fun e => ?_)⟩
    · rw [if_pos (V.str.inj (of_decide_eq_true e))] at q
      exact ⟨_, rfl, _, rfl, n, .ref t, b, rfl, ⟨t, rfl, ht⟩, q⟩
    rw [if_neg fun z => e (decide_eq_true (congrArg V.str z))] at q
    refine ⟨_, rfl, rfl, _, rfl, ite2 (fun e => ?_) (fun e => ?_)⟩
    · rw [if_pos (V.str.inj (of_decide_eq_true e))] at q
      refine ⟨_, rfl, t, _, rfl, .inr (.inl (.inl ht)), rfl, _, rfl, ?_⟩
      rw [List.length_map, show (1 : Int) = ((1 : Nat) : Int) from rfl, dec_int]
      by_cases c : b.length = 1
      · rw [decide_eq_true c] at q ⊢
        exact iteT q
      · rw [decide_eq_false c] at q ⊢
        rw [Bool.false_or] at q
        exact iteF ⟨_, rfl, _, rfl, n, .ref t, b, rfl, ⟨t, rfl, ht⟩, q⟩
    rw [if_neg fun z => e (decide_eq_true (congrArg V.str z))] at q
    refine ⟨_, rfl, _, rfl, t, _, rfl, .inr (.inl (.inl ht)), z, b.length, by rw [List.length_map]; rfl, q⟩
def spIsIn (CF CD : Addr) : Sp := fun vs H Q E => ∃ (z : Str) (v : V) (n m : Int) (bs : List (List Int)), vs = [.str z, v] ∧ DGv H v n m bs ∧ DgOk n m bs ∧ (z ∉ fams → E (.ref CF) none H) ∧ (z ∈ fams → ¬ IsDg n m bs → ∀ H', Same H H' → E (.ref CD) none H') ∧
  (z ∈ fams → IsDg n m bs → ∀ H', Same H H' → Q (.bl (inFam z n bs)) H')
theorem ok_is_in {f CF CD a_check_family a_check_diagram a_is_block_of_ : Addr} {fd fd_check_family fd_check_diagram fd_is_block_of_ : FuncData} (F : Fun K "is_in" "is_in" s_is_in f fd) (z_all : mg "all" = none)
    (G_check_family : FnOk P w K mg base (L2N.CX P w) 1 a_check_family fd_check_family ["family"] (spCheckFamily CF)) (g_check_family : mg "check_family" = some (.ref a_check_family)) (k_check_family : PySem.W.keepIn K (.ref a_check_family) = true) (b_check_family : Binds K fd_check_family ["family"] [])
    (G_check_diagram : FnOk P w K mg base (L2N.CX P w) 3 a_check_diagram fd_check_diagram ["diagram"] (spCheckDiagram CD)) (g_check_diagram : mg "check_diagram" = some (.ref a_check_diagram)) (k_check_diagram : PySem.W.keepIn K (.ref a_check_diagram) = true) (b_check_diagram : Binds K fd_check_diagram ["diagram"] [])
    (G_is_block_of_ : FnOk P w K mg base CX0 2 a_is_block_of_ fd_is_block_of_ ["family", "n", "block"] spIsBlockOf) (g_is_block_of_ : mg "_is_block_of" = some (.ref a_is_block_of_)) (k_is_block_of_ : PySem.W.keepIn K (.ref a_is_block_of_) = true) (b_is_block_of_ : Binds K fd_is_block_of_ ["family", "n", "block"] []) :
    FnOk P w K mg base (L2N.CX P w) 4 f fd ["family", "diagram"] (spIsIn CF CD) := by
  refine F.okXN sc_is_in (fun vs H Q E h => ?_) (fun cdv A outer s H vs Q E hr h => ?_)
  · obtain ⟨z, v, n, m, bs, rfl, _⟩ := h
    rfl
  · obtain ⟨z, v, n, m, bs, rfl, hv, hb, q1, q2, q3⟩ := h
    refine ⟨_, (pss_cons (ps_expr (pe_call G_check_family (hr.mono (by decide)) rfl g_check_family k_check_family b_check_family .nil (L2N.passes_call (L2N.takes_of rfl rfl rfl rfl) (fun _ _ _ _ h => h)) (pa_cons (pv 0) pa_nil)))
  (pss_cons (ps_expr (pe_call G_check_diagram (hr.mono (by decide)) rfl g_check_diagram k_check_diagram b_check_diagram .nil (L2N.passes_call (L2N.takes_of rfl rfl rfl rfl) (fun _ _ _ _ h => h)) (pa_cons (pv 1) pa_nil)))
  (pss_cons (ps_asg (pv 1) (pg_tup rfl (pgs_cons (pg_name (i := 2) sc_is_in.nd rfl (.inr rfl)) (pgs_cons (pg_name (i := 3) sc_is_in.nd rfl (.inl rfl)) (pgs_cons (pg_name (i := 4) sc_is_in.nd rfl (.inl rfl)) pgs_nil)))))
  (pss_one (ps_ret (pe_callB (cr_all rfl) (by rfl) z_all boot_all (pa_cons (pe_lc (own := [("block", 5)]) rfl sc_is_in.nd (pi_tup (pv 4)) (blkOk_by (N := ["family", "diagram", "n", "_", "blocks", "block"]) (sc := defScope s_is_in) (by first | decide +kernel | rfl)) (fun _ _ _ _ _ => (pg_name (i := 5) sc_is_in.nd rfl (.inl rfl))) (fun _ _ _ _ _ => pts_nil) (fun _ _ _ _ _ => (pe_call G_is_block_of_ (hr.mono (by decide)) rfl g_is_block_of_ k_is_block_of_ b_is_block_of_ .nil pass0 (pa_cons (pv 0) (pa_cons (pv 2) (pa_cons (pv 5) pa_nil)))))) pa_nil))))))), ?_⟩
    have szl : 20000 ≤ sizeLine := by decide
    refine ⟨_, rfl, z, rfl, fun mz => ?_, fun nz => q1 nz⟩
    refine ⟨_, rfl, v, n, m, bs, rfl, hv, hb, fun H1 s1 => ⟨fun dg => ?_, fun nd => q2 mz nd H1 s1⟩⟩
    obtain ⟨t, vb, rfl, ht, tb, ts, rfl, htb, pr⟩ := DGv.same s1 hv
    have lts : ts.length = bs.length := pr.length
    have few := dg.few
    refine ⟨_, rfl, t, _, rfl, .inl (.inl ht), rfl, _, _, rfl, _, _, rfl, _, _, rfl, rfl, ?_⟩
    refine ⟨_, rfl, tb, rfl, ⟨_, .inl (.inl htb)⟩, fun D nD => ?_⟩
    have keep : ∀ {H' : Hp} {a : Addr} {o : HO}, SameBut D H1 H' → H1 a = some o → H' a = some o := fun sb e => sb _ _ (ne_of_none e nD) e
    refine lc_it walk_tup (fun i H' => SameBut D H1 H' ∧ H' D = some (.lst (((bs.take i).map (blockOk z n)).map V.bl))) ⟨SameBut.upd, upd_same⟩ (fun i H' _ hP => .inl (.inl (keep hP.1 htb))) (fun i y H5 H6 hi hP hy => ?_) (fun H5 hP => ?_)
    · obtain ⟨sb, hD⟩ := hP
      obtain ⟨e0, hy⟩ := hy
      subst e0
      obtain ⟨b, eb, a, rfl, ha⟩ := tt_get pr hy
      refine ⟨rfl, ?_⟩
      refine ⟨_, rfl, _, rfl, _, rfl, z, n, .ref a, b, rfl, ⟨a, rfl, keep sb ha⟩, _, hD, by rw [List.length_map, List.length_map, List.length_take]; have := few.1; omega, sb.trans SameBut.upd, ?_⟩
      rw [upd_same, List.take_succ, eb, List.map_append, List.map_append]
      rfl
    obtain ⟨sb, hD⟩ := hP
    rw [lts, List.take_length] at hD
    have s5 : Same H1 H5 := fun b o e => keep sb e
    refine ⟨D, _, rfl, .inl (.inl hD), ?_⟩
    rw [show (bs.map (blockOk z n)).all id = inFam z n bs by unfold inFam; rw [List.all_map]; rfl]
    exact q3 mz dg H5 (Same.trans s1 s5)
end

theorem TP.butL {H H' : Hp} {r : Addr} {ys : List V} {v : V} {z : List Int} (hr : H r = some (.lst ys)) (s : SameBut r H H') (h : TP H v z) : TP H' v z := by
  obtain ⟨a, rfl, h⟩ := h
  exact ⟨a, rfl, s _ _ (ne_of h hr (fun z => nomatch z)) h⟩
theorem TT.butL {H H' : Hp} {r : Addr} {ys : List V} {v : V} {bs : List (List Int)} (hr : H r = some (.lst ys)) (s : SameBut r H H') (h : TT H v bs) : TT H' v bs := by
  obtain ⟨a, ts, rfl, h, pr⟩ := h
  exact ⟨a, ts, rfl, s _ _ (ne_of h hr (fun z => nomatch z)) h, Paired.mapP pr fun _ _ h => h.butL hr s⟩
theorem DGv.butL {H H' : Hp} {r : Addr} {ys : List V} {v : V} {n m : Int} {bs : List (List Int)} (hr : H r = some (.lst ys)) (s : SameBut r H H') (h : DGv H v n m bs) : DGv H' v n m bs := by
  obtain ⟨t, vb, rfl, h, tt⟩ := h
  exact ⟨t, vb, rfl, s _ _ (ne_of h hr (fun z => nomatch z)) h, tt.butL hr s⟩
/-- a diagram with these marks -/
def DgAt (H : Hp) (u : V) (n m : Int) (l : List Int) : Prop := DGv H u n m (blocksOf l) ∧ siz n m = true ∧ (l.length : Int) = n + m
theorem DgAt.dg {H : Hp} {u : V} {n m : Int} {l : List Int} (h : DgAt H u n m l) : IsDg n m (blocksOf l) := isDg_blocks h.2.1 h.2.2
theorem DgAt.ok {H : Hp} {u : V} {n m : Int} {l : List Int} (h : DgAt H u n m l) : DgOk n m (blocksOf l) := by
  have := siz_iff.mp h.2.1
  exact (h.dg.few.more (by decide)).ok (by omega) (by omega)
theorem DgAt.same {H H' : Hp} {u : V} {n m : Int} {l : List Int} (s : Same H H') (h : DgAt H u n m l) : DgAt H' u n m l := ⟨h.1.same s, h.2⟩
theorem DgAt.butL {H H' : Hp} {r : Addr} {ys : List V} {u : V} {n m : Int} {l : List Int} (hr : H r = some (.lst ys)) (s : SameBut r H H') (h : DgAt H u n m l) : DgAt H' u n m l := ⟨h.1.butL hr s, h.2⟩
theorem DgAt.ix {H : Hp} {t : Addr} {n m : Int} {l : List Int} (h : DgAt H (.ref t) n m l) : ∃ vb, H t = some (.tup [.int n, .int m, vb]) := by
  obtain ⟨⟨t', vb, e, h, _⟩, _⟩ := h
  obtain rfl := V.ref.inj e
  exact ⟨vb, h⟩
/-- the answer of a comparison is not computed -/
theorem bl_ex {b : Bool} {R : Bool → Prop} (h : R b) : ∃ k, V.bl b = V.bl k ∧ R k := ⟨b, rfl, h⟩
theorem smL_dL {z : List Int} {B : Nat} (h : ∀ x ∈ z, x.natAbs < 2 ^ 200) (hB : z.length ≤ B) : SmL 1 (1923 * B + 3) (dL z) := by
  have e := smL_list (ds := z.map PyData.int) (n := 0) (k := 1921) fun D hD => by
    obtain ⟨a, ha, rfl⟩ := List.mem_map.mp hD
    exact smL_int (h a ha)
  rw [List.length_map] at e
  exact e.more (by show 1923 * z.length + 3 ≤ 1923 * B + 3; omega)
theorem labL_mem {bs : List (List Int)} {N : Nat} : ∀ x ∈ labL bs N, 0 ≤ x ∧ x ≤ (bs.length : Int) := by
  have run : ∀ (bs : List (List Int)) (k : Nat) (ms : List Int) (B : Int), ((k + bs.length : Nat) : Int) ≤ B → (∀ x ∈ ms, 0 ≤ x ∧ x ≤ B) → ∀ x ∈ labFrom bs k ms, 0 ≤ x ∧ x ≤ B := by
    intro bs
    induction bs with
    | nil => exact fun _ _ _ _ h => h
    | cons b bs ih =>
      intro k ms B hk h
      rw [List.length_cons] at hk
      refine ih (k + 1) _ B (by omega) ?_
      clear ih
      induction b generalizing ms with
      | nil => exact h
      | cons p b ih2 =>
        refine ih2 _ fun x hx => ?_
        rcases List.mem_or_eq_of_mem_set hx with hx | rfl
        · exact h x hx
        · omega
  exact run bs 0 _ _ (by omega) fun x hx => by
    have := List.eq_of_mem_replicate hx
    omega
theorem smL_lab {n m : Int} {bs : List (List Int)} (h : IsDg n m bs) : SmL 1 25000 (dL (labL bs (n + m).toNat)) := by
  have hs := siz_iff.mp h.sz
  have f := h.few.1
  refine (smL_dL (B := 12) (fun x hx => ?_) (by rw [labL_len]; omega)).more (by decide)
  have := labL_mem x hx
  have : (12 : Nat) < 2 ^ 200 := by decide
  omega
theorem smL_dg {n m : Int} {bs : List (List Int)} (h : IsDg n m bs) : SmL 3 1000000 (dDG n m bs) := by
  have hs := siz_iff.mp h.sz
  have f := h.few
  have big : (12 : Nat) < 2 ^ 200 := by decide
  have e1 := smL_tuple (n := 1) (k := 25002) (ds := bs.map dT) fun D hD => by
    obtain ⟨b, hb, rfl⟩ := List.mem_map.mp hD
    refine (dT_small (z := b) fun k => ?_).more (by have := f.2 b hb; omega)
    rcases Nat.lt_or_ge k b.length with c | c
    · have := dg_pt h hb (co_mem c)
      omega
    · rw [co_ge c]
      decide
  rw [List.length_map] at e1
  have e1 : SmL 2 310000 (dTT bs) := e1.more (by have := f.1; omega)
  have e2 := smL_tuple (n := 2) (k := 310000) (ds := [.int n, .int m, dTT bs]) fun D hD => by
    have up : ∀ {x : Int}, x.natAbs < 2 ^ 200 → SmL 2 310000 (.int x) := fun hx => by
      obtain ⟨h1, h2, h3, h4⟩ := smL_int hx
      exact ⟨h1, Nat.le_trans h2 (by decide), h3, Nat.le_trans h4 (by decide)⟩
    rcases List.mem_cons.mp hD with rfl | hD
    · exact up (by omega)
    · rcases List.mem_cons.mp hD with rfl | hD
      · exact up (by omega)
      · rw [List.mem_singleton.mp hD]
        exact e1
  exact e2.more (by show (310000 + 2) * 3 + 3 ≤ 1000000; decide)
theorem few_pow {x : Int} (h : 0 ≤ x ∧ x ≤ 1000) : x.natAbs < 2 ^ 64 := by
  have : (1000 : Nat) < 2 ^ 64 := by decide
  omega

/-! ### slices of lists of integers -/
theorem cutI {l : List Int} (lo hi : Option Int) : cutV (l.map V.int) lo hi = ((l.drop (HT.sIx l.length 0 lo)).take (HT.sIx l.length l.length hi - HT.sIx l.length 0 lo)).map V.int := by
  unfold cutV
  rw [List.length_map, ← List.map_drop, ← List.map_take]
theorem cutI_to {l : List Int} {b : Int} (h0 : 0 ≤ b) (h : b ≤ l.length) : cutV (l.map V.int) none (some b) = (l.take b.toNat).map V.int := by
  obtain ⟨k, rfl⟩ := Int.eq_ofNat_of_zero_le h0
  rw [cutI, HT.sIx_none, HT.sIx_nat, Nat.min_eq_left (by omega), List.drop_zero, Nat.sub_zero]
  rfl
theorem cutI_from {l : List Int} {a : Int} (h0 : 0 ≤ a) (h : a ≤ l.length) : cutV (l.map V.int) (some a) none = (l.drop a.toNat).map V.int := by
  obtain ⟨k, rfl⟩ := Int.eq_ofNat_of_zero_le h0
  rw [cutI, HT.sIx_none, HT.sIx_nat, Nat.min_eq_left (by omega)]
  show ((l.drop k).take (l.length - k)).map V.int = (l.drop k).map V.int
  rw [← List.length_drop, List.take_length]
theorem cutI_mid {l : List Int} {a b : Int} (h0 : 0 ≤ a) (h1 : a ≤ b) (h : b ≤ l.length) : cutV (l.map V.int) (some a) (some b) = ((l.drop a.toNat).take (b.toNat - a.toNat)).map V.int := by
  obtain ⟨k, rfl⟩ := Int.eq_ofNat_of_zero_le h0
  obtain ⟨j, rfl⟩ := Int.eq_ofNat_of_zero_le (show 0 ≤ b by omega)
  rw [cutI, HT.sIx_nat, HT.sIx_nat, Nat.min_eq_left (by omega), Nat.min_eq_left (by omega)]
  rfl
theorem sIx_neg1 (n d : Nat) : HT.sIx n d (some (-1)) = n - 1 := by
  show (if (-1 : Int) < 0 then ((-1 : Int) + (n : Int)).toNat else min (-1 : Int).toNat n) = n - 1
  rw [if_pos (by decide)]
  omega
theorem cutI_last {l : List Int} : cutV (l.map V.int) (some (-1)) none = (l.drop (l.length - 1)).map V.int := by
  rw [cutI, HT.sIx_none, sIx_neg1]
  rw [← List.length_drop, List.take_length]
theorem cutI_but {l : List Int} {a : Int} (h0 : 0 ≤ a) (h : a ≤ l.length) : cutV (l.map V.int) (some a) (some (-1)) = ((l.drop a.toNat).take (l.length - 1 - a.toNat)).map V.int := by
  obtain ⟨k, rfl⟩ := Int.eq_ofNat_of_zero_le h0
  rw [cutI, HT.sIx_nat, sIx_neg1, Nat.min_eq_left (by omega)]
  rfl
/-- the labels of a diagram stand for the marks -/
theorem labs_map {n m : Int} {l : List Int} (hl : (l.length : Int) = n + m) : ∃ g : Int → Int, labL (blocksOf l) (n + m).toNat = l.map g ∧ ∀ x ∈ l, ∀ y ∈ l, g x = g y → x = y := by
  refine ⟨fun v => (((seenL [] l).idxOf v : Nat) : Int), ?_, fun x hx y hy h => idx_inj ((seenL_mem l [] x).mpr (.inr hx)) ((seenL_mem l [] y).mpr (.inr hy)) h⟩
  rw [show (n + m).toNat = l.length by omega]
  exact labL_marks l
/-- a choice of marks by their places -/
theorem blocks_sel {n m : Int} {l : List Int} (hl : (l.length : Int) = n + m) {sel : List Int → List Int} (hm : ∀ (g : Int → Int) (z : List Int), sel (z.map g) = (sel z).map g) (hs : ∀ x ∈ sel l, x ∈ l) : blocksOf (sel (labL (blocksOf l) (n + m).toNat)) = blocksOf (sel l) := by
  obtain ⟨g, e, inj⟩ := labs_map hl
  rw [e, hm]
  exact blocksOf_map fun x hx y hy h => inj x (hs x hx) y (hs y hy) h

/-! ### what is joined by links -/
inductive Conn (E : Nat → Nat → Prop) : Nat → Nat → Prop
  | rf (i : Nat) : Conn E i i
  | ed {i j : Nat} : E i j → Conn E i j
  | sy {i j : Nat} : Conn E i j → Conn E j i
  | tr {i j k : Nat} : Conn E i j → Conn E j k → Conn E i k
theorem Conn.map {E F : Nat → Nat → Prop} {f : Nat → Nat} (h : ∀ i j, E i j → Conn F (f i) (f j)) {i j : Nat} (c : Conn E i j) : Conn F (f i) (f j) := by
  induction c with
  | rf i => exact .rf _
  | ed e => exact h _ _ e
  | sy _ ih => exact .sy ih
  | tr _ _ a b => exact .tr a b
theorem Conn.mono {E F : Nat → Nat → Prop} (h : ∀ i j, E i j → Conn F i j) {i j : Nat} (c : Conn E i j) : Conn F i j := Conn.map (f := id) h c
/-- what all links keep -/
theorem Conn.keep {α : Type} {E : Nat → Nat → Prop} {g : Nat → α} (h : ∀ i j, E i j → g i = g j) {i j : Nat} (c : Conn E i j) : g i = g j := by
  induction c with
  | rf i => rfl
  | ed e => exact h _ _ e
  | sy _ ih => exact ih.symm
  | tr _ _ a b => exact a.trans b
def Bd (N : Nat) (E : Nat → Nat → Prop) : Prop := ∀ i j, E i j → i < N ∧ j < N
theorem Conn.bd {N : Nat} {E : Nat → Nat → Prop} (b : Bd N E) {i j : Nat} (c : Conn E i j) : i < N ↔ j < N := by
  induction c with
  | rf i => exact Iff.rfl
  | ed e => exact ⟨fun _ => (b _ _ e).2, fun _ => (b _ _ e).1⟩
  | sy _ ih => exact ih.symm
  | tr _ _ x y => exact x.trans y
/-- two have one mark exactly if they are joined -/
structure Ks (N : Nat) (l : List Int) (E : Nat → Nat → Prop) : Prop where
  len : l.length = N
  bd : Bd N E
  eq : ∀ i j, i < N → j < N → (co l i = co l j ↔ Conn E i j)
theorem Ks.congr {N : Nat} {l : List Int} {E F : Nat → Nat → Prop} (k : Ks N l E) (b : Bd N F) (h1 : ∀ i j, E i j → Conn F i j) (h2 : ∀ i j, F i j → Conn E i j) : Ks N l F :=
  ⟨k.len, b, fun i j hi hj => (k.eq i j hi hj).trans ⟨Conn.mono h1, Conn.mono h2⟩⟩
theorem ks_start (N : Nat) : Ks N (ixs N) fun _ _ => False := ⟨ixs_len' N, fun _ _ h => h.elim, fun i j hi hj => by
  rw [co_ixs hi, co_ixs hj]
  exact ⟨fun h => by rw [Int.ofNat.inj h]; exact .rf _, fun c => by rw [Conn.keep (g := fun i => i) (fun _ _ h => h.elim) c]⟩⟩
theorem ks_marks (l : List Int) : Ks l.length l fun i j => i < l.length ∧ j < l.length ∧ co l i = co l j :=
  ⟨rfl, fun _ _ h => ⟨h.1, h.2.1⟩, fun i j hi hj => ⟨fun h => .ed ⟨hi, hj, h⟩, fun c => Conn.keep (fun _ _ h => h.2.2) c⟩⟩
/-- two marks become one -/
theorem Ks.step {N : Nat} {l l' : List Int} {E : Nat → Nat → Prop} {x y : Nat} {u v : Int} (k : Ks N l E) (hx : x < N) (hy : y < N) (hl : l'.length = N)
    (uv : (u = co l y ∧ v = co l x) ∨ (u = co l x ∧ v = co l y)) (h : ∀ i, i < N → co l' i = if co l i = u then v else co l i) : Ks N l' fun i j => E i j ∨ (i = x ∧ j = y) := by
  have b : Bd N fun i j => E i j ∨ (i = x ∧ j = y) := fun i j h => h.elim (k.bd i j) fun ⟨e1, e2⟩ => by rw [e1, e2]; exact ⟨hx, hy⟩
  have up : ∀ {i j}, Conn E i j → Conn (fun i j => E i j ∨ (i = x ∧ j = y)) i j := fun c => c.mono fun _ _ h => .ed (.inl h)
  have xy : Conn (fun i j => E i j ∨ (i = x ∧ j = y)) x y := .ed (.inr ⟨rfl, rfl⟩)
  -- what has the mark u is joined to what has the mark v
  have uvc : ∀ i j, i < N → j < N → co l i = u → co l j = v → Conn (fun i j => E i j ∨ (i = x ∧ j = y)) i j := fun i j hi hj e1 e2 => by
    rcases uv with ⟨a, b⟩ | ⟨a, b⟩
    · have c1 := (k.eq i y hi hy).mp (by rw [e1, a])
      have c2 := (k.eq j x hj hx).mp (by rw [e2, b])
      exact (up c1).tr (xy.sy.tr (up c2).sy)
    · have c1 := (k.eq i x hi hx).mp (by rw [e1, a])
      have c2 := (k.eq j y hj hy).mp (by rw [e2, b])
      exact (up c1).tr (xy.tr (up c2).sy)
  refine ⟨hl, b, fun i j hi hj => ⟨fun e => ?_, fun c => ?_⟩⟩
  · rw [h i hi, h j hj] at e
    by_cases c1 : co l i = u
    · by_cases c2 : co l j = u
      · exact up ((k.eq i j hi hj).mp (c1.trans c2.symm))
      · rw [if_pos c1, if_neg c2] at e
        exact uvc i j hi hj c1 e.symm
    · by_cases c2 : co l j = u
      · rw [if_neg c1, if_pos c2] at e
        exact (uvc j i hj hi c2 e).sy
      · rw [if_neg c1, if_neg c2] at e
        exact up ((k.eq i j hi hj).mp e)
  · have one : ∀ i j, i < N → j < N → co l i = co l j → co l' i = co l' j := fun i j hi hj e => by rw [h i hi, h j hj, e]
    have both : co l' x = v ∧ co l' y = v := by
      rw [h x hx, h y hy]
      rcases uv with ⟨a, b⟩ | ⟨a, b⟩
      · rw [if_pos a.symm]
        refine ⟨?_, rfl⟩
        by_cases c : co l x = u
        · rw [if_pos c]
        · rw [if_neg c, b]
      · rw [if_pos a.symm]
        refine ⟨rfl, ?_⟩
        by_cases c : co l y = u
        · rw [if_pos c]
        · rw [if_neg c, b]
    have run : ∀ {i j}, Conn (fun i j => E i j ∨ (i = x ∧ j = y)) i j → i < N → co l' i = co l' j := fun {i j} c => by
      induction c with
      | rf i => exact fun _ => rfl
      | ed e =>
        intro hi
        rcases e with e | ⟨rfl, rfl⟩
        · have := k.bd _ _ e
          exact one _ _ this.1 this.2 ((k.eq _ _ this.1 this.2).mpr (.ed e))
        · exact both.1.trans both.2.symm
      | sy c ih => exact fun hi => (ih ((c.bd b).mpr hi)).symm
      | tr c _ ih1 ih2 => exact fun hi => (ih1 hi).trans (ih2 ((c.bd b).mp hi))
    exact run c hi
theorem co_map_lt {f : Int → Int} {l : List Int} {i : Nat} (h : i < l.length) : co (l.map f) i = f (co l i) := co_mapI f l h
/-- the program's way of joining: the second one's mark gives way -/
def uj (l : List Int) (x y : Nat) : List Int := l.map fun c => if c = co l y then co l x else c
theorem uj_len (l : List Int) (x y : Nat) : (uj l x y).length = l.length := List.length_map ..
theorem Ks.uj {N : Nat} {l : List Int} {E : Nat → Nat → Prop} {x y : Nat} (k : Ks N l E) (hx : x < N) (hy : y < N) : Ks N (uj l x y) fun i j => E i j ∨ (i = x ∧ j = y) :=
  k.step hx hy ((uj_len l x y).trans k.len) (.inl ⟨rfl, rfl⟩) fun i hi => co_map_lt (by rw [k.len]; exact hi)
theorem Ks.jn {N : Nat} {l : List Int} {E : Nat → Nat → Prop} {x y : Nat} (k : Ks N l E) (hx : x < N) (hy : y < N) : Ks N (jn l x y) fun i j => E i j ∨ (i = x ∧ j = y) := by
  refine k.step (u := if co l y > co l x then co l y else co l x) (v := if co l y < co l x then co l y else co l x) hx hy ((jn_len l x y).trans k.len) ?_ fun i hi => co_map_lt (by rw [k.len]; exact hi)
  by_cases c : co l y > co l x
  · rw [if_pos c, if_neg (by omega)]
    exact .inl ⟨rfl, rfl⟩
  · rw [if_neg c]
    by_cases d : co l y < co l x
    · rw [if_pos d]
      exact .inr ⟨rfl, rfl⟩
    · rw [if_neg d]
      exact .inl ⟨by omega, rfl⟩
/-- the pieces of groups -/
def ujB (l : List Int) (b : List Int) : List Int := (b.drop 1).foldl (fun l p => uj l (co b 0).toNat p.toNat) l
def ujs (l : List Int) (gs : List (List Int)) : List Int := gs.foldl ujB l
def pcs (N : Nat) (gs : List (List Int)) : List Int := ujs (ixs N) gs
def GE (gs : List (List Int)) (i j : Nat) : Prop := ∃ g ∈ gs, ∃ p ∈ g.drop 1, i = (co g 0).toNat ∧ j = p.toNat
def GBd (N : Nat) (gs : List (List Int)) : Prop := ∀ g ∈ gs, g ≠ [] ∧ ∀ p ∈ g, 0 ≤ p ∧ p < (N : Int)
theorem GBd.head {N : Nat} {gs : List (List Int)} (h : GBd N gs) {g : List Int} (hg : g ∈ gs) : (co g 0).toNat < N := by
  have ne := (h g hg).1
  have := (h g hg).2 (co g 0) (co_mem (by cases g with | nil => exact absurd rfl ne | cons _ _ => exact Nat.zero_lt_succ _))
  omega
theorem GBd.pt {N : Nat} {gs : List (List Int)} (h : GBd N gs) {g : List Int} (hg : g ∈ gs) {p : Int} (hp : p ∈ g) : p.toNat < N := by
  have := (h g hg).2 p hp
  omega
theorem ks_fold {N : Nat} (x : Nat) (hx : x < N) : ∀ (ps : List Int) (l : List Int) (E : Nat → Nat → Prop), (∀ p ∈ ps, p.toNat < N) → Ks N l E → Ks N (ps.foldl (fun l p => uj l x p.toNat) l) fun i j => E i j ∨ ∃ p ∈ ps, i = x ∧ j = p.toNat
  | [], l, E, _, k => k.congr (fun i j h => h.elim (k.bd i j) fun ⟨_, h, _⟩ => nomatch h) (fun i j h => .ed (.inl h)) fun i j h => h.elim .ed fun ⟨_, h, _⟩ => nomatch h
  | p :: ps, l, E, hp, k => by
    have k1 := k.uj hx (hp p List.mem_cons_self)
    have k2 := ks_fold x hx ps _ _ (fun q hq => hp q (List.mem_cons_of_mem _ hq)) k1
    refine k2.congr (fun i j h => ?_) (fun i j h => ?_) fun i j h => ?_
    · rcases h with h | ⟨q, hq, rfl, rfl⟩
      · exact k.bd i j h
      · exact ⟨hx, hp q hq⟩
    · rcases h with (h | ⟨e1, e2⟩) | ⟨q, hq, e⟩
      · exact .ed (.inl h)
      · exact .ed (.inr ⟨p, List.mem_cons_self, e1, e2⟩)
      · exact .ed (.inr ⟨q, List.mem_cons_of_mem _ hq, e⟩)
    · rcases h with h | ⟨q, hq, e⟩
      · exact .ed (.inl (.inl h))
      · rcases List.mem_cons.mp hq with rfl | hq
        · exact .ed (.inl (.inr e))
        · exact .ed (.inr ⟨q, hq, e⟩)
theorem ks_groups {N : Nat} : ∀ (gs : List (List Int)) (l : List Int) (E : Nat → Nat → Prop), GBd N gs → Ks N l E → Ks N (ujs l gs) fun i j => E i j ∨ GE gs i j
  | [], l, E, _, k => k.congr (fun i j h => h.elim (k.bd i j) fun ⟨_, h, _⟩ => nomatch h) (fun i j h => .ed (.inl h)) fun i j h => h.elim .ed fun ⟨_, h, _⟩ => nomatch h
  | g :: gs, l, E, hb, k => by
    have k1 := ks_fold (co g 0).toNat (hb.head List.mem_cons_self) (g.drop 1) l E (fun p hp => hb.pt List.mem_cons_self (List.mem_of_mem_drop hp)) k
    have k2 := ks_groups gs _ _ (fun x hx => hb x (List.mem_cons_of_mem _ hx)) k1
    refine k2.congr (fun i j h => ?_) (fun i j h => ?_) fun i j h => ?_
    · rcases h with h | ⟨x, hx, p, hp, rfl, rfl⟩
      · exact k.bd i j h
      · exact ⟨hb.head hx, hb.pt hx (List.mem_of_mem_drop hp)⟩
    · rcases h with (h | ⟨p, hp, e⟩) | ⟨x, hx, p, hp, e⟩
      · exact .ed (.inl h)
      · exact .ed (.inr ⟨g, List.mem_cons_self, p, hp, e⟩)
      · exact .ed (.inr ⟨x, List.mem_cons_of_mem _ hx, p, hp, e⟩)
    · rcases h with h | ⟨x, hx, p, hp, e⟩
      · exact .ed (.inl (.inl h))
      · rcases List.mem_cons.mp hx with rfl | hx
        · exact .ed (.inl (.inr ⟨p, hp, e⟩))
        · exact .ed (.inr ⟨x, hx, p, hp, e⟩)
theorem ks_pcs {N : Nat} {gs : List (List Int)} (hb : GBd N gs) : Ks N (pcs N gs) (GE gs) := by
  have k := ks_groups gs (ixs N) _ hb (ks_start N)
  exact k.congr (fun i j ⟨x, hx, p, hp, e1, e2⟩ => by rw [e1, e2]; exact ⟨hb.head hx, hb.pt hx (List.mem_of_mem_drop hp)⟩) (fun i j h => h.elim (fun z => z.elim) .ed) fun i j h => .ed (.inr h)
/-- the law's way -/
def jns (l : List Int) (es : List (Nat × Nat)) : List Int := es.foldl (fun l e => jn l e.1 e.2) l
theorem ks_jns {N : Nat} : ∀ (es : List (Nat × Nat)) (l : List Int) (E : Nat → Nat → Prop), (∀ e ∈ es, e.1 < N ∧ e.2 < N) → Ks N l E → Ks N (jns l es) fun i j => E i j ∨ (i, j) ∈ es
  | [], l, E, _, k => k.congr (fun i j h => h.elim (k.bd i j) fun h => nomatch h) (fun i j h => .ed (.inl h)) fun i j h => h.elim .ed fun h => nomatch h
  | e :: es, l, E, hb, k => by
    have k1 := k.jn (hb e List.mem_cons_self).1 (hb e List.mem_cons_self).2
    have k2 := ks_jns es _ _ (fun x hx => hb x (List.mem_cons_of_mem _ hx)) k1
    refine k2.congr (fun i j h => ?_) (fun i j h => ?_) fun i j h => ?_
    · rcases h with h | h
      · exact k.bd i j h
      · exact hb _ h
    · rcases h with (h | ⟨e1, e2⟩) | h
      · exact .ed (.inl h)
      · exact .ed (.inr (by rw [e1, e2]; exact List.mem_cons_self))
      · exact .ed (.inr (List.mem_cons_of_mem _ h))
    · rcases h with h | h
      · exact .ed (.inl (.inl h))
      · rcases List.mem_cons.mp h with h | h
        · have e1 := congrArg Prod.fst h
          have e2 := congrArg Prod.snd h
          exact .ed (.inl (.inr ⟨e1, e2⟩))
        · exact .ed (.inr h)
/-! ### what hangs on the pieces alone -/
def KerEq (a b : List Int) : Prop := a.length = b.length ∧ ∀ i j, i < a.length → j < a.length → (co a i = co a j ↔ co b i = co b j)
theorem Ks.ker {N : Nat} {a b : List Int} {E : Nat → Nat → Prop} (x : Ks N a E) (y : Ks N b E) : KerEq a b :=
  ⟨x.len.trans y.len.symm, fun i j hi hj => by rw [x.len] at hi hj; exact (x.eq i j hi hj).trans (y.eq i j hi hj).symm⟩
theorem ixf_co {l : List Int} {v : Int} (h : v ∈ l) : l.idxOf v < l.length ∧ co l (l.idxOf v) = v := by
  have hl := List.idxOf_lt_length_of_mem h
  refine ⟨hl, ?_⟩
  have e : l[l.idxOf v]? = some v := by rw [List.getElem?_eq_getElem hl, List.getElem_idxOf]
  exact Option.some.inj ((co_get hl).symm.trans e)
theorem co_ext {a b : List Int} (hl : a.length = b.length) (h : ∀ i, i < a.length → co a i = co b i) : a = b := by
  refine List.ext_getElem? fun i => ?_
  by_cases c : i < a.length
  · rw [co_get c, co_get (by omega), h i c]
  · rw [List.getElem?_eq_none (by omega), List.getElem?_eq_none (by omega)]
theorem KerEq.img {a b : List Int} (k : KerEq a b) : ∃ g : Int → Int, b = a.map g ∧ ∀ x ∈ a, ∀ y ∈ a, g x = g y → x = y := by
  refine ⟨fun v => co b (a.idxOf v), ?_, fun x hx y hy e => ?_⟩
  · refine co_ext (by rw [List.length_map, k.1]) fun i hi => ?_
    rw [← k.1] at hi
    rw [co_map_lt hi]
    have m := ixf_co (co_mem hi)
    exact (k.2 i _ hi m.1).mp m.2.symm
  · have m1 := ixf_co hx
    have m2 := ixf_co hy
    have := (k.2 _ _ m1.1 m2.1).mpr e
    rw [m1.2, m2.2] at this
    exact this
theorem KerEq.blocks {a b : List Int} (k : KerEq a b) : blocksOf b = blocksOf a := by
  obtain ⟨g, e, inj⟩ := k.img
  rw [e]
  exact blocksOf_map inj
/-- the pieces of which no mark is shown -/
def hid (ms shown : List Int) : Nat := ((seenL [] ms).filter fun k => decide (k ∉ shown)).length
theorem hid_is {ms shown L : List Int} (nd : L.Nodup) (h : ∀ k, k ∈ L ↔ k ∈ ms ∧ k ∉ shown) : L.length = hid ms shown := by
  refine SD.same_len nd ((seenL_nodup ms [] List.nodup_nil).filter _) fun k => ?_
  rw [h k, List.mem_filter, seenL_mem, decide_eq_true_eq]
  exact ⟨fun z => ⟨.inr z.1, z.2⟩, fun z => ⟨z.1.elim (fun q => nomatch q) id, z.2⟩⟩
def cnt (ms : List Int) : Nat := (seenL [] ms).length
theorem cnt_is {ms L : List Int} (nd : L.Nodup) (h : ∀ k, k ∈ L ↔ k ∈ ms) : L.length = cnt ms := by
  refine SD.same_len nd (seenL_nodup ms [] List.nodup_nil) fun k => ?_
  rw [h k, seenL_mem]
  exact ⟨.inr, fun z => z.elim (fun q => nomatch q) id⟩
theorem cnt_hid (ms : List Int) : cnt ms = hid ms [] := by
  unfold cnt hid
  rw [List.filter_eq_self.mpr fun k _ => decide_eq_true List.not_mem_nil]
/-- pieces told by two rows of points: f leads from the second to the first -/
theorem hid_map {a b sa sb : List Int} (f : Nat → Nat) (hf : ∀ i, i < b.length → f i < a.length) (on : ∀ i, i < a.length → ∃ j, j < b.length ∧ co a (f j) = co a i) (kq : ∀ i j, i < b.length → j < b.length → (co b i = co b j ↔ co a (f i) = co a (f j)))
    (sh : ∀ i, i < b.length → (co b i ∈ sb ↔ co a (f i) ∈ sa)) : hid b sb = hid a sa := by
  have nb := (seenL_nodup b [] List.nodup_nil).filter fun k => decide (k ∉ sb)
  have memb : ∀ k, k ∈ (seenL [] b).filter (fun k => decide (k ∉ sb)) ↔ k ∈ b ∧ k ∉ sb := fun k => by
    rw [List.mem_filter, seenL_mem, decide_eq_true_eq]
    exact ⟨fun z => ⟨z.1.elim (fun q => nomatch q) id, z.2⟩, fun z => ⟨.inr z.1, z.2⟩⟩
  have e : hid b sb = (((seenL [] b).filter fun k => decide (k ∉ sb)).map fun v => co a (f (b.idxOf v))).length := (List.length_map ..).symm
  rw [e]
  refine hid_is ?_ fun k => ?_
  · refine List.Pairwise.map _ (R := fun x y => x ∈ b ∧ y ∈ b ∧ x ≠ y) (fun x y ⟨hx, hy, ne⟩ z => ?_) (List.Pairwise.imp_of_mem (fun hx hy ne => ⟨((memb _).mp hx).1, ((memb _).mp hy).1, ne⟩) nb)
    have m1 := ixf_co hx
    have m2 := ixf_co hy
    have := (kq _ _ m1.1 m2.1).mpr z
    rw [m1.2, m2.2] at this
    exact ne this
  · rw [List.mem_map]
    constructor
    · rintro ⟨v, hv, rfl⟩
      obtain ⟨h1, h2⟩ := (memb v).mp hv
      have m := ixf_co h1
      refine ⟨co_mem (hf _ m.1), fun z => h2 ?_⟩
      rw [← m.2]
      exact (sh _ m.1).mpr z
    · rintro ⟨h1, h2⟩
      have m := ixf_co h1
      obtain ⟨j, hj, ej⟩ := on _ m.1
      rw [m.2] at ej
      have m2 := ixf_co (co_mem hj)
      have back : co a (f (b.idxOf (co b j))) = k := ((kq _ _ m2.1 hj).mp m2.2).trans ej
      refine ⟨co b j, (memb _).mpr ⟨co_mem hj, fun z => h2 ?_⟩, back⟩
      rw [← ej]
      exact (sh j hj).mp z
/-! ### blocks as groups -/
theorem blocks_ge {l : List Int} : ∀ i j, GE (blocksOf l) i j → i < l.length ∧ j < l.length ∧ co l i = co l j := by
  rintro i j ⟨g, hg, p, hp, rfl, rfl⟩
  unfold blocksOf at hg
  obtain ⟨v, hv, rfl⟩ := List.mem_map.mp hg
  have ne := blocks_ne (marks := l) _ (by unfold blocksOf; exact List.mem_map.mpr ⟨v, hv, rfl⟩)
  obtain ⟨a, ea, la, va⟩ := mem_posOf.mp (show co (posOf l v) 0 ∈ posOf l v from co_mem (by cases e : posOf l v with | nil => exact absurd e ne | cons _ _ => exact Nat.zero_lt_succ _))
  obtain ⟨b, eb, lb, vb⟩ := mem_posOf.mp (List.mem_of_mem_drop hp)
  rw [ea, eb]
  exact ⟨la, lb, va.trans vb.symm⟩
theorem ge_blocks {l : List Int} {i j : Nat} (hi : i < l.length) (hj : j < l.length) (e : co l i = co l j) : Conn (GE (blocksOf l)) i j := by
  have hv : co l i ∈ seenL [] l := (seenL_mem _ _ _).mpr (.inr (co_mem hi))
  have hg : posOf l (co l i) ∈ blocksOf l := by unfold blocksOf; exact List.mem_map.mpr ⟨_, hv, rfl⟩
  have one : ∀ k, k < l.length → co l k = co l i → Conn (GE (blocksOf l)) (co (posOf l (co l i)) 0).toNat k := fun k hk ek => by
    have hm : (k : Int) ∈ posOf l (co l i) := mem_posOf.mpr ⟨k, rfl, hk, ek⟩
    cases ep : posOf l (co l i) with
    | nil => rw [ep] at hm; cases hm
    | cons h t =>
      rw [ep] at hm
      rcases List.mem_cons.mp hm with z | z
      · show Conn _ h.toNat k
        rw [← z]
        exact .rf _
      · exact .ed ⟨posOf l (co l i), hg, (k : Int), by rw [ep]; exact z, by rw [ep], rfl⟩
  exact (one i hi rfl).sy.tr (one j hj e.symm)
theorem blocks_gbd (l : List Int) : GBd l.length (blocksOf l) := fun g hg => ⟨blocks_ne g hg, fun p hp => by
  unfold blocksOf at hg
  obtain ⟨v, hv, rfl⟩ := List.mem_map.mp hg
  obtain ⟨a, ea, la, va⟩ := mem_posOf.mp hp
  omega⟩
theorem uj_mem {l : List Int} {x y : Nat} (hx : x < l.length) : ∀ v ∈ uj l x y, v ∈ l := fun v hv => by
  unfold uj at hv
  obtain ⟨c, hc, rfl⟩ := List.mem_map.mp hv
  split
  · exact co_mem hx
  · exact hc
theorem ujB_mem {l : List Int} {b : List Int} (h0 : (co b 0).toNat < l.length) : (ujB l b).length = l.length ∧ ∀ v ∈ ujB l b, v ∈ l := by
  unfold ujB
  generalize b.drop 1 = t
  generalize (co b 0).toNat = x at h0
  revert l
  induction t with
  | nil => exact fun h => ⟨rfl, fun v h => h⟩
  | cons p t ih =>
    intro l h0
    obtain ⟨a, b⟩ := ih (l := uj l x p.toNat) (by rw [uj_len]; exact h0)
    exact ⟨a.trans (uj_len _ _ _), fun v hv => uj_mem h0 v (b v hv)⟩
theorem pcs_mem {N : Nat} {gs : List (List Int)} (hb : GBd N gs) : ∀ v ∈ pcs N gs, 0 ≤ v ∧ v < (N : Int) := by
  have run : ∀ (gs : List (List Int)) (l : List Int), GBd N gs → l.length = N → ∀ v ∈ ujs l gs, v ∈ l := by
    intro gs
    induction gs with
    | nil => exact fun l _ _ v h => h
    | cons g gs ih =>
      intro l hb hl v hv
      obtain ⟨a, b⟩ := ujB_mem (l := l) (b := g) (by rw [hl]; exact hb.head List.mem_cons_self)
      exact b v (ih (ujB l g) (fun x hx => hb x (List.mem_cons_of_mem _ hx)) (a.trans hl) v hv)
  exact fun v hv => mem_ixs.mp (run gs (ixs N) hb (ixs_len' N) v hv)

/-! ### a list or a tuple -/
def SqA (K : PySem.W.Frag) (H : Hp) (a : Addr) (xs : List V) : Prop := SqL K H a xs ∨ SqT K H a xs
def iSeqA (K : PySem.W.Frag) (te : TE) : TI := fun σ H R => te σ H fun x H1 => ∃ a xs, x = .ref a ∧ ((SqL K H1 a xs ∧ R (Itl K a) H1) ∨ (SqT K H1 a xs ∧ R (Itt K a) H1))
theorem pi_ltK {X : Cx} {K : PySem.W.Frag} {tg e : Expr} {te : TE} (hK : X.K = K) (he : PE X e te) : PI X tg e (iSeqA K te) := by
  subst hK
  refine ⟨fun pins s σ H R I h => ?_⟩
  refine thn (he.run pins s σ H _ I h) fun v s1 ⟨x, H1, I1, r1, a, xs, ex, q⟩ => ?_
  subst ex
  have r1' : v = .ref a := r1
  subst r1'
  have fp : ∀ {b : Addr}, b ∈ [s1.heap.objs.size] → _ := fun {b} hb => (by simpa using hb : b = s1.heap.objs.size)
  rcases q with ⟨sq, q⟩ | ⟨sq, q⟩
  · obtain ⟨its, rv, p, _⟩ := I1.list sq
    exact wpAny_pyIter_list p.isList ⟨s1.heap.objs.size, [s1.heap.objs.size], _, _, H1, rfl, I1.kept (t' := s1.toks) fun b o e => Heap.get?_push_of_some _ e, turn_list a _, ⟨_, Heap.get?_push_size _ rfl, rfl, rfl⟩, fun b hb => by rw [fp hb]; exact I1.fpOk (Nat.le_refl _) (I1.hok.fresh (Nat.le_refl _)), q⟩
  · obtain ⟨its, rv, p, _⟩ := I1.tuple sq
    exact wpAny_pyIter_tuple (show s1.heap.IsTuple a its.toArray from p) ⟨s1.heap.objs.size, [s1.heap.objs.size], _, _, H1, rfl, I1.kept (t' := s1.toks) fun b o e => Heap.get?_push_of_some _ e, turn_tuple a _, ⟨_, Heap.get?_push_size _ rfl, rfl, rfl⟩, fun b hb => by rw [fp hb]; exact I1.fpOk (Nat.le_refl _) (I1.hok.fresh (Nat.le_refl _)), q⟩
theorem pi_lt {X : Cx} {tg e : Expr} {te : TE} (he : PE X e te) : PI X tg e (iSeqA X.K te) := pi_ltK rfl he
theorem for_seq {K : PySem.W.Frag} {a : Addr} {xs : List V} {g : TG} {tb : TS} {D : Ends} {σ : L2.St} {H : Hp} (hq : SqA K H a xs) (Pv : Nat → L2.St → Hp → Prop) (h0 : Pv 0 σ H) (hk : ∀ i σ' H', Pv i σ' H' → (SqL K H a xs → SqL K H' a xs) ∧ (SqT K H a xs → SqT K H' a xs))
    (hs : ∀ i x σ H, xs[i]? = some x → Pv i σ H → g x σ H fun σ2 H2 => tb { D with nx := Pv (i + 1), ct := Pv (i + 1), bk := D.nx } σ2 H2) (hd : ∀ σ H, Pv xs.length σ H → D.nx σ H) :
    (SqL K H a xs ∧ ∃ W : Nat → Nat → L2.St → Hp → Prop, (∃ m, W 0 m σ H) ∧ ∀ i m σ H, W i m σ H →
      ((Itl K a).stop i H ∧ D.nx σ H) ∨ ((Itl K a).go i H ∧ ∃ N : L2.St → Hp → Prop, (∀ σ' H', N σ' H' → ∃ m', m' < m ∧ W (i + 1) m' σ' H') ∧ ∀ x H', (Itl K a).yld i H x H' → g x σ H' fun σ2 H2 => tb { D with nx := N, ct := N, bk := D.nx } σ2 H2)) ∨
    (SqT K H a xs ∧ ∃ W : Nat → Nat → L2.St → Hp → Prop, (∃ m, W 0 m σ H) ∧ ∀ i m σ H, W i m σ H →
      ((Itt K a).stop i H ∧ D.nx σ H) ∨ ((Itt K a).go i H ∧ ∃ N : L2.St → Hp → Prop, (∀ σ' H', N σ' H' → ∃ m', m' < m ∧ W (i + 1) m' σ' H') ∧ ∀ x H', (Itt K a).yld i H x H' → g x σ H' fun σ2 H2 => tb { D with nx := N, ct := N, bk := D.nx } σ2 H2)) := by
  rcases hq with hq | hq
  · exact .inl ⟨hq, for_list Pv h0 (fun i σ' H' _ p => (hk i σ' H' p).1 hq) hs hd⟩
  · exact .inr ⟨hq, for_it walk_tup Pv h0 (fun i σ' H' _ p => (hk i σ' H' p).2 hq) (fun i x σ H1 H2 hi p ⟨e, hx⟩ => by subst e; exact hs i x σ _ hx p) hd⟩
def rSlSA (K : PySem.W.Frag) : V → Option Int → Option Int → Hp → VK → Prop := fun x lo hi H Q => ∃ a xs, x = .ref a ∧ SqA K H a xs ∧ ¬ (HT.sIx xs.length 0 lo = 0 ∧ HT.sIx xs.length xs.length hi = xs.length) ∧
  ∀ p H', Same H H' → H p = none → SqA K H' p (cutV xs lo hi) → Q (.ref p) H'
theorem sl_seqA {X : Cx} : SlR X (rSlSA X.K) := by
  intro pins s σ H x v vl vu lo hi sl Q I rx hs pl pu h
  obtain ⟨a, xs, rfl, hq, nw, q⟩ := h
  rcases hq with hq | hq
  · exact sl_list pins s σ H (.ref a) v vl vu lo hi sl Q I rx hs pl pu ⟨a, xs, rfl, hq, fun p np => q p _ (same_upd np) np (.inl (.inl (.inl upd_same)))⟩
  · exact sl_tupA pins s σ H (.ref a) v vl vu lo hi sl Q I rx hs pl pu ⟨a, xs, rfl, hq, fun z => absurd z nw, fun _ p np => q p _ (same_upd np) np (.inr (.inl (.inl upd_same)))⟩
def rIxSA (K : PySem.W.Frag) : R2 := fun x y H Q => ∃ a xs j v, x = .ref a ∧ y = .int j ∧ SqA K H a xs ∧ atI xs j = some v ∧ Q v H
theorem ix_seqA {X : Cx} : IxR X (rIxSA X.K) := by
  intro value slice pins s σ H x y v u Q I rx ry h hs
  obtain ⟨a, xs, j, z, rfl, rfl, hq, e, q⟩ := h
  rcases hq with hq | hq
  · exact ix_list value slice pins s σ H (.ref a) (.int j) v u Q I rx ry ⟨a, xs, j, z, rfl, rfl, hq, e, q⟩ hs
  · exact ix_tup value slice pins s σ H (.ref a) (.int j) v u Q I rx ry ⟨a, xs, j, z, rfl, rfl, hq, e, q⟩ hs
theorem SqA.same {K : PySem.W.Frag} {H H' : Hp} {a : Addr} {xs : List V} (s : Same H H') (h : SqA K H a xs) : SqA K H' a xs := h.elim (fun h => .inl (sqL_same s h)) fun h => .inr (sqT_same s h)
theorem SqA.butN {K : PySem.W.Frag} {H H' : Hp} {r a : Addr} {xs : List V} (n : a ≠ r) (s : SameBut r H H') (h : SqA K H a xs) : SqA K H' a xs := by
  rcases h with ((h | ⟨o, h⟩) | h) | h
  · exact .inl (.inl (.inl (s _ _ n h)))
  · exact .inl (.inl (.inr ⟨o, s _ _ n h⟩))
  · exact .inl (.inr h)
  · exact .inr (sqT_but s n h)
theorem same_butD {H H3 H' : Hp} {D : Addr} (s : Same H H3) (b : SameBut D H3 H') (n : H D = none) : Same H H' := fun a o e => b a o (ne_of_none e n) (s a o e)

section
variable {P : Program} {w : World} {K : PySem.W.Frag} {mg : Str → Option Value} {base : Heap}
/-! ### _root, piece_marks -/
/-- parents, and the root of each -/
def Frst (N : Nat) (par r : List Int) : Prop := par.length = N ∧ r.length = N ∧ ∃ d : Nat → Nat, ∀ x, x < N → (0 ≤ co par x ∧ co par x < (N : Int)) ∧ ((co par x = (x : Int) ∧ co r x = (x : Int)) ∨ (co par x ≠ (x : Int) ∧ d (co par x).toNat < d x ∧ co r x = co r (co par x).toNat))
theorem Frst.root {N : Nat} {par r : List Int} (h : Frst N par r) {x : Nat} (hx : x < N) : ∃ y : Nat, co r x = (y : Int) ∧ y < N ∧ co par y = (y : Int) ∧ co r y = (y : Int) := by
  obtain ⟨_, _, d, h⟩ := h
  have run : ∀ n x, x < N → d x ≤ n → ∃ y : Nat, co r x = (y : Int) ∧ y < N ∧ co par y = (y : Int) ∧ co r y = (y : Int) := by
    intro n
    induction n with
    | zero =>
      intro x hx hd
      obtain ⟨_, ⟨e1, e2⟩ | ⟨_, c, _⟩⟩ := h x hx
      · exact ⟨x, e2, hx, e1, e2⟩
      · omega
    | succ n ih =>
      intro x hx hd
      obtain ⟨bd, ⟨e1, e2⟩ | ⟨_, c, e⟩⟩ := h x hx
      · exact ⟨x, e2, hx, e1, e2⟩
      · obtain ⟨y, ey, r⟩ := ih (co par x).toNat (by omega) (by omega)
        exact ⟨y, e.trans ey, r⟩
  exact run (d x) x hx (Nat.le_refl _)
theorem frst_start (N : Nat) : Frst N (ixs N) (ixs N) := ⟨ixs_len' N, ixs_len' N, fun _ => 0, fun x hx => by rw [co_ixs hx]; exact ⟨by omega, .inl ⟨rfl, rfl⟩⟩⟩
theorem co_setI {l : List Int} {i : Nat} {v : Int} (hi : i < l.length) (j : Nat) : co (l.set i v) j = if j = i then v else co l j := by
  unfold co
  rw [List.getD_eq_getElem?_getD, List.getD_eq_getElem?_getD, List.getElem?_set]
  by_cases c : i = j
  · rw [if_pos c, if_pos c.symm, if_pos hi]
    rfl
  · rw [if_neg c, if_neg fun z => c z.symm]
theorem Frst.join {N : Nat} {par r : List Int} (h : Frst N par r) {x y : Nat} (hx : x < N) (hy : y < N) : Frst N (par.set (co r y).toNat (co r x)) (uj r x y) := by
  obtain ⟨lo, elo, llo, plo, rlo⟩ := h.root hx
  obtain ⟨hi, ehi, lhi, phi, rhi⟩ := h.root hy
  obtain ⟨l1, l2, d, h⟩ := h
  refine ⟨by rw [List.length_set]; exact l1, by rw [uj_len]; exact l2, ?_⟩
  rw [ehi, elo, show ((hi : Int)).toNat = hi from rfl]
  have cp : ∀ z, co (par.set hi (lo : Int)) z = if z = hi then (lo : Int) else co par z := co_setI (by omega)
  have cu : ∀ z, z < N → co (uj r x y) z = if co r z = (hi : Int) then (lo : Int) else co r z := fun z hz => by
    unfold uj
    rw [co_map_lt (by omega), elo, ehi]
  by_cases same : lo = hi
  · subst same
    refine ⟨d, fun z hz => ?_⟩
    have e1 : co (par.set lo (lo : Int)) z = co par z := by
      rw [cp z]
      by_cases c : z = lo
      · rw [if_pos c, c, plo]
      · rw [if_neg c]
    have e2 : ∀ z, z < N → co (uj r x y) z = co r z := fun z hz => by
      rw [cu z hz]
      by_cases c : co r z = (lo : Int)
      · rw [if_pos c, c]
      · rw [if_neg c]
    have hz' := h z hz
    have bd : (co par z).toNat < N := by have := hz'.1; omega
    rw [e1, e2 z hz, e2 _ bd]
    exact hz'
  · refine ⟨fun z => if co r z = (hi : Int) then d z + d lo + 1 else d z, fun z hz => ?_⟩
    have hz' := h z hz
    have bd : (co par z).toNat < N := by have := hz'.1; omega
    rw [cp z, cu z hz]
    by_cases c : z = hi
    · subst c
      rw [if_pos rfl, if_pos rhi]
      refine ⟨by omega, .inr ⟨by omega, ?_, ?_⟩⟩
      · show (if co r (lo : Int).toNat = (z : Int) then _ else _) < (if co r z = (z : Int) then _ else _)
        rw [show ((lo : Int)).toNat = lo from rfl, rlo, if_neg (by omega), if_pos rhi]
        omega
      · rw [show ((lo : Int)).toNat = lo from rfl, cu lo llo, rlo, if_neg (by omega)]
    · rw [if_neg c]
      refine ⟨hz'.1, ?_⟩
      rcases hz'.2 with ⟨e1, e2⟩ | ⟨ne, e1, e2⟩
      · refine .inl ⟨e1, ?_⟩
        rw [if_neg (by rw [e2]; omega), e2]
      · refine .inr ⟨ne, ?_, ?_⟩
        · show (if co r (co par z).toNat = (hi : Int) then _ else _) < (if co r z = (hi : Int) then _ else _)
          rw [← e2]
          split <;> omega
        · rw [cu _ bd, ← e2]
def spRoot (K : PySem.W.Frag) : Sp := fun vs H Q _ => ∃ (D : Addr) (par r : List Int) (N x : Nat), vs = [.ref D, .int (x : Int)] ∧ SqL K H D (par.map V.int) ∧ Frst N par r ∧ x < N ∧ Q (.int (co r x)) H
theorem ok_root_ {f : Addr} {fd : FuncData} (F : Fun K "_root" "_root" s_root_ f fd) : FnOk P w K mg base CX0 1 f fd ["parents", "point"] (spRoot K) := by
  refine F.ok sc_root_ (fun vs H Q E h => ?_) (fun cdv A outer s H vs Q E hr h => ?_)
  · obtain ⟨D, par, r, N, x, rfl, _⟩ := h
    rfl
  · obtain ⟨D, par, r, N, x, rfl, hD, fr, hx, q⟩ := h
    refine ⟨_, (pss_cons (ps_set (i := 2) sc_root_.nd rfl (.inl rfl) (pv 1))
  (pss_cons (ps_while PassesOwn.never (pt_cmpR op_ne (pe_ix ix_list (pv 0) (pv 2) (fun _ _ => rfl)) (pv 2) (nomark _)) (pss_one (ps_set (i := 2) sc_root_.nd rfl (.inl rfl) (pe_ix ix_list (pv 0) (pv 2) (fun _ _ => rfl)))))
  (pss_one (ps_ret (pv 2))))), ?_⟩
    obtain ⟨l1, l2, d, hf⟩ := fr
    refine ⟨_, rfl, ⟨fun m σ H' => ∃ k : Nat, σ = [some (.ref D), some (.int (x : Int)), some (.int (k : Int))] ∧ H' = H ∧ k < N ∧ co r k = co r x ∧ m = d k, ⟨_, x, rfl, rfl, hx, rfl, rfl⟩, ?_⟩⟩
    rintro m σ H' ⟨k, rfl, rfl, hk, ek, rfl⟩
    have hz := hf k hk
    refine ⟨_, rfl, _, rfl, D, _, _, _, rfl, rfl, hD, at_co (by omega), _, rfl, rfl, _, rfl, ?_⟩
    rcases hz.2 with ⟨e1, e2⟩ | ⟨ne, e1, e2⟩
    · rw [e1, decide_eq_true rfl]
      refine iteF ⟨_, rfl, ?_⟩
      rw [← e2, ek]
      exact q
    · rw [decide_eq_false fun z => ne (V.int.inj z)]
      have ep : co par k = (((co par k).toNat : Nat) : Int) := by omega
      exact iteT ⟨_, fun _ _ n => n, _, rfl, _, rfl, D, _, _, _, rfl, rfl, hD, at_co (by omega), _, e1, (co par k).toNat, by rw [← ep]; rfl, rfl, by omega, by rw [← e2, ek], rfl⟩
/-- a group: a list or a tuple of points -/
def Grp (K : PySem.W.Frag) (H : Hp) (v : V) (b : List Int) : Prop := ∃ a, v = .ref a ∧ SqA K H a (b.map V.int)
theorem Grp.same {H H' : Hp} {v : V} {b : List Int} (s : Same H H') (h : Grp K H v b) : Grp K H' v b := by
  obtain ⟨a, e, h⟩ := h
  exact ⟨a, e, h.elim (fun h => .inl (sqL_same s h)) fun h => .inr (sqT_same s h)⟩
theorem sqL_butN {H H' : Hp} {r a : Addr} {xs : List V} (n : a ≠ r) (s : SameBut r H H') (h : SqL K H a xs) : SqL K H' a xs := by
  rcases h with (h | ⟨o, h⟩) | h
  · exact .inl (.inl (s _ _ n h))
  · exact .inl (.inr ⟨o, s _ _ n h⟩)
  · exact .inr h
theorem paired_get {α β : Type} {F : α → β → Prop} : ∀ {l : List α} {m : List β}, Paired F l m → ∀ {i : Nat} {x : α}, l[i]? = some x → ∃ y, m[i]? = some y ∧ F x y
  | _, _, .nil, i, x, h => nomatch h
  | _, _, .cons f _, 0, x, h => by
    obtain rfl := Option.some.inj h
    exact ⟨_, rfl, f⟩
  | _, _, .cons _ t, i + 1, x, h => paired_get t (i := i) h
theorem cut1 {h0 : Int} (tl : List Int) : ¬ (HT.sIx (h0 :: tl).length 0 (some 1) = 0 ∧ HT.sIx (h0 :: tl).length (h0 :: tl).length none = (h0 :: tl).length) := by
  rintro ⟨h, _⟩
  simp [HT.sIx] at h
def spPieceMarks (K : PySem.W.Frag) : Sp := fun vs H Q _ => ∃ (N : Nat) (a : Addr) (gs : List V) (bs : List (List Int)), vs = [.int (N : Int), .ref a] ∧ SqL K H a gs ∧ Paired (Grp K H) gs bs ∧ GBd N bs ∧ N ≤ 1000 ∧
  ∀ D H', Same H H' → H D = none → H' D = some (.lst ((pcs N bs).map V.int)) → Q (.ref D) H'
theorem ok_piece_marks {f a_root_ : Addr} {fd fd_root_ : FuncData} (F : Fun K "piece_marks" "piece_marks" s_piece_marks f fd) (z_list : mg "list" = none) (z_range : mg "range" = none)
    (G_root_ : FnOk P w K mg base CX0 1 a_root_ fd_root_ ["parents", "point"] (spRoot K)) (g_root_ : mg "_root" = some (.ref a_root_)) (k_root_ : PySem.W.keepIn K (.ref a_root_) = true) (b_root_ : Binds K fd_root_ ["parents", "point"] []) :
    FnOk P w K mg base CX0 2 f fd ["size", "groups"] (spPieceMarks K) := by
  refine F.ok sc_piece_marks (fun vs H Q E h => ?_) (fun cdv A outer s H vs Q E hr h => ?_)
  · obtain ⟨N, a, gs, bs, rfl, _⟩ := h
    rfl
  · obtain ⟨N, a, gs, bs, rfl, ha, pr, gb, hN, q⟩ := h
    refine ⟨_, (pss_cons (ps_set (i := 2) sc_piece_marks.nd rfl (.inr rfl) (pe_listRg rfl rfl z_list (prg_1 rfl z_range (pv 0))))
  (pss_cons (ps_for PassesOwn.never rfl (pi_list (pv 1)) (pg_name (i := 3) sc_piece_marks.nd rfl (.inl rfl)) (pss_one (ps_for PassesOwn.never rfl (pi_lt (pe_slice sl_seqA (pv 3) (po_some pe_int) po_none)) (pg_name (i := 4) sc_piece_marks.nd rfl (.inl rfl)) (pss_cons (ps_set (i := 5) sc_piece_marks.nd rfl (.inl rfl) (pe_call G_root_ (hr.mono (by decide)) rfl g_root_ k_root_ b_root_ .nil pass0 (pa_cons (pv 2) (pa_cons (pe_ix ix_seqA (pv 3) pe_int (fun _ _ => rfl)) pa_nil))))
  (pss_one (ps_asg (pv 5) (pg_sub (pv 2) (pe_call G_root_ (hr.mono (by decide)) rfl g_root_ k_root_ b_root_ .nil pass0 (pa_cons (pv 2) (pa_cons (pv 4) pa_nil))) set_list)))))))
  (pss_one (ps_ret (pe_lc (own := [("point", 4)]) rfl sc_piece_marks.nd (pi_range1 rfl z_range (pa_cons (pv 0) pa_nil)) (blkOk_by (N := ["size", "groups", "parents", "group", "point", "low"]) (sc := defScope s_piece_marks) (by first | decide +kernel | rfl)) (fun _ _ _ _ _ => (pg_name (i := 4) sc_piece_marks.nd rfl (.inl rfl))) (fun _ _ _ _ _ => pts_nil) (fun _ _ _ _ _ => (pe_call G_root_ (hr.mono (by decide)) rfl g_root_ k_root_ b_root_ .nil pass0 (pa_cons (pv 2) (pa_cons (pv 4) pa_nil))))))))), ?_⟩
    have szl : 20000 ≤ sizeLine := by decide
    refine ⟨_, rfl, (N : Int), rfl, RgOk.of_le (by omega) (by omega) (by omega) (by omega), fun D nD => ?_⟩
    have s1 := same_upd (o := .lst (rgV 0 (N : Int))) nD
    have hD1 : upd H D (.lst (rgV 0 (N : Int))) D = some (.lst ((ixs N).map V.int)) := by rw [upd_same, rgV_ixs (by omega)]; rfl
    revert s1 hD1
    generalize upd H D (.lst (rgV 0 (N : Int))) = H1
    intro s1 hD1
    refine ⟨_, rfl, a, rfl, ⟨_, sqL_same s1 ha⟩, for_list (xs := gs) (fun i σ H' => ∃ v3 v4 v5 par, σ = [some (.int (N : Int)), some (.ref a), some (.ref D), v3, v4, v5] ∧ Same H H' ∧ H' D = some (.lst (par.map V.int)) ∧ Frst N par (ujs (ixs N) (bs.take i)))
      ⟨none, none, none, ixs N, rfl, s1, hD1, frst_start N⟩ (fun i σ H' _ ⟨_, _, _, _, _, s', _⟩ => sqL_same s' ha) (fun i x σ H2 hx hP => ?_) (fun σ H2 hP => ?_)⟩
    · obtain ⟨v3, v4, v5, par, rfl, s2, hD2, fr⟩ := hP
      obtain ⟨b, eb, hg⟩ := paired_get pr hx
      obtain ⟨g, rfl, hg⟩ := hg.same s2
      have mb := List.mem_of_getElem? eb
      obtain ⟨ne, hb⟩ := gb b mb
      have hi : i < bs.length := (List.getElem?_eq_some_iff.mp eb).1
      obtain ⟨h0, tl, rfl⟩ : ∃ h0 tl, b = h0 :: tl := by
        cases b with
        | nil => exact absurd rfl ne
        | cons h0 tl => exact ⟨h0, tl, rfl⟩
      have hgH : SqA K H2 g ((h0 :: tl).map V.int) := ‹SqA K H2 g _›
      refine ⟨_, rfl, _, rfl, g, _, rfl, hgH, (by rw [List.length_map]; exact cut1 tl), fun p H3 s3 np hp => ?_⟩
      rw [cutI_from (by omega) (by rw [List.length_cons]; omega), show (h0 :: tl).drop (1 : Int).toNat = tl from rfl] at hp
      have hD3 := s3 _ _ hD2
      have npD : p ≠ D := fun z => by rw [z, hD2] at np; cases np
      have s03 := Same.trans s2 s3
      have hh := hb h0 List.mem_cons_self
      refine ⟨_, _, rfl, for_seq hp (fun i2 σ H' => ∃ v4 v5 par, σ = [some (.int (N : Int)), some (.ref a), some (.ref D), some (.ref g), v4, v5] ∧ SameBut D H3 H' ∧ H' D = some (.lst (par.map V.int)) ∧ Frst N par ((tl.take i2).foldl (fun l p => uj l h0.toNat p.toNat) (ujs (ixs N) (bs.take i))))
        ⟨v4, v5, par, rfl, SameBut.refl D H3, hD3, fr⟩ (fun i2 σ' H' ⟨_, _, _, _, sb, _⟩ => ⟨fun h => sqL_butN npD sb h, fun h => sqT_but sb npD h⟩) (fun i2 y σ H4 hy hP => ?_) (fun σ H4 hP => ?_)⟩
      · obtain ⟨v4, v5, par, rfl, sb, hD4, fr⟩ := hP
        have hi2 : i2 < tl.length := by have := (List.getElem?_eq_some_iff.mp hy).1; rwa [List.length_map] at this
        have ez : (tl.map V.int)[i2]? = some (.int (co tl i2)) := by rw [List.getElem?_map, co_get hi2]; rfl
        obtain rfl : V.int (co tl i2) = y := Option.some.inj (ez.symm.trans hy)
        have ht := hb (co tl i2) (List.mem_cons_of_mem _ (co_mem hi2))
        have s04 := same_butD s03 sb nD
        have hg4 := hg.same s04
        obtain ⟨g', eg, hg4⟩ := hg4
        obtain rfl := V.ref.inj eg
        have eh : h0 = ((h0.toNat : Nat) : Int) := by omega
        have et : co tl i2 = (((co tl i2).toNat : Nat) : Int) := by omega
        refine ⟨_, rfl, _, rfl, _, _, _, _, rfl, rfl, hg4, atI_nat (j := 0) rfl, D, par, _, N, h0.toNat, by rw [← eh]; rfl, .inl (.inl hD4), fr, by omega, ?_⟩
        generalize er : (tl.take i2).foldl (fun l p => uj l h0.toNat p.toNat) (ujs (ixs N) (bs.take i)) = r at fr
        obtain ⟨lo, elo, llo, _⟩ := fr.root (x := h0.toNat) (by omega)
        obtain ⟨hi, ehi, lhi, _⟩ := fr.root (x := (co tl i2).toNat) (by omega)
        have lp := fr.1
        refine ⟨_, rfl, _, rfl, _, rfl, _, rfl, D, par, r, N, (co tl i2).toNat, by rw [← et]; rfl, .inl (.inl hD4), fr, by omega, D, _, _, hi, rfl, by rw [ehi], hD4, ixN_nat (by rw [List.length_map]; omega), ?_⟩
        have fj := fr.join (x := h0.toNat) (y := (co tl i2).toNat) (by omega) (by omega)
        rw [ehi, show ((hi : Int)).toNat = hi from rfl] at fj
        refine ⟨_, _, _, rfl, sb.trans SameBut.upd, by rw [upd_same, map_set], ?_⟩
        rw [List.take_succ, co_get hi2, List.foldl_append, er]
        exact fj
      · obtain ⟨v4, v5, par, rfl, sb, hD4, fr⟩ := hP
        rw [List.length_map, List.take_length] at fr
        refine ⟨_, v4, v5, par, rfl, same_butD s03 sb nD, hD4, ?_⟩
        rw [List.take_succ, eb]
        unfold ujs
        rw [List.foldl_append]
        exact fr
    · obtain ⟨v3, v4, v5, par, rfl, s2, hD2, fr⟩ := hP
      have e : ujs (ixs N) (bs.take gs.length) = pcs N bs := by
        rw [pr.length, List.take_length]
        rfl
      rw [e] at fr
      refine ⟨_, rfl, (N : Int), rfl, by omega, by omega, fun Z nZ => ?_⟩
      have lp := fr.2.1
      have hk : ∀ {H5 : Hp}, SameBut Z H2 H5 → Same H2 H5 := fun sb b o e => sb _ _ (ne_of_none e nZ) e
      rw [show (N : Int).toNat = N from rfl]
      refine lc_range (lo := 0) (n := N) (fun i H5 => SameBut Z H2 H5 ∧ H5 Z = some (.lst (((pcs N bs).take i).map V.int))) ⟨SameBut.upd, upd_same⟩ (fun i H5 hi hP => ?_) (fun H5 hP => ?_)
      · obtain ⟨sb, hZ⟩ := hP
        refine ⟨rfl, ?_⟩
        refine ⟨_, rfl, _, rfl, D, par, _, N, i, by rw [Int.zero_add]; rfl, .inl (.inl (hk sb _ _ hD2)), fr, hi, _, hZ, by rw [List.length_map, List.length_take]; omega, sb.trans SameBut.upd, ?_⟩
        rw [upd_same, take_snoc (by omega), List.map_append]
        rfl
      · obtain ⟨sb, hZ⟩ := hP
        rw [List.take_of_length_le (Nat.le_of_eq lp)] at hZ
        exact q Z H5 (Same.trans s2 (hk sb)) (none_back s2 nZ) hZ
end
section
variable {P : Program} {w : World} {K : PySem.W.Frag} {mg : Str → Option Value} {base : Heap}
/-! ### hidden_count -/
def spHidden (K : PySem.W.Frag) : Sp := fun vs H Q _ => ∃ (a b : Addr) (ms sh : List Int), vs = [.ref a, .ref b] ∧ SqL K H a (ms.map V.int) ∧ SqL K H b (sh.map V.int) ∧ ms.length < 32 ∧ (∀ k ∈ ms, 0 ≤ k ∧ k < 32) ∧ sh.length < 64 ∧ Q (.int (hid ms sh : Nat)) H
theorem ok_hidden_count {f : Addr} {fd : FuncData} (F : Fun K "hidden_count" "hidden_count" s_hidden_count f fd) (z_len : mg "len" = none) (z_set : mg "set" = none) : FnOk P w K mg base CX0 1 f fd ["marks", "shown"] (spHidden K) := by
  refine F.ok sc_hidden_count (fun vs H Q E h => ?_) (fun cdv A outer s H vs Q E hr h => ?_)
  · obtain ⟨a, b, ms, sh, rfl, _⟩ := h
    rfl
  · obtain ⟨a, b, ms, sh, rfl, ha, hb, l1, b1, l2, q⟩ := h
    refine ⟨_, (pss_one (ps_ret (SD.pe_lenSub rfl rfl z_len rfl z_set (pv 0) (pv 1)))), ?_⟩
    refine ⟨_, rfl, a, ms, rfl, ha, l1, b1, _, rfl, b, sh, rfl, hb, l2, fun L nd mem => ?_⟩
    rw [hid_is nd mem]
    exact q
end

section
variable {P : Program} {w : World} {K : PySem.W.Frag} {mg : Str → Option Value} {base : Heap}
/-! ### put -/
def putG (n : Nat) (l1 l2 : List Int) : List (List Int) := blocksOf l1 ++ (blocksOf l2).map fun b => b.map fun p => (n : Int) + p
def putM (n m q : Nat) (l1 l2 : List Int) : List Int := pcs (n + m + q) (putG n l1 l2)
def putS (n m q : Nat) (l1 l2 : List Int) : List Int := (putM n m q l1 l2).take n ++ (putM n m q l1 l2).drop (n + m)
def spPut (CD CB CT : Addr) : Sp := fun vs H Q E => ∃ (v u : V) (n m : Int) (bs : List (List Int)) (k q : Int) (cs : List (List Int)), vs = [v, u] ∧ DGv H v n m bs ∧ DgOk n m bs ∧ DGv H u k q cs ∧ DgOk k q cs ∧
  ((¬ IsDg n m bs ∧ ∀ H', Same H H' → E (.ref CD) none H') ∨ ∃ (n' m' : Nat) (l1 : List Int), n = n' ∧ m = m' ∧ bs = blocksOf l1 ∧ siz n m = true ∧ (l1.length : Int) = n + m ∧
    ((¬ IsDg k q cs ∧ ∀ H', Same H H' → E (.ref CD) none H') ∨ ∃ (k' q' : Nat) (l2 : List Int), k = k' ∧ q = q' ∧ cs = blocksOf l2 ∧ siz k q = true ∧ (l2.length : Int) = k + q ∧
      (m' ≠ k' → ∀ H', Same H H' → E (.ref CB) none H') ∧ (m' = k' → 12 < n' + q' → ∀ H', Same H H' → E (.ref CT) none H') ∧
      (m' = k' → n' + q' ≤ 12 → ∀ (t : Addr) (v' : V) (H' : Hp), Same H H' → H' t = some (.tup [.int (hid (putM n' m' q' l1 l2) (putS n' m' q' l1 l2) : Nat), v']) → DgAt H' v' n' q' (putS n' m' q' l1 l2) → Q (.ref t) H')))
/-- a list of points, elsewhere -/
def LQ (Z : Addr) (H : Hp) (v : V) (b : List Int) : Prop := ∃ t, v = .ref t ∧ t ≠ Z ∧ H t = some (.lst (b.map V.int))
theorem putG_bd {n m q : Nat} {l1 l2 : List Int} (h1 : l1.length = n + m) (h2 : l2.length = m + q) : GBd (n + m + q) (putG n l1 l2) := fun g hg => by
  rcases List.mem_append.mp hg with hg | hg
  · have := blocks_gbd l1 g hg
    exact ⟨this.1, fun p hp => by have := this.2 p hp; omega⟩
  · obtain ⟨b, hb, rfl⟩ := List.mem_map.mp hg
    have := blocks_gbd l2 b hb
    refine ⟨fun z => this.1 (List.map_eq_nil_iff.mp z), fun p hp => ?_⟩
    obtain ⟨x, hx, rfl⟩ := List.mem_map.mp hp
    have := this.2 x hx
    omega
theorem ok_put {f CD CB CT a_check_diagram a_piece_marks a_hidden_count a_from_labels : Addr} {tm_MOST_POINTS : Tok} {fd fd_check_diagram fd_piece_marks fd_hidden_count fd_from_labels : FuncData} (F : Fun K "put" "put" s_put f fd) (TB : ErrC K mg "BadNumber" CB) (TT0 : ErrC K mg "TooLarge" CT) (z_list : mg "list" = none) (m_MOST_POINTS : mg "MOST_POINTS" = some (.int 12 tm_MOST_POINTS))
    (G_check_diagram : FnOk P w K mg base (L2N.CX P w) 3 a_check_diagram fd_check_diagram ["diagram"] (spCheckDiagram CD)) (g_check_diagram : mg "check_diagram" = some (.ref a_check_diagram)) (k_check_diagram : PySem.W.keepIn K (.ref a_check_diagram) = true) (b_check_diagram : Binds K fd_check_diagram ["diagram"] [])
    (G_piece_marks : FnOk P w K mg base CX0 2 a_piece_marks fd_piece_marks ["size", "groups"] (spPieceMarks K)) (g_piece_marks : mg "piece_marks" = some (.ref a_piece_marks)) (k_piece_marks : PySem.W.keepIn K (.ref a_piece_marks) = true) (b_piece_marks : Binds K fd_piece_marks ["size", "groups"] [])
    (G_hidden_count : FnOk P w K mg base CX0 1 a_hidden_count fd_hidden_count ["marks", "shown"] (spHidden K)) (g_hidden_count : mg "hidden_count" = some (.ref a_hidden_count)) (k_hidden_count : PySem.W.keepIn K (.ref a_hidden_count) = true) (b_hidden_count : Binds K fd_hidden_count ["marks", "shown"] [])
    (G_from_labels : FnOk P w K mg base (L2N.CX P w) 3 a_from_labels fd_from_labels ["n", "m", "marks"] (spFromLabels K CB)) (g_from_labels : mg "from_labels" = some (.ref a_from_labels)) (k_from_labels : PySem.W.keepIn K (.ref a_from_labels) = true) (b_from_labels : Binds K fd_from_labels ["n", "m", "marks"] []) :
    FnOk P w K mg base (L2N.CX P w) 4 f fd ["one", "other"] (spPut CD CB CT) := by
  obtain ⟨gc_BadNumber, x_BadNumber, kc_BadNumber, bc_BadNumber, tc_BadNumber⟩ := TB
  obtain ⟨gc_TooLarge, x_TooLarge, kc_TooLarge, bc_TooLarge, tc_TooLarge⟩ := TT0
  have r_MOST_POINTS : RelV (.int 12) (.int 12 tm_MOST_POINTS) := ⟨_, rfl⟩
  refine F.okXN sc_put (fun vs H Q E h => ?_) (fun cdv A outer s H vs Q E hr h => ?_)
  · obtain ⟨v, u, n, m, bs, k, q, cs, rfl, _⟩ := h
    rfl
  · obtain ⟨v, u, n, m, bs, k, q, cs, rfl, hv, hb, hu, hc, h⟩ := h
    refine ⟨_, (pss_cons (ps_expr (pe_call G_check_diagram (hr.mono (by decide)) rfl g_check_diagram k_check_diagram b_check_diagram .nil (L2N.passes_call (L2N.takes_of rfl rfl rfl rfl) (fun _ _ _ _ h => h)) (pa_cons (pv 0) pa_nil)))
  (pss_cons (ps_expr (pe_call G_check_diagram (hr.mono (by decide)) rfl g_check_diagram k_check_diagram b_check_diagram .nil (L2N.passes_call (L2N.takes_of rfl rfl rfl rfl) (fun _ _ _ _ h => h)) (pa_cons (pv 1) pa_nil)))
  (pss_cons (ps_asg (pv 0) (pg_tup rfl (pgs_cons (pg_name (i := 2) sc_put.nd rfl (.inr rfl)) (pgs_cons (pg_name (i := 3) sc_put.nd rfl (.inl rfl)) (pgs_cons (pg_name (i := 4) sc_put.nd rfl (.inl rfl)) pgs_nil)))))
  (pss_cons (ps_asg (pv 1) (pg_tup rfl (pgs_cons (pg_name (i := 5) sc_put.nd rfl (.inl rfl)) (pgs_cons (pg_name (i := 6) sc_put.nd rfl (.inl rfl)) (pgs_cons (pg_name (i := 7) sc_put.nd rfl (.inl rfl)) pgs_nil)))))
  (pss_cons (ps_if (pt_cmpR op_ne (pv 3) (pv 5) (nomark _)) (pss_one (L2N.ps_raise rfl (L2N.takes_of rfl rfl rfl rfl) (L2N.pmk_own PySem.F.excBase_ValueError x_BadNumber gc_BadNumber kc_BadNumber (raises_own bc_BadNumber tc_BadNumber) rfl))) pss_nil)
  (pss_cons (ps_if (pt_cmpR op_gt (pe_op op_add (pv 2) (pv 6)) (pe_glob rfl m_MOST_POINTS r_MOST_POINTS) (nomark _)) (pss_one (L2N.ps_raise rfl (L2N.takes_of rfl rfl rfl rfl) (L2N.pmk_own PySem.F.excBase_ValueError x_TooLarge gc_TooLarge kc_TooLarge (raises_own bc_TooLarge tc_TooLarge) rfl))) pss_nil)
  (pss_cons (ps_set (i := 8) sc_put.nd rfl (.inl rfl) (pe_op op_cat (pe_callTy call_list_of (by rfl) z_list boot_list (pa_cons (pv 4) pa_nil)) (pe_lc (own := [("block", 11)]) rfl sc_put.nd (pi_tup (pv 7)) (blkOk_by (N := ["one", "other", "n", "m", "upper", "k", "q", "lower", "groups", "marks", "shown", "block", "point"]) (sc := defScope s_put) (by first | decide +kernel | rfl)) (fun _ _ _ _ _ => (pg_name (i := 11) sc_put.nd rfl (.inl rfl))) (fun _ _ _ _ _ => pts_nil) (fun _ _ _ _ _ => (pe_lc (own := [("point", 12)]) rfl sc_put.nd (pi_tupK (K := K) rfl (pv 11)) (blkOk_by (N := ["one", "other", "n", "m", "upper", "k", "q", "lower", "groups", "marks", "shown", "block", "point"]) (by first | decide +kernel | rfl)) (fun _ _ _ _ _ => (pg_name (i := 12) sc_put.nd rfl (.inl rfl))) (fun _ _ _ _ _ => pts_nil) (fun _ _ _ _ _ => (pe_op op_add (pv 2) (pv 12))))))))
  (pss_cons (ps_set (i := 9) sc_put.nd rfl (.inl rfl) (pe_call G_piece_marks (hr.mono (by decide)) rfl g_piece_marks k_piece_marks b_piece_marks .nil pass0 (pa_cons (pe_op op_add (pe_op op_add (pv 2) (pv 3)) (pv 6)) (pa_cons (pv 8) pa_nil))))
  (pss_cons (ps_set (i := 10) sc_put.nd rfl (.inl rfl) (pe_op op_cat (pe_slice sl_list (pv 9) po_none (po_some (pv 2))) (pe_slice sl_list (pv 9) (po_some (pe_op op_add (pv 2) (pv 3))) po_none)))
  (pss_one (ps_ret (pe_tup (pa_cons (pe_call G_hidden_count (hr.mono (by decide)) rfl g_hidden_count k_hidden_count b_hidden_count .nil pass0 (pa_cons (pv 9) (pa_cons (pv 10) pa_nil))) (pa_cons (pe_call G_from_labels (hr.mono (by decide)) rfl g_from_labels k_from_labels b_from_labels .nil (L2N.passes_call (L2N.takes_of rfl rfl rfl rfl) (fun _ _ _ _ h => h)) (pa_cons (pv 2) (pa_cons (pv 6) (pa_cons (pv 10) pa_nil)))) pa_nil)))))))))))))), ?_⟩
    have szl : 20000 ≤ sizeLine := by decide
    rcases h with ⟨nd, e⟩ | ⟨n', m', l1, rfl, rfl, rfl, sz1, hl1, h⟩
    · exact ⟨_, rfl, v, n, m, bs, rfl, hv, hb, fun H1 s1 => ⟨fun dg => absurd dg nd, fun _ => e H1 s1⟩⟩
    refine ⟨_, rfl, v, _, _, _, rfl, hv, hb, fun H1 s1 => ⟨fun dg1 => ?_, fun nd => absurd (isDg_blocks sz1 hl1) nd⟩⟩
    rcases h with ⟨nd, e⟩ | ⟨k', q', l2, rfl, rfl, rfl, sz2, hl2, qB, qT, q⟩
    · exact ⟨_, rfl, u, k, q, cs, rfl, hu.same s1, hc, fun H2 s2 => ⟨fun dg => absurd dg nd, fun _ => e H2 (Same.trans s1 s2)⟩⟩
    refine ⟨_, rfl, u, _, _, _, rfl, hu.same s1, hc, fun H2 s2 => ⟨fun dg2 => ?_, fun nd => absurd (isDg_blocks sz2 hl2) nd⟩⟩
    have s02 := Same.trans s1 s2
    obtain ⟨t, vb, rfl, ht, tb, ts, rfl, htb, pr⟩ := DGv.same s02 hv
    obtain ⟨t', vb', rfl, ht', tb', ts', rfl, htb', pr'⟩ := DGv.same s02 hu
    have z1 := siz_iff.mp sz1
    have z2 := siz_iff.mp sz2
    refine ⟨_, rfl, t, _, rfl, .inl (.inl ht), rfl, _, _, rfl, _, _, rfl, _, _, rfl, rfl, ?_⟩
    refine ⟨_, rfl, t', _, rfl, .inl (.inl ht'), rfl, _, _, rfl, _, _, rfl, _, _, rfl, rfl, ?_⟩
    refine ⟨_, rfl, _, rfl, rfl, _, rfl, ?_⟩
    by_cases c : m' = k'
    · subst c
      refine ite_same ?_
      refine ⟨_, rfl, _, rfl, _, _, rfl, rfl, _, _, rfl, rfl, _, rfl, ?_⟩
      by_cases c2 : n' + q' ≤ 12
      · refine if_neg_of (by rw [decide_eq_true_eq]; omega) ?_
        have q := q rfl c2
        refine ⟨_, rfl, tb, ts, rfl, .inr (.inl (.inl htb)), fun Lb nLb => ?_⟩
        have s3 := same_upd (o := .lst ts) nLb
        have hLb : upd H2 Lb (.lst ts) Lb = some (.lst ts) := upd_same
        revert s3 hLb
        generalize upd H2 Lb (.lst ts) = H3
        intro s3 hLb
        have htb3 := s3 _ _ htb'
        refine ⟨_, rfl, tb', rfl, ⟨_, .inl (.inl htb3)⟩, fun Z nZ => ?_⟩
        have hk : ∀ {H5 : Hp}, SameBut Z H3 H5 → Same H3 H5 := fun sb b o e => sb _ _ (ne_of_none e nZ) e
        refine lc_tup (K := K) (xs := ts') (fun i H5 => SameBut Z H3 H5 ∧ ∃ es, H5 Z = some (.lst es) ∧ Paired (LQ Z H5) es (((blocksOf l2).take i).map fun b => b.map fun p => (n' : Int) + p)) ⟨SameBut.upd, [], upd_same, .nil⟩ (fun i H5 _ hP => .inl (.inl (hk hP.1 _ _ htb3))) (fun i x H5 hx hP => ?_) (fun H5 hP => ?_)
        · obtain ⟨sb, es, hZ, pe⟩ := hP
          obtain ⟨b, eb, hb0⟩ := paired_get pr' hx
          obtain ⟨a, rfl, ha⟩ := hb0.same (Same.trans s3 (hk sb))
          have mb := List.mem_of_getElem? eb
          have fb := dg2.few.2 b mb
          have fl := dg2.few.1
          have li := (List.getElem?_eq_some_iff.mp eb).1
          have lt : es.length = i := by
            rw [pe.length, List.length_map, List.length_take]
            have := (List.getElem?_eq_some_iff.mp eb).1
            omega
          refine ⟨rfl, ?_⟩
          refine ⟨_, rfl, a, rfl, ⟨_, .inl (.inl ha)⟩, fun Y nY => ?_⟩
          have nYZ : Y ≠ Z := fun z => by rw [z, hZ] at nY; cases nY
          have hk2 : ∀ {H6 : Hp}, SameBut Y H5 H6 → Same H5 H6 := fun sb b o e => sb _ _ (ne_of_none e nY) e
          refine lc_tup (K := K) (xs := b.map V.int) (fun j H6 => SameBut Y H5 H6 ∧ H6 Y = some (.lst (((b.take j).map fun p => (n' : Int) + p).map V.int))) ⟨SameBut.upd, upd_same⟩ (fun j H6 _ hP => .inl (.inl (hk2 hP.1 _ _ ha))) (fun j y H6 hy hP => ?_) (fun H6 hP => ?_)
          · obtain ⟨sb2, hY⟩ := hP
            have lj : j < b.length := by have := (List.getElem?_eq_some_iff.mp hy).1; rwa [List.length_map] at this
            have ez : (b.map V.int)[j]? = some (.int (co b j)) := by rw [List.getElem?_map, co_get lj]; rfl
            obtain rfl : V.int (co b j) = y := Option.some.inj (ez.symm.trans hy)
            refine ⟨rfl, ?_⟩
            refine ⟨_, rfl, _, rfl, _, _, rfl, rfl, _, hY, by rw [List.length_map, List.length_map, List.length_take]; omega, sb2.trans SameBut.upd, ?_⟩
            rw [upd_same, take_snoc lj, List.map_append, List.map_append]
            rfl
          · obtain ⟨sb2, hY⟩ := hP
            rw [List.length_map, List.take_length] at hY
            have s6 := hk2 sb2
            refine ⟨es, s6 _ _ hZ, by omega, (sb.trans (Same.but s6)).trans SameBut.upd, es ++ [.ref Y], upd_same, ?_⟩
            rw [List.take_succ, eb, List.map_append]
            have one : LQ Z (upd H6 Z (.lst (es ++ [.ref Y]))) (.ref Y) (b.map fun p => (n' : Int) + p) := ⟨Y, rfl, nYZ, by rw [upd_ne nYZ]; exact hY⟩
            have old := Paired.mapP (G := LQ Z (upd H6 Z (.lst (es ++ [.ref Y])))) pe fun v b (h : LQ Z H5 v b) => (by
              obtain ⟨q0, e0, nz, h0⟩ := h
              exact ⟨q0, e0, nz, by rw [upd_ne nz]; exact s6 _ _ h0⟩)
            exact paired_snoc one old
        · obtain ⟨sb, es, hZ, pe⟩ := hP
          have s4 := hk sb
          have lts : ts'.length = (blocksOf l2).length := pr'.length
          rw [lts, List.take_length] at pe
          have f1 := dg1.few.1
          have f2 := dg2.few.1
          refine ⟨_, _, _, _, rfl, rfl, s4 _ _ hLb, hZ, by rw [pr.length, pe.length, List.length_map]; omega, fun G nG => ?_⟩
          have s5 := same_upd (o := .lst (ts ++ es)) nG
          have hG : upd H5 G (.lst (ts ++ es)) G = some (.lst (ts ++ es)) := upd_same
          have pg : Paired (Grp K (upd H5 G (.lst (ts ++ es)))) (ts ++ es) (putG n' l1 l2) := by
            refine paired_app (Paired.mapP pr fun _ _ h => ?_) (Paired.mapP pe fun _ _ h => ?_)
            · obtain ⟨a0, e0, h0⟩ := h.same (Same.trans s3 (Same.trans s4 s5))
              exact ⟨a0, e0, .inr (.inl (.inl h0))⟩
            · obtain ⟨a0, e0, _, h0⟩ := h
              exact ⟨a0, e0, .inl (.inl (.inl (s5 _ _ h0)))⟩
          revert s5 hG pg
          generalize upd H5 G (.lst (ts ++ es)) = H6
          intro s5 hG pg
          have lN1 : l1.length = n' + m' := by omega
          have lN2 : l2.length = m' + q' := by omega
          have gb := putG_bd lN1 lN2
          refine ⟨_, rfl, _, rfl, _, _, rfl, rfl, _, rfl, _, _, rfl, rfl, _, rfl, n' + m' + q', G, _, _, rfl, .inl (.inl hG), pg, gb, by omega, fun D H7 s7 nD hD => ?_⟩
          have lM : (putM n' m' q' l1 l2).length = n' + m' + q' := (ks_pcs gb).len
          rw [show pcs (n' + m' + q') (putG n' l1 l2) = putM n' m' q' l1 l2 from rfl] at hD
          refine ⟨_, rfl, _, rfl, _, rfl, D, _, rfl, .inl (.inl hD), fun p1 np1 => ?_⟩
          have q1 := same_upd (o := .lst (cutV ((putM n' m' q' l1 l2).map V.int) none (some (n' : Int)))) np1
          refine ⟨_, rfl, _, rfl, _, rfl, _, _, rfl, rfl, _, rfl, D, _, rfl, .inl (.inl (q1 _ _ hD)), fun p2 np2 => ?_⟩
          have q2 := same_upd (o := .lst (cutV ((putM n' m' q' l1 l2).map V.int) (some ((n' : Int) + (m' : Int))) none)) np2
          rw [cutI_to (by omega) (by omega), cutI_from (by omega) (by omega)] at *
          refine ⟨_, _, _, _, rfl, rfl, q2 _ _ upd_same, upd_same, by rw [List.length_map, List.length_map, List.length_take, List.length_drop]; omega, fun p3 np3 => ?_⟩
          have eS : ((putM n' m' q' l1 l2).take (n' : Int).toNat).map V.int ++ ((putM n' m' q' l1 l2).drop ((n' : Int) + (m' : Int)).toNat).map V.int = (putS n' m' q' l1 l2).map V.int := by
            unfold putS
            rw [← List.map_append, show ((n' : Int) + (m' : Int)).toNat = n' + m' by omega]
            rfl
          have lS : (putS n' m' q' l1 l2).length = n' + q' := by
            unfold putS
            rw [List.length_append, List.length_take, List.length_drop, lM]
            omega
          have q3 := same_upd (o := .lst (((putM n' m' q' l1 l2).take (n' : Int).toNat).map V.int ++ ((putM n' m' q' l1 l2).drop ((n' : Int) + (m' : Int)).toNat).map V.int)) np3
          have s8 := Same.trans q1 (Same.trans q2 q3)
          have hD8 := s8 _ _ hD
          revert s8 hD8
          rw [eS]
          generalize e8 : upd (upd (upd H7 p1 _) p2 _) p3 (.lst ((putS n' m' q' l1 l2).map V.int)) = H8
          intro s8 hD8
          have hS8 : H8 p3 = some (.lst ((putS n' m' q' l1 l2).map V.int)) := by rw [← e8]; exact upd_same
          have s08 := Same.trans s02 (Same.trans s3 (Same.trans s4 (Same.trans s5 (Same.trans s7 s8))))
          refine ⟨_, rfl, _, rfl, D, p3, _, _, rfl, .inl (.inl hD8), .inl (.inl hS8), by omega, fun k hk => ?_, by omega, ?_⟩
          · have := pcs_mem gb k hk
            omega
          · refine ⟨_, rfl, _, rfl, _, rfl, _, _, p3, _, rfl, .inl (.inl hS8), by omega, fun z => ?_, fun sz3 => ⟨fun z => absurd (show ((putS n' m' q' l1 l2).length : Int) = (n' : Int) + (q' : Int) by omega) z, fun _ v' H9 s9 dv => ?_⟩⟩
            · have : siz (n' : Int) (q' : Int) = true := siz_iff.mpr (by omega)
              rw [this] at z
              exact nomatch z
            · refine ⟨(by show 2 ≤ sizeLine; decide), fun t3 nt3 => ?_⟩
              have q4 := same_upd (o := .tup [.int (hid (putM n' m' q' l1 l2) (putS n' m' q' l1 l2) : Nat), v']) nt3
              exact q t3 v' _ (Same.trans s08 (Same.trans s9 q4)) upd_same ⟨dv.same q4, siz_iff.mpr (by omega), by omega⟩
      · refine if_pos_of (by rw [decide_eq_true_eq]; omega) (qT rfl (by omega) H2 s02)
    · exact if_pos_of (by rw [decide_eq_false fun z => c (by have := V.int.inj z; omega)]; rfl) (qB c H2 s02)
end

/-! ### one above another: the same in both ways -/
def inoutL (a b : Nat) (z : List Int) : List Int := z.take a ++ z.drop b
theorem inout_len {a b : Nat} {z : List Int} (h : a ≤ b) (hb : b ≤ z.length) : (inoutL a b z).length = a + (z.length - b) := by
  unfold inoutL
  rw [List.length_append, List.length_take, List.length_drop]
  omega
theorem co_drop (z : List Int) (b i : Nat) : co (z.drop b) i = co z (b + i) := by
  unfold co
  rw [List.getD_eq_getElem?_getD, List.getD_eq_getElem?_getD, List.getElem?_drop]
theorem co_takeB {z : List Int} {a i : Nat} (h : i < a) : co (z.take a) i = co z i := by
  unfold co
  rw [List.getD_eq_getElem?_getD, List.getD_eq_getElem?_getD, List.getElem?_take_of_lt h]
theorem inout_co {a b : Nat} {z : List Int} (h : a ≤ b) (hb : b ≤ z.length) (i : Nat) (hi : i < a + (z.length - b)) : co (inoutL a b z) i = if i < a then co z i else co z (b + (i - a)) := by
  have la : (z.take a).length = a := by rw [List.length_take]; omega
  unfold inoutL
  by_cases c : i < a
  · rw [if_pos c, co_app_l (by omega), co_takeB c]
  · rw [if_neg c]
    have := co_app_r (a := z.take a) (b := z.drop b) (i := i - a) (by rw [List.length_drop]; omega)
    rw [la, show a + (i - a) = i by omega] at this
    rw [this, co_drop]
theorem inout_mem {a b : Nat} {z : List Int} {x : Int} (h : a ≤ b) (hb : b ≤ z.length) : x ∈ inoutL a b z ↔ ∃ p, (p < a ∨ b ≤ p) ∧ p < z.length ∧ co z p = x := by
  constructor
  · intro hx
    obtain ⟨i, hi, e⟩ := mem_get hx
    rw [inout_len h hb] at hi
    rw [inout_co h hb i hi] at e
    by_cases c : i < a
    · rw [if_pos c] at e
      exact ⟨i, .inl c, by omega, e⟩
    · rw [if_neg c] at e
      exact ⟨b + (i - a), .inr (by omega), by omega, e⟩
  · rintro ⟨p, hp, hl, rfl⟩
    rcases hp with hp | hp
    · have := inout_co h hb p (by omega)
      rw [if_pos hp] at this
      rw [← this]
      exact co_mem (by rw [inout_len h hb]; omega)
    · have := inout_co h hb (a + (p - b)) (by omega)
      rw [if_neg (by omega), show b + (a + (p - b) - a) = p by omega] at this
      rw [← this]
      exact co_mem (by rw [inout_len h hb]; omega)
def Fput (n m q : Nat) (l1 l2 : List Int) (i j : Nat) : Prop := (i < n + m ∧ j < n + m ∧ co l1 i = co l1 j) ∨ ∃ a b, a < m + q ∧ b < m + q ∧ i = n + a ∧ j = n + b ∧ co l2 a = co l2 b
theorem map_add_toNat {n : Nat} {g : List Int} (hg : g ≠ []) (h : ∀ p ∈ g, 0 ≤ p) : (co (g.map fun p => (n : Int) + p) 0).toNat = n + (co g 0).toNat := by
  have l0 : 0 < g.length := by cases g with | nil => exact absurd rfl hg | cons _ _ => exact Nat.zero_lt_succ _
  rw [co_map_lt l0]
  have := h _ (co_mem l0)
  omega
theorem ks_putM {n m q : Nat} {l1 l2 : List Int} (h1 : l1.length = n + m) (h2 : l2.length = m + q) : Ks (n + m + q) (putM n m q l1 l2) (Fput n m q l1 l2) := by
  refine (ks_pcs (putG_bd h1 h2)).congr (fun i j h => ?_) (fun i j h => ?_) (fun i j h => ?_)
  · rcases h with ⟨a, b, _⟩ | ⟨a, b, ha, hb, rfl, rfl, _⟩
    · exact ⟨by omega, by omega⟩
    · exact ⟨by omega, by omega⟩
  · obtain ⟨g, hg, p, hp, e1, e2⟩ := h
    rcases List.mem_append.mp hg with hg | hg
    · obtain ⟨a, b, e⟩ := blocks_ge i j ⟨g, hg, p, hp, e1, e2⟩
      exact .ed (.inl ⟨by omega, by omega, e⟩)
    · obtain ⟨b, hb, rfl⟩ := List.mem_map.mp hg
      have bb := blocks_gbd l2 b hb
      rw [← List.map_drop] at hp
      obtain ⟨x, hx, rfl⟩ := List.mem_map.mp hp
      have bx := bb.2 x (List.mem_of_mem_drop hx)
      obtain ⟨c1, c2, c3⟩ := blocks_ge (l := l2) (co b 0).toNat x.toNat ⟨b, hb, x, hx, rfl, rfl⟩
      rw [map_add_toNat bb.1 fun p hp => (bb.2 p hp).1] at e1
      exact .ed (.inr ⟨_, _, by omega, by omega, e1, by omega, c3⟩)
  · rcases h with ⟨a, b, e⟩ | ⟨a, b, ha, hb, rfl, rfl, e⟩
    · exact (ge_blocks (by omega) (by omega) e).mono fun i j ⟨g, hg, r⟩ => .ed ⟨g, List.mem_append_left _ hg, r⟩
    · refine (ge_blocks (l := l2) (i := a) (j := b) (by omega) (by omega) e).map (f := fun x => n + x) fun i j ⟨g, hg, p, hp, e1, e2⟩ => .ed ?_
      have bb := blocks_gbd l2 g hg
      have bx := bb.2 p (List.mem_of_mem_drop hp)
      refine ⟨g.map fun p => (n : Int) + p, List.mem_append_right _ (List.mem_map.mpr ⟨g, hg, rfl⟩), (n : Int) + p, by rw [← List.map_drop]; exact List.mem_map.mpr ⟨p, hp, rfl⟩, ?_, by omega⟩
      rw [map_add_toNat bb.1 fun p hp => (bb.2 p hp).1, e1]
/-- the law's own -/
def lputL (n m : Nat) : List (Nat × Nat) := (List.range m).map fun k => (n + k, n + m + k)
def lputB (n m q : Nat) (l1 l2 : List Int) : List Int := labL (blocksOf l1) (n + m) ++ (labL (blocksOf l2) (m + q)).map fun k => 100 + k
def lputJ (n m q : Nat) (l1 l2 : List Int) : List Int := jns (lputB n m q l1 l2) (lputL n m)
def lputS (n m q : Nat) (l1 l2 : List Int) : List Int := inoutL n (n + m + m) (lputJ n m q l1 l2)
def Eput (n m q : Nat) (l1 l2 : List Int) (i j : Nat) : Prop := (i < n + m ∧ j < n + m ∧ co l1 i = co l1 j) ∨ (∃ a b, a < m + q ∧ b < m + q ∧ i = n + m + a ∧ j = n + m + b ∧ co l2 a = co l2 b) ∨ ∃ k, k < m ∧ i = n + k ∧ j = n + m + k
theorem lab_ker {N : Nat} {l : List Int} (hl : l.length = N) {i j : Nat} (hi : i < N) (hj : j < N) : co (labL (blocksOf l) N) i = co (labL (blocksOf l) N) j ↔ co l i = co l j := by
  obtain ⟨g, eg, inj⟩ := labs_map (n := (N : Int)) (m := 0) (l := l) (by omega)
  rw [show ((N : Int) + 0).toNat = N by omega] at eg
  rw [eg, co_map_lt (by omega), co_map_lt (by omega)]
  exact ⟨fun e => inj _ (co_mem (by omega)) _ (co_mem (by omega)) e, fun e => by rw [e]⟩
theorem ks_lputJ {n m q : Nat} {l1 l2 : List Int} (h1 : l1.length = n + m) (h2 : l2.length = m + q) (sm : n + m ≤ 12) : Ks (n + m + m + q) (lputJ n m q l1 l2) (Eput n m q l1 l2) := by
  have L1 : (labL (blocksOf l1) (n + m)).length = n + m := labL_len _ _
  have L2 : (labL (blocksOf l2) (m + q)).length = m + q := labL_len _ _
  have lB : (lputB n m q l1 l2).length = n + m + m + q := by
    unfold lputB
    rw [List.length_append, List.length_map, L1, L2]
    omega
  have cl : ∀ i, i < n + m → co (lputB n m q l1 l2) i = co (labL (blocksOf l1) (n + m)) i := fun i hi => co_app_l (by omega)
  have cr : ∀ a, a < m + q → co (lputB n m q l1 l2) (n + m + a) = 100 + co (labL (blocksOf l2) (m + q)) a := fun a ha => by
    have := co_app_r (a := labL (blocksOf l1) (n + m)) (b := (labL (blocksOf l2) (m + q)).map fun k => 100 + k) (i := a) (by rw [List.length_map]; omega)
    rw [L1] at this
    exact this.trans (co_map_lt (by omega))
  have b1 : (blocksOf l1).length ≤ 12 := by
    have h3 := seenL_len l1 []
    have h4 : ([] : List Int).length = 0 := rfl
    unfold blocksOf
    rw [List.length_map]
    omega
  have up1 : ∀ i, i < n + m → co (lputB n m q l1 l2) i < 100 := fun i hi => by
    rw [cl i hi]
    have := labL_mem (bs := blocksOf l1) (N := n + m) _ (co_mem (k := i) (by omega))
    omega
  have lo2 : ∀ a, a < m + q → 100 ≤ co (lputB n m q l1 l2) (n + m + a) := fun a ha => by
    rw [cr a ha]
    have := labL_mem (bs := blocksOf l2) (N := m + q) _ (co_mem (k := a) (by omega))
    omega
  have k0 := ks_marks (lputB n m q l1 l2)
  rw [lB] at k0
  have kk := ks_jns (lputL n m) _ _ (fun e he => by
    obtain ⟨k, hk, rfl⟩ := List.mem_map.mp he
    have := List.mem_range.mp hk
    exact ⟨by show n + k < _; omega, by show n + m + k < _; omega⟩) k0
  refine kk.congr (fun i j h => ?_) (fun i j h => ?_) (fun i j h => ?_)
  · rcases h with ⟨a, b, _⟩ | ⟨a, b, ha, hb, rfl, rfl, _⟩ | ⟨k, hk, rfl, rfl⟩ <;> exact ⟨by omega, by omega⟩
  · rcases h with ⟨a, b, e⟩ | h
    · by_cases c1 : i < n + m
      · by_cases c2 : j < n + m
        · rw [cl i c1, cl j c2] at e
          exact .ed (.inl ⟨c1, c2, (lab_ker h1 c1 c2).mp e⟩)
        · have := lo2 (j - (n + m)) (by omega)
          rw [show n + m + (j - (n + m)) = j by omega] at this
          have := up1 i c1
          omega
      · by_cases c2 : j < n + m
        · have := lo2 (i - (n + m)) (by omega)
          rw [show n + m + (i - (n + m)) = i by omega] at this
          have := up1 j c2
          omega
        · obtain ⟨x, rfl⟩ : ∃ x, i = n + m + x := ⟨i - (n + m), by omega⟩
          obtain ⟨y, rfl⟩ : ∃ y, j = n + m + y := ⟨j - (n + m), by omega⟩
          rw [cr x (by omega), cr y (by omega)] at e
          exact .ed (.inr (.inl ⟨x, y, by omega, by omega, rfl, rfl, (lab_ker h2 (by omega) (by omega)).mp (by omega)⟩))
    · obtain ⟨k, hk, e⟩ := List.mem_map.mp h
      have e1 := congrArg Prod.fst e
      have e2 := congrArg Prod.snd e
      exact .ed (.inr (.inr ⟨k, List.mem_range.mp hk, e1.symm, e2.symm⟩))
  · rcases h with ⟨a, b, e⟩ | ⟨a, b, ha, hb, rfl, rfl, e⟩ | ⟨k, hk, rfl, rfl⟩
    · refine .ed (.inl ⟨by omega, by omega, ?_⟩)
      rw [cl i a, cl j b]
      exact (lab_ker h1 a b).mpr e
    · refine .ed (.inl ⟨by omega, by omega, ?_⟩)
      rw [cr a ha, cr b hb, (lab_ker h2 ha hb).mpr e]
    · exact .ed (.inr (List.mem_map.mpr ⟨k, List.mem_range.mpr hk, rfl⟩))
def fput (n m i : Nat) : Nat := if i < n + m then i else i - m
theorem fput_sec (n m p : Nat) : fput n m (if p < n + m then p else p + m) = p := by
  by_cases c : p < n + m
  · rw [if_pos c]
    exact if_pos c
  · rw [if_neg c]
    unfold fput
    by_cases d : p + m < n + m
    · rw [if_pos d]
      omega
    · rw [if_neg d]
      omega
theorem conn_put {n m q : Nat} {l1 l2 : List Int} {i j : Nat} (hi : i < n + m + m + q) (hj : j < n + m + m + q) : Conn (Eput n m q l1 l2) i j ↔ Conn (Fput n m q l1 l2) (fput n m i) (fput n m j) := by
  have fhi : ∀ a, fput n m (n + m + a) = n + a := fun a => by unfold fput; rw [if_neg (by omega)]; omega
  have flo : ∀ i, i < n + m → fput n m i = i := fun i h => if_pos h
  constructor
  · refine Conn.map fun i j h => ?_
    rcases h with ⟨a, b, e⟩ | ⟨a, b, ha, hb, rfl, rfl, e⟩ | ⟨k, hk, rfl, rfl⟩
    · rw [flo i a, flo j b]
      exact .ed (.inl ⟨a, b, e⟩)
    · rw [fhi, fhi]
      exact .ed (.inr ⟨a, b, ha, hb, rfl, rfl, e⟩)
    · rw [fhi, flo _ (by omega)]
      exact .rf _
  · intro c
    have near : ∀ a, a < m + q → Conn (Eput n m q l1 l2) (if n + a < n + m then n + a else n + a + m) (n + m + a) := fun a ha => by
      by_cases c : n + a < n + m
      · rw [if_pos c]
        exact .ed (.inr (.inr ⟨a, by omega, rfl, rfl⟩))
      · rw [if_neg c, show n + a + m = n + m + a by omega]
        exact .rf _
    have back := Conn.map (F := Eput n m q l1 l2) (f := fun x => if x < n + m then x else x + m) (fun i j h => ?_) c
    · have home : ∀ i, i < n + m + m + q → Conn (Eput n m q l1 l2) (if fput n m i < n + m then fput n m i else fput n m i + m) i := fun i hi => by
        by_cases c : i < n + m
        · rw [flo i c, if_pos c]
          exact .rf _
        · obtain ⟨a, rfl⟩ : ∃ a, i = n + m + a := ⟨i - (n + m), by omega⟩
          rw [fhi]
          exact near a (by omega)
      exact ((home i hi).sy.tr back).tr (home j hj)
    · rcases h with ⟨a, b, e⟩ | ⟨a, b, ha, hb, rfl, rfl, e⟩
      · show Conn _ (if i < n + m then i else i + m) (if j < n + m then j else j + m)
        rw [if_pos a, if_pos b]
        exact .ed (.inl ⟨a, b, e⟩)
      · exact ((near a ha).tr (.ed (.inr (.inl ⟨a, b, ha, hb, rfl, rfl, e⟩)))).tr (near b hb).sy
theorem put_same {n m q : Nat} {l1 l2 : List Int} (h1 : l1.length = n + m) (h2 : l2.length = m + q) (sm : n + m ≤ 12) : hid (lputJ n m q l1 l2) (lputS n m q l1 l2) = hid (putM n m q l1 l2) (putS n m q l1 l2) ∧ blocksOf (lputS n m q l1 l2) = blocksOf (putS n m q l1 l2) := by
  have kM := ks_putM h1 h2
  have kJ := ks_lputJ h1 h2 sm
  have eqv : ∀ i j, i < n + m + m + q → j < n + m + m + q → (co (lputJ n m q l1 l2) i = co (lputJ n m q l1 l2) j ↔ co (putM n m q l1 l2) (fput n m i) = co (putM n m q l1 l2) (fput n m j)) := fun i j hi hj => by
    have f1 : fput n m i < n + m + q := by unfold fput; split <;> omega
    have f2 : fput n m j < n + m + q := by unfold fput; split <;> omega
    rw [kJ.eq i j hi hj, kM.eq _ _ f1 f2]
    exact conn_put hi hj
  have lJ := kJ.len
  have lM := kM.len
  have sS : putS n m q l1 l2 = inoutL n (n + m) (putM n m q l1 l2) := rfl
  constructor
  · refine hid_map (fput n m) (fun i hi => by rw [lJ] at hi; rw [lM]; unfold fput; split <;> omega) (fun i hi => ?_) (fun i j hi hj => by rw [lJ] at hi hj; exact eqv i j hi hj) fun i hi => ?_
    · rw [lM] at hi
      exact ⟨if i < n + m then i else i + m, by rw [lJ]; split <;> omega, by rw [fput_sec]⟩
    · rw [lJ] at hi
      rw [sS]
      unfold lputS
      rw [inout_mem (by omega) (by omega), inout_mem (by omega) (by omega)]
      constructor
      · rintro ⟨p, hp, hl, e⟩
        rw [lJ] at hl
        refine ⟨fput n m p, ?_, by rw [lM]; unfold fput; split <;> omega, (eqv p i hl hi).mp e⟩
        unfold fput
        split <;> omega
      · rintro ⟨p, hp, hl, e⟩
        rw [lM] at hl
        refine ⟨if p < n + m then p else p + m, ?_, by rw [lJ]; split <;> omega, ?_⟩
        · split <;> omega
        · refine (eqv _ i (by split <;> omega) hi).mpr ?_
          rw [fput_sec]
          exact e
  · refine KerEq.blocks ⟨?_, fun i j hi hj => ?_⟩
    · rw [sS]
      unfold lputS
      rw [inout_len (by omega) (by omega), inout_len (by omega) (by omega), lJ, lM]
      omega
    · rw [sS, inout_len (by omega) (by omega), lM] at hi hj
      rw [sS]
      unfold lputS
      rw [inout_co (by omega) (by omega) i (by omega), inout_co (by omega) (by omega) j (by omega), inout_co (by omega) (by omega) i (by omega), inout_co (by omega) (by omega) j (by omega)]
      have f : ∀ i, i < n + (n + m + q - (n + m)) → ∃ p, p < n + m + m + q ∧ (if i < n then co (lputJ n m q l1 l2) i else co (lputJ n m q l1 l2) (n + m + m + (i - n))) = co (lputJ n m q l1 l2) p ∧ (if i < n then co (putM n m q l1 l2) i else co (putM n m q l1 l2) (n + m + (i - n))) = co (putM n m q l1 l2) (fput n m p) := fun i hi => by
        by_cases c : i < n
        · refine ⟨i, by omega, if_pos c, ?_⟩
          rw [if_pos c]
          congr 1
          unfold fput
          rw [if_pos (by omega)]
        · refine ⟨n + m + m + (i - n), by omega, if_neg c, ?_⟩
          rw [if_neg c]
          congr 1
          unfold fput
          rw [if_neg (by omega)]
          omega
      obtain ⟨p, hp, e1, e2⟩ := f i hi
      obtain ⟨r, hr, e3, e4⟩ := f j hj
      rw [e1, e2, e3, e4]
      exact (eqv p r hp hr).symm

/-! ### three one above another -/
theorem two_hid {NT NR NP : Nat} {T R P S shT shR : List Int} {e ι : Nat → Nat} {oT oR : Nat → Prop} (lT : T.length = NT) (lR : R.length = NR) (lP : P.length = NP)
    (he : ∀ i, i < NR → e i < NT) (hι : ∀ p, p < NP → ι p < NT)
    (h1 : ∀ i j, i < NR → j < NR → (co R i = co R j ↔ co T (e i) = co T (e j)))
    (h2 : ∀ p, p < NP → co P p ∉ S → ∀ y, y < NT → co T (ι p) = co T y → ∃ p', p' < NP ∧ y = ι p' ∧ co P p' = co P p)
    (hinj : ∀ p p', p < NP → p' < NP → ι p = ι p' → p = p')
    (h3 : ∀ p p', p < NP → p' < NP → co P p = co P p' → co T (ι p) = co T (ι p'))
    (h4 : ∀ x, x < NT → (∃ i, i < NR ∧ co T (e i) = co T x) ∨ ∃ p, p < NP ∧ x = ι p ∧ co P p ∉ S)
    (h5 : ∀ x, x < NT → oT x → ∃ i, i < NR ∧ oR i ∧ e i = x) (h5' : ∀ i, i < NR → oR i → oT (e i))
    (h7 : ∀ i p, i < NR → p < NP → e i = ι p → co P p ∈ S)
    (sT : ∀ k, k ∈ shT ↔ ∃ x, x < NT ∧ oT x ∧ co T x = k) (sR : ∀ k, k ∈ shR ↔ ∃ x, x < NR ∧ oR x ∧ co R x = k) :
    hid T shT = hid P S + hid R shR := by
  have memF : ∀ (b sb : List Int) k, k ∈ (seenL [] b).filter (fun k => decide (k ∉ sb)) ↔ k ∈ b ∧ k ∉ sb := fun b sb k => by
    rw [List.mem_filter, seenL_mem, decide_eq_true_eq]
    exact ⟨fun z => ⟨z.1.elim (fun q => nomatch q) id, z.2⟩, fun z => ⟨.inr z.1, z.2⟩⟩
  have ndF : ∀ (b sb : List Int), ((seenL [] b).filter fun k => decide (k ∉ sb)).Nodup := fun b sb => (seenL_nodup b [] List.nodup_nil).filter _
  have iP : ∀ {v}, v ∈ P → P.idxOf v < NP ∧ co P (P.idxOf v) = v := fun hv => by rw [← lP]; exact ixf_co hv
  have iR : ∀ {v}, v ∈ R → R.idxOf v < NR ∧ co R (R.idxOf v) = v := fun hv => by rw [← lR]; exact ixf_co hv
  have key : ∀ i p, i < NR → p < NP → co P p ∉ S → co T (e i) ≠ co T (ι p) := fun i p hi hp hn z => by
    obtain ⟨p', hp', ey, ev⟩ := h2 p hp hn (e i) (he i hi) z.symm
    exact hn (by rw [← ev]; exact h7 i p' hi hp' ey)
  have e0 : hid P S + hid R shR = (((seenL [] P).filter fun k => decide (k ∉ S)).map (fun v => co T (ι (P.idxOf v))) ++ ((seenL [] R).filter fun k => decide (k ∉ shR)).map fun v => co T (e (R.idxOf v))).length := by
    rw [List.length_append, List.length_map, List.length_map]
    rfl
  rw [e0]
  refine (hid_is ?_ fun k => ?_).symm
  · refine List.nodup_append.mpr ⟨?_, ?_, ?_⟩
    · refine List.Pairwise.map _ (R := fun x y => (x ∈ P ∧ x ∉ S) ∧ y ∈ P ∧ x ≠ y) (fun x y ⟨hx, hy, ne⟩ z => ?_) (List.Pairwise.imp_of_mem (fun hx hy ne => ⟨(memF _ _ _).mp hx, ((memF _ _ _).mp hy).1, ne⟩) (ndF P S))
      have m1 := iP hx.1
      have m2 := iP hy
      obtain ⟨p', hp', ey, ev⟩ := h2 _ m1.1 (by rw [m1.2]; exact hx.2) _ (hι _ m2.1) z
      have := hinj _ _ m2.1 hp' ey
      rw [← this, m2.2, m1.2] at ev
      exact ne ev.symm
    · refine List.Pairwise.map _ (R := fun x y => x ∈ R ∧ y ∈ R ∧ x ≠ y) (fun x y ⟨hx, hy, ne⟩ z => ?_) (List.Pairwise.imp_of_mem (fun hx hy ne => ⟨((memF _ _ _).mp hx).1, ((memF _ _ _).mp hy).1, ne⟩) (ndF R shR))
      have m1 := iR hx
      have m2 := iR hy
      have := (h1 _ _ m1.1 m2.1).mpr z
      rw [m1.2, m2.2] at this
      exact ne this
    · intro x hx y hy z
      obtain ⟨v, hv, rfl⟩ := List.mem_map.mp hx
      obtain ⟨u, hu, rfl⟩ := List.mem_map.mp hy
      have m1 := iP ((memF _ _ _).mp hv).1
      have m2 := iR ((memF _ _ _).mp hu).1
      exact key _ _ m2.1 m1.1 (by rw [m1.2]; exact ((memF _ _ _).mp hv).2) z.symm
  · rw [List.mem_append, List.mem_map, List.mem_map]
    constructor
    · rintro (⟨v, hv, rfl⟩ | ⟨v, hv, rfl⟩)
      · obtain ⟨hv, hn⟩ := (memF _ _ _).mp hv
        have m := iP hv
        refine ⟨co_mem (by rw [lT]; exact hι _ m.1), fun z => ?_⟩
        obtain ⟨x, hx, ox, ex⟩ := (sT _).mp z
        obtain ⟨i, hi, _, rfl⟩ := h5 x hx ox
        exact key i _ hi m.1 (by rw [m.2]; exact hn) ex
      · obtain ⟨hv, hn⟩ := (memF _ _ _).mp hv
        have m := iR hv
        refine ⟨co_mem (by rw [lT]; exact he _ m.1), fun z => hn ?_⟩
        obtain ⟨x, hx, ox, ex⟩ := (sT _).mp z
        obtain ⟨i, hi, oi, rfl⟩ := h5 x hx ox
        exact (sR _).mpr ⟨i, hi, oi, ((h1 _ _ hi m.1).mpr ex).trans m.2⟩
    · rintro ⟨hk, hn⟩
      obtain ⟨x, hx, rfl⟩ := mem_get hk
      rw [lT] at hx
      rcases h4 x hx with ⟨i, hi, ei⟩ | ⟨p, hp, rfl, hp'⟩
      · right
        have mi : co R i ∈ R := co_mem (by rw [lR]; exact hi)
        have m := iR mi
        refine ⟨co R i, (memF _ _ _).mpr ⟨mi, fun z => hn ?_⟩, ((h1 _ _ m.1 hi).mp m.2).trans ei⟩
        obtain ⟨j, hj, oj, ej⟩ := (sR _).mp z
        exact (sT _).mpr ⟨e j, he j hj, h5' j hj oj, ((h1 _ _ hj hi).mp ej).trans ei⟩
      · left
        have mp : co P p ∈ P := co_mem (by rw [lP]; exact hp)
        have m := iP mp
        exact ⟨co P p, (memF _ _ _).mpr ⟨mp, hp'⟩, h3 _ _ m.1 hp m.2⟩
def eA (n m i : Nat) : Nat := if i < n then i else i + m
theorem eA_lo {n m i : Nat} (h : i < n) : eA n m i = i := if_pos h
theorem eA_hi {n m i : Nat} (h : n ≤ i) : eA n m i = i + m := if_neg (by omega)
theorem cutA_co {n m q : Nat} {P : List Int} (hP : P.length = n + m + q) {i : Nat} (hi : i < n + q) : co (inoutL n (n + m) P) i = co P (eA n m i) := by
  rw [inout_co (by omega) (by omega) i (by omega)]
  by_cases c : i < n
  · rw [if_pos c, eA_lo c]
  · rw [if_neg c, eA_hi (by omega)]
    congr 1
    omega
theorem connA {n m q r : Nat} {P l3 : List Int} (hP : P.length = n + m + q) {i j : Nat} (hi : i < n + q + r) (hj : j < n + q + r) :
    Conn (Fput n q r (inoutL n (n + m) P) l3) i j ↔ Conn (Fput (n + m) q r P l3) (eA n m i) (eA n m j) := by
  have lS : (inoutL n (n + m) P).length = n + q := by rw [inout_len (by omega) (by omega)]; omega
  constructor
  · refine Conn.map (f := eA n m) fun i j h => .ed ?_
    rcases h with ⟨a, b, c⟩ | ⟨a, b, ha, hb, rfl, rfl, c⟩
    · rw [cutA_co hP a, cutA_co hP b] at c
      refine .inl ⟨?_, ?_, c⟩
      · unfold eA; split <;> omega
      · unfold eA; split <;> omega
    · exact .inr ⟨a, b, ha, hb, by rw [eA_hi (by omega)]; omega, by rw [eA_hi (by omega)]; omega, c⟩
  · intro h
    have mS : ∀ x, x < n + m + q → (x < n ∨ n + m ≤ x) → co P x ∈ inoutL n (n + m) P := fun x hx ho => (inout_mem (by omega) (by omega)).mpr ⟨x, ho, by omega, rfl⟩
    -- a point of the outer ones has its like
    have like : ∀ i, i < n + q → Conn (Fput n q r (inoutL n (n + m) P) l3) ((inoutL n (n + m) P).idxOf (co P (eA n m i))) i := fun i hi => by
      have hx : co P (eA n m i) ∈ inoutL n (n + m) P := by rw [← cutA_co hP hi]; exact co_mem (by omega)
      have m := ixf_co hx
      rw [lS] at m
      exact .ed (.inl ⟨m.1, hi, by rw [m.2, cutA_co hP hi]⟩)
    have low : ∀ i, i < n + q → eA n m i < n + m + q := fun i hi => by unfold eA; split <;> omega
    have cm := Conn.map (F := Fput n q r (inoutL n (n + m) P) l3) (f := fun x => if x < n + m + q then (inoutL n (n + m) P).idxOf (co P x) else x - m) (fun x y h => ?_) h
    · have fin : ∀ i, i < n + q + r → Conn (Fput n q r (inoutL n (n + m) P) l3) ((fun x => if x < n + m + q then (inoutL n (n + m) P).idxOf (co P x) else x - m) (eA n m i)) i := fun i hi => by
        by_cases c : i < n + q
        · show Conn _ (if _ then _ else _) i
          rw [if_pos (low i c)]
          exact like i c
        · show Conn _ (if _ then _ else _) i
          rw [eA_hi (by omega), if_neg (by omega), show i + m - m = i by omega]
          exact .rf _
      exact .tr (.sy (fin i hi)) (.tr cm (fin j hj))
    · rcases h with ⟨a, b, c⟩ | ⟨a, b, ha, hb, rfl, rfl, c⟩
      · show Conn _ (if _ then _ else _) (if _ then _ else _)
        rw [if_pos a, if_pos b, c]
        exact .rf _
      · have go : ∀ a, a < q + r → Conn (Fput n q r (inoutL n (n + m) P) l3) ((fun x => if x < n + m + q then (inoutL n (n + m) P).idxOf (co P x) else x - m) (n + m + a)) (n + a) := fun a ha => by
          by_cases c : a < q
          · have := like (n + a) (by omega)
            rw [eA_hi (by omega), show n + a + m = n + m + a by omega] at this
            show Conn _ (if _ then _ else _) _
            rw [if_pos (by omega)]
            exact this
          · show Conn _ (if _ then _ else _) _
            rw [if_neg (by omega), show n + m + a - m = n + a by omega]
            exact .rf _
        exact .tr (go a ha) (.tr (.ed (.inr ⟨a, b, ha, hb, rfl, rfl, c⟩)) (.sy (go b hb)))
theorem assocA {n m q r : Nat} {P l3 : List Int} (hP : P.length = n + m + q) (h3 : l3.length = q + r) :
    hid (putM (n + m) q r P l3) (inoutL n (n + m + q) (putM (n + m) q r P l3)) = hid P (inoutL n (n + m) P) + hid (putM n q r (inoutL n (n + m) P) l3) (putS n q r (inoutL n (n + m) P) l3) ∧
    KerEq (inoutL n (n + m + q) (putM (n + m) q r P l3)) (putS n q r (inoutL n (n + m) P) l3) := by
  have lS : (inoutL n (n + m) P).length = n + q := by rw [inout_len (by omega) (by omega)]; omega
  have kT := ks_putM (n := n + m) (m := q) (q := r) hP h3
  have kR := ks_putM (n := n) (m := q) (q := r) lS h3
  have lT := kT.len
  have lR := kR.len
  have e1 : ∀ i j, i < n + q + r → j < n + q + r → (co (putM n q r (inoutL n (n + m) P) l3) i = co (putM n q r (inoutL n (n + m) P) l3) j ↔ co (putM (n + m) q r P l3) (eA n m i) = co (putM (n + m) q r P l3) (eA n m j)) := fun i j hi hj => by
    rw [kR.eq i j hi hj, kT.eq _ _ (by unfold eA; split <;> omega) (by unfold eA; split <;> omega)]
    exact connA hP hi hj
  have sS : putS n q r (inoutL n (n + m) P) l3 = inoutL n (n + q) (putM n q r (inoutL n (n + m) P) l3) := rfl
  have outS : ∀ x, x < n + m + q → (x < n ∨ n + m ≤ x) → co P x ∈ inoutL n (n + m) P := fun x hx ho => (inout_mem (by omega) (by omega)).mpr ⟨x, ho, by omega, rfl⟩
  constructor
  · rw [sS]
    refine two_hid (e := eA n m) (ι := id) (oT := fun x => x < n ∨ n + m + q ≤ x) (oR := fun i => i < n ∨ n + q ≤ i) lT lR hP (fun i hi => by unfold eA; split <;> omega) (fun p hp => by show p < _; omega) e1 ?_ (fun _ _ _ _ h => h) ?_ ?_ ?_ ?_ ?_ ?_ ?_
    · intro p hp hn y hy c
      have c := (kT.eq _ _ (by show p < _; omega) hy).mp c
      have kp := Conn.keep (g := fun x => decide (x < n + m + q ∧ co P x = co P p)) (fun x y h => ?_) c
      · have : decide (p < n + m + q ∧ co P p = co P p) = true := decide_eq_true ⟨hp, rfl⟩
        have z : decide (y < n + m + q ∧ co P y = co P p) = true := by rw [← this]; exact kp.symm
        have z := of_decide_eq_true z
        exact ⟨y, z.1, rfl, z.2⟩
      · rcases h with ⟨a, b, c⟩ | ⟨a, b, ha, hb, rfl, rfl, c⟩
        · show decide _ = decide _
          rw [c]
          exact decide_eq_decide.mpr ⟨fun z => ⟨b, z.2⟩, fun z => ⟨a, z.2⟩⟩
        · have no : ∀ a, ¬ (n + m + a < n + m + q ∧ co P (n + m + a) = co P p) := fun a z => hn (by rw [← z.2]; exact outS _ z.1 (.inr (by omega)))
          show decide _ = decide _
          rw [decide_eq_false (no a), decide_eq_false (no b)]
    · intro p p' hp hp' e
      exact (kT.eq _ _ (by show p < _; omega) (by show p' < _; omega)).mpr (.ed (.inl ⟨hp, hp', e⟩))
    · intro x hx
      by_cases c : x < n + m + q
      · by_cases d : co P x ∈ inoutL n (n + m) P
        · left
          have md := ixf_co d
          rw [lS] at md
          refine ⟨(inoutL n (n + m) P).idxOf (co P x), by have := md.1; omega, (kT.eq _ _ (by have := md.1; unfold eA; split <;> omega) hx).mpr (.ed (.inl ⟨?_, c, ?_⟩))⟩
          · have := md.1
            unfold eA; split <;> omega
          · rw [← cutA_co hP md.1, md.2]
        · exact .inr ⟨x, c, rfl, d⟩
      · left
        exact ⟨x - m, by omega, by rw [eA_hi (by omega), show x - m + m = x by omega]⟩
    · intro x hx o
      rcases o with o | o
      · exact ⟨x, by omega, .inl o, eA_lo o⟩
      · exact ⟨x - m, by omega, .inr (by omega), by rw [eA_hi (by omega)]; omega⟩
    · intro i hi o
      rcases o with o | o
      · exact .inl (by rw [eA_lo o]; exact o)
      · exact .inr (by rw [eA_hi (by omega)]; omega)
    · intro i p hi hp e
      have e : eA n m i = p := e
      refine outS p hp ?_
      unfold eA at e
      split at e <;> omega
    · intro k
      rw [inout_mem (by omega) (by omega), lT]
      exact ⟨fun ⟨p, a, b, c⟩ => ⟨p, b, a, c⟩, fun ⟨p, a, b, c⟩ => ⟨p, b, a, c⟩⟩
    · intro k
      rw [inout_mem (by omega) (by omega), lR]
      exact ⟨fun ⟨p, a, b, c⟩ => ⟨p, b, a, c⟩, fun ⟨p, a, b, c⟩ => ⟨p, b, a, c⟩⟩
  · rw [sS]
    refine ⟨by rw [inout_len (by omega) (by omega), inout_len (by omega) (by omega)]; omega, fun i j hi hj => ?_⟩
    rw [inout_len (by omega) (by omega), lT] at hi hj
    have f : ∀ i, i < n + (n + m + q + r - (n + m + q)) → ∃ p, p < n + q + r ∧ co (inoutL n (n + m + q) (putM (n + m) q r P l3)) i = co (putM (n + m) q r P l3) (eA n m p) ∧ co (inoutL n (n + q) (putM n q r (inoutL n (n + m) P) l3)) i = co (putM n q r (inoutL n (n + m) P) l3) p := fun i hi => by
      rw [inout_co (by omega) (by omega) i (by omega), inout_co (by omega) (by omega) i (by omega)]
      by_cases c : i < n
      · exact ⟨i, by omega, by rw [if_pos c, eA_lo c], by rw [if_pos c]⟩
      · refine ⟨n + q + (i - n), by omega, ?_, by rw [if_neg c]⟩
        rw [if_neg c, eA_hi (by omega)]
        congr 1
        omega
    obtain ⟨p, hp, a1, a2⟩ := f i hi
    obtain ⟨p', hp', b1, b2⟩ := f j hj
    rw [a1, a2, b1, b2]
    exact (e1 p p' hp hp').symm
theorem eA_add {n m q a : Nat} : eA (n + m) q (n + a) = n + eA m q a := by
  unfold eA
  split <;> split <;> omega
theorem connB {n m q r : Nat} {P l1 : List Int} (hP : P.length = m + q + r) {i j : Nat} (hi : i < n + m + r) (hj : j < n + m + r) :
    Conn (Fput n m r l1 (inoutL m (m + q) P)) i j ↔ Conn (Fput n m (q + r) l1 P) (eA (n + m) q i) (eA (n + m) q j) := by
  have lS : (inoutL m (m + q) P).length = m + r := by rw [inout_len (by omega) (by omega)]; omega
  constructor
  · refine Conn.map (f := eA (n + m) q) fun i j h => .ed ?_
    rcases h with ⟨a, b, c⟩ | ⟨a, b, ha, hb, rfl, rfl, c⟩
    · exact .inl ⟨by rw [eA_lo a]; exact a, by rw [eA_lo b]; exact b, by rw [eA_lo a, eA_lo b]; exact c⟩
    · rw [cutA_co hP ha, cutA_co hP hb] at c
      exact .inr ⟨eA m q a, eA m q b, by unfold eA; split <;> omega, by unfold eA; split <;> omega, eA_add, eA_add, c⟩
  · intro h
    have like : ∀ a, a < m + r → Conn (Fput n m r l1 (inoutL m (m + q) P)) (n + (inoutL m (m + q) P).idxOf (co P (eA m q a))) (n + a) := fun a ha => by
      have hx : co P (eA m q a) ∈ inoutL m (m + q) P := by rw [← cutA_co hP ha]; exact co_mem (by omega)
      have md := ixf_co hx
      rw [lS] at md
      exact .ed (.inr ⟨_, a, md.1, ha, rfl, rfl, by rw [md.2, cutA_co hP ha]⟩)
    have cm := Conn.map (F := Fput n m r l1 (inoutL m (m + q) P)) (f := fun x => if x < n then x else n + (inoutL m (m + q) P).idxOf (co P (x - n))) (fun x y h => ?_) h
    · have fin : ∀ i, i < n + m + r → Conn (Fput n m r l1 (inoutL m (m + q) P)) ((fun x => if x < n then x else n + (inoutL m (m + q) P).idxOf (co P (x - n))) (eA (n + m) q i)) i := fun i hi => by
        show Conn _ (if _ then _ else _) i
        by_cases c : i < n
        · rw [eA_lo (by omega), if_pos c]
          exact .rf _
        · obtain ⟨a, rfl⟩ : ∃ a, i = n + a := ⟨i - n, by omega⟩
          rw [eA_add, if_neg (by omega), Nat.add_sub_cancel_left]
          exact like a (by omega)
      exact .tr (.sy (fin i hi)) (.tr cm (fin j hj))
    · rcases h with ⟨a, b, c⟩ | ⟨a, b, ha, hb, rfl, rfl, c⟩
      · have go : ∀ x, x < n + m → Conn (Fput n m r l1 (inoutL m (m + q) P)) ((fun x => if x < n then x else n + (inoutL m (m + q) P).idxOf (co P (x - n))) x) x := fun x hx => by
          show Conn _ (if _ then _ else _) x
          by_cases d : x < n
          · rw [if_pos d]
            exact .rf _
          · obtain ⟨a, rfl⟩ : ∃ a, x = n + a := ⟨x - n, by omega⟩
            have := like a (by omega)
            rw [eA_lo (by omega)] at this
            rw [if_neg d, Nat.add_sub_cancel_left]
            exact this
        exact .tr (go x a) (.tr (.ed (.inl ⟨a, b, c⟩)) (.sy (go y b)))
      · show Conn _ (if _ then _ else _) (if _ then _ else _)
        rw [if_neg (by omega), if_neg (by omega), Nat.add_sub_cancel_left, Nat.add_sub_cancel_left, c]
        exact .rf _
theorem assocB {n m q r : Nat} {P l1 : List Int} (hP : P.length = m + q + r) (h1 : l1.length = n + m) :
    hid (putM n m (q + r) l1 P) (inoutL n (n + m + q) (putM n m (q + r) l1 P)) = hid P (inoutL m (m + q) P) + hid (putM n m r l1 (inoutL m (m + q) P)) (putS n m r l1 (inoutL m (m + q) P)) ∧
    KerEq (inoutL n (n + m + q) (putM n m (q + r) l1 P)) (putS n m r l1 (inoutL m (m + q) P)) := by
  have lS : (inoutL m (m + q) P).length = m + r := by rw [inout_len (by omega) (by omega)]; omega
  have kT := ks_putM (n := n) (m := m) (q := q + r) h1 (l2 := P) (by omega)
  have kR := ks_putM (n := n) (m := m) (q := r) h1 lS
  have lT := kT.len
  have lR := kR.len
  have e1 : ∀ i j, i < n + m + r → j < n + m + r → (co (putM n m r l1 (inoutL m (m + q) P)) i = co (putM n m r l1 (inoutL m (m + q) P)) j ↔ co (putM n m (q + r) l1 P) (eA (n + m) q i) = co (putM n m (q + r) l1 P) (eA (n + m) q j)) := fun i j hi hj => by
    rw [kR.eq i j hi hj, kT.eq _ _ (by unfold eA; split <;> omega) (by unfold eA; split <;> omega)]
    exact connB hP hi hj
  have sS : putS n m r l1 (inoutL m (m + q) P) = inoutL n (n + m) (putM n m r l1 (inoutL m (m + q) P)) := rfl
  have outS : ∀ x, x < m + q + r → (x < m ∨ m + q ≤ x) → co P x ∈ inoutL m (m + q) P := fun x hx ho => (inout_mem (by omega) (by omega)).mpr ⟨x, ho, by omega, rfl⟩
  constructor
  · rw [sS]
    refine two_hid (e := eA (n + m) q) (ι := fun p => n + p) (oT := fun x => x < n ∨ n + m + q ≤ x) (oR := fun i => i < n ∨ n + m ≤ i) lT lR hP (fun i hi => by unfold eA; split <;> omega) (fun p hp => by show n + p < _; omega) e1 ?_ (fun _ _ _ _ h => Nat.add_left_cancel h) ?_ ?_ ?_ ?_ ?_ ?_ ?_
    · intro p hp hn y hy c
      have c := (kT.eq _ _ (by show n + p < _; omega) hy).mp c
      have kp := Conn.keep (g := fun x => decide (n ≤ x ∧ co P (x - n) = co P p)) (fun x y h => ?_) c
      · have : decide (n ≤ n + p ∧ co P (n + p - n) = co P p) = true := decide_eq_true ⟨by omega, by rw [Nat.add_sub_cancel_left]⟩
        have z : decide (n ≤ y ∧ co P (y - n) = co P p) = true := by rw [← this]; exact kp.symm
        have z := of_decide_eq_true z
        exact ⟨y - n, by omega, by show y = n + (y - n); omega, z.2⟩
      · rcases h with ⟨a, b, c⟩ | ⟨a, b, ha, hb, rfl, rfl, c⟩
        · have no : ∀ x, x < n + m → ¬ (n ≤ x ∧ co P (x - n) = co P p) := fun x hx z => hn (by rw [← z.2]; exact outS _ (by omega) (.inl (by omega)))
          show decide _ = decide _
          rw [decide_eq_false (no x a), decide_eq_false (no y b)]
        · show decide _ = decide _
          rw [Nat.add_sub_cancel_left, Nat.add_sub_cancel_left, c]
          exact decide_eq_decide.mpr ⟨fun z => ⟨by omega, z.2⟩, fun z => ⟨by omega, z.2⟩⟩
    · intro p p' hp hp' e
      exact (kT.eq _ _ (by show n + p < _; omega) (by show n + p' < _; omega)).mpr (.ed (.inr ⟨p, p', by omega, by omega, rfl, rfl, e⟩))
    · intro x hx
      by_cases c : x < n
      · exact .inl ⟨x, by omega, by rw [eA_lo (by omega)]⟩
      · obtain ⟨p, rfl⟩ : ∃ p, x = n + p := ⟨x - n, by omega⟩
        by_cases d : co P p ∈ inoutL m (m + q) P
        · left
          have md := ixf_co d
          rw [lS] at md
          refine ⟨n + (inoutL m (m + q) P).idxOf (co P p), by have := md.1; omega, (kT.eq _ _ (by have := md.1; unfold eA; split <;> omega) hx).mpr (.ed (.inr ⟨eA m q ((inoutL m (m + q) P).idxOf (co P p)), p, ?_, by omega, eA_add, rfl, ?_⟩))⟩
          · have := md.1
            unfold eA; split <;> omega
          · rw [← cutA_co hP md.1, md.2]
        · exact .inr ⟨p, by omega, rfl, d⟩
    · intro x hx o
      rcases o with o | o
      · exact ⟨x, by omega, .inl o, eA_lo (by omega)⟩
      · exact ⟨x - q, by omega, .inr (by omega), by rw [eA_hi (by omega)]; omega⟩
    · intro i hi o
      rcases o with o | o
      · exact .inl (by rw [eA_lo (by omega)]; exact o)
      · exact .inr (by rw [eA_hi (by omega)]; omega)
    · intro i p hi hp e
      have e : eA (n + m) q i = n + p := e
      refine outS p hp ?_
      unfold eA at e
      split at e <;> omega
    · intro k
      rw [inout_mem (by omega) (by omega), lT]
      exact ⟨fun ⟨p, a, b, c⟩ => ⟨p, b, a, c⟩, fun ⟨p, a, b, c⟩ => ⟨p, b, a, c⟩⟩
    · intro k
      rw [inout_mem (by omega) (by omega), lR]
      exact ⟨fun ⟨p, a, b, c⟩ => ⟨p, b, a, c⟩, fun ⟨p, a, b, c⟩ => ⟨p, b, a, c⟩⟩
  · rw [sS]
    refine ⟨by rw [inout_len (by omega) (by omega), inout_len (by omega) (by omega)]; omega, fun i j hi hj => ?_⟩
    rw [inout_len (by omega) (by omega), lT] at hi hj
    have f : ∀ i, i < n + (n + m + (q + r) - (n + m + q)) → ∃ p, p < n + m + r ∧ co (inoutL n (n + m + q) (putM n m (q + r) l1 P)) i = co (putM n m (q + r) l1 P) (eA (n + m) q p) ∧ co (inoutL n (n + m) (putM n m r l1 (inoutL m (m + q) P))) i = co (putM n m r l1 (inoutL m (m + q) P)) p := fun i hi => by
      rw [inout_co (by omega) (by omega) i (by omega), inout_co (by omega) (by omega) i (by omega)]
      by_cases c : i < n
      · exact ⟨i, by omega, by rw [if_pos c, eA_lo (by omega)], by rw [if_pos c]⟩
      · refine ⟨n + m + (i - n), by omega, ?_, by rw [if_neg c]⟩
        rw [if_neg c, eA_hi (by omega)]
        congr 1
        omega
    obtain ⟨p, hp, a1, a2⟩ := f i hi
    obtain ⟨p', hp', b1, b2⟩ := f j hj
    rw [a1, a2, b1, b2]
    exact (e1 p p' hp hp').symm
theorem ker_both {n m q r : Nat} {l1 l2 l3 : List Int} (h1 : l1.length = n + m) (h2 : l2.length = m + q) (h3 : l3.length = q + r) : KerEq (putM (n + m) q r (putM n m q l1 l2) l3) (putM n m (q + r) l1 (putM m q r l2 l3)) := by
  have kP := ks_putM h1 h2
  have kQ := ks_putM h2 h3
  have kT := ks_putM (n := n + m) (m := q) (q := r) kP.len h3
  have kU := ks_putM (n := n) (m := m) (q := q + r) h1 (l2 := putM m q r l2 l3) (by have := kQ.len; omega)
  refine Ks.ker (N := n + m + q + r) (E := Fput n m (q + r) l1 (putM m q r l2 l3)) (kT.congr (fun i j h => ?_) (fun i j h => ?_) (fun i j h => ?_)) ⟨by have := kU.len; omega, fun i j h => ?_, fun i j hi hj => kU.eq i j (by omega) (by omega)⟩
  · have := kU.bd i j h
    omega
  · rcases h with ⟨a, b, c⟩ | ⟨a, b, ha, hb, rfl, rfl, c⟩
    · refine ((kP.eq i j a b).mp c).mono fun i j h => .ed ?_
      rcases h with h | ⟨a, b, ha, hb, rfl, rfl, c⟩
      · exact .inl h
      · exact .inr ⟨a, b, by omega, by omega, rfl, rfl, (kQ.eq a b (by omega) (by omega)).mpr (.ed (.inl ⟨ha, hb, c⟩))⟩
    · exact .ed (.inr ⟨m + a, m + b, by omega, by omega, by omega, by omega, (kQ.eq _ _ (by omega) (by omega)).mpr (.ed (.inr ⟨a, b, ha, hb, rfl, rfl, c⟩))⟩)
  · rcases h with ⟨a, b, c⟩ | ⟨a, b, ha, hb, rfl, rfl, c⟩
    · exact .ed (.inl ⟨by omega, by omega, (kP.eq i j (by omega) (by omega)).mpr (.ed (.inl ⟨a, b, c⟩))⟩)
    · refine ((kQ.eq a b (by omega) (by omega)).mp c).map (f := fun x => n + x) fun i j h => .ed ?_
      rcases h with ⟨a, b, c⟩ | ⟨a, b, ha, hb, rfl, rfl, c⟩
      · exact .inl ⟨by omega, by omega, (kP.eq _ _ (by omega) (by omega)).mpr (.ed (.inr ⟨i, j, a, b, rfl, rfl, c⟩))⟩
      · exact .inr ⟨a, b, ha, hb, by omega, by omega, c⟩
  · have := kU.bd i j h
    omega
theorem ker_cut {a b : List Int} (k : KerEq a b) (sel : List Int → List Int) (hm : ∀ (g : Int → Int) (z : List Int), sel (z.map g) = (sel z).map g) (hs : ∀ z, ∀ x ∈ sel z, x ∈ z) : hid b (sel b) = hid a (sel a) ∧ blocksOf (sel b) = blocksOf (sel a) := by
  obtain ⟨g, e, inj⟩ := k.img
  refine ⟨hid_map (fun i => i) (fun i hi => by rw [k.1]; exact hi) (fun i hi => ⟨i, by rw [← k.1]; exact hi, rfl⟩) (fun i j hi hj => by rw [← k.1] at hi hj; exact (k.2 i j hi hj).symm) fun i hi => ?_, ?_⟩
  · have hi' : i < a.length := by rw [k.1]; exact hi
    rw [e, hm, co_map_lt hi']
    constructor
    · intro h
      obtain ⟨x, hx, ex⟩ := List.mem_map.mp h
      rw [← inj x (hs a x hx) (co a i) (co_mem hi') ex]
      exact hx
    · exact fun h => List.mem_map.mpr ⟨_, h, rfl⟩
  · rw [e, hm]
    exact blocksOf_map fun x hx y hy => inj x (hs a x hx) y (hs a y hy)
theorem inoutL_map (a b : Nat) (g : Int → Int) (z : List Int) : inoutL a b (z.map g) = (inoutL a b z).map g := by
  unfold inoutL
  rw [List.map_append, List.map_take, List.map_drop]
theorem inoutL_mem (a b : Nat) (z : List Int) : ∀ x ∈ inoutL a b z, x ∈ z := fun x hx => by
  unfold inoutL at hx
  exact (List.mem_append.mp hx).elim List.mem_of_mem_take List.mem_of_mem_drop
/-- the loops and the diagram of three, in both ways -/
theorem put_assoc {n m q r : Nat} {l1 l2 l3 : List Int} (h1 : l1.length = n + m) (h2 : l2.length = m + q) (h3 : l3.length = q + r) :
    hid (putM n m q l1 l2) (putS n m q l1 l2) + hid (putM n q r (putS n m q l1 l2) l3) (putS n q r (putS n m q l1 l2) l3) = hid (putM m q r l2 l3) (putS m q r l2 l3) + hid (putM n m r l1 (putS m q r l2 l3)) (putS n m r l1 (putS m q r l2 l3)) ∧
    blocksOf (putS n q r (putS n m q l1 l2) l3) = blocksOf (putS n m r l1 (putS m q r l2 l3)) := by
  obtain ⟨a1, a2⟩ := assocA (ks_putM h1 h2).len h3
  obtain ⟨b1, b2⟩ := assocB (ks_putM h2 h3).len h1
  obtain ⟨c1, c2⟩ := ker_cut (ker_both h1 h2 h3) (inoutL n (n + m + q)) (inoutL_map _ _) (inoutL_mem _ _)
  have s1 : putS n m q l1 l2 = inoutL n (n + m) (putM n m q l1 l2) := rfl
  have s2 : putS m q r l2 l3 = inoutL m (m + q) (putM m q r l2 l3) := rfl
  rw [s1, s2, ← a1, ← b1, a2.blocks, b2.blocks]
  exact ⟨c1.symm, c2.symm⟩
/-! ### the unit -/
def uL (n : Nat) : List Int := ixs n ++ ixs n
theorem uL_len (n : Nat) : (uL n).length = n + n := by
  unfold uL
  rw [List.length_append, ixs_len']
theorem uL_co {n i : Nat} (h : i < n + n) : co (uL n) i = ((if i < n then i else i - n : Nat) : Int) := by
  unfold uL
  by_cases c : i < n
  · rw [co_app_l (by rw [ixs_len']; exact c), co_ixs c, if_pos c]
  · have := co_app_r (a := ixs n) (b := ixs n) (i := i - n) (by rw [ixs_len']; omega)
    rw [ixs_len', show n + (i - n) = i by omega] at this
    rw [this, co_ixs (by omega), if_neg c]
theorem hid_zero {ms shown : List Int} (h : ∀ k ∈ ms, k ∈ shown) : hid ms shown = 0 := (hid_is (L := []) List.nodup_nil fun k => ⟨fun z => (nomatch z), fun z => absurd (h k z.1) z.2⟩).symm
theorem put_unitL {n m : Nat} {l : List Int} (hl : l.length = n + m) : hid (putM n n m (uL n) l) (putS n n m (uL n) l) = 0 ∧ blocksOf (putS n n m (uL n) l) = blocksOf l := by
  have kM := ks_putM (uL_len n) hl
  have lM := kM.len
  have sS : putS n n m (uL n) l = inoutL n (n + n) (putM n n m (uL n) l) := rfl
  have st : ∀ i, i < n → Conn (Fput n n m (uL n) l) i (n + i) := fun i hi => .ed (.inl ⟨by omega, by omega, by rw [uL_co (by omega), uL_co (by omega), if_pos hi, if_neg (by omega), Nat.add_sub_cancel_left]⟩)
  constructor
  · refine hid_zero fun k hk => ?_
    obtain ⟨x, hx, rfl⟩ := mem_get hk
    rw [lM] at hx
    rw [sS, inout_mem (by omega) (by omega), lM]
    by_cases c : x < n ∨ n + n ≤ x
    · exact ⟨x, c, hx, rfl⟩
    · refine ⟨x - n, .inl (by omega), by omega, (kM.eq _ _ (by omega) hx).mpr ?_⟩
      have := st (x - n) (by omega)
      rw [show n + (x - n) = x by omega] at this
      exact this
  · refine (KerEq.blocks ⟨?_, fun i j hi hj => ?_⟩ : _)
    · rw [sS, inout_len (by omega) (by omega), lM]
      omega
    · have f : ∀ i, i < n + m → ∃ p, p < n + n + m ∧ co (putS n n m (uL n) l) i = co (putM n n m (uL n) l) p ∧ Conn (Fput n n m (uL n) l) p (n + i) ∧ (fun x => if x < n then co l x else co l (x - n)) p = co l i := fun i hi => by
        rw [sS, inout_co (by omega) (by omega) i (by omega)]
        by_cases c : i < n
        · exact ⟨i, by omega, if_pos c, st i c, if_pos c⟩
        · refine ⟨n + n + (i - n), by omega, if_neg c, ?_, ?_⟩
          · rw [show n + n + (i - n) = n + i by omega]
            exact .rf _
          · show (if _ then _ else _) = _
            rw [if_neg (by omega), show n + n + (i - n) - n = i by omega]
      rw [hl] at hi hj
      obtain ⟨p, hp, a1, a2, a3⟩ := f i hi
      obtain ⟨p', hp', b1, b2, b3⟩ := f j hj
      rw [a1, b1, kM.eq p p' hp hp']
      constructor
      · intro e
        exact .tr a2 (.tr (.ed (.inr ⟨i, j, hi, hj, rfl, rfl, e⟩)) (.sy b2))
      · intro c
        rw [← a3, ← b3]
        refine Conn.keep (g := fun x => if x < n then co l x else co l (x - n)) (fun x y h => ?_) c
        rcases h with ⟨a, b, c⟩ | ⟨a, b, ha, hb, rfl, rfl, c⟩
        · rw [uL_co a, uL_co b] at c
          have c := Int.ofNat.inj c
          have g : ∀ x, (if x < n then co l x else co l (x - n)) = co l (if x < n then x else x - n) := fun x => by split <;> rfl
          show (if _ then _ else _) = (if _ then _ else _)
          rw [g, g, c]
        · show (if _ then _ else _) = (if _ then _ else _)
          rw [if_neg (by omega), if_neg (by omega), Nat.add_sub_cancel_left, Nat.add_sub_cancel_left, c]
theorem put_unitR {n m : Nat} {l : List Int} (hl : l.length = n + m) : hid (putM n m m l (uL m)) (putS n m m l (uL m)) = 0 ∧ blocksOf (putS n m m l (uL m)) = blocksOf l := by
  have kM := ks_putM hl (uL_len m)
  have lM := kM.len
  have sS : putS n m m l (uL m) = inoutL n (n + m) (putM n m m l (uL m)) := rfl
  have st : ∀ i, i < m → Conn (Fput n m m l (uL m)) (n + m + i) (n + i) := fun i hi => .ed (.inr ⟨m + i, i, by omega, by omega, by omega, rfl, by rw [uL_co (by omega), uL_co (by omega), if_pos hi, if_neg (by omega), Nat.add_sub_cancel_left]⟩)
  constructor
  · refine hid_zero fun k hk => ?_
    obtain ⟨x, hx, rfl⟩ := mem_get hk
    rw [lM] at hx
    rw [sS, inout_mem (by omega) (by omega), lM]
    by_cases c : x < n ∨ n + m ≤ x
    · exact ⟨x, c, hx, rfl⟩
    · refine ⟨x + m, .inr (by omega), by omega, (kM.eq _ _ (by omega) hx).mpr ?_⟩
      have := st (x - n) (by omega)
      rw [show n + (x - n) = x by omega, show n + m + (x - n) = x + m by omega] at this
      exact this
  · refine (KerEq.blocks ⟨?_, fun i j hi hj => ?_⟩ : _)
    · rw [sS, inout_len (by omega) (by omega), lM]
      omega
    · have f : ∀ i, i < n + m → ∃ p, p < n + m + m ∧ co (putS n m m l (uL m)) i = co (putM n m m l (uL m)) p ∧ Conn (Fput n m m l (uL m)) p i ∧ (fun x => if x < n + m then co l x else co l (x - m)) p = co l i := fun i hi => by
        rw [sS, inout_co (by omega) (by omega) i (by omega)]
        by_cases c : i < n
        · exact ⟨i, by omega, if_pos c, .rf _, if_pos (by omega)⟩
        · refine ⟨n + m + (i - n), by omega, if_neg c, ?_, ?_⟩
          · have := st (i - n) (by omega)
            rw [show n + (i - n) = i by omega] at this
            exact this
          · show (if _ then _ else _) = _
            rw [if_neg (by omega), show n + m + (i - n) - m = i by omega]
      rw [hl] at hi hj
      obtain ⟨p, hp, a1, a2, a3⟩ := f i hi
      obtain ⟨p', hp', b1, b2, b3⟩ := f j hj
      rw [a1, b1, kM.eq p p' hp hp']
      constructor
      · intro e
        exact .tr a2 (.tr (.ed (.inl ⟨hi, hj, e⟩)) (.sy b2))
      · intro c
        rw [← a3, ← b3]
        refine Conn.keep (g := fun x => if x < n + m then co l x else co l (x - m)) (fun x y h => ?_) c
        have g : ∀ a, a < m + m → (if n + a < n + m then co l (n + a) else co l (n + a - m)) = co l (n + if a < m then a else a - m) := fun a ha => by
          by_cases d : a < m
          · rw [if_pos (by omega), if_pos d]
          · rw [if_neg (by omega), if_neg d, show n + a - m = n + (a - m) by omega]
        rcases h with ⟨a, b, c⟩ | ⟨a, b, ha, hb, rfl, rfl, c⟩
        · show (if _ then _ else _) = (if _ then _ else _)
          rw [if_pos a, if_pos b, c]
        · rw [uL_co ha, uL_co hb] at c
          have c := Int.ofNat.inj c
          show (if _ then _ else _) = (if _ then _ else _)
          rw [g a ha, g b hb, c]

/-! ### families are kept, link by link -/
def okUD (z : Str) (u d : Nat) : Prop :=
  (z = "threads" → (u = 1 ∧ d = 1) ∨ (u = 0 ∧ d = 0)) ∧ (z = "loose" → u ≤ 1 ∧ d ≤ 1) ∧ (z = "pairs" → u + d = 2 ∨ u + d = 0) ∧ (z = "lonepairs" → u + d ≤ 2) ∧ (z = "even" → (u + d) % 2 = 0)
theorem okUD_zero (z : Str) : okUD z 0 0 := ⟨fun _ => .inr ⟨rfl, rfl⟩, fun _ => ⟨by decide, by decide⟩, fun _ => .inr rfl, fun _ => by decide, fun _ => rfl⟩
theorem okUD_dec {z : Str} {u d : Nat} (h : okUD z (u + 1) (d + 1)) : okUD z u d := by
  obtain ⟨a, b, c, e, f⟩ := h
  exact ⟨fun x => by have := a x; omega, fun x => by have := b x; omega, fun x => by have := c x; omega, fun x => by have := e x; omega, fun x => by have := f x; omega⟩
theorem okUD_join {z : Str} {u1 u2 d1 d2 : Nat} (h : okUD z u1 (d1 + 1)) (k : okUD z (u2 + 1) d2) : okUD z (u1 + u2) (d1 + d2) := by
  obtain ⟨a, b, c, e, f⟩ := h
  obtain ⟨a', b', c', e', f'⟩ := k
  exact ⟨fun x => by have := a x; have := a' x; omega, fun x => by have := b x; have := b' x; omega, fun x => by have := c x; have := c' x; omega, fun x => by have := e x; have := e' x; omega, fun x => by have := f x; have := f' x; omega⟩
def cN (N : Nat) (p : Nat → Bool) (J : List Int) (v : Int) : Nat := (List.range N).countP fun i => p i && decide (co J i = v)
theorem cN_succ (N : Nat) (p : Nat → Bool) (J : List Int) (v : Int) : cN (N + 1) p J v = cN N p J v + if p N = true ∧ co J N = v then 1 else 0 := by
  unfold cN
  rw [List.range_succ, List.countP_append, List.countP_singleton]
  congr 1
  by_cases c : p N = true ∧ co J N = v
  · rw [if_pos c, if_pos (by rw [c.1, decide_eq_true c.2]; rfl)]
  · rw [if_neg c, if_neg fun z => c (by rw [Bool.and_eq_true, decide_eq_true_eq] at z; exact z)]
theorem cN_congr {p p' : Nat → Bool} {J J' : List Int} {v v' : Int} : ∀ {N : Nat}, (∀ i, i < N → ((p i = true ∧ co J i = v) ↔ (p' i = true ∧ co J' i = v'))) → cN N p J v = cN N p' J' v'
  | 0, _ => rfl
  | N + 1, h => by
    rw [cN_succ, cN_succ, cN_congr (N := N) fun i hi => h i (by omega)]
    congr 1
    have := h N (by omega)
    by_cases c : p N = true ∧ co J N = v
    · rw [if_pos c, if_pos (this.mp c)]
    · rw [if_neg c, if_neg fun z => c (this.mpr z)]
theorem cN_zero {p : Nat → Bool} {J : List Int} {v : Int} : ∀ {N : Nat}, (∀ i, i < N → p i = true → co J i ≠ v) → cN N p J v = 0
  | 0, _ => rfl
  | N + 1, h => by
    rw [cN_succ, cN_zero (N := N) fun i hi => h i (by omega), if_neg fun z => h N (by omega) z.1 z.2]
def del (p : Nat → Bool) (y : Nat) : Nat → Bool := fun i => p i && decide (i ≠ y)
theorem del_iff {p : Nat → Bool} {y i : Nat} : del p y i = true ↔ p i = true ∧ i ≠ y := by
  unfold del
  rw [Bool.and_eq_true, decide_eq_true_eq]
theorem cN_del {p : Nat → Bool} {J : List Int} {v : Int} {y : Nat} (hy : p y = true) : ∀ {N : Nat}, y < N → cN N p J v = cN N (del p y) J v + if co J y = v then 1 else 0
  | 0, h => absurd h (Nat.not_lt_zero _)
  | N + 1, h => by
    rw [cN_succ, cN_succ]
    by_cases c : y = N
    · subst c
      have e : cN y p J v = cN y (del p y) J v := cN_congr fun i hi => by
        rw [del_iff]
        exact ⟨fun z => ⟨⟨z.1, by omega⟩, z.2⟩, fun z => ⟨z.1.1, z.2⟩⟩
      rw [e, if_neg (c := del p y y = true ∧ _) fun z => (del_iff.mp z.1).2 rfl]
      by_cases d : co J y = v
      · rw [if_pos ⟨hy, d⟩, if_pos d]
      · rw [if_neg fun z => d z.2, if_neg d]
    · rw [cN_del hy (N := N) (by omega)]
      have e : (if p N = true ∧ co J N = v then 1 else 0) = if del p y N = true ∧ co J N = v then 1 else 0 := by
        by_cases d : p N = true ∧ co J N = v
        · rw [if_pos d, if_pos ⟨del_iff.mpr ⟨d.1, fun z => c z.symm⟩, d.2⟩]
        · rw [if_neg d, if_neg fun z => d ⟨(del_iff.mp z.1).1, z.2⟩]
      rw [e]
      omega
theorem cN_merge {p : Nat → Bool} {J J' : List Int} {lo hi v : Int} (ne : lo ≠ hi) : ∀ {N : Nat}, (∀ i, i < N → co J' i = if co J i = hi then lo else co J i) →
    cN N p J' v = if v = lo then cN N p J lo + cN N p J hi else if v = hi then 0 else cN N p J v
  | 0, _ => by
    show 0 = _
    split
    · rfl
    · split <;> rfl
  | N + 1, h => by
    rw [cN_succ, cN_merge ne (N := N) fun i hi => h i (by omega), cN_succ, cN_succ, cN_succ, h N (by omega)]
    by_cases c : p N = true
    · by_cases c1 : v = lo
      · subst c1
        rw [if_pos rfl, if_pos rfl]
        by_cases c2 : co J N = hi
        · rw [if_pos c2, if_pos ⟨c, rfl⟩, if_neg fun z => ne (z.2.symm.trans c2), if_pos ⟨c, c2⟩]
          omega
        · rw [if_neg c2, if_neg (c := p N = true ∧ co J N = hi) fun z => c2 z.2]
          by_cases c3 : co J N = v
          · rw [if_pos ⟨c, c3⟩]
            omega
          · rw [if_neg fun z => c3 z.2]
            omega
      · rw [if_neg c1, if_neg c1]
        by_cases c4 : v = hi
        · subst c4
          rw [if_pos rfl, if_pos rfl]
          by_cases c2 : co J N = v
          · rw [if_pos c2, if_neg fun z => ne z.2]
          · rw [if_neg c2, if_neg fun z => c2 z.2]
        · rw [if_neg c4, if_neg c4]
          congr 1
          by_cases c2 : co J N = hi
          · rw [if_pos c2, if_neg fun z => c1 z.2.symm, if_neg fun z => c4 (z.2.symm.trans c2)]
          · rw [if_neg c2]
    · rw [if_neg (c := p N = true ∧ _) fun z => c z.1, if_neg (c := p N = true ∧ _) fun z => c z.1, if_neg (c := p N = true ∧ _) fun z => c z.1, if_neg (c := p N = true ∧ _) fun z => c z.1]
      rfl
theorem fam_step {z : Str} {J : List Int} {N x y : Nat} {up dn : Nat → Bool} (hN : J.length = N) (hx : x < N) (hy : y < N) (hu : up y = true) (hd : dn x = true) (g : ∀ v, okUD z (cN N up J v) (cN N dn J v)) (v : Int) :
    okUD z (cN N (del up y) (jn J x y) v) (cN N (del dn x) (jn J x y) v) := by
  have eu := fun v => cN_del (J := J) (v := v) hu hy
  have ed := fun v => cN_del (J := J) (v := v) hd hx
  by_cases c : co J x = co J y
  · have e : jn J x y = J := by
      unfold jn
      rw [c, if_neg (c := co J y > co J y) (Int.lt_irrefl _)]
      conv => rhs; rw [← List.map_id J]
      refine List.map_congr_left fun a _ => ?_
      split
      · rename_i h
        exact h.symm
      · rfl
    rw [e]
    have h := g v
    rw [eu, ed, c] at h
    by_cases d : co J y = v
    · rw [if_pos d] at h
      exact okUD_dec h
    · rw [if_neg d] at h
      exact h
  · have ga := g (co J x)
    have gb := g (co J y)
    rw [eu, ed, if_neg fun z => c z.symm, if_pos rfl] at ga
    rw [eu, ed, if_pos rfl, if_neg c] at gb
    have both := okUD_join ga gb
    obtain ⟨lo, hi, ne, hm, hh⟩ : ∃ lo hi, lo ≠ hi ∧ (∀ i, i < N → co (jn J x y) i = if co J i = hi then lo else co J i) ∧ ((lo = co J x ∧ hi = co J y) ∨ (lo = co J y ∧ hi = co J x)) := by
      rcases Int.lt_or_gt_of_ne c with d | d
      · refine ⟨co J x, co J y, c, fun i hi => ?_, .inl ⟨rfl, rfl⟩⟩
        unfold jn
        rw [co_map_lt (by omega), if_pos (c := co J y > co J x) d, if_neg (c := co J y < co J x) (by omega)]
      · refine ⟨co J y, co J x, fun z => c z.symm, fun i hi => ?_, .inr ⟨rfl, rfl⟩⟩
        unfold jn
        rw [co_map_lt (by omega), if_neg (c := co J y > co J x) (by omega), if_pos (c := co J y < co J x) d]
    rw [cN_merge ne hm, cN_merge ne hm]
    by_cases c1 : v = lo
    · rw [if_pos c1, if_pos c1]
      rcases hh with ⟨rfl, rfl⟩ | ⟨rfl, rfl⟩
      · exact both
      · rw [Nat.add_comm (cN N (del up y) J (co J y)), Nat.add_comm (cN N (del dn x) J (co J y))]
        exact both
    · rw [if_neg c1, if_neg c1]
      by_cases c2 : v = hi
      · rw [if_pos c2, if_pos c2]
        exact okUD_zero z
      · rw [if_neg c2, if_neg c2]
        have h := g v
        have n1 : ¬ co J y = v := fun z => by
          rcases hh with ⟨h1, h2⟩ | ⟨h1, h2⟩
          · exact c2 (by rw [h2, z])
          · exact c1 (by rw [h1, z])
        have n2 : ¬ co J x = v := fun z => by
          rcases hh with ⟨h1, h2⟩ | ⟨h1, h2⟩
          · exact c1 (by rw [h1, z])
          · exact c2 (by rw [h2, z])
        rw [eu, ed, if_neg n1, if_neg n2] at h
        exact h
theorem cN_cut {p : Nat → Bool} {J : List Int} {v : Int} {M : Nat} : ∀ {K : Nat}, (∀ i, M ≤ i → i < M + K → p i = true → co J i ≠ v) → cN (M + K) p J v = cN M p J v
  | 0, _ => rfl
  | K + 1, h => by
    rw [← Nat.add_assoc, cN_succ, cN_cut (K := K) fun i hi hj => h i hi (by omega), if_neg fun z => h (M + K) (by omega) (by omega) z.1 z.2]
    rfl
theorem cN_shift {p p' : Nat → Bool} {J J' : List Int} {v v' : Int} {M : Nat} (h0 : ∀ i, i < M → p i = true → co J i ≠ v) : ∀ {K : Nat}, (∀ a, a < K → ((p (M + a) = true ∧ co J (M + a) = v) ↔ (p' a = true ∧ co J' a = v'))) → cN (M + K) p J v = cN K p' J' v'
  | 0, _ => cN_zero h0
  | K + 1, h => by
    rw [← Nat.add_assoc, cN_succ, cN_succ, cN_shift h0 (K := K) fun a ha => h a (by omega)]
    congr 1
    have := h K (by omega)
    by_cases c : p (M + K) = true ∧ co J (M + K) = v
    · rw [if_pos c, if_pos (this.mp c)]
    · rw [if_neg c, if_neg fun z => c (this.mpr z)]
/-- a block by its points above and below -/
def loP (n : Nat) : Int → Bool := fun x => decide (x < (n : Int))
def hiP (n : Nat) : Int → Bool := fun x => decide ((n : Int) ≤ x)
theorem lo_hi (n : Nat) : ∀ b : List Int, b.length = b.countP (loP n) + b.countP (hiP n)
  | [] => rfl
  | x :: b => by
    rw [List.length_cons, lo_hi n b, List.countP_cons, List.countP_cons]
    unfold loP hiP
    by_cases c : x < (n : Int)
    · rw [if_pos (decide_eq_true c), if_neg (by rw [decide_eq_true_eq]; omega)]
      omega
    · rw [if_neg (by rw [decide_eq_true_eq]; omega), if_pos (decide_eq_true (by omega))]
      omega
theorem strand_ud {n : Nat} {b : List Int} (asc : b.Pairwise (· < ·)) : strandB n b = true ↔ b.countP (loP n) = 1 ∧ b.countP (hiP n) = 1 := by
  have lh := lo_hi n b
  match b, asc, lh with
  | [], _, _ => exact ⟨fun z => absurd z (by unfold strandB; simp), fun z => absurd (show (0 : Nat) = 1 from z.1) (by decide)⟩
  | [x], _, lh => exact ⟨fun z => absurd z (by unfold strandB; simp), fun z => by rw [z.1, z.2] at lh; exact absurd (show (1 : Nat) = 2 from lh) (by decide)⟩
  | [x, y], asc, lh =>
    have xy : x < y := (List.pairwise_cons.mp asc).1 y (List.mem_singleton.mpr rfl)
    have e : strandB n [x, y] = decide (x < (n : Int) ∧ (n : Int) ≤ y) := rfl
    rw [e, decide_eq_true_eq]
    unfold loP hiP
    rw [List.countP_cons, List.countP_cons, List.countP_cons, List.countP_cons, List.countP_nil, List.countP_nil]
    by_cases c1 : x < (n : Int)
    · rw [if_pos (c := decide (x < (n : Int)) = true) (decide_eq_true c1), if_neg (c := decide ((n : Int) ≤ x) = true) (by rw [decide_eq_true_eq]; omega)]
      by_cases c2 : y < (n : Int)
      · rw [if_pos (c := decide (y < (n : Int)) = true) (decide_eq_true c2), if_neg (c := decide ((n : Int) ≤ y) = true) (by rw [decide_eq_true_eq]; omega)]
        omega
      · rw [if_neg (c := decide (y < (n : Int)) = true) (by rw [decide_eq_true_eq]; omega), if_pos (c := decide ((n : Int) ≤ y) = true) (decide_eq_true (by omega))]
        omega
    · rw [if_neg (c := decide (x < (n : Int)) = true) (by rw [decide_eq_true_eq]; omega), if_neg (c := decide (y < (n : Int)) = true) (by rw [decide_eq_true_eq]; omega)]
      omega
  | x :: y :: w :: b, _, lh =>
    refine ⟨fun z => absurd z ?_, fun z => ?_⟩
    · unfold strandB
      rw [decide_eq_false (by rw [List.length_cons, List.length_cons, List.length_cons]; omega)]
      simp
    · rw [z.1, z.2, List.length_cons, List.length_cons, List.length_cons] at lh
      omega
theorem block_ud {z : Str} {n : Nat} {b : List Int} (asc : b.Pairwise (· < ·)) (ne : 0 < b.length) : blockOk z n b = true ↔ okUD z (b.countP (loP n)) (b.countP (hiP n)) := by
  have lh := lo_hi n b
  have st := strand_ud (n := n) asc
  unfold blockOk
  by_cases c1 : z = "threads"
  · rw [if_pos c1, st]
    constructor
    · intro h
      refine ⟨fun _ => .inl h, fun x => ?_, fun x => ?_, fun x => ?_, fun x => ?_⟩ <;> rw [c1] at x <;> exact absurd x (by decide)
    · intro h
      rcases h.1 c1 with h | h
      · exact h
      · omega
  rw [if_neg c1]
  by_cases c2 : z = "loose"
  · rw [if_pos c2, Bool.or_eq_true, st, decide_eq_true_eq]
    constructor
    · intro h
      refine ⟨fun x => absurd x c1, fun x => by omega, fun x => ?_, fun x => ?_, fun x => ?_⟩ <;> rw [c2] at x <;> exact absurd x (by decide)
    · intro h
      have := h.2.1 c2
      omega
  rw [if_neg c2]
  unfold sizeOk
  by_cases c3 : z = "pairs"
  · rw [if_pos c3, decide_eq_true_eq]
    constructor
    · intro h
      refine ⟨fun x => absurd x c1, fun x => absurd x c2, fun x => by omega, fun x => ?_, fun x => ?_⟩ <;> rw [c3] at x <;> exact absurd x (by decide)
    · intro h
      have := h.2.2.1 c3
      omega
  rw [if_neg c3]
  by_cases c4 : z = "lonepairs"
  · rw [if_pos c4, decide_eq_true_eq]
    constructor
    · intro h
      refine ⟨fun x => absurd x c1, fun x => absurd x c2, fun x => absurd x c3, fun x => by omega, fun x => ?_⟩
      rw [c4] at x
      exact absurd x (by decide)
    · intro h
      have := h.2.2.2.1 c4
      omega
  rw [if_neg c4]
  by_cases c5 : z = "even"
  · rw [if_pos c5, decide_eq_true_eq]
    constructor
    · intro h
      exact ⟨fun x => absurd x c1, fun x => absurd x c2, fun x => absurd x c3, fun x => absurd x c4, fun x => by omega⟩
    · intro h
      have := h.2.2.2.2 c5
      omega
  rw [if_neg c5]
  exact ⟨fun _ => ⟨fun x => absurd x c1, fun x => absurd x c2, fun x => absurd x c3, fun x => absurd x c4, fun x => absurd x c5⟩, fun _ => rfl⟩
def loI (n : Nat) : Nat → Bool := fun i => decide (i < n)
def hiI (n : Nat) : Nat → Bool := fun i => decide (n ≤ i)
theorem pos_lo (n : Nat) (l : List Int) (w : Int) : (posOf l w).countP (loP n) = cN l.length (loI n) l w := by
  unfold posOf cN
  rw [List.countP_map, List.countP_filter]
  refine List.countP_congr fun i _ => ?_
  show (decide ((i : Int) < n) && decide _) = true ↔ (decide (i < n) && decide _) = true
  rw [Bool.and_eq_true, Bool.and_eq_true, decide_eq_true_eq, decide_eq_true_eq, decide_eq_true_eq]
  omega
theorem pos_hi (n : Nat) (l : List Int) (w : Int) : (posOf l w).countP (hiP n) = cN l.length (hiI n) l w := by
  unfold posOf cN
  rw [List.countP_map, List.countP_filter]
  refine List.countP_congr fun i _ => ?_
  show (decide ((n : Int) ≤ i) && decide _) = true ↔ (decide (n ≤ i) && decide _) = true
  rw [Bool.and_eq_true, Bool.and_eq_true, decide_eq_true_eq, decide_eq_true_eq, decide_eq_true_eq]
  omega
theorem range_co (l : List Int) : (List.range l.length).map (co l) = l := by
  refine List.ext_getElem? fun i => ?_
  rcases Nat.lt_or_ge i l.length with c | c
  · rw [List.getElem?_map, List.getElem?_range c, co_get c]
    rfl
  · rw [List.getElem?_eq_none (by rw [List.length_map, List.length_range]; exact c), List.getElem?_eq_none c]
theorem posOf_len (l : List Int) (v : Int) : (posOf l v).length = l.count v := by
  unfold posOf
  rw [List.length_map]
  have e : l.count v = ((List.range l.length).map (co l)).count v := by rw [range_co]
  rw [e, List.count_eq_countP, List.countP_map, List.countP_eq_length_filter]
  congr 1
theorem posOf_pos {l : List Int} {v : Int} (h : v ∈ l) : 0 < (posOf l v).length := by
  rw [posOf_len]
  exact List.count_pos_iff.mpr h
theorem fam_ud {z : Str} {n : Nat} {l : List Int} : inFam z n (blocksOf l) = true ↔ ∀ w ∈ l, okUD z (cN l.length (loI n) l w) (cN l.length (hiI n) l w) := by
  unfold inFam blocksOf
  rw [List.all_map, List.all_eq_true]
  have key : ∀ w ∈ l, ((blockOk z n ∘ posOf l) w = true ↔ okUD z (cN l.length (loI n) l w) (cN l.length (hiI n) l w)) := fun w hw => by
    rw [← pos_lo, ← pos_hi]
    exact block_ud (posOf_asc l w) (posOf_pos hw)
  have m : ∀ w, w ∈ seenL [] l ↔ w ∈ l := fun w => (seenL_mem l [] w).trans ⟨fun z => z.elim (fun q => nomatch q) id, .inr⟩
  exact ⟨fun h w hw => (key w hw).mp (h w ((m w).mpr hw)), fun h w hw => (key w ((m w).mp hw)).mpr (h w ((m w).mp hw))⟩
def upO (n m k : Nat) : Nat → Bool := fun i => decide (i < n ∨ (n + m + k ≤ i ∧ i < n + m + m))
def dnO (n m k : Nat) : Nat → Bool := fun i => decide ((n + k ≤ i ∧ i < n + m) ∨ n + m + m ≤ i)
def lk (n m k : Nat) : List (Nat × Nat) := (List.range k).map fun j => (n + j, n + m + j)
theorem fam_links {z : Str} {n m q : Nat} {B : List Int} (hB : B.length = n + m + m + q) (g0 : ∀ v, okUD z (cN (n + m + m + q) (upO n m 0) B v) (cN (n + m + m + q) (dnO n m 0) B v)) :
    ∀ k, k ≤ m → (jns B (lk n m k)).length = n + m + m + q ∧ ∀ v, okUD z (cN (n + m + m + q) (upO n m k) (jns B (lk n m k)) v) (cN (n + m + m + q) (dnO n m k) (jns B (lk n m k)) v)
  | 0, _ => ⟨hB, g0⟩
  | k + 1, hk => by
    obtain ⟨hl, g⟩ := fam_links hB g0 k (by omega)
    have e : jns B (lk n m (k + 1)) = jn (jns B (lk n m k)) (n + k) (n + m + k) := by
      unfold jns lk
      rw [List.range_succ, List.map_append, List.foldl_append]
      rfl
    refine ⟨by rw [e, jn_len, hl], fun v => ?_⟩
    rw [e]
    have s := fam_step hl (x := n + k) (y := n + m + k) (up := upO n m k) (dn := dnO n m k) (by omega) (by omega) (decide_eq_true (by omega)) (decide_eq_true (by omega)) g v
    have e1 : cN (n + m + m + q) (del (upO n m k) (n + m + k)) (jn (jns B (lk n m k)) (n + k) (n + m + k)) v = cN (n + m + m + q) (upO n m (k + 1)) (jn (jns B (lk n m k)) (n + k) (n + m + k)) v := cN_congr fun i hi => by
      rw [del_iff]
      unfold upO
      rw [decide_eq_true_eq, decide_eq_true_eq]
      refine and_congr ?_ Iff.rfl
      omega
    have e2 : cN (n + m + m + q) (del (dnO n m k) (n + k)) (jn (jns B (lk n m k)) (n + k) (n + m + k)) v = cN (n + m + m + q) (dnO n m (k + 1)) (jn (jns B (lk n m k)) (n + k) (n + m + k)) v := cN_congr fun i hi => by
      rw [del_iff]
      unfold dnO
      rw [decide_eq_true_eq, decide_eq_true_eq]
      refine and_congr ?_ Iff.rfl
      omega
    rw [e1, e2] at s
    exact s
theorem fam_put {z : Str} {n m q : Nat} {l1 l2 : List Int} (h1 : l1.length = n + m) (h2 : l2.length = m + q) (sm : n + m ≤ 12) (f1 : inFam z n (blocksOf l1) = true) (f2 : inFam z m (blocksOf l2) = true) : inFam z n (blocksOf (putS n m q l1 l2)) = true := by
  rw [← (put_same h1 h2 sm).2]
  have L1 : (labL (blocksOf l1) (n + m)).length = n + m := labL_len _ _
  have L2 : (labL (blocksOf l2) (m + q)).length = m + q := labL_len _ _
  have lB : (lputB n m q l1 l2).length = n + m + m + q := by
    unfold lputB
    rw [List.length_append, List.length_map, L1, L2]
    omega
  have cl : ∀ i, i < n + m → co (lputB n m q l1 l2) i = co (labL (blocksOf l1) (n + m)) i := fun i hi => co_app_l (by omega)
  have cr : ∀ a, a < m + q → co (lputB n m q l1 l2) (n + m + a) = 100 + co (labL (blocksOf l2) (m + q)) a := fun a ha => by
    have := co_app_r (a := labL (blocksOf l1) (n + m)) (b := (labL (blocksOf l2) (m + q)).map fun k => 100 + k) (i := a) (by rw [List.length_map]; omega)
    rw [L1] at this
    exact this.trans (co_map_lt (by omega))
  have b1 : (blocksOf l1).length ≤ 12 := by
    have h3 := seenL_len l1 []
    have h4 : ([] : List Int).length = 0 := rfl
    unfold blocksOf
    rw [List.length_map]
    omega
  have lo : ∀ i, i < n + m → co (lputB n m q l1 l2) i < 100 := fun i hi => by
    rw [cl i hi]
    have := (labL_mem _ (co_mem (l := labL (blocksOf l1) (n + m)) (k := i) (by omega))).2
    omega
  have hi : ∀ a, a < m + q → 100 ≤ co (lputB n m q l1 l2) (n + m + a) := fun a ha => by
    rw [cr a ha]
    have := (labL_mem _ (co_mem (l := labL (blocksOf l2) (m + q)) (k := a) (by omega))).1
    omega
  have g0 : ∀ v, okUD z (cN (n + m + m + q) (upO n m 0) (lputB n m q l1 l2) v) (cN (n + m + m + q) (dnO n m 0) (lputB n m q l1 l2) v) := fun v => by
    rw [show n + m + m + q = n + m + (m + q) by omega]
    by_cases c : ∃ i, i < n + m ∧ co (lputB n m q l1 l2) i = v
    · obtain ⟨i0, hi0, rfl⟩ := c
      have f := fam_ud.mp f1 (co l1 i0) (co_mem (by omega))
      rw [h1] at f
      have far : ∀ p : Nat → Bool, ∀ i, n + m ≤ i → i < n + m + (m + q) → p i = true → co (lputB n m q l1 l2) i ≠ co (lputB n m q l1 l2) i0 := fun p i a b _ z => by
        have x := hi (i - (n + m)) (by omega)
        rw [show n + m + (i - (n + m)) = i by omega] at x
        have y := lo i0 hi0
        omega
      rw [cN_cut (far _), cN_cut (far _)]
      have same : ∀ i, i < n + m → (co (lputB n m q l1 l2) i = co (lputB n m q l1 l2) i0 ↔ co l1 i = co l1 i0) := fun i hi => by rw [cl i hi, cl i0 hi0]; exact lab_ker h1 hi hi0
      have e1 : cN (n + m) (upO n m 0) (lputB n m q l1 l2) (co (lputB n m q l1 l2) i0) = cN (n + m) (loI n) l1 (co l1 i0) := cN_congr fun i hi => by
        rw [same i hi]
        unfold upO loI
        rw [decide_eq_true_eq, decide_eq_true_eq]
        refine and_congr ?_ Iff.rfl
        omega
      have e2 : cN (n + m) (dnO n m 0) (lputB n m q l1 l2) (co (lputB n m q l1 l2) i0) = cN (n + m) (hiI n) l1 (co l1 i0) := cN_congr fun i hi => by
        rw [same i hi]
        unfold dnO hiI
        rw [decide_eq_true_eq, decide_eq_true_eq]
        refine and_congr ?_ Iff.rfl
        omega
      rw [e1, e2]
      exact f
    · have none : ∀ p : Nat → Bool, ∀ i, i < n + m → p i = true → co (lputB n m q l1 l2) i ≠ v := fun p i hi _ z => c ⟨i, hi, z⟩
      by_cases d : ∃ a, a < m + q ∧ co (lputB n m q l1 l2) (n + m + a) = v
      · obtain ⟨a0, ha0, rfl⟩ := d
        have f := fam_ud.mp f2 (co l2 a0) (co_mem (by omega))
        rw [h2] at f
        have same : ∀ a, a < m + q → (co (lputB n m q l1 l2) (n + m + a) = co (lputB n m q l1 l2) (n + m + a0) ↔ co l2 a = co l2 a0) := fun a ha => by
          rw [cr a ha, cr a0 ha0]
          exact ⟨fun z => (lab_ker h2 ha ha0).mp (by omega), fun z => by rw [(lab_ker h2 ha ha0).mpr z]⟩
        have e1 := cN_shift (p := upO n m 0) (p' := loI m) (J' := l2) (v' := co l2 a0) (none _) (K := m + q) fun a ha => by
          rw [same a ha]
          unfold upO loI
          rw [decide_eq_true_eq, decide_eq_true_eq]
          refine and_congr ?_ Iff.rfl
          omega
        have e2 := cN_shift (p := dnO n m 0) (p' := hiI m) (J' := l2) (v' := co l2 a0) (none _) (K := m + q) fun a ha => by
          rw [same a ha]
          unfold dnO hiI
          rw [decide_eq_true_eq, decide_eq_true_eq]
          refine and_congr ?_ Iff.rfl
          omega
        rw [e1, e2]
        exact f
      · have all : ∀ p : Nat → Bool, ∀ i, i < n + m + (m + q) → p i = true → co (lputB n m q l1 l2) i ≠ v := fun p i hi _ z => by
          by_cases e : i < n + m
          · exact c ⟨i, e, z⟩
          · exact d ⟨i - (n + m), by omega, by rw [show n + m + (i - (n + m)) = i by omega]; exact z⟩
        rw [cN_zero (all _), cN_zero (all _)]
        exact okUD_zero z
  obtain ⟨lJ, g⟩ := fam_links lB g0 m (Nat.le_refl _)
  have eJ : jns (lputB n m q l1 l2) (lk n m m) = lputJ n m q l1 l2 := rfl
  rw [eJ] at lJ g
  have lS : (lputS n m q l1 l2).length = n + q := by
    unfold lputS
    rw [inout_len (by omega) (by omega)]
    omega
  have cS : ∀ i, i < n + q → co (lputS n m q l1 l2) i = if i < n then co (lputJ n m q l1 l2) i else co (lputJ n m q l1 l2) (n + m + m + (i - n)) := fun i hi => inout_co (by omega) (by omega) i (by omega)
  refine fam_ud.mpr fun w _ => ?_
  rw [lS]
  have gw := g w
  have e1 : cN (n + q) (loI n) (lputS n m q l1 l2) w = cN (n + m + m + q) (upO n m m) (lputJ n m q l1 l2) w := by
    have q1 : cN (n + q) (loI n) (lputS n m q l1 l2) w = cN n (loI n) (lputS n m q l1 l2) w := cN_cut fun i a _ b => by
      have b : i < n := of_decide_eq_true b
      omega
    have q2 : cN (n + (m + m + q)) (upO n m m) (lputJ n m q l1 l2) w = cN n (upO n m m) (lputJ n m q l1 l2) w := cN_cut fun i a _ b => by
      have b : i < n ∨ (n + m + m ≤ i ∧ i < n + m + m) := of_decide_eq_true b
      omega
    rw [q1, show n + m + m + q = n + (m + m + q) by omega, q2]
    refine cN_congr fun i hi => ?_
    rw [cS i (by omega), if_pos hi]
    unfold upO loI
    rw [decide_eq_true_eq, decide_eq_true_eq]
    refine and_congr ?_ Iff.rfl
    omega
  have e2 : cN (n + q) (hiI n) (lputS n m q l1 l2) w = cN (n + m + m + q) (dnO n m m) (lputJ n m q l1 l2) w := by
    have q1 : cN (n + q) (hiI n) (lputS n m q l1 l2) w = cN q (fun _ => true) ((lputJ n m q l1 l2).drop (n + m + m)) w := cN_shift (fun i a b => by
      have b : n ≤ i := of_decide_eq_true b
      omega) fun a ha => by
        rw [co_drop, cS _ (by omega), if_neg (by omega), show n + a - n = a by omega]
        unfold hiI
        rw [decide_eq_true_eq]
        exact ⟨fun z => ⟨rfl, z.2⟩, fun z => ⟨by omega, z.2⟩⟩
    have q2 : cN (n + m + m + q) (dnO n m m) (lputJ n m q l1 l2) w = cN q (fun _ => true) ((lputJ n m q l1 l2).drop (n + m + m)) w := cN_shift (fun i a b => by
      have b : (n + m ≤ i ∧ i < n + m) ∨ n + m + m ≤ i := of_decide_eq_true b
      omega) fun a ha => by
        rw [co_drop]
        unfold dnO
        rw [decide_eq_true_eq]
        exact ⟨fun z => ⟨rfl, z.2⟩, fun z => ⟨by omega, z.2⟩⟩
    rw [q1, q2]
  rw [e1, e2]
  exact gw

theorem co_app2 (a b : List Int) (i : Nat) : co (a ++ b) i = if i < a.length then co a i else co b (i - a.length) := by
  by_cases c : i < a.length
  · rw [if_pos c, co_app_l c]
  · rw [if_neg c]
    by_cases d : i - a.length < b.length
    · have := co_app_r (a := a) (b := b) (i := i - a.length) d
      rw [show a.length + (i - a.length) = i by omega] at this
      exact this
    · rw [co_ge (by rw [List.length_append]; omega), co_ge (by omega)]

/-! ### what goes through, by marks -/
def endT (n : Nat) (l : List Int) : List Int := (seenL [] (l.take n)).filter fun v => decide (v ∈ l.drop n)
def endB (n : Nat) (l : List Int) : List Int := (seenL [] (l.drop n)).filter fun v => decide (v ∈ l.take n)
def upD (n : Nat) (l : List Int) : List Int := l.take n ++ endT n l
def miD (n : Nat) (l : List Int) : List Int := endT n l ++ endB n l
def loD (n : Nat) (l : List Int) : List Int := endB n l ++ l.drop n
theorem seen_in {l : List Int} {v : Int} : v ∈ seenL [] l ↔ v ∈ l := by
  rw [seenL_mem]
  exact ⟨fun z => z.elim (fun q => nomatch q) id, .inr⟩
theorem mem_endT {n : Nat} {l : List Int} {v : Int} : v ∈ endT n l ↔ v ∈ l.take n ∧ v ∈ l.drop n := by
  unfold endT
  rw [List.mem_filter, seen_in, decide_eq_true_eq]
theorem mem_endB {n : Nat} {l : List Int} {v : Int} : v ∈ endB n l ↔ v ∈ l.take n ∧ v ∈ l.drop n := by
  unfold endB
  rw [List.mem_filter, seen_in, decide_eq_true_eq, And.comm]
theorem endT_nd (n : Nat) (l : List Int) : (endT n l).Nodup := (seenL_nodup _ [] List.nodup_nil).filter _
theorem endB_nd (n : Nat) (l : List Int) : (endB n l).Nodup := (seenL_nodup _ [] List.nodup_nil).filter _
theorem end_perm (n : Nat) (l : List Int) : (endT n l).Perm (endB n l) := (List.perm_ext_iff_of_nodup (endT_nd n l) (endB_nd n l)).mpr fun v => mem_endT.trans mem_endB.symm
theorem end_len (n : Nat) (l : List Int) : (endB n l).length = (endT n l).length := (end_perm n l).length_eq.symm
theorem endT_le {n : Nat} {l : List Int} (h : n ≤ l.length) : (endT n l).length ≤ n := by
  have h1 := List.length_filter_le (fun v => decide (v ∈ l.drop n)) (seenL [] (l.take n))
  have h2 := seenL_len (l.take n) []
  rw [List.length_take] at h2
  have h3 : ([] : List Int).length = 0 := rfl
  unfold endT
  omega
theorem endB_le {n m : Nat} {l : List Int} (h : l.length = n + m) : (endB n l).length ≤ m := by
  have h1 := List.length_filter_le (fun v => decide (v ∈ l.take n)) (seenL [] (l.drop n))
  have h2 := seenL_len (l.drop n) []
  rw [List.length_drop] at h2
  have h3 : ([] : List Int).length = 0 := rfl
  unfold endB
  omega
/-! order -/
theorem asc_eq {l1 l2 : List Int} (h1 : l1.Pairwise (· < ·)) (h2 : l2.Pairwise (· < ·)) (h : ∀ x, x ∈ l1 ↔ x ∈ l2) : l1 = l2 := by
  have n1 : l1.Nodup := h1.imp fun h => by omega
  have n2 : l2.Nodup := h2.imp fun h => by omega
  refine List.Perm.eq_of_pairwise (le := (· ≤ ·)) (fun a b _ _ x y => by omega) (h1.imp fun h => by omega) (h2.imp fun h => by omega) ((List.perm_ext_iff_of_nodup n1 n2).mpr h)
def leB (p q : List Int) : Bool := decide (p ≤ q)
theorem le_trans3 {a b c : List Int} (h : a ≤ b) (k : b ≤ c) : a ≤ c := List.le_trans h k
theorem sort_is {L S : List (List Int)} (pm : L.Perm S) (h : S.Pairwise (· ≤ ·)) : L.mergeSort leB = S := by
  have s := List.pairwise_mergeSort (le := leB) (fun a b c x y => decide_eq_true (le_trans3 (of_decide_eq_true x) (of_decide_eq_true y))) (fun a b => by
    unfold leB
    rw [Bool.or_eq_true, decide_eq_true_eq, decide_eq_true_eq]
    exact List.le_total a b) L
  refine List.Perm.eq_of_pairwise (le := (· ≤ ·)) (fun a b _ _ x y => List.le_antisymm x y) (s.imp fun h => of_decide_eq_true h) h ((List.mergeSort_perm L leB).trans pm)
theorem le_heads {b c : List Int} (hb : b ≠ []) (hc : c ≠ []) (h : co b 0 < co c 0) : b ≤ c := by
  cases b with
  | nil => exact absurd rfl hb
  | cons x b =>
    cases c with
    | nil => exact absurd rfl hc
    | cons y c => exact List.le_of_lt (List.cons_lt_cons_iff.mpr (.inl h))
theorem posOf_ne {l : List Int} {v : Int} (h : v ∈ l) : posOf l v ≠ [] := by
  obtain ⟨i, hi, e⟩ := mem_get h
  intro z
  have : (i : Int) ∈ posOf l v := mem_posOf.mpr ⟨i, rfl, hi, e⟩
  rw [z] at this
  exact nomatch this
theorem posOf_nil {l : List Int} {v : Int} (h : v ∉ l) : posOf l v = [] := by
  refine List.eq_nil_iff_forall_not_mem.mpr fun x hx => ?_
  obtain ⟨i, _, hi, e⟩ := mem_posOf.mp hx
  exact h (e ▸ co_mem hi)
/-- places in order of first appearance -/
theorem seen_sorted (X : List Int) : ((seenL [] X).map (posOf X)).Pairwise (· ≤ ·) := by
  have h := blocks_heads X
  unfold blocksOf at h
  rw [List.map_map] at h
  have h2 : (seenL [] X).Pairwise fun a b => (a ∈ X ∧ b ∈ X) ∧ co (posOf X a) 0 < co (posOf X b) 0 :=
    List.Pairwise.imp_of_mem (fun ha hb h => ⟨⟨seen_in.mp ha, seen_in.mp hb⟩, h⟩) (List.pairwise_map.mp h)
  exact List.pairwise_map.mpr (h2.imp fun {a b} h => le_heads (posOf_ne h.1.1) (posOf_ne h.1.2) h.2)
theorem sort_blocks {X W : List Int} (nd : W.Nodup) (h : ∀ v, v ∈ W ↔ v ∈ X) : (W.map (posOf X)).mergeSort leB = blocksOf X :=
  sort_is (((List.perm_ext_iff_of_nodup nd (seenL_nodup X [] List.nodup_nil)).mpr fun v => (h v).trans seen_in.symm).map _) (seen_sorted X)
/-! halves of blocks -/
def halfA (n : Int) (b : List Int) : List Int := b.filter fun p => decide (p < n)
def halfB (n : Int) (b : List Int) : List Int := (b.filter fun p => decide (p ≥ n)).map fun p => p - n
theorem pos_halfA {n : Nat} {l : List Int} (h : n ≤ l.length) (v : Int) : halfA n (posOf l v) = posOf (l.take n) v := by
  refine asc_eq ((posOf_asc l v).filter _) (posOf_asc _ v) fun x => ?_
  unfold halfA
  rw [List.mem_filter, mem_posOf, mem_posOf, decide_eq_true_eq, List.length_take, Nat.min_eq_left h]
  constructor
  · rintro ⟨⟨i, rfl, hi, e⟩, lt⟩
    exact ⟨i, rfl, by omega, by rw [co_takeB (by omega), e]⟩
  · rintro ⟨i, rfl, hi, e⟩
    exact ⟨⟨i, rfl, by omega, by rw [co_takeB hi] at e; exact e⟩, by omega⟩
theorem pos_halfB {n : Nat} {l : List Int} (h : n ≤ l.length) (v : Int) : halfB n (posOf l v) = posOf (l.drop n) v := by
  refine asc_eq (List.pairwise_map.mpr (((posOf_asc l v).filter _).imp fun h => by omega)) (posOf_asc _ v) fun x => ?_
  unfold halfB
  rw [List.mem_map, mem_posOf, List.length_drop]
  constructor
  · rintro ⟨y, hy, rfl⟩
    obtain ⟨h1, h2⟩ := List.mem_filter.mp hy
    obtain ⟨i, rfl, hi, e⟩ := mem_posOf.mp h1
    have h2 : (i : Int) ≥ n := of_decide_eq_true h2
    exact ⟨i - n, by omega, by omega, by rw [co_drop, show n + (i - n) = i by omega, e]⟩
  · rintro ⟨i, rfl, hi, e⟩
    rw [co_drop] at e
    exact ⟨((n + i : Nat) : Int), List.mem_filter.mpr ⟨mem_posOf.mpr ⟨n + i, rfl, by omega, e⟩, decide_eq_true (by omega)⟩, by omega⟩
theorem seenL_more : ∀ (b acc : List Int), ∃ R, seenL acc b = acc ++ R ∧ ∀ v ∈ R, v ∉ acc
  | [], acc => ⟨[], (List.append_nil _).symm, fun v hv => nomatch hv⟩
  | x :: b, acc => by
    show ∃ R, seenL (if x ∈ acc then acc else acc ++ [x]) b = acc ++ R ∧ ∀ v ∈ R, v ∉ acc
    by_cases c : x ∈ acc
    · rw [if_pos c]
      exact seenL_more b acc
    · rw [if_neg c]
      obtain ⟨R, e, h⟩ := seenL_more b (acc ++ [x])
      refine ⟨x :: R, by rw [e, List.append_assoc]; rfl, fun v hv => ?_⟩
      rcases List.mem_cons.mp hv with rfl | hv
      · exact c
      · exact fun z => h v hv (List.mem_append_left _ z)
theorem seenL_app : ∀ (a b acc : List Int), seenL acc (a ++ b) = seenL (seenL acc a) b
  | [], _, _ => rfl
  | _ :: a, b, _ => seenL_app a b _
/-- the values of the lower half that the upper half has not -/
def onlyR (n : Nat) (l : List Int) : List Int := (seenL [] l).filter fun v => decide (v ∉ l.take n)
theorem seen_split (n : Nat) (l : List Int) : seenL [] l = seenL [] (l.take n) ++ onlyR n l := by
  obtain ⟨R, e, h⟩ := seenL_more (l.drop n) (seenL [] (l.take n))
  have e0 : seenL [] l = seenL [] (l.take n) ++ R := by
    rw [← e, ← seenL_app, List.take_append_drop]
  have e1 : onlyR n l = R := by
    unfold onlyR
    have f2 : R.filter (fun v => decide (v ∉ l.take n)) = R := List.filter_eq_self.mpr fun v hv => decide_eq_true (show v ∉ l.take n from fun z => h v hv (seen_in.mpr z))
    rw [e0, List.filter_append, f2, List.filter_eq_nil_iff.mpr fun v hv => by
      rw [decide_eq_true_eq]
      exact fun z => z (seen_in.mp hv)]
    rfl
  rw [e0, e1]
theorem mem_onlyR {n : Nat} {l : List Int} {v : Int} : v ∈ onlyR n l ↔ v ∈ l.drop n ∧ v ∉ l.take n := by
  unfold onlyR
  rw [List.mem_filter, seen_in, decide_eq_true_eq]
  constructor
  · rintro ⟨h1, h2⟩
    rw [← List.take_append_drop n l] at h1
    exact ⟨(List.mem_append.mp h1).resolve_left h2, h2⟩
  · rintro ⟨h1, h2⟩
    exact ⟨List.mem_of_mem_drop h1, h2⟩
def bothH (x : List Int × List Int) : Bool := !x.1.isEmpty && !x.2.isEmpty
def halves (n : Int) (bs : List (List Int)) : List (List Int × List Int) := bs.map fun b => (halfA n b, halfB n b)
theorem halves_of {n : Nat} {l : List Int} (h : n ≤ l.length) : halves n (blocksOf l) = (seenL [] l).map fun v => (posOf (l.take n) v, posOf (l.drop n) v) := by
  unfold halves blocksOf
  rw [List.map_map]
  refine List.map_congr_left fun v _ => ?_
  show (halfA n (posOf l v), halfB n (posOf l v)) = _
  rw [pos_halfA h, pos_halfB h]
theorem emp_pos {l : List Int} {v : Int} : (posOf l v).isEmpty = decide (v ∉ l) := by
  by_cases c : v ∈ l
  · rw [decide_eq_false (fun z => z c)]
    cases e : posOf l v with
    | nil => exact absurd e (posOf_ne c)
    | cons _ _ => rfl
  · rw [decide_eq_true c, posOf_nil c]
    rfl
theorem thr_of {n : Nat} {l : List Int} (h : n ≤ l.length) : (halves n (blocksOf l)).filter bothH = (endT n l).map fun v => (posOf (l.take n) v, posOf (l.drop n) v) := by
  rw [halves_of h, List.filter_map]
  have e : (seenL [] l).filter (bothH ∘ fun v => (posOf (l.take n) v, posOf (l.drop n) v)) = endT n l := by
    rw [seen_split n l, List.filter_append]
    have e2 : (onlyR n l).filter (bothH ∘ fun v => (posOf (l.take n) v, posOf (l.drop n) v)) = [] := List.filter_eq_nil_iff.mpr fun v hv => by
      show ¬ (!(posOf (l.take n) v).isEmpty && !(posOf (l.drop n) v).isEmpty) = true
      rw [emp_pos, decide_eq_true (mem_onlyR.mp hv).2]
      exact Bool.false_ne_true
    rw [e2, List.append_nil]
    unfold endT
    refine List.filter_congr fun v hv => ?_
    show (!(posOf (l.take n) v).isEmpty && !(posOf (l.drop n) v).isEmpty) = _
    rw [emp_pos, emp_pos, decide_eq_false (fun z => z (seen_in.mp hv))]
    by_cases c : v ∈ l.drop n
    · rw [decide_eq_true c, decide_eq_false (fun z => z c)]
      rfl
    · rw [decide_eq_false c, decide_eq_true c]
      rfl
  rw [e]
theorem onlyA_of {n : Nat} {l : List Int} (h : n ≤ l.length) : ((halves n (blocksOf l)).filter fun x => x.2.isEmpty).map Prod.fst = ((seenL [] (l.take n)).filter fun v => decide (v ∉ l.drop n)).map (posOf (l.take n)) := by
  rw [halves_of h, List.filter_map, List.map_map]
  have e : (seenL [] l).filter ((fun x : List Int × List Int => x.2.isEmpty) ∘ fun v => (posOf (l.take n) v, posOf (l.drop n) v)) = (seenL [] (l.take n)).filter fun v => decide (v ∉ l.drop n) := by
    rw [seen_split n l, List.filter_append]
    have e2 : (onlyR n l).filter ((fun x : List Int × List Int => x.2.isEmpty) ∘ fun v => (posOf (l.take n) v, posOf (l.drop n) v)) = [] := List.filter_eq_nil_iff.mpr fun v hv => by
      show ¬ (posOf (l.drop n) v).isEmpty = true
      rw [emp_pos, decide_eq_false (fun z => z (mem_onlyR.mp hv).1)]
      exact Bool.false_ne_true
    rw [e2, List.append_nil]
    exact List.filter_congr fun v _ => emp_pos
  rw [e]
  rfl
theorem onlyB_of {n : Nat} {l : List Int} (h : n ≤ l.length) : ((halves n (blocksOf l)).filter fun x => x.1.isEmpty).map Prod.snd = (onlyR n l).map (posOf (l.drop n)) := by
  rw [halves_of h, List.filter_map, List.map_map]
  have e : (seenL [] l).filter ((fun x : List Int × List Int => x.1.isEmpty) ∘ fun v => (posOf (l.take n) v, posOf (l.drop n) v)) = onlyR n l := List.filter_congr fun v _ => emp_pos
  rw [e]
  rfl
/-! the parts, as the program makes them -/
theorem idx_nd {l : List Int} (nd : l.Nodup) {k : Nat} (h : k < l.length) : l.idxOf (co l k) = k := by
  have m := ixf_co (co_mem h)
  have e : l[l.idxOf (co l k)]? = l[k]? := by rw [co_get m.1, co_get h, m.2]
  exact (List.getElem?_inj m.1 nd).mp e
def shiftB (t : Int) (b : List Int) : List Int := b.map fun p => p + t
def upU (n : Nat) (l : List Int) : List (List Int) := ((List.range (endT n l).length).map fun (k : Nat) => posOf (l.take n) (co (endT n l) k) ++ [((n + k : Nat) : Int)]) ++ ((seenL [] (l.take n)).filter fun v => decide (v ∉ l.drop n)).map (posOf (l.take n))
def loU (n : Nat) (l : List Int) : List (List Int) := ((List.range (endB n l).length).map fun (k : Nat) => (k : Int) :: shiftB (endB n l).length (posOf (l.drop n) (co (endB n l) k))) ++ (onlyR n l).map fun v => shiftB (endB n l).length (posOf (l.drop n) v)
def miU (n : Nat) (l : List Int) : List (List Int) := (List.range (endT n l).length).map fun (k : Nat) => [(k : Int), (((endT n l).length + (endB n l).idxOf (co (endT n l) k) : Nat) : Int)]
theorem posOf_app (a b : List Int) (v : Int) : posOf (a ++ b) v = posOf a v ++ shiftB a.length (posOf b v) := by
  refine asc_eq (posOf_asc _ v) ?_ fun x => ?_
  · refine List.pairwise_append.mpr ⟨posOf_asc a v, List.pairwise_map.mpr ((posOf_asc b v).imp fun h => by omega), fun x hx y hy => ?_⟩
    obtain ⟨i, rfl, hi, _⟩ := mem_posOf.mp hx
    obtain ⟨z, hz, rfl⟩ := List.mem_map.mp hy
    obtain ⟨j, rfl, hj, _⟩ := mem_posOf.mp hz
    omega
  · rw [List.mem_append, mem_posOf, mem_posOf, List.length_append]
    unfold shiftB
    rw [List.mem_map]
    constructor
    · rintro ⟨i, rfl, hi, e⟩
      rw [co_app2] at e
      by_cases c : i < a.length
      · rw [if_pos c] at e
        exact .inl ⟨i, rfl, c, e⟩
      · rw [if_neg c] at e
        exact .inr ⟨((i - a.length : Nat) : Int), mem_posOf.mpr ⟨_, rfl, by omega, e⟩, by omega⟩
    · rintro (⟨i, rfl, hi, e⟩ | ⟨y, hy, rfl⟩)
      · exact ⟨i, rfl, by omega, by rw [co_app2, if_pos hi, e]⟩
      · obtain ⟨j, rfl, hj, e⟩ := mem_posOf.mp hy
        exact ⟨a.length + j, by omega, by omega, by rw [co_app2, if_neg (by omega), show a.length + j - a.length = j by omega, e]⟩
theorem posOf_one {l : List Int} (nd : l.Nodup) {v : Int} (h : v ∈ l) : posOf l v = [((l.idxOf v : Nat) : Int)] := by
  have m := ixf_co h
  refine asc_eq (posOf_asc l v) (List.pairwise_singleton _ _) fun x => ?_
  rw [mem_posOf, List.mem_singleton]
  constructor
  · rintro ⟨i, rfl, hi, e⟩
    rw [← e, idx_nd nd hi]
  · rintro rfl
    exact ⟨_, rfl, m.1, m.2⟩
theorem range_co' (l : List Int) : (List.range l.length).map (co l) = l := by
  refine List.ext_getElem? fun i => ?_
  rcases Nat.lt_or_ge i l.length with c | c
  · rw [List.getElem?_map, List.getElem?_range c, co_get c]
    rfl
  · rw [List.getElem?_eq_none (by rw [List.length_map, List.length_range]; exact c), List.getElem?_eq_none c]
theorem over_range {β : Type} {l : List Int} {f : Nat → β} {g : Int → β} (h : ∀ k, k < l.length → f k = g (co l k)) : (List.range l.length).map f = l.map g := by
  conv => rhs; rw [← range_co' l, List.map_map]
  exact List.map_congr_left fun k hk => h k (List.mem_range.mp hk)
theorem up_blocks {n : Nat} {l : List Int} (h : n ≤ l.length) : (upU n l).mergeSort leB = blocksOf (upD n l) := by
  have lt : (l.take n).length = n := by rw [List.length_take]; omega
  have e : upU n l = (endT n l ++ (seenL [] (l.take n)).filter fun v => decide (v ∉ l.drop n)).map (posOf (upD n l)) := by
    unfold upU upD
    rw [List.map_append]
    congr 1
    · refine over_range fun k hk => ?_
      rw [posOf_app, posOf_one (endT_nd n l) (co_mem hk), idx_nd (endT_nd n l) hk, lt]
      unfold shiftB
      show _ ++ [((n + k : Nat) : Int)] = _ ++ [(k : Int) + (n : Int)]
      rw [show ((n + k : Nat) : Int) = (k : Int) + (n : Int) by omega]
    · refine List.map_congr_left fun v hv => ?_
      have hv := of_decide_eq_true (List.mem_filter.mp hv).2
      rw [posOf_app, posOf_nil (l := endT n l) fun z => hv (mem_endT.mp z).2]
      exact (List.append_nil _).symm
  rw [e]
  refine sort_blocks ?_ fun v => ?_
  · refine List.nodup_append.mpr ⟨endT_nd n l, (seenL_nodup _ [] List.nodup_nil).filter _, fun a ha b hb => ?_⟩
    have hb := of_decide_eq_true (List.mem_filter.mp hb).2
    exact fun z => hb (z ▸ (mem_endT.mp ha).2)
  · unfold upD
    rw [List.mem_append, List.mem_append, List.mem_filter, seen_in, decide_eq_true_eq, mem_endT]
    constructor
    · rintro (h | h)
      · exact .inl h.1
      · exact .inl h.1
    · rintro (h | h)
      · by_cases c : v ∈ l.drop n
        · exact .inl ⟨h, c⟩
        · exact .inr ⟨h, c⟩
      · exact .inl h
theorem lo_blocks {n : Nat} {l : List Int} : (loU n l).mergeSort leB = blocksOf (loD n l) := by
  have e : loU n l = (endB n l ++ onlyR n l).map (posOf (loD n l)) := by
    unfold loU loD
    rw [List.map_append]
    congr 1
    · refine over_range (g := posOf (endB n l ++ l.drop n)) fun k hk => ?_
      rw [posOf_app, posOf_one (endB_nd n l) (co_mem hk), idx_nd (endB_nd n l) hk]
      rfl
    · refine List.map_congr_left fun v hv => ?_
      have hv := mem_onlyR.mp hv
      rw [posOf_app, posOf_nil (l := endB n l) fun z => hv.2 (mem_endB.mp z).1]
      rfl
  rw [e]
  refine sort_blocks ?_ fun v => ?_
  · refine List.nodup_append.mpr ⟨endB_nd n l, (seenL_nodup _ [] List.nodup_nil).filter _, fun a ha b hb => ?_⟩
    exact fun z => (mem_onlyR.mp hb).2 (z ▸ (mem_endB.mp ha).1)
  · unfold loD
    rw [List.mem_append, List.mem_append, mem_onlyR, mem_endB]
    constructor
    · rintro (h | h)
      · exact .inr h.2
      · exact .inr h.1
    · rintro (h | h)
      · exact .inl h
      · by_cases c : v ∈ l.take n
        · exact .inl ⟨c, h⟩
        · exact .inr ⟨h, c⟩
theorem mi_blocks {n : Nat} {l : List Int} : miU n l = blocksOf (miD n l) := by
  unfold miU blocksOf miD
  have e : seenL [] (endT n l ++ endB n l) = endT n l := by
    rw [seenL_app]
    have e1 : seenL [] (endT n l) = endT n l := by
      have run : ∀ (a acc : List Int), a.Nodup → (∀ v ∈ a, v ∉ acc) → seenL acc a = acc ++ a := by
        intro a
        induction a with
        | nil => exact fun acc _ _ => (List.append_nil acc).symm
        | cons x a ih =>
          intro acc nd h
          obtain ⟨h1, h2⟩ := List.nodup_cons.mp nd
          show seenL (if x ∈ acc then acc else acc ++ [x]) a = _
          rw [if_neg (h x List.mem_cons_self), ih _ h2 fun v hv z => ?_, List.append_assoc]
          · rfl
          · rcases List.mem_append.mp z with z | z
            · exact h v (List.mem_cons_of_mem _ hv) z
            · rw [List.mem_singleton.mp z] at hv
              exact h1 hv
      exact run _ [] (endT_nd n l) fun _ _ z => nomatch z
    rw [e1]
    obtain ⟨R, e2, h⟩ := seenL_more (endB n l) (endT n l)
    have : R = [] := List.eq_nil_iff_forall_not_mem.mpr fun v hv => by
      have : v ∈ seenL (endT n l) (endB n l) := by rw [e2]; exact List.mem_append_right _ hv
      rcases (seenL_mem _ _ v).mp this with z | z
      · exact h v hv z
      · exact h v hv (mem_endT.mpr (mem_endB.mp z))
    rw [e2, this, List.append_nil]
  rw [e]
  refine over_range fun k hk => ?_
  have m := co_mem hk
  rw [posOf_app, posOf_one (endT_nd n l) m, posOf_one (endB_nd n l) (mem_endB.mpr (mem_endT.mp m)), idx_nd (endT_nd n l) hk]
  show [(k : Int), (((endT n l).length + (endB n l).idxOf (co (endT n l) k) : Nat) : Int)] = [(k : Int), (((endB n l).idxOf (co (endT n l) k) : Nat) : Int) + ((endT n l).length : Int)]
  rw [show (((endB n l).idxOf (co (endT n l) k) : Nat) : Int) + ((endT n l).length : Int) = (((endT n l).length + (endB n l).idxOf (co (endT n l) k) : Nat) : Int) by omega]
/-- the lower places, in order -/
theorem belows_sort {n : Nat} {l : List Int} : ((endT n l).map (posOf (l.drop n))).mergeSort leB = (endB n l).map (posOf (l.drop n)) := by
  refine sort_is ((end_perm n l).map _) ?_
  have := seen_sorted (l.drop n)
  exact List.Pairwise.sublist (List.Sublist.map _ List.filter_sublist) this
theorem posOf_inj {l : List Int} {u v : Int} (hu : u ∈ l) (h : posOf l u = posOf l v) : u = v := by
  obtain ⟨i, hi, e⟩ := mem_get hu
  have : (i : Int) ∈ posOf l v := by rw [← h]; exact mem_posOf.mpr ⟨i, rfl, hi, e⟩
  obtain ⟨j, ej, hj, e2⟩ := mem_posOf.mp this
  obtain rfl : i = j := by omega
  rw [← e, e2]

/-! ### put together by values -/
theorem ks_putV {A B C : List Int} {n m q : Nat} (hA : A.length = n) (hB : B.length = m) (hC : C.length = q) (hh : ∀ v, v ∈ A → v ∈ C → v ∈ B) : Ks (n + m + q) (A ++ B ++ C) (Fput n m q (A ++ B) (B ++ C)) := by
  have e1 : ∀ i, i < n + m → co (A ++ B ++ C) i = co (A ++ B) i := fun i hi => co_app_l (by rw [List.length_append]; omega)
  have e2 : ∀ i, co (A ++ B ++ C) (n + i) = co (B ++ C) i := fun i => by
    rw [List.append_assoc, co_app2, if_neg (by omega), hA, show n + i - n = i by omega]
  have bd : Bd (n + m + q) (Fput n m q (A ++ B) (B ++ C)) := fun i j h => by
    rcases h with ⟨h1, h2, _⟩ | ⟨a, b, h1, h2, rfl, rfl, _⟩
    · exact ⟨by omega, by omega⟩
    · exact ⟨by omega, by omega⟩
  refine ⟨by rw [List.length_append, List.length_append]; omega, bd, fun i j hi hj => ⟨fun e => ?_, fun c => ?_⟩⟩
  · have low : ∀ i j, i < n + m → j < n + m → co (A ++ B ++ C) i = co (A ++ B ++ C) j → Conn (Fput n m q (A ++ B) (B ++ C)) i j := fun i j hi hj e => by
      rw [e1 i hi, e1 j hj] at e
      exact .ed (.inl ⟨hi, hj, e⟩)
    have high : ∀ i j, n ≤ i → n ≤ j → i < n + m + q → j < n + m + q → co (A ++ B ++ C) i = co (A ++ B ++ C) j → Conn (Fput n m q (A ++ B) (B ++ C)) i j := fun i j hi hj hi2 hj2 e => by
      refine .ed (.inr ⟨i - n, j - n, by omega, by omega, by omega, by omega, ?_⟩)
      rw [← e2, ← e2, show n + (i - n) = i by omega, show n + (j - n) = j by omega, e]
    have over : ∀ i j, i < n → n + m ≤ j → j < n + m + q → co (A ++ B ++ C) i = co (A ++ B ++ C) j → Conn (Fput n m q (A ++ B) (B ++ C)) i j := fun i j hi hj hj2 e => by
      have vA : co (A ++ B ++ C) i ∈ A := by
        rw [e1 i (by omega), co_app_l (by omega)]
        exact co_mem (by omega)
      have vC : co (A ++ B ++ C) j ∈ C := by
        rw [co_app2, if_neg (by rw [List.length_append]; omega), List.length_append]
        exact co_mem (by omega)
      obtain ⟨k, hk, ek⟩ := mem_get (hh _ vA (e ▸ vC))
      have e3 : co (A ++ B ++ C) (n + k) = co (A ++ B ++ C) i := by rw [e2, co_app_l hk, ek]
      exact .tr (low i (n + k) (by omega) (by omega) e3.symm) (high (n + k) j (by omega) (by omega) (by omega) hj2 (e3.trans e))
    rcases Nat.lt_or_ge i (n + m) with c1 | c1
    · rcases Nat.lt_or_ge j (n + m) with c2 | c2
      · exact low i j c1 c2 e
      · rcases Nat.lt_or_ge i n with c3 | c3
        · exact over i j c3 c2 hj e
        · exact high i j c3 (by omega) hi hj e
    · rcases Nat.lt_or_ge j n with c3 | c3
      · exact .sy (over j i c3 c1 hi e.symm)
      · exact high i j (by omega) c3 hi hj e
  · refine Conn.keep (g := co (A ++ B ++ C)) (fun x y h => ?_) c
    rcases h with ⟨h1, h2, e⟩ | ⟨a, b, h1, h2, rfl, rfl, e⟩
    · rw [e1 x h1, e1 y h2, e]
    · rw [e2, e2, e]
theorem put_val {A B C : List Int} {n m q : Nat} (hA : A.length = n) (hB : B.length = m) (hC : C.length = q) (hh : ∀ v, v ∈ A → v ∈ C → v ∈ B) (hs : ∀ v, v ∈ B → v ∈ A ∨ v ∈ C) :
    hid (putM n m q (A ++ B) (B ++ C)) (putS n m q (A ++ B) (B ++ C)) = 0 ∧ blocksOf (putS n m q (A ++ B) (B ++ C)) = blocksOf (A ++ C) := by
  have kV := ks_putV hA hB hC hh
  have kP := ks_putM (n := n) (m := m) (q := q) (l1 := A ++ B) (l2 := B ++ C) (by rw [List.length_append]; omega) (by rw [List.length_append]; omega)
  have sel : inoutL n (n + m) (A ++ B ++ C) = A ++ C := by
    unfold inoutL
    rw [List.append_assoc, List.take_left' hA, ← List.append_assoc, List.drop_left' (by rw [List.length_append]; omega)]
  obtain ⟨h1, h2⟩ := ker_cut (kV.ker kP) (inoutL n (n + m)) (inoutL_map n (n + m)) (inoutL_mem n (n + m))
  rw [sel] at h1 h2
  refine ⟨h1.trans (hid_zero fun k hk => ?_), h2⟩
  rcases List.mem_append.mp hk with hk | hk
  · rcases List.mem_append.mp hk with hk | hk
    · exact List.mem_append_left _ hk
    · exact List.mem_append.mpr (hs k hk)
  · exact List.mem_append_right _ hk
theorem thr_put1 {n m : Nat} {l : List Int} (h : l.length = n + m) : hid (putM n (endT n l).length (endT n l).length (upD n l) (miD n l)) (putS n (endT n l).length (endT n l).length (upD n l) (miD n l)) = 0 ∧ blocksOf (putS n (endT n l).length (endT n l).length (upD n l) (miD n l)) = blocksOf (l.take n ++ endB n l) :=
  put_val (A := l.take n) (B := endT n l) (C := endB n l) (by rw [List.length_take]; omega) rfl (end_len n l) (fun v _ h => mem_endT.mpr (mem_endB.mp h)) fun v h => .inl (mem_endT.mp h).1
theorem thr_put2 {n m : Nat} {l : List Int} (h : l.length = n + m) : hid (putM n (endT n l).length m (l.take n ++ endB n l) (loD n l)) (putS n (endT n l).length m (l.take n ++ endB n l) (loD n l)) = 0 ∧ blocksOf (putS n (endT n l).length m (l.take n ++ endB n l) (loD n l)) = blocksOf l := by
  have := put_val (A := l.take n) (B := endB n l) (C := l.drop n) (n := n) (m := (endT n l).length) (q := m) (by rw [List.length_take]; omega) (end_len n l) (by rw [List.length_drop]; omega) (fun v h1 h2 => mem_endB.mpr ⟨h1, h2⟩) fun v h => .inl (mem_endB.mp h).1
  rw [List.take_append_drop] at this
  exact this
/-! families -/
theorem cN_lo {n : Nat} {l : List Int} (h : n ≤ l.length) (w : Int) : cN l.length (loI n) l w = (l.take n).count w := by
  rw [← pos_lo, List.countP_eq_length_filter, ← posOf_len, ← pos_halfA h]
  rfl
theorem cN_hi {n : Nat} {l : List Int} (h : n ≤ l.length) (w : Int) : cN l.length (hiI n) l w = (l.drop n).count w := by
  rw [← pos_hi, List.countP_eq_length_filter, ← posOf_len, ← pos_halfB h]
  unfold halfB
  rw [List.length_map]
  rfl
theorem fam_cnt {z : Str} {n : Nat} {l : List Int} (h : n ≤ l.length) : inFam z n (blocksOf l) = true ↔ ∀ w ∈ l, okUD z ((l.take n).count w) ((l.drop n).count w) := by
  rw [fam_ud]
  exact ⟨fun g w hw => by have := g w hw; rwa [cN_lo h, cN_hi h] at this, fun g w hw => by rw [cN_lo h, cN_hi h]; exact g w hw⟩
theorem okUD_one (z : Str) : okUD z 1 1 := ⟨fun _ => .inl ⟨rfl, rfl⟩, fun _ => ⟨by decide, by decide⟩, fun _ => .inl rfl, fun _ => by decide, fun _ => rfl⟩
theorem okUD_u {z : Str} {u d : Nat} (hz : z ≠ "even") (hu : 1 ≤ u) (h : okUD z u d) : okUD z u (if d = 0 then 0 else 1) := by
  obtain ⟨a, b, c, e, _⟩ := h
  refine ⟨fun x => ?_, fun x => ?_, fun x => ?_, fun x => ?_, fun x => absurd x hz⟩
  · have := a x
    split <;> omega
  · have := b x
    split <;> omega
  · have := c x
    split <;> omega
  · have := e x
    split <;> omega
theorem okUD_d {z : Str} {u d : Nat} (hz : z ≠ "even") (hd : 1 ≤ d) (h : okUD z u d) : okUD z (if u = 0 then 0 else 1) d := by
  obtain ⟨a, b, c, e, _⟩ := h
  refine ⟨fun x => ?_, fun x => ?_, fun x => ?_, fun x => ?_, fun x => absurd x hz⟩
  · have := a x
    split <;> omega
  · have := b x
    split <;> omega
  · have := c x
    split <;> omega
  · have := e x
    split <;> omega
theorem upD_cut {n : Nat} {l : List Int} (h : n ≤ l.length) : (upD n l).take n = l.take n ∧ (upD n l).drop n = endT n l := by
  have lt : (l.take n).length = n := by rw [List.length_take]; omega
  exact ⟨List.take_left' lt, List.drop_left' lt⟩
theorem miD_cut (n : Nat) (l : List Int) : (miD n l).take (endT n l).length = endT n l ∧ (miD n l).drop (endT n l).length = endB n l := ⟨List.take_left' rfl, List.drop_left' rfl⟩
theorem loD_cut (n : Nat) (l : List Int) : (loD n l).take (endT n l).length = endB n l ∧ (loD n l).drop (endT n l).length = l.drop n := ⟨List.take_left' (end_len n l), List.drop_left' (end_len n l)⟩
theorem cnt_nd {E : List Int} (nd : E.Nodup) (w : Int) : E.count w = if w ∈ E then 1 else 0 := nd.count
theorem fam_up {z : Str} {n m : Nat} {l : List Int} (h : l.length = n + m) (hz : z ≠ "even") (f : inFam z n (blocksOf l) = true) : inFam z n (blocksOf (upD n l)) = true := by
  have f := (fam_cnt (n := n) (by omega)).mp f
  refine (fam_cnt (by unfold upD; rw [List.length_append, List.length_take]; omega)).mpr fun w hw => ?_
  obtain ⟨e1, e2⟩ := upD_cut (n := n) (l := l) (by omega)
  rw [e1, e2, cnt_nd (endT_nd n l)]
  have hT : w ∈ l.take n := by
    rcases List.mem_append.mp hw with h | h
    · exact h
    · exact (mem_endT.mp h).1
  have g := okUD_u hz (List.count_pos_iff.mpr hT) (f w (List.mem_of_mem_take hT))
  by_cases c : w ∈ l.drop n
  · rw [if_pos (mem_endT.mpr ⟨hT, c⟩)]
    rwa [if_neg (by have := List.count_pos_iff.mpr c; omega)] at g
  · rw [if_neg fun z => c (mem_endT.mp z).2]
    rwa [if_pos (List.count_eq_zero.mpr c)] at g
theorem fam_lo {z : Str} {n m : Nat} {l : List Int} (h : l.length = n + m) (hz : z ≠ "even") (f : inFam z n (blocksOf l) = true) : inFam z (endT n l).length (blocksOf (loD n l)) = true := by
  have f := (fam_cnt (n := n) (by omega)).mp f
  have el := end_len n l
  refine (fam_cnt (by unfold loD; rw [List.length_append]; omega)).mpr fun w hw => ?_
  obtain ⟨e1, e2⟩ := loD_cut n l
  rw [e1, e2, cnt_nd (endB_nd n l)]
  have hB : w ∈ l.drop n := by
    rcases List.mem_append.mp hw with h | h
    · exact (mem_endB.mp h).2
    · exact h
  have g := okUD_d hz (List.count_pos_iff.mpr hB) (f w (List.mem_of_mem_drop hB))
  by_cases c : w ∈ l.take n
  · rw [if_pos (mem_endB.mpr ⟨c, hB⟩)]
    rwa [if_neg (by have := List.count_pos_iff.mpr c; omega)] at g
  · rw [if_neg fun z => c (mem_endB.mp z).1]
    rwa [if_pos (List.count_eq_zero.mpr c)] at g
theorem fam_mi (z : Str) (n : Nat) (l : List Int) : inFam z (endT n l).length (blocksOf (miD n l)) = true := by
  refine (fam_cnt (by unfold miD; rw [List.length_append]; omega)).mpr fun w hw => ?_
  obtain ⟨e1, e2⟩ := miD_cut n l
  have hE : w ∈ endT n l := by
    rcases List.mem_append.mp hw with h | h
    · exact h
    · exact mem_endT.mpr (mem_endB.mp h)
  rw [e1, e2, cnt_nd (endT_nd n l), cnt_nd (endB_nd n l), if_pos hE, if_pos (mem_endB.mpr (mem_endT.mp hE))]
  exact okUD_one z

section
variable {P : Program} {w : World} {K : PySem.W.Frag} {mg : Str → Option Value} {base : Heap}
/-! ### _halves, and what is taken from them -/
theorem pg_tupK {X : Cx} {K : PySem.W.Frag} (hK : X.K = K) {es : List Expr} {k : Nat} {t : TGs} {n : Nat} {pos : Pos} (hc : X.calm = true) (h : PGs X es t)
    (hn : (assignEach es X.env).length = n := by rfl) (hst : (assignEach es X.env).findIdx? (·.1) = none := by rfl) : PG X (.Tuple es k pos) (gTup K n t) := by
  subst hK
  exact pg_tup hc h hn hst
theorem call_tuple_ofK {X : Cx} {K : PySem.W.Frag} (hK : X.K = K) : CallR X (.type "tuple") (fun xs H Q => ∃ p ys, xs = [.ref p] ∧ ((SqL K H p ys ∧ ∀ l, H l = none → Q (.ref l) (upd H l (.tup ys))) ∨ (SqT K H p ys ∧ Q (.ref p) H))) := by
  subst hK
  exact call_tuple_of
def HvP (H : Hp) (v : V) (x : List Int × List Int) : Prop := ∃ t a b, v = .ref t ∧ H t = some (.tup [a, b]) ∧ TP H a x.1 ∧ TP H b x.2
theorem HvP.same {H H' : Hp} {v : V} {x : List Int × List Int} (s : Same H H') (h : HvP H v x) : HvP H' v x := by
  obtain ⟨t, a, b, rfl, h, h1, h2⟩ := h
  exact ⟨t, a, b, rfl, s _ _ h, h1.same s, h2.same s⟩
theorem HvP.butL {H H' : Hp} {r : Addr} {ys : List V} {v : V} {x : List Int × List Int} (hr : H r = some (.lst ys)) (s : SameBut r H H') (h : HvP H v x) : HvP H' v x := by
  obtain ⟨t, a, b, rfl, h, h1, h2⟩ := h
  exact ⟨t, a, b, rfl, s _ _ (ne_of h hr (fun z => nomatch z)) h, h1.butL hr s, h2.butL hr s⟩
theorem paired_ix {α β : Type} {F : α → β → Prop} : ∀ {l : List α} {m : List β} {i : Nat} {x : α}, Paired F l m → l[i]? = some x → ∃ y, m[i]? = some y ∧ F x y
  | _, _, 0, _, .cons h _, e => by
    obtain rfl := Option.some.inj e
    exact ⟨_, rfl, h⟩
  | _, _, i + 1, _, .cons _ t, e => paired_ix (i := i) t e
theorem filter_snoc {α : Type} {l : List α} {i : Nat} {a : α} (h : l[i]? = some a) (f : α → Bool) : (l.take (i + 1)).filter f = if f a = true then (l.take i).filter f ++ [a] else (l.take i).filter f := by
  rw [List.take_succ, h, List.filter_append]
  show (l.take i).filter f ++ [a].filter f = _
  rw [List.filter_cons]
  split
  · rfl
  · exact List.append_nil _
theorem map_snocG {α β : Type} {l : List α} {i : Nat} {a : α} (h : l[i]? = some a) (f : α → β) : (l.take (i + 1)).map f = (l.take i).map f ++ [f a] := by
  rw [List.take_succ, h, List.map_append]
  rfl
theorem get_co {l : List Int} {i : Nat} (h : i < l.length) : l[i]? = some (co l i) := by
  rw [co_get h]
theorem get_ints {l : List Int} {i : Nat} {y : V} (hi : i < l.length) (h : (l.map V.int)[i]? = some y) : y = .int (co l i) := by
  rw [List.getElem?_map, co_get hi] at h
  exact (Option.some.inj h).symm
end

section
variable {P : Program} {w : World} {K : PySem.W.Frag} {mg : Str → Option Value} {base : Heap}
def spHalves (CD : Addr) : Sp := fun vs H Q E => ∃ (v : V) (n m : Int) (bs : List (List Int)), vs = [v] ∧ DGv H v n m bs ∧ DgOk n m bs ∧ (¬ IsDg n m bs → ∀ H', Same H H' → E (.ref CD) none H') ∧
  (IsDg n m bs → ∀ (L : Addr) es H', Same H H' → H' L = some (.lst es) → Paired (HvP H') es (halves n bs) → Q (.ref L) H')
theorem ok_halves_ {f CD : Addr} {fd : FuncData} (F : Fun K "_halves" "_halves" s_halves_ f fd) (z_tuple : mg "tuple" = none)
    {a_check_diagram : Addr} {fd_check_diagram : FuncData} (G_check_diagram : FnOk P w K mg base (L2N.CX P w) 3 a_check_diagram fd_check_diagram ["diagram"] (spCheckDiagram CD)) (g_check_diagram : mg "check_diagram" = some (.ref a_check_diagram)) (k_check_diagram : PySem.W.keepIn K (.ref a_check_diagram) = true) (b_check_diagram : Binds K fd_check_diagram ["diagram"] []) :
    FnOk P w K mg base (L2N.CX P w) 4 f fd ["diagram"] (spHalves CD) := by
  refine F.okXN sc_halves_ (fun vs H Q E h => ?_) (fun cdv A outer s H vs Q E hr h => ?_)
  · obtain ⟨v, n, m, bs, rfl, _⟩ := h
    rfl
  · obtain ⟨v, n, m, bs, rfl, hv, hb, qD, q⟩ := h
    refine ⟨_, (pss_cons (ps_expr (pe_call G_check_diagram (hr.mono (by decide)) rfl g_check_diagram k_check_diagram b_check_diagram .nil (L2N.passes_call (L2N.takes_of rfl rfl rfl rfl) (fun _ _ _ _ h => h)) (pa_cons (pv 0) pa_nil)))
  (pss_cons (ps_asg (pv 0) (pg_tup rfl (pgs_cons (pg_name (i := 1) sc_halves_.nd rfl (.inr rfl)) (pgs_cons (pg_name (i := 2) sc_halves_.nd rfl (.inl rfl)) (pgs_cons (pg_name (i := 3) sc_halves_.nd rfl (.inl rfl)) pgs_nil)))))
  (pss_one (ps_ret (pe_lc (own := [("block", 4)]) rfl sc_halves_.nd (pi_tup (pv 3)) (blkOk_by (N := ["diagram", "n", "_", "blocks", "block", "k"]) (sc := defScope s_halves_) (by first | decide +kernel | rfl)) (fun _ _ _ _ _ => (pg_name (i := 4) sc_halves_.nd rfl (.inl rfl))) (fun _ _ _ _ _ => pts_nil) (fun _ _ _ _ _ => (pe_tup (pa_cons (pe_callTy (call_tuple_ofK (K := K) rfl) (by rfl) z_tuple boot_tuple (pa_cons (pe_lc (own := [("k", 5)]) rfl sc_halves_.nd (pi_tupK (K := K) rfl (pv 4)) (blkOk_by (N := ["diagram", "n", "_", "blocks", "block", "k"]) (by first | decide +kernel | rfl)) (fun _ _ _ _ _ => (pg_name (i := 5) sc_halves_.nd rfl (.inl rfl))) (fun _ _ _ _ _ => pts_one (pt_cmpR op_lt (pv 5) (pv 1) (nomark _))) (fun _ _ _ _ _ => (pv 5))) pa_nil)) (pa_cons (pe_callTy (call_tuple_ofK (K := K) rfl) (by rfl) z_tuple boot_tuple (pa_cons (pe_lc (own := [("k", 5)]) rfl sc_halves_.nd (pi_tupK (K := K) rfl (pv 4)) (blkOk_by (N := ["diagram", "n", "_", "blocks", "block", "k"]) (by first | decide +kernel | rfl)) (fun _ _ _ _ _ => (pg_name (i := 5) sc_halves_.nd rfl (.inl rfl))) (fun _ _ _ _ _ => pts_one (pt_cmpR op_ge (pv 5) (pv 1) (nomark _))) (fun _ _ _ _ _ => (pe_op op_sub (pv 5) (pv 1)))) pa_nil)) pa_nil))))))))), ?_⟩
    have szl : 20000 ≤ sizeLine := by decide
    refine ⟨_, rfl, v, n, m, bs, rfl, hv, hb, fun H1 s1 => ⟨fun dg => ?_, fun nd => qD nd H1 s1⟩⟩
    have q := q dg
    obtain ⟨t, vb, rfl, ht, tb, ts, rfl, htb, pr⟩ := hv.same s1
    refine ⟨_, rfl, t, _, rfl, .inl (.inl ht), rfl, _, _, rfl, _, _, rfl, _, _, rfl, rfl, ?_⟩
    refine ⟨_, rfl, tb, rfl, ⟨_, .inl (.inl htb)⟩, fun D nD => ?_⟩
    have hDb : tb ≠ D := ne_of_none htb nD
    have lts := pr.length
    have few := dg.few.1
    refine lc_it walk_tup (fun i H' => SameBut D H1 H' ∧ ∃ es, H' D = some (.lst es) ∧ Paired (HvP H') es (halves n (bs.take i))) ⟨SameBut.upd, [], upd_same, .nil⟩ (fun i H' _ hP => .inl (.inl (hP.1 _ _ hDb htb))) (fun i y H2 H3 hi hP hy => ?_) (fun H2 hP => ?_)
    · obtain ⟨sb, es, hD, pe⟩ := hP
      obtain ⟨rfl, ey⟩ := hy
      obtain ⟨b, eb, ax, rfl, hax0⟩ := paired_ix pr ey
      have hax := sb _ _ (ne_of_none hax0 nD) hax0
      have lb := dg.few.2 b (List.mem_of_getElem? eb)
      have lbs : i < bs.length := (List.getElem?_eq_some_iff.mp eb).1
      have les := pe.length
      refine ⟨rfl, ?_⟩
      refine ⟨_, rfl, ax, rfl, ⟨_, .inl (.inl hax)⟩, fun D1 nD1 => ?_⟩
      refine lc_it walk_tup (fun j H' => SameBut D1 H3 H' ∧ H' D1 = some (.lst (((b.take j).filter fun p => decide (p < n)).map V.int))) ⟨SameBut.upd, upd_same⟩ (fun j H' _ hP => .inl (.inl (hP.1 _ _ (ne_of_none hax nD1) hax))) (fun j y H4 H5 hj hP hy => ?_) (fun H4 hP => ?_)
      · obtain ⟨sb1, hD1⟩ := hP
        obtain ⟨rfl, ey⟩ := hy
        rw [List.length_map] at hj
        obtain rfl := get_ints hj ey
        refine ⟨rfl, _, rfl, _, rfl, _, _, rfl, rfl, _, rfl, ?_⟩
        have fl := List.length_filter_le (fun p => decide (p < n)) (b.take j)
        rw [List.length_take] at fl
        rw [filter_snoc (get_co hj)]
        by_cases c : co b j < n
        · rw [if_pos (decide_eq_true c)]
          refine if_pos_of (decide_eq_true c) ⟨_, rfl, _, hD1, by rw [List.length_map]; omega, sb1.trans SameBut.upd, ?_⟩
          rw [List.map_append]
          exact upd_same
        · rw [if_neg fun z => c (of_decide_eq_true z)]
          exact if_neg_of (fun z => c (of_decide_eq_true z)) ⟨sb1, hD1⟩
      · obtain ⟨sb1, hD1⟩ := hP
        rw [List.length_map, List.take_length] at hD1
        have s4 : Same H3 H4 := fun b o e => sb1 b o (ne_of_none e nD1) e
        refine ⟨D1, _, rfl, .inl ⟨.inl (.inl hD1), fun p1 np1 => ?_⟩⟩
        have s5 := same_upd (o := .tup (((b.filter fun p => decide (p < n))).map V.int)) np1
        have s35 := Same.trans s4 s5
        have hp1 : upd H4 p1 (.tup (((b.filter fun p => decide (p < n))).map V.int)) p1 = some (.tup (((b.filter fun p => decide (p < n))).map V.int)) := upd_same
        revert s35 hp1
        generalize upd H4 p1 (.tup (((b.filter fun p => decide (p < n))).map V.int)) = H5
        intro s35 hp1
        have hax5 := s35 _ _ hax
        refine ⟨_, rfl, ax, rfl, ⟨_, .inl (.inl hax5)⟩, fun D2 nD2 => ?_⟩
        refine lc_it walk_tup (fun j H' => SameBut D2 H5 H' ∧ H' D2 = some (.lst ((((b.take j).filter fun p => decide (p ≥ n)).map fun p => p - n).map V.int))) ⟨SameBut.upd, upd_same⟩ (fun j H' _ hP => .inl (.inl (hP.1 _ _ (ne_of_none hax5 nD2) hax5))) (fun j y H6 H7 hj hP hy => ?_) (fun H6 hP => ?_)
        · obtain ⟨sb2, hD2⟩ := hP
          obtain ⟨rfl, ey⟩ := hy
          rw [List.length_map] at hj
          obtain rfl := get_ints hj ey
          refine ⟨rfl, _, rfl, _, rfl, _, _, rfl, rfl, _, rfl, ?_⟩
          have fl := List.length_filter_le (fun p => decide (p ≥ n)) (b.take j)
          rw [List.length_take] at fl
          rw [filter_snoc (get_co hj)]
          by_cases c : co b j ≥ n
          · rw [if_pos (decide_eq_true c)]
            refine if_pos_of (decide_eq_true c) ⟨_, rfl, _, rfl, _, _, rfl, rfl, _, hD2, by rw [List.length_map, List.length_map]; omega, sb2.trans SameBut.upd, ?_⟩
            rw [List.map_append, List.map_append]
            exact upd_same
          · rw [if_neg fun z => c (of_decide_eq_true z)]
            exact if_neg_of (fun z => c (of_decide_eq_true z)) ⟨sb2, hD2⟩
        · obtain ⟨sb2, hD2⟩ := hP
          rw [List.length_map, List.take_length] at hD2
          have s6 : Same H5 H6 := fun b o e => sb2 b o (ne_of_none e nD2) e
          refine ⟨D2, _, rfl, .inl ⟨.inl (.inl hD2), fun p2 np2 => ?_⟩⟩
          have s7 := same_upd (o := .tup (((b.filter fun p => decide (p ≥ n)).map fun p => p - n).map V.int)) np2
          refine ⟨(by show 2 ≤ sizeLine; decide), fun p3 np3 => ?_⟩
          have s8 := same_upd (o := .tup [.ref p1, .ref p2]) np3
          have s58 := Same.trans s6 (Same.trans s7 s8)
          have hD8 := s58 _ _ (s35 _ _ hD)
          have sD := SameBut.upd (H := upd (upd H6 p2 (.tup (((b.filter fun p => decide (p ≥ n)).map fun p => p - n).map V.int))) p3 (.tup [.ref p1, .ref p2])) (a := D) (o := .lst (es ++ [.ref p3]))
          have lhs : (halves n (bs.take i)).length = i := by
            unfold halves
            rw [List.length_map, List.length_take]
            omega
          have one : HvP (upd (upd H6 p2 (.tup (((b.filter fun p => decide (p ≥ n)).map fun p => p - n).map V.int))) p3 (.tup [.ref p1, .ref p2])) (.ref p3) (halfA n b, halfB n b) :=
            ⟨p3, _, _, rfl, upd_same, ⟨p1, rfl, s58 _ _ hp1⟩, ⟨p2, rfl, s8 _ _ upd_same⟩⟩
          refine ⟨es, hD8, by omega, (sb.trans (Same.but (Same.trans s35 s58))).trans sD, _, upd_same, ?_⟩
          have e : halves n (bs.take (i + 1)) = halves n (bs.take i) ++ [(halfA n b, halfB n b)] := map_snocG eb _
          rw [e]
          exact paired_add (one.butL hD8 sD) (Paired.mapP pe fun _ _ h => (h.same (Same.trans s35 s58)).butL hD8 sD)
    · obtain ⟨sb, es, hD, pe⟩ := hP
      rw [lts, List.take_length] at pe
      exact q D es H2 (Same.trans s1 fun b o e => sb b o (ne_of_none e nD) e) hD pe
end

section
variable {P : Program} {w : World} {K : PySem.W.Frag} {mg : Str → Option Value} {base : Heap}
/-! ### _through_halves, _only_above, _only_below -/
def spThrH (CD : Addr) : Sp := fun vs H Q E => ∃ (v : V) (n m : Int) (bs : List (List Int)), vs = [v] ∧ DGv H v n m bs ∧ DgOk n m bs ∧ (¬ IsDg n m bs → ∀ H', Same H H' → E (.ref CD) none H') ∧
  (IsDg n m bs → ∀ (L : Addr) es H', Same H H' → H' L = some (.lst es) → Paired (HvP H') es ((halves n bs).filter bothH) → Q (.ref L) H')
theorem tru_tp {H : Hp} {v : V} {x : List Int} (h : TP H v x) : TruV K v H (!x.isEmpty) := by
  obtain ⟨t, rfl, h⟩ := h
  exact .inr (.inl ⟨_, .inl (.inl h), by cases x <;> rfl⟩)
theorem tp_emp {H : Hp} {a : Addr} {x : List Int} (h : TP H (.ref a) x) : H a = some (.tup (x.map V.int)) := by
  obtain ⟨t, e, h⟩ := h
  rw [V.ref.inj e]
  exact h
theorem ok_through_halves_ {f CD : Addr} {fd : FuncData} (F : Fun K "_through_halves" "_through_halves" s_through_halves_ f fd)
    {a_halves_ : Addr} {fd_halves_ : FuncData} (G_halves_ : FnOk P w K mg base (L2N.CX P w) 4 a_halves_ fd_halves_ ["diagram"] (spHalves CD)) (g_halves_ : mg "_halves" = some (.ref a_halves_)) (k_halves_ : PySem.W.keepIn K (.ref a_halves_) = true) (b_halves_ : Binds K fd_halves_ ["diagram"] []) :
    FnOk P w K mg base (L2N.CX P w) 5 f fd ["diagram"] (spThrH CD) := by
  refine F.okXN sc_through_halves_ (fun vs H Q E h => ?_) (fun cdv A outer s H vs Q E hr h => ?_)
  · obtain ⟨v, n, m, bs, rfl, _⟩ := h
    rfl
  · obtain ⟨v, n, m, bs, rfl, hv, hb, qD, q⟩ := h
    refine ⟨_, (pss_one (ps_ret (pe_lc (own := [("above", 1), ("below", 2)]) rfl sc_through_halves_.nd (pi_list (pe_call G_halves_ (hr.mono (by decide)) rfl g_halves_ k_halves_ b_halves_ .nil (L2N.passes_call (L2N.takes_of rfl rfl rfl rfl) (fun _ _ _ _ h => h)) (pa_cons (pv 0) pa_nil))) (blkOk_by (N := ["diagram", "above", "below"]) (sc := defScope s_through_halves_) (by first | decide +kernel | rfl)) (fun _ _ _ _ _ => (pg_tupK (n := 2) (K := K) rfl rfl (pgs_cons (pg_name (i := 1) sc_through_halves_.nd rfl (.inl rfl)) (pgs_cons (pg_name (i := 2) sc_through_halves_.nd rfl (.inl rfl)) pgs_nil)))) (fun _ _ _ _ _ => pts_one (by exact L2.PW.pt (pw_and (pt_truthK (K := K) rfl (pv 1) (by intro _; rfl)) (pw_and1 (pt_truthK (K := K) rfl (pv 2) (by intro _; rfl)))))) (fun _ _ _ _ _ => (pe_tup (pa_cons (pv 1) (pa_cons (pv 2) pa_nil))))))), ?_⟩
    have szl : 20000 ≤ sizeLine := by decide
    refine ⟨_, rfl, v, n, m, bs, rfl, hv, hb, qD, fun dg L es0 H1 s1 hL pr => ?_⟩
    have q := q dg
    have lL : (halves n bs).length ≤ 12 := by
      unfold halves
      rw [List.length_map]
      exact dg.few.1
    generalize halves n bs = hs at pr lL q
    have l0 := pr.length
    refine ⟨L, rfl, ⟨_, .inl (.inl hL)⟩, fun D nD => ?_⟩
    have hLD : L ≠ D := ne_of_none hL nD
    refine lc_list (xs := es0) (fun i H' => SameBut D H1 H' ∧ ∃ es, H' D = some (.lst es) ∧ Paired (HvP H') es ((hs.take i).filter bothH)) ⟨SameBut.upd, [], upd_same, .nil⟩ (fun i H' hi hP => .inl (.inl (hP.1 _ _ hLD hL))) (fun i y H' hi hP => ?_) (fun H4 hP => ?_)
    · obtain ⟨sb, es, hD, pe⟩ := hP
      obtain ⟨⟨x1, x2⟩, ex, t, a, b, rfl, ht, ta, tb⟩ := paired_ix pr hi
      have s1 : Same H1 H' := fun b o e => sb b o (ne_of_none e nD) e
      have lh : ((hs.take i).filter bothH).length ≤ 12 := Nat.le_trans (List.length_filter_le _ _) (by rw [List.length_take]; omega)
      have les := pe.length
      rw [filter_snoc ex]
      refine ⟨t, _, rfl, .inl (.inl (s1 _ _ ht)), rfl, _, _, rfl, _, _, rfl, rfl, ?_⟩
      refine ⟨rfl, _, rfl, _, tru_tp (ta.same s1), ?_⟩
      by_cases c1 : x1.isEmpty = true
      · rw [if_neg (by unfold bothH; rw [c1]; exact Bool.false_ne_true)]
        refine if_neg_of (by rw [c1]; exact Bool.false_ne_true) (if_neg_of Bool.false_ne_true ⟨sb, es, hD, pe⟩)
      rw [Bool.not_eq_true] at c1
      refine if_pos_of (by rw [c1]; rfl) ⟨_, rfl, _, tru_tp (tb.same s1), ?_⟩
      by_cases c2 : x2.isEmpty = true
      · rw [if_neg (by unfold bothH; rw [c1, c2]; exact Bool.false_ne_true)]
        exact if_neg_of (by rw [c2]; exact Bool.false_ne_true) ⟨sb, es, hD, pe⟩
      rw [Bool.not_eq_true] at c2
      rw [if_pos (by unfold bothH; rw [c1, c2]; rfl)]
      refine if_pos_of (by rw [c2]; rfl) ⟨_, rfl, _, rfl, (by show 2 ≤ sizeLine; decide), fun p np => ?_⟩
      have sp := same_upd (o := .tup [a, b]) np
      have sD := SameBut.upd (H := upd H' p (.tup [a, b])) (a := D) (o := .lst (es ++ [.ref p]))
      have one : HvP (upd H' p (.tup [a, b])) (.ref p) (x1, x2) := ⟨p, a, b, rfl, upd_same, ta.same (Same.trans s1 sp), tb.same (Same.trans s1 sp)⟩
      exact ⟨es, sp _ _ hD, by omega, (sb.trans (Same.but sp)).trans sD, _, upd_same, paired_add (one.butL (sp _ _ hD) sD) (Paired.mapP pe fun _ _ h => (h.same sp).butL (sp _ _ hD) sD)⟩
    · obtain ⟨sb, es, hD, pe⟩ := hP
      rw [l0, List.take_length] at pe
      exact q D es H4 (Same.trans s1 fun b o e => sb b o (ne_of_none e nD) e) hD pe
def spOnlyabove (CD : Addr) : Sp := fun vs H Q E => ∃ (v : V) (n m : Int) (bs : List (List Int)), vs = [v] ∧ DGv H v n m bs ∧ DgOk n m bs ∧ (¬ IsDg n m bs → ∀ H', Same H H' → E (.ref CD) none H') ∧
  (IsDg n m bs → ∀ (L : Addr) es H', Same H H' → H' L = some (.lst es) → Paired (TP H') es (((halves n bs).filter fun x => x.2.isEmpty).map Prod.fst) → Q (.ref L) H')
theorem ok_only_above_ {f CD : Addr} {fd : FuncData} (F : Fun K "_only_above" "_only_above" s_only_above_ f fd)
    {a_halves_ : Addr} {fd_halves_ : FuncData} (G_halves_ : FnOk P w K mg base (L2N.CX P w) 4 a_halves_ fd_halves_ ["diagram"] (spHalves CD)) (g_halves_ : mg "_halves" = some (.ref a_halves_)) (k_halves_ : PySem.W.keepIn K (.ref a_halves_) = true) (b_halves_ : Binds K fd_halves_ ["diagram"] []) :
    FnOk P w K mg base (L2N.CX P w) 5 f fd ["diagram"] (spOnlyabove CD) := by
  refine F.okXN sc_only_above_ (fun vs H Q E h => ?_) (fun cdv A outer s H vs Q E hr h => ?_)
  · obtain ⟨v, n, m, bs, rfl, _⟩ := h
    rfl
  · obtain ⟨v, n, m, bs, rfl, hv, hb, qD, q⟩ := h
    refine ⟨_, (pss_one (ps_ret (pe_lc (own := [("above", 1), ("below", 2)]) rfl sc_only_above_.nd (pi_list (pe_call G_halves_ (hr.mono (by decide)) rfl g_halves_ k_halves_ b_halves_ .nil (L2N.passes_call (L2N.takes_of rfl rfl rfl rfl) (fun _ _ _ _ h => h)) (pa_cons (pv 0) pa_nil))) (blkOk_by (N := ["diagram", "above", "below"]) (sc := defScope s_only_above_) (by first | decide +kernel | rfl)) (fun _ _ _ _ _ => (pg_tupK (n := 2) (K := K) rfl rfl (pgs_cons (pg_name (i := 1) sc_only_above_.nd rfl (.inl rfl)) (pgs_cons (pg_name (i := 2) sc_only_above_.nd rfl (.inl rfl)) pgs_nil)))) (fun _ _ _ _ _ => pts_one (pt_not (pt_truthK (K := K) rfl (pv 2) (by intro _; rfl)))) (fun _ _ _ _ _ => (pv 1))))), ?_⟩
    have szl : 20000 ≤ sizeLine := by decide
    refine ⟨_, rfl, v, n, m, bs, rfl, hv, hb, qD, fun dg L es0 H1 s1 hL pr => ?_⟩
    have q := q dg
    have lL : (halves n bs).length ≤ 12 := by
      unfold halves
      rw [List.length_map]
      exact dg.few.1
    generalize halves n bs = hs at pr lL q
    have l0 := pr.length
    refine ⟨L, rfl, ⟨_, .inl (.inl hL)⟩, fun D nD => ?_⟩
    have hLD : L ≠ D := ne_of_none hL nD
    refine lc_list (xs := es0) (fun i H' => SameBut D H1 H' ∧ ∃ es, H' D = some (.lst es) ∧ Paired (TP H') es (((hs.take i).filter fun x => x.2.isEmpty).map Prod.fst)) ⟨SameBut.upd, [], upd_same, .nil⟩ (fun i H' hi hP => .inl (.inl (hP.1 _ _ hLD hL))) (fun i y H' hi hP => ?_) (fun H4 hP => ?_)
    · obtain ⟨sb, es, hD, pe⟩ := hP
      obtain ⟨⟨x1, x2⟩, ex, t, a, b, rfl, ht, ta, tb⟩ := paired_ix pr hi
      have s1 : Same H1 H' := fun b o e => sb b o (ne_of_none e nD) e
      have lh : (((hs.take i).filter fun x => x.2.isEmpty).map Prod.fst).length ≤ 12 := by
        rw [List.length_map]
        exact Nat.le_trans (List.length_filter_le _ _) (by rw [List.length_take]; omega)
      have les := pe.length
      rw [filter_snoc ex]
      refine ⟨t, _, rfl, .inl (.inl (s1 _ _ ht)), rfl, _, _, rfl, _, _, rfl, rfl, ?_⟩
      refine ⟨rfl, _, rfl, _, tru_tp (tb.same s1), ?_⟩
      by_cases c2 : x2.isEmpty = true
      · rw [if_pos c2, List.map_append]
        refine if_pos_of (by rw [c2]; rfl) ⟨_, rfl, ?_⟩
        have sD := SameBut.upd (H := H') (a := D) (o := .lst (es ++ [a]))
        exact ⟨es, hD, by omega, sb.trans sD, _, upd_same, paired_add ((ta.same s1).butL hD sD) (Paired.mapP pe fun _ _ h => h.butL hD sD)⟩
      · rw [if_neg c2]
        exact if_neg_of (by rw [Bool.not_eq_true] at c2; rw [c2]; exact Bool.false_ne_true) ⟨sb, es, hD, pe⟩
    · obtain ⟨sb, es, hD, pe⟩ := hP
      rw [l0, List.take_length] at pe
      exact q D es H4 (Same.trans s1 fun b o e => sb b o (ne_of_none e nD) e) hD pe
def spOnlybelow (CD : Addr) : Sp := fun vs H Q E => ∃ (v : V) (n m : Int) (bs : List (List Int)), vs = [v] ∧ DGv H v n m bs ∧ DgOk n m bs ∧ (¬ IsDg n m bs → ∀ H', Same H H' → E (.ref CD) none H') ∧
  (IsDg n m bs → ∀ (L : Addr) es H', Same H H' → H' L = some (.lst es) → Paired (TP H') es (((halves n bs).filter fun x => x.1.isEmpty).map Prod.snd) → Q (.ref L) H')
theorem ok_only_below_ {f CD : Addr} {fd : FuncData} (F : Fun K "_only_below" "_only_below" s_only_below_ f fd)
    {a_halves_ : Addr} {fd_halves_ : FuncData} (G_halves_ : FnOk P w K mg base (L2N.CX P w) 4 a_halves_ fd_halves_ ["diagram"] (spHalves CD)) (g_halves_ : mg "_halves" = some (.ref a_halves_)) (k_halves_ : PySem.W.keepIn K (.ref a_halves_) = true) (b_halves_ : Binds K fd_halves_ ["diagram"] []) :
    FnOk P w K mg base (L2N.CX P w) 5 f fd ["diagram"] (spOnlybelow CD) := by
  refine F.okXN sc_only_below_ (fun vs H Q E h => ?_) (fun cdv A outer s H vs Q E hr h => ?_)
  · obtain ⟨v, n, m, bs, rfl, _⟩ := h
    rfl
  · obtain ⟨v, n, m, bs, rfl, hv, hb, qD, q⟩ := h
    refine ⟨_, (pss_one (ps_ret (pe_lc (own := [("above", 1), ("below", 2)]) rfl sc_only_below_.nd (pi_list (pe_call G_halves_ (hr.mono (by decide)) rfl g_halves_ k_halves_ b_halves_ .nil (L2N.passes_call (L2N.takes_of rfl rfl rfl rfl) (fun _ _ _ _ h => h)) (pa_cons (pv 0) pa_nil))) (blkOk_by (N := ["diagram", "above", "below"]) (sc := defScope s_only_below_) (by first | decide +kernel | rfl)) (fun _ _ _ _ _ => (pg_tupK (n := 2) (K := K) rfl rfl (pgs_cons (pg_name (i := 1) sc_only_below_.nd rfl (.inl rfl)) (pgs_cons (pg_name (i := 2) sc_only_below_.nd rfl (.inl rfl)) pgs_nil)))) (fun _ _ _ _ _ => pts_one (pt_not (pt_truthK (K := K) rfl (pv 1) (by intro _; rfl)))) (fun _ _ _ _ _ => (pv 2))))), ?_⟩
    have szl : 20000 ≤ sizeLine := by decide
    refine ⟨_, rfl, v, n, m, bs, rfl, hv, hb, qD, fun dg L es0 H1 s1 hL pr => ?_⟩
    have q := q dg
    have lL : (halves n bs).length ≤ 12 := by
      unfold halves
      rw [List.length_map]
      exact dg.few.1
    generalize halves n bs = hs at pr lL q
    have l0 := pr.length
    refine ⟨L, rfl, ⟨_, .inl (.inl hL)⟩, fun D nD => ?_⟩
    have hLD : L ≠ D := ne_of_none hL nD
    refine lc_list (xs := es0) (fun i H' => SameBut D H1 H' ∧ ∃ es, H' D = some (.lst es) ∧ Paired (TP H') es (((hs.take i).filter fun x => x.1.isEmpty).map Prod.snd)) ⟨SameBut.upd, [], upd_same, .nil⟩ (fun i H' hi hP => .inl (.inl (hP.1 _ _ hLD hL))) (fun i y H' hi hP => ?_) (fun H4 hP => ?_)
    · obtain ⟨sb, es, hD, pe⟩ := hP
      obtain ⟨⟨x1, x2⟩, ex, t, a, b, rfl, ht, ta, tb⟩ := paired_ix pr hi
      have s1 : Same H1 H' := fun b o e => sb b o (ne_of_none e nD) e
      have lh : (((hs.take i).filter fun x => x.1.isEmpty).map Prod.snd).length ≤ 12 := by
        rw [List.length_map]
        exact Nat.le_trans (List.length_filter_le _ _) (by rw [List.length_take]; omega)
      have les := pe.length
      rw [filter_snoc ex]
      refine ⟨t, _, rfl, .inl (.inl (s1 _ _ ht)), rfl, _, _, rfl, _, _, rfl, rfl, ?_⟩
      refine ⟨rfl, _, rfl, _, tru_tp (ta.same s1), ?_⟩
      by_cases c2 : x1.isEmpty = true
      · rw [if_pos c2, List.map_append]
        refine if_pos_of (by rw [c2]; rfl) ⟨_, rfl, ?_⟩
        have sD := SameBut.upd (H := H') (a := D) (o := .lst (es ++ [b]))
        exact ⟨es, hD, by omega, sb.trans sD, _, upd_same, paired_add ((tb.same s1).butL hD sD) (Paired.mapP pe fun _ _ h => h.butL hD sD)⟩
      · rw [if_neg c2]
        exact if_neg_of (by rw [Bool.not_eq_true] at c2; rw [c2]; exact Bool.false_ne_true) ⟨sb, es, hD, pe⟩
    · obtain ⟨sb, es, hD, pe⟩ := hP
      rw [l0, List.take_length] at pe
      exact q D es H4 (Same.trans s1 fun b o e => sb b o (ne_of_none e nD) e) hD pe
end

section
variable {P : Program} {w : World} {K : PySem.W.Frag} {mg : Str → Option Value} {base : Heap}
/-! ### sorted(tuples of ints), _shifted, _with_blocks -/
theorem le_dT : PySem.W.dataLe false dT = leB := by
  funext p q
  show (!PySem.W.dataLt (.tuple (q.map .int)) (.tuple (p.map .int))) = decide (p ≤ q)
  rw [PySem.W.dataLt_tuple]
  show (!PySem.W.rowLt (q.map .int) (p.map .int)) = _
  rw [PySem.W.dataLt_ints]
  by_cases h : q < p
  · have h' : ¬ p ≤ q := fun r => List.not_lt.mpr r h
    simp [h, h']
  · have h' : p ≤ q := List.not_lt.mp h
    simp [h, h']
theorem alike_dT (bs : List (List Int)) : PySem.W.AllAlike (bs.map dT) := PySem.W.AllAlike.of fun b b' => by
  show PySem.W.alike (.tuple (b.map .int)) (.tuple (b'.map .int)) = true
  rw [PySem.W.alike]
  exact PySem.W.alike_ints b b'
theorem sortable_dT {bs : List (List Int)} (h : ∀ b ∈ bs, b ≠ []) : PySem.W.Sortable (bs.map dT) := .inl fun d hd => by
  obtain ⟨b, hb, rfl⟩ := List.mem_map.mp hd
  cases b with
  | nil => exact absurd rfl (h _ hb)
  | cons x r => exact ⟨_, _, rfl⟩
theorem depth_dT (b : List Int) : (dT b).depth ≤ 60 := by
  obtain ⟨_, h2⟩ := lay_ints b
  unfold dT
  rw [show PyData.depth (.tuple (b.map PyData.int)) = 1 by simp [PyData.depth, h2]]
  decide
theorem sortG_TP {H : Hp} {a : Addr} {xs : List V} {bs : List (List Int)} {Q : VK} (hs : SqL K H a xs) (pr : Paired (TP H) xs bs) (ne : ∀ b ∈ bs, b ≠ [])
    (q : ∀ ys p, Paired (TP H) ys (bs.mergeSort leB) → H p = none → Q (.ref p) (upd H p (.lst ys))) : rSortG K [.ref a] H Q := by
  refine ⟨List Int, dT, TP H, a, xs, bs, rfl, hs, fun x hx => ?_, pr, ?_, alike_dT bs, sortable_dT ne, fun b _ => depth_dT b, fun ys p h np => q ys p (by rw [← le_dT]; exact h) np⟩
  · obtain ⟨i, hi, e⟩ := List.mem_iff_getElem.mp hx
    obtain ⟨_, _, t, rfl, _⟩ := paired_ix pr (show xs[i]? = some x by rw [List.getElem?_eq_getElem hi, e])
    exact ⟨t, rfl⟩
  · exact Paired.mapP pr fun _ _ h => h.dp
end

section
variable {P : Program} {w : World} {K : PySem.W.Frag} {mg : Str → Option Value} {base : Heap}
def spShifted : Sp := fun vs H Q _ => ∃ (v : V) (z : List Int) (t : Int), vs = [v, .int t] ∧ TP H v z ∧ z.length ≤ 20 ∧ ∀ v' H', Same H H' → TP H' v' (shiftB t z) → Q v' H'
theorem ok_shifted_ {f : Addr} {fd : FuncData} (F : Fun K "_shifted" "_shifted" s_shifted_ f fd) (z_tuple : mg "tuple" = none) : FnOk P w K mg base CX0 1 f fd ["places", "by"] spShifted := by
  refine F.ok sc_shifted_ (fun vs H Q E h => ?_) (fun cdv A outer s H vs Q E hr h => ?_)
  · obtain ⟨v, z, t, rfl, _⟩ := h
    rfl
  · obtain ⟨v, z, t, rfl, ⟨a, rfl, ha⟩, lz, q⟩ := h
    refine ⟨_, (pss_one (ps_ret (pe_callTy call_tuple_of (by rfl) z_tuple boot_tuple (pa_cons (pe_lc (own := [("place", 2)]) rfl sc_shifted_.nd (pi_tup (pv 0)) (blkOk_by (N := ["places", "by", "place"]) (sc := defScope s_shifted_) (by first | decide +kernel | rfl)) (fun _ _ _ _ _ => (pg_name (i := 2) sc_shifted_.nd rfl (.inl rfl))) (fun _ _ _ _ _ => pts_nil) (fun _ _ _ _ _ => (pe_op op_add (pv 2) (pv 1)))) pa_nil)))), ?_⟩
    have szl : 20000 ≤ sizeLine := by decide
    refine ⟨_, rfl, a, rfl, ⟨_, .inl (.inl ha)⟩, fun D nD => ?_⟩
    refine lc_it walk_tup (fun j H' => SameBut D H H' ∧ H' D = some (.lst (((z.take j).map fun p => p + t).map V.int))) ⟨SameBut.upd, upd_same⟩ (fun j H' _ hP => .inl (.inl (hP.1 _ _ (ne_of_none ha nD) ha))) (fun j y H6 H7 hj hP hy => ?_) (fun H6 hP => ?_)
    · obtain ⟨sb2, hD2⟩ := hP
      obtain ⟨rfl, ey⟩ := hy
      rw [List.length_map] at hj
      obtain rfl := get_ints hj ey
      refine ⟨rfl, _, rfl, _, rfl, _, _, rfl, rfl, _, hD2, by rw [List.length_map, List.length_map, List.length_take]; omega, sb2.trans SameBut.upd, ?_⟩
      rw [map_snocG (get_co hj), List.map_append]
      exact upd_same
    · obtain ⟨sb2, hD2⟩ := hP
      rw [List.length_map, List.take_length] at hD2
      have s6 : Same H H6 := fun b o e => sb2 b o (ne_of_none e nD) e
      refine ⟨D, _, rfl, .inl ⟨.inl (.inl hD2), fun p2 np2 => ?_⟩⟩
      exact q _ _ (Same.trans s6 (same_upd np2)) ⟨p2, rfl, upd_same⟩
def spWithB (K : PySem.W.Frag) : Sp := fun vs H Q _ => ∃ (n m : Int) (a : Addr) (xs : List V) (bs : List (List Int)), vs = [.int n, .int m, .ref a] ∧ SqL K H a xs ∧ Paired (TP H) xs bs ∧ (∀ b ∈ bs, b ≠ []) ∧
  ∀ v H', Same H H' → DGv H' v n m (bs.mergeSort leB) → Q v H'
theorem ok_with_blocks_ {f : Addr} {fd : FuncData} (F : Fun K "_with_blocks" "_with_blocks" s_with_blocks_ f fd) (z_tuple : mg "tuple" = none) (z_sorted : mg "sorted" = none) : FnOk P w K mg base CX0 1 f fd ["n", "m", "blocks"] (spWithB K) := by
  refine F.ok sc_with_blocks_ (fun vs H Q E h => ?_) (fun cdv A outer s H vs Q E hr h => ?_)
  · obtain ⟨n, m, a, xs, bs, rfl, _⟩ := h
    rfl
  · obtain ⟨n, m, a, xs, bs, rfl, ha, pr, ne, q⟩ := h
    refine ⟨_, (pss_one (ps_ret (pe_tup (pa_cons (pv 0) (pa_cons (pv 1) (pa_cons (pe_callTy call_tuple_of (by rfl) z_tuple boot_tuple (pa_cons (pe_callB (cr_sortedG (room64 hr)) (by rfl) z_sorted boot_sorted (pa_cons (pv 2) pa_nil)) pa_nil)) pa_nil)))))), ?_⟩
    have szl : 20000 ≤ sizeLine := by decide
    refine ⟨_, rfl, _, rfl, _, rfl, ?_⟩
    dsimp only [tNil]
    refine sortG_TP ha pr ne fun ys p pr2 np => ?_
    have s1 := same_upd (o := .lst ys) np
    refine ⟨p, _, rfl, .inl ⟨.inl (.inl upd_same), fun p2 np2 => ?_⟩⟩
    have s2 := same_upd (o := .tup ys) np2
    refine ⟨(by show 3 ≤ sizeLine; decide), fun p3 np3 => ?_⟩
    have s3 := same_upd (o := .tup [.int n, .int m, .ref p2]) np3
    have s13 := Same.trans s1 (Same.trans s2 s3)
    exact q _ _ s13 ⟨p3, .ref p2, rfl, upd_same, p2, ys, rfl, s3 _ _ upd_same, Paired.mapP pr2 fun _ _ h => h.same s13⟩
end

theorem cr_minTIK {X : Cx} {K : PySem.W.Frag} (hK : X.K = K) (hc : X.calm = true) (hu : X.A.units + 64 < cLine) : CallR X (.builtin "min") (rMinTI K) := by
  subst hK
  exact cr_minTI hc hu
theorem cr_maxTIK {X : Cx} {K : PySem.W.Frag} (hK : X.K = K) (hc : X.calm = true) (hu : X.A.units + 64 < cLine) : CallR X (.builtin "max") (rMaxTI K) := by
  subst hK
  exact cr_maxTI hc hu
theorem goes_len (n : Int) (bs : List (List Int)) : (bs.filter fun b => bothH (halfA n b, halfB n b)).length = ((halves n bs).filter bothH).length := by
  unfold halves
  rw [List.filter_map, List.length_map]
  rfl
theorem half_emp {n : Int} {b : List Int} : (halfA n b).isEmpty = decide (∀ p ∈ b, ¬ p < n) ∧ (halfB n b).isEmpty = decide (∀ p ∈ b, ¬ p ≥ n) := by
  constructor
  · unfold halfA
    rw [Bool.eq_iff_iff, List.isEmpty_iff, List.filter_eq_nil_iff, decide_eq_true_eq]
    exact ⟨fun h p hp z => h p hp (decide_eq_true z), fun h p hp z => h p hp (of_decide_eq_true z)⟩
  · unfold halfB
    rw [Bool.eq_iff_iff, List.isEmpty_iff, List.map_eq_nil_iff, List.filter_eq_nil_iff, decide_eq_true_eq]
    exact ⟨fun h p hp z => h p hp (decide_eq_true z), fun h p hp z => h p hp (of_decide_eq_true z)⟩
section
variable {P : Program} {w : World} {K : PySem.W.Frag} {mg : Str → Option Value} {base : Heap}
/-! ### _law_goes -/
def spGoes : Sp := fun vs H Q _ => ∃ (v : V) (n m : Nat) (l : List Int), vs = [v] ∧ DgAt H v n m l ∧ ∀ (L : Addr) es H', Same H H' → H' L = some (.lst es) → es.length = (endT n l).length → Q (.ref L) H'
theorem ok_law_goes {f : Addr} {fd : FuncData} (F : Fun K "_law_goes" "_law_goes" s_law_goes f fd) (z_min : mg "min" = none) (z_max : mg "max" = none) : FnOk P w K mg base CX0 1 f fd ["diagram"] spGoes := by
  refine F.ok sc_law_goes (fun vs H Q E h => ?_) (fun cdv A outer s H vs Q E hr h => ?_)
  · obtain ⟨v, n, m, l, rfl, _⟩ := h
    rfl
  · obtain ⟨v, n, m, l, rfl, d, q⟩ := h
    refine ⟨_, (pss_one (ps_ret (pe_lc (own := [("block", 1)]) rfl sc_law_goes.nd (pi_tup (pe_ix ix_tup (pv 0) pe_int (fun _ _ => rfl))) (blkOk_by (N := ["diagram", "block"]) (sc := defScope s_law_goes) (by first | decide +kernel | rfl)) (fun _ _ _ _ _ => (pg_name (i := 1) sc_law_goes.nd rfl (.inl rfl))) (fun _ _ _ _ _ => pts_one (by exact L2.PW.pt (pw_and (pt_cmpR op_lt (pe_callB (cr_minTIK (K := K) rfl rfl (room64 hr)) (by rfl) z_min boot_min (pa_cons (pv 1) pa_nil)) (pe_ix (ix_tupK (K := K) rfl) (pv 0) pe_int (fun _ _ => rfl)) (nomark _)) (pw_and1 (pt_cmpR op_ge (pe_callB (cr_maxTIK (K := K) rfl rfl (room64 hr)) (by rfl) z_max boot_max (pa_cons (pv 1) pa_nil)) (pe_ix (ix_tupK (K := K) rfl) (pv 0) pe_int (fun _ _ => rfl)) (nomark _)))))) (fun _ _ _ _ _ => (pv 1))))), ?_⟩
    have szl : 20000 ≤ sizeLine := by decide
    have hl : l.length = n + m := by have := d.2.2; omega
    have zs := siz_iff.mp d.2.1
    have dg := d.dg
    obtain ⟨t, vb, rfl, ht, tb, ts, rfl, htb, pr⟩ := id d.1
    have lts := pr.length
    have few := dg.few.1
    refine ⟨_, rfl, t, _, 2, _, rfl, rfl, .inl (.inl ht), rfl, tb, rfl, ⟨_, .inl (.inl htb)⟩, fun D nD => ?_⟩
    have hDb : tb ≠ D := ne_of_none htb nD
    have htD : t ≠ D := ne_of_none ht nD
    refine lc_it walk_tup (fun i H' => SameBut D H H' ∧ ∃ es, H' D = some (.lst es) ∧ es.length = (((blocksOf l).take i).filter fun b => bothH (halfA n b, halfB n b)).length) ⟨SameBut.upd, [], upd_same, rfl⟩ (fun i H' _ hP => .inl (.inl (hP.1 _ _ hDb htb))) (fun i y H2 H3 hi hP hy => ?_) (fun H2 hP => ?_)
    · obtain ⟨sb, es, hD, le⟩ := hP
      obtain ⟨rfl, ey⟩ := hy
      obtain ⟨b, eb, ax, rfl, hax0⟩ := paired_ix pr ey
      have hax := sb _ _ (ne_of_none hax0 nD) hax0
      have lb : 0 < b.length := List.length_pos_iff.mpr (dg.ne b (List.mem_of_getElem? eb))
      have fl := List.length_filter_le (fun b => bothH (halfA n b, halfB n b)) ((blocksOf l).take i)
      rw [List.length_take] at fl
      rw [filter_snoc eb]
      have ht3 := sb _ _ htD ht
      refine ⟨rfl, ?_⟩
      refine ⟨_, rfl, ax, b, rfl, .inl (.inl hax), lb, fun mn h1 h2 => ?_⟩
      refine ⟨_, rfl, t, _, 0, _, rfl, rfl, .inl (.inl ht3), rfl, _, _, rfl, rfl, _, rfl, ?_⟩
      have eA := (half_emp (n := (n : Int)) (b := b)).1
      have eB := (half_emp (n := (n : Int)) (b := b)).2
      by_cases c1 : mn < n
      · refine if_pos_of (decide_eq_true c1) ⟨_, rfl, ax, b, rfl, .inl (.inl hax), lb, fun mx h3 h4 => ?_⟩
        refine ⟨_, rfl, t, _, 0, _, rfl, rfl, .inl (.inl ht3), rfl, _, _, rfl, rfl, _, rfl, ?_⟩
        rw [decide_eq_false (fun z : ∀ p ∈ b, ¬ p < (n : Int) => z mn h1 c1)] at eA
        by_cases c2 : mx ≥ n
        · rw [decide_eq_false (fun z : ∀ p ∈ b, ¬ p ≥ (n : Int) => z mx h3 c2)] at eB
          have cB : bothH (halfA n b, halfB n b) = true := by unfold bothH; rw [eA, eB]; rfl
          rw [if_pos cB]
          refine if_pos_of (decide_eq_true c2) ⟨_, rfl, _, hD, by omega, sb.trans SameBut.upd, _, upd_same, ?_⟩
          rw [List.length_append, List.length_append, le]
          rfl
        · have nB : ∀ p ∈ b, ¬ p ≥ (n : Int) := fun p hp z => c2 (by have := h4 p hp; omega)
          rw [decide_eq_true nB] at eB
          have cB : ¬ bothH (halfA n b, halfB n b) = true := by unfold bothH; rw [eA, eB]; exact Bool.false_ne_true
          rw [if_neg cB]
          exact if_neg_of (fun z => c2 (of_decide_eq_true z)) ⟨sb, es, hD, le⟩
      · have nA : ∀ p ∈ b, ¬ p < (n : Int) := fun p hp z => c1 (by have := h2 p hp; omega)
        rw [decide_eq_true nA] at eA
        have cB : ¬ bothH (halfA n b, halfB n b) = true := by unfold bothH; rw [eA]; exact Bool.false_ne_true
        rw [if_neg cB]
        exact if_neg_of (fun z => c1 (of_decide_eq_true z)) (if_neg_of Bool.false_ne_true ⟨sb, es, hD, le⟩)
    · obtain ⟨sb, es, hD, le⟩ := hP
      rw [lts, List.take_length, goes_len, thr_of (by omega), List.length_map] at le
      exact q D es H2 (fun b o e => sb b o (ne_of_none e nD) e) hD le
end

section
variable {P : Program} {w : World} {K : PySem.W.Frag} {mg : Str → Option Value} {base : Heap}
/-! ### _law_joined -/
def spJoined (K : PySem.W.Frag) : Sp := fun vs H Q _ => ∃ (a p t : Addr) (l : List Int) (x y : Nat), vs = [.ref a, .ref p] ∧ SqL K H a (l.map V.int) ∧ H p = some (.lst [.ref t]) ∧ H t = some (.tup [.int (x : Int), .int (y : Int)]) ∧ x < l.length ∧ y < l.length ∧ l.length ≤ 1000 ∧
  ∀ (D : Addr) (l' : List Int) (H' : Hp), Same H H' → H D = none → H' D = some (.lst (l'.map V.int)) → l' = jn l x y → Q (.ref D) H'
theorem ok_law_joined {f : Addr} {fd : FuncData} (F : Fun K "_law_joined" "_law_joined" s_law_joined f fd) (z_min : mg "min" = none) (z_max : mg "max" = none) : FnOk P w K mg base CX0 1 f fd ["marks", "links"] (spJoined K) := by
  refine F.ok sc_law_joined (fun vs H Q E h => ?_) (fun cdv A outer s H vs Q E hr h => ?_)
  · obtain ⟨a, p, t, l, x, y, rfl, _⟩ := h
    rfl
  · obtain ⟨a, p, t, l, x, y, rfl, ha, hp, ht, hx, hy, hl, q⟩ := h
    refine ⟨_, (pss_cons (ps_for PassesOwn.never rfl (pi_list (pv 1)) (pg_tup rfl (pgs_cons (pg_name (i := 2) sc_law_joined.nd rfl (.inl rfl)) (pgs_cons (pg_name (i := 3) sc_law_joined.nd rfl (.inl rfl)) pgs_nil))) (pss_cons (ps_set (i := 4) sc_law_joined.nd rfl (.inr rfl) (pe_callB (call_min2 rfl) (by rfl) z_min boot_min (pa_cons (pe_ix ix_list (pv 0) (pv 2) (fun _ _ => rfl)) (pa_cons (pe_ix ix_list (pv 0) (pv 3) (fun _ _ => rfl)) pa_nil))))
  (pss_cons (ps_set (i := 5) sc_law_joined.nd rfl (.inr rfl) (pe_callB (call_max2 rfl) (by rfl) z_max boot_max (pa_cons (pe_ix ix_list (pv 0) (pv 2) (fun _ _ => rfl)) (pa_cons (pe_ix ix_list (pv 0) (pv 3) (fun _ _ => rfl)) pa_nil))))
  (pss_one (ps_setLc (i := 0) (own := [("mark", 6)]) rfl sc_law_joined.nd rfl rfl (sw_true rfl rfl rfl (by decide +kernel)) (pi_list (pv 0)) (blkOk_by (N := ["marks", "links", "one", "other", "low", "high", "mark"]) (sc := defScope s_law_joined) (by first | decide +kernel | rfl)) (fun _ _ _ _ _ => (pg_name (i := 6) sc_law_joined.nd rfl (.inl rfl))) (fun _ _ _ _ _ => pts_nil) (fun _ _ _ _ _ => (pe_ifExp (pt_cmpR op_eq (pv 6) (pv 5) (nomark _)) (pv 4) (pv 6))))))))
  (pss_one (ps_ret (pv 0)))), ?_⟩
    have szl : 20000 ≤ sizeLine := by decide
    refine ⟨_, rfl, p, rfl, ⟨_, .inl (.inl hp)⟩, for_list (K := K) (xs := [.ref t]) (fun i σ H' => (i = 0 ∧ σ = [some (.ref a), some (.ref p), none, none, none, none, none] ∧ H' = H) ∨ (i = 1 ∧ ∃ (D : Addr) (l' : List Int) (v2 v3 v4 v5 v6 : Option V), σ = [some (.ref D), some (.ref p), v2, v3, v4, v5, v6] ∧ Same H H' ∧ H D = none ∧ H' D = some (.lst (l'.map V.int)) ∧ l' = jn l x y))
      (.inl ⟨rfl, rfl, rfl⟩) (fun i σ H' _ hP => ?_) (fun i z σ H' hz hP => ?_) (fun σ H' hP => ?_)⟩
    · rcases hP with ⟨_, _, rfl⟩ | ⟨_, D, l', v2, v3, v4, v5, v6, _, s1, _⟩
      · exact .inl (.inl hp)
      · exact .inl (.inl (s1 _ _ hp))
    · have hi : i < 1 := (List.getElem?_eq_some_iff.mp hz).1
      obtain rfl : i = 0 := by omega
      obtain rfl : V.ref t = z := Option.some.inj hz
      rcases hP with ⟨_, rfl, rfl⟩ | ⟨e, _⟩
      · refine ⟨t, _, rfl, .inl (.inl ht), rfl, _, _, rfl, _, _, rfl, rfl, ?_⟩
        refine ⟨_, rfl, _, rfl, a, _, _, _, rfl, rfl, ha, at_co hx, _, rfl, _, rfl, a, _, _, _, rfl, rfl, ha, at_co hy, _, _, rfl, ?_⟩
        refine ⟨_, rfl, _, rfl, a, _, _, _, rfl, rfl, ha, at_co hx, _, rfl, _, rfl, a, _, _, _, rfl, rfl, ha, at_co hy, _, _, rfl, ?_⟩
        refine ⟨_, rfl, a, rfl, ⟨_, ha⟩, fun D nD => ?_⟩
        have hk : ∀ {H2 : Hp}, SameBut D H' H2 → Same H' H2 := fun sb b o e => sb _ _ (ne_of_none e nD) e
        have ej : jn l x y = l.map fun c => if c = (if co l y > co l x then co l y else co l x) then (if co l y < co l x then co l y else co l x) else c := rfl
        revert ej
        generalize jn l x y = J
        generalize (if co l y < co l x then co l y else co l x) = lo
        generalize (if co l y > co l x then co l y else co l x) = hi
        intro ej
        subst ej
        refine lc_list (K := K) (xs := l.map V.int) (fun i H2 => SameBut D H' H2 ∧ H2 D = some (.lst (((l.take i).map fun c => if c = hi then lo else c).map V.int))) ⟨SameBut.upd, upd_same⟩ (fun i H2 _ hP => sqL_same (hk hP.1) ha) (fun i z H2 hz hP => ?_) (fun H2 hP => ?_)
        · obtain ⟨sb, hD⟩ := hP
          have li : i < l.length := by have := (List.getElem?_eq_some_iff.mp hz).1; rwa [List.length_map] at this
          have ez : (l.map V.int)[i]? = some (.int (co l i)) := by rw [List.getElem?_map, co_get li]; rfl
          obtain rfl : V.int (co l i) = z := Option.some.inj (ez.symm.trans hz)
          refine ⟨rfl, ?_⟩
          have fin : ∀ c : Int, (if co l i = hi then lo else co l i) = c → ∃ acc, H2 D = some (.lst acc) ∧ acc.length < sizeLine ∧ SameBut D H' (upd H2 D (.lst (acc ++ [V.int c]))) ∧ upd H2 D (.lst (acc ++ [V.int c])) D = some (.lst (((l.take (i + 1)).map fun c => if c = hi then lo else c).map V.int)) := fun c ec =>
            ⟨_, hD, by rw [List.length_map, List.length_map, List.length_take]; omega, sb.trans SameBut.upd, by rw [upd_same, take_snoc li, List.map_append, List.map_append, ← ec]; rfl⟩
          refine ⟨_, rfl, _, rfl, rfl, _, rfl, ite2 (fun e => ⟨_, rfl, fin _ (if_pos (V.int.inj (of_decide_eq_true e)))⟩) (fun e => ⟨_, rfl, fin _ (if_neg fun z => e (decide_eq_true (congrArg V.int z)))⟩)⟩
        · obtain ⟨sb, hD⟩ := hP
          rw [List.length_map, List.take_length] at hD
          exact .inr ⟨rfl, D, _, _, _, _, _, _, rfl, hk sb, nD, hD, rfl⟩
      · omega
    · rcases hP with ⟨e, _⟩ | ⟨_, D, l', v2, v3, v4, v5, v6, rfl, s1, nD, hD, el⟩
      · exact nomatch e
      · exact ⟨_, rfl, q D l' H' s1 nD hD el⟩
end

section
variable {P : Program} {w : World} {K : PySem.W.Frag} {mg : Str → Option Value} {base : Heap}
/-! ### _law_threaded -/
def spThreaded : Sp := fun vs H Q _ => ∃ (r : Addr) (ds : List Int) (z : Str) (n m : Nat), vs = [.ref r, .str z, .int n, .int m] ∧ n ≤ 8 ∧ m ≤ 8 ∧ H r = some (.lst (ds.map V.int)) ∧
  ∀ (D : Addr) (l ds' : List Int) (H' : Hp), SameBut r H H' → H' r = some (.lst (ds'.map V.int)) → D ≠ r → H D = none → H' D = some (.lst (l.map V.int)) → l.length = n + m → (∃ ls, ThrI n m n l ls ∧ (z = "threads" → n = m → ThrT n m n l ls)) → Q (.ref D) H'
theorem ok_law_threaded {f a_law_next a_law_pick : Addr} {fd fd_law_next fd_law_pick : FuncData} (F : Fun K "_law_threaded" "_law_threaded" s_law_threaded f fd) (z_int : mg "int" = none) (z_list : mg "list" = none) (z_range : mg "range" = none)
    (G_law_next : FnOk P w K mg base CX0 1 a_law_next fd_law_next ["draws"] spNext) (g_law_next : mg "_law_next" = some (.ref a_law_next)) (k_law_next : PySem.W.keepIn K (.ref a_law_next) = true) (b_law_next : Binds K fd_law_next ["draws"] [])
    (G_law_pick : FnOk P w K mg base CX0 2 a_law_pick fd_law_pick ["draws", "left"] spPick) (g_law_pick : mg "_law_pick" = some (.ref a_law_pick)) (k_law_pick : PySem.W.keepIn K (.ref a_law_pick) = true) (b_law_pick : Binds K fd_law_pick ["draws", "left"] []) : FnOk P w K mg base CX0 3 f fd ["draws", "family", "n", "m"] spThreaded := by
  refine F.ok sc_law_threaded (fun vs H Q E h => ?_) (fun cdv A outer s H vs Q E hr h => ?_)
  · obtain ⟨r, ds, z, n, m, rfl, _⟩ := h
    rfl
  · obtain ⟨r, ds, z, n, m, rfl, hn, hm, hL, q⟩ := h
    refine ⟨_, (pss_cons (ps_set (i := 5) sc_law_threaded.nd rfl (.inl rfl) (pe_op op_cat (pe_listRg rfl rfl z_list (prg_1 rfl z_range (pv 2))) (pe_lc (own := [("at", 4)]) rfl sc_law_threaded.nd (pi_range1 rfl z_range (pa_cons (pv 3) pa_nil)) (blkOk_by (N := ["draws", "family", "n", "m", "at", "marks", "left"]) (sc := defScope s_law_threaded) (by first | decide +kernel | rfl)) (fun _ _ _ _ _ => (pg_name (i := 4) sc_law_threaded.nd rfl (.inl rfl))) (fun _ _ _ _ _ => pts_nil) (fun _ _ _ _ _ => (pe_op op_sub (pe_op op_sub pe_int pe_int) (pv 4))))))
  (pss_cons (ps_set (i := 6) sc_law_threaded.nd rfl (.inl rfl) (pe_listRg rfl rfl z_list (prg_1 rfl z_range (pv 3))))
  (pss_cons (ps_for PassesOwn.never rfl (pi_range1 rfl z_range (pa_cons (pv 2) pa_nil)) (pg_name (i := 4) sc_law_threaded.nd rfl (.inl rfl)) (pss_one (ps_if (L2.PW.pt (pw_and (pt_truth (pv 6) (by intro _; rfl)) (pw_and1 (L2.PW.pt (pw_or (pt_cmpR op_eq (pv 1) pe_str (nomark _)) (pw_or1 (pt_cmpR op_gt (pe_op op_mod (pe_callTy call_int1 (by rfl) z_int boot_int (pa_cons (pe_call G_law_next (hr.mono (by decide)) rfl g_law_next k_law_next b_law_next .nil pass0 (pa_cons (pv 0) pa_nil)) pa_nil)) pe_int) pe_int (nomark _)))))))) (pss_one (ps_asg (pv 4) (pg_sub (pv 5) (pe_op op_add (pv 2) (pe_call G_law_pick (hr.mono (by decide)) rfl g_law_pick k_law_pick b_law_pick .nil pass0 (pa_cons (pv 0) (pa_cons (pv 6) pa_nil)))) set_list))) pss_nil)))
  (pss_one (ps_ret (pv 5)))))), ?_⟩
    have szl : 20000 ≤ sizeLine := by decide
    refine ⟨_, rfl, (n : Int), rfl, RgOk.of_le (by omega) (by omega) (by omega) (by omega), fun a na => ?_⟩
    have s1 := same_upd (o := .lst (rgV 0 (n : Int))) na
    have ha1 : upd H a (.lst (rgV 0 (n : Int))) a = some (.lst ((ixs n).map V.int)) := by rw [upd_same, rgV_ixs (by omega)]; rfl
    revert s1 ha1
    generalize upd H a (.lst (rgV 0 (n : Int))) = H1
    intro s1 ha1
    refine ⟨_, rfl, m, rfl, by omega, by omega, fun D nD => ?_⟩
    have hk1 : ∀ {H2 : Hp}, SameBut D H1 H2 → Same H1 H2 := fun sb b o e => sb _ _ (ne_of_none e nD) e
    refine lc_range (lo := 0) (n := (m : Int).toNat) (fun i H2 => SameBut D H1 H2 ∧ ∃ l' : List Int, H2 D = some (.lst (l'.map V.int)) ∧ l'.length = i ∧ ∀ j : Nat, j < i → co l' j = -1 - (j : Int)) ⟨SameBut.upd, [], upd_same, rfl, fun j hj => absurd hj (Nat.not_lt_zero _)⟩ (fun i H2 hi hP => ?_) (fun H2 hP => ?_)
    · obtain ⟨sb, l', hD, el, ec⟩ := hP
      refine ⟨rfl, ?_⟩
      refine ⟨_, _, rfl, rfl, _, rfl, _, _, rfl, rfl, _, hD, by rw [List.length_map]; omega, sb.trans SameBut.upd, l' ++ [0 - 1 - (0 + (i : Int))], by rw [upd_same, List.map_append]; rfl, by rw [List.length_append, el]; rfl, fun j hj => ?_⟩
      by_cases c : j = i
      · have := co_app_r (a := l') (b := [0 - 1 - (0 + (i : Int))]) (i := 0) Nat.zero_lt_one
        rw [el] at this
        rw [c]
        refine this.trans ?_
        show 0 - 1 - (0 + (i : Int)) = _
        omega
      · rw [co_app_l (by omega)]
        exact ec j (by omega)
    obtain ⟨sb, l', hD, el, ec⟩ := hP
    have el : l'.length = m := by omega
    refine ⟨_, _, _, _, rfl, rfl, sb _ _ (ne_of_none ha1 nD) ha1, hD, by rw [List.length_map, List.length_map, ixs_len']; omega, fun mk nmk => ?_⟩
    have s2 : Same H (upd H2 mk (.lst ((ixs n).map V.int ++ l'.map V.int))) := Same.trans (Same.trans s1 (hk1 sb)) (same_upd nmk)
    have nmk0 : H mk = none := none_back (Same.trans s1 (hk1 sb)) nmk
    have hmk : upd H2 mk (.lst ((ixs n).map V.int ++ l'.map V.int)) mk = some (.lst ((ixs n ++ l').map V.int)) := by rw [upd_same, List.map_append]
    revert s2 hmk
    generalize upd H2 mk (.lst ((ixs n).map V.int ++ l'.map V.int)) = H3
    intro s2 hmk
    refine ⟨_, rfl, (m : Int), rfl, RgOk.of_le (by omega) (by omega) (by omega) (by omega), fun b nb => ?_⟩
    have nb0 : H b = none := none_back s2 nb
    have nbm : mk ≠ b := ne_of_none hmk nb
    have nrb : r ≠ b := ne_of_none (s2 _ _ hL) nb
    have nrm : r ≠ mk := ne_of_none hL nmk0
    rw [rgV_ixs (by omega), show (m : Int).toNat = m by omega]
    have i0 : ThrI n m 0 (ixs n ++ l') (ixs m) := by
      refine ⟨by rw [List.length_append, ixs_len', el], fun p hp => by rw [co_app_l (by rw [ixs_len']; exact hp), co_ixs hp], fun j hj => ?_, fun j j' h1 h2 => ?_, ixs_nodup m, fun x hx => ?_, fun j hj hn => absurd (mem_ixs.mpr ⟨by omega, by omega⟩) hn, Nat.le_of_eq (ixs_len' m)⟩
      · have := co_app_r (a := ixs n) (b := l') (i := j) (by omega)
        rw [ixs_len'] at this
        exact .inl (this.trans (ec j (by omega)))
      · have e1 := co_app_r (a := ixs n) (b := l') (i := j) (by omega)
        have e2 := co_app_r (a := ixs n) (b := l') (i := j') (by omega)
        rw [ixs_len'] at e1 e2
        rw [e1, e2, ec j (by omega), ec j' (by omega)]
        omega
      · have h := mem_ixs.mp hx
        refine ⟨x.toNat, by omega, by omega, ?_⟩
        have e1 := co_app_r (a := ixs n) (b := l') (i := x.toNat) (by omega)
        rw [ixs_len'] at e1
        exact e1.trans (ec _ (by omega))
    have t0 : z = "threads" → n = m → ThrT n m 0 (ixs n ++ l') (ixs m) := fun _ _ => ⟨ixs_len' m, fun a ha => absurd ha (Nat.not_lt_zero _)⟩
    refine ⟨_, rfl, (n : Int), rfl, by omega, by omega, for_range (lo := 0) (n := (n : Int).toNat) (fun i σ H' => ∃ v6 l ls ds', σ = [some (.ref r), some (.str z), some (.int n), some (.int m), v6, some (.ref mk), some (.ref b)] ∧ SameBut r H H' ∧ H' r = some (.lst (ds'.map V.int)) ∧ H' mk = some (.lst (l.map V.int)) ∧ H' b = some (.lst (ls.map V.int)) ∧ ThrI n m i l ls ∧ (z = "threads" → n = m → ThrT n m i l ls))
      ⟨none, _, _, ds, rfl, (Same.but s2).trans (SameBut.new nb), by rw [upd_ne nrb]; exact s2 _ _ hL, by rw [upd_ne nbm]; exact hmk, upd_same, i0, t0⟩ (fun i σ H' hi hP => ?_) (fun σ H' hP => ?_)⟩
    · obtain ⟨v6, l, ls, ds', rfl, sb1, hr1, hm1, hb1, iv, tv⟩ := hP
      have hi : i < n := by omega
      have ll := iv.len
      have lsm := iv.cap
      have skip : ls = [] ∨ z ≠ "threads" → z = "threads" → n = m → ThrT n m (i + 1) l ls := by
        rintro (e | e) e2 e3
        · have := (tv e2 e3).many
          rw [e] at this
          have : 0 = m - i := this
          omega
        · exact absurd e2 e
      have stay : ls = [] ∨ z ≠ "threads" → ∀ (H4 : Hp) (ds4 : List Int), SameBut r H H4 → H4 r = some (.lst (ds4.map V.int)) → H4 mk = some (.lst (l.map V.int)) → H4 b = some (.lst (ls.map V.int)) → ∃ (v6' : Option V) (l0 ls0 ds0 : List Int), ([some (.ref r), some (.str z), some (.int n), some (.int m), some (.int (0 + (i : Int))), some (.ref mk), some (.ref b)] : List (Option V)) = [some (.ref r), some (.str z), some (.int n), some (.int m), v6', some (.ref mk), some (.ref b)] ∧ SameBut r H H4 ∧ H4 r = some (.lst (ds0.map V.int)) ∧ H4 mk = some (.lst (l0.map V.int)) ∧ H4 b = some (.lst (ls0.map V.int)) ∧ ThrI n m (i + 1) l0 ls0 ∧ (z = "threads" → n = m → ThrT n m (i + 1) l0 ls0) :=
        fun e H4 ds4 a1 a2 a3 a4 => ⟨_, l, ls, ds4, rfl, a1, a2, a3, a4, iv.skip, skip e⟩
      refine ⟨_, rfl, _, .inl ⟨_, .inl (.inl hb1), rfl⟩, ?_⟩
      by_cases ce : ls = []
      · rw [ce]
        refine iteF ?_
        exact stay (.inl ce) H' ds' sb1 hr1 hm1 hb1
      rw [show (List.map V.int ls).isEmpty = false by cases ls with | nil => exact absurd rfl ce | cons => rfl]
      refine iteT ?_
      refine ⟨_, rfl, rfl, _, rfl, ite2 (fun e1 => ?_) (fun e1 => ⟨_, rfl, r, ds', rfl, hr1, fun n0 ds0 => .inl ⟨n0, rfl, n0, 4, rfl, rfl, (show (0 : Int) < 4 by decide), _, _, rfl, rfl, _, rfl, ite2 (fun e2 => ?_) (fun e2 => ?_)⟩⟩)⟩
      rotate_right
      · exact stay (.inr fun e => e1 (decide_eq_true (congrArg V.str e))) _ ds0 (sb1.trans SameBut.upd) upd_same (by rw [upd_ne (Ne.symm nrm)]; exact hm1) (by rw [upd_ne (Ne.symm nrb)]; exact hb1)
      · have sb4 := sb1
        have hr4 := hr1
        have hm4 := hm1
        have hb4 := hb1
        refine ⟨_, rfl, _, rfl, _, rfl, _, rfl, _, rfl, r, b, ds', ls, rfl, nrb, hr4, hb4, ce, by omega, fun ds5 k hk => ?_⟩
        obtain ⟨j, ej, hj, fj⟩ := thr_at iv hk
        rw [ej]
        have hm5 : upd (upd H' r (.lst (ds5.map V.int))) b (.lst ((ls.eraseIdx k).map V.int)) mk = some (.lst (l.map V.int)) := by rw [upd_ne nbm, upd_ne (Ne.symm nrm)]; exact hm4
        refine ⟨_, _, rfl, rfl, mk, _, _, n + j, rfl, rfl, hm5, ixN_nat (by rw [List.length_map]; omega), ?_⟩
        refine ⟨_, l.set (n + j) (i : Int), ls.eraseIdx k, ds5, rfl, fun o u no ho => ?_, ?_, ?_, ?_, iv.step hk hj ej, fun e1 e2 => (tv e1 e2).step iv hk hj ej⟩
        · rw [upd_ne (ne_of_none ho nmk0), upd_ne (ne_of_none ho nb0), upd_ne no]
          exact sb4 o u no ho
        · rw [upd_ne nrm, upd_ne nrb, upd_same]
        · rw [upd_same, Int.zero_add, List.map_set]
        · rw [upd_ne (Ne.symm nbm), upd_same]
      · have sb4 : SameBut r H (upd H' r (.lst (ds0.map V.int))) := sb1.trans SameBut.upd
        have hr4 : upd H' r (.lst (ds0.map V.int)) r = some (.lst (ds0.map V.int)) := upd_same
        have hm4 : upd H' r (.lst (ds0.map V.int)) mk = some (.lst (l.map V.int)) := by rw [upd_ne (Ne.symm nrm)]; exact hm1
        have hb4 : upd H' r (.lst (ds0.map V.int)) b = some (.lst (ls.map V.int)) := by rw [upd_ne (Ne.symm nrb)]; exact hb1
        revert sb4 hr4 hm4 hb4
        generalize upd H' r (.lst (ds0.map V.int)) = H4
        intro sb4 hr4 hm4 hb4
        refine ⟨_, rfl, _, rfl, _, rfl, _, rfl, _, rfl, r, b, ds0, ls, rfl, nrb, hr4, hb4, ce, by omega, fun ds5 k hk => ?_⟩
        obtain ⟨j, ej, hj, fj⟩ := thr_at iv hk
        rw [ej]
        have hm5 : upd (upd H4 r (.lst (ds5.map V.int))) b (.lst ((ls.eraseIdx k).map V.int)) mk = some (.lst (l.map V.int)) := by rw [upd_ne nbm, upd_ne (Ne.symm nrm)]; exact hm4
        refine ⟨_, _, rfl, rfl, mk, _, _, n + j, rfl, rfl, hm5, ixN_nat (by rw [List.length_map]; omega), ?_⟩
        refine ⟨_, l.set (n + j) (i : Int), ls.eraseIdx k, ds5, rfl, fun o u no ho => ?_, ?_, ?_, ?_, iv.step hk hj ej, fun e1 e2 => (tv e1 e2).step iv hk hj ej⟩
        · rw [upd_ne (ne_of_none ho nmk0), upd_ne (ne_of_none ho nb0), upd_ne no]
          exact sb4 o u no ho
        · rw [upd_ne nrm, upd_ne nrb, upd_same]
        · rw [upd_same, Int.zero_add, List.map_set]
        · rw [upd_ne (Ne.symm nbm), upd_same]
    · obtain ⟨v6, l, ls, ds', rfl, sb1, hr1, hm1, hb1, iv, tv⟩ := hP
      rw [show (n : Int).toNat = n by omega] at iv tv
      exact ⟨_, rfl, q mk l ds' H' sb1 hr1 (Ne.symm nrm) nmk0 hm1 iv.len ⟨ls, iv, tv⟩⟩
end

section
variable {P : Program} {w : World} {K : PySem.W.Frag} {mg : Str → Option Value} {base : Heap}
/-! ### _law_drawn -/
theorem fam_threaded {z : Str} {n m : Nat} {l ls : List Int} (hz : z = "threads" ∨ z = "loose") (h : ThrI n m n l ls) (t : z = "threads" → n = m → ThrT n m n l ls) : FamM z n m l := by
  refine ⟨fun _ => h.strand, fun e e2 => ?_, fun e => ?_, fun e => ?_, fun e => ?_⟩
  · have t' := t e e2
    subst e2
    exact h.mated t'
  all_goals
    subst e
    exact absurd hz (by decide +kernel)
theorem fam_parts {n m : Nat} {l : List Int} : FamM "parts" n m l :=
  ⟨fun e => absurd e (by decide +kernel), fun e => absurd e (by decide +kernel), fun e => absurd e (by decide +kernel), fun e => absurd e (by decide +kernel), fun e => absurd e (by decide +kernel)⟩
def Two (z : Str) (N : Nat) (l : List Int) : Prop := (z ≠ "lonepairs" → N % 2 = 0 → ∀ v, l.count v = 0 ∨ l.count v = 2) ∧ ∀ v, l.count v ≤ 2
theorem fam_two {z : Str} {n m : Nat} {l : List Int} (hz : ¬(z = "threads" ∨ z = "loose")) (h : Two z (n + m) l) : FamM z n m l := by
  refine ⟨fun e => absurd e hz, fun e => absurd (.inl e) hz, fun e e2 v hv => ?_, fun e => h.2, fun e e2 v => ?_⟩
  · rcases h.1 (by subst e; decide +kernel) e2 v with c | c
    · exact absurd (List.count_pos_iff.mpr hv) (by omega)
    · exact c
  · rcases h.1 (by subst e; decide +kernel) e2 v with c | c <;> omega
theorem two_of {z : Str} {N i : Nat} {l ls : List Int} (h : PrI (decide (z = "lonepairs")) N i l ls) (e : ls.length < 2 ∨ i = N) : Two z N l := by
  refine ⟨fun nz hN v => ?_, h.most⟩
  rw [decide_eq_false nz] at h
  exact h.two e hN v
theorem fam_even {n m : Nat} {l : List Int} (h : (n + m) % 2 = 0 → ∀ v, l.count v % 2 = 0) : FamM "even" n m l :=
  ⟨fun e => absurd e (by decide +kernel), fun e => absurd e (by decide +kernel), fun e => absurd e (by decide +kernel), fun e => absurd e (by decide +kernel), fun _ e => h e⟩
def spDrawn : Sp := fun vs H Q _ => ∃ (r : Addr) (ds : List Int) (z : Str) (n m : Nat), vs = [.ref r, .str z, .int n, .int m] ∧ n ≤ 8 ∧ m ≤ 8 ∧ H r = some (.lst (ds.map V.int)) ∧
  ∀ (v : V) (l ds' : List Int) (H' : Hp), SameBut r H H' → H' r = some (.lst (ds'.map V.int)) → l.length = n + m → FamM z n m l → DGv H' v n m (blocksOf l) → Q v H'
theorem ok_law_drawn {f a_law_next a_law_pick a_law_from a_law_threaded a_law_joined : Addr} {fd fd_law_next fd_law_pick fd_law_from fd_law_threaded fd_law_joined : FuncData} (F : Fun K "_law_drawn" "_law_drawn" s_law_drawn f fd) (z_int : mg "int" = none) (z_list : mg "list" = none) (z_range : mg "range" = none) (z_len : mg "len" = none) (z_max : mg "max" = none)
    (G_law_next : FnOk P w K mg base CX0 1 a_law_next fd_law_next ["draws"] spNext) (g_law_next : mg "_law_next" = some (.ref a_law_next)) (k_law_next : PySem.W.keepIn K (.ref a_law_next) = true) (b_law_next : Binds K fd_law_next ["draws"] [])
    (G_law_pick : FnOk P w K mg base CX0 2 a_law_pick fd_law_pick ["draws", "left"] spPick) (g_law_pick : mg "_law_pick" = some (.ref a_law_pick)) (k_law_pick : PySem.W.keepIn K (.ref a_law_pick) = true) (b_law_pick : Binds K fd_law_pick ["draws", "left"] [])
    (G_law_from : FnOk P w K mg base CX0 2 a_law_from fd_law_from ["n", "m", "marks"] (spFrom K)) (g_law_from : mg "_law_from" = some (.ref a_law_from)) (k_law_from : PySem.W.keepIn K (.ref a_law_from) = true) (b_law_from : Binds K fd_law_from ["n", "m", "marks"] [])
    (G_law_threaded : FnOk P w K mg base CX0 3 a_law_threaded fd_law_threaded ["draws", "family", "n", "m"] spThreaded) (g_law_threaded : mg "_law_threaded" = some (.ref a_law_threaded)) (k_law_threaded : PySem.W.keepIn K (.ref a_law_threaded) = true) (b_law_threaded : Binds K fd_law_threaded ["draws", "family", "n", "m"] [])
    (G_law_joined : FnOk P w K mg base CX0 1 a_law_joined fd_law_joined ["marks", "links"] (spJoined K)) (g_law_joined : mg "_law_joined" = some (.ref a_law_joined)) (k_law_joined : PySem.W.keepIn K (.ref a_law_joined) = true) (b_law_joined : Binds K fd_law_joined ["marks", "links"] []) :
    FnOk P w K mg base CX0 4 f fd ["draws", "family", "n", "m"] spDrawn := by
  refine F.ok sc_law_drawn (fun vs H Q E h => ?_) (fun cdv A outer s H vs Q E hr h => ?_)
  · obtain ⟨r, ds, z, n, m, rfl, _⟩ := h
    rfl
  · obtain ⟨r, ds, z, n, m, rfl, hn, hm, hL, q⟩ := h
    refine ⟨_, (pss_cons (ps_if (pt_cmpR op_in_seq (pv 1) (pe_lst (pa_cons pe_str (pa_cons pe_str pa_nil))) (by with_unfolding_all rfl)) (pss_one (ps_ret (pe_call G_law_from (hr.mono (by decide)) rfl g_law_from k_law_from b_law_from .nil pass0 (pa_cons (pv 2) (pa_cons (pv 3) (pa_cons (pe_call G_law_threaded (hr.mono (by decide)) rfl g_law_threaded k_law_threaded b_law_threaded .nil pass0 (pa_cons (pv 0) (pa_cons (pv 1) (pa_cons (pv 2) (pa_cons (pv 3) pa_nil))))) pa_nil)))))) pss_nil)
  (pss_cons (ps_set (i := 4) sc_law_drawn.nd rfl (.inl rfl) (pe_lst pa_nil))
  (pss_cons (ps_if (pt_cmpR op_eq (pv 1) pe_str (nomark _)) (pss_cons (ps_for PassesOwn.never rfl (pi_range1 rfl z_range (pa_cons (pe_op op_add (pv 2) (pv 3)) pa_nil)) (pg_name (i := 5) sc_law_drawn.nd rfl (.inl rfl)) (pss_one (ps_expr (pe_bm PySem.F.plainAttrs_list PySem.F.slot_list_append PySem.F.type_list_append mt_append (pv 4) (pa_cons (pe_op op_mod (pe_callTy call_int1 (by rfl) z_int boot_int (pa_cons (pe_call G_law_next (hr.mono (by decide)) rfl g_law_next k_law_next b_law_next .nil pass0 (pa_cons (pv 0) pa_nil)) pa_nil)) (pe_op op_add (pe_callB (cr_max rfl) (by rfl) z_max boot_max (pa_cons (pe_op op_cat (pv 4) (pe_lst (pa_cons (pe_un un_neg pe_int) pa_nil))) pa_nil)) pe_int)) pa_nil)))))
  (pss_one (ps_ret (pe_call G_law_from (hr.mono (by decide)) rfl g_law_from k_law_from b_law_from .nil pass0 (pa_cons (pv 2) (pa_cons (pv 3) (pa_cons (pv 4) pa_nil))))))) pss_nil)
  (pss_cons (ps_set (i := 4) sc_law_drawn.nd rfl (.inl rfl) (pe_listRg rfl rfl z_list (prg_1 rfl z_range (pe_op op_add (pv 2) (pv 3)))))
  (pss_cons (ps_set (i := 6) sc_law_drawn.nd rfl (.inl rfl) (pe_listRg rfl rfl z_list (prg_1 rfl z_range (pe_op op_add (pv 2) (pv 3)))))
  (Evl.pss_cut (ps_for PassesOwn.never rfl (pi_range1 rfl z_range (pa_cons (pe_op op_add (pv 2) (pv 3)) pa_nil)) (pg_name (i := 7) sc_law_drawn.nd rfl (.inl rfl)) (pss_cons (ps_if (pt_cmpR op_lt (pe_callB call_len_seq (by rfl) z_len boot_len (pa_cons (pv 6) pa_nil)) pe_int (nomark _)) (pss_one ps_break) pss_nil)
  (pss_cons (ps_set (i := 8) sc_law_drawn.nd rfl (.inl rfl) (pe_bm PySem.F.plainAttrs_list PySem.F.slot_list_pop PySem.F.type_list_pop mt_popAt (pv 6) (pa_cons pe_int pa_nil)))
  (pss_one (ps_if (L2.PW.pt (pw_or (pt_cmpR op_ne (pv 1) pe_str (nomark _)) (pw_or1 (pt_cmpR op_gt (pe_op op_mod (pe_callTy call_int1 (by rfl) z_int boot_int (pa_cons (pe_call G_law_next (hr.mono (by decide)) rfl g_law_next k_law_next b_law_next .nil pass0 (pa_cons (pv 0) pa_nil)) pa_nil)) pe_int) pe_int (nomark _))))) (pss_one (ps_asg (pv 8) (pg_sub (pv 4) (pe_call G_law_pick (hr.mono (by decide)) rfl g_law_pick k_law_pick b_law_pick .nil pass0 (pa_cons (pv 0) (pa_cons (pv 6) pa_nil))) set_list))) pss_nil)))))
  (Evl.pss_cut (ps_if (L2.PW.pt (pw_and (pt_cmpR op_eq (pv 1) pe_str (nomark _)) (pw_and1 (pt_truth (pv 4) (by intro _; rfl))))) (pss_one (ps_for PassesOwn.never rfl (pi_range1 rfl z_range (pa_cons (pe_op op_mod (pe_callTy call_int1 (by rfl) z_int boot_int (pa_cons (pe_call G_law_next (hr.mono (by decide)) rfl g_law_next k_law_next b_law_next .nil pass0 (pa_cons (pv 0) pa_nil)) pa_nil)) pe_int) pa_nil)) (pg_name (i := 7) sc_law_drawn.nd rfl (.inl rfl)) (pss_cons (ps_set (i := 8) sc_law_drawn.nd rfl (.inl rfl) (pe_op op_mod (pe_callTy call_int1 (by rfl) z_int boot_int (pa_cons (pe_call G_law_next (hr.mono (by decide)) rfl g_law_next k_law_next b_law_next .nil pass0 (pa_cons (pv 0) pa_nil)) pa_nil)) (pe_callB call_len_seq (by rfl) z_len boot_len (pa_cons (pv 4) pa_nil))))
  (pss_one (ps_set (i := 4) sc_law_drawn.nd rfl (.inl rfl) (pe_call G_law_joined (hr.mono (by decide)) rfl g_law_joined k_law_joined b_law_joined .nil pass0 (pa_cons (pv 4) (pa_cons (pe_lst (pa_cons (pe_tup (pa_cons (pv 8) (pa_cons (pe_op op_mod (pe_callTy call_int1 (by rfl) z_int boot_int (pa_cons (pe_call G_law_next (hr.mono (by decide)) rfl g_law_next k_law_next b_law_next .nil pass0 (pa_cons (pv 0) pa_nil)) pa_nil)) (pe_callB call_len_seq (by rfl) z_len boot_len (pa_cons (pv 4) pa_nil))) pa_nil))) pa_nil)) pa_nil)))))))) pss_nil)
  (pss_one (ps_ret (pe_call G_law_from (hr.mono (by decide)) rfl g_law_from k_law_from b_law_from .nil pass0 (pa_cons (pv 2) (pa_cons (pv 3) (pa_cons (pv 4) pa_nil))))))))))))), ?_⟩
    have szl : 20000 ≤ sizeLine := by decide
    refine ⟨_, rfl, (by show 2 ≤ sizeLine; decide), fun p np => ⟨p, _, rfl, .inl (.inl (.inl upd_same)), rfl, rfl, _, rfl, ?_⟩⟩
    have nrp : r ≠ p := ne_of_none hL np
    have sb1 : SameBut r H (upd H p (.lst [.str "threads", .str "loose"])) := SameBut.new np
    have hr1 : upd H p (.lst [.str "threads", .str "loose"]) r = some (.lst (ds.map V.int)) := by rw [upd_ne nrp]; exact hL
    have s01 : Same H (upd H p (.lst [.str "threads", .str "loose"])) := same_upd np
    revert sb1 hr1 s01
    generalize upd H p (.lst [.str "threads", .str "loose"]) = H1
    intro sb1 hr1 s01
    refine ite2 (fun e => ?_) (fun e => ?_)
    · refine ⟨_, rfl, _, rfl, _, rfl, _, rfl, _, rfl, _, rfl, r, ds, z, n, m, rfl, hn, hm, hr1, fun D l ds' H2 sb2 hr2 nDr nD hD hl hx => ?_⟩
      refine ⟨n, m, D, l, rfl, .inl (.inl hD), by omega, by omega, fun v H3 s3 nv hv => ?_⟩
      obtain ⟨ls, iv, tv⟩ := hx
      refine q v l ds' H3 ((sb1.trans sb2).trans (Same.but s3)) (s3 _ _ hr2) hl (fam_threaded ?_ iv tv) hv
      by_cases c1 : z = "threads"
      · exact .inl c1
      · by_cases c2 : z = "loose"
        · exact .inr c2
        · have e' : "threads" = z ∨ "loose" = z := by simpa [inV, eqV] using e
          exact e'.elim (fun h => absurd h.symm c1) fun h => absurd h.symm c2
    have hz : ¬(z = "threads" ∨ z = "loose") := by
      rintro (rfl | rfl) <;> exact absurd e (by decide +kernel)
    refine ⟨(by show 0 ≤ sizeLine; decide), fun e0 ne0 => ?_⟩
    have sb2 : SameBut r H (upd H1 e0 (.lst [])) := sb1.trans (SameBut.new ne0)
    have nre : r ≠ e0 := ne_of_none hr1 ne0
    have hr2 : upd H1 e0 (.lst []) r = some (.lst (ds.map V.int)) := by rw [upd_ne nre]; exact hr1
    refine ⟨_, rfl, rfl, _, rfl, ite2 (fun e1 => ?_) (fun e1 => ?_)⟩
    · obtain rfl : z = "parts" := V.str.inj (of_decide_eq_true e1)
      refine ⟨_, rfl, _, rfl, (n : Int), (m : Int), rfl, rfl, (n : Int) + (m : Int), rfl, by omega, by omega, for_range (lo := 0) (n := ((n : Int) + (m : Int)).toNat) (fun i σ H' => ∃ (v5 : Option V) (l ds' : List Int), σ = [some (.ref r), some (.str "parts"), some (.int n), some (.int m), some (.ref e0), v5, none, none, none] ∧ SameBut r H H' ∧ H' r = some (.lst (ds'.map V.int)) ∧ H' e0 = some (.lst (l.map V.int)) ∧ l.length = i)
        ⟨none, [], ds, rfl, sb2, hr2, upd_same, rfl⟩ (fun i σ H' hi hP => ?_) (fun σ H' hP => ?_)⟩
      · obtain ⟨v5, l, ds', rfl, sb3, hr3, he3, el⟩ := hP
        refine ⟨_, rfl, .inl ⟨rfl, _, .inl (.inl he3)⟩, _, rfl, r, ds', rfl, hr3, fun n0 ds0 => .inl ⟨n0, rfl, ?_⟩⟩
        have sb4 : SameBut r H (upd H' r (.lst (ds0.map V.int))) := sb3.trans SameBut.upd
        have hr4 : upd H' r (.lst (ds0.map V.int)) r = some (.lst (ds0.map V.int)) := upd_same
        have he4 : upd H' r (.lst (ds0.map V.int)) e0 = some (.lst (l.map V.int)) := by rw [upd_ne (Ne.symm nre)]; exact he3
        revert sb4 hr4 he4
        generalize upd H' r (.lst (ds0.map V.int)) = H4
        intro sb4 hr4 he4
        refine ⟨_, rfl, 1, rfl, (by show 1 ≤ sizeLine; decide), fun c nc => ⟨_, _, _, _, rfl, rfl, by rw [upd_ne (ne_of_none he4 nc)]; exact he4, upd_same, by rw [List.length_map]; show l.length + 1 ≤ sizeLine; omega, fun d nd => ?_⟩⟩
        have ec : upd (upd H4 c (.lst [.int (-1)])) d (.lst (l.map V.int ++ [.int (-1)])) d = some (.lst ((l ++ [-1]).map V.int)) := by rw [upd_same, List.map_append]; rfl
        refine ⟨d, l ++ [-1], rfl, .inl (.inl ec), by rw [List.length_append]; exact Nat.succ_pos _, fun mx hmx hge => ?_⟩
        have h1 := hge (-1) (List.mem_append_right _ List.mem_cons_self)
        have s5 : Same H4 (upd (upd H4 c (.lst [.int (-1)])) d (.lst (l.map V.int ++ [.int (-1)]))) := Same.trans (same_upd nc) (same_upd nd)
        refine ⟨_, _, rfl, rfl, _, _, rfl, rfl, by omega, e0, _, _, rfl, rfl, s5 _ _ he4, by rw [List.length_map]; omega, ?_⟩
        refine ⟨_, l ++ [n0 % (mx + 2)], ds0, rfl, fun o u no ho => ?_, ?_, by rw [upd_same, List.map_append]; rfl, by rw [List.length_append, el]; rfl⟩
        · rw [upd_ne (ne_of_none ho (none_back s01 ne0))]
          exact s5 _ _ (sb4 o u no ho)
        · rw [upd_ne nre]
          exact s5 _ _ hr4
      · obtain ⟨v5, l, ds', rfl, sb3, hr3, he3, el⟩ := hP
        refine ⟨_, rfl, _, rfl, _, rfl, n, m, e0, l, rfl, .inl (.inl he3), by omega, by omega, fun v H4 s4 nv hv => ?_⟩
        exact q v l ds' H4 (sb3.trans (Same.but s4)) (s4 _ _ hr3) (by omega) fam_parts hv
    have s02 : Same H (upd H1 e0 (.lst [])) := Same.trans s01 (same_upd ne0)
    revert hr2 s02
    generalize upd H1 e0 (.lst []) = H2
    intro hr2 s02
    clear sb2 sb1 hr1 s01 ne0 nrp np
    have toN : ((n : Int) + (m : Int)).toNat = n + m := by omega
    refine ⟨_, rfl, _, rfl, (n : Int), (m : Int), rfl, rfl, (n : Int) + (m : Int), rfl, RgOk.of_le (by omega) (by omega) (by omega) (by omega), fun mk nmk => ?_⟩
    rw [rgV_ixs (by omega), toN]
    have s03 := Same.trans s02 (same_upd (o := .lst ((ixs (n + m)).map V.int)) nmk)
    have hm3 : upd H2 mk (.lst ((ixs (n + m)).map V.int)) mk = some (.lst ((ixs (n + m)).map V.int)) := upd_same
    have nm0 : H mk = none := none_back s02 nmk
    revert s03 hm3
    generalize upd H2 mk (.lst ((ixs (n + m)).map V.int)) = H3
    intro s03 hm3
    refine ⟨_, rfl, _, rfl, (n : Int), (m : Int), rfl, rfl, (n : Int) + (m : Int), rfl, RgOk.of_le (by omega) (by omega) (by omega) (by omega), fun b nb => ?_⟩
    rw [rgV_ixs (by omega), toN]
    have s04 := Same.trans s03 (same_upd (o := .lst ((ixs (n + m)).map V.int)) nb)
    have hb4 : upd H3 b (.lst ((ixs (n + m)).map V.int)) b = some (.lst ((ixs (n + m)).map V.int)) := upd_same
    have nb0 : H b = none := none_back s03 nb
    have nbm : mk ≠ b := ne_of_none hm3 nb
    have hm4 : upd H3 b (.lst ((ixs (n + m)).map V.int)) mk = some (.lst ((ixs (n + m)).map V.int)) := by rw [upd_ne nbm]; exact hm3
    have hr4 := s04 _ _ hL
    revert s04 hb4 hm4 hr4
    generalize upd H3 b (.lst ((ixs (n + m)).map V.int)) = H4
    intro s04 hb4 hm4 hr4
    clear s03 hm3 nb nmk hr2 s02
    have nrb : r ≠ b := ne_of_none hL nb0
    have nrm : r ≠ mk := ne_of_none hL nm0
    let lone : Bool := decide (z = "lonepairs")
    refine ⟨fun σ H' => ∃ (v5 v7 v8 : Option V) (l ds' ls : List Int), σ = [some (.ref r), some (.str z), some (.int n), some (.int m), some (.ref mk), v5, some (.ref b), v7, v8] ∧ SameBut r H H' ∧ H' r = some (.lst (ds'.map V.int)) ∧ H' mk = some (.lst (l.map V.int)) ∧ H' b = some (.lst (ls.map V.int)) ∧ l.length = n + m ∧ Two z (n + m) l, ?_, ?_⟩
    · refine ⟨_, rfl, _, rfl, (n : Int), (m : Int), rfl, rfl, (n : Int) + (m : Int), rfl, by omega, by omega, for_range (lo := 0) (n := ((n : Int) + (m : Int)).toNat) (fun i σ H' => ∃ (v5 v7 v8 : Option V) (l ds' ls : List Int), σ = [some (.ref r), some (.str z), some (.int n), some (.int m), some (.ref mk), v5, some (.ref b), v7, v8] ∧ SameBut r H H' ∧ H' r = some (.lst (ds'.map V.int)) ∧ H' mk = some (.lst (l.map V.int)) ∧ H' b = some (.lst (ls.map V.int)) ∧ PrI lone (n + m) i l ls)
        ⟨none, none, none, ixs (n + m), ds, ixs (n + m), rfl, Same.but s04, hr4, hm4, hb4, PrI.start lone (n + m)⟩ (fun i σ H' hi hP => ?_) (fun σ H' hP => ?_)⟩
      · obtain ⟨v5, v7, v8, l, ds', ls, rfl, sb5, hr5, hm5, hb5, iv⟩ := hP
        have lsm := iv.cap
        refine ⟨_, rfl, b, _, rfl, .inl (.inl (.inl hb5)), _, _, rfl, rfl, _, rfl, ite2 (fun e2 => ?_) (fun e2 => ?_)⟩
        · rw [List.length_map] at e2
          have e2 : ls.length < 2 := by have := of_decide_eq_true e2; omega
          exact ⟨_, _, _, l, ds', ls, rfl, sb5, hr5, hm5, hb5, iv.len, two_of iv (.inl e2)⟩
        rw [List.length_map] at e2
        have e2 : ¬ ls.length < 2 := fun z => e2 (decide_eq_true (by omega))
        obtain ⟨one, ls, rfl⟩ : ∃ one ls', ls = one :: ls' := by
          cases ls with
          | nil => exact absurd (Nat.zero_lt_two) e2
          | cons a b => exact ⟨a, b, rfl⟩
        rw [List.length_cons] at e2 lsm
        have ll := iv.len
        have nls : ls ≠ [] := fun e => by rw [e] at e2; exact e2 (by decide)
        refine ⟨_, rfl, .inl ⟨rfl, _, .inl (.inl hb5)⟩, b, _, _, 0, .int one, rfl, rfl, hb5, by omega, by omega, seqIx_nat (k := 0) (by rw [List.length_map]; exact Nat.succ_pos _), rfl, ?_⟩
        rw [show (List.map V.int (one :: ls)).eraseIdx 0 = ls.map V.int from rfl]
        have sb6 : SameBut r H (upd H' b (.lst (ls.map V.int))) := fun o u no ho => by rw [upd_ne (ne_of_none ho nb0)]; exact sb5 o u no ho
        have hr6 : upd H' b (.lst (ls.map V.int)) r = some (.lst (ds'.map V.int)) := by rw [upd_ne nrb]; exact hr5
        have hm6 : upd H' b (.lst (ls.map V.int)) mk = some (.lst (l.map V.int)) := by rw [upd_ne nbm]; exact hm5
        have hb6 : upd H' b (.lst (ls.map V.int)) b = some (.lst (ls.map V.int)) := upd_same
        revert sb6 hr6 hm6 hb6
        generalize upd H' b (.lst (ls.map V.int)) = H6
        intro sb6 hr6 hm6 hb6
        refine ⟨_, rfl, rfl, _, rfl, ?_⟩
        by_cases cz : z = "lonepairs"
        · rw [decide_eq_true (congrArg V.str cz)]
          refine iteF ?_
          have iv' : PrI true (n + m) i l (one :: ls) := by
            have e : lone = true := decide_eq_true cz
            rw [e] at iv
            exact iv
          refine ⟨_, rfl, r, ds', rfl, hr6, fun n0 ds0 => .inl ⟨n0, rfl, n0, 4, rfl, rfl, (show (0 : Int) < 4 by decide), _, _, rfl, rfl, _, rfl, ?_⟩⟩
          have sb7 : SameBut r H (upd H6 r (.lst (ds0.map V.int))) := sb6.trans SameBut.upd
          have hr7 : upd H6 r (.lst (ds0.map V.int)) r = some (.lst (ds0.map V.int)) := upd_same
          have hm7 : upd H6 r (.lst (ds0.map V.int)) mk = some (.lst (l.map V.int)) := by rw [upd_ne (Ne.symm nrm)]; exact hm6
          have hb7 : upd H6 r (.lst (ds0.map V.int)) b = some (.lst (ls.map V.int)) := by rw [upd_ne (Ne.symm nrb)]; exact hb6
          revert sb7 hr7 hm7 hb7
          generalize upd H6 r (.lst (ds0.map V.int)) = H7
          intro sb7 hr7 hm7 hb7
          refine ite2 (fun e3 => ?_) (fun e3 => ?_)
          rotate_left
          · refine ⟨_, _, _, l, ds0, ls, rfl, sb7, hr7, hm7, hb7, ?_⟩
            have e : lone = true := decide_eq_true cz
            rw [e]
            exact iv'.skip
          refine ⟨_, rfl, _, rfl, _, rfl, _, rfl, r, b, ds0, ls, rfl, nrb, hr7, hb7, nls, by omega, fun ds5 k hk => ?_⟩
          obtain ⟨pos, ep, hpos, _, _⟩ := iv.free (co ls k) (List.mem_cons_of_mem _ (co_mem hk))
          rw [ep]
          have hm8 : upd (upd H7 r (.lst (ds5.map V.int))) b (.lst ((ls.eraseIdx k).map V.int)) mk = some (.lst (l.map V.int)) := by rw [upd_ne nbm, upd_ne (Ne.symm nrm)]; exact hm7
          refine ⟨mk, _, _, pos, rfl, rfl, hm8, ixN_nat (by rw [List.length_map]; omega), ?_⟩
          refine ⟨_, _, _, l.set pos one, ds5, ls.eraseIdx k, rfl, fun o u no ho => ?_, ?_, ?_, ?_, iv.step hk hpos ep⟩
          · rw [upd_ne (ne_of_none ho nm0), upd_ne (ne_of_none ho nb0), upd_ne no]
            exact sb7 o u no ho
          · rw [upd_ne nrm, upd_ne nrb, upd_same]
          · rw [upd_same, List.map_set]
          · rw [upd_ne (Ne.symm nbm), upd_same]
        · rw [decide_eq_false fun e => cz (V.str.inj e)]
          refine iteT ?_
          have sb7 := sb6
          have hr7 := hr6
          have hm7 := hm6
          have hb7 := hb6
          refine ⟨_, rfl, _, rfl, _, rfl, _, rfl, r, b, ds', ls, rfl, nrb, hr7, hb7, nls, by omega, fun ds5 k hk => ?_⟩
          obtain ⟨pos, ep, hpos, _, _⟩ := iv.free (co ls k) (List.mem_cons_of_mem _ (co_mem hk))
          rw [ep]
          have hm8 : upd (upd H6 r (.lst (ds5.map V.int))) b (.lst ((ls.eraseIdx k).map V.int)) mk = some (.lst (l.map V.int)) := by rw [upd_ne nbm, upd_ne (Ne.symm nrm)]; exact hm7
          refine ⟨mk, _, _, pos, rfl, rfl, hm8, ixN_nat (by rw [List.length_map]; omega), ?_⟩
          refine ⟨_, _, _, l.set pos one, ds5, ls.eraseIdx k, rfl, fun o u no ho => ?_, ?_, ?_, ?_, iv.step hk hpos ep⟩
          · rw [upd_ne (ne_of_none ho nm0), upd_ne (ne_of_none ho nb0), upd_ne no]
            exact sb7 o u no ho
          · rw [upd_ne nrm, upd_ne nrb, upd_same]
          · rw [upd_same, List.map_set]
          · rw [upd_ne (Ne.symm nbm), upd_same]
      · obtain ⟨v5, v7, v8, l, ds', ls, rfl, sb5, hr5, hm5, hb5, iv⟩ := hP
        exact ⟨_, _, _, l, ds', ls, rfl, sb5, hr5, hm5, hb5, iv.len, two_of iv (.inr toN)⟩
    · rintro σ H5 ⟨v5, v7, v8, l, ds', ls, rfl, sb5, hr5, hm5, hb5, ll, tw⟩
      refine ⟨fun σ H' => ∃ (mk2 : Addr) (v5 v6 v7 v8 : Option V) (l ds' : List Int), σ = [some (.ref r), some (.str z), some (.int n), some (.int m), some (.ref mk2), v5, v6, v7, v8] ∧ SameBut r H H' ∧ H' r = some (.lst (ds'.map V.int)) ∧ H' mk2 = some (.lst (l.map V.int)) ∧ l.length = n + m ∧ FamM z n m l, ?_, ?_⟩
      · refine ⟨_, rfl, rfl, _, rfl, ite2 (fun e2 => ?_) (fun e2 => ?_)⟩
        · obtain rfl : z = "even" := V.str.inj (of_decide_eq_true e2)
          refine ⟨_, rfl, _, .inl ⟨_, .inl (.inl hm5), rfl⟩, ?_⟩
          have nl : "even" ≠ ("lonepairs" : Str) := by decide +kernel
          by_cases ce : l = []
          · rw [ce]
            exact iteF ⟨mk, _, _, _, _, l, ds', rfl, sb5, hr5, hm5, ll, fam_two hz tw⟩
          have lpos : 0 < l.length := List.length_pos_iff.mpr ce
          rw [show (List.map V.int l).isEmpty = false by cases l with | nil => exact absurd rfl ce | cons => rfl]
          refine iteT ?_
          refine ⟨_, rfl, r, ds', rfl, hr5, fun n0 ds0 => .inl ⟨n0, rfl, n0, 3, rfl, rfl, (show (0 : Int) < 3 by decide), n0 % 3, rfl, by omega, by omega, for_range (lo := 0) (n := (n0 % 3).toNat) (fun i σ H' => ∃ (mk2 : Addr) (v5 v6 v7 v8 : Option V) (l ds' : List Int), σ = [some (.ref r), some (.str "even"), some (.int n), some (.int m), some (.ref mk2), v5, v6, v7, v8] ∧ r ≠ mk2 ∧ SameBut r H H' ∧ H' r = some (.lst (ds'.map V.int)) ∧ H' mk2 = some (.lst (l.map V.int)) ∧ l.length = n + m ∧ 0 < l.length ∧ ((n + m) % 2 = 0 → ∀ v, l.count v % 2 = 0))
            ⟨mk, _, _, _, _, l, ds0, rfl, nrm, sb5.trans SameBut.upd, upd_same, by rw [upd_ne (Ne.symm nrm)]; exact hm5, ll, lpos, fun e v => ?_⟩ (fun i σ H' hi hP => ?_) (fun σ H' hP => ?_)⟩⟩
          · rcases tw.1 nl e v with c | c <;> omega
          · obtain ⟨mk2, v5, v6, v7, v8, l, ds', rfl, nr2, sb6, hr6, hm6, ll, lpos, ev⟩ := hP
            clear tw hm5 hr5 hb5 sb5 ce
            refine ⟨_, rfl, r, ds', rfl, hr6, fun n0 ds0 => .inl ⟨n0, rfl, ?_⟩⟩
            have sb7 : SameBut r H (upd H' r (.lst (ds0.map V.int))) := sb6.trans SameBut.upd
            have hr7 : upd H' r (.lst (ds0.map V.int)) r = some (.lst (ds0.map V.int)) := upd_same
            have hm7 : upd H' r (.lst (ds0.map V.int)) mk2 = some (.lst (l.map V.int)) := by rw [upd_ne (Ne.symm nr2)]; exact hm6
            revert sb7 hr7 hm7
            generalize upd H' r (.lst (ds0.map V.int)) = H7
            intro sb7 hr7 hm7
            refine ⟨_, rfl, mk2, _, rfl, .inl (.inl (.inl hm7)), ?_⟩
            rw [List.length_map]
            refine ⟨n0, _, rfl, rfl, by omega, ?_⟩
            have m1 := mod_lt8 n0 (show (0 : Int) < (l.length : Int) by omega)
            obtain ⟨x, hx, ex⟩ : ∃ x : Nat, x < l.length ∧ n0 % (l.length : Int) = (x : Int) := ⟨(n0 % (l.length : Int)).toNat, by omega, by omega⟩
            dsimp only
            rw [ex]
            refine ⟨_, rfl, _, rfl, _, rfl, r, ds0, rfl, hr7, fun n1 ds1 => .inl ⟨n1, rfl, ?_⟩⟩
            have sb8 : SameBut r H (upd H7 r (.lst (ds1.map V.int))) := sb7.trans SameBut.upd
            have hr8 : upd H7 r (.lst (ds1.map V.int)) r = some (.lst (ds1.map V.int)) := upd_same
            have hm8 : upd H7 r (.lst (ds1.map V.int)) mk2 = some (.lst (l.map V.int)) := by rw [upd_ne (Ne.symm nr2)]; exact hm7
            revert sb8 hr8 hm8
            generalize upd H7 r (.lst (ds1.map V.int)) = H8
            intro sb8 hr8 hm8
            refine ⟨_, rfl, mk2, _, rfl, .inl (.inl (.inl hm8)), ?_⟩
            rw [List.length_map]
            refine ⟨n1, _, rfl, rfl, by omega, ?_⟩
            have m2 := mod_lt8 n1 (show (0 : Int) < (l.length : Int) by omega)
            obtain ⟨y, hy, ey⟩ : ∃ y : Nat, y < l.length ∧ n1 % (l.length : Int) = (y : Int) := ⟨(n1 % (l.length : Int)).toNat, by omega, by omega⟩
            dsimp only
            rw [ey]
            refine ⟨(by show 2 ≤ sizeLine; decide), fun t nt => ⟨(by show 1 ≤ sizeLine; decide), fun p np => ?_⟩⟩
            have s9 : Same H8 (upd (upd H8 t (.tup [.int x, .int y])) p (.lst [.ref t])) := Same.trans (same_upd nt) (same_upd np)
            refine ⟨mk2, p, t, l, x, y, rfl, .inl (.inl (s9 _ _ hm8)), upd_same, same_upd np _ _ upd_same, hx, hy, by omega, fun D l' H10 s10 nD hD el => ?_⟩
            have s11 := Same.trans s9 s10
            refine ⟨D, _, _, _, _, l', ds1, rfl, ne_of_none (s9 _ _ hr8) nD, sb8.trans (Same.but s11), s11 _ _ hr8, hD, ?_, ?_, fun e v => ?_⟩
            · rw [el, jn_len]
              exact ll
            · rw [el, jn_len]
              exact lpos
            · rw [el]
              exact jn_even (ev e) v
          · obtain ⟨mk2, v5, v6, v7, v8, l, ds', rfl, nr2, sb6, hr6, hm6, ll, lpos, ev⟩ := hP
            exact ⟨mk2, _, _, _, _, l, ds', rfl, sb6, hr6, hm6, ll, fam_even ev⟩
        · exact ⟨mk, _, _, _, _, l, ds', rfl, sb5, hr5, hm5, ll, fam_two hz tw⟩
      · rintro σ H6 ⟨mk2, v5, v6, v7, v8, l, ds', rfl, sb6, hr6, hm6, ll, fm⟩
        refine ⟨_, rfl, _, rfl, _, rfl, n, m, mk2, l, rfl, .inl (.inl hm6), by omega, by omega, fun v H7 s7 nv hv => ?_⟩
        exact q v l ds' H7 (sb6.trans (Same.but s7)) (s7 _ _ hr6) ll fm hv
end

/-! ### two diagrams compared -/
theorem eqvAll_dTs : ∀ bs cs : List (List Int), PyData.eqvAll (bs.map dT) (cs.map dT) = decide (bs = cs)
  | [], [] => by simp [PyData.eqvAll]
  | [], _ :: _ => by simp [PyData.eqvAll]
  | _ :: _, [] => by simp [PyData.eqvAll]
  | b :: bs, c :: cs => by
    rw [List.map_cons, List.map_cons]
    simp only [PyData.eqvAll, eqvAll_dTs bs cs, eqv_dT]
    by_cases h1 : b = c
    · by_cases h2 : bs = cs
      · simp [h1, h2]
      · simp [h2]
    · simp [h1]
theorem eqv_dg (n m n' m' : Int) (bs cs : List (List Int)) : PyData.eqv (dDG n m bs) (dDG n' m' cs) = decide (n = n' ∧ m = m' ∧ bs = cs) := by
  unfold dDG dTT
  simp only [PyData.eqv, PyData.eqvAll, eqvAll_dTs, Bool.and_true]
  by_cases h1 : n = n'
  · by_cases h2 : m = m'
    · by_cases h3 : bs = cs
      · simp [h1, h2, h3]
      · simp [h3]
    · simp [h2]
  · simp [h1]
/-- a list of diagrams -/
def dDgs (n m : Int) (ds : List (List (List Int))) : PyData := .list (ds.map (dDG n m))
theorem dgs_dp {K : PySem.W.Frag} {H : Hp} {n m : Int} : ∀ {vs : List V} {ds : List (List (List Int))}, Paired (fun v bs => DGv H v n m bs) vs ds → DpAll K H vs (ds.map (dDG n m))
  | _, _, .nil => .nil
  | _, _, .cons a b => .cons a.dp (dgs_dp b)
theorem wt_ints : ∀ b : List Int, wtAll (b.map PyData.int) = 1923 * b.length
  | [] => rfl
  | a :: b => by
    rw [List.map_cons, List.length_cons]
    simp only [wtAll, wt, wt_ints b]
    omega
theorem wt_dTs : ∀ bs : List (List Int), wtAll (bs.map dT) = 5 * bs.length + 1923 * bs.flatten.length
  | [] => rfl
  | b :: bs => by
    rw [List.map_cons, List.length_cons, List.flatten_cons, List.length_append]
    simp only [wtAll, dT, wt, wt_ints b]
    have := wt_dTs bs
    omega
theorem smL_dgW {n m : Int} {bs : List (List Int)} (h : IsDg n m bs) : SmL 3 27000 (dDG n m bs) := by
  have e := smL_dg h
  have z := siz_iff.mp h.sz
  have f := h.few.1
  have l := h.pm.length_eq
  rw [ixs_len] at l
  refine ⟨e.lay, e.dep, e.sho, ?_⟩
  unfold dDG dTT
  simp only [wt, wtAll, wt_dTs]
  omega
theorem smL_dgs {n m : Int} {ds : List (List (List Int))} {c : Nat} (h : ∀ d ∈ ds, IsDg n m d) (hc : ds.length ≤ c) : SmL 4 (27002 * c + 3) (dDgs n m ds) := by
  have e := smL_list (ds := ds.map (dDG n m)) (n := 3) (k := 27000) fun D hD => by
    obtain ⟨d, hd, rfl⟩ := List.mem_map.mp hD
    exact smL_dgW (h d hd)
  rw [List.length_map] at e
  exact ⟨e.lay, e.dep, e.sho, Nat.le_trans e.wgt (by have := Nat.mul_le_mul_left 27002 hc; omega)⟩

/-! ### drawn marks lead to diagrams of their family -/
theorem posOf_two {l : List Int} {v : Int} {i j : Nat} (hij : i < j) (hj : j < (posOf l v).length) : ∃ p q : Nat, p < q ∧ q < l.length ∧ co l p = v ∧ co l q = v ∧ co (posOf l v) i = p ∧ co (posOf l v) j = q := by
  obtain ⟨p, e1, h1, h2⟩ := mem_posOf.mp (co_mem (l := posOf l v) (k := i) (by omega))
  obtain ⟨q, e3, h3, h4⟩ := mem_posOf.mp (co_mem hj)
  refine ⟨p, q, ?_, h3, h2, h4, e1, e3⟩
  have := List.pairwise_iff_getElem.mp (posOf_asc l v) i j (by omega) hj hij
  have g1 := co_get (l := posOf l v) (k := i) (by omega)
  have g2 := co_get hj
  rw [List.getElem?_eq_getElem (by omega)] at g1 g2
  rw [Option.some.inj g1, Option.some.inj g2] at this
  omega
theorem strand_two {n : Nat} {l : List Int} (h : Strand n l) (v : Int) : (posOf l v).length ≤ 2 ∧ ((posOf l v).length = 2 → strandB n (posOf l v) = true) := by
  constructor
  · rcases Nat.lt_or_ge 2 (posOf l v).length with c | c
    · obtain ⟨p, q, h1, h2, h3, h4, e1, e2⟩ := posOf_two (l := l) (v := v) (i := 0) (j := 1) (by omega) (by omega)
      obtain ⟨q', r, h5, h6, h7, h8, e3, e4⟩ := posOf_two (l := l) (v := v) (i := 1) (j := 2) (by omega) c
      have := h p q h1 h2 (by rw [h3, h4])
      have := h q' r h5 h6 (by rw [h7, h8])
      omega
    · exact c
  · intro c
    obtain ⟨p, q, h1, h2, h3, h4, e1, e2⟩ := posOf_two (l := l) (v := v) (i := 0) (j := 1) (by omega) (by omega)
    have := h p q h1 h2 (by rw [h3, h4])
    unfold strandB
    rw [decide_eq_true c, e1, e2, Bool.true_and]
    exact decide_eq_true ⟨by omega, by omega⟩
theorem fam_in {z : Str} {n m : Nat} {l : List Int} (h : FamM z n m l) (hl : l.length = n + m) (ht : z = "threads" → m = n) (hp : z = "pairs" ∨ z = "even" → (n + m) % 2 = 0) : inFam z (n : Int) (blocksOf l) = true := by
  unfold inFam blocksOf
  rw [List.all_map, List.all_eq_true]
  intro v hv
  have hv : v ∈ l := ((seenL_mem l [] v).mp hv).resolve_left fun z => nomatch z
  have p0 := posOf_pos hv
  show blockOk z n (posOf l v) = true
  unfold blockOk
  by_cases c1 : z = "threads"
  · rw [if_pos c1]
    obtain ⟨h1, h2⟩ := strand_two (h.st (.inl c1)) v
    refine h2 ?_
    obtain ⟨p, hp, e⟩ := mem_get hv
    obtain ⟨q, hq, ne, e2⟩ := h.ma c1 (ht c1).symm p hp
    rcases Nat.lt_or_ge 1 (posOf l v).length with c | c
    · omega
    · have m1 : (p : Int) ∈ posOf l v := mem_posOf.mpr ⟨p, rfl, hp, e⟩
      have m2 : (q : Int) ∈ posOf l v := mem_posOf.mpr ⟨q, rfl, hq, e2.trans e⟩
      obtain ⟨i, hi, ei⟩ := mem_get m1
      obtain ⟨j, hj, ej⟩ := mem_get m2
      have : i = j := by omega
      rw [this] at ei
      omega
  rw [if_neg c1]
  by_cases c2 : z = "loose"
  · rw [if_pos c2]
    obtain ⟨h1, h2⟩ := strand_two (h.st (.inr c2)) v
    rcases Nat.lt_or_ge 1 (posOf l v).length with c | c
    · rw [h2 (by omega), Bool.or_true]
    · rw [decide_eq_true (by omega), Bool.true_or]
  rw [if_neg c2, posOf_len]
  unfold sizeOk
  by_cases c3 : z = "pairs"
  · rw [if_pos c3]
    exact decide_eq_true (h.pa c3 (hp (.inl c3)) v hv)
  rw [if_neg c3]
  by_cases c4 : z = "lonepairs"
  · rw [if_pos c4]
    exact decide_eq_true (h.lo c4 v)
  rw [if_neg c4]
  by_cases c5 : z = "even"
  · rw [if_pos c5]
    exact decide_eq_true (h.ev c5 (hp (.inr c5)) v)
  rw [if_neg c5]
/-! ### lists of strings, of bools -/
def dS (l : List Str) : PyData := .list (l.map PyData.str)
def dB (l : List Bool) : PyData := .list (l.map PyData.bool)
theorem strs_dp {K : PySem.W.Frag} {H : Hp} : ∀ z : List Str, DpAll K H (z.map V.str) (z.map PyData.str)
  | [] => .nil
  | a :: r => .cons (.str a) (strs_dp r)
theorem bools_dp {K : PySem.W.Frag} {H : Hp} : ∀ z : List Bool, DpAll K H (z.map V.bl) (z.map PyData.bool)
  | [] => .nil
  | a :: r => .cons (.bl a) (bools_dp r)
/-- equal data -/
theorem neD_refl {K : PySem.W.Frag} {H : Hp} {u v : V} {d : PyData} {Q : VK} (hu : Dp K H u d) (hv : Dp K H v d) (hs : SeqAt.shaped d = true) (ha : PyData.eqv d d = true) (q : Q (.bl false) H) : rNeD K u v H Q :=
  ⟨d, d, hu, hv, hs, hs, by rw [ha]; exact q⟩
theorem eqv_strs : ∀ l : List Str, PyData.eqvAll (l.map PyData.str) (l.map PyData.str) = true
  | [] => by simp [PyData.eqvAll]
  | a :: l => by simp [PyData.eqvAll, PyData.eqv, eqv_strs l]
theorem eqv_bools : ∀ l : List Bool, PyData.eqvAll (l.map PyData.bool) (l.map PyData.bool) = true
  | [] => by simp [PyData.eqvAll]
  | a :: l => by simp [PyData.eqvAll, PyData.eqv, eqv_bools l]
theorem eqv_dS (l : List Str) : PyData.eqv (dS l) (dS l) = true := by
  unfold dS
  simp only [PyData.eqv, eqv_strs]
theorem eqv_dB (l : List Bool) : PyData.eqv (dB l) (dB l) = true := by
  unfold dB
  simp only [PyData.eqv, eqv_bools]
theorem dB_shaped : ∀ l : List Bool, SeqAt.shaped (dB l) = true := fun l => by
  have h : ∀ l : List Bool, PyData.canLayAll0 (l.map PyData.bool) = true ∧ PyData.depthAll (l.map PyData.bool) = 0 := fun l => by
    induction l with
    | nil => exact ⟨by simp [PyData.canLayAll0], by simp [PyData.depthAll]⟩
    | cons a l ih => exact ⟨by simp [PyData.canLayAll0, PyData.canLay0, ih.1], by simp [PyData.depthAll, PyData.depth, ih.2]⟩
  obtain ⟨h1, h2⟩ := h l
  show (PyData.canLay0 (dB l) && decide (PyData.depth (dB l) ≤ 64)) = true
  unfold dB
  rw [show PyData.canLay0 (.list (l.map PyData.bool)) = true by simp [PyData.canLay0, h1], show PyData.depth (.list (l.map PyData.bool)) = 1 by simp [PyData.depth, h2]]
  rfl
theorem fams_shaped : SeqAt.shaped (dS fams) = true := by decide +kernel

/-! ### one diagram led through another -/
theorem co_range {f : Nat → Int} {n q : Nat} (h : q < n) : co ((List.range n).map f) q = f q := by
  unfold co
  rw [List.getD_eq_getElem?_getD, List.getElem?_map, List.getElem?_range h]
  rfl
def selN (n i : Nat) : Nat := if i < n then i else n + i
theorem putS_co {n : Nat} {a b : List Int} (ha : a.length = n + n) (hb : b.length = n + n) {i : Nat} (hi : i < n + n) : co (putS n n n a b) i = co (putM n n n a b) (selN n i) := by
  have K := ks_putM (n := n) (m := n) (q := n) ha hb
  show co (inoutL n (n + n) (putM n n n a b)) i = _
  rw [inout_co (by omega) (by rw [K.len]; omega) i (by rw [K.len]; omega)]
  unfold selN
  split
  · rfl
  · rw [show n + n + (i - n) = n + i by omega]
theorem putS_lenN {n : Nat} {a b : List Int} (ha : a.length = n + n) (hb : b.length = n + n) : (putS n n n a b).length = n + n := by
  have K := ks_putM (n := n) (m := n) (q := n) ha hb
  show (inoutL n (n + n) (putM n n n a b)).length = _
  rw [inout_len (by omega) (by rw [K.len]; omega), K.len]
  omega
theorem lead_put {n : Nat} {l1 l2 lu lv : List Int} (h1 : l1.length = n + n) (h2 : l2.length = n + n) (hu : lu.length = n + n) (hv : lv.length = n + n) (g : Int → Int)
    (ut : ∀ i, i < n → co lu i = co l1 i)
    (uc : ∀ i j, i < n + n → j < n + n → co lu i = co lu j → (if i < n then co l1 i else g (co l2 (i - n))) = (if j < n then co l1 j else g (co l2 (j - n))))
    (vt : ∀ j, j < n → co lv (n + j) = co l1 (n + j))
    (vc : ∀ i j, i < n + n → j < n + n → co lv i = co lv j → (if i < n then g (co l2 (n + i)) else co l1 i) = (if j < n then g (co l2 (n + j)) else co l1 j))
    (ue : ∀ i j, i < n → j < n → co l1 i = co l1 (n + j) → ∃ p q, p < n ∧ q < n ∧ co lu (n + p) = co lu i ∧ co l2 p = co l2 (n + q) ∧ co lv q = co lv (n + j)) :
    blocksOf (putS n n n (putS n n n lu l2) lv) = blocksOf l1 := by
  have K1 := ks_putM (n := n) (m := n) (q := n) hu h2
  have hS := putS_lenN hu h2
  have K2 := ks_putM (n := n) (m := n) (q := n) hS hv
  have sl : ∀ i, i < n + n → selN n i < n + n + n := fun i hi => by
    unfold selN
    split <;> omega
  have keep1 : ∀ i j, i < n + n → j < n + n → co (putS n n n lu l2) i = co (putS n n n lu l2) j → (if selN n i < n then co l1 (selN n i) else g (co l2 (selN n i - n))) = (if selN n j < n then co l1 (selN n j) else g (co l2 (selN n j - n))) := fun i j hi hj e => by
    rw [putS_co hu h2 hi, putS_co hu h2 hj] at e
    refine Conn.keep (g := fun x => if x < n then co l1 x else g (co l2 (x - n))) (fun x y exy => ?_) ((K1.eq _ _ (sl i hi) (sl j hj)).mp e)
    rcases exy with ⟨hx, hy, e⟩ | ⟨a, b, ha, hb, rfl, rfl, e⟩
    · exact uc x y hx hy e
    · show (if n + a < n then _ else g (co l2 (n + a - n))) = if n + b < n then _ else g (co l2 (n + b - n))
      rw [if_neg (by omega), if_neg (by omega), Nat.add_sub_cancel_left, Nat.add_sub_cancel_left, e]
  have c1sel : ∀ i, i < n + n → (if selN n i < n then co l1 (selN n i) else g (co l2 (selN n i - n))) = if i < n then co l1 i else g (co l2 i) := fun i hi => by
    unfold selN
    by_cases c : i < n
    · rw [if_pos c, if_pos c, if_pos c]
    · rw [if_neg c, if_neg (by omega), if_neg c, Nat.add_sub_cancel_left]
  have keep2 : ∀ i j, i < n + n → j < n + n → co (putS n n n (putS n n n lu l2) lv) i = co (putS n n n (putS n n n lu l2) lv) j → co l1 i = co l1 j := fun i j hi hj e => by
    rw [putS_co hS hv hi, putS_co hS hv hj] at e
    have := Conn.keep (g := fun x => if x < n then co l1 x else if x < n + n then g (co l2 x) else co l1 (x - n)) (fun x y exy => ?_) ((K2.eq _ _ (sl i hi) (sl j hj)).mp e)
    · have fin : ∀ i, i < n + n → (if selN n i < n then co l1 (selN n i) else if selN n i < n + n then g (co l2 (selN n i)) else co l1 (selN n i - n)) = co l1 i := fun i hi => by
        unfold selN
        by_cases c : i < n
        · rw [if_pos c, if_pos c]
        · rw [if_neg c, if_neg (by omega), if_neg (by omega), Nat.add_sub_cancel_left]
      have e1 := fin i hi
      have e2 := fin j hj
      rw [← e1, ← e2]
      exact this
    · rcases exy with ⟨hx, hy, e⟩ | ⟨a, b, ha, hb, rfl, rfl, e⟩
      · have k := keep1 x y hx hy e
        rw [c1sel x hx, c1sel y hy] at k
        show (if x < n then co l1 x else if x < n + n then g (co l2 x) else co l1 (x - n)) = (if y < n then co l1 y else if y < n + n then g (co l2 y) else co l1 (y - n))
        rw [if_pos hx, if_pos hy]
        exact k
      · have k := vc a b ha hb e
        have st : ∀ a, a < n + n → (if n + a < n then co l1 (n + a) else if n + a < n + n then g (co l2 (n + a)) else co l1 (n + a - n)) = if a < n then g (co l2 (n + a)) else co l1 a := fun a ha => by
          rw [if_neg (by omega)]
          by_cases c : a < n
          · rw [if_pos (by omega), if_pos c]
          · rw [if_neg (by omega), if_neg c, Nat.add_sub_cancel_left]
        show (if n + a < n then co l1 (n + a) else if n + a < n + n then g (co l2 (n + a)) else co l1 (n + a - n)) = (if n + b < n then co l1 (n + b) else if n + b < n + n then g (co l2 (n + b)) else co l1 (n + b - n))
        rw [st a ha, st b hb]
        exact k
  have s1 : ∀ i, i < n → selN n i = i := fun i h => if_pos h
  have s2 : ∀ i, selN n (n + i) = n + (n + i) := fun i => if_neg (by omega)
  have join2 : ∀ i j, i < n + n → j < n + n → Conn (Fput n n n (putS n n n lu l2) lv) (selN n i) (selN n j) → co (putS n n n (putS n n n lu l2) lv) i = co (putS n n n (putS n n n lu l2) lv) j := fun i j hi hj c => by
    rw [putS_co hS hv hi, putS_co hS hv hj]
    exact (K2.eq _ _ (sl i hi) (sl j hj)).mpr c
  have top : ∀ i j, i < n → j < n → co l1 i = co l1 j → co (putS n n n lu l2) i = co (putS n n n lu l2) j := fun i j hi hj e => by
    rw [putS_co hu h2 (by omega), putS_co hu h2 (by omega)]
    refine (K1.eq _ _ (sl i (by omega)) (sl j (by omega))).mpr (.ed (.inl ?_))
    rw [s1 i hi, s1 j hj]
    exact ⟨by omega, by omega, by rw [ut i hi, ut j hj]; exact e⟩
  have cross : ∀ i j, i < n → j < n → co l1 i = co l1 (n + j) → Conn (Fput n n n (putS n n n lu l2) lv) (selN n i) (selN n (n + j)) := fun i j hi hj e => by
    obtain ⟨p, q, hp, hq, e1, e2, e3⟩ := ue i j hi hj e
    have a : co (putS n n n lu l2) i = co (putS n n n lu l2) (n + q) := by
      rw [putS_co hu h2 (by omega), putS_co hu h2 (by omega)]
      refine (K1.eq _ _ (sl i (by omega)) (sl _ (by omega))).mpr ?_
      rw [s1 i hi, s2 q]
      exact .tr (.ed (.inl ⟨by omega, by omega, e1.symm⟩)) (.ed (.inr ⟨p, n + q, by omega, by omega, rfl, rfl, e2⟩))
    rw [s1 i hi, s2 j]
    exact .tr (.ed (.inl ⟨by omega, by omega, a⟩)) (.ed (.inr ⟨q, n + j, by omega, by omega, rfl, rfl, e3⟩))
  refine (KerEq.blocks (a := l1) ⟨by rw [putS_lenN hS hv]; exact h1, fun i j hi hj => ⟨fun e => ?_, fun e => keep2 i j (by omega) (by omega) e⟩⟩)
  rw [h1] at hi hj
  by_cases ci : i < n
  · by_cases cj : j < n
    · refine join2 i j hi hj (.ed (.inl ?_))
      rw [s1 i ci, s1 j cj]
      exact ⟨by omega, by omega, top i j ci cj e⟩
    · obtain ⟨j', rfl⟩ : ∃ j', j = n + j' := ⟨j - n, by omega⟩
      exact join2 _ _ hi hj (cross i j' ci (by omega) e)
  · obtain ⟨i', rfl⟩ : ∃ i', i = n + i' := ⟨i - n, by omega⟩
    by_cases cj : j < n
    · exact (join2 _ _ hj hi (cross j i' cj (by omega) e.symm)).symm
    · obtain ⟨j', rfl⟩ : ∃ j', j = n + j' := ⟨j - n, by omega⟩
      refine join2 _ _ hi hj (.ed (.inr ⟨n + i', n + j', hi, hj, ?_, ?_, ?_⟩))
      · exact s2 i'
      · exact s2 j'
      · rw [vt i' (by omega), vt j' (by omega)]
        exact e

/-! ### what goes through a product -/
theorem inj_len {A B : List Int} (nd : A.Nodup) (f : Int → Int) (hf : ∀ v ∈ A, f v ∈ B) (inj : ∀ v ∈ A, ∀ w ∈ A, f v = f w → v = w) : A.length ≤ B.length := by
  have nm : (A.map f).Nodup := by
    rw [List.nodup_iff_pairwise_ne] at nd ⊢
    rw [List.pairwise_map]
    exact nd.imp_of_mem fun ha hb ne e => ne (inj _ ha _ hb e)
  have := List.Nodup.length_le_of_subset nm (fun y hy => by
    obtain ⟨v, hv, rfl⟩ := List.mem_map.mp hy
    exact hf v hv)
  rwa [List.length_map] at this
theorem mem_co {l : List Int} {v : Int} : v ∈ l ↔ ∃ i, i < l.length ∧ co l i = v := by
  constructor
  · intro h
    obtain ⟨i, hi, e⟩ := List.mem_iff_getElem.mp h
    refine ⟨i, hi, ?_⟩
    unfold co
    rw [List.getD_eq_getElem?_getD, List.getElem?_eq_getElem hi]
    exact e
  · rintro ⟨i, hi, rfl⟩
    unfold co
    rw [List.getD_eq_getElem?_getD, List.getElem?_eq_getElem hi]
    exact List.getElem_mem hi
theorem mem_thr {n m : Nat} {l : List Int} (h : l.length = n + m) {v : Int} : v ∈ endT n l ↔ ∃ i j, i < n ∧ j < m ∧ co l i = v ∧ co l (n + j) = v := by
  rw [mem_endT, mem_co, mem_co]
  constructor
  · rintro ⟨⟨i, hi, e1⟩, ⟨j, hj, e2⟩⟩
    rw [List.length_take] at hi
    rw [List.length_drop] at hj
    exact ⟨i, j, by omega, by omega, by rw [← e1, co_takeB (by omega)], by rw [← e2, co_drop]⟩
  · rintro ⟨i, j, hi, hj, e1, e2⟩
    exact ⟨⟨i, by rw [List.length_take]; omega, by rw [co_takeB hi]; exact e1⟩, ⟨j, by rw [List.length_drop]; omega, by rw [co_drop]; exact e2⟩⟩
theorem thr_le {n : Nat} {a b : List Int} (ha : a.length = n + n) (hb : b.length = n + n) : (endT n (putS n n n a b)).length ≤ (endT n a).length ∧ (endT n (putS n n n a b)).length ≤ (endT n b).length := by
  have K := ks_putM (n := n) (m := n) (q := n) ha hb
  have hS := putS_lenN ha hb
  have s1 : ∀ i, i < n → selN n i = i := fun i h => if_pos h
  have s2 : ∀ i, selN n (n + i) = n + (n + i) := fun i => if_neg (by omega)
  have eq : ∀ i j, i < n → j < n → (co (putS n n n a b) i = co (putS n n n a b) (n + j) ↔ Conn (Fput n n n a b) i (n + (n + j))) := fun i j hi hj => by
    rw [putS_co ha hb (by omega), putS_co ha hb (by omega), s1 i hi, s2 j]
    exact K.eq _ _ (by omega) (by omega)
  have eq1 : ∀ i j, i < n → j < n → (co (putS n n n a b) i = co (putS n n n a b) j ↔ Conn (Fput n n n a b) i j) := fun i j hi hj => by
    rw [putS_co ha hb (by omega), putS_co ha hb (by omega), s1 i hi, s1 j hj]
    exact K.eq _ _ (by omega) (by omega)
  have pick : ∀ v, v ∈ endT n (putS n n n a b) → ∃ i j, i < n ∧ j < n ∧ co (putS n n n a b) i = v ∧ co (putS n n n a b) (n + j) = v ∧ Conn (Fput n n n a b) i (n + (n + j)) := fun v hv => by
    obtain ⟨i, j, hi, hj, e1, e2⟩ := (mem_thr hS).mp hv
    exact ⟨i, j, hi, hj, e1, e2, (eq i j hi hj).mp (e1.trans e2.symm)⟩
  constructor
  · have ex : ∀ v, v ∈ endT n (putS n n n a b) → ∃ x, x < n ∧ co (putS n n n a b) x = v ∧ co a x ∈ endT n a := fun v hv => by
      obtain ⟨i, j, hi, hj, e1, e2, c⟩ := pick v hv
      refine Classical.byContradiction fun no => ?_
      have k := Conn.keep (g := fun x => x < n ∧ Conn (Fput n n n a b) i x) (fun x y exy => ?_) c
      · have t1 : n + (n + j) < n ∧ Conn (Fput n n n a b) i (n + (n + j)) := k ▸ (⟨hi, .rf i⟩ : i < n ∧ Conn (Fput n n n a b) i i)
        omega
      · have low : ∀ x y, x < n → ¬ y < n → y < n + n → co a x = co a y → ¬ Conn (Fput n n n a b) i x := fun x y hx hy hy2 e cx => by
          refine no ⟨x, hx, ?_, (mem_thr ha).mpr ⟨x, y - n, hx, by omega, rfl, ?_⟩⟩
          · rw [← e1]
            exact ((eq1 i x hi hx).mpr cx).symm
          · rw [show n + (y - n) = y by omega]
            exact e.symm
        rcases id exy with ⟨hx, hy, e⟩ | ⟨p, q, hp, hq, rfl, rfl, e⟩
        · exact propext ⟨fun ⟨h1, h2⟩ => ⟨Classical.byContradiction fun cy => low x y h1 cy hy e h2, .tr h2 (.ed exy)⟩, fun ⟨h1, h2⟩ => ⟨Classical.byContradiction fun cx => low y x h1 cx hx e.symm h2, .tr h2 (.sy (.ed exy))⟩⟩
        · exact propext ⟨fun h => absurd h.1 (by omega), fun h => absurd h.1 (by omega)⟩
    refine inj_len (endT_nd n _) (fun v => if h : v ∈ endT n (putS n n n a b) then co a (Classical.choose (ex v h)) else 0) (fun v hv => ?_) (fun v hv w hw e => ?_)
    · rw [dif_pos hv]
      exact (Classical.choose_spec (ex v hv)).2.2
    · rw [dif_pos hv, dif_pos hw] at e
      obtain ⟨x1, x2, _⟩ := Classical.choose_spec (ex v hv)
      obtain ⟨y1, y2, _⟩ := Classical.choose_spec (ex w hw)
      rw [← x2, ← y2]
      exact (eq1 _ _ x1 y1).mpr (.ed (.inl ⟨by omega, by omega, e⟩))
  · have eq3 : ∀ i j, i < n → j < n → (co (putS n n n a b) (n + i) = co (putS n n n a b) (n + j) ↔ Conn (Fput n n n a b) (n + (n + i)) (n + (n + j))) := fun i j hi hj => by
      rw [putS_co ha hb (by omega), putS_co ha hb (by omega), s2 i, s2 j]
      exact K.eq _ _ (by omega) (by omega)
    have ex : ∀ v, v ∈ endT n (putS n n n a b) → ∃ x, x < n ∧ co (putS n n n a b) (n + x) = v ∧ co b (n + x) ∈ endT n b := fun v hv => by
      obtain ⟨i, j, hi, hj, e1, e2, c⟩ := pick v hv
      refine Classical.byContradiction fun no => ?_
      have k := Conn.keep (g := fun x => n + n ≤ x ∧ Conn (Fput n n n a b) (n + (n + j)) x) (fun x y exy => ?_) (Conn.sy c)
      · have t1 : n + n ≤ i ∧ Conn (Fput n n n a b) (n + (n + j)) i := k ▸ (⟨by omega, .rf _⟩ : n + n ≤ n + (n + j) ∧ Conn (Fput n n n a b) (n + (n + j)) (n + (n + j)))
        omega
      · have low : ∀ p q, n ≤ p → p < n + n → q < n → co b p = co b q → ¬ Conn (Fput n n n a b) (n + (n + j)) (n + p) := fun p q hp hp2 hq e cx => by
          obtain ⟨p', rfl⟩ : ∃ p', p = n + p' := ⟨p - n, by omega⟩
          refine no ⟨p', by omega, ?_, (mem_thr hb).mpr ⟨q, p', hq, by omega, e.symm, rfl⟩⟩
          rw [← e2]
          exact ((eq3 j p' hj (by omega)).mpr cx).symm
        rcases id exy with ⟨hx, hy, e⟩ | ⟨p, q, hp, hq, rfl, rfl, e⟩
        · exact propext ⟨fun h => absurd h.1 (by omega), fun h => absurd h.1 (by omega)⟩
        · exact propext ⟨fun ⟨h1, h2⟩ => ⟨Classical.byContradiction fun cy => low p q (by omega) hp (by omega) e h2, .tr h2 (.ed exy)⟩, fun ⟨h1, h2⟩ => ⟨Classical.byContradiction fun cx => low q p (by omega) hq (by omega) e.symm h2, .tr h2 (.sy (.ed exy))⟩⟩
    refine inj_len (endT_nd n _) (fun v => if h : v ∈ endT n (putS n n n a b) then co b (n + Classical.choose (ex v h)) else 0) (fun v hv => ?_) (fun v hv w hw e => ?_)
    · rw [dif_pos hv]
      exact (Classical.choose_spec (ex v hv)).2.2
    · rw [dif_pos hv, dif_pos hw] at e
      obtain ⟨x1, x2, _⟩ := Classical.choose_spec (ex v hv)
      obtain ⟨y1, y2, _⟩ := Classical.choose_spec (ex w hw)
      rw [← x2, ← y2]
      exact (eq3 _ _ x1 y1).mpr (.ed (.inr ⟨n + Classical.choose (ex v hv), n + Classical.choose (ex w hw), by omega, by omega, rfl, rfl, e⟩))

/-! ### the first and the last of the three -/
theorem filter_one : ∀ (n q0 : Nat), q0 < n → (List.range n).filter (fun q => decide (q = q0)) = [q0]
  | n + 1, q0, h => by
    rw [List.range_succ, List.filter_append]
    by_cases e : q0 = n
    · subst e
      rw [List.filter_eq_nil_iff.mpr (fun q hq => by have := List.mem_range.mp hq; simp; omega)]
      simp
    · rw [filter_one n q0 (by omega), List.filter_cons, decide_eq_false (fun z => e z.symm)]
      rfl
theorem posOf_rng (n : Nat) (f : Nat → Int) (v : Int) : posOf ((List.range n).map f) v = ((List.range n).filter fun q => decide (f q = v)).map fun q : Nat => (q : Int) := by
  unfold posOf
  rw [List.length_map, List.length_range]
  congr 1
  refine List.filter_congr fun q hq => ?_
  rw [co_range (List.mem_range.mp hq)]
theorem posOf_rng1 {n : Nat} {f : Nat → Int} {v : Int} {q0 : Nat} (h : q0 < n) (e : ∀ q, q < n → (f q = v ↔ q = q0)) : posOf ((List.range n).map f) v = [(q0 : Int)] := by
  rw [posOf_rng, show ((List.range n).filter fun q => decide (f q = v)) = (List.range n).filter fun q => decide (q = q0) from List.filter_congr fun q hq => decide_eq_decide.mpr (e q (List.mem_range.mp hq)), filter_one n q0 h]
  rfl
def enL (t : Nat) (X E : List Int) : List Nat := (List.range t).map fun k => X.idxOf (co E k)
def midF (EN : List Nat) (T : List Int) (sp : Nat → Int) (q : Nat) : Int := if q ∈ EN then co T (EN.idxOf q) else sp q
def spareN (n : Nat) (EN : List Nat) : List Nat := (List.range n).filter fun q => decide (q ∉ EN)
def spF (z : Str) (B : Int) (q : Nat) : Int := if z = "pairs" then B else B + (q : Int)
def spB (z : Str) (S : List Nat) : List (List Int) := if z = "pairs" then (if S = [] then [] else [S.map fun q : Nat => (q : Int)]) else S.map fun q : Nat => [(q : Int)]
def spL (z : Str) (B : Int) (S : List Nat) : List Int := if z = "pairs" then (if S = [] then [] else [B]) else S.map fun q : Nat => B + (q : Int)
theorem co_nd {l : List Int} (nd : l.Nodup) {i j : Nat} (hi : i < l.length) (hj : j < l.length) (e : co l i = co l j) : i = j := by
  have a := idx_nd nd hi
  rw [e, idx_nd nd hj] at a
  exact a.symm
structure Mid (n : Nat) (T : List Int) (EN : List Nat) (sp : Nat → Int) : Prop where
  nd : T.Nodup
  en : EN.Nodup
  len : EN.length = T.length
  lt : ∀ q ∈ EN, q < n
  fr : ∀ q, sp q ∉ T
theorem Mid.at {n : Nat} {T : List Int} {EN : List Nat} {sp : Nat → Int} (m : Mid n T EN sp) {k : Nat} (hk : k < T.length) : EN.getD k 0 < n ∧ ∀ q, q < n → (midF EN T sp q = co T k ↔ q = EN.getD k 0) := by
  have hk' : k < EN.length := by rw [m.len]; exact hk
  have e0 : EN.getD k 0 = EN[k] := by rw [List.getD_eq_getElem?_getD, List.getElem?_eq_getElem hk']; rfl
  have mk : EN.getD k 0 ∈ EN := by rw [e0]; exact List.getElem_mem hk'
  have ix : EN.idxOf (EN.getD k 0) = k := by
    rw [e0]
    exact m.en.idxOf_getElem k hk'
  refine ⟨m.lt _ mk, fun q _ => ⟨fun e => ?_, fun e => ?_⟩⟩
  · unfold midF at e
    by_cases c : q ∈ EN
    · rw [if_pos c] at e
      have hl : EN.idxOf q < EN.length := List.idxOf_lt_length_of_mem c
      have ei := co_nd m.nd (by rw [← m.len]; exact hl) hk e
      have : EN[EN.idxOf q] = q := List.getElem_idxOf hl
      rw [e0, ← this]
      congr 1
    · rw [if_neg c] at e
      exact absurd (e ▸ mem_co.mpr ⟨k, hk, rfl⟩ : sp q ∈ T) (m.fr q)
  · subst e
    unfold midF
    rw [if_pos mk, ix]
theorem Mid.pos {n : Nat} {T : List Int} {EN : List Nat} {sp : Nat → Int} (m : Mid n T EN sp) {k : Nat} (hk : k < T.length) : posOf ((List.range n).map (midF EN T sp)) (co T k) = [((EN.getD k 0 : Nat) : Int)] :=
  posOf_rng1 (m.at hk).1 (m.at hk).2
theorem Mid.mem {n : Nat} {T : List Int} {EN : List Nat} {sp : Nat → Int} (m : Mid n T EN sp) (v : Int) : v ∈ (List.range n).map (midF EN T sp) ↔ v ∈ T ∨ ∃ q ∈ spareN n EN, sp q = v := by
  rw [List.mem_map]
  constructor
  · rintro ⟨q, hq, rfl⟩
    have hq := List.mem_range.mp hq
    unfold midF
    by_cases c : q ∈ EN
    · rw [if_pos c]
      exact .inl (mem_co.mpr ⟨_, by rw [← m.len]; exact List.idxOf_lt_length_of_mem c, rfl⟩)
    · rw [if_neg c]
      exact .inr ⟨q, List.mem_filter.mpr ⟨List.mem_range.mpr hq, decide_eq_true c⟩, rfl⟩
  · rintro (h | ⟨q, hq, rfl⟩)
    · obtain ⟨k, hk, rfl⟩ := mem_co.mp h
      exact ⟨_, List.mem_range.mpr (m.at hk).1, ((m.at hk).2 _ (m.at hk).1).mpr rfl⟩
    · obtain ⟨h1, h2⟩ := List.mem_filter.mp hq
      refine ⟨q, h1, ?_⟩
      unfold midF
      rw [if_neg (of_decide_eq_true h2)]
theorem spare_nd (n : Nat) (EN : List Nat) : (spareN n EN).Nodup := List.nodup_range.filter _
/-- the spare points' blocks -/
theorem Mid.spare {n : Nat} {T : List Int} {EN : List Nat} {z : Str} {B : Int} (m : Mid n T EN (spF z B)) : (spL z B (spareN n EN)).map (posOf ((List.range n).map (midF EN T (spF z B)))) = spB z (spareN n EN) := by
  have key : ∀ q, q < n → ∀ v, v ∉ T → (midF EN T (spF z B) q = v ↔ q ∉ EN ∧ spF z B q = v) := fun q hq v hv => by
    unfold midF
    by_cases c : q ∈ EN
    · rw [if_pos c]
      exact ⟨fun e => absurd (e ▸ mem_co.mpr ⟨_, by rw [← m.len]; exact List.idxOf_lt_length_of_mem c, rfl⟩) hv, fun h => absurd c h.1⟩
    · rw [if_neg c]
      exact ⟨fun e => ⟨c, e⟩, fun h => h.2⟩
  unfold spL spB
  by_cases hz : z = "pairs"
  · rw [if_pos hz, if_pos hz]
    by_cases hS : spareN n EN = []
    · rw [if_pos hS, if_pos hS]
      rfl
    · rw [if_neg hS, if_neg hS, List.map_cons, List.map_nil, posOf_rng]
      have fB : ∀ q, spF z B q = B := fun q => if_pos hz
      have BT : B ∉ T := by have := m.fr 0; rwa [fB] at this
      congr 2
      refine List.filter_congr fun q hq => decide_eq_decide.mpr ?_
      rw [key q (List.mem_range.mp hq) B BT, fB]
      exact ⟨fun h => h.1, fun h => ⟨h, rfl⟩⟩
  · rw [if_neg hz, if_neg hz, List.map_map]
    refine List.map_congr_left fun q hq => ?_
    have fB : ∀ q : Nat, spF z B q = B + (q : Int) := fun q => if_neg hz
    obtain ⟨h1, h2⟩ := List.mem_filter.mp hq
    have h2 := of_decide_eq_true h2
    refine posOf_rng1 (List.mem_range.mp h1) fun p hp => ?_
    have BT : B + (q : Int) ∉ T := by have := m.fr q; rwa [fB] at this
    rw [key p hp _ BT, fB]
    exact ⟨fun h => by omega, fun h => by subst h; exact ⟨h2, rfl⟩⟩
theorem spL_mem {n : Nat} {EN : List Nat} {z : Str} {B : Int} (v : Int) : v ∈ spL z B (spareN n EN) ↔ ∃ q ∈ spareN n EN, spF z B q = v := by
  unfold spL spF
  by_cases hz : z = "pairs"
  · rw [if_pos hz]
    by_cases hS : spareN n EN = []
    · rw [if_pos hS, hS]
      exact ⟨fun h => (nomatch h), fun ⟨q, h, _⟩ => (nomatch h)⟩
    · rw [if_neg hS, List.mem_singleton]
      constructor
      · rintro rfl
        obtain ⟨q, hq⟩ := List.exists_mem_of_ne_nil _ hS
        exact ⟨q, hq, if_pos hz⟩
      · rintro ⟨q, _, e⟩
        rw [if_pos hz] at e
        exact e.symm
  · rw [if_neg hz, List.mem_map]
    constructor
    · rintro ⟨q, hq, e⟩
      exact ⟨q, hq, by rw [if_neg hz]; exact e⟩
    · rintro ⟨q, hq, e⟩
      rw [if_neg hz] at e
      exact ⟨q, hq, e⟩
theorem spL_nd {n : Nat} {EN : List Nat} {z : Str} {B : Int} : (spL z B (spareN n EN)).Nodup := by
  unfold spL
  by_cases hz : z = "pairs"
  · rw [if_pos hz]
    by_cases hS : spareN n EN = []
    · rw [if_pos hS]
      exact List.nodup_nil
    · rw [if_neg hS]
      simp
  · rw [if_neg hz]
    have nd := spare_nd n EN
    rw [List.nodup_iff_pairwise_ne] at nd ⊢
    rw [List.pairwise_map]
    exact nd.imp fun h e => h (by omega)

theorem getD_enL {t : Nat} {X E : List Int} {k : Nat} (h : k < t) : (enL t X E).getD k 0 = X.idxOf (co E k) := by
  unfold enL
  rw [List.getD_eq_getElem?_getD, List.getElem?_map, List.getElem?_range h]
  rfl
theorem mem_enL {t : Nat} {X E : List Int} {q : Nat} : q ∈ enL t X E ↔ ∃ k, k < t ∧ X.idxOf (co E k) = q := by
  unfold enL
  rw [List.mem_map]
  exact ⟨fun ⟨k, hk, e⟩ => ⟨k, List.mem_range.mp hk, e⟩, fun ⟨k, hk, e⟩ => ⟨k, List.mem_range.mpr hk, e⟩⟩
structure Ent (n : Nat) (X E T : List Int) : Prop where
  lx : X.length = n
  nd : E.Nodup
  sub : ∀ w ∈ E, w ∈ X
  nt : T.Nodup
  le : T.length ≤ E.length
theorem Ent.in {n : Nat} {X E T : List Int} (h : Ent n X E T) {k : Nat} (hk : k < T.length) : co E k ∈ X := h.sub _ (mem_co.mpr ⟨k, Nat.lt_of_lt_of_le hk h.le, rfl⟩)
theorem Ent.mid {n : Nat} {X E T : List Int} (h : Ent n X E T) {sp : Nat → Int} (fr : ∀ q, sp q ∉ T) : Mid n T (enL T.length X E) sp where
  nd := h.nt
  en := by
    rw [List.nodup_iff_pairwise_ne]
    unfold enL
    rw [List.pairwise_map]
    refine (List.nodup_iff_pairwise_ne.mp List.nodup_range).imp_of_mem fun {a b} ha hb ne e => ne ?_
    have ha := List.mem_range.mp ha
    have hb := List.mem_range.mp hb
    have e1 := (ixf_co (h.in ha)).2
    rw [e, (ixf_co (h.in hb)).2] at e1
    exact co_nd h.nd (Nat.lt_of_lt_of_le ha h.le) (Nat.lt_of_lt_of_le hb h.le) e1.symm
  len := by unfold enL; rw [List.length_map, List.length_range]
  lt := fun q hq => by
    obtain ⟨k, hk, rfl⟩ := mem_enL.mp hq
    rw [← h.lx]
    exact (ixf_co (h.in hk)).1
  fr := fr
theorem Ent.pt {n : Nat} {X E T : List Int} (h : Ent n X E T) {k : Nat} (hk : k < T.length) : co X ((enL T.length X E).getD k 0) = co E k := by
  rw [getD_enL hk]
  exact (ixf_co (h.in hk)).2
def gF (E T : List Int) (J w : Int) : Int := if w ∈ E.take T.length then co T (E.idxOf w) else J
theorem mem_take_co {E : List Int} {t : Nat} {w : Int} (ht : t ≤ E.length) : w ∈ E.take t ↔ ∃ k, k < t ∧ co E k = w := by
  rw [mem_co]
  constructor
  · rintro ⟨k, hk, e⟩
    rw [List.length_take] at hk
    exact ⟨k, by omega, by rw [← e, co_takeB (by omega)]⟩
  · rintro ⟨k, hk, e⟩
    exact ⟨k, by rw [List.length_take]; omega, by rw [co_takeB hk]; exact e⟩
theorem Ent.g {n : Nat} {X E T : List Int} (h : Ent n X E T) {J : Int} {k : Nat} (hk : k < T.length) : gF E T J (co E k) = co T k := by
  unfold gF
  rw [if_pos ((mem_take_co h.le).mpr ⟨k, hk, rfl⟩), idx_nd h.nd (Nat.lt_of_lt_of_le hk h.le)]
theorem Ent.gEn {n : Nat} {X E T : List Int} (h : Ent n X E T) {sp : Nat → Int} {J : Int} (fr : ∀ q, sp q ∉ T) {q : Nat} (hq : q ∈ enL T.length X E) : gF E T J (co X q) = midF (enL T.length X E) T sp q ∧ midF (enL T.length X E) T sp q ∈ T := by
  have m := h.mid fr
  obtain ⟨k, hk, rfl⟩ := mem_enL.mp hq
  have e := (m.at hk).2 _ (m.at hk).1
  rw [getD_enL hk] at e
  rw [e.mpr rfl, (ixf_co (h.in hk)).2, h.g hk]
  exact ⟨rfl, mem_co.mpr ⟨k, hk, rfl⟩⟩
theorem Ent.gSp {n : Nat} {X E T : List Int} (h : Ent n X E T) {J : Int} (one : ∀ w ∈ E, X.count w = 1) {q : Nat} (hq : q < n) (nq : q ∉ enL T.length X E) : gF E T J (co X q) = J := by
  unfold gF
  rw [if_neg fun z => ?_]
  obtain ⟨k, hk, e⟩ := (mem_take_co h.le).mp z
  refine nq (mem_enL.mpr ⟨k, hk, ?_⟩)
  have c1 := one (co E k) (mem_co.mpr ⟨k, Nat.lt_of_lt_of_le hk h.le, rfl⟩)
  obtain ⟨i1, i2⟩ := ixf_co (h.in hk)
  rw [← posOf_len] at c1
  have two : ∀ p, p < X.length → co X p = co E k → ((p : Nat) : Int) ∈ posOf X (co E k) := fun p hp e => List.mem_map.mpr ⟨p, List.mem_filter.mpr ⟨List.mem_range.mpr hp, decide_eq_true e⟩, rfl⟩
  have a := two _ i1 i2
  have b := two q (by rw [h.lx]; exact hq) e.symm
  match hl : posOf X (co E k), c1 with
  | [x], _ =>
    rw [hl, List.mem_singleton] at a b
    omega
section
variable {n : Nat} {l1 l2 : List Int} {z : Str} {B : Int}
/-- what stands below in the first, above in the last -/
def midL (n : Nat) (X E T : List Int) (z : Str) (B : Int) : List Int := (List.range n).map (midF (enL T.length X E) T (spF z B))
theorem midL_len {X E T : List Int} : (midL n X E T z B).length = n := by unfold midL; rw [List.length_map, List.length_range]
theorem midL_co {X E T : List Int} {q : Nat} (h : q < n) : co (midL n X E T z B) q = midF (enL T.length X E) T (spF z B) q := co_range h
def luL (n : Nat) (l1 l2 : List Int) (z : Str) (B : Int) : List Int := l1.take n ++ midL n (l2.take n) (endT n l2) (endT n l1) z B
def lvL (n : Nat) (l1 l2 : List Int) (z : Str) (B : Int) : List Int := midL n (l2.drop n) (endT n l2) (endT n l1) z B ++ l1.drop n
theorem ent_u (h2 : l2.length = n + n) (tt : (endT n l1).length ≤ (endT n l2).length) : Ent n (l2.take n) (endT n l2) (endT n l1) := ⟨by rw [List.length_take]; omega, endT_nd n l2, fun w hw => (mem_endT.mp hw).1, endT_nd n l1, tt⟩
theorem ent_v (h2 : l2.length = n + n) (tt : (endT n l1).length ≤ (endT n l2).length) : Ent n (l2.drop n) (endT n l2) (endT n l1) := ⟨by rw [List.length_drop]; omega, endT_nd n l2, fun w hw => (mem_endT.mp hw).2, endT_nd n l1, tt⟩
theorem spF_ge (z : Str) (B : Int) (q : Nat) : B ≤ spF z B q := by
  unfold spF
  split <;> omega
theorem T_sub {w : Int} (h : w ∈ endT n l1) : w ∈ l1 := List.mem_of_mem_take (mem_endT.mp h).1
theorem fresh_T (fr : ∀ x ∈ l1, x < B) (q : Nat) : spF z B q ∉ endT n l1 := fun h => by
  have := fr _ (T_sub h)
  have := spF_ge z B q
  omega
theorem co_appL {a b : List Int} {i : Nat} (h : i < a.length) : co (a ++ b) i = co a i := by rw [co_app2, if_pos h]
theorem co_appR {a b : List Int} {i : Nat} : co (a ++ b) (a.length + i) = co b i := by rw [co_app2, if_neg (by omega), Nat.add_sub_cancel_left]
theorem led_is (h1 : l1.length = n + n) (h2 : l2.length = n + n) (tt : (endT n l1).length ≤ (endT n l2).length) (fr : ∀ x ∈ l1, x < B)
    (one : z = "pairs" → ∀ w ∈ endT n l2, (l2.take n).count w = 1 ∧ (l2.drop n).count w = 1) :
    (luL n l1 l2 z B).length = n + n ∧ (lvL n l1 l2 z B).length = n + n ∧ blocksOf (putS n n n (putS n n n (luL n l1 l2 z B) l2) (lvL n l1 l2 z B)) = blocksOf l1 := by
  have lt : (l1.take n).length = n := by rw [List.length_take]; omega
  have ld : (l1.drop n).length = n := by rw [List.length_drop]; omega
  have hu : (luL n l1 l2 z B).length = n + n := by unfold luL; rw [List.length_append, lt, midL_len]
  have hv : (lvL n l1 l2 z B).length = n + n := by unfold lvL; rw [List.length_append, ld, midL_len]
  have U := ent_u h2 tt
  have V := ent_v h2 tt
  have frT := fresh_T (z := z) (n := n) fr
  have mU := U.mid frT
  have mV := V.mid frT
  have u1 : ∀ i, i < n → co (luL n l1 l2 z B) i = co l1 i := fun i hi => by
    unfold luL
    rw [co_appL (by omega), co_takeB hi]
  have u2 : ∀ q, q < n → co (luL n l1 l2 z B) (n + q) = midF (enL (endT n l1).length (l2.take n) (endT n l2)) (endT n l1) (spF z B) q := fun q hq => by
    have := co_appR (a := l1.take n) (b := midL n (l2.take n) (endT n l2) (endT n l1) z B) (i := q)
    rw [lt] at this
    unfold luL
    rw [this, midL_co hq]
  have v1 : ∀ q, q < n → co (lvL n l1 l2 z B) q = midF (enL (endT n l1).length (l2.drop n) (endT n l2)) (endT n l1) (spF z B) q := fun q hq => by
    unfold lvL
    rw [co_appL (by rw [midL_len]; exact hq), midL_co hq]
  have v2 : ∀ j, j < n → co (lvL n l1 l2 z B) (n + j) = co l1 (n + j) := fun j hj => by
    have := co_appR (a := midL n (l2.drop n) (endT n l2) (endT n l1) z B) (b := l1.drop n) (i := j)
    rw [midL_len] at this
    unfold lvL
    rw [this, co_drop]
  have cX : ∀ q, q < n → co (l2.take n) q = co l2 q := fun q hq => co_takeB hq
  have cY : ∀ q, co (l2.drop n) q = co l2 (n + q) := fun q => co_drop ..
  have inl : ∀ i, i < n + n → co l1 i ∈ l1 := fun i hi => mem_co.mpr ⟨i, by omega, rfl⟩
  -- colours of the points in the middle, above and below
  have mixU : ∀ q q', q < n → q' < n → midF (enL (endT n l1).length (l2.take n) (endT n l2)) (endT n l1) (spF z B) q = midF (enL (endT n l1).length (l2.take n) (endT n l2)) (endT n l1) (spF z B) q' → gF (endT n l2) (endT n l1) B (co l2 q) = gF (endT n l2) (endT n l1) B (co l2 q') := fun q q' hq hq' e => by
    rw [← cX q hq, ← cX q' hq']
    by_cases c : q ∈ enL (endT n l1).length (l2.take n) (endT n l2)
    · obtain ⟨a1, a2⟩ := U.gEn (sp := spF z B) (J := B) frT c
      by_cases c' : q' ∈ enL (endT n l1).length (l2.take n) (endT n l2)
      · obtain ⟨b1, b2⟩ := U.gEn (sp := spF z B) (J := B) frT c'
        rw [a1, b1, e]
      · rw [e] at a2
        unfold midF at a2
        rw [if_neg c'] at a2
        exact absurd a2 (frT q')
    · by_cases c' : q' ∈ enL (endT n l1).length (l2.take n) (endT n l2)
      · obtain ⟨b1, b2⟩ := U.gEn (sp := spF z B) (J := B) frT c'
        rw [← e] at b2
        unfold midF at b2
        rw [if_neg c] at b2
        exact absurd b2 (frT q)
      · unfold midF at e
        rw [if_neg c, if_neg c'] at e
        unfold spF at e
        by_cases hz : z = "pairs"
        · rw [U.gSp (fun w hw => (one hz w hw).1) hq c, U.gSp (fun w hw => (one hz w hw).1) hq' c']
        · rw [if_neg hz, if_neg hz] at e
          obtain rfl : q = q' := by omega
          rfl
  have mixV : ∀ q q', q < n → q' < n → midF (enL (endT n l1).length (l2.drop n) (endT n l2)) (endT n l1) (spF z B) q = midF (enL (endT n l1).length (l2.drop n) (endT n l2)) (endT n l1) (spF z B) q' → gF (endT n l2) (endT n l1) B (co l2 (n + q)) = gF (endT n l2) (endT n l1) B (co l2 (n + q')) := fun q q' hq hq' e => by
    rw [← cY q, ← cY q']
    by_cases c : q ∈ enL (endT n l1).length (l2.drop n) (endT n l2)
    · obtain ⟨a1, a2⟩ := V.gEn (sp := spF z B) (J := B) frT c
      by_cases c' : q' ∈ enL (endT n l1).length (l2.drop n) (endT n l2)
      · obtain ⟨b1, b2⟩ := V.gEn (sp := spF z B) (J := B) frT c'
        rw [a1, b1, e]
      · rw [e] at a2
        unfold midF at a2
        rw [if_neg c'] at a2
        exact absurd a2 (frT q')
    · by_cases c' : q' ∈ enL (endT n l1).length (l2.drop n) (endT n l2)
      · obtain ⟨b1, b2⟩ := V.gEn (sp := spF z B) (J := B) frT c'
        rw [← e] at b2
        unfold midF at b2
        rw [if_neg c] at b2
        exact absurd b2 (frT q)
      · unfold midF at e
        rw [if_neg c, if_neg c'] at e
        unfold spF at e
        by_cases hz : z = "pairs"
        · rw [V.gSp (fun w hw => (one hz w hw).2) hq c, V.gSp (fun w hw => (one hz w hw).2) hq' c']
        · rw [if_neg hz, if_neg hz] at e
          obtain rfl : q = q' := by omega
          rfl
  have oneU : ∀ i q, i < n + n → q < n → co l1 i = midF (enL (endT n l1).length (l2.take n) (endT n l2)) (endT n l1) (spF z B) q → co l1 i = gF (endT n l2) (endT n l1) B (co l2 q) := fun i q hi hq e => by
    by_cases c : q ∈ enL (endT n l1).length (l2.take n) (endT n l2)
    · rw [← cX q hq, (U.gEn (sp := spF z B) (J := B) frT c).1, e]
    · unfold midF at e
      rw [if_neg c] at e
      have := fr _ (inl i hi)
      have := spF_ge z B q
      omega
  have oneV : ∀ i q, i < n + n → q < n → co l1 i = midF (enL (endT n l1).length (l2.drop n) (endT n l2)) (endT n l1) (spF z B) q → co l1 i = gF (endT n l2) (endT n l1) B (co l2 (n + q)) := fun i q hi hq e => by
    by_cases c : q ∈ enL (endT n l1).length (l2.drop n) (endT n l2)
    · rw [← cY q, (V.gEn (sp := spF z B) (J := B) frT c).1, e]
    · unfold midF at e
      rw [if_neg c] at e
      have := fr _ (inl i hi)
      have := spF_ge z B q
      omega
  refine ⟨hu, hv, lead_put h1 h2 hu hv (gF (endT n l2) (endT n l1) B) u1 (fun i j hi hj e => ?_) v2 (fun i j hi hj e => ?_) (fun i j hi hj e => ?_)⟩
  · by_cases ci : i < n
    · by_cases cj : j < n
      · rw [if_pos ci, if_pos cj, ← u1 i ci, ← u1 j cj]
        exact e
      · obtain ⟨q, rfl⟩ : ∃ q, j = n + q := ⟨j - n, by omega⟩
        rw [u1 i ci, u2 q (by omega)] at e
        rw [if_pos ci, if_neg cj, Nat.add_sub_cancel_left]
        exact oneU i q hi (by omega) e
    · obtain ⟨p, rfl⟩ : ∃ p, i = n + p := ⟨i - n, by omega⟩
      by_cases cj : j < n
      · rw [u1 j cj, u2 p (by omega)] at e
        rw [if_neg ci, if_pos cj, Nat.add_sub_cancel_left]
        exact (oneU j p hj (by omega) e.symm).symm
      · obtain ⟨q, rfl⟩ : ∃ q, j = n + q := ⟨j - n, by omega⟩
        rw [u2 p (by omega), u2 q (by omega)] at e
        rw [if_neg ci, if_neg cj, Nat.add_sub_cancel_left, Nat.add_sub_cancel_left]
        exact mixU p q (by omega) (by omega) e
  · by_cases ci : i < n
    · by_cases cj : j < n
      · rw [v1 i ci, v1 j cj] at e
        rw [if_pos ci, if_pos cj]
        exact mixV i j ci cj e
      · obtain ⟨q, rfl⟩ : ∃ q, j = n + q := ⟨j - n, by omega⟩
        rw [v1 i ci, v2 q (by omega)] at e
        rw [if_pos ci, if_neg cj]
        exact (oneV (n + q) i hj ci e.symm).symm
    · obtain ⟨p, rfl⟩ : ∃ p, i = n + p := ⟨i - n, by omega⟩
      by_cases cj : j < n
      · rw [v1 j cj, v2 p (by omega)] at e
        rw [if_neg ci, if_pos cj]
        exact oneV (n + p) j hi cj e
      · obtain ⟨q, rfl⟩ : ∃ q, j = n + q := ⟨j - n, by omega⟩
        rw [v2 p (by omega), v2 q (by omega)] at e
        rw [if_neg ci, if_neg cj]
        exact e
  · obtain ⟨k, hk, ek⟩ := mem_co.mp ((mem_thr h1).mpr ⟨i, j, hi, hj, rfl, e.symm⟩)
    have aU := mU.at hk
    have aV := mV.at hk
    refine ⟨(enL (endT n l1).length (l2.take n) (endT n l2)).getD k 0, (enL (endT n l1).length (l2.drop n) (endT n l2)).getD k 0, aU.1, aV.1, ?_, ?_, ?_⟩
    · rw [u2 _ aU.1, (aU.2 _ aU.1).mpr rfl, u1 i hi, ek]
    · rw [← cX _ aU.1, ← cY, U.pt hk, V.pt hk]
    · rw [v1 _ aV.1, (aV.2 _ aV.1).mpr rfl, v2 j hj, ek, e]
end

section
variable {n : Nat} {l1 l2 : List Int} {z : Str} {B : Int}
def onlyT (n : Nat) (l : List Int) : List Int := (seenL [] (l.take n)).filter fun v => decide (v ∉ l.drop n)
theorem mem_onlyT {l : List Int} {v : Int} : v ∈ onlyT n l ↔ v ∈ l.take n ∧ v ∉ l.drop n := by
  unfold onlyT
  rw [List.mem_filter, seen_in]
  exact ⟨fun h => ⟨h.1, of_decide_eq_true h.2⟩, fun h => ⟨h.1, decide_eq_true h.2⟩⟩
theorem onlyT_nd (l : List Int) : (onlyT n l).Nodup := (seenL_nodup _ [] List.nodup_nil).filter _
theorem onlyR_nd (l : List Int) : (onlyR n l).Nodup := (seenL_nodup _ [] List.nodup_nil).filter _
/-- the blocks of the first, as they are listed -/
def ledU (n : Nat) (l1 : List Int) (EN : List Nat) (z : Str) : List (List Int) := ((List.range (endT n l1).length).map fun k : Nat => posOf (l1.take n) (co (endT n l1) k) ++ [((n + EN.getD k 0 : Nat) : Int)]) ++ (onlyT n l1).map (posOf (l1.take n)) ++ (spB z (spareN n EN)).map (shiftB n)
def ledV (n : Nat) (l1 : List Int) (EN : List Nat) (z : Str) : List (List Int) := ((List.range (endT n l1).length).map fun k : Nat => ((EN.getD k 0 : Nat) : Int) :: shiftB n (posOf (l1.drop n) (co (endT n l1) k))) ++ (onlyR n l1).map (fun v => shiftB n (posOf (l1.drop n) v)) ++ spB z (spareN n EN)
theorem midL_mem {X E : List Int} (h : Ent n X E (endT n l1)) (fr : ∀ x ∈ l1, x < B) (v : Int) : v ∈ midL n X E (endT n l1) z B ↔ v ∈ endT n l1 ∨ v ∈ spL z B (spareN n (enL (endT n l1).length X E)) := by
  unfold midL
  rw [(h.mid (fresh_T (z := z) fr)).mem, spL_mem]
theorem spL_fresh (fr : ∀ x ∈ l1, x < B) {EN : List Nat} {v : Int} (h : v ∈ spL z B (spareN n EN)) : v ∉ l1 := fun c => by
  obtain ⟨q, _, rfl⟩ := (spL_mem v).mp h
  have := fr _ c
  have := spF_ge z B q
  omega
theorem u_blocks (h1 : l1.length = n + n) (h2 : l2.length = n + n) (tt : (endT n l1).length ≤ (endT n l2).length) (fr : ∀ x ∈ l1, x < B) :
    (ledU n l1 (enL (endT n l1).length (l2.take n) (endT n l2)) z).mergeSort leB = blocksOf (luL n l1 l2 z B) := by
  have lt : (l1.take n).length = n := by rw [List.length_take]; omega
  have U := ent_u h2 tt
  have mU := U.mid (fresh_T (z := z) (n := n) fr)
  have pm : ∀ v, v ∉ endT n l1 → v ∉ spL z B (spareN n (enL (endT n l1).length (l2.take n) (endT n l2))) → posOf (midL n (l2.take n) (endT n l2) (endT n l1) z B) v = [] := fun v a b => posOf_nil fun c => ((midL_mem U fr v).mp c).elim a b
  have e : ledU n l1 (enL (endT n l1).length (l2.take n) (endT n l2)) z = (endT n l1 ++ onlyT n l1 ++ spL z B (spareN n (enL (endT n l1).length (l2.take n) (endT n l2)))).map (posOf (luL n l1 l2 z B)) := by
    unfold ledU
    rw [List.map_append, List.map_append]
    congr 1
    · congr 1
      · refine over_range fun k hk => ?_
        unfold luL
        rw [posOf_app, lt, show posOf (midL n (l2.take n) (endT n l2) (endT n l1) z B) (co (endT n l1) k) = _ from mU.pos hk]
        show _ = _ ++ [((enL (endT n l1).length (l2.take n) (endT n l2)).getD k 0 : Int) + (n : Int)]
        rw [Int.natCast_add, Int.add_comm]
      · refine List.map_congr_left fun v hv => ?_
        obtain ⟨a, b⟩ := mem_onlyT.mp hv
        unfold luL
        rw [posOf_app, pm v (fun c => b (mem_endT.mp c).2) (fun c => spL_fresh fr c (List.mem_of_mem_take a))]
        exact (List.append_nil _).symm
    · rw [← mU.spare, List.map_map]
      refine List.map_congr_left fun v hv => ?_
      unfold luL
      rw [posOf_app, posOf_nil (l := l1.take n) (fun c => spL_fresh fr hv (List.mem_of_mem_take c)), lt]
      rfl
  rw [e]
  refine sort_blocks ?_ fun v => ?_
  · rw [List.nodup_append, List.nodup_append]
    refine ⟨⟨endT_nd n l1, onlyT_nd l1, fun a ha b hb e => ?_⟩, spL_nd, fun a ha b hb e => ?_⟩
    · subst e
      exact (mem_onlyT.mp hb).2 (mem_endT.mp ha).2
    · subst e
      rcases List.mem_append.mp ha with ha | ha
      · exact spL_fresh fr hb (T_sub ha)
      · exact spL_fresh fr hb (List.mem_of_mem_take (mem_onlyT.mp ha).1)
  · unfold luL
    rw [List.mem_append, List.mem_append, List.mem_append, midL_mem U fr, mem_onlyT]
    constructor
    · rintro ((a | a) | a)
      · exact .inl (mem_endT.mp a).1
      · exact .inl a.1
      · exact .inr (.inr a)
    · rintro (a | a | a)
      · by_cases c : v ∈ l1.drop n
        · exact .inl (.inl (mem_endT.mpr ⟨a, c⟩))
        · exact .inl (.inr ⟨a, c⟩)
      · exact .inl (.inl a)
      · exact .inr a
theorem v_blocks (h1 : l1.length = n + n) (h2 : l2.length = n + n) (tt : (endT n l1).length ≤ (endT n l2).length) (fr : ∀ x ∈ l1, x < B) :
    (ledV n l1 (enL (endT n l1).length (l2.drop n) (endT n l2)) z).mergeSort leB = blocksOf (lvL n l1 l2 z B) := by
  have U := ent_v h2 tt
  have mU := U.mid (fresh_T (z := z) (n := n) fr)
  have pm : ∀ v, v ∉ endT n l1 → v ∉ spL z B (spareN n (enL (endT n l1).length (l2.drop n) (endT n l2))) → posOf (midL n (l2.drop n) (endT n l2) (endT n l1) z B) v = [] := fun v a b => posOf_nil fun c => ((midL_mem U fr v).mp c).elim a b
  have e : ledV n l1 (enL (endT n l1).length (l2.drop n) (endT n l2)) z = (endT n l1 ++ onlyR n l1 ++ spL z B (spareN n (enL (endT n l1).length (l2.drop n) (endT n l2)))).map (posOf (lvL n l1 l2 z B)) := by
    unfold ledV
    rw [List.map_append, List.map_append]
    congr 1
    · congr 1
      · refine over_range fun k hk => ?_
        unfold lvL
        rw [posOf_app, midL_len, show posOf (midL n (l2.drop n) (endT n l2) (endT n l1) z B) (co (endT n l1) k) = _ from mU.pos hk]
        rfl
      · refine List.map_congr_left fun v hv => ?_
        obtain ⟨a, b⟩ := mem_onlyR.mp hv
        unfold lvL
        rw [posOf_app, midL_len, pm v (fun c => b (mem_endT.mp c).1) (fun c => spL_fresh fr c (List.mem_of_mem_drop a))]
        rfl
    · rw [← mU.spare]
      refine List.map_congr_left fun v hv => ?_
      unfold lvL
      rw [posOf_app, posOf_nil (l := l1.drop n) (fun c => spL_fresh fr hv (List.mem_of_mem_drop c))]
      exact (List.append_nil _).symm
  rw [e]
  refine sort_blocks ?_ fun v => ?_
  · rw [List.nodup_append, List.nodup_append]
    refine ⟨⟨endT_nd n l1, onlyR_nd l1, fun a ha b hb e => ?_⟩, spL_nd, fun a ha b hb e => ?_⟩
    · subst e
      exact (mem_onlyR.mp hb).2 (mem_endT.mp ha).1
    · subst e
      rcases List.mem_append.mp ha with ha | ha
      · exact spL_fresh fr hb (T_sub ha)
      · exact spL_fresh fr hb (List.mem_of_mem_drop (mem_onlyR.mp ha).1)
  · unfold lvL
    rw [List.mem_append, List.mem_append, List.mem_append, midL_mem U fr, mem_onlyR]
    constructor
    · rintro ((a | a) | a)
      · exact .inr (mem_endT.mp a).2
      · exact .inr a.1
      · exact .inl (.inr a)
    · rintro ((a | a) | a)
      · exact .inl (.inl a)
      · exact .inr a
      · by_cases c : v ∈ l1.take n
        · exact .inl (.inl (mem_endT.mpr ⟨c, a⟩))
        · exact .inl (.inr ⟨a, c⟩)
/-! families -/
theorem mid_count {X E : List Int} (h : Ent n X E (endT n l1)) (fr : ∀ x ∈ l1, x < B) {w : Int} (hw : w ∈ l1) : (midL n X E (endT n l1) z B).count w = if w ∈ endT n l1 then 1 else 0 := by
  have m := h.mid (fresh_T (z := z) (n := n) fr)
  by_cases c : w ∈ endT n l1
  · rw [if_pos c, ← posOf_len]
    obtain ⟨k, hk, rfl⟩ := mem_co.mp c
    unfold midL
    rw [m.pos hk]
    rfl
  · rw [if_neg c]
    refine List.count_eq_zero.mpr fun z => ?_
    rcases (midL_mem h fr w).mp z with a | a
    · exact c a
    · exact spL_fresh fr a hw
theorem mid_count_sp {X E : List Int} (h : Ent n X E (endT n l1)) (fr : ∀ x ∈ l1, x < B) (pr : z = "pairs" → (spareN n (enL (endT n l1).length X E)).length = 0 ∨ (spareN n (enL (endT n l1).length X E)).length = 2) {w : Int} (hw : w ∈ spL z B (spareN n (enL (endT n l1).length X E))) :
    (midL n X E (endT n l1) z B).count w = if z = "pairs" then 2 else 1 := by
  have m := h.mid (fresh_T (z := z) (n := n) fr)
  rw [← posOf_len]
  have mm : posOf (midL n X E (endT n l1) z B) w ∈ spB z (spareN n (enL (endT n l1).length X E)) := by
    rw [← m.spare]
    exact List.mem_map.mpr ⟨w, hw, rfl⟩
  unfold spB at mm
  by_cases hz : z = "pairs"
  · rw [if_pos hz] at mm ⊢
    by_cases hS : spareN n (enL (endT n l1).length X E) = []
    · rw [if_pos hS] at mm
      exact nomatch mm
    · rw [if_neg hS, List.mem_singleton] at mm
      rw [mm, List.length_map]
      rcases pr hz with a | a
      · exact absurd (List.length_eq_zero_iff.mp a) hS
      · exact a
  · rw [if_neg hz] at mm ⊢
    obtain ⟨q, _, e⟩ := List.mem_map.mp mm
    rw [← e]
    rfl
theorem okUD_sp (z : Str) (hz : z ≠ "even") (th : z ≠ "threads") : okUD z 0 (if z = "pairs" then 2 else 1) ∧ okUD z (if z = "pairs" then 2 else 1) 0 := by
  by_cases c : z = "pairs"
  · subst c
    exact ⟨⟨fun x => absurd x th, fun x => absurd x (by decide), fun _ => .inl rfl, fun x => absurd x (by decide), fun x => absurd x hz⟩, ⟨fun x => absurd x th, fun x => absurd x (by decide), fun _ => .inl rfl, fun x => absurd x (by decide), fun x => absurd x hz⟩⟩
  · rw [if_neg c]
    exact ⟨⟨fun x => absurd x th, fun _ => ⟨by decide, by decide⟩, fun x => absurd x c, fun _ => by decide, fun x => absurd x hz⟩, ⟨fun x => absurd x th, fun _ => ⟨by decide, by decide⟩, fun x => absurd x c, fun _ => by decide, fun x => absurd x hz⟩⟩
theorem fam_u (h1 : l1.length = n + n) (h2 : l2.length = n + n) (tt : (endT n l1).length ≤ (endT n l2).length) (fr : ∀ x ∈ l1, x < B) (hz : z ≠ "even") (f : inFam z n (blocksOf l1) = true)
    (th : z = "threads" → spareN n (enL (endT n l1).length (l2.take n) (endT n l2)) = []) (pr : z = "pairs" → (spareN n (enL (endT n l1).length (l2.take n) (endT n l2))).length = 0 ∨ (spareN n (enL (endT n l1).length (l2.take n) (endT n l2))).length = 2) :
    inFam z n (blocksOf (luL n l1 l2 z B)) = true := by
  have lt : (l1.take n).length = n := by rw [List.length_take]; omega
  have U := ent_u h2 tt
  have c1 : (luL n l1 l2 z B).take n = l1.take n := List.take_left' lt
  have c2 : (luL n l1 l2 z B).drop n = midL n (l2.take n) (endT n l2) (endT n l1) z B := List.drop_left' lt
  rw [fam_cnt (by unfold luL; rw [List.length_append, lt]; omega)]
  intro w hw
  rw [c1, c2]
  by_cases ct : w ∈ l1.take n
  · have o := (fam_cnt (by omega)).mp f w (List.mem_of_mem_take ct)
    rw [mid_count U fr (List.mem_of_mem_take ct)]
    have := okUD_u hz (List.one_le_count_iff.mpr ct) o
    by_cases cd : w ∈ l1.drop n
    · rw [if_pos (mem_endT.mpr ⟨ct, cd⟩)]
      rwa [if_neg (by have := List.one_le_count_iff.mpr cd; omega)] at this
    · rw [if_neg (fun c => cd (mem_endT.mp c).2)]
      rwa [if_pos (List.count_eq_zero.mpr cd)] at this
  · have sp : w ∈ spL z B (spareN n (enL (endT n l1).length (l2.take n) (endT n l2))) := by
      rcases List.mem_append.mp (show w ∈ l1.take n ++ midL n (l2.take n) (endT n l2) (endT n l1) z B from hw) with a | a
      · exact absurd a ct
      · rcases (midL_mem U fr w).mp a with b | b
        · exact absurd (mem_endT.mp b).1 ct
        · exact b
    rw [List.count_eq_zero.mpr ct, mid_count_sp U fr pr sp]
    refine (okUD_sp z hz fun t => ?_).1
    rw [th t] at sp
    obtain ⟨q, hq, _⟩ := spL_mem (n := n) (EN := enL (endT n l1).length (l2.take n) (endT n l2)) (z := z) (B := B) w |>.mp (by rw [th t]; exact sp)
    rw [th t] at hq
    exact nomatch hq
theorem fam_v (h1 : l1.length = n + n) (h2 : l2.length = n + n) (tt : (endT n l1).length ≤ (endT n l2).length) (fr : ∀ x ∈ l1, x < B) (hz : z ≠ "even") (f : inFam z n (blocksOf l1) = true)
    (th : z = "threads" → spareN n (enL (endT n l1).length (l2.drop n) (endT n l2)) = []) (pr : z = "pairs" → (spareN n (enL (endT n l1).length (l2.drop n) (endT n l2))).length = 0 ∨ (spareN n (enL (endT n l1).length (l2.drop n) (endT n l2))).length = 2) :
    inFam z n (blocksOf (lvL n l1 l2 z B)) = true := by
  have U := ent_v h2 tt
  have c1 : (lvL n l1 l2 z B).take n = midL n (l2.drop n) (endT n l2) (endT n l1) z B := List.take_left' midL_len
  have c2 : (lvL n l1 l2 z B).drop n = l1.drop n := List.drop_left' midL_len
  rw [fam_cnt (by unfold lvL; rw [List.length_append, midL_len]; omega)]
  intro w hw
  rw [c1, c2]
  by_cases ct : w ∈ l1.drop n
  · have o := (fam_cnt (by omega)).mp f w (List.mem_of_mem_drop ct)
    rw [mid_count U fr (List.mem_of_mem_drop ct)]
    have := okUD_d hz (List.one_le_count_iff.mpr ct) o
    by_cases cd : w ∈ l1.take n
    · rw [if_pos (mem_endT.mpr ⟨cd, ct⟩)]
      rwa [if_neg (by have := List.one_le_count_iff.mpr cd; omega)] at this
    · rw [if_neg (fun c => cd (mem_endT.mp c).1)]
      rwa [if_pos (List.count_eq_zero.mpr cd)] at this
  · have sp : w ∈ spL z B (spareN n (enL (endT n l1).length (l2.drop n) (endT n l2))) := by
      rcases List.mem_append.mp (show w ∈ midL n (l2.drop n) (endT n l2) (endT n l1) z B ++ l1.drop n from hw) with a | a
      · rcases (midL_mem U fr w).mp a with b | b
        · exact absurd (mem_endT.mp b).2 ct
        · exact b
      · exact absurd a ct
    rw [List.count_eq_zero.mpr ct, mid_count_sp U fr pr sp]
    refine (okUD_sp z hz fun t => ?_).2
    obtain ⟨q, hq, _⟩ := (spL_mem (n := n) (EN := enL (endT n l1).length (l2.drop n) (endT n l2)) (z := z) (B := B) w).mp sp
    rw [th t] at hq
    exact nomatch hq
end

theorem fresh_B (l : List Int) : ∃ B : Int, ∀ x ∈ l, x < B := by
  induction l with
  | nil => exact ⟨0, fun x h => nomatch h⟩
  | cons a l ih =>
    obtain ⟨B, h⟩ := ih
    refine ⟨max B (a + 1), fun x hx => ?_⟩
    rcases List.mem_cons.mp hx with rfl | hx
    · omega
    · have := h x hx
      omega
theorem Mid.spare_len {n : Nat} {T : List Int} {EN : List Nat} {sp : Nat → Int} (m : Mid n T EN sp) : (spareN n EN).length + T.length = n := by
  have a : ((List.range n).filter fun q => decide (q ∈ EN)).length = EN.length :=
    ((List.perm_ext_iff_of_nodup (List.nodup_range.filter _) m.en).mpr fun q => by
      rw [List.mem_filter, List.mem_range]
      exact ⟨fun h => of_decide_eq_true h.2, fun h => ⟨m.lt q h, decide_eq_true h⟩⟩).length_eq
  have b := List.length_eq_countP_add_countP (l := List.range n) (p := fun q => decide (q ∈ EN))
  rw [List.countP_eq_length_filter, a, List.length_range, List.countP_eq_length_filter, m.len] at b
  have c : ((List.range n).filter fun q => decide (¬ (decide (q ∈ EN)) = true)).length = (spareN n EN).length := by
    unfold spareN
    congr 1
    refine List.filter_congr fun q _ => ?_
    by_cases h : q ∈ EN
    · simp [h]
    · simp [h]
  rw [c] at b
  omega
section
variable {n : Nat} {l : List Int} {z : Str}
theorem T_perm {S : List Int} (nd : S.Nodup) (h : ∀ v, v ∈ S ↔ v ∈ l.take n ∧ v ∈ l.drop n) : (endT n l).length = S.length :=
  ((List.perm_ext_iff_of_nodup (endT_nd n l) nd).mpr fun v => mem_endT.trans (h v).symm).length_eq
theorem T_threads (h : l.length = n + n) (f : inFam "threads" n (blocksOf l) = true) : (endT n l).length = n := by
  have o := (fam_cnt (z := "threads") (n := n) (l := l) (by omega)).mp f
  have c1 : ∀ w ∈ l.take n, (l.take n).count w = 1 ∧ (l.drop n).count w = 1 := fun w hw => by
    have := (o w (List.mem_of_mem_take hw)).1 rfl
    have := List.one_le_count_iff.mpr hw
    omega
  have nd : (l.take n).Nodup := by
    rw [List.nodup_iff_count]
    intro a
    by_cases c : a ∈ l.take n
    · exact Nat.le_of_eq (c1 a c).1
    · rw [List.count_eq_zero.mpr c]
      exact Nat.zero_le _
  rw [T_perm (S := l.take n) nd fun v => ⟨fun h => ⟨h, List.one_le_count_iff.mp (by rw [(c1 v h).2]; exact Nat.le_refl _)⟩, fun h => h.1⟩, List.length_take]
  omega
theorem one_pairs (h : l.length = n + n) (f : inFam "pairs" n (blocksOf l) = true) : ∀ w ∈ endT n l, (l.take n).count w = 1 ∧ (l.drop n).count w = 1 := fun w hw => by
  obtain ⟨a, b⟩ := mem_endT.mp hw
  have := ((fam_cnt (z := "pairs") (n := n) (l := l) (by omega)).mp f w (List.mem_of_mem_take a)).2.2.1 rfl
  have := List.one_le_count_iff.mpr a
  have := List.one_le_count_iff.mpr b
  omega
theorem T_pairs (h : l.length = n + n) (n3 : n ≤ 3) (f : inFam "pairs" n (blocksOf l) = true) : (endT n l).length = n ∨ (endT n l).length + 2 = n := by
  have o := (fam_cnt (z := "pairs") (n := n) (l := l) (by omega)).mp f
  have c : ∀ w ∈ l.take n, ((l.take n).count w = 1 ∧ w ∈ l.drop n) ∨ ((l.take n).count w = 2 ∧ w ∉ l.drop n) := fun w hw => by
    have a := (o w (List.mem_of_mem_take hw)).2.2.1 rfl
    have b := List.one_le_count_iff.mpr hw
    by_cases d : w ∈ l.drop n
    · have := List.one_le_count_iff.mpr d
      exact .inl ⟨by omega, d⟩
    · rw [List.count_eq_zero.mpr d] at a
      exact .inr ⟨by omega, d⟩
  have lt : (l.take n).length = n := by rw [List.length_take]; omega
  have tp := fun (S : List Int) => T_perm (n := n) (l := l) (S := S)
  generalize l.take n = X at *
  generalize l.drop n = D at *
  match X, lt with
  | [], e =>
    have := tp [] List.nodup_nil (fun v => by simp)
    exact .inl (by rw [this]; exact e)
  | [a], e =>
    have ca := c a (.head _)
    have : a ∈ D := by
      rcases ca with h | h
      · exact h.2
      · simp at h
    have := tp [a] (by simp) (fun v => by simp; intro e; rw [e]; exact this)
    exact .inl (by rw [this]; exact e)
  | [a, b], e =>
    by_cases ab : a = b
    · subst ab
      have ca := c a (.head _)
      have : a ∉ D := by
        rcases ca with h | h
        · simp at h
        · exact h.2
      have := tp [] List.nodup_nil (fun v => by simp; intro e; rw [e]; exact this)
      exact .inr (by rw [this]; exact e)
    · have ca := c a (.head _)
      have cb := c b (.tail _ (.head _))
      have ba : b ≠ a := fun z => ab z.symm
      simp [List.count_cons, ab, ba] at ca cb
      have := tp [a, b] (by simp [ab]) (fun v => by
        simp
        rintro (e | e)
        · rw [e]; exact ca
        · rw [e]; exact cb)
      exact .inl (by rw [this]; exact e)
  | [a, b, d], e =>
    have ca := c a (.head _)
    have cb := c b (.tail _ (.head _))
    have cd := c d (.tail _ (.tail _ (.head _)))
    by_cases ab : a = b
    · subst ab
      by_cases ad : a = d
      · subst ad
        simp [List.count_cons] at ca
      · have da : d ≠ a := fun z => ad z.symm
        simp [List.count_cons, ad, da] at ca cd
        have := tp [d] (by simp) (fun v => by
          simp
          constructor
          · intro e
            rw [e]
            exact ⟨.inr rfl, cd⟩
          · rintro ⟨e | e, h⟩
            · rw [e] at h; exact absurd h ca
            · exact e)
        exact .inr (by rw [this]; exact e)
    · have ba : b ≠ a := fun z => ab z.symm
      by_cases ad : a = d
      · subst ad
        simp [List.count_cons, ab, ba] at ca cb
        have := tp [b] (by simp) (fun v => by
          simp
          constructor
          · intro e
            rw [e]
            exact ⟨.inr (.inl rfl), cb⟩
          · rintro ⟨e | e | e, h⟩
            · rw [e] at h; exact absurd h ca
            · exact e
            · rw [e] at h; exact absurd h ca)
        exact .inr (by rw [this]; exact e)
      · have da : d ≠ a := fun z => ad z.symm
        by_cases bd : b = d
        · subst bd
          simp [List.count_cons, ab, ba] at ca cb
          have := tp [a] (by simp) (fun v => by
            simp
            constructor
            · intro e
              rw [e]
              exact ⟨.inl rfl, ca⟩
            · rintro ⟨e | e, h⟩
              · exact e
              · rw [e] at h; exact absurd h cb)
          exact .inr (by rw [this]; exact e)
        · have db : d ≠ b := fun z => bd z.symm
          simp [List.count_cons, ab, ba, ad, da, bd, db] at ca cb cd
          have := tp [a, b, d] (by simp [ab, ad, bd]) (fun v => by
            simp
            rintro (e | e | e)
            · rw [e]; exact ca
            · rw [e]; exact cb
            · rw [e]; exact cd)
          exact .inl (by rw [this]; exact e)
  | _ :: _ :: _ :: _ :: _, e =>
    simp at e
    omega
end

section
variable {P : Program} {w : World} {K : PySem.W.Frag} {mg : Str → Option Value} {base : Heap}
/-! ### through, upper -/
/-- what is asked of a part: the error for no diagram, else the result from the marks -/
def PartQ (CD : Addr) (H : Hp) (n m : Int) (bs : List (List Int)) (E : XK) (R : Nat → Nat → List Int → Hp → Prop) : Prop :=
  (¬ IsDg n m bs ∧ ∀ H', Same H H' → E (.ref CD) none H') ∨ ∃ (n' m' : Nat) (l : List Int), n = n' ∧ m = m' ∧ bs = blocksOf l ∧ siz n m = true ∧ (l.length : Int) = n + m ∧ ∀ H', Same H H' → R n' m' l H'
def spThrough (CD : Addr) : Sp := fun vs H Q E => ∃ (v : V) (n m : Int) (bs : List (List Int)), vs = [v] ∧ DGv H v n m bs ∧ DgOk n m bs ∧ PartQ CD H n m bs E fun n' _ l H' => Q (.int ((endT n' l).length : Nat)) H'
theorem ok_through {f CD : Addr} {fd : FuncData} (F : Fun K "through" "through" s_through f fd) (z_len : mg "len" = none)
    {a_through_halves_ : Addr} {fd_through_halves_ : FuncData} (G_through_halves_ : FnOk P w K mg base (L2N.CX P w) 5 a_through_halves_ fd_through_halves_ ["diagram"] (spThrH CD)) (g_through_halves_ : mg "_through_halves" = some (.ref a_through_halves_)) (k_through_halves_ : PySem.W.keepIn K (.ref a_through_halves_) = true) (b_through_halves_ : Binds K fd_through_halves_ ["diagram"] []) :
    FnOk P w K mg base (L2N.CX P w) 6 f fd ["diagram"] (spThrough CD) := by
  refine F.okXN sc_through (fun vs H Q E h => ?_) (fun cdv A outer s H vs Q E hr h => ?_)
  · obtain ⟨v, n, m, bs, rfl, _⟩ := h
    rfl
  · obtain ⟨v, n, m, bs, rfl, hv, hb, h⟩ := h
    refine ⟨_, (pss_one (ps_ret (pe_callB call_len_seq (by rfl) z_len boot_len (pa_cons (pe_call G_through_halves_ (hr.mono (by decide)) rfl g_through_halves_ k_through_halves_ b_through_halves_ .nil (L2N.passes_call (L2N.takes_of rfl rfl rfl rfl) (fun _ _ _ _ h => h)) (pa_cons (pv 0) pa_nil)) pa_nil)))), ?_⟩
    rcases h with ⟨nd, e⟩ | ⟨n', m', l, rfl, rfl, rfl, sz, hl, q⟩
    · exact ⟨_, rfl, v, _, _, _, rfl, hv, hb, fun _ => e, fun dg => absurd dg nd⟩
    refine ⟨_, rfl, v, _, _, _, rfl, hv, hb, fun nd => absurd (isDg_blocks sz hl) nd, fun dg L es H1 s1 hL pr => ?_⟩
    rw [thr_of (by omega)] at pr
    have lp := pr.length
    rw [List.length_map] at lp
    refine ⟨L, es, rfl, .inl (.inl (.inl hL)), ?_⟩
    rw [lp]
    exact q H1 s1
theorem posOf_le (l : List Int) (v : Int) : (posOf l v).length ≤ l.length := by
  unfold posOf
  rw [List.length_map]
  have := List.length_filter_le (fun i => decide (co l i = v)) (List.range l.length)
  rwa [List.length_range] at this
theorem range_snocG {β : Type} (f : Nat → β) (i : Nat) : (List.range (i + 1)).map f = (List.range i).map f ++ [f i] := by
  rw [List.range_succ, List.map_append]
  rfl
end

section
variable {P : Program} {w : World} {K : PySem.W.Frag} {mg : Str → Option Value} {base : Heap}
/-! ### _spare_blocks -/
theorem pick_two (a b : V) : pickL [] none (some 2) = [] ∧ pickL [] (some 1) (some 2) = [] ∧ pickL [a, b] none (some 2) = [a] ∧ pickL [a, b] (some 1) (some 2) = [b] := by
  refine ⟨rfl, rfl, ?_, ?_⟩
  · show (sliceRange (sliceBounds none none (some 2) 2).1 (sliceBounds none none (some 2) 2).2.1 (sliceBounds none none (some 2) 2).2.2).filterMap (fun i => ([a, b] : List V)[i]?) = _
    rw [show sliceRange (sliceBounds none none (some 2) 2).1 (sliceBounds none none (some 2) 2).2.1 (sliceBounds none none (some 2) 2).2.2 = [0] by decide +kernel]
    rfl
  · show (sliceRange (sliceBounds (some 1) none (some 2) 2).1 (sliceBounds (some 1) none (some 2) 2).2.1 (sliceBounds (some 1) none (some 2) 2).2.2).filterMap (fun i => ([a, b] : List V)[i]?) = _
    rw [show sliceRange (sliceBounds (some 1) none (some 2) 2).1 (sliceBounds (some 1) none (some 2) 2).2.1 (sliceBounds (some 1) none (some 2) 2).2.2 = [1] by decide +kernel]
    rfl
def intsN (l : List Nat) : List V := (l.map fun q : Nat => (q : Int)).map V.int
def spSpare : Sp := fun vs H Q _ => ∃ (z : Str) (n : Nat) (a : Addr) (EN : List Nat), vs = [.str z, .int (n : Int), .ref a] ∧ H a = some (.lst (intsN EN)) ∧ n ≤ 8 ∧ (z = "pairs" → (spareN n EN).length = 0 ∨ (spareN n EN).length = 2) ∧
  ∀ (L : Addr) es H', Same H H' → H' L = some (.lst es) → Paired (TP H') es (spB z (spareN n EN)) → Q (.ref L) H'
theorem flat_intsN (l : List Nat) : (intsN l).all flatV = true := by
  rw [List.all_eq_true]
  intro y hy
  obtain ⟨q, _, rfl⟩ := List.mem_map.mp hy
  rfl
theorem inV_intsN (q : Nat) (l : List Nat) : inV (.int (q : Int)) (intsN l) = decide (q ∈ l) := by
  unfold intsN
  rw [inV_int]
  refine decide_eq_decide.mpr ?_
  rw [List.mem_map]
  exact ⟨fun ⟨a, ha, e⟩ => by rw [← Int.ofNat.inj e]; exact ha, fun h => ⟨q, h, rfl⟩⟩
theorem spareN_take (i : Nat) (EN : List Nat) : spareN (i + 1) EN = if i ∈ EN then spareN i EN else spareN i EN ++ [i] := by
  unfold spareN
  rw [List.range_succ, List.filter_append]
  by_cases c : i ∈ EN
  · rw [if_pos c]
    simp [c]
  · rw [if_neg c]
    simp [c]
theorem ok_spare_blocks_ {f : Addr} {fd : FuncData} (F : Fun K "_spare_blocks" "_spare_blocks" s_spare_blocks_ f fd) (z_range : mg "range" = none) (z_list : mg "list" = none) (z_zip : mg "zip" = none) :
    FnOk P w K mg base CX0 1 f fd ["family", "n", "used"] spSpare := by
  refine F.ok sc_spare_blocks_ (fun vs H Q E h => ?_) (fun cdv A outer s H vs Q E hr h => ?_)
  · obtain ⟨z, n, a, EN, rfl, _⟩ := h
    rfl
  · obtain ⟨z, n, a, EN, rfl, ha, hn, pr, q⟩ := h
    refine ⟨_, (pss_cons (ps_setLc (i := 3) (own := [("k", 4)]) rfl sc_spare_blocks_.nd rfl rfl (sw_true rfl rfl rfl (by decide +kernel)) (pi_range1 rfl z_range (pa_cons (pv 1) pa_nil)) (blkOk_by (N := ["family", "n", "used", "spare", "k"]) (sc := defScope s_spare_blocks_) (by first | decide +kernel | rfl)) (fun _ _ _ _ _ => (pg_name (i := 4) sc_spare_blocks_.nd rfl (.inl rfl))) (fun _ _ _ _ _ => pts_one (pt_cmpR (op_notIn_seqK (K := K) rfl) (pv 4) (pv 2) (by with_unfolding_all rfl))) (fun _ _ _ _ _ => (pv 4)))
  (pss_cons (ps_if (pt_cmpR op_eq (pv 0) pe_str (nomark _)) (pss_one (ps_ret (LiZ.pe_listZip rfl rfl z_list rfl z_zip (pa_cons (pe_slS (pv 3) po_none) (pa_cons (pe_slS (pv 3) (po_some pe_int)) pa_nil))))) pss_nil)
  (pss_one (ps_ret (pe_lc (own := [("k", 4)]) rfl sc_spare_blocks_.nd (pi_list (pv 3)) (blkOk_by (N := ["family", "n", "used", "spare", "k"]) (sc := defScope s_spare_blocks_) (by first | decide +kernel | rfl)) (fun _ _ _ _ _ => (pg_name (i := 4) sc_spare_blocks_.nd rfl (.inl rfl))) (fun _ _ _ _ _ => pts_nil) (fun _ _ _ _ _ => (pe_tup (pa_cons (pv 4) pa_nil)))))))), ?_⟩
    have szl : 20000 ≤ sizeLine := by decide
    refine ⟨_, rfl, n, rfl, by omega, by omega, fun D nD => ?_⟩
    have lsp : ∀ i, (spareN i EN).length ≤ i := fun i => by
      have := List.length_filter_le (fun q => decide (q ∉ EN)) (List.range i)
      rwa [List.length_range] at this
    refine lc_range (lo := 0) (n := n) (fun i H' => SameBut D H H' ∧ H' D = some (.lst (intsN (spareN i EN)))) ⟨SameBut.upd, upd_same⟩ (fun i H' hi hP => ?_) (fun H' hP => ?_)
    · obtain ⟨sb, hD⟩ := hP
      have s1 : Same H H' := fun b o e => sb b o (ne_of_none e nD) e
      refine ⟨rfl, _, rfl, _, rfl, a, _, rfl, .inl (.inl (.inl (s1 _ _ ha))), rfl, flat_intsN EN, ?_⟩
      refine ⟨_, rfl, ?_⟩
      rw [show (0 : Int) + (i : Nat) = ((i : Nat) : Int) by omega, inV_intsN, spareN_take]
      by_cases c : i ∈ EN
      · rw [if_pos c, decide_eq_true c]
        exact if_neg_of (by decide) ⟨sb, hD⟩
      · rw [if_neg c, decide_eq_false c]
        refine if_pos_of (by decide) ⟨_, rfl, _, hD, ?_, sb.trans SameBut.upd, ?_⟩
        · have := lsp i
          unfold intsN
          rw [List.length_map, List.length_map]
          omega
        · rw [upd_same]
          unfold intsN
          rw [List.map_append, List.map_append]
          rfl
    · obtain ⟨sb, hD⟩ := hP
      have s1 : Same H H' := fun b o e => sb b o (ne_of_none e nD) e
      refine ⟨_, rfl, rfl, _, rfl, ite2 (fun e => ?_) (fun e => ?_)⟩
      · have ez : z = "pairs" := V.str.inj (of_decide_eq_true e)
        have pr := pr ez
        unfold spB at q
        rw [if_pos ez] at q
        generalize spareN n EN = S at hD pr q
        have zip2 : ∀ (x y : List V) (ts : List Addr) (H0 H'' : Hp), pickL (intsN S) none (some 2) = x → pickL (intsN S) (some 1) (some 2) = y → Paired (fun (t : Addr) (q : V × V) => H'' t = some (.tup [q.1, q.2])) ts (x.zip y) → Paired (TP H'') (ts.map V.ref) (if S = [] then [] else [S.map fun q : Nat => (q : Int)]) := fun x y ts H0 H'' ex ey pt => by
          rcases pr with c | c
          · obtain rfl := List.length_eq_zero_iff.mp c
            obtain rfl : x = [] := ex.symm
            rw [if_pos rfl]
            cases pt
            exact .nil
          · match S, c with
            | [a', b'], _ =>
              rw [if_neg (fun z => nomatch z)]
              have pk := pick_two (.int (a' : Int)) (.int (b' : Int))
              obtain rfl : x = [.int (a' : Int)] := ex.symm.trans pk.2.2.1
              obtain rfl : y = [.int (b' : Int)] := ey.symm.trans pk.2.2.2
              cases pt with
              | cons h t =>
                cases t
                exact .cons ⟨_, rfl, h⟩ .nil
        have lens : (pickL (intsN S) none (some 2)).length ≤ 1 ∧ (pickL (intsN S) (some 1) (some 2)).length = (pickL (intsN S) none (some 2)).length := by
          rcases pr with c | c
          · obtain rfl := List.length_eq_zero_iff.mp c
            exact ⟨by decide, rfl⟩
          · match S, c with
            | [a', b'], _ =>
              have pk := pick_two (.int (a' : Int)) (.int (b' : Int))
              rw [show pickL (intsN [a', b']) none (some 2) = [.int (a' : Int)] from pk.2.2.1, show pickL (intsN [a', b']) (some 1) (some 2) = [.int (b' : Int)] from pk.2.2.2]
              exact ⟨Nat.le_refl _, rfl⟩
        refine ⟨_, rfl, D, _, rfl, .inl (.inl hD), by omega, fun p1 np1 => ?_⟩
        have w1 := same_upd (o := .lst (pickL (intsN S) none (some 2))) np1
        refine ⟨_, rfl, 1, rfl, D, _, rfl, .inl (.inl (w1 _ _ hD)), by omega, fun p2 np2 => ?_⟩
        have w2 := same_upd (o := .lst (pickL (intsN S) (some 1) (some 2))) np2
        refine ⟨p1, p2, _, _, rfl, .inl (.inl (w2 _ _ upd_same)), .inl (.inl upd_same), lens.2.symm, fun H'' p ts s'' hp pt => ?_⟩
        exact q p _ H'' (Same.trans s1 (Same.trans w1 (Same.trans w2 s''))) hp (zip2 _ _ ts H' H'' rfl rfl pt)
      · have nz : z ≠ "pairs" := fun h => e (decide_eq_true (congrArg V.str h))
        unfold spB at q
        rw [if_neg nz] at q
        have lS := lsp n
        generalize spareN n EN = S at hD q lS
        refine ⟨_, rfl, D, rfl, ⟨_, .inl (.inl hD)⟩, fun G nG => ?_⟩
        have hDG : D ≠ G := ne_of_none hD nG
        have kp : ∀ {H2 : Hp}, SameBut G H' H2 → Same H' H2 := fun sb b o e => sb b o (ne_of_none e nG) e
        refine lc_list (xs := intsN S) (fun i H2 => SameBut G H' H2 ∧ ∃ us, H2 G = some (.lst us) ∧ Paired (TP H2) us ((S.take i).map fun q : Nat => [(q : Int)])) ⟨SameBut.upd, [], upd_same, .nil⟩ (fun i H2 hi hP => .inl (.inl (hP.1 _ _ hDG hD))) (fun i y H2 hy hP => ?_) (fun H2 hP => ?_)
        · obtain ⟨sb2, us, hG, pu⟩ := hP
          obtain ⟨x, hx, rfl⟩ : ∃ x, S[i]? = some x ∧ y = V.int ((x : Nat) : Int) := by
            unfold intsN at hy
            rw [List.map_map, List.getElem?_map] at hy
            cases hx : S[i]? with
            | none => rw [hx] at hy; exact nomatch hy
            | some x => rw [hx] at hy; exact ⟨x, rfl, (Option.some.inj hy).symm⟩
          have hi := (List.getElem?_eq_some_iff.mp hx).1
          have lus := pu.length
          rw [List.length_map, List.length_take] at lus
          refine ⟨rfl, _, rfl, (by show 1 ≤ sizeLine; decide), fun p np => ?_⟩
          have sp := same_upd (o := .tup [.int ((x : Nat) : Int)]) np
          have sD := SameBut.upd (H := upd H2 p (.tup [.int ((x : Nat) : Int)])) (a := G) (o := .lst (us ++ [.ref p]))
          refine ⟨us, sp _ _ hG, by omega, (sb2.trans (Same.but sp)).trans sD, _, upd_same, ?_⟩
          rw [List.take_succ, hx, List.map_append]
          refine paired_add (TP.butL (sp _ _ hG) sD ⟨p, rfl, upd_same⟩) (Paired.mapP pu fun _ _ h => (h.same sp).butL (sp _ _ hG) sD)
        · obtain ⟨sb2, us, hG, pu⟩ := hP
          have lS2 : (intsN S).length = S.length := by unfold intsN; rw [List.length_map, List.length_map]
          rw [lS2, List.take_length] at pu
          exact q G us H2 (Same.trans s1 (kp sb2)) hG pu
end

section
variable {P : Program} {w : World} {K : PySem.W.Frag} {mg : Str → Option Value} {base : Heap}
/-! ### _leading -/
theorem cutV_to {l : List V} (b : Nat) : cutV l none (some (b : Int)) = l.take b := by
  show (l.drop _).take _ = _
  rw [HT.sIx_none, HT.sIx_nat, List.drop_zero, Nat.sub_zero, List.take_eq_take_iff]
  omega
theorem head_pos {X : List Int} {w : Int} (h : w ∈ X) : ∃ r, posOf X w = ((X.idxOf w : Nat) : Int) :: r := by
  obtain ⟨i1, i2⟩ := ixf_co h
  have ni : co X (X.idxOf w) ∉ X.take (X.idxOf w) := fun c => by
    rw [i2] at c
    have := List.idxOf_lt_length_of_mem c
    have e : X.idxOf w = (X.take (X.idxOf w)).idxOf w := by
      conv => lhs; rw [← List.take_append_drop (X.idxOf w) X]
      rw [List.idxOf_append, if_pos c]
    rw [← e, List.length_take] at this
    omega
  have a := posOf_head i1 ni
  rw [i2] at a
  cases hp : posOf X w with
  | nil => exact absurd hp (posOf_ne h)
  | cons x r =>
    rw [hp] at a
    exact ⟨r, by rw [← a]; rfl⟩
def spLeading : Sp := fun vs H Q _ => ∃ (z : Str) (v1 v2 : V) (n : Nat) (l1 l2 : List Int), vs = [.str z, v1, v2] ∧ DgAt H v1 n n l1 ∧ DgAt H v2 n n l2 ∧ n ≤ 3 ∧ z ≠ "even" ∧ inFam z n (blocksOf l1) = true ∧ inFam z n (blocksOf l2) = true ∧ (endT n l1).length ≤ (endT n l2).length ∧
  ∀ (t : Addr) (vu vv : V) (lu lv : List Int) (H' : Hp), Same H H' → H' t = some (.tup [vu, .int ((hid (putM n n n lu l2) (putS n n n lu l2) + hid (putM n n n (putS n n n lu l2) lv) (putS n n n (putS n n n lu l2) lv) : Nat) : Int), vv]) → DgAt H' vu n n lu → DgAt H' vv n n lv →
    inFam z n (blocksOf lu) = true → inFam z n (blocksOf lv) = true → blocksOf (putS n n n (putS n n n lu l2) lv) = blocksOf l1 → Q (.ref t) H'
theorem ok_leading_ {f CD CB CT : Addr} {fd : FuncData} (F : Fun K "_leading" "_leading" s_leading_ f fd) (z_len : mg "len" = none) (z_zip : mg "zip" = none)
    {a_through_halves_ : Addr} {fd_through_halves_ : FuncData} (G_through_halves_ : FnOk P w K mg base (L2N.CX P w) 5 a_through_halves_ fd_through_halves_ ["diagram"] (spThrH CD)) (g_through_halves_ : mg "_through_halves" = some (.ref a_through_halves_)) (k_through_halves_ : PySem.W.keepIn K (.ref a_through_halves_) = true) (b_through_halves_ : Binds K fd_through_halves_ ["diagram"] [])
    {a_only_above_ : Addr} {fd_only_above_ : FuncData} (G_only_above_ : FnOk P w K mg base (L2N.CX P w) 5 a_only_above_ fd_only_above_ ["diagram"] (spOnlyabove CD)) (g_only_above_ : mg "_only_above" = some (.ref a_only_above_)) (k_only_above_ : PySem.W.keepIn K (.ref a_only_above_) = true) (b_only_above_ : Binds K fd_only_above_ ["diagram"] [])
    {a_only_below_ : Addr} {fd_only_below_ : FuncData} (G_only_below_ : FnOk P w K mg base (L2N.CX P w) 5 a_only_below_ fd_only_below_ ["diagram"] (spOnlybelow CD)) (g_only_below_ : mg "_only_below" = some (.ref a_only_below_)) (k_only_below_ : PySem.W.keepIn K (.ref a_only_below_) = true) (b_only_below_ : Binds K fd_only_below_ ["diagram"] [])
    {a_shifted_ : Addr} {fd_shifted_ : FuncData} (G_shifted_ : FnOk P w K mg base CX0 1 a_shifted_ fd_shifted_ ["places", "by"] spShifted) (g_shifted_ : mg "_shifted" = some (.ref a_shifted_)) (k_shifted_ : PySem.W.keepIn K (.ref a_shifted_) = true) (b_shifted_ : Binds K fd_shifted_ ["places", "by"] [])
    {a_spare_blocks_ : Addr} {fd_spare_blocks_ : FuncData} (G_spare_blocks_ : FnOk P w K mg base CX0 1 a_spare_blocks_ fd_spare_blocks_ ["family", "n", "used"] spSpare) (g_spare_blocks_ : mg "_spare_blocks" = some (.ref a_spare_blocks_)) (k_spare_blocks_ : PySem.W.keepIn K (.ref a_spare_blocks_) = true) (b_spare_blocks_ : Binds K fd_spare_blocks_ ["family", "n", "used"] [])
    {a_with_blocks_ : Addr} {fd_with_blocks_ : FuncData} (G_with_blocks_ : FnOk P w K mg base CX0 1 a_with_blocks_ fd_with_blocks_ ["n", "m", "blocks"] (spWithB K)) (g_with_blocks_ : mg "_with_blocks" = some (.ref a_with_blocks_)) (k_with_blocks_ : PySem.W.keepIn K (.ref a_with_blocks_) = true) (b_with_blocks_ : Binds K fd_with_blocks_ ["n", "m", "blocks"] [])
    {a_put : Addr} {fd_put : FuncData} (G_put : FnOk P w K mg base (L2N.CX P w) 4 a_put fd_put ["one", "other"] (spPut CD CB CT)) (g_put : mg "put" = some (.ref a_put)) (k_put : PySem.W.keepIn K (.ref a_put) = true) (b_put : Binds K fd_put ["one", "other"] []) :
    FnOk P w K mg base (L2N.CX P w) 6 f fd ["family", "one", "other"] spLeading := by
  refine F.okXN sc_leading_ (fun vs H Q E h => ?_) (fun cdv A outer s H vs Q E hr h => ?_)
  · obtain ⟨z, v1, v2, n, l1, l2, rfl, _⟩ := h
    rfl
  · obtain ⟨z, v1, v2, n, l1, l2, rfl, d1, d2, n3, ze, f1, f2, tt, q⟩ := h
    refine ⟨_, (pss_cons (ps_set (i := 3) sc_leading_.nd rfl (.inr rfl) (pe_ix ix_tup (pv 1) pe_int (fun _ _ => rfl)))
  (pss_cons (ps_set (i := 4) sc_leading_.nd rfl (.inl rfl) (pe_call G_through_halves_ (hr.mono (by decide)) rfl g_through_halves_ k_through_halves_ b_through_halves_ .nil (L2N.passes_call (L2N.takes_of rfl rfl rfl rfl) (fun _ _ _ _ h => h)) (pa_cons (pv 1) pa_nil)))
  (pss_cons (ps_set (i := 5) sc_leading_.nd rfl (.inl rfl) (pe_slice sl_list (pe_call G_through_halves_ (hr.mono (by decide)) rfl g_through_halves_ k_through_halves_ b_through_halves_ .nil (L2N.passes_call (L2N.takes_of rfl rfl rfl rfl) (fun _ _ _ _ h => h)) (pa_cons (pv 2) pa_nil)) po_none (po_some (pe_callB call_len_seq (by rfl) z_len boot_len (pa_cons (pv 4) pa_nil)))))
  (pss_cons (ps_setLc (i := 7) (own := [("above", 16), ("_", 6)]) rfl sc_leading_.nd rfl rfl (sw_true rfl rfl rfl (by decide +kernel)) (pi_list (pv 5)) (blkOk_by (N := ["family", "one", "other", "n", "halves", "taken", "_", "entries", "exits", "u", "v", "first", "last", "above_loops", "made", "below_loops", "above", "below", "k", "block"]) (sc := defScope s_leading_) (by first | decide +kernel | rfl)) (fun _ _ _ _ _ => (pg_tupK (n := 2) (K := K) rfl rfl (pgs_cons (pg_name (i := 16) sc_leading_.nd rfl (.inl rfl)) (pgs_cons (pg_name (i := 6) sc_leading_.nd rfl (.inl rfl)) pgs_nil)))) (fun _ _ _ _ _ => pts_nil) (fun _ _ _ _ _ => (pe_ix (ix_tupK (K := K) rfl) (pv 16) pe_int (fun _ _ => rfl))))
  (Evl.pss_cut (ps_setLc (i := 8) (own := [("_", 6), ("below", 17)]) rfl sc_leading_.nd rfl rfl (sw_true rfl rfl rfl (by decide +kernel)) (pi_list (pv 5)) (blkOk_by (N := ["family", "one", "other", "n", "halves", "taken", "_", "entries", "exits", "u", "v", "first", "last", "above_loops", "made", "below_loops", "above", "below", "k", "block"]) (sc := defScope s_leading_) (by first | decide +kernel | rfl)) (fun _ _ _ _ _ => (pg_tupK (n := 2) (K := K) rfl rfl (pgs_cons (pg_name (i := 6) sc_leading_.nd rfl (.inl rfl)) (pgs_cons (pg_name (i := 17) sc_leading_.nd rfl (.inl rfl)) pgs_nil)))) (fun _ _ _ _ _ => pts_nil) (fun _ _ _ _ _ => (pe_ix (ix_tupK (K := K) rfl) (pv 17) pe_int (fun _ _ => rfl))))
  (Evl.pss_cut (ps_set (i := 9) sc_leading_.nd rfl (.inl rfl) (pe_op op_cat (pe_lc (own := [("k", 18), ("above", 16), ("_", 6)]) rfl sc_leading_.nd (pi_zip rfl z_zip (pa_cons (pv 4) (pa_cons (pv 7) pa_nil))) (blkOk_by (N := ["family", "one", "other", "n", "halves", "taken", "_", "entries", "exits", "u", "v", "first", "last", "above_loops", "made", "below_loops", "above", "below", "k", "block"]) (sc := defScope s_leading_) (by first | decide +kernel | rfl)) (fun _ _ _ _ _ => (pg_tupK (n := 2) (K := K) rfl rfl (pgs_cons (pg_tupK (n := 2) (K := K) rfl rfl (pgs_cons (pg_name (i := 16) sc_leading_.nd rfl (.inl rfl)) (pgs_cons (pg_name (i := 6) sc_leading_.nd rfl (.inl rfl)) pgs_nil))) (pgs_cons (pg_name (i := 18) sc_leading_.nd rfl (.inl rfl)) pgs_nil)))) (fun _ _ _ _ _ => pts_nil) (fun _ _ _ _ _ => (pe_op op_catC (pv 16) (pe_tup (pa_cons (pe_op op_add (pv 3) (pv 18)) pa_nil))))) (pe_call G_only_above_ (hr.mono (by decide)) rfl g_only_above_ k_only_above_ b_only_above_ .nil (L2N.passes_call (L2N.takes_of rfl rfl rfl rfl) (fun _ _ _ _ h => h)) (pa_cons (pv 1) pa_nil))))
  (Evl.pss_cut (ps_set (i := 9) sc_leading_.nd rfl (.inl rfl) (pe_op op_cat (pv 9) (pe_lc (own := [("block", 19)]) rfl sc_leading_.nd (pi_list (pe_call G_spare_blocks_ (hr.mono (by decide)) rfl g_spare_blocks_ k_spare_blocks_ b_spare_blocks_ .nil pass0 (pa_cons (pv 0) (pa_cons (pv 3) (pa_cons (pv 7) pa_nil))))) (blkOk_by (N := ["family", "one", "other", "n", "halves", "taken", "_", "entries", "exits", "u", "v", "first", "last", "above_loops", "made", "below_loops", "above", "below", "k", "block"]) (sc := defScope s_leading_) (by first | decide +kernel | rfl)) (fun _ _ _ _ _ => (pg_name (i := 19) sc_leading_.nd rfl (.inl rfl))) (fun _ _ _ _ _ => pts_nil) (fun _ _ _ _ _ => (pe_call G_shifted_ (hr.mono (by decide)) rfl g_shifted_ k_shifted_ b_shifted_ .nil pass0 (pa_cons (pv 19) (pa_cons (pv 3) pa_nil)))))))
  (Evl.pss_cut (ps_setLc (i := 10) (own := [("k", 18), ("_", 6), ("below", 17)]) rfl sc_leading_.nd rfl rfl (sw_true rfl rfl rfl (by decide +kernel)) (pi_zip rfl z_zip (pa_cons (pv 4) (pa_cons (pv 8) pa_nil))) (blkOk_by (N := ["family", "one", "other", "n", "halves", "taken", "_", "entries", "exits", "u", "v", "first", "last", "above_loops", "made", "below_loops", "above", "below", "k", "block"]) (sc := defScope s_leading_) (by first | decide +kernel | rfl)) (fun _ _ _ _ _ => (pg_tupK (n := 2) (K := K) rfl rfl (pgs_cons (pg_tupK (n := 2) (K := K) rfl rfl (pgs_cons (pg_name (i := 6) sc_leading_.nd rfl (.inl rfl)) (pgs_cons (pg_name (i := 17) sc_leading_.nd rfl (.inl rfl)) pgs_nil))) (pgs_cons (pg_name (i := 18) sc_leading_.nd rfl (.inl rfl)) pgs_nil)))) (fun _ _ _ _ _ => pts_nil) (fun _ _ _ _ _ => (pe_op op_catC (pe_tup (pa_cons (pv 18) pa_nil)) (pe_call G_shifted_ (hr.mono (by decide)) rfl g_shifted_ k_shifted_ b_shifted_ .nil pass0 (pa_cons (pv 17) (pa_cons (pv 3) pa_nil))))))
  (Evl.pss_cut (ps_set (i := 10) sc_leading_.nd rfl (.inl rfl) (pe_op op_cat (pe_op op_cat (pv 10) (pe_lc (own := [("below", 17)]) rfl sc_leading_.nd (pi_list (pe_call G_only_below_ (hr.mono (by decide)) rfl g_only_below_ k_only_below_ b_only_below_ .nil (L2N.passes_call (L2N.takes_of rfl rfl rfl rfl) (fun _ _ _ _ h => h)) (pa_cons (pv 1) pa_nil))) (blkOk_by (N := ["family", "one", "other", "n", "halves", "taken", "_", "entries", "exits", "u", "v", "first", "last", "above_loops", "made", "below_loops", "above", "below", "k", "block"]) (sc := defScope s_leading_) (by first | decide +kernel | rfl)) (fun _ _ _ _ _ => (pg_name (i := 17) sc_leading_.nd rfl (.inl rfl))) (fun _ _ _ _ _ => pts_nil) (fun _ _ _ _ _ => (pe_call G_shifted_ (hr.mono (by decide)) rfl g_shifted_ k_shifted_ b_shifted_ .nil pass0 (pa_cons (pv 17) (pa_cons (pv 3) pa_nil)))))) (pe_call G_spare_blocks_ (hr.mono (by decide)) rfl g_spare_blocks_ k_spare_blocks_ b_spare_blocks_ .nil pass0 (pa_cons (pv 0) (pa_cons (pv 3) (pa_cons (pv 8) pa_nil))))))
  (pss_cons (ps_set (i := 11) sc_leading_.nd rfl (.inl rfl) (pe_call G_with_blocks_ (hr.mono (by decide)) rfl g_with_blocks_ k_with_blocks_ b_with_blocks_ .nil pass0 (pa_cons (pv 3) (pa_cons (pv 3) (pa_cons (pv 9) pa_nil)))))
  (pss_cons (ps_set (i := 12) sc_leading_.nd rfl (.inl rfl) (pe_call G_with_blocks_ (hr.mono (by decide)) rfl g_with_blocks_ k_with_blocks_ b_with_blocks_ .nil pass0 (pa_cons (pv 3) (pa_cons (pv 3) (pa_cons (pv 10) pa_nil)))))
  (pss_cons (ps_asg (pe_call G_put (hr.mono (by decide)) rfl g_put k_put b_put .nil (L2N.passes_call (L2N.takes_of rfl rfl rfl rfl) (fun _ _ _ _ h => h)) (pa_cons (pv 11) (pa_cons (pv 2) pa_nil))) (pg_tup rfl (pgs_cons (pg_name (i := 13) sc_leading_.nd rfl (.inl rfl)) (pgs_cons (pg_name (i := 14) sc_leading_.nd rfl (.inl rfl)) pgs_nil))))
  (pss_cons (ps_asg (pe_call G_put (hr.mono (by decide)) rfl g_put k_put b_put .nil (L2N.passes_call (L2N.takes_of rfl rfl rfl rfl) (fun _ _ _ _ h => h)) (pa_cons (pv 14) (pa_cons (pv 12) pa_nil))) (pg_tup rfl (pgs_cons (pg_name (i := 15) sc_leading_.nd rfl (.inl rfl)) (pgs_cons (pg_name (i := 6) sc_leading_.nd rfl (.inl rfl)) pgs_nil))))
  (pss_one (ps_ret (pe_tup (pa_cons (pv 11) (pa_cons (pe_op op_add (pv 13) (pv 15)) (pa_cons (pv 12) pa_nil))))))))))))))))))), ?_⟩
    have szl : 20000 ≤ sizeLine := by decide
    have h1 : l1.length = n + n := by have := d1.2.2; omega
    have h2 : l2.length = n + n := by have := d2.2.2; omega
    obtain ⟨t1, vb1, rfl, ht1, _⟩ := id d1.1
    refine ⟨_, rfl, t1, _, 0, _, rfl, rfl, .inl (.inl ht1), rfl, ?_⟩
    refine ⟨_, rfl, _, n, n, _, rfl, d1.1, d1.ok, fun nd => absurd d1.dg nd, fun _ L1 es1 H1 s1 hL1 pr1 => ?_⟩
    rw [thr_of (by omega)] at pr1
    have lp1 := pr1.length
    rw [List.length_map] at lp1
    have d2' := d2.same s1
    refine ⟨_, rfl, v2, n, n, _, rfl, d2'.1, d2'.ok, fun nd => absurd d2'.dg nd, fun _ L2 es2 H2 s2 hL2 pr2 => ?_⟩
    rw [thr_of (by omega)] at pr2
    have s12 := Same.trans s1 s2
    refine ⟨_, rfl, L1, es1, rfl, .inl (.inl (.inl (s2 _ _ hL1))), _, rfl, L2, es2, rfl, .inl (.inl hL2), fun pT npT => ?_⟩
    rw [cutV_to, lp1]
    have w3 := same_upd (o := .lst (es2.take (endT n l1).length)) npT
    have hT3 : upd H2 pT (.lst (es2.take (endT n l1).length)) pT = some (.lst (es2.take (endT n l1).length)) := upd_same
    have pr3 : Paired (HvP (upd H2 pT (.lst (es2.take (endT n l1).length)))) (es2.take (endT n l1).length) (((endT n l2).map fun v => (posOf (l2.take n) v, posOf (l2.drop n) v)).take (endT n l1).length) := Paired.mapP (paired_take _ pr2) fun _ _ h => h.same w3
    have hL13 := w3 _ _ (s2 _ _ hL1)
    have pr13 := Paired.mapP pr1 fun _ _ h => (HvP.same s2 h).same w3
    have sA := Same.trans s12 w3
    generalize upd H2 pT (.lst (es2.take (endT n l1).length)) = H3 at *
    have lT : (es2.take (endT n l1).length).length = (endT n l1).length := by
      have := pr3.length
      rw [List.length_take, List.length_take, List.length_map] at this
      rw [List.length_take]
      omega
    generalize es2.take (endT n l1).length = es3 at *
    have le3 : (endT n l1).length ≤ 3 := by have := endT_le (n := n) (l := l1) (by omega); omega
    have tk : ∀ i, i < (endT n l1).length → (((endT n l2).map fun v => (posOf (l2.take n) v, posOf (l2.drop n) v)).take (endT n l1).length)[i]? = some (posOf (l2.take n) (co (endT n l2) i), posOf (l2.drop n) (co (endT n l2) i)) := fun i hi => by
      rw [List.getElem?_take, if_pos hi, List.getElem?_map, co_get (by omega)]
      rfl
    have U := ent_u h2 tt
    have V' := ent_v h2 tt
    have snocN : ∀ (f : Nat → Nat) (i : Nat), intsN ((List.range (i + 1)).map f) = intsN ((List.range i).map f) ++ [.int (f i : Int)] := fun f i => by
      unfold intsN
      rw [List.range_succ, List.map_append, List.map_append, List.map_append]
      rfl
    have lenN : ∀ (f : Nat → Nat) (i : Nat), (intsN ((List.range i).map f)).length = i := fun f i => by
      unfold intsN
      rw [List.length_map, List.length_map, List.length_map, List.length_range]
    refine ⟨_, rfl, pT, rfl, ⟨_, .inl (.inl hT3)⟩, fun D nD => ?_⟩
    have hTD : pT ≠ D := ne_of_none hT3 nD
    refine lc_list (xs := es3) (fun i H' => SameBut D H3 H' ∧ H' D = some (.lst (intsN ((List.range i).map fun k => (l2.take n).idxOf (co (endT n l2) k))))) ⟨SameBut.upd, upd_same⟩ (fun i H' hi hP => .inl (.inl (hP.1 _ _ hTD hT3))) (fun i y H' hy hP => ?_) (fun H4 hP => ?_)
    · obtain ⟨sb, hD⟩ := hP
      have s5 : Same H3 H' := fun b o e => sb b o (ne_of_none e nD) e
      have hi : i < (endT n l1).length := by have := (List.getElem?_eq_some_iff.mp hy).1; omega
      obtain ⟨hh, ex, tx, a, b, rfl, htx, ta, tb⟩ := paired_ix pr3 hy
      rw [tk i hi] at ex
      obtain rfl := (Option.some.inj ex).symm
      obtain ⟨r, er⟩ := head_pos (U.in hi)
      obtain ⟨ta0, rfl, hta⟩ := ta.same s5
      dsimp only at hta
      rw [er] at hta
      refine ⟨tx, _, rfl, .inl (.inl (s5 _ _ htx)), rfl, _, _, rfl, _, _, rfl, rfl, rfl, ?_⟩
      refine ⟨_, rfl, ta0, _, 0, _, rfl, rfl, .inl (.inl hta), atI_nat (j := 0) rfl, ?_⟩
      refine ⟨_, hD, by rw [lenN]; omega, sb.trans SameBut.upd, ?_⟩
      rw [upd_same, snocN]
    obtain ⟨sb4, hD4⟩ := hP
    rw [lT] at hD4
    have s34 : Same H3 H4 := fun b o e => sb4 b o (ne_of_none e nD) e
    have hT4 := s34 _ _ hT3
    have pr4 := Paired.mapP pr3 fun _ _ h => HvP.same s34 h
    refine ⟨fun σ H' => ∃ (v6 : Option V) (G : Addr), σ = [some (.str z), some (.ref t1), some v2, some (.int (n : Int)), some (.ref L1), some (.ref pT), v6, some (.ref D), some (.ref G), none, none, none, none, none, none, none, none, none, none, none] ∧ Same H4 H' ∧ H' G = some (.lst (intsN (enL (endT n l1).length (l2.drop n) (endT n l2)))), ?_, ?_⟩
    · refine ⟨_, rfl, pT, rfl, ⟨_, .inl (.inl hT4)⟩, fun G nG => ?_⟩
      have hTG : pT ≠ G := ne_of_none hT4 nG
      refine lc_list (xs := es3) (fun i H' => SameBut G H4 H' ∧ H' G = some (.lst (intsN ((List.range i).map fun k => (l2.drop n).idxOf (co (endT n l2) k))))) ⟨SameBut.upd, upd_same⟩ (fun i H' hi hP => .inl (.inl (hP.1 _ _ hTG hT4))) (fun i y H' hy hP => ?_) (fun H5 hP => ?_)
      · obtain ⟨sb, hG⟩ := hP
        have s5 : Same H4 H' := fun b o e => sb b o (ne_of_none e nG) e
        have hi : i < (endT n l1).length := by have := (List.getElem?_eq_some_iff.mp hy).1; omega
        obtain ⟨hh, ex, tx, a, b, rfl, htx, ta, tb⟩ := paired_ix pr4 hy
        rw [tk i hi] at ex
        obtain rfl := (Option.some.inj ex).symm
        obtain ⟨r, er⟩ := head_pos (V'.in hi)
        obtain ⟨ta0, rfl, hta⟩ := tb.same s5
        dsimp only at hta
        rw [er] at hta
        refine ⟨tx, _, rfl, .inl (.inl (s5 _ _ htx)), rfl, _, _, rfl, _, _, rfl, rfl, rfl, ?_⟩
        refine ⟨_, rfl, ta0, _, 0, _, rfl, rfl, .inl (.inl hta), atI_nat (j := 0) rfl, ?_⟩
        refine ⟨_, hG, by rw [lenN]; omega, sb.trans SameBut.upd, ?_⟩
        rw [upd_same, snocN]
      obtain ⟨sb5, hG5⟩ := hP
      rw [lT] at hG5
      exact ⟨_, G, rfl, fun b o e => sb5 b o (ne_of_none e nG) e, hG5⟩
    rintro σ H5 ⟨v6, G, rfl, s45, hG5⟩
    have hD5 := s45 _ _ hD4
    have s35 := Same.trans s34 s45
    have hL5 := s35 _ _ hL13
    have pr5 := Paired.mapP pr13 fun _ _ h => HvP.same s35 h
    have d15 := d1.same (Same.trans sA s35)
    have d25 := d2.same (Same.trans sA s35)
    have s05 := Same.trans sA s35
    clear hT3 hT4 pr3 pr4 pr2 pr1 hL1 hL2 hL13 pr13 s12 w3 sA s34 s45 s35 s1 s2 d2' npT nD sb4 hD4 hTD tk
    have hD5 : H5 D = some (.lst (intsN (enL (endT n l1).length (l2.take n) (endT n l2)))) := hD5
    obtain ⟨B, fr⟩ := fresh_B l1
    have frT := fresh_T (z := z) (n := n) fr
    have mU := U.mid frT
    have mV := V'.mid frT
    have lED : (enL (endT n l1).length (l2.take n) (endT n l2)).length = (endT n l1).length := mU.len
    have lEG : (enL (endT n l1).length (l2.drop n) (endT n l2)).length = (endT n l1).length := mV.len
    have spU := mU.spare_len
    have spV := mV.spare_len
    have trU : z = "threads" → spareN n (enL (endT n l1).length (l2.take n) (endT n l2)) = [] := fun ez => by
      rw [ez] at f1
      have := T_threads h1 f1
      exact List.length_eq_zero_iff.mp (by omega)
    have trV : z = "threads" → spareN n (enL (endT n l1).length (l2.drop n) (endT n l2)) = [] := fun ez => by
      rw [ez] at f1
      have := T_threads h1 f1
      exact List.length_eq_zero_iff.mp (by omega)
    have paU : z = "pairs" → (spareN n (enL (endT n l1).length (l2.take n) (endT n l2))).length = 0 ∨ (spareN n (enL (endT n l1).length (l2.take n) (endT n l2))).length = 2 := fun ez => by
      rw [ez] at f1
      have := T_pairs h1 n3 f1
      omega
    have paV : z = "pairs" → (spareN n (enL (endT n l1).length (l2.drop n) (endT n l2))).length = 0 ∨ (spareN n (enL (endT n l1).length (l2.drop n) (endT n l2))).length = 2 := fun ez => by
      rw [ez] at f1
      have := T_pairs h1 n3 f1
      omega
    have UB := u_blocks (z := z) h1 h2 tt fr
    have VB := v_blocks (z := z) h1 h2 tt fr
    have FU := fam_u h1 h2 tt fr ze f1 trU paU
    have FV := fam_v h1 h2 tt fr ze f1 trV paV
    obtain ⟨lu, lv, LED⟩ := led_is (z := z) h1 h2 tt fr (fun ez => by rw [ez] at f2; exact one_pairs h2 f2)
    have bndU : ∀ k, (enL (endT n l1).length (l2.take n) (endT n l2)).getD k 0 ≤ 3 := fun k => by
      rw [List.getD_eq_getElem?_getD]
      cases e : (enL (endT n l1).length (l2.take n) (endT n l2))[k]? with
      | none => exact Nat.zero_le _
      | some q => have := mU.lt q (List.mem_of_getElem? e); show q ≤ 3; omega
    have spl : ∀ EN : List Nat, (spareN n EN).length ≤ 3 := fun EN => by
      have := List.length_filter_le (fun q => decide (q ∉ EN)) (List.range n)
      rw [List.length_range] at this
      unfold spareN
      omega
    generalize enL (endT n l1).length (l2.take n) (endT n l2) = EN at *
    generalize enL (endT n l1).length (l2.drop n) (endT n l2) = EX at *
    clear U V' mU mV frT spU spV
    have getN : ∀ (E : List Nat) (i : Nat), i < E.length → (intsN E)[i]? = some (.int ((E.getD i 0 : Nat) : Int)) := fun E i hi => by
      unfold intsN
      rw [List.getElem?_map, List.getElem?_map, List.getD_eq_getElem?_getD, List.getElem?_eq_getElem hi]
      rfl
    have lenI : ∀ E : List Nat, (intsN E).length = E.length := fun E => by
      unfold intsN
      rw [List.length_map, List.length_map]
    refine ⟨fun σ H' => ∃ (pu : Addr) (uu : List V), σ = [some (.str z), some (.ref t1), some v2, some (.int (n : Int)), some (.ref L1), some (.ref pT), v6, some (.ref D), some (.ref G), some (.ref pu), none, none, none, none, none, none, none, none, none, none] ∧ Same H5 H' ∧ H' pu = some (.lst uu) ∧ uu.length ≤ 6 ∧ Paired (TP H') uu (((List.range (endT n l1).length).map fun k : Nat => posOf (l1.take n) (co (endT n l1) k) ++ [((n + EN.getD k 0 : Nat) : Int)]) ++ (onlyT n l1).map (posOf (l1.take n))), ?_, ?_⟩
    · refine ⟨_, rfl, _, rfl, L1, D, es1, _, rfl, .inl (.inl hL5), .inl (.inl hD5), fun W nW => ?_⟩
      have hLW : L1 ≠ W := ne_of_none hL5 nW
      have hDW : D ≠ W := ne_of_none hD5 nW
      refine lc_it (walk_zip (n := (endT n l1).length) (by rw [lenI, lED, lp1, Nat.min_self])) (fun i H' => SameBut W H5 H' ∧ ∃ us, H' W = some (.lst us) ∧ Paired (TP H') us ((List.range i).map fun k : Nat => posOf (l1.take n) (co (endT n l1) k) ++ [((n + EN.getD k 0 : Nat) : Int)])) ⟨SameBut.upd, [], upd_same, .nil⟩ (fun i H' _ hP => ⟨.inl (.inl (hP.1 _ _ hLW hL5)), .inl (.inl (hP.1 _ _ hDW hD5))⟩) (fun i y H6 H7 hi hP hy => ?_) (fun H6 hP => ?_)
      · obtain ⟨sb, us, hW, pu⟩ := hP
        obtain ⟨p, x, y', rfl, np, rfl, ex, ey⟩ := hy
        have ey : (intsN EN)[i]? = some y' := ey
        rw [getN EN i (by omega)] at ey
        obtain rfl := (Option.some.inj ey).symm
        have s2 : Same H5 H6 := fun b o e => sb b o (ne_of_none e nW) e
        have q3 := same_upd (o := .tup [x, .int ((EN.getD i 0 : Nat) : Int)]) np
        have s3 := Same.trans s2 q3
        obtain ⟨hh, eh, t2, a, b, rfl, ht2, ta, tb⟩ := paired_ix pr5 ex
        rw [List.getElem?_map, co_get hi] at eh
        obtain rfl := (Option.some.inj eh).symm
        dsimp only at ta tb
        obtain ⟨ta0, rfl, hta⟩ := ta
        refine ⟨p, _, rfl, .inl (.inl upd_same), rfl, _, _, rfl, t2, _, rfl, .inl (.inl (s3 _ _ ht2)), rfl, _, _, rfl, _, _, rfl, rfl, _, _, rfl, rfl, rfl, ?_⟩
        refine ⟨_, rfl, _, rfl, _, rfl, _, _, rfl, rfl, (by show 1 ≤ sizeLine; decide), fun p1 np1 => ?_⟩
        have q4 := same_upd (o := .tup [.int ((n : Int) + ((EN.getD i 0 : Nat) : Int))]) np1
        have lpos := posOf_le (l1.take n) (co (endT n l1) i)
        refine ⟨ta0, p1, _, _, rfl, rfl, q4 _ _ (s3 _ _ hta), upd_same, by rw [List.length_map]; rw [List.length_take] at lpos; show _ + 1 ≤ _; omega, fun p2 H8 s8 hp2 => ?_⟩
        have s26 := Same.trans q3 (Same.trans q4 s8)
        have hW8 := s26 _ _ hW
        have sD := SameBut.upd (H := H8) (a := W) (o := .lst (us ++ [.ref p2]))
        have lus := pu.length
        rw [List.length_map, List.length_range] at lus
        refine ⟨us, hW8, by omega, (sb.trans (Same.but s26)).trans sD, _, upd_same, ?_⟩
        rw [range_snocG]
        refine paired_add (TP.butL hW8 sD ⟨p2, rfl, ?_⟩) (Paired.mapP pu fun _ _ h => (h.same s26).butL hW8 sD)
        rw [hp2, List.map_append, Int.natCast_add]
        rfl
      obtain ⟨sb6, us, hW6, pu6⟩ := hP
      have s56 : Same H5 H6 := fun b o e => sb6 b o (ne_of_none e nW) e
      have d16 := d15.same s56
      have lus := pu6.length
      rw [List.length_map, List.length_range] at lus
      refine ⟨_, rfl, _, n, n, _, rfl, d16.1, d16.ok, fun nd => absurd d16.dg nd, fun _ L3 es4 H7 s7 hL3 pr7 => ?_⟩
      rw [onlyA_of (by omega)] at pr7
      have l7 := pr7.length
      rw [List.length_map] at l7
      have l7b : ((seenL [] (l1.take n)).filter fun v => decide (v ∉ l1.drop n)).length ≤ 3 := by
        have a1 := List.length_filter_le (fun v => decide (v ∉ l1.drop n)) (seenL [] (l1.take n))
        have a2 := List.Nodup.length_le_of_subset (seenL_nodup (l1.take n) [] List.nodup_nil) fun v hv => seen_in.mp hv
        rw [List.length_take] at a2
        omega
      refine ⟨W, L3, us, es4, rfl, rfl, s7 _ _ hW6, hL3, by omega, fun pu0 npu0 => ?_⟩
      have w8 := same_upd (o := .lst (us ++ es4)) npu0
      have hu8 : upd H7 pu0 (.lst (us ++ es4)) pu0 = some (.lst (us ++ es4)) := upd_same
      have pu8 : Paired (TP (upd H7 pu0 (.lst (us ++ es4)))) (us ++ es4) (((List.range (endT n l1).length).map fun k : Nat => posOf (l1.take n) (co (endT n l1) k) ++ [((n + EN.getD k 0 : Nat) : Int)]) ++ (onlyT n l1).map (posOf (l1.take n))) := paired_app (Paired.mapP pu6 fun _ _ h => (h.same s7).same w8) (Paired.mapP pr7 fun _ _ h => h.same w8)
      exact ⟨pu0, us ++ es4, rfl, Same.trans s56 (Same.trans s7 w8), hu8, by rw [List.length_append]; omega, pu8⟩
    rintro σ H6 ⟨pu, uu, rfl, s56, hu6, lu6, pu6⟩
    have s06 := Same.trans s05 s56
    have hD6 := s56 _ _ hD5
    refine ⟨fun σ H' => ∃ (pu : Addr) (uu : List V), σ = [some (.str z), some (.ref t1), some v2, some (.int (n : Int)), some (.ref L1), some (.ref pT), v6, some (.ref D), some (.ref G), some (.ref pu), none, none, none, none, none, none, none, none, none, none] ∧ Same H6 H' ∧ H' pu = some (.lst uu) ∧ Paired (TP H') uu (ledU n l1 EN z), ?_, ?_⟩
    · refine ⟨_, rfl, _, rfl, _, rfl, _, rfl, z, n, D, EN, rfl, hD6, by omega, paU, fun Ls es9 H9 s9 hLs pls => ?_⟩
      have ls9 := pls.length
      have lsb : (spB z (spareN n EN)).length ≤ 3 := by
        have := spl EN
        unfold spB
        split
        · split
          · exact Nat.zero_le _
          · exact (by decide : 1 ≤ 3)
        · rw [List.length_map]
          exact this
      have lbl : ∀ b ∈ spB z (spareN n EN), b.length ≤ 3 := fun b hb => by
        have := spl EN
        unfold spB at hb
        split at hb
        · split at hb
          · exact nomatch hb
          · rw [List.mem_singleton.mp hb, List.length_map]
            exact this
        · obtain ⟨q, _, rfl⟩ := List.mem_map.mp hb
          exact (by show 1 ≤ 3; decide)
      refine ⟨Ls, rfl, ⟨_, .inl (.inl hLs)⟩, fun W nW => ?_⟩
      have hLW : Ls ≠ W := ne_of_none hLs nW
      refine lc_list (xs := es9) (fun i H' => SameBut W H9 H' ∧ ∃ us, H' W = some (.lst us) ∧ Paired (TP H') us (((spB z (spareN n EN)).take i).map (shiftB n))) ⟨SameBut.upd, [], upd_same, .nil⟩ (fun i H' hi hP => .inl (.inl (hP.1 _ _ hLW hLs))) (fun i y H10 hy hP => ?_) (fun H10 hP => ?_)
      · obtain ⟨sb, us, hW, pus⟩ := hP
        have s2 : Same H9 H10 := fun b o e => sb b o (ne_of_none e nW) e
        obtain ⟨b, eb, tb⟩ := paired_ix pls hy
        have lus := pus.length
        rw [List.length_map, List.length_take] at lus
        refine ⟨rfl, _, rfl, _, rfl, y, b, (n : Int), rfl, tb.same s2, by have := lbl b (List.mem_of_getElem? eb); omega, fun v' H11 s11 tv => ?_⟩
        have hW11 := s11 _ _ hW
        have sD := SameBut.upd (H := H11) (a := W) (o := .lst (us ++ [v']))
        refine ⟨us, hW11, by omega, (sb.trans (Same.but s11)).trans sD, _, upd_same, ?_⟩
        rw [List.take_succ, eb, List.map_append]
        exact paired_add (TP.butL hW11 sD tv) (Paired.mapP pus fun _ _ h => (h.same s11).butL hW11 sD)
      · obtain ⟨sb, us, hW, pus⟩ := hP
        have s2 : Same H9 H10 := fun b o e => sb b o (ne_of_none e nW) e
        rw [ls9, List.take_length] at pus
        have lus := pus.length
        rw [List.length_map] at lus
        have s610 := Same.trans s9 s2
        refine ⟨pu, W, uu, us, rfl, rfl, s610 _ _ hu6, hW, by omega, fun p np => ?_⟩
        have w := same_upd (o := .lst (uu ++ us)) np
        exact ⟨p, uu ++ us, rfl, Same.trans s610 w, upd_same, paired_app (Paired.mapP pu6 fun _ _ h => (h.same s610).same w) (Paired.mapP pus fun _ _ h => h.same w)⟩
    clear pu6 hu6 lu6
    rintro σ H7 ⟨pu, uu, rfl, s67, hu7, pu7⟩
    have s57 := Same.trans s56 s67
    have s07 := Same.trans s05 s57
    have hL7 := s57 _ _ hL5
    have hG7 := s57 _ _ hG5
    have pr7 := Paired.mapP pr5 fun _ _ h => HvP.same s57 h
    clear hL5 pr5 s56 s67 s06 hD6
    refine ⟨fun σ H' => ∃ (pv : Addr) (vv : List V), σ = [some (.str z), some (.ref t1), some v2, some (.int (n : Int)), some (.ref L1), some (.ref pT), v6, some (.ref D), some (.ref G), some (.ref pu), some (.ref pv), none, none, none, none, none, none, none, none, none] ∧ Same H7 H' ∧ H' pv = some (.lst vv) ∧ Paired (TP H') vv ((List.range (endT n l1).length).map fun k : Nat => ((EX.getD k 0 : Nat) : Int) :: shiftB n (posOf (l1.drop n) (co (endT n l1) k))), ?_, ?_⟩
    · refine ⟨_, rfl, _, rfl, L1, G, es1, _, rfl, .inl (.inl hL7), .inl (.inl hG7), fun W nW => ?_⟩
      have hLW : L1 ≠ W := ne_of_none hL7 nW
      have hGW : G ≠ W := ne_of_none hG7 nW
      refine lc_it (walk_zip (n := (endT n l1).length) (by rw [lenI, lEG, lp1, Nat.min_self])) (fun i H' => SameBut W H7 H' ∧ ∃ us, H' W = some (.lst us) ∧ Paired (TP H') us ((List.range i).map fun k : Nat => ((EX.getD k 0 : Nat) : Int) :: shiftB n (posOf (l1.drop n) (co (endT n l1) k)))) ⟨SameBut.upd, [], upd_same, .nil⟩ (fun i H' _ hP => ⟨.inl (.inl (hP.1 _ _ hLW hL7)), .inl (.inl (hP.1 _ _ hGW hG7))⟩) (fun i y H8 H9 hi hP hy => ?_) (fun H8 hP => ?_)
      · obtain ⟨sb, us, hW, pus⟩ := hP
        obtain ⟨p, x, y', rfl, np, rfl, ex, ey⟩ := hy
        have ey : (intsN EX)[i]? = some y' := ey
        rw [getN EX i (by omega)] at ey
        obtain rfl := (Option.some.inj ey).symm
        have s2 : Same H7 H8 := fun b o e => sb b o (ne_of_none e nW) e
        have q3 := same_upd (o := .tup [x, .int ((EX.getD i 0 : Nat) : Int)]) np
        have s3 := Same.trans s2 q3
        obtain ⟨hh, eh, t2, a, b, rfl, ht2, ta, tb⟩ := paired_ix pr7 ex
        rw [List.getElem?_map, co_get hi] at eh
        obtain rfl := (Option.some.inj eh).symm
        dsimp only at ta tb
        refine ⟨p, _, rfl, .inl (.inl upd_same), rfl, _, _, rfl, t2, _, rfl, .inl (.inl (s3 _ _ ht2)), rfl, _, _, rfl, _, _, rfl, rfl, _, _, rfl, rfl, rfl, ?_⟩
        refine ⟨_, rfl, (by show 1 ≤ sizeLine; decide), fun p1 np1 => ?_⟩
        have q4 := same_upd (o := .tup [.int ((EX.getD i 0 : Nat) : Int)]) np1
        have lpos := posOf_le (l1.drop n) (co (endT n l1) i)
        rw [List.length_drop] at lpos
        refine ⟨_, rfl, _, rfl, b, _, (n : Int), rfl, (tb.same s3).same q4, by omega, fun v' H10 s10 tv => ?_⟩
        obtain ⟨tv0, rfl, htv⟩ := tv
        refine ⟨p1, tv0, _, _, rfl, rfl, s10 _ _ upd_same, htv, by rw [List.length_map]; unfold shiftB; rw [List.length_map]; show 1 + _ ≤ _; omega, fun p2 H11 s11 hp2 => ?_⟩
        have s211 := Same.trans q3 (Same.trans q4 (Same.trans s10 s11))
        have hW11 := s211 _ _ hW
        have sD := SameBut.upd (H := H11) (a := W) (o := .lst (us ++ [.ref p2]))
        have lus := pus.length
        rw [List.length_map, List.length_range] at lus
        refine ⟨us, hW11, by omega, (sb.trans (Same.but s211)).trans sD, _, upd_same, ?_⟩
        rw [range_snocG]
        refine paired_add (TP.butL hW11 sD ⟨p2, rfl, ?_⟩) (Paired.mapP pus fun _ _ h => (h.same s211).butL hW11 sD)
        rw [hp2]
        rfl
      · obtain ⟨sb, us, hW, pus⟩ := hP
        have s2 : Same H7 H8 := fun b o e => sb b o (ne_of_none e nW) e
        exact ⟨W, us, rfl, s2, hW, pus⟩
    rintro σ H8 ⟨pv, vv, rfl, s78, hv8, pv8⟩
    have s08 := Same.trans s07 s78
    have hG8 := s78 _ _ hG7
    have hu8 := s78 _ _ hu7
    have pu8 := Paired.mapP pu7 fun _ _ h => h.same s78
    have d18 := d1.same s08
    have lvv := pv8.length
    rw [List.length_map, List.length_range] at lvv
    clear hG7 hL7 pr7 hu7 pu7 s07 d15 d25 s05 s57 hD5 hG5
    refine ⟨fun σ H' => ∃ (pv : Addr) (vv : List V), σ = [some (.str z), some (.ref t1), some v2, some (.int (n : Int)), some (.ref L1), some (.ref pT), v6, some (.ref D), some (.ref G), some (.ref pu), some (.ref pv), none, none, none, none, none, none, none, none, none] ∧ Same H8 H' ∧ H' pv = some (.lst vv) ∧ Paired (TP H') vv (ledV n l1 EX z), ?_, ?_⟩
    · refine ⟨_, rfl, _, rfl, _, n, n, _, rfl, d18.1, d18.ok, fun nd => absurd d18.dg nd, fun _ L3 es4 H9 s9 hL3 pr9 => ?_⟩
      rw [onlyB_of (by omega)] at pr9
      have l9 := pr9.length
      rw [List.length_map] at l9
      have l9b : (onlyR n l1).length ≤ 6 := by
        have a2 := List.Nodup.length_le_of_subset (onlyR_nd (n := n) l1) fun v hv => List.mem_of_mem_drop (mem_onlyR.mp hv).1
        omega
      refine ⟨L3, rfl, ⟨_, .inl (.inl hL3)⟩, fun W nW => ?_⟩
      have hLW : L3 ≠ W := ne_of_none hL3 nW
      refine lc_list (xs := es4) (fun i H' => SameBut W H9 H' ∧ ∃ us, H' W = some (.lst us) ∧ Paired (TP H') us (((onlyR n l1).take i).map fun v => shiftB n (posOf (l1.drop n) v))) ⟨SameBut.upd, [], upd_same, .nil⟩ (fun i H' hi hP => .inl (.inl (hP.1 _ _ hLW hL3))) (fun i y H10 hy hP => ?_) (fun H10 hP => ?_)
      · obtain ⟨sb, us, hW, pus⟩ := hP
        have s2 : Same H9 H10 := fun b o e => sb b o (ne_of_none e nW) e
        obtain ⟨b, eb, tb⟩ := paired_ix pr9 hy
        rw [List.getElem?_map] at eb
        obtain ⟨x, hx, rfl⟩ : ∃ x, (onlyR n l1)[i]? = some x ∧ posOf (l1.drop n) x = b := by
          cases hx : (onlyR n l1)[i]? with
          | none => rw [hx] at eb; exact nomatch eb
          | some x => rw [hx] at eb; exact ⟨x, rfl, Option.some.inj eb⟩
        have lus := pus.length
        rw [List.length_map, List.length_take] at lus
        have lpos := posOf_le (l1.drop n) x
        rw [List.length_drop] at lpos
        refine ⟨rfl, _, rfl, _, rfl, y, _, (n : Int), rfl, tb.same s2, by omega, fun v' H11 s11 tv => ?_⟩
        have hW11 := s11 _ _ hW
        have sD := SameBut.upd (H := H11) (a := W) (o := .lst (us ++ [v']))
        refine ⟨us, hW11, by omega, (sb.trans (Same.but s11)).trans sD, _, upd_same, ?_⟩
        rw [List.take_succ, hx, List.map_append]
        exact paired_add (TP.butL hW11 sD tv) (Paired.mapP pus fun _ _ h => (h.same s11).butL hW11 sD)
      · obtain ⟨sb, us, hW, pus⟩ := hP
        have s2 : Same H9 H10 := fun b o e => sb b o (ne_of_none e nW) e
        rw [l9, List.take_length] at pus
        have lus := pus.length
        rw [List.length_map] at lus
        have s810 := Same.trans s9 s2
        refine ⟨pv, W, vv, us, rfl, rfl, s810 _ _ hv8, hW, by omega, fun p np => ?_⟩
        have w := same_upd (o := .lst (vv ++ us)) np
        have sX := Same.trans s810 w
        refine ⟨_, rfl, _, rfl, _, rfl, z, n, G, EX, rfl, sX _ _ hG8, by omega, paV, fun Ls es9 H12 s12 hLs pls => ?_⟩
        have ls9 := pls.length
        have lsb : (spB z (spareN n EX)).length ≤ 3 := by
          have := spl EX
          unfold spB
          split
          · split
            · exact Nat.zero_le _
            · exact (by decide : 1 ≤ 3)
          · rw [List.length_map]
            exact this
        refine ⟨p, Ls, _, _, rfl, rfl, s12 _ _ upd_same, hLs, by rw [List.length_append]; omega, fun p3 np3 => ?_⟩
        have w3 := same_upd (o := .lst (vv ++ us ++ es9)) np3
        have sY := Same.trans w (Same.trans s12 w3)
        exact ⟨p3, _, rfl, Same.trans s810 sY, upd_same, paired_app (paired_app (Paired.mapP pv8 fun _ _ h => (h.same s810).same sY) (Paired.mapP pus fun _ _ h => h.same sY)) (Paired.mapP pls fun _ _ h => h.same w3)⟩
    clear pv8 hv8
    rintro σ H9 ⟨pv, vv, rfl, s89, hv9, pv9⟩
    have s09 := Same.trans s08 s89
    have hu9 := s89 _ _ hu8
    have pu9 := Paired.mapP pu8 fun _ _ h => h.same s89
    have snn := d1.2.1
    refine ⟨_, rfl, _, rfl, _, rfl, n, n, pu, uu, _, rfl, .inl (.inl hu9), pu9, (fun b hb => blocks_ne b (UB ▸ List.mem_mergeSort.mpr hb)), fun vu H10 s10 du => ?_⟩
    rw [UB] at du
    refine ⟨_, rfl, _, rfl, _, rfl, n, n, pv, vv, _, rfl, .inl (.inl (s10 _ _ hv9)), (Paired.mapP pv9 fun _ _ h => h.same s10), (fun b hb => blocks_ne b (VB ▸ List.mem_mergeSort.mpr hb)), fun vw H11 s11 dv => ?_⟩
    rw [VB] at dv
    have aU : DgAt H11 vu n n (luL n l1 l2 z B) := ⟨du.same s11, snn, by omega⟩
    have aV : DgAt H11 vw n n (lvL n l1 l2 z B) := ⟨dv, snn, by omega⟩
    have s011 := Same.trans s09 (Same.trans s10 s11)
    have a2 := d2.same s011
    clear du dv UB VB pu9 pv9 hu9 hv9
    refine ⟨_, rfl, _, rfl, vu, v2, n, n, _, n, n, _, rfl, aU.1, aU.ok, a2.1, a2.ok, .inr ⟨n, n, luL n l1 l2 z B, rfl, rfl, rfl, snn, by omega, .inr ⟨n, n, l2, rfl, rfl, rfl, snn, by omega, fun ne => absurd rfl ne, fun _ big => by omega, fun _ _ tp vm H12 s12 htp dm => ?_⟩⟩⟩
    refine ⟨tp, _, rfl, .inl (.inl htp), rfl, _, _, rfl, _, _, rfl, rfl, ?_⟩
    have aV12 := aV.same s12
    have aU12 := aU.same s12
    have lM := putS_lenN lu h2
    refine ⟨_, rfl, _, rfl, vm, vw, n, n, _, n, n, _, rfl, dm.1, dm.ok, aV12.1, aV12.ok, .inr ⟨n, n, putS n n n (luL n l1 l2 z B) l2, rfl, rfl, rfl, snn, by omega, .inr ⟨n, n, lvL n l1 l2 z B, rfl, rfl, rfl, snn, by omega, fun ne => absurd rfl ne, fun _ big => by omega, fun _ _ tq ve H13 s13 htq de => ?_⟩⟩⟩
    refine ⟨tq, _, rfl, .inl (.inl htq), rfl, _, _, rfl, _, _, rfl, rfl, ?_⟩
    refine ⟨_, rfl, _, rfl, _, rfl, _, _, rfl, rfl, _, rfl, (by show 3 ≤ sizeLine; decide), fun p np => ?_⟩
    have w14 := same_upd (o := .tup [vu, .int ((hid (putM n n n (luL n l1 l2 z B) l2) (putS n n n (luL n l1 l2 z B) l2) : Nat) + (hid (putM n n n (putS n n n (luL n l1 l2 z B) l2) (lvL n l1 l2 z B)) (putS n n n (putS n n n (luL n l1 l2 z B) l2) (lvL n l1 l2 z B)) : Nat)), vw]) np
    have sF := Same.trans s12 (Same.trans s13 w14)
    exact q p vu vw _ _ _ (Same.trans s011 sF) upd_same (aU.same sF) (aV.same sF) FU FV LED
end

section
variable {P : Program} {w : World} {K : PySem.W.Frag} {mg : Str → Option Value} {base : Heap}
/-! ### led -/
theorem cut2 {a b c : V} : cutV [a, b, c] none (some 2) = [a, b] := rfl
def dP2 (a b : Int) : PyData := .tuple [.int a, .int b]
theorem dP2_shaped (a b : Int) : SeqAt.shaped (dP2 a b) = true := by
  show (PyData.canLay0 (dP2 a b) && decide (PyData.depth (dP2 a b) ≤ 64)) = true
  unfold dP2
  simp [PyData.canLay0, PyData.canLayAll0, PyData.depth, PyData.depthAll]
theorem eqv_P2 (a b c d : Int) : PyData.eqv (dP2 a b) (dP2 c d) = decide (a = c ∧ b = d) := by
  unfold dP2
  simp only [PyData.eqv, PyData.eqvAll]
  by_cases h1 : a = c
  · by_cases h2 : b = d
    · subst h1 h2
      simp
    · simp [h2]
  · simp [h1]
def LedGood (z : Str) (n : Nat) (l1 l2 : List Int) (H : Hp) (Q : VK) : Prop :=
  ((endT n l2).length < (endT n l1).length → ∀ H', Same H H' → Q .non H') ∧ ((endT n l1).length ≤ (endT n l2).length →
    ∀ (t : Addr) (vu vv : V) (lu lv : List Int) (H' : Hp), Same H H' → H' t = some (.tup [vu, .int ((hid (putM n n n lu l2) (putS n n n lu l2) + hid (putM n n n (putS n n n lu l2) lv) (putS n n n (putS n n n lu l2) lv) : Nat) : Int), vv]) → DgAt H' vu n n lu → DgAt H' vv n n lv →
    inFam z n (blocksOf lu) = true → inFam z n (blocksOf lv) = true → blocksOf (putS n n n (putS n n n lu l2) lv) = blocksOf l1 → Q (.ref t) H')
def spLed (CF CD CB : Addr) : Sp := fun vs H Q E => ∃ (z : Str) (v1 v2 : V) (n m : Int) (bs : List (List Int)) (k q : Int) (cs : List (List Int)), vs = [.str z, v1, v2] ∧ DGv H v1 n m bs ∧ DgOk n m bs ∧ DGv H v2 k q cs ∧ DgOk k q cs ∧ z ∈ fams ∧
  (z = "even" → ∀ H', Same H H' → E (.ref CF) none H') ∧ (z ≠ "even" → IsDg n m bs ∧ ((¬ IsDg k q cs ∧ ∀ H', Same H H' → E (.ref CD) none H') ∨ (IsDg k q cs ∧
    ((¬ ((n = n ∧ m = n) ∧ (k = n ∧ q = n)) ∧ ∀ H', Same H H' → E (.ref CB) none H') ∨ ((n = n ∧ m = n) ∧ (k = n ∧ q = n) ∧
      (((inFam z n bs = false ∨ inFam z n cs = false) ∧ ∀ H', Same H H' → E (.ref CB) none H') ∨ (inFam z n bs = true ∧ inFam z n cs = true ∧
        ∃ (n' : Nat) (l1 l2 : List Int), n = n' ∧ n' ≤ 3 ∧ bs = blocksOf l1 ∧ cs = blocksOf l2 ∧ l1.length = n' + n' ∧ l2.length = n' + n' ∧ siz n' n' = true ∧ LedGood z n' l1 l2 H Q)))))))
theorem ok_led {f CF CD CB : Addr} {fd : FuncData} (F : Fun K "led" "led" s_led f fd) (T : ErrC K mg "BadNumber" CB) (TF : ErrC K mg "NotFamily" CF)
    {a_check_family : Addr} {fd_check_family : FuncData} (G_check_family : FnOk P w K mg base (L2N.CX P w) 1 a_check_family fd_check_family ["family"] (spCheckFamily CF)) (g_check_family : mg "check_family" = some (.ref a_check_family)) (k_check_family : PySem.W.keepIn K (.ref a_check_family) = true) (b_check_family : Binds K fd_check_family ["family"] [])
    {a_check_diagram : Addr} {fd_check_diagram : FuncData} (G_check_diagram : FnOk P w K mg base (L2N.CX P w) 3 a_check_diagram fd_check_diagram ["diagram"] (spCheckDiagram CD)) (g_check_diagram : mg "check_diagram" = some (.ref a_check_diagram)) (k_check_diagram : PySem.W.keepIn K (.ref a_check_diagram) = true) (b_check_diagram : Binds K fd_check_diagram ["diagram"] [])
    {a_is_in : Addr} {fd_is_in : FuncData} (G_is_in : FnOk P w K mg base (L2N.CX P w) 4 a_is_in fd_is_in ["family", "diagram"] (spIsIn CF CD)) (g_is_in : mg "is_in" = some (.ref a_is_in)) (k_is_in : PySem.W.keepIn K (.ref a_is_in) = true) (b_is_in : Binds K fd_is_in ["family", "diagram"] [])
    {a_through : Addr} {fd_through : FuncData} (G_through : FnOk P w K mg base (L2N.CX P w) 6 a_through fd_through ["diagram"] (spThrough CD)) (g_through : mg "through" = some (.ref a_through)) (k_through : PySem.W.keepIn K (.ref a_through) = true) (b_through : Binds K fd_through ["diagram"] [])
    {a_leading_ : Addr} {fd_leading_ : FuncData} (G_leading_ : FnOk P w K mg base (L2N.CX P w) 6 a_leading_ fd_leading_ ["family", "one", "other"] spLeading) (g_leading_ : mg "_leading" = some (.ref a_leading_)) (k_leading_ : PySem.W.keepIn K (.ref a_leading_) = true) (b_leading_ : Binds K fd_leading_ ["family", "one", "other"] []) :
    FnOk P w K mg base (L2N.CX P w) 7 f fd ["family", "one", "other"] (spLed CF CD CB) := by
  obtain ⟨gc_BadNumber, x_BadNumber, kc_BadNumber, bc_BadNumber, tc_BadNumber⟩ := T
  obtain ⟨gc_NotFamily, x_NotFamily, kc_NotFamily, bc_NotFamily, tc_NotFamily⟩ := TF
  refine F.okXN sc_led (fun vs H Q E h => ?_) (fun cdv A outer s H vs Q E hr h => ?_)
  · obtain ⟨z, v1, v2, n, m, bs, k, q, cs, rfl, _⟩ := h
    rfl
  · obtain ⟨z, v1, v2, n, m, bs, k, q, cs, rfl, d1, o1, d2, o2, mz, qe, qn⟩ := h
    refine ⟨_, (pss_cons (ps_expr (pe_call G_check_family (hr.mono (by decide)) rfl g_check_family k_check_family b_check_family .nil (L2N.passes_call (L2N.takes_of rfl rfl rfl rfl) (fun _ _ _ _ h => h)) (pa_cons (pv 0) pa_nil)))
  (pss_cons (ps_if (pt_cmpR op_eq (pv 0) pe_str (nomark _)) (pss_one (L2N.ps_raise rfl (L2N.takes_of rfl rfl rfl rfl) (L2N.pmk_own PySem.F.excBase_ValueError x_NotFamily gc_NotFamily kc_NotFamily (raises_own bc_NotFamily tc_NotFamily) rfl))) pss_nil)
  (pss_cons (ps_expr (pe_call G_check_diagram (hr.mono (by decide)) rfl g_check_diagram k_check_diagram b_check_diagram .nil (L2N.passes_call (L2N.takes_of rfl rfl rfl rfl) (fun _ _ _ _ h => h)) (pa_cons (pv 1) pa_nil)))
  (pss_cons (ps_expr (pe_call G_check_diagram (hr.mono (by decide)) rfl g_check_diagram k_check_diagram b_check_diagram .nil (L2N.passes_call (L2N.takes_of rfl rfl rfl rfl) (fun _ _ _ _ h => h)) (pa_cons (pv 2) pa_nil)))
  (pss_cons (ps_set (i := 3) sc_led.nd rfl (.inl rfl) (pe_ix ix_tup (pv 1) pe_int (fun _ _ => rfl)))
  (Evl.pss_cut (ps_if (L2.PW.pt (pw_or (pt_cmpR (op_neD (room64 hr)) (pe_slice sl_tup (pv 1) po_none (po_some pe_int)) (pe_tup (pa_cons (pv 3) (pa_cons (pv 3) pa_nil))) (nomark _)) (pw_or1 (pt_cmpR (op_neD (room64 hr)) (pe_slice sl_tup (pv 2) po_none (po_some pe_int)) (pe_tup (pa_cons (pv 3) (pa_cons (pv 3) pa_nil))) (nomark _))))) (pss_one (L2N.ps_raise rfl (L2N.takes_of rfl rfl rfl rfl) (L2N.pmk_own PySem.F.excBase_ValueError x_BadNumber gc_BadNumber kc_BadNumber (raises_own bc_BadNumber tc_BadNumber) rfl))) pss_nil)
  (Evl.pss_cut (ps_if (L2.PW.pt (pw_or (pt_not (pt_val (pe_call G_is_in (hr.mono (by decide)) rfl g_is_in k_is_in b_is_in .nil (L2N.passes_call (L2N.takes_of rfl rfl rfl rfl) (fun _ _ _ _ h => h)) (pa_cons (pv 0) (pa_cons (pv 1) pa_nil))))) (pw_or1 (pt_not (pt_val (pe_call G_is_in (hr.mono (by decide)) rfl g_is_in k_is_in b_is_in .nil (L2N.passes_call (L2N.takes_of rfl rfl rfl rfl) (fun _ _ _ _ h => h)) (pa_cons (pv 0) (pa_cons (pv 2) pa_nil)))))))) (pss_one (L2N.ps_raise rfl (L2N.takes_of rfl rfl rfl rfl) (L2N.pmk_own PySem.F.excBase_ValueError x_BadNumber gc_BadNumber kc_BadNumber (raises_own bc_BadNumber tc_BadNumber) rfl))) pss_nil)
  (pss_cons (ps_if (pt_cmpR op_gt (pe_call G_through (hr.mono (by decide)) rfl g_through k_through b_through .nil (L2N.passes_call (L2N.takes_of rfl rfl rfl rfl) (fun _ _ _ _ h => h)) (pa_cons (pv 1) pa_nil)) (pe_call G_through (hr.mono (by decide)) rfl g_through k_through b_through .nil (L2N.passes_call (L2N.takes_of rfl rfl rfl rfl) (fun _ _ _ _ h => h)) (pa_cons (pv 2) pa_nil)) (nomark _)) (pss_one (ps_ret pe_non)) pss_nil)
  (pss_one (ps_ret (pe_call G_leading_ (hr.mono (by decide)) rfl g_leading_ k_leading_ b_leading_ .nil (L2N.passes_call (L2N.takes_of rfl rfl rfl rfl) (fun _ _ _ _ h => h)) (pa_cons (pv 0) (pa_cons (pv 1) (pa_cons (pv 2) pa_nil)))))))))))))), ?_⟩
    have szl : 20000 ≤ sizeLine := by decide
    refine ⟨_, rfl, z, rfl, (fun _ => ?_), (fun nf => absurd mz nf)⟩
    refine ⟨_, rfl, rfl, _, rfl, ite2 (fun e => ?_) (fun e => ?_)⟩
    · exact qe (V.str.inj (of_decide_eq_true e)) _ (Same.refl _)
    · have ze : z ≠ "even" := fun h => e (decide_eq_true (congrArg V.str h))
      obtain ⟨g1, qn⟩ := qn ze
      refine ⟨_, rfl, v1, n, m, bs, rfl, d1, o1, fun H1 s1 => ⟨fun _ => ?_, fun nd => absurd g1 nd⟩⟩
      rcases qn with ⟨nd2, qn⟩ | ⟨g2, qn⟩
      · exact ⟨_, rfl, v2, k, q, cs, rfl, d2.same s1, o2, fun H2 s2 => ⟨fun g => absurd g nd2, fun _ => qn H2 (Same.trans s1 s2)⟩⟩
      refine ⟨_, rfl, v2, k, q, cs, rfl, d2.same s1, o2, fun H2 s2 => ⟨fun _ => ?_, fun nd => absurd g2 nd⟩⟩
      have s12 := Same.trans s1 s2
      have d12 := d1.same s12
      have d22 := d2.same s12
      obtain ⟨t1, vb1, rfl, ht1, _⟩ := id d12
      obtain ⟨t2, vb2, rfl, ht2, _⟩ := id d22
      refine ⟨_, rfl, t1, _, 0, _, rfl, rfl, .inl (.inl ht1), rfl, ?_⟩
      refine ⟨fun σ H' => ((n = n ∧ m = n) ∧ (k = n ∧ q = n)) ∧ σ = [some (.str z), some (.ref t1), some (.ref t2), some (.int n)] ∧ Same H2 H', ?_, ?_⟩
      · refine ⟨_, rfl, 2, rfl, t1, _, rfl, .inl (.inl ht1), (show ¬ (HT.sIx 3 0 none = 0 ∧ HT.sIx 3 3 (some 2) = 3) from by decide), fun p1 np1 => ?_⟩
        have w1 := same_upd (o := .tup (cutV [.int n, .int m, vb1] none (some 2))) np1
        refine ⟨_, rfl, _, rfl, (by show 2 ≤ sizeLine; decide), fun p2 np2 => ?_⟩
        have w2 := same_upd (o := .tup [.int n, .int n]) np2
        refine ⟨dP2 n m, dP2 n n, .tup (.inl (.inl (w2 _ _ upd_same))) (.cons (.int n) (.cons (.int m) .nil)), .tup (.inl (.inl upd_same)) (.cons (.int n) (.cons (.int n) .nil)), dP2_shaped _ _, dP2_shaped _ _, ?_⟩
        rw [eqv_P2]
        have w12 := Same.trans w1 w2
        by_cases hnm : n = n ∧ m = n
        · rw [decide_eq_true hnm]
          refine ⟨_, rfl, if_neg_of (by decide) ?_⟩
          refine ⟨_, rfl, 2, rfl, t2, _, rfl, .inl (.inl (w12 _ _ ht2)), (show ¬ (HT.sIx 3 0 none = 0 ∧ HT.sIx 3 3 (some 2) = 3) from by decide), fun p3 np3 => ?_⟩
          have w3 := same_upd (o := .tup (cutV [.int k, .int q, vb2] none (some 2))) np3
          refine ⟨_, rfl, _, rfl, (by show 2 ≤ sizeLine; decide), fun p4 np4 => ?_⟩
          have w4 := same_upd (o := .tup [.int n, .int n]) np4
          refine ⟨dP2 k q, dP2 n n, .tup (.inl (.inl (w4 _ _ upd_same))) (.cons (.int k) (.cons (.int q) .nil)), .tup (.inl (.inl upd_same)) (.cons (.int n) (.cons (.int n) .nil)), dP2_shaped _ _, dP2_shaped _ _, ?_⟩
          rw [eqv_P2]
          have w14 := Same.trans w12 (Same.trans w3 w4)
          by_cases hkq : k = n ∧ q = n
          · rw [decide_eq_true hkq]
            exact ⟨_, rfl, if_neg_of (by decide) ⟨⟨hnm, hkq⟩, rfl, w14⟩⟩
          · rw [decide_eq_false hkq]
            refine ⟨_, rfl, if_pos_of (by decide) ?_⟩
            rcases qn with ⟨_, qn⟩ | ⟨_, g, _⟩
            · exact qn _ (Same.trans s12 w14)
            · exact absurd g hkq
        · rw [decide_eq_false hnm]
          refine ⟨_, rfl, if_pos_of (by decide) ?_⟩
          rcases qn with ⟨_, qn⟩ | ⟨g, _⟩
          · exact qn _ (Same.trans s12 w12)
          · exact absurd g hnm
      rintro σ H3 ⟨hsq, rfl, s23⟩
      have s13 := Same.trans s12 s23
      have d13 := d1.same s13
      have d23 := d2.same s13
      obtain qn | qn := qn
      · exact absurd hsq qn.1
      obtain ⟨⟨_, rfl⟩, ⟨rfl, rfl⟩, qn⟩ := qn
      refine ⟨fun σ H' => (inFam z q bs = true ∧ inFam z q cs = true) ∧ σ = [some (.str z), some (.ref t1), some (.ref t2), some (.int q)] ∧ Same H3 H', ?_, ?_⟩
      · refine ⟨_, rfl, _, rfl, z, .ref t1, q, q, bs, rfl, d13, o1, fun nf => absurd mz nf, fun _ nd => absurd g1 nd, fun _ _ H4 s4 => ?_⟩
        have bad : inFam z q bs = false ∨ inFam z q cs = false → ∀ H', Same H H' → E (.ref CB) none H' := fun h => by
          obtain ⟨_, qn⟩ | ⟨f1, f2, _⟩ := qn
          · exact qn
          · rw [f1, f2] at h
            exact (h.elim (fun z => nomatch z) (fun z => nomatch z))
        cases e1 : inFam z q bs with
        | false => exact ⟨_, rfl, if_pos_of rfl (bad (.inl e1) _ (Same.trans s13 s4))⟩
        | true =>
          refine ⟨_, rfl, if_neg_of (by decide) ?_⟩
          refine ⟨_, rfl, _, rfl, z, .ref t2, q, q, cs, rfl, d23.same s4, o2, fun nf => absurd mz nf, fun _ nd => absurd g2 nd, fun _ _ H5 s5 => ?_⟩
          cases e2 : inFam z q cs with
          | false => exact ⟨_, rfl, if_pos_of rfl (bad (.inr e2) _ (Same.trans s13 (Same.trans s4 s5)))⟩
          | true => exact ⟨_, rfl, if_neg_of (by decide) ⟨⟨rfl, rfl⟩, rfl, Same.trans s4 s5⟩⟩
      rintro σ H4 ⟨fam, rfl, s34⟩
      have s14 := Same.trans s13 s34
      have d14 := d1.same s14
      have d24 := d2.same s14
      obtain ⟨h, _⟩ | ⟨f1, f2, n', l1, l2, rfl, n3, rfl, rfl, h1, h2, snn, qn, ql⟩ := qn
      · rw [fam.1, fam.2] at h
        exact (h.elim (fun z => nomatch z) (fun z => nomatch z))
      refine ⟨_, rfl, _, _, _, _, rfl, d14, o1, .inr ⟨n', n', l1, rfl, rfl, rfl, snn, by omega, fun H5 s5 => ?_⟩⟩
      refine ⟨_, rfl, _, _, _, _, rfl, d24.same s5, o2, .inr ⟨n', n', l2, rfl, rfl, rfl, snn, by omega, fun H6 s6 => ?_⟩⟩
      have s46 := Same.trans s5 s6
      have s16 := Same.trans s14 s46
      have a1 : DgAt H6 (.ref t1) n' n' l1 := ⟨d14.same s46, snn, by omega⟩
      have a2 : DgAt H6 (.ref t2) n' n' l2 := ⟨d24.same s46, snn, by omega⟩
      refine ⟨_, _, rfl, rfl, _, rfl, ite2 (fun e => ?_) (fun e => ?_)⟩
      · exact qn (by have := of_decide_eq_true e; omega) H6 s16
      · have le : (endT n' l1).length ≤ (endT n' l2).length := Nat.le_of_not_lt fun c => e (decide_eq_true (by omega))
        refine ⟨_, rfl, _, rfl, _, rfl, z, .ref t1, .ref t2, n', l1, l2, rfl, a1, a2, n3, ze, f1, f2, le, fun t vu vv lu lv H7 s7 ht du dv fu fv eq => ql le t vu vv lu lv H7 (Same.trans s16 s7) ht du dv fu fv eq⟩
end

structure ErrT (K : PySem.W.Frag) (mg : Str → Option Value) (CE CF CD CB : Addr) : Prop where
  ge : mg "WorthError" = some (.ref CE)
  ebc : PySem.W.subIn K (.ref CE) (.type "BaseException") = some true
  ehd : PySem.W.hasDictIn K CE = true
  ety : PySem.W.typeIn K (.ref CE) = some (.type "type")
  g_f : mg "NotFamily" = some (.ref CF)
  x_f : ExcC K CF
  e_f : PySem.W.subIn K (.ref CF) (.ref CE) = some true
  g_d : mg "NotDiagram" = some (.ref CD)
  x_d : ExcC K CD
  e_d : PySem.W.subIn K (.ref CD) (.ref CE) = some true
  g_b : mg "BadNumber" = some (.ref CB)
  x_b : ExcC K CB
  e_b : PySem.W.subIn K (.ref CB) (.ref CE) = some true
  k_ff : PySem.W.kitOne K (.ref CF) (.ref CF) = some true
  k_fd : PySem.W.kitOne K (.ref CF) (.ref CD) = some false
  k_fb : PySem.W.kitOne K (.ref CF) (.ref CB) = some false
  k_df : PySem.W.kitOne K (.ref CD) (.ref CF) = some false
  k_dd : PySem.W.kitOne K (.ref CD) (.ref CD) = some true
  k_db : PySem.W.kitOne K (.ref CD) (.ref CB) = some false
  k_bf : PySem.W.kitOne K (.ref CB) (.ref CF) = some false
  k_bd : PySem.W.kitOne K (.ref CB) (.ref CD) = some false
  k_bb : PySem.W.kitOne K (.ref CB) (.ref CB) = some true
/-- what an except suite tells: "!" and which of three errors it is -/
def rInt1 : List V → Hp → VK → Prop := fun xs H Q => (∃ i, xs = [V.int i] ∧ Q (V.int i) H) ∨ ∃ k, xs = [V.bl k] ∧ Q (V.int (if k = true then 1 else 0)) H
def t_suite3 (K : PySem.W.Frag) (CD CB CT : Addr) (e k j : Nat) (ax : Addr) (cls : Value) (dx : Option Addr) : TS :=
  tSeq (tAsg (tLst (tCons (tCB (rIsE' K cls dx ax) (tCons (tVar e) (tCons (tC (.ref CD)) tNil))) (tCons (tCB (rIsE' K cls dx ax) (tCons (tVar e) (tCons (tC (.ref CB)) tNil))) (tCons (tCB (rIsE' K cls dx ax) (tCons (tVar e) (tCons (tC (.ref CT)) tNil))) tNil)))) (gName k))
    (tRet (tOp (fun x y H Q => ∃ i j, x = V.str i ∧ y = V.str j ∧ i.length + j.length ≤ sizeLine ∧ Q (V.str (i ++ j)) H) (tC (V.str "!")) (tCB (rStrD K) (tCons (tLcMap K (tVar k) (gName j) (tCB rInt1 (tCons (tVar j) tNil)) [j]) tNil))))
def bitI (b : Bool) : Int := if b = true then 1 else 0
def toldS (b0 b1 b2 : Bool) : Str := ("!" : Str) ++ (dL [bitI b0, bitI b1, bitI b2]).shown
theorem toldS_100 : toldS true false false = "![1, 0, 0]" := by decide +kernel
theorem toldS_010 : toldS false true false = "![0, 1, 0]" := by decide +kernel
theorem toldS_001 : toldS false false true = "![0, 0, 1]" := by decide +kernel
theorem toldS_len : ∀ b0 b1 b2 : Bool, ("!" : Str).length + (dL [bitI b0, bitI b1, bitI b2]).shown.length ≤ 100 := by decide +kernel
theorem dL_small {z : List Int} {B : Nat} (h : ∀ x ∈ z, x.natAbs < 2 ^ 200) (hB : z.length ≤ B) : SmL 1 (1923 * B + 3) (dL z) := smL_dL h hB
theorem suite3 {K : PySem.W.Frag} {CD CB CT C ax : Addr} {b0 b1 b2 : Bool} {σ : L2.St} {H : Hp} {D : Ends} {e k j : Nat} (hC : ExcC K C) (h0 : PySem.W.kitOne K (.ref C) (.ref CD) = some b0) (h1 : PySem.W.kitOne K (.ref C) (.ref CB) = some b1) (h2 : PySem.W.kitOne K (.ref C) (.ref CT) = some b2)
    (he : σ[e]? = some (some (.ref ax))) (hk : k < σ.length) (hj : j < σ.length) (hjk : k ≠ j) (q : ∀ H', Same H H' → D.rt (.str (toldS b0 b1 b2)) H') : t_suite3 K CD CB CT e k j ax (.ref C) none D σ H := by
  refine ⟨_, he, C, rfl, rfl, hC, _, _, b0, rfl, fun _ r => r, h0, _, he, C, rfl, rfl, hC, _, _, b1, rfl, fun _ r => r, h1, _, he, C, rfl, rfl, hC, _, _, b2, rfl, fun _ r => r, h2, (by show 3 ≤ sizeLine; decide), fun ks nks => ?_⟩
  have s1 := same_upd (o := .lst [V.bl b0, V.bl b1, V.bl b2]) nks
  refine ⟨.ref ks, List.getElem?_set_self hk, ks, [V.bl b0, V.bl b1, V.bl b2], fun y => match y with | .bl b => .int (bitI b) | y => y, rfl, .inl (.inl upd_same), (by show 3 < sizeLine; decide), fun y hy H2 => ?_, fun L nL => ?_⟩
  · have hjl : j < (wipe (σ.set k (some (.ref ks))) [j]).length := by rw [wipe_length, List.length_set]; exact hj
    refine ⟨?_, ?_⟩
    · show ((wipe (σ.set k (some (.ref ks))) [j]).set j (some y)).set j none = _
      rw [List.set_set]
      show ((σ.set k (some (.ref ks))).set j none).set j none = (σ.set k (some (.ref ks))).set j none
      rw [List.set_set]
    · refine ⟨y, List.getElem?_set_self hjl, ?_⟩
      have hb : ∃ b : Bool, y = .bl b := by
        rcases List.mem_cons.mp hy with h | hy
        · exact ⟨_, h⟩
        · rcases List.mem_cons.mp hy with h | hy
          · exact ⟨_, h⟩
          · exact ⟨_, List.mem_singleton.mp hy⟩
      obtain ⟨b, rfl⟩ := hb
      exact .inr ⟨b, rfl, rfl, rfl⟩
  · have s2 := same_upd (o := .lst ([bitI b0, bitI b1, bitI b2].map V.int)) nL
    have sm := smL_dL (z := [bitI b0, bitI b1, bitI b2]) (B := 3) (fun x hx => by
      have hb : ∃ b : Bool, x = bitI b := by
        rcases List.mem_cons.mp hx with h | hx
        · exact ⟨_, h⟩
        · rcases List.mem_cons.mp hx with h | hx
          · exact ⟨_, h⟩
          · exact ⟨_, List.mem_singleton.mp hx⟩
      obtain ⟨b, rfl⟩ := hb
      cases b <;> decide) (Nat.le_refl _)
    refine ⟨L, _, rfl, LP.dp (z := [bitI b0, bitI b1, bitI b2]) ⟨L, rfl, upd_same⟩, sm.shaped (by decide), sm.sho, sm.wide (by decide), ?_⟩
    have hl := toldS_len b0 b1 b2
    refine ⟨_, _, rfl, rfl, Nat.le_trans hl (by decide), ?_⟩
    exact q _ (Same.trans s1 s2)

section
variable {P : Program} {w : World} {K : PySem.W.Frag} {mg : Str → Option Value} {base : Heap}
/-! ### _law_told, _law_stacked -/
def spTold (CF CD CB : Addr) : Sp := fun vs H Q _ => ∃ (z : Str) (v1 v2 : V) (n m : Int) (bs : List (List Int)) (k q : Int) (cs : List (List Int)), vs = [.str z, v1, v2] ∧ DGv H v1 n m bs ∧ DgOk n m bs ∧ DGv H v2 k q cs ∧ DgOk k q cs ∧ z ∈ fams ∧
  (z = "even" → ∀ H', Same H H' → Q (.str "![1, 0, 0]") H') ∧ (z ≠ "even" → IsDg n m bs ∧ ((¬ IsDg k q cs ∧ ∀ H', Same H H' → Q (.str "![0, 1, 0]") H') ∨ (IsDg k q cs ∧
    ((¬ ((n = n ∧ m = n) ∧ (k = n ∧ q = n)) ∧ ∀ H', Same H H' → Q (.str "![0, 0, 1]") H') ∨ ((n = n ∧ m = n) ∧ (k = n ∧ q = n) ∧
      (((inFam z n bs = false ∨ inFam z n cs = false) ∧ ∀ H', Same H H' → Q (.str "![0, 0, 1]") H') ∨ (inFam z n bs = true ∧ inFam z n cs = true ∧
        ∃ (n' : Nat) (l1 l2 : List Int), n = n' ∧ n' ≤ 3 ∧ bs = blocksOf l1 ∧ cs = blocksOf l2 ∧ l1.length = n' + n' ∧ l2.length = n' + n' ∧ siz n' n' = true ∧ LedGood z n' l1 l2 H Q)))))))
theorem ok_law_told {f CE CF CD CB : Addr} {fd : FuncData} (F : Fun K "_law_told" "_law_told" s_law_told f fd) (T : ErrT K mg CE CF CD CB) (z_isinstance : mg "isinstance" = none) (z_str : mg "str" = none) (z_int : mg "int" = none)
    {a_led : Addr} {fd_led : FuncData} (G_led : FnOk P w K mg base (L2N.CX P w) 7 a_led fd_led ["family", "one", "other"] (spLed CF CD CB)) (g_led : mg "led" = some (.ref a_led)) (k_led : PySem.W.keepIn K (.ref a_led) = true) (b_led : Binds K fd_led ["family", "one", "other"] []) :
    FnG P w K mg base 8 f fd ["family", "one", "other"] (spTold CF CD CB) := by
  have gc_WorthError := T.ge
  have m_NotFamily := T.g_f
  have r_NotFamily : RelV (.ref CF) (.ref CF) := rfl
  have m_NotDiagram := T.g_d
  have r_NotDiagram : RelV (.ref CD) (.ref CD) := rfl
  have m_BadNumber := T.g_b
  have r_BadNumber : RelV (.ref CB) (.ref CB) := rfl
  have eF := PySem.W.exm_ref T.ebc T.ehd T.ety T.e_f
  have eD := PySem.W.exm_ref T.ebc T.ehd T.ety T.e_d
  have eB := PySem.W.exm_ref T.ebc T.ehd T.ety T.e_b
  refine F.okG sc_law_told (fun vs H Q E h => ?_) (fun cdv A outer s H vs Q E hgu hr1 h => ?_)
  · obtain ⟨z, v1, v2, n, m, bs, k, q, cs, rfl, _⟩ := h
    rfl
  · obtain ⟨z, v1, v2, n, m, bs, k, q, cs, rfl, d1, o1, d2, o2, mz, qe, qn⟩ := h
    have hu67 : (A.deeper (envOfC "_law_told" (defScope s_law_told) s.heap.objs.size f cdv)).units + 67 < cLine := by have := hr1.un; omega
    refine ⟨_, (pss_one (L2N.ps_try_as (i := 3) (Wout := fun _ _ _ _ => False) rfl rfl sc_law_told.nd rfl rfl ⟨rfl, by decide, .inl gc_WorthError⟩ takes0N (fun W pn xe tk _ => by exact (pss_one (ps_ret (pe_callS G_led (hr1.mono (by decide)) rfl g_led k_led b_led (fun σ => L2N.passAt tk σ) (pa_cons (pv 0) (pa_cons (pv 1) (pa_cons (pv 2) pa_nil))))))) (fun ax oe cls dx pn hz hf => by exact (pss_cons (ps_set (i := 4) sc_law_told.nd rfl (.inl rfl) (pe_lst (pa_cons (pe_callB (call_isE' hz.zc hf) (by rfl) z_isinstance boot_isinstance (pa_cons (pv 3) (pa_cons (pe_glob rfl m_NotFamily r_NotFamily) pa_nil))) (pa_cons (pe_callB (call_isE' hz.zc hf) (by rfl) z_isinstance boot_isinstance (pa_cons (pv 3) (pa_cons (pe_glob rfl m_NotDiagram r_NotDiagram) pa_nil))) (pa_cons (pe_callB (call_isE' hz.zc hf) (by rfl) z_isinstance boot_isinstance (pa_cons (pv 3) (pa_cons (pe_glob rfl m_BadNumber r_BadNumber) pa_nil))) pa_nil)))))
  (pss_one (ps_ret (pe_op L2.op_add_str pe_str (pe_callTy (cr_strD (K := K) rfl hgu hu67) (by rfl) z_str boot_str (pa_cons (pe_lcMapK (own := [("kind", 5)]) (K := K) rfl sc_law_told.nd (pv 4) (blkOk_by (N := ["family", "one", "other", "error", "kinds", "kind"]) (sc := defScope s_law_told) (by decide +kernel)) (fun _ _ _ _ _ => (pg_name (i := 5) sc_law_told.nd rfl (.inl rfl))) (fun _ _ _ _ _ => (pe_callTy call_int1 (by rfl) z_int boot_int (pa_cons (pv 5) pa_nil))) (by exact hotS_of hz hf)) pa_nil))))))))), ?_⟩
    have sF : ∀ {H1 : Hp}, Same H H1 → (∀ H', Same H H' → Q (.str "![1, 0, 0]") H') → ∀ ax : Addr, t_suite3 K CF CD CB 3 4 5 ax (.ref CF) none { nx := fun x H' => Q V.non H', rt := Q } ([some (.str z), some v1, some v2, some (.ref ax), none, none]) H1 := fun s1 q ax =>
      suite3 (e := 3) (k := 4) (j := 5) T.x_f T.k_ff T.k_fd T.k_fb rfl (by show 4 < 6; decide) (by show 5 < 6; decide) (by decide) fun H2 s2 => by
        rw [toldS_100]
        exact q H2 (Same.trans s1 s2)
    have sD : ∀ {H1 : Hp}, Same H H1 → (∀ H', Same H H' → Q (.str "![0, 1, 0]") H') → ∀ ax : Addr, t_suite3 K CF CD CB 3 4 5 ax (.ref CD) none { nx := fun x H' => Q V.non H', rt := Q } ([some (.str z), some v1, some v2, some (.ref ax), none, none]) H1 := fun s1 q ax =>
      suite3 (e := 3) (k := 4) (j := 5) T.x_d T.k_df T.k_dd T.k_db rfl (by show 4 < 6; decide) (by show 5 < 6; decide) (by decide) fun H2 s2 => by
        rw [toldS_010]
        exact q H2 (Same.trans s1 s2)
    have sB : ∀ {H1 : Hp}, Same H H1 → (∀ H', Same H H' → Q (.str "![0, 0, 1]") H') → ∀ ax : Addr, t_suite3 K CF CD CB 3 4 5 ax (.ref CB) none { nx := fun x H' => Q V.non H', rt := Q } ([some (.str z), some v1, some v2, some (.ref ax), none, none]) H1 := fun s1 q ax =>
      suite3 (e := 3) (k := 4) (j := 5) T.x_b T.k_bf T.k_bd T.k_bb rfl (by show 4 < 6; decide) (by show 5 < 6; decide) (by decide) fun H2 s2 => by
        rw [toldS_001]
        exact q H2 (Same.trans s1 s2)
    refine ⟨_, rfl, _, rfl, _, rfl, z, v1, v2, n, m, bs, k, q, cs, rfl, d1, o1, d2, o2, mz, fun e H' s' => ⟨true, eF, fun _ ax _ => sF s' (qe e) ax, fun z => nomatch z⟩, fun ne => ⟨(qn ne).1, ?_⟩⟩
    rcases (qn ne).2 with ⟨nd, qn⟩ | ⟨g2, ⟨nsq, qn⟩ | ⟨sq1, sq2, ⟨nf, qn⟩ | ⟨f1, f2, n', l1, l2, e1, n3, e2, e3, h1, h2, snn, q1, q2⟩⟩⟩
    · exact .inl ⟨nd, fun H' s' => ⟨true, eD, fun _ ax _ => sD s' qn ax, fun z => nomatch z⟩⟩
    · exact .inr ⟨g2, .inl ⟨nsq, fun H' s' => ⟨true, eB, fun _ ax _ => sB s' qn ax, fun z => nomatch z⟩⟩⟩
    · exact .inr ⟨g2, .inr ⟨sq1, sq2, .inl ⟨nf, fun H' s' => ⟨true, eB, fun _ ax _ => sB s' qn ax, fun z => nomatch z⟩⟩⟩⟩
    · exact .inr ⟨g2, .inr ⟨sq1, sq2, .inr ⟨f1, f2, n', l1, l2, e1, n3, e2, e3, h1, h2, snn, q1, q2⟩⟩⟩
def spStacked : Sp := fun vs H Q _ => ∃ (v1 v2 v3 : V) (n : Nat) (l1 l2 l3 : List Int), vs = [v1, v2, v3] ∧ DgAt H v1 n n l1 ∧ DgAt H v2 n n l2 ∧ DgAt H v3 n n l3 ∧ n ≤ 3 ∧
  ∀ (t : Addr) (v' : V) (H' : Hp), Same H H' → H' t = some (.tup [.int ((hid (putM n n n l1 l2) (putS n n n l1 l2) + hid (putM n n n (putS n n n l1 l2) l3) (putS n n n (putS n n n l1 l2) l3) : Nat) : Int), v']) → DgAt H' v' n n (putS n n n (putS n n n l1 l2) l3) → Q (.ref t) H'
theorem ok_law_stacked {f CD CB CT : Addr} {fd : FuncData} (F : Fun K "_law_stacked" "_law_stacked" s_law_stacked f fd) {a_put : Addr} {fd_put : FuncData} (G_put : FnOk P w K mg base (L2N.CX P w) 4 a_put fd_put ["one", "other"] (spPut CD CB CT)) (g_put : mg "put" = some (.ref a_put)) (k_put : PySem.W.keepIn K (.ref a_put) = true) (b_put : Binds K fd_put ["one", "other"] []) :
    FnG P w K mg base 6 f fd ["u", "middle", "v"] spStacked := by
  refine F.okG sc_law_stacked (fun vs H Q E h => ?_) (fun cdv A outer s H vs Q E hgu hr h => ?_)
  · obtain ⟨v1, v2, v3, n, l1, l2, l3, rfl, _⟩ := h
    rfl
  · obtain ⟨v1, v2, v3, n, l1, l2, l3, rfl, a1, a2, a3, n3, q⟩ := h
    refine ⟨_, (pss_cons (ps_asg (pe_call G_put (hr.mono (by decide)) rfl g_put k_put b_put .nil passLN (pa_cons (pv 0) (pa_cons (pv 1) pa_nil))) (pg_tup rfl (pgs_cons (pg_name (i := 3) sc_law_stacked.nd rfl (.inl rfl)) (pgs_cons (pg_name (i := 4) sc_law_stacked.nd rfl (.inl rfl)) pgs_nil))))
  (pss_cons (ps_asg (pe_call G_put (hr.mono (by decide)) rfl g_put k_put b_put .nil passLN (pa_cons (pv 4) (pa_cons (pv 2) pa_nil))) (pg_tup rfl (pgs_cons (pg_name (i := 5) sc_law_stacked.nd rfl (.inl rfl)) (pgs_cons (pg_name (i := 6) sc_law_stacked.nd rfl (.inl rfl)) pgs_nil))))
  (pss_one (ps_ret (pe_tup (pa_cons (pe_op op_add (pv 3) (pv 5)) (pa_cons (pv 6) pa_nil))))))), ?_⟩
    have szl : 20000 ≤ sizeLine := by decide
    have h1 : l1.length = n + n := by have := a1.2.2; omega
    have h2 : l2.length = n + n := by have := a2.2.2; omega
    have h3 : l3.length = n + n := by have := a3.2.2; omega
    have snn := a1.2.1
    refine ⟨_, rfl, _, rfl, v1, v2, n, n, _, n, n, _, rfl, a1.1, a1.ok, a2.1, a2.ok, .inr ⟨n, n, l1, rfl, rfl, rfl, snn, by omega, .inr ⟨n, n, l2, rfl, rfl, rfl, snn, by omega, fun ne => absurd rfl ne, fun _ big => by omega, fun _ _ tp vm H12 s12 htp dm => ?_⟩⟩⟩
    refine ⟨tp, _, rfl, .inl (.inl htp), rfl, _, _, rfl, _, _, rfl, rfl, ?_⟩
    have a3' := a3.same s12
    have lM := putS_lenN h1 h2
    refine ⟨_, rfl, _, rfl, vm, v3, n, n, _, n, n, _, rfl, dm.1, dm.ok, a3'.1, a3'.ok, .inr ⟨n, n, putS n n n l1 l2, rfl, rfl, rfl, snn, by omega, .inr ⟨n, n, l3, rfl, rfl, rfl, snn, by omega, fun ne => absurd rfl ne, fun _ big => by omega, fun _ _ tq ve H13 s13 htq de => ?_⟩⟩⟩
    refine ⟨tq, _, rfl, .inl (.inl htq), rfl, _, _, rfl, _, _, rfl, rfl, ?_⟩
    refine ⟨_, rfl, _, rfl, _, _, rfl, rfl, _, rfl, (by show 2 ≤ sizeLine; decide), fun p np => ?_⟩
    have w14 := same_upd (o := .tup [.int ((hid (putM n n n l1 l2) (putS n n n l1 l2) : Nat) + (hid (putM n n n (putS n n n l1 l2) l3) (putS n n n (putS n n n l1 l2) l3) : Nat)), ve]) np
    exact q p ve _ (Same.trans s12 (Same.trans s13 w14)) upd_same (de.same w14)
end

/-! ### loops and a diagram -/
def dPut (k : Nat) (n m : Int) (bs : List (List Int)) : PyData := .tuple [.int (k : Int), dDG n m bs]
theorem put_dp {K : PySem.W.Frag} {H : Hp} {t : Addr} {v : V} {k : Nat} {n m : Int} {bs : List (List Int)} (ht : H t = some (.tup [.int (k : Int), v])) (hv : DGv H v n m bs) : Dp K H (.ref t) (dPut k n m bs) :=
  .tup (.inl (.inl ht)) (.cons (.int _) (.cons hv.dp .nil))
theorem smL_put {k : Nat} {n m : Int} {bs : List (List Int)} (hk : k ≤ 1000) (h : IsDg n m bs) : SmL 4 3000000 (dPut k n m bs) := by
  have big : (1000 : Nat) < 2 ^ 200 := by decide
  refine (smL_tuple (n := 3) (k := 1000000) (ds := [.int (k : Int), dDG n m bs]) fun D hD => ?_).more (by show (1000000 + 2) * 2 + 3 ≤ 3000000; decide)
  rcases List.mem_cons.mp hD with rfl | hD
  · obtain ⟨h1, h2, h3, h4⟩ := smL_int (i := (k : Int)) (by omega)
    exact ⟨h1, Nat.le_trans h2 (by decide), h3, Nat.le_trans h4 (by decide)⟩
  · rw [List.mem_singleton.mp hD]
    exact smL_dg h
theorem hid_le (ms sh : List Int) : hid ms sh ≤ ms.length := by
  have h1 := List.length_filter_le (fun k => decide (k ∉ sh)) (seenL [] ms)
  have h2 := seenL_len ms []
  have h3 : ([] : List Int).length = 0 := rfl
  unfold hid
  omega
theorem cnt_le (ms : List Int) : cnt ms ≤ ms.length := by
  rw [cnt_hid]
  exact hid_le _ _
theorem smL_num {k : Nat} (hk : k ≤ 1000) : SmL 4 3000000 (.int (k : Int)) := by
  have big : (1000 : Nat) < 2 ^ 200 := by decide
  obtain ⟨h1, h2, h3, h4⟩ := smL_int (i := (k : Int)) (by omega)
  exact ⟨h1, Nat.le_trans h2 (by decide), h3, Nat.le_trans h4 (by decide)⟩
theorem ok_s {s : Str} (h1 : PyData.strOk s = true) (h2 : (reprText s).length ≤ 4000) : SmL 4 3000000 (.str s) := ⟨by simp [PyData.canLay0, h1], by simp [PyData.depth], by simp [PyData.showable], by simp only [wt]; exact Nat.le_trans h2 (by decide)⟩
theorem smP_010 : SmL 4 3000000 (.str "![0, 1, 0]") := ok_s (by decide +kernel) (by decide +kernel)
theorem smP_100 : SmL 4 3000000 (.str "![1, 0, 0]") := ok_s (by decide +kernel) (by decide +kernel)
theorem smP_001 : SmL 4 3000000 (.str "![0, 0, 1]") := ok_s (by decide +kernel) (by decide +kernel)
/-- a tuple of one more in a list that is being made -/
theorem sing_step {H0 H5 : Hp} {Z p : Addr} {es : List V} {x y : Int} {L : List (List Int)} (sb : SameBut Z H0 H5) (hZ : H5 Z = some (.lst es)) (np : H5 p = none) (pe : Paired (TP H5) es L) (e : x = y) :
    upd H5 p (.tup [.int x]) Z = some (.lst es) ∧ SameBut Z H0 (upd (upd H5 p (.tup [.int x])) Z (.lst (es ++ [.ref p]))) ∧
    ∃ es', upd (upd H5 p (.tup [.int x])) Z (.lst (es ++ [.ref p])) Z = some (.lst es') ∧ Paired (TP (upd (upd H5 p (.tup [.int x])) Z (.lst (es ++ [.ref p])))) es' (L ++ [[y]]) := by
  subst e
  have sp := same_upd (o := .tup [.int x]) np
  have npZ : p ≠ Z := fun z => by rw [z, hZ] at np; cases np
  refine ⟨sp _ _ hZ, (sb.trans (Same.but sp)).trans SameBut.upd, es ++ [.ref p], upd_same, ?_⟩
  have one : TP (upd (upd H5 p (.tup [.int x])) Z (.lst (es ++ [.ref p]))) (.ref p) [x] := ⟨p, rfl, by rw [upd_ne npZ, upd_same]; rfl⟩
  refine paired_snoc one (Paired.mapP pe fun v e h => ?_)
  obtain ⟨q0, e0, h0⟩ := h
  exact ⟨q0, e0, by rw [upd_ne (ne_of h0 hZ (fun z => nomatch z))]; exact sp _ _ h0⟩
def singL (N : Nat) : List (List Int) := (List.range N).map fun (i : Nat) => [(i : Int)]
theorem sing_blocks : ∀ N, N ≤ 13 → blocksOf (ixs N) = singL N := by decide +kernel
theorem sing_at {H : Hp} {t : Addr} {vb : V} {n m : Nat} (ht : H t = some (.tup [.int (n : Int), .int (m : Int), vb])) (hb : TT H vb (singL (n + m))) (sz : siz n m = true) : DgAt H (.ref t) n m (ixs (n + m)) := by
  have z := siz_iff.mp sz
  refine ⟨⟨t, vb, rfl, ht, ?_⟩, sz, by rw [ixs_len']; omega⟩
  rw [sing_blocks (n + m) (by omega)]
  exact hb

theorem eqv_dTs : ∀ bs : List (List Int), PyData.eqvAll (bs.map dT) (bs.map dT) = true
  | [] => by simp [PyData.eqvAll]
  | b :: bs => by
    rw [List.map_cons]
    simp only [PyData.eqvAll, eqv_dTs bs, eqv_dT, decide_true, Bool.and_self]
theorem eqv_dDG (n m : Int) (bs : List (List Int)) : PyData.eqv (dDG n m bs) (dDG n m bs) = true := by
  unfold dDG dTT
  simp only [PyData.eqv, PyData.eqvAll, eqv_dTs, decide_true, Bool.and_self]
  simp
theorem eqv_dPut (k : Nat) (n m : Int) (bs : List (List Int)) : PyData.eqv (dPut k n m bs) (dPut k n m bs) = true := by
  unfold dPut
  simp only [PyData.eqv, PyData.eqvAll, eqv_dDG, decide_true, Bool.and_self]
  simp

theorem dPut_shaped (k : Nat) (n m : Int) (bs : List (List Int)) : SeqAt.shaped (dPut k n m bs) = true := by
  obtain ⟨h1, h2⟩ := dDG_lay n m bs
  show (PyData.canLay0 (dPut k n m bs) && decide (PyData.depth (dPut k n m bs) ≤ 64)) = true
  unfold dPut
  rw [show PyData.canLay0 (.tuple [.int (k : Int), dDG n m bs]) = true by simp [PyData.canLay0, PyData.canLayAll0, h1], decide_eq_true (by simp only [PyData.depth, PyData.depthAll]; omega)]
  rfl
theorem thr_blocks {n : Nat} {a b : List Int} (ha : n ≤ a.length) (hb : n ≤ b.length) (e : blocksOf a = blocksOf b) : (endT n a).length = (endT n b).length := by
  have x := congrArg List.length (thr_of ha)
  have y := congrArg List.length (thr_of hb)
  rw [List.length_map] at x y
  rw [← x, ← y, e]
def fam5 : List Str := ["threads", "loose", "pairs", "lonepairs", "parts"]
theorem fam5_ok : ∀ z ∈ fam5, z ∈ fams ∧ z ≠ "even" := by decide +kernel
theorem bad82 : ¬ IsDg 1 1 [[0]] := fun h => by
  have := h.pm.mem_iff (a := 1)
  exact absurd (this.mpr (by decide)) (by decide)
theorem big82 : ∀ z ∈ fam5, z ≠ "parts" → inFam z 2 (blocksOf [0, 0, 0, 0]) = false := by decide +kernel
theorem rgV_ixs82 (n : Nat) : (List.replicate (2 : Int).toNat (rgV 0 ((n : Int) + 1))).flatten = (ixs (n + 1) ++ ixs (n + 1)).map V.int := by
  have e : rgV 0 ((n : Int) + 1) = (ixs (n + 1)).map V.int := by
    unfold rgV ixs
    rw [List.map_map, show ((n : Int) + 1 - 0).toNat = n + 1 by omega]
    refine List.map_congr_left fun i _ => ?_
    show V.int (0 + (i : Int)) = V.int (i : Int)
    rw [Int.zero_add]
  rw [e, List.map_append]
  show ((ixs (n + 1)).map V.int ++ ((ixs (n + 1)).map V.int ++ [])) = _
  rw [List.append_nil]
structure K2 (H : Hp) (v1 v2 : V) (n : Nat) (l1 l2 : List Int) : Prop where
  d1 : DgAt H v1 n n l1
  d2 : DgAt H v2 n n l2
theorem K2.same {H H' : Hp} {v1 v2 : V} {n : Nat} {l1 l2 : List Int} (s : Same H H') (h : K2 H v1 v2 n l1 l2) : K2 H' v1 v2 n l1 l2 := ⟨h.d1.same s, h.d2.same s⟩
theorem K2.butL {H H' : Hp} {r : Addr} {ys : List V} {v1 v2 : V} {n : Nat} {l1 l2 : List Int} (hr : H r = some (.lst ys)) (s : SameBut r H H') (h : K2 H v1 v2 n l1 l2) : K2 H' v1 v2 n l1 l2 := ⟨h.d1.butL hr s, h.d2.butL hr s⟩
section
variable {P : Program} {w : World} {K : PySem.W.Frag} {mg : Str → Option Value} {base : Heap}
def spLaw (K : PySem.W.Frag) : Sp := fun vs H Q _ => ∃ (a : Addr) (ns : List Int), vs = [.ref a] ∧ SqL K H a (ns.map V.int) ∧ ns.length ≤ 63 ∧ ∀ H', Q (.bl true) H'
theorem ok_law {f CF CD CB CT a_law_next : Addr} {fd fd_law_next : FuncData} (F : Fun K "law" "law" s_law f fd) (z_int : mg "int" = none) (z_range : mg "range" = none) (z_len : mg "len" = none) (z_min : mg "min" = none) (z_isinstance : mg "isinstance" = none) (z_tuple : mg "tuple" = none) (z_list : mg "list" = none)
    (G_law_next : FnOk P w K mg base CX0 1 a_law_next fd_law_next ["draws"] spNext) (g_law_next : mg "_law_next" = some (.ref a_law_next)) (k_law_next : PySem.W.keepIn K (.ref a_law_next) = true) (b_law_next : Binds K fd_law_next ["draws"] [])
    {a_law_draws : Addr} {fd_law_draws : FuncData} (G_law_draws : FnOk P w K mg base CX0 2 a_law_draws fd_law_draws ["script"] (spDraws K)) (g_law_draws : mg "_law_draws" = some (.ref a_law_draws)) (k_law_draws : PySem.W.keepIn K (.ref a_law_draws) = true) (b_law_draws : Binds K fd_law_draws ["script"] [])
    {a_law_drawn : Addr} {fd_law_drawn : FuncData} (G_law_drawn : FnOk P w K mg base CX0 4 a_law_drawn fd_law_drawn ["draws", "family", "n", "m"] spDrawn) (g_law_drawn : mg "_law_drawn" = some (.ref a_law_drawn)) (k_law_drawn : PySem.W.keepIn K (.ref a_law_drawn) = true) (b_law_drawn : Binds K fd_law_drawn ["draws", "family", "n", "m"] [])
    {a_law_told : Addr} {fd_law_told : FuncData} (G_law_told : FnG P w K mg base  8 a_law_told fd_law_told ["family", "one", "other"] (spTold CF CD CB)) (g_law_told : mg "_law_told" = some (.ref a_law_told)) (k_law_told : PySem.W.keepIn K (.ref a_law_told) = true) (b_law_told : Binds K fd_law_told ["family", "one", "other"] [])
    {a_put : Addr} {fd_put : FuncData} (G_put : FnOk P w K mg base (L2N.CX P w) 4 a_put fd_put ["one", "other"] (spPut CD CB CT)) (g_put : mg "put" = some (.ref a_put)) (k_put : PySem.W.keepIn K (.ref a_put) = true) (b_put : Binds K fd_put ["one", "other"] [])
    {a_through : Addr} {fd_through : FuncData} (G_through : FnOk P w K mg base (L2N.CX P w) 6 a_through fd_through ["diagram"] (spThrough CD)) (g_through : mg "through" = some (.ref a_through)) (k_through : PySem.W.keepIn K (.ref a_through) = true) (b_through : Binds K fd_through ["diagram"] [])
    {a_law_goes : Addr} {fd_law_goes : FuncData} (G_law_goes : FnOk P w K mg base CX0 1 a_law_goes fd_law_goes ["diagram"] spGoes) (g_law_goes : mg "_law_goes" = some (.ref a_law_goes)) (k_law_goes : PySem.W.keepIn K (.ref a_law_goes) = true) (b_law_goes : Binds K fd_law_goes ["diagram"] [])
    {a_law_stacked : Addr} {fd_law_stacked : FuncData} (G_law_stacked : FnG P w K mg base  6 a_law_stacked fd_law_stacked ["u", "middle", "v"] spStacked) (g_law_stacked : mg "_law_stacked" = some (.ref a_law_stacked)) (k_law_stacked : PySem.W.keepIn K (.ref a_law_stacked) = true) (b_law_stacked : Binds K fd_law_stacked ["u", "middle", "v"] [])
    {a_is_in : Addr} {fd_is_in : FuncData} (G_is_in : FnOk P w K mg base (L2N.CX P w) 4 a_is_in fd_is_in ["family", "diagram"] (spIsIn CF CD)) (g_is_in : mg "is_in" = some (.ref a_is_in)) (k_is_in : PySem.W.keepIn K (.ref a_is_in) = true) (b_is_in : Binds K fd_is_in ["family", "diagram"] [])
    {a_law_from : Addr} {fd_law_from : FuncData} (G_law_from : FnOk P w K mg base CX0 2 a_law_from fd_law_from ["n", "m", "marks"] (spFrom K)) (g_law_from : mg "_law_from" = some (.ref a_law_from)) (k_law_from : PySem.W.keepIn K (.ref a_law_from) = true) (b_law_from : Binds K fd_law_from ["n", "m", "marks"] []) :
    FnG P w K mg base 9 f fd ["script"] (spLaw K) := by
  refine F.okG sc_law (fun vs H Q E h => ?_) (fun cdv A outer s H vs Q E hgu hr h => ?_)
  · obtain ⟨a, ns, rfl, _⟩ := h
    rfl
  · obtain ⟨sc, ns, rfl, hS, hlen, q⟩ := h
    refine ⟨_, (pss_cons (ps_set (i := 1) sc_law.nd rfl (.inl rfl) (pe_call G_law_draws (hr.mono (by decide)) rfl g_law_draws k_law_draws b_law_draws .nil pass0 (pa_cons (pv 0) pa_nil)))
  (pss_cons (ps_expr (pe_bm0 PySem.F.plainAttrs_list PySem.F.slot_list_reverse PySem.F.type_list_reverse mt_reverse (pv 1)))
  (pss_cons (ps_set (i := 2) sc_law.nd rfl (.inl rfl) (pe_ix ix_list (pe_lst (pa_cons pe_str (pa_cons pe_str (pa_cons pe_str (pa_cons pe_str (pa_cons pe_str pa_nil)))))) (pe_op op_mod (pe_callTy call_int1 (by rfl) z_int boot_int (pa_cons (pe_call G_law_next (hr.mono (by decide)) rfl g_law_next k_law_next b_law_next .nil pass0 (pa_cons (pv 1) pa_nil)) pa_nil)) pe_int) (fun _ _ => rfl)))
  (pss_cons (ps_set (i := 3) sc_law.nd rfl (.inl rfl) (pe_op op_mod (pe_callTy call_int1 (by rfl) z_int boot_int (pa_cons (pe_call G_law_next (hr.mono (by decide)) rfl g_law_next k_law_next b_law_next .nil pass0 (pa_cons (pv 1) pa_nil)) pa_nil)) pe_int))
  (pss_cons (ps_set (i := 4) sc_law.nd rfl (.inl rfl) (pe_call G_law_drawn (hr.mono (by decide)) rfl g_law_drawn k_law_drawn b_law_drawn .nil pass0 (pa_cons (pv 1) (pa_cons (pv 2) (pa_cons (pv 3) (pa_cons (pv 3) pa_nil))))))
  (pss_cons (ps_set (i := 5) sc_law.nd rfl (.inl rfl) (pe_call G_law_drawn (hr.mono (by decide)) rfl g_law_drawn k_law_drawn b_law_drawn .nil pass0 (pa_cons (pv 1) (pa_cons (pv 2) (pa_cons (pv 3) (pa_cons (pv 3) pa_nil))))))
  (Evl.pss_cut (ps_for PassesOwn.never rfl (pi_list (pe_lst (pa_cons (pe_tup (pa_cons (pv 4) (pa_cons (pv 5) pa_nil))) (pa_cons (pe_tup (pa_cons (pv 5) (pa_cons (pv 4) pa_nil))) (pa_cons (pe_tup (pa_cons (pv 4) (pa_cons (pe_ix ix_tup (pe_call G_put (hr.mono (by decide)) rfl g_put k_put b_put .nil passLN (pa_cons (pv 4) (pa_cons (pv 5) pa_nil))) pe_int (fun _ _ => rfl)) pa_nil))) pa_nil))))) (pg_tup rfl (pgs_cons (pg_name (i := 6) sc_law.nd rfl (.inl rfl)) (pgs_cons (pg_name (i := 7) sc_law.nd rfl (.inl rfl)) pgs_nil))) (Evl.pss_cut (ps_set (i := 8) sc_law.nd rfl (.inl rfl) (pe_callG hgu G_law_told (hr.mono (by decide)) rfl g_law_told k_law_told b_law_told .nil (pa_cons (pv 2) (pa_cons (pv 6) (pa_cons (pv 7) pa_nil)))))
  (Evl.pss_cut (ps_if (pt_cmpR op_gt (pe_call G_through (hr.mono (by decide)) rfl g_through k_through b_through .nil passLN (pa_cons (pe_ix ix_tup (pe_call G_put (hr.mono (by decide)) rfl g_put k_put b_put .nil passLN (pa_cons (pv 6) (pa_cons (pv 7) pa_nil))) pe_int (fun _ _ => rfl)) pa_nil)) (pe_callB (call_min2 rfl) (by rfl) z_min boot_min (pa_cons (pe_call G_through (hr.mono (by decide)) rfl g_through k_through b_through .nil passLN (pa_cons (pv 6) pa_nil)) (pa_cons (pe_call G_through (hr.mono (by decide)) rfl g_through k_through b_through .nil passLN (pa_cons (pv 7) pa_nil)) pa_nil))) (nomark _)) (pss_one (ps_ret pe_bl)) pss_nil)
  (pss_one (ps_if (pt_cmpR op_gt (pe_callB call_len_seq (by rfl) z_len boot_len (pa_cons (pe_call G_law_goes (hr.mono (by decide)) rfl g_law_goes k_law_goes b_law_goes .nil pass0 (pa_cons (pv 6) pa_nil)) pa_nil)) (pe_callB call_len_seq (by rfl) z_len boot_len (pa_cons (pe_call G_law_goes (hr.mono (by decide)) rfl g_law_goes k_law_goes b_law_goes .nil pass0 (pa_cons (pv 7) pa_nil)) pa_nil)) (nomark _)) (pss_cons (ps_if (pt_cmpR op_notN (pv 8) pe_non (nomark _)) (pss_one (ps_ret pe_bl)) pss_nil)
  (pss_one (ps_for PassesOwn.never rfl (pi_range1 rfl z_range (pa_cons pe_int pa_nil)) (pg_name (i := 9) sc_law.nd rfl (.inl rfl)) (pss_cons (ps_set (i := 10) sc_law.nd rfl (.inl rfl) (pe_call G_law_drawn (hr.mono (by decide)) rfl g_law_drawn k_law_drawn b_law_drawn .nil pass0 (pa_cons (pv 1) (pa_cons (pv 2) (pa_cons (pv 3) (pa_cons (pv 3) pa_nil))))))
  (pss_one (ps_if (pt_cmpR (op_eqD (room64 hr)) (pe_ix ix_tup (pe_callG hgu G_law_stacked (hr.mono (by decide)) rfl g_law_stacked k_law_stacked b_law_stacked .nil (pa_cons (pv 10) (pa_cons (pv 7) (pa_cons (pe_call G_law_drawn (hr.mono (by decide)) rfl g_law_drawn k_law_drawn b_law_drawn .nil pass0 (pa_cons (pv 1) (pa_cons (pv 2) (pa_cons (pv 3) (pa_cons (pv 3) pa_nil))))) pa_nil)))) pe_int (fun _ _ => rfl)) (pv 6) (nomark _)) (pss_one (ps_ret pe_bl)) pss_nil)))))) (pss_cons (ps_if (L2.PW.pt (pw_or (pt_not (pt_val (pe_callB call_isi (by rfl) z_isinstance boot_isinstance (pa_cons (pv 8) (pa_cons (pe_bltn rfl z_tuple boot_tuple (show RelV (V.ty "tuple") (Value.type "tuple") from rfl)) pa_nil))))) (pw_or1 (pt_cmpR op_ne (pe_callB call_len_seq (by rfl) z_len boot_len (pa_cons (pv 8) pa_nil)) pe_int (nomark _))))) (pss_one (ps_ret pe_bl)) pss_nil)
  (pss_cons (ps_asg (pv 8) (pg_tup rfl (pgs_cons (pg_name (i := 10) sc_law.nd rfl (.inl rfl)) (pgs_cons (pg_name (i := 11) sc_law.nd rfl (.inl rfl)) (pgs_cons (pg_name (i := 12) sc_law.nd rfl (.inl rfl)) pgs_nil)))))
  (Evl.pss_cut (ps_if (L2.PW.pt (pw_or (pt_cmpR op_notBl (pe_call G_is_in (hr.mono (by decide)) rfl g_is_in k_is_in b_is_in .nil passLN (pa_cons (pv 2) (pa_cons (pv 10) pa_nil))) pe_bl (nomark _)) (pw_or1 (pt_cmpR op_notBl (pe_call G_is_in (hr.mono (by decide)) rfl g_is_in k_is_in b_is_in .nil passLN (pa_cons (pv 2) (pa_cons (pv 12) pa_nil))) pe_bl (nomark _))))) (pss_one (ps_ret pe_bl)) pss_nil)
  (pss_one (ps_if (L2.PW.pt (pw_or (pt_cmpR (op_neD (room64 hr)) (pe_callG hgu G_law_stacked (hr.mono (by decide)) rfl g_law_stacked k_law_stacked b_law_stacked .nil (pa_cons (pv 10) (pa_cons (pv 7) (pa_cons (pv 12) pa_nil)))) (pe_tup (pa_cons (pv 11) (pa_cons (pv 6) pa_nil))) (nomark _)) (pw_or (pt_cmpR (op_neD (room64 hr)) (pe_slice sl_tup (pv 10) po_none (po_some pe_int)) (pe_tup (pa_cons (pv 3) (pa_cons (pv 3) pa_nil))) (nomark _)) (pw_or1 (pt_cmpR (op_neD (room64 hr)) (pe_slice sl_tup (pv 12) po_none (po_some pe_int)) (pe_tup (pa_cons (pv 3) (pa_cons (pv 3) pa_nil))) (nomark _)))))) (pss_one (ps_ret pe_bl)) pss_nil))))))))))
  (Evl.pss_cut (ps_set (i := 13) sc_law.nd rfl (.inl rfl) (pe_tup (pa_cons pe_int (pa_cons pe_int (pa_cons (pe_tup (pa_cons (pe_tup (pa_cons pe_int pa_nil)) pa_nil)) pa_nil)))))
  (Evl.pss_cut (ps_if (L2.PW.pt (pw_or (pt_cmpR op_ne (pe_callG hgu G_law_told (hr.mono (by decide)) rfl g_law_told k_law_told b_law_told .nil (pa_cons pe_str (pa_cons (pv 13) (pa_cons (pv 13) pa_nil)))) pe_str (nomark _)) (pw_or1 (pt_cmpR op_ne (pe_callG hgu G_law_told (hr.mono (by decide)) rfl g_law_told k_law_told b_law_told .nil (pa_cons (pv 2) (pa_cons (pv 4) (pa_cons (pv 13) pa_nil)))) pe_str (nomark _))))) (pss_one (ps_ret pe_bl)) pss_nil)
  (Evl.pss_cut (ps_if (L2.PW.pt (pw_and (pt_cmpR op_ne (pv 2) pe_str (nomark _)) (pw_and1 (pt_cmpR op_ne (pe_callG hgu G_law_told (hr.mono (by decide)) rfl g_law_told k_law_told b_law_told .nil (pa_cons (pv 2) (pa_cons (pe_call G_law_from (hr.mono (by decide)) rfl g_law_from k_law_from b_law_from .nil pass0 (pa_cons pe_int (pa_cons pe_int (pa_cons (pe_lst (pa_cons pe_int (pa_cons pe_int (pa_cons pe_int (pa_cons pe_int pa_nil))))) pa_nil)))) (pa_cons (pv 4) pa_nil)))) pe_str (nomark _))))) (pss_one (ps_ret pe_bl)) pss_nil)
  (pss_cons (ps_set (i := 14) sc_law.nd rfl (.inl rfl) (pe_call G_law_from (hr.mono (by decide)) rfl g_law_from k_law_from b_law_from .nil pass0 (pa_cons (pe_op op_add (pv 3) pe_int) (pa_cons (pe_op op_add (pv 3) pe_int) (pa_cons (pe_op op_rep (pe_listRg rfl rfl z_list (prg_1 rfl z_range (pe_op op_add (pv 3) pe_int))) pe_int) pa_nil)))))
  (pss_one (ps_ret (pe_and (pe_cmpR op_eq (pe_callG hgu G_law_told (hr.mono (by decide)) rfl g_law_told k_law_told b_law_told .nil (pa_cons (pv 2) (pa_cons (pv 14) (pa_cons (pv 4) pa_nil)))) pe_str (nomark _)) (pe_one (pe_cmpR op_eq (pe_callG hgu G_law_told (hr.mono (by decide)) rfl g_law_told k_law_told b_law_told .nil (pa_cons (pv 2) (pa_cons (pv 4) (pa_cons (pv 14) pa_nil)))) pe_str (nomark _))))))))))))))))), ?_⟩
    have szl : 20000 ≤ sizeLine := by decide
    refine ⟨_, rfl, sc, ns, rfl, hS, hlen, fun H1 r ds s1 nr hL => ?_⟩
    refine ⟨_, rfl, .inl ⟨rfl, _, .inl (.inl hL)⟩, r, _, rfl, rfl, hL, ?_⟩
    have hr1 : upd H1 r (.lst (ds.map V.int).reverse) r = some (.lst (ds.reverse.map V.int)) := by rw [upd_same, List.map_reverse]
    revert hr1
    generalize upd H1 r (.lst (ds.map V.int).reverse) = H2
    generalize ds.reverse = ds
    intro hr1
    clear hL s1 nr hS
    refine ⟨(by show 5 ≤ sizeLine; omega), fun pF npF => ?_⟩
    have sF := same_upd (o := .lst (fam5.map V.str)) npF
    have nrF : pF ≠ r := fun e => by rw [e, hr1] at npF; exact nomatch npF
    have hrF := sF _ _ hr1
    have hF : upd H2 pF (.lst (fam5.map V.str)) pF = some (.lst (fam5.map V.str)) := upd_same
    refine ⟨_, rfl, r, ds, rfl, hrF, fun n0 ds0 => .inl ⟨n0, rfl, n0, 5, rfl, rfl, (show (0 : Int) < 5 by decide), ?_⟩⟩
    have m0 := mod_lt8 n0 (show (0 : Int) < 5 by decide)
    obtain ⟨j0, hj0, ej0⟩ : ∃ j : Nat, j < 5 ∧ n0 % 5 = (j : Int) := ⟨(n0 % 5).toNat, by omega, by omega⟩
    obtain ⟨z, hz⟩ : ∃ z, fam5[j0]? = some z := ⟨_, List.getElem?_eq_getElem (by exact hj0)⟩
    dsimp only
    rw [ej0]
    have mz5 := List.mem_of_getElem? hz
    obtain ⟨mz, ze⟩ := fam5_ok z mz5
    refine ⟨pF, fam5.map V.str, (j0 : Int), .str z, rfl, rfl, .inl (.inl (by rw [upd_ne nrF]; exact hF)), atI_nat (by rw [List.getElem?_map, hz]; rfl), ?_⟩
    refine ⟨_, rfl, r, ds0, rfl, upd_same, fun n1 ds1 => .inl ⟨n1, rfl, n1, 4, rfl, rfl, (show (0 : Int) < 4 by decide), ?_⟩⟩
    have m1 := mod_lt8 n1 (show (0 : Int) < 4 by decide)
    obtain ⟨n, n3, en⟩ : ∃ n : Nat, n ≤ 3 ∧ n1 % 4 = (n : Int) := ⟨(n1 % 4).toNat, by omega, by omega⟩
    dsimp only
    rw [en]
    refine ⟨_, rfl, _, rfl, _, rfl, _, rfl, r, ds1, z, n, n, rfl, by omega, by omega, upd_same, fun v1 l1 ds2 H4 sb4 hr4 hl1 fm1 dv1 => ?_⟩
    refine ⟨_, rfl, _, rfl, _, rfl, _, rfl, r, ds2, z, n, n, rfl, by omega, by omega, hr4, fun v2 l2 ds3 H5 sb5 hr5 hl2 fm2 dv2 => ?_⟩
    have snn : siz (n : Int) (n : Int) = true := siz_iff.mpr (by omega)
    have f1 : inFam z (n : Int) (blocksOf l1) = true := fam_in fm1 hl1 (fun _ => rfl) (fun _ => by omega)
    have f2 : inFam z (n : Int) (blocksOf l2) = true := fam_in fm2 hl2 (fun _ => rfl) (fun _ => by omega)
    have k5 : K2 H5 v1 v2 n l1 l2 := ⟨⟨dv1.butL hr4 sb5, snn, by omega⟩, ⟨dv2, snn, by omega⟩⟩
    clear m0 m1 hj0 ej0 hz en sb4 sb5 hr4 fm1 fm2 dv1 dv2 hF hrF sF npF hr1
    refine ⟨fun σ H' => ∃ (v6 v7 v8 v9 v10 v11 v12 : Option V) (ds : List Int), σ = [some (.ref sc), some (.ref r), some (.str z), some (.int (n : Int)), some v1, some v2, v6, v7, v8, v9, v10, v11, v12, none, none] ∧ K2 H' v1 v2 n l1 l2 ∧ H' r = some (.lst (ds.map V.int)), ?_, ?_⟩
    · refine ⟨_, rfl, _, rfl, (by show 2 ≤ sizeLine; omega), fun p1 np1 => ?_⟩
      have w1 := same_upd (o := .tup [v1, v2]) np1
      refine ⟨_, rfl, _, rfl, (by show 2 ≤ sizeLine; omega), fun p2 np2 => ?_⟩
      have w2 := same_upd (o := .tup [v2, v1]) np2
      have w12 := Same.trans w1 w2
      have k7 := k5.same w12
      refine ⟨_, rfl, _, rfl, _, rfl, v1, v2, n, n, _, n, n, _, rfl, k7.d1.1, k7.d1.ok, k7.d2.1, k7.d2.ok, .inr ⟨n, n, l1, rfl, rfl, rfl, snn, by omega, .inr ⟨n, n, l2, rfl, rfl, rfl, snn, by omega, fun ne => absurd rfl ne, fun _ big => by omega, fun _ _ tp vm H8 s8 htp dm => ?_⟩⟩⟩
      refine ⟨tp, _, 1, vm, rfl, rfl, .inl (.inl htp), rfl, (by show 2 ≤ sizeLine; omega), fun p3 np3 => ?_⟩
      have w3 := same_upd (o := .tup [v1, vm]) np3
      refine ⟨(by show 3 ≤ sizeLine; omega), fun L nL => ?_⟩
      have w4 := same_upd (o := .lst [.ref p1, .ref p2, .ref p3]) nL
      obtain ⟨HL, eHL⟩ : ∃ HL, HL = upd (upd H8 p3 (.tup [v1, vm])) L (.lst [.ref p1, .ref p2, .ref p3]) := ⟨_, rfl⟩
      have s8L : Same H8 HL := by rw [eHL]; exact Same.trans w3 w4
      have s1L : Same (upd H5 p1 (.tup [v1, v2])) HL := Same.trans w2 (Same.trans s8 s8L)
      have s2L : Same (upd (upd H5 p1 (.tup [v1, v2])) p2 (.tup [v2, v1])) HL := Same.trans s8 s8L
      have s5L : Same H5 HL := Same.trans w1 s1L
      have hL : HL L = some (.lst [.ref p1, .ref p2, .ref p3]) := by rw [eHL]; exact upd_same
      have hLr : HL r = some (.lst (ds3.map V.int)) := s5L _ _ hr5
      have nLr : L ≠ r := fun e => by
        rw [e] at nL
        have := (Same.trans w1 (Same.trans w2 (Same.trans s8 w3))) _ _ hr5
        rw [this] at nL
        exact nomatch nL
      have kL := k5.same s5L
      have aM : DgAt HL vm n n (putS n n n l1 l2) := dm.same s8L
      have fM : inFam z (n : Int) (blocksOf (putS n n n l1 l2)) = true := fam_put hl1 hl2 (by omega) f1 f2
      have el : ∀ (i : Nat) (y : V), ([.ref p1, .ref p2, .ref p3] : List V)[i]? = some y → ∃ (p : Addr) (u1 u2 : V) (m1 m2 : List Int), y = .ref p ∧ HL p = some (.tup [u1, u2]) ∧ K2 HL u1 u2 n m1 m2 ∧ inFam z (n : Int) (blocksOf m1) = true ∧ inFam z (n : Int) (blocksOf m2) = true ∧ m1.length = n + n ∧ m2.length = n + n := fun i y hy => by
        match i, hy with
        | 0, hy => exact ⟨p1, v1, v2, l1, l2, (Option.some.inj hy).symm, s1L _ _ upd_same, kL, f1, f2, hl1, hl2⟩
        | 1, hy => exact ⟨p2, v2, v1, l2, l1, (Option.some.inj hy).symm, s2L _ _ upd_same, ⟨kL.d2, kL.d1⟩, f2, f1, hl2, hl1⟩
        | 2, hy => exact ⟨p3, v1, vm, l1, _, (Option.some.inj hy).symm, (by rw [eHL]; exact w4 _ _ upd_same), ⟨kL.d1, aM⟩, f1, fM, hl1, putS_lenN hl1 hl2⟩
      clear w1 w2 w12 k7 s8 htp dm w3 w4 s8L s1L s2L aM fM np1 np2 np3 nL
      refine ⟨L, rfl, ⟨_, .inl (.inl (by rw [← eHL]; exact hL))⟩, for_list (xs := [.ref p1, .ref p2, .ref p3]) (fun i σ H' => ∃ (v6 v7 v8 v9 v10 v11 v12 : Option V) (ds : List Int), σ = [some (.ref sc), some (.ref r), some (.str z), some (.int (n : Int)), some v1, some v2, v6, v7, v8, v9, v10, v11, v12, none, none] ∧ SameBut r HL H' ∧ H' r = some (.lst (ds.map V.int)))
        ⟨none, none, none, none, none, none, none, ds3, rfl, (by rw [eHL]; exact fun _ _ _ e => e), (by rw [← eHL]; exact hLr)⟩ (fun i σ H' _ ⟨_, _, _, _, _, _, _, _, _, sb, _⟩ => .inl (.inl (sb _ _ nLr hL))) (fun i y σ H9 hy hP => ?_) (fun σ H9 hP => ?_)⟩
      · obtain ⟨v6, v7, v8, v9, v10, v11, v12, ds, rfl, sb9, hr9⟩ := hP
        obtain ⟨p, u1, u2, m1, m2, rfl, hp, kp, g1, g2, lm1, lm2⟩ := el i y hy
        have nrp : p ≠ r := ne_of hp hLr (fun z => nomatch z)
        have hp9 := sb9 _ _ nrp hp
        have k9 := kp.butL hLr sb9
        clear el eHL
        refine ⟨p, _, rfl, .inl (.inl hp9), rfl, _, _, rfl, _, _, rfl, rfl, ?_⟩
        refine ⟨fun σ H' => ∃ vt, σ = [some (.ref sc), some (.ref r), some (.str z), some (.int (n : Int)), some v1, some v2, some u1, some u2, some vt, v9, v10, v11, v12, none, none] ∧ Same H9 H' ∧ (((endT n m2).length < (endT n m1).length ∧ vt = .non) ∨ ((endT n m1).length ≤ (endT n m2).length ∧ ∃ (t : Addr) (vu vv : V) (lu lv : List Int), vt = .ref t ∧ H' t = some (.tup [vu, .int ((hid (putM n n n lu m2) (putS n n n lu m2) + hid (putM n n n (putS n n n lu m2) lv) (putS n n n (putS n n n lu m2) lv) : Nat) : Int), vv]) ∧ DgAt H' vu n n lu ∧ DgAt H' vv n n lv ∧ inFam z n (blocksOf lu) = true ∧ inFam z n (blocksOf lv) = true ∧ blocksOf (putS n n n (putS n n n lu m2) lv) = blocksOf m1)), ?_, ?_⟩
        · exact ⟨_, rfl, _, rfl, _, rfl, z, u1, u2, n, n, _, n, n, _, rfl, k9.d1.1, k9.d1.ok, k9.d2.1, k9.d2.ok, mz, fun h => absurd h ze, fun _ => ⟨k9.d1.dg, .inr ⟨k9.d2.dg, .inr ⟨⟨rfl, rfl⟩, ⟨rfl, rfl⟩, .inr ⟨g1, g2, n, m1, m2, rfl, n3, rfl, rfl, lm1, lm2, snn, fun lt H' s' => ⟨_, rfl, s', .inl ⟨lt, rfl⟩⟩, fun le t vu vv lu lv H' s' ht du dv fu fv eq => ⟨_, rfl, s', .inr ⟨le, t, vu, vv, lu, lv, rfl, ht, du, dv, fu, fv, eq⟩⟩⟩⟩⟩⟩⟩
        rintro σ H10 ⟨vt, rfl, s910, told⟩
        have k10 := k9.same s910
        have hr10 := s910 _ _ hr9
        have sb10 : SameBut r HL H10 := SameBut.trans sb9 fun b o _ e => s910 b o e
        clear k9 sb9 hr9 s910 hp9
        refine ⟨fun σ H' => σ = [some (.ref sc), some (.ref r), some (.str z), some (.int (n : Int)), some v1, some v2, some u1, some u2, some vt, v9, v10, v11, v12, none, none] ∧ Same H10 H', ?_, ?_⟩
        · refine ⟨_, rfl, _, rfl, u1, u2, n, n, _, n, n, _, rfl, k10.d1.1, k10.d1.ok, k10.d2.1, k10.d2.ok, .inr ⟨n, n, m1, rfl, rfl, rfl, snn, by omega, .inr ⟨n, n, m2, rfl, rfl, rfl, snn, by omega, fun ne => absurd rfl ne, fun _ big => by omega, fun _ _ tq vq H11 s11 htq dq => ?_⟩⟩⟩
          refine ⟨tq, _, 1, vq, rfl, rfl, .inl (.inl htq), rfl, vq, n, n, _, rfl, dq.1, dq.ok, .inr ⟨n, n, putS n n n m1 m2, rfl, rfl, rfl, snn, by have := putS_lenN lm1 lm2; omega, fun H12 s12 => ?_⟩⟩
          have k12 := k10.same (Same.trans s11 s12)
          refine ⟨_, rfl, u1, n, n, _, rfl, k12.d1.1, k12.d1.ok, .inr ⟨n, n, m1, rfl, rfl, rfl, snn, by omega, fun H13 s13 => ?_⟩⟩
          have k13 := k12.same s13
          refine ⟨_, rfl, u2, n, n, _, rfl, k13.d2.1, k13.d2.ok, .inr ⟨n, n, m2, rfl, rfl, rfl, snn, by omega, fun H14 s14 => ?_⟩⟩
          obtain ⟨le1, le2⟩ := thr_le lm1 lm2
          refine ⟨_, _, rfl, _, _, rfl, rfl, _, rfl, if_neg_of (fun e => ?_) ⟨rfl, Same.trans (Same.trans s11 s12) (Same.trans s13 s14)⟩⟩
          have := of_decide_eq_true e
          split at this <;> omega
        rintro σ H11 ⟨rfl, s1011⟩
        have k11 := k10.same s1011
        have hr11 := s1011 _ _ hr10
        have sb11 : SameBut r HL H11 := SameBut.trans sb10 fun b o _ e => s1011 b o e
        have told : (((endT n m2).length < (endT n m1).length ∧ vt = .non) ∨ ((endT n m1).length ≤ (endT n m2).length ∧ ∃ (t : Addr) (vu vv : V) (lu lv : List Int), vt = .ref t ∧ H11 t = some (.tup [vu, .int ((hid (putM n n n lu m2) (putS n n n lu m2) + hid (putM n n n (putS n n n lu m2) lv) (putS n n n (putS n n n lu m2) lv) : Nat) : Int), vv]) ∧ DgAt H11 vu n n lu ∧ DgAt H11 vv n n lv ∧ inFam z n (blocksOf lu) = true ∧ inFam z n (blocksOf lv) = true ∧ blocksOf (putS n n n (putS n n n lu m2) lv) = blocksOf m1)) := by
          rcases told with h | ⟨le, t, vu, vv, lu, lv, e1, ht, du, dv, h⟩
          · exact .inl h
          · exact .inr ⟨le, t, vu, vv, lu, lv, e1, s1011 _ _ ht, du.same s1011, dv.same s1011, h⟩
        clear k10 hr10 sb10 s1011
        refine ⟨_, rfl, u1, n, n, m1, rfl, k11.d1, fun La esa H12 s12 hLa lea => ?_⟩
        refine ⟨La, esa, rfl, .inl (.inl (.inl hLa)), _, rfl, u2, n, n, m2, rfl, (k11.same s12).d2, fun Lb esb H13 s13 hLb leb => ?_⟩
        have s1113 := Same.trans s12 s13
        have k13 := k11.same s1113
        have hr13 := s1113 _ _ hr11
        have sb13 : SameBut r HL H13 := SameBut.trans sb11 fun b o _ e => s1113 b o e
        refine ⟨Lb, esb, rfl, .inl (.inl (.inl hLb)), _, _, rfl, rfl, _, rfl, ite2 (fun e => ?_) (fun e => ?_)⟩
        · have lt : (endT n m2).length < (endT n m1).length := by have := of_decide_eq_true e; omega
          obtain ⟨_, rfl⟩ : (endT n m2).length < (endT n m1).length ∧ vt = .non := by
            rcases told with h | h
            · exact h
            · exact absurd h.1 (by omega)
          refine ⟨_, rfl, rfl, _, rfl, if_neg_of (by decide) ?_⟩
          refine ⟨3, rfl, by decide, by decide, for_range (lo := 0) (n := 3) (fun j σ H' => ∃ (v9 v10 : Option V) (ds : List Int), σ = [some (.ref sc), some (.ref r), some (.str z), some (.int (n : Int)), some v1, some v2, some u1, some u2, some .non, v9, v10, v11, v12, none, none] ∧ SameBut r HL H' ∧ K2 H' u1 u2 n m1 m2 ∧ H' r = some (.lst (ds.map V.int)))
            ⟨v9, v10, ds, rfl, sb13, k13, hr13⟩ (fun j σ H14 hj hP => ?_) (fun σ H14 hP => ?_)⟩
          · obtain ⟨v9, v10, ds, rfl, sb14, k14, hr14⟩ := hP
            refine ⟨_, rfl, _, rfl, _, rfl, _, rfl, r, ds, z, n, n, rfl, by omega, by omega, hr14, fun va la ds2 H15 sb15 hr15 hla fma dva => ?_⟩
            have k15 := k14.butL hr14 sb15
            have aa : DgAt H15 va n n la := ⟨dva, snn, by omega⟩
            refine ⟨_, rfl, _, rfl, _, rfl, _, rfl, _, rfl, _, rfl, r, ds2, z, n, n, rfl, by omega, by omega, hr15, fun vb lb ds3 H16 sb16 hr16 hlb fmb dvb => ?_⟩
            have k16 := k15.butL hr15 sb16
            have ab : DgAt H16 vb n n lb := ⟨dvb, snn, by omega⟩
            refine ⟨va, u2, vb, n, la, m2, lb, rfl, aa.butL hr15 sb16, k16.d2, ab, n3, fun tp vp H17 s17 htp dp => ?_⟩
            have k17 := k16.same s17
            refine ⟨tp, _, 1, vp, rfl, rfl, .inl (.inl htp), rfl, _, rfl, _, _, dp.1.dp, k17.d1.1.dp, dDG_shaped _ _ _, dDG_shaped _ _ _, ?_⟩
            have lX := putS_lenN hla lm2
            rw [eqv_dg, decide_eq_false (fun ⟨_, _, e⟩ => by
              have h1 := thr_blocks (n := n) (by have := putS_lenN lX hlb; omega) (by omega) e
              have h2 := (thr_le lX hlb).1
              have h3 := (thr_le hla lm2).2
              omega)]
            have sb17 : SameBut r HL H17 := SameBut.trans (SameBut.trans sb14 (SameBut.trans sb15 sb16)) fun b o _ e => s17 b o e
            exact ⟨_, rfl, if_neg_of (by decide) ⟨_, _, ds3, rfl, sb17, k17, s17 _ _ hr16⟩⟩
          · obtain ⟨v9, v10, ds, rfl, sb14, k14, hr14⟩ := hP
            exact ⟨_, _, _, _, _, _, _, ds, rfl, sb14, hr14⟩
        · have le : (endT n m1).length ≤ (endT n m2).length := Nat.le_of_not_lt fun c => e (decide_eq_true (by omega))
          obtain ⟨_, t, vu, vv, lu, lv, rfl, ht, du, dv, fu, fv, eq⟩ : (endT n m1).length ≤ (endT n m2).length ∧ ∃ (t : Addr) (vu vv : V) (lu lv : List Int), vt = .ref t ∧ H11 t = some (.tup [vu, .int ((hid (putM n n n lu m2) (putS n n n lu m2) + hid (putM n n n (putS n n n lu m2) lv) (putS n n n (putS n n n lu m2) lv) : Nat) : Int), vv]) ∧ DgAt H11 vu n n lu ∧ DgAt H11 vv n n lv ∧ inFam z n (blocksOf lu) = true ∧ inFam z n (blocksOf lv) = true ∧ blocksOf (putS n n n (putS n n n lu m2) lv) = blocksOf m1 := by
            rcases told with h | h
            · exact absurd h.1 (by omega)
            · exact h
          have ht13 := s1113 _ _ ht
          have du13 := du.same s1113
          have dv13 := dv.same s1113
          refine ⟨_, rfl, _, _, _, _, true, rfl, .ty _, .base (.tup ht13), kit_ty (by decide +kernel), _, rfl, iteF ?_⟩
          refine ⟨_, rfl, t, _, rfl, .inr (.inl (.inl ht13)), rfl, _, rfl, iteF ?_⟩
          refine ⟨_, rfl, t, _, rfl, .inl (.inl ht13), rfl, _, _, rfl, _, _, rfl, _, _, rfl, rfl, ?_⟩
          refine ⟨fun σ H' => σ = [some (.ref sc), some (.ref r), some (.str z), some (.int (n : Int)), some v1, some v2, some u1, some u2, some (.ref t), v9, some vu, some (.int ((hid (putM n n n lu m2) (putS n n n lu m2) + hid (putM n n n (putS n n n lu m2) lv) (putS n n n (putS n n n lu m2) lv) : Nat) : Int)), some vv, none, none] ∧ Same H13 H', ?_, ?_⟩
          · refine ⟨_, rfl, _, rfl, z, vu, n, n, _, rfl, du13.1, du13.ok, fun nf => absurd mz nf, fun _ nd => absurd du13.dg nd, fun _ _ H14 s14 => ?_⟩
            refine ⟨true, true, by rw [fu], rfl, _, rfl, if_neg_of (by decide) ?_⟩
            have dv14 := dv13.same s14
            refine ⟨_, rfl, _, rfl, z, vv, n, n, _, rfl, dv14.1, dv14.ok, fun nf => absurd mz nf, fun _ nd => absurd dv14.dg nd, fun _ _ H15 s15 => ?_⟩
            exact ⟨true, true, by rw [fv], rfl, _, rfl, if_neg_of (by decide) ⟨rfl, Same.trans s14 s15⟩⟩
          rintro σ H14 ⟨rfl, s14⟩
          have k14 := k13.same s14
          have du14 := du13.same s14
          have dv14 := dv13.same s14
          refine ⟨_, rfl, _, rfl, _, rfl, vu, u2, vv, n, lu, m2, lv, rfl, du14, k14.d2, dv14, n3, fun tp vp H15 s15 htp dp => ?_⟩
          have dp1 := dp.1
          rw [eq] at dp1
          have k15 := k14.same s15
          have du15 := du14.same s15
          have dv15 := dv14.same s15
          refine ⟨_, rfl, _, rfl, (by show 2 ≤ sizeLine; omega), fun pa npa => ?_⟩
          have wa := same_upd (o := .tup [.int ((hid (putM n n n lu m2) (putS n n n lu m2) + hid (putM n n n (putS n n n lu m2) lv) (putS n n n (putS n n n lu m2) lv) : Nat) : Int), u1]) npa
          refine ⟨_, _, put_dp (wa _ _ htp) (dp1.same wa), put_dp upd_same (k15.same wa).d1.1, dPut_shaped _ _ _ _, dPut_shaped _ _ _ _, ?_⟩
          rw [eqv_dPut]
          refine ⟨_, rfl, if_neg_of (by decide) ?_⟩
          obtain ⟨tu, vbu, rfl, htu, _⟩ := id (du15.same wa).1
          obtain ⟨tw, vbw, rfl, htw, _⟩ := id (dv15.same wa).1
          have nw : ¬ (HT.sIx 3 0 none = 0 ∧ HT.sIx 3 3 (some 2) = 3) := by decide
          refine ⟨_, rfl, 2, rfl, tu, _, rfl, .inl (.inl htu), nw, fun pb npb => ?_⟩
          have wb := same_upd (o := .tup (cutV [.int (n : Int), .int (n : Int), vbu] none (some 2))) npb
          refine ⟨_, rfl, _, rfl, (by show 2 ≤ sizeLine; omega), fun pc npc => ?_⟩
          have wc := same_upd (o := .tup [.int (n : Int), .int (n : Int)]) npc
          refine ⟨dP2 n n, dP2 n n, .tup (.inl (.inl (wc _ _ upd_same))) (.cons (.int _) (.cons (.int _) .nil)), .tup (.inl (.inl upd_same)) (.cons (.int _) (.cons (.int _) .nil)), dP2_shaped _ _, dP2_shaped _ _, ?_⟩
          rw [eqv_P2, decide_eq_true ⟨rfl, rfl⟩]
          refine ⟨_, rfl, if_neg_of (by decide) ?_⟩
          have wbc := Same.trans wb wc
          refine ⟨_, rfl, 2, rfl, tw, _, rfl, .inl (.inl (wbc _ _ htw)), nw, fun pd npd => ?_⟩
          have wd := same_upd (o := .tup (cutV [.int (n : Int), .int (n : Int), vbw] none (some 2))) npd
          refine ⟨_, rfl, _, rfl, (by show 2 ≤ sizeLine; omega), fun pe npe => ?_⟩
          have we := same_upd (o := .tup [.int (n : Int), .int (n : Int)]) npe
          refine ⟨dP2 n n, dP2 n n, .tup (.inl (.inl (we _ _ upd_same))) (.cons (.int _) (.cons (.int _) .nil)), .tup (.inl (.inl upd_same)) (.cons (.int _) (.cons (.int _) .nil)), dP2_shaped _ _, dP2_shaped _ _, ?_⟩
          rw [eqv_P2, decide_eq_true ⟨rfl, rfl⟩]
          have sE := Same.trans (Same.trans s14 s15) (Same.trans wa (Same.trans wbc (Same.trans wd we)))
          exact ⟨_, rfl, iteF ⟨_, _, _, _, _, _, _, ds, rfl, SameBut.trans sb13 fun b o _ e => sE b o e, sE _ _ hr13⟩⟩
      · obtain ⟨v6, v7, v8, v9, v10, v11, v12, ds, rfl, sb9, hr9⟩ := hP
        exact ⟨_, _, _, _, _, _, _, ds, rfl, kL.butL hLr sb9, hr9⟩
    rintro σ H6 ⟨v6, v7, v8, v9, v10, v11, v12, ds, rfl, k6, hr6⟩
    have o1b : DgOk 1 1 [[0]] := ⟨by decide, by decide, by decide, by decide⟩
    refine ⟨fun σ H' => ∃ pb, σ = [some (.ref sc), some (.ref r), some (.str z), some (.int (n : Int)), some v1, some v2, v6, v7, v8, v9, v10, v11, v12, some (.ref pb), none] ∧ K2 H' v1 v2 n l1 l2 ∧ DGv H' (.ref pb) 1 1 [[0]], ?_, ?_⟩
    · refine ⟨(by show 1 ≤ sizeLine; omega), fun p1 np1 => ⟨(by show 1 ≤ sizeLine; omega), fun p2 np2 => ⟨(by show 3 ≤ sizeLine; omega), fun p3 np3 => ?_⟩⟩⟩
      have w1 := same_upd (o := .tup [.int 0]) np1
      have w2 := same_upd (o := .tup [.ref p1]) np2
      have w3 := same_upd (o := .tup [.int 1, .int 1, .ref p2]) np3
      exact ⟨p3, rfl, k6.same (Same.trans w1 (Same.trans w2 w3)), p3, .ref p2, rfl, upd_same, p2, _, rfl, w3 _ _ upd_same, .cons ⟨p1, rfl, (Same.trans w2 w3) _ _ upd_same⟩ .nil⟩
    rintro σ H7 ⟨pb, rfl, k7, db⟩
    refine ⟨fun σ H' => σ = [some (.ref sc), some (.ref r), some (.str z), some (.int (n : Int)), some v1, some v2, v6, v7, v8, v9, v10, v11, v12, some (.ref pb), none] ∧ Same H7 H', ?_, ?_⟩
    · refine ⟨_, rfl, _, rfl, "even", .ref pb, .ref pb, 1, 1, _, 1, 1, _, rfl, db, o1b, db, o1b, by decide, fun _ H8 s8 => ?_, fun ne => absurd rfl ne⟩
      refine ⟨rfl, _, rfl, ite_same ?_⟩
      refine ⟨_, rfl, _, rfl, _, rfl, z, v1, .ref pb, n, n, _, 1, 1, _, rfl, (k7.same s8).d1.1, k7.d1.ok, db.same s8, o1b, mz, fun h => absurd h ze, fun _ => ⟨k7.d1.dg, .inl ⟨bad82, fun H9 s9 => ?_⟩⟩⟩
      exact ⟨rfl, _, rfl, iteF ⟨rfl, Same.trans s8 s9⟩⟩
    rintro σ H8 ⟨rfl, s78⟩
    have k8 := k7.same s78
    clear k7 s78 db k6 hr6
    refine ⟨fun σ H' => σ = [some (.ref sc), some (.ref r), some (.str z), some (.int (n : Int)), some v1, some v2, v6, v7, v8, v9, v10, v11, v12, some (.ref pb), none] ∧ Same H8 H', ?_, ?_⟩
    · refine ⟨_, rfl, rfl, _, rfl, ?_⟩
      by_cases zp : z = "parts"
      · exact if_neg_of (by rw [zp]; decide) (if_neg_of Bool.false_ne_true ⟨rfl, Same.refl _⟩)
      · refine if_pos_of (by rw [decide_eq_false (fun h => zp (V.str.inj h))]; rfl) ?_
        refine ⟨_, rfl, (by show 4 ≤ sizeLine; omega), fun pl npl => ?_⟩
        have wl := same_upd (o := .lst [.int 0, .int 0, .int 0, .int 0]) npl
        refine ⟨2, 2, pl, [0, 0, 0, 0], rfl, .inl (.inl upd_same), by decide, rfl, fun vd H9 s9 _ dd => ?_⟩
        have k9 := k8.same (Same.trans wl s9)
        have ad : DgAt H9 vd 2 2 [0, 0, 0, 0] := ⟨dd, by decide, by decide⟩
        refine ⟨_, rfl, z, vd, v1, 2, 2, _, n, n, _, rfl, ad.1, ad.ok, k9.d1.1, k9.d1.ok, mz, fun h => absurd h ze, fun _ => ⟨ad.dg, .inr ⟨k9.d1.dg, ?_⟩⟩⟩
        have s9' := Same.trans wl s9
        by_cases n2 : n = 2
        · subst n2
          refine .inr ⟨⟨rfl, rfl⟩, ⟨rfl, rfl⟩, .inl ⟨.inl (big82 z mz5 zp), fun H10 s10 => ?_⟩⟩
          exact ⟨rfl, _, rfl, iteF ⟨rfl, Same.trans s9' s10⟩⟩
        · refine .inl ⟨fun h => n2 (by omega), fun H10 s10 => ?_⟩
          exact ⟨rfl, _, rfl, iteF ⟨rfl, Same.trans s9' s10⟩⟩
    rintro σ H9 ⟨rfl, s89⟩
    have k9 := k8.same s89
    refine ⟨_, rfl, _, _, rfl, rfl, _, rfl, _, _, rfl, rfl, _, rfl, _, _, rfl, rfl, ?_⟩
    refine ⟨_, rfl, RgOk.of_le (by omega) (by omega) (by omega) (by omega), fun pq npq => ?_⟩
    have wq := same_upd (o := .lst (rgV 0 ((n : Int) + 1))) npq
    refine ⟨pq, 2, _, rfl, rfl, upd_same, by decide, by decide, by rw [rgV_length]; show _ * 2 ≤ _; omega, fun pm npm => ?_⟩
    have wm := same_upd (o := .lst (List.replicate (2 : Int).toNat (rgV 0 ((n : Int) + 1))).flatten) npm
    have lm : (ixs (n + 1) ++ ixs (n + 1)).length = (n + 1) + (n + 1) := by rw [List.length_append, ixs_len']
    refine ⟨(n : Int) + 1, (n : Int) + 1, pm, ixs (n + 1) ++ ixs (n + 1), rfl, .inl (.inl (by rw [← rgV_ixs82]; exact upd_same)), by omega, by omega, fun vd H10 s10 _ dd => ?_⟩
    have s910 := Same.trans wq (Same.trans wm s10)
    have k10 := k9.same s910
    have ad : DgAt H10 vd ((n : Int) + 1) ((n : Int) + 1) (ixs (n + 1) ++ ixs (n + 1)) := ⟨dd, siz_iff.mpr (by omega), by omega⟩
    refine ⟨_, rfl, _, rfl, _, rfl, z, vd, v1, _, _, _, n, n, _, rfl, ad.1, ad.ok, k10.d1.1, k10.d1.ok, mz, fun h => absurd h ze, fun _ => ⟨ad.dg, .inr ⟨k10.d1.dg, .inl ⟨fun h => by omega, fun H11 s11 => ?_⟩⟩⟩⟩
    refine ⟨rfl, _, rfl, if_pos_of (decide_eq_true rfl) ?_⟩
    have k11 := k10.same s11
    have ad11 := ad.same s11
    refine ⟨_, rfl, _, rfl, _, rfl, z, v1, vd, n, n, _, _, _, _, rfl, k11.d1.1, k11.d1.ok, ad11.1, ad11.ok, mz, fun h => absurd h ze, fun _ => ⟨k11.d1.dg, .inr ⟨ad11.dg, .inl ⟨fun h => by omega, fun H12 s12 => ?_⟩⟩⟩⟩
    refine ⟨rfl, ?_⟩
    rw [decide_eq_true rfl]
    exact q H12
end

theorem all_mk {P : Program} {w : World} {K : PySem.W.Frag} {h : Heap} {mg : Str → Option Value} {fa : Addr} (X : K.In h) (G : h.Ns mainGlobals mg) (hfa : mg "law" = some (.ref fa))
    {f_law_number : Addr} {od_law_number an_law_number : Option Addr} {sl_law_number : Array (Option Value)} {oc_law_number kV_law_number dc_law_number pm_law_number cd_law_number ct_law_number : Value}
    {f_law_next : Addr} {od_law_next an_law_next : Option Addr} {sl_law_next : Array (Option Value)} {oc_law_next kV_law_next dc_law_next pm_law_next cd_law_next ct_law_next : Value}
    {f_law_draws : Addr} {od_law_draws an_law_draws : Option Addr} {sl_law_draws : Array (Option Value)} {oc_law_draws kV_law_draws dc_law_draws pm_law_draws cd_law_draws ct_law_draws : Value}
    {f_is_size_ : Addr} {od_is_size_ an_is_size_ : Option Addr} {sl_is_size_ : Array (Option Value)} {oc_is_size_ kV_is_size_ dc_is_size_ pm_is_size_ cd_is_size_ ct_is_size_ : Value}
    {f_check_size_ : Addr} {od_check_size_ an_check_size_ : Option Addr} {sl_check_size_ : Array (Option Value)} {oc_check_size_ kV_check_size_ dc_check_size_ pm_check_size_ cd_check_size_ ct_check_size_ : Value}
    {f_is_diagram : Addr} {od_is_diagram an_is_diagram : Option Addr} {sl_is_diagram : Array (Option Value)} {oc_is_diagram kV_is_diagram dc_is_diagram pm_is_diagram cd_is_diagram ct_is_diagram : Value}
    {f_check_diagram : Addr} {od_check_diagram an_check_diagram : Option Addr} {sl_check_diagram : Array (Option Value)} {oc_check_diagram kV_check_diagram dc_check_diagram pm_check_diagram cd_check_diagram ct_check_diagram : Value}
    {f_from_labels : Addr} {od_from_labels an_from_labels : Option Addr} {sl_from_labels : Array (Option Value)} {oc_from_labels kV_from_labels dc_from_labels pm_from_labels cd_from_labels ct_from_labels : Value}
    {f_law_seen : Addr} {od_law_seen an_law_seen : Option Addr} {sl_law_seen : Array (Option Value)} {oc_law_seen kV_law_seen dc_law_seen pm_law_seen cd_law_seen ct_law_seen : Value}
    {f_law_from : Addr} {od_law_from an_law_from : Option Addr} {sl_law_from : Array (Option Value)} {oc_law_from kV_law_from dc_law_from pm_law_from cd_law_from ct_law_from : Value}
    {f_law_pick : Addr} {od_law_pick an_law_pick : Option Addr} {sl_law_pick : Array (Option Value)} {oc_law_pick kV_law_pick dc_law_pick pm_law_pick cd_law_pick ct_law_pick : Value}
    {f_check_family : Addr} {od_check_family an_check_family : Option Addr} {sl_check_family : Array (Option Value)} {oc_check_family kV_check_family dc_check_family pm_check_family cd_check_family ct_check_family : Value}
    {f_is_strand_ : Addr} {od_is_strand_ an_is_strand_ : Option Addr} {sl_is_strand_ : Array (Option Value)} {oc_is_strand_ kV_is_strand_ dc_is_strand_ pm_is_strand_ cd_is_strand_ ct_is_strand_ : Value}
    {f_is_block_size_ : Addr} {od_is_block_size_ an_is_block_size_ : Option Addr} {sl_is_block_size_ : Array (Option Value)} {oc_is_block_size_ kV_is_block_size_ dc_is_block_size_ pm_is_block_size_ cd_is_block_size_ ct_is_block_size_ : Value}
    {f_is_block_of_ : Addr} {od_is_block_of_ an_is_block_of_ : Option Addr} {sl_is_block_of_ : Array (Option Value)} {oc_is_block_of_ kV_is_block_of_ dc_is_block_of_ pm_is_block_of_ cd_is_block_of_ ct_is_block_of_ : Value}
    {f_is_in : Addr} {od_is_in an_is_in : Option Addr} {sl_is_in : Array (Option Value)} {oc_is_in kV_is_in dc_is_in pm_is_in cd_is_in ct_is_in : Value}
    {f_root_ : Addr} {od_root_ an_root_ : Option Addr} {sl_root_ : Array (Option Value)} {oc_root_ kV_root_ dc_root_ pm_root_ cd_root_ ct_root_ : Value}
    {f_piece_marks : Addr} {od_piece_marks an_piece_marks : Option Addr} {sl_piece_marks : Array (Option Value)} {oc_piece_marks kV_piece_marks dc_piece_marks pm_piece_marks cd_piece_marks ct_piece_marks : Value}
    {f_hidden_count : Addr} {od_hidden_count an_hidden_count : Option Addr} {sl_hidden_count : Array (Option Value)} {oc_hidden_count kV_hidden_count dc_hidden_count pm_hidden_count cd_hidden_count ct_hidden_count : Value}
    {f_put : Addr} {od_put an_put : Option Addr} {sl_put : Array (Option Value)} {oc_put kV_put dc_put pm_put cd_put ct_put : Value}
    {f_halves_ : Addr} {od_halves_ an_halves_ : Option Addr} {sl_halves_ : Array (Option Value)} {oc_halves_ kV_halves_ dc_halves_ pm_halves_ cd_halves_ ct_halves_ : Value}
    {f_through_halves_ : Addr} {od_through_halves_ an_through_halves_ : Option Addr} {sl_through_halves_ : Array (Option Value)} {oc_through_halves_ kV_through_halves_ dc_through_halves_ pm_through_halves_ cd_through_halves_ ct_through_halves_ : Value}
    {f_only_above_ : Addr} {od_only_above_ an_only_above_ : Option Addr} {sl_only_above_ : Array (Option Value)} {oc_only_above_ kV_only_above_ dc_only_above_ pm_only_above_ cd_only_above_ ct_only_above_ : Value}
    {f_only_below_ : Addr} {od_only_below_ an_only_below_ : Option Addr} {sl_only_below_ : Array (Option Value)} {oc_only_below_ kV_only_below_ dc_only_below_ pm_only_below_ cd_only_below_ ct_only_below_ : Value}
    {f_shifted_ : Addr} {od_shifted_ an_shifted_ : Option Addr} {sl_shifted_ : Array (Option Value)} {oc_shifted_ kV_shifted_ dc_shifted_ pm_shifted_ cd_shifted_ ct_shifted_ : Value}
    {f_with_blocks_ : Addr} {od_with_blocks_ an_with_blocks_ : Option Addr} {sl_with_blocks_ : Array (Option Value)} {oc_with_blocks_ kV_with_blocks_ dc_with_blocks_ pm_with_blocks_ cd_with_blocks_ ct_with_blocks_ : Value}
    {f_law_goes : Addr} {od_law_goes an_law_goes : Option Addr} {sl_law_goes : Array (Option Value)} {oc_law_goes kV_law_goes dc_law_goes pm_law_goes cd_law_goes ct_law_goes : Value}
    {f_law_joined : Addr} {od_law_joined an_law_joined : Option Addr} {sl_law_joined : Array (Option Value)} {oc_law_joined kV_law_joined dc_law_joined pm_law_joined cd_law_joined ct_law_joined : Value}
    {f_law_threaded : Addr} {od_law_threaded an_law_threaded : Option Addr} {sl_law_threaded : Array (Option Value)} {oc_law_threaded kV_law_threaded dc_law_threaded pm_law_threaded cd_law_threaded ct_law_threaded : Value}
    {f_law_drawn : Addr} {od_law_drawn an_law_drawn : Option Addr} {sl_law_drawn : Array (Option Value)} {oc_law_drawn kV_law_drawn dc_law_drawn pm_law_drawn cd_law_drawn ct_law_drawn : Value}
    {f_through : Addr} {od_through an_through : Option Addr} {sl_through : Array (Option Value)} {oc_through kV_through dc_through pm_through cd_through ct_through : Value}
    {f_spare_blocks_ : Addr} {od_spare_blocks_ an_spare_blocks_ : Option Addr} {sl_spare_blocks_ : Array (Option Value)} {oc_spare_blocks_ kV_spare_blocks_ dc_spare_blocks_ pm_spare_blocks_ cd_spare_blocks_ ct_spare_blocks_ : Value}
    {f_leading_ : Addr} {od_leading_ an_leading_ : Option Addr} {sl_leading_ : Array (Option Value)} {oc_leading_ kV_leading_ dc_leading_ pm_leading_ cd_leading_ ct_leading_ : Value}
    {f_led : Addr} {od_led an_led : Option Addr} {sl_led : Array (Option Value)} {oc_led kV_led dc_led pm_led cd_led ct_led : Value}
    {f_law_told : Addr} {od_law_told an_law_told : Option Addr} {sl_law_told : Array (Option Value)} {oc_law_told kV_law_told dc_law_told pm_law_told cd_law_told ct_law_told : Value}
    {f_law_stacked : Addr} {od_law_stacked an_law_stacked : Option Addr} {sl_law_stacked : Array (Option Value)} {oc_law_stacked kV_law_stacked dc_law_stacked pm_law_stacked cd_law_stacked ct_law_stacked : Value}
    {f_law : Addr} {od_law an_law : Option Addr} {sl_law : Array (Option Value)} {oc_law kV_law dc_law pm_law cd_law ct_law : Value}
    {CB : Addr}
    {CD : Addr}
    {CT : Addr}
    {CF : Addr}
    {tm_MOST_ON_A_SIDE : Tok}
    {tm_MOST_POINTS : Tok}
    {aF : Addr} {ddF : Option Addr} {nF : Nat} {slF : Array (Option Value)} {uf0 uf1 uf2 uf3 uf4 uf5 : Tok}
    {CE : Addr}
    (a_law_number : PySem.W.nsIn K mainGlobals "_law_number" = some (some (.ref f_law_number))) (l_law_number : K.lookup f_law_number = some ⟨oc_law_number, od_law_number, .func (PySem.W.fnOf "_law_number" "_law_number" (defArgs s_law_number) (defBody s_law_number) (defScope s_law_number) .none kV_law_number dc_law_number pm_law_number an_law_number cd_law_number ct_law_number), sl_law_number⟩) (c_law_number : PySem.W.codeIn K cd_law_number "_law_number" = true) (k_law_number : PySem.W.keepIn K (.ref f_law_number) = true)
    (a_law_next : PySem.W.nsIn K mainGlobals "_law_next" = some (some (.ref f_law_next))) (l_law_next : K.lookup f_law_next = some ⟨oc_law_next, od_law_next, .func (PySem.W.fnOf "_law_next" "_law_next" (defArgs s_law_next) (defBody s_law_next) (defScope s_law_next) .none kV_law_next dc_law_next pm_law_next an_law_next cd_law_next ct_law_next), sl_law_next⟩) (c_law_next : PySem.W.codeIn K cd_law_next "_law_next" = true) (k_law_next : PySem.W.keepIn K (.ref f_law_next) = true)
    (a_law_draws : PySem.W.nsIn K mainGlobals "_law_draws" = some (some (.ref f_law_draws))) (l_law_draws : K.lookup f_law_draws = some ⟨oc_law_draws, od_law_draws, .func (PySem.W.fnOf "_law_draws" "_law_draws" (defArgs s_law_draws) (defBody s_law_draws) (defScope s_law_draws) .none kV_law_draws dc_law_draws pm_law_draws an_law_draws cd_law_draws ct_law_draws), sl_law_draws⟩) (c_law_draws : PySem.W.codeIn K cd_law_draws "_law_draws" = true) (k_law_draws : PySem.W.keepIn K (.ref f_law_draws) = true)
    (a_is_size_ : PySem.W.nsIn K mainGlobals "_is_size" = some (some (.ref f_is_size_))) (l_is_size_ : K.lookup f_is_size_ = some ⟨oc_is_size_, od_is_size_, .func (PySem.W.fnOf "_is_size" "_is_size" (defArgs s_is_size_) (defBody s_is_size_) (defScope s_is_size_) .none kV_is_size_ dc_is_size_ pm_is_size_ an_is_size_ cd_is_size_ ct_is_size_), sl_is_size_⟩) (c_is_size_ : PySem.W.codeIn K cd_is_size_ "_is_size" = true) (k_is_size_ : PySem.W.keepIn K (.ref f_is_size_) = true)
    (a_check_size_ : PySem.W.nsIn K mainGlobals "_check_size" = some (some (.ref f_check_size_))) (l_check_size_ : K.lookup f_check_size_ = some ⟨oc_check_size_, od_check_size_, .func (PySem.W.fnOf "_check_size" "_check_size" (defArgs s_check_size_) (defBody s_check_size_) (defScope s_check_size_) .none kV_check_size_ dc_check_size_ pm_check_size_ an_check_size_ cd_check_size_ ct_check_size_), sl_check_size_⟩) (c_check_size_ : PySem.W.codeIn K cd_check_size_ "_check_size" = true) (k_check_size_ : PySem.W.keepIn K (.ref f_check_size_) = true)
    (a_is_diagram : PySem.W.nsIn K mainGlobals "is_diagram" = some (some (.ref f_is_diagram))) (l_is_diagram : K.lookup f_is_diagram = some ⟨oc_is_diagram, od_is_diagram, .func (PySem.W.fnOf "is_diagram" "is_diagram" (defArgs s_is_diagram) (defBody s_is_diagram) (defScope s_is_diagram) .none kV_is_diagram dc_is_diagram pm_is_diagram an_is_diagram cd_is_diagram ct_is_diagram), sl_is_diagram⟩) (c_is_diagram : PySem.W.codeIn K cd_is_diagram "is_diagram" = true) (k_is_diagram : PySem.W.keepIn K (.ref f_is_diagram) = true)
    (a_check_diagram : PySem.W.nsIn K mainGlobals "check_diagram" = some (some (.ref f_check_diagram))) (l_check_diagram : K.lookup f_check_diagram = some ⟨oc_check_diagram, od_check_diagram, .func (PySem.W.fnOf "check_diagram" "check_diagram" (defArgs s_check_diagram) (defBody s_check_diagram) (defScope s_check_diagram) .none kV_check_diagram dc_check_diagram pm_check_diagram an_check_diagram cd_check_diagram ct_check_diagram), sl_check_diagram⟩) (c_check_diagram : PySem.W.codeIn K cd_check_diagram "check_diagram" = true) (k_check_diagram : PySem.W.keepIn K (.ref f_check_diagram) = true)
    (a_from_labels : PySem.W.nsIn K mainGlobals "from_labels" = some (some (.ref f_from_labels))) (l_from_labels : K.lookup f_from_labels = some ⟨oc_from_labels, od_from_labels, .func (PySem.W.fnOf "from_labels" "from_labels" (defArgs s_from_labels) (defBody s_from_labels) (defScope s_from_labels) .none kV_from_labels dc_from_labels pm_from_labels an_from_labels cd_from_labels ct_from_labels), sl_from_labels⟩) (c_from_labels : PySem.W.codeIn K cd_from_labels "from_labels" = true) (k_from_labels : PySem.W.keepIn K (.ref f_from_labels) = true)
    (a_law_seen : PySem.W.nsIn K mainGlobals "_law_seen" = some (some (.ref f_law_seen))) (l_law_seen : K.lookup f_law_seen = some ⟨oc_law_seen, od_law_seen, .func (PySem.W.fnOf "_law_seen" "_law_seen" (defArgs s_law_seen) (defBody s_law_seen) (defScope s_law_seen) .none kV_law_seen dc_law_seen pm_law_seen an_law_seen cd_law_seen ct_law_seen), sl_law_seen⟩) (c_law_seen : PySem.W.codeIn K cd_law_seen "_law_seen" = true) (k_law_seen : PySem.W.keepIn K (.ref f_law_seen) = true)
    (a_law_from : PySem.W.nsIn K mainGlobals "_law_from" = some (some (.ref f_law_from))) (l_law_from : K.lookup f_law_from = some ⟨oc_law_from, od_law_from, .func (PySem.W.fnOf "_law_from" "_law_from" (defArgs s_law_from) (defBody s_law_from) (defScope s_law_from) .none kV_law_from dc_law_from pm_law_from an_law_from cd_law_from ct_law_from), sl_law_from⟩) (c_law_from : PySem.W.codeIn K cd_law_from "_law_from" = true) (k_law_from : PySem.W.keepIn K (.ref f_law_from) = true)
    (a_law_pick : PySem.W.nsIn K mainGlobals "_law_pick" = some (some (.ref f_law_pick))) (l_law_pick : K.lookup f_law_pick = some ⟨oc_law_pick, od_law_pick, .func (PySem.W.fnOf "_law_pick" "_law_pick" (defArgs s_law_pick) (defBody s_law_pick) (defScope s_law_pick) .none kV_law_pick dc_law_pick pm_law_pick an_law_pick cd_law_pick ct_law_pick), sl_law_pick⟩) (c_law_pick : PySem.W.codeIn K cd_law_pick "_law_pick" = true) (k_law_pick : PySem.W.keepIn K (.ref f_law_pick) = true)
    (a_check_family : PySem.W.nsIn K mainGlobals "check_family" = some (some (.ref f_check_family))) (l_check_family : K.lookup f_check_family = some ⟨oc_check_family, od_check_family, .func (PySem.W.fnOf "check_family" "check_family" (defArgs s_check_family) (defBody s_check_family) (defScope s_check_family) .none kV_check_family dc_check_family pm_check_family an_check_family cd_check_family ct_check_family), sl_check_family⟩) (c_check_family : PySem.W.codeIn K cd_check_family "check_family" = true) (k_check_family : PySem.W.keepIn K (.ref f_check_family) = true)
    (a_is_strand_ : PySem.W.nsIn K mainGlobals "_is_strand" = some (some (.ref f_is_strand_))) (l_is_strand_ : K.lookup f_is_strand_ = some ⟨oc_is_strand_, od_is_strand_, .func (PySem.W.fnOf "_is_strand" "_is_strand" (defArgs s_is_strand_) (defBody s_is_strand_) (defScope s_is_strand_) .none kV_is_strand_ dc_is_strand_ pm_is_strand_ an_is_strand_ cd_is_strand_ ct_is_strand_), sl_is_strand_⟩) (c_is_strand_ : PySem.W.codeIn K cd_is_strand_ "_is_strand" = true) (k_is_strand_ : PySem.W.keepIn K (.ref f_is_strand_) = true)
    (a_is_block_size_ : PySem.W.nsIn K mainGlobals "_is_block_size" = some (some (.ref f_is_block_size_))) (l_is_block_size_ : K.lookup f_is_block_size_ = some ⟨oc_is_block_size_, od_is_block_size_, .func (PySem.W.fnOf "_is_block_size" "_is_block_size" (defArgs s_is_block_size_) (defBody s_is_block_size_) (defScope s_is_block_size_) .none kV_is_block_size_ dc_is_block_size_ pm_is_block_size_ an_is_block_size_ cd_is_block_size_ ct_is_block_size_), sl_is_block_size_⟩) (c_is_block_size_ : PySem.W.codeIn K cd_is_block_size_ "_is_block_size" = true) (k_is_block_size_ : PySem.W.keepIn K (.ref f_is_block_size_) = true)
    (a_is_block_of_ : PySem.W.nsIn K mainGlobals "_is_block_of" = some (some (.ref f_is_block_of_))) (l_is_block_of_ : K.lookup f_is_block_of_ = some ⟨oc_is_block_of_, od_is_block_of_, .func (PySem.W.fnOf "_is_block_of" "_is_block_of" (defArgs s_is_block_of_) (defBody s_is_block_of_) (defScope s_is_block_of_) .none kV_is_block_of_ dc_is_block_of_ pm_is_block_of_ an_is_block_of_ cd_is_block_of_ ct_is_block_of_), sl_is_block_of_⟩) (c_is_block_of_ : PySem.W.codeIn K cd_is_block_of_ "_is_block_of" = true) (k_is_block_of_ : PySem.W.keepIn K (.ref f_is_block_of_) = true)
    (a_is_in : PySem.W.nsIn K mainGlobals "is_in" = some (some (.ref f_is_in))) (l_is_in : K.lookup f_is_in = some ⟨oc_is_in, od_is_in, .func (PySem.W.fnOf "is_in" "is_in" (defArgs s_is_in) (defBody s_is_in) (defScope s_is_in) .none kV_is_in dc_is_in pm_is_in an_is_in cd_is_in ct_is_in), sl_is_in⟩) (c_is_in : PySem.W.codeIn K cd_is_in "is_in" = true) (k_is_in : PySem.W.keepIn K (.ref f_is_in) = true)
    (a_root_ : PySem.W.nsIn K mainGlobals "_root" = some (some (.ref f_root_))) (l_root_ : K.lookup f_root_ = some ⟨oc_root_, od_root_, .func (PySem.W.fnOf "_root" "_root" (defArgs s_root_) (defBody s_root_) (defScope s_root_) .none kV_root_ dc_root_ pm_root_ an_root_ cd_root_ ct_root_), sl_root_⟩) (c_root_ : PySem.W.codeIn K cd_root_ "_root" = true) (k_root_ : PySem.W.keepIn K (.ref f_root_) = true)
    (a_piece_marks : PySem.W.nsIn K mainGlobals "piece_marks" = some (some (.ref f_piece_marks))) (l_piece_marks : K.lookup f_piece_marks = some ⟨oc_piece_marks, od_piece_marks, .func (PySem.W.fnOf "piece_marks" "piece_marks" (defArgs s_piece_marks) (defBody s_piece_marks) (defScope s_piece_marks) .none kV_piece_marks dc_piece_marks pm_piece_marks an_piece_marks cd_piece_marks ct_piece_marks), sl_piece_marks⟩) (c_piece_marks : PySem.W.codeIn K cd_piece_marks "piece_marks" = true) (k_piece_marks : PySem.W.keepIn K (.ref f_piece_marks) = true)
    (a_hidden_count : PySem.W.nsIn K mainGlobals "hidden_count" = some (some (.ref f_hidden_count))) (l_hidden_count : K.lookup f_hidden_count = some ⟨oc_hidden_count, od_hidden_count, .func (PySem.W.fnOf "hidden_count" "hidden_count" (defArgs s_hidden_count) (defBody s_hidden_count) (defScope s_hidden_count) .none kV_hidden_count dc_hidden_count pm_hidden_count an_hidden_count cd_hidden_count ct_hidden_count), sl_hidden_count⟩) (c_hidden_count : PySem.W.codeIn K cd_hidden_count "hidden_count" = true) (k_hidden_count : PySem.W.keepIn K (.ref f_hidden_count) = true)
    (a_put : PySem.W.nsIn K mainGlobals "put" = some (some (.ref f_put))) (l_put : K.lookup f_put = some ⟨oc_put, od_put, .func (PySem.W.fnOf "put" "put" (defArgs s_put) (defBody s_put) (defScope s_put) .none kV_put dc_put pm_put an_put cd_put ct_put), sl_put⟩) (c_put : PySem.W.codeIn K cd_put "put" = true) (k_put : PySem.W.keepIn K (.ref f_put) = true)
    (a_halves_ : PySem.W.nsIn K mainGlobals "_halves" = some (some (.ref f_halves_))) (l_halves_ : K.lookup f_halves_ = some ⟨oc_halves_, od_halves_, .func (PySem.W.fnOf "_halves" "_halves" (defArgs s_halves_) (defBody s_halves_) (defScope s_halves_) .none kV_halves_ dc_halves_ pm_halves_ an_halves_ cd_halves_ ct_halves_), sl_halves_⟩) (c_halves_ : PySem.W.codeIn K cd_halves_ "_halves" = true) (k_halves_ : PySem.W.keepIn K (.ref f_halves_) = true)
    (a_through_halves_ : PySem.W.nsIn K mainGlobals "_through_halves" = some (some (.ref f_through_halves_))) (l_through_halves_ : K.lookup f_through_halves_ = some ⟨oc_through_halves_, od_through_halves_, .func (PySem.W.fnOf "_through_halves" "_through_halves" (defArgs s_through_halves_) (defBody s_through_halves_) (defScope s_through_halves_) .none kV_through_halves_ dc_through_halves_ pm_through_halves_ an_through_halves_ cd_through_halves_ ct_through_halves_), sl_through_halves_⟩) (c_through_halves_ : PySem.W.codeIn K cd_through_halves_ "_through_halves" = true) (k_through_halves_ : PySem.W.keepIn K (.ref f_through_halves_) = true)
    (a_only_above_ : PySem.W.nsIn K mainGlobals "_only_above" = some (some (.ref f_only_above_))) (l_only_above_ : K.lookup f_only_above_ = some ⟨oc_only_above_, od_only_above_, .func (PySem.W.fnOf "_only_above" "_only_above" (defArgs s_only_above_) (defBody s_only_above_) (defScope s_only_above_) .none kV_only_above_ dc_only_above_ pm_only_above_ an_only_above_ cd_only_above_ ct_only_above_), sl_only_above_⟩) (c_only_above_ : PySem.W.codeIn K cd_only_above_ "_only_above" = true) (k_only_above_ : PySem.W.keepIn K (.ref f_only_above_) = true)
    (a_only_below_ : PySem.W.nsIn K mainGlobals "_only_below" = some (some (.ref f_only_below_))) (l_only_below_ : K.lookup f_only_below_ = some ⟨oc_only_below_, od_only_below_, .func (PySem.W.fnOf "_only_below" "_only_below" (defArgs s_only_below_) (defBody s_only_below_) (defScope s_only_below_) .none kV_only_below_ dc_only_below_ pm_only_below_ an_only_below_ cd_only_below_ ct_only_below_), sl_only_below_⟩) (c_only_below_ : PySem.W.codeIn K cd_only_below_ "_only_below" = true) (k_only_below_ : PySem.W.keepIn K (.ref f_only_below_) = true)
    (a_shifted_ : PySem.W.nsIn K mainGlobals "_shifted" = some (some (.ref f_shifted_))) (l_shifted_ : K.lookup f_shifted_ = some ⟨oc_shifted_, od_shifted_, .func (PySem.W.fnOf "_shifted" "_shifted" (defArgs s_shifted_) (defBody s_shifted_) (defScope s_shifted_) .none kV_shifted_ dc_shifted_ pm_shifted_ an_shifted_ cd_shifted_ ct_shifted_), sl_shifted_⟩) (c_shifted_ : PySem.W.codeIn K cd_shifted_ "_shifted" = true) (k_shifted_ : PySem.W.keepIn K (.ref f_shifted_) = true)
    (a_with_blocks_ : PySem.W.nsIn K mainGlobals "_with_blocks" = some (some (.ref f_with_blocks_))) (l_with_blocks_ : K.lookup f_with_blocks_ = some ⟨oc_with_blocks_, od_with_blocks_, .func (PySem.W.fnOf "_with_blocks" "_with_blocks" (defArgs s_with_blocks_) (defBody s_with_blocks_) (defScope s_with_blocks_) .none kV_with_blocks_ dc_with_blocks_ pm_with_blocks_ an_with_blocks_ cd_with_blocks_ ct_with_blocks_), sl_with_blocks_⟩) (c_with_blocks_ : PySem.W.codeIn K cd_with_blocks_ "_with_blocks" = true) (k_with_blocks_ : PySem.W.keepIn K (.ref f_with_blocks_) = true)
    (a_law_goes : PySem.W.nsIn K mainGlobals "_law_goes" = some (some (.ref f_law_goes))) (l_law_goes : K.lookup f_law_goes = some ⟨oc_law_goes, od_law_goes, .func (PySem.W.fnOf "_law_goes" "_law_goes" (defArgs s_law_goes) (defBody s_law_goes) (defScope s_law_goes) .none kV_law_goes dc_law_goes pm_law_goes an_law_goes cd_law_goes ct_law_goes), sl_law_goes⟩) (c_law_goes : PySem.W.codeIn K cd_law_goes "_law_goes" = true) (k_law_goes : PySem.W.keepIn K (.ref f_law_goes) = true)
    (a_law_joined : PySem.W.nsIn K mainGlobals "_law_joined" = some (some (.ref f_law_joined))) (l_law_joined : K.lookup f_law_joined = some ⟨oc_law_joined, od_law_joined, .func (PySem.W.fnOf "_law_joined" "_law_joined" (defArgs s_law_joined) (defBody s_law_joined) (defScope s_law_joined) .none kV_law_joined dc_law_joined pm_law_joined an_law_joined cd_law_joined ct_law_joined), sl_law_joined⟩) (c_law_joined : PySem.W.codeIn K cd_law_joined "_law_joined" = true) (k_law_joined : PySem.W.keepIn K (.ref f_law_joined) = true)
    (a_law_threaded : PySem.W.nsIn K mainGlobals "_law_threaded" = some (some (.ref f_law_threaded))) (l_law_threaded : K.lookup f_law_threaded = some ⟨oc_law_threaded, od_law_threaded, .func (PySem.W.fnOf "_law_threaded" "_law_threaded" (defArgs s_law_threaded) (defBody s_law_threaded) (defScope s_law_threaded) .none kV_law_threaded dc_law_threaded pm_law_threaded an_law_threaded cd_law_threaded ct_law_threaded), sl_law_threaded⟩) (c_law_threaded : PySem.W.codeIn K cd_law_threaded "_law_threaded" = true) (k_law_threaded : PySem.W.keepIn K (.ref f_law_threaded) = true)
    (a_law_drawn : PySem.W.nsIn K mainGlobals "_law_drawn" = some (some (.ref f_law_drawn))) (l_law_drawn : K.lookup f_law_drawn = some ⟨oc_law_drawn, od_law_drawn, .func (PySem.W.fnOf "_law_drawn" "_law_drawn" (defArgs s_law_drawn) (defBody s_law_drawn) (defScope s_law_drawn) .none kV_law_drawn dc_law_drawn pm_law_drawn an_law_drawn cd_law_drawn ct_law_drawn), sl_law_drawn⟩) (c_law_drawn : PySem.W.codeIn K cd_law_drawn "_law_drawn" = true) (k_law_drawn : PySem.W.keepIn K (.ref f_law_drawn) = true)
    (a_through : PySem.W.nsIn K mainGlobals "through" = some (some (.ref f_through))) (l_through : K.lookup f_through = some ⟨oc_through, od_through, .func (PySem.W.fnOf "through" "through" (defArgs s_through) (defBody s_through) (defScope s_through) .none kV_through dc_through pm_through an_through cd_through ct_through), sl_through⟩) (c_through : PySem.W.codeIn K cd_through "through" = true) (k_through : PySem.W.keepIn K (.ref f_through) = true)
    (a_spare_blocks_ : PySem.W.nsIn K mainGlobals "_spare_blocks" = some (some (.ref f_spare_blocks_))) (l_spare_blocks_ : K.lookup f_spare_blocks_ = some ⟨oc_spare_blocks_, od_spare_blocks_, .func (PySem.W.fnOf "_spare_blocks" "_spare_blocks" (defArgs s_spare_blocks_) (defBody s_spare_blocks_) (defScope s_spare_blocks_) .none kV_spare_blocks_ dc_spare_blocks_ pm_spare_blocks_ an_spare_blocks_ cd_spare_blocks_ ct_spare_blocks_), sl_spare_blocks_⟩) (c_spare_blocks_ : PySem.W.codeIn K cd_spare_blocks_ "_spare_blocks" = true) (k_spare_blocks_ : PySem.W.keepIn K (.ref f_spare_blocks_) = true)
    (a_leading_ : PySem.W.nsIn K mainGlobals "_leading" = some (some (.ref f_leading_))) (l_leading_ : K.lookup f_leading_ = some ⟨oc_leading_, od_leading_, .func (PySem.W.fnOf "_leading" "_leading" (defArgs s_leading_) (defBody s_leading_) (defScope s_leading_) .none kV_leading_ dc_leading_ pm_leading_ an_leading_ cd_leading_ ct_leading_), sl_leading_⟩) (c_leading_ : PySem.W.codeIn K cd_leading_ "_leading" = true) (k_leading_ : PySem.W.keepIn K (.ref f_leading_) = true)
    (a_led : PySem.W.nsIn K mainGlobals "led" = some (some (.ref f_led))) (l_led : K.lookup f_led = some ⟨oc_led, od_led, .func (PySem.W.fnOf "led" "led" (defArgs s_led) (defBody s_led) (defScope s_led) .none kV_led dc_led pm_led an_led cd_led ct_led), sl_led⟩) (c_led : PySem.W.codeIn K cd_led "led" = true) (k_led : PySem.W.keepIn K (.ref f_led) = true)
    (a_law_told : PySem.W.nsIn K mainGlobals "_law_told" = some (some (.ref f_law_told))) (l_law_told : K.lookup f_law_told = some ⟨oc_law_told, od_law_told, .func (PySem.W.fnOf "_law_told" "_law_told" (defArgs s_law_told) (defBody s_law_told) (defScope s_law_told) .none kV_law_told dc_law_told pm_law_told an_law_told cd_law_told ct_law_told), sl_law_told⟩) (c_law_told : PySem.W.codeIn K cd_law_told "_law_told" = true) (k_law_told : PySem.W.keepIn K (.ref f_law_told) = true)
    (a_law_stacked : PySem.W.nsIn K mainGlobals "_law_stacked" = some (some (.ref f_law_stacked))) (l_law_stacked : K.lookup f_law_stacked = some ⟨oc_law_stacked, od_law_stacked, .func (PySem.W.fnOf "_law_stacked" "_law_stacked" (defArgs s_law_stacked) (defBody s_law_stacked) (defScope s_law_stacked) .none kV_law_stacked dc_law_stacked pm_law_stacked an_law_stacked cd_law_stacked ct_law_stacked), sl_law_stacked⟩) (c_law_stacked : PySem.W.codeIn K cd_law_stacked "_law_stacked" = true) (k_law_stacked : PySem.W.keepIn K (.ref f_law_stacked) = true)
    (a_law : PySem.W.nsIn K mainGlobals "law" = some (some (.ref f_law))) (l_law : K.lookup f_law = some ⟨oc_law, od_law, .func (PySem.W.fnOf "law" "law" (defArgs s_law) (defBody s_law) (defScope s_law) .none kV_law dc_law pm_law an_law cd_law ct_law), sl_law⟩) (c_law : PySem.W.codeIn K cd_law "law" = true) (k_law : PySem.W.keepIn K (.ref f_law) = true)
    (zn_int : PySem.W.nsIn K mainGlobals "int" = some none)
    (zn_range : PySem.W.nsIn K mainGlobals "range" = some none)
    (zn_len : PySem.W.nsIn K mainGlobals "len" = some none)
    (zn_list : PySem.W.nsIn K mainGlobals "list" = some none)
    (zn_tuple : PySem.W.nsIn K mainGlobals "tuple" = some none)
    (zn_max : PySem.W.nsIn K mainGlobals "max" = some none)
    (zn_min : PySem.W.nsIn K mainGlobals "min" = some none)
    (zn_all : PySem.W.nsIn K mainGlobals "all" = some none)
    (zn_any : PySem.W.nsIn K mainGlobals "any" = some none)
    (zn_sorted : PySem.W.nsIn K mainGlobals "sorted" = some none)
    (zn_repr : PySem.W.nsIn K mainGlobals "repr" = some none)
    (zn_isinstance : PySem.W.nsIn K mainGlobals "isinstance" = some none)
    (zn_enumerate : PySem.W.nsIn K mainGlobals "enumerate" = some none)
    (zn_str : PySem.W.nsIn K mainGlobals "str" = some none)
    (zn_set : PySem.W.nsIn K mainGlobals "set" = some none)
    (zn_divmod : PySem.W.nsIn K mainGlobals "divmod" = some none)
    (zn_sum : PySem.W.nsIn K mainGlobals "sum" = some none)
    (zn_zip : PySem.W.nsIn K mainGlobals "zip" = some none)
    (n_BadNumber : PySem.W.nsIn K mainGlobals "BadNumber" = some (some (.ref CB)))
    (x_BadNumber : PySem.W.excIn K CB [.type "ValueError", .type "Exception", .type "BaseException", .type "object"] "ValueError.__new__" = true)
    (kc_BadNumber : PySem.W.keepIn K (.ref CB) = true)
    (bc_BadNumber : PySem.W.subIn K (.ref CB) (.type "BaseException") = some true)
    (tc_BadNumber : PySem.W.typeIn K (.ref CB) = some (.type "type"))
    (n_NotDiagram : PySem.W.nsIn K mainGlobals "NotDiagram" = some (some (.ref CD)))
    (x_NotDiagram : PySem.W.excIn K CD [.type "ValueError", .type "Exception", .type "BaseException", .type "object"] "ValueError.__new__" = true)
    (kc_NotDiagram : PySem.W.keepIn K (.ref CD) = true)
    (bc_NotDiagram : PySem.W.subIn K (.ref CD) (.type "BaseException") = some true)
    (tc_NotDiagram : PySem.W.typeIn K (.ref CD) = some (.type "type"))
    (n_TooLarge : PySem.W.nsIn K mainGlobals "TooLarge" = some (some (.ref CT)))
    (x_TooLarge : PySem.W.excIn K CT [.type "ValueError", .type "Exception", .type "BaseException", .type "object"] "ValueError.__new__" = true)
    (kc_TooLarge : PySem.W.keepIn K (.ref CT) = true)
    (bc_TooLarge : PySem.W.subIn K (.ref CT) (.type "BaseException") = some true)
    (tc_TooLarge : PySem.W.typeIn K (.ref CT) = some (.type "type"))
    (n_NotFamily : PySem.W.nsIn K mainGlobals "NotFamily" = some (some (.ref CF)))
    (x_NotFamily : PySem.W.excIn K CF [.type "ValueError", .type "Exception", .type "BaseException", .type "object"] "ValueError.__new__" = true)
    (kc_NotFamily : PySem.W.keepIn K (.ref CF) = true)
    (bc_NotFamily : PySem.W.subIn K (.ref CF) (.type "BaseException") = some true)
    (tc_NotFamily : PySem.W.typeIn K (.ref CF) = some (.type "type"))
    (n_MOST_ON_A_SIDE : PySem.W.nsIn K mainGlobals "MOST_ON_A_SIDE" = some (some (.int 8 tm_MOST_ON_A_SIDE)))
    (n_MOST_POINTS : PySem.W.nsIn K mainGlobals "MOST_POINTS" = some (some (.int 12 tm_MOST_POINTS)))
    (n_FAMILIES : PySem.W.nsIn K mainGlobals "FAMILIES" = some (some (.ref aF)))
    (l_FAMILIES : K.lookup aF = some ⟨.type "tuple", ddF, .seq #[.str "threads" uf0, .str "loose" uf1, .str "pairs" uf2, .str "lonepairs" uf3, .str "even" uf4, .str "parts" uf5] nF, slF⟩)
    (n_WorthError : PySem.W.nsIn K mainGlobals "WorthError" = some (some (.ref CE)))
    (ebc : PySem.W.subIn K (.ref CE) (.type "BaseException") = some true)
    (ehd : PySem.W.hasDictIn K CE = true)
    (ety : PySem.W.typeIn K (.ref CE) = some (.type "type"))
    (hn_cls : PySem.W.specialIn K (.builtin "object.__class__") "__get__" = some (some (.builtin "getset_descriptor.__get__")))
    (ht_cls : PySem.W.takesIn K (.builtin "object.__class__") = some true)
    (hg_NotFamily : PySem.W.findIn K (.ref CF) "__getattribute__" = some (some (.builtin "BaseException.__getattribute__")))
    (hk_NotFamily : PySem.W.findIn K (.ref CF) "__getattr__" = some none)
    (hd_NotFamily : PySem.W.hasDictIn K CF = true)
    (ha_NotFamily : PySem.W.findIn K (.ref CF) "__class__" = some (some (.builtin "object.__class__")))
    (hm_NotFamily : PySem.W.mroIn K CF (.type "object") = some true)
    (sE_f : PySem.W.subIn K (.ref CF) (.ref CE) = some true)
    (hg_NotDiagram : PySem.W.findIn K (.ref CD) "__getattribute__" = some (some (.builtin "BaseException.__getattribute__")))
    (hk_NotDiagram : PySem.W.findIn K (.ref CD) "__getattr__" = some none)
    (hd_NotDiagram : PySem.W.hasDictIn K CD = true)
    (ha_NotDiagram : PySem.W.findIn K (.ref CD) "__class__" = some (some (.builtin "object.__class__")))
    (hm_NotDiagram : PySem.W.mroIn K CD (.type "object") = some true)
    (sE_d : PySem.W.subIn K (.ref CD) (.ref CE) = some true)
    (hg_BadNumber : PySem.W.findIn K (.ref CB) "__getattribute__" = some (some (.builtin "BaseException.__getattribute__")))
    (hk_BadNumber : PySem.W.findIn K (.ref CB) "__getattr__" = some none)
    (hd_BadNumber : PySem.W.hasDictIn K CB = true)
    (ha_BadNumber : PySem.W.findIn K (.ref CB) "__class__" = some (some (.builtin "object.__class__")))
    (hm_BadNumber : PySem.W.mroIn K CB (.type "object") = some true)
    (sE_b : PySem.W.subIn K (.ref CB) (.ref CE) = some true)
    (t_ff : PySem.W.kitOne K (.ref CF) (.ref CF) = some true)
    (t_fd : PySem.W.kitOne K (.ref CF) (.ref CD) = some false)
    (t_fb : PySem.W.kitOne K (.ref CF) (.ref CB) = some false)
    (t_df : PySem.W.kitOne K (.ref CD) (.ref CF) = some false)
    (t_dd : PySem.W.kitOne K (.ref CD) (.ref CD) = some true)
    (t_db : PySem.W.kitOne K (.ref CD) (.ref CB) = some false)
    (t_bf : PySem.W.kitOne K (.ref CB) (.ref CF) = some false)
    (t_bd : PySem.W.kitOne K (.ref CB) (.ref CD) = some false)
    (t_bb : PySem.W.kitOne K (.ref CB) (.ref CB) = some true)
    : ∃ fd : FuncData, (∀ (s : Shared) (v : Value), BindsTo s fd ⟨[v], []⟩ [("script", v)]) ∧ ∀ base : Heap, K.In base → base.Ns mainGlobals mg → FnG P w K mg base 9 fa fd ["script"] (spLaw K) := by
  have e := hfa.symm.trans (PySem.W.mg_of X G a_law)
  cases e
  have F_law_number := fun_mk (st := s_law_number) l_law_number c_law_number k_law_number
  have g_law_number := PySem.W.mg_of X G a_law_number
  have b_law_number := F_law_number.binds (ps := ["cell"]) fun _ _ _ _ _ _ us hl => match us, hl with | [_], _ => rfl
  have F_law_next := fun_mk (st := s_law_next) l_law_next c_law_next k_law_next
  have g_law_next := PySem.W.mg_of X G a_law_next
  have b_law_next := F_law_next.binds (ps := ["draws"]) fun _ _ _ _ _ _ us hl => match us, hl with | [_], _ => rfl
  have F_law_draws := fun_mk (st := s_law_draws) l_law_draws c_law_draws k_law_draws
  have g_law_draws := PySem.W.mg_of X G a_law_draws
  have b_law_draws := F_law_draws.binds (ps := ["script"]) fun _ _ _ _ _ _ us hl => match us, hl with | [_], _ => rfl
  have F_is_size_ := fun_mk (st := s_is_size_) l_is_size_ c_is_size_ k_is_size_
  have g_is_size_ := PySem.W.mg_of X G a_is_size_
  have b_is_size_ := F_is_size_.binds (ps := ["n", "m"]) fun _ _ _ _ _ _ us hl => match us, hl with | [_, _], _ => rfl
  have F_check_size_ := fun_mk (st := s_check_size_) l_check_size_ c_check_size_ k_check_size_
  have g_check_size_ := PySem.W.mg_of X G a_check_size_
  have b_check_size_ := F_check_size_.binds (ps := ["n", "m"]) fun _ _ _ _ _ _ us hl => match us, hl with | [_, _], _ => rfl
  have F_is_diagram := fun_mk (st := s_is_diagram) l_is_diagram c_is_diagram k_is_diagram
  have g_is_diagram := PySem.W.mg_of X G a_is_diagram
  have b_is_diagram := F_is_diagram.binds (ps := ["diagram"]) fun _ _ _ _ _ _ us hl => match us, hl with | [_], _ => rfl
  have F_check_diagram := fun_mk (st := s_check_diagram) l_check_diagram c_check_diagram k_check_diagram
  have g_check_diagram := PySem.W.mg_of X G a_check_diagram
  have b_check_diagram := F_check_diagram.binds (ps := ["diagram"]) fun _ _ _ _ _ _ us hl => match us, hl with | [_], _ => rfl
  have F_from_labels := fun_mk (st := s_from_labels) l_from_labels c_from_labels k_from_labels
  have g_from_labels := PySem.W.mg_of X G a_from_labels
  have b_from_labels := F_from_labels.binds (ps := ["n", "m", "marks"]) fun _ _ _ _ _ _ us hl => match us, hl with | [_, _, _], _ => rfl
  have F_law_seen := fun_mk (st := s_law_seen) l_law_seen c_law_seen k_law_seen
  have g_law_seen := PySem.W.mg_of X G a_law_seen
  have b_law_seen := F_law_seen.binds (ps := ["marks"]) fun _ _ _ _ _ _ us hl => match us, hl with | [_], _ => rfl
  have F_law_from := fun_mk (st := s_law_from) l_law_from c_law_from k_law_from
  have g_law_from := PySem.W.mg_of X G a_law_from
  have b_law_from := F_law_from.binds (ps := ["n", "m", "marks"]) fun _ _ _ _ _ _ us hl => match us, hl with | [_, _, _], _ => rfl
  have F_law_pick := fun_mk (st := s_law_pick) l_law_pick c_law_pick k_law_pick
  have g_law_pick := PySem.W.mg_of X G a_law_pick
  have b_law_pick := F_law_pick.binds (ps := ["draws", "left"]) fun _ _ _ _ _ _ us hl => match us, hl with | [_, _], _ => rfl
  have F_check_family := fun_mk (st := s_check_family) l_check_family c_check_family k_check_family
  have g_check_family := PySem.W.mg_of X G a_check_family
  have b_check_family := F_check_family.binds (ps := ["family"]) fun _ _ _ _ _ _ us hl => match us, hl with | [_], _ => rfl
  have F_is_strand_ := fun_mk (st := s_is_strand_) l_is_strand_ c_is_strand_ k_is_strand_
  have g_is_strand_ := PySem.W.mg_of X G a_is_strand_
  have b_is_strand_ := F_is_strand_.binds (ps := ["n", "block"]) fun _ _ _ _ _ _ us hl => match us, hl with | [_, _], _ => rfl
  have F_is_block_size_ := fun_mk (st := s_is_block_size_) l_is_block_size_ c_is_block_size_ k_is_block_size_
  have g_is_block_size_ := PySem.W.mg_of X G a_is_block_size_
  have b_is_block_size_ := F_is_block_size_.binds (ps := ["family", "size"]) fun _ _ _ _ _ _ us hl => match us, hl with | [_, _], _ => rfl
  have F_is_block_of_ := fun_mk (st := s_is_block_of_) l_is_block_of_ c_is_block_of_ k_is_block_of_
  have g_is_block_of_ := PySem.W.mg_of X G a_is_block_of_
  have b_is_block_of_ := F_is_block_of_.binds (ps := ["family", "n", "block"]) fun _ _ _ _ _ _ us hl => match us, hl with | [_, _, _], _ => rfl
  have F_is_in := fun_mk (st := s_is_in) l_is_in c_is_in k_is_in
  have g_is_in := PySem.W.mg_of X G a_is_in
  have b_is_in := F_is_in.binds (ps := ["family", "diagram"]) fun _ _ _ _ _ _ us hl => match us, hl with | [_, _], _ => rfl
  have F_root_ := fun_mk (st := s_root_) l_root_ c_root_ k_root_
  have g_root_ := PySem.W.mg_of X G a_root_
  have b_root_ := F_root_.binds (ps := ["parents", "point"]) fun _ _ _ _ _ _ us hl => match us, hl with | [_, _], _ => rfl
  have F_piece_marks := fun_mk (st := s_piece_marks) l_piece_marks c_piece_marks k_piece_marks
  have g_piece_marks := PySem.W.mg_of X G a_piece_marks
  have b_piece_marks := F_piece_marks.binds (ps := ["size", "groups"]) fun _ _ _ _ _ _ us hl => match us, hl with | [_, _], _ => rfl
  have F_hidden_count := fun_mk (st := s_hidden_count) l_hidden_count c_hidden_count k_hidden_count
  have g_hidden_count := PySem.W.mg_of X G a_hidden_count
  have b_hidden_count := F_hidden_count.binds (ps := ["marks", "shown"]) fun _ _ _ _ _ _ us hl => match us, hl with | [_, _], _ => rfl
  have F_put := fun_mk (st := s_put) l_put c_put k_put
  have g_put := PySem.W.mg_of X G a_put
  have b_put := F_put.binds (ps := ["one", "other"]) fun _ _ _ _ _ _ us hl => match us, hl with | [_, _], _ => rfl
  have F_halves_ := fun_mk (st := s_halves_) l_halves_ c_halves_ k_halves_
  have g_halves_ := PySem.W.mg_of X G a_halves_
  have b_halves_ := F_halves_.binds (ps := ["diagram"]) fun _ _ _ _ _ _ us hl => match us, hl with | [_], _ => rfl
  have F_through_halves_ := fun_mk (st := s_through_halves_) l_through_halves_ c_through_halves_ k_through_halves_
  have g_through_halves_ := PySem.W.mg_of X G a_through_halves_
  have b_through_halves_ := F_through_halves_.binds (ps := ["diagram"]) fun _ _ _ _ _ _ us hl => match us, hl with | [_], _ => rfl
  have F_only_above_ := fun_mk (st := s_only_above_) l_only_above_ c_only_above_ k_only_above_
  have g_only_above_ := PySem.W.mg_of X G a_only_above_
  have b_only_above_ := F_only_above_.binds (ps := ["diagram"]) fun _ _ _ _ _ _ us hl => match us, hl with | [_], _ => rfl
  have F_only_below_ := fun_mk (st := s_only_below_) l_only_below_ c_only_below_ k_only_below_
  have g_only_below_ := PySem.W.mg_of X G a_only_below_
  have b_only_below_ := F_only_below_.binds (ps := ["diagram"]) fun _ _ _ _ _ _ us hl => match us, hl with | [_], _ => rfl
  have F_shifted_ := fun_mk (st := s_shifted_) l_shifted_ c_shifted_ k_shifted_
  have g_shifted_ := PySem.W.mg_of X G a_shifted_
  have b_shifted_ := F_shifted_.binds (ps := ["places", "by"]) fun _ _ _ _ _ _ us hl => match us, hl with | [_, _], _ => rfl
  have F_with_blocks_ := fun_mk (st := s_with_blocks_) l_with_blocks_ c_with_blocks_ k_with_blocks_
  have g_with_blocks_ := PySem.W.mg_of X G a_with_blocks_
  have b_with_blocks_ := F_with_blocks_.binds (ps := ["n", "m", "blocks"]) fun _ _ _ _ _ _ us hl => match us, hl with | [_, _, _], _ => rfl
  have F_law_goes := fun_mk (st := s_law_goes) l_law_goes c_law_goes k_law_goes
  have g_law_goes := PySem.W.mg_of X G a_law_goes
  have b_law_goes := F_law_goes.binds (ps := ["diagram"]) fun _ _ _ _ _ _ us hl => match us, hl with | [_], _ => rfl
  have F_law_joined := fun_mk (st := s_law_joined) l_law_joined c_law_joined k_law_joined
  have g_law_joined := PySem.W.mg_of X G a_law_joined
  have b_law_joined := F_law_joined.binds (ps := ["marks", "links"]) fun _ _ _ _ _ _ us hl => match us, hl with | [_, _], _ => rfl
  have F_law_threaded := fun_mk (st := s_law_threaded) l_law_threaded c_law_threaded k_law_threaded
  have g_law_threaded := PySem.W.mg_of X G a_law_threaded
  have b_law_threaded := F_law_threaded.binds (ps := ["draws", "family", "n", "m"]) fun _ _ _ _ _ _ us hl => match us, hl with | [_, _, _, _], _ => rfl
  have F_law_drawn := fun_mk (st := s_law_drawn) l_law_drawn c_law_drawn k_law_drawn
  have g_law_drawn := PySem.W.mg_of X G a_law_drawn
  have b_law_drawn := F_law_drawn.binds (ps := ["draws", "family", "n", "m"]) fun _ _ _ _ _ _ us hl => match us, hl with | [_, _, _, _], _ => rfl
  have F_through := fun_mk (st := s_through) l_through c_through k_through
  have g_through := PySem.W.mg_of X G a_through
  have b_through := F_through.binds (ps := ["diagram"]) fun _ _ _ _ _ _ us hl => match us, hl with | [_], _ => rfl
  have F_spare_blocks_ := fun_mk (st := s_spare_blocks_) l_spare_blocks_ c_spare_blocks_ k_spare_blocks_
  have g_spare_blocks_ := PySem.W.mg_of X G a_spare_blocks_
  have b_spare_blocks_ := F_spare_blocks_.binds (ps := ["family", "n", "used"]) fun _ _ _ _ _ _ us hl => match us, hl with | [_, _, _], _ => rfl
  have F_leading_ := fun_mk (st := s_leading_) l_leading_ c_leading_ k_leading_
  have g_leading_ := PySem.W.mg_of X G a_leading_
  have b_leading_ := F_leading_.binds (ps := ["family", "one", "other"]) fun _ _ _ _ _ _ us hl => match us, hl with | [_, _, _], _ => rfl
  have F_led := fun_mk (st := s_led) l_led c_led k_led
  have g_led := PySem.W.mg_of X G a_led
  have b_led := F_led.binds (ps := ["family", "one", "other"]) fun _ _ _ _ _ _ us hl => match us, hl with | [_, _, _], _ => rfl
  have F_law_told := fun_mk (st := s_law_told) l_law_told c_law_told k_law_told
  have g_law_told := PySem.W.mg_of X G a_law_told
  have b_law_told := F_law_told.binds (ps := ["family", "one", "other"]) fun _ _ _ _ _ _ us hl => match us, hl with | [_, _, _], _ => rfl
  have F_law_stacked := fun_mk (st := s_law_stacked) l_law_stacked c_law_stacked k_law_stacked
  have g_law_stacked := PySem.W.mg_of X G a_law_stacked
  have b_law_stacked := F_law_stacked.binds (ps := ["u", "middle", "v"]) fun _ _ _ _ _ _ us hl => match us, hl with | [_, _, _], _ => rfl
  have F_law := fun_mk (st := s_law) l_law c_law k_law
  have g_law := PySem.W.mg_of X G a_law
  have b_law := F_law.binds (ps := ["script"]) fun _ _ _ _ _ _ us hl => match us, hl with | [_], _ => rfl
  have z_int := PySem.W.mg_none_of X G zn_int
  have z_range := PySem.W.mg_none_of X G zn_range
  have z_len := PySem.W.mg_none_of X G zn_len
  have z_list := PySem.W.mg_none_of X G zn_list
  have z_tuple := PySem.W.mg_none_of X G zn_tuple
  have z_max := PySem.W.mg_none_of X G zn_max
  have z_min := PySem.W.mg_none_of X G zn_min
  have z_all := PySem.W.mg_none_of X G zn_all
  have z_any := PySem.W.mg_none_of X G zn_any
  have z_sorted := PySem.W.mg_none_of X G zn_sorted
  have z_repr := PySem.W.mg_none_of X G zn_repr
  have z_isinstance := PySem.W.mg_none_of X G zn_isinstance
  have z_enumerate := PySem.W.mg_none_of X G zn_enumerate
  have z_str := PySem.W.mg_none_of X G zn_str
  have z_set := PySem.W.mg_none_of X G zn_set
  have z_divmod := PySem.W.mg_none_of X G zn_divmod
  have z_sum := PySem.W.mg_none_of X G zn_sum
  have z_zip := PySem.W.mg_none_of X G zn_zip
  have E_BadNumber : ErrC K mg "BadNumber" CB := ⟨PySem.W.mg_of X G n_BadNumber, x_BadNumber, kc_BadNumber, bc_BadNumber, tc_BadNumber⟩
  have E_NotDiagram : ErrC K mg "NotDiagram" CD := ⟨PySem.W.mg_of X G n_NotDiagram, x_NotDiagram, kc_NotDiagram, bc_NotDiagram, tc_NotDiagram⟩
  have E_TooLarge : ErrC K mg "TooLarge" CT := ⟨PySem.W.mg_of X G n_TooLarge, x_TooLarge, kc_TooLarge, bc_TooLarge, tc_TooLarge⟩
  have E_NotFamily : ErrC K mg "NotFamily" CF := ⟨PySem.W.mg_of X G n_NotFamily, x_NotFamily, kc_NotFamily, bc_NotFamily, tc_NotFamily⟩
  have m_MOST_ON_A_SIDE := PySem.W.mg_of X G n_MOST_ON_A_SIDE
  have m_MOST_POINTS := PySem.W.mg_of X G n_MOST_POINTS
  have m_FAMILIES := PySem.W.mg_of X G n_FAMILIES
  have tF : ∀ H, SqT K H aF (fams.map V.str) := fun H => .inr ⟨_, _, _, l_FAMILIES, rfl, rfl, (by show 6 ≤ sizeLine; decide), .cons ⟨_, rfl⟩ (.cons ⟨_, rfl⟩ (.cons ⟨_, rfl⟩ (.cons ⟨_, rfl⟩ (.cons ⟨_, rfl⟩ (.cons ⟨_, rfl⟩ (.nil))))))⟩
  have I_NotFamily : ExcC K CF := ⟨hg_NotFamily, hk_NotFamily, bc_NotFamily, hd_NotFamily, ha_NotFamily, hn_cls, ht_cls, hm_NotFamily⟩
  have I_NotDiagram : ExcC K CD := ⟨hg_NotDiagram, hk_NotDiagram, bc_NotDiagram, hd_NotDiagram, ha_NotDiagram, hn_cls, ht_cls, hm_NotDiagram⟩
  have I_BadNumber : ExcC K CB := ⟨hg_BadNumber, hk_BadNumber, bc_BadNumber, hd_BadNumber, ha_BadNumber, hn_cls, ht_cls, hm_BadNumber⟩
  have T_told : ErrT K mg CE CF CD CB := ⟨PySem.W.mg_of X G n_WorthError, ebc, ehd, ety, PySem.W.mg_of X G n_NotFamily, I_NotFamily, sE_f, PySem.W.mg_of X G n_NotDiagram, I_NotDiagram, sE_d, PySem.W.mg_of X G n_BadNumber, I_BadNumber, sE_b, t_ff, t_fd, t_fb, t_df, t_dd, t_db, t_bf, t_bd, t_bb⟩
  refine ⟨PySem.W.fnOf "law" "law" (defArgs s_law) (defBody s_law) (defScope s_law) .none kV_law dc_law pm_law an_law cd_law ct_law, fun s v => .of_eq rfl, fun base _ _ => ?_⟩
  have G_law_number := ok_plain (P := P) (w := w) (mg := mg) (base := base) (F := F_law_number)
  have G_law_next := ok_next (P := P) (w := w) (mg := mg) (base := base) (F := F_law_next)
  have G_law_draws := ok_draws (P := P) (w := w) (mg := mg) (base := base) (F := F_law_draws) (z_range := z_range) (z_int := z_int) (G_law_number := G_law_number) (g_law_number := g_law_number) (k_law_number := k_law_number) (b_law_number := b_law_number)
  have G_is_size_ := ok_is_size_ (P := P) (w := w) (mg := mg) (base := base) (F := F_is_size_) (m_MOST_ON_A_SIDE := m_MOST_ON_A_SIDE) (m_MOST_POINTS := m_MOST_POINTS)
  have G_check_size_ := ok_check_size_ (P := P) (w := w) (mg := mg) (base := base) (F := F_check_size_) (T := E_BadNumber) (G_is_size_ := G_is_size_) (g_is_size_ := g_is_size_) (k_is_size_ := k_is_size_) (b_is_size_ := b_is_size_)
  have G_is_diagram := ok_is_diagram (P := P) (w := w) (mg := mg) (base := base) (F := F_is_diagram) (z_len := z_len) (z_list := z_list) (z_range := z_range) (z_sorted := z_sorted) (z_all := z_all) (G_is_size_ := G_is_size_) (g_is_size_ := g_is_size_) (k_is_size_ := k_is_size_) (b_is_size_ := b_is_size_)
  have G_check_diagram := ok_check_diagram (P := P) (w := w) (mg := mg) (base := base) (F := F_check_diagram) (T := E_NotDiagram) (G_is_diagram := G_is_diagram) (g_is_diagram := g_is_diagram) (k_is_diagram := k_is_diagram) (b_is_diagram := b_is_diagram)
  have G_from_labels := ok_from_labels (P := P) (w := w) (mg := mg) (base := base) (F := F_from_labels) (T := E_BadNumber) (z_len := z_len) (z_enumerate := z_enumerate) (z_tuple := z_tuple) (G_check_size_ := G_check_size_) (g_check_size_ := g_check_size_) (k_check_size_ := k_check_size_) (b_check_size_ := b_check_size_)
  have G_law_seen := ok_law_seen (P := P) (w := w) (mg := mg) (base := base) (F := F_law_seen)
  have G_law_from := ok_law_from (P := P) (w := w) (mg := mg) (base := base) (F := F_law_from) (z_tuple := z_tuple) (z_range := z_range) (G_law_seen := G_law_seen) (g_law_seen := g_law_seen) (k_law_seen := k_law_seen) (b_law_seen := b_law_seen)
  have G_law_pick := ok_law_pick (P := P) (w := w) (mg := mg) (base := base) (F := F_law_pick) (z_int := z_int) (z_len := z_len) (G_law_next := G_law_next) (g_law_next := g_law_next) (k_law_next := k_law_next) (b_law_next := b_law_next)
  have G_check_family := ok_check_family (P := P) (w := w) (mg := mg) (base := base) (F := F_check_family) (T := E_NotFamily) (m_FAMILIES := m_FAMILIES) (tF := tF)
  have G_is_strand_ := ok_is_strand_ (P := P) (w := w) (mg := mg) (base := base) (F := F_is_strand_) (z_len := z_len)
  have G_is_block_size_ := ok_is_block_size_ (P := P) (w := w) (mg := mg) (base := base) (F := F_is_block_size_)
  have G_is_block_of_ := ok_is_block_of_ (P := P) (w := w) (mg := mg) (base := base) (F := F_is_block_of_) (z_len := z_len) (G_is_strand_ := G_is_strand_) (g_is_strand_ := g_is_strand_) (k_is_strand_ := k_is_strand_) (b_is_strand_ := b_is_strand_) (G_is_block_size_ := G_is_block_size_) (g_is_block_size_ := g_is_block_size_) (k_is_block_size_ := k_is_block_size_) (b_is_block_size_ := b_is_block_size_)
  have G_is_in := ok_is_in (P := P) (w := w) (mg := mg) (base := base) (F := F_is_in) (z_all := z_all) (G_check_family := G_check_family) (g_check_family := g_check_family) (k_check_family := k_check_family) (b_check_family := b_check_family) (G_check_diagram := G_check_diagram) (g_check_diagram := g_check_diagram) (k_check_diagram := k_check_diagram) (b_check_diagram := b_check_diagram) (G_is_block_of_ := G_is_block_of_) (g_is_block_of_ := g_is_block_of_) (k_is_block_of_ := k_is_block_of_) (b_is_block_of_ := b_is_block_of_)
  have G_root_ := ok_root_ (P := P) (w := w) (mg := mg) (base := base) (F := F_root_)
  have G_piece_marks := ok_piece_marks (P := P) (w := w) (mg := mg) (base := base) (F := F_piece_marks) (z_list := z_list) (z_range := z_range) (G_root_ := G_root_) (g_root_ := g_root_) (k_root_ := k_root_) (b_root_ := b_root_)
  have G_hidden_count := ok_hidden_count (P := P) (w := w) (mg := mg) (base := base) (F := F_hidden_count) (z_len := z_len) (z_set := z_set)
  have G_put := ok_put (P := P) (w := w) (mg := mg) (base := base) (F := F_put) (TB := E_BadNumber) (TT0 := E_TooLarge) (z_list := z_list) (m_MOST_POINTS := m_MOST_POINTS) (G_check_diagram := G_check_diagram) (g_check_diagram := g_check_diagram) (k_check_diagram := k_check_diagram) (b_check_diagram := b_check_diagram) (G_piece_marks := G_piece_marks) (g_piece_marks := g_piece_marks) (k_piece_marks := k_piece_marks) (b_piece_marks := b_piece_marks) (G_hidden_count := G_hidden_count) (g_hidden_count := g_hidden_count) (k_hidden_count := k_hidden_count) (b_hidden_count := b_hidden_count) (G_from_labels := G_from_labels) (g_from_labels := g_from_labels) (k_from_labels := k_from_labels) (b_from_labels := b_from_labels)
  have G_halves_ := ok_halves_ (P := P) (w := w) (mg := mg) (base := base) (F := F_halves_) (z_tuple := z_tuple) (G_check_diagram := G_check_diagram) (g_check_diagram := g_check_diagram) (k_check_diagram := k_check_diagram) (b_check_diagram := b_check_diagram)
  have G_through_halves_ := ok_through_halves_ (P := P) (w := w) (mg := mg) (base := base) (F := F_through_halves_) (G_halves_ := G_halves_) (g_halves_ := g_halves_) (k_halves_ := k_halves_) (b_halves_ := b_halves_)
  have G_only_above_ := ok_only_above_ (P := P) (w := w) (mg := mg) (base := base) (F := F_only_above_) (G_halves_ := G_halves_) (g_halves_ := g_halves_) (k_halves_ := k_halves_) (b_halves_ := b_halves_)
  have G_only_below_ := ok_only_below_ (P := P) (w := w) (mg := mg) (base := base) (F := F_only_below_) (G_halves_ := G_halves_) (g_halves_ := g_halves_) (k_halves_ := k_halves_) (b_halves_ := b_halves_)
  have G_shifted_ := ok_shifted_ (P := P) (w := w) (mg := mg) (base := base) (F := F_shifted_) (z_tuple := z_tuple)
  have G_with_blocks_ := ok_with_blocks_ (P := P) (w := w) (mg := mg) (base := base) (F := F_with_blocks_) (z_tuple := z_tuple) (z_sorted := z_sorted)
  have G_law_goes := ok_law_goes (P := P) (w := w) (mg := mg) (base := base) (F := F_law_goes) (z_min := z_min) (z_max := z_max)
  have G_law_joined := ok_law_joined (P := P) (w := w) (mg := mg) (base := base) (F := F_law_joined) (z_min := z_min) (z_max := z_max)
  have G_law_threaded := ok_law_threaded (P := P) (w := w) (mg := mg) (base := base) (F := F_law_threaded) (z_int := z_int) (z_list := z_list) (z_range := z_range) (G_law_next := G_law_next) (g_law_next := g_law_next) (k_law_next := k_law_next) (b_law_next := b_law_next) (G_law_pick := G_law_pick) (g_law_pick := g_law_pick) (k_law_pick := k_law_pick) (b_law_pick := b_law_pick)
  have G_law_drawn := ok_law_drawn (P := P) (w := w) (mg := mg) (base := base) (F := F_law_drawn) (z_int := z_int) (z_list := z_list) (z_range := z_range) (z_len := z_len) (z_max := z_max) (G_law_next := G_law_next) (g_law_next := g_law_next) (k_law_next := k_law_next) (b_law_next := b_law_next) (G_law_pick := G_law_pick) (g_law_pick := g_law_pick) (k_law_pick := k_law_pick) (b_law_pick := b_law_pick) (G_law_from := G_law_from) (g_law_from := g_law_from) (k_law_from := k_law_from) (b_law_from := b_law_from) (G_law_threaded := G_law_threaded) (g_law_threaded := g_law_threaded) (k_law_threaded := k_law_threaded) (b_law_threaded := b_law_threaded) (G_law_joined := G_law_joined) (g_law_joined := g_law_joined) (k_law_joined := k_law_joined) (b_law_joined := b_law_joined)
  have G_through := ok_through (P := P) (w := w) (mg := mg) (base := base) (F := F_through) (z_len := z_len) (G_through_halves_ := G_through_halves_) (g_through_halves_ := g_through_halves_) (k_through_halves_ := k_through_halves_) (b_through_halves_ := b_through_halves_)
  have G_spare_blocks_ := ok_spare_blocks_ (P := P) (w := w) (mg := mg) (base := base) (F := F_spare_blocks_) (z_range := z_range) (z_list := z_list) (z_zip := z_zip)
  have G_leading_ := ok_leading_ (P := P) (w := w) (mg := mg) (base := base) (F := F_leading_) (z_len := z_len) (z_zip := z_zip) (G_through_halves_ := G_through_halves_) (g_through_halves_ := g_through_halves_) (k_through_halves_ := k_through_halves_) (b_through_halves_ := b_through_halves_) (G_only_above_ := G_only_above_) (g_only_above_ := g_only_above_) (k_only_above_ := k_only_above_) (b_only_above_ := b_only_above_) (G_only_below_ := G_only_below_) (g_only_below_ := g_only_below_) (k_only_below_ := k_only_below_) (b_only_below_ := b_only_below_) (G_shifted_ := G_shifted_) (g_shifted_ := g_shifted_) (k_shifted_ := k_shifted_) (b_shifted_ := b_shifted_) (G_spare_blocks_ := G_spare_blocks_) (g_spare_blocks_ := g_spare_blocks_) (k_spare_blocks_ := k_spare_blocks_) (b_spare_blocks_ := b_spare_blocks_) (G_with_blocks_ := G_with_blocks_) (g_with_blocks_ := g_with_blocks_) (k_with_blocks_ := k_with_blocks_) (b_with_blocks_ := b_with_blocks_) (G_put := G_put) (g_put := g_put) (k_put := k_put) (b_put := b_put)
  have G_led := ok_led (P := P) (w := w) (mg := mg) (base := base) (F := F_led) (T := E_BadNumber) (TF := E_NotFamily) (G_check_family := G_check_family) (g_check_family := g_check_family) (k_check_family := k_check_family) (b_check_family := b_check_family) (G_check_diagram := G_check_diagram) (g_check_diagram := g_check_diagram) (k_check_diagram := k_check_diagram) (b_check_diagram := b_check_diagram) (G_is_in := G_is_in) (g_is_in := g_is_in) (k_is_in := k_is_in) (b_is_in := b_is_in) (G_through := G_through) (g_through := g_through) (k_through := k_through) (b_through := b_through) (G_leading_ := G_leading_) (g_leading_ := g_leading_) (k_leading_ := k_leading_) (b_leading_ := b_leading_)
  have G_law_told := ok_law_told (P := P) (w := w) (mg := mg) (base := base) (F := F_law_told) (T := T_told) (z_isinstance := z_isinstance) (z_str := z_str) (z_int := z_int) (G_led := G_led) (g_led := g_led) (k_led := k_led) (b_led := b_led)
  have G_law_stacked := ok_law_stacked (P := P) (w := w) (mg := mg) (base := base) (F := F_law_stacked) (G_put := G_put) (g_put := g_put) (k_put := k_put) (b_put := b_put)
  exact ok_law (P := P) (w := w) (mg := mg) (base := base) (F := F_law) (z_int := z_int) (z_range := z_range) (z_len := z_len) (z_min := z_min) (z_isinstance := z_isinstance) (z_tuple := z_tuple) (z_list := z_list) (G_law_next := G_law_next) (g_law_next := g_law_next) (k_law_next := k_law_next) (b_law_next := b_law_next) (G_law_draws := G_law_draws) (g_law_draws := g_law_draws) (k_law_draws := k_law_draws) (b_law_draws := b_law_draws) (G_law_drawn := G_law_drawn) (g_law_drawn := g_law_drawn) (k_law_drawn := k_law_drawn) (b_law_drawn := b_law_drawn) (G_law_told := G_law_told) (g_law_told := g_law_told) (k_law_told := k_law_told) (b_law_told := b_law_told) (G_put := G_put) (g_put := g_put) (k_put := k_put) (b_put := b_put) (G_through := G_through) (g_through := g_through) (k_through := k_through) (b_through := b_through) (G_law_goes := G_law_goes) (g_law_goes := g_law_goes) (k_law_goes := k_law_goes) (b_law_goes := b_law_goes) (G_law_stacked := G_law_stacked) (g_law_stacked := g_law_stacked) (k_law_stacked := k_law_stacked) (b_law_stacked := b_law_stacked) (G_is_in := G_is_in) (g_is_in := g_is_in) (k_is_in := k_is_in) (b_is_in := b_is_in) (G_law_from := G_law_from) (g_law_from := g_law_from) (k_law_from := k_law_from) (b_law_from := b_law_from)
end T
open PySem PySem.W PyProof.Rows
set_option maxHeartbeats 0 in
theorem PySem.Challenge.cw_threadworth_k82_whole_diagrams_that_lead_holds : PySem.Challenge.rw_threadworth_k82_whole_diagrams_that_lead.Holds := by
  w_on; o_law; k_head; (case hw => w_witness2)
  k_fill
  refine L2.walk_ofG (l := PySem.Challenge.rw_threadworth_k82_whole_diagrams_that_lead) (n := 63) (k := 9) (x := "script") (sp := fun w => T.spLaw _) rfl (by decide) rfl ⟨rfl, by decide, by decide⟩ (fun w h Y => PySem.W.kIn_of Y) ?F (fun _ _ a ns hl hS => ⟨a, ns, rfl, hS, hl, fun _ => rfl⟩)
  case F =>
    intro w mg fa h KX G hmg
    refine' T.all_mk KX G hmg ?a_law_number ?l_law_number ?c_law_number ?k_law_number ?a_law_next ?l_law_next ?c_law_next ?k_law_next ?a_law_draws ?l_law_draws ?c_law_draws ?k_law_draws ?a_is_size_ ?l_is_size_ ?c_is_size_ ?k_is_size_ ?a_check_size_ ?l_check_size_ ?c_check_size_ ?k_check_size_ ?a_is_diagram ?l_is_diagram ?c_is_diagram ?k_is_diagram ?a_check_diagram ?l_check_diagram ?c_check_diagram ?k_check_diagram ?a_from_labels ?l_from_labels ?c_from_labels ?k_from_labels ?a_law_seen ?l_law_seen ?c_law_seen ?k_law_seen ?a_law_from ?l_law_from ?c_law_from ?k_law_from ?a_law_pick ?l_law_pick ?c_law_pick ?k_law_pick ?a_check_family ?l_check_family ?c_check_family ?k_check_family ?a_is_strand_ ?l_is_strand_ ?c_is_strand_ ?k_is_strand_ ?a_is_block_size_ ?l_is_block_size_ ?c_is_block_size_ ?k_is_block_size_ ?a_is_block_of_ ?l_is_block_of_ ?c_is_block_of_ ?k_is_block_of_ ?a_is_in ?l_is_in ?c_is_in ?k_is_in ?a_root_ ?l_root_ ?c_root_ ?k_root_ ?a_piece_marks ?l_piece_marks ?c_piece_marks ?k_piece_marks ?a_hidden_count ?l_hidden_count ?c_hidden_count ?k_hidden_count ?a_put ?l_put ?c_put ?k_put ?a_halves_ ?l_halves_ ?c_halves_ ?k_halves_ ?a_through_halves_ ?l_through_halves_ ?c_through_halves_ ?k_through_halves_ ?a_only_above_ ?l_only_above_ ?c_only_above_ ?k_only_above_ ?a_only_below_ ?l_only_below_ ?c_only_below_ ?k_only_below_ ?a_shifted_ ?l_shifted_ ?c_shifted_ ?k_shifted_ ?a_with_blocks_ ?l_with_blocks_ ?c_with_blocks_ ?k_with_blocks_ ?a_law_goes ?l_law_goes ?c_law_goes ?k_law_goes ?a_law_joined ?l_law_joined ?c_law_joined ?k_law_joined ?a_law_threaded ?l_law_threaded ?c_law_threaded ?k_law_threaded ?a_law_drawn ?l_law_drawn ?c_law_drawn ?k_law_drawn ?a_through ?l_through ?c_through ?k_through ?a_spare_blocks_ ?l_spare_blocks_ ?c_spare_blocks_ ?k_spare_blocks_ ?a_leading_ ?l_leading_ ?c_leading_ ?k_leading_ ?a_led ?l_led ?c_led ?k_led ?a_law_told ?l_law_told ?c_law_told ?k_law_told ?a_law_stacked ?l_law_stacked ?c_law_stacked ?k_law_stacked ?a_law ?l_law ?c_law ?k_law ?zn_int ?zn_range ?zn_len ?zn_list ?zn_tuple ?zn_max ?zn_min ?zn_all ?zn_any ?zn_sorted ?zn_repr ?zn_isinstance ?zn_enumerate ?zn_str ?zn_set ?zn_divmod ?zn_sum ?zn_zip ?n_BadNumber ?x_BadNumber ?kc_BadNumber ?bc_BadNumber ?tc_BadNumber ?n_NotDiagram ?x_NotDiagram ?kc_NotDiagram ?bc_NotDiagram ?tc_NotDiagram ?n_TooLarge ?x_TooLarge ?kc_TooLarge ?bc_TooLarge ?tc_TooLarge ?n_NotFamily ?x_NotFamily ?kc_NotFamily ?bc_NotFamily ?tc_NotFamily ?n_MOST_ON_A_SIDE ?n_MOST_POINTS ?n_FAMILIES ?l_FAMILIES ?n_WorthError ?ebc ?ehd ?ety ?hn_cls ?ht_cls ?hg_NotFamily ?hk_NotFamily ?hd_NotFamily ?ha_NotFamily ?hm_NotFamily ?sE_f ?hg_NotDiagram ?hk_NotDiagram ?hd_NotDiagram ?ha_NotDiagram ?hm_NotDiagram ?sE_d ?hg_BadNumber ?hk_BadNumber ?hd_BadNumber ?ha_BadNumber ?hm_BadNumber ?sE_b ?t_ff ?t_fd ?t_fb ?t_df ?t_dd ?t_db ?t_bf ?t_bd ?t_bb
    (case a_law_number => k_is); (case l_law_number => k_is); (case c_law_number => k_is); (case k_law_number => k_is); (case a_law_next => k_is); (case l_law_next => k_is); (case c_law_next => k_is); (case k_law_next => k_is)
    (case a_law_draws => k_is); (case l_law_draws => k_is); (case c_law_draws => k_is); (case k_law_draws => k_is); (case a_is_size_ => k_is); (case l_is_size_ => k_is); (case c_is_size_ => k_is); (case k_is_size_ => k_is)
    (case a_check_size_ => k_is); (case l_check_size_ => k_is); (case c_check_size_ => k_is); (case k_check_size_ => k_is); (case a_is_diagram => k_is); (case l_is_diagram => k_is); (case c_is_diagram => k_is); (case k_is_diagram => k_is)
    (case a_check_diagram => k_is); (case l_check_diagram => k_is); (case c_check_diagram => k_is); (case k_check_diagram => k_is); (case a_from_labels => k_is); (case l_from_labels => k_is); (case c_from_labels => k_is); (case k_from_labels => k_is)
    (case a_law_seen => k_is); (case l_law_seen => k_is); (case c_law_seen => k_is); (case k_law_seen => k_is); (case a_law_from => k_is); (case l_law_from => k_is); (case c_law_from => k_is); (case k_law_from => k_is)
    (case a_law_pick => k_is); (case l_law_pick => k_is); (case c_law_pick => k_is); (case k_law_pick => k_is); (case a_check_family => k_is); (case l_check_family => k_is); (case c_check_family => k_is); (case k_check_family => k_is)
    (case a_is_strand_ => k_is); (case l_is_strand_ => k_is); (case c_is_strand_ => k_is); (case k_is_strand_ => k_is); (case a_is_block_size_ => k_is); (case l_is_block_size_ => k_is); (case c_is_block_size_ => k_is); (case k_is_block_size_ => k_is)
    (case a_is_block_of_ => k_is); (case l_is_block_of_ => k_is); (case c_is_block_of_ => k_is); (case k_is_block_of_ => k_is); (case a_is_in => k_is); (case l_is_in => k_is); (case c_is_in => k_is); (case k_is_in => k_is)
    (case a_root_ => k_is); (case l_root_ => k_is); (case c_root_ => k_is); (case k_root_ => k_is); (case a_piece_marks => k_is); (case l_piece_marks => k_is); (case c_piece_marks => k_is); (case k_piece_marks => k_is)
    (case a_hidden_count => k_is); (case l_hidden_count => k_is); (case c_hidden_count => k_is); (case k_hidden_count => k_is); (case a_put => k_is); (case l_put => k_is); (case c_put => k_is); (case k_put => k_is)
    (case a_halves_ => k_is); (case l_halves_ => k_is); (case c_halves_ => k_is); (case k_halves_ => k_is); (case a_through_halves_ => k_is); (case l_through_halves_ => k_is); (case c_through_halves_ => k_is); (case k_through_halves_ => k_is)
    (case a_only_above_ => k_is); (case l_only_above_ => k_is); (case c_only_above_ => k_is); (case k_only_above_ => k_is); (case a_only_below_ => k_is); (case l_only_below_ => k_is); (case c_only_below_ => k_is); (case k_only_below_ => k_is)
    (case a_shifted_ => k_is); (case l_shifted_ => k_is); (case c_shifted_ => k_is); (case k_shifted_ => k_is); (case a_with_blocks_ => k_is); (case l_with_blocks_ => k_is); (case c_with_blocks_ => k_is); (case k_with_blocks_ => k_is)
    (case a_law_goes => k_is); (case l_law_goes => k_is); (case c_law_goes => k_is); (case k_law_goes => k_is); (case a_law_joined => k_is); (case l_law_joined => k_is); (case c_law_joined => k_is); (case k_law_joined => k_is)
    (case a_law_threaded => k_is); (case l_law_threaded => k_is); (case c_law_threaded => k_is); (case k_law_threaded => k_is); (case a_law_drawn => k_is); (case l_law_drawn => k_is); (case c_law_drawn => k_is); (case k_law_drawn => k_is)
    (case a_through => k_is); (case l_through => k_is); (case c_through => k_is); (case k_through => k_is); (case a_spare_blocks_ => k_is); (case l_spare_blocks_ => k_is); (case c_spare_blocks_ => k_is); (case k_spare_blocks_ => k_is)
    (case a_leading_ => k_is); (case l_leading_ => k_is); (case c_leading_ => k_is); (case k_leading_ => k_is); (case a_led => k_is); (case l_led => k_is); (case c_led => k_is); (case k_led => k_is)
    (case a_law_told => k_is); (case l_law_told => k_is); (case c_law_told => k_is); (case k_law_told => k_is); (case a_law_stacked => k_is); (case l_law_stacked => k_is); (case c_law_stacked => k_is); (case k_law_stacked => k_is)
    (case a_law => k_is); (case l_law => k_is); (case c_law => k_is); (case k_law => k_is); (case zn_int => k_is); (case zn_range => k_is); (case zn_len => k_is); (case zn_list => k_is)
    (case zn_tuple => k_is); (case zn_max => k_is); (case zn_min => k_is); (case zn_all => k_is); (case zn_any => k_is); (case zn_sorted => k_is); (case zn_repr => k_is); (case zn_isinstance => k_is)
    (case zn_enumerate => k_is); (case zn_str => k_is); (case zn_set => k_is); (case zn_divmod => k_is); (case zn_sum => k_is); (case zn_zip => k_is); (case n_BadNumber => k_is); (case x_BadNumber => k_exc)
    (case kc_BadNumber => k_is); (case bc_BadNumber => k_is); (case tc_BadNumber => k_is); (case n_NotDiagram => k_is); (case x_NotDiagram => k_exc); (case kc_NotDiagram => k_is); (case bc_NotDiagram => k_is); (case tc_NotDiagram => k_is)
    (case n_TooLarge => k_is); (case x_TooLarge => k_exc); (case kc_TooLarge => k_is); (case bc_TooLarge => k_is); (case tc_TooLarge => k_is); (case n_NotFamily => k_is); (case x_NotFamily => k_exc); (case kc_NotFamily => k_is)
    (case bc_NotFamily => k_is); (case tc_NotFamily => k_is); (case n_MOST_ON_A_SIDE => k_is); (case n_MOST_POINTS => k_is); (case n_FAMILIES => k_is); (case l_FAMILIES => k_is); (case n_WorthError => k_is); (case ebc => k_is)
    (case ehd => k_is); (case ety => k_is); (case hn_cls => k_is); (case ht_cls => k_is); (case hg_NotFamily => k_is); (case hk_NotFamily => k_is); (case hd_NotFamily => k_is); (case ha_NotFamily => k_is)
    (case hm_NotFamily => k_is); (case sE_f => k_is); (case hg_NotDiagram => k_is); (case hk_NotDiagram => k_is); (case hd_NotDiagram => k_is); (case ha_NotDiagram => k_is); (case hm_NotDiagram => k_is); (case sE_d => k_is)
    (case hg_BadNumber => k_is); (case hk_BadNumber => k_is); (case hd_BadNumber => k_is); (case ha_BadNumber => k_is); (case hm_BadNumber => k_is); (case sE_b => k_is); (case t_ff => kit_is); (case t_fd => kit_is)
    (case t_fb => kit_is); (case t_df => kit_is); (case t_dd => kit_is); (case t_db => kit_is); (case t_bf => kit_is); (case t_bd => kit_is); (case t_bb => kit_is)
