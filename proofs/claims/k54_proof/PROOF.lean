import PyProof.Rows.All
import Wide.All
import OpenK.AllK
import Wide.FinOn
import PyProof.EqAt
import PyProof.EqKinds
import PyProof.TupleCall
import HandS.ForExc
import HandS.Comp
import HandS.Iter
import HandS.Gcd
import HandS.Wide
import HandS.Evl
import HandS.Defaults
import HandS.ExcIs
import HandS.TupAny
import HandS.TupMul
import HandS.Walk
import HandS.Rev
import HandS.TupAny
import HandS.TupMul
import HandS.Style
import HandS.Deep
import HandS.Dict
import HandS.ForMost
import HandS.Conv
import HandS.Sort
import HandS.SortInts
import HandS.NoneIn
import KE.DatumOrd
import HandS.IsInst
import HandS.TupSets
import HandS.SetFor
import PyProof.ReprRoads
import PyProof.ReprLen
import PyProof.CallFns
import PyProof.Rows.RegStrFacts
import HandS.List
import KE.LtData
import KE.KDictList
import KE.GoesMore
import KE.DataMinMax
import HandS.CallLocal
import KE.KMathGC
import HandS.HotCalls
import HandS.ExcCtx
import HandS.Words
import PyProof.Seq
import HandS.ExcField
import PySem.Challenge.RW_threadworth_k54_tables_of_colours
set_option Elab.async false
set_option linter.all false
set_option maxRecDepth 100000
set_option maxHeartbeats 4000000
namespace T
open PySem PySem.Spec PyProof.Rows L2
/-! ### the mathematics of worlds and numbers -/
def primes : List Int := [2, 3, 5, 7, 11, 13, 17, 19, 23, 29, 31]
def isW (p d : Int) : Bool := if p = 0 then (if -20 ≤ d then decide (d ≤ 20) else false) else (if inV (.int p) (primes.map V.int) = true then (if 0 ≤ d then decide (d < p) else false) else false)
theorem inV_ints {p : Int} : ∀ {l : List Int}, inV (.int p) (l.map V.int) = true → p ∈ l
  | [], h => by cases h
  | x :: l, h => by
    have h1 : ((eqV (.int x) (.int p)) || inV (.int p) (l.map V.int)) = true := h
    rcases (Bool.or_eq_true _ _).mp h1 with h | h
    · have : x = p := of_decide_eq_true (show decide (x = p) = true by simpa [eqV] using h)
      rw [this]
      exact List.mem_cons_self
    · exact List.mem_cons_of_mem _ (inV_ints h)
theorem isW_prime {p d : Int} (h : isW p d = true) (hp : p ≠ 0) : p ∈ primes ∧ 0 ≤ d ∧ d < p := by
  unfold isW at h
  rw [if_neg hp] at h
  by_cases e : inV (.int p) (primes.map V.int) = true
  · rw [if_pos e] at h
    by_cases e2 : 0 ≤ d
    · rw [if_pos e2] at h
      exact ⟨inV_ints e, e2, of_decide_eq_true h⟩
    · rw [if_neg e2] at h
      cases h
  · rw [if_neg e] at h
    cases h
theorem prime_pos {p : Int} (h : p ∈ primes) : 2 ≤ p ∧ p ≤ 31 := by
  simp only [primes, List.mem_cons, List.not_mem_nil, or_false] at h
  omega
theorem inv_exN : ∀ p ∈ [2, 3, 5, 7, 11, 13, 17, 19, 23, 29, 31], ∀ r, r < p → r ≠ 0 → ∃ k, k < p ∧ (k * r) % p = 1 := by decide +kernel
theorem inv_ex {p : Int} (hp : p ∈ primes) {r : Int} (h0 : 0 ≤ r) (h1 : r < p) (hr : r ≠ 0) : ∃ k : Int, 1 ≤ k ∧ k < p ∧ k * r % p = 1 := by
  obtain ⟨n, rfl⟩ := Int.eq_ofNat_of_zero_le (show 0 ≤ p by have := prime_pos hp; omega)
  obtain ⟨m, rfl⟩ := Int.eq_ofNat_of_zero_le h0
  have hn : n ∈ [2, 3, 5, 7, 11, 13, 17, 19, 23, 29, 31] := by
    simp only [primes, List.mem_cons, List.not_mem_nil, or_false] at hp ⊢
    omega
  obtain ⟨k, hk, e⟩ := inv_exN n hn m (by omega) (by omega)
  refine ⟨(k : Int), ?_, by omega, ?_⟩
  · rcases Nat.eq_zero_or_pos k with z | z
    · subst z
      rw [Nat.zero_mul, Nat.zero_mod] at e
      cases e
    · omega
  · have : ((k * m % n : Nat) : Int) = ((1 : Nat) : Int) := by rw [e]
    rw [← Int.natCast_mul, ← Int.natCast_emod, e]
    rfl
/-- lowest terms -/
def gI (a b : Int) : Int := ((Nat.gcd a.natAbs b.natAbs : Nat) : Int)
def low (a b : Int) : Int × Int := if b < 0 then ((-a) / gI a b, (-b) / gI a b) else (a / gI a b, b / gI a b)
theorem gI_pos {a b : Int} (hb : b ≠ 0) : 0 < gI a b := by
  have : 0 < Nat.gcd a.natAbs b.natAbs := Nat.gcd_pos_of_pos_right _ (by omega)
  unfold gI
  omega
theorem gI_le {a b : Int} (hb : b ≠ 0) : gI a b ≤ b.natAbs := by
  have := Nat.gcd_le_right (m := a.natAbs) (n := b.natAbs) (by omega)
  unfold gI
  omega
theorem fdiv_negg (a g : Int) (hg : 0 ≤ g) : a.fdiv (-g) = (-a) / g := by
  rw [← Int.fdiv_eq_ediv_of_nonneg _ hg, ← Int.neg_fdiv_neg (-a) g, Int.neg_neg]
/-- the number a / b -/
def bad (p b : Int) : Prop := b = 0 ∨ (0 < p ∧ b % p = 0)
def IsNum (p a b x y : Int) : Prop := (0 < p ∧ y = 1 ∧ 0 ≤ x ∧ x < p ∧ (x * b - a) % p = 0) ∨ (¬ 0 < p ∧ (x, y) = low a b)
theorem inv_solves {p a b k : Int} (hp : 0 < p) (e : k * (b % p) % p = 1) (h1 : 1 < p) : ((a * k % p) * b - a) % p = 0 := by
  have e1 : (k * b) % p = 1 := by
    rw [Int.mul_emod, Int.emod_emod_of_dvd _ (Int.dvd_refl p), ← Int.mul_emod] at e
    exact e
  have d1 : p ∣ k * b - 1 := by
    apply Int.dvd_of_emod_eq_zero
    rw [Int.sub_emod, e1, Int.emod_eq_of_lt (by omega) h1]
    simp
  have d2 : p ∣ a * k - a * k % p := Int.dvd_self_sub_emod
  apply Int.emod_eq_zero_of_dvd
  have : (a * k % p) * b - a = a * (k * b - 1) - (a * k - a * k % p) * b := by
    rw [Int.mul_sub, Int.sub_mul, Int.mul_assoc]
    omega
  rw [this]
  exact Int.dvd_sub (Int.dvd_mul_of_dvd_right d1) (Int.dvd_mul_of_dvd_left d2)
theorem num_unique {p a b x y x' y' : Int} (hp : p = 0 ∨ p ∈ primes) (hb : ¬ bad p b) (h : IsNum p a b x y) (h' : IsNum p a b x' y') : x = x' ∧ y = y' := by
  rcases h with ⟨h0, e1, l1, u1, m1⟩ | ⟨h0, e1⟩
  · rcases h' with ⟨_, e2, l2, u2, m2⟩ | ⟨h0', _⟩
    · refine ⟨?_, e1.trans e2.symm⟩
      rcases hp with rfl | hp
      · omega
      · have hp2 := prime_pos hp
        have hbp : b % p ≠ 0 := fun z => hb (.inr ⟨h0, z⟩)
        obtain ⟨k, k1, k2, ek⟩ := inv_ex hp (Int.emod_nonneg b (by omega)) (Int.emod_lt_of_pos b h0) hbp
        have e1 : (k * b) % p = 1 := by
          rw [Int.mul_emod, Int.emod_emod_of_dvd _ (Int.dvd_refl p), ← Int.mul_emod] at ek
          exact ek
        have d1 : p ∣ k * b - 1 := by
          apply Int.dvd_of_emod_eq_zero
          rw [Int.sub_emod, e1, Int.emod_eq_of_lt (show (0:Int) ≤ 1 by omega) (show (1:Int) < p by omega)]
          simp
        have d2 : p ∣ (x * b - a) - (x' * b - a) := Int.dvd_sub (Int.dvd_of_emod_eq_zero m1) (Int.dvd_of_emod_eq_zero m2)
        have d3 : p ∣ x - x' := by
          have e : x - x' = k * ((x * b - a) - (x' * b - a)) - (x - x') * (k * b - 1) := by
            have e3 : (x * b - a) - (x' * b - a) = (x - x') * b := by
              rw [Int.sub_mul]
              omega
            rw [e3, Int.mul_sub, Int.mul_one, ← Int.mul_assoc, Int.mul_comm k (x - x'), Int.mul_assoc]
            omega
          rw [e]
          exact Int.dvd_sub (Int.dvd_mul_of_dvd_right d2) (Int.dvd_mul_of_dvd_right d1)
        obtain ⟨c, ec⟩ := d3
        have hc : c = 0 := by
          rcases Int.lt_trichotomy c 0 with z | z | z
          · have : p * c ≤ p * (-1) := Int.mul_le_mul_of_nonneg_left (by omega) (by omega)
            omega
          · exact z
          · have : p * 1 ≤ p * c := Int.mul_le_mul_of_nonneg_left (by omega) (by omega)
            omega
        rw [hc, Int.mul_zero] at ec
        omega
    · exact absurd h0 h0'
  · rcases h' with ⟨h0', _⟩ | ⟨_, e2⟩
    · exact absurd h0' h0
    · have := e1.trans e2.symm
      exact ⟨congrArg Prod.fst this, congrArg Prod.snd this⟩
end T

/-! ### defs that are called where nothing is being shown (no repr is under way): what the law's own def may know -/
namespace L2
open PySem PySem.Spec PyProof.Rows
structure FnG (P : Program) (w : World) (K : PySem.W.Frag) (mg : Str → Option Value) (base : Heap) (k : Nat) (f : Addr) (fd : FuncData) (ps : List Str) (sp : Sp) : Prop where
  len : ∀ vs H Q E, sp vs H Q E → vs.length = ps.length
  run : ∀ (A : Around) (outer : List Env) (s : Shared) (H : Hp) (args : Args) (us : List Value) (vs : List V) (Q : VK) (E : XK), A.guards = some [] → Room k A → Env0 P w K mg base A outer s H →
    BindsTo s fd args (ps.zip us) → Vals vs us → sp vs H Q E → codeAny (model P w) A (.call (.ref f) args) (CR CX0 outer P w H s Q E) s
theorem CE_of {P : Program} {w : World} {K : PySem.W.Frag} {mg : Str → Option Value} {base : Heap} {N : List Str} {qual : Str} {scope : Scope} {f : Addr} {cdv : Value} {A : Around} {outer : List Env} {s s' : Shared} {H H' : Hp} {E : XK} {Q : VK} {σ' : St} {v : V} {u : Value}
    (J : Inv (cxOf CX0 P w K mg base N qual scope f cdv A outer s H E) [] σ' H' s') (rv : RelV v u) (q : Q v H') : CE outer P w H s Q u s' := ⟨v, H', J.os, J.bare, J.base, J.hok, rv, q⟩
theorem Fun.okG {P : Program} {w : World} {K : PySem.W.Frag} {mg : Str → Option Value} {base : Heap} {x qual : Str} {st : Stmt} {f : Addr} {fd : FuncData} {N ps : List Str} {k : Nat} {sp : Sp} (F : Fun K x qual st f fd) (S : FnScope N ps (defScope st))
    (len : ∀ vs H Q E, sp vs H Q E → vs.length = ps.length)
    (hbody : ∀ (cdv : Value) (A : Around) (outer : List Env) (s : Shared) (H : Hp) (vs : List V) (Q : VK) (E : XK), (A.deeper (envOfC qual (defScope st) s.heap.objs.size f cdv)).guards = some [] →
      Room k (A.deeper (envOfC qual (defScope st) s.heap.objs.size f cdv)) → sp vs H Q E →
      ∃ t, PSs (cxOf CX0 P w K mg base N qual (defScope st) f cdv A outer s H E).nox (defBody st) t ∧ t { nx := fun _ H' => Q .non H', rt := Q } (start N vs) H) : FnG P w K mg base (k + 1) f fd ps sp := by
  obtain ⟨oc, od, kV, doc, pm, an, cdv, ct, osl, rfl, lk, hcd⟩ := F.ex
  refine ⟨len, fun A outer s H args us vs Q E hgu hr e0 hb r hsp => ?_⟩
  have keep := fun b o (e : base.get? b = some o) => (e0.bs b o e).1
  have inK : K.In s.heap := e0.mod.kin.keeps keep
  refine codeAny_call_function hr.depth (inK _ _ lk) rfl S.co S.gen rfl (PySem.W.codeRec_of inK hcd) (hb _ _ _ _ ?_)
  refine wpAny_newFunctionEnv_cells S.kind (fun ⟨n, v⟩ hy => ?_) fun env he s1 xx => ?_
  · exact (S.par n (List.of_mem_zip hy).1).elim .inl fun q => .inr ⟨q, PySem.W.cellsFrom_some _ _ _ (.inl q)⟩
  · subst he
    refine ⟨(e0.mod.nolimit.keeps keep).keeps xx.toInCall.keep, codeAny_func ?_⟩
    obtain ⟨t, ht, hq⟩ := hbody cdv A outer s H vs Q E hgu (hr.deeper _) hsp
    have I := inv_start (CX := CX0) (E := E) S hr.hd e0 (len _ _ _ _ hsp) r xx
    refine wpAny_mono (ht.nox.run [] s1 _ H _ I hq) (fun fl s' hs => ?_) fun e s' hs => hs
    rcases fl with _ | _ | _ | u
    · obtain ⟨σ', H', J, q⟩ := hs
      exact CE_of (v := V.non) (u := Value.none) J rfl q
    · exact hs.elim fun _ z => z.elim fun _ z => z.2.elim
    · exact hs.elim fun _ z => z.elim fun _ z => z.2.elim
    · obtain ⟨v, σ', H', J, rv, q⟩ := hs
      exact CE_of J rv q
end L2

namespace L2
open PySem PySem.Spec PyProof.Rows
/-- the law's def, called by the claim's caller: nothing is being shown there -/
theorem goes_at {P : Program} {w : World} {K : PySem.W.Frag} {mg mb : Str → Option Value} {k : Nat} {fa a : Addr} {fd : FuncData} {x : Str} {sp : Sp} {t : Shared} {vs : List Value} {xs : List V} {H : Hp}
    (KX : K.In t.heap) (hns : t.heap.Ns mainGlobals mg) (hb : t.heap.Ns builtinsNs mb) (hbb : ∀ y : Str, y ≠ "__name__" → mb y = bootBuiltins y) (hlim : t.heap.NoLimit) (hg : t.gens = #[])
    (ha : t.heap.get? a = some { cls := .type "list", data := .seq vs.toArray }) (hr : Room k callerA)
    (F : ∀ base : Heap, K.In base → base.Ns mainGlobals mg → FnG P w K mg base k fa fd [x] sp) (hbind : ∀ (s : Shared) (u : Value), BindsTo s fd ⟨[u], []⟩ [(x, u)])
    (hO : Only H) (hsp : sp [.ref a] H (fun v _ => v = .bl true) fun _ _ _ => False) (hok : HOk P w H t.heap) (hA : ∀ b, H b ≠ none → b = a) (hK : H a ≠ none → K.lookup a = none) :
    codeAny (model P w) callerA (.call (.ref fa) ⟨[.ref a], []⟩) (fun r s' => r = .ok (.ret (.bool true)) ∧ OldK t.heap s'.heap ∧ s'.os = t.os ∧ AllBare s'.gens) t := by
  have free : ∀ {b : Addr}, (H b ≠ none → False) → H b = none := fun {b} z => by
    rcases e : H b with _ | u
    · rfl
    · exact (z (by rw [e]; exact fun q => nomatch q)).elim
  have ns : ∀ {b : Addr} {m : Str → Option Value}, t.heap.Ns b m → (hidT t.heap H).Ns b m := fun {b m} z => by
    obtain ⟨o, es, ep, e, d, r⟩ := z
    refine ⟨o, es, ep, hidT_get e (free fun z => ?_), d, r⟩
    rw [hA b z, ha] at e
    cases e
    cases d
  have inB : K.In (hidT t.heap H) := fun b o e => hidT_get (KX b o e) (free fun z => by
    have eb := hA b z
    rw [eb] at z e
    rw [hK z] at e
    cases e)
  obtain ⟨mc, l1, l2⟩ := hlim
  have env : Env0 P w K mg (hidT t.heap H) callerA [] t H := ⟨rfl, ⟨inB, ns hns, ⟨mb, ns hb, hbb⟩, ⟨mc, ns l1, l2⟩⟩, fun b o e => of_hidT e, Nat.le_of_eq (hidT_size _ _), trivial, fun b hb => (nomatch hb), hok, .of_eq hg⟩
  refine codeAny_mono ((F _ inB (ns hns)).run callerA [] t H _ [.ref a] [.ref a] _ _ rfl hr env (hbind t (.ref a)) (.cons rfl .nil) hsp) fun r s' h => ?_
  rcases r with e | fl
  · exact (show False from h).elim
  · rcases fl with _ | _ | _ | u
    · exact (show False from h).elim
    · exact (show False from h).elim
    · exact (show False from h).elim
    · obtain ⟨v, H', os, bare, un, hok', rv, q⟩ := h
      obtain rfl : v = .bl true := q
      obtain rfl : u = Value.bool true := rv
      refine ⟨rfl, OldK.of_keep fun b o e => ?_, os, bare⟩
      rcases hO b with z | ⟨ob, ys, z⟩
      · exact un.keep b o e z (fun z => nomatch z) (fun z => nomatch z)
      · have e1 := (hok b _ z).1
        rw [e] at e1
        rw [Option.some.inj e1]
        exact (hok' b _ (un.frzs b ob _ z)).1
theorem walk_ofG {l : PySem.W.OpenLaw} {n k : Nat} {q : Program} {loose : List Str} {XP : (Str → Option Value) → Heap → Prop} {YP : World → Heap → Prop} {d : DefRec} {K : Params → PySem.W.Frag} {sp : World → Sp} {x : Str}
    (hn : l.most = some n) (hn2 : n ≤ sizeLine) (hdf : d.params.defaults = []) (hr : Room k callerA) (hY : ∀ (w : World) (h : Heap), YP w h → (K w.params).In h)
    (F : ∀ (w : World) (mg : Str → Option Value) (fa : Addr) (h : Heap), (K w.params).In h → h.Ns mainGlobals mg → mg d.name = some (.ref fa) →
      ∃ fd : FuncData, (∀ (s : Shared) (u : Value), BindsTo s fd ⟨[u], []⟩ [(x, u)]) ∧ ∀ base : Heap, (K w.params).In base → base.Ns mainGlobals mg → FnG l.prog w (K w.params) mg base k fa fd [x] (sp w))
    (hsp : ∀ (w : World) (H : Hp) (a : Addr) (ns : List Int), ns.length ≤ n → SqL (K w.params) H a (ns.map V.int) → sp w [.ref a] H (fun v _ => v = .bl true) fun _ _ _ => False) :
    PySem.W.WalkO q loose XP YP l.row.toRowW d [] (fun f vs => PySem.call f vs) := by
  refine Att.attach_call hn hdf fun w s₀ t mg mb fa o pm cd doc a vs ns G Y ho hd hcd hmg hobj hints hlen hg => ?_
  have KX := hY w _ Y
  obtain ⟨fd, hb, hF⟩ := F w mg fa _ KX G.T.g hmg
  have rv : Vals (ns.map V.int) vs := vals_ints hints
  have lv := hints.length
  rcases hk : (K w.params).lookup a with _ | oa
  · refine goes_at (xs := ns.map V.int) (H := fun b => if b = a then some (.frz { cls := .type "list", data := .seq vs.toArray } (.lst (ns.map V.int))) else none) KX G.T.g G.T.b G.T.builtins G.T.nolimit hg hobj hr hF hb
      (fun b => ?_) (hsp w _ a ns hlen (.inl (.inr ⟨_, if_pos rfl⟩))) (fun b u z => ?_) (fun b z => Decidable.byContradiction fun c => z (if_neg c)) fun _ => hk
    · by_cases c : b = a
      · exact .inr ⟨_, _, if_pos c⟩
      · exact .inl (if_neg c)
    · by_cases c : b = a
      · have z' := (if_pos c).symm.trans z
        cases z'
        subst c
        exact ⟨hobj, by rw [List.length_map]; omega, vs, _, rv, hobj⟩
      · have z' := (if_neg c).symm.trans z
        cases z'
  · have e := (KX a oa hk).symm.trans hobj
    cases e
    exact goes_at (xs := ns.map V.int) (H := fun _ => none) KX G.T.g G.T.b G.T.builtins G.T.nolimit hg hobj hr hF hb (fun _ => .inl rfl)
      (hsp w _ a ns hlen (.inr ⟨_, vs.toArray, _, hk, rfl, rfl, rfl, by rw [List.size_toArray]; omega, rv⟩)) (fun b u z => nomatch z) (fun b z => (z rfl).elim) fun z => (z rfl).elim
end L2

namespace L2
open PySem PySem.Spec PyProof.Rows
/-! ### repr(data), where nothing is being shown -/
mutual
def wt : PyData → Nat
  | .none => 4
  | .bool _ => 5
  | .int _ => 1921
  | .str x => (reprText x).length
  | .list xs => wtAll xs + 3
  | .tuple xs => wtAll xs + 3
  | .dict _ => 0
def wtAll : List PyData → Nat
  | [] => 0
  | x :: xs => wt x + 2 + wtAll xs
end
mutual
theorem shown_wt : ∀ d : PyData, d.showable = true → d.hasDict = false → d.shown.length ≤ wt d
  | .none, _, _ => by simp only [PyData.shown, wt]; decide +kernel
  | .bool b, _, _ => by cases b <;> simp only [PyData.shown, wt] <;> decide +kernel
  | .int i, h, _ => by
    simp only [PyData.shown, wt]
    exact int_text_len_1921 (by simpa [PyData.showable] using h)
  | .str x, _, _ => by simp only [PyData.shown, wt]; exact Nat.le_refl _
  | .list xs, h, h2 => by
    simp only [PyData.showable] at h
    simp only [PyData.hasDict] at h2
    simp only [PyData.shown, wt]
    have h3 := shown_wtAll xs h h2
    have h4 := listText_len_le (PyData.shownAll xs)
    omega
  | .tuple xs, h, h2 => by
    simp only [PyData.showable] at h
    simp only [PyData.hasDict] at h2
    simp only [PyData.shown, wt]
    have h3 := shown_wtAll xs h h2
    have h4 := tupleText_len_le (PyData.shownAll xs)
    omega
  | .dict _, _, h2 => by simp [PyData.hasDict] at h2
theorem shown_wtAll : ∀ xs : List PyData, PyData.showableAll xs = true → PyData.hasDictAll xs = false → ((PyData.shownAll xs).map (·.length)).sum + 2 * (PyData.shownAll xs).length ≤ wtAll xs
  | [], _, _ => by simp [PyData.shownAll, wtAll]
  | x :: xs, h, h2 => by
    simp only [PyData.showableAll, Bool.and_eq_true] at h
    simp only [PyData.hasDictAll, Bool.or_eq_false_iff] at h2
    have h3 := shown_wt x h.1 h2.1
    have h4 := shown_wtAll xs h.2 h2.2
    simp only [PyData.shownAll, wtAll, List.map_cons, List.sum_cons, List.length_cons]
    omega
end
def rReprD (K : PySem.W.Frag) : List V → Hp → VK → Prop := fun xs H Q => ∃ x d, xs = [x] ∧ Dp K H x d ∧ SeqAt.shaped d = true ∧ d.showable = true ∧ wt d ≤ sizeLine ∧ Q (.str d.shown) H
theorem cr_reprD {X : Cx} (hg : X.A.guards = some []) (hu : X.A.units + 65 < cLine) : CallR X (.builtin "repr") (rReprD X.K) := by
  intro pins s σ H vs us Q I r h
  obtain ⟨x, d, rfl, hd, hs, hw, hz, q⟩ := h
  cases r with
  | cons rv rn =>
    rename_i v us'
    cases rn
    have hs' : (d.canLay0 && decide (d.depth ≤ 64)) = true := hs
    rw [Bool.and_eq_true] at hs'
    have nd := PyData.hasDict_of_canLay d hs'.1
    have dep : d.depth ≤ 64 := of_decide_eq_true hs'.2
    have sz := Nat.le_trans (shown_wt d hw nd) hz
    obtain ⟨as, rd⟩ := Dp.reads I d x v hd rv
    have ref : ∀ a : Addr, v = .ref a → wpAny (model X.prog X.w) X.A (call (.builtin "repr") [v]) (EP X pins σ Q) X.xe s := fun a e => by
      subst e
      exact repr_of_reads' rd hw (PyData.noDict_hsm nd) hg (by omega) (fun _ _ e => e) (fun h' u tk hk => ⟨.str _, H, I.kept (t' := tk) hk, ⟨u, rfl⟩, q⟩) sz
    cases hd with
    | non =>
      cases rv
      exact PySem.P.repr_of_none ⟨.str _, H, I.tok _, ⟨_, rfl⟩, by simpa only [PyData.shown] using q⟩
    | bl b =>
      cases rv
      exact PySem.P.repr_of_bool ⟨.str _, H, I.tok _, ⟨_, rfl⟩, by simpa only [PyData.shown] using q⟩
    | int i =>
      obtain ⟨t, rfl⟩ := rv
      exact PySem.P.repr_of_int (by simpa [PyData.showable] using hw) ⟨.str _, H, I.tok _, ⟨_, rfl⟩, by simpa only [PyData.shown] using q⟩
    | str y =>
      obtain ⟨t, rfl⟩ := rv
      exact PySem.P.repr_of_str ⟨.str _, H, I.tok _, ⟨_, rfl⟩, by simpa only [PyData.shown] using q⟩ (by simpa only [PyData.shown] using sz)
    | lst _ _ => exact ref _ rv
    | tup _ _ => exact ref _ rv
end L2

namespace T
/-! ### fractions -/
theorem low_pos {a : Int} {n : Nat} (hn : n ≠ 0) : low a (n : Int) = ((Rat.divInt a (n : Int)).num, ((Rat.divInt a (n : Int)).den : Int)) := by
  have e : Rat.divInt a (n : Int) = Rat.normalize a n hn := by
    show mkRat a n = _
    rw [Rat.mkRat_def, dif_neg hn]
  rw [e, Rat.normalize_eq]
  unfold low gI
  rw [if_neg (by omega), Int.natAbs_natCast]
  show (_, _) = (_, (((n / a.natAbs.gcd n : Nat)) : Int))
  rw [Int.natCast_ediv]
theorem low_rat {a b : Int} (hb : b ≠ 0) : low a b = ((Rat.divInt a b).num, ((Rat.divInt a b).den : Int)) := by
  by_cases c : 0 < b
  · obtain ⟨n, rfl⟩ := Int.eq_ofNat_of_zero_le (Int.le_of_lt c)
    exact low_pos (by omega)
  · obtain ⟨n, hn⟩ := Int.eq_ofNat_of_zero_le (show 0 ≤ -b by omega)
    have e : Rat.divInt a b = Rat.divInt (-a) (n : Int) := (Rat.divInt_eq_divInt_iff hb (by omega)).mpr (by rw [← hn, Int.mul_neg, Int.neg_mul])
    rw [e, ← low_pos (by omega), ← hn]
    unfold low gI
    rw [if_pos (by omega), if_neg (by omega), Int.natAbs_neg, Int.natAbs_neg]
theorem low_congr {a b a' b' : Int} (hb : b ≠ 0) (hb' : b' ≠ 0) (h : a * b' = a' * b) : low a b = low a' b' := by
  rw [low_rat hb, low_rat hb', (Rat.divInt_eq_divInt_iff hb hb').mpr h]
theorem low_q {a b u v : Int} (hb : b ≠ 0) (h : (u, v) = low a b) : Rat.divInt u v = Rat.divInt a b ∧ 0 < v := by
  rw [low_rat hb] at h
  have e1 : u = (Rat.divInt a b).num := congrArg Prod.fst h
  have e2 : v = ((Rat.divInt a b).den : Int) := congrArg Prod.snd h
  rw [e1, e2]
  exact ⟨Rat.num_divInt_den _, by have := (Rat.divInt a b).den_pos; omega⟩
theorem low_cross {a b u v : Int} (hb : b ≠ 0) (h : (u, v) = low a b) : u * b = a * v ∧ 0 < v := by
  obtain ⟨h1, h2⟩ := low_q hb h
  exact ⟨(Rat.divInt_eq_divInt_iff (by omega) hb).mp h1, h2⟩
/-- a number times a number: the parts may be reduced ahead or behind -/
theorem num_step {p A B u v a b u' v' : Int} (hp : p = 0 ∨ p ∈ primes) (hB : p = 0 → B ≠ 0) (hb0 : p = 0 → b ≠ 0) (hb1 : p ≠ 0 → b = 1) (hB1 : p ≠ 0 → B = 1) (h : IsNum p A B u v) (h' : IsNum p (u * a) (v * b) u' v') : IsNum p (A * a) (B * b) u' v' := by
  by_cases c : p = 0
  · obtain ⟨_, e⟩ := h.resolve_left (fun z => by omega)
    obtain ⟨_, e'⟩ := h'.resolve_left (fun z => by omega)
    obtain ⟨x1, x2⟩ := low_cross (hB c) e
    refine .inr ⟨by omega, e'.trans (low_congr (Int.mul_ne_zero (by omega) (hb0 c)) (Int.mul_ne_zero (hB c) (hb0 c)) ?_)⟩
    calc u * a * (B * b) = u * B * (a * b) := by rw [Int.mul_assoc, Int.mul_assoc]; congr 1; rw [← Int.mul_assoc, ← Int.mul_assoc, Int.mul_comm a B]
      _ = A * v * (a * b) := by rw [x1]
      _ = A * a * (v * b) := by rw [Int.mul_assoc, Int.mul_assoc]; congr 1; rw [← Int.mul_assoc, ← Int.mul_assoc, Int.mul_comm v a]
  · have hp2 := prime_pos (hp.resolve_left c)
    obtain ⟨h0, e1, l1, u1, m1⟩ := h.resolve_right (fun z => by omega)
    obtain ⟨_, e2, l2, u2, m2⟩ := h'.resolve_right (fun z => by omega)
    refine .inl ⟨h0, e2, l2, u2, ?_⟩
    rw [hB1 c, hb1 c]
    rw [hB1 c, Int.mul_one] at m1
    rw [hb1 c, e1] at m2
    have d1 := Int.dvd_of_emod_eq_zero m1
    have d2 := Int.dvd_of_emod_eq_zero m2
    apply Int.emod_eq_zero_of_dvd
    have e : u' * (1 * 1) - A * a = (u' * (1 * 1) - u * a) + (u - A) * a := by
      rw [Int.sub_mul]
      omega
    rw [e]
    exact Int.dvd_add d2 (Int.dvd_mul_of_dvd_left d1)
theorem low_small {a b u v : Int} (h : (u, v) = low a b) : u.natAbs ≤ a.natAbs ∧ v.natAbs ≤ b.natAbs := by
  have e1 := congrArg Prod.fst h
  have e2 := congrArg Prod.snd h
  unfold low at e1 e2
  by_cases c : b < 0
  · rw [if_pos c] at e1 e2
    have f1 : u = (-a) / gI a b := e1
    have f2 : v = (-b) / gI a b := e2
    have g1 := Int.natAbs_ediv_le_natAbs (-a) (gI a b)
    have g2 := Int.natAbs_ediv_le_natAbs (-b) (gI a b)
    rw [f1, f2]
    omega
  · rw [if_neg c] at e1 e2
    have f1 : u = a / gI a b := e1
    have f2 : v = b / gI a b := e2
    have g1 := Int.natAbs_ediv_le_natAbs a (gI a b)
    have g2 := Int.natAbs_ediv_le_natAbs b (gI a b)
    rw [f1, f2]
    omega
theorem num_small {p a b u v : Int} (hp : p = 0 ∨ p ∈ primes) (h : IsNum p a b u v) (ha : a.natAbs < 2 ^ 199) (hb : b.natAbs < 2 ^ 199) : u.natAbs < 2 ^ 200 ∧ v.natAbs < 2 ^ 200 := by
  rcases h with ⟨h0, rfl, h1, h2, _⟩ | ⟨_, h⟩
  · have := prime_pos (hp.resolve_left (by omega))
    omega
  · have := low_small h
    omega
theorem isW_cases {p d : Int} (hw : isW p d = true) : (p = 0 ∨ p ∈ primes) ∧ d.natAbs ≤ 31 := by
  by_cases c : p = 0
  · refine ⟨.inl c, ?_⟩
    unfold isW at hw
    rw [if_pos c] at hw
    by_cases h1 : -20 ≤ d
    · rw [if_pos h1] at hw
      have := of_decide_eq_true hw
      omega
    · rw [if_neg h1] at hw
      cases hw
  · obtain ⟨h1, h2, h3⟩ := isW_prime hw c
    have := prime_pos h1
    exact ⟨.inr h1, by omega⟩
end T

namespace T
open PySem PySem.Spec PyProof.Rows L2
/-! ### lists of integers as polynomials -/
def co (l : List Int) (k : Nat) : Int := l.getD k 0
theorem co_ge {l : List Int} {k : Nat} (h : l.length ≤ k) : co l k = 0 := by
  unfold co
  rw [List.getD_eq_getElem?_getD, List.getElem?_eq_none h]
  rfl
theorem co_get {l : List Int} {k : Nat} (h : k < l.length) : l[k]? = some (co l k) := by
  unfold co
  rw [List.getD_eq_getElem?_getD, List.getElem?_eq_getElem h]
  rfl
theorem co_mem {l : List Int} {k : Nat} (h : k < l.length) : co l k ∈ l := by
  have e := co_get h
  exact List.mem_of_getElem? e
theorem at_co {l : List Int} {k : Nat} (h : k < l.length) : atI (l.map V.int) (k : Int) = some (.int (co l k)) := atI_nat (by rw [List.getElem?_map, co_get h]; rfl)
theorem at_end {l : List Int} (h : l ≠ []) : atI (l.map V.int) (-1) = some (.int (co l (l.length - 1))) := by
  have hl : 0 < l.length := List.length_pos_iff.mpr h
  have e : l.map V.int = (l.take (l.length - 1)).map V.int ++ [V.int (co l (l.length - 1))] := by
    have e1 : l = l.take (l.length - 1) ++ [co l (l.length - 1)] := by
      have := List.take_succ (l := l) (i := l.length - 1)
      rw [show l.length - 1 + 1 = l.length by omega, List.take_length, co_get (by omega)] at this
      exact this
    conv => lhs; rw [e1]
    rw [List.map_append]
    rfl
  rw [e]
  exact atI_last _ _
/-- no 0 at the end -/
def Pol (l : List Int) : Prop := l = [] ∨ co l (l.length - 1) ≠ 0
theorem pol_len {l m : List Int} (hm : Pol m) (h : ∀ k, co l k = co m k) : m.length ≤ l.length := by
  rcases hm with rfl | hm
  · exact Nat.zero_le _
  · rcases Nat.lt_or_ge l.length m.length with c | c
    · rw [← h, co_ge (by omega)] at hm
      exact absurd rfl hm
    · exact c
theorem pol_ext {l m : List Int} (hl : Pol l) (hm : Pol m) (h : ∀ k, co l k = co m k) : l = m := by
  have h1 := pol_len hm h
  have h2 := pol_len hl (fun k => (h k).symm)
  refine List.ext_getElem? fun k => ?_
  rcases Nat.lt_or_ge k l.length with c | c
  · rw [co_get c, co_get (by omega), h]
  · rw [List.getElem?_eq_none c, List.getElem?_eq_none (by omega)]
theorem co_take {l : List Int} {s k : Nat} (h : ∀ i, s ≤ i → co l i = 0) : co (l.take s) k = co l k := by
  rcases Nat.lt_or_ge k s with c | c
  · unfold co
    rw [List.getD_eq_getElem?_getD, List.getD_eq_getElem?_getD, List.getElem?_take_of_lt c]
  · rw [h k c, co_ge (by rw [List.length_take]; omega)]
theorem pol_take {l : List Int} {s : Nat} (hs : s ≤ l.length) (h : s = 0 ∨ co l (s - 1) ≠ 0) (hz : ∀ i, s ≤ i → co l i = 0) : Pol (l.take s) := by
  rcases h with rfl | h
  · exact .inl rfl
  · by_cases c : s = 0
    · rw [c]
      exact .inl rfl
    · refine .inr ?_
      rw [List.length_take, Nat.min_eq_left hs, co_take hz]
      exact h
theorem co_map {f : Int → Int} (h0 : f 0 = 0) (l : List Int) (k : Nat) : co (l.map f) k = f (co l k) := by
  rcases Nat.lt_or_ge k l.length with c | c
  · have := co_get c
    unfold co
    rw [List.getD_eq_getElem?_getD, List.getElem?_map, List.getD_eq_getElem?_getD, this]
    rfl
  · rw [co_ge (by rw [List.length_map]; omega), co_ge c, h0]
theorem co_set {l : List Int} {i : Nat} {v : Int} (k : Nat) (h : i < l.length) : co (l.set i v) k = if k = i then v else co l k := by
  unfold co
  rw [List.getD_eq_getElem?_getD, List.getElem?_set]
  by_cases c : i = k
  · rw [if_pos c, if_pos c.symm, if_pos (by omega)]
    rfl
  · rw [if_neg c, if_neg (fun z => c z.symm), List.getD_eq_getElem?_getD]
theorem co_zeros (n k : Nat) : co (List.replicate n 0) k = 0 := by
  unfold co
  rw [List.getD_eq_getElem?_getD, List.getElem?_replicate]
  split <;> rfl
theorem map_set (l : List Int) (i : Nat) (v : Int) : (l.map V.int).set i (V.int v) = (l.set i v).map V.int := List.map_set.symm
/-! the value -/
def ev (x : Int) : List Int → Int
  | [] => 0
  | a :: r => a + x * ev x r
theorem ev_append (x : Int) (l : List Int) (a : Int) : ev x (l ++ [a]) = ev x l + x ^ l.length * a := by
  induction l with
  | nil => show a + x * 0 = 0 + x ^ 0 * a; rw [Int.pow_zero]; grind
  | cons b r ih =>
    show b + x * ev x (r ++ [a]) = b + x * ev x r + x ^ (r.length + 1) * a
    rw [ih, Int.pow_succ]
    grind
theorem ev_take (x : Int) {l : List Int} {i : Nat} (h : i < l.length) : ev x (l.take (i + 1)) = ev x (l.take i) + co l i * x ^ i := by
  have e : l.take (i + 1) = l.take i ++ [co l i] := by rw [List.take_succ, co_get h]; rfl
  rw [e, ev_append, List.length_take, Nat.min_eq_left (by omega), Int.mul_comm]
theorem ev_drop (x : Int) {l : List Int} {i : Nat} (h : i < l.length) : ev x (l.drop i) = co l i + x * ev x (l.drop (i + 1)) := by
  rw [List.drop_eq_getElem_cons h]
  have := co_get h
  rw [List.getElem?_eq_getElem h] at this
  rw [Option.some.inj this]
  rfl
/-! the product: what is there behind i rows, and j entries of the next -/
def row (one other : List Int) (i k : Nat) : Int := if i ≤ k then co one i * co other (k - i) else 0
def conv (one other : List Int) : Nat → Nat → Int
  | 0, _ => 0
  | i + 1, k => conv one other i k + row one other i k
theorem conv_more (one other : List Int) (k : Nat) : ∀ i, one.length ≤ i → conv one other i k = conv one other one.length k
  | 0, h => by rw [show one.length = 0 by omega]
  | i + 1, h => by
    by_cases c : one.length = i + 1
    · rw [c]
    · show conv one other i k + row one other i k = _
      rw [conv_more one other k i (by omega)]
      unfold row
      rw [co_ge (l := one) (by omega)]
      split <;> simp
theorem conv_top (one other : List Int) {k : Nat} : ∀ i, i ≤ one.length → i + other.length ≤ k + 1 → conv one other i k = 0
  | 0, _, _ => rfl
  | i + 1, h, hk => by
    show conv one other i k + row one other i k = 0
    rw [conv_top one other i (by omega) (by omega)]
    unfold row
    rw [if_pos (by omega), co_ge (l := other) (by omega)]
    simp
theorem conv_zero (one : List Int) (k : Nat) : ∀ i, conv one [] i k = 0
  | 0 => rfl
  | i + 1 => by
    show conv one [] i k + row one [] i k = 0
    rw [conv_zero one k i]
    unfold row
    rw [show co [] (k - i) = 0 from co_ge (Nat.zero_le _)]
    split <;> simp
theorem rep0 : ∀ n : Nat, (List.replicate n [V.int 0]).flatten = (List.replicate n (0 : Int)).map V.int
  | 0 => rfl
  | n + 1 => by
    rw [List.replicate_succ, List.flatten_cons, rep0 n, List.replicate_succ, List.map_cons]
    rfl
theorem ixN_nat {n j : Nat} (h : j < n) : ixN n (j : Int) = some j := by
  unfold ixN
  rw [if_pos (by omega), if_pos (by omega)]
  rfl
end T

/-! ### tuple * n for n = 0 and n = 1 -/
namespace L2
open PySem PySem.Spec PyProof.Rows
theorem tuple_mulX (l : Addr) (items : Array Value) (n : Nat) (dd : Option Addr) (sl : Array (Option Value)) (x : Int) (u : Tok) (c0 : (decide (x < -(2 ^ 63)) || decide (x ≥ 2 ^ 63)) = false) (c1 : (items.isEmpty || x == 1) = true) :
    Meets (Builtin.«tuple.__mul__» ⟨[.ref l, .int x u], []⟩) (fun _ R s => s.heap.get? l = some { cls := .type "tuple", dict := dd, data := .seq items n, slots := sl } ∧ R (.ok (.ret (Value.ref l))) s) :=
  .of_wp fun prog w A R s h => by
    obtain ⟨hp, g, d, tk, os⟩ := s
    obtain ⟨hl, h⟩ := h
    have f1 := AutoSeq1.idx_int
    wp_walk using wpAny_loadPart' hl
    repeat (first
      | (refine wpAny_ite_false (decide_eq_false (by rw [c0]; exact Bool.false_ne_true)) ?_; wp_walk using wpAny_loadPart' hl)
      | (refine wpAny_ite_true (decide_eq_true c1) ?_; wp_walk using wpAny_loadPart' hl))
    exact ⟨_, rfl, h⟩
theorem tuple_mulZ (l : Addr) (items : Array Value) (n : Nat) (dd : Option Addr) (sl : Array (Option Value)) (x : Int) (u : Tok) (c0 : (decide (x < -(2 ^ 63)) || decide (x ≥ 2 ^ 63)) = false) (c1 : (items.isEmpty || x == 1) = false) (c2 : (decide (x ≤ 0) || items.isEmpty) = true) :
    Meets (Builtin.«tuple.__mul__» ⟨[.ref l, .int x u], []⟩) (fun _ R s => s.heap.get? l = some { cls := .type "tuple", dict := dd, data := .seq items n, slots := sl } ∧
      R (.ok (.ret (Value.ref s.heap.objs.size))) { s with heap := s.heap.push { cls := Value.type "tuple", data := Data.seq #[] }, toks := s.toks }) :=
  .of_wp fun prog w A R s h => by
    obtain ⟨hp, g, d, tk, os⟩ := s
    obtain ⟨hl, h⟩ := h
    have f1 := AutoSeq1.idx_int
    wp_walk using wpAny_loadPart' hl
    repeat (first
      | (refine wpAny_ite_false (decide_eq_false (by rw [c0]; exact Bool.false_ne_true)) ?_; wp_walk using wpAny_loadPart' hl)
      | (refine wpAny_ite_false (decide_eq_false (by rw [c1]; exact Bool.false_ne_true)) ?_; wp_walk using wpAny_loadPart' hl)
      | (refine wpAny_ite_true (decide_eq_true c2) ?_; wp_walk using wpAny_loadPart' hl))
    exact ⟨_, rfl, h⟩
def rRepA (K : PySem.W.Frag) : R2 := fun x y H Q => ∃ l k xs, x = .ref l ∧ y = .int k ∧ SqT K H l xs ∧ xs ≠ [] ∧ 0 ≤ k ∧ k ≤ 1000 ∧ xs.length ≤ 1000 ∧ (k = 1 → Q (.ref l) H) ∧ (k ≠ 1 → ∀ p, H p = none → Q (.ref p) (upd H p (.tup (List.replicate k.toNat xs).flatten)))
section
variable {X : Cx}
theorem op_repA : OpR X (binaryOp .Mult) (rRepA X.K) := by
  intro pins s σ H x y v u Q I rx ry h
  obtain ⟨l, k, xs, rfl, rfl, hT, hne, h1, h2, hz, q1, q⟩ := h
  by_cases big : 2 ≤ k
  · exact op_repT pins s σ H _ _ v u Q I rx ry ⟨l, k, xs, rfl, rfl, hT, hne, big, h2, hz, q (by omega)⟩
  cases rx
  obtain ⟨t, rfl⟩ := ry
  obtain ⟨its, r, ⟨⟨cls, dd, data, sl⟩, ho, hc, n, hd⟩, hs⟩ := I.tuple hT
  simp only at hc hd
  subst hc hd
  have hle : its.length = xs.length := r.length.symm
  have hn : its ≠ [] := fun e => hne (by
    rw [e] at hle
    exact List.eq_nil_of_length_eq_zero hle.symm)
  have hi : its.toArray.isEmpty = false := by
    cases its with
    | nil => exact absurd rfl hn
    | cons a b => rfl
  have c0 : (decide (k < -(2 ^ 63)) || decide (k ≥ 2 ^ 63)) = false := by
    rw [decide_eq_false (by omega), decide_eq_false (by omega)] <;> rfl
  by_cases one : k = 1
  · have c1 : (its.toArray.isEmpty || k == 1) = true := by
      rw [hi, Bool.false_or]
      exact beq_iff_eq.mpr one
    exact wpAny_binaryOp_repeat_ref (T := "tuple") (U := "int") (by decide) ⟨_, ho, rfl⟩ (fun s' => typeIs_int s' k t) noFill_tuple_mul F.fills_int_mul F.slot_int_rmul repeat_tuple F.slot_int_index.lookup
      (call_meets F.slot_int_rmul (typeIs_int s k t) F.entry_int_rmul (F.args_int_rmul_2 _ _) (int_rmul_tuple k t l its.toArray n dd sl)
        ⟨ho, rfl, ⟨_, ho, rfl⟩, call_meets F.slot_tuple_mul ⟨_, ho, rfl⟩ F.entry_tuple_mul (F.args_tuple_mul_2 _ _) (tuple_mulX l its.toArray n dd sl k t c0 c1) ⟨ho, ⟨.ref l, H, I, rfl, q1 one⟩⟩⟩)
  · have zero : k = 0 := by omega
    have c1 : (its.toArray.isEmpty || k == 1) = false := by
      rw [hi, Bool.false_or]
      exact beq_eq_false_iff_ne.mpr one
    have c2 : (decide (k ≤ 0) || its.toArray.isEmpty) = true := by
      rw [hi, Bool.or_false]
      exact decide_eq_true (by omega)
    refine wpAny_binaryOp_repeat_ref (T := "tuple") (U := "int") (by decide) ⟨_, ho, rfl⟩ (fun s' => typeIs_int s' k t) noFill_tuple_mul F.fills_int_mul F.slot_int_rmul repeat_tuple F.slot_int_index.lookup
      (call_meets F.slot_int_rmul (typeIs_int s k t) F.entry_int_rmul (F.args_int_rmul_2 _ _) (int_rmul_tuple k t l its.toArray n dd sl)
        ⟨ho, rfl, ⟨_, ho, rfl⟩, call_meets F.slot_tuple_mul ⟨_, ho, rfl⟩ F.entry_tuple_mul (F.args_tuple_mul_2 _ _) (tuple_mulZ l its.toArray n dd sl k t c0 c1 c2) ⟨ho, ?_⟩⟩)
    refine ⟨.ref s.heap.objs.size, _, I.laid (t' := s.toks) (o := .tup (List.replicate k.toNat xs).flatten) (fun b ob q => Heap.get?_push_of_some _ q) (Nat.le_refl _) ?_, rfl, q one _ (I.hok.fresh (Nat.le_refl _))⟩
    rw [zero]
    exact ⟨Nat.zero_le _, [], .nil, IsTup.new _ _⟩
end
end L2

/-! ### sorted(tuple of integers), x in tuple of tuples -/
namespace SrtO
open PySem PyProof.Rows Srt
section
variable {prog : Program} {w : World} {A : Around} {E : Value → Shared → Prop} {s : Shared}
theorem collect_tup {l : Addr} {vs : List Value} {Q : List Value → Shared → Prop} (hl : s.heap.IsTuple l vs.toArray)
    (h : Q vs { s with heap := (s.heap.push (seqObj "list" #[] 0)).update s.heap.objs.size (Obj.mapSeq (· ++ vs.toArray)) }) (hsz : vs.length ≤ sizeLine) :
    wpAny (model prog w) A (collect (.ref l)) Q E s := by
  obtain ⟨o, ho, hc, n, hd⟩ := id hl
  unfold collect
  refine wpAny_bind (wpAny_runValue (codeAny_builtin entry_proto_collect' ?_))
  show wpAny _ _ (do again (.builtin "list.__iadd__" ⟨[← newList [], .ref l], []⟩)) _ _ s
  refine wpAny_bind (wpAny_newList (wpAny_pure ⟨Code.quiet_builtin _ (by decide +kernel), codeAny_builtin entry_list_iadd' ?_⟩))
  show wpAny _ _ (Builtin.List.listExtendWith (.ref s.heap.objs.size) (.ref l) (.ref s.heap.objs.size)) _ _ { s with heap := s.heap.push (seqObj "list" #[] 0) }
  unfold Builtin.List.listExtendWith
  have ho' : (s.heap.push (seqObj "list" #[] 0)).get? l = some o := Heap.get?_push_of_some _ ho
  refine wpAny_bind (wpAny_typeOf (T := "tuple") ⟨o, ho', hc⟩ ?_)
  have ht : (Value.type "tuple" == Value.type "tuple") = true := by rfl
  rw [if_pos (by rw [ht]; simp)]
  refine wpAny_bind (listItems_at ho' hd ?_)
  refine wpAny_bind (listItems_at (xs := #[]) (n := 0) (Heap.get?_push_size _ rfl) rfl ?_)
  rw [if_neg (by simp)]
  refine wpAny_bind (listUpdate_at (xs := #[]) (n := 0) (Heap.get?_push_size _ rfl) rfl ?_ (Nat.zero_le _) (by show (#[] ++ vs.toArray).size ≤ sizeLine + 1; simp only [Array.size_append, List.size_toArray, List.length_nil]; omega))
  refine wpAny_pure ?_
  show wpAny (model prog w) A (do
      let o ← load s.heap.objs.size
      match o.data with
      | .seq xs _ => pure xs.toList
      | _ => unsupported "internal:collect") Q E { s with heap := (s.heap.push (seqObj "list" #[] 0)).update s.heap.objs.size (Obj.mapSeq (· ++ vs.toArray)) }
  refine wpAny_bind (wpAny_load (get?_update_seq (Heap.get?_push_size _ rfl) _) ?_)
  show wpAny _ _ (pure ((#[] : Array Value) ++ vs.toArray).toList) Q E _
  rw [show ((#[] : Array Value) ++ vs.toArray).toList = vs by simp]
  exact wpAny_pure h
theorem sorted_ordT {l : Addr} {vs : List Value} {ltv : Value → Value → Bool} {Q : Value → Shared → Prop} (O : Swo ltv) (hl : s.heap.IsTuple l vs.toArray) (hz : vs.length ≤ sizeLine)
    (hS : 2 ≤ vs.length → ∀ (h₁ : Heap) (a : Addr), h₁.get? a = some (seqObj "list" vs.toArray 0) → (∀ b o, s.heap.get? b = some o → b ≠ a ∧ h₁.get? b = some o) → SortableO prog w A.in1.in1 { s with heap := h₁ } a vs ltv)
    (h : ∀ out : List Value, Srtd ltv out → Stb ltv out vs → Q (.ref (s.heap.objs.size + 1)) { s with heap := sortedAll s.heap vs out.toArray }) :
    wpAny (model prog w) A (call (.builtin "sorted") [.ref l]) Q E s := by
  refine Calls.call_function_entry kind_sorted plain_sorted entry_sorted (args_sorted1 _) ?_
  unfold Builtin.«sorted»
  refine wpAny_bind (m := checkCount "sorted" 1 1 _) (wpAny_pure ?_)
  refine wpAny_bind (collect_tup hl ?_ hz)
  refine wpAny_bind (wpAny_newList ?_ hz)
  have hsz : ((s.heap.push (seqObj "list" #[] 0)).update s.heap.objs.size (Obj.mapSeq (· ++ vs.toArray))).objs.size = s.heap.objs.size + 1 := by
    rw [Heap.size_update, size_push']
  have hoL : (((s.heap.push (seqObj "list" #[] 0)).update s.heap.objs.size (Obj.mapSeq (· ++ vs.toArray))).push (seqObj "list" vs.toArray 0)).get? (s.heap.objs.size + 1) = some (seqObj "list" vs.toArray 0) := by
    rw [← hsz]; exact Heap.get?_push_size _ rfl
  have keep : ∀ b o, s.heap.get? b = some o → b ≠ s.heap.objs.size + 1 ∧ (((s.heap.push (seqObj "list" #[] 0)).update s.heap.objs.size (Obj.mapSeq (· ++ vs.toArray))).push (seqObj "list" vs.toArray 0)).get? b = some o := fun b o q => by
    have hlt : b < s.heap.objs.size := Heap.lt_size q
    refine ⟨Nat.ne_of_lt (Nat.lt_succ_of_lt hlt), Heap.get?_push_of_some _ ?_⟩
    rw [Heap.get?_update_ne _ _ _ _ (Nat.ne_of_lt hlt)]
    exact Heap.get?_push_of_some _ q
  show wpAny _ _ _ _ _ { s with heap := ((s.heap.push (seqObj "list" #[] 0)).update s.heap.objs.size (Obj.mapSeq (· ++ vs.toArray))).push (seqObj "list" vs.toArray 0) }
  rw [hsz]
  refine wpAny_bind (wpAny_holding (wpAny_call_entry slot_list_sort ⟨_, hoL, rfl⟩ entry_list_sort (list_sort_ord O hoL hz (fun h2 => hS h2 _ _ hoL keep) fun out hs hb => ⟨_, rfl, ?_⟩) (args_list_sort _)))
  exact wpAny_pure ⟨_, rfl, h out hs hb⟩
end
end SrtO
namespace L2
open PySem PySem.Spec PyProof.Rows
def rSortedIT (K : PySem.W.Frag) : List V → Hp → VK → Prop := fun vs H Q => ∃ (a : Addr) (ns : List Int), vs = [V.ref a] ∧ SqT K H a (ns.map V.int) ∧
  ∀ (ns' : List Int) (p : Addr), ns'.Perm ns → ns'.Pairwise (· ≤ ·) → H p = none → Q (.ref p) (upd H p (.lst (ns'.map V.int)))
def rInDT (K : PySem.W.Frag) : R2 := fun x y H Q => ∃ d ds, Dp K H x d ∧ Dp K H y (.tuple ds) ∧ SeqAt.shaped d = true ∧ SeqAt.shaped (.tuple ds) = true ∧ Q (.bl (ds.any fun z => PyData.eqv z d)) H
section
variable {X : Cx}
theorem cr_sortedIT : CallR X (.builtin "sorted") (rSortedIT X.K) := by
  intro pins s σ H vs us Q I r h
  obtain ⟨a, ns, rfl, hs, q⟩ := h
  obtain ⟨its, rv, hl, hz⟩ := I.tuple hs
  rw [Vals.ref1 r]
  have hi := rv.ints
  refine SrtO.sorted_ordT SrtO.swo_int hl (by rw [← rv.length]; exact hz) (fun h2 h₁ a' _ _ => SrtO.ints_sortable hi h2) fun out h1 h2 => ?_
  obtain ⟨k1, k2, k3⟩ := SrtO.ints_out hi h1 h2
  obtain ⟨ep, he'⟩ := PyProof.Rows.sortedAll_at s.heap its out.toArray
  have hlen : ((out.map SrtO.iv).map V.int).length ≤ sizeLine := by
    rw [List.length_map, k2.length_eq]
    rw [List.length_map] at hz
    exact hz
  exact ⟨.ref _, upd H (s.heap.objs.size + 1) (.lst ((out.map SrtO.iv).map V.int)), I.laid (t' := s.toks) (fun _ _ => PyProof.Rows.sortedAll_old) (Nat.le_succ _) ⟨hlen, out, ep, vals_of_ints k1, he'⟩, rfl, q _ _ k2 k3 (I.hok.fresh (Nat.le_succ _))⟩
theorem op_inDT (hu : X.A.units + 65 < cLine) : OpR X (compareOp .In) (rInDT X.K) := by
  intro pins s σ H x y v u Q I rx ry h
  obtain ⟨d, ds, hd, he, sd, se, q⟩ := h
  obtain ⟨as, r1⟩ := Dp.reads I d x v hd rx
  obtain ⟨bs, r2⟩ := Dp.reads I (.tuple ds) y u he ry
  exact SeqAt.in_tuple_reads r2 r1 (SeqAt.canLay_of_shaped se) (SeqAt.canLay_of_shaped sd) (room_in_shaped sd hu) ⟨.bl _, H, I, rfl, q⟩
end
end L2

/-! ### tuple[::-1], nested data by <, x not in range(..) -/
namespace HT
open PySem PySem.Spec PyProof.Rows
section
variable {prog : Program} {w : World} {A : Around} {E : Value → Shared → Prop} {s : Shared}
theorem sliceApplied_rev {sl : Addr} {vl vu vs : Value} {n : Nat} {Q : Int × Int × Nat → Shared → Prop} (hs : s.heap.IsSliceOf sl vl vu vs) (pl : IsPart vl none) (pu : IsPart vu none) (ps : IsPart vs (some (-1)))
    (h : Q ((n : Int) - 1, -1, n) s) : wpAny (model prog w) A (Builtin.Slice.sliceApplied (.ref sl) (pure (n : Int))) Q E s := by
  obtain ⟨os, hos, hcs, hds⟩ := id hs
  unfold Builtin.Slice.sliceApplied Builtin.Slice.sliceFields
  refine wpAny_bind (wpAny_bind (wpAny_field hos hds (x := vl) rfl (wpAny_bind (wpAny_field hos hds (x := vu) rfl (wpAny_bind (wpAny_field hos hds (x := vs) rfl (wpAny_pure ?_)))))))
  refine wpAny_bind (slicePart_ ps ?_)
  show wpAny _ _ (if ((-1 : Int) == 0) = true then _ else _) _ _ s
  rw [if_neg (by decide)]
  refine wpAny_bind (slicePart_ pl (wpAny_bind (slicePart_ pu (wpAny_bind (wpAny_pure ?_)))))
  have e2 : Builtin.Slice.slicePlaces ((n : Int) - 1) (-1) (-1) = n := by
    unfold Builtin.Slice.slicePlaces
    rw [if_neg (by decide)]
    by_cases c : (n : Int) - 1 > -1
    · rw [if_pos c, show -(-1 : Int) = 1 from rfl, Int.ediv_one]
      omega
    · rw [if_neg c]
      omega
  show wpAny _ _ (pure (((n : Int) - 1), (-1 : Int), Builtin.Slice.slicePlaces ((n : Int) - 1) (-1) (-1))) _ _ s
  rw [e2]
  exact wpAny_pure h
theorem fm_some {α β : Type} {f : α → Option β} {g : α → β} : ∀ l : List α, (∀ k ∈ l, f k = some (g k)) → l.filterMap f = l.map g
  | [], _ => rfl
  | a :: l, h => by
    rw [List.filterMap_cons, h a List.mem_cons_self, List.map_cons, fm_some l fun k hk => h k (List.mem_cons_of_mem _ hk)]
theorem pick_rev (items : Array Value) : ((List.range items.size).filterMap fun (k : Nat) => items[((items.size : Int) - 1 + (k : Int) * (-1)).toNat]?).toArray = items.toList.reverse.toArray := by
  congr 1
  have hlt : ∀ k ∈ List.range items.size, k < items.size := fun k hk => List.mem_range.mp hk
  have e : ∀ k, k < items.size → items[((items.size : Int) - 1 + (k : Int) * (-1)).toNat]? = some (items.toList.reverse.getD k .none) := fun k hk => by
    rw [show ((items.size : Int) - 1 + (k : Int) * (-1)).toNat = items.size - 1 - k by omega, List.getD_eq_getElem?_getD, List.getElem?_reverse (by rw [Array.length_toList]; exact hk), Array.length_toList, Array.getElem?_toList]
    rw [Array.getElem?_eq_getElem (by omega)]
    rfl
  have e2 : ((List.range items.size).filterMap fun (k : Nat) => items[((items.size : Int) - 1 + (k : Int) * (-1)).toNat]?) = (List.range items.size).map fun k => items.toList.reverse.getD k .none := by
    exact fm_some _ fun k hk => e k (hlt k hk)
  rw [e2]
  refine List.ext_getElem (by rw [List.length_map, List.length_range, List.length_reverse, Array.length_toList]) fun i h1 h2 => ?_
  rw [List.getElem_map, List.getElem_range, List.getD_eq_getElem?_getD, List.getElem?_eq_getElem h2]
  rfl
theorem getItem_tuple_rev {t sl : Addr} {items : Array Value} {vl vu vs : Value} {Q : Value → Shared → Prop} (ht : IsTup s.heap t items) (hs : s.heap.IsSliceOf sl vl vu vs) (pl : IsPart vl none) (pu : IsPart vu none) (ps : IsPart vs (some (-1)))
    (h : Q (.ref s.heap.objs.size) { s with heap := s.heap.push { cls := .type "tuple", data := .seq items.toList.reverse.toArray } }) (hsz : items.size ≤ sizeLine) : wpAny (model prog w) A (getItem (.ref t) (.ref sl)) Q E s := by
  have htake : sizeOk (.seq items.toList.reverse.toArray) := by
    show items.toList.reverse.toArray.size ≤ sizeLine
    rw [List.size_toArray, List.length_reverse, Array.length_toList]
    exact hsz
  obtain ⟨os, hos, hcs, hds⟩ := id hs
  have hTs : s.TypeIs (.ref sl) "slice" := ⟨os, hos, hcs⟩
  unfold getItem
  try with_reducible refine wpAny_holding ?_
  first | refine wpAny_bind (wpAny_pure ?_) | skip
  refine wpAny_bind (wpAny_sequenceKey ht.typeIs (by decide) ?_)
  refine wpAny_bind (wpAny_callSpecial?_slot (name := Str.ofString "__getitem__") ht.typeIs PyProof.Rows.slot_tuple_getitem
    (wpAny_call_entry PyProof.Rows.slot_tuple_getitem ht.typeIs entry_tuple_getitem ?_ (args_tuple_getitem _ _)))
  show wpAny _ _ (Builtin.Tuple.tupleItemsOf (.ref t) >>= _) _ _ s
  refine wpAny_bind (tupleItemsOf_ ht ?_)
  refine wpAny_bind (wpAny_typeOf hTs ?_)
  rw [if_pos (by decide)]
  refine wpAny_bind (sliceApplied_rev hs pl pu ps ?_)
  have hno : ¬ ((((items.size : Int) - 1) == 0 && (-1 : Int) == 1 && items.size == items.size) = true) := by
    intro q
    rw [Bool.and_eq_true, Bool.and_eq_true] at q
    have q1 : (-1 : Int) = 1 := eq_of_beq q.1.2
    omega
  show wpAny _ _ (if (((items.size : Int) - 1) == 0 && (-1 : Int) == 1 && items.size == items.size) = true then _ else _) _ _ s
  rw [if_neg hno, pick_rev]
  first
    | exact wpAny_bind (m := Builtin.Tuple.tupleExact _) (wpAny_newObj_type (wpAny_pure ⟨_, rfl, wpAny_pure h⟩) htake)
    | exact wpAny_bind (m := Builtin.Tuple.tupleExact _) (wpAny_newObj_type (wpAny_bind (wpAny_pure (wpAny_pure ⟨_, rfl, wpAny_pure h⟩))) htake)
    | exact wpAny_bind (wpAny_bind (m := Builtin.Tuple.tupleExact _) (wpAny_newObj_type (wpAny_pure (wpAny_pure ⟨_, rfl, wpAny_pure h⟩)) htake))
    | exact wpAny_bind (wpAny_bind (m := Builtin.Tuple.tupleExact _) (wpAny_newObj_type (wpAny_pure ⟨_, rfl, wpAny_pure h⟩) htake))
end
end HT
namespace L2
open PySem PySem.Spec PyProof.Rows
def tRevT (K : PySem.W.Frag) (te : TE) : TE := fun σ H Q => te σ H fun x H1 => ∃ a xs, x = .ref a ∧ SqT K H1 a xs ∧ ∀ p, H1 p = none → Q (.ref p) (upd H1 p (.tup xs.reverse))
section
variable {X : Cx}
theorem pe_revT {e : Expr} {te : TE} {k : Nat} {p1 p2 p3 pos : Pos} {K : PySem.W.Frag} (hK : X.K = K) (he : PE X e te) : PE X (.Subscript e (.Slice none none (some (.UnaryOp .USub (.Constant (.int 1) k p1) p2)) p3) pos) (tRevT K te) := by
  subst hK
  refine ⟨fun pins s σ H Q I h => ?_⟩
  refine Subscript_ (thn (he.run pins s σ H _ I h) fun v s1 ⟨x, H1, I1, r1, q1⟩ => ?_)
  obtain ⟨a, xs, ex, hx, q⟩ := q1
  subst ex
  cases r1
  have hst : PO X (some (.UnaryOp .USub (.Constant (.int 1) k p1) p2)) (tPart (tUn (rU fun i => .int (-i)) (tC (.int 1)))) := po_some (pe_un un_neg pe_int)
  refine wpAny_Slice (thn (po_none.run pins s1 σ H1 (fun o H2 => o = none ∧ H2 = H1) I1 ⟨rfl, rfl⟩) fun vl s2 ⟨l, H2, I2, pl, el, e2⟩ => ?_)
  subst el e2
  refine thn (po_none.run pins s2 σ H2 (fun o H3 => o = none ∧ H3 = H2) I2 ⟨rfl, rfl⟩) fun vu s3 ⟨u, H3, I3, pu, eu, e3⟩ => ?_
  subst eu e3
  refine thn (hst.run pins s3 σ H3 (fun o H4 => o = some (-1) ∧ H4 = H3) I3 ⟨1, rfl, -1, rfl, rfl, rfl⟩) fun vs s4 ⟨o, H4, I4, ps, eo, e4⟩ => ?_
  subst eo e4
  have I5 : Inv X pins σ H4 { s4 with heap := s4.heap.push { cls := .type "slice", data := .fields #[vl, vu, vs] } } := I4.kept (t' := s4.toks) fun b ob q => Heap.get?_push_of_some _ q
  obtain ⟨its, r, ht, hz⟩ := I5.tuple hx
  have hlen := r.length
  show wpAny (model X.prog X.w) X.A (subscriptTail e (.Slice none none (some (.UnaryOp .USub (.Constant (.int 1) k p1) p2)) p3) (.ref a) (.ref s4.heap.objs.size)) (EP X pins σ Q) X.xe { s4 with heap := s4.heap.push { cls := .type "slice", data := .fields #[vl, vu, vs] } }
  refine tail_any (ops := [.ref a, .ref s4.heap.objs.size]) ht.typeIs (PyProof.Rows.slot_tuple_getitem.lookup) ?_ (by with_unfolding_all rfl)
  refine HT.getItem_tuple_rev ht (Heap.IsSliceOf.new _ vl vu vs) pl pu ps ?_ (by rw [List.size_toArray]; omega)
  refine ⟨.ref _, _, I5.laid (t' := s4.toks) (o := .tup xs.reverse) (fun b ob q => Heap.get?_push_of_some _ q) (Nat.le_refl _) ?_, rfl, q _ (I5.hok.fresh (Nat.le_refl _))⟩
  exact ⟨by rw [List.length_reverse]; exact hz, _, r.reverse, IsTup.new _ _⟩
/-- nested data of one shape -/
def rLtD (K : PySem.W.Frag) : R2 := fun x y H Q => ∃ d e, Dp K H x d ∧ Dp K H y e ∧ PySem.W.alike d e = true ∧ d ≠ .none ∧ d.depth ≤ 64 ∧ Q (.bl (PySem.W.dataLt d e)) H
theorem op_ltD (hu : X.A.units + 64 < cLine) : OpR X (compareOp .Lt) (rLtD X.K) := by
  intro pins s σ H x y v u Q I rx ry h
  obtain ⟨d, e, hd, he, al, nn, dep, q⟩ := h
  obtain ⟨as, r1⟩ := Dp.reads I d x v hd rx
  obtain ⟨bs, r2⟩ := Dp.reads I e y u he ry
  exact PySem.W.rcLt_alike d e X.A s v u as bs r1 r2 al nn (by have := Nat.min_le_left d.depth e.depth; omega) X.prog X.w _ _ ⟨.bl _, H, I, rfl, q⟩
theorem cr_range1 : CallR X (.type "range") (fun vs H Q => ∃ j, vs = [V.int j] ∧ ∀ p, H p = none → Q (.ref p) (upd H p (.rng 0 j))) := by
  intro pins s σ H vs us Q I r h
  obtain ⟨j, rfl, q⟩ := h
  obtain ⟨u1, rfl, rj⟩ : ∃ u1, us = [u1] ∧ RelV (.int j) u1 := by
    cases r with
    | cons r rr =>
      cases rr
      exact ⟨_, rfl, r⟩
  obtain ⟨u, rfl⟩ := rj
  refine call_range_1 ⟨.ref s.heap.objs.size, upd H s.heap.objs.size (.rng 0 j), I.laid (t' := s.toks + 1 + 1) (fun b o e => Heap.get?_push_of_some _ e) (Nat.le_refl _) ?_, rfl, q _ (I.hok.fresh (Nat.le_refl _))⟩
  exact ⟨s.toks, u, s.toks + 1, Heap.get?_push_size _ rfl⟩
theorem op_notIn_rng : OpR X (compareOp .NotIn) (fun x y H Q => ∃ i a lo hi, x = V.int i ∧ y = V.ref a ∧ H a = some (.rng lo hi) ∧ Q (.bl (!decide (lo ≤ i ∧ i < hi))) H) := by
  intro pins s σ H x y v u Q I rx ry h
  obtain ⟨i, a, lo, hi, rfl, rfl, ha, q⟩ := h
  obtain ⟨k, rfl⟩ := rx
  obtain rfl : u = Value.ref a := ry
  obtain ⟨t1, t2, t3, ho⟩ := I.hok a _ ha
  show wpAny _ _ (do return Value.bool (!(← contains (Value.ref a) (Value.int i k)))) _ _ s
  refine wpAny_bind (wpAny_contains_slot (T := "range") ⟨_, ho, rfl⟩ F.slot_range_contains (call_meets F.slot_range_contains ⟨_, ho, rfl⟩ F.entry_range_contains (F.args_range_contains_2 _ _) (q_contains a lo hi i t1 t2 t3 k)
    ⟨ho, wpAny_truthy_bool (wpAny_pure ⟨.bl _, H, I, rfl, ?_⟩)⟩))
  rw [place1]
  exact q
end
end L2

/-! ### tuple(d.values()) -/
namespace L2
open PySem PySem.Spec PyProof.Rows PySem.W
section
variable {prog : Program} {w : World} {A : Around} {E : Value → Shared → Prop} {s : Shared} {T : String} {r d : Addr} {n : Nat} {P : Nat → Value → Prop} {OK : Heap → Prop}
theorem collect_kdl {Q : List Value → Shared → Prop} (K : KdlSrc prog w T r d n P OK) (hh : A.handled = none) (hok : OK s.heap) (hn : n ≤ sizeLine)
    (hQ : ∀ (h' : Heap) (tk : Nat) (acc : Array Value), (∀ b o, s.heap.get? b = some o → h'.get? b = some o) → ItemsOf P acc n → Q acc.toList { s with heap := h', toks := tk }) :
    wpAny (model prog w) A (collect (.ref r)) Q E s := by
  have hlt := K.there _ hok
  unfold collect
  refine wpAny_bind (wpAny_runValue (codeAny_builtin F.entry_proto_collect ?_))
  rw [Around.under_plainId F.plain_proto_collect _]
  show wpAny _ A.in1 (newList [] >>= fun l => again (.builtin "list.__iadd__" ⟨[l, .ref r], []⟩)) _ _ s
  refine wpAny_bind (wpAny_newObj_type ?_)
  refine wpAny_pure ⟨plainId_quiet F.plain_list_iadd _, codeAny_builtin F.entry_list_iadd ?_⟩
  rw [Around.under_plainId F.plain_list_iadd _]
  show wpAny _ A.in1 (Builtin.List.listExtendWith (.ref s.heap.objs.size) (.ref r) (.ref s.heap.objs.size)) _ _ _
  have hS : (s.heap.push { cls := .type "list", data := .seq ([] : List Value).toArray }).get? s.heap.objs.size = some { cls := .type "list", data := .seq #[] 0 } := Heap.get?_push_size _ rfl
  refine wpAny_mono (kdl_extend (A := A) (R := fun rr s' => rr = .ok (.ret (.ref s.heap.objs.size)) ∧ ∃ (h' : Heap) (tk : Nat) (acc : Array Value) (c' : Nat), s' = { s with heap := h', toks := tk } ∧
      (∀ b o, s.heap.get? b = some o → h'.get? b = some o) ∧ h'.get? s.heap.objs.size = some { cls := .type "list", dict := none, data := .seq acc c', slots := #[] } ∧ ItemsOf P acc n)
    (s := { s with heap := s.heap.push { cls := .type "list", data := .seq ([] : List Value).toArray } }) K hh (K.keep _ _ hok fun b _ o e => Heap.get?_push_of_some _ e) _ (Nat.ne_of_gt hlt.1) (Nat.ne_of_gt hlt.2) _ 0 hS
    (fun h' tk acc c' hk e hi => ⟨rfl, h', tk, acc, c', rfl, fun b o q => hk b o (Nat.ne_of_lt (Heap.lt_size q)) (Heap.get?_push_of_some _ q), e, hi⟩) hn) (fun fin s' h => ?_) (fun e s' h => ?_)
  · cases fin with
    | done f =>
      obtain ⟨e, h', tk, acc, c', rfl, hk, hS', hi⟩ := h
      cases e
      show wpAny _ A (load s.heap.objs.size >>= _) _ _ _
      exact wpAny_bind (wpAny_load hS' (wpAny_pure (hQ h' tk acc hk hi)))
    | again c' =>
      refine ⟨h.1, codeAny_mono h.2 fun rr s'' hr' => ?_⟩
      obtain ⟨rfl, h', tk, acc, c', rfl, hk, hS', hi⟩ := hr'
      show wpAny _ A (load s.heap.objs.size >>= _) _ _ _
      exact wpAny_bind (wpAny_load hS' (wpAny_pure (hQ h' tk acc hk hi)))
  · exact absurd h.1 (by simp)
theorem code_tuple_new_kdl {Q₁ : Value → Shared → Prop} (K : KdlSrc prog w "dict_values" r d n P OK) (hh : A.handled = none) (hok : OK s.heap) (hn : n ≤ sizeLine)
    (h : ∀ (h' : Heap) (tk : Nat) (acc : Array Value), (∀ b o, s.heap.get? b = some o → h'.get? b = some o) → ItemsOf P acc n →
      Q₁ (.ref h'.objs.size) { s with heap := h'.push { cls := .type "tuple", data := .seq acc }, toks := tk }) :
    codeAny (model prog w) A (.call (.builtin "tuple.__new__") ⟨[.type "tuple", .ref r], []⟩) (wants Q₁ E) s := by
  refine codeAny_of_tree ?_
  show wpAny _ A.in1 (do checkBuiltinCall "tuple.__new__" ⟨[.type "tuple", .ref r], []⟩; again (.builtin "tuple.__new__" ⟨[.type "tuple", .ref r], []⟩)) _ _ s
  refine wpAny_bind (wpAny_of_eq (F.newCall_tuple_1 _) (wpAny_pure ⟨plainId_quiet F.plain_tuple_new _, codeAny_builtin F.entry_tuple_new ?_⟩))
  rw [Around.under_plainId F.plain_tuple_new _]
  have hsub := sub_tuple_self
  have hinit := init_tuple_lookup
  have hmh := madeHere_tuple
  have hTI : s.TypeIs (.ref r) "dict_values" := K.type s hok
  have hh1 : A.in1.handled = none := hh
  wp_walk using wpAny_typeOf hTI, collect_kdl (A := A.in1) K hh1 hok hn
  intro h' tk acc hk hacc
  show wpAny _ _ (Builtin.Tuple.tupleExact acc.toList.toArray >>= fun v => ret v) _ _ _
  unfold Builtin.Tuple.tupleExact
  refine wpAny_bind (wpAny_newObj_type ?_ (by show acc.toList.toArray.size ≤ sizeLine; simp only [Array.toArray_toList]; rw [hacc.1]; exact hn))
  refine wpAny_pure ?_
  have e : acc.toList.toArray = acc := by simp
  rw [e]
  exact h h' tk acc hk hacc
theorem call_tuple_kdl {Q : Value → Shared → Prop} (K : KdlSrc prog w "dict_values" r d n P OK) (hh : A.handled = none) (hok : OK s.heap) (hn : n ≤ sizeLine)
    (hQ : ∀ (h' : Heap) (tk : Nat) (acc : Array Value), (∀ b o, s.heap.get? b = some o → h'.get? b = some o) → ItemsOf P acc n →
      Q (.ref h'.objs.size) { s with heap := h'.push { cls := .type "tuple", data := .seq acc }, toks := tk }) :
    wpAny (model prog w) A (call (.type "tuple") [.ref r]) Q E s := by
  refine callType_codes (Q₁ := fun obj s₁ => s₁.TypeIs obj "tuple" ∧ Q obj s₁) F.called_tuple (F.typeCall_tuple_1 _) F.entry_object_init
    (code_tuple_new_kdl (A := A.in1) K hh hok hn fun h' tk acc hk hacc => ⟨⟨_, Heap.get?_push_size _ rfl, rfl⟩, hQ h' tk acc hk hacc⟩) fun obj s₁ h₁ => ?_
  exact ⟨h₁.1, F.args_object_init_2 obj _, object_init_meets F.called_tuple.init.lookup F.called_tuple.made (by decide) prog w A.in1 _ s₁ ⟨h₁.1, rfl, h₁.2⟩⟩
end
def tTupVals (td : TE) : TE := fun σ H Q => td σ H fun x H1 => ∃ a kvs, x = V.ref a ∧ H1 a = some (.dK kvs) ∧ ∀ p, H1 p = none → Q (.ref p) (upd H1 p (.tup (kvs.map (·.2))))
section
variable {X : Cx} {o : Expr} {p pos apos mpos : Pos} {td : TE}
theorem pe_tupVals (hc : X.calm = true) (hg : Gl X "tuple") (hm : X.mg "tuple" = none) (hd : PE X o td) (hbase : attributeBase o "values" X.env (eval o X.env) = eval o X.env := by rfl) (hline : (apos.endLine == mpos.line) = true := by rfl)
    (hse : starEach [Expr.Call (.Attribute o "values" apos) [] [] mpos] X.env = [(false, eval (Expr.Call (.Attribute o "values" apos) [] [] mpos) X.env)] := by rfl) :
    PE X (.Call (.Name "tuple" p) [.Call (.Attribute o "values" apos) [] [] mpos] [] pos) (tTupVals td) := by
  refine ⟨fun pins s σ H Q I h => ?_⟩
  have hse2 : starEach [Expr.Call (.Attribute o "values" apos) [] [] mpos] X.env = (false, eval (Expr.Call (.Attribute o "values" apos) [] [] mpos) X.env) :: starEach [] X.env := hse
  refine Call_ (ld_blt I hg hm boot_tuple (PyProof.Rows.callWith_type1 (args_cons (wpAny_Call_method0_late hbase hline (thn (hd.run pins s σ H _ I h) fun v s1 ⟨x, H1, I1, r1, a, kvs, ex, ha, q⟩ => ?_)) hse2) hse2 rfl))
  subst ex
  obtain rfl : v = Value.ref a := r1
  obtain ⟨z, hsys, vs, rel, dof⟩ := dk_of I1.hok ha
  obtain ⟨ep, dat⟩ := dof.dictAt
  have dat' := dat
  obtain ⟨ob, es, ho, ex, hdat, hko, hpr, hnd⟩ := dat'
  refine ⟨"dict", "dict.values", F.plainAttrs_dict, F.slot_dict_values, F.type_dict_values, ⟨ob, ho, ex.1⟩, fun b e => ?_, Calls.callWith_builtin rfl (PySem.evalArgs_none ?_)⟩
  · cases e
    exact ⟨ob, ho, ex.2.1⟩
  refine call_meetsIn F.slot_dict_values ⟨ob, ho, ex.1⟩ F.entry_dict_values (F.args_dict_values_1 _) (meets_dict_values (mixKind X.prog X.w) a hsys) ⟨⟨vs, dof⟩, ?_⟩
  have k1 : ∀ b u, s1.heap.get? b = some u → (s1.heap.push { cls := .type "dict_values", data := .fields #[.ref a] }).get? b = some u := fun b u e => Heap.get?_push_of_some _ e
  have dat1 : (s1.heap.push { cls := .type "dict_values", data := .fields #[.ref a] }).DictAt (mixKind X.prog X.w) a vs ep := dat.keep k1
  refine args_nil ?_
  have hl : kvs.length = vs.length := Paired.length rel
  have I2 : Inv X pins σ H1 { s1 with heap := s1.heap.push { cls := .type "dict_values", data := .fields #[.ref a] } } := I1.kept (t' := s1.toks) k1
  refine call_tuple_kdl (kdl_values (knd := mixKind X.prog X.w) (d := a) (r := s1.heap.objs.size) (kvs := vs) (ep := ep)) (I.ok.hd hc) ⟨⟨_, Heap.get?_push_size _ rfl, rfl, rfl⟩, dat1⟩ (by rw [← hl]; exact z) fun h' tk acc hk hacc => ?_
  have I3 : Inv X pins σ H1 { s1 with heap := h', toks := tk } := I2.kept (t' := tk) hk
  refine ⟨.ref h'.objs.size, upd H1 h'.objs.size (.tup (kvs.map (·.2))), I3.laid (t' := tk) (fun b o e => Heap.get?_push_of_some _ e) (Nat.le_refl _) (show ObjOk X.prog X.w _ _ _ (.tup (kvs.map (·.2))) from ⟨by rw [List.length_map]; exact z, acc.toList, ?_, by rw [Array.toArray_toList]; exact IsTup.new _ _⟩), rfl, q _ (I3.hok.fresh (Nat.le_refl _))⟩
  have el : acc.toList.length = acc.size := by simp
  refine vals_of_at (by rw [List.length_map, el, hacc.1, hl]) fun j x w h1 h2 => ?_
  obtain ⟨k, hky⟩ := hacc.2 j w (by rw [← Array.getElem?_toList]; exact h2)
  obtain ⟨y, h3, h4⟩ := KV.at' rel hky
  rw [List.getElem?_map, h3] at h1
  cases h1
  exact h4
end
end L2

/-! ### enumerate over a tuple (the hand layer has it over a list) -/
namespace PySem
open Sem (wp)
open AutoSeq1 (wpAny_loadPart')
theorem new_enumT (t : Addr) (its : Array Value) (n : Nat) (dc : Option Addr) (sl : Array (Option Value)) :
    Meets (Builtin.«enumerate.__new__» ⟨[.type "enumerate", .ref t], []⟩) (fun _ R s => s.heap.get? t = some { cls := .type "tuple", dict := dc, data := .seq its n, slots := sl } ∧
      R (.ok (.ret (.ref (s.heap.push { cls := .type "tuple_iterator", data := .fields #[.ref t, .int 0 0] }).objs.size)))
        { s with heap := (s.heap.push { cls := .type "tuple_iterator", data := .fields #[.ref t, .int 0 0] }).push { cls := .type "enumerate", data := .fields #[.none, .bool false, .ref s.heap.objs.size, rawInt 0, .none, .none] } }) :=
  .of_wp fun prog w A R s both => by
    obtain ⟨hp, g, d, tk, os⟩ := s
    obtain ⟨ht, both⟩ := both
    have below := sub_enumerate
    have tup : Heap.IsTuple (Shared.heap ⟨hp, g, d, tk, os⟩) t its := ⟨_, ht, rfl, n, rfl⟩
    wp_walk using wpAny_loadPart' ht
    refine wpAny_stack_any fun _ => wpAny_pure ?_
    split
    · rename_i c _ _ _ _ _
      cases (c == Value.type "enumerate")
      · wp_walk using wpAny_loadPart' ht, wpAny_pyIter_tuple tup
        exact ⟨_, rfl, both⟩
      · wp_walk using wpAny_loadPart' ht, wpAny_pyIter_tuple tup
        exact ⟨_, rfl, both⟩
    · wp_walk using wpAny_loadPart' ht, wpAny_pyIter_tuple tup
      exact ⟨_, rfl, both⟩
section
variable {prog : Program} {w : World} {A : Around} {E : Value → Shared → Prop} {s : Shared}
theorem call_enumT {t : Addr} {its : Array Value} {Q : Value → Shared → Prop} (ht : s.heap.IsTuple t its)
    (q : ∀ h', IsEnum h' (s.heap.objs.size + 1) s.heap.objs.size 0 .none → h'.IsTupleIter s.heap.objs.size t 0 →
      (∀ b o, s.heap.get? b = some o → h'.get? b = some o) → Q (.ref (s.heap.objs.size + 1)) { s with heap := h' }) :
    wpAny (model prog w) A (call (.type "enumerate") [.ref t]) Q E s := by
  obtain ⟨⟨c, dc, da, sl⟩, ht, ec, n, ed⟩ := ht
  obtain rfl : c = .type "tuple" := ec
  obtain rfl : da = .seq its n := ed
  refine callType_new F.called_enumerate (by decide) (F.typeCall_enumerate_1 _) (F.newCall_enumerate_1 _) (fun ob => F.args_object_init_2 ob _) F.entry_enumerate_new (new_enumT t its n dc sl) ⟨ht, ?_⟩
  have sz : (s.heap.push { cls := .type "tuple_iterator", data := .fields #[.ref t, .int 0 0] }).objs.size = s.heap.objs.size + 1 := Heap.size_push ..
  show _ ∧ _
  rw [sz]
  have en : IsEnum ((s.heap.push { cls := .type "tuple_iterator", data := .fields #[.ref t, .int 0 0] }).push { cls := .type "enumerate", data := .fields #[.none, .bool false, .ref s.heap.objs.size, rawInt 0, .none, .none] })
      (s.heap.objs.size + 1) s.heap.objs.size 0 .none := by
    have z := Heap.get?_push_size (s.heap.push { cls := .type "tuple_iterator", data := .fields #[.ref t, .int 0 0] }) (o := { cls := .type "enumerate", data := .fields #[.none, .bool false, .ref s.heap.objs.size, rawInt 0, .none, .none] }) rfl
    rw [sz] at z
    exact z
  exact ⟨⟨_, en, rfl⟩, q _ en ⟨_, Heap.get?_push_of_some _ (Heap.get?_push_size _ rfl), rfl, rfl⟩ fun b o x => Heap.get?_push_of_some _ (Heap.get?_push_of_some _ x)⟩
end
end PySem
namespace L2
open PySem PySem.Spec PyProof.Rows
/-- the tuple at a, each item in a new pair behind its index -/
def IteT (K : PySem.W.Frag) (a : Addr) : It :=
  ⟨fun i H => ∃ (ys : List V) (y : V), SqT K H a ys ∧ ys[i]? = some y, fun i H v H' => ∃ p y, v = .ref p ∧ H p = none ∧ H' = upd H p (.tup [.int (i : Nat), y]) ∧ ∀ ys, SqT K H a ys → ys[i]? = some y,
    fun i H => ∃ ys : List V, SqT K H a ys ∧ ys.length = i⟩
theorem turn_enumT {P : Program} {w : World} {K : PySem.W.Frag} {elts : List Expr} {kk : Nat} {tp : Pos} (a e it : Addr) :
    Turn P w K (.Tuple elts kk tp) (IteT K a) [e, it] e (fun i h => (∃ old, IsEnum h e it ((i : Nat) : Int) old) ∧ h.IsTupleIter it a i ∧ (e ≠ it ∧ a ≠ it ∧ a ≠ e)) where
  mem := by simp
  obj := fun i h st b hb => by
    obtain ⟨⟨old, he⟩, ⟨o, ho, _, dd⟩, _⟩ := st
    rcases (show b = e ∨ b = it by simpa using hb) with rfl | rfl
    · exact ⟨_, he, fun v z => nomatch z⟩
    · exact ⟨o, ho, fun v z => by rw [dd] at z; exact nomatch z⟩
  keep := fun i h h' st k => by
    obtain ⟨⟨old, he⟩, ⟨o, ho, r⟩, ne⟩ := st
    exact ⟨⟨old, k e (by simp) _ he⟩, ⟨o, k it (by simp) _ ho, r⟩, ne⟩
  item := by
    intro X hP hw hK hc i pins s σ H E I hf st hg
    subst hP hw hK
    obtain ⟨⟨old, he⟩, hit, ne, nai, nae⟩ := st
    obtain ⟨ys, y, hq, hy⟩ := hg
    obtain ⟨its, rv, p, hz⟩ := I.tuple hq
    obtain ⟨u, hu, ru⟩ := rv.get hy
    have szE : e < s.heap.objs.size := Heap.lt_size he
    have szI : it < s.heap.objs.size := by
      obtain ⟨_, z, _⟩ := hit
      exact Heap.lt_size z
    have small : ∀ b ∈ [e, it], b < s.heap.objs.size := fun b hb => by
      rcases (show b = e ∨ b = it by simpa using hb) with rfl | rfl <;> assumption
    have D := Draws.tuple (prog := X.prog) (w := X.w) (A := X.A.in1) (I.ok.hd hc) it a nai its.toArray
    have hlt : i < its.toArray.size := by
      have := (List.getElem?_eq_some_iff.mp hu).1
      simpa using this
    refine wpAny_pyNext_enum_itemD D he ⟨hit, p⟩ hlt ne (by simp only [List.mem_cons, List.not_mem_nil, or_false, not_or]; exact ⟨ne, Ne.symm nae⟩) fun x h' tk hx ho st2 hT hsz hk => ?_
    obtain ⟨hit2, _⟩ := st2
    have ex : x = u := by
      have h2 : its.toArray[i]? = some u := by simpa using hu
      rw [h2] at hx
      exact (Option.some.inj hx).symm
    subst ex
    refine ⟨_, rfl, wpAny_letOwnedTupleGo_enum (s := { s with heap := h', toks := tk + 1 }) ho fun h'' he' sb => ?_⟩
    have hT2 : h''.get? s.heap.objs.size = some { cls := .type "tuple", data := .seq #[.int i tk, x] } := (sb.2 _ (Nat.ne_of_gt szE)).trans hT
    have okN : ObjOk X.prog X.w (upd H s.heap.objs.size (.tup [.int (i : Nat), y])) h'' s.heap.objs.size (.tup [.int (i : Nat), y]) :=
      ⟨by show 2 ≤ sizeLine; decide, [.int i tk, x], .cons ⟨_, rfl⟩ (.cons ru .nil), ⟨_, hT2, rfl, _, rfl⟩⟩
    have J : Inv X pins σ (upd H s.heap.objs.size (.tup [.int (i : Nat), y])) { s with heap := h'', toks := tk + 1 } :=
      I.turnedNew (ch := [e, it]) (fun b ob hb z => (sb.2 b (fun y => hb (by simp [y]))).trans (hk b ob (fun y => hb (by simp [y])) (fun y => hb (by simp [y])) z)) hf (Nat.le_refl _) okN
    refine ⟨.ref s.heap.objs.size, _, J, rfl, ⟨_, y, rfl, I.hok.fresh (Nat.le_refl _), rfl, fun zs hs => by rw [I.tuple_inj hs hq]; exact hy⟩, ⟨⟨x, ?_⟩, ?_, ne, nai, nae⟩, fun b hb => ?_⟩
    · rw [show ((i + 1 : Nat) : Int) = (i : Int) + 1 by omega]
      exact he'
    · obtain ⟨o, ho2, r⟩ := hit2
      exact ⟨o, (sb.2 it (Ne.symm ne)).trans ho2, r⟩
    · rw [upd_ne (Nat.ne_of_lt (small b hb))]
      exact (hf b hb).1
  done := by
    intro X hP hw hK hc i pins s σ H E I hf st hg
    subst hP hw hK
    obtain ⟨⟨old, he⟩, hit, ne, nai, nae⟩ := st
    obtain ⟨ys, hq, hle⟩ := hg
    obtain ⟨its, rv, p, hz⟩ := I.tuple hq
    have len : its.toArray.size = i := by
      have := rv.length
      simp
      omega
    obtain ⟨g0, g1, _, g3, g4, g5⟩ := hf it (by simp)
    rw [← len] at hit
    have D := Draws.tuple (prog := X.prog) (w := X.w) (A := X.A.in1) (I.ok.hd hc) it a nai its.toArray
    exact wpAny_pyNext_enum_endD D he ⟨hit, p⟩ fun h' eb => ⟨rfl, I.turned (t' := s.toks) (fun b o hb z => eb b o hb z) g0 g1 g3 g4 g5⟩
  self := fun A i s Q E st h => by
    obtain ⟨⟨_, he⟩, _⟩ := st
    exact wpAny_pyIter_enum he h
def iEnumT (K : PySem.W.Frag) (ta : TA) : TI := fun σ H R => ta σ H fun vs H1 => ∃ a ys, vs = [.ref a] ∧ SqT K H1 a ys ∧ R (IteT K a) H1
theorem pi_enumT {X : Cx} {e : Expr} {ta : TA} {p pos tp : Pos} {elts : List Expr} {kk : Nat} (hg : Gl X "enumerate") (hm : X.mg "enumerate" = none) (ha : PA X [e] ta) (hs : starEach [e] X.env = [(false, eval e X.env)] := by rfl) :
    PI X (.Tuple elts kk tp) (.Call (.Name "enumerate" p) [e] [] pos) (iEnumT X.K ta) := by
  refine ⟨fun pins s σ H R I h => Call_ (ld_blt I hg hm boot_enumerate (PyProof.Rows.callWith_type1 (thn (ha.run pos pins s σ H _ I h) fun us s1 ⟨vs, H1, I1, r1, q1⟩ => ?_) hs rfl))⟩
  obtain ⟨a, ys, rfl, hq, q⟩ := q1
  cases r1 with
  | cons r rr =>
    cases rr
    cases r
    obtain ⟨its, rv, p', hz⟩ := I1.tuple hq
    have hp' : s1.heap.IsTuple a its.toArray := p'
    have old : a < s1.heap.objs.size := by
      obtain ⟨o, ho, _⟩ := hp'
      exact Heap.lt_size ho
    refine call_enumT hp' fun h' he hit hk => wpAny_pyIter_enum he ?_
    refine ⟨s1.heap.objs.size + 1, [s1.heap.objs.size + 1, s1.heap.objs.size], _, _, H1, rfl, I1.kept (t' := s1.toks) hk, turn_enumT a (s1.heap.objs.size + 1) s1.heap.objs.size,
      ⟨⟨.none, he⟩, hit, Nat.succ_ne_self _, Nat.ne_of_lt old, Nat.ne_of_lt (Nat.lt_succ_of_lt old)⟩, fun b hb => ?_, q⟩
    have hle : s1.heap.objs.size ≤ b := by
      rcases (show b = s1.heap.objs.size + 1 ∨ b = s1.heap.objs.size by simpa using hb) with rfl | rfl
      · exact Nat.le_succ _
      · exact Nat.le_refl _
    exact I1.fpOk hle (I1.hok.fresh hle)
theorem walk_enumT {K : PySem.W.Frag} {a : Addr} {xs : List V} : Walk (IteT K a) xs.length (fun H => SqT K H a xs) (YPair (fun i => some (.int (i : Nat))) (fun i => xs[i]?)) :=
  ⟨fun i H hi h => ⟨xs, _, h, List.getElem?_eq_getElem hi⟩, fun H h => ⟨xs, h, rfl⟩, fun i H v H' hi h y => by
    obtain ⟨p, z, rfl, np, rfl, hz⟩ := y
    exact ⟨p, _, z, rfl, np, rfl, rfl, hz xs h⟩⟩
end L2

/-! ### max and min of a tuple of ints -/
namespace L2
open PySem PySem.Spec PyProof.Rows
theorem readsAll_ints {h : Heap} : ∀ {ns : List Int} {its : List Value}, Vals (ns.map V.int) its → ReadsAll h its (ns.map PyData.int) []
  | [], _, .nil => .nil
  | n :: ns, _, .cons r t => by
    obtain ⟨k, rfl⟩ := r
    exact .cons (.int n k) (readsAll_ints t)
theorem alikeAll_ints (ns : List Int) : PySem.W.AlikeAll (ns.map PyData.int) := by
  refine ⟨fun x hx y hy => ?_, fun x hx => ?_⟩
  · obtain ⟨a, _, rfl⟩ := List.mem_map.mp hx
    obtain ⟨b, _, rfl⟩ := List.mem_map.mp hy
    simp [PySem.W.alike]
  · obtain ⟨a, _, rfl⟩ := List.mem_map.mp hx
    exact fun z => nomatch z
theorem depthAll_ints : ∀ ns : List Int, PyData.depthAll (ns.map PyData.int) = 0
  | [] => by simp [PyData.depthAll]
  | _ :: ns => by simp [PyData.depthAll, PyData.depth, depthAll_ints ns]
theorem foldl_max (x : Int) : ∀ xs : List Int, xs.foldl max x ∈ x :: xs ∧ ∀ y ∈ x :: xs, y ≤ xs.foldl max x := by
  intro xs
  induction xs generalizing x with
  | nil => exact ⟨List.mem_cons_self, fun y hy => by rw [List.mem_singleton.mp hy]; exact Int.le_refl _⟩
  | cons a xs ih =>
    obtain ⟨h1, h2⟩ := ih (max x a)
    rw [List.foldl_cons]
    have h3 := h2 _ List.mem_cons_self
    refine ⟨?_, fun y hy => ?_⟩
    · rcases List.mem_cons.mp h1 with e | e
      · rw [e]
        by_cases c : x ≤ a
        · rw [show max x a = a by omega]
          exact List.mem_cons_of_mem _ List.mem_cons_self
        · rw [show max x a = x by omega]
          exact List.mem_cons_self
      · exact List.mem_cons_of_mem _ (List.mem_cons_of_mem _ e)
    · rcases List.mem_cons.mp hy with rfl | hy
      · omega
      · rcases List.mem_cons.mp hy with rfl | hy
        · omega
        · exact h2 y (List.mem_cons_of_mem _ hy)
theorem foldl_min (x : Int) : ∀ xs : List Int, xs.foldl min x ∈ x :: xs ∧ ∀ y ∈ x :: xs, xs.foldl min x ≤ y := by
  intro xs
  induction xs generalizing x with
  | nil => exact ⟨List.mem_cons_self, fun y hy => by rw [List.mem_singleton.mp hy]; exact Int.le_refl _⟩
  | cons a xs ih =>
    obtain ⟨h1, h2⟩ := ih (min x a)
    rw [List.foldl_cons]
    have h3 := h2 _ List.mem_cons_self
    refine ⟨?_, fun y hy => ?_⟩
    · rcases List.mem_cons.mp h1 with e | e
      · rw [e]
        by_cases c : x ≤ a
        · rw [show min x a = x by omega]
          exact List.mem_cons_self
        · rw [show min x a = a by omega]
          exact List.mem_cons_of_mem _ List.mem_cons_self
      · exact List.mem_cons_of_mem _ (List.mem_cons_of_mem _ e)
    · rcases List.mem_cons.mp hy with rfl | hy
      · omega
      · rcases List.mem_cons.mp hy with rfl | hy
        · omega
        · exact h2 y (List.mem_cons_of_mem _ hy)
def rMaxTI (K : PySem.W.Frag) : List V → Hp → VK → Prop := fun vs H Q => ∃ (a : Addr) (ns : List Int), vs = [V.ref a] ∧ SqT K H a (ns.map V.int) ∧ 0 < ns.length ∧ ∀ m, m ∈ ns → (∀ y, y ∈ ns → y ≤ m) → Q (.int m) H
def rMinTI (K : PySem.W.Frag) : List V → Hp → VK → Prop := fun vs H Q => ∃ (a : Addr) (ns : List Int), vs = [V.ref a] ∧ SqT K H a (ns.map V.int) ∧ 0 < ns.length ∧ ∀ m, m ∈ ns → (∀ y, y ∈ ns → m ≤ y) → Q (.int m) H
section
variable {X : Cx}
theorem cr_maxTI (hc : X.calm = true) (hu : X.A.units + 64 < cLine) : CallR X (.builtin "max") (rMaxTI X.K) := by
  intro pins s σ H vs us Q I r h
  obtain ⟨a, ns, rfl, hs, hne, q⟩ := h
  obtain ⟨its, rv, hl, _⟩ := I.tuple hs
  rw [Vals.ref1 r]
  cases ns with
  | nil => exact absurd hne (Nat.lt_irrefl 0)
  | cons x xs =>
    have hr : ReadsAll s.heap its.toArray.toList (PyData.int x :: xs.map PyData.int) [] := readsAll_ints rv
    refine PySem.W.max_tuple_data (I.ok.hd hc) hl hr (alikeAll_ints (x :: xs)) (by rw [show PyData.int x :: xs.map PyData.int = (x :: xs).map PyData.int from rfl, depthAll_ints]; omega) fun i v h' tk bs _ hv hk => ?_
    rw [PySem.W.maxD_ints] at hv
    obtain ⟨m1, m2⟩ := foldl_max x xs
    cases hv
    exact ⟨.int _, H, I.kept hk, ⟨_, rfl⟩, q _ m1 m2⟩
theorem cr_minTI (hc : X.calm = true) (hu : X.A.units + 64 < cLine) : CallR X (.builtin "min") (rMinTI X.K) := by
  intro pins s σ H vs us Q I r h
  obtain ⟨a, ns, rfl, hs, hne, q⟩ := h
  obtain ⟨its, rv, hl, _⟩ := I.tuple hs
  rw [Vals.ref1 r]
  cases ns with
  | nil => exact absurd hne (Nat.lt_irrefl 0)
  | cons x xs =>
    have hr : ReadsAll s.heap its.toArray.toList (PyData.int x :: xs.map PyData.int) [] := readsAll_ints rv
    refine PySem.W.min_tuple_data (I.ok.hd hc) hl hr (alikeAll_ints (x :: xs)) (by rw [show PyData.int x :: xs.map PyData.int = (x :: xs).map PyData.int from rfl, depthAll_ints]; omega) fun i v h' tk bs _ hv hk => ?_
    rw [PySem.W.minD_ints] at hv
    obtain ⟨m1, m2⟩ := foldl_min x xs
    cases hv
    exact ⟨.int _, H, I.kept hk, ⟨_, rfl⟩, q _ m1 m2⟩
end
end L2

/-! ### str(data), and calls of defs that show data, where nothing is being shown -/
namespace L2
open PySem PySem.Spec PyProof.Rows
def rStrD (K : PySem.W.Frag) : List V → Hp → VK → Prop := fun xs H Q => ∃ a d, xs = [.ref a] ∧ Dp K H (.ref a) d ∧ SeqAt.shaped d = true ∧ d.showable = true ∧ wt d ≤ sizeLine ∧ Q (.str d.shown) H
theorem cr_strD {X : Cx} {K : PySem.W.Frag} (hK : X.K = K) (hg : X.A.guards = some []) (hu : X.A.units + 67 < cLine) : CallR X (.type "str") (rStrD K) := by
  subst hK
  intro pins s σ H vs us Q I r h
  obtain ⟨a, d, rfl, hd, hs, hw, hz, q⟩ := h
  cases r with
  | cons rv rn =>
    rename_i v us'
    cases rn
    have hs' : (d.canLay0 && decide (d.depth ≤ 64)) = true := hs
    rw [Bool.and_eq_true] at hs'
    have nd := PyData.hasDict_of_canLay d hs'.1
    have dep : d.depth ≤ 64 := of_decide_eq_true hs'.2
    have sz := Nat.le_trans (shown_wt d hw nd) hz
    obtain ⟨as, rd⟩ := Dp.reads I d (.ref a) v hd rv
    cases rv
    exact str_of_reads rd hw (PyData.noDict_hsm nd) hg (by omega) (fun _ _ e => e) (fun h' u tk hk => ⟨.str _, H, I.kept (t' := tk) hk, ⟨u, rfl⟩, q⟩) sz
section
variable {X : Cx} {k : Nat} {f : Addr} {fd : FuncData} {ps : List Str} {sp : Sp} {ds : List Value} {dvs : List V}
theorem run_fnG {pins : List (Addr × Obj)} {σ : St} {H : Hp} {s : Shared} {Q : VK} {us : List Value} {vs : List V} (hgu : X.A.guards = some []) (F : FnG X.prog X.w X.K X.mg X.base k f fd ps sp) (hr : Room k X.A) (hb : Binds X.K fd ps ds) (hd : Vals dvs ds)
    (I : Inv X pins σ H s) (r : Vals vs us) (h : sp (vs ++ dvs) H Q E0) : wpAny (model X.prog X.w) X.A (call (.ref f) us) (EP X pins σ Q) X.xe s := by
  have r2 : Vals (vs ++ dvs) (us ++ ds) := r.append hd
  have hl : (us ++ ds).length = ps.length := by rw [← r2.length]; exact F.len _ _ _ _ h
  refine wpAny_call (codeAny_mono (F.run X.A X.stack s H ⟨us, []⟩ (us ++ ds) (vs ++ dvs) Q E0 hgu hr I.env0 (hb s us I.kIn hl) r2 h) fun r s' hq => ?_)
  cases r with
  | error e => exact pass0 pins σ H s e s' I hq
  | ok fl =>
    cases fl with
    | ret u => exact I.after hq
    | next => exact False.elim hq
    | brk => exact False.elim hq
    | cont => exact False.elim hq
theorem pe_callG {x : Str} {e : Expr} {es : List Expr} {p pos : Pos} {t : TA} (hgu : X.A.guards = some []) (F : FnG X.prog X.w X.K X.mg X.base k f fd ps sp) (hr : Room k X.A) (hg : Gl X x) (hm : X.mg x = some (.ref f)) (hk : PySem.W.keepIn X.K (.ref f) = true) (hb : Binds X.K fd ps ds) (hd : Vals dvs ds)
    (ha : PA X (e :: es) t) (hdb : (x == ("__debug__" : Str)) = false := by decide) (he : starEach (e :: es) X.env = (false, eval e X.env) :: starEach es X.env := by rfl) (hpl : (backTo pos (starEach es X.env)).any (·.1) = false := by rfl) :
    PE X (.Call (.Name x p) (e :: es) [] pos) (tCall sp dvs E0 t) := by
  refine ⟨fun pins s σ H Q I h => ?_⟩
  refine wpAny_Call_Name_kw (ld_glob I hg hm ?_ hdb)
  refine PySem.W.callWith_K (h₀ := X.base) I.ok.mod.kin hk (thn (ha.run pos pins s σ H _ I h) fun us s1 ⟨vs, H1, I1, r, q⟩ => ⟨I1.kIn, ?_⟩) he hpl
  exact run_fnG hgu F hr hb hd I1 r q
end
end L2

/-! ### fe(e, ..), fe an expression that gives one of several defs -/
namespace L2
open PySem PySem.Spec PyProof.Rows
structure HeldX (P : Program) (w : World) (K : PySem.W.Frag) (mg : Str → Option Value) (base : Heap) (CX : CXT) (k : Nat) (f : Addr) (sp : Sp) : Prop where
  ex : ∃ (fd : FuncData) (ps : List Str), FnOk P w K mg base CX k f fd ps sp ∧ PySem.W.keepIn K (.ref f) = true ∧ Binds K fd ps []
def tCallE (S : Addr → Option Sp) (E : St → XK) (tf : TE) (t : TA) : TE := fun σ H Q => tf σ H fun y H1 => ∃ f sp, y = V.ref f ∧ S f = some sp ∧ t σ H1 fun vs H2 => sp vs H2 Q (E σ)
section
variable {X : Cx} {CX : CXT} {k : Nat} {E : St → XK} {p pos : Pos} {fe e : Expr} {es : List Expr} {tf : TE} {t : TA}
theorem pe_callE {S : Addr → Option Sp} (hf : PE X fe tf) (A : ∀ f sp, S f = some sp → HeldX X.prog X.w X.K X.mg X.base CX k f sp) (hr : Room k X.A) (hx : ∀ σ, PassesAt CX X σ (E σ)) (ha : PA X (e :: es) t)
    (ht : eval (.Call fe (e :: es) [] pos) X.env = (do callWith pos (← eval fe X.env) [] (backTo pos (starEach (e :: es) X.env)) (backToKw pos (keywordEach [] X.env))) := by rfl)
    (he : starEach (e :: es) X.env = (false, eval e X.env) :: starEach es X.env := by rfl) (hpl : (backTo pos (starEach es X.env)).any (·.1) = false := by rfl) : PE X (.Call fe (e :: es) [] pos) (tCallE S E tf t) := by
  refine ⟨fun pins s σ H Q I h => ?_⟩
  refine Call_ (thn (hf.run pins s σ H _ I h) fun u s1 ⟨y, H1, I1, ry, f, sp, ey, hS, q⟩ => ?_) ht
  subst ey
  obtain rfl : u = Value.ref f := ry
  obtain ⟨fd, ps, F, hk, hb⟩ := (A f sp hS).ex
  refine PySem.W.callWith_K (h₀ := X.base) I.ok.mod.kin hk (thn (ha.run pos pins s1 σ H1 _ I1 q) fun us s2 ⟨vs, H2, I2, r, q2⟩ => ⟨I2.kIn, ?_⟩) he hpl
  exact run_fnS F hr hb (hx σ) I2 r q2
end
end L2

/-! ### factorial, comb -/
namespace L2
open PySem PySem.Spec PyProof.Rows
def rFac : List V → Hp → VK → Prop := fun xs H Q => ∃ a : Int, xs = [.int a] ∧ 0 ≤ a ∧ a ≤ 20000 ∧ Q (.int ((Builtin.Math.factorialNat a.toNat : Nat) : Int)) H
theorem cr_fac {X : Cx} : CallR X (.builtin "math.factorial") rFac := by
  intro pins s σ H vs us Q I r h
  obtain ⟨a, rfl, h0, h1, q⟩ := h
  obtain ⟨w1, rfl, t, rfl⟩ := vals1 r
  exact PySem.W.mc_factorial h0 h1 fun _ => ⟨.int _, H, I.tok _, ⟨_, rfl⟩, q⟩
def rComb : List V → Hp → VK → Prop := fun xs H Q => ∃ a b : Int, xs = [.int a, .int b] ∧ 0 ≤ a ∧ 0 ≤ b ∧ a ≤ 18000 ∧ Q (.int (PySem.W.mcComb a b)) H
theorem cr_comb {X : Cx} : CallR X (.builtin "math.comb") rComb := by
  intro pins s σ H vs us Q I r h
  obtain ⟨a, b, rfl, h0, h1, h2, q⟩ := h
  obtain ⟨t, u, rfl⟩ := Vals.int2 r
  have big : (18000 : Int) < 2 ^ 64 := by decide
  exact PySem.W.mc_comb h0 h1 (by omega) (.inr h2) fun _ => ⟨.int _, H, I.tok _, ⟨_, rfl⟩, q⟩
end L2

/-! ### walks of comprehensions with two fors -/
namespace L2
open PySem PySem.Spec PyProof.Rows
theorem walkD_list {K : PySem.W.Frag} {a : Addr} {xs : List V} {H0 : Hp} {Qd : Hp → Prop} {body : V → Hp → (Hp → Prop) → Prop} (Pv : Nat → Hp → Prop) (h0 : Pv 0 H0) (hl : ∀ i H, Pv i H → SqL K H a xs)
    (step : ∀ i x H, xs[i]? = some x → Pv i H → body x H (Pv (i + 1))) (last : ∀ H, Pv xs.length H → Qd H) :
    ∃ W : Nat → Nat → Hp → Prop, (∃ m, W 0 m H0) ∧ ∀ i m H, W i m H → ((Itl K a).stop i H ∧ Qd H) ∨ ((Itl K a).go i H ∧ ∃ Nx : Hp → Prop, (∀ H', Nx H' → ∃ m', m' < m ∧ W (i + 1) m' H') ∧ ∀ x H', (Itl K a).yld i H x H' → body x H' Nx) := by
  refine ⟨fun i m H => i + m = xs.length ∧ Pv i H, ⟨xs.length, Nat.zero_add _, h0⟩, fun i m H ⟨em, p⟩ => ?_⟩
  have sq := hl i H p
  cases m with
  | zero =>
    have e : i = xs.length := em
    exact .inl ⟨⟨xs, sq, by omega⟩, last H (e ▸ p)⟩
  | succ m =>
    have lt : i < xs.length := by omega
    refine .inr ⟨⟨xs, xs[i], sq, List.getElem?_eq_getElem lt⟩, Pv (i + 1), fun H' p' => ⟨m, Nat.lt_succ_self m, by omega, p'⟩, fun x H' ⟨eH, y⟩ => ?_⟩
    rw [eH]
    exact step i x H (y xs sq) p
theorem walkD_range {lo : Int} {n : Nat} {H0 : Hp} {Qd : Hp → Prop} {body : V → Hp → (Hp → Prop) → Prop} (Pv : Nat → Hp → Prop) (h0 : Pv 0 H0)
    (step : ∀ i H, i < n → Pv i H → body (.int (lo + (i : Nat))) H (Pv (i + 1))) (last : ∀ H, Pv n H → Qd H) :
    ∃ W : Nat → Nat → Hp → Prop, (∃ m, W 0 m H0) ∧ ∀ i m H, W i m H → ((Itr lo n).stop i H ∧ Qd H) ∨ ((Itr lo n).go i H ∧ ∃ Nx : Hp → Prop, (∀ H', Nx H' → ∃ m', m' < m ∧ W (i + 1) m' H') ∧ ∀ x H', (Itr lo n).yld i H x H' → body x H' Nx) := by
  refine ⟨fun i m H => i + m = n ∧ Pv i H, ⟨n, Nat.zero_add _, h0⟩, fun i m H ⟨em, p⟩ => ?_⟩
  cases m with
  | zero =>
    have e : i = n := em
    exact .inl ⟨Nat.le_of_eq e.symm, last H (e ▸ p)⟩
  | succ m =>
    have lt : i < n := by omega
    refine .inr ⟨lt, Pv (i + 1), fun H' p' => ⟨m, Nat.lt_succ_self m, by omega, p'⟩, fun x H' ⟨eH, y⟩ => ?_⟩
    rw [eH, y]
    exact step i H lt p
end L2

/-! ### a plain list comprehension over a list within an except suite; defs whose errors have no context -/
namespace HotX
open PySem PySem.Spec PyProof.Rows
variable {prog : Program} {w : World} {A : Around} {E : Value → Shared → Prop} {s : Shared}
theorem list_over_hot {it l x1 : Addr} {i : Nat} {items : Array Value} {Q : Option Value → Shared → Prop} (hot : HotAt A x1 s.heap) (hit : s.heap.IsListIter it l i) (hl : s.heap.IsList l items) (hx : items[i]? = none)
    (hQ : ∀ h', (∀ b o, b ≠ it → s.heap.get? b = some o → h'.get? b = some o) → Q none { s with heap := h' }) : wpAny (model prog w) A (pyNext (.ref it)) Q E s := by
  obtain ⟨oi, gi, ci, di⟩ := id hit
  obtain ⟨ol, gl, _, nl, dl⟩ := hl
  obtain ⟨hh, o1, vs1, g1, d1, c1⟩ := hot
  have ne1 : x1 ≠ it := fun z => by
    rw [z, gi] at g1
    obtain rfl := Option.some.inj g1
    rw [di] at d1
    obtain rfl := Data.fields.inj d1
    exact nomatch (show (some (Value.none) : Option Value) = _ from c1.symm)
  unfold pyNext
  apply wpAny_bind
  apply wpAny_attempt
  apply wpAny_callSpecial?_slot (name := Str.ofString "__next__") hit.typeIs slot_listiter_next
  apply wpAny_call_entry slot_listiter_next hit.typeIs entry_listiter_next ?_ (args_listiter_next _)
  show wpAny _ _ (field (Value.ref it) 0 >>= _) _ _ s
  apply wpAny_bind
  apply wpAny_field gi di (x := Value.ref l) rfl
  show wpAny _ _ (if (Value.ref l == Value.none) = true then _ else _) _ _ s
  rw [if_neg (by exact Bool.false_ne_true)]
  show wpAny _ _ (field (Value.ref it) 1 >>= _) _ _ s
  apply wpAny_bind
  apply wpAny_field gi di (x := Value.int i 0) rfl
  show wpAny _ _ (seqItems? (Value.ref l) >>= _) _ _ s
  apply wpAny_bind
  apply wpAny_seqItems gl dl
  simp only [Int.toNat_natCast, hx]
  apply wpAny_bind
  apply wpAny_rule
  apply wpAny_bind
  apply wpAny_setField gi di (by simp)
  show wpAny _ _ (newExc (Value.type "StopIteration") [] >>= _) _ _ _
  apply wpAny_bind
  simp only [newExc, newTuple]
  apply wpAny_bind
  apply wpAny_newObj_type (hd := by size_fits)
  apply wpAny_bind
  apply wpAny_of_eq (a := Value.none) (by first | rfl | exact rfl)
  apply wpAny_newObj_type (hd := by size_fits)
  have k1 : (s.heap.update it (Obj.mapFields fun x => x.setIfInBounds 0 Value.none)).get? x1 = some o1 := (Heap.get?_update_other _ _ ne1.symm).trans g1
  have k2 : ∀ o o' : Obj, (((s.heap.update it (Obj.mapFields fun x => x.setIfInBounds 0 Value.none)).push o).push o').get? x1 = some o1 := fun o o' => Heap.get?_push_of_some _ (Heap.get?_push_of_some _ k1)
  have k3 := fun o o' => Heap.lt_size (k2 o o')
  refine raiseNew_hot (A := A.in1) (x1 := x1) ⟨hh, o1, vs1, k2 _ _, d1, c1⟩ (Nat.ne_of_lt (Heap.lt_size (Heap.get?_push_of_some _ k1))) (Heap.get?_push_size _ rfl) rfl (by first | (simp; done) | (simp; omega)) ?_
  apply wpAny_bind
  refine wpAny_isInstance (b := true) (T := "StopIteration") ⟨_, Heap.get?_update_self _ (Heap.get?_push_size _ rfl) rfl, rfl⟩ isSubtype_stop (wpAny_pure (hQ _ fun b o nb e => ?_))
  have e1 := (Heap.get?_update_other s.heap (Obj.mapFields fun x => x.setIfInBounds 0 Value.none) (Ne.symm nb)).trans e
  have e2 := Heap.get?_push_of_some { cls := Value.type "tuple", data := Data.seq #[] } e1
  rw [Heap.get?_update_other _ _ (Nat.ne_of_gt (Heap.lt_size e2))]
  exact Heap.get?_push_of_some _ e2
end HotX
namespace L2
open PySem PySem.Spec PyProof.Rows HotX
/-- the except suite's own exception stands, its context is None -/
def HotS (X : Cx) : Prop := ∃ p : Addr × Obj, p ∈ X.pn ∧ X.A.handled = some (.ref p.1) ∧ ∃ vs : Array Value, p.2.data = .fields vs ∧ vs[2]? = some .none
/-- [e for y in xs], e without effect: f of each item -/
def tLcMap (K : PySem.W.Frag) (tl : TE) (g : TG) (te : TE) (vs : List Nat) : TE := fun σ H Q => tl σ H fun x H1 => ∃ (a : Addr) (xs : List V) (f : V → V), x = .ref a ∧ SqL K H1 a xs ∧ xs.length < sizeLine ∧
  (∀ y ∈ xs, ∀ H2 : Hp, g y (wipe σ vs) H2 fun σ2 H3 => wipe σ2 vs = wipe σ vs ∧ te σ2 H3 fun z H4 => z = f y ∧ H4 = H2) ∧ ∀ D, H1 D = none → Q (.ref D) (upd H1 D (.lst (xs.map f)))
theorem pe_lcMap {X : Cx} {elt tg iter : Expr} {scope : Scope} {own : List (Str × Nat)} {pos : Pos} {tl : TE} {g : TG} {te : TE} (hotX : HotS X) (nd : X.N.Nodup) (walked : PE X iter tl) (okb : BlkOk X.N X.env.scope scope own)
    (pgAll : ∀ (s : Shared) (H : Hp) (C : Addr) (cl : List (Str × Addr)) (fp : List Addr), PG (X.blk s H scope (compEnvC scope cl C X.env) fp) tg g)
    (peAll : ∀ (s : Shared) (H : Hp) (C : Addr) (cl : List (Str × Addr)) (fp : List Addr), PE (X.blk s H scope (compEnvC scope cl C X.env) fp) elt te)
    (fold : ∀ x, foldedSetIterable iter X.env x = pure x := by intro _; rfl) : PE X (.ListComp elt [⟨tg, iter, [], 0⟩] scope pos) (tLcMap X.K tl g te (own.map (·.2))) := by
  refine ⟨fun pins s σ H Q I h => ?_⟩
  have frees : ∀ y ∈ scope.names, y.2 = .free → ∃ c, X.env.cells.lookup y.1 = some c := fun y hy e => (okb.free y hy e).elim (fun k => I.ok.has _ (.inl k)) (fun k => I.ok.has _ (.inr k))
  rw [eval_ListComp]
  refine wpAny_comprehension_free (use := none) rfl fold (closure_ok frees) okb.kind (fun y hy e => by rw [okb.uniq y hy, e]) (thn (walked.run pins s σ H _ I h) fun itv s1 gone => ?_)
  obtain ⟨x, H1, I1, rx, a, xs, f, rfl, sq, big, each, q⟩ := gone
  cases rx
  obtain ⟨its, vals, plain, _⟩ := I1.list sq
  have lenV : xs.length = its.length := vals.length
  refine wpAny_pyIter_list plain.isList ?_
  -- the iterator
  have I2 : Inv X pins σ H1 { s1 with heap := s1.heap.push { cls := .type "list_iterator", data := .fields #[.ref a, .int 0 0] } } := I1.kept (t' := s1.toks) fun b o e => Heap.get?_push_of_some _ e
  have fpI := I1.fpOk (H' := H1) (Nat.le_refl s1.heap.objs.size) (I1.hok.fresh (Nat.le_refl _))
  have itr : (s1.heap.push { cls := .type "list_iterator", data := .fields #[.ref a, .int 0 0] }).IsListIter s1.heap.objs.size a 0 := ⟨_, Heap.get?_push_size _ rfl, rfl, rfl⟩
  have plain2 : PlainL (s1.heap.push { cls := .type "list_iterator", data := .fields #[.ref a, .int 0 0] }) a its.toArray := by
    obtain ⟨o, n, e, r⟩ := plain
    exact ⟨o, n, Heap.get?_push_of_some _ e, r⟩
  have lt2 : s1.heap.objs.size < (s1.heap.push { cls := .type "list_iterator", data := .fields #[.ref a, .int 0 0] }).objs.size := by
    rw [Heap.size_push]
    exact Nat.lt_succ_self _
  generalize eit : s1.heap.objs.size = it at itr lt2 fpI ⊢
  generalize es2 : ({ s1 with heap := s1.heap.push { cls := .type "list_iterator", data := .fields #[.ref a, .int 0 0] } } : Shared) = s2 at I2 ⊢
  have itr : s2.heap.IsListIter it a 0 := by rw [← es2]; exact itr
  have plain2 : PlainL s2.heap a its.toArray := by rw [← es2]; exact plain2
  have lt2 : it < s2.heap.objs.size := by rw [← es2]; exact lt2
  clear es2 eit
  -- the new list
  apply wpAny_newObj_type (T := "list") (hd := by show 0 ≤ sizeLine; exact Nat.zero_le _)
  apply newEnv_comp
  have nD : H1 s2.heap.objs.size = none := I2.hok.fresh (Nat.le_refl _)
  have ne0 : it ≠ s2.heap.objs.size := Nat.ne_of_lt lt2
  have I3 : Inv X pins σ (upd H1 s2.heap.objs.size (.lst [])) { s2 with heap := s2.heap.push { cls := .type "list", data := .seq ([] : List Value).toArray } } :=
    I2.laid (t' := s2.toks) (fun b o e => Heap.get?_push_of_some _ e) (Nat.le_refl _) ⟨Nat.zero_le _, [], 0, .nil, Heap.get?_push_size _ rfl⟩
  have itr3 : (s2.heap.push { cls := .type "list", data := .seq ([] : List Value).toArray }).IsListIter it a 0 := by
    obtain ⟨o, e, c, d⟩ := itr
    exact ⟨o, Heap.get?_push_of_some _ e, c, d⟩
  have lt3 : it < (s2.heap.push { cls := .type "list", data := .seq ([] : List Value).toArray }).objs.size := by
    rw [Heap.size_push]
    exact Nat.lt_succ_of_lt lt2
  generalize s2.heap.objs.size = D at nD ne0 I3 ⊢
  have fp3 : FpOk X pins (upd H1 D (.lst [])) it := ⟨by rw [upd_ne ne0]; exact fpI.1, fpI.2⟩
  generalize es3 : ({ s2 with heap := s2.heap.push { cls := .type "list", data := .seq ([] : List Value).toArray } } : Shared) = s3 at I3 ⊢
  have itr3 : s3.heap.IsListIter it a 0 := by rw [← es3]; exact itr3
  have lt3 : it < s3.heap.objs.size := by rw [← es3]; exact lt3
  have ed : s3.drawn = s2.drawn ∧ s3.gens = s2.gens ∧ s3.toks = s2.toks ∧ s3.os = s2.os := by rw [← es3]; exact ⟨rfl, rfl, rfl, rfl⟩
  have frs3 : ∀ b ∈ [it], FpOk X pins (upd H1 D (.lst [])) b ∧ b < s3.heap.objs.size := fun b hb => by rw [List.mem_singleton.mp hb]; exact ⟨fp3, lt3⟩
  have I4 := block_start I3 okb nd frs3
  obtain ⟨hp, hpn, hah, hvs, hfd, hnn⟩ := hotX
  have pin3 := I3.pin hp (List.mem_append_left _ hpn)
  have nostk : hp.1 ∉ frs X.stack := fun hm => (List.mem_cons.mp (I3.stkSub hp.1 hm)).elim pin3.2.2.1 pin3.2.2.2.1
  have noit : hp.1 ≠ it := fp3.2.2.2.2.2 hp (List.mem_append_left _ hpn)
  clear es3
  have pg0 := pgAll s3 (upd H1 D (.lst [])) s3.heap.objs.size (cellsFrom (s3.heap.objs.size + 1) scope.names (cloFrom X.env.cells scope.names [])) [it]
  have pe0 := peAll s3 (upd H1 D (.lst [])) s3.heap.objs.size (cellsFrom (s3.heap.objs.size + 1) scope.names (cloFrom X.env.cells scope.names [])) [it]
  let ce := compEnvC scope (cellsFrom (s3.heap.objs.size + 1) scope.names (cloFrom X.env.cells scope.names [])) s3.heap.objs.size X.env
  have locs : ce.locals = s3.heap.objs.size := rfl
  have noC : upd H1 D (.lst []) s3.heap.objs.size = none := I3.hok.fresh (Nat.le_refl _)
  have fpC := I3.fpOk (H' := upd H1 D (.lst [])) (Nat.le_refl s3.heap.objs.size) noC
  have neDC : s3.heap.objs.size ≠ D := fun z => by
    rw [z, upd_same] at noC
    exact nomatch noC
  have noC1 : H1 s3.heap.objs.size = none := by
    rw [upd_ne neDC] at noC
    exact noC
  show codeAny _ _ (.compStart (.ListComp elt [⟨tg, iter, [], 0⟩] scope pos) 0 (.ref it) (.ref D) ce) (compPost (model X.prog X.w) X.A X.xe none (EP X pins σ Q) (.ref D) s3.heap.objs.size) _
  have itr4 : (pushCells (s3.heap.push { cls := .type "dict", data := .dict #[] }) scope.names).IsListIter it a 0 := by
    obtain ⟨o, e, c, d⟩ := itr3
    exact ⟨o, pushCells_keeps _ _ _ _ (Heap.get?_push_of_some _ e), c, d⟩
  generalize es4 : ({ s3 with heap := pushCells (s3.heap.push { cls := .type "dict", data := .dict #[] }) scope.names } : Shared) = s4 at I4 ⊢
  have itr4 : s4.heap.IsListIter it a 0 := by rw [← es4]; exact itr4
  clear es4
  have twice : ∀ (o o' : HO), upd (upd H1 D o) D o' = upd H1 D o' := fun o o' => by
    funext b
    by_cases e : b = D
    · rw [e, upd_same, upd_same]
    · rw [upd_ne e, upd_ne e, upd_ne e]
  have oldKept : ∀ o : HO, Same H1 (upd H1 D o) := fun o b u e => by rw [upd_ne (ne_of_none e nD)]; exact e
  have itFree : ∀ o : HO, upd H1 D o it = none := fun o => by rw [upd_ne ne0]; exact fpI.1
  have hotAt : ∀ {σ5 : St} {H5 : Hp} {s5 : Shared}, Inv (X.blk s3 (upd H1 D (.lst [])) scope ce [it]) [] σ5 H5 s5 → HotAt X.A hp.1 s5.heap := fun I5 =>
    ⟨hah, hp.2, hvs, I5.base.keep hp.1 hp.2 pin3.1 pin3.2.1 nostk (fun hm => noit (List.mem_singleton.mp hm)), hfd, hnn⟩
  have fixed : ∀ {σ5 : St} {H5 : Hp} {s5 : Shared}, Inv (X.blk s3 (upd H1 D (.lst [])) scope ce [it]) [] σ5 H5 s5 → H5 it = none → FpOk (X.blk s3 (upd H1 D (.lst [])) scope ce [it]) [] H5 it := fun I5 hn =>
    ⟨hn, (I5.ok.exf it List.mem_cons_self).1, I5.ok.exfs it List.mem_cons_self, .inl List.mem_cons_self, fun x c e => (I5.ok.exf it List.mem_cons_self).2 x c e, fun p hp => nomatch hp⟩
  have main : codeAny (model X.prog X.w) X.A (.compLoop (.ListComp elt [⟨tg, iter, [], 0⟩] scope pos) 0 (.ref it) (.ref D) ce) (compPost (model X.prog X.w) X.A X.xe none (EP X pins σ Q) (.ref D) s3.heap.objs.size) s4 := by
    refine compLoop_any (fun n s' => ∃ i, n = xs.length - i ∧ i ≤ xs.length ∧ Inv (X.blk s3 (upd H1 D (.lst [])) scope ce [it]) [] (wipe σ (own.map (·.2))) (upd H1 D (.lst ((xs.take i).map f))) s' ∧ s'.heap.IsListIter it a i) ?_ xs.length ⟨0, rfl, Nat.zero_le _, I4, itr4⟩
    rintro n s5 ⟨i, rfl, hi, I5, it5⟩
    obtain ⟨its5, vals5, plain5, _⟩ := I5.list (show SqL X.K _ a xs from (oldKept _).seq sq)
    obtain ⟨f0, f1, f2, f3, f4, f5⟩ := fixed I5 (itFree _)
    have len5 : xs.length = its5.length := vals5.length
    by_cases c : i < xs.length
    · obtain ⟨u, hu, ru⟩ := vals5.get (List.getElem?_eq_getElem c)
      refine wpAny_pyNext_list_item it5 plain5.isList (x := u) (by simpa using hu) fun h' next sb => ?_
      have I6 := I5.turned (h' := h') (t' := s5.toks) (fun b o hb e => (sb.2 b hb).trans e) f0 f1 f3 f4 f5
      obtain ⟨oi, ei, ci, di⟩ := next
      refine go_of (s := { s5 with heap := h' }) ei ci di (by decide) ?_
      have I6p := I6.pinned (fp := [it]) (fun b hb => by rw [List.mem_singleton.mp hb]; exact fixed I6 (itFree _)) (fun b hb => by rw [List.mem_singleton.mp hb]; exact ⟨oi, ei, fun v z => by rw [di] at z; cases z⟩)
      refine thnF (pg0.run _ _ _ _ xs[i] u _ I6p ru (each _ (List.getElem_mem c) _)) fun _ s7 ⟨σ7, H7, I7, hw, q7⟩ => ?_
      refine wpAny_tests_nil ?_
      rw [if_pos rfl]
      refine thnF (pe0.run _ s7 σ7 H7 _ I7 q7) fun z s8 ⟨yv, H8, I8, r8, ez, eH⟩ => ?_
      subst ez eH
      refine app_ok (X := X.blk s3 (upd H1 D (.lst [])) scope ce [it]) I8 upd_same (by rw [List.length_map, List.length_take]; omega) r8 fun s9 I9 => ?_
      have pinned := (I9.pin (it, oi) (List.mem_append_right _ (List.mem_append_right _ (mem_pinsAt List.mem_cons_self ei)))).1
      refine ⟨xs.length - (i + 1), by omega, i + 1, rfl, c, ?_, ⟨oi, pinned, ci, di⟩⟩
      have I10 := (I9.unpinned (pins := [])).weak (σ' := wipe σ (own.map (·.2))) (by rw [← hw, wipe_length]) fun j v e => by
        rw [← hw] at e
        exact (wipe_some e).1
      rw [twice, show (xs.take i).map f ++ [f xs[i]] = (xs.take (i + 1)).map f by rw [List.take_succ, List.getElem?_eq_getElem c, List.map_append]; rfl] at I10
      exact I10
    · obtain rfl : i = xs.length := by omega
      refine list_over_hot (hotAt I5) it5 plain5.isList (by simp; omega) fun h' kept => ?_
      have I6 := I5.turned (h' := h') (t' := s5.toks) kept f0 f1 f3 f4 f5
      have I7 : Inv X pins σ _ _ := I3.call' (ch := [it]) I6.os I6.base I6.hok I6.bare fun b hb => by
        have z := (frs3 b hb).1
        exact ⟨z.2.2.2.1, z.2.1, z.2.2.2.2.1, z.2.2.2.2.2⟩
      obtain ⟨m, hns, _⟩ := I6.loc
      obtain ⟨_, c1, c2, c3, c4, c5⟩ := fpC
      refine ⟨m, hns, fun h2 sb => ⟨.ref D, _, I7.turned (t' := s5.toks) (fun b o hb e => (sb.2 b hb).trans e) ?_ c1 c3 c4 c5, rfl, ?_⟩⟩
      · rw [upd_ne neDC]
        exact noC1
      · rw [List.take_length]
        exact q D nD
  exact codeAny_compStart_list main (wpAny_pyIter_listiter itr4 main)
end L2
namespace L2
open PySem PySem.Spec PyProof.Rows
/-- a def whose errors have no context -/
theorem Fun.okXN {P : Program} {w : World} {K : PySem.W.Frag} {mg : Str → Option Value} {base : Heap} {x qual : Str} {st : Stmt} {f : Addr} {fd : FuncData} {N ps : List Str} {k : Nat} {sp : Sp} (F : Fun K x qual st f fd) (S : FnScope N ps (defScope st))
    (len : ∀ vs H Q E, sp vs H Q E → vs.length = ps.length)
    (body : ∀ (cdv : Value) (A : Around) (outer : List Env) (s : Shared) (H : Hp) (vs : List V) (Q : VK) (E : XK), Room k (A.deeper (envOfC qual (defScope st) s.heap.objs.size f cdv)) → sp vs H Q E →
      ∃ t, PSs (cxOf (L2N.CX P w) P w K mg base N qual (defScope st) f cdv A outer s H E) (defBody st) t ∧ t { nx := fun _ H' => Q .non H', rt := Q } (start N vs) H) : FnOk P w K mg base (L2N.CX P w) (k + 1) f fd ps sp := by
  obtain ⟨_, _, _, _, _, _, _, _, _, rfl, known, coded⟩ := F.ex
  exact fn_of known coded S len fun A outer s H vs Q E room hsp => body _ A outer s H vs Q E room hsp
/-- what an except suite knows -/
theorem hotS_of {X : Cx} {a : Addr} {oe : Obj} {pn : List (Addr × Obj)} {cls : Value} {d : Option Addr} (hz : L2N.Zn cls d oe) (hf : ∃ vs, oe.data = .fields vs) : HotS (X.suite a ((a, oe) :: pn)) := by
  obtain ⟨vs, e⟩ := hf
  exact ⟨(a, oe), List.mem_cons_self, rfl, vs, e, hz.2.2 vs e⟩
end L2
namespace L2
open PySem PySem.Spec PyProof.Rows
theorem passLN {X : Cx} : Passes (L2N.CX X.prog X.w) X E0 := fun _ _ _ _ _ _ _ h => by
  obtain ⟨_, _, _, _, _, _, _, _, _, _, _, _, no⟩ := h
  exact no.elim
theorem takes0N {X : Cx} : L2N.Takes X (fun _ _ _ _ => False) := fun _ _ h => by
  obtain ⟨_, _, _, _, _, _, _, _, _, _, _, _, _, _, _, _, no⟩ := h
  exact no.elim
end L2
namespace L2
open PySem PySem.Spec PyProof.Rows
theorem pe_lcMapK {X : Cx} {K : PySem.W.Frag} {elt tg iter : Expr} {scope : Scope} {own : List (Str × Nat)} {pos : Pos} {tl : TE} {g : TG} {te : TE} (hK : X.K = K) (nd : X.N.Nodup) (walked : PE X iter tl) (okb : BlkOk X.N X.env.scope scope own)
    (pgAll : ∀ (s : Shared) (H : Hp) (C : Addr) (cl : List (Str × Addr)) (fp : List Addr), PG (X.blk s H scope (compEnvC scope cl C X.env) fp) tg g)
    (peAll : ∀ (s : Shared) (H : Hp) (C : Addr) (cl : List (Str × Addr)) (fp : List Addr), PE (X.blk s H scope (compEnvC scope cl C X.env) fp) elt te) (hotX : HotS X)
    (fold : ∀ x, foldedSetIterable iter X.env x = pure x := by intro _; rfl) : PE X (.ListComp elt [⟨tg, iter, [], 0⟩] scope pos) (tLcMap K tl g te (own.map (·.2))) := by
  subst hK
  exact pe_lcMap hotX nd walked okb pgAll peAll fold
end L2

/-! ### the difference of two sets of small ints -/
namespace L2
open PySem PySem.Spec PyProof.Rows
namespace SD
/-! tables -/
def it (m : Nat) : Nat → Nat → Nat
  | i, 0 => i
  | i, k + 1 => it m ((i * 5 + 1) % (m + 1)) k
def roundB (m : Nat) : Bool := (List.range (m + 1)).all fun i => (List.range (m + 1)).all fun j => (List.range (m + 1)).any fun k => it m i k == j
theorem round_ok {m : Nat} (hm : m = 7 ∨ m = 15 ∨ m = 31 ∨ m = 63) : roundB m = true := by
  rcases hm with rfl | rfl | rfl | rfl <;> decide +kernel
theorem it_all {m i j : Nat} (hm : m = 7 ∨ m = 15 ∨ m = 31 ∨ m = 63) (hi : i ≤ m) (hj : j ≤ m) : ∃ k, k ≤ m ∧ it m i k = j := by
  have h1 := List.all_eq_true.mp (round_ok hm) i (List.mem_range.mpr (by omega))
  have h2 := List.all_eq_true.mp h1 j (List.mem_range.mpr (by omega))
  obtain ⟨k, hk, e⟩ := List.any_eq_true.mp h2
  have := List.mem_range.mp hk
  exact ⟨k, by omega, beq_iff_eq.mp e⟩
def occ (owner : Array (Option Nat)) (j : Nat) : Bool := (owner.getD j (some 0)).isNone
theorem free_cons (m : Nat) (owner : Array (Option Nat)) (f i b : Nat) : SetTable.layClean.free m owner (f + 1) i b = match (List.range (SetTable.runEnd m i + 1 - i)).find? (fun k => occ owner (i + k)) with
    | some k => some (i + k)
    | none => SetTable.layClean.free m owner f (SetTable.leap m i b).1 (SetTable.leap m i b).2 := by
  rw [SetTable.layClean.free]
  rfl
theorem free_is (m : Nat) (owner : Array (Option Nat)) : ∀ (f i b j : Nat), SetTable.layClean.free m owner f i b = some j → occ owner j = true
  | 0, i, b, j, h => by rw [SetTable.layClean.free] at h; cases h
  | f + 1, i, b, j, h => by
    rw [free_cons] at h
    cases e : (List.range (SetTable.runEnd m i + 1 - i)).find? (fun k => occ owner (i + k)) with
    | some k =>
      rw [e] at h
      have := List.find?_some e
      obtain rfl := Option.some.inj h
      exact this
    | none =>
      rw [e] at h
      exact free_is m owner f _ _ j h
theorem free_no (m : Nat) (owner : Array (Option Nat)) : ∀ (f i b : Nat), b < 32 → SetTable.layClean.free m owner f i b = none → ∀ k, k < f → occ owner (it m i k) = false
  | 0, i, b, hb, h, k, hk => absurd hk (Nat.not_lt_zero k)
  | f + 1, i, b, hb, h, k, hk => by
    rw [free_cons] at h
    cases e : (List.range (SetTable.runEnd m i + 1 - i)).find? (fun k => occ owner (i + k)) with
    | some k => rw [e] at h; cases h
    | none =>
      rw [e] at h
      have hz : b / 32 = 0 := Nat.div_eq_of_lt hb
      have el : SetTable.leap m i b = ((i * 5 + 1) % (m + 1), 0) := by
        unfold SetTable.leap
        rw [hz]
      cases k with
      | zero =>
        have := List.find?_eq_none.mp e 0 (List.mem_range.mpr (by unfold SetTable.runEnd; split <;> omega))
        rw [Nat.add_zero] at this
        show occ owner i = false
        exact Bool.not_eq_true _ ▸ this
      | succ k =>
        have h' : SetTable.layClean.free m owner f ((i * 5 + 1) % (m + 1)) 0 = none := by
          rw [el] at h
          exact h
        exact free_no m owner f _ 0 (by decide) h' k (by omega)
theorem set_perm {k : Nat} : ∀ (l : List (Option Nat)) (j : Nat), l[j]? = some none → ((l.set j (some k)).filterMap id).Perm (k :: l.filterMap id)
  | [], j, h => by cases h
  | x :: l, 0, h => by
    obtain rfl : x = none := Option.some.inj h
    exact List.Perm.refl _
  | x :: l, j + 1, h => by
    have ih := set_perm (k := k) l j h
    cases x with
    | none => exact ih
    | some y => exact (ih.cons y).trans (List.Perm.swap k y _)
structure Lay (m : Nat) (owner : Array (Option Nat)) (k : Nat) : Prop where
  sz : owner.size = m + 1
  pm : (owner.toList.filterMap id).Perm (List.range k)
theorem all_some : ∀ (l : List (Option Nat)), (∀ j, j < l.length → l[j]? ≠ some none) → (l.filterMap id).length = l.length
  | [], _ => rfl
  | none :: l, h => absurd rfl (h 0 (Nat.zero_lt_succ _))
  | some y :: l, h => congrArg Nat.succ (all_some l fun j hj => h (j + 1) (Nat.succ_lt_succ hj))
theorem occ_iff {owner : Array (Option Nat)} {j : Nat} : occ owner j = true ↔ owner.toList[j]? = some none := by
  unfold occ
  rw [Array.getElem?_toList, Array.getD_eq_getD_getElem?]
  cases e : owner[j]? with
  | none => simp
  | some x => cases x <;> simp
theorem bits_small {h : Int} (h0 : 0 ≤ h) (h1 : h < 32) : SetTable.bits h < 32 := by
  unfold SetTable.bits
  omega
theorem lay_step {m k : Nat} {owner : Array (Option Nat)} {h : Int} (hm : m = 7 ∨ m = 15 ∨ m = 31 ∨ m = 63) (L : Lay m owner k) (hk : k ≤ m) (h0 : 0 ≤ h) (h1 : h < 32) :
    ∃ owner', stepF m (some (owner, k)) h = some (owner', k + 1) ∧ Lay m owner' (k + 1) := by
  cases e : SetTable.layClean.free m owner (SetTable.turns m) (SetTable.bits h % (m + 1)) (SetTable.bits h) with
  | none =>
    exfalso
    have no := free_no m owner _ _ _ (bits_small h0 h1) e
    have len : (owner.toList.filterMap id).length = owner.toList.length := all_some _ fun j hj z => by
      rw [Array.length_toList, L.sz] at hj
      obtain ⟨c, hc, ec⟩ := it_all hm (i := SetTable.bits h % (m + 1)) (j := j) (Nat.le_of_lt_succ (Nat.mod_lt _ (Nat.succ_pos m))) (by omega)
      have := no c (by unfold SetTable.turns; omega)
      rw [ec, occ_iff.mpr z] at this
      cases this
    rw [L.pm.length_eq, List.length_range, Array.length_toList, L.sz] at len
    omega
  | some j =>
    have hj := occ_iff.mp (free_is m owner _ _ _ _ e)
    refine ⟨owner.setIfInBounds j (some k), stepF_some e, by rw [Array.size_setIfInBounds]; exact L.sz, ?_⟩
    rw [Array.toList_setIfInBounds, List.range_succ]
    exact (set_perm _ _ hj).trans ((L.pm.cons k).trans (List.perm_append_singleton k _).symm)
theorem lay_fold {m : Nat} (hm : m = 7 ∨ m = 15 ∨ m = 31 ∨ m = 63) : ∀ (hs : List Int) (k : Nat) (owner : Array (Option Nat)), Lay m owner k → (∀ h ∈ hs, 0 ≤ h ∧ h < 32) → k + hs.length ≤ m + 1 →
    ∃ owner', hs.foldl (stepF m) (some (owner, k)) = some (owner', k + hs.length) ∧ Lay m owner' (k + hs.length)
  | [], k, owner, L, _, _ => ⟨owner, rfl, L⟩
  | h :: hs, k, owner, L, hb, hn => by
    rw [List.length_cons] at hn
    obtain ⟨o1, e1, L1⟩ := lay_step hm L (by omega) (hb h List.mem_cons_self).1 (hb h List.mem_cons_self).2
    obtain ⟨o2, e2, L2⟩ := lay_fold hm hs (k + 1) o1 L1 (fun x hx => hb x (List.mem_cons_of_mem _ hx)) (by omega)
    refine ⟨o2, ?_, ?_⟩
    · rw [List.foldl_cons, e1, e2, List.length_cons]
      congr 2
      omega
    · rw [List.length_cons, show k + (hs.length + 1) = k + 1 + hs.length by omega]
      exact L2
theorem fm_congr {α β : Type} {f g : α → Option β} : ∀ {l : List α}, (∀ x ∈ l, f x = g x) → l.filterMap f = l.filterMap g
  | [], _ => rfl
  | x :: l, h => by
    rw [List.filterMap_cons, List.filterMap_cons, h x List.mem_cons_self, fm_congr fun y hy => h y (List.mem_cons_of_mem _ hy)]
theorem live_snd (l : List (Option Nat)) : ((List.range l.length).filterMap fun j => (l.getD j none).map fun x => (j, x)).map (·.2) = l.filterMap id := by
  induction l with
  | nil => rfl
  | cons x l ih =>
    rw [List.length_cons, List.range_succ_eq_map, List.filterMap_cons, List.filterMap_map]
    have e : ((List.range l.length).filterMap ((fun j => ((x :: l).getD j none).map fun y => (j, y)) ∘ Nat.succ)).map (·.2) = l.filterMap id := by
      rw [← ih, List.map_filterMap, List.map_filterMap]
      refine fm_congr fun j _ => ?_
      show Option.map _ (Option.map _ ((x :: l).getD (j + 1) none)) = _
      rw [List.getD_cons_succ, Option.map_map, Option.map_map]
      rfl
    cases x with
    | none => exact e
    | some y =>
      show y :: _ = y :: _
      rw [e]
theorem laid_ok {m finger moves : Nat} {led plain : Bool} {hs : Array Int} (hm : m = 7 ∨ m = 15 ∨ m = 31 ∨ m = 63) (hb : ∀ h ∈ hs.toList, 0 ≤ h ∧ h < 32) (hn : hs.size ≤ m) :
    ∃ t order, SetTable.laid m finger moves led plain hs = some (t, order) ∧ order.toList.Perm (List.range hs.size) ∧ t.fits hs.size = true ∧ t.mask = m ∧ t.dummies = #[] := by
  have L0 : Lay m (Array.replicate (m + 1) none) 0 := ⟨Array.size_replicate, by
    rw [Array.toList_replicate]
    have : ∀ n, (List.replicate n (none : Option Nat)).filterMap id = [] := fun n => by
      induction n with
      | zero => rfl
      | succ n ih => rw [List.replicate_succ]; exact ih
    rw [this]
    exact .refl _⟩
  obtain ⟨owner, e, L⟩ := lay_fold hm hs.toList 0 _ L0 hb (by rw [Array.length_toList]; omega)
  rw [Nat.zero_add, Array.length_toList] at e L
  have ec : SetTable.layClean m hs = some owner := by
    rw [layClean_eq, e]
    rfl
  have eg : ∀ j, owner.getD j none = owner.toList.getD j none := fun j => by
    rw [Array.getD_eq_getD_getElem?, List.getD_eq_getElem?_getD, Array.getElem?_toList]
  have el : (List.range (m + 1)).filterMap (fun j => (owner.getD j none).map fun x => (j, x)) = (List.range owner.toList.length).filterMap fun j => (owner.toList.getD j none).map fun x => (j, x) := by
    rw [Array.length_toList, L.sz]
    exact fm_congr fun j _ => by rw [eg]
  have pm : (((List.range (m + 1)).filterMap fun j => (owner.getD j none).map fun x => (j, x)).map (·.2)).Perm (List.range hs.size) := by
    rw [el, live_snd]
    exact L.pm
  have lenl : ((List.range (m + 1)).filterMap fun j => (owner.getD j none).map fun x => (j, x)).length = hs.size := by
    have := pm.length_eq
    rw [List.length_map, List.length_range] at this
    exact this
  refine ⟨{ mask := m, place := (((List.range (m + 1)).filterMap fun j => (owner.getD j none).map fun x => (j, x)).map (·.1)).toArray, dummies := #[], finger, led, moves, plain }, (((List.range (m + 1)).filterMap fun j => (owner.getD j none).map fun x => (j, x)).map (·.2)).toArray, ?_, pm, ?_, rfl, rfl⟩
  · unfold SetTable.laid
    rw [ec]
    rfl
  · unfold SetTable.fits SetTable.fill
    dsimp only
    rw [List.size_toArray, List.length_map, lenl]
    simp [hn]
end SD
end L2

namespace L2
open PySem PySem.Spec PyProof.Rows
namespace SD
/-- a set of ints, as it stands -/
structure Is (h : Heap) (a : Addr) (es : Array (Int × Value)) (ep : Nat) (t : SetTable) : Prop where
  at' : ∃ o, h.get? a = some o ∧ o.ExactSet ∧ o.data = .set es ep t
  good : ∀ e ∈ es.toList, GoodE e
  nd : (es.toList.map keyOf).Nodup
  lt : es.size < scanBound
  fit : t.fits es.size = true
theorem Is.of {w : World} {h : Heap} {a : Addr} {S : Int → Bool} {n : Nat} (R : SetR w h a S n) :
    ∃ es ep t, Is h a es ep t ∧ (∀ k, S k = true ↔ k ∈ es.toList.map keyOf) ∧ es.size = n ∧ (w.params.followText "set-order" = true ∨ t.led = true) := by
  obtain ⟨o, es, ep, t, ho, hx, hd, g, nd, hm, hb, hf, hn, _, hl⟩ := R
  exact ⟨es, ep, t, ⟨⟨o, ho, hx, hd⟩, g, nd, hb, hf⟩, hm, hn, hl⟩
theorem Is.same {h h' : Heap} {a b : Addr} {es : Array (Int × Value)} {ep : Nat} {t : SetTable} (I : Is h a es ep t) (s : Heap.SameBut b h h') (ne : a ≠ b) : Is h' a es ep t := by
  obtain ⟨⟨o, ho, r⟩, g, nd, lt, f⟩ := I
  exact ⟨⟨o, by rw [s.2 a ne]; exact ho, r⟩, g, nd, lt, f⟩
theorem Is.keep {h h' : Heap} {a : Addr} {es : Array (Int × Value)} {ep : Nat} {t : SetTable} (I : Is h a es ep t) (k : ∀ o, h.get? a = some o → h'.get? a = some o) : Is h' a es ep t := by
  obtain ⟨⟨o, ho, r⟩, g, nd, lt, f⟩ := I
  exact ⟨⟨o, k o ho, r⟩, g, nd, lt, f⟩
theorem Is.type {s : Shared} {a : Addr} {es : Array (Int × Value)} {ep : Nat} {t : SetTable} (I : Is s.heap a es ep t) : s.TypeIs (.ref a) "set" := by
  obtain ⟨⟨o, ho, hx, _⟩, _⟩ := I
  exact ⟨o, ho, hx.1⟩
section
variable {P : Program} {w : World} {A : Around} {E : Value → Shared → Prop} {s : Shared} {a : Addr} {es : Array (Int × Value)} {ep : Nat} {t : SetTable}
theorem state (I : Is s.heap a es ep t) {Q : (Array (Int × Value) × Nat × SetTable) → Shared → Prop} (h : Q (es, ep, t) s) : wpAny (model P w) A (setState a) Q E s := by
  obtain ⟨⟨o, ho, _, hd⟩, _, _, _, f⟩ := I
  exact wpAny_setState_of ho hd f h
theorem epoch (I : Is s.heap a es ep t) {Q : Nat → Shared → Prop} (h : Q ep s) : wpAny (model P w) A (setEpoch a) Q E s := by
  obtain ⟨⟨o, ho, _, hd⟩, _, _, _, f⟩ := I
  exact wpAny_setEpoch_of ho hd f h
theorem entries (I : Is s.heap a es ep t) {Q : Array (Int × Value) → Shared → Prop} (h : Q es s) : wpAny (model P w) A (setEntries a) Q E s := by
  obtain ⟨⟨o, ho, _, hd⟩, _, _, _, f⟩ := I
  exact wpAny_setEntries_of ho hd f h
theorem size (I : Is s.heap a es ep t) {Q : Nat → Shared → Prop} (h : Q es.size s) : wpAny (model P w) A (Builtin.Frozenset.sizeOf a) Q E s := by
  unfold Builtin.Frozenset.sizeOf
  exact wpAny_bind (entries I (wpAny_pure h))
theorem anySet (I : Is s.heap a es ep t) {Q : Bool → Shared → Prop} (h : Q true s) : wpAny (model P w) A (Builtin.Frozenset.isAnySet (.ref a)) Q E s := by
  unfold Builtin.Frozenset.isAnySet
  have z := I.type
  have hs := sub_set_self
  obtain ⟨hp, g, d, tk, os⟩ := s
  refine wpAny_bind (m := isInstance (.ref a) (.type "set")) (wpAny_isInstance z hs ?_)
  exact wpAny_pure h
theorem base (I : Is s.heap a es ep t) {Q : Value → Shared → Prop} (h : Q (.type "set") s) : wpAny (model P w) A (Builtin.Frozenset.baseOf a) Q E s := by
  unfold Builtin.Frozenset.baseOf
  exact wpAny_bind (wpAny_isInstance I.type sub_set_self (wpAny_pure h))
theorem not_ref {e : Int × Value} (g : GoodE e) : ∀ b, e.2 ≠ .ref b := fun b z => by
  obtain ⟨k, tk, e1, _⟩ := g
  rw [e1] at z
  cases z

theorem quiet {l : List Addr} {Q : Bool → Shared → Prop} (hl : ∀ b ∈ l, ∃ es ep t, Is s.heap b es ep t) (h : Q true s) : wpAny (model P w) A (setsQuiet l) Q E s := by
  unfold setsQuiet
  refine wpAny_bind (wpAny_forIn_list _ (fun rest (x : Option Bool × Unit) s' => s' = s ∧ x.1 = none ∧ ∀ c ∈ rest, c ∈ l) _ (fun c rest x s1 hI => ?_) (fun x s1 hI => ?_) l (none, ()) ⟨rfl, rfl, fun c hc => hc⟩)
  · obtain ⟨rfl, hx, hc⟩ := hI
    obtain ⟨es, ep, t, I⟩ := hl c (hc c List.mem_cons_self)
    refine wpAny_bind (entries I ?_)
    refine wpAny_bind (wpAny_forIn_array' _ (fun rest (x : Option Bool × Unit) s' => s' = s1 ∧ x = (none, ()) ∧ ∀ e ∈ rest, GoodE e) _ (fun e rest x s2 hJ => ?_) (fun x s2 hJ => ?_) es (none, ()) ⟨rfl, rfl, I.good⟩)
    · obtain ⟨rfl, rfl, hg⟩ := hJ
      obtain ⟨k, tk, e1, _⟩ := hg e List.mem_cons_self
      obtain ⟨e0, e2⟩ := e
      dsimp only at e1
      subst e1
      exact wpAny_pure ⟨rfl, rfl, fun y hy => hg y (List.mem_cons_of_mem _ hy)⟩
    · obtain ⟨rfl, rfl, _⟩ := hJ
      exact wpAny_pure ⟨rfl, rfl, fun y hy => hc y (List.mem_cons_of_mem _ hy)⟩
  · obtain ⟨rfl, hx, _⟩ := hI
    obtain ⟨x1, x2⟩ := x
    dsimp only at hx
    subst hx
    exact wpAny_pure h
/-- the order in which a set is gone through: any -/
theorem walk0 (I : Is s.heap a es ep t) (hl : w.params.followText "set-order" = true ∨ t.led = true) (hp : w.params.followText "set-order" = true ∨ (t.plain = true ∨ es.size ≤ 1)) {Q : Array (Int × Value) → Shared → Prop}
    (h : ∀ es' : Array (Int × Value), es'.toList.Perm es.toList → Q es' s) : wpAny (model P w) A (setWalk a) Q E s := by
  unfold setWalk
  refine wpAny_bind (state I ?_)
  dsimp only
  refine wpAny_bind (wpAny_byText ?_)
  by_cases c : w.params.followText "set-order" = true
  · refine wp_if_pos c ?_
    exact wpAny_bind (wpAny_askSetting (wpAny_pure (h _ (pick_perm _ _))))
  · refine wp_if_neg c ?_
    try refine wpAny_bind (wpAny_pure ?_)
    have hl := hl.resolve_left c
    have hp := hp.resolve_left c
    refine wp_if_neg (by
      show ¬ ((!t.plain && decide (es.size > 1)) = true)
      rcases hp with z | z
      · rw [z]; exact Bool.false_ne_true
      · rw [decide_eq_false (by omega), Bool.and_false]; exact Bool.false_ne_true) ?_
    try refine wpAny_bind (wpAny_pure ?_)
    refine wpAny_bind (wpAny_of_eq (a := ()) ?_ ?_)
    · show (if (!t.led && decide (es.size > 1)) = true then unsupported "set:maker-not-led" else pure ()) = pure ()
      rw [hl]
      rfl
    · exact wpAny_pure (h _ (List.Perm.refl _))
theorem walkN (I : Is s.heap a es ep t) (hl : w.params.followText "set-order" = true ∨ t.led = true) {others : List Addr} (ho : ∀ b ∈ others, ∃ es ep t, Is s.heap b es ep t) {Q : Array (Int × Value) → Shared → Prop}
    (h : ∀ es' : Array (Int × Value), es'.toList.Perm es.toList → Q es' s) : wpAny (model P w) A (setWalkUnseen a others none) Q E s := by
  unfold setWalkUnseen
  refine wpAny_bind (state I ?_)
  dsimp only
  refine wpAny_bind (wpAny_byText ?_)
  by_cases c : (w.params.followText "set-order" || t.led && t.plain || decide (es.size ≤ 1)) = true
  · refine wp_if_pos c (walk0 I hl ?_ h)
    rw [Bool.or_eq_true, Bool.or_eq_true, Bool.and_eq_true, decide_eq_true_eq] at c
    rcases c with (z | z) | z
    · exact .inl z
    · exact .inr (.inl z.2)
    · exact .inr (.inr z)
  · refine wp_if_neg c ?_
    refine wpAny_bind (quiet (l := a :: others) (fun b hb => ?_) ?_)
    · rcases List.mem_cons.mp hb with rfl | hb
      · exact ⟨_, _, _, I⟩
      · exact ho b hb
    · refine wp_if_neg (by simp) ?_
      refine wpAny_bind (wpAny_rule ?_)
      exact wpAny_pure (h _ (List.Perm.refl _))
theorem walkF (I : Is s.heap a es ep t) (hl : w.params.followText "set-order" = true ∨ t.led = true) {others : List Addr} (ho : ∀ b ∈ others, ∃ es ep t, Is s.heap b es ep t) {r : Addr} {S : Int → Bool} {n : Nat} (R : SetR w s.heap r S n)
    {Q : Array (Int × Value) → Shared → Prop}
    (h : ∀ (es' : Array (Int × Value)) h', es'.toList.Perm es.toList → Heap.SameBut r s.heap h' → SetR w h' r S n → Q es' { s with heap := h' }) : wpAny (model P w) A (setWalkUnseen a others (some r)) Q E s := by
  unfold setWalkUnseen
  have h0 : ∀ es' : Array (Int × Value), es'.toList.Perm es.toList → Q es' s := fun es' p => h es' s.heap p (Heap.SameBut.refl r s.heap) R
  refine wpAny_bind (state I ?_)
  dsimp only
  refine wpAny_bind (wpAny_byText ?_)
  by_cases c : (w.params.followText "set-order" || t.led && t.plain || decide (es.size ≤ 1)) = true
  · refine wp_if_pos c (walk0 I hl ?_ h0)
    rw [Bool.or_eq_true, Bool.or_eq_true, Bool.and_eq_true, decide_eq_true_eq] at c
    rcases c with (z | z) | z
    · exact .inl z
    · exact .inr (.inl z.2)
    · exact .inr (.inr z)
  · refine wp_if_neg c ?_
    refine wpAny_bind (quiet (l := a :: others) (fun b hb => ?_) ?_)
    · rcases List.mem_cons.mp hb with rfl | hb
      · exact ⟨_, _, _, I⟩
      · exact ho b hb
    · refine wp_if_neg (by simp) ?_
      refine wpAny_bind (wpAny_rule ?_)
      try dsimp only
      obtain ⟨o, er, epr, tr, hor, hx, hd, g, nd, hm, hb, hf, hn, hr, hlr⟩ := R
      refine wpAny_bind (wpAny_setState_of hor hd hf ?_)
      dsimp only
      split
      · refine wpAny_bind (wpAny_storeSet_of hor hd ?_ (fits_of_scanBound hb))
        refine wpAny_pure (h _ _ (List.Perm.refl _) (Heap.SameBut.update s.heap r _) ⟨_, er, _, _, store_at hor hd, hx, rfl, g, nd, hm, hb, hf, hn, hr, ?_⟩)
        rcases hlr with z | z
        · exact .inl z
        · rcases hl with y | y
          · exact .inl y
          · exact .inr (by rw [z, y]; rfl)
      · exact wpAny_pure (h0 _ (List.Perm.refl _))
end
end SD
end L2

namespace L2
open PySem PySem.Spec PyProof.Rows
namespace SD
section
variable {P : Program} {w : World} {A : Around} {E : Value → Shared → Prop} {s : Shared} {a : Addr} {es : Array (Int × Value)} {ep : Nat} {t : SetTable}
theorem sizeM : ∀ n, n < 32 → 5 ≤ n → (SetTable.sizeAbove ((0 + n) * 2) - 1 = 15 ∨ SetTable.sizeAbove ((0 + n) * 2) - 1 = 31 ∨ SetTable.sizeAbove ((0 + n) * 2) - 1 = 63) ∧ n ≤ SetTable.sizeAbove ((0 + n) * 2) - 1 := by decide +kernel
/-- r, empty: room for n more -/
theorem room_at {r : Addr} {n ep0 : Nat} {led : Bool} (hn : n < 32) (ho : ∃ o, s.heap.get? r = some o ∧ o.ExactSet ∧ o.data = .set #[] ep0 (.fresh 0 0 led)) {Q : Unit → Shared → Prop}
    (h : ∀ h' ep' t', Heap.SameBut r s.heap h' → (∃ o, h'.get? r = some o ∧ o.ExactSet ∧ o.data = .set #[] ep' t') → t'.place = #[] → t'.dummies = #[] → (t'.mask = 7 ∨ t'.mask = 15 ∨ t'.mask = 31 ∨ t'.mask = 63) → n ≤ t'.mask → Q () { s with heap := h' }) :
    wpAny (model P w) A (setRoomFor r n) Q E s := by
  obtain ⟨o, ho, hx, hd⟩ := ho
  have hf : (SetTable.fresh 0 0 led).fits (#[] : Array (Int × Value)).size = true := rfl
  unfold setRoomFor
  refine wpAny_bind (wpAny_setState_of ho hd hf ?_)
  unfold SetTable.roomFor
  by_cases c : n ≤ 4
  · have e : ¬ ((SetTable.fresh 0 0 led).fill + n) * 5 ≥ (SetTable.fresh 0 0 led).mask * 3 := by
      show ¬ (0 + n) * 5 ≥ 7 * 3
      omega
    rw [if_neg e]
    exact wpAny_pure (h s.heap ep0 _ (Heap.SameBut.refl r s.heap) ⟨o, ho, hx, hd⟩ rfl rfl (.inl rfl) (by show n ≤ 7; omega))
  · have e : ((SetTable.fresh 0 0 led).fill + n) * 5 ≥ (SetTable.fresh 0 0 led).mask * 3 := by
      show (0 + n) * 5 ≥ 7 * 3
      omega
    rw [if_pos e]
    obtain ⟨hm, hle⟩ := sizeM n hn (by omega)
    show wpAny _ _ (setRelay r ((0 + n) * 2)) Q E s
    unfold setRelay
    refine wpAny_bind (wpAny_setState_of ho hd hf ?_)
    dsimp only
    refine wp_if_neg (by rw [sizeLine_eq]; omega) ?_
    try refine wpAny_bind (wpAny_pure ?_)
    obtain ⟨t1, order, el, pm, f1, m1, d1⟩ := laid_ok (m := SetTable.sizeAbove ((0 + n) * 2) - 1) (finger := 0) (moves := (SetTable.fresh 0 0 led).movedTo (SetTable.sizeAbove ((0 + n) * 2) - 1)) (led := led) (plain := true) (hs := (#[] : Array Int)) (.inr hm) (fun x hx => by cases hx) (Nat.zero_le _)
    have er : (SetTable.fresh 0 0 led).relaid ((#[] : Array (Int × Value)).map (·.1)) ((0 + n) * 2) = some (t1, order) := by
      unfold SetTable.relaid
      rw [show (#[] : Array (Int × Value)).map (·.1) = #[] from by simp]
      exact el
    have oz : order = #[] := by
      have := pm.length_eq
      rw [Array.length_toList] at this
      exact Array.eq_empty_of_size_eq_zero this
    rw [er, oz]
    have pz : t1.place = #[] := by
      unfold SetTable.fits at f1
      rw [Bool.and_eq_true, beq_iff_eq] at f1
      exact Array.eq_empty_of_size_eq_zero f1.1
    refine wpAny_bind (wpAny_of_eq (a := ((#[] : Array (Int × Value)), t1)) rfl ?_)
    dsimp only
    refine wpAny_storeSet_of ho hd ?_ (Nat.zero_le _)
    exact h _ _ t1 (Heap.SameBut.update s.heap r _) ⟨_, store_at ho hd, hx, rfl⟩ pz d1 (.inr (m1 ▸ hm)) (by rw [m1]; exact hle)
theorem fit_le {t : SetTable} {n : Nat} (h : t.fits n = true) : t.place.size = n ∧ t.fill ≤ t.mask := by
  unfold SetTable.fits at h
  rw [Bool.and_eq_true, beq_iff_eq, decide_eq_true_eq] at h
  exact h
theorem fm_get {α : Type} (l : List α) : (List.range l.length).filterMap (fun i => l[i]?) = l := by
  induction l with
  | nil => rfl
  | cons x l ih =>
    rw [List.length_cons, List.range_succ_eq_map, List.filterMap_cons, List.filterMap_map]
    exact congrArg (x :: ·) ih
theorem order_perm {es : Array (Int × Value)} {order : Array Nat} (pm : order.toList.Perm (List.range es.size)) : (order.filterMap (es[·]?)).toList.Perm es.toList := by
  rw [Array.toList_filterMap]
  have := pm.filterMap (fun i => es[i]?)
  refine this.trans ?_
  have e : (List.range es.size).filterMap (fun i => es[i]?) = es.toList := by
    have := fm_get es.toList
    rw [Array.length_toList] at this
    rw [← this]
    exact fm_congr fun i _ => (Array.getElem?_toList).symm
  rw [e]
theorem hash_all : ∀ n, n < 32 → 0 ≤ hashInt (n : Nat) ∧ hashInt (n : Nat) < 32 := by decide +kernel
theorem hash_small {k : Int} (h0 : 0 ≤ k) (h1 : k < 32) : 0 ≤ hashInt k ∧ hashInt k < 32 := by
  obtain ⟨n, rfl⟩ := Int.eq_ofNat_of_zero_le h0
  exact hash_all n (by omega)
/-- a copy -/
theorem copy_at (I : Is s.heap a es ep t) (hn : es.size < 32) (hk : ∀ k ∈ es.toList.map keyOf, 0 ≤ k ∧ k < 32) {Q : Value → Shared → Prop}
    (h : ∀ h' es' ep' t', (∀ b o, s.heap.get? b = some o → h'.get? b = some o) → Is h' s.heap.objs.size es' ep' t' → es'.toList.Perm es.toList → t'.dummies = #[] → es.size ≤ t'.mask → Q (.ref s.heap.objs.size) { s with heap := h' }) :
    wpAny (model P w) A (Builtin.Frozenset.copyOf a) Q E s := by
  unfold Builtin.Frozenset.copyOf
  refine wpAny_bind (base I ?_)
  refine wpAny_bind (wpAny_newSet_of (knd := intKind P w) fun led _ => ?_)
  unfold Builtin.Frozenset.addrOf
  refine wpAny_bind (wpAny_pure ?_)
  have hlt : a < s.heap.objs.size := by
    obtain ⟨⟨o, ho, _⟩, _⟩ := I
    exact Heap.lt_size ho
  have hne : a ≠ s.heap.objs.size := Nat.ne_of_lt hlt
  have hr0 : (s.heap.push { cls := .type "set", dict := none, data := .set #[] 0 (.fresh 0 0 led) }).get? s.heap.objs.size = some { cls := .type "set", dict := none, data := .set #[] 0 (.fresh 0 0 led) } := Heap.get?_push_size _ rfl
  have k0 : ∀ b o, s.heap.get? b = some o → (s.heap.push { cls := .type "set", dict := none, data := .set #[] 0 (.fresh 0 0 led) }).get? b = some o := fun b o e => Heap.get?_push_of_some _ e
  generalize s.heap.push { cls := .type "set", dict := none, data := .set #[] 0 (.fresh 0 0 led) } = h0 at hr0 k0 ⊢
  have I0 : Is h0 a es ep t := I.keep (k0 a)
  have keep : ∀ {h'}, Heap.SameBut s.heap.objs.size h0 h' → ∀ b o, s.heap.get? b = some o → h'.get? b = some o := fun {h'} sb b o e => by
    rw [sb.2 b (Nat.ne_of_lt (Heap.lt_size e))]
    exact k0 b o e
  unfold setMerge
  refine wpAny_bind ?_
  refine wp_if_neg (by simpa using fun z : s.heap.objs.size = a => hne z.symm) ?_
  try refine wpAny_bind (wpAny_pure ?_)
  refine wpAny_bind (state (s := { s with heap := h0 }) I0 ?_)
  dsimp only
  by_cases ce : es.isEmpty = true
  · refine wp_if_pos ce ?_
    have ez : es = #[] := by simpa using ce
    subst ez
    exact wpAny_pure (wpAny_pure (h h0 #[] 0 _ k0 ⟨⟨_, hr0, ⟨rfl, rfl, rfl⟩, rfl⟩, fun e he => by simp at he, List.Pairwise.nil, by decide, rfl⟩ (.refl _) rfl (Nat.zero_le _)))
  · refine wp_if_neg ce ?_
    try refine wpAny_bind (wpAny_pure ?_)
    refine wpAny_bind (room_at (s := { s with heap := h0 }) hn ⟨_, hr0, ⟨rfl, rfl, rfl⟩, rfl⟩ fun h1 ep1 t1 sb1 ho1 p1 d1 m1 l1 => ?_)
    obtain ⟨o1, ho1, hx1, hd1⟩ := ho1
    have I1 : Is h1 a es ep t := I0.same sb1 hne
    refine wpAny_bind (wpAny_setState_of (s := { s with heap := h1 }) ho1 hd1 (by unfold SetTable.fits SetTable.fill; rw [p1, d1]; simp) ?_)
    dsimp only
    have fz : ¬ ((t1.fill != 0) = true) := by
      unfold SetTable.fill
      rw [p1, d1]
      simp
    unfold SetTable.road
    rw [if_neg fz]
    obtain ⟨fp, fl⟩ := fit_le I.fit
    by_cases cm : (t1.mask == t.mask && t.dummies.isEmpty) = true
    · rw [if_pos cm]
      rw [Bool.and_eq_true, beq_iff_eq] at cm
      have dz : t.dummies = #[] := by simpa using cm.2
      dsimp only
      refine wpAny_storeSet_of (s := { s with heap := h1 }) ho1 hd1 ?_ (fits_of_scanBound I.lt)
      refine wpAny_pure (h _ es _ _ ?_ ⟨⟨_, store_at ho1 hd1, hx1, rfl⟩, I.good, I.nd, I.lt, ?_⟩ (.refl _) dz ?_)
      · exact keep (sb1.trans (Heap.SameBut.update h1 _ _))
      · exact I.fit
      · show es.size ≤ t.mask
        rw [← cm.1]
        exact l1
    · rw [if_neg cm]
      dsimp only
      obtain ⟨t2, order, el, pm, f2, m2, d2⟩ := laid_ok (m := t1.mask) (finger := t1.finger) (moves := t1.moves) (led := t1.led && t.led) (plain := t1.plain && t.plain) (hs := es.map (·.1)) m1 (fun x hx => by
        rw [Array.toList_map, List.mem_map] at hx
        obtain ⟨e, he, rfl⟩ := hx
        obtain ⟨k, tk, e1, e2⟩ := I.good e he
        have hb := hk k (List.mem_map.mpr ⟨e, he, by unfold keyOf; rw [e1]⟩)
        rw [e2]
        exact hash_small hb.1 hb.2) (by rw [Array.size_map]; exact l1)
      rw [el]
      rw [Array.size_map] at pm f2
      have pe := order_perm pm
      have sz : (order.filterMap (es[·]?)).size = es.size := by
        have := pe.length_eq
        rwa [Array.length_toList, Array.length_toList] at this
      refine wpAny_bind (wpAny_of_eq (a := (order.filterMap (es[·]?), t2)) ?_ ?_)
      · show (if ((order.filterMap (es[·]?)).size != es.size) = true then _ else _) = _
        rw [if_neg (by rw [sz]; simp)]
      · dsimp only
        refine wpAny_storeSet_of (s := { s with heap := h1 }) ho1 hd1 ?_ (fits_of_scanBound (by rw [sz]; exact I.lt))
        refine wpAny_pure (h _ (order.filterMap (es[·]?)) _ _ ?_ ⟨⟨_, store_at ho1 hd1, hx1, rfl⟩, fun e he => I.good e (pe.mem_iff.mp he), (pe.map keyOf).nodup_iff.mpr I.nd, by rw [sz]; exact I.lt, by rw [sz]; exact f2⟩ pe d2 (by rw [m2]; exact l1))
        exact keep (sb1.trans (Heap.SameBut.update h1 _ _))
end
end SD
end L2

namespace L2
open PySem PySem.Spec PyProof.Rows
namespace SD
theorem erase_list {α : Type} (xs : Array α) (p : Nat) : (SetTable.eraseAt xs p).toList = xs.toList.eraseIdx p := by
  unfold SetTable.eraseAt
  rw [Array.toList_append, Array.toList_extract, Array.toList_extract, List.eraseIdx_eq_take_drop_succ, List.extract_eq_take_drop, List.extract_eq_take_drop, List.drop_zero, Nat.sub_zero]
  congr 1
  refine List.take_of_length_le ?_
  rw [List.length_drop, Array.length_toList]
  omega
theorem insert_size {α : Type} (xs : Array α) (p : Nat) (x : α) : (SetTable.insertAt xs p x).size = xs.size + 1 := by
  rw [← Array.length_toList, SetTable.toList_insertAt, List.length_append, List.length_cons, List.length_take, List.length_drop, Array.length_toList]
  omega
theorem drop_fit {t : SetTable} {n i : Nat} (h : t.fits n = true) (hi : i < n) : (t.drop i).fits (n - 1) = true ∧ (t.drop i).dummies.size = t.dummies.size + 1 ∧ (t.drop i).mask = t.mask := by
  obtain ⟨h1, h2⟩ := fit_le h
  have e : t.place[i]? = some (t.place[i]'(by omega)) := Array.getElem?_eq_getElem (by omega)
  unfold SetTable.drop
  rw [e]
  dsimp only
  have es : (SetTable.eraseAt t.place i).size = n - 1 := by
    rw [← Array.length_toList, erase_list, List.length_eraseIdx, Array.length_toList, if_pos (by omega), h1]
  refine ⟨?_, insert_size _ _ _, rfl⟩
  unfold SetTable.fits SetTable.fill
  dsimp only
  rw [es, insert_size]
  unfold SetTable.fill at h2
  simp
  omega
section
variable {P : Program} {w : World} {A : Around} {E : Value → Shared → Prop} {s : Shared} {a : Addr} {es : Array (Int × Value)} {ep : Nat} {t : SetTable}
theorem find_at (I : Is s.heap a es ep t) {k : Int} {tk : Tok} {Q : Option Nat → Shared → Prop}
    (h1 : ∀ j, es.toList[j]?.map keyOf = some k → Q (some j) s) (h0 : k ∉ es.toList.map keyOf → Q none s) : wpAny (model P w) A (setFind a (.int k tk) (hashInt k)) Q E s := by
  have hkey : (intKind P w).is k (.int k tk) = true := intKind_is P w k tk
  have hel : ElemsOf (intKind P w) es.toList := good_elems I.good
  unfold setFind setFindIn
  refine wpAny_bind (state I ?_)
  dsimp only
  rw [byScan_of (knd := intKind P w) rfl I.lt hel]
  refine wp_if_pos rfl ?_
  refine wpAny_bind (wpAny_rule ?_)
  obtain ⟨o, ho, _, hd⟩ := I.at'
  refine wpAny_bind (wpAny_setScan_of (knd := intKind P w) hkey ho hd I.fit hel ?_)
  cases e : List.findIdx? (fun e => (intKind P w).is k e.2) es.toList with
  | none =>
    dsimp only
    refine wpAny_pure (h0 fun z => ?_)
    obtain ⟨x, hx, q⟩ := (good_mem (P := P) (w := w) I.good k).1 z
    have := List.findIdx?_eq_none_iff.mp e x hx
    rw [q] at this
    cases this
  | some j =>
    dsimp only
    obtain ⟨hj, pj, _⟩ := List.findIdx?_eq_some_iff_getElem.mp e
    rw [Nat.zero_add]
    refine wpAny_pure (h1 j ?_)
    rw [List.getElem?_eq_getElem hj]
    exact congrArg some ((good_is (P := P) (w := w) (I.good _ (List.getElem_mem hj)) k).1 pj)
theorem erase_mapA {α β : Type} (f : α → β) : ∀ (l : List α) (j : Nat), (l.eraseIdx j).map f = (l.map f).eraseIdx j
  | [], _ => rfl
  | _ :: _, 0 => rfl
  | x :: l, j + 1 => congrArg (f x :: ·) (erase_mapA f l j)
/-- a key less -/
theorem discard_at (I : Is s.heap a es ep t) {k : Int} {tk : Tok} {Q : Bool → Shared → Prop}
    (h : ∀ b h' es' ep' t', Heap.SameBut a s.heap h' → Is h' a es' ep' t' → (es'.toList.map keyOf).Perm ((es.toList.map keyOf).erase k) → t'.dummies.size ≤ t.dummies.size + 1 → t'.mask = t.mask → Q b { s with heap := h' }) :
    wpAny (model P w) A (setDiscardHashed a (.int k tk) (hashInt k)) Q E s := by
  unfold setDiscardHashed
  refine wpAny_bind (find_at I (fun j hj => ?_) fun hk => ?_)
  · dsimp only
    refine wpAny_bind (state I ?_)
    dsimp only
    obtain ⟨o, ho, hx, hd⟩ := I.at'
    have hjl : j < es.toList.length := by
      rcases Nat.lt_or_ge j es.toList.length with c | c
      · exact c
      · rw [List.getElem?_eq_none c] at hj
        cases hj
    have hsz : (SetTable.eraseAt es j).size = es.size - 1 := by
      rw [← Array.length_toList, erase_list, List.length_eraseIdx, if_pos hjl, Array.length_toList]
    refine wpAny_bind (wpAny_storeSet_of ho hd ?_ (fits_of_scanBound (by rw [hsz]; have := I.lt; omega)))
    refine wpAny_bind (wpAny_point (wpAny_pure ?_))
    rw [Array.length_toList] at hjl
    obtain ⟨f1, f2, f3⟩ := drop_fit I.fit hjl
    have ek : (SetTable.eraseAt es j).toList.map keyOf = (es.toList.map keyOf).eraseIdx j := by
      rw [erase_list]
      exact erase_mapA keyOf es.toList j
    have ejk : (es.toList.map keyOf)[j]? = some k := by rw [List.getElem?_map]; exact hj
    have pk : ((es.toList.map keyOf).eraseIdx j).Perm ((es.toList.map keyOf).erase k) := by
      have p1 := erase_perm _ j k ejk
      have p2 := List.perm_cons_erase (List.mem_of_getElem? ejk)
      exact (p1.trans p2).cons_inv
    refine h _ _ (SetTable.eraseAt es j) _ _ (Heap.SameBut.update s.heap a _) ⟨⟨_, store_at ho hd, hx, rfl⟩, fun e he => ?_, ?_, ?_, ?_⟩ (by rw [ek]; exact pk) (Nat.le_of_eq f2) f3
    · rw [erase_list] at he
      exact I.good e (List.mem_of_mem_eraseIdx he)
    · rw [ek]
      exact pk.nodup_iff.mpr (I.nd.erase k)
    · rw [hsz]
      have := I.lt
      omega
    · rw [hsz]
      exact f1
  · exact wpAny_pure (h _ s.heap es ep t (Heap.SameBut.refl a s.heap) I (by rw [List.erase_of_not_mem hk]) (Nat.le_succ _) rfl)
theorem unch (I : Is s.heap a es ep t) {id : String} {Q : Unit → Shared → Prop} (h : Q () s) : wpAny (model P w) A (Builtin.Frozenset.unchanged id a ep) Q E s := by
  unfold Builtin.Frozenset.unchanged
  refine wpAny_bind (epoch I ?_)
  refine wp_if_neg (by simp) ?_
  exact wpAny_pure h
theorem foldErase_mem : ∀ (ks : List Int) (l : List Int) (k : Int), l.Nodup → (k ∈ ks.foldl List.erase l ↔ k ∈ l ∧ k ∉ ks)
  | [], l, k, _ => ⟨fun h => ⟨h, List.not_mem_nil⟩, fun h => h.1⟩
  | x :: ks, l, k, nd => by
    rw [List.foldl_cons, foldErase_mem ks (l.erase x) k (nd.erase x), nd.mem_erase_iff, List.mem_cons]
    constructor
    · rintro ⟨⟨h1, h2⟩, h3⟩
      exact ⟨h2, fun z => z.elim h1 h3⟩
    · rintro ⟨h1, h2⟩
      exact ⟨⟨fun z => h2 (.inl z), h1⟩, fun z => h2 (.inr z)⟩
/-- the keys of b taken away from a -/
theorem update_at {b : Addr} {eb : Array (Int × Value)} {epb : Nat} {tb : SetTable} (I : Is s.heap a es ep t) (J : Is s.heap b eb epb tb) (hne : a ≠ b) (hl : w.params.followText "set-order" = true ∨ tb.led = true)
    (h8 : ¬ eb.size / 8 > es.size) (hd : t.dummies.size + eb.size ≤ t.mask / 4) {Q : Unit → Shared → Prop}
    (h : ∀ h' es' ep' t', Heap.SameBut a s.heap h' → Is h' a es' ep' t' → (∀ k, k ∈ es'.toList.map keyOf ↔ k ∈ es.toList.map keyOf ∧ k ∉ eb.toList.map keyOf) → Q () { s with heap := h' }) :
    wpAny (model P w) A (Builtin.Frozenset.differenceUpdate id0 a (.ref b)) Q E s := by
  unfold Builtin.Frozenset.differenceUpdate
  refine wp_if_neg (by simpa using fun z : b = a => hne z.symm) ?_
  try refine wpAny_bind (wpAny_pure ?_)
  refine wpAny_bind (anySet J ?_)
  dsimp only
  refine wp_if_pos rfl ?_
  unfold Builtin.Frozenset.addrOf
  refine wpAny_bind (wpAny_pure ?_)
  refine wpAny_bind (size J ?_)
  refine wpAny_bind (size I ?_)
  refine wp_if_neg h8 ?_
  try refine wpAny_bind (wpAny_pure ?_)
  refine wpAny_bind (epoch J ?_)
  refine wpAny_bind (m := holding [Value.ref b] _) (wpAny_holding ?_)
  refine wpAny_bind (walkN J hl (fun c hc => ?_) fun ew pw => ?_)
  · obtain rfl := List.mem_singleton.mp hc
    exact ⟨_, _, _, I⟩
  refine wpAny_bind (wpAny_forIn_array' _ (fun rest _ s' => ∃ done h' es' ep' t', ew.toList = done ++ rest ∧ s' = { s with heap := h' } ∧ Heap.SameBut a s.heap h' ∧ Is h' a es' ep' t' ∧
      (es'.toList.map keyOf).Perm ((done.map keyOf).foldl List.erase (es.toList.map keyOf)) ∧ t'.dummies.size ≤ t.dummies.size + done.length ∧ t'.mask = t.mask)
    _ (fun x rest u s1 hI => ?_) (fun u s1 hI => ?_) ew PUnit.unit
    ⟨[], s.heap, es, ep, t, rfl, rfl, Heap.SameBut.refl a s.heap, I, .refl _, Nat.le_add_right _ _, rfl⟩)
  · obtain ⟨done, h1, e1, ep1, t1, esplit, rfl, sb, I1, pm, dm, mk⟩ := hI
    have hx : x ∈ eb.toList := pw.mem_iff.mp (by rw [esplit]; exact List.mem_append_right _ List.mem_cons_self)
    obtain ⟨k, tk, e2, e3⟩ := J.good x hx
    obtain ⟨x1, x2⟩ := x
    dsimp only at e2 e3
    subst e2
    subst e3
    dsimp only
    refine wpAny_bind (m := holding [Value.int k tk] _) (wpAny_holding (discard_at (s := { s with heap := h1 }) I1 fun bb h2 e4 ep4 t4 sb2 I2 pm2 dm2 mk2 => ?_))
    have J2 : Is h2 b eb epb tb := (J.same sb hne.symm).same sb2 hne.symm
    refine wpAny_bind (unch (s := { s with heap := h2 }) J2 ?_)
    refine wpAny_pure ⟨done ++ [(hashInt k, Value.int k tk)], h2, e4, ep4, t4, by rw [esplit, List.append_assoc]; rfl, rfl, sb.trans sb2, I2, ?_, ?_, mk2.trans mk⟩
    · rw [List.map_append, List.foldl_append]
      exact pm2.trans (pm.erase k)
    · rw [List.length_append, List.length_singleton]
      omega
  · obtain ⟨done, h1, e1, ep1, t1, esplit, rfl, sb, I1, pm, dm, mk⟩ := hI
    rw [List.append_nil] at esplit
    rw [← esplit] at pm dm
    try refine wpAny_pure ?_
    unfold setTidy
    refine wpAny_bind (state (s := { s with heap := h1 }) I1 ?_)
    dsimp only
    rw [pw.length_eq, Array.length_toList] at dm
    refine wp_if_neg (by unfold SetTable.tooManyDummies; rw [decide_eq_true_eq, mk]; omega) ?_
    refine wpAny_pure (h h1 e1 ep1 t1 sb I1 fun k => ?_)
    rw [pm.mem_iff, foldErase_mem _ _ _ I.nd, (pw.map keyOf).mem_iff]
end
end SD
end L2

namespace L2
open PySem PySem.Spec PyProof.Rows
namespace SD
section
variable {P : Program} {w : World} {A : Around} {E : Value → Shared → Prop} {s : Shared} {a b : Addr} {S T : Int → Bool} {n m : Nat}
theorem dec_t {l : List Int} {k : Int} {T : Int → Bool} (h : T k = true) (j : Int) : (decide (j ∈ l ++ [k]) && !T j) = (decide (j ∈ l) && !T j) := by
  by_cases e : j = k
  · rw [e, h, Bool.not_true, Bool.and_false, Bool.and_false]
  · congr 1
    simp [e]
theorem dec_f {l : List Int} {k : Int} {T : Int → Bool} (h : T k = false) (j : Int) : (decide (j ∈ l ++ [k]) && !T j) = ((decide (j ∈ l) && !T j) || decide (j = k)) := by
  by_cases e : j = k
  · rw [e, h]
    simp
  · simp [e]
/-- a new set of the keys of a that are not b's -/
def Diff (h0 : Heap) (S T : Int → Bool) (r : Addr) (h' : Heap) : Prop :=
  (∀ b o, h0.get? b = some o → h'.get? b = some o) ∧ ∃ es ep t, Is h' r es ep t ∧ ∀ k, k ∈ es.toList.map keyOf ↔ S k = true ∧ T k = false
theorem diff_at {id0 : String} (R : SetR w s.heap a S n) (R2 : SetR w s.heap b T m) (hne : a ≠ b) (hn : n < 32) (hk : ∀ k, S k = true → 0 ≤ k ∧ k < 32) {Q : Value → Shared → Prop}
    (h : ∀ h', Diff s.heap S T s.heap.objs.size h' → Q (.ref s.heap.objs.size) { s with heap := h' }) : wpAny (model P w) A (Builtin.Frozenset.difference id0 a (.ref b)) Q E s := by
  obtain ⟨es, ep, t, I, hS, hsz, hl⟩ := Is.of R
  obtain ⟨eb, epb, tb, J, hT, hszb, hlb⟩ := Is.of R2
  have lta : a < s.heap.objs.size := R.lt
  have ltb : b < s.heap.objs.size := R2.lt
  unfold Builtin.Frozenset.difference
  refine wpAny_bind (anySet J ?_)
  refine wp_if_neg (by simp) ?_
  try refine wpAny_bind (wpAny_pure ?_)
  refine wp_if_neg (by simp) ?_
  refine wp_if_pos rfl ?_
  refine wpAny_bind (size J ?_)
  refine wpAny_bind (size I ?_)
  by_cases c : es.size / 4 > eb.size
  · refine wp_if_pos c ?_
    refine wpAny_bind (wpAny_rule ?_)
    refine wpAny_bind (copy_at I (by omega) (fun k hkk => hk k ((hS k).mpr hkk)) fun h1 e1 ep1 t1 k1 I1 pm1 d1 m1 => ?_)
    refine wpAny_bind (wpAny_pure ?_)
    have J1 : Is h1 b eb epb tb := J.keep (k1 b)
    have z1 : e1.size = es.size := by
      have := pm1.length_eq
      rwa [Array.length_toList, Array.length_toList] at this
    refine wpAny_bind (wpAny_holding (update_at (s := { s with heap := h1 }) I1 J1 (Nat.ne_of_gt ltb) hlb (by rw [z1]; omega) (by rw [d1]; show 0 + _ ≤ _; omega) fun h2 e2 ep2 t2 sb2 I2 mem2 => ?_))
    refine wpAny_pure (h h2 ⟨fun c o e => ?_, e2, ep2, t2, I2, fun k => ?_⟩)
    · rw [sb2.2 c (Nat.ne_of_lt (Heap.lt_size e))]
      exact k1 c o e
    · rw [mem2 k, (pm1.map keyOf).mem_iff, ← hS k, ← hT k, Bool.not_eq_true]
  · refine wp_if_neg c ?_
    refine wpAny_bind (base I ?_)
    refine wpAny_bind ?_
    unfold newSet
    refine wpAny_bind (wpAny_byText ?_)
    try dsimp only
    simp only [newObj]
    refine wpAny_bind (wpAny_alloc (wpAny_pure ?_))
    have R0 := setR_fresh (h := s.heap) w
    have k0 : ∀ b o, s.heap.get? b = some o → (s.heap.push { cls := .type "set", dict := none, data := .set #[] 0 (.fresh 0 0 (!w.params.followText "set-order")) }).get? b = some o := fun b o e => Heap.get?_push_of_some _ e
    revert R0 k0
    show (SetR w (s.heap.push { cls := .type "set", dict := none, data := .set #[] 0 (.fresh 0 0 (!w.params.followText "set-order")) }) s.heap.objs.size (fun _ => false) 0 → _ → wpAny _ _ _ _ _ { s with heap := s.heap.push { cls := .type "set", dict := none, data := .set #[] 0 (.fresh 0 0 (!w.params.followText "set-order")) } })
    generalize s.heap.push { cls := .type "set", dict := none, data := .set #[] 0 (.fresh 0 0 (!w.params.followText "set-order")) } = h0
    intro R0 k0
    refine wpAny_bind (wpAny_pure ?_)
    have I0 : Is h0 a es ep t := I.keep (k0 a)
    have J0 : SetR w h0 b T m := R2.at (k0 b)
    refine wpAny_bind (epoch (s := { s with heap := h0 }) I0 ?_)
    refine wpAny_bind (wpAny_holding ?_)
    refine wpAny_bind ?_
    refine wp_if_pos (by trivial) ?_
    refine walkF (s := { s with heap := h0 }) I0 hl (fun c hc => ?_) R0 fun ew h1 pw sb1 R1 => ?_
    · rcases List.mem_cons.mp hc with rfl | hc
      · obtain ⟨x1, x2, x3, x4, _⟩ := Is.of J0
        exact ⟨x1, x2, x3, x4⟩
      · obtain rfl := List.mem_singleton.mp hc
        obtain ⟨x1, x2, x3, x4, _⟩ := Is.of R0
        exact ⟨x1, x2, x3, x4⟩
    refine wpAny_bind (wpAny_forIn_array' _ (fun rest _ s' => ∃ done h' c, ew.toList = done ++ rest ∧ s' = { s with heap := h' } ∧ Heap.SameBut s.heap.objs.size h0 h' ∧ c ≤ done.length ∧
      SetR w h' s.heap.objs.size (fun k => decide (k ∈ done.map keyOf) && !T k) c) _ (fun x rest u s1 hI => ?_) (fun u s1 hI => ?_) ew PUnit.unit ⟨[], h1, 0, rfl, rfl, sb1, Nat.le_refl _, R1.congr fun k => by simp⟩)
    · obtain ⟨done, h2, c2, esplit, rfl, sb2, lc, R3⟩ := hI
      have hx : x ∈ es.toList := pw.mem_iff.mp (by rw [esplit]; exact List.mem_append_right _ List.mem_cons_self)
      have hlen : done.length < es.size := by
        have := pw.length_eq
        rw [esplit, List.length_append, List.length_cons] at this
        have l2 : es.toList.length = es.size := Array.length_toList
        omega
      obtain ⟨k, tk, e2, e3⟩ := I.good x hx
      obtain ⟨x1, x2⟩ := x
      dsimp only at e2 e3
      subst e2
      subst e3
      dsimp only
      have I2 : Is h2 a es ep t := I0.same sb2 (Nat.ne_of_lt lta)
      have J2 : SetR w h2 b T m := J0.at fun o e => by rw [sb2.2 b (Nat.ne_of_lt ltb)]; exact e
      have sp : (done ++ [(hashInt k, Value.int k tk)]).map keyOf = done.map keyOf ++ [k] := by rw [List.map_append]; rfl
      refine wpAny_bind (wpAny_holding ?_)
      refine wp_if_pos (by trivial) ?_
      refine wpAny_bind (wpAny_setFind_of (s := { s with heap := h2 }) (knd := intKind P w) (intKind_is P w k tk) rfl J2.setOf fun r hr => ?_)
      try refine wpAny_bind (wpAny_pure ?_)
      cases hTk : T k with
      | true =>
        rw [hTk] at hr
        refine wp_if_neg (by rw [hr]; simp) ?_
        refine wpAny_pure ?_
        refine wpAny_bind (unch (s := { s with heap := h2 }) I2 ?_)
        refine wpAny_pure ⟨done ++ [(hashInt k, Value.int k tk)], h2, c2, by rw [esplit, List.append_assoc]; rfl, rfl, sb2, by rw [List.length_append]; omega, R3.congr fun j => ?_⟩
        rw [sp]
        exact dec_t hTk j
      | false =>
        rw [hTk] at hr
        refine wp_if_pos (by rw [hr]; rfl) ?_
        refine wpAny_bind (setR_add_hashed (s := { s with heap := h2 }) (P := P) R3 (by unfold scanBound; omega) fun h3 sb3 R4 => ?_)
        refine wpAny_pure ?_
        refine wpAny_bind (unch (s := { s with heap := h3 }) (I2.same sb3 (Nat.ne_of_lt lta)) ?_)
        refine wpAny_pure ⟨done ++ [(hashInt k, Value.int k tk)], h3, _, by rw [esplit, List.append_assoc]; rfl, rfl, sb2.trans sb3, ?_, R4.congr fun j => ?_⟩
        · rw [List.length_append, List.length_singleton]
          split <;> omega
        · rw [sp]
          exact dec_f hTk j
    · obtain ⟨done, h2, c2, esplit, rfl, sb2, lc, R3⟩ := hI
      rw [List.append_nil] at esplit
      rw [← esplit] at R3
      refine wpAny_pure (wpAny_pure (h h2 ⟨fun c o e => ?_, ?_⟩))
      · rw [sb2.2 c (Nat.ne_of_lt (Heap.lt_size e))]
        exact k0 c o e
      · obtain ⟨e4, ep4, t4, I4, m4, _⟩ := Is.of R3
        refine ⟨e4, ep4, t4, I4, fun k => ?_⟩
        rw [← m4 k, Bool.and_eq_true, decide_eq_true_eq, (pw.map keyOf).mem_iff, ← hS k, Bool.not_eq_true']
/-- a - b -/
theorem entry_sub : entryFor table "set.__sub__" = some Builtin.«frozenset.__sub__» :=
  entryFor_alias (id' := "frozenset.__sub__") (by kernel_rfl) rfl (by decide +kernel) (by kernel_rfl)
theorem sub_at (R : SetR w s.heap a S n) (R2 : SetR w s.heap b T m) (hne : a ≠ b) (hn : n < 32) (hk : ∀ k, S k = true → 0 ≤ k ∧ k < 32) {Q : Value → Shared → Prop}
    (h : ∀ h', Diff s.heap S T s.heap.objs.size h' → Q (.ref s.heap.objs.size) { s with heap := h' }) : wpAny (model P w) A (binaryOp .Sub (.ref a) (.ref b)) Q E s := by
  obtain ⟨es, ep, t, I, _⟩ := Is.of R
  obtain ⟨eb, epb, tb, J, _⟩ := Is.of R2
  refine wpAny_binaryOp_same (T := "set") (op := .Sub) I.type J.type PySem.F.fills_set_sub PySem.F.slot_set_sub ?_
  refine wpAny_call_entry PySem.F.slot_set_sub I.type entry_sub ?_ (PySem.F.args_set_sub_2 _ _)
  show wpAny _ _ (Builtin.Frozenset.slot1 "__sub__" ⟨[.ref a, .ref b], []⟩ >>= _) _ _ s
  unfold Builtin.Frozenset.slot1 slotArgs
  refine wpAny_bind (m := (do
    let (self, [x]) ← (pure (Value.ref a, [Value.ref b]) : Sem (Value × List Value)) | unsupported "internal:set-binding"
    return (self, x))) (wpAny_bind (wpAny_pure (wpAny_pure ?_)))
  refine wpAny_bind ?_
  refine wpAny_bind (anySet I ?_)
  refine anySet J ?_
  refine wp_if_neg (by simp) ?_
  try refine wpAny_bind (wpAny_pure ?_)
  refine wpAny_bind (diff_at R R2 hne hn hk fun h' d => ?_)
  exact wpAny_pure ⟨_, rfl, (fun z => nomatch z), h h' d⟩
end
end SD
end L2

namespace L2
open PySem PySem.Spec PyProof.Rows
namespace SD
/-- a new empty set, as the maker leaves it -/
def e0 (w : World) : Obj := { cls := .type "set", dict := none, data := .set #[] 0 (.fresh 0 0 (!w.params.followText "set-order")) }
section
variable {P : Program} {w : World} {A : Around} {E : Value → Shared → Prop} {s : Shared}
set_option maxHeartbeats 3200000 in
/-- set(xs), xs a list of ints: as a set that can be gone through -/
theorem set_of_list {l : Addr} {items : Array Value} (ns : List Int) {Q : Value → Shared → Prop} (hh : A.handled = none) (hl : s.heap.IsList l items) (hit : IntsAre items.toList ns) (hb : ns.length + 1 < scanBound)
    (h : ∀ (h' : Heap) (tk c : Nat), SetR w h' s.heap.objs.size (fun j => decide (j ∈ ns)) c → c ≤ ns.length → (∀ b o, s.heap.get? b = some o → h'.get? b = some o) → Q (.ref s.heap.objs.size) { s with heap := h', toks := tk }) :
    wpAny (model P w) A (call (.type "set") [.ref l]) Q E s := by
  have sz : items.size = ns.length := (Array.length_toList (xs := items)).symm.trans (IntsAre.length hit)
  have V : ∀ (i : Nat) (v : Value), items[i]? = some v → ∃ k t, ns[i]? = some k ∧ v = .int k t := fun i v hv => by
    have hi : i < ns.length := sz ▸ (Array.getElem?_eq_some_iff.mp hv).1
    obtain ⟨t, e⟩ := IntsAre.int_at hit i v (by rw [Array.getElem?_toList]; exact hv)
    exact ⟨ns[i], t, List.getElem?_eq_getElem hi, by rw [e, List.getD_eq_getElem?_getD, List.getElem?_eq_getElem hi]; rfl⟩
  obtain ⟨_, _, mro⟩ := PySem.F.called_set.mro
  have made := PySem.F.called_set.made; have sub := PySem.F.called_set.sub
  refine wpAny_call (codeAny_of_tree (show wpAny _ _ (callAny (.type "set") _) _ _ _ from ?_))
  refine wpAny_pure ⟨Code.quiet_builtin _ (by decide +kernel), codeAny_builtin PySem.F.entry_type_call ?_⟩
  rw [Around.under_plain (weight_type_call_type "set" [.ref l] []) rfl]
  have nt := PySem.F.called_set.notType; have cc := PySem.F.called_set.canCreate; have tc := PySem.F.typeCall_set_1 (.ref l)
  repeat (any_goals (first | assumption | wp_step))
  have at0 : (s.heap.push (e0 w)).get? s.heap.objs.size = some (e0 w) := Heap.get?_push_size _ rfl
  have keep0 : ∀ b o, s.heap.get? b = some o → (s.heap.push (e0 w)).get? b = some o := fun b o e => Heap.get?_push_of_some _ e
  refine codeAny_mono (code_set_led1 (.ref l) (E := E) (Q₁ := fun ob s₁ => ob = .ref s.heap.objs.size ∧ s₁ = { s with heap := s.heap.push (e0 w) }) ⟨rfl, rfl⟩) fun r s₁ hr => ?_
  match r, hr with
  | .error e, hr => exact hr
  | .ok (.ret ob), hr =>
    obtain ⟨rfl, rfl⟩ := hr
    have ty : Shared.TypeIs { s with heap := s.heap.push (e0 w) } (.ref s.heap.objs.size) "set" := ⟨_, at0, rfl⟩
    have il := PySem.F.called_set.init.lookup; have ib := PySem.F.called_set.init.bind (.ref s.heap.objs.size)
    repeat (any_goals (first | assumption | wp_step))
    refine codeAny_mono (codeAny_call_builtin (R := wants (fun r s₂ => r = .none ∧ ∃ h' tk c, s₂ = { s with heap := h', toks := tk } ∧ SetR w h' s.heap.objs.size (fun j => decide (j ∈ ns)) c ∧ c ≤ ns.length ∧ ∀ b o, s.heap.get? b = some o → h'.get? b = some o) E)
      PySem.F.called_set.init.plain PySem.F.entry_set_init (check_set_init_1 ty ?_)) fun r₂ s₂ hr₂ => ?_
    · obtain ⟨⟨oc, od, oda, osl⟩, hol, hcl, nl, hdl⟩ := hl
      simp only at hcl hdl
      subst hcl; subst hdl
      have ol' := keep0 _ _ hol
      have s1 := PySem.F.sub_list_set; have s2 := PySem.F.sub_list_frozenset
      have nd : (Value.type "list" == Value.type "dict") = false := by decide
      have isl : (s.heap.push (e0 w)).IsList l items := ⟨_, ol', rfl, nl, rfl⟩
      have lS : l < s.heap.objs.size := Heap.lt_size hol
      have zz : (s.heap.push (e0 w)).objs.size = s.heap.objs.size + 1 := Heap.size_push ..
      unfold Builtin.«set.__init__» noKeywords Builtin.Frozenset.updateFrom
      generalize hPI : pyIter = PI
      wp_walk
      subst hPI
      refine wpAny_pyIter_list isl (wpAny_bind (wpAny_runValue ?_))
      have h3 : A.in1.in1.in1.handled = none := by simp [hh]
      have neI : l ≠ (s.heap.push (e0 w)).objs.size := by rw [zz]; exact Nat.ne_of_lt (Nat.lt_succ_of_lt lS)
      refine set_update_ints ((Walks.list h3 _ l neI items).toS) s.heap.objs.size (by rw [zz]; simpa using fun z : s.heap.objs.size = l => Nat.ne_of_gt lS z) ns sz hb V (items.size - 0) 0 _ (by omega) (Nat.zero_le _) ⟨⟨_, Heap.get?_push_size _ rfl, rfl, rfl⟩, isl.push _⟩
        ⟨0, Nat.le_refl 0, setR_new_at (Heap.get?_push_of_some _ at0)⟩ fun s' c' hm lc hS' => ?_
      obtain ⟨h', g2, d', tk', os'⟩ := s'
      obtain rfl : g2 = s.gens := hm.gens
      obtain rfl : d' = s.drawn := hm.drawn
      obtain rfl : os' = s.os := hm.os
      refine (show wpAny _ _ _ _ _ _ from wpAny_pure ?_)
      refine (show wpAny _ _ (ret Value.none) _ _ _ from wpAny_pure ⟨rfl, h', tk', c', rfl, hS', by omega, fun b o e => ?_⟩)
      have hb0 : b < s.heap.objs.size := Heap.lt_size e
      refine hm.heap b o ?_ (Heap.get?_push_of_some _ (keep0 b o e))
      rw [zz]
      simpa using ⟨Nat.ne_of_lt hb0, Nat.ne_of_lt (Nat.lt_succ_of_lt hb0)⟩
    · match r₂, hr₂ with
      | .error e, hr₂ => exact hr₂
      | .ok (.ret r), hr₂ =>
        obtain ⟨rfl, h', tk, c', rfl, hS', hc', hk'⟩ := hr₂
        repeat (any_goals (first | assumption | wp_step))
        exact h _ _ _ hS' hc' hk'
      | .ok .next, hr₂ => exact hr₂.elim
      | .ok .brk, hr₂ => exact hr₂.elim
      | .ok .cont, hr₂ => exact hr₂.elim
  | .ok .next, hr => exact hr.elim
  | .ok .brk, hr => exact hr.elim
  | .ok .cont, hr => exact hr.elim
end
end SD
end L2

namespace L2
open PySem PySem.Spec PyProof.Rows
namespace SD
theorem pigeon {α : Type} [DecidableEq α] : ∀ (l m : List α), l.Nodup → (∀ x ∈ l, x ∈ m) → l.length ≤ m.length
  | [], _, _, _ => Nat.zero_le _
  | x :: l, m, nd, hs => by
    obtain ⟨n1, n2⟩ := List.nodup_cons.mp nd
    have hx := hs x List.mem_cons_self
    have ih := pigeon l (m.erase x) n2 fun y hy => (List.mem_erase_of_ne fun e => n1 (by rw [← e]; exact hy)).mpr (hs y (List.mem_cons_of_mem _ hy))
    have e := List.length_erase_of_mem hx
    have hp := List.length_pos_of_mem hx
    rw [List.length_cons]
    omega
theorem same_len {α : Type} [DecidableEq α] {l m : List α} (nl : l.Nodup) (nm : m.Nodup) (h : ∀ x, x ∈ l ↔ x ∈ m) : l.length = m.length :=
  Nat.le_antisymm (pigeon l m nl fun x hx => (h x).mp hx) (pigeon m l nm fun x hx => (h x).mpr hx)
section
variable {X : Cx}
/-- len(set(xs)): as many as there are different ones -/
def tLenSet (K : PySem.W.Frag) (ta : TE) : TE := fun σ H Q => ta σ H fun x H1 => ∃ (l : Addr) (ns : List Int), x = V.ref l ∧ SqL K H1 l (ns.map V.int) ∧ ns.length < 64 ∧
  ∀ L : List Int, L.Nodup → (∀ k, k ∈ L ↔ k ∈ ns) → Q (.int L.length) H1
/-- len(set(xs) - set(ys)) -/
def tLenSub (K : PySem.W.Frag) (ta tb : TE) : TE := fun σ H Q => ta σ H fun x H1 => ∃ (l : Addr) (ns : List Int), x = V.ref l ∧ SqL K H1 l (ns.map V.int) ∧ ns.length < 32 ∧ (∀ k ∈ ns, 0 ≤ k ∧ k < 32) ∧
  tb σ H1 fun y H2 => ∃ (l2 : Addr) (ms : List Int), y = V.ref l2 ∧ SqL K H2 l2 (ms.map V.int) ∧ ms.length < 64 ∧ ∀ L : List Int, L.Nodup → (∀ k, k ∈ L ↔ k ∈ ns ∧ k ∉ ms) → Q (.int L.length) H2
theorem pe_lenSetD {a : Expr} {ta : TE} {p p2 q pos : Pos} (hc : X.calm = true) (hg : Gl X "len") (hm : X.mg "len" = none) (hg2 : Gl X "set") (hm2 : X.mg "set" = none) (ha : PE X a ta)
    (na : starEach [a] X.env = (false, eval a X.env) :: starEach [] X.env := by rfl) : PE X (.Call (.Name "len" p) [.Call (.Name "set" p2) [a] [] q] [] pos) (tLenSet X.K ta) := by
  refine ⟨fun pins s σ H Q I h => ?_⟩
  refine Call_ (ld_blt I hg hm PySem.boot_len (callWith_builtin1 (args_cons ?_ rfl) rfl rfl))
  refine Call_ (ld_blt I hg2 hm2 PyProof.Rows.boot_set (callWith_type1 (args_cons (thn (ha.run pins s σ H _ I h) fun v s1 ⟨x, H1, I1, r1, q1⟩ => args_nil ?_) na) na rfl))
  obtain ⟨l, ns, rfl, hq, h1, q1⟩ := q1
  cases r1
  obtain ⟨its, r, pl, hz⟩ := I1.list hq
  refine set_of_list ns (I1.ok.hd hc) pl.isList (by simpa using r.ints) (by unfold scanBound; omega) fun h' tk c R hcn hk => args_nil ?_
  obtain ⟨es, ep, t, J, hS, hsz, _⟩ := Is.of R
  obtain ⟨o, ho, hx, hd⟩ := J.at'
  have I2 : Inv X pins σ H1 { s1 with heap := h', toks := tk } := I1.kept hk
  refine call_len_set ho hx hd J.fit (by omega) ⟨.int (es.toList.map keyOf).length, H1, I2.tok _, ⟨_, by rw [List.length_map, Array.length_toList]⟩, q1 _ J.nd fun k => ?_⟩
  rw [← hS k, decide_eq_true_eq]
theorem pe_lenSub {a b : Expr} {ta tb : TE} {p p2 p3 q q3 pb pos : Pos} (hc : X.calm = true) (hg : Gl X "len") (hm : X.mg "len" = none) (hg2 : Gl X "set") (hm2 : X.mg "set" = none) (ha : PE X a ta) (hb : PE X b tb)
    (na : starEach [a] X.env = (false, eval a X.env) :: starEach [] X.env := by rfl) (nb : starEach [b] X.env = (false, eval b X.env) :: starEach [] X.env := by rfl) :
    PE X (.Call (.Name "len" p) [.BinOp (.Call (.Name "set" p2) [a] [] q) .Sub (.Call (.Name "set" p3) [b] [] q3) pb] [] pos) (tLenSub X.K ta tb) := by
  refine ⟨fun pins s σ H Q I h => ?_⟩
  refine Call_ (ld_blt I hg hm PySem.boot_len (callWith_builtin1 (args_cons (wpAny_BinOp ?_) rfl) rfl rfl))
  refine Call_ (ld_blt I hg2 hm2 PyProof.Rows.boot_set (callWith_type1 (args_cons (thn (ha.run pins s σ H _ I h) fun v s1 ⟨x, H1, I1, r1, q1⟩ => args_nil ?_) na) na rfl))
  obtain ⟨l, ns, rfl, hq, h1, hr, q1⟩ := q1
  cases r1
  obtain ⟨its, r, pl, hz⟩ := I1.list hq
  refine set_of_list ns (I1.ok.hd hc) pl.isList (by simpa using r.ints) (by unfold scanBound; omega) fun h' tk c R hcn hk => ?_
  have I2 : Inv X pins σ H1 { s1 with heap := h', toks := tk } := I1.kept hk
  obtain ⟨oa, hoa⟩ : ∃ o, h'.get? s1.heap.objs.size = some o := by
    obtain ⟨o, _, _, _, ho, _⟩ := id R
    exact ⟨o, ho⟩
  have nocell : ∀ v, oa.data ≠ .cell v := fun v z => by
    obtain ⟨o, es, ep, t, ho, _, hd, _⟩ := id R
    rw [hoa] at ho
    obtain rfl := Option.some.inj ho
    rw [hd] at z
    cases z
  have I3 : Inv X ((s1.heap.objs.size, oa) :: pins) σ H1 { s1 with heap := h', toks := tk } := I2.pins_of fun p hp => by
    rcases List.mem_cons.mp hp with rfl | hp
    · exact ⟨hoa, I1.hok.fresh (Nat.le_refl _), Nat.ne_of_gt I1.lt, I1.nofs (Nat.le_refl _), nocell⟩
    · exact I2.pin p (List.mem_append_right _ hp)
  refine Call_ (ld_blt I3 hg2 hm2 PyProof.Rows.boot_set (callWith_type1 (args_cons (thn (hb.run _ _ σ H1 _ I3 q1) fun u s2 ⟨y, H2, I4, r2, q2⟩ => args_nil ?_) nb) nb rfl))
  obtain ⟨l2, ms, rfl, hq2, h2, q2⟩ := q2
  cases r2
  obtain ⟨its2, r2, pl2, hz2⟩ := I4.list hq2
  refine set_of_list ms (I4.ok.hd hc) pl2.isList (by simpa using r2.ints) (by unfold scanBound; omega) fun h2' tk2 c2 R2 hcn2 hk2 => ?_
  have pa := (I4.pin (s1.heap.objs.size, oa) (List.mem_append_right _ List.mem_cons_self)).1
  have Ra : SetR X.w h2' s1.heap.objs.size (fun j => decide (j ∈ ns)) c := R.at fun o e => by
    rw [hoa] at e
    obtain rfl := Option.some.inj e
    exact hk2 _ _ pa
  have lta : s1.heap.objs.size < s2.heap.objs.size := Heap.lt_size pa
  refine sub_at (s := { s2 with heap := h2', toks := tk2 }) Ra R2 (Nat.ne_of_lt lta) (by omega) (fun k hkk => hr k (of_decide_eq_true hkk)) fun h3 D => args_nil ?_
  obtain ⟨hk3, es, ep, t, J, mem⟩ := D
  obtain ⟨o, ho, hx, hd⟩ := J.at'
  have I5 : Inv X pins σ H2 { s2 with heap := h3, toks := tk2 } := (I4.pins_of fun p hp => I4.pin p (List.mem_append_right _ (List.mem_cons_of_mem _ hp))).kept fun b u e => hk3 b u (hk2 b u e)
  have lt := J.lt
  refine call_len_set (s := { s2 with heap := h3, toks := tk2 }) ho hx hd J.fit (by unfold scanBound at lt; omega) ⟨.int (es.toList.map keyOf).length, H2, I5.tok _, ⟨_, by rw [List.length_map, Array.length_toList]⟩, q2 _ J.nd fun k => ?_⟩
  rw [mem k, decide_eq_true_eq, decide_eq_false_iff_not]
end
end SD
end L2

namespace L2
open PySem PySem.Spec PyProof.Rows
namespace SD
section
variable {P : Program} {w : World} {A : Around} {E : Value → Shared → Prop} {s : Shared}
set_option maxHeartbeats 3200000 in
/-- set(xs), xs a tuple of ints -/
theorem set_of_tup {l : Addr} {items : Array Value} (ns : List Int) {Q : Value → Shared → Prop} (hh : A.handled = none) (hl : IsTup s.heap l items) (hit : IntsAre items.toList ns) (hb : ns.length + 1 < scanBound)
    (h : ∀ (h' : Heap) (tk c : Nat), SetR w h' s.heap.objs.size (fun j => decide (j ∈ ns)) c → c ≤ ns.length → (∀ b o, s.heap.get? b = some o → h'.get? b = some o) → Q (.ref s.heap.objs.size) { s with heap := h', toks := tk }) :
    wpAny (model P w) A (call (.type "set") [.ref l]) Q E s := by
  have sz : items.size = ns.length := (Array.length_toList (xs := items)).symm.trans (IntsAre.length hit)
  have V : ∀ (i : Nat) (v : Value), items[i]? = some v → ∃ k t, ns[i]? = some k ∧ v = .int k t := fun i v hv => by
    have hi : i < ns.length := sz ▸ (Array.getElem?_eq_some_iff.mp hv).1
    obtain ⟨t, e⟩ := IntsAre.int_at hit i v (by rw [Array.getElem?_toList]; exact hv)
    exact ⟨ns[i], t, List.getElem?_eq_getElem hi, by rw [e, List.getD_eq_getElem?_getD, List.getElem?_eq_getElem hi]; rfl⟩
  obtain ⟨_, _, mro⟩ := PySem.F.called_set.mro
  have made := PySem.F.called_set.made; have sub := PySem.F.called_set.sub
  refine wpAny_call (codeAny_of_tree (show wpAny _ _ (callAny (.type "set") _) _ _ _ from ?_))
  refine wpAny_pure ⟨Code.quiet_builtin _ (by decide +kernel), codeAny_builtin PySem.F.entry_type_call ?_⟩
  rw [Around.under_plain (weight_type_call_type "set" [.ref l] []) rfl]
  have nt := PySem.F.called_set.notType; have cc := PySem.F.called_set.canCreate; have tc := PySem.F.typeCall_set_1 (.ref l)
  repeat (any_goals (first | assumption | wp_step))
  have at0 : (s.heap.push (e0 w)).get? s.heap.objs.size = some (e0 w) := Heap.get?_push_size _ rfl
  have keep0 : ∀ b o, s.heap.get? b = some o → (s.heap.push (e0 w)).get? b = some o := fun b o e => Heap.get?_push_of_some _ e
  refine codeAny_mono (code_set_led1 (.ref l) (E := E) (Q₁ := fun ob s₁ => ob = .ref s.heap.objs.size ∧ s₁ = { s with heap := s.heap.push (e0 w) }) ⟨rfl, rfl⟩) fun r s₁ hr => ?_
  match r, hr with
  | .error e, hr => exact hr
  | .ok (.ret ob), hr =>
    obtain ⟨rfl, rfl⟩ := hr
    have ty : Shared.TypeIs { s with heap := s.heap.push (e0 w) } (.ref s.heap.objs.size) "set" := ⟨_, at0, rfl⟩
    have il := PySem.F.called_set.init.lookup; have ib := PySem.F.called_set.init.bind (.ref s.heap.objs.size)
    repeat (any_goals (first | assumption | wp_step))
    refine codeAny_mono (codeAny_call_builtin (R := wants (fun r s₂ => r = .none ∧ ∃ h' tk c, s₂ = { s with heap := h', toks := tk } ∧ SetR w h' s.heap.objs.size (fun j => decide (j ∈ ns)) c ∧ c ≤ ns.length ∧ ∀ b o, s.heap.get? b = some o → h'.get? b = some o) E)
      PySem.F.called_set.init.plain PySem.F.entry_set_init (check_set_init_1 ty ?_)) fun r₂ s₂ hr₂ => ?_
    · obtain ⟨⟨oc, od, oda, osl⟩, hol, hcl, nl, hdl⟩ := hl
      simp only at hcl hdl
      subst hcl; subst hdl
      have ol' := keep0 _ _ hol
      have s1 := PySem.F.sub_tuple_set; have s2 := PySem.F.sub_tuple_frozenset
      have nd : (Value.type "tuple" == Value.type "dict") = false := by decide
      have isl : (s.heap.push (e0 w)).IsTuple l items := ⟨_, ol', rfl, nl, rfl⟩
      have lS : l < s.heap.objs.size := Heap.lt_size hol
      have zz : (s.heap.push (e0 w)).objs.size = s.heap.objs.size + 1 := Heap.size_push ..
      unfold Builtin.«set.__init__» noKeywords Builtin.Frozenset.updateFrom
      generalize hPI : pyIter = PI
      wp_walk
      subst hPI
      refine wpAny_pyIter_tuple isl (wpAny_bind (wpAny_runValue ?_))
      have h3 : A.in1.in1.in1.handled = none := by simp [hh]
      have neI : l ≠ (s.heap.push (e0 w)).objs.size := by rw [zz]; exact Nat.ne_of_lt (Nat.lt_succ_of_lt lS)
      refine set_update_ints ((Walks.tuple h3 _ l neI items).toS) s.heap.objs.size (by rw [zz]; simpa using fun z : s.heap.objs.size = l => Nat.ne_of_gt lS z) ns sz hb V (items.size - 0) 0 _ (by omega) (Nat.zero_le _) ⟨⟨_, Heap.get?_push_size _ rfl, rfl, rfl⟩, ⟨_, Heap.get?_push_of_some _ ol', rfl, nl, rfl⟩⟩
        ⟨0, Nat.le_refl 0, setR_new_at (Heap.get?_push_of_some _ at0)⟩ fun s' c' hm lc hS' => ?_
      obtain ⟨h', g2, d', tk', os'⟩ := s'
      obtain rfl : g2 = s.gens := hm.gens
      obtain rfl : d' = s.drawn := hm.drawn
      obtain rfl : os' = s.os := hm.os
      refine (show wpAny _ _ _ _ _ _ from wpAny_pure ?_)
      refine (show wpAny _ _ (ret Value.none) _ _ _ from wpAny_pure ⟨rfl, h', tk', c', rfl, hS', by omega, fun b o e => ?_⟩)
      have hb0 : b < s.heap.objs.size := Heap.lt_size e
      refine hm.heap b o ?_ (Heap.get?_push_of_some _ (keep0 b o e))
      rw [zz]
      simpa using ⟨Nat.ne_of_lt hb0, Nat.ne_of_lt (Nat.lt_succ_of_lt hb0)⟩
    · match r₂, hr₂ with
      | .error e, hr₂ => exact hr₂
      | .ok (.ret r), hr₂ =>
        obtain ⟨rfl, h', tk, c', rfl, hS', hc', hk'⟩ := hr₂
        repeat (any_goals (first | assumption | wp_step))
        exact h _ _ _ hS' hc' hk'
      | .ok .next, hr₂ => exact hr₂.elim
      | .ok .brk, hr₂ => exact hr₂.elim
      | .ok .cont, hr₂ => exact hr₂.elim
  | .ok .next, hr => exact hr.elim
  | .ok .brk, hr => exact hr.elim
  | .ok .cont, hr => exact hr.elim
end
section
variable {X : Cx}
/-- len(set(t)), t a tuple: as many as there are different ones -/
def tLenSetT (K : PySem.W.Frag) (ta : TE) : TE := fun σ H Q => ta σ H fun x H1 => ∃ (l : Addr) (ns : List Int), x = V.ref l ∧ SqT K H1 l (ns.map V.int) ∧ ns.length < 64 ∧
  ∀ L : List Int, L.Nodup → (∀ k, k ∈ L ↔ k ∈ ns) → Q (.int L.length) H1
theorem pe_lenSetT {a : Expr} {ta : TE} {p p2 q pos : Pos} (hc : X.calm = true) (hg : Gl X "len") (hm : X.mg "len" = none) (hg2 : Gl X "set") (hm2 : X.mg "set" = none) (ha : PE X a ta)
    (na : starEach [a] X.env = (false, eval a X.env) :: starEach [] X.env := by rfl) : PE X (.Call (.Name "len" p) [.Call (.Name "set" p2) [a] [] q] [] pos) (tLenSetT X.K ta) := by
  refine ⟨fun pins s σ H Q I h => ?_⟩
  refine Call_ (ld_blt I hg hm PySem.boot_len (callWith_builtin1 (args_cons ?_ rfl) rfl rfl))
  refine Call_ (ld_blt I hg2 hm2 PyProof.Rows.boot_set (callWith_type1 (args_cons (thn (ha.run pins s σ H _ I h) fun v s1 ⟨x, H1, I1, r1, q1⟩ => args_nil ?_) na) na rfl))
  obtain ⟨l, ns, rfl, hq, h1, q1⟩ := q1
  cases r1
  obtain ⟨its, r, pl, hz⟩ := I1.tuple hq
  refine set_of_tup ns (I1.ok.hd hc) pl (by simpa using r.ints) (by unfold scanBound; omega) fun h' tk c R hcn hk => args_nil ?_
  obtain ⟨es, ep, t, J, hS, hsz, _⟩ := Is.of R
  obtain ⟨o, ho, hx, hd⟩ := J.at'
  have I2 : Inv X pins σ H1 { s1 with heap := h', toks := tk } := I1.kept hk
  refine call_len_set ho hx hd J.fit (by omega) ⟨.int (es.toList.map keyOf).length, H1, I2.tok _, ⟨_, by rw [List.length_map, Array.length_toList]⟩, q1 _ J.nd fun k => ?_⟩
  rw [← hS k, decide_eq_true_eq]
end
end SD
end L2

/-! ### a def that is called, within an except suite, with the exception that the suite holds -/
namespace L2
open PySem PySem.Spec PyProof.Rows
structure FnE (P : Program) (w : World) (K : PySem.W.Frag) (mg : Str → Option Value) (base : Heap) (k : Nat) (f : Addr) (fd : FuncData) (ps : List Str) (sp : Addr → Value → Option Addr → Sp) : Prop where
  len : ∀ a cls d vs H Q E, sp a cls d vs H Q E → vs.length = ps.length
  run : ∀ (A : Around) (outer : List Env) (s : Shared) (H : Hp) (args : Args) (us : List Value) (vs : List V) (Q : VK) (E : XK) (a : Addr) (oe : Obj) (cls : Value) (d : Option Addr), L2H.RoomH k A → L2H.Hot1 A (a, oe) → L2H.PinOk outer H s (a, oe) → Zc cls d oe → Env0 P w K mg base A outer s H →
    BindsTo s fd args (ps.zip us) → Vals vs us → sp a cls d vs H Q E → codeAny (model P w) A (.call (.ref f) args) (CR CX0 outer P w H s Q E) s
theorem Fun.okE {P : Program} {w : World} {K : PySem.W.Frag} {mg : Str → Option Value} {base : Heap} {x qual : Str} {st : Stmt} {f : Addr} {fd : FuncData} {N ps : List Str} {k : Nat} {sp : Addr → Value → Option Addr → Sp} (F : Fun K x qual st f fd) (S : FnScope N ps (defScope st))
    (len : ∀ a cls d vs H Q E, sp a cls d vs H Q E → vs.length = ps.length)
    (hbody : ∀ (cdv : Value) (A : Around) (outer : List Env) (s : Shared) (H : Hp) (vs : List V) (Q : VK) (E : XK) (a : Addr) (oe : Obj) (cls : Value) (d : Option Addr), Zc cls d oe → (∃ vs, oe.data = .fields vs) →
      L2H.RoomH k (A.deeper (envOfC qual (defScope st) s.heap.objs.size f cdv)) → sp a cls d vs H Q E →
      ∃ t, PSs (L2H.cxH CX0 P w K mg base N qual (defScope st) f cdv A outer s H E (a, oe)) (defBody st) t ∧ t { nx := fun _ H' => Q .non H', rt := Q } (start N vs) H) : FnE P w K mg base (k + 1) f fd ps sp := by
  obtain ⟨oc, od, kV, doc, pm, an, cdv, ct, osl, rfl, lk, hcd⟩ := F.ex
  refine ⟨len, fun A outer s H args us vs Q E a oe cls d hr hot hpin hz e0 hb r hsp => ?_⟩
  have keep := fun b o (e : base.get? b = some o) => (e0.bs b o e).1
  have inK : K.In s.heap := e0.mod.kin.keeps keep
  refine codeAny_call_function hr.depth (inK _ _ lk) rfl S.co S.gen rfl (PySem.W.codeRec_of inK hcd) (hb _ _ _ _ ?_)
  refine wpAny_newFunctionEnv_cells S.kind (fun ⟨n, v⟩ hy => ?_) fun env he s1 xx => ?_
  · exact (S.par n (List.of_mem_zip hy).1).elim .inl fun q => .inr ⟨q, PySem.W.cellsFrom_some _ _ _ (.inl q)⟩
  · subst he
    refine ⟨(e0.mod.nolimit.keeps keep).keeps xx.toInCall.keep, codeAny_func ?_⟩
    obtain ⟨t, ht, hq⟩ := hbody cdv A outer s H vs Q E a oe cls d hz ⟨_, hot.2.choose_spec.1⟩ (hr.deeper _) hsp
    have I := L2H.inv_startH (CX := CX0) (E := E) S hpin e0 (len _ _ _ _ _ _ _ hsp) r xx
    refine wpAny_mono (ht.run [] s1 _ H _ I hq) (fun fl s' hs => ?_) fun e s' hs => hs
    have fin : ∀ {σ' : St} {H' : Hp} {v : V} {u : Value}, Inv (L2H.cxH CX0 P w K mg base N qual (defScope st) f cdv A outer s H E (a, oe)) [] σ' H' s' → RelV v u → Q v H' → CE outer P w H s Q u s' :=
      fun {σ' H' v u} J rv q => ⟨v, H', J.os, J.bare, J.base, J.hok, rv, q⟩
    rcases fl with _ | _ | _ | u
    · obtain ⟨σ', H', J, q⟩ := hs
      exact fin (v := V.non) (u := Value.none) J rfl q
    · exact hs.elim fun _ z => z.elim fun _ z => z.2.elim
    · exact hs.elim fun _ z => z.elim fun _ z => z.2.elim
    · obtain ⟨v, σ', H', J, rv, q⟩ := hs
      exact fin J rv q
theorem roomE_of {k : Nat} {A : Around} (r : Room k A) (v : Option Value) : L2H.RoomH k (A.mark v) := ⟨r.dp, r.un⟩
def tCallX1 (sp : Addr → Value → Option Addr → Sp) (a : Addr) (cls : Value) (d : Option Addr) (t : TA) : TE := fun σ H Q => t σ H fun vs H1 => sp a cls d vs H1 Q E0
theorem pe_callX1 {X : Cx} {k : Nat} {f : Addr} {fd : FuncData} {ps : List Str} {sp : Addr → Value → Option Addr → Sp} {x : Str} {q pos : Pos} {e : Expr} {es : List Expr} {t : TA} {a : Addr} {oe : Obj} {cls : Value} {d : Option Addr} {pn : List (Addr × Obj)}
    (F : FnE X.prog X.w X.K X.mg X.base k f fd ps sp) (hr : Room k X.A) (hz : L2N.Zn cls d oe) (hf : ∃ vs, oe.data = .fields vs) (hg : Gl X x) (hm : X.mg x = some (.ref f)) (hk : PySem.W.keepIn X.K (.ref f) = true) (hb : Binds X.K fd ps [])
    (ha : PA (X.suite a ((a, oe) :: pn)) (e :: es) t) (hdb : (x == ("__debug__" : Str)) = false := by decide) (he : starEach (e :: es) X.env = (false, eval e X.env) :: starEach es X.env := by rfl) (hpl : (backTo pos (starEach es X.env)).any (·.1) = false := by rfl) :
    PE (X.suite a ((a, oe) :: pn)) (.Call (.Name x q) (e :: es) [] pos) (tCallX1 sp a cls d t) := by
  refine ⟨fun pins s σ H Q I h => ?_⟩
  refine wpAny_Call_Name_kw (ld_glob (X := X.suite a ((a, oe) :: pn)) I hg hm ?_ hdb)
  refine PySem.W.callWith_K (h₀ := X.base) I.ok.mod.kin hk (thn (ha.run pos pins s σ H _ I h) fun us s1 ⟨vs, H1, I1, r, q⟩ => ⟨I1.kIn, ?_⟩) he hpl
  have hl : us.length = ps.length := by rw [← r.length]; exact F.len _ _ _ _ _ _ _ q
  have b := hb s1 us I1.kIn (by rw [List.append_nil]; exact hl)
  rw [List.append_nil] at b
  have P1 := I1.pin (a, oe) (List.mem_append_left _ List.mem_cons_self)
  have hpin : L2H.PinOk (X.suite a ((a, oe) :: pn)).stack H1 s1 (a, oe) := ⟨P1.1, P1.2.1, fun hm => (List.mem_cons.mp (I1.stkSub a hm)).elim P1.2.2.1 P1.2.2.2.1, P1.2.2.2.2⟩
  have hot : L2H.Hot1 (X.suite a ((a, oe) :: pn)).A (a, oe) := by
    obtain ⟨vs, e⟩ := hf
    exact ⟨rfl, vs, e, hz.2.2 vs e⟩
  refine wpAny_call (codeAny_mono (F.run (X.suite a ((a, oe) :: pn)).A _ s1 H1 ⟨us, []⟩ us vs Q E0 a oe cls d (roomE_of hr _) hot hpin ⟨hz.1, hz.2.1⟩ I1.env0 b r q) fun r s' hq => ?_)
  cases r with
  | error e => exact hq.elim
  | ok fl =>
    cases fl with
    | ret u => exact I1.after hq
    | next => exact False.elim hq
    | brk => exact False.elim hq
    | cont => exact False.elim hq
/-- isinstance of that exception, in that def -/
def rIsEP (K : PySem.W.Frag) (cls : Value) (d : Option Addr) (a : Addr) : List V → Hp → VK → Prop := fun xs H Q => ∃ D : Addr, cls = .ref D ∧ d = none ∧ ExcC K D ∧ rIsE K D a xs H Q
theorem call_isEP {X : Cx} {a : Addr} {oe : Obj} {cls : Value} {d : Option Addr} (hp : (a, oe) ∈ X.pn) (hz : Zc cls d oe) (hf : ∃ vs, oe.data = .fields vs) : CallR X (.builtin "isinstance") (rIsEP X.K cls d a) := by
  intro pins s σ H xs us Q I r h
  obtain ⟨D, rfl, rfl, C, c, cv, b, rfl, hcv, e, q⟩ := h
  cases r with
  | cons rx rr =>
    cases rr with
    | cons rt rr =>
      cases rr
      cases rx
      have ec := hcv _ rt
      subst ec
      obtain ⟨hget, _⟩ := I.pin (a, oe) (List.mem_append.mpr (.inl hp))
      obtain ⟨vs, hv⟩ := hf
      have J : PySem.W.InstAt s.heap a oe D none := by
        obtain ⟨oc, od, oda, osl⟩ := oe
        obtain ⟨h1, h2⟩ := hz
        dsimp only at h1 h2 hv
        subst h1 h2 hv
        exact ⟨hget, rfl, rfl, trivial⟩
      exact PySem.W.kia_one (PySem.W.handS_kitx_exc C.hg C.hk C.hs C.hd C.ha C.hn C.ht C.hm) I.kIn J e (fun z => nomatch z) fun tk => ⟨.bl b, H, I.kept (t' := tk) fun _ _ z => z, rfl, q⟩
theorem call_isEH {P : Program} {w : World} {K : PySem.W.Frag} {mg : Str → Option Value} {base : Heap} {N : List Str} {qual : Str} {scope : Scope} {f : Addr} {cdv : Value} {A : Around} {outer : List Env} {s : Shared} {H : Hp} {E : XK} {a : Addr} {oe : Obj} {cls : Value} {d : Option Addr} (hz : Zc cls d oe) (hf : ∃ vs, oe.data = .fields vs) :
    CallR (L2H.cxH CX0 P w K mg base N qual scope f cdv A outer s H E (a, oe)) (.builtin "isinstance") (rIsEP K cls d a) :=
  call_isEP List.mem_cons_self hz hf
end L2

namespace T
open PySem PySem.Spec PyProof.Rows L2
def SameBut (a : Addr) (H H' : Hp) : Prop := ∀ b o, b ≠ a → H b = some o → H' b = some o
theorem SameBut.refl (a : Addr) (H : Hp) : SameBut a H H := fun _ _ _ h => h
theorem SameBut.trans {a : Addr} {H H1 H2 : Hp} (x : SameBut a H H1) (y : SameBut a H1 H2) : SameBut a H H2 := fun b o n h => y b o n (x b o n h)
theorem SameBut.upd {a : Addr} {H : Hp} {o : HO} : SameBut a H (upd H a o) := fun b u n h => by rw [upd_ne n]; exact h
theorem SameBut.new {a p : Addr} {H : Hp} {o : HO} (h : H p = none) : SameBut a H (L2.upd H p o) := fun b u n e => by rw [upd_ne (ne_of_none e h)]; exact e
theorem Same.but {a : Addr} {H H' : Hp} (h : Same H H') : SameBut a H H' := fun b o _ e => h b o e
theorem same_upd {H : Hp} {p : Addr} {o : HO} (h : H p = none) : Same H (upd H p o) := fun b x e => by
  rw [upd_ne (ne_of_none e h)]
  exact e
theorem upd_self {H : Hp} {a : Addr} {o : HO} (h : H a = some o) : upd H a o = H := by
  funext b
  unfold upd
  by_cases e : b = a
  · rw [if_pos e, e, h]
  · rw [if_neg e]
theorem Same.mut {H H' : Hp} {p : Addr} {o : HO} (e : Same H H') (h : H p = none) : Same H (upd H' p o) := fun a u ha => by
  rw [upd_ne (ne_of_none ha h)]
  exact e a u ha
theorem map_int_get {ns : List Int} {i : Nat} {y : V} (hi : (ns.map V.int)[i]? = some y) : ∃ z, ns[i]? = some z ∧ y = V.int z := by
  rw [List.getElem?_map] at hi
  cases e : ns[i]? with
  | none =>
    rw [e] at hi
    cases hi
  | some z =>
    rw [e] at hi
    exact ⟨z, rfl, (Option.some.inj hi).symm⟩
theorem small_of {n : Nat} (h : n ≤ 100000) : n < sizeLine := Nat.lt_of_le_of_lt h (by decide)
structure ErrC (K : PySem.W.Frag) (mg : Str → Option Value) (x : Str) (C : Addr) : Prop where
  gc : mg x = some (.ref C)
  xC : PySem.W.excIn K C [.type "ValueError", .type "Exception", .type "BaseException", .type "object"] "ValueError.__new__" = true
  kc : PySem.W.keepIn K (.ref C) = true
  bc : PySem.W.subIn K (.ref C) (.type "BaseException") = some true
  tc : PySem.W.typeIn K (.ref C) = some (.type "type")
/-- a def whose defaults stand somewhere (called with all its arguments) -/
structure FunA (K : PySem.W.Frag) (x qual : Str) (st : Stmt) (f : Addr) (fd : FuncData) : Prop where
  ex : ∃ (oc : Value) (od : Option Addr) (dV kV doc pm : Value) (an : Option Addr) (cdv ct : Value) (osl : Array (Option Value)),
    fd = PySem.W.fnOf x qual (defArgs st) (defBody st) (defScope st) dV kV doc pm an cdv ct ∧ K.lookup f = some ⟨oc, od, .func fd, osl⟩ ∧ PySem.W.codeIn K cdv qual = true
  kp : PySem.W.keepIn K (.ref f) = true
section
variable {P : Program} {w : World} {K : PySem.W.Frag} {mg : Str → Option Value} {base : Heap}
theorem FunA.okX {x qual : Str} {st : Stmt} {f : Addr} {fd : FuncData} {N ps : List Str} {k : Nat} {sp : Sp} (F : FunA K x qual st f fd) (S : FnScope N ps (defScope st)) (len : ∀ vs H Q E, sp vs H Q E → vs.length = ps.length)
    (hbody : ∀ (cdv : Value) (A : Around) (outer : List Env) (s : Shared) (H : Hp) (vs : List V) (Q : VK) (E : XK), Room k (A.deeper (envOfC qual (defScope st) s.heap.objs.size f cdv)) → sp vs H Q E →
      ∃ t, PSs (cxOf (L2.CX P w) P w K mg base N qual (defScope st) f cdv A outer s H E) (defBody st) t ∧ t { nx := fun _ H' => Q .non H', rt := Q } (start N vs) H) : FnOk P w K mg base (L2.CX P w) (k + 1) f fd ps sp := by
  obtain ⟨oc, od, dV, kV, doc, pm, an, cdv, ct, osl, rfl, lk, hcd⟩ := F.ex
  exact fn_of lk hcd S len fun A outer s H vs Q E hr hsp => hbody cdv A outer s H vs Q E hr hsp
end
theorem if_pos_of {b : Bool} {A B : Prop} (h : b = true) (x : A) : if b = true then A else B := by
  rw [if_pos h]
  exact x
theorem if_neg_of {b : Bool} {A B : Prop} (h : ¬ b = true) (x : B) : if b = true then A else B := by
  rw [if_neg h]
  exact x
theorem sqT_same {K : PySem.W.Frag} {H H' : Hp} {a : Addr} {xs : List V} (e : Same H H') (h : SqT K H a xs) : SqT K H' a xs := by
  rcases h with (h | ⟨o, h⟩) | h
  · exact .inl (.inl (e _ _ h))
  · exact .inl (.inr ⟨o, e _ _ h⟩)
  · exact .inr h
section
variable {P : Program} {w : World} {K : PySem.W.Frag} {mg : Str → Option Value} {base : Heap}
theorem room64 {k : Nat} {A : Around} (hr : Room k A) : A.units + 64 < cLine := by have := hr.un; omega
theorem room65 {k : Nat} {A : Around} (hr : Room k A) : A.units + 65 < cLine := by have := hr.un; omega
theorem inV_primes {p : Int} : inV (.int p) [.int 2, .int 3, .int 5, .int 7, .int 11, .int 13, .int 17, .int 19, .int 23, .int 29, .int 31] = inV (.int p) (primes.map V.int) := rfl
end
theorem sqT_but {K : PySem.W.Frag} {H H' : Hp} {r a : Addr} {xs : List V} (e : SameBut r H H') (n : a ≠ r) (h : SqT K H a xs) : SqT K H' a xs := by
  rcases h with (h | ⟨o, h⟩) | h
  · exact .inl (.inl (e _ _ n h))
  · exact .inl (.inr ⟨o, e _ _ n h⟩)
  · exact .inr h
theorem at_tab {xs : List Int} {i : Int} (h0 : 0 ≤ i) (h1 : i < xs.length) : atI (xs.map V.int) i = some (.int (xs.getD i.toNat 0)) := by
  obtain ⟨n, rfl⟩ := Int.eq_ofNat_of_zero_le h0
  have hn : n < xs.length := by omega
  refine atI_nat ?_
  rw [List.getElem?_map, List.getElem?_eq_getElem hn, List.getD_eq_getElem?_getD, show ((n : Nat) : Int).toNat = n from rfl, List.getElem?_eq_getElem hn]
  rfl
theorem mod_lt8 (n : Int) {m : Int} (h : 0 < m) : 0 ≤ n % m ∧ n % m < m := ⟨Int.emod_nonneg _ (by omega), Int.emod_lt_of_pos _ h⟩
def wtab : List Int := [0, 0, 0, 2, 3, 5, 7, 31]
theorem wtab_in : ∀ k : Nat, k < 8 → wtab.getD k 0 = 0 ∨ (wtab.getD k 0 ≠ 0 ∧ inV (.int (wtab.getD k 0)) (primes.map V.int) = true ∧ 2 ≤ wtab.getD k 0) := by decide
/-! ### isinstance of the error that an except suite holds -/
def rIsE' (K : PySem.W.Frag) (cls : Value) (d : Option Addr) (a : Addr) : List V → Hp → VK → Prop := fun xs H Q => ∃ D : Addr, cls = .ref D ∧ d = none ∧ ExcC K D ∧ rIsE K D a xs H Q
theorem call_isE' {X : Cx} {a : Addr} {oe : Obj} {pn : List (Addr × Obj)} {cls : Value} {d : Option Addr} (hz : Zc cls d oe) (hf : ∃ vs, oe.data = .fields vs) : CallR (X.suite a ((a, oe) :: pn)) (.builtin "isinstance") (rIsE' X.K cls d a) := by
  intro pins s σ H xs us Q I r h
  obtain ⟨D, rfl, rfl, C, h⟩ := h
  exact call_isE C hz hf pins s σ H xs us Q I r h
theorem pe_indexK {X : Cx} {K : PySem.W.Frag} {o e : Expr} {to : TE} {t : TA} {apos cpos : Pos} (hK : X.K = K) (ho : PE X o to) (ha : PA X [e] t)
    (hb : attributeBase o "index" X.env (eval o X.env) = eval o X.env := by rfl)
    (hf : ((backTo cpos (starEach [e] X.env)).all (fun x => !x.1) && (backToKw cpos (keywordEach [] X.env)).all (fun x => x.1.isSome) && decide ([e].length + ([] : List Keyword).length + (if ([] : List Keyword).isEmpty then 0 else 1) < 30)) = true := by rfl)
    (hl : (apos.endLine == cpos.line) = true := by rfl) (hs : starEach [e] X.env = (false, eval e X.env) :: starEach [] X.env := by rfl) (hp : (backTo cpos (starEach [] X.env)).any (·.1) = false := by rfl) :
    PE X (.Call (.Attribute o "index" apos) [e] [] cpos) (tBM K "list" (rIndex K) to t) := by
  subst hK
  exact pe_bm PySem.F.plainAttrs_list PySem.F.slot_list_index PySem.F.type_list_index mt_index ho ha hb hf hl hs hp
/-! ### values without depth -/
inductive Val1 (H : Hp) : V → PyData → Prop
  | non : Val1 H .non .none
  | bl (b : Bool) : Val1 H (.bl b) (.bool b)
  | str (x : Str) : Val1 H (.str x) (.str x)
  | pair {t : Addr} {u v : Int} : H t = some (.tup [.int u, .int v]) → Val1 H (.ref t) (.tuple [.int u, .int v])
theorem Val1.dp {K : PySem.W.Frag} {H : Hp} {x : V} {d : PyData} (h : Val1 H x d) : Dp K H x d := by
  cases h with
  | non => exact .non
  | bl b => exact .bl b
  | str x => exact .str x
  | pair h => exact .tup (.inl (.inl h)) (.cons (.int _) (.cons (.int _) .nil))
theorem Val1.but {H H' : Hp} {D : Addr} {ys : List V} {x : V} {d : PyData} (s : SameBut D H H') (hD : H D = some (.lst ys)) (h : Val1 H x d) : Val1 H' x d := by
  cases h with
  | non => exact .non
  | bl b => exact .bl b
  | str x => exact .str x
  | pair h => exact .pair (s _ _ (ne_of h hD (fun z => nomatch z)) h)
theorem Val1.same {H H' : Hp} {x : V} {d : PyData} (s : Same H H') (h : Val1 H x d) : Val1 H' x d := by
  cases h with
  | non => exact .non
  | bl b => exact .bl b
  | str x => exact .str x
  | pair h => exact .pair (s _ _ h)
theorem vals1_dp {K : PySem.W.Frag} {H : Hp} : ∀ {xs : List V} {ds : List PyData}, Paired (Val1 H) xs ds → DpAll K H xs ds
  | _, _, .nil => .nil
  | _, _, .cons a b => .cons a.dp (vals1_dp b)
theorem paired_snoc {α β : Type} {F : α → β → Prop} {a : α} {b : β} (h : F a b) : ∀ {l : List α} {m : List β}, Paired F l m → Paired F (l ++ [a]) (m ++ [b])
  | _, _, .nil => .cons h .nil
  | _, _, .cons x y => .cons x (paired_snoc h y)

/-- the first def of a class -/
def inCls : Stmt → Stmt
  | .ClassDef _ _ _ body _ _ _ _ _ _ _ => body.getD 0 (.Pass ⟨0, 0, 0, 0⟩)
  | s => s
theorem pt_truthK {X : Cx} {K : PySem.W.Frag} {a : Expr} {ta : TE} (hK : X.K = K) (ha : PE X a ta) (he : ∀ whole, isTrue a X.env whole = (do let v ← whole; standAt a.pos; holding [v] (truthy v))) :
    PT X a (fun σ H Q => ta σ H fun x H' => ∃ k, TruV K x H' k ∧ Q k H') := by
  subst hK
  exact pt_truth ha he
theorem op_in_seqK {X : Cx} {K : PySem.W.Frag} (hK : X.K = K) : OpR X (compareOp .In) (rIn K false) := by
  subst hK
  exact op_in_seq
theorem op_notIn_seqK {X : Cx} {K : PySem.W.Frag} (hK : X.K = K) : OpR X (compareOp .NotIn) (rIn K true) := by
  subst hK
  exact op_notIn_seq
theorem pi_listK {X : Cx} {K : PySem.W.Frag} {tg e : Expr} {te : TE} (hK : X.K = K) (he : PE X e te) : PI X tg e (iList K te) := by
  subst hK
  exact pi_list he

def topS (i : Nat) : Stmt := PySem.Challenge.pw_threadworth_k54_tables_of_colours.main.body.getD i (.Pass ⟨0, 0, 0, 0⟩)
abbrev s_is_size_ : Stmt := topS 15
theorem sc_is_size_ : FnScope ["n", "m"] ["n", "m"] (defScope s_is_size_) := ⟨rfl, rfl, rfl, by decide +kernel, rfl, by decide +kernel, by decide +kernel⟩
abbrev s_is_diagram : Stmt := topS 16
theorem sc_is_diagram : FnScope ["diagram", "n", "m", "blocks", "points", "firsts", "block", "point"] ["diagram"] (defScope s_is_diagram) := ⟨rfl, rfl, rfl, by decide +kernel, rfl, by decide +kernel, by decide +kernel⟩
abbrev s_check_diagram : Stmt := topS 17
theorem sc_check_diagram : FnScope ["diagram"] ["diagram"] (defScope s_check_diagram) := ⟨rfl, rfl, rfl, by decide +kernel, rfl, by decide +kernel, by decide +kernel⟩
abbrev s_labels : Stmt := topS 18
theorem sc_labels : FnScope ["diagram", "n", "m", "blocks", "marks", "k", "block", "point", "_"] ["diagram"] (defScope s_labels) := ⟨rfl, rfl, rfl, by decide +kernel, rfl, by decide +kernel, by decide +kernel⟩
abbrev s_check_colours_ : Stmt := topS 22
theorem sc_check_colours_ : FnScope ["d"] ["d"] (defScope s_check_colours_) := ⟨rfl, rfl, rfl, by decide +kernel, rfl, by decide +kernel, by decide +kernel⟩
abbrev s_check_entries_ : Stmt := topS 23
theorem sc_check_entries_ : FnScope ["d", "points", "many", "_"] ["d", "points"] (defScope s_check_entries_) := ⟨rfl, rfl, rfl, by decide +kernel, rfl, by decide +kernel, by decide +kernel⟩
abbrev s_colourings_ : Stmt := topS 24
theorem sc_colourings_ : FnScope ["d", "points", "rows", "_", "row", "colour"] ["d", "points"] (defScope s_colourings_) := ⟨rfl, rfl, rfl, by decide +kernel, rfl, by decide +kernel, by decide +kernel⟩
abbrev s_place_ : Stmt := topS 25
theorem sc_place_ : FnScope ["d", "colours", "found", "colour"] ["d", "colours"] (defScope s_place_) := ⟨rfl, rfl, rfl, by decide +kernel, rfl, by decide +kernel, by decide +kernel⟩
abbrev s_places_ : Stmt := topS 26
theorem sc_places_ : FnScope ["d", "diagram", "exact", "n", "_", "blocks", "marks", "found", "colouring", "colours", "mark"] ["d", "diagram", "exact"] (defScope s_places_) := ⟨rfl, rfl, rfl, by decide +kernel, rfl, by decide +kernel, by decide +kernel⟩
abbrev s_empty_ : Stmt := topS 27
theorem sc_empty_ : FnScope ["d", "n", "m", "entry", "width", "_"] ["d", "n", "m", "entry"] (defScope s_empty_) := ⟨rfl, rfl, rfl, by decide +kernel, rfl, by decide +kernel, by decide +kernel⟩
abbrev s_table_of_ : Stmt := topS 28
theorem sc_table_of_ : FnScope ["d", "diagram", "exact", "n", "m", "_", "table", "row", "column"] ["d", "diagram", "exact"] (defScope s_table_of_) := ⟨rfl, rfl, rfl, by decide +kernel, rfl, by decide +kernel, by decide +kernel⟩
abbrev s_colour_table : Stmt := topS 29
theorem sc_colour_table : FnScope ["d", "diagram"] ["d", "diagram"] (defScope s_colour_table) := ⟨rfl, rfl, rfl, by decide +kernel, rfl, by decide +kernel, by decide +kernel⟩
abbrev s_exact_table : Stmt := topS 30
theorem sc_exact_table : FnScope ["d", "diagram"] ["d", "diagram"] (defScope s_exact_table) := ⟨rfl, rfl, rfl, by decide +kernel, rfl, by decide +kernel, by decide +kernel⟩
abbrev s_law_number : Stmt := topS 32
theorem sc_law_number : FnScope ["cell"] ["cell"] (defScope s_law_number) := ⟨rfl, rfl, rfl, by decide +kernel, rfl, by decide +kernel, by decide +kernel⟩
abbrev s_law_draws : Stmt := topS 33
theorem sc_law_draws : FnScope ["script", "draws", "cell", "rest", "k", "once", "twice"] ["script"] (defScope s_law_draws) := ⟨rfl, rfl, rfl, by decide +kernel, rfl, by decide +kernel, by decide +kernel⟩
abbrev s_law_next : Stmt := topS 34
theorem sc_law_next : FnScope ["draws"] ["draws"] (defScope s_law_next) := ⟨rfl, rfl, rfl, by decide +kernel, rfl, by decide +kernel, by decide +kernel⟩
abbrev s_law_marked : Stmt := topS 35
theorem sc_law_marked : FnScope ["n", "m", "marks", "known", "blocks", "at", "block"] ["n", "m", "marks"] (defScope s_law_marked) := ⟨rfl, rfl, rfl, by decide +kernel, rfl, by decide +kernel, by decide +kernel⟩
abbrev s_law_marks : Stmt := topS 36
theorem sc_law_marks : FnScope ["diagram", "marks", "number", "point"] ["diagram"] (defScope s_law_marks) := ⟨rfl, rfl, rfl, by decide +kernel, rfl, by decide +kernel, by decide +kernel⟩
abbrev s_law_colours : Stmt := topS 37
theorem sc_law_colours : FnScope ["d", "count", "rows", "j", "longer", "row", "colour"] ["d", "count"] (defScope s_law_colours) := ⟨rfl, rfl, rfl, by decide +kernel, rfl, by decide +kernel, by decide +kernel⟩
abbrev s_law_matches : Stmt := topS 38
theorem sc_law_matches : FnScope ["marks", "colours", "one", "other"] ["marks", "colours"] (defScope s_law_matches) := ⟨rfl, rfl, rfl, by decide +kernel, rfl, by decide +kernel, by decide +kernel⟩
abbrev s_law_table : Stmt := topS 39
theorem sc_law_table : FnScope ["d", "diagram", "marks", "rows", "above", "below"] ["d", "diagram"] (defScope s_law_table) := ⟨rfl, rfl, rfl, by decide +kernel, rfl, by decide +kernel, by decide +kernel⟩
abbrev s_law_error : Stmt := topS 40
theorem sc_law_error : FnScope ["error", "kinds"] ["error"] (defScope s_law_error) := ⟨rfl, rfl, rfl, by decide +kernel, rfl, by decide +kernel, by decide +kernel⟩
abbrev s_law_shape : Stmt := topS 41
theorem sc_law_shape : FnScope ["draws", "most", "n"] ["draws", "most"] (defScope s_law_shape) := ⟨rfl, rfl, rfl, by decide +kernel, rfl, by decide +kernel, by decide +kernel⟩
abbrev s_law_drawn_diagram : Stmt := topS 42
theorem sc_law_drawn_diagram : FnScope ["draws", "n", "m", "marks", "j"] ["draws", "n", "m"] (defScope s_law_drawn_diagram) := ⟨rfl, rfl, rfl, by decide +kernel, rfl, by decide +kernel, by decide +kernel⟩
abbrev s_law_told : Stmt := topS 43
theorem sc_law_told : FnScope ["which", "d", "diagram", "error"] ["which", "d", "diagram"] (defScope s_law_told) := ⟨rfl, rfl, rfl, by decide +kernel, rfl, by decide +kernel, by decide +kernel⟩
abbrev s_law_exact : Stmt := topS 44
theorem sc_law_exact : FnScope ["d", "diagram", "marks", "rows", "above", "row", "below", "colours"] ["d", "diagram"] (defScope s_law_exact) := ⟨rfl, rfl, rfl, by decide +kernel, rfl, by decide +kernel, by decide +kernel⟩
abbrev s_law_large : Stmt := topS 45
theorem sc_law_large : FnScope ["d", "points", "n", "diagram", "entries", "j", "which", "told", "row"] ["d", "points"] (defScope s_law_large) := ⟨rfl, rfl, rfl, by decide +kernel, rfl, by decide +kernel, by decide +kernel⟩
abbrev s_law : Stmt := topS 46
theorem sc_law : FnScope ["script", "draws", "d", "n", "m", "diagram", "bad", "which"] ["script"] (defScope s_law) := ⟨rfl, rfl, rfl, by decide +kernel, rfl, by decide +kernel, by decide +kernel⟩
abbrev s_Malformed_init : Stmt := inCls (topS 11)
theorem sc_Malformed_init : FnScope ["self", "at"] ["self", "at"] (defScope s_Malformed_init) := ⟨rfl, rfl, rfl, by decide +kernel, rfl, by decide +kernel, by decide +kernel⟩
structure SmL (n k : Nat) (D : PyData) : Prop where
  lay : D.canLay0 = true
  dep : D.depth ≤ n
  sho : D.showable = true
  wgt : wt D ≤ k
theorem smL_all {n k : Nat} : ∀ {ds : List PyData}, (∀ D ∈ ds, SmL n k D) → PyData.canLayAll0 ds = true ∧ PyData.depthAll ds ≤ n ∧ PyData.showableAll ds = true ∧ wtAll ds ≤ (k + 2) * ds.length
  | [], _ => ⟨by simp [PyData.canLayAll0], by simp [PyData.depthAll], by simp [PyData.showableAll], by simp [wtAll]⟩
  | D :: ds, h => by
    obtain ⟨h1, h2, h3, h4⟩ := smL_all (ds := ds) fun E hE => h E (List.mem_cons_of_mem _ hE)
    have g := h D List.mem_cons_self
    refine ⟨by simp [PyData.canLayAll0, g.lay, h1], ?_, by simp [PyData.showableAll, g.sho, h3], ?_⟩
    · simp only [PyData.depthAll]
      have := g.dep
      omega
    · simp only [wtAll, List.length_cons, Nat.mul_add]
      have := g.wgt
      omega
theorem smL_list {n k : Nat} {ds : List PyData} (h : ∀ D ∈ ds, SmL n k D) : SmL (n + 1) ((k + 2) * ds.length + 3) (.list ds) := by
  obtain ⟨h1, h2, h3, h4⟩ := smL_all h
  exact ⟨by simp [PyData.canLay0, h1], by simp only [PyData.depth]; omega, by simp [PyData.showable, h3], by simp only [wt]; omega⟩
theorem smL_tuple {n k : Nat} {ds : List PyData} (h : ∀ D ∈ ds, SmL n k D) : SmL (n + 1) ((k + 2) * ds.length + 3) (.tuple ds) := by
  obtain ⟨h1, h2, h3, h4⟩ := smL_all h
  exact ⟨by simp [PyData.canLay0, h1], by simp only [PyData.depth]; omega, by simp [PyData.showable, h3], by simp only [wt]; omega⟩
theorem SmL.shaped {n k : Nat} {D : PyData} (h : SmL n k D) (hn : n ≤ 64) : SeqAt.shaped D = true := by
  show (PyData.canLay0 D && decide (PyData.depth D ≤ 64)) = true
  rw [h.lay, decide_eq_true (Nat.le_trans h.dep hn)]
  rfl
theorem SmL.wide {n k : Nat} {D : PyData} (h : SmL n k D) (hk : k ≤ 16777216) : wt D ≤ sizeLine := by
  rw [sizeLine_eq]
  exact Nat.le_trans h.wgt hk
theorem small_log {i : Int} (h : i.natAbs < 2 ^ 200) : i.natAbs.log2 < 1920 := by
  by_cases e : i.natAbs = 0
  · rw [e]
    decide
  · exact (Nat.log2_lt e).mpr (Nat.lt_of_lt_of_le h (Nat.pow_le_pow_right (by decide) (by decide)))
theorem smL_int {i : Int} (h : i.natAbs < 2 ^ 200) : SmL 0 1921 (.int i) := ⟨by simp [PyData.canLay0], by simp [PyData.depth], by simp [PyData.showable, small_log h], by simp only [wt]; omega⟩
theorem smL_pair {u v : Int} (hu : u.natAbs < 2 ^ 200) (hv : v.natAbs < 2 ^ 200) : SmL 1 4000 (.tuple [.int u, .int v]) := by
  have h := smL_tuple (ds := [.int u, .int v]) (n := 0) (k := 1921) fun D hD => by
    rcases List.mem_cons.mp hD with rfl | hD
    · exact smL_int hu
    · rcases List.mem_cons.mp hD with rfl | hD
      · exact smL_int hv
      · cases hD
  exact ⟨h.lay, h.dep, h.sho, Nat.le_trans h.wgt (by show (1921 + 2) * 2 + 3 ≤ 4000; decide)⟩
theorem ok_n : PyData.strOk ("!n" : Str) = true := by decide +kernel
theorem ok_b : PyData.strOk ("!b" : Str) = true := by decide +kernel
theorem ok_w : PyData.strOk ("!w" : Str) = true := by decide +kernel
theorem rl_n : (reprText ("!n" : Str)).length = 4 := by decide +kernel
theorem rl_b : (reprText ("!b" : Str)).length = 4 := by decide +kernel
theorem rl_w : (reprText ("!w" : Str)).length = 4 := by decide +kernel
theorem smL_n : SmL 1 4000 (.str "!n") := ⟨by simp [PyData.canLay0, ok_n], by simp [PyData.depth], by simp [PyData.showable], by simp only [wt, rl_n]; omega⟩
theorem smL_b : SmL 1 4000 (.str "!b") := ⟨by simp [PyData.canLay0, ok_b], by simp [PyData.depth], by simp [PyData.showable], by simp only [wt, rl_b]; omega⟩
theorem smL_w : SmL 1 4000 (.str "!w") := ⟨by simp [PyData.canLay0, ok_w], by simp [PyData.depth], by simp [PyData.showable], by simp only [wt, rl_w]; omega⟩
theorem smL_non : SmL 1 4000 .none := ⟨by simp [PyData.canLay0], by simp [PyData.depth], by simp [PyData.showable], by simp only [wt]; omega⟩
theorem smL_bool (b : Bool) : SmL 1 4000 (.bool b) := ⟨by simp [PyData.canLay0], by simp [PyData.depth], by simp [PyData.showable], by simp only [wt]; omega⟩

section
variable {P : Program} {w : World} {K : PySem.W.Frag} {mg : Str → Option Value} {base : Heap}
/-! ### _law_number -/
def spPlain : Sp := fun vs H Q _ => ∃ n : Int, vs = [.int n] ∧ Q (.int (if n < 0 then -n else n)) H
theorem ok_plain {f : Addr} {fd : FuncData} (F : Fun K "_law_number" "_law_number" s_law_number f fd) : FnOk P w K mg base CX0 1 f fd ["cell"] spPlain := by
  refine F.ok sc_law_number (fun vs H Q E h => ?_) (fun cdv A outer s H vs Q E hr h => ?_)
  · obtain ⟨n, rfl, _⟩ := h
    rfl
  · obtain ⟨n, rfl, q⟩ := h
    refine ⟨_, (pss_cons (ps_if (pt_cmpR op_lt (pv 0) pe_int (nomark _)) (pss_one (ps_ret (pe_op op_sub pe_int (pv 0)))) pss_nil)
  (pss_one (ps_ret (pv 0))))
    , ?_⟩
    refine ⟨_, rfl, _, _, rfl, rfl, _, rfl, ite2 (fun e => ?_) (fun e => ?_)⟩
    · rw [if_pos (of_decide_eq_true e)] at q
      have q' : Q (.int (0 - n)) H := by
        rw [show (0 : Int) - n = -n by omega]
        exact q
      exact ⟨_, rfl, _, _, rfl, rfl, q'⟩
    · rw [if_neg (fun z => e (decide_eq_true z))] at q
      exact ⟨_, rfl, q⟩
end

section
variable {P : Program} {w : World} {K : PySem.W.Frag} {mg : Str → Option Value} {base : Heap}
/-! ### _law_next -/
def spNext : Sp := fun vs H Q _ => ∃ (a : Addr) (ds : List Int), vs = [.ref a] ∧ H a = some (.lst (ds.map V.int)) ∧ ∀ (n : Int) (ds' : List Int), Q (.int n) (upd H a (.lst (ds'.map V.int)))
theorem ok_next {f : Addr} {fd : FuncData} (F : Fun K "_law_next" "_law_next" s_law_next f fd) : FnOk P w K mg base CX0 1 f fd ["draws"] spNext := by
  refine F.ok sc_law_next (fun vs H Q E h => ?_) (fun cdv A outer s H vs Q E hr h => ?_)
  · obtain ⟨a, ds, rfl, _⟩ := h
    rfl
  · obtain ⟨a, ds, rfl, hL, q⟩ := h
    refine ⟨_, (pss_cons (ps_if (pt_truth (pv 0) (by intro _; rfl)) (pss_one (ps_ret (pe_bm0 PySem.F.plainAttrs_list PySem.F.slot_list_pop PySem.F.type_list_pop mt_pop (pv 0)))) pss_nil)
  (pss_one (ps_ret pe_int)))
    , ?_⟩
    refine ⟨_, rfl, _, .inl ⟨_, .inl (.inl hL), rfl⟩, ite2 (fun e => ?_) (fun e => ?_)⟩
    · have hn : ds ≠ [] := fun z => by subst z; cases e
      have hm : ds.map V.int = ds.dropLast.map V.int ++ [V.int (ds.getLast hn)] := by
        rw [← List.map_singleton, ← List.map_append, List.dropLast_concat_getLast]
      refine ⟨_, rfl, .inl ⟨rfl, _, .inl (.inl hL)⟩, a, _, .int (ds.getLast hn), rfl, rfl, hL, ?_, ?_⟩
      · rw [hm]; simp
      · rw [hm, List.dropLast_concat]
        exact q _ _
    · have := q 0 ds
      rw [upd_self hL] at this
      exact this
end

section
variable {P : Program} {w : World} {K : PySem.W.Frag} {mg : Str → Option Value} {base : Heap}
/-! ### _law_draws -/
def spDraws (K : PySem.W.Frag) : Sp := fun vs H Q _ => ∃ (a : Addr) (ns : List Int), vs = [.ref a] ∧ SqL K H a (ns.map V.int) ∧ ns.length ≤ 63 ∧
  ∀ H' r (ds : List Int), Same H H' → H r = none → H' r = some (.lst (ds.map V.int)) → Q (.ref r) H'
theorem ok_draws {f : Addr} {fd : FuncData} {a_law_number : Addr} {fd_law_number : FuncData} (F : Fun K "_law_draws" "_law_draws" s_law_draws f fd) (z_range : mg "range" = none) (z_int : mg "int" = none)
    (G_law_number : FnOk P w K mg base CX0 1 a_law_number fd_law_number ["cell"] spPlain) (g_law_number : mg "_law_number" = some (.ref a_law_number)) (k_law_number : PySem.W.keepIn K (.ref a_law_number) = true) (b_law_number : Binds K fd_law_number ["cell"] []) :
    FnOk P w K mg base CX0 2 f fd ["script"] (spDraws K) := by
  refine F.ok sc_law_draws (fun vs H Q E h => ?_) (fun cdv A outer s H vs Q E hr h => ?_)
  · obtain ⟨n, _, rfl, _⟩ := h
    rfl
  · obtain ⟨a, ns, rfl, hS, hlen, q⟩ := h
    refine ⟨_, (pss_cons (ps_set (i := 1) sc_law_draws.nd rfl (.inl rfl) (pe_lst pa_nil))
  (pss_cons (ps_for PassesOwn.never rfl (pi_list (pv 0)) (pg_name (i := 2) sc_law_draws.nd rfl (.inl rfl)) (pss_cons (ps_set (i := 3) sc_law_draws.nd rfl (.inl rfl) (pe_call G_law_number (hr.mono (by decide)) rfl g_law_number k_law_number b_law_number .nil pass0 (pa_cons (pv 2) pa_nil)))
  (pss_one (ps_if (pt_cmpR op_ge (pv 3) pe_int (nomark _)) (pss_one (ps_for PassesOwn.never rfl (pi_range1 rfl z_range (pa_cons pe_int pa_nil)) (pg_name (i := 4) sc_law_draws.nd rfl (.inl rfl)) (pss_cons (ps_if (pt_cmpR op_eq (pv 3) pe_int (nomark _)) (pss_one ps_break) pss_nil)
  (pss_cons (ps_expr (pe_bm PySem.F.plainAttrs_list PySem.F.slot_list_append PySem.F.type_list_append mt_append (pv 1) (pa_cons (pe_op op_mod (pe_callTy call_int1 (by rfl) z_int boot_int (pa_cons (pv 3) pa_nil)) pe_int) pa_nil)))
  (pss_one (ps_set (i := 3) sc_law_draws.nd rfl (.inl rfl) (pe_op op_fdiv (pv 3) pe_int))))))) (pss_cons (ps_set (i := 5) sc_law_draws.nd rfl (.inl rfl) (pe_op op_mod (pe_callTy call_int1 (by rfl) z_int boot_int (pa_cons (pe_op op_add (pe_op op_mul (pv 3) pe_int) pe_int) pa_nil)) pe_int))
  (pss_cons (ps_set (i := 6) sc_law_draws.nd rfl (.inl rfl) (pe_op op_mod (pe_callTy call_int1 (by rfl) z_int boot_int (pa_cons (pe_op op_add (pe_op op_mul (pv 5) pe_int) (pv 3)) pa_nil)) pe_int))
  (pss_one (ps_expr (pe_bm PySem.F.plainAttrs_list PySem.F.slot_list_extend PySem.F.type_list_extend mt_extend (pv 1) (pa_cons (pe_lst (pa_cons (pe_op op_mod (pe_callTy call_int1 (by rfl) z_int boot_int (pa_cons (pv 3) pa_nil)) pe_int) (pa_cons (pe_op op_mod (pe_callTy call_int1 (by rfl) z_int boot_int (pa_cons (pv 5) pa_nil)) pe_int) (pa_cons (pe_op op_mod (pe_callTy call_int1 (by rfl) z_int boot_int (pa_cons (pv 6) pa_nil)) pe_int) pa_nil)))) pa_nil))))))))))
  (pss_one (ps_ret (pv 1)))))
    , ?_⟩
    refine ⟨Nat.zero_le _, fun o no => ?_⟩
    have s1 : Same H (upd H o (.lst [])) := same_upd no
    refine ⟨.ref a, rfl, a, rfl, ⟨_, s1.seq hS⟩, for_list (K := K) (a := a) (xs := ns.map V.int) (fun i σ H' => ∃ v2 v3 v4 v5 v6 ds, σ = [some (.ref a), some (.ref o), v2, v3, v4, v5, v6] ∧ Same H H' ∧ H' o = some (.lst (ds.map V.int)) ∧ ds.length ≤ 60 * i)
      ⟨none, none, none, none, none, [], rfl, s1, upd_same, Nat.le_refl _⟩ (fun i σ H' _ ⟨_, _, _, _, _, _, _, sm, _⟩ => sm.seq hS) ?_ ?_⟩
    · rintro i y σ H1 hi ⟨v2, v3, v4, v5, v6, ds, rfl, sm, hL, hl⟩
      have hi63 : i < 63 := by
        have := (List.getElem?_eq_some_iff.mp hi).1
        rw [List.length_map] at this
        omega
      obtain ⟨z, hz, rfl⟩ := map_int_get hi
      refine ⟨_, rfl, z, rfl, ?_⟩
      generalize hr0 : (if z < 0 then -z else z) = r0
      have h0 : 0 ≤ r0 := by
        subst hr0
        split <;> omega
      refine ⟨_, rfl, _, _, rfl, rfl, _, rfl, ite2 (fun e => ?_) (fun e => ?_)⟩
      · refine ⟨60, rfl, by decide, by decide, for_range (lo := 0) (n := 60) (fun j σ H' => ∃ r v4 ds', σ = [some (.ref a), some (.ref o), some (.int z), some (.int r), v4, v5, v6] ∧ 0 ≤ r ∧ Same H H' ∧ H' o = some (.lst (ds'.map V.int)) ∧ ds'.length ≤ 60 * i + j)
          ⟨r0, v4, ds, rfl, h0, sm, hL, hl⟩ ?_ ?_⟩
        · rintro j σ H2 hj ⟨r, v4', ds', rfl, hr0', sm2, hL2, hl2⟩
          refine ⟨_, rfl, rfl, _, rfl, ite2 (fun e1 => ?_) (fun e1 => ?_)⟩
          · exact ⟨_, _, _, _, _, ds', rfl, sm2, hL2, by omega⟩
          · refine ⟨.ref o, rfl, .inl ⟨rfl, _, .inl (.inl hL2)⟩, .int r, rfl, .inl ⟨r, rfl, r, 1000, rfl, rfl, (show (0:Int) < 1000 by decide), o, _, _, rfl, rfl, hL2, ?_, ?_⟩⟩
            · rw [List.length_map]
              exact small_of (by omega)
            · refine ⟨_, rfl, r, 1000, rfl, rfl, ⟨by decide, by decide⟩, ?_⟩
              refine ⟨r / 1000, _, ds' ++ [r % 1000], rfl, by omega, Same.mut sm2 no, ?_, ?_⟩
              · rw [upd_same, List.map_append]
                rfl
              · rw [List.length_append]
                show ds'.length + 1 ≤ _
                omega
        · rintro σ H2 ⟨r, v4', ds', rfl, hr0', sm2, hL2, hl2⟩
          exact ⟨_, _, _, _, _, ds', rfl, sm2, hL2, by omega⟩
      · have c1 : CMul r0 48271 := .inr ⟨by decide, by decide⟩
        refine ⟨.int r0, rfl, r0, 48271, rfl, rfl, c1, _, 11, rfl, rfl, .inl ⟨_, rfl, _, 2147483647, rfl, rfl, (show (0:Int) < 2147483647 by decide), ?_⟩⟩
        have c2 : ∀ x : Int, CMul x 69621 := fun _ => .inr ⟨by decide, by decide⟩
        refine ⟨_, rfl, _, 69621, rfl, rfl, c2 _, .int r0, rfl, _, r0, rfl, rfl, .inl ⟨_, rfl, _, 2147483629, rfl, rfl, (show (0:Int) < 2147483629 by decide), ?_⟩⟩
        have p1000 : (0:Int) < 1000 := by decide
        refine ⟨.ref o, rfl, .inl ⟨rfl, _, .inl (.inl hL)⟩, ?_⟩
        refine ⟨.int r0, rfl, .inl ⟨r0, rfl, r0, 1000, rfl, rfl, p1000, _, rfl, .inl ⟨_, rfl, _, 1000, rfl, rfl, p1000, _, rfl, .inl ⟨_, rfl, _, 1000, rfl, rfl, p1000, ?_⟩⟩⟩⟩
        refine ⟨(by show 3 ≤ sizeLine; decide), fun c nc => ?_⟩
        have hoc : o ≠ c := ne_of_none hL nc
        refine ⟨o, c, ds.map V.int, _, rfl, rfl, ?_, upd_same, ?_, ?_⟩
        · rw [upd_ne hoc]
          exact hL
        · rw [List.length_map]
          exact Nat.le_of_lt (small_of (show ds.length + 3 ≤ 100000 by omega))
        · refine ⟨_, _, _, _, _, ds ++ [r0 % 1000, (r0 * 48271 + 11) % 2147483647 % 1000, ((r0 * 48271 + 11) % 2147483647 * 69621 + r0) % 2147483629 % 1000], rfl, Same.mut (Same.trans sm (same_upd nc)) no, ?_, ?_⟩
          · rw [upd_same, List.map_append]
            rfl
          · rw [List.length_append]
            show ds.length + 3 ≤ _
            omega
    · rintro σ H1 ⟨v2, v3, v4, v5, v6, ds, rfl, sm, hL, hl⟩
      exact ⟨_, rfl, q H1 o ds sm no hL⟩
end

theorem sqL_same {K : PySem.W.Frag} {H H' : Hp} {a : Addr} {xs : List V} (e : Same H H') (h : SqL K H a xs) : SqL K H' a xs := by
  rcases h with (h | ⟨o, h⟩) | h
  · exact .inl (.inl (e _ _ h))
  · exact .inl (.inr ⟨o, e _ _ h⟩)
  · exact .inr h
theorem none_back {H H' : Hp} {a : Addr} (s : Same H H') (h : H' a = none) : H a = none := by
  cases e : H a with
  | none => rfl
  | some o =>
    rw [s _ _ e] at h
    exact nomatch h

/-- a tuple of these integers -/
def TP (H : Hp) (v : V) (z : List Int) : Prop := ∃ t, v = .ref t ∧ H t = some (.tup (z.map V.int))
theorem TP.same {H H' : Hp} {v : V} {z : List Int} (s : Same H H') (h : TP H v z) : TP H' v z := by
  obtain ⟨t, rfl, h⟩ := h
  exact ⟨t, rfl, s _ _ h⟩
def dT (z : List Int) : PyData := .tuple (z.map PyData.int)
theorem ints_dp {K : PySem.W.Frag} {H : Hp} : ∀ z : List Int, DpAll K H (z.map V.int) (z.map PyData.int)
  | [] => .nil
  | a :: r => .cons (.int a) (ints_dp r)
theorem TP.dp {K : PySem.W.Frag} {H : Hp} {v : V} {z : List Int} (h : TP H v z) : Dp K H v (dT z) := by
  obtain ⟨t, rfl, h⟩ := h
  exact .tup (.inl (.inl h)) (ints_dp z)
theorem tps_dp {K : PySem.W.Frag} {H : Hp} : ∀ {vs : List V} {zs : List (List Int)}, Paired (TP H) vs zs → DpAll K H vs (zs.map dT)
  | _, _, .nil => .nil
  | _, _, .cons a b => .cons a.dp (tps_dp b)
theorem paired_add {α β : Type} {F : α → β → Prop} {a : α} {b : β} (h : F a b) : ∀ {l : List α} {m : List β}, Paired F l m → Paired F (l ++ [a]) (m ++ [b])
  | _, _, .nil => .cons h .nil
  | _, _, .cons x y => .cons x (paired_add h y)
theorem dT_small {z : List Int} (h : ∀ k, (co z k).natAbs < 2 ^ 200) : SmL 1 (1923 * z.length + 3) (dT z) := by
  have e := smL_tuple (ds := z.map PyData.int) (n := 0) (k := 1921) fun D hD => by
    obtain ⟨a, ha, rfl⟩ := List.mem_map.mp hD
    obtain ⟨i, hi, rfl⟩ := List.mem_iff_getElem.mp ha
    have e1 := co_get hi
    rw [List.getElem?_eq_getElem hi] at e1
    rw [Option.some.inj e1]
    exact smL_int (h i)
  rw [List.length_map] at e
  exact e
theorem SmL.more {n k k' : Nat} {D : PyData} (h : SmL n k D) (hk : k ≤ k') : SmL n k' D := by
  obtain ⟨h1, h2, h3, h4⟩ := h
  exact ⟨h1, h2, h3, Nat.le_trans h4 hk⟩
theorem repT {α : Type} (x : α) : ∀ n : Nat, (List.replicate n [x]).flatten = List.replicate n x
  | 0 => rfl
  | n + 1 => by rw [List.replicate_succ, List.flatten_cons, repT x n, List.replicate_succ]; rfl
def rCatB (K : PySem.W.Frag) : R2 := fun x y H Q => ∃ a b xs ys, x = .ref a ∧ y = .ref b ∧ SqT K H a xs ∧ SqT K H b ys ∧ xs.length + ys.length ≤ sizeLine ∧ ∀ p H', Same H H' → SqT K H' p (xs ++ ys) → Q (.ref p) H'
theorem op_catB {X : Cx} : OpR X (binaryOp .Add) (rCatB X.K) := by
  intro pins s σ H x y v u Q I rx ry h
  obtain ⟨a, b, xs, ys, rfl, rfl, ha, hb, hz, q⟩ := h
  refine op_catA pins s σ H _ _ v u Q I rx ry ⟨a, b, xs, ys, rfl, rfl, ha, hb, hz, fun e => ?_, fun _ e => ?_, fun _ _ p np => ?_⟩
  · exact q b H (Same.refl _) (by rw [e, List.nil_append]; exact hb)
  · exact q a H (Same.refl _) (by rw [e, List.append_nil]; exact ha)
  · exact q p _ (same_upd np) (.inl (.inl upd_same))
theorem sqT_butL {K : PySem.W.Frag} {H H' : Hp} {r a : Addr} {xs ys : List V} (hr : H r = some (.lst ys)) (e : SameBut r H H') (h : SqT K H a xs) : SqT K H' a xs := by
  rcases h with (h | ⟨o, h⟩) | h
  · exact .inl (.inl (e _ _ (ne_of h hr (fun z => nomatch z)) h))
  · exact .inl (.inr ⟨o, e _ _ (ne_of h hr (fun z => nomatch z)) h⟩)
  · exact .inr h
theorem eqvAll_ints : ∀ x y : List Int, PyData.eqvAll (x.map PyData.int) (y.map PyData.int) = decide (x = y)
  | [], [] => by simp [PyData.eqvAll]
  | [], _ :: _ => by simp [PyData.eqvAll]
  | _ :: _, [] => by simp [PyData.eqvAll]
  | a :: x, b :: y => by
    rw [List.map_cons, List.map_cons]
    simp only [PyData.eqvAll, PyData.eqv, eqvAll_ints x y]
    by_cases h1 : a = b
    · by_cases h2 : x = y
      · simp [h1, h2]
      · simp [h2]
    · simp [h1]
theorem eqv_dT (x y : List Int) : PyData.eqv (dT x) (dT y) = decide (x = y) := by
  unfold dT
  simp only [PyData.eqv, eqvAll_ints]
theorem lay_ints : ∀ x : List Int, PyData.canLayAll0 (x.map PyData.int) = true ∧ PyData.depthAll (x.map PyData.int) = 0
  | [] => ⟨by simp [PyData.canLayAll0], by simp [PyData.depthAll]⟩
  | a :: x => by
    obtain ⟨h1, h2⟩ := lay_ints x
    exact ⟨by simp [PyData.canLayAll0, PyData.canLay0, h1], by simp [PyData.depthAll, PyData.depth, h2]⟩
theorem dT_shaped (x : List Int) : SeqAt.shaped (dT x) = true := by
  obtain ⟨h1, h2⟩ := lay_ints x
  show (PyData.canLay0 (dT x) && decide (PyData.depth (dT x) ≤ 64)) = true
  unfold dT
  rw [show PyData.canLay0 (.tuple (x.map PyData.int)) = true by simp [PyData.canLay0, h1], show PyData.depth (.tuple (x.map PyData.int)) = 1 by simp [PyData.depth, h2]]
  rfl
theorem eqD_TP {K : PySem.W.Frag} {H : Hp} {u v : V} {x y : List Int} {Q : VK} (hx : TP H u x) (hy : TP H v y) (q : Q (.bl (decide (x = y))) H) : rEqD K u v H Q :=
  ⟨_, _, hx.dp, hy.dp, dT_shaped x, dT_shaped y, by rw [eqv_dT]; exact q⟩
theorem neD_TP {K : PySem.W.Frag} {H : Hp} {u v : V} {x y : List Int} {Q : VK} (hx : TP H u x) (hy : TP H v y) (q : Q (.bl (!decide (x = y))) H) : rNeD K u v H Q :=
  ⟨_, _, hx.dp, hy.dp, dT_shaped x, dT_shaped y, by rw [eqv_dT]; exact q⟩
def rRepB (K : PySem.W.Frag) : R2 := fun x y H Q => ∃ l k xs, x = .ref l ∧ y = .int k ∧ SqT K H l xs ∧ xs ≠ [] ∧ 0 ≤ k ∧ k ≤ 1000 ∧ xs.length ≤ 1000 ∧ ∀ p H', Same H H' → SqT K H' p (List.replicate k.toNat xs).flatten → Q (.ref p) H'
theorem op_repB {X : Cx} : OpR X (binaryOp .Mult) (rRepB X.K) := by
  intro pins s σ H x y v u Q I rx ry h
  obtain ⟨l, k, xs, rfl, rfl, hT, hne, h1, h2, hz, q⟩ := h
  refine op_repA pins s σ H _ _ v u Q I rx ry ⟨l, k, xs, rfl, rfl, hT, hne, h1, h2, hz, fun e => ?_, fun _ p np => ?_⟩
  · refine q l H (Same.refl _) ?_
    rw [e, show (1 : Int).toNat = 1 from rfl]
    simpa using hT
  · exact q p _ (same_upd np) (.inl (.inl upd_same))
theorem ix_tupK {X : Cx} {K : PySem.W.Frag} (hK : X.K = K) : IxR X (rIxT K) := by
  subst hK
  exact ix_tup
theorem ix_listK {X : Cx} {K : PySem.W.Frag} (hK : X.K = K) : IxR X (rIxL K) := by
  subst hK
  exact ix_list
theorem ite_same {x : V} {A B : Prop} (h : B) : if (!decide (x = x)) = true then A else B := by
  rw [decide_eq_true rfl]
  exact iteF h
theorem pi_tupK {X : Cx} {K : PySem.W.Frag} {tg e : Expr} {te : TE} (hK : X.K = K) (he : PE X e te) : PI X tg e (iTup K te) := by
  subst hK
  exact pi_tup he
theorem call_list_ofK {X : Cx} {K : PySem.W.Frag} (hK : X.K = K) : CallR X (.type "list") (fun xs H Q => ∃ p ys, xs = [.ref p] ∧ (SqL K H p ys ∨ SqT K H p ys) ∧ ∀ l, H l = none → Q (.ref l) (upd H l (.lst ys))) := by
  subst hK
  exact call_list_of
theorem op_eqDK {X : Cx} {K : PySem.W.Frag} (hK : X.K = K) (hu : X.A.units + 64 < cLine) : OpR X (compareOp .Eq) (rEqD K) := by
  subst hK
  exact op_eqD hu

/-! ### marks and blocks -/
def seenL : List Int → List Int → List Int
  | acc, [] => acc
  | acc, x :: l => seenL (if x ∈ acc then acc else acc ++ [x]) l
def ixs (N : Nat) : List Int := (List.range N).map fun (i : Nat) => (i : Int)
def posOf (marks : List Int) (v : Int) : List Int := ((List.range marks.length).filter fun i => decide (co marks i = v)).map fun (i : Nat) => (i : Int)
def blocksOf (marks : List Int) : List (List Int) := (seenL [] marks).map (posOf marks)
theorem seenL_snoc : ∀ (l acc : List Int) (x : Int), seenL acc (l ++ [x]) = if x ∈ seenL acc l then seenL acc l else seenL acc l ++ [x]
  | [], acc, x => rfl
  | y :: l, acc, x => by
    show seenL _ (l ++ [x]) = _
    rw [seenL_snoc l _ x]
    rfl
theorem seenL_sub : ∀ (l acc : List Int) (x : Int), x ∈ acc → x ∈ seenL acc l
  | [], _, _, h => h
  | y :: l, acc, x, h => by
    show x ∈ seenL _ l
    refine seenL_sub l _ x ?_
    split
    · exact h
    · exact List.mem_append_left _ h
theorem seenL_mem : ∀ (l acc : List Int) (x : Int), x ∈ seenL acc l ↔ x ∈ acc ∨ x ∈ l
  | [], acc, x => by
    show x ∈ acc ↔ _
    simp
  | y :: l, acc, x => by
    show x ∈ seenL _ l ↔ _
    rw [seenL_mem l _ x]
    by_cases c : y ∈ acc
    · rw [if_pos c, List.mem_cons]
      constructor
      · rintro (h | h)
        · exact .inl h
        · exact .inr (.inr h)
      · rintro (h | rfl | h)
        · exact .inl h
        · exact .inl c
        · exact .inr h
    · rw [if_neg c, List.mem_cons, List.mem_append, List.mem_singleton, or_assoc]
theorem seenL_nodup : ∀ (l acc : List Int), acc.Nodup → (seenL acc l).Nodup
  | [], _, h => h
  | y :: l, acc, h => by
    refine seenL_nodup l _ ?_
    split
    · exact h
    · rename_i c
      refine List.nodup_append.mpr ⟨h, by simp, fun a ha b hb => ?_⟩
      rw [List.mem_singleton.mp hb]
      exact fun z => c (z ▸ ha)
theorem seenL_len : ∀ (l acc : List Int), (seenL acc l).length ≤ acc.length + l.length
  | [], _ => Nat.le_refl _
  | y :: l, acc => by
    have h := seenL_len l (if y ∈ acc then acc else acc ++ [y])
    show (seenL _ l).length ≤ _
    rw [List.length_cons]
    split at h
    · rename_i c
      rw [if_pos c]
      omega
    · rename_i c
      rw [if_neg c]
      rw [List.length_append] at h
      have : [y].length = 1 := rfl
      omega
/-- equal marks alone count -/
theorem seenL_map {g : Int → Int} : ∀ (l acc : List Int), (∀ x ∈ acc ++ l, ∀ y ∈ acc ++ l, g x = g y → x = y) → seenL (acc.map g) (l.map g) = (seenL acc l).map g
  | [], _, _ => rfl
  | y :: l, acc, h => by
    show seenL (if g y ∈ acc.map g then acc.map g else acc.map g ++ [g y]) (l.map g) = (seenL (if y ∈ acc then acc else acc ++ [y]) l).map g
    by_cases c : y ∈ acc
    · rw [if_pos c, if_pos (List.mem_map_of_mem c)]
      refine seenL_map l acc fun a ha b hb => h a ?_ b ?_
      · rcases List.mem_append.mp ha with z | z
        · exact List.mem_append_left _ z
        · exact List.mem_append_right _ (List.mem_cons_of_mem _ z)
      · rcases List.mem_append.mp hb with z | z
        · exact List.mem_append_left _ z
        · exact List.mem_append_right _ (List.mem_cons_of_mem _ z)
    · have c2 : g y ∉ acc.map g := fun z => by
        obtain ⟨a, ha, e⟩ := List.mem_map.mp z
        exact c (h a (List.mem_append_left _ ha) y (List.mem_append_right _ List.mem_cons_self) e ▸ ha)
      rw [if_neg c, if_neg c2, show acc.map g ++ [g y] = (acc ++ [y]).map g by rw [List.map_append]; rfl]
      refine seenL_map l (acc ++ [y]) fun a ha b hb => h a ?_ b ?_
      · rwa [List.append_assoc] at ha
      · rwa [List.append_assoc] at hb
theorem co_mapI (g : Int → Int) (l : List Int) {i : Nat} (h : i < l.length) : co (l.map g) i = g (co l i) := by
  have e := co_get (l := l.map g) (k := i) (by rw [List.length_map]; exact h)
  rw [List.getElem?_map, co_get h] at e
  exact (Option.some.inj e).symm
theorem posOf_map {g : Int → Int} {marks : List Int} {v : Int} (hv : v ∈ marks) (h : ∀ x ∈ marks, ∀ y ∈ marks, g x = g y → x = y) : posOf (marks.map g) (g v) = posOf marks v := by
  unfold posOf
  rw [List.length_map]
  congr 1
  refine List.filter_congr fun i hi => ?_
  have hi' := List.mem_range.mp hi
  rw [co_mapI g marks hi']
  by_cases c : co marks i = v
  · rw [decide_eq_true c, decide_eq_true (congrArg g c)]
  · rw [decide_eq_false c, decide_eq_false (fun z => c (h _ (co_mem hi') _ hv z))]
theorem blocksOf_map {g : Int → Int} {marks : List Int} (h : ∀ x ∈ marks, ∀ y ∈ marks, g x = g y → x = y) : blocksOf (marks.map g) = blocksOf marks := by
  unfold blocksOf
  rw [show ([] : List Int) = ([] : List Int).map g from rfl, seenL_map marks [] (by rw [List.nil_append]; exact h), List.map_map]
  refine List.map_congr_left fun v hv => ?_
  rcases (seenL_mem marks [] v).mp hv with z | z
  · exact nomatch z
  · exact posOf_map z h
/-! a partition -/
theorem perm_split (p : Nat → Bool) : ∀ l : List Nat, (l.filter p ++ l.filter fun x => !p x).Perm l := fun l => List.filter_append_perm p l
theorem part_perm {f : Nat → Int} : ∀ (vs : List Int) (l : List Nat), vs.Nodup → (∀ x ∈ l, f x ∈ vs) → ((vs.map fun v => l.filter fun i => decide (f i = v)).flatten).Perm l
  | [], l, _, h => by
    have : l = [] := List.eq_nil_iff_forall_not_mem.mpr fun x hx => nomatch h x hx
    rw [this]
    exact .refl _
  | v :: vs, l, nd, h => by
    rw [List.map_cons, List.flatten_cons]
    obtain ⟨nv, nd'⟩ := List.nodup_cons.mp nd
    have ih := part_perm (f := f) vs (l.filter fun i => !decide (f i = v)) nd' fun x hx => by
      obtain ⟨h1, h2⟩ := List.mem_filter.mp hx
      rcases List.mem_cons.mp (h x h1) with e | e
      · rw [decide_eq_true e] at h2
        exact nomatch h2
      · exact e
    have e : (vs.map fun v' => (l.filter fun i => !decide (f i = v)).filter fun i => decide (f i = v')) = vs.map fun v' => l.filter fun i => decide (f i = v') := by
      refine List.map_congr_left fun v' hv' => ?_
      rw [List.filter_filter]
      refine List.filter_congr fun i _ => ?_
      by_cases c : f i = v'
      · have c2 : f i ≠ v := fun z => nv (by rw [← z, c]; exact hv')
        rw [decide_eq_true c, decide_eq_false c2]
        rfl
      · rw [decide_eq_false c]
        rfl
    rw [e] at ih
    exact (List.Perm.append_left _ ih).trans (perm_split _ l)
theorem mem_posOf {marks : List Int} {v x : Int} : x ∈ posOf marks v ↔ ∃ i : Nat, x = (i : Int) ∧ i < marks.length ∧ co marks i = v := by
  unfold posOf
  rw [List.mem_map]
  constructor
  · rintro ⟨i, hi, rfl⟩
    obtain ⟨h1, h2⟩ := List.mem_filter.mp hi
    exact ⟨i, rfl, List.mem_range.mp h1, of_decide_eq_true h2⟩
  · rintro ⟨i, rfl, h1, h2⟩
    exact ⟨i, List.mem_filter.mpr ⟨List.mem_range.mpr h1, decide_eq_true h2⟩, rfl⟩
theorem mem_get {l : List Int} {v : Int} (h : v ∈ l) : ∃ i, i < l.length ∧ co l i = v := by
  obtain ⟨i, hi, e⟩ := List.mem_iff_getElem.mp h
  refine ⟨i, hi, ?_⟩
  have e1 := co_get hi
  rw [List.getElem?_eq_getElem hi] at e1
  rw [← Option.some.inj e1]
  exact e
theorem blocks_perm (marks : List Int) : (blocksOf marks).flatten.Perm (ixs marks.length) := by
  unfold blocksOf ixs
  have h := part_perm (f := co marks) (seenL [] marks) (List.range marks.length) (seenL_nodup marks [] List.nodup_nil) fun x hx => (seenL_mem marks [] _).mpr (.inr (co_mem (List.mem_range.mp hx)))
  have e : ((seenL [] marks).map (posOf marks)).flatten = (((seenL [] marks).map fun v => (List.range marks.length).filter fun i => decide (co marks i = v)).flatten).map fun (i : Nat) => (i : Int) := by
    rw [List.map_flatten, List.map_map]
    rfl
  rw [e]
  exact h.map _
theorem blocks_ne {marks : List Int} : ∀ b ∈ blocksOf marks, b ≠ [] := fun b hb => by
  obtain ⟨v, hv, rfl⟩ := List.mem_map.mp hb
  rcases (seenL_mem marks [] v).mp hv with z | z
  · exact nomatch z
  · obtain ⟨i, hi, e⟩ := mem_get z
    intro c
    have : (i : Int) ∈ posOf marks v := mem_posOf.mpr ⟨i, rfl, hi, e⟩
    rw [c] at this
    exact nomatch this
theorem range_lt (n : Nat) : (List.range n).Pairwise (· < ·) := List.pairwise_lt_range
theorem posOf_asc (marks : List Int) (v : Int) : (posOf marks v).Pairwise (· < ·) := by
  unfold posOf
  exact List.pairwise_map.mpr ((List.Pairwise.filter _ (range_lt _)).imp fun {a b} h => by omega)
theorem head_ix (p : Nat → Bool) {i : Nat} (h0 : ∀ j, j < i → p j = false) (h1 : p i = true) : ∀ N, (N ≤ i → (List.range N).filter p = []) ∧ (i < N → ((List.range N).filter p)[0]? = some i)
  | 0 => ⟨fun _ => rfl, fun h => absurd h (Nat.not_lt_zero _)⟩
  | N + 1 => by
    obtain ⟨a, b⟩ := head_ix p h0 h1 N
    rw [List.range_succ, List.filter_append]
    refine ⟨fun h => ?_, fun h => ?_⟩
    · rw [a (by omega), List.filter_cons, h0 N (by omega)]
      rfl
    · by_cases c : N = i
      · rw [a (by omega), List.filter_cons, c, h1]
        rfl
      · have h2 := b (by omega)
        rw [List.getElem?_append_left (List.getElem?_eq_some_iff.mp h2).1]
        exact h2
theorem posOf_head {marks : List Int} {i : Nat} (hi : i < marks.length) (h : co marks i ∉ marks.take i) : co (posOf marks (co marks i)) 0 = (i : Int) := by
  have h2 := (head_ix (fun j => decide (co marks j = co marks i)) (i := i) (fun j hj => decide_eq_false fun z => h ?_) (decide_eq_true rfl) marks.length).2 hi
  · unfold posOf co
    rw [List.getD_eq_getElem?_getD, List.getElem?_map]
    show ((((List.range marks.length).filter fun j => decide (co marks j = co marks i))[0]?).map fun (i : Nat) => (i : Int)).getD 0 = _
    rw [h2]
    rfl
  · rw [← z]
    have e : (marks.take i)[j]? = some (co marks j) := by rw [List.getElem?_take_of_lt hj, co_get (by omega)]
    exact List.mem_of_getElem? e
theorem take_snoc {l : List Int} {i : Nat} (h : i < l.length) : l.take (i + 1) = l.take i ++ [co l i] := by
  rw [List.take_succ, co_get h]
  rfl
theorem heads_run (marks : List Int) : ∀ i, i ≤ marks.length → ((seenL [] (marks.take i)).map fun v => co (posOf marks v) 0).Pairwise (· < ·) ∧ ∀ v ∈ seenL [] (marks.take i), co (posOf marks v) 0 < (i : Int)
  | 0, _ => ⟨.nil, fun v hv => nomatch hv⟩
  | i + 1, h => by
    obtain ⟨h1, h2⟩ := heads_run marks i (by omega)
    rw [take_snoc (by omega), seenL_snoc]
    by_cases c : co marks i ∈ seenL [] (marks.take i)
    · rw [if_pos c]
      exact ⟨h1, fun v hv => by have := h2 v hv; omega⟩
    · rw [if_neg c]
      have hd := posOf_head (marks := marks) (i := i) (by omega) fun z => c ((seenL_mem _ _ _).mpr (.inr z))
      refine ⟨?_, fun v hv => ?_⟩
      · rw [List.map_append]
        refine List.pairwise_append.mpr ⟨h1, List.pairwise_singleton _ _, fun a ha b hb => ?_⟩
        obtain ⟨v, hv, rfl⟩ := List.mem_map.mp ha
        obtain ⟨u, hu, rfl⟩ := List.mem_map.mp hb
        rw [List.mem_singleton.mp hu, hd]
        exact h2 v hv
      · rcases List.mem_append.mp hv with hv | hv
        · have := h2 v hv
          omega
        · rw [List.mem_singleton.mp hv, hd]
          omega
theorem blocks_heads (marks : List Int) : ((blocksOf marks).map fun b => co b 0).Pairwise (· < ·) := by
  have h := (heads_run marks marks.length (Nat.le_refl _)).1
  rw [List.take_length] at h
  unfold blocksOf
  rw [List.map_map]
  exact h
/-! labels -/
def labFrom : List (List Int) → Nat → List Int → List Int
  | [], _, ms => ms
  | b :: bs, k, ms => labFrom bs (k + 1) (b.foldl (fun ms p => ms.set p.toNat (k : Int)) ms)
def labL (bs : List (List Int)) (N : Nat) : List Int := labFrom bs 0 (List.replicate N 0)
theorem fold_len (k : Int) : ∀ (b ms : List Int), (b.foldl (fun ms p => ms.set p.toNat k) ms).length = ms.length
  | [], _ => rfl
  | p :: b, ms => by
    show (b.foldl _ (ms.set p.toNat k)).length = _
    rw [fold_len k b, List.length_set]
theorem fold_co (k : Int) {i : Nat} : ∀ (b ms : List Int), (∀ p ∈ b, 0 ≤ p ∧ p < ms.length) → co (b.foldl (fun ms p => ms.set p.toNat k) ms) i = if (i : Int) ∈ b then k else co ms i
  | [], _, _ => rfl
  | p :: b, ms, h => by
    show co (b.foldl _ (ms.set p.toNat k)) i = _
    obtain ⟨h1, h2⟩ := h p List.mem_cons_self
    rw [fold_co k b (ms.set p.toNat k) fun q hq => by rw [List.length_set]; exact h q (List.mem_cons_of_mem _ hq), co_set i (by omega)]
    by_cases c : (i : Int) ∈ b
    · rw [if_pos c, if_pos (List.mem_cons_of_mem _ c)]
    · rw [if_neg c]
      by_cases c2 : i = p.toNat
      · rw [if_pos c2, if_pos (List.mem_cons.mpr (.inl (by omega)))]
      · rw [if_neg c2, if_neg]
        intro z
        rcases List.mem_cons.mp z with z | z
        · omega
        · exact c z
theorem labFrom_len : ∀ (bs : List (List Int)) (k : Nat) (ms : List Int), (labFrom bs k ms).length = ms.length
  | [], _, _ => rfl
  | b :: bs, k, ms => by
    show (labFrom bs (k + 1) _).length = _
    rw [labFrom_len bs, fold_len]
theorem labL_len (bs : List (List Int)) (N : Nat) : (labL bs N).length = N := by
  unfold labL
  rw [labFrom_len, List.length_replicate]
theorem labFrom_co {marks : List Int} {i : Nat} (hi : i < marks.length) : ∀ (vs : List Int) (k : Nat) (ms : List Int), vs.Nodup → ms.length = marks.length → co (labFrom (vs.map (posOf marks)) k ms) i = if co marks i ∈ vs then ((k + vs.idxOf (co marks i) : Nat) : Int) else co ms i
  | [], _, _, _, _ => rfl
  | v :: vs, k, ms, nd, hl => by
    obtain ⟨nv, nd'⟩ := List.nodup_cons.mp nd
    show co (labFrom (vs.map (posOf marks)) (k + 1) _) i = _
    rw [labFrom_co hi vs (k + 1) _ nd' (by rw [fold_len, hl]), fold_co (k : Int) (posOf marks v) ms fun p hp => by
      obtain ⟨j, rfl, hj, _⟩ := mem_posOf.mp hp
      omega]
    have e : ((i : Int) ∈ posOf marks v) ↔ co marks i = v := by
      rw [mem_posOf]
      exact ⟨fun ⟨j, e, _, h⟩ => by rw [show i = j by omega]; exact h, fun h => ⟨i, rfl, hi, h⟩⟩
    by_cases c : co marks i = v
    · rw [if_neg (by rw [c]; exact nv), if_pos (e.mpr c), if_pos (List.mem_cons.mpr (.inl c)), c, List.idxOf_cons_self]
      rfl
    · rw [if_neg (fun z => c (e.mp z))]
      by_cases c2 : co marks i ∈ vs
      · rw [if_pos c2, if_pos (List.mem_cons_of_mem _ c2), List.idxOf_cons, cond_eq_ite, if_neg (by simpa using Ne.symm c)]
        congr 1
        omega
      · rw [if_neg c2, if_neg fun z => (List.mem_cons.mp z).elim c c2]
theorem labL_marks (marks : List Int) : labL (blocksOf marks) marks.length = marks.map fun v => (((seenL [] marks).idxOf v : Nat) : Int) := by
  refine List.ext_getElem? fun i => ?_
  have l1 := labL_len (blocksOf marks) marks.length
  rcases Nat.lt_or_ge i marks.length with c | c
  · rw [co_get (by omega), List.getElem?_map, co_get c]
    unfold labL blocksOf
    rw [labFrom_co c (seenL [] marks) 0 _ (seenL_nodup marks [] List.nodup_nil) List.length_replicate, if_pos ((seenL_mem marks [] _).mpr (.inr (co_mem c))), Nat.zero_add]
    rfl
  · rw [List.getElem?_eq_none (by omega), List.getElem?_eq_none (by rw [List.length_map]; exact c)]
theorem idx_inj {l : List Int} {x y : Int} (hx : x ∈ l) (hy : y ∈ l) (h : (((l.idxOf x : Nat) : Int)) = ((l.idxOf y : Nat) : Int)) : x = y := by
  have h' : l.idxOf x = l.idxOf y := by omega
  have e1 := List.getElem_idxOf (List.idxOf_lt_length_of_mem hx)
  have e2 := List.getElem_idxOf (List.idxOf_lt_length_of_mem hy)
  rw [← e1, ← e2]
  congr 1
theorem blocks_lab (marks : List Int) : blocksOf (labL (blocksOf marks) marks.length) = blocksOf marks := by
  rw [labL_marks]
  exact blocksOf_map fun x hx y hy h => idx_inj ((seenL_mem marks [] x).mpr (.inr hx)) ((seenL_mem marks [] y).mpr (.inr hy)) h

def siz (n m : Int) : Bool := decide (0 ≤ n ∧ n ≤ 8 ∧ 0 ≤ m ∧ m ≤ 8 ∧ n + m ≤ 12)
theorem cr_sortedITK {X : Cx} {K : PySem.W.Frag} (hK : X.K = K) : CallR X (.builtin "sorted") (rSortedIT K) := by
  subst hK
  exact cr_sortedIT
theorem outer_it {J : It} {n : Nat} {G : Hp → Prop} {Y : Nat → Hp → V → Hp → Prop} (w : Walk J n G Y) {B : V → Hp → (Hp → Prop) → Prop} {H0 : Hp} {Qd : Hp → Prop} (Pv : Nat → Hp → Prop) (h0 : Pv 0 H0) (hG : ∀ i H, i ≤ n → Pv i H → G H)
    (hs : ∀ i x H H', i < n → Pv i H → Y i H x H' → B x H' (Pv (i + 1))) (hd : ∀ H, Pv n H → Qd H) :
    ∃ W : Nat → Nat → Hp → Prop, (∃ m, W 0 m H0) ∧ ∀ i m H, W i m H → (J.stop i H ∧ Qd H) ∨ (J.go i H ∧ ∃ Nx : Hp → Prop, (∀ H', Nx H' → ∃ m', m' < m ∧ W (i + 1) m' H') ∧ ∀ x H', J.yld i H x H' → B x H' Nx) := by
  refine ⟨fun i m H => m = n - i ∧ i ≤ n ∧ Pv i H, ⟨n, by simp, Nat.zero_le _, h0⟩, ?_⟩
  rintro i m H ⟨rfl, hi, p⟩
  have q := hG i H hi p
  by_cases hlt : i < n
  · refine .inr ⟨w.goes i H hlt q, Pv (i + 1), fun H' p' => ⟨n - (i + 1), by omega, rfl, hlt, p'⟩, fun x H' y => hs i x H H' hlt p (w.yields i H x H' hlt q y)⟩
  · have e : i = n := by omega
    subst e
    exact .inl ⟨w.stops H q, hd H p⟩
/-- a tuple of tuples of integers; a diagram -/
def TT (H : Hp) (v : V) (bs : List (List Int)) : Prop := ∃ tb ts, v = .ref tb ∧ H tb = some (.tup ts) ∧ Paired (TP H) ts bs
def DGv (H : Hp) (v : V) (n m : Int) (bs : List (List Int)) : Prop := ∃ t vb, v = .ref t ∧ H t = some (.tup [.int n, .int m, vb]) ∧ TT H vb bs
theorem TT.same {H H' : Hp} {v : V} {bs : List (List Int)} (s : Same H H') (h : TT H v bs) : TT H' v bs := by
  obtain ⟨tb, ts, rfl, h, pr⟩ := h
  exact ⟨tb, ts, rfl, s _ _ h, Paired.mapP pr fun _ _ h => h.same s⟩
theorem DGv.same {H H' : Hp} {v : V} {n m : Int} {bs : List (List Int)} (s : Same H H') (h : DGv H v n m bs) : DGv H' v n m bs := by
  obtain ⟨t, vb, rfl, h, tt⟩ := h
  exact ⟨t, vb, rfl, s _ _ h, tt.same s⟩
def dTT (bs : List (List Int)) : PyData := .tuple (bs.map dT)
def dDG (n m : Int) (bs : List (List Int)) : PyData := .tuple [.int n, .int m, dTT bs]
theorem TT.dp {K : PySem.W.Frag} {H : Hp} {v : V} {bs : List (List Int)} (h : TT H v bs) : Dp K H v (dTT bs) := by
  obtain ⟨tb, ts, rfl, h, pr⟩ := h
  exact .tup (.inl (.inl h)) (tps_dp pr)
theorem DGv.dp {K : PySem.W.Frag} {H : Hp} {v : V} {n m : Int} {bs : List (List Int)} (h : DGv H v n m bs) : Dp K H v (dDG n m bs) := by
  obtain ⟨t, vb, rfl, h, tt⟩ := h
  exact .tup (.inl (.inl h)) (.cons (.int n) (.cons (.int m) (.cons tt.dp .nil)))
theorem lay_dTs : ∀ bs : List (List Int), PyData.canLayAll0 (bs.map dT) = true ∧ PyData.depthAll (bs.map dT) ≤ 1
  | [] => ⟨by simp [PyData.canLayAll0], by simp [PyData.depthAll]⟩
  | b :: bs => by
    obtain ⟨h1, h2⟩ := lay_dTs bs
    obtain ⟨h3, h4⟩ := lay_ints b
    have e1 : PyData.canLay0 (dT b) = true := by simp [dT, PyData.canLay0, h3]
    have e2 : PyData.depth (dT b) = 1 := by simp [dT, PyData.depth, h4]
    refine ⟨by simp [PyData.canLayAll0, e1, h1], ?_⟩
    simp only [List.map_cons, PyData.depthAll, e2]
    omega
theorem dTT_lay (bs : List (List Int)) : PyData.canLay0 (dTT bs) = true ∧ PyData.depth (dTT bs) ≤ 2 := by
  obtain ⟨h1, h2⟩ := lay_dTs bs
  exact ⟨by simp [dTT, PyData.canLay0, h1], by simp only [dTT, PyData.depth]; omega⟩
theorem dDG_lay (n m : Int) (bs : List (List Int)) : PyData.canLay0 (dDG n m bs) = true ∧ PyData.depth (dDG n m bs) ≤ 3 := by
  obtain ⟨h1, h2⟩ := dTT_lay bs
  exact ⟨by simp [dDG, PyData.canLay0, PyData.canLayAll0, h1], by simp only [dDG, PyData.depth, PyData.depthAll]; omega⟩
theorem dTT_shaped (bs : List (List Int)) : SeqAt.shaped (dTT bs) = true := by
  obtain ⟨h1, h2⟩ := dTT_lay bs
  show (PyData.canLay0 (dTT bs) && decide (PyData.depth (dTT bs) ≤ 64)) = true
  rw [h1, decide_eq_true (by omega)]
  rfl
theorem dDG_shaped (n m : Int) (bs : List (List Int)) : SeqAt.shaped (dDG n m bs) = true := by
  obtain ⟨h1, h2⟩ := dDG_lay n m bs
  show (PyData.canLay0 (dDG n m bs) && decide (PyData.depth (dDG n m bs) ≤ 64)) = true
  rw [h1, decide_eq_true (by omega)]
  rfl
/-- lists of integers -/
def dL (z : List Int) : PyData := .list (z.map PyData.int)
def LP (H : Hp) (v : V) (z : List Int) : Prop := ∃ t, v = .ref t ∧ H t = some (.lst (z.map V.int))
theorem LP.dp {K : PySem.W.Frag} {H : Hp} {v : V} {z : List Int} (h : LP H v z) : Dp K H v (dL z) := by
  obtain ⟨t, rfl, h⟩ := h
  exact .lst (.inl (.inl h)) (ints_dp z)
theorem LP.same {H H' : Hp} {v : V} {z : List Int} (s : Same H H') (h : LP H v z) : LP H' v z := by
  obtain ⟨t, rfl, h⟩ := h
  exact ⟨t, rfl, s _ _ h⟩
theorem dL_shaped (x : List Int) : SeqAt.shaped (dL x) = true := by
  obtain ⟨h1, h2⟩ := lay_ints x
  show (PyData.canLay0 (dL x) && decide (PyData.depth (dL x) ≤ 64)) = true
  unfold dL
  rw [show PyData.canLay0 (.list (x.map PyData.int)) = true by simp [PyData.canLay0, h1], show PyData.depth (.list (x.map PyData.int)) = 1 by simp [PyData.depth, h2]]
  rfl
theorem eqv_dL (x y : List Int) : PyData.eqv (dL x) (dL y) = decide (x = y) := by
  unfold dL
  simp only [PyData.eqv, eqvAll_ints]
theorem eqD_LP {K : PySem.W.Frag} {H : Hp} {u v : V} {x y : List Int} {Q : VK} (hx : LP H u x) (hy : LP H v y) (q : Q (.bl (decide (x = y))) H) : rEqD K u v H Q :=
  ⟨_, _, hx.dp, hy.dp, dL_shaped x, dL_shaped y, by rw [eqv_dL]; exact q⟩
theorem neD_LP {K : PySem.W.Frag} {H : Hp} {u v : V} {x y : List Int} {Q : VK} (hx : LP H u x) (hy : LP H v y) (q : Q (.bl (!decide (x = y))) H) : rNeD K u v H Q :=
  ⟨_, _, hx.dp, hy.dp, dL_shaped x, dL_shaped y, by rw [eqv_dL]; exact q⟩
theorem tt_get {H : Hp} {ts : List V} {bs : List (List Int)} (pr : Paired (TP H) ts bs) {i : Nat} {y : V} (h : ts[i]? = some y) : ∃ b, bs[i]? = some b ∧ TP H y b := by
  induction pr generalizing i with
  | nil => exact nomatch h
  | cons r t ih =>
    cases i with
    | zero =>
      obtain rfl := Option.some.inj h
      exact ⟨_, rfl, r⟩
    | succ i => exact ih h
theorem rgV_ixs {a : Int} (h : 0 ≤ a) : rgV 0 a = (ixs a.toNat).map V.int := by
  unfold rgV ixs
  rw [List.map_map, Int.sub_zero]
  refine List.map_congr_left fun i _ => ?_
  show V.int (0 + (i : Nat)) = V.int (i : Int)
  rw [Int.zero_add]
theorem ixs_len (N : Nat) : (ixs N).length = N := by
  unfold ixs
  rw [List.length_map, List.length_range]
theorem ixs_asc (N : Nat) : (ixs N).Pairwise (· ≤ ·) := by
  unfold ixs
  exact List.pairwise_map.mpr ((range_lt N).imp fun {a b} h => by omega)
theorem sorted_same {a b : List Int} (hp : a.Perm b) (ha : a.Pairwise (· ≤ ·)) (hb : b.Pairwise (· ≤ ·)) : a = b := hp.eq_of_pairwise (fun x y _ _ h1 h2 => Int.le_antisymm h1 h2) ha hb
structure IsDg (n m : Int) (bs : List (List Int)) : Prop where
  sz : siz n m = true
  ne : ∀ b ∈ bs, b ≠ []
  pm : bs.flatten.Perm (ixs (n + m).toNat)
  asc : ∀ b ∈ bs, b.Pairwise (· ≤ ·)
  hd : (bs.map fun b => co b 0).Pairwise (· ≤ ·)
theorem siz_iff {n m : Int} : siz n m = true ↔ (0 ≤ n ∧ n ≤ 8 ∧ 0 ≤ m ∧ m ≤ 8 ∧ n + m ≤ 12) := by
  unfold siz
  exact decide_eq_true_iff
theorem isDg_blocks {n m : Int} {marks : List Int} (h : siz n m = true) (hl : (marks.length : Int) = n + m) : IsDg n m (blocksOf marks) := by
  have hs := siz_iff.mp h
  refine ⟨h, blocks_ne, ?_, fun b hb => ?_, (blocks_heads marks).imp fun {a b} h => by omega⟩
  · have := blocks_perm marks
    rwa [show marks.length = (n + m).toNat by omega] at this
  · obtain ⟨v, _, rfl⟩ := List.mem_map.mp hb
    exact (posOf_asc marks v).imp fun {a b} h => by omega

section
variable {P : Program} {w : World} {K : PySem.W.Frag} {mg : Str → Option Value} {base : Heap}
/-! ### _is_size, _check_size -/
def spIsSize : Sp := fun vs H Q _ => ∃ n m : Int, vs = [.int n, .int m] ∧ Q (.bl (siz n m)) H
theorem ok_is_size_ {f : Addr} {fd : FuncData} {t8 t12 : Tok} (F : Fun K "_is_size" "_is_size" s_is_size_ f fd) (m_MOST_ON_A_SIDE : mg "MOST_ON_A_SIDE" = some (.int 8 t8)) (m_MOST_POINTS : mg "MOST_POINTS" = some (.int 12 t12)) : FnOk P w K mg base CX0 1 f fd ["n", "m"] spIsSize := by
  have r_MOST_ON_A_SIDE : RelV (.int 8) (.int 8 t8) := ⟨_, rfl⟩
  have r_MOST_POINTS : RelV (.int 12) (.int 12 t12) := ⟨_, rfl⟩
  refine F.ok sc_is_size_ (fun vs H Q E h => ?_) (fun cdv A outer s H vs Q E hr h => ?_)
  · obtain ⟨n, m, rfl, _⟩ := h
    rfl
  · obtain ⟨n, m, rfl, q⟩ := h
    refine ⟨_, (pss_one (ps_ret (pe_and (pe_chain op_le op_le pe_int (pv 0) (pe_glob rfl m_MOST_ON_A_SIDE r_MOST_ON_A_SIDE)) (pe_and (pe_chain op_le op_le pe_int (pv 1) (pe_glob rfl m_MOST_ON_A_SIDE r_MOST_ON_A_SIDE)) (pe_one (pe_cmpR op_le (pe_op op_add (pv 0) (pv 1)) (pe_glob rfl m_MOST_POINTS r_MOST_POINTS) (nomark _))))))), ?_⟩
    unfold siz at q
    refine ⟨_, rfl, _, _, rfl, rfl, _, rfl, ?_⟩
    by_cases c0 : 0 ≤ n
    · rw [decide_eq_true c0]
      refine iteT ⟨_, _, rfl, rfl, _, rfl, ?_⟩
      by_cases c1 : n ≤ 8
      · rw [decide_eq_true c1]
        refine iteT ⟨_, rfl, _, _, rfl, rfl, _, rfl, ?_⟩
        by_cases c2 : 0 ≤ m
        · rw [decide_eq_true c2]
          refine iteT ⟨_, _, rfl, rfl, _, rfl, ?_⟩
          by_cases c3 : m ≤ 8
          · rw [decide_eq_true c3]
            refine iteT ⟨_, rfl, _, rfl, _, _, rfl, rfl, _, _, rfl, rfl, ?_⟩
            rwa [show decide (0 ≤ n ∧ n ≤ 8 ∧ 0 ≤ m ∧ m ≤ 8 ∧ n + m ≤ 12) = decide (n + m ≤ 12) from decide_eq_decide.mpr ⟨fun z => z.2.2.2.2, fun z => ⟨c0, c1, c2, c3, z⟩⟩] at q
          · rw [decide_eq_false c3]
            rw [decide_eq_false fun z => c3 z.2.2.2.1] at q
            exact iteF q
        · rw [decide_eq_false c2]
          rw [decide_eq_false fun z => c2 z.2.2.1] at q
          exact iteF ⟨_, rfl, iteF q⟩
      · rw [decide_eq_false c1]
        rw [decide_eq_false fun z => c1 z.2.1] at q
        exact iteF q
    · rw [decide_eq_false c0]
      rw [decide_eq_false fun z => c0 z.1] at q
      exact iteF ⟨_, rfl, iteF q⟩
end

theorem any_nil (bs : List (List Int)) : ((bs.map dT).any fun z => PyData.eqv z (dT [])) = bs.any fun b => decide (b = []) := by
  rw [List.any_map]
  congr 1
  funext b
  exact eqv_dT b []
theorem flat_take {bs : List (List Int)} {i : Nat} {b : List Int} (h : bs[i]? = some b) : (bs.take (i + 1)).flatten = (bs.take i).flatten ++ b := by
  rw [List.take_succ, h, List.flatten_append]
  show _ ++ (b ++ []) = _
  rw [List.append_nil]
theorem mem_len {bs : List (List Int)} {b : List Int} (h : b ∈ bs) : b.length ≤ bs.flatten.length := by
  induction bs with
  | nil => exact nomatch h
  | cons c bs ih =>
    rw [List.flatten_cons, List.length_append]
    rcases List.mem_cons.mp h with rfl | h
    · omega
    · have := ih h
      omega
section
variable {P : Program} {w : World} {K : PySem.W.Frag} {mg : Str → Option Value} {base : Heap}
/-! ### is_diagram -/
def DgOk (n m : Int) (bs : List (List Int)) : Prop := n.natAbs ≤ 1000 ∧ m.natAbs ≤ 1000 ∧ bs.length ≤ 1000 ∧ bs.flatten.length ≤ 10000
def spIsDiagram : Sp := fun vs H Q _ => ∃ (v : V) (n m : Int) (bs : List (List Int)), vs = [v] ∧ DGv H v n m bs ∧ DgOk n m bs ∧ ∀ H', Same H H' → (IsDg n m bs → Q (.bl true) H') ∧ (¬ IsDg n m bs → Q (.bl false) H')
theorem ok_is_diagram {f a_is_size_ : Addr} {fd fd_is_size_ : FuncData} (F : Fun K "is_diagram" "is_diagram" s_is_diagram f fd) (z_len : mg "len" = none) (z_list : mg "list" = none) (z_range : mg "range" = none) (z_sorted : mg "sorted" = none) (z_all : mg "all" = none)
    (G_is_size_ : FnOk P w K mg base CX0 1 a_is_size_ fd_is_size_ ["n", "m"] spIsSize) (g_is_size_ : mg "_is_size" = some (.ref a_is_size_)) (k_is_size_ : PySem.W.keepIn K (.ref a_is_size_) = true) (b_is_size_ : Binds K fd_is_size_ ["n", "m"] []) : FnOk P w K mg base CX0 2 f fd ["diagram"] spIsDiagram := by
  refine F.ok sc_is_diagram (fun vs H Q E h => ?_) (fun cdv A outer s H vs Q E hr h => ?_)
  · obtain ⟨v, n, m, bs, rfl, _⟩ := h
    rfl
  · obtain ⟨v, n, m, bs, rfl, hv, ⟨bn, bm, bl, bf⟩, q⟩ := h
    refine ⟨_, (pss_cons (ps_if (pt_cmpR op_ne (pe_callB call_len_seq (by rfl) z_len boot_len (pa_cons (pv 0) pa_nil)) pe_int (nomark _)) (pss_one (ps_ret pe_bl)) pss_nil)
  (pss_cons (ps_asg (pv 0) (pg_tup rfl (pgs_cons (pg_name (i := 1) sc_is_diagram.nd rfl (.inl rfl)) (pgs_cons (pg_name (i := 2) sc_is_diagram.nd rfl (.inl rfl)) (pgs_cons (pg_name (i := 3) sc_is_diagram.nd rfl (.inl rfl)) pgs_nil)))))
  (pss_cons (ps_if (L2.PW.pt (pw_or (pt_not (pt_val (pe_call G_is_size_ (hr.mono (by decide)) rfl g_is_size_ k_is_size_ b_is_size_ .nil pass0 (pa_cons (pv 1) (pa_cons (pv 2) pa_nil))))) (pw_or1 (pt_cmpR (op_inDT (room65 hr)) (pe_tup pa_nil) (pv 3) (by with_unfolding_all rfl))))) (pss_one (ps_ret pe_bl)) pss_nil)
  (pss_cons (ps_setLc2 (i := 4) (own := [("block", 6), ("point", 7)]) (vs1 := [7]) rfl sc_is_diagram.nd rfl rfl (sw_true rfl rfl rfl (by decide +kernel)) (pi_tup (pv 3)) (blkOk_by (N := ["diagram", "n", "m", "blocks", "points", "firsts", "block", "point"]) (sc := defScope s_is_diagram) (by decide +kernel)) (by decide) (fun _ _ _ _ _ => (pg_name (i := 6) sc_is_diagram.nd rfl (.inl rfl))) (fun _ _ _ _ _ => pts_nil) (fun _ _ _ _ _ => ((pi_tupK (K := K) rfl) (pv 6))) (fun _ _ _ _ _ => (pg_name (i := 7) sc_is_diagram.nd rfl (.inl rfl))) (fun _ _ _ _ _ => pts_nil) (fun _ _ _ _ _ => (pv 7)))
  (pss_cons (ps_if (pt_cmpR (op_neD (room64 hr)) (pe_callB cr_sortedI (by rfl) z_sorted boot_sorted (pa_cons (pv 4) pa_nil)) (pe_listRg rfl rfl z_list (prg_1 rfl z_range (pe_op op_add (pv 1) (pv 2)))) (nomark _)) (pss_one (ps_ret pe_bl)) pss_nil)
  (pss_cons (ps_if (pt_not (pt_val (pe_callB (cr_all rfl) (by rfl) z_all boot_all (pa_cons (pe_lc (own := [("block", 6)]) rfl sc_is_diagram.nd (pi_tup (pv 3)) (blkOk_by (N := ["diagram", "n", "m", "blocks", "points", "firsts", "block", "point"]) (sc := defScope s_is_diagram) (by first | decide +kernel | rfl)) (fun _ _ _ _ _ => (pg_name (i := 6) sc_is_diagram.nd rfl (.inl rfl))) (fun _ _ _ _ _ => pts_nil) (fun _ _ _ _ _ => (pe_cmpR (op_eqDK (K := K) rfl (room64 hr)) (pe_callTy (call_list_ofK (K := K) rfl) (by rfl) z_list boot_list (pa_cons (pv 6) pa_nil)) (pe_callB (cr_sortedITK (K := K) rfl) (by rfl) z_sorted boot_sorted (pa_cons (pv 6) pa_nil)) (nomark _)))) pa_nil)))) (pss_one (ps_ret pe_bl)) pss_nil)
  (pss_cons (ps_setLc (i := 5) (own := [("block", 6)]) rfl sc_is_diagram.nd rfl rfl (sw_true rfl rfl rfl (by decide +kernel)) (pi_tup (pv 3)) (blkOk_by (N := ["diagram", "n", "m", "blocks", "points", "firsts", "block", "point"]) (sc := defScope s_is_diagram) (by first | decide +kernel | rfl)) (fun _ _ _ _ _ => (pg_name (i := 6) sc_is_diagram.nd rfl (.inl rfl))) (fun _ _ _ _ _ => pts_nil) (fun _ _ _ _ _ => (pe_ix (ix_tupK (K := K) rfl) (pv 6) pe_int (fun _ _ => rfl))))
  (pss_one (ps_ret (pe_cmpR (op_eqD (room64 hr)) (pv 5) (pe_callB cr_sortedI (by rfl) z_sorted boot_sorted (pa_cons (pv 5) pa_nil)) (nomark _))))))))))), ?_⟩
    have szl : 20000 ≤ sizeLine := by decide
    obtain ⟨t, vb, rfl, ht, tb, ts, rfl, htb, pr⟩ := hv
    have lts : ts.length = bs.length := pr.length
    refine ⟨_, rfl, t, _, rfl, .inr (.inl (.inl ht)), rfl, _, rfl, ite_same ?_⟩
    refine ⟨_, rfl, t, _, rfl, .inl (.inl ht), rfl, _, _, rfl, _, _, rfl, _, _, rfl, rfl, ?_⟩
    refine ⟨_, rfl, _, rfl, n, m, rfl, _, rfl, ?_⟩
    by_cases cs : siz n m = true
    · rw [cs]
      refine iteF ?_
      have hs := siz_iff.mp cs
      refine ⟨(by show 0 ≤ sizeLine; decide), fun e0 ne0 => ?_⟩
      have s0 : Same H (upd H e0 (.tup [])) := same_upd ne0
      have tt : TT (upd H e0 (.tup [])) (.ref tb) bs := TT.same s0 ⟨tb, ts, rfl, htb, pr⟩
      refine ⟨_, rfl, dT [], bs.map dT, .tup (.inl (.inl upd_same)) .nil, tt.dp, dT_shaped [], dTT_shaped bs, _, rfl, ?_⟩
      rw [any_nil]
      have htb1 : upd H e0 (.tup []) tb = some (.tup ts) := s0 _ _ htb
      have pr1 : Paired (TP (upd H e0 (.tup []))) ts bs := Paired.mapP pr fun _ _ h => h.same s0
      revert s0 htb1 pr1
      generalize upd H e0 (.tup []) = H1
      intro s0 htb1 pr1
      clear tt htb pr
      by_cases cn : (bs.any fun b => decide (b = [])) = true
      · rw [cn]
        refine iteT ((q H1 s0).2 fun z => ?_)
        obtain ⟨b, hb, e⟩ := List.any_eq_true.mp cn
        exact z.ne b hb (of_decide_eq_true e)
      rw [Bool.not_eq_true _ |>.mp cn]
      refine iteF ?_
      have ne : ∀ b ∈ bs, b ≠ [] := fun b hb z => cn (List.any_eq_true.mpr ⟨b, hb, decide_eq_true z⟩)
      -- points
      refine ⟨_, rfl, tb, rfl, ⟨_, .inl (.inl htb1)⟩, fun D nD => ?_⟩
      have keepD : ∀ {H' : Hp} {a : Addr} {o : HO}, SameBut D H1 H' → H1 a = some o → H' a = some o := fun sb e => sb _ _ (ne_of_none e nD) e
      refine outer_it walk_tup (fun i H' => SameBut D H1 H' ∧ H' D = some (.lst ((bs.take i).flatten.map V.int))) ⟨SameBut.upd, upd_same⟩ (fun i H' _ hP => .inl (.inl (keepD hP.1 htb1))) (fun i y H2 H3 hi hP hy => ?_) (fun H2 hP => ?_)
      · obtain ⟨sb, hD⟩ := hP
        obtain ⟨e0, hy⟩ := hy
        subst e0
        obtain ⟨b, eb, a, rfl, ha⟩ := tt_get pr1 hy
        have mb := List.mem_of_getElem? eb
        have lb := mem_len mb
        refine ⟨rfl, ?_⟩
        refine ⟨_, rfl, a, rfl, ⟨_, .inl (.inl (keepD sb ha))⟩, outer_it walk_tup (fun j H' => SameBut D H1 H' ∧ H' D = some (.lst (((bs.take i).flatten ++ b.take j).map V.int))) ⟨sb, by rw [List.take_zero, List.append_nil]; exact hD⟩ (fun j H' _ hP => .inl (.inl (keepD hP.1 ha))) (fun j z H4 H5 hj hP hz => ?_) (fun H4 hP => ?_)⟩
        · obtain ⟨sb, hD⟩ := hP
          obtain ⟨e0, hz⟩ := hz
          subst e0
          rw [List.length_map] at hj
          have ez : (b.map V.int)[j]? = some (.int (co b j)) := by rw [List.getElem?_map, co_get hj]; rfl
          obtain rfl : V.int (co b j) = z := Option.some.inj (ez.symm.trans hz)
          refine ⟨rfl, ?_⟩
          refine ⟨_, rfl, _, hD, ?_, sb.trans SameBut.upd, ?_⟩
          · rw [List.length_map, List.length_append, List.length_take]
            have : (bs.take i).flatten.length ≤ bs.flatten.length := by
              have e : (bs.take i ++ bs.drop i).flatten.length = bs.flatten.length := congrArg (fun l : List (List Int) => l.flatten.length) (List.take_append_drop i bs)
              rw [List.flatten_append, List.length_append] at e
              omega
            omega
          · rw [upd_same, take_snoc hj, ← List.append_assoc, List.map_append (l₂ := [co b j])]
            rfl
        · obtain ⟨sb, hD⟩ := hP
          rw [List.length_map, List.take_length] at hD
          exact ⟨sb, by rw [flat_take eb]; exact hD⟩
      obtain ⟨sb2, hD⟩ := hP
      rw [lts, List.take_length] at hD
      have s2 : Same H1 H2 := fun b o e => keepD sb2 e
      -- sorted
      refine ⟨_, rfl, D, bs.flatten, rfl, .inl (.inl hD), fun ns' p1 pm1 srt1 np1 => ?_⟩
      refine ⟨_, rfl, _, rfl, _, _, rfl, rfl, n + m, rfl, RgOk.of_le (by decide) (by omega) (by decide) (by omega), fun p2 np2 => ?_⟩
      rw [rgV_ixs (by omega)]
      have s3 : Same H2 (upd (upd H2 p1 (.lst (ns'.map V.int))) p2 (.lst ((ixs (n + m).toNat).map V.int))) := Same.trans (same_upd np1) (same_upd np2)
      refine neD_LP (x := ns') (y := ixs (n + m).toNat) ⟨p1, rfl, same_upd np2 _ _ upd_same⟩ ⟨p2, rfl, upd_same⟩ ⟨_, rfl, ?_⟩
      have s13 := Same.trans s0 (Same.trans s2 s3)
      have htb4 := s3 _ _ (s2 _ _ htb1)
      have pr4 := Paired.mapP pr1 fun _ _ h => (TP.same s2 h).same s3
      revert s13 htb4 pr4
      generalize upd (upd H2 p1 (.lst (ns'.map V.int))) p2 (.lst ((ixs (n + m).toNat).map V.int)) = H4
      intro s13 htb4 pr4
      clear s3 s2 hD sb2 keepD nD np1 np2
      by_cases cp : ns' = ixs (n + m).toNat
      · rw [decide_eq_true cp]
        refine iteF ?_
        have pm : bs.flatten.Perm (ixs (n + m).toNat) := cp ▸ pm1.symm
        -- blocks
        refine ⟨_, rfl, tb, rfl, ⟨_, .inl (.inl htb4)⟩, fun D5 nD5 => ?_⟩
        have keep5 : ∀ {H' : Hp} {a : Addr} {o : HO}, SameBut D5 H4 H' → H4 a = some o → H' a = some o := fun sb e => sb _ _ (ne_of_none e nD5) e
        refine lc_it walk_tup (fun i H' => SameBut D5 H4 H' ∧ H' D5 = some (.lst (((bs.take i).map fun b => decide (b.Pairwise (· ≤ ·))).map V.bl))) ⟨SameBut.upd, upd_same⟩ (fun i H' _ hP => .inl (.inl (keep5 hP.1 htb4))) (fun i y H5 H6 hi hP hy => ?_) (fun H5 hP => ?_)
        · obtain ⟨sb, hD⟩ := hP
          obtain ⟨e0, hy⟩ := hy
          subst e0
          obtain ⟨b, eb, a, rfl, ha⟩ := tt_get pr4 hy
          refine ⟨rfl, ?_⟩
          have ha5 := keep5 sb ha
          refine ⟨_, rfl, a, _, rfl, .inr (.inl (.inl ha5)), fun l1 nl1 => ?_⟩
          refine ⟨_, rfl, a, b, rfl, .inl (.inl (same_upd nl1 _ _ ha5)), fun ns p pm srt np => ?_⟩
          refine eqD_LP (x := b) (y := ns) ⟨l1, rfl, same_upd np _ _ upd_same⟩ ⟨p, rfl, upd_same⟩ ?_
          have sN := Same.trans (same_upd (o := .lst (b.map V.int)) nl1) (same_upd (o := .lst (ns.map V.int)) np)
          have e : decide (b = ns) = decide (b.Pairwise (· ≤ ·)) := decide_eq_decide.mpr ⟨fun z => by rw [z]; exact srt, fun z => sorted_same pm.symm z srt⟩
          refine ⟨_, sN _ _ hD, by rw [List.length_map, List.length_map, List.length_take]; omega, (sb.trans (Same.but sN)).trans SameBut.upd, ?_⟩
          rw [upd_same, List.take_succ, eb, e, List.map_append, List.map_append]
          rfl
        obtain ⟨sb5, hD5⟩ := hP
        rw [lts, List.take_length] at hD5
        have s5 : Same H4 H5 := fun b o e => keep5 sb5 e
        refine ⟨D5, _, rfl, .inl (.inl hD5), _, rfl, ?_⟩
        have htb5 := s5 _ _ htb4
        have pr5 := Paired.mapP pr4 fun _ _ h => TP.same s5 h
        have s15 := Same.trans s13 s5
        by_cases ca : ((bs.map fun b => decide (b.Pairwise (· ≤ ·))).all id) = true
        · rw [ca]
          refine iteF ?_
          have asc : ∀ b ∈ bs, b.Pairwise (· ≤ ·) := fun b hb => of_decide_eq_true (List.all_eq_true.mp ca _ (List.mem_map_of_mem hb))
          -- firsts
          refine ⟨_, rfl, tb, rfl, ⟨_, .inl (.inl htb5)⟩, fun D6 nD6 => ?_⟩
          have keep6 : ∀ {H' : Hp} {a : Addr} {o : HO}, SameBut D6 H5 H' → H5 a = some o → H' a = some o := fun sb e => sb _ _ (ne_of_none e nD6) e
          refine lc_it walk_tup (fun i H' => SameBut D6 H5 H' ∧ H' D6 = some (.lst (((bs.take i).map fun b => co b 0).map V.int))) ⟨SameBut.upd, upd_same⟩ (fun i H' _ hP => .inl (.inl (keep6 hP.1 htb5))) (fun i y H6 H7 hi hP hy => ?_) (fun H6 hP => ?_)
          · obtain ⟨sb, hD⟩ := hP
            obtain ⟨e0, hy⟩ := hy
            subst e0
            obtain ⟨b, eb, a, rfl, ha⟩ := tt_get pr5 hy
            have nb := List.length_pos_iff.mpr (ne b (List.mem_of_getElem? eb))
            refine ⟨rfl, ?_⟩
            refine ⟨_, rfl, a, _, 0, _, rfl, rfl, .inl (.inl (keep6 sb ha)), at_co nb, _, hD, by rw [List.length_map, List.length_map, List.length_take]; omega, sb.trans SameBut.upd, ?_⟩
            rw [upd_same, List.take_succ, eb, List.map_append, List.map_append]
            rfl
          obtain ⟨sb6, hD6⟩ := hP
          rw [lts, List.take_length] at hD6
          have s6 : Same H5 H6 := fun b o e => keep6 sb6 e
          refine ⟨_, rfl, _, rfl, D6, _, rfl, .inl (.inl hD6), fun ns p pm6 srt np => ?_⟩
          refine eqD_LP (x := bs.map fun b => co b 0) (y := ns) ⟨D6, rfl, same_upd np _ _ hD6⟩ ⟨p, rfl, upd_same⟩ ?_
          obtain ⟨qt, qf⟩ := q _ (Same.trans s15 (Same.trans s6 (same_upd np)))
          by_cases ch : (bs.map fun b => co b 0) = ns
          · rw [decide_eq_true ch]
            exact qt ⟨cs, ne, pm, asc, ch ▸ srt⟩
          · rw [decide_eq_false ch]
            exact qf fun z => ch (sorted_same pm6.symm z.hd srt)
        · rw [Bool.not_eq_true _ |>.mp ca]
          refine iteT ((q H5 s15).2 fun z => ca (List.all_eq_true.mpr fun c hc => ?_))
          obtain ⟨b, hb, rfl⟩ := List.mem_map.mp hc
          exact decide_eq_true (z.asc b hb)
      · rw [decide_eq_false cp]
        exact iteT ((q H4 s13).2 fun z => cp (sorted_same (pm1.trans z.pm) srt1 (ixs_asc _)))
    · rw [Bool.not_eq_true _ |>.mp cs]
      exact iteT ((q H (Same.refl _)).2 fun z => cs z.sz)
end

section
variable {P : Program} {w : World} {K : PySem.W.Frag} {mg : Str → Option Value} {base : Heap}
/-! ### check_diagram, labels -/
def spCheckDiagram (CD : Addr) : Sp := fun vs H Q E => ∃ (v : V) (n m : Int) (bs : List (List Int)), vs = [v] ∧ DGv H v n m bs ∧ DgOk n m bs ∧ ∀ H', Same H H' → (IsDg n m bs → Q .non H') ∧ (¬ IsDg n m bs → E (.ref CD) none H')
theorem ok_check_diagram {f CD a_is_diagram : Addr} {fd fd_is_diagram : FuncData} (F : Fun K "check_diagram" "check_diagram" s_check_diagram f fd) (T : ErrC K mg "NotDiagram" CD)
    (G_is_diagram : FnOk P w K mg base CX0 2 a_is_diagram fd_is_diagram ["diagram"] spIsDiagram) (g_is_diagram : mg "is_diagram" = some (.ref a_is_diagram)) (k_is_diagram : PySem.W.keepIn K (.ref a_is_diagram) = true) (b_is_diagram : Binds K fd_is_diagram ["diagram"] []) :
    FnOk P w K mg base (L2N.CX P w) 3 f fd ["diagram"] (spCheckDiagram CD) := by
  obtain ⟨gc_NotDiagram, x_NotDiagram, kc_NotDiagram, bc_NotDiagram, tc_NotDiagram⟩ := T
  refine F.okXN sc_check_diagram (fun vs H Q E h => ?_) (fun cdv A outer s H vs Q E hr h => ?_)
  · obtain ⟨v, n, m, bs, rfl, _⟩ := h
    rfl
  · obtain ⟨v, n, m, bs, rfl, hv, hb, q⟩ := h
    refine ⟨_, (pss_one (ps_if (pt_not (pt_val (pe_call G_is_diagram (hr.mono (by decide)) rfl g_is_diagram k_is_diagram b_is_diagram .nil pass0 (pa_cons (pv 0) pa_nil)))) (pss_one (L2N.ps_raise rfl (L2N.takes_of rfl rfl rfl rfl) (L2N.pmk_own PySem.F.excBase_ValueError x_NotDiagram gc_NotDiagram kc_NotDiagram (raises_own bc_NotDiagram tc_NotDiagram) rfl))) pss_nil)), ?_⟩
    exact ⟨_, rfl, v, n, m, bs, rfl, hv, hb, fun H' s' => ⟨fun h => ⟨_, rfl, iteF ((q H' s').1 h)⟩, fun h => ⟨_, rfl, iteT ((q H' s').2 h)⟩⟩⟩
end
def labN (bs : List (List Int)) (i : Nat) (N : Nat) : List Int := labFrom (bs.take i) 0 (List.replicate N 0)
theorem labFrom_snoc : ∀ (bs : List (List Int)) (b : List Int) (k : Nat) (ms : List Int), labFrom (bs ++ [b]) k ms = b.foldl (fun ms p => ms.set p.toNat ((k + bs.length : Nat) : Int)) (labFrom bs k ms)
  | [], b, k, ms => rfl
  | c :: bs, b, k, ms => by
    show labFrom (bs ++ [b]) (k + 1) _ = _
    rw [labFrom_snoc bs b (k + 1), show k + 1 + bs.length = k + (c :: bs).length by rw [List.length_cons]; omega]
    rfl
theorem fold_take {k : Int} {b ms : List Int} {j : Nat} (h : j < b.length) : (b.take (j + 1)).foldl (fun ms p => ms.set p.toNat k) ms = ((b.take j).foldl (fun ms p => ms.set p.toNat k) ms).set (co b j).toNat k := by
  rw [take_snoc h, List.foldl_append]
  rfl
theorem dg_pt {n m : Int} {bs : List (List Int)} (h : IsDg n m bs) {b : List Int} (hb : b ∈ bs) {p : Int} (hp : p ∈ b) : 0 ≤ p ∧ p < n + m := by
  have h1 := h.pm.mem_iff.mp (List.mem_flatten.mpr ⟨b, hb, hp⟩)
  obtain ⟨i, hi, rfl⟩ := List.mem_map.mp h1
  have := List.mem_range.mp hi
  omega

section
variable {P : Program} {w : World} {K : PySem.W.Frag} {mg : Str → Option Value} {base : Heap}
def spLabels (CD : Addr) : Sp := fun vs H Q E => ∃ (v : V) (n m : Int) (bs : List (List Int)), vs = [v] ∧ DGv H v n m bs ∧ DgOk n m bs ∧ (¬ IsDg n m bs → ∀ H', Same H H' → E (.ref CD) none H') ∧
  (IsDg n m bs → ∀ D H', Same H H' → H D = none → H' D = some (.lst ((labL bs (n + m).toNat).map V.int)) → Q (.ref D) H')
theorem ok_labels {f CD a_check_diagram : Addr} {fd fd_check_diagram : FuncData} (F : Fun K "labels" "labels" s_labels f fd) (z_enumerate : mg "enumerate" = none) (z_range : mg "range" = none)
    (G_check_diagram : FnOk P w K mg base (L2N.CX P w) 3 a_check_diagram fd_check_diagram ["diagram"] (spCheckDiagram CD)) (g_check_diagram : mg "check_diagram" = some (.ref a_check_diagram)) (k_check_diagram : PySem.W.keepIn K (.ref a_check_diagram) = true) (b_check_diagram : Binds K fd_check_diagram ["diagram"] []) :
    FnOk P w K mg base (L2N.CX P w) 4 f fd ["diagram"] (spLabels CD) := by
  refine F.okXN sc_labels (fun vs H Q E h => ?_) (fun cdv A outer s H vs Q E hr h => ?_)
  · obtain ⟨v, n, m, bs, rfl, _⟩ := h
    rfl
  · obtain ⟨v, n, m, bs, rfl, hv, hb, q1, q⟩ := h
    refine ⟨_, (pss_cons (ps_expr (pe_call G_check_diagram (hr.mono (by decide)) rfl g_check_diagram k_check_diagram b_check_diagram .nil (L2N.passes_call (L2N.takes_of rfl rfl rfl rfl) (fun _ _ _ _ h => h)) (pa_cons (pv 0) pa_nil)))
  (pss_cons (ps_asg (pv 0) (pg_tup rfl (pgs_cons (pg_name (i := 1) sc_labels.nd rfl (.inl rfl)) (pgs_cons (pg_name (i := 2) sc_labels.nd rfl (.inl rfl)) (pgs_cons (pg_name (i := 3) sc_labels.nd rfl (.inl rfl)) pgs_nil)))))
  (pss_cons (ps_setLc (i := 4) (own := [("_", 8)]) rfl sc_labels.nd rfl rfl (sw_true rfl rfl rfl (by decide +kernel)) (pi_range1 rfl z_range (pa_cons (pe_op op_add (pv 1) (pv 2)) pa_nil)) (blkOk_by (N := ["diagram", "n", "m", "blocks", "marks", "k", "block", "point", "_"]) (sc := defScope s_labels) (by first | decide +kernel | rfl)) (fun _ _ _ _ _ => (pg_name (i := 8) sc_labels.nd rfl (.inl rfl))) (fun _ _ _ _ _ => pts_nil) (fun _ _ _ _ _ => pe_int))
  (pss_cons (ps_for (passes_of rfl) rfl (pi_enumT rfl z_enumerate (pa_cons (pv 3) pa_nil)) (pg_tup rfl (pgs_cons (pg_name (i := 5) sc_labels.nd rfl (.inl rfl)) (pgs_cons (pg_name (i := 6) sc_labels.nd rfl (.inl rfl)) pgs_nil))) (pss_one (ps_for (passes_of rfl) rfl (pi_tup (pv 6)) (pg_name (i := 7) sc_labels.nd rfl (.inl rfl)) (pss_one (ps_asg (pv 5) (pg_sub (pv 4) (pv 7) set_list))))))
  (pss_one (ps_ret (pv 4))))))), ?_⟩
    have szl : 20000 ≤ sizeLine := by decide
    refine ⟨_, rfl, v, n, m, bs, rfl, hv, hb, fun H1 s1 => ⟨fun dg => ?_, fun nd => q1 nd H1 s1⟩⟩
    have q := q dg
    have hs := siz_iff.mp dg.sz
    obtain ⟨t, vb, rfl, ht, tb, ts, rfl, htb, pr⟩ := DGv.same s1 hv
    have lts : ts.length = bs.length := pr.length
    refine ⟨_, rfl, t, _, rfl, .inl (.inl ht), rfl, _, _, rfl, _, _, rfl, _, _, rfl, rfl, ?_⟩
    obtain ⟨N, eN⟩ : ∃ N : Nat, n + m = (N : Int) := ⟨(n + m).toNat, by omega⟩
    refine ⟨_, rfl, _, rfl, _, _, rfl, rfl, ?_⟩
    dsimp only
    rw [eN]
    refine ⟨_, rfl, by omega, by omega, fun D nD => lc_range (lo := 0) (n := N) (fun i H' => SameBut D H1 H' ∧ H' D = some (.lst ((List.replicate i (0 : Int)).map V.int))) ⟨SameBut.upd, upd_same⟩ (fun i H' hi hP => ?_) (fun H2 hP => ?_)⟩
    · obtain ⟨sb, hD⟩ := hP
      refine ⟨rfl, _, hD, by rw [List.length_map, List.length_replicate]; omega, sb.trans SameBut.upd, ?_⟩
      rw [upd_same, List.replicate_succ', List.map_append]
      rfl
    obtain ⟨sb, hD2⟩ := hP
    have s2 : Same H1 H2 := fun a o e => sb a o (ne_of_none e nD) e
    have nD1 := nD
    have nD0 := none_back s1 nD1
    have htb2 := s2 _ _ htb
    refine ⟨_, rfl, tb, ts, rfl, .inl (.inl htb2), for_it walk_enumT (fun i σ H' => ∃ v5 v6 v7 v8, σ = [some (.ref t), some (.int n), some (.int m), some (.ref (tb)), some (.ref D), v5, v6, v7, v8] ∧ Same H1 H' ∧ H' D = some (.lst ((labN bs i N).map V.int)))
      ⟨_, _, _, _, rfl, s2, hD2⟩ (fun i σ H' _ ⟨_, _, _, _, _, s', _⟩ => .inl (.inl (s' _ _ htb))) (fun i y σ H3 H4 hi hP hy => ?_) (fun σ H' hP => ?_)⟩
    · obtain ⟨v5, v6, v7, v8, rfl, s3, hD3⟩ := hP
      obtain ⟨p, x, y', rfl, np, rfl, ex, ey⟩ := hy
      obtain rfl : V.int (i : Nat) = x := Option.some.inj ex
      obtain ⟨b, eb, a, rfl, ha⟩ := tt_get pr ey
      have mb := List.mem_of_getElem? eb
      refine ⟨p, _, rfl, .inl (.inl upd_same), rfl, _, _, rfl, _, _, rfl, rfl, ?_⟩
      have s4 : Same H1 (upd H3 p (.tup [.int (i : Nat), .ref a])) := Same.trans s3 (same_upd np)
      have hD4 : upd H3 p (.tup [.int (i : Nat), .ref a]) D = some (.lst ((labN bs i N).map V.int)) := same_upd np _ _ hD3
      revert s4 hD4
      generalize upd H3 p (.tup [.int (i : Nat), .ref a]) = H5
      intro s4 hD4
      have hi' : i < bs.length := by rw [← lts]; exact hi
      refine ⟨_, rfl, a, rfl, ⟨_, .inl (.inl (s4 _ _ ha))⟩, for_it walk_tup (fun j σ H' => ∃ v7, σ = [some (.ref t), some (.int n), some (.int m), some (.ref tb), some (.ref D), some (.int (i : Nat)), some (.ref a), v7, v8] ∧ Same H1 H' ∧ H' D = some (.lst (((b.take j).foldl (fun ms p => ms.set p.toNat (i : Int)) (labN bs i N)).map V.int)))
        ⟨v7, rfl, s4, hD4⟩ (fun j σ H' _ ⟨_, _, s', _⟩ => .inl (.inl (s' _ _ ha))) (fun j y σ H6 H7 hj hP hy => ?_) (fun σ H' hP => ?_)⟩
      · obtain ⟨v7, rfl, s5, hD5⟩ := hP
        obtain ⟨e0, hy⟩ := hy
        subst e0
        rw [List.length_map] at hj
        have ez : (b.map V.int)[j]? = some (.int (co b j)) := by rw [List.getElem?_map, co_get hj]; rfl
        obtain rfl : V.int (co b j) = y := Option.some.inj (ez.symm.trans hy)
        obtain ⟨c0, c1⟩ := dg_pt dg mb (co_mem hj)
        have ll : ((b.take j).foldl (fun ms p => ms.set p.toNat (i : Int)) (labN bs i N)).length = N := by
          rw [fold_len]
          unfold labN
          rw [labFrom_len, List.length_replicate]
        refine ⟨_, rfl, _, rfl, _, rfl, D, _, _, (co b j).toNat, rfl, rfl, hD5, (by obtain ⟨u, hu⟩ := Int.eq_ofNat_of_zero_le c0; rw [hu]; exact ixN_nat (by rw [List.length_map, ll]; omega)), ?_⟩
        refine ⟨_, rfl, Same.mut s5 nD1, ?_⟩
        rw [upd_same, map_set, fold_take hj]
      · obtain ⟨v7, rfl, s5, hD5⟩ := hP
        rw [List.length_map, List.take_length] at hD5
        refine ⟨_, _, _, _, rfl, s5, ?_⟩
        rw [hD5]
        unfold labN
        rw [List.take_succ, eb, show (some b).toList = [b] from rfl, labFrom_snoc, List.length_take, Nat.min_eq_left (by omega), Nat.zero_add]
    · obtain ⟨v5, v6, v7, v8, rfl, s3, hD3⟩ := hP
      refine ⟨_, rfl, q D H' (Same.trans s1 s3) nD0 ?_⟩
      rw [hD3, eN]
      unfold labN labL
      rw [lts, List.take_length]
      rfl
end

theorem posOf_take {marks : List Int} {i : Nat} (h : i < marks.length) (v : Int) : posOf (marks.take (i + 1)) v = if co marks i = v then posOf (marks.take i) v ++ [(i : Int)] else posOf (marks.take i) v := by
  have l1 : (marks.take (i + 1)).length = i + 1 := by rw [List.length_take]; omega
  have l0 : (marks.take i).length = i := by rw [List.length_take]; omega
  have c1 : ∀ j, j < i → co (marks.take (i + 1)) j = co (marks.take i) j := fun j hj => by
    unfold co
    rw [List.getD_eq_getElem?_getD, List.getD_eq_getElem?_getD, List.getElem?_take_of_lt (by omega), List.getElem?_take_of_lt hj]
  have c2 : co (marks.take (i + 1)) i = co marks i := by
    unfold co
    rw [List.getD_eq_getElem?_getD, List.getD_eq_getElem?_getD, List.getElem?_take_of_lt (by omega)]
  unfold posOf
  rw [l1, l0, List.range_succ, List.filter_append, List.map_append]
  have e : (List.range i).filter (fun j => decide (co (marks.take (i + 1)) j = v)) = (List.range i).filter fun j => decide (co (marks.take i) j = v) :=
    List.filter_congr fun j hj => by rw [c1 j (List.mem_range.mp hj)]
  rw [e, List.filter_cons, c2]
  by_cases c : co marks i = v
  · rw [if_pos c, decide_eq_true c]
    rfl
  · rw [if_neg c, decide_eq_false c]
    exact List.append_nil _
theorem posOf_none {marks : List Int} {v : Int} (h : v ∉ marks) : posOf marks v = [] := by
  refine List.eq_nil_iff_forall_not_mem.mpr fun x hx => ?_
  obtain ⟨i, _, hi, e⟩ := mem_posOf.mp hx
  exact h (e ▸ co_mem hi)
/-- a dict by integers -/
def KR (H : Hp) (f : Int → List Int) (kv : Key × V) (u : Int) : Prop := kv.1 = Sum.inl u ∧ TP H kv.2 (f u)
theorem kr_get {H : Hp} {f : Int → List Int} {v : Int} : ∀ {kvs : List (Key × V)} {vs : List Int}, Paired (KR H f) kvs vs → (v ∈ vs → ∃ w, valV kvs (Sum.inl v : Key) = some w ∧ TP H w (f v)) ∧ (v ∉ vs → valV kvs (Sum.inl v : Key) = none)
  | _, _, .nil => ⟨fun h => (nomatch h), fun _ => rfl⟩
  | kv :: kvs, u :: vs, .cons ⟨e, t⟩ pr => by
    obtain ⟨a, b⟩ := kr_get (v := v) pr
    by_cases c : u = v
    · refine ⟨fun _ => ⟨kv.2, valV_pos (by rw [e, c]), by rw [← c]; exact t⟩, fun h => absurd (List.mem_cons.mpr (.inl c.symm)) h⟩
    · have ne : ¬ kv.1 = (Sum.inl v : Key) := fun z => c (Sum.inl.inj (e.symm.trans z))
      refine ⟨fun h => ?_, fun h => ?_⟩
      · rw [valV_neg ne]
        exact a ((List.mem_cons.mp h).resolve_left fun z => c z.symm)
      · rw [valV_neg ne]
        exact b fun z => h (List.mem_cons_of_mem _ z)
theorem kr_map {H : Hp} {f g : Int → List Int} {v : Int} {w : V} (hw : TP H w (g v)) (hg : ∀ u, u ≠ v → g u = f u) : ∀ {kvs : List (Key × V)} {vs : List Int}, Paired (KR H f) kvs vs → Paired (KR H g) (kvs.map fun kv => if kv.1 = (Sum.inl v : Key) then (kv.1, w) else kv) vs
  | _, _, .nil => .nil
  | kv :: kvs, u :: vs, .cons ⟨e, t⟩ pr => by
    rw [List.map_cons]
    refine .cons ?_ (kr_map hw hg pr)
    by_cases c : u = v
    · rw [if_pos (by rw [e, c])]
      exact ⟨e, by rw [c]; exact hw⟩
    · rw [if_neg fun z => c (Sum.inl.inj (e.symm.trans z))]
      exact ⟨e, by rw [hg u c]; exact t⟩
theorem kr_put {H : Hp} {f g : Int → List Int} {v : Int} {w : V} {kvs : List (Key × V)} {vs : List Int} (pr : Paired (KR H f) kvs vs) (hw : TP H w (g v)) (hg : ∀ u, u ≠ v → g u = f u) :
    Paired (KR H g) (putK kvs (Sum.inl v : Key) w) (if v ∈ vs then vs else vs ++ [v]) := by
  obtain ⟨a, b⟩ := kr_get (v := v) pr
  by_cases c : v ∈ vs
  · rw [if_pos c]
    obtain ⟨x, hx, _⟩ := a c
    unfold putK
    rw [if_pos (by rw [valV_any, hx]; rfl)]
    exact kr_map hw hg pr
  · rw [if_neg c, putK_new _ (b c)]
    refine paired_snoc ⟨rfl, hw⟩ ?_
    have e : (kvs.map fun kv => if kv.1 = (Sum.inl v : Key) then (kv.1, w) else kv) = kvs := by
      conv => rhs; rw [← List.map_id kvs]
      refine List.map_congr_left fun kv hkv => ?_
      have : (kvs.any fun kv => decide (kv.1 = (Sum.inl v : Key))) = false := by rw [valV_any, b c]; rfl
      have h1 := List.any_eq_false.mp this kv hkv
      rw [if_neg fun z => h1 (decide_eq_true z)]
      rfl
    have := kr_map hw hg pr
    rwa [e] at this
theorem kr_vals {H : Hp} {f : Int → List Int} : ∀ {kvs : List (Key × V)} {vs : List Int}, Paired (KR H f) kvs vs → Paired (TP H) (kvs.map (·.2)) (vs.map f)
  | _, _, .nil => .nil
  | _, _, .cons ⟨_, t⟩ pr => .cons t (kr_vals pr)
def rCatC : R2 := fun x y H Q => ∃ a b xs ys, x = .ref a ∧ y = .ref b ∧ H a = some (.tup xs) ∧ H b = some (.tup ys) ∧ xs.length + ys.length ≤ sizeLine ∧ ∀ p H', Same H H' → H' p = some (.tup (xs ++ ys)) → Q (.ref p) H'
theorem op_catC {X : Cx} : OpR X (binaryOp .Add) rCatC := by
  intro pins s σ H x y v u Q I rx ry h
  obtain ⟨a, b, xs, ys, rfl, rfl, ha, hb, hz, q⟩ := h
  refine op_catA pins s σ H _ _ v u Q I rx ry ⟨a, b, xs, ys, rfl, rfl, .inl (.inl ha), .inl (.inl hb), hz, fun e => ?_, fun _ e => ?_, fun _ _ p np => ?_⟩
  · exact q b H (Same.refl _) (by rw [e, List.nil_append]; exact hb)
  · exact q a H (Same.refl _) (by rw [e, List.append_nil]; exact ha)
  · exact q p _ (same_upd np) upd_same

section
variable {P : Program} {w : World} {K : PySem.W.Frag} {mg : Str → Option Value} {base : Heap}
/-! ### _law_marks -/
def spMarks : Sp := fun vs H Q _ => ∃ (v : V) (n m : Int) (bs : List (List Int)), vs = [v] ∧ DGv H v n m bs ∧ IsDg n m bs ∧ bs.length ≤ 1000 ∧ ∀ D H', Same H H' → H D = none → H' D = some (.lst ((labL bs (n + m).toNat).map V.int)) → Q (.ref D) H'
theorem ok_law_marks {f : Addr} {fd : FuncData} (F : Fun K "_law_marks" "_law_marks" s_law_marks f fd) (z_len : mg "len" = none) (z_range : mg "range" = none) : FnOk P w K mg base CX0 1 f fd ["diagram"] spMarks := by
  refine F.ok sc_law_marks (fun vs H Q E h => ?_) (fun cdv A outer s H vs Q E hr h => ?_)
  · obtain ⟨v, n, m, bs, rfl, _⟩ := h
    rfl
  · obtain ⟨v, n, m, bs, rfl, hv, dg, lb, q⟩ := h
    refine ⟨_, (pss_cons (ps_set (i := 1) sc_law_marks.nd rfl (.inl rfl) (pe_op op_rep (pe_lst (pa_cons pe_int pa_nil)) (pe_op op_add (pe_ix ix_tup (pv 0) pe_int (fun _ _ => rfl)) (pe_ix ix_tup (pv 0) pe_int (fun _ _ => rfl)))))
  (pss_cons (ps_for PassesOwn.never rfl (pi_range1 rfl z_range (pa_cons (pe_callB call_len_seq (by rfl) z_len boot_len (pa_cons (pe_ix ix_tup (pv 0) pe_int (fun _ _ => rfl)) pa_nil)) pa_nil)) (pg_name (i := 2) sc_law_marks.nd rfl (.inl rfl)) (pss_one (ps_for PassesOwn.never rfl (pi_tup (pe_ix ix_tup (pe_ix ix_tup (pv 0) pe_int (fun _ _ => rfl)) (pv 2) (fun _ _ => rfl))) (pg_name (i := 3) sc_law_marks.nd rfl (.inl rfl)) (pss_one (ps_asg (pv 2) (pg_sub (pv 1) (pv 3) set_list))))))
  (pss_one (ps_ret (pv 1))))), ?_⟩
    have szl : 20000 ≤ sizeLine := by decide
    have hs := siz_iff.mp dg.sz
    obtain ⟨t, vb, rfl, ht, tb, ts, rfl, htb, pr⟩ := hv
    have lts : ts.length = bs.length := pr.length
    obtain ⟨N, eN⟩ : ∃ N : Nat, n + m = (N : Int) := ⟨(n + m).toNat, by omega⟩
    refine ⟨(by show 1 ≤ sizeLine; decide), fun z nz => ?_⟩
    have q0 := same_upd (o := .lst [.int 0]) nz
    refine ⟨_, rfl, t, _, 0, .int n, rfl, rfl, .inl (.inl (q0 _ _ ht)), atI_nat (j := 0) rfl, _, rfl, t, _, 1, .int m, rfl, rfl, .inl (.inl (q0 _ _ ht)), atI_nat (j := 1) rfl, _, _, rfl, rfl, z, _, _, rfl, rfl, upd_same, ?_⟩
    dsimp only
    rw [eN]
    refine ⟨by omega, by omega, by show 1 * _ ≤ sizeLine; omega, fun D nD => ?_⟩
    rw [show ((N : Nat) : Int).toNat = N from rfl, rep0]
    have s1 : Same H (upd (upd H z (.lst [.int 0])) D (.lst ((List.replicate N (0 : Int)).map V.int))) := Same.trans q0 (same_upd nD)
    have hD1 : upd (upd H z (.lst [.int 0])) D (.lst ((List.replicate N (0 : Int)).map V.int)) D = some (.lst ((List.replicate N (0 : Int)).map V.int)) := upd_same
    have nD0 := none_back q0 nD
    revert s1 hD1
    generalize upd (upd H z (.lst [.int 0])) D (.lst ((List.replicate N (0 : Int)).map V.int)) = H1
    intro s1 hD1
    refine ⟨_, rfl, t, _, 2, .ref tb, rfl, rfl, .inl (.inl (s1 _ _ ht)), atI_nat (j := 2) rfl, tb, _, rfl, .inr (.inl (.inl (s1 _ _ htb))), ?_⟩
    rw [lts]
    refine ⟨_, rfl, by omega, by omega, for_range (lo := 0) (n := bs.length) (fun i σ H' => ∃ v2 v3, σ = [some (.ref t), some (.ref D), v2, v3] ∧ Same H H' ∧ H' D = some (.lst ((labN bs i N).map V.int)))
      ⟨none, none, rfl, s1, hD1⟩ (fun i σ H3 hi hP => ?_) (fun σ H' hP => ?_)⟩
    · obtain ⟨v2, v3, rfl, s3, hD3⟩ := hP
      have ei : (0 : Int) + (i : Int) = ((i : Nat) : Int) := Int.zero_add _
      have hti : i < ts.length := by omega
      obtain ⟨b, eb, a, ea, ha⟩ := tt_get pr (List.getElem?_eq_getElem hti)
      have mb := List.mem_of_getElem? eb
      have eti : atI ts ((0 : Int) + (i : Int)) = some (.ref a) := by rw [ei]; exact atI_nat (by rw [List.getElem?_eq_getElem hti, ea])
      refine ⟨_, rfl, t, _, 2, .ref tb, rfl, rfl, .inl (.inl (s3 _ _ ht)), atI_nat (j := 2) rfl, _, rfl, tb, _, _, _, rfl, rfl, .inl (.inl (s3 _ _ htb)), eti, a, rfl, ⟨_, .inl (.inl (s3 _ _ ha))⟩, for_it walk_tup (fun j σ H' => ∃ v3, σ = [some (.ref t), some (.ref D), some (.int (0 + (i : Int))), v3] ∧ Same H H' ∧ H' D = some (.lst (((b.take j).foldl (fun ms p => ms.set p.toNat (i : Int)) (labN bs i N)).map V.int)))
        ⟨v3, rfl, s3, hD3⟩ (fun j σ H' _ ⟨_, _, s', _⟩ => .inl (.inl (s' _ _ ha))) (fun j y σ H6 H7 hj hP hy => ?_) (fun σ H' hP => ?_)⟩
      · obtain ⟨v3, rfl, s5, hD5⟩ := hP
        obtain ⟨e0, hy⟩ := hy
        subst e0
        rw [List.length_map] at hj
        have ez : (b.map V.int)[j]? = some (.int (co b j)) := by rw [List.getElem?_map, co_get hj]; rfl
        obtain rfl : V.int (co b j) = y := Option.some.inj (ez.symm.trans hy)
        obtain ⟨c0, c1⟩ := dg_pt dg mb (co_mem hj)
        have ll : ((b.take j).foldl (fun ms p => ms.set p.toNat (i : Int)) (labN bs i N)).length = N := by
          rw [fold_len]
          unfold labN
          rw [labFrom_len, List.length_replicate]
        refine ⟨_, rfl, _, rfl, _, rfl, D, _, _, (co b j).toNat, rfl, rfl, hD5, (by obtain ⟨u, hu⟩ := Int.eq_ofNat_of_zero_le c0; rw [hu]; exact ixN_nat (by rw [List.length_map, ll]; omega)), ?_⟩
        refine ⟨_, rfl, Same.mut s5 nD0, ?_⟩
        rw [upd_same, ei, map_set, fold_take hj]
      · obtain ⟨v3, rfl, s5, hD5⟩ := hP
        rw [List.length_map, List.take_length] at hD5
        refine ⟨_, _, rfl, s5, ?_⟩
        rw [hD5]
        unfold labN
        rw [List.take_succ, eb, show (some b).toList = [b] from rfl, labFrom_snoc, List.length_take, Nat.min_eq_left (by omega), Nat.zero_add]
    · obtain ⟨v2, v3, rfl, s3, hD3⟩ := hP
      refine ⟨_, rfl, q D H' s3 nD0 ?_⟩
      rw [hD3, eN]
      unfold labN labL
      rw [List.take_length]
      rfl
end

/-! ### marks as they are drawn -/
def Strand (n : Nat) (l : List Int) : Prop := ∀ p q : Nat, p < q → q < l.length → co l p = co l q → p < n ∧ n ≤ q
def Mated (l : List Int) : Prop := ∀ p : Nat, p < l.length → ∃ q, q < l.length ∧ q ≠ p ∧ co l q = co l p
structure FamM (z : Str) (n m : Nat) (l : List Int) : Prop where
  st : z = "threads" ∨ z = "loose" → Strand n l
  ma : z = "threads" → n = m → Mated l
  pa : z = "pairs" → (n + m) % 2 = 0 → ∀ v ∈ l, l.count v = 2
  lo : z = "lonepairs" → ∀ v, l.count v ≤ 2
  ev : z = "even" → (n + m) % 2 = 0 → ∀ v, l.count v % 2 = 0
theorem mem_ixs {N : Nat} {x : Int} : x ∈ ixs N ↔ 0 ≤ x ∧ x < (N : Int) := by
  unfold ixs
  rw [List.mem_map]
  constructor
  · rintro ⟨i, hi, rfl⟩
    have := List.mem_range.mp hi
    omega
  · rintro ⟨h0, h1⟩
    exact ⟨x.toNat, List.mem_range.mpr (by omega), by omega⟩
theorem ixs_len' (N : Nat) : (ixs N).length = N := by
  unfold ixs
  rw [List.length_map, List.length_range]
theorem co_ixs {N i : Nat} (h : i < N) : co (ixs N) i = (i : Int) := by
  have e := co_get (l := ixs N) (k := i) (by rw [ixs_len']; exact h)
  unfold ixs at e ⊢
  rw [List.getElem?_map, List.getElem?_range h] at e
  exact (Option.some.inj e).symm
theorem ixs_nodup (N : Nat) : (ixs N).Nodup := by
  unfold ixs
  exact List.pairwise_map.mpr ((range_lt N).imp fun {a b} h => by omega)
theorem co_app_l {a b : List Int} {i : Nat} (h : i < a.length) : co (a ++ b) i = co a i := by
  have e := co_get (l := a ++ b) (k := i) (by rw [List.length_append]; omega)
  rw [List.getElem?_append_left h, co_get h] at e
  exact (Option.some.inj e).symm
theorem co_app_r {a b : List Int} {i : Nat} (h : i < b.length) : co (a ++ b) (a.length + i) = co b i := by
  have e := co_get (l := a ++ b) (k := a.length + i) (by rw [List.length_append]; omega)
  rw [List.getElem?_append_right (by omega), show a.length + i - a.length = i by omega, co_get h] at e
  exact (Option.some.inj e).symm
theorem nodup_erase {l : List Int} (h : l.Nodup) {k : Nat} (hk : k < l.length) {y : Int} (hy : y ∈ l.eraseIdx k) : y ∈ l ∧ y ≠ co l k := by
  refine ⟨List.mem_of_mem_eraseIdx hy, fun e => ?_⟩
  obtain ⟨j, hj⟩ := List.mem_eraseIdx_iff_getElem?.mp hy
  have e2 := co_get hk
  rw [← e] at e2
  have lj := (List.getElem?_eq_some_iff.mp hj.2)
  obtain ⟨lj1, lj2⟩ := lj
  obtain ⟨lk1, lk2⟩ := List.getElem?_eq_some_iff.mp e2
  exact hj.1 ((List.getElem_inj h).mp (lj2.trans lk2.symm))
theorem mem_erase_ne {l : List Int} {k : Nat} (hk : k < l.length) {y : Int} (hy : y ∈ l) (ne : y ≠ co l k) : y ∈ l.eraseIdx k := by
  obtain ⟨j, hj, e⟩ := mem_get hy
  refine List.mem_eraseIdx_iff_getElem?.mpr ⟨j, fun c => ne ?_, ?_⟩
  · rw [← e, c]
  · rw [co_get hj, e]
/-- while marks are threaded -/
structure ThrI (n m i : Nat) (l ls : List Int) : Prop where
  len : l.length = n + m
  up : ∀ p : Nat, p < n → co l p = p
  low : ∀ j : Nat, j < m → co l (n + j) = -1 - (j : Int) ∨ (0 ≤ co l (n + j) ∧ co l (n + j) < i)
  dis : ∀ j j' : Nat, j < j' → j' < m → co l (n + j) ≠ co l (n + j')
  nd : ls.Nodup
  free : ∀ x ∈ ls, ∃ j : Nat, x = j ∧ j < m ∧ co l (n + j) = -1 - (j : Int)
  rest : ∀ j : Nat, j < m → (j : Int) ∉ ls → 0 ≤ co l (n + j)
  cap : ls.length ≤ m
structure ThrT (n m i : Nat) (l ls : List Int) : Prop where
  many : ls.length = m - i
  hit : ∀ a : Nat, a < i → ∃ j, j < m ∧ co l (n + j) = a
theorem ThrI.skip {n m i : Nat} {l ls : List Int} (h : ThrI n m i l ls) : ThrI n m (i + 1) l ls :=
  ⟨h.len, h.up, fun j hj => (h.low j hj).imp_right fun z => ⟨z.1, by omega⟩, h.dis, h.nd, h.free, h.rest, h.cap⟩
theorem thr_at {n m i : Nat} {l ls : List Int} (h : ThrI n m i l ls) {k : Nat} (hk : k < ls.length) : ∃ j : Nat, co ls k = j ∧ j < m ∧ co l (n + j) = -1 - (j : Int) := h.free _ (co_mem hk)
theorem ThrI.step {n m i : Nat} {l ls : List Int} (h : ThrI n m i l ls) {k j : Nat} (hk : k < ls.length) (hj : j < m) (ej : co ls k = j) : ThrI n m (i + 1) (l.set (n + j) (i : Int)) (ls.eraseIdx k) := by
  have hl := h.len
  have c : ∀ p : Nat, co (l.set (n + j) (i : Int)) p = if p = n + j then (i : Int) else co l p := fun p => co_set p (by omega)
  refine ⟨by rw [List.length_set]; exact hl, fun p hp => ?_, fun j' hj' => ?_, fun j1 j2 h1 h2 => ?_, h.nd.sublist (List.eraseIdx_sublist _ _), fun x hx => ?_, fun j' hj' hn => ?_, by rw [List.length_eraseIdx_of_lt hk]; have := h.cap; omega⟩
  · rw [c, if_neg (by omega)]
    exact h.up p hp
  · rw [c]
    by_cases e : j' = j
    · rw [if_pos (by omega)]
      exact .inr ⟨by omega, by omega⟩
    · rw [if_neg (by omega)]
      exact (h.low j' hj').imp_right fun z => ⟨z.1, by omega⟩
  · rw [c, c]
    have d := h.dis j1 j2 h1 h2
    have l1 := h.low j1 (by omega)
    have l2 := h.low j2 (by omega)
    by_cases e1 : j1 = j
    · rw [if_pos (by omega), if_neg (by omega)]
      omega
    · rw [if_neg (by omega)]
      by_cases e2 : j2 = j
      · rw [if_pos (by omega)]
        omega
      · rw [if_neg (by omega)]
        exact d
  · obtain ⟨hx1, hx2⟩ := nodup_erase h.nd hk hx
    obtain ⟨j', e1, e2, e3⟩ := h.free x hx1
    refine ⟨j', e1, e2, ?_⟩
    rw [c, if_neg (by omega)]
    exact e3
  · rw [c]
    by_cases e : j' = j
    · rw [if_pos (by omega)]
      omega
    · rw [if_neg (by omega)]
      exact h.rest j' hj' fun z => hn (mem_erase_ne hk z (by rw [ej]; omega))
theorem ThrT.step {n m i : Nat} {l ls : List Int} (h : ThrI n m i l ls) (t : ThrT n m i l ls) {k j : Nat} (hk : k < ls.length) (hj : j < m) (ej : co ls k = j) : ThrT n m (i + 1) (l.set (n + j) (i : Int)) (ls.eraseIdx k) := by
  have hl := h.len
  have c : ∀ p : Nat, co (l.set (n + j) (i : Int)) p = if p = n + j then (i : Int) else co l p := fun p => co_set p (by omega)
  refine ⟨by rw [List.length_eraseIdx_of_lt hk, t.many]; omega, fun a ha => ?_⟩
  by_cases e : a = i
  · exact ⟨j, hj, by rw [c, if_pos rfl, e]⟩
  · obtain ⟨j', h1, h2⟩ := t.hit a (by omega)
    refine ⟨j', h1, ?_⟩
    rw [c, if_neg]
    · exact h2
    · intro z
      obtain ⟨j3, e3, _, e4⟩ := thr_at h hk
      rw [z] at h2
      rw [ej] at e3
      have : j3 = j := by omega
      rw [this] at e4
      omega
theorem ThrI.strand {n m i : Nat} {l ls : List Int} (h : ThrI n m i l ls) : Strand n l := by
  intro p q hpq hq e
  have hl := h.len
  rcases Nat.lt_or_ge q n with c | c
  · rw [h.up p (by omega), h.up q c] at e
    omega
  · refine ⟨?_, c⟩
    rcases Nat.lt_or_ge p n with c2 | c2
    · exact c2
    · refine absurd ?_ (h.dis (p - n) (q - n) (by omega) (by omega))
      rw [show n + (p - n) = p by omega, show n + (q - n) = q by omega]
      exact e
theorem ThrI.mated {n : Nat} {l ls : List Int} (h : ThrI n n n l ls) (t : ThrT n n n l ls) : Mated l := by
  intro p hp
  have hl := h.len
  have e0 : ls = [] := List.length_eq_zero_iff.mp (by rw [t.many]; omega)
  rcases Nat.lt_or_ge p n with c | c
  · obtain ⟨j, hj, e⟩ := t.hit p c
    exact ⟨n + j, by omega, by omega, by rw [e, h.up p c]⟩
  · have r := h.rest (p - n) (by omega) (by rw [e0]; exact fun z => nomatch z)
    have lo := h.low (p - n) (by omega)
    rw [show n + (p - n) = p by omega] at r lo
    refine ⟨(co l p).toNat, by omega, by omega, ?_⟩
    rw [h.up _ (by omega)]
    omega
/-- while marks are paired -/
structure PrI (lone : Bool) (N i : Nat) (l ls : List Int) : Prop where
  len : l.length = N
  nd : ls.Nodup
  free : ∀ x ∈ ls, ∃ p : Nat, x = p ∧ p < N ∧ co l p = x ∧ l.count x = 1
  rest : ∀ v, v ∉ ls → l.count v = 0 ∨ l.count v = 2 ∨ (lone = true ∧ l.count v = 1)
  many : lone = false → ls.length + 2 * i = N
  cap : ls.length ≤ N
theorem count_ixs {N : Nat} {x : Int} (h : x ∈ ixs N) : (ixs N).count x = 1 := (ixs_nodup N).count.trans (if_pos h)
theorem PrI.start (lone : Bool) (N : Nat) : PrI lone N 0 (ixs N) (ixs N) :=
  ⟨ixs_len' N, ixs_nodup N, fun x hx => ⟨x.toNat, by have := mem_ixs.mp hx; omega, by have := mem_ixs.mp hx; omega, by have := mem_ixs.mp hx; rw [co_ixs (by omega)]; omega, count_ixs hx⟩, fun v hv => .inl (List.count_eq_zero.mpr hv), fun _ => ixs_len' N, Nat.le_of_eq (ixs_len' N)⟩
theorem PrI.step {lone : Bool} {N i : Nat} {l ls : List Int} {one : Int} (h : PrI lone N i l (one :: ls)) {k p : Nat} (hk : k < ls.length) (hp : p < N) (ep : co ls k = p) : PrI lone N (i + 1) (l.set p one) (ls.eraseIdx k) := by
  obtain ⟨n1, n2⟩ := List.nodup_cons.mp h.nd
  have mx := co_mem hk
  obtain ⟨p', e1, e2, e3, e4⟩ := h.free (co ls k) (List.mem_cons_of_mem _ mx)
  obtain rfl : p' = p := by omega
  have hl := h.len
  have nx : one ≠ co ls k := fun z => n1 (z ▸ mx)
  obtain ⟨po, o1, o2, o3, o4⟩ := h.free one List.mem_cons_self
  have g : l[p']'(by omega) = co ls k := by
    have := co_get (l := l) (k := p') (by omega)
    rw [List.getElem?_eq_getElem (by omega)] at this
    rw [Option.some.inj this, e3]
  have cs : ∀ b, (l.set p' one).count b = l.count b - (if co ls k = b then 1 else 0) + (if one = b then 1 else 0) := by
    intro b
    rw [List.count_set (by omega), g]
    simp only [beq_iff_eq]
  refine ⟨by rw [List.length_set]; exact hl, n2.sublist (List.eraseIdx_sublist _ _), fun y hy => ?_, fun v hv => ?_, fun e => ?_, by have := h.cap; rw [List.length_cons] at this; rw [List.length_eraseIdx_of_lt hk]; omega⟩
  · obtain ⟨h1, h2⟩ := nodup_erase n2 hk hy
    obtain ⟨q, f1, f2, f3, f4⟩ := h.free y (List.mem_cons_of_mem _ h1)
    refine ⟨q, f1, f2, ?_, ?_⟩
    · rw [co_set q (by omega), if_neg (by omega)]
      exact f3
    · rw [cs, if_neg (Ne.symm h2), if_neg (show ¬ one = y from fun z => n1 (z ▸ h1))]
      exact f4
  · rw [cs]
    by_cases c1 : one = v
    · rw [if_pos c1, if_neg fun z => nx (c1.trans z.symm), ← c1, o4]
      exact .inr (.inl rfl)
    · rw [if_neg c1]
      by_cases c2 : co ls k = v
      · rw [if_pos c2, ← c2, e4]
        exact .inl rfl
      · rw [if_neg c2]
        exact h.rest v fun z => by
          rcases List.mem_cons.mp z with z | z
          · exact c1 z.symm
          · exact hv (mem_erase_ne hk z (Ne.symm c2))
  · have := h.many e
    rw [List.length_cons] at this
    rw [List.length_eraseIdx_of_lt hk]
    omega
theorem PrI.skip {N i : Nat} {l ls : List Int} {one : Int} (h : PrI true N i l (one :: ls)) : PrI true N (i + 1) l ls := by
  obtain ⟨n1, n2⟩ := List.nodup_cons.mp h.nd
  refine ⟨h.len, n2, fun y hy => h.free y (List.mem_cons_of_mem _ hy), fun v hv => ?_, (fun e => nomatch e), by have := h.cap; rw [List.length_cons] at this; omega⟩
  by_cases c : v = one
  · obtain ⟨_, _, _, _, e⟩ := h.free one List.mem_cons_self
    exact .inr (.inr ⟨rfl, c ▸ e⟩)
  · exact h.rest v fun z => (List.mem_cons.mp z).elim c hv
theorem PrI.two {N i : Nat} {l ls : List Int} (h : PrI false N i l ls) (e : ls.length < 2 ∨ i = N) (hN : N % 2 = 0) (v : Int) : l.count v = 0 ∨ l.count v = 2 := by
  have m := h.many rfl
  have e0 : ls = [] := List.length_eq_zero_iff.mp (by omega)
  rcases h.rest v (by rw [e0]; exact fun z => nomatch z) with h | h | h
  · exact .inl h
  · exact .inr h
  · exact nomatch h.1
theorem PrI.most {lone : Bool} {N i : Nat} {l ls : List Int} (h : PrI lone N i l ls) (v : Int) : l.count v ≤ 2 := by
  by_cases c : v ∈ ls
  · obtain ⟨_, _, _, _, e⟩ := h.free v c
    omega
  · rcases h.rest v c with h | h | h <;> omega
/-- two marks joined -/
def jn (l : List Int) (x y : Nat) : List Int := l.map fun c => if c = (if co l y > co l x then co l y else co l x) then (if co l y < co l x then co l y else co l x) else c
theorem jn_len (l : List Int) (x y : Nat) : (jn l x y).length = l.length := List.length_map ..
theorem count_merge (lo hi v : Int) : ∀ l : List Int, (l.map fun c => if c = hi then lo else c).count v = if v = lo then l.count lo + (if hi = lo then 0 else l.count hi) else if v = hi then 0 else l.count v
  | [] => by simp
  | a :: l => by
    rw [List.map_cons, List.count_cons, count_merge lo hi v l, List.count_cons, List.count_cons, List.count_cons]
    simp only [beq_iff_eq]
    by_cases c1 : v = lo
    · subst c1
      rw [if_pos rfl, if_pos rfl]
      by_cases c2 : hi = v
      · subst c2
        rw [if_pos rfl, if_pos rfl]
        by_cases c3 : a = hi <;> simp [c3]
      · rw [if_neg c2, if_neg c2]
        by_cases c3 : a = hi
        · subst c3
          rw [if_pos rfl, if_pos rfl, if_neg c2]
          simp
          omega
        · rw [if_neg c3]
          by_cases c4 : a = v
          · simp [c4]
            rw [if_neg (fun z => c3 (c4.trans z))]
            omega
          · simp [c4, c3]
    · rw [if_neg c1, if_neg c1]
      by_cases c2 : v = hi
      · subst c2
        rw [if_pos rfl, if_pos rfl]
        by_cases c3 : a = v
        · rw [if_pos c3, if_neg (Ne.symm c1)]
        · rw [if_neg c3, if_neg c3]
      · rw [if_neg c2, if_neg c2]
        by_cases c3 : a = hi
        · rw [if_pos c3, if_neg (Ne.symm c1), if_neg]
          intro z
          exact c2 (z.symm.trans c3)
        · rw [if_neg c3]
theorem jn_even {l : List Int} {x y : Nat} (h : ∀ v, l.count v % 2 = 0) (v : Int) : (jn l x y).count v % 2 = 0 := by
  unfold jn
  rw [count_merge]
  have h1 := h (if co l y < co l x then co l y else co l x)
  have h2 := h (if co l y > co l x then co l y else co l x)
  have h3 := h v
  revert h1 h2
  generalize (if co l y < co l x then co l y else co l x) = lo
  generalize (if co l y > co l x then co l y else co l x) = hi
  intro h1 h2
  by_cases c1 : v = lo
  · rw [if_pos c1]
    by_cases c2 : hi = lo
    · rw [if_pos c2]
      omega
    · rw [if_neg c2]
      omega
  · rw [if_neg c1]
    by_cases c2 : v = hi
    · rw [if_pos c2]
    · rw [if_neg c2]
      exact h3

/-! ### tuples of tuples, put together and cut -/
theorem paired_drop {α β : Type} {F : α → β → Prop} : ∀ {l : List α} {m : List β} (i : Nat), Paired F l m → Paired F (l.drop i) (m.drop i)
  | _, _, 0, h => h
  | _, _, _ + 1, .nil => .nil
  | _, _, i + 1, .cons _ h => paired_drop i h
theorem paired_take {α β : Type} {F : α → β → Prop} : ∀ {l : List α} {m : List β} (i : Nat), Paired F l m → Paired F (l.take i) (m.take i)
  | _, _, 0, _ => .nil
  | _, _, _ + 1, .nil => .nil
  | _, _, i + 1, .cons a h => .cons a (paired_take i h)
theorem paired_app {α β : Type} {F : α → β → Prop} : ∀ {l l' : List α} {m m' : List β}, Paired F l m → Paired F l' m' → Paired F (l ++ l') (m ++ m')
  | _, _, _, _, .nil, h => h
  | _, _, _, _, .cons a h, h' => .cons a (paired_app h h')
theorem paired_rev {α β : Type} {F : α → β → Prop} : ∀ {l : List α} {m : List β}, Paired F l m → Paired F l.reverse m.reverse
  | _, _, .nil => .nil
  | _, _, .cons a h => by
    rw [List.reverse_cons, List.reverse_cons]
    exact paired_app (paired_rev h) (.cons a .nil)
def cutL {α : Type} (xs : List α) (lo hi : Option Int) : List α := (xs.drop (HT.sIx xs.length 0 lo)).take (HT.sIx xs.length xs.length hi - HT.sIx xs.length 0 lo)
theorem sIx_all (n : Nat) (h : HT.sIx n 0 none = 0 ∧ HT.sIx n n none = n) : True := trivial
def rCatTT : R2 := fun x y H Q => ∃ bs cs, TT H x bs ∧ TT H y cs ∧ bs.length + cs.length ≤ sizeLine ∧ ∀ v H', Same H H' → TT H' v (bs ++ cs) → Q v H'
theorem op_catTT {X : Cx} : OpR X (binaryOp .Add) rCatTT := by
  intro pins s σ H x y v u Q I rx ry h
  obtain ⟨bs, cs, ⟨a, ts, rfl, ha, pa⟩, ⟨b, us, rfl, hb, pb⟩, hz, q⟩ := h
  have la : ts.length = bs.length := pa.length
  have lb : us.length = cs.length := pb.length
  refine op_catA pins s σ H _ _ v u Q I rx ry ⟨a, b, ts, us, rfl, rfl, .inl (.inl ha), .inl (.inl hb), by omega, fun e => ?_, fun _ e => ?_, fun _ _ p np => ?_⟩
  · refine q _ H (Same.refl _) ⟨b, us, rfl, hb, ?_⟩
    subst e
    cases pa
    exact pb
  · refine q _ H (Same.refl _) ⟨a, ts, rfl, ha, ?_⟩
    subst e
    cases pb
    rw [List.append_nil]
    exact pa
  · have s1 := same_upd (o := .tup (ts ++ us)) np
    exact q _ _ s1 ⟨p, _, rfl, upd_same, paired_app (Paired.mapP pa fun _ _ h => h.same s1) (Paired.mapP pb fun _ _ h => h.same s1)⟩
def rSlTT : V → Option Int → Option Int → Hp → VK → Prop := fun x lo hi H Q => ∃ bs, TT H x bs ∧ ∀ v H', Same H H' → TT H' v (cutL bs lo hi) → Q v H'
theorem sl_TT {X : Cx} : SlR X rSlTT := by
  intro pins s σ H x v vl vu lo hi sl Q I rx hs pl pu h
  obtain ⟨bs, ⟨a, ts, rfl, ha, pa⟩, q⟩ := h
  have la : ts.length = bs.length := pa.length
  refine sl_tupA pins s σ H _ v vl vu lo hi sl Q I rx hs pl pu ⟨a, ts, rfl, .inl (.inl ha), fun e => ?_, fun _ p np => ?_⟩
  · refine q _ H (Same.refl _) ⟨a, ts, rfl, ha, ?_⟩
    unfold cutL
    rw [← la, e.1, e.2, la]
    show Paired (TP H) ts ((bs.drop 0).take (bs.length - 0))
    rw [List.drop_zero, Nat.sub_zero, List.take_length]
    exact pa
  · have s1 := same_upd (o := .tup (cutV ts lo hi)) np
    refine q _ _ s1 ⟨p, _, rfl, upd_same, ?_⟩
    unfold cutL cutV
    rw [← la]
    exact paired_take _ (paired_drop _ (Paired.mapP pa fun _ _ h => h.same s1))
theorem flat_le {c : Nat} : ∀ {bs : List (List Int)}, (∀ b ∈ bs, b.length ≤ c) → bs.flatten.length ≤ c * bs.length
  | [], _ => Nat.zero_le _
  | b :: bs, h => by
    rw [List.flatten_cons, List.length_append, List.length_cons, Nat.mul_succ]
    have := flat_le (bs := bs) fun b hb => h b (List.mem_cons_of_mem _ hb)
    have := h b List.mem_cons_self
    omega
theorem len_flat : ∀ {bs : List (List Int)}, (∀ b ∈ bs, b ≠ []) → bs.length ≤ bs.flatten.length
  | [], _ => Nat.le_refl _
  | b :: bs, h => by
    rw [List.flatten_cons, List.length_append, List.length_cons]
    have := len_flat (bs := bs) fun b hb => h b (List.mem_cons_of_mem _ hb)
    have := List.length_pos_iff.mpr (h b List.mem_cons_self)
    omega
/-- few blocks, each of few points -/
def Few (c : Nat) (bs : List (List Int)) : Prop := bs.length ≤ c ∧ ∀ b ∈ bs, b.length ≤ 13
theorem Few.ok {n m : Int} {bs : List (List Int)} (h : Few 40 bs) (hn : n.natAbs ≤ 1000) (hm : m.natAbs ≤ 1000) : DgOk n m bs := by
  have := flat_le h.2
  exact ⟨hn, hm, by have := h.1; omega, by have := h.1; omega⟩
theorem Few.cut {c : Nat} {bs : List (List Int)} (h : Few c bs) (i j : Nat) : Few c ((bs.drop i).take j) :=
  ⟨by have := h.1; rw [List.length_take, List.length_drop]; omega, fun b hb => h.2 b (List.mem_of_mem_drop (List.mem_of_mem_take hb))⟩
theorem Few.app {c d : Nat} {bs cs : List (List Int)} (h : Few c bs) (g : Few d cs) : Few (c + d) (bs ++ cs) :=
  ⟨by have := h.1; have := g.1; rw [List.length_append]; omega, fun b hb => (List.mem_append.mp hb).elim (h.2 b) (g.2 b)⟩
theorem Few.more {c d : Nat} {bs : List (List Int)} (h : Few c bs) (hd : c ≤ d) : Few d bs := ⟨Nat.le_trans h.1 hd, h.2⟩
theorem IsDg.few {n m : Int} {bs : List (List Int)} (h : IsDg n m bs) : Few 12 bs := by
  have hs := siz_iff.mp h.sz
  have e := h.pm.length_eq
  rw [ixs_len] at e
  have l1 := len_flat h.ne
  refine ⟨by omega, fun b hb => ?_⟩
  have := mem_len hb
  omega

theorem TP.butL {H H' : Hp} {r : Addr} {ys : List V} {v : V} {z : List Int} (hr : H r = some (.lst ys)) (s : SameBut r H H') (h : TP H v z) : TP H' v z := by
  obtain ⟨a, rfl, h⟩ := h
  exact ⟨a, rfl, s _ _ (ne_of h hr (fun z => nomatch z)) h⟩
theorem TT.butL {H H' : Hp} {r : Addr} {ys : List V} {v : V} {bs : List (List Int)} (hr : H r = some (.lst ys)) (s : SameBut r H H') (h : TT H v bs) : TT H' v bs := by
  obtain ⟨a, ts, rfl, h, pr⟩ := h
  exact ⟨a, ts, rfl, s _ _ (ne_of h hr (fun z => nomatch z)) h, Paired.mapP pr fun _ _ h => h.butL hr s⟩
theorem DGv.butL {H H' : Hp} {r : Addr} {ys : List V} {v : V} {n m : Int} {bs : List (List Int)} (hr : H r = some (.lst ys)) (s : SameBut r H H') (h : DGv H v n m bs) : DGv H' v n m bs := by
  obtain ⟨t, vb, rfl, h, tt⟩ := h
  exact ⟨t, vb, rfl, s _ _ (ne_of h hr (fun z => nomatch z)) h, tt.butL hr s⟩
/-- a diagram with these marks -/
def DgAt (H : Hp) (u : V) (n m : Int) (l : List Int) : Prop := DGv H u n m (blocksOf l) ∧ siz n m = true ∧ (l.length : Int) = n + m
theorem DgAt.dg {H : Hp} {u : V} {n m : Int} {l : List Int} (h : DgAt H u n m l) : IsDg n m (blocksOf l) := isDg_blocks h.2.1 h.2.2
theorem DgAt.ok {H : Hp} {u : V} {n m : Int} {l : List Int} (h : DgAt H u n m l) : DgOk n m (blocksOf l) := by
  have := siz_iff.mp h.2.1
  exact (h.dg.few.more (by decide)).ok (by omega) (by omega)
theorem DgAt.same {H H' : Hp} {u : V} {n m : Int} {l : List Int} (s : Same H H') (h : DgAt H u n m l) : DgAt H' u n m l := ⟨h.1.same s, h.2⟩
theorem DgAt.butL {H H' : Hp} {r : Addr} {ys : List V} {u : V} {n m : Int} {l : List Int} (hr : H r = some (.lst ys)) (s : SameBut r H H') (h : DgAt H u n m l) : DgAt H' u n m l := ⟨h.1.butL hr s, h.2⟩
theorem DgAt.ix {H : Hp} {t : Addr} {n m : Int} {l : List Int} (h : DgAt H (.ref t) n m l) : ∃ vb, H t = some (.tup [.int n, .int m, vb]) := by
  obtain ⟨⟨t', vb, e, h, _⟩, _⟩ := h
  obtain rfl := V.ref.inj e
  exact ⟨vb, h⟩
/-- the answer of a comparison is not computed -/
theorem bl_ex {b : Bool} {R : Bool → Prop} (h : R b) : ∃ k, V.bl b = V.bl k ∧ R k := ⟨b, rfl, h⟩
theorem smL_dL {z : List Int} {B : Nat} (h : ∀ x ∈ z, x.natAbs < 2 ^ 200) (hB : z.length ≤ B) : SmL 1 (1923 * B + 3) (dL z) := by
  have e := smL_list (ds := z.map PyData.int) (n := 0) (k := 1921) fun D hD => by
    obtain ⟨a, ha, rfl⟩ := List.mem_map.mp hD
    exact smL_int (h a ha)
  rw [List.length_map] at e
  exact e.more (by show 1923 * z.length + 3 ≤ 1923 * B + 3; omega)
theorem labL_mem {bs : List (List Int)} {N : Nat} : ∀ x ∈ labL bs N, 0 ≤ x ∧ x ≤ (bs.length : Int) := by
  have run : ∀ (bs : List (List Int)) (k : Nat) (ms : List Int) (B : Int), ((k + bs.length : Nat) : Int) ≤ B → (∀ x ∈ ms, 0 ≤ x ∧ x ≤ B) → ∀ x ∈ labFrom bs k ms, 0 ≤ x ∧ x ≤ B := by
    intro bs
    induction bs with
    | nil => exact fun _ _ _ _ h => h
    | cons b bs ih =>
      intro k ms B hk h
      rw [List.length_cons] at hk
      refine ih (k + 1) _ B (by omega) ?_
      clear ih
      induction b generalizing ms with
      | nil => exact h
      | cons p b ih2 =>
        refine ih2 _ fun x hx => ?_
        rcases List.mem_or_eq_of_mem_set hx with hx | rfl
        · exact h x hx
        · omega
  exact run bs 0 _ _ (by omega) fun x hx => by
    have := List.eq_of_mem_replicate hx
    omega
theorem smL_lab {n m : Int} {bs : List (List Int)} (h : IsDg n m bs) : SmL 1 25000 (dL (labL bs (n + m).toNat)) := by
  have hs := siz_iff.mp h.sz
  have f := h.few.1
  refine (smL_dL (B := 12) (fun x hx => ?_) (by rw [labL_len]; omega)).more (by decide)
  have := labL_mem x hx
  have : (12 : Nat) < 2 ^ 200 := by decide
  omega
theorem smL_dg {n m : Int} {bs : List (List Int)} (h : IsDg n m bs) : SmL 3 1000000 (dDG n m bs) := by
  have hs := siz_iff.mp h.sz
  have f := h.few
  have big : (12 : Nat) < 2 ^ 200 := by decide
  have e1 := smL_tuple (n := 1) (k := 25002) (ds := bs.map dT) fun D hD => by
    obtain ⟨b, hb, rfl⟩ := List.mem_map.mp hD
    refine (dT_small (z := b) fun k => ?_).more (by have := f.2 b hb; omega)
    rcases Nat.lt_or_ge k b.length with c | c
    · have := dg_pt h hb (co_mem c)
      omega
    · rw [co_ge c]
      decide
  rw [List.length_map] at e1
  have e1 : SmL 2 310000 (dTT bs) := e1.more (by have := f.1; omega)
  have e2 := smL_tuple (n := 2) (k := 310000) (ds := [.int n, .int m, dTT bs]) fun D hD => by
    have up : ∀ {x : Int}, x.natAbs < 2 ^ 200 → SmL 2 310000 (.int x) := fun hx => by
      obtain ⟨h1, h2, h3, h4⟩ := smL_int hx
      exact ⟨h1, Nat.le_trans h2 (by decide), h3, Nat.le_trans h4 (by decide)⟩
    rcases List.mem_cons.mp hD with rfl | hD
    · exact up (by omega)
    · rcases List.mem_cons.mp hD with rfl | hD
      · exact up (by omega)
      · rw [List.mem_singleton.mp hD]
        exact e1
  exact e2.more (by show (310000 + 2) * 3 + 3 ≤ 1000000; decide)
theorem few_pow {x : Int} (h : 0 ≤ x ∧ x ≤ 1000) : x.natAbs < 2 ^ 64 := by
  have : (1000 : Nat) < 2 ^ 64 := by decide
  omega

/-! ### slices of lists of integers -/
theorem cutI {l : List Int} (lo hi : Option Int) : cutV (l.map V.int) lo hi = ((l.drop (HT.sIx l.length 0 lo)).take (HT.sIx l.length l.length hi - HT.sIx l.length 0 lo)).map V.int := by
  unfold cutV
  rw [List.length_map, ← List.map_drop, ← List.map_take]
theorem cutI_to {l : List Int} {b : Int} (h0 : 0 ≤ b) (h : b ≤ l.length) : cutV (l.map V.int) none (some b) = (l.take b.toNat).map V.int := by
  obtain ⟨k, rfl⟩ := Int.eq_ofNat_of_zero_le h0
  rw [cutI, HT.sIx_none, HT.sIx_nat, Nat.min_eq_left (by omega), List.drop_zero, Nat.sub_zero]
  rfl
theorem cutI_from {l : List Int} {a : Int} (h0 : 0 ≤ a) (h : a ≤ l.length) : cutV (l.map V.int) (some a) none = (l.drop a.toNat).map V.int := by
  obtain ⟨k, rfl⟩ := Int.eq_ofNat_of_zero_le h0
  rw [cutI, HT.sIx_none, HT.sIx_nat, Nat.min_eq_left (by omega)]
  show ((l.drop k).take (l.length - k)).map V.int = (l.drop k).map V.int
  rw [← List.length_drop, List.take_length]
theorem cutI_mid {l : List Int} {a b : Int} (h0 : 0 ≤ a) (h1 : a ≤ b) (h : b ≤ l.length) : cutV (l.map V.int) (some a) (some b) = ((l.drop a.toNat).take (b.toNat - a.toNat)).map V.int := by
  obtain ⟨k, rfl⟩ := Int.eq_ofNat_of_zero_le h0
  obtain ⟨j, rfl⟩ := Int.eq_ofNat_of_zero_le (show 0 ≤ b by omega)
  rw [cutI, HT.sIx_nat, HT.sIx_nat, Nat.min_eq_left (by omega), Nat.min_eq_left (by omega)]
  rfl
theorem sIx_neg1 (n d : Nat) : HT.sIx n d (some (-1)) = n - 1 := by
  show (if (-1 : Int) < 0 then ((-1 : Int) + (n : Int)).toNat else min (-1 : Int).toNat n) = n - 1
  rw [if_pos (by decide)]
  omega
theorem cutI_last {l : List Int} : cutV (l.map V.int) (some (-1)) none = (l.drop (l.length - 1)).map V.int := by
  rw [cutI, HT.sIx_none, sIx_neg1]
  rw [← List.length_drop, List.take_length]
theorem cutI_but {l : List Int} {a : Int} (h0 : 0 ≤ a) (h : a ≤ l.length) : cutV (l.map V.int) (some a) (some (-1)) = ((l.drop a.toNat).take (l.length - 1 - a.toNat)).map V.int := by
  obtain ⟨k, rfl⟩ := Int.eq_ofNat_of_zero_le h0
  rw [cutI, HT.sIx_nat, sIx_neg1, Nat.min_eq_left (by omega)]
  rfl
/-- the labels of a diagram stand for the marks -/
theorem labs_map {n m : Int} {l : List Int} (hl : (l.length : Int) = n + m) : ∃ g : Int → Int, labL (blocksOf l) (n + m).toNat = l.map g ∧ ∀ x ∈ l, ∀ y ∈ l, g x = g y → x = y := by
  refine ⟨fun v => (((seenL [] l).idxOf v : Nat) : Int), ?_, fun x hx y hy h => idx_inj ((seenL_mem l [] x).mpr (.inr hx)) ((seenL_mem l [] y).mpr (.inr hy)) h⟩
  rw [show (n + m).toNat = l.length by omega]
  exact labL_marks l
/-- a choice of marks by their places -/
theorem blocks_sel {n m : Int} {l : List Int} (hl : (l.length : Int) = n + m) {sel : List Int → List Int} (hm : ∀ (g : Int → Int) (z : List Int), sel (z.map g) = (sel z).map g) (hs : ∀ x ∈ sel l, x ∈ l) : blocksOf (sel (labL (blocksOf l) (n + m).toNat)) = blocksOf (sel l) := by
  obtain ⟨g, e, inj⟩ := labs_map hl
  rw [e, hm]
  exact blocksOf_map fun x hx y hy h => inj x (hs x hx) y (hs y hy) h

/-! ### rows of colours -/
def addC (row : List Int) (d : Nat) : List (List Int) := (List.range d).map fun (u : Nat) => row ++ [(u : Int)]
def rowsC (d : Nat) : Nat → List (List Int)
  | 0 => [[]]
  | k + 1 => ((rowsC d k).map fun row => addC row d).flatten
theorem mem_addC {row x : List Int} {d : Nat} : x ∈ addC row d ↔ ∃ u : Nat, u < d ∧ x = row ++ [(u : Int)] := by
  unfold addC
  rw [List.mem_map]
  exact ⟨fun ⟨u, h, e⟩ => ⟨u, List.mem_range.mp h, e.symm⟩, fun ⟨u, h, e⟩ => ⟨u, List.mem_range.mpr h, e.symm⟩⟩
theorem rowsC_ok {d : Nat} : ∀ {k : Nat} {x : List Int}, x ∈ rowsC d k → x.length = k ∧ ∀ y ∈ x, 0 ≤ y ∧ y < (d : Int)
  | 0, x, h => by
    rw [List.mem_singleton.mp h]
    exact ⟨rfl, fun y hy => nomatch hy⟩
  | k + 1, x, h => by
    obtain ⟨l, hl, hx⟩ := List.mem_flatten.mp h
    obtain ⟨row, hr, rfl⟩ := List.mem_map.mp hl
    obtain ⟨u, hu, rfl⟩ := mem_addC.mp hx
    obtain ⟨a, b⟩ := rowsC_ok hr
    refine ⟨by rw [List.length_append, a]; rfl, fun y hy => ?_⟩
    rcases List.mem_append.mp hy with hy | hy
    · exact b y hy
    · rw [List.mem_singleton.mp hy]
      omega
theorem rowsC_mem {d : Nat} : ∀ {k : Nat} {x : List Int}, x.length = k → (∀ y ∈ x, 0 ≤ y ∧ y < (d : Int)) → x ∈ rowsC d k
  | 0, x, h, _ => by
    rw [List.length_eq_zero_iff.mp h]
    exact List.mem_singleton.mpr rfl
  | k + 1, x, h, hb => by
    have ne : x ≠ [] := fun e => by rw [e] at h; cases h
    have e := List.dropLast_concat_getLast ne
    have hl := hb (x.getLast ne) (List.getLast_mem ne)
    refine List.mem_flatten.mpr ⟨addC x.dropLast d, List.mem_map.mpr ⟨x.dropLast, rowsC_mem (by rw [List.length_dropLast, h]; rfl) (fun y hy => hb y ((List.dropLast_sublist x).subset hy)), rfl⟩, mem_addC.mpr ⟨(x.getLast ne).toNat, by omega, ?_⟩⟩
    rw [show (((x.getLast ne).toNat : Nat) : Int) = x.getLast ne by omega]
    exact e.symm
theorem rowsC_len (d : Nat) : ∀ k, (rowsC d k).length = d ^ k
  | 0 => rfl
  | k + 1 => by
    show (((rowsC d k).map fun row => addC row d).flatten).length = _
    rw [List.length_flatten, List.map_map]
    have e : ((rowsC d k).map (List.length ∘ fun row => addC row d)) = (rowsC d k).map fun _ => d := List.map_congr_left fun row _ => by
      show (addC row d).length = d
      unfold addC
      rw [List.length_map, List.length_range]
    rw [e, List.map_const', List.sum_replicate_nat, rowsC_len d k, Nat.pow_succ]
/-- equal marks have equal colours -/
def okC (l x : List Int) : Bool := decide (∀ i, i < l.length → ∀ j, j < l.length → co l i = co l j → co x i = co x j)
theorem okC_iff {l x : List Int} : okC l x = true ↔ ∀ i j, i < l.length → j < l.length → co l i = co l j → co x i = co x j := by
  unfold okC
  rw [decide_eq_true_eq]
  exact ⟨fun h i j hi hj => h i hi j hj, fun h i hi j hj => h i j hi hj⟩
def bit (b : Bool) : Int := if b = true then 1 else 0
def entF (bs : List (List Int)) (x : List Int) : Int := bit (bs.all fun b => b.all fun p => decide (co x p.toNat = co x (co b 0).toNat))
theorem ent_ok (l x : List Int) : entF (blocksOf l) x = bit (okC l x) := by
  unfold entF
  congr 1
  rw [Bool.eq_iff_iff, List.all_eq_true, okC_iff]
  constructor
  · intro h i j hi hj e
    have hb : posOf l (co l i) ∈ blocksOf l := List.mem_map.mpr ⟨_, (seenL_mem l [] _).mpr (.inr (co_mem hi)), rfl⟩
    have h := List.all_eq_true.mp (h _ hb)
    have h1 := of_decide_eq_true (h _ (mem_posOf.mpr ⟨i, rfl, hi, rfl⟩))
    have h2 := of_decide_eq_true (h _ (mem_posOf.mpr ⟨j, rfl, hj, e.symm⟩))
    rw [show ((i : Nat) : Int).toNat = i from rfl] at h1
    rw [show ((j : Nat) : Int).toNat = j from rfl] at h2
    rw [h1, h2]
  · intro h b hb
    obtain ⟨v, hv, rfl⟩ := List.mem_map.mp hb
    refine List.all_eq_true.mpr fun p hp => decide_eq_true ?_
    have h0 : co (posOf l v) 0 ∈ posOf l v := co_mem (List.length_pos_of_mem hp)
    obtain ⟨i, rfl, hi, e1⟩ := mem_posOf.mp hp
    obtain ⟨j, ej, hj, e2⟩ := mem_posOf.mp h0
    rw [ej]
    exact h i j hi hj (by rw [e1, e2])
theorem co_app2 (a b : List Int) (i : Nat) : co (a ++ b) i = if i < a.length then co a i else co b (i - a.length) := by
  by_cases c : i < a.length
  · rw [if_pos c, co_app_l c]
  · rw [if_neg c]
    by_cases d : i - a.length < b.length
    · have := co_app_r (a := a) (b := b) (i := i - a.length) d
      rw [show a.length + (i - a.length) = i by omega] at this
      exact this
    · rw [co_ge (by rw [List.length_append]; omega), co_ge (by omega)]

section
variable {P : Program} {w : World} {K : PySem.W.Frag} {mg : Str → Option Value} {base : Heap}
/-! ### _law_error -/
theorem fl_pos {z x : Str} {l : List Str} (h : x = z) : ((l ++ [x]).filter fun t => decide (t = z)).map V.str = (l.filter fun t => decide (t = z)).map V.str ++ [.str x] := by
  rw [List.filter_append, List.map_append, List.filter_cons, decide_eq_true h]
  rfl
theorem fl_neg {z x : Str} {l : List Str} (h : x ≠ z) : ((l ++ [x]).filter fun t => decide (t = z)).map V.str = (l.filter fun t => decide (t = z)).map V.str := by
  rw [List.filter_append, List.filter_cons, decide_eq_false h]
  exact congrArg _ (List.append_nil _)
theorem fl_len (z : Str) (l : List Str) : ((l.filter fun t => decide (t = z)).map V.str).length ≤ l.length := by
  rw [List.length_map]
  exact List.length_filter_le _ _
/-- what an error class must say here: its name is z -/
structure KindE (K : PySem.W.Frag) (CE X_NotWorld X_NotFamily CD X_NotNumber X_NotWord X_NotMatrix CB X_NoAnswer CT X_Malformed D : Addr) (z : Str) : Prop where
  C : ExcC K D
  e : PySem.W.kitOne K (.ref D) (.ref CE) = some true
  n : z ∈ (["world", "family", "diagram", "value", "word", "matrix", "number", "answer", "large"] : List Str)
  k0 : PySem.W.kitOne K (.ref D) (.ref X_NotWorld) = some (decide (("world" : Str) = z))
  k1 : PySem.W.kitOne K (.ref D) (.ref X_NotFamily) = some (decide (("family" : Str) = z))
  k2 : PySem.W.kitOne K (.ref D) (.ref CD) = some (decide (("diagram" : Str) = z))
  k3 : PySem.W.kitOne K (.ref D) (.ref X_NotNumber) = some (decide (("value" : Str) = z))
  k4 : PySem.W.kitOne K (.ref D) (.ref X_NotWord) = some (decide (("word" : Str) = z))
  k5 : PySem.W.kitOne K (.ref D) (.ref X_NotMatrix) = some (decide (("matrix" : Str) = z))
  k6 : PySem.W.kitOne K (.ref D) (.ref CB) = some (decide (("number" : Str) = z))
  k7 : PySem.W.kitOne K (.ref D) (.ref X_NoAnswer) = some (decide (("answer" : Str) = z))
  k8 : PySem.W.kitOne K (.ref D) (.ref CT) = some (decide (("large" : Str) = z))
  k9 : PySem.W.kitOne K (.ref D) (.ref X_Malformed) = some false
def spLErr (K : PySem.W.Frag) (CE X_NotWorld X_NotFamily CD X_NotNumber X_NotWord X_NotMatrix CB X_NoAnswer CT X_Malformed : Addr) : Addr → Value → Option Addr → Sp := fun a cls d vs H Q _ => ∃ D z, cls = .ref D ∧ d = none ∧ vs = [.ref a] ∧ KindE K CE X_NotWorld X_NotFamily CD X_NotNumber X_NotWord X_NotMatrix CB X_NoAnswer CT X_Malformed D z ∧ ∀ H', Same H H' → Q (.str (("!" : Str) ++ z)) H'
theorem ok_law_error {f CE X_NotWorld X_NotFamily CD X_NotNumber X_NotWord X_NotMatrix CB X_NoAnswer CT X_Malformed : Addr} {fd : FuncData} (F : Fun K "_law_error" "_law_error" s_law_error f fd) (m_WorthError : mg "WorthError" = some (.ref CE)) (m_NotWorld : mg "NotWorld" = some (.ref X_NotWorld)) (m_NotFamily : mg "NotFamily" = some (.ref X_NotFamily)) (m_NotDiagram : mg "NotDiagram" = some (.ref CD)) (m_NotNumber : mg "NotNumber" = some (.ref X_NotNumber)) (m_NotWord : mg "NotWord" = some (.ref X_NotWord)) (m_NotMatrix : mg "NotMatrix" = some (.ref X_NotMatrix)) (m_BadNumber : mg "BadNumber" = some (.ref CB)) (m_NoAnswer : mg "NoAnswer" = some (.ref X_NoAnswer)) (m_TooLarge : mg "TooLarge" = some (.ref CT)) (m_Malformed : mg "Malformed" = some (.ref X_Malformed)) (z_isinstance : mg "isinstance" = none) (z_len : mg "len" = none) :
    FnE P w K mg base 1 f fd ["error"] (spLErr K CE X_NotWorld X_NotFamily CD X_NotNumber X_NotWord X_NotMatrix CB X_NoAnswer CT X_Malformed) := by
  have r_WorthError : RelV (.ref CE) (.ref CE) := rfl
  have r_NotWorld : RelV (.ref X_NotWorld) (.ref X_NotWorld) := rfl
  have r_NotFamily : RelV (.ref X_NotFamily) (.ref X_NotFamily) := rfl
  have r_NotDiagram : RelV (.ref CD) (.ref CD) := rfl
  have r_NotNumber : RelV (.ref X_NotNumber) (.ref X_NotNumber) := rfl
  have r_NotWord : RelV (.ref X_NotWord) (.ref X_NotWord) := rfl
  have r_NotMatrix : RelV (.ref X_NotMatrix) (.ref X_NotMatrix) := rfl
  have r_BadNumber : RelV (.ref CB) (.ref CB) := rfl
  have r_NoAnswer : RelV (.ref X_NoAnswer) (.ref X_NoAnswer) := rfl
  have r_TooLarge : RelV (.ref CT) (.ref CT) := rfl
  have r_Malformed : RelV (.ref X_Malformed) (.ref X_Malformed) := rfl
  refine F.okE sc_law_error (fun a cls d vs H Q E h => ?_) (fun cdv A outer s H vs Q E a oe cls d hz hf hr h => ?_)
  · obtain ⟨D, z, _, _, rfl, _⟩ := h
    rfl
  · obtain ⟨D, z, rfl, rfl, rfl, k, q⟩ := h
    refine ⟨_, (pss_cons (ps_set (i := 1) sc_law_error.nd rfl (.inl rfl) (pe_lst pa_nil))
  (Evl.pss_cut (ps_if (pt_val (pe_callB (call_isEH hz hf) (by rfl) z_isinstance boot_isinstance (pa_cons (pv 0) (pa_cons (pe_glob rfl m_NotWorld r_NotWorld) pa_nil)))) (pss_one (ps_expr (pe_bm PySem.F.plainAttrs_list PySem.F.slot_list_append PySem.F.type_list_append mt_append (pv 1) (pa_cons pe_str pa_nil)))) pss_nil)
  (Evl.pss_cut (ps_if (pt_val (pe_callB (call_isEH hz hf) (by rfl) z_isinstance boot_isinstance (pa_cons (pv 0) (pa_cons (pe_glob rfl m_NotFamily r_NotFamily) pa_nil)))) (pss_one (ps_expr (pe_bm PySem.F.plainAttrs_list PySem.F.slot_list_append PySem.F.type_list_append mt_append (pv 1) (pa_cons pe_str pa_nil)))) pss_nil)
  (Evl.pss_cut (ps_if (pt_val (pe_callB (call_isEH hz hf) (by rfl) z_isinstance boot_isinstance (pa_cons (pv 0) (pa_cons (pe_glob rfl m_NotDiagram r_NotDiagram) pa_nil)))) (pss_one (ps_expr (pe_bm PySem.F.plainAttrs_list PySem.F.slot_list_append PySem.F.type_list_append mt_append (pv 1) (pa_cons pe_str pa_nil)))) pss_nil)
  (Evl.pss_cut (ps_if (pt_val (pe_callB (call_isEH hz hf) (by rfl) z_isinstance boot_isinstance (pa_cons (pv 0) (pa_cons (pe_glob rfl m_NotNumber r_NotNumber) pa_nil)))) (pss_one (ps_expr (pe_bm PySem.F.plainAttrs_list PySem.F.slot_list_append PySem.F.type_list_append mt_append (pv 1) (pa_cons pe_str pa_nil)))) pss_nil)
  (Evl.pss_cut (ps_if (pt_val (pe_callB (call_isEH hz hf) (by rfl) z_isinstance boot_isinstance (pa_cons (pv 0) (pa_cons (pe_glob rfl m_NotWord r_NotWord) pa_nil)))) (pss_one (ps_expr (pe_bm PySem.F.plainAttrs_list PySem.F.slot_list_append PySem.F.type_list_append mt_append (pv 1) (pa_cons pe_str pa_nil)))) pss_nil)
  (Evl.pss_cut (ps_if (pt_val (pe_callB (call_isEH hz hf) (by rfl) z_isinstance boot_isinstance (pa_cons (pv 0) (pa_cons (pe_glob rfl m_NotMatrix r_NotMatrix) pa_nil)))) (pss_one (ps_expr (pe_bm PySem.F.plainAttrs_list PySem.F.slot_list_append PySem.F.type_list_append mt_append (pv 1) (pa_cons pe_str pa_nil)))) pss_nil)
  (Evl.pss_cut (ps_if (pt_val (pe_callB (call_isEH hz hf) (by rfl) z_isinstance boot_isinstance (pa_cons (pv 0) (pa_cons (pe_glob rfl m_BadNumber r_BadNumber) pa_nil)))) (pss_one (ps_expr (pe_bm PySem.F.plainAttrs_list PySem.F.slot_list_append PySem.F.type_list_append mt_append (pv 1) (pa_cons pe_str pa_nil)))) pss_nil)
  (Evl.pss_cut (ps_if (pt_val (pe_callB (call_isEH hz hf) (by rfl) z_isinstance boot_isinstance (pa_cons (pv 0) (pa_cons (pe_glob rfl m_NoAnswer r_NoAnswer) pa_nil)))) (pss_one (ps_expr (pe_bm PySem.F.plainAttrs_list PySem.F.slot_list_append PySem.F.type_list_append mt_append (pv 1) (pa_cons pe_str pa_nil)))) pss_nil)
  (Evl.pss_cut (ps_if (pt_val (pe_callB (call_isEH hz hf) (by rfl) z_isinstance boot_isinstance (pa_cons (pv 0) (pa_cons (pe_glob rfl m_TooLarge r_TooLarge) pa_nil)))) (pss_one (ps_expr (pe_bm PySem.F.plainAttrs_list PySem.F.slot_list_append PySem.F.type_list_append mt_append (pv 1) (pa_cons pe_str pa_nil)))) pss_nil)
  (Evl.pss_cut (ps_if (pt_val (pe_callB (call_isEH hz hf) (by rfl) z_isinstance boot_isinstance (pa_cons (pv 0) (pa_cons (pe_glob rfl m_Malformed r_Malformed) pa_nil)))) pss_never pss_nil)
  (pss_cons (ps_if (L2.PW.pt (pw_and (pt_cmpR op_eq (pe_callB call_len_seq (by rfl) z_len boot_len (pa_cons (pv 1) pa_nil)) pe_int (nomark _)) (pw_and1 (pt_val (pe_callB (call_isEH hz hf) (by rfl) z_isinstance boot_isinstance (pa_cons (pv 0) (pa_cons (pe_glob rfl m_WorthError r_WorthError) pa_nil))))))) (pss_one (ps_ret (pe_op op_add_str pe_str (pe_ix ix_list (pv 1) pe_int (fun _ _ => rfl))))) pss_nil)
  (pss_one (ps_ret pe_str)))))))))))))), ?_⟩
    have szl : 20000 ≤ sizeLine := by decide
    refine ⟨(by show 0 ≤ sizeLine; decide), fun L nL => ?_⟩
    have st0 : Same H (upd H L (.lst [])) ∧ upd H L (.lst []) L = some (.lst ((([] : List Str).filter fun t => decide (t = z)).map V.str)) := ⟨same_upd nL, upd_same⟩
    revert st0
    generalize upd H L (.lst []) = H0
    intro st0
    refine ⟨fun σ H' => σ = [some (.ref a), some (.ref L)] ∧ Same H H' ∧ H' L = some (.lst (((["world"] : List Str).filter fun t => decide (t = z)).map V.str)), ?_, ?_⟩
    · refine ⟨_, rfl, D, rfl, rfl, k.C, .ref X_NotWorld, .ref X_NotWorld, _, rfl, fun _ r => r, k.k0, _, rfl, ?_⟩
      by_cases c : ("world" : Str) = z
      · refine if_pos_of (decide_eq_true c) ⟨_, rfl, .inl ⟨rfl, _, .inl (.inl st0.2)⟩, L, _, _, rfl, rfl, st0.2, Nat.lt_of_le_of_lt (fl_len z ([] : List Str)) (Nat.lt_of_lt_of_le (by decide : ([] : List Str).length < 20) (by omega)), ?_⟩
        refine ⟨rfl, Same.mut st0.1 nL, ?_⟩
        rw [show (["world"] : List Str) = ([] : List Str) ++ (["world"] : List Str) from rfl, fl_pos c]
        exact upd_same
      · refine if_neg_of (fun h => c (of_decide_eq_true h)) ⟨rfl, st0.1, ?_⟩
        rw [show (["world"] : List Str) = ([] : List Str) ++ (["world"] : List Str) from rfl, fl_neg c]
        exact st0.2
    clear st0
    rintro σ H1 ⟨rfl, st0⟩
    refine ⟨fun σ H' => σ = [some (.ref a), some (.ref L)] ∧ Same H H' ∧ H' L = some (.lst (((["world", "family"] : List Str).filter fun t => decide (t = z)).map V.str)), ?_, ?_⟩
    · refine ⟨_, rfl, D, rfl, rfl, k.C, .ref X_NotFamily, .ref X_NotFamily, _, rfl, fun _ r => r, k.k1, _, rfl, ?_⟩
      by_cases c : ("family" : Str) = z
      · refine if_pos_of (decide_eq_true c) ⟨_, rfl, .inl ⟨rfl, _, .inl (.inl st0.2)⟩, L, _, _, rfl, rfl, st0.2, Nat.lt_of_le_of_lt (fl_len z (["world"] : List Str)) (Nat.lt_of_lt_of_le (by decide : (["world"] : List Str).length < 20) (by omega)), ?_⟩
        refine ⟨rfl, Same.mut st0.1 nL, ?_⟩
        rw [show (["world", "family"] : List Str) = (["world"] : List Str) ++ (["family"] : List Str) from rfl, fl_pos c]
        exact upd_same
      · refine if_neg_of (fun h => c (of_decide_eq_true h)) ⟨rfl, st0.1, ?_⟩
        rw [show (["world", "family"] : List Str) = (["world"] : List Str) ++ (["family"] : List Str) from rfl, fl_neg c]
        exact st0.2
    clear st0
    rintro σ H2 ⟨rfl, st0⟩
    refine ⟨fun σ H' => σ = [some (.ref a), some (.ref L)] ∧ Same H H' ∧ H' L = some (.lst (((["world", "family", "diagram"] : List Str).filter fun t => decide (t = z)).map V.str)), ?_, ?_⟩
    · refine ⟨_, rfl, D, rfl, rfl, k.C, .ref CD, .ref CD, _, rfl, fun _ r => r, k.k2, _, rfl, ?_⟩
      by_cases c : ("diagram" : Str) = z
      · refine if_pos_of (decide_eq_true c) ⟨_, rfl, .inl ⟨rfl, _, .inl (.inl st0.2)⟩, L, _, _, rfl, rfl, st0.2, Nat.lt_of_le_of_lt (fl_len z (["world", "family"] : List Str)) (Nat.lt_of_lt_of_le (by decide : (["world", "family"] : List Str).length < 20) (by omega)), ?_⟩
        refine ⟨rfl, Same.mut st0.1 nL, ?_⟩
        rw [show (["world", "family", "diagram"] : List Str) = (["world", "family"] : List Str) ++ (["diagram"] : List Str) from rfl, fl_pos c]
        exact upd_same
      · refine if_neg_of (fun h => c (of_decide_eq_true h)) ⟨rfl, st0.1, ?_⟩
        rw [show (["world", "family", "diagram"] : List Str) = (["world", "family"] : List Str) ++ (["diagram"] : List Str) from rfl, fl_neg c]
        exact st0.2
    clear st0
    rintro σ H3 ⟨rfl, st0⟩
    refine ⟨fun σ H' => σ = [some (.ref a), some (.ref L)] ∧ Same H H' ∧ H' L = some (.lst (((["world", "family", "diagram", "value"] : List Str).filter fun t => decide (t = z)).map V.str)), ?_, ?_⟩
    · refine ⟨_, rfl, D, rfl, rfl, k.C, .ref X_NotNumber, .ref X_NotNumber, _, rfl, fun _ r => r, k.k3, _, rfl, ?_⟩
      by_cases c : ("value" : Str) = z
      · refine if_pos_of (decide_eq_true c) ⟨_, rfl, .inl ⟨rfl, _, .inl (.inl st0.2)⟩, L, _, _, rfl, rfl, st0.2, Nat.lt_of_le_of_lt (fl_len z (["world", "family", "diagram"] : List Str)) (Nat.lt_of_lt_of_le (by decide : (["world", "family", "diagram"] : List Str).length < 20) (by omega)), ?_⟩
        refine ⟨rfl, Same.mut st0.1 nL, ?_⟩
        rw [show (["world", "family", "diagram", "value"] : List Str) = (["world", "family", "diagram"] : List Str) ++ (["value"] : List Str) from rfl, fl_pos c]
        exact upd_same
      · refine if_neg_of (fun h => c (of_decide_eq_true h)) ⟨rfl, st0.1, ?_⟩
        rw [show (["world", "family", "diagram", "value"] : List Str) = (["world", "family", "diagram"] : List Str) ++ (["value"] : List Str) from rfl, fl_neg c]
        exact st0.2
    clear st0
    rintro σ H4 ⟨rfl, st0⟩
    refine ⟨fun σ H' => σ = [some (.ref a), some (.ref L)] ∧ Same H H' ∧ H' L = some (.lst (((["world", "family", "diagram", "value", "word"] : List Str).filter fun t => decide (t = z)).map V.str)), ?_, ?_⟩
    · refine ⟨_, rfl, D, rfl, rfl, k.C, .ref X_NotWord, .ref X_NotWord, _, rfl, fun _ r => r, k.k4, _, rfl, ?_⟩
      by_cases c : ("word" : Str) = z
      · refine if_pos_of (decide_eq_true c) ⟨_, rfl, .inl ⟨rfl, _, .inl (.inl st0.2)⟩, L, _, _, rfl, rfl, st0.2, Nat.lt_of_le_of_lt (fl_len z (["world", "family", "diagram", "value"] : List Str)) (Nat.lt_of_lt_of_le (by decide : (["world", "family", "diagram", "value"] : List Str).length < 20) (by omega)), ?_⟩
        refine ⟨rfl, Same.mut st0.1 nL, ?_⟩
        rw [show (["world", "family", "diagram", "value", "word"] : List Str) = (["world", "family", "diagram", "value"] : List Str) ++ (["word"] : List Str) from rfl, fl_pos c]
        exact upd_same
      · refine if_neg_of (fun h => c (of_decide_eq_true h)) ⟨rfl, st0.1, ?_⟩
        rw [show (["world", "family", "diagram", "value", "word"] : List Str) = (["world", "family", "diagram", "value"] : List Str) ++ (["word"] : List Str) from rfl, fl_neg c]
        exact st0.2
    clear st0
    rintro σ H5 ⟨rfl, st0⟩
    refine ⟨fun σ H' => σ = [some (.ref a), some (.ref L)] ∧ Same H H' ∧ H' L = some (.lst (((["world", "family", "diagram", "value", "word", "matrix"] : List Str).filter fun t => decide (t = z)).map V.str)), ?_, ?_⟩
    · refine ⟨_, rfl, D, rfl, rfl, k.C, .ref X_NotMatrix, .ref X_NotMatrix, _, rfl, fun _ r => r, k.k5, _, rfl, ?_⟩
      by_cases c : ("matrix" : Str) = z
      · refine if_pos_of (decide_eq_true c) ⟨_, rfl, .inl ⟨rfl, _, .inl (.inl st0.2)⟩, L, _, _, rfl, rfl, st0.2, Nat.lt_of_le_of_lt (fl_len z (["world", "family", "diagram", "value", "word"] : List Str)) (Nat.lt_of_lt_of_le (by decide : (["world", "family", "diagram", "value", "word"] : List Str).length < 20) (by omega)), ?_⟩
        refine ⟨rfl, Same.mut st0.1 nL, ?_⟩
        rw [show (["world", "family", "diagram", "value", "word", "matrix"] : List Str) = (["world", "family", "diagram", "value", "word"] : List Str) ++ (["matrix"] : List Str) from rfl, fl_pos c]
        exact upd_same
      · refine if_neg_of (fun h => c (of_decide_eq_true h)) ⟨rfl, st0.1, ?_⟩
        rw [show (["world", "family", "diagram", "value", "word", "matrix"] : List Str) = (["world", "family", "diagram", "value", "word"] : List Str) ++ (["matrix"] : List Str) from rfl, fl_neg c]
        exact st0.2
    clear st0
    rintro σ H6 ⟨rfl, st0⟩
    refine ⟨fun σ H' => σ = [some (.ref a), some (.ref L)] ∧ Same H H' ∧ H' L = some (.lst (((["world", "family", "diagram", "value", "word", "matrix", "number"] : List Str).filter fun t => decide (t = z)).map V.str)), ?_, ?_⟩
    · refine ⟨_, rfl, D, rfl, rfl, k.C, .ref CB, .ref CB, _, rfl, fun _ r => r, k.k6, _, rfl, ?_⟩
      by_cases c : ("number" : Str) = z
      · refine if_pos_of (decide_eq_true c) ⟨_, rfl, .inl ⟨rfl, _, .inl (.inl st0.2)⟩, L, _, _, rfl, rfl, st0.2, Nat.lt_of_le_of_lt (fl_len z (["world", "family", "diagram", "value", "word", "matrix"] : List Str)) (Nat.lt_of_lt_of_le (by decide : (["world", "family", "diagram", "value", "word", "matrix"] : List Str).length < 20) (by omega)), ?_⟩
        refine ⟨rfl, Same.mut st0.1 nL, ?_⟩
        rw [show (["world", "family", "diagram", "value", "word", "matrix", "number"] : List Str) = (["world", "family", "diagram", "value", "word", "matrix"] : List Str) ++ (["number"] : List Str) from rfl, fl_pos c]
        exact upd_same
      · refine if_neg_of (fun h => c (of_decide_eq_true h)) ⟨rfl, st0.1, ?_⟩
        rw [show (["world", "family", "diagram", "value", "word", "matrix", "number"] : List Str) = (["world", "family", "diagram", "value", "word", "matrix"] : List Str) ++ (["number"] : List Str) from rfl, fl_neg c]
        exact st0.2
    clear st0
    rintro σ H7 ⟨rfl, st0⟩
    refine ⟨fun σ H' => σ = [some (.ref a), some (.ref L)] ∧ Same H H' ∧ H' L = some (.lst (((["world", "family", "diagram", "value", "word", "matrix", "number", "answer"] : List Str).filter fun t => decide (t = z)).map V.str)), ?_, ?_⟩
    · refine ⟨_, rfl, D, rfl, rfl, k.C, .ref X_NoAnswer, .ref X_NoAnswer, _, rfl, fun _ r => r, k.k7, _, rfl, ?_⟩
      by_cases c : ("answer" : Str) = z
      · refine if_pos_of (decide_eq_true c) ⟨_, rfl, .inl ⟨rfl, _, .inl (.inl st0.2)⟩, L, _, _, rfl, rfl, st0.2, Nat.lt_of_le_of_lt (fl_len z (["world", "family", "diagram", "value", "word", "matrix", "number"] : List Str)) (Nat.lt_of_lt_of_le (by decide : (["world", "family", "diagram", "value", "word", "matrix", "number"] : List Str).length < 20) (by omega)), ?_⟩
        refine ⟨rfl, Same.mut st0.1 nL, ?_⟩
        rw [show (["world", "family", "diagram", "value", "word", "matrix", "number", "answer"] : List Str) = (["world", "family", "diagram", "value", "word", "matrix", "number"] : List Str) ++ (["answer"] : List Str) from rfl, fl_pos c]
        exact upd_same
      · refine if_neg_of (fun h => c (of_decide_eq_true h)) ⟨rfl, st0.1, ?_⟩
        rw [show (["world", "family", "diagram", "value", "word", "matrix", "number", "answer"] : List Str) = (["world", "family", "diagram", "value", "word", "matrix", "number"] : List Str) ++ (["answer"] : List Str) from rfl, fl_neg c]
        exact st0.2
    clear st0
    rintro σ H8 ⟨rfl, st0⟩
    refine ⟨fun σ H' => σ = [some (.ref a), some (.ref L)] ∧ Same H H' ∧ H' L = some (.lst (((["world", "family", "diagram", "value", "word", "matrix", "number", "answer", "large"] : List Str).filter fun t => decide (t = z)).map V.str)), ?_, ?_⟩
    · refine ⟨_, rfl, D, rfl, rfl, k.C, .ref CT, .ref CT, _, rfl, fun _ r => r, k.k8, _, rfl, ?_⟩
      by_cases c : ("large" : Str) = z
      · refine if_pos_of (decide_eq_true c) ⟨_, rfl, .inl ⟨rfl, _, .inl (.inl st0.2)⟩, L, _, _, rfl, rfl, st0.2, Nat.lt_of_le_of_lt (fl_len z (["world", "family", "diagram", "value", "word", "matrix", "number", "answer"] : List Str)) (Nat.lt_of_lt_of_le (by decide : (["world", "family", "diagram", "value", "word", "matrix", "number", "answer"] : List Str).length < 20) (by omega)), ?_⟩
        refine ⟨rfl, Same.mut st0.1 nL, ?_⟩
        rw [show (["world", "family", "diagram", "value", "word", "matrix", "number", "answer", "large"] : List Str) = (["world", "family", "diagram", "value", "word", "matrix", "number", "answer"] : List Str) ++ (["large"] : List Str) from rfl, fl_pos c]
        exact upd_same
      · refine if_neg_of (fun h => c (of_decide_eq_true h)) ⟨rfl, st0.1, ?_⟩
        rw [show (["world", "family", "diagram", "value", "word", "matrix", "number", "answer", "large"] : List Str) = (["world", "family", "diagram", "value", "word", "matrix", "number", "answer"] : List Str) ++ (["large"] : List Str) from rfl, fl_neg c]
        exact st0.2
    clear st0
    rintro σ H9 ⟨rfl, st0⟩
    refine ⟨fun σ H' => σ = [some (.ref a), some (.ref L)] ∧ Same H H' ∧ H' L = some (.lst (((["world", "family", "diagram", "value", "word", "matrix", "number", "answer", "large"] : List Str).filter fun t => decide (t = z)).map V.str)), ?_, ?_⟩
    · refine ⟨_, rfl, D, rfl, rfl, k.C, .ref X_Malformed, .ref X_Malformed, _, rfl, fun _ r => r, k.k9, _, rfl, ?_⟩
      exact if_neg_of Bool.false_ne_true ⟨rfl, st0⟩
    clear st0
    rintro σ H10 ⟨rfl, st0⟩
    have e1 : ((["world", "family", "diagram", "value", "word", "matrix", "number", "answer", "large"] : List Str).filter fun t => decide (t = z)) = [z] := by
      have n := k.n
      simp only [List.mem_cons, List.not_mem_nil, or_false] at n
      rcases n with rfl | rfl | rfl | rfl | rfl | rfl | rfl | rfl | rfl <;> decide
    rw [e1] at st0
    have zl : z.length ≤ 20 := by
      have n := k.n
      simp only [List.mem_cons, List.not_mem_nil, or_false] at n
      rcases n with rfl | rfl | rfl | rfl | rfl | rfl | rfl | rfl | rfl <;> decide
    refine ⟨_, rfl, L, _, rfl, .inl (.inl (.inl st0.2)), rfl, _, rfl, if_pos_of rfl ⟨_, rfl, D, rfl, rfl, k.C, .ref CE, .ref CE, true, rfl, fun _ r => r, k.e, _, rfl, if_pos_of rfl ?_⟩⟩
    exact ⟨_, rfl, L, _, 0, .str z, rfl, rfl, .inl (.inl st0.2), rfl, "!", z, rfl, rfl, Nat.le_trans (Nat.add_le_add_left zl _) (Nat.le_trans (by decide) szl), q _ st0.1⟩
end

/-! ### all tuples of colours: _colourings, _law_colours -/
def accC (d : Nat) (l : List (List Int)) : List (List Int) := (l.map fun row => addC row d).flatten
theorem accC_snoc (d : Nat) (l : List (List Int)) (row : List Int) : accC d (l ++ [row]) = accC d l ++ addC row d := by
  unfold accC
  rw [List.map_append, List.flatten_append]
  show _ ++ (_ ++ []) = _
  rw [List.append_nil]
theorem accC_take (d : Nat) (l : List (List Int)) (i : Nat) : (accC d (l.take i)).length ≤ (accC d l).length := by
  conv => rhs; rw [← List.take_append_drop i l]
  unfold accC
  rw [List.map_append, List.flatten_append, List.length_append]
  omega
theorem addC_take {row : List Int} {d j : Nat} (h : j < d) : (addC row d).take (j + 1) = (addC row d).take j ++ [row ++ [(j : Int)]] := by
  unfold addC
  rw [List.take_succ, List.getElem?_map, List.getElem?_range h]
  rfl
theorem addC_len (row : List Int) (d : Nat) : (addC row d).length = d := by
  unfold addC
  rw [List.length_map, List.length_range]
theorem pow_up {d k N : Nat} (h : 0 < d) (hk : k ≤ N) (e : d ^ N ≤ 1024) : d ^ k ≤ 1024 := Nat.le_trans (Nat.pow_le_pow_right h hk) e
section
variable {P : Program} {w : World} {K : PySem.W.Frag} {mg : Str → Option Value} {base : Heap}
def spColT : Sp := fun vs H Q _ => ∃ d N : Nat, vs = [.int (d : Int), .int (N : Int)] ∧ 0 < d ∧ d ≤ 4 ∧ N ≤ 12 ∧ d ^ N ≤ 1024 ∧ ∀ (R : Addr) (ps : List V) (H' : Hp), Same H H' → H R = none → H' R = some (.lst ps) → Paired (TP H') ps (rowsC d N) → Q (.ref R) H'
theorem ok_law_colours {f : Addr} {fd : FuncData} (F : Fun K "_law_colours" "_law_colours" s_law_colours f fd) (z_range : mg "range" = none) :
    FnOk P w K mg base CX0 1 f fd ["d", "count"] spColT := by
  refine F.ok sc_law_colours (fun vs H Q E h => ?_) (fun cdv A outer s H vs Q E hr h => ?_)
  · obtain ⟨d, N, rfl, _⟩ := h
    rfl
  · obtain ⟨d, N, rfl, hd0, hd, hN, hp, q⟩ := h
    refine ⟨_, (pss_cons (ps_set (i := 2) sc_law_colours.nd rfl (.inl rfl) (pe_lst (pa_cons (pe_tup pa_nil) pa_nil)))
  (pss_cons (ps_for PassesOwn.never rfl (pi_range1 rfl z_range (pa_cons (pv 1) pa_nil)) (pg_name (i := 3) sc_law_colours.nd rfl (.inl rfl)) (pss_cons (ps_set (i := 4) sc_law_colours.nd rfl (.inl rfl) (pe_lst pa_nil))
  (pss_cons (ps_for PassesOwn.never rfl (pi_list (pv 2)) (pg_name (i := 5) sc_law_colours.nd rfl (.inr rfl)) (pss_one (ps_set (i := 4) sc_law_colours.nd rfl (.inl rfl) (pe_op op_cat (pv 4) (pe_lc (own := [("colour", 6)]) rfl sc_law_colours.nd (pi_range1 rfl z_range (pa_cons (pv 0) pa_nil)) (blkOk_by (N := ["d", "count", "rows", "j", "longer", "row", "colour"]) (sc := defScope s_law_colours) (by first | decide +kernel | rfl)) (fun _ _ _ _ _ => (pg_name (i := 6) sc_law_colours.nd rfl (.inl rfl))) (fun _ _ _ _ _ => pts_nil) (fun _ _ _ _ _ => (pe_op op_catC (pv 5) (pe_tup (pa_cons (pv 6) pa_nil)))))))))
  (pss_one (ps_set (i := 2) sc_law_colours.nd rfl (.inl rfl) (pv 4))))))
  (pss_one (ps_ret (pv 2))))), ?_⟩
    have szl : 20000 ≤ sizeLine := by decide
    refine ⟨(by show 0 ≤ sizeLine; omega), fun e1 ne1 => ⟨(by show 1 ≤ sizeLine; omega), fun R0 nR0 => ?_⟩⟩
    have w0 := same_upd (o := .lst [V.ref e1]) nR0
    have s1 : Same H (upd (upd H e1 (.tup [])) R0 (.lst [.ref e1])) := Same.trans (same_upd ne1) w0
    have pr1 : Paired (TP (upd (upd H e1 (.tup [])) R0 (.lst [.ref e1]))) [.ref e1] (rowsC d 0) := .cons ⟨e1, rfl, w0 _ _ upd_same⟩ .nil
    have hR1 : upd (upd H e1 (.tup [])) R0 (.lst [.ref e1]) R0 = some (.lst [.ref e1]) := upd_same
    have nR : H R0 = none := none_back (same_upd ne1) nR0
    revert s1 pr1 hR1
    generalize upd (upd H e1 (.tup [])) R0 (.lst [.ref e1]) = H1
    intro s1 pr1 hR1
    clear w0
    refine ⟨_, rfl, (N : Int), rfl, by omega, by omega, ?_⟩
    rw [show ((N : Nat) : Int).toNat = N from rfl]
    refine for_range (lo := 0) (n := N) (fun k σ H' => ∃ (R : Addr) (ps : List V) (v3 v4 v5 v6 : Option V), σ = [some (.int (d : Int)), some (.int (N : Int)), some (.ref R), v3, v4, v5, v6] ∧ Same H H' ∧ H R = none ∧ H' R = some (.lst ps) ∧ Paired (TP H') ps (rowsC d k))
      ⟨R0, _, none, none, none, none, rfl, s1, nR, hR1, pr1⟩ (fun k σ H3 hk hP => ?_) (fun σ H3 hP => ?_)
    · obtain ⟨R, ps, v3, v4, v5, v6, rfl, s3, nR, hR, pr⟩ := hP
      refine ⟨(by show 0 ≤ sizeLine; omega), fun L nL => ?_⟩
      have tot : (accC d (rowsC d k)).length ≤ 1024 := by
        show (rowsC d (k + 1)).length ≤ _
        rw [rowsC_len]
        exact pow_up hd0 (by omega) hp
      have w1 := same_upd (o := .lst []) nL
      refine ⟨_, rfl, R, rfl, ⟨_, .inl (.inl (w1 _ _ hR))⟩, for_list (xs := ps) (fun i σ H' => ∃ (L : Addr) (qs : List V) (v5 v6 : Option V), σ = [some (.int (d : Int)), some (.int (N : Int)), some (.ref R), some (.int (0 + (k : Int))), some (.ref L), v5, v6] ∧ Same H3 H' ∧ H3 L = none ∧ H' L = some (.lst qs) ∧ Paired (TP H') qs (accC d ((rowsC d k).take i)))
        ⟨L, [], v5, v6, rfl, w1, nL, upd_same, .nil⟩ (fun i σ H' _ ⟨_, _, _, _, _, s', _⟩ => .inl (.inl (s' _ _ hR))) (fun i x σ H4 hx hP => ?_) (fun σ H4 hP => ?_)⟩
      · obtain ⟨L, qs, v5, v6, rfl, s4, nL, hL, pq⟩ := hP
        obtain ⟨row, er, ax, rfl, hax⟩ := paired_get pr hx
        have et : (rowsC d k).take (i + 1) = (rowsC d k).take i ++ [row] := by rw [List.take_succ, er]; rfl
        have atk := accC_take d (rowsC d k) (i + 1)
        rw [et, accC_snoc] at atk ⊢
        have lrow := (rowsC_ok (List.mem_of_getElem? er)).1
        have ha4 := s4 _ _ hax
        refine ⟨_, rfl, _, rfl, (d : Int), rfl, by omega, by omega, fun D nD => ?_⟩
        rw [show ((d : Nat) : Int).toNat = d from rfl]
        have aD : ax ≠ D := ne_of_none ha4 nD
        refine lc_range (lo := 0) (n := d) (fun j H' => SameBut D H4 H' ∧ ∃ us, H' D = some (.lst us) ∧ Paired (TP H') us ((addC row d).take j)) ⟨SameBut.upd, [], upd_same, .nil⟩ (fun j H6 hj hP => ?_) (fun H6 hP => ?_)
        · obtain ⟨sb, us, hD, pu⟩ := hP
          refine ⟨rfl, ?_⟩
          rw [show (0 : Int) + (j : Int) = (j : Int) from Int.zero_add _]
          have lu : us.length ≤ 20 := by
            rw [pu.length, List.length_take]
            omega
          have ha6 := sb _ _ aD ha4
          refine ⟨_, rfl, _, rfl, (by show 1 ≤ sizeLine; omega), fun q1 nq1 => ?_⟩
          have x1 := same_upd (o := .tup [V.int (j : Int)]) nq1
          refine ⟨_, _, _, _, rfl, rfl, x1 _ _ ha6, upd_same, by rw [List.length_map]; show _ + 1 ≤ _; omega, fun q2 H7 x2 hq2 => ?_⟩
          have x2 := Same.trans x1 x2
          have hq2 : H7 q2 = some (.tup ((row ++ [(j : Int)]).map V.int)) := by rw [hq2, List.map_append]; rfl
          have hD7 := x2 _ _ hD
          refine ⟨_, hD7, by omega, sb.trans fun b o nb e => SameBut.upd b o nb (x2 b o e), _, upd_same, ?_⟩
          rw [addC_take hj]
          exact Paired.mapP (paired_add ⟨q2, rfl, hq2⟩ (Paired.mapP pu fun _ _ h => h.same x2)) fun _ _ h => TP.butL hD7 SameBut.upd h
        · obtain ⟨sb, us, hD, pu⟩ := hP
          rw [List.take_of_length_le (Nat.le_of_eq (addC_len row d))] at pu
          have s56 : Same H4 H6 := fun b o e => sb b o (ne_of_none e nD) e
          refine ⟨_, _, _, _, rfl, rfl, s56 _ _ hL, hD, ?_, fun M nM => ?_⟩
          · rw [pq.length, pu.length]
            rw [List.length_append] at atk
            omega
          · have y1 := Same.trans s56 (same_upd (o := .lst (qs ++ us)) nM)
            refine ⟨M, _, _, _, rfl, Same.trans s4 y1, none_back s4 (none_back s56 nM), upd_same, paired_app (Paired.mapP pq fun _ _ h => h.same y1) (Paired.mapP pu fun _ _ h => h.same (same_upd nM))⟩
      · obtain ⟨L, qs, v5, v6, rfl, s4, nL, hL, pq⟩ := hP
        rw [pr.length, List.take_length] at pq
        exact ⟨_, rfl, L, qs, _, _, _, _, rfl, Same.trans s3 s4, none_back s3 nL, hL, pq⟩
    · obtain ⟨R, ps, v3, v4, v5, v6, rfl, s3, nR, hR, pr⟩ := hP
      exact ⟨_, rfl, q R ps H3 s3 nR hR pr⟩
theorem ok_colourings_ {f : Addr} {fd : FuncData} (F : Fun K "_colourings" "_colourings" s_colourings_ f fd) (z_range : mg "range" = none) :
    FnOk P w K mg base CX0 1 f fd ["d", "points"] spColT := by
  refine F.ok sc_colourings_ (fun vs H Q E h => ?_) (fun cdv A outer s H vs Q E hr h => ?_)
  · obtain ⟨d, N, rfl, _⟩ := h
    rfl
  · obtain ⟨d, N, rfl, hd0, hd, hN, hp, q⟩ := h
    refine ⟨_, (pss_cons (ps_set (i := 2) sc_colourings_.nd rfl (.inl rfl) (pe_lst (pa_cons (pe_tup pa_nil) pa_nil)))
  (pss_cons (ps_for PassesOwn.never rfl (pi_range1 rfl z_range (pa_cons (pv 1) pa_nil)) (pg_name (i := 3) sc_colourings_.nd rfl (.inl rfl)) (pss_one (ps_setLc2 (i := 2) (own := [("row", 4), ("colour", 5)]) (vs1 := [5]) rfl sc_colourings_.nd rfl rfl (sw_true rfl rfl rfl (by decide +kernel)) (pi_list (pv 2)) (blkOk_by (N := ["d", "points", "rows", "_", "row", "colour"]) (sc := defScope s_colourings_) (by decide +kernel)) (by decide) (fun _ _ _ _ _ => (pg_name (i := 4) sc_colourings_.nd rfl (.inl rfl))) (fun _ _ _ _ _ => pts_nil) (fun _ _ _ _ _ => (pi_range1 rfl z_range (pa_cons (pv 0) pa_nil))) (fun _ _ _ _ _ => (pg_name (i := 5) sc_colourings_.nd rfl (.inl rfl))) (fun _ _ _ _ _ => pts_nil) (fun _ _ _ _ _ => (pe_op op_catC (pv 4) (pe_tup (pa_cons (pv 5) pa_nil)))))))
  (pss_one (ps_ret (pv 2))))), ?_⟩
    have szl : 20000 ≤ sizeLine := by decide
    refine ⟨(by show 0 ≤ sizeLine; omega), fun e1 ne1 => ⟨(by show 1 ≤ sizeLine; omega), fun R0 nR0 => ?_⟩⟩
    have w0 := same_upd (o := .lst [V.ref e1]) nR0
    have s1 : Same H (upd (upd H e1 (.tup [])) R0 (.lst [.ref e1])) := Same.trans (same_upd ne1) w0
    have pr1 : Paired (TP (upd (upd H e1 (.tup [])) R0 (.lst [.ref e1]))) [.ref e1] (rowsC d 0) := .cons ⟨e1, rfl, w0 _ _ upd_same⟩ .nil
    have hR1 : upd (upd H e1 (.tup [])) R0 (.lst [.ref e1]) R0 = some (.lst [.ref e1]) := upd_same
    have nR : H R0 = none := none_back (same_upd ne1) nR0
    revert s1 pr1 hR1
    generalize upd (upd H e1 (.tup [])) R0 (.lst [.ref e1]) = H1
    intro s1 pr1 hR1
    clear w0
    refine ⟨_, rfl, (N : Int), rfl, by omega, by omega, ?_⟩
    rw [show ((N : Nat) : Int).toNat = N from rfl]
    refine for_range (lo := 0) (n := N) (fun k σ H' => ∃ (R : Addr) (ps : List V) (v3 : Option V), σ = [some (.int (d : Int)), some (.int (N : Int)), some (.ref R), v3, none, none] ∧ Same H H' ∧ H R = none ∧ H' R = some (.lst ps) ∧ Paired (TP H') ps (rowsC d k))
      ⟨R0, _, none, rfl, s1, nR, hR1, pr1⟩ (fun k σ H3 hk hP => ?_) (fun σ H3 hP => ?_)
    · obtain ⟨R, ps, v3, rfl, s3, nR, hR, pr⟩ := hP
      have tot : (accC d (rowsC d k)).length ≤ 1024 := by
        show (rowsC d (k + 1)).length ≤ _
        rw [rowsC_len]
        exact pow_up hd0 (by omega) hp
      refine ⟨_, rfl, R, rfl, ⟨_, .inl (.inl hR)⟩, fun D nD => ?_⟩
      have hRD : R ≠ D := ne_of_none hR nD
      refine walkD_list (xs := ps) (fun i H' => SameBut D H3 H' ∧ ∃ qs, H' D = some (.lst qs) ∧ Paired (TP H') qs (accC d ((rowsC d k).take i))) ⟨SameBut.upd, [], upd_same, .nil⟩ (fun i H' hP => .inl (.inl (hP.1 _ _ hRD hR))) (fun i x H4 hi hP => ?_) (fun H4 hP => ?_)
      · obtain ⟨sb, qs, hD, pq⟩ := hP
        obtain ⟨row, er, ax, rfl, hax⟩ := paired_get pr hi
        have et : (rowsC d k).take (i + 1) = (rowsC d k).take i ++ [row] := by rw [List.take_succ, er]; rfl
        have atk := accC_take d (rowsC d k) (i + 1)
        rw [et, accC_snoc] at atk ⊢
        have lrow := (rowsC_ok (List.mem_of_getElem? er)).1
        have aD : ax ≠ D := ne_of_none hax nD
        rw [List.length_append, addC_len] at atk
        refine ⟨rfl, _, rfl, (d : Int), rfl, by omega, by omega, ?_⟩
        rw [show ((d : Nat) : Int).toNat = d from rfl]
        refine walkD_range (lo := 0) (n := d) (fun j H' => SameBut D H3 H' ∧ ∃ qs, H' D = some (.lst qs) ∧ Paired (TP H') qs (accC d ((rowsC d k).take i) ++ (addC row d).take j)) ⟨sb, qs, hD, by rw [List.take_zero, List.append_nil]; exact pq⟩ (fun j H6 hj hP => ?_) (fun H6 hP => ?_)
        · obtain ⟨sb, us, hD, pu⟩ := hP
          refine ⟨rfl, ?_⟩
          rw [show (0 : Int) + (j : Int) = (j : Int) from Int.zero_add _]
          have lu : us.length ≤ 1030 := by
            rw [pu.length, List.length_append, List.length_take]
            omega
          have ha6 := sb _ _ aD hax
          refine ⟨_, rfl, _, rfl, (by show 1 ≤ sizeLine; omega), fun q1 nq1 => ?_⟩
          have x1 := same_upd (o := .tup [V.int (j : Int)]) nq1
          refine ⟨_, _, _, _, rfl, rfl, x1 _ _ ha6, upd_same, by rw [List.length_map]; show _ + 1 ≤ _; omega, fun q2 H7 x2 hq2 => ?_⟩
          have x2 := Same.trans x1 x2
          have hq2 : H7 q2 = some (.tup ((row ++ [(j : Int)]).map V.int)) := by rw [hq2, List.map_append]; rfl
          have hD7 := x2 _ _ hD
          refine ⟨_, hD7, by omega, sb.trans fun b o nb e => SameBut.upd b o nb (x2 b o e), _, upd_same, ?_⟩
          rw [addC_take hj, ← List.append_assoc]
          exact Paired.mapP (paired_add ⟨q2, rfl, hq2⟩ (Paired.mapP pu fun _ _ h => h.same x2)) fun _ _ h => TP.butL hD7 SameBut.upd h
        · obtain ⟨sb, us, hD, pu⟩ := hP
          rw [List.take_of_length_le (Nat.le_of_eq (addC_len row d))] at pu
          exact ⟨sb, us, hD, pu⟩
      · obtain ⟨sb, qs, hD, pq⟩ := hP
        rw [pr.length, List.take_length] at pq
        have s34 : Same H3 H4 := fun b o e => sb b o (ne_of_none e nD) e
        exact ⟨D, qs, _, rfl, Same.trans s3 s34, none_back s3 nD, hD, pq⟩
    · obtain ⟨R, ps, v3, rfl, s3, nR, hR, pr⟩ := hP
      exact ⟨_, rfl, q R ps H3 s3 nR hR pr⟩
end

theorem cutN_to {l : List Int} {b : Nat} (h : b ≤ l.length) : cutV (l.map V.int) none (some (b : Int)) = (l.take b).map V.int := cutI_to (by omega) (by omega)
theorem cutN_from {l : List Int} {b : Nat} (h : b ≤ l.length) : cutV (l.map V.int) (some (b : Int)) none = (l.drop b).map V.int := cutI_from (by omega) (by omega)
theorem co_app (a b : List Int) (i : Nat) : co (a ++ b) i = if i < a.length then co a i else co b (i - a.length) := by
  unfold co
  rw [List.getD_eq_getElem?_getD, List.getElem?_append]
  split
  · rw [List.getD_eq_getElem?_getD]
  · rw [List.getD_eq_getElem?_getD]

/-! ### the place of a tuple of colours -/
def plc (d : Int) (r : List Int) : Int := r.foldl (fun f c => f * d + c) 0
theorem plc_snoc (d : Int) (r : List Int) (c : Int) : plc d (r ++ [c]) = plc d r * d + c := by
  unfold plc
  rw [List.foldl_append]
  rfl
def Dig (d : Nat) (r : List Int) : Prop := ∀ y ∈ r, 0 ≤ y ∧ y < (d : Int)
theorem plc_lt {d : Nat} (k : Nat) : ∀ {r : List Int}, r.length = k → Dig d r → 0 ≤ plc d r ∧ plc d r < ((d ^ k : Nat) : Int) := by
  induction k with
  | zero =>
    intro r h _
    rw [List.length_eq_zero_iff.mp h]
    exact ⟨Int.le_refl _, by show (0 : Int) < ((d ^ 0 : Nat) : Int); rw [Nat.pow_zero]; decide⟩
  | succ k ih =>
    intro r h hr
    have ne : r ≠ [] := fun e => by rw [e] at h; cases h
    have e := List.dropLast_concat_getLast ne
    have hl := hr (r.getLast ne) (List.getLast_mem ne)
    obtain ⟨a, b⟩ := ih (r := r.dropLast) (by rw [List.length_dropLast, h]; rfl) (fun y hy => hr y ((List.dropLast_sublist r).subset hy))
    rw [← e, plc_snoc, Nat.pow_succ, Int.natCast_mul]
    have h1 : 0 ≤ plc d r.dropLast * (d : Int) := Int.mul_nonneg a (by omega)
    have h2 : (plc d r.dropLast + 1) * (d : Int) ≤ ((d ^ k : Nat) : Int) * (d : Int) := Int.mul_le_mul_of_nonneg_right (by omega) (by omega)
    rw [Int.add_mul, Int.one_mul] at h2
    omega
theorem plc_inj {d : Nat} (k : Nat) : ∀ {r s : List Int}, r.length = k → s.length = k → Dig d r → Dig d s → plc d r = plc d s → r = s := by
  induction k with
  | zero =>
    intro r s h h' _ _ _
    rw [List.length_eq_zero_iff.mp h, List.length_eq_zero_iff.mp h']
  | succ k ih =>
    intro r s h h' hr hs e
    have ner : r ≠ [] := fun e => by rw [e] at h; cases h
    have nes : s ≠ [] := fun e => by rw [e] at h'; cases h'
    have er := List.dropLast_concat_getLast ner
    have es := List.dropLast_concat_getLast nes
    have lr := hr (r.getLast ner) (List.getLast_mem ner)
    have ls := hs (s.getLast nes) (List.getLast_mem nes)
    rw [← er, ← es, plc_snoc, plc_snoc] at e
    generalize r.getLast ner = c at *
    generalize s.getLast nes = c' at *
    have hc : c = c' := by
      have h1 := congrArg (· % (d : Int)) e
      rw [Int.add_comm (plc (d : Int) r.dropLast * (d : Int)), Int.add_comm (plc (d : Int) s.dropLast * (d : Int)), Int.add_mul_emod_self_right, Int.add_mul_emod_self_right, Int.emod_eq_of_lt lr.1 lr.2, Int.emod_eq_of_lt ls.1 ls.2] at h1
      exact h1
    subst hc
    have e2 : plc (d : Int) r.dropLast = plc (d : Int) s.dropLast := Int.eq_of_mul_eq_mul_right (show (d : Int) ≠ 0 by omega) (by omega)
    have := ih (r := r.dropLast) (s := s.dropLast) (by rw [List.length_dropLast, h]; rfl) (by rw [List.length_dropLast, h']; rfl) (fun y hy => hr y ((List.dropLast_sublist r).subset hy)) (fun y hy => hs y ((List.dropLast_sublist s).subset hy)) e2
    rw [← er, ← es, this]
/-- the colours of the points, by those of the blocks -/
def colP (g labs : List Int) : List Int := labs.map fun k => co g k.toNat
def placesL (d : Nat) (l : List Int) (n : Nat) (ex : Bool) : List (Int × Int) :=
  ((rowsC d (blocksOf l).length).filter fun g => !ex || decide g.Nodup).map fun g => (plc d ((colP g (labL (blocksOf l) l.length)).take n), plc d ((colP g (labL (blocksOf l) l.length)).drop n))
theorem labL_below {l : List Int} : ∀ x ∈ labL (blocksOf l) l.length, 0 ≤ x ∧ x < ((blocksOf l).length : Int) := fun x hx => by
  rw [labL_marks] at hx
  obtain ⟨v, hv, rfl⟩ := List.mem_map.mp hx
  have : (seenL [] l).idxOf v < (seenL [] l).length := List.idxOf_lt_length_of_mem ((seenL_mem l [] v).mpr (.inr hv))
  have e : (blocksOf l).length = (seenL [] l).length := by
    unfold blocksOf
    rw [List.length_map]
  omega
theorem blocks_few (l : List Int) : (blocksOf l).length ≤ l.length := by
  have e : (blocksOf l).length = (seenL [] l).length := by
    unfold blocksOf
    rw [List.length_map]
  rw [e]
  exact List.Nodup.length_le_of_subset (seenL_nodup l [] List.nodup_nil) fun v hv => ((seenL_mem l [] v).mp hv).elim (fun z => nomatch z) id
/-- a pair of integers -/
def PP (H : Hp) (v : V) (x : Int × Int) : Prop := ∃ t, v = .ref t ∧ H t = some (.tup [.int x.1, .int x.2])
theorem PP.same {H H' : Hp} {v : V} {z : Int × Int} (s : Same H H') (h : PP H v z) : PP H' v z := by
  obtain ⟨t, rfl, h⟩ := h
  exact ⟨t, rfl, s _ _ h⟩
theorem PP.butL {H H' : Hp} {r : Addr} {ys : List V} {v : V} {z : Int × Int} (hr : H r = some (.lst ys)) (s : SameBut r H H') (h : PP H v z) : PP H' v z := by
  obtain ⟨a, rfl, h⟩ := h
  exact ⟨a, rfl, s _ _ (ne_of h hr (fun z => nomatch z)) h⟩
theorem nodup_iff_len {L ns : List Int} (nd : L.Nodup) (h : ∀ k, k ∈ L ↔ k ∈ ns) : L.length = ns.length ↔ ns.Nodup := by
  constructor
  · intro e
    by_cases c : ns.Nodup
    · exact c
    · exfalso
      have p : ∀ (ns L : List Int), L.Nodup → (∀ k ∈ L, k ∈ ns) → ¬ ns.Nodup → L.length < ns.length := by
        intro ns
        induction ns with
        | nil => intro L _ _ c; exact absurd List.nodup_nil c
        | cons a ns ih =>
          intro L nd hs c
          by_cases ha : a ∈ ns
          · have : ∀ k ∈ L, k ∈ ns := fun k hk => (List.mem_cons.mp (hs k hk)).elim (fun e => e ▸ ha) id
            have := List.Nodup.length_le_of_subset nd this
            rw [List.length_cons]
            omega
          · have c' : ¬ ns.Nodup := fun z => c (List.nodup_cons.mpr ⟨ha, z⟩)
            have := ih (L.erase a) (nd.erase a) (fun k hk => (List.mem_cons.mp (hs k (List.mem_of_mem_erase hk))).elim (fun e => absurd (e ▸ hk) (List.Nodup.not_mem_erase nd)) id) c'
            have le : L.length ≤ (L.erase a).length + 1 := by rw [List.length_erase]; split <;> omega
            rw [List.length_cons]
            omega
      have := p ns L nd (fun k hk => (h k).mp hk) c
      omega
  · intro c
    exact Nat.le_antisymm (List.Nodup.length_le_of_subset nd fun k hk => (h k).mp hk) (List.Nodup.length_le_of_subset c fun k hk => (h k).mpr hk)
section
variable {P : Program} {w : World} {K : PySem.W.Frag} {mg : Str → Option Value} {base : Heap}
def spPlace (K : PySem.W.Frag) : Sp := fun vs H Q _ => ∃ (d : Nat) (a : Addr) (r : List Int), vs = [.int (d : Int), .ref a] ∧ SqL K H a (r.map V.int) ∧ d ≤ 4 ∧ d ^ r.length ≤ 1024 ∧ 0 < d ∧ Dig d r ∧ Q (.int (plc d r)) H
theorem ok_place_ {f : Addr} {fd : FuncData} (F : Fun K "_place" "_place" s_place_ f fd) :
    FnOk P w K mg base CX0 1 f fd ["d", "colours"] (spPlace K) := by
  refine F.ok sc_place_ (fun vs H Q E h => ?_) (fun cdv A outer s H vs Q E hr h => ?_)
  · obtain ⟨d, a, r, rfl, _⟩ := h
    rfl
  · obtain ⟨d, a, r, rfl, ha, hd, hp, hd0, dg, q⟩ := h
    refine ⟨_, (pss_cons (ps_set (i := 2) sc_place_.nd rfl (.inl rfl) pe_int)
  (pss_cons (ps_for PassesOwn.never rfl (pi_list (pv 1)) (pg_name (i := 3) sc_place_.nd rfl (.inl rfl)) (pss_one (ps_set (i := 2) sc_place_.nd rfl (.inl rfl) (pe_op op_add (pe_op op_mul (pv 2) (pv 0)) (pv 3)))))
  (pss_one (ps_ret (pv 2))))), ?_⟩
    refine ⟨_, rfl, a, rfl, ⟨_, ha⟩, for_list (xs := r.map V.int) (fun i σ H' => ∃ v3 : Option V, σ = [some (.int (d : Int)), some (.ref a), some (.int (plc d (r.take i))), v3] ∧ H' = H) ⟨none, rfl, rfl⟩ (fun i σ H' _ ⟨_, _, e⟩ => by rw [e]; exact ha) (fun i x σ H' hx hP => ?_) (fun σ H' hP => ?_)⟩
    · obtain ⟨v3, rfl, rfl⟩ := hP
      rw [List.getElem?_map] at hx
      obtain ⟨c, hc, rfl⟩ := Option.map_eq_some_iff.mp hx
      have hi := (List.getElem?_eq_some_iff.mp hc).1
      have e1 : r.take (i + 1) = r.take i ++ [c] := by rw [List.take_succ, hc]; rfl
      have b := plc_lt (d := d) i (r := r.take i) (by rw [List.length_take]; omega) (fun y hy => dg y (List.mem_of_mem_take hy))
      have p1 : d ^ i ≤ 1024 := Nat.le_trans (Nat.pow_le_pow_right hd0 (by omega)) hp
      refine ⟨_, rfl, _, rfl, _, _, rfl, rfl, .inl ⟨by omega, by omega⟩, _, rfl, _, _, rfl, rfl, ⟨_, by rw [e1, plc_snoc]; rfl, rfl⟩⟩
    · obtain ⟨v3, rfl, rfl⟩ := hP
      rw [List.length_map, List.take_length]
      exact ⟨_, rfl, q⟩
def spPlaces : Sp := fun vs H Q _ => ∃ (v : V) (d n m : Nat) (l : List Int) (ex : Bool), vs = [.int (d : Int), v, .bl ex] ∧ DgAt H v n m l ∧ 0 < d ∧ d ≤ 4 ∧ d ^ (n + m) ≤ 1024 ∧
  ∀ (R : Addr) (ps : List V) (H' : Hp), Same H H' → H R = none → H' R = some (.lst ps) → Paired (PP H') ps (placesL d l n ex) → Q (.ref R) H'
theorem ok_places_ {f CD : Addr} {fd : FuncData} (F : Fun K "_places" "_places" s_places_ f fd) (z_len : mg "len" = none) (z_set : mg "set" = none)
    {a_labels : Addr} {fd_labels : FuncData} (G_labels : FnOk P w K mg base (L2N.CX P w) 4 a_labels fd_labels ["diagram"] (spLabels CD)) (g_labels : mg "labels" = some (.ref a_labels)) (k_labels : PySem.W.keepIn K (.ref a_labels) = true) (b_labels : Binds K fd_labels ["diagram"] [])
    {a_colourings_ : Addr} {fd_colourings_ : FuncData} (G_colourings_ : FnOk P w K mg base CX0 1 a_colourings_ fd_colourings_ ["d", "points"] spColT) (g_colourings_ : mg "_colourings" = some (.ref a_colourings_)) (k_colourings_ : PySem.W.keepIn K (.ref a_colourings_) = true) (b_colourings_ : Binds K fd_colourings_ ["d", "points"] [])
    {a_place_ : Addr} {fd_place_ : FuncData} (G_place_ : FnOk P w K mg base CX0 1 a_place_ fd_place_ ["d", "colours"] (spPlace K)) (g_place_ : mg "_place" = some (.ref a_place_)) (k_place_ : PySem.W.keepIn K (.ref a_place_) = true) (b_place_ : Binds K fd_place_ ["d", "colours"] []) :
    FnOk P w K mg base (L2N.CX P w) 5 f fd ["d", "diagram", "exact"] spPlaces := by
  refine F.okXN sc_places_ (fun vs H Q E h => ?_) (fun cdv A outer s H vs Q E hr h => ?_)
  · obtain ⟨v, d, n, m, l, ex, rfl, _⟩ := h
    rfl
  · obtain ⟨v, d, n, m, l, ex, rfl, da, hd0, hd, hp, q⟩ := h
    refine ⟨_, (pss_cons (ps_asg (pv 1) (pg_tup rfl (pgs_cons (pg_name (i := 3) sc_places_.nd rfl (.inl rfl)) (pgs_cons (pg_name (i := 4) sc_places_.nd rfl (.inl rfl)) (pgs_cons (pg_name (i := 5) sc_places_.nd rfl (.inl rfl)) pgs_nil)))))
  (pss_cons (ps_set (i := 6) sc_places_.nd rfl (.inl rfl) (pe_call G_labels (hr.mono (by decide)) rfl g_labels k_labels b_labels .nil (L2N.passes_call (L2N.takes_of rfl rfl rfl rfl) (fun _ _ _ _ h => h)) (pa_cons (pv 1) pa_nil)))
  (pss_cons (ps_set (i := 7) sc_places_.nd rfl (.inl rfl) (pe_lst pa_nil))
  (pss_cons (ps_for (passes_of rfl) rfl (pi_list (pe_call G_colourings_ (hr.mono (by decide)) rfl g_colourings_ k_colourings_ b_colourings_ .nil pass0 (pa_cons (pv 0) (pa_cons (pe_callB call_len_seq (by rfl) z_len boot_len (pa_cons (pv 5) pa_nil)) pa_nil)))) (pg_name (i := 8) sc_places_.nd rfl (.inr rfl)) (pss_one (ps_if (L2.PW.pt (pw_or (pt_not (pt_truth (pv 2) (by intro _; rfl))) (pw_or1 (pt_cmpR op_eq ((SD.pe_lenSetT rfl rfl z_len rfl z_set (pv 8))) (pe_callB call_len_seq (by rfl) z_len boot_len (pa_cons (pv 5) pa_nil)) (nomark _))))) (pss_cons (ps_setLc (i := 9) (own := [("mark", 10)]) rfl sc_places_.nd rfl rfl (sw_true rfl rfl rfl (by decide +kernel)) (pi_list (pv 6)) (blkOk_by (N := ["d", "diagram", "exact", "n", "_", "blocks", "marks", "found", "colouring", "colours", "mark"]) (sc := defScope s_places_) (by first | decide +kernel | rfl)) (fun _ _ _ _ _ => (pg_name (i := 10) sc_places_.nd rfl (.inl rfl))) (fun _ _ _ _ _ => pts_nil) (fun _ _ _ _ _ => (pe_ix (ix_tupK (K := K) rfl) (pv 8) (pv 10) (fun _ _ => rfl))))
  (pss_one (ps_expr (pe_bm PySem.F.plainAttrs_list PySem.F.slot_list_append PySem.F.type_list_append mt_append (pv 7) (pa_cons (pe_tup (pa_cons (pe_call G_place_ (hr.mono (by decide)) rfl g_place_ k_place_ b_place_ .nil pass0 (pa_cons (pv 0) (pa_cons (pe_slice sl_list (pv 9) po_none (po_some (pv 3))) pa_nil))) (pa_cons (pe_call G_place_ (hr.mono (by decide)) rfl g_place_ k_place_ b_place_ .nil pass0 (pa_cons (pv 0) (pa_cons (pe_slice sl_list (pv 9) (po_some (pv 3)) po_none) pa_nil))) pa_nil))) pa_nil))))) pss_nil)))
  (pss_one (ps_ret (pv 7))))))), ?_⟩
    have szl : 20000 ≤ sizeLine := by decide
    have hs := siz_iff.mp da.2.1
    have hl := da.2.2
    obtain ⟨hv, _, _⟩ := id da
    have dg := da.dg
    obtain ⟨t, vb, rfl, ht, tb, ts, rfl, htb, pr⟩ := hv
    have lts : ts.length = (blocksOf l).length := pr.length
    have lb := blocks_few l
    have pb : d ^ (blocksOf l).length ≤ 1024 := pow_up hd0 (show _ ≤ n + m by omega) hp
    refine ⟨_, rfl, t, _, rfl, .inl (.inl ht), rfl, _, _, rfl, _, _, rfl, _, _, rfl, rfl, ?_⟩
    refine ⟨_, rfl, .ref t, n, m, blocksOf l, rfl, da.1, da.ok, fun nd => absurd dg nd, fun _ M H1 s1 nM hM => ?_⟩
    rw [show ((n : Int) + (m : Int)).toNat = l.length by omega] at hM
    have eb := labL_below (l := l)
    have ll : (labL (blocksOf l) l.length).length = l.length := labL_len _ _
    generalize eL : labL (blocksOf l) l.length = labs at hM eb ll
    refine ⟨(by show 0 ≤ sizeLine; omega), fun R nR => ?_⟩
    have w1 := same_upd (o := .lst []) nR
    refine ⟨_, rfl, _, rfl, tb, ts, rfl, .inr (.inl (.inl (w1 _ _ (s1 _ _ htb)))), d, ts.length, rfl, hd0, hd, by omega, by rw [lts]; exact pb, fun C cs H2 s2 nC hC pC => ?_⟩
    have s02 : Same H1 H2 := Same.trans w1 s2
    have hM2 := s02 _ _ hM
    have hb2 := s02 _ _ (s1 _ _ htb)
    have hR2 := s2 _ _ (upd_same (H := H1) (a := R) (o := .lst []))
    rw [lts] at pC
    have MR : M ≠ R := ne_of_none hM nR
    have CR : C ≠ R := fun z => by rw [z, upd_same] at nC; exact nomatch nC
    refine ⟨C, rfl, ⟨_, .inl (.inl hC)⟩, for_list (xs := cs) (fun i σ H' => ∃ (v8 v9 : Option V), σ = [some (.int (d : Int)), some (.ref t), some (.bl ex), some (.int (n : Int)), some (.int (m : Int)), some (.ref tb), some (.ref M), some (.ref R), v8, v9, none] ∧ SameBut R H2 H' ∧ ∃ ps, H' R = some (.lst ps) ∧
      Paired (PP H') ps ((((rowsC d (blocksOf l).length).take i).filter fun g => !ex || decide g.Nodup).map fun g => (plc d ((colP g labs).take n), plc d ((colP g labs).drop n)))) ⟨none, none, rfl, SameBut.refl _ _, [], hR2, .nil⟩ (fun i σ H' _ hP => ?_) (fun i x σ H' hx hP => ?_) (fun σ H' hP => ?_)⟩
    · obtain ⟨v8, v9, rfl, sb, ps, hR, pp⟩ := hP
      exact .inl (.inl (sb _ _ CR hC))
    · obtain ⟨v8, v9, rfl, sb, ps, hR, pp⟩ := hP
      obtain ⟨g, eg, tg, rfl, htg⟩ := paired_get pC hx
      obtain ⟨lg, dgg⟩ := rowsC_ok (List.mem_of_getElem? eg)
      have hM' : H' M = some (.lst (labs.map V.int)) := sb _ _ MR hM2
      have htg' : H' tg = some (.tup (g.map V.int)) := sb _ _ (fun z => by rw [z, hR2] at htg; exact nomatch htg) htg
      have hb' : H' tb = some (.tup ts) := sb _ _ (fun z => by rw [z, hR2] at hb2; exact nomatch hb2) hb2
      have lcg : (colP g labs).length = l.length := by unfold colP; rw [List.length_map, ll]
      have dcg : Dig d (colP g labs) := fun y hy => by
        obtain ⟨k, hk, rfl⟩ := List.mem_map.mp hy
        have := eb k hk
        exact dgg _ (co_mem (by omega))
      have lps : ps.length ≤ 1024 := by
        rw [pp.length, List.length_map]
        refine Nat.le_trans (List.length_filter_le _ _) ?_
        rw [List.length_take, rowsC_len]
        omega
      have et : (((rowsC d (blocksOf l).length).take (i + 1)).filter fun g => !ex || decide g.Nodup).map (fun g => (plc d ((colP g labs).take n), plc d ((colP g labs).drop n))) = if (!ex || decide g.Nodup) = true then (((rowsC d (blocksOf l).length).take i).filter fun g => !ex || decide g.Nodup).map (fun g => (plc d ((colP g labs).take n), plc d ((colP g labs).drop n))) ++ [(plc d ((colP g labs).take n), plc d ((colP g labs).drop n))] else (((rowsC d (blocksOf l).length).take i).filter fun g => !ex || decide g.Nodup).map (fun g => (plc d ((colP g labs).take n), plc d ((colP g labs).drop n))) := by
        rw [List.take_succ, eg, List.filter_append, List.map_append]
        show _ ++ List.map _ (List.filter _ [g]) = _
        rw [List.filter_cons]
        by_cases c : (!ex || decide g.Nodup) = true
        · rw [if_pos c, if_pos c]
          rfl
        · rw [if_neg c, if_neg c]
          exact List.append_nil _
      cases ex with
      | false =>
        have keep : (!false || decide g.Nodup) = true := rfl
        refine ⟨_, rfl, false, rfl, ?_⟩
        refine iteT (iteT ?_)
        refine ⟨_, rfl, M, rfl, ⟨_, .inl (.inl hM')⟩, fun D nD => ?_⟩
        have DR : D ≠ R := fun z => by rw [z, hR] at nD; exact nomatch nD
        have kD : ∀ {H'' : Hp}, SameBut D H' H'' → Same H' H'' := fun sb b o e => sb b o (ne_of_none e nD) e
        refine lc_list (xs := labs.map V.int) (fun j H'' => SameBut D H' H'' ∧ H'' D = some (.lst ((((labs.take j).map fun k => co g k.toNat)).map V.int))) ⟨SameBut.upd, upd_same⟩ (fun j H'' _ hP => .inl (.inl (kD hP.1 _ _ hM'))) (fun j x H3 hx hP => ?_) (fun H3 hP => ?_)
        · obtain ⟨sb3, hD⟩ := hP
          rw [List.getElem?_map] at hx
          obtain ⟨c, hc, rfl⟩ := Option.map_eq_some_iff.mp hx
          obtain ⟨c0, c1⟩ := eb c (List.mem_of_getElem? hc)
          have hj := (List.getElem?_eq_some_iff.mp hc).1
          refine ⟨rfl, _, rfl, _, rfl, tg, g.map V.int, c, .int (co g c.toNat), rfl, rfl, .inl (.inl (kD sb3 _ _ htg')), ?_, _, hD, by rw [List.length_map, List.length_map, List.length_take]; omega, sb3.trans SameBut.upd, ?_⟩
          · have e2 : (g.map V.int)[c.toNat]? = some (.int (co g c.toNat)) := by rw [List.getElem?_map, co_get (show c.toNat < g.length by omega)]; rfl
            have := atI_nat (j := c.toNat) e2
            rwa [show ((c.toNat : Nat) : Int) = c by omega] at this
          · rw [upd_same, List.take_succ, hc, List.map_append, List.map_append]
            rfl
        · obtain ⟨sb3, hD⟩ := hP
          rw [List.length_map, List.take_length] at hD
          have hD : H3 D = some (.lst ((colP g labs).map V.int)) := hD
          have s3 := kD sb3
          refine ⟨_, rfl, .inl ⟨rfl, _, .inl (.inl (s3 _ _ hR))⟩, _, rfl, _, rfl, _, rfl, _, rfl, D, _, rfl, .inl (.inl hD), fun q1 nq1 => ?_⟩
          have w1 := same_upd (o := .lst (cutV ((colP g labs).map V.int) none (some (n : Int)))) nq1
          have hq1 : upd H3 q1 (.lst (cutV ((colP g labs).map V.int) none (some (n : Int)))) q1 = some (.lst (((colP g labs).take n).map V.int)) := by rw [upd_same, cutN_to (by rw [lcg]; omega)]
          revert w1 hq1
          generalize upd H3 q1 (.lst (cutV ((colP g labs).map V.int) none (some (n : Int)))) = H4
          intro w1 hq1
          refine ⟨d, q1, _, rfl, .inl (.inl hq1), hd, pow_up hd0 (by rw [List.length_take]; omega) hp, hd0, (fun y hy => dcg y (List.mem_of_mem_take hy)), ?_⟩
          refine ⟨_, rfl, _, rfl, _, rfl, _, rfl, D, _, rfl, .inl (.inl (w1 _ _ hD)), fun q2 nq2 => ?_⟩
          have w2 := Same.trans w1 (same_upd (o := .lst (cutV ((colP g labs).map V.int) (some (n : Int)) none)) nq2)
          have hq2 : upd H4 q2 (.lst (cutV ((colP g labs).map V.int) (some (n : Int)) none)) q2 = some (.lst (((colP g labs).drop n).map V.int)) := by rw [upd_same, cutN_from (by rw [lcg]; omega)]
          revert w2 hq2
          generalize upd H4 q2 (.lst (cutV ((colP g labs).map V.int) (some (n : Int)) none)) = H5
          intro w2 hq2
          refine ⟨d, q2, _, rfl, .inl (.inl hq2), hd, pow_up hd0 (by rw [List.length_drop, lcg]; omega) hp, hd0, (fun y hy => dcg y (List.mem_of_mem_drop hy)), ?_⟩
          refine ⟨(by show 2 ≤ sizeLine; omega), fun u nu => ?_⟩
          have w3 := Same.trans (Same.trans s3 w2) (same_upd (o := .tup [.int (plc d ((colP g labs).take n)), .int (plc d ((colP g labs).drop n))]) nu)
          have hu : upd H5 u (.tup [.int (plc d ((colP g labs).take n)), .int (plc d ((colP g labs).drop n))]) u = some (.tup [.int (plc d ((colP g labs).take n)), .int (plc d ((colP g labs).drop n))]) := upd_same
          revert w3 hu
          generalize upd H5 u (.tup [.int (plc d ((colP g labs).take n)), .int (plc d ((colP g labs).drop n))]) = H6
          intro w3 hu
          have hR6 := w3 _ _ hR
          refine ⟨R, _, _, rfl, rfl, hR6, by omega, _, _, rfl, sb.trans (fun b o nb e => SameBut.upd b o nb (w3 b o e)), _, upd_same, ?_⟩
          rw [et, if_pos keep]
          exact Paired.mapP (paired_add ⟨u, rfl, hu⟩ (Paired.mapP pp fun _ _ h => h.same w3)) fun _ _ h => PP.butL hR6 SameBut.upd h
      | true =>
        refine ⟨_, rfl, true, rfl, ?_⟩
        refine iteF ⟨_, rfl, tg, g, rfl, .inl (.inl htg'), by omega, fun L nL mL => ?_⟩
        refine ⟨_, rfl, tb, ts, rfl, .inr (.inl (.inl hb')), rfl, _, rfl, ?_⟩
        have nl := nodup_iff_len nL mL
        by_cases c : g.Nodup
        · have keep : (!true || decide g.Nodup) = true := by rw [decide_eq_true c]; rfl
          refine if_pos_of (decide_eq_true (by rw [nl.mpr c, lg, lts])) ?_
          refine ⟨_, rfl, M, rfl, ⟨_, .inl (.inl hM')⟩, fun D nD => ?_⟩
          have DR : D ≠ R := fun z => by rw [z, hR] at nD; exact nomatch nD
          have kD : ∀ {H'' : Hp}, SameBut D H' H'' → Same H' H'' := fun sb b o e => sb b o (ne_of_none e nD) e
          refine lc_list (xs := labs.map V.int) (fun j H'' => SameBut D H' H'' ∧ H'' D = some (.lst ((((labs.take j).map fun k => co g k.toNat)).map V.int))) ⟨SameBut.upd, upd_same⟩ (fun j H'' _ hP => .inl (.inl (kD hP.1 _ _ hM'))) (fun j x H3 hx hP => ?_) (fun H3 hP => ?_)
          · obtain ⟨sb3, hD⟩ := hP
            rw [List.getElem?_map] at hx
            obtain ⟨c, hc, rfl⟩ := Option.map_eq_some_iff.mp hx
            obtain ⟨c0, c1⟩ := eb c (List.mem_of_getElem? hc)
            have hj := (List.getElem?_eq_some_iff.mp hc).1
            refine ⟨rfl, _, rfl, _, rfl, tg, g.map V.int, c, .int (co g c.toNat), rfl, rfl, .inl (.inl (kD sb3 _ _ htg')), ?_, _, hD, by rw [List.length_map, List.length_map, List.length_take]; omega, sb3.trans SameBut.upd, ?_⟩
            · have e2 : (g.map V.int)[c.toNat]? = some (.int (co g c.toNat)) := by rw [List.getElem?_map, co_get (show c.toNat < g.length by omega)]; rfl
              have := atI_nat (j := c.toNat) e2
              rwa [show ((c.toNat : Nat) : Int) = c by omega] at this
            · rw [upd_same, List.take_succ, hc, List.map_append, List.map_append]
              rfl
          · obtain ⟨sb3, hD⟩ := hP
            rw [List.length_map, List.take_length] at hD
            have hD : H3 D = some (.lst ((colP g labs).map V.int)) := hD
            have s3 := kD sb3
            refine ⟨_, rfl, .inl ⟨rfl, _, .inl (.inl (s3 _ _ hR))⟩, _, rfl, _, rfl, _, rfl, _, rfl, D, _, rfl, .inl (.inl hD), fun q1 nq1 => ?_⟩
            have w1 := same_upd (o := .lst (cutV ((colP g labs).map V.int) none (some (n : Int)))) nq1
            have hq1 : upd H3 q1 (.lst (cutV ((colP g labs).map V.int) none (some (n : Int)))) q1 = some (.lst (((colP g labs).take n).map V.int)) := by rw [upd_same, cutN_to (by rw [lcg]; omega)]
            revert w1 hq1
            generalize upd H3 q1 (.lst (cutV ((colP g labs).map V.int) none (some (n : Int)))) = H4
            intro w1 hq1
            refine ⟨d, q1, _, rfl, .inl (.inl hq1), hd, pow_up hd0 (by rw [List.length_take]; omega) hp, hd0, (fun y hy => dcg y (List.mem_of_mem_take hy)), ?_⟩
            refine ⟨_, rfl, _, rfl, _, rfl, _, rfl, D, _, rfl, .inl (.inl (w1 _ _ hD)), fun q2 nq2 => ?_⟩
            have w2 := Same.trans w1 (same_upd (o := .lst (cutV ((colP g labs).map V.int) (some (n : Int)) none)) nq2)
            have hq2 : upd H4 q2 (.lst (cutV ((colP g labs).map V.int) (some (n : Int)) none)) q2 = some (.lst (((colP g labs).drop n).map V.int)) := by rw [upd_same, cutN_from (by rw [lcg]; omega)]
            revert w2 hq2
            generalize upd H4 q2 (.lst (cutV ((colP g labs).map V.int) (some (n : Int)) none)) = H5
            intro w2 hq2
            refine ⟨d, q2, _, rfl, .inl (.inl hq2), hd, pow_up hd0 (by rw [List.length_drop, lcg]; omega) hp, hd0, (fun y hy => dcg y (List.mem_of_mem_drop hy)), ?_⟩
            refine ⟨(by show 2 ≤ sizeLine; omega), fun u nu => ?_⟩
            have w3 := Same.trans (Same.trans s3 w2) (same_upd (o := .tup [.int (plc d ((colP g labs).take n)), .int (plc d ((colP g labs).drop n))]) nu)
            have hu : upd H5 u (.tup [.int (plc d ((colP g labs).take n)), .int (plc d ((colP g labs).drop n))]) u = some (.tup [.int (plc d ((colP g labs).take n)), .int (plc d ((colP g labs).drop n))]) := upd_same
            revert w3 hu
            generalize upd H5 u (.tup [.int (plc d ((colP g labs).take n)), .int (plc d ((colP g labs).drop n))]) = H6
            intro w3 hu
            have hR6 := w3 _ _ hR
            refine ⟨R, _, _, rfl, rfl, hR6, by omega, _, _, rfl, sb.trans (fun b o nb e => SameBut.upd b o nb (w3 b o e)), _, upd_same, ?_⟩
            rw [et, if_pos keep]
            exact Paired.mapP (paired_add ⟨u, rfl, hu⟩ (Paired.mapP pp fun _ _ h => h.same w3)) fun _ _ h => PP.butL hR6 SameBut.upd h
        · have keep : ¬ (!true || decide g.Nodup) = true := by rw [decide_eq_false c]; exact Bool.false_ne_true
          refine if_neg_of (fun z => c (nl.mp (by have := V.int.inj (of_decide_eq_true z); omega))) ?_
          refine ⟨_, _, rfl, sb, ps, hR, ?_⟩
          rw [et, if_neg keep]
          exact pp
    · obtain ⟨v8, v9, rfl, sb, ps, hR, pp⟩ := hP
      rw [pC.length, List.take_length] at pp
      have sF : Same H1 H' := fun b o e => sb b o (ne_of_none e nR) (s02 b o e)
      refine ⟨_, rfl, q R ps H' (Same.trans s1 sF) (none_back s1 nR) hR ?_⟩
      unfold placesL
      rw [eL]
      exact pp
end

/-! ### tables in lists of lists -/
/-- a new list at L of new lists, no two of them the same -/
structure TabH (H0 H : Hp) (L : Addr) (rows : List (List V)) : Prop where
  fr : H0 L = none
  ex : ∃ us, H L = some (.lst us) ∧ us.Nodup ∧ Paired (fun v r => ∃ a, v = .ref a ∧ a ≠ L ∧ H0 a = none ∧ H a = some (.lst r)) us rows
theorem TabH.same {H0 H H' : Hp} {L : Addr} {rows : List (List V)} (s : Same H H') (t : TabH H0 H L rows) : TabH H0 H' L rows := by
  obtain ⟨f, us, hL, nd, pr⟩ := t
  refine ⟨f, us, s _ _ hL, nd, Paired.mapP pr fun _ _ h => ?_⟩
  obtain ⟨a, e, h1, h2, h3⟩ := h
  exact ⟨a, e, h1, h2, s _ _ h3⟩
theorem TabH.from {H0 H1 H : Hp} {L : Addr} {rows : List (List V)} (s : Same H0 H1) (t : TabH H1 H L rows) : TabH H0 H L rows := by
  obtain ⟨f, us, hL, nd, pr⟩ := t
  refine ⟨none_back s f, us, hL, nd, Paired.mapP pr fun _ _ h => ?_⟩
  obtain ⟨a, e, h1, h2, h3⟩ := h
  exact ⟨a, e, h1, none_back s h2, h3⟩
theorem paired_set {α β : Type} {F G : α → β → Prop} : ∀ {us : List α} {rows : List β} {i : Nat} {v : α} {r : β}, Paired F us rows → us[i]? = some v → us.Nodup → G v r → (∀ u b, u ≠ v → F u b → G u b) → Paired G us (rows.set i r)
  | _, _, _, _, _, .nil, e, _, _, _ => nomatch e
  | _ :: us, _ :: rows, 0, _, r, .cons f t, e, nd, g, k => by
    obtain rfl := Option.some.inj e
    obtain ⟨n1, _⟩ := List.nodup_cons.mp nd
    have : ∀ {us : List _} {rows : List _}, Paired F us rows → (∀ u ∈ us, u ≠ _) → Paired G us rows := fun {us rows} pr => by
      intro hu
      induction pr with
      | nil => exact .nil
      | cons f t ih => exact .cons (k _ _ (hu _ List.mem_cons_self) f) (ih fun u h => hu u (List.mem_cons_of_mem _ h))
    exact .cons g (this t fun u hu e => n1 (e ▸ hu))
  | u :: us, _ :: rows, i + 1, v, r, .cons f t, e, nd, g, k => by
    obtain ⟨n1, n2⟩ := List.nodup_cons.mp nd
    have e : us[i]? = some v := e
    exact .cons (k _ _ (fun z => n1 (z ▸ List.mem_of_getElem? e)) f) (paired_set t e n2 g k)
theorem TabH.set {H0 H : Hp} {L : Addr} {rows : List (List V)} (t : TabH H0 H L rows) {us : List V} (hL : H L = some (.lst us)) {i : Nat} {a : Addr} (e : us[i]? = some (.ref a)) (r : List V) : TabH H0 (upd H a (.lst r)) L (rows.set i r) := by
  obtain ⟨f, us', hL', nd, pr⟩ := t
  obtain rfl : us' = us := HO.lst.inj (Option.some.inj (hL'.symm.trans hL))
  obtain ⟨_, _, a', e', h1, h2, _⟩ := paired_get pr e
  obtain rfl := V.ref.inj e'
  refine ⟨f, us', by rw [upd_ne (Ne.symm h1)]; exact hL, nd, paired_set pr e nd ⟨a, rfl, h1, h2, upd_same⟩ fun u b ne h => ?_⟩
  obtain ⟨c, rfl, g1, g2, g3⟩ := h
  exact ⟨c, rfl, g1, g2, by rw [upd_ne fun z => ne (by rw [z])]; exact g3⟩
/-- what does not lie in the table stays -/
theorem TabH.out {H0 H : Hp} {L : Addr} {rows : List (List V)} (t : TabH H0 H L rows) {us : List V} (hL : H L = some (.lst us)) {i : Nat} {a : Addr} (e : us[i]? = some (.ref a)) (r : List V) : ∀ b o, H0 b = some o → H b = some o → upd H a (.lst r) b = some o := by
  obtain ⟨f, us', hL', nd, pr⟩ := t
  obtain rfl : us' = us := HO.lst.inj (Option.some.inj (hL'.symm.trans hL))
  obtain ⟨_, _, a', e', h1, h2, _⟩ := paired_get pr e
  obtain rfl := V.ref.inj e'
  intro b o e0 e1
  rw [upd_ne fun z => by rw [z, h2] at e0; cases e0]
  exact e1
theorem TabH.but {H0 H H' : Hp} {D L : Addr} {rows : List (List V)} {o : HO} (hD : H0 D = some o) (s : SameBut D H H') (t : TabH H0 H L rows) : TabH H0 H' L rows := by
  obtain ⟨f, us, hL, nd, pr⟩ := t
  have n1 : ∀ {a : Addr}, H0 a = none → a ≠ D := fun {a} h z => by rw [z, hD] at h; exact nomatch h
  refine ⟨f, us, s _ _ (n1 f) hL, nd, Paired.mapP pr fun _ _ h => ?_⟩
  obtain ⟨a, e, h1, h2, h3⟩ := h
  exact ⟨a, e, h1, h2, s _ _ (n1 h2) h3⟩
theorem TabH.new {H0 H : Hp} {L : Addr} (h0 : H0 L = none) (h : H L = some (.lst [])) : TabH H0 H L [] := ⟨h0, [], h, List.nodup_nil, .nil⟩
/-- a new row q at the end -/
theorem TabH.push {H0 H : Hp} {L q : Addr} {rows : List (List V)} {us : List V} {r : List V} (t : TabH H0 H L rows) (hL : H L = some (.lst us)) (nq : H q = none) (h0 : H0 q = none) :
    TabH H0 (upd (upd H q (.lst r)) L (.lst (us ++ [.ref q]))) L (rows ++ [r]) := by
  obtain ⟨f, us', hL', nd, pr⟩ := t
  obtain rfl : us' = us := HO.lst.inj (Option.some.inj (hL'.symm.trans hL))
  have qL : q ≠ L := fun z => by rw [z, hL] at nq; exact nomatch nq
  refine ⟨f, us' ++ [.ref q], upd_same, ?_, ?_⟩
  · rw [List.nodup_append]
    refine ⟨nd, List.nodup_cons.mpr ⟨List.not_mem_nil, List.nodup_nil⟩, fun a ha b hb e => ?_⟩
    rw [List.mem_singleton.mp hb] at e
    rw [e] at ha
    obtain ⟨i, hi, e⟩ := List.mem_iff_getElem.mp ha
    obtain ⟨_, _, a', e', _, _, h⟩ := paired_get pr (show us'[i]? = some (.ref q) by rw [List.getElem?_eq_getElem hi, e])
    obtain rfl := V.ref.inj e'
    rw [nq] at h
    exact nomatch h
  · refine paired_add ⟨q, rfl, qL, h0, by rw [upd_ne qL, upd_same]⟩ (Paired.mapP pr fun _ _ h => ?_)
    obtain ⟨a, e, h1, h2, h3⟩ := h
    exact ⟨a, e, h1, h2, by rw [upd_ne h1]; exact same_upd nq _ _ h3⟩
/-- a list that is not at D -/
def RowD (D : Addr) (H : Hp) (v : V) (z : List Int) : Prop := ∃ a, v = .ref a ∧ a ≠ D ∧ H a = some (.lst (z.map V.int))
theorem rowD_keep {D : Addr} {H H' : Hp} {x : V} {z : List Int} (sb : SameBut D H H') (h : RowD D H x z) : RowD D H' x z := by
  obtain ⟨a, rfl, ne, ha⟩ := h
  exact ⟨a, rfl, ne, sb _ _ ne ha⟩

def tabO (R C : Nat) (ps : List (Int × Int)) : List (List Int) := (List.range R).map fun (i : Nat) => (List.range C).map fun (j : Nat) => if ((i : Int), (j : Int)) ∈ ps then 1 else 0
theorem tabO_nil (R C : Nat) : (tabO R C []).map (fun r => r.map V.int) = List.replicate R (List.replicate C (V.int 0)) := by
  unfold tabO
  rw [List.map_map]
  refine List.eq_replicate_iff.mpr ⟨by rw [List.length_map, List.length_range], fun b hb => ?_⟩
  obtain ⟨i, _, rfl⟩ := List.mem_map.mp hb
  refine List.eq_replicate_iff.mpr ⟨by show (List.map _ (List.map _ (List.range C))).length = C; rw [List.length_map, List.length_map, List.length_range], fun b hb => ?_⟩
  obtain ⟨x, hx, rfl⟩ := List.mem_map.mp hb
  obtain ⟨j, _, rfl⟩ := List.mem_map.mp hx
  rfl
theorem tabO_row {R C : Nat} {ps : List (Int × Int)} {i : Nat} (h : i < R) : (tabO R C ps)[i]? = some ((List.range C).map fun (j : Nat) => if ((i : Int), (j : Int)) ∈ ps then 1 else 0) := by
  unfold tabO
  rw [List.getElem?_map, List.getElem?_range h]
  rfl
theorem tabO_set {R C : Nat} {ps : List (Int × Int)} {i j : Nat} (hi : i < R) (hj : j < C) :
    (tabO R C ps).set i (((List.range C).map fun (j' : Nat) => if ((i : Int), (j' : Int)) ∈ ps then (1 : Int) else 0).set j 1) = tabO R C (ps ++ [((i : Int), (j : Int))]) := by
  refine List.ext_getElem? fun a => ?_
  rw [List.getElem?_set]
  by_cases ha : a < R
  · by_cases e : i = a
    · subst e
      rw [if_pos rfl, if_pos (by unfold tabO; rw [List.length_map, List.length_range]; exact ha), tabO_row ha]
      congr 1
      refine List.ext_getElem? fun b => ?_
      rw [List.getElem?_set, List.length_map, List.length_range]
      by_cases hb : b < C
      · rw [List.getElem?_map, List.getElem?_range hb, List.getElem?_map, List.getElem?_range hb]
        by_cases e : j = b
        · subst e
          rw [if_pos rfl, if_pos hb]
          show some (1 : Int) = some (if _ then 1 else 0)
          rw [if_pos (List.mem_append_right _ (List.mem_singleton.mpr rfl))]
        · rw [if_neg e]
          show some (if _ then (1 : Int) else 0) = some (if _ then 1 else 0)
          congr 2
          refine propext ⟨fun h => List.mem_append_left _ h, fun h => (List.mem_append.mp h).elim id fun h => absurd (Int.ofNat.inj (congrArg Prod.snd (List.mem_singleton.mp h))).symm e⟩
      · rw [List.getElem?_eq_none (by rw [List.length_map, List.length_range]; omega), List.getElem?_eq_none (by rw [List.length_map, List.length_range]; omega)]
        by_cases e : j = b
        · rw [if_pos e, if_neg (by omega)]
        · rw [if_neg e]
    · rw [if_neg e, tabO_row ha, tabO_row ha]
      congr 1
      refine List.map_congr_left fun b _ => ?_
      congr 1
      refine propext ⟨fun h => List.mem_append_left _ h, fun h => (List.mem_append.mp h).elim id fun h => absurd (Int.ofNat.inj (congrArg Prod.fst (List.mem_singleton.mp h))).symm e⟩
  · have n1 : ∀ q, (tabO R C q)[a]? = none := fun q => List.getElem?_eq_none (by unfold tabO; rw [List.length_map, List.length_range]; omega)
    rw [n1, n1]
    by_cases e : i = a
    · rw [if_pos e, if_neg (by unfold tabO; rw [List.length_map, List.length_range]; omega)]
    · rw [if_neg e]
theorem placesL_in {d : Nat} {l : List Int} {n m : Nat} {ex : Bool} (hl : l.length = n + m) {p : Int × Int} (h : p ∈ placesL d l n ex) : ∃ i j : Nat, p = ((i : Int), (j : Int)) ∧ i < d ^ n ∧ j < d ^ m := by
  unfold placesL at h
  obtain ⟨g, hg, rfl⟩ := List.mem_map.mp h
  obtain ⟨lg, dg⟩ := rowsC_ok (List.mem_filter.mp hg).1
  have ll : (labL (blocksOf l) l.length).length = l.length := labL_len _ _
  have dc : Dig d (colP g (labL (blocksOf l) l.length)) := fun y hy => by
    obtain ⟨k, hk, rfl⟩ := List.mem_map.mp hy
    have := labL_below k hk
    exact dg _ (co_mem (by omega))
  have lc : (colP g (labL (blocksOf l) l.length)).length = l.length := by unfold colP; rw [List.length_map, ll]
  obtain ⟨a1, a2⟩ := plc_lt (d := d) n (r := (colP g (labL (blocksOf l) l.length)).take n) (by rw [List.length_take]; omega) fun y hy => dc y (List.mem_of_mem_take hy)
  obtain ⟨b1, b2⟩ := plc_lt (d := d) m (r := (colP g (labL (blocksOf l) l.length)).drop n) (by rw [List.length_drop]; omega) fun y hy => dc y (List.mem_of_mem_drop hy)
  exact ⟨_, _, Prod.ext (Int.toNat_of_nonneg a1).symm (Int.toNat_of_nonneg b1).symm, by omega, by omega⟩
section
variable {P : Program} {w : World} {K : PySem.W.Frag} {mg : Str → Option Value} {base : Heap}
def spCheckCol (CB : Addr) : Sp := fun vs H Q E => ∃ d : Int, vs = [.int d] ∧ (1 ≤ d ∧ d ≤ 4 → Q .non H) ∧ (¬ (1 ≤ d ∧ d ≤ 4) → E (.ref CB) none H)
theorem ok_check_colours_ {f CB : Addr} {fd : FuncData} {t4 : Tok} (F : Fun K "_check_colours" "_check_colours" s_check_colours_ f fd) (T : ErrC K mg "BadNumber" CB) (m_MOST_COLOURS : mg "MOST_COLOURS" = some (.int 4 t4)) :
    FnOk P w K mg base (L2N.CX P w) 1 f fd ["d"] (spCheckCol CB) := by
  obtain ⟨gc_BadNumber, x_BadNumber, kc_BadNumber, bc_BadNumber, tc_BadNumber⟩ := T
  have r_MOST_COLOURS : RelV (.int 4) (.int 4 t4) := ⟨_, rfl⟩
  refine F.okXN sc_check_colours_ (fun vs H Q E h => ?_) (fun cdv A outer s H vs Q E hr h => ?_)
  · obtain ⟨n, rfl, _⟩ := h
    rfl
  · obtain ⟨n, rfl, q, q1⟩ := h
    refine ⟨_, (pss_one (ps_if (pt_not (pt_chain op_le op_le pe_int (pv 0) (pe_glob rfl m_MOST_COLOURS r_MOST_COLOURS))) (pss_one (L2N.ps_raise rfl (L2N.takes_of rfl rfl rfl rfl) (L2N.pmk_own PySem.F.excBase_ValueError x_BadNumber gc_BadNumber kc_BadNumber (raises_own bc_BadNumber tc_BadNumber) rfl))) pss_nil)), ?_⟩
    refine ⟨_, rfl, _, _, rfl, rfl, _, rfl, ?_⟩
    by_cases c0 : 1 ≤ n
    · rw [decide_eq_true c0]
      refine iteT ⟨_, _, rfl, rfl, _, rfl, ?_⟩
      by_cases c1 : n ≤ 4
      · rw [decide_eq_true c1]
        exact iteF (q ⟨c0, c1⟩)
      · rw [decide_eq_false c1]
        exact iteT (q1 (fun z => c1 z.2))
    · rw [decide_eq_false c0]
      exact iteF ⟨_, rfl, iteT (q1 (fun z => c0 z.1))⟩
def spCheckEnt (CT : Addr) : Sp := fun vs H Q E => ∃ d N : Nat, vs = [.int (d : Int), .int (N : Int)] ∧ d ≤ 4 ∧ N ≤ 12 ∧ (d ^ N ≤ 1024 → Q .non H) ∧ (1024 < d ^ N → E (.ref CT) none H)
theorem ok_check_entries_ {f CT : Addr} {fd : FuncData} {t4 : Tok} (F : Fun K "_check_entries" "_check_entries" s_check_entries_ f fd) (T : ErrC K mg "TooLarge" CT) (m_MOST_ENTRIES : mg "MOST_ENTRIES" = some (.int 1024 t4)) (z_range : mg "range" = none) :
    FnOk P w K mg base (L2N.CX P w) 1 f fd ["d", "points"] (spCheckEnt CT) := by
  obtain ⟨gc_TooLarge, x_TooLarge, kc_TooLarge, bc_TooLarge, tc_TooLarge⟩ := T
  have r_MOST_ENTRIES : RelV (.int 1024) (.int 1024 t4) := ⟨_, rfl⟩
  refine F.okXN sc_check_entries_ (fun vs H Q E h => ?_) (fun cdv A outer s H vs Q E hr h => ?_)
  · obtain ⟨d, N, rfl, _⟩ := h
    rfl
  · obtain ⟨d, N, rfl, hd, hN, q, q1⟩ := h
    refine ⟨_, (pss_cons (ps_set (i := 2) sc_check_entries_.nd rfl (.inl rfl) pe_int)
  (pss_cons (ps_for (passes_of rfl) rfl (pi_range1 rfl z_range (pa_cons (pv 1) pa_nil)) (pg_name (i := 3) sc_check_entries_.nd rfl (.inl rfl)) (pss_one (ps_set (i := 2) sc_check_entries_.nd rfl (.inl rfl) (pe_op op_mul (pv 2) (pv 0)))))
  (pss_one (ps_if (pt_cmpR op_gt (pv 2) (pe_glob rfl m_MOST_ENTRIES r_MOST_ENTRIES) (nomark _)) (pss_one (L2N.ps_raise rfl (L2N.takes_of rfl rfl rfl rfl) (L2N.pmk_own PySem.F.excBase_ValueError x_TooLarge gc_TooLarge kc_TooLarge (raises_own bc_TooLarge tc_TooLarge) rfl))) pss_nil)))), ?_⟩
    refine ⟨_, rfl, (N : Int), rfl, by omega, by omega, ?_⟩
    rw [show ((N : Nat) : Int).toNat = N from rfl]
    refine for_range (lo := 0) (n := N) (fun k σ H' => ∃ v3 : Option V, σ = [some (.int (d : Int)), some (.int (N : Int)), some (.int ((d ^ k : Nat) : Int)), v3] ∧ H' = H) ⟨none, rfl, rfl⟩ (fun k σ H' hk hP => ?_) (fun σ H' hP => ?_)
    · obtain ⟨v3, rfl, rfl⟩ := hP
      exact ⟨_, rfl, _, rfl, _, _, rfl, rfl, .inr ⟨by omega, by omega⟩, ⟨_, by rw [Nat.pow_succ, Int.natCast_mul]; rfl, rfl⟩⟩
    · obtain ⟨v3, rfl, rfl⟩ := hP
      refine ⟨_, rfl, _, _, rfl, rfl, _, rfl, ?_⟩
      by_cases c : d ^ N ≤ 1024
      · exact if_neg_of (fun z => by have := of_decide_eq_true z; omega) (q c)
      · exact if_pos_of (decide_eq_true (by omega)) (q1 (by omega))
def spEmpty : Sp := fun vs H Q _ => ∃ (d n m : Nat) (x : V), vs = [.int (d : Int), .int (n : Int), .int (m : Int), x] ∧ 0 < d ∧ d ≤ 4 ∧ n ≤ 12 ∧ m ≤ 12 ∧ d ^ n ≤ 1024 ∧ d ^ m ≤ 1024 ∧
  ∀ (L : Addr) (H' : Hp), Same H H' → TabH H H' L (List.replicate (d ^ n) (List.replicate (d ^ m) x)) → Q (.ref L) H'
theorem ok_empty_ {f : Addr} {fd : FuncData} (F : Fun K "_empty" "_empty" s_empty_ f fd) (z_len : mg "len" = none)
    {a_colourings_ : Addr} {fd_colourings_ : FuncData} (G_colourings_ : FnOk P w K mg base CX0 1 a_colourings_ fd_colourings_ ["d", "points"] spColT) (g_colourings_ : mg "_colourings" = some (.ref a_colourings_)) (k_colourings_ : PySem.W.keepIn K (.ref a_colourings_) = true) (b_colourings_ : Binds K fd_colourings_ ["d", "points"] []) :
    FnOk P w K mg base CX0 2 f fd ["d", "n", "m", "entry"] spEmpty := by
  refine F.ok sc_empty_ (fun vs H Q E h => ?_) (fun cdv A outer s H vs Q E hr h => ?_)
  · obtain ⟨d, n, m, x, rfl, _⟩ := h
    rfl
  · obtain ⟨d, n, m, x, rfl, hd0, hd, hn, hm, en, em, q⟩ := h
    refine ⟨_, (pss_cons (ps_set (i := 4) sc_empty_.nd rfl (.inr rfl) (pe_callB call_len_seq (by rfl) z_len boot_len (pa_cons (pe_call G_colourings_ (hr.mono (by decide)) rfl g_colourings_ k_colourings_ b_colourings_ .nil pass0 (pa_cons (pv 0) (pa_cons (pv 2) pa_nil))) pa_nil)))
  (pss_one (ps_ret (pe_lc (own := [("_", 5)]) rfl sc_empty_.nd (pi_list (pe_call G_colourings_ (hr.mono (by decide)) rfl g_colourings_ k_colourings_ b_colourings_ .nil pass0 (pa_cons (pv 0) (pa_cons (pv 1) pa_nil)))) (blkOk_by (N := ["d", "n", "m", "entry", "width", "_"]) (sc := defScope s_empty_) (by first | decide +kernel | rfl)) (fun _ _ _ _ _ => (pg_name (i := 5) sc_empty_.nd rfl (.inl rfl))) (fun _ _ _ _ _ => pts_nil) (fun _ _ _ _ _ => (pe_op op_rep (pe_lst (pa_cons (pv 3) pa_nil)) (pv 4))))))), ?_⟩
    have szl : 20000 ≤ sizeLine := by decide
    refine ⟨_, rfl, _, rfl, d, m, rfl, hd0, hd, hm, em, fun M ms H1 s1 nM hM pM => ?_⟩
    have lm : ms.length = d ^ m := by rw [pM.length, rowsC_len]
    refine ⟨M, ms, rfl, .inl (.inl (.inl hM)), ?_⟩
    refine ⟨_, rfl, _, rfl, d, n, rfl, hd0, hd, hn, en, fun N ns H2 s2 nN hN pN => ?_⟩
    have ln : ns.length = d ^ n := by rw [pN.length, rowsC_len]
    have s02 := Same.trans s1 s2
    refine ⟨N, rfl, ⟨_, .inl (.inl hN)⟩, fun D nD => ?_⟩
    have ND : N ≠ D := ne_of_none hN nD
    refine lc_list (xs := ns) (fun i H' => SameBut D H2 H' ∧ ∃ us, H' D = some (.lst us) ∧ us.Nodup ∧ Paired (fun v r => ∃ a, v = .ref a ∧ a ≠ D ∧ H2 a = none ∧ H' a = some (.lst r)) us (List.replicate i (List.replicate (d ^ m) x))) ⟨SameBut.upd, [], upd_same, List.nodup_nil, .nil⟩ (fun i H' _ hP => .inl (.inl (hP.1 _ _ ND hN))) (fun i y H' hy hP => ?_) (fun H' hP => ?_)
    · obtain ⟨sb, us, hD, nd, pu⟩ := hP
      have hi := (List.getElem?_eq_some_iff.mp hy).1
      have lu := pu.length
      rw [List.length_replicate] at lu
      refine ⟨rfl, _, rfl, (by show 1 ≤ sizeLine; omega), fun q1 nq1 => ?_⟩
      have w1 := same_upd (o := .lst [x]) nq1
      refine ⟨_, rfl, q1, _, _, rfl, rfl, upd_same, by omega, by omega, by show 1 * _ ≤ _; rw [lm]; omega, fun q2 nq2 => ?_⟩
      have er : (List.replicate ((ms.length : Int)).toNat [x]).flatten = List.replicate (d ^ m) x := by rw [repT, lm]; rfl
      rw [er]
      have w2 := Same.trans w1 (same_upd (o := .lst (List.replicate (d ^ m) x)) nq2)
      have h2 : upd (upd H' q1 (.lst [x])) q2 (.lst (List.replicate (d ^ m) x)) q2 = some (.lst (List.replicate (d ^ m) x)) := upd_same
      have hD7 := w2 _ _ hD
      have q2D : q2 ≠ D := fun e => by rw [e] at nq2; exact nomatch nq2.symm.trans (w1 _ _ hD)
      have fq : H2 q2 = none := by
        cases e : H2 q2 with
        | none => rfl
        | some o => exact nomatch nq2.symm.trans (w1 _ _ (sb _ _ q2D e))
      have nin : V.ref q2 ∉ us := fun hin => by
        obtain ⟨i, hi, e⟩ := List.mem_iff_getElem.mp hin
        obtain ⟨_, _, a, e', _, _, ha⟩ := paired_get pu (show us[i]? = some (.ref q2) by rw [List.getElem?_eq_getElem hi, e])
        obtain rfl := V.ref.inj e'
        exact nomatch nq2.symm.trans (w1 _ _ ha)
      revert w2 h2 hD7
      generalize upd (upd H' q1 (.lst [x])) q2 (.lst (List.replicate (d ^ m) x)) = H7
      intro w2 h2 hD7
      have sB : SameBut D H' (upd H7 D (.lst (us ++ [.ref q2]))) := fun b o nb e => SameBut.upd b o nb (w2 b o e)
      refine ⟨us, hD7, by omega, sb.trans sB, _, upd_same, ?_, ?_⟩
      · rw [List.nodup_append]
        exact ⟨nd, List.nodup_cons.mpr ⟨List.not_mem_nil, List.nodup_nil⟩, fun a ha b hb => by rw [List.mem_singleton.mp hb]; exact fun e => nin (e ▸ ha)⟩
      · rw [List.replicate_succ']
        refine paired_add ⟨q2, rfl, q2D, fq, SameBut.upd _ _ q2D h2⟩ (Paired.mapP pu fun _ _ h => ?_)
        obtain ⟨a, e, h1, h3, h4⟩ := h
        exact ⟨a, e, h1, h3, sB _ _ h1 h4⟩
    · obtain ⟨sb, us, hD, nd, pu⟩ := hP
      rw [ln] at pu
      have s3 : Same H2 H' := fun b o e => sb b o (ne_of_none e nD) e
      exact q D H' (Same.trans s02 s3) (TabH.from s02 ⟨nD, us, hD, nd, pu⟩)
def tabD (d : Nat) (l : List Int) (n m : Nat) (ex : Bool) : List (List Int) := tabO (d ^ n) (d ^ m) (placesL d l n ex)
/-- how a table is told: errors and the table -/
def TabOf (CB CD CT : Addr) (ex : Bool) (d : Int) (v : V) (n m : Int) (bs : List (List Int)) (H : Hp) (Q : VK) (E : Value → Option Addr → Hp → Prop) : Prop :=
  DGv H v n m bs ∧ DgOk n m bs ∧ (¬ (1 ≤ d ∧ d ≤ 4) → E (.ref CB) none H) ∧
  (1 ≤ d ∧ d ≤ 4 → (¬ IsDg n m bs ∧ ∀ H', Same H H' → E (.ref CD) none H') ∨ ∃ (d' n' m' : Nat) (l : List Int), d = d' ∧ n = n' ∧ m = m' ∧ bs = blocksOf l ∧ siz n m = true ∧ l.length = n' + m' ∧
    (1024 < d' ^ (n' + m') → ∀ H', Same H H' → E (.ref CT) none H') ∧
    (d' ^ (n' + m') ≤ 1024 → ∀ L H', Same H H' → TabH H H' L ((tabD d' l n' m' ex).map fun r => r.map V.int) → Q (.ref L) H'))
def spTableOf (CB CD CT : Addr) : Sp := fun vs H Q E => ∃ (d : Int) (v : V) (n m : Int) (bs : List (List Int)) (ex : Bool), vs = [.int d, v, .bl ex] ∧ TabOf CB CD CT ex d v n m bs H Q E
def spTableE (CB CD CT : Addr) (ex : Bool) : Sp := fun vs H Q E => ∃ (d : Int) (v : V) (n m : Int) (bs : List (List Int)), vs = [.int d, v] ∧ TabOf CB CD CT ex d v n m bs H Q E
theorem ok_table_of_ {f CB CD CT : Addr} {fd : FuncData} (F : Fun K "_table_of" "_table_of" s_table_of_ f fd)
    {a_check_colours_ : Addr} {fd_check_colours_ : FuncData} (G_check_colours_ : FnOk P w K mg base (L2N.CX P w) 1 a_check_colours_ fd_check_colours_ ["d"] (spCheckCol CB)) (g_check_colours_ : mg "_check_colours" = some (.ref a_check_colours_)) (k_check_colours_ : PySem.W.keepIn K (.ref a_check_colours_) = true) (b_check_colours_ : Binds K fd_check_colours_ ["d"] [])
    {a_check_diagram : Addr} {fd_check_diagram : FuncData} (G_check_diagram : FnOk P w K mg base (L2N.CX P w) 3 a_check_diagram fd_check_diagram ["diagram"] (spCheckDiagram CD)) (g_check_diagram : mg "check_diagram" = some (.ref a_check_diagram)) (k_check_diagram : PySem.W.keepIn K (.ref a_check_diagram) = true) (b_check_diagram : Binds K fd_check_diagram ["diagram"] [])
    {a_check_entries_ : Addr} {fd_check_entries_ : FuncData} (G_check_entries_ : FnOk P w K mg base (L2N.CX P w) 1 a_check_entries_ fd_check_entries_ ["d", "points"] (spCheckEnt CT)) (g_check_entries_ : mg "_check_entries" = some (.ref a_check_entries_)) (k_check_entries_ : PySem.W.keepIn K (.ref a_check_entries_) = true) (b_check_entries_ : Binds K fd_check_entries_ ["d", "points"] [])
    {a_empty_ : Addr} {fd_empty_ : FuncData} (G_empty_ : FnOk P w K mg base CX0 2 a_empty_ fd_empty_ ["d", "n", "m", "entry"] spEmpty) (g_empty_ : mg "_empty" = some (.ref a_empty_)) (k_empty_ : PySem.W.keepIn K (.ref a_empty_) = true) (b_empty_ : Binds K fd_empty_ ["d", "n", "m", "entry"] [])
    {a_places_ : Addr} {fd_places_ : FuncData} (G_places_ : FnOk P w K mg base (L2N.CX P w) 5 a_places_ fd_places_ ["d", "diagram", "exact"] spPlaces) (g_places_ : mg "_places" = some (.ref a_places_)) (k_places_ : PySem.W.keepIn K (.ref a_places_) = true) (b_places_ : Binds K fd_places_ ["d", "diagram", "exact"] []) :
    FnOk P w K mg base (L2N.CX P w) 6 f fd ["d", "diagram", "exact"] (spTableOf CB CD CT) := by
  refine F.okXN sc_table_of_ (fun vs H Q E h => ?_) (fun cdv A outer s H vs Q E hr h => ?_)
  · obtain ⟨d, v, n, m, bs, ex, rfl, _⟩ := h
    rfl
  · obtain ⟨d, v, n, m, bs, ex, rfl, hv, dok, qB, q⟩ := h
    refine ⟨_, (pss_cons (ps_expr (pe_call G_check_colours_ (hr.mono (by decide)) rfl g_check_colours_ k_check_colours_ b_check_colours_ .nil (L2N.passes_call (L2N.takes_of rfl rfl rfl rfl) (fun _ _ _ _ h => h)) (pa_cons (pv 0) pa_nil)))
  (pss_cons (ps_expr (pe_call G_check_diagram (hr.mono (by decide)) rfl g_check_diagram k_check_diagram b_check_diagram .nil (L2N.passes_call (L2N.takes_of rfl rfl rfl rfl) (fun _ _ _ _ h => h)) (pa_cons (pv 1) pa_nil)))
  (pss_cons (ps_asg (pv 1) (pg_tup rfl (pgs_cons (pg_name (i := 3) sc_table_of_.nd rfl (.inl rfl)) (pgs_cons (pg_name (i := 4) sc_table_of_.nd rfl (.inl rfl)) (pgs_cons (pg_name (i := 5) sc_table_of_.nd rfl (.inl rfl)) pgs_nil)))))
  (pss_cons (ps_expr (pe_call G_check_entries_ (hr.mono (by decide)) rfl g_check_entries_ k_check_entries_ b_check_entries_ .nil (L2N.passes_call (L2N.takes_of rfl rfl rfl rfl) (fun _ _ _ _ h => h)) (pa_cons (pv 0) (pa_cons (pe_op op_add (pv 3) (pv 4)) pa_nil))))
  (pss_cons (ps_set (i := 6) sc_table_of_.nd rfl (.inl rfl) (pe_call G_empty_ (hr.mono (by decide)) rfl g_empty_ k_empty_ b_empty_ .nil pass0 (pa_cons (pv 0) (pa_cons (pv 3) (pa_cons (pv 4) (pa_cons pe_int pa_nil))))))
  (pss_cons (ps_for (passes_of rfl) rfl (pi_list (pe_call G_places_ (hr.mono (by decide)) rfl g_places_ k_places_ b_places_ .nil (L2N.passes_call (L2N.takes_of rfl rfl rfl rfl) (fun _ _ _ _ h => h)) (pa_cons (pv 0) (pa_cons (pv 1) (pa_cons (pv 2) pa_nil))))) (pg_tup rfl (pgs_cons (pg_name (i := 7) sc_table_of_.nd rfl (.inl rfl)) (pgs_cons (pg_name (i := 8) sc_table_of_.nd rfl (.inl rfl)) pgs_nil))) (pss_one (ps_asg pe_int (pg_sub (pe_ix ix_list (pv 6) (pv 7) (fun _ _ => rfl)) (pv 8) set_list))))
  (pss_one (ps_ret (pv 6))))))))), ?_⟩
    have szl : 20000 ≤ sizeLine := by decide
    refine ⟨_, rfl, d, rfl, fun rd => ?_, qB⟩
    rcases q rd with ⟨nd, q⟩ | ⟨d, n, m, l, rfl, rfl, rfl, rfl, sz, hl, q1, q⟩
    · exact ⟨_, rfl, v, n, m, bs, rfl, hv, dok, fun H' s' => ⟨fun dg => absurd dg nd, fun _ => q H' s'⟩⟩
    · have dg := isDg_blocks (marks := l) sz (by omega)
      have hs := siz_iff.mp sz
      refine ⟨_, rfl, v, n, m, _, rfl, hv, dok, fun H1 s1 => ⟨fun _ => ?_, fun nd => absurd dg nd⟩⟩
      have hv1 := hv.same s1
      obtain ⟨t, vb, rfl, ht, _⟩ := id hv1
      refine ⟨_, rfl, t, _, rfl, .inl (.inl ht), rfl, _, _, rfl, _, _, rfl, _, _, rfl, rfl, ?_⟩
      refine ⟨_, rfl, _, rfl, _, rfl, _, _, rfl, rfl, d, n + m, rfl, by omega, by omega, fun few => ?_, fun big => q1 big H1 s1⟩
      have q := q few
      have p1 : d ^ n ≤ 1024 := pow_up (by omega) (by omega) few
      have p2 : d ^ m ≤ 1024 := pow_up (by omega) (by omega) few
      refine ⟨_, rfl, _, rfl, _, rfl, d, n, m, .int 0, rfl, by omega, by omega, by omega, by omega, p1, p2, fun L H2 s2 tab => ?_⟩
      refine ⟨_, rfl, _, rfl, _, rfl, .ref t, d, n, m, l, ex, rfl, ⟨hv1.same s2, sz, by omega⟩, by omega, by omega, few, fun Z ps H3 s3 nZ hZ pZ => ?_⟩
      have tabH : TabH H H2 L _ := tab.from s1
      obtain ⟨_, us, hL2, _, pU⟩ := id tab
      have nuZ : ∀ (i : Nat) (a : Addr), us[i]? = some (V.ref a) → a ≠ Z := fun i a e z => by
        obtain ⟨_, _, a', e', _, _, h⟩ := paired_get pU e
        obtain rfl := V.ref.inj e'
        rw [z, nZ] at h
        exact nomatch h
      have lus : us.length = d ^ n := by rw [pU.length, List.length_replicate]
      have ZL : Z ≠ L := fun z => by rw [z, hL2] at nZ; exact nomatch nZ
      clear pU
      have tab3 := tabH.same s3
      rw [← tabO_nil (d ^ n) (d ^ m)] at tab3
      have sz3 : Same H H3 := Same.trans s1 (Same.trans s2 s3)
      have pin := fun p hp => placesL_in (d := d) (n := n) (m := m) (ex := ex) hl (p := p) hp
      refine ⟨Z, rfl, ⟨_, .inl (.inl hZ)⟩, for_list (xs := ps) (fun k σ H' => ∃ v7 v8 : Option V, σ = [some (.int (d : Int)), some (.ref t), some (.bl ex), some (.int (n : Int)), some (.int (m : Int)), some vb, some (.ref L), v7, v8] ∧ Same H H' ∧ H' Z = some (.lst ps) ∧
        Paired (PP H') ps (placesL d l n ex) ∧ H' L = some (.lst us) ∧ TabH H H' L ((tabO (d ^ n) (d ^ m) ((placesL d l n ex).take k)).map fun r => r.map V.int)) ⟨none, none, rfl, sz3, hZ, pZ, s3 _ _ hL2, tab3⟩ (fun k σ H' _ hP => ?_) (fun k x σ H' hx hP => ?_) (fun σ H' hP => ?_)⟩
      · obtain ⟨v7, v8, rfl, s', hZ', pZ', hL', tb⟩ := hP
        exact .inl (.inl hZ')
      · obtain ⟨v7, v8, rfl, s', hZ', pZ', hL', tb⟩ := hP
        obtain ⟨p, ep, tp, rfl, htp⟩ := paired_get pZ' hx
        obtain ⟨i, j, rfl, hi, hj⟩ := pin p (List.mem_of_getElem? ep)
        obtain ⟨y, ey⟩ : ∃ y, us[i]? = some y := ⟨_, List.getElem?_eq_getElem (by omega)⟩
        obtain ⟨f0, us', hLe, nd, pr⟩ := id tb
        obtain rfl : us' = us := HO.lst.inj (Option.some.inj (hLe.symm.trans hL'))
        obtain ⟨r, er, a, rfl, aL, na, ha⟩ := paired_get pr ey
        rw [List.getElem?_map, tabO_row hi] at er
        have er := Option.some.inj er
        dsimp only at er
        subst er
        refine ⟨tp, _, rfl, .inl (.inl htp), rfl, _, _, rfl, _, _, rfl, rfl, ?_⟩
        refine ⟨_, rfl, _, rfl, L, us', (i : Int), .ref a, rfl, rfl, .inl (.inl hL'), atI_nat (j := i) ey, _, rfl, a, _, (j : Int), j, rfl, rfl, ha, ixN_nat (by rw [List.length_map, List.length_map, List.length_range]; exact hj), ?_⟩
        have e1 : (placesL d l n ex).take (k + 1) = (placesL d l n ex).take k ++ [((i : Int), (j : Int))] := by rw [List.take_succ, ep]; rfl
        have out := tb.out hL' ey ((List.map V.int ((List.range (d ^ m)).map fun (j' : Nat) => if ((i : Int), (j' : Int)) ∈ (placesL d l n ex).take k then (1 : Int) else 0)).set j (.int 1))
        refine ⟨_, _, rfl, fun b o e => out b o e (s' b o e), ?_, Paired.mapP pZ' fun _ _ h => PP.butL ha SameBut.upd h, ?_, ?_⟩
        · rw [upd_ne (Ne.symm (nuZ i a ey))]
          exact hZ'
        · rw [upd_ne (Ne.symm aL)]
          exact hL'
        · rw [e1, ← tabO_set hi hj, List.map_set]
          have := tb.set hL' ey ((List.map V.int ((List.range (d ^ m)).map fun (j' : Nat) => if ((i : Int), (j' : Int)) ∈ (placesL d l n ex).take k then (1 : Int) else 0)).set j (.int 1))
          rw [List.map_set]
          exact this
      · obtain ⟨v7, v8, rfl, s', hZ', pZ', hL', tb⟩ := hP
        rw [pZ.length, List.take_length] at tb
        exact ⟨_, rfl, q L H' s' tb⟩
theorem ok_colour_table {f CB CD CT : Addr} {fd : FuncData} (F : Fun K "colour_table" "colour_table" s_colour_table f fd)
    {a_table_of_ : Addr} {fd_table_of_ : FuncData} (G_table_of_ : FnOk P w K mg base (L2N.CX P w) 6 a_table_of_ fd_table_of_ ["d", "diagram", "exact"] (spTableOf CB CD CT)) (g_table_of_ : mg "_table_of" = some (.ref a_table_of_)) (k_table_of_ : PySem.W.keepIn K (.ref a_table_of_) = true) (b_table_of_ : Binds K fd_table_of_ ["d", "diagram", "exact"] []) :
    FnOk P w K mg base (L2N.CX P w) 7 f fd ["d", "diagram"] (spTableE CB CD CT false) := by
  refine F.okXN sc_colour_table (fun vs H Q E h => ?_) (fun cdv A outer s H vs Q E hr h => ?_)
  · obtain ⟨d, v, n, m, bs, rfl, _⟩ := h
    rfl
  · obtain ⟨d, v, n, m, bs, rfl, h⟩ := h
    refine ⟨_, (pss_one (ps_ret (pe_call G_table_of_ (hr.mono (by decide)) rfl g_table_of_ k_table_of_ b_table_of_ .nil (L2N.passes_call (L2N.takes_of rfl rfl rfl rfl) (fun _ _ _ _ h => h)) (pa_cons (pv 0) (pa_cons (pv 1) (pa_cons pe_bl pa_nil)))))), ?_⟩
    exact ⟨_, rfl, _, rfl, d, v, n, m, bs, false, rfl, h⟩
theorem ok_exact_table {f CB CD CT : Addr} {fd : FuncData} (F : Fun K "exact_table" "exact_table" s_exact_table f fd)
    {a_table_of_ : Addr} {fd_table_of_ : FuncData} (G_table_of_ : FnOk P w K mg base (L2N.CX P w) 6 a_table_of_ fd_table_of_ ["d", "diagram", "exact"] (spTableOf CB CD CT)) (g_table_of_ : mg "_table_of" = some (.ref a_table_of_)) (k_table_of_ : PySem.W.keepIn K (.ref a_table_of_) = true) (b_table_of_ : Binds K fd_table_of_ ["d", "diagram", "exact"] []) :
    FnOk P w K mg base (L2N.CX P w) 7 f fd ["d", "diagram"] (spTableE CB CD CT true) := by
  refine F.okXN sc_exact_table (fun vs H Q E h => ?_) (fun cdv A outer s H vs Q E hr h => ?_)
  · obtain ⟨d, v, n, m, bs, rfl, _⟩ := h
    rfl
  · obtain ⟨d, v, n, m, bs, rfl, h⟩ := h
    refine ⟨_, (pss_one (ps_ret (pe_call G_table_of_ (hr.mono (by decide)) rfl g_table_of_ k_table_of_ b_table_of_ .nil (L2N.passes_call (L2N.takes_of rfl rfl rfl rfl) (fun _ _ _ _ h => h)) (pa_cons (pv 0) (pa_cons (pv 1) (pa_cons pe_bl pa_nil)))))), ?_⟩
    exact ⟨_, rfl, _, rfl, d, v, n, m, bs, true, rfl, h⟩
end

theorem co_extI {a b : List Int} (hl : a.length = b.length) (h : ∀ i, i < a.length → co a i = co b i) : a = b := by
  refine List.ext_getElem hl fun i h1 h2 => ?_
  have e1 := co_get h1
  have e2 := co_get h2
  rw [List.getElem?_eq_getElem h1] at e1
  rw [List.getElem?_eq_getElem h2] at e2
  rw [Option.some.inj e1, Option.some.inj e2]
  exact h i h1
/-! ### the table of a diagram, entry by entry -/
theorem range_flat (d : Nat) : ∀ a : Nat, ((List.range a).map fun i => (List.range d).map fun u => i * d + u).flatten = List.range (a * d)
  | 0 => by simp
  | a + 1 => by
    rw [List.range_succ, List.map_append, List.flatten_append, range_flat d a, Nat.succ_mul, List.range_add]
    simp
theorem rowsC_plc (d : Nat) : ∀ k, (rowsC d k).map (plc (d : Int)) = (List.range (d ^ k)).map fun (i : Nat) => (i : Int)
  | 0 => rfl
  | k + 1 => by
    show (((rowsC d k).map fun row => addC row d).flatten).map _ = _
    rw [List.map_flatten, List.map_map]
    have e : (rowsC d k).map ((List.map (plc (d : Int))) ∘ fun row => addC row d) = ((rowsC d k).map (plc (d : Int))).map fun p => (List.range d).map fun (u : Nat) => p * d + (u : Int) := by
      rw [List.map_map]
      refine List.map_congr_left fun row _ => ?_
      show (addC row d).map _ = _
      unfold addC
      rw [List.map_map]
      exact List.map_congr_left fun u _ => plc_snoc _ _ _
    rw [e, rowsC_plc d k, Nat.pow_succ, ← range_flat, List.map_map, List.map_flatten, List.map_map]
    congr 1
    refine List.map_congr_left fun i _ => ?_
    show (List.range d).map _ = ((List.range d).map _).map _
    rw [List.map_map]
    refine List.map_congr_left fun u _ => ?_
    show (i : Int) * d + u = ((i * d + u : Nat) : Int)
    omega
theorem seen_hit {l : List Int} {k : Nat} (hk : k < (blocksOf l).length) : (k : Int) ∈ labL (blocksOf l) l.length := by
  have e : (blocksOf l).length = (seenL [] l).length := by
    unfold blocksOf
    rw [List.length_map]
  rw [e] at hk
  rw [labL_marks]
  refine List.mem_map.mpr ⟨(seenL [] l)[k], ((seenL_mem l [] _).mp (List.getElem_mem hk)).elim (fun z => nomatch z) id, ?_⟩
  rw [List.Nodup.idxOf_getElem (seenL_nodup l [] List.nodup_nil)]
theorem colP_co {g labs : List Int} {i : Nat} (h : i < labs.length) : co (colP g labs) i = co g (co labs i).toNat := co_mapI (fun k => co g k.toNat) labs h
theorem col_ex {d : Nat} {l x : List Int} (hx : x.length = l.length) (dx : Dig d x) (h : okC (labL (blocksOf l) l.length) x = true) : ∃ g ∈ rowsC d (blocksOf l).length, colP g (labL (blocksOf l) l.length) = x := by
  have ll : (labL (blocksOf l) l.length).length = l.length := labL_len _ _
  have hit := fun k hk => seen_hit (l := l) (k := k) hk
  have bel := labL_below (l := l)
  generalize labL (blocksOf l) l.length = labs at h ll hit bel ⊢
  have ok := okC_iff.mp h
  have ixl : ∀ {k : Int}, k ∈ labs → labs.idxOf k < labs.length ∧ co labs (labs.idxOf k) = k := fun {k} hk => by
    have h1 := List.idxOf_lt_length_of_mem hk
    refine ⟨h1, ?_⟩
    have e := co_get h1
    rw [List.getElem?_eq_getElem h1, List.getElem_idxOf] at e
    exact (Option.some.inj e).symm
  have gc : ∀ k, k < (blocksOf l).length → co ((List.range (blocksOf l).length).map fun (k : Nat) => co x (labs.idxOf (k : Int))) k = co x (labs.idxOf (k : Int)) := fun k hk => by
    have e := co_get (l := (List.range (blocksOf l).length).map fun (k : Nat) => co x (labs.idxOf (k : Int))) (k := k) (by rw [List.length_map, List.length_range]; exact hk)
    rw [List.getElem?_map, List.getElem?_range hk] at e
    exact (Option.some.inj e).symm
  refine ⟨(List.range (blocksOf l).length).map fun (k : Nat) => co x (labs.idxOf (k : Int)), rowsC_mem (by rw [List.length_map, List.length_range]) fun y hy => ?_, ?_⟩
  · obtain ⟨k, hk, rfl⟩ := List.mem_map.mp hy
    have := (ixl (hit k (List.mem_range.mp hk))).1
    exact dx _ (co_mem (by omega))
  · refine co_extI (by unfold colP; rw [List.length_map]; omega) fun i hi => ?_
    have hi : i < labs.length := by unfold colP at hi; rwa [List.length_map] at hi
    rw [colP_co hi]
    have m := co_mem hi
    obtain ⟨c0, c1⟩ := bel _ m
    rw [gc _ (by omega), show (((co labs i).toNat : Nat) : Int) = co labs i by omega]
    obtain ⟨i1, i2⟩ := ixl m
    exact ok _ _ i1 hi i2
theorem col_ok {g labs : List Int} : okC labs (colP g labs) = true := okC_iff.mpr fun i j hi hj e => by
  rw [colP_co hi, colP_co hj, e]
theorem col_inj {l g : List Int} (hg : g.length = (blocksOf l).length) : g.Nodup ↔ okC (colP g (labL (blocksOf l) l.length)) (labL (blocksOf l) l.length) = true := by
  have hit := fun k hk => seen_hit (l := l) (k := k) hk
  have bel := labL_below (l := l)
  generalize labL (blocksOf l) l.length = labs at hit bel ⊢
  have lc : (colP g labs).length = labs.length := by unfold colP; rw [List.length_map]
  rw [okC_iff]
  constructor
  · intro nd i j hi hj e
    have hi : i < labs.length := by omega
    have hj : j < labs.length := by omega
    rw [colP_co hi, colP_co hj] at e
    obtain ⟨a0, a1⟩ := bel _ (co_mem hi)
    obtain ⟨b0, b1⟩ := bel _ (co_mem hj)
    have ha : (co labs i).toNat < g.length := by omega
    have hb : (co labs j).toNat < g.length := by omega
    have ea := co_get ha
    have eb := co_get hb
    rw [List.getElem?_eq_getElem ha] at ea
    rw [List.getElem?_eq_getElem hb] at eb
    have eq := (Option.some.inj ea).trans (e.trans (Option.some.inj eb).symm)
    rcases Nat.lt_trichotomy (co labs i).toNat (co labs j).toNat with c | c | c
    · exact absurd eq (List.pairwise_iff_getElem.mp nd _ _ ha hb c)
    · omega
    · exact absurd eq.symm (List.pairwise_iff_getElem.mp nd _ _ hb ha c)
  · intro h
    refine List.pairwise_iff_getElem.mpr fun i j hi hj hij e => ?_
    have m1 := hit i (by omega)
    have m2 := hit j (by omega)
    obtain ⟨a, ha, ea⟩ := List.mem_iff_getElem.mp m1
    obtain ⟨b, hb, eb⟩ := List.mem_iff_getElem.mp m2
    have ca := co_get ha
    have cb := co_get hb
    rw [List.getElem?_eq_getElem ha, ea] at ca
    rw [List.getElem?_eq_getElem hb, eb] at cb
    have ca := Option.some.inj ca
    have cb := Option.some.inj cb
    have gi := co_get hi
    have gj := co_get hj
    rw [List.getElem?_eq_getElem hi] at gi
    rw [List.getElem?_eq_getElem hj] at gj
    have := h a b (by omega) (by omega) (by rw [colP_co ha, colP_co hb, ← ca, ← cb]; show co g i = co g j; rw [← Option.some.inj gi, ← Option.some.inj gj, e])
    rw [← ca, ← cb] at this
    omega
/-- the law's own tables -/
def entX (labs x : List Int) (ex : Bool) : Int := bit (if ex = true then okC labs x && okC x labs else okC labs x)
def tabX (d : Nat) (l : List Int) (n m : Nat) (ex : Bool) : List (List Int) := (rowsC d n).map fun a => (rowsC d m).map fun b => entX (labL (blocksOf l) l.length) (a ++ b) ex
theorem entX_in {d n m : Nat} {l a b : List Int} {ex : Bool} (hl : l.length = n + m) (ha : a ∈ rowsC d n) (hb : b ∈ rowsC d m) : entX (labL (blocksOf l) l.length) (a ++ b) ex = if (plc d a, plc d b) ∈ placesL d l n ex then 1 else 0 := by
  obtain ⟨la, da⟩ := rowsC_ok ha
  obtain ⟨lb, db⟩ := rowsC_ok hb
  have ll : (labL (blocksOf l) l.length).length = l.length := labL_len _ _
  have lx : (a ++ b).length = l.length := by rw [List.length_append]; omega
  have dx : Dig d (a ++ b) := fun y hy => (List.mem_append.mp hy).elim (da y) (db y)
  have key : (plc d a, plc d b) ∈ placesL d l n ex ↔ (if ex = true then okC (labL (blocksOf l) l.length) (a ++ b) && okC (a ++ b) (labL (blocksOf l) l.length) else okC (labL (blocksOf l) l.length) (a ++ b)) = true := by
    unfold placesL
    constructor
    · intro h
      obtain ⟨g, hg, e⟩ := List.mem_map.mp h
      obtain ⟨hg, hk⟩ := List.mem_filter.mp hg
      obtain ⟨lg, dg⟩ := rowsC_ok hg
      have lc : (colP g (labL (blocksOf l) l.length)).length = l.length := by unfold colP; rw [List.length_map, ll]
      have dc : Dig d (colP g (labL (blocksOf l) l.length)) := fun y hy => by
        obtain ⟨k, hk, rfl⟩ := List.mem_map.mp hy
        have := labL_below k hk
        exact dg _ (co_mem (by omega))
      have e1 := plc_inj n (by rw [List.length_take]; omega) la (fun y hy => dc y (List.mem_of_mem_take hy)) da (congrArg Prod.fst e)
      have e2 := plc_inj m (by rw [List.length_drop]; omega) lb (fun y hy => dc y (List.mem_of_mem_drop hy)) db (congrArg Prod.snd e)
      have e3 : a ++ b = colP g (labL (blocksOf l) l.length) := by rw [← e1, ← e2, List.take_append_drop]
      rw [e3, col_ok]
      cases ex with
      | false => rfl
      | true => exact (col_inj lg).mp (of_decide_eq_true hk)
    · intro h
      have h1 : okC (labL (blocksOf l) l.length) (a ++ b) = true := by
        cases ex with
        | false => exact h
        | true => exact (Bool.and_eq_true_iff.mp h).1
      obtain ⟨g, hg, e⟩ := col_ex lx dx h1
      refine List.mem_map.mpr ⟨g, List.mem_filter.mpr ⟨hg, ?_⟩, ?_⟩
      · cases ex with
        | false => rfl
        | true => 
          have h2 := (Bool.and_eq_true_iff.mp h).2
          rw [← e] at h2
          exact decide_eq_true ((col_inj (rowsC_ok hg).1).mpr h2)
      · rw [e, List.take_append_of_le_length (by omega), List.take_of_length_le (by omega), List.drop_append_of_le_length (by omega), List.drop_eq_nil_of_le (by omega), List.nil_append]
  unfold entX bit
  by_cases c : (plc d a, plc d b) ∈ placesL d l n ex
  · rw [if_pos c, if_pos (key.mp c)]
  · rw [if_neg c, if_neg fun z => c (key.mpr z)]
theorem tabX_eq {d n m : Nat} {l : List Int} {ex : Bool} (hl : l.length = n + m) : tabX d l n m ex = tabD d l n m ex := by
  unfold tabX tabD tabO
  have e1 : ∀ {β : Type} (k : Nat) (F : Int → β), (List.range (d ^ k)).map (fun (i : Nat) => F (i : Int)) = (rowsC d k).map fun a => F (plc d a) := fun k F => by
    have := congrArg (List.map F) (rowsC_plc d k)
    rw [List.map_map, List.map_map] at this
    exact this.symm
  rw [e1 n fun i => (List.range (d ^ m)).map fun (j : Nat) => if (i, (j : Int)) ∈ placesL d l n ex then (1 : Int) else 0]
  refine List.map_congr_left fun a ha => ?_
  rw [e1 m fun j => if (plc d a, j) ∈ placesL d l n ex then (1 : Int) else 0]
  exact List.map_congr_left fun b hb => entX_in hl ha hb

/-! ### _law_marked -/
theorem call_tuple_ofKM {X : Cx} {K : PySem.W.Frag} (hK : X.K = K) : CallR X (.type "tuple") (fun xs H Q => ∃ p ys, xs = [.ref p] ∧ ((SqL K H p ys ∧ ∀ l, H l = none → Q (.ref l) (upd H l (.tup ys))) ∨ (SqT K H p ys ∧ Q (.ref p) H))) := by
  subst hK
  exact call_tuple_of
theorem inV_intM {p : Int} : ∀ l : List Int, inV (.int p) (l.map V.int) = decide (p ∈ l)
  | [] => rfl
  | x :: l => by
    show (eqV (.int x) (.int p) || inV (.int p) (l.map V.int)) = _
    rw [inV_intM l]
    have e : eqV (.int x) (.int p) = decide (x = p) := by
      by_cases c : x = p <;> simp [eqV, c]
    rw [e]
    by_cases c : x = p
    · rw [decide_eq_true c, decide_eq_true (List.mem_cons.mpr (.inl c.symm))]
      rfl
    · rw [decide_eq_false c, Bool.false_or]
      refine decide_eq_decide.mpr ⟨fun z => List.mem_cons_of_mem _ z, fun z => (List.mem_cons.mp z).resolve_left fun z => c z.symm⟩
theorem flat_intM : ∀ l : List Int, (l.map V.int).all flatV = true
  | [] => rfl
  | _ :: l => by
    rw [List.map_cons, List.all_cons, flat_intM l]
    rfl
section
variable {P : Program} {w : World} {K : PySem.W.Frag} {mg : Str → Option Value} {base : Heap}
def spMarked (K : PySem.W.Frag) : Sp := fun vs H Q _ => ∃ (n m : Int) (a : Addr) (marks : List Int), vs = [.int n, .int m, .ref a] ∧ SqL K H a (marks.map V.int) ∧ marks.length ≤ 1000 ∧ (marks.length : Int) = n + m ∧
  ∀ v H', Same H H' → (∀ t, v = .ref t → H t = none) → DGv H' v n m (blocksOf marks) → Q v H'
theorem ok_law_marked {f : Addr} {fd : FuncData} (F : Fun K "_law_marked" "_law_marked" s_law_marked f fd) (z_tuple : mg "tuple" = none) (z_range : mg "range" = none) (z_len : mg "len" = none) :
    FnOk P w K mg base CX0 1 f fd ["n", "m", "marks"] (spMarked K) := by
  refine F.ok sc_law_marked (fun vs H Q E h => ?_) (fun cdv A outer s H vs Q E hr h => ?_)
  · obtain ⟨n, m, a, marks, rfl, _⟩ := h
    rfl
  · obtain ⟨n, m, a, marks, rfl, ha, hl, hN, q⟩ := h
    refine ⟨_, (pss_cons (ps_set (i := 3) sc_law_marked.nd rfl (.inl rfl) (pe_lst pa_nil))
  (pss_cons (ps_set (i := 4) sc_law_marked.nd rfl (.inl rfl) (pe_lst pa_nil))
  (pss_cons (ps_for PassesOwn.never rfl (pi_range1 rfl z_range (pa_cons (pe_callB call_len_seq (by rfl) z_len boot_len (pa_cons (pv 2) pa_nil)) pa_nil)) (pg_name (i := 5) sc_law_marked.nd rfl (.inl rfl)) (Evl.pss_cut (ps_if (pt_cmpR op_notIn_seq (pe_ix ix_list (pv 2) (pv 5) (fun _ _ => rfl)) (pv 3) (by with_unfolding_all rfl)) (pss_cons (ps_expr (pe_bm PySem.F.plainAttrs_list PySem.F.slot_list_append PySem.F.type_list_append mt_append (pv 3) (pa_cons (pe_ix ix_list (pv 2) (pv 5) (fun _ _ => rfl)) pa_nil)))
  (pss_one (ps_expr (pe_bm PySem.F.plainAttrs_list PySem.F.slot_list_append PySem.F.type_list_append mt_append (pv 4) (pa_cons (pe_lst pa_nil) pa_nil))))) pss_nil)
  (pss_one (ps_expr (pe_bm PySem.F.plainAttrs_list PySem.F.slot_list_append PySem.F.type_list_append mt_append (pe_ix ix_list (pv 4) (pe_bm PySem.F.plainAttrs_list PySem.F.slot_list_index PySem.F.type_list_index mt_index (pv 3) (pa_cons (pe_ix ix_list (pv 2) (pv 5) (fun _ _ => rfl)) pa_nil)) (fun _ _ => rfl)) (pa_cons (pv 5) pa_nil))))))
  (pss_one (ps_ret (pe_tup (pa_cons (pv 0) (pa_cons (pv 1) (pa_cons (pe_callTy call_tuple_of (by rfl) z_tuple boot_tuple (pa_cons (pe_lc (own := [("block", 6)]) rfl sc_law_marked.nd (pi_list (pv 4)) (blkOk_by (N := ["n", "m", "marks", "known", "blocks", "at", "block"]) (sc := defScope s_law_marked) (by first | decide +kernel | rfl)) (fun _ _ _ _ _ => (pg_name (i := 6) sc_law_marked.nd rfl (.inl rfl))) (fun _ _ _ _ _ => pts_nil) (fun _ _ _ _ _ => (pe_callTy (call_tuple_ofKM (K := K) rfl) (by rfl) z_tuple boot_tuple (pa_cons (pv 6) pa_nil)))) pa_nil)) pa_nil))))))))), ?_⟩
    have szl : 20000 ≤ sizeLine := by decide
    refine ⟨(by show 0 ≤ sizeLine; decide), fun D nD => ⟨(by show 0 ≤ sizeLine; decide), fun B nB => ?_⟩⟩
    have s1 := same_upd (o := .lst []) nD
    have s2 := same_upd (o := .lst []) nB
    have h1D : upd H D (.lst []) D = some (.lst []) := upd_same
    have hD2 : upd (upd H D (.lst [])) B (.lst []) D = some (.lst []) := s2 _ _ h1D
    have tb0 : TabH (upd H D (.lst [])) (upd (upd H D (.lst [])) B (.lst [])) B [] := .new nB upd_same
    have DB : B ≠ D := fun z => by rw [z, h1D] at nB; exact nomatch nB
    have s12 : Same H (upd (upd H D (.lst [])) B (.lst [])) := Same.trans s1 s2
    have hS1 : ∀ b o, upd H D (.lst []) b = some o → b = D ∨ H b = some o := fun b o e => by
      by_cases c : b = D
      · exact .inl c
      · rw [upd_ne c] at e
        exact .inr e
    generalize upd H D (.lst []) = H1 at *
    generalize upd H1 B (.lst []) = H2 at *
    refine ⟨_, rfl, a, marks.map V.int, rfl, .inl (sqL_same s12 ha), _, rfl, by omega, by rw [List.length_map]; omega, ?_⟩
    rw [List.length_map, show ((marks.length : Nat) : Int).toNat = marks.length from rfl]
    refine for_range (lo := 0) (n := marks.length) (fun k σ H' => ∃ v5 : Option V, σ = [some (.int n), some (.int m), some (.ref a), some (.ref D), some (.ref B), v5, none] ∧ Same H H' ∧ H' D = some (.lst ((seenL [] (marks.take k)).map V.int)) ∧
      TabH H1 H' B ((seenL [] (marks.take k)).map fun v => (posOf (marks.take k) v).map V.int)) ⟨none, rfl, s12, hD2, tb0⟩ (fun k σ H3 hk hP => ?_) (fun σ H3 hP => ?_)
    · obtain ⟨v5, rfl, s3, hD, tb⟩ := hP
      have ha3 := sqL_same s3 ha
      have ek : (0 : Int) + (k : Int) = (k : Int) := Int.zero_add _
      rw [ek]
      have ls := seenL_len (marks.take k) []
      rw [List.length_take] at ls
      have ls2 : (seenL [] (marks.take k)).length ≤ 1000 := by
        have : ([] : List Int).length = 0 := rfl
        omega
      obtain ⟨_, us, hB, _, pU⟩ := id tb
      have lus : us.length ≤ 1000 := by rw [pU.length, List.length_map]; exact ls2
      refine ⟨fun σ H' => σ = [some (.int n), some (.int m), some (.ref a), some (.ref D), some (.ref B), some (.int (k : Int)), none] ∧ Same H H' ∧ H' D = some (.lst ((seenL [] (marks.take (k + 1))).map V.int)) ∧
        TabH H1 H' B ((seenL [] (marks.take (k + 1))).map fun v => (posOf (marks.take k) v).map V.int), ?_, ?_⟩
      · refine ⟨_, rfl, _, rfl, a, _, _, _, rfl, rfl, ha3, at_co hk, _, rfl, D, _, rfl, .inl (.inl (.inl hD)), rfl, flat_intM _, _, rfl, ?_⟩
        by_cases c : co marks k ∈ seenL [] (marks.take k)
        · refine if_neg_of (by show ¬ (!inV _ _) = true; rw [inV_intM, decide_eq_true c]; exact Bool.false_ne_true) ⟨rfl, s3, ?_⟩
          rw [take_snoc hk, seenL_snoc, if_pos c]
          exact ⟨hD, tb⟩
        · refine if_pos_of (by show (!inV _ _) = true; rw [inV_intM, decide_eq_false c]; rfl) ?_
          refine ⟨_, rfl, .inl ⟨rfl, _, .inl (.inl hD)⟩, _, rfl, _, rfl, a, _, _, _, rfl, rfl, ha3, at_co hk, D, _, _, rfl, rfl, hD, by rw [List.length_map]; omega, ?_⟩
          have sbD := SameBut.upd (H := H3) (a := D) (o := .lst ((seenL [] (marks.take k)).map V.int ++ [.int (co marks k)]))
          have tb4 := tb.but h1D sbD
          have hB4 := sbD _ _ DB hB
          have hD4 : upd H3 D (.lst ((seenL [] (marks.take k)).map V.int ++ [.int (co marks k)])) D = some (.lst ((seenL [] (marks.take (k + 1))).map V.int)) := by rw [upd_same, take_snoc hk, seenL_snoc, if_neg c, List.map_append]; rfl
          have s4 : Same H (upd H3 D (.lst ((seenL [] (marks.take k)).map V.int ++ [.int (co marks k)]))) := Same.mut s3 nD
          revert tb4 hB4 hD4 s4
          generalize upd H3 D (.lst ((seenL [] (marks.take k)).map V.int ++ [.int (co marks k)])) = H4
          intro tb4 hB4 hD4 s4
          refine ⟨_, rfl, .inl ⟨rfl, _, .inl (.inl hB4)⟩, (by show 0 ≤ sizeLine; decide), fun q1 nq1 => ?_⟩
          have w1 := same_upd (o := .lst []) nq1
          refine ⟨B, _, _, rfl, rfl, w1 _ _ hB4, by omega, rfl, Same.mut (Same.trans s4 w1) (none_back s1 nB), ?_, ?_⟩
          · rw [upd_ne (Ne.symm DB)]
            exact w1 _ _ hD4
          · have n1 : H1 q1 = none := by
              cases e : H1 q1 with
              | none => rfl
              | some o =>
                rcases hS1 _ _ e with z | z
                · rw [z, hD4] at nq1
                  exact nomatch nq1
                · rw [s4 _ _ z] at nq1
                  exact nomatch nq1
            have := tb4.push hB4 nq1 n1 (r := [])
            rw [take_snoc hk, seenL_snoc, if_neg c, List.map_append]
            show TabH H1 _ B (_ ++ [(posOf (marks.take k) (co marks k)).map V.int])
            rw [posOf_none (fun z => c ((seenL_mem _ [] _).mpr (.inr z)))]
            exact this
      clear tb
      rintro σ H4 ⟨rfl, s4, hD4, tb4⟩
      obtain ⟨_, us, hB, _, pU⟩ := id tb4
      have hin : co marks k ∈ seenL [] (marks.take (k + 1)) := (seenL_mem _ [] _).mpr (.inr (by rw [take_snoc hk]; exact List.mem_append_right _ (List.mem_singleton.mpr rfl)))
      have hj := List.idxOf_lt_length_of_mem hin
      have ej := List.getElem_idxOf hj
      have ndS := seenL_nodup (marks.take (k + 1)) [] List.nodup_nil
      obtain ⟨y, ey⟩ : ∃ y, us[(seenL [] (marks.take (k + 1))).idxOf (co marks k)]? = some y := ⟨_, List.getElem?_eq_getElem (by rw [pU.length, List.length_map]; exact hj)⟩
      obtain ⟨r, er, x, rfl, xB, nx, hx⟩ := paired_get pU ey
      rw [List.getElem?_map, List.getElem?_eq_getElem hj, ej] at er
      have er := Option.some.inj er
      dsimp only at er
      subst er
      have lp : (posOf (marks.take k) (co marks k)).length ≤ 1000 := by
        unfold posOf
        rw [List.length_map]
        refine Nat.le_trans (List.length_filter_le _ _) ?_
        rw [List.length_range, List.length_take]
        omega
      refine ⟨_, rfl, _, rfl, .inl ⟨rfl, _, .inl (.inl hD4)⟩, _, rfl, _, rfl, a, _, _, _, rfl, rfl, sqL_same s4 ha, at_co hk, D, _, .int (co marks k), (seenL [] (marks.take (k + 1))).idxOf (co marks k), .int (co marks k), rfl, rfl, .inl (.inl hD4), rfl, flat_intM _, ?_, ?_, fun i z hi hz => ?_, ?_⟩
      · rw [List.getElem?_map, List.getElem?_eq_getElem hj, ej]
        rfl
      · simp [eqV]
      · rw [List.getElem?_map] at hz
        obtain ⟨b, hb, rfl⟩ := Option.map_eq_some_iff.mp hz
        have : b ≠ co marks k := fun e => by
          subst e
          obtain ⟨hi', e2⟩ := List.getElem?_eq_some_iff.mp hb
          have := List.pairwise_iff_getElem.mp ndS i _ hi' hj hi
          rw [e2, ej] at this
          exact this rfl
        simp [eqV, this]
      · refine ⟨B, us, _, .ref x, rfl, rfl, .inl (.inl hB), atI_nat (j := (seenL [] (marks.take (k + 1))).idxOf (co marks k)) ey, ?_⟩
        refine ⟨.inl ⟨rfl, _, .inl (.inl hx)⟩, _, rfl, x, _, _, rfl, rfl, hx, by rw [List.length_map]; omega, ?_⟩
        have nxD : x ≠ D := fun z => by rw [z, h1D] at nx; exact nomatch nx
        have nxH : H x = none := none_back s1 nx
        refine ⟨_, rfl, Same.mut s4 nxH, by rw [upd_ne (Ne.symm nxD)]; exact hD4, ?_⟩
        have := tb4.set hB ey ((posOf (marks.take k) (co marks k)).map V.int ++ [V.int (k : Int)])
        have e : ((seenL [] (marks.take (k + 1))).map fun v => (posOf (marks.take k) v).map V.int).set ((seenL [] (marks.take (k + 1))).idxOf (co marks k)) ((posOf (marks.take k) (co marks k)).map V.int ++ [V.int (k : Int)]) = (seenL [] (marks.take (k + 1))).map fun v => (posOf (marks.take (k + 1)) v).map V.int := by
          refine List.ext_getElem? fun i => ?_
          rw [List.getElem?_set, List.length_map, List.getElem?_map, List.getElem?_map]
          by_cases c : (seenL [] (marks.take (k + 1))).idxOf (co marks k) = i
          · subst c
            rw [if_pos rfl, if_pos hj, List.getElem?_eq_getElem hj, ej]
            show _ = some ((posOf (marks.take (k + 1)) (co marks k)).map V.int)
            rw [posOf_take hk, if_pos rfl, List.map_append]
            rfl
          · rw [if_neg c]
            cases e : (seenL [] (marks.take (k + 1)))[i]? with
            | none => rfl
            | some v =>
              have nv : co marks k ≠ v := fun z => c (by
                obtain ⟨hi, e2⟩ := List.getElem?_eq_some_iff.mp e
                rw [z, ← e2]
                exact List.Nodup.idxOf_getElem ndS i hi)
              show some ((posOf (marks.take k) v).map V.int) = some ((posOf (marks.take (k + 1)) v).map V.int)
              rw [posOf_take hk, if_neg nv]
        rw [e] at this
        exact this
    · obtain ⟨v5, rfl, s3, hD, tb⟩ := hP
      rw [List.take_length] at tb
      obtain ⟨_, us, hB, _, pU⟩ := id tb
      have lus : us.length ≤ 1000 := by
        rw [pU.length, List.length_map]
        have := seenL_len marks []
        have e : ([] : List Int).length = 0 := rfl
        omega
      refine ⟨_, rfl, _, rfl, _, rfl, B, rfl, ⟨_, .inl (.inl hB)⟩, fun L nL => ?_⟩
      have BL : B ≠ L := ne_of_none hB nL
      have kL : ∀ {H' : Hp}, SameBut L H3 H' → Same H3 H' := fun sb b o e => sb b o (ne_of_none e nL) e
      refine lc_list (xs := us) (fun i H' => SameBut L H3 H' ∧ ∃ ts, H' L = some (.lst ts) ∧ Paired (TP H') ts (((seenL [] marks).take i).map (posOf marks))) ⟨SameBut.upd, [], upd_same, .nil⟩ (fun i H' _ hP => .inl (.inl (hP.1 _ _ BL hB))) (fun i x H4 hx hP => ?_) (fun H4 hP => ?_)
      · obtain ⟨sb, ts, hL, pt⟩ := hP
        obtain ⟨r, er, y, rfl, _, _, hy⟩ := paired_get pU hx
        rw [List.getElem?_map] at er
        obtain ⟨v, ev, rfl⟩ := Option.map_eq_some_iff.mp er
        refine ⟨rfl, _, rfl, y, _, rfl, .inl ⟨.inl (.inl (kL sb _ _ hy)), fun t nt => ?_⟩⟩
        have w1 := same_upd (o := .tup ((posOf marks v).map V.int)) nt
        have hL5 := w1 _ _ hL
        have li := (List.getElem?_eq_some_iff.mp hx).1
        refine ⟨ts, hL5, by rw [pt.length, List.length_map, List.length_take]; omega, (sb.trans (Same.but w1)).trans SameBut.upd, _, upd_same, ?_⟩
        rw [List.take_succ, ev, List.map_append]
        exact Paired.mapP (paired_add ⟨t, rfl, upd_same⟩ (Paired.mapP pt fun _ _ h => h.same w1)) fun _ _ h => TP.butL hL5 SameBut.upd h
      · obtain ⟨sb, ts, hL, pt⟩ := hP
        have el : (seenL [] marks).length = us.length := by rw [pU.length, List.length_map]
        rw [← el, List.take_length] at pt
        refine ⟨L, _, rfl, .inl ⟨.inl (.inl hL), fun tb' ntb => ?_⟩⟩
        refine ⟨(by show 3 ≤ sizeLine; decide), fun t nt => ?_⟩
        have q3 := same_upd (o := .tup ts) ntb
        have q4 := same_upd (o := .tup [.int n, .int m, .ref tb']) nt
        have sf := Same.trans q3 q4
        have sA := Same.trans s3 (kL sb)
        exact q (.ref t) _ (Same.trans sA sf) (fun t' e => by cases e; exact none_back (Same.trans sA q3) nt) ⟨t, .ref tb', rfl, upd_same, tb', _, rfl, q4 _ _ upd_same, Paired.mapP pt fun _ _ h => h.same sf⟩
end

section
variable {P : Program} {w : World} {K : PySem.W.Frag} {mg : Str → Option Value} {base : Heap}
/-! ### _law_matches: marks in a list, colours in a tuple; and the other way -/
def spMatch (K : PySem.W.Frag) : Sp := fun vs H Q _ => ∃ (a b : Addr) (l x : List Int), vs = [.ref a, .ref b] ∧ SqL K H a (l.map V.int) ∧ SqT K H b (x.map V.int) ∧ x.length = l.length ∧ l.length ≤ 1000 ∧ Q (.bl (okC l x)) H
theorem okm_lt {f : Addr} {fd : FuncData} (F : Fun K "_law_matches" "_law_matches" s_law_matches f fd) (z_range : mg "range" = none) (z_len : mg "len" = none) :
    FnOk P w K mg base CX0 1 f fd ["marks", "colours"] (spMatch K) := by
  refine F.ok sc_law_matches (fun vs H Q E h => ?_) (fun cdv A outer s H vs Q E hr h => ?_)
  · obtain ⟨a, b, l, x, rfl, _⟩ := h
    rfl
  · obtain ⟨a, b, l, x, rfl, ha, hb, hx, hl, q⟩ := h
    refine ⟨_, (pss_cons (ps_for PassesOwn.never rfl (pi_range1 rfl z_range (pa_cons (pe_callB call_len_seq (by rfl) z_len boot_len (pa_cons (pv 0) pa_nil)) pa_nil)) (pg_name (i := 2) sc_law_matches.nd rfl (.inl rfl)) (pss_one (ps_for PassesOwn.never rfl (pi_range1 rfl z_range (pa_cons (pv 2) pa_nil)) (pg_name (i := 3) sc_law_matches.nd rfl (.inl rfl)) (pss_one (ps_if (L2.PW.pt (pw_and (pt_cmpR op_eq (pe_ix ix_list (pv 0) (pv 2) (fun _ _ => rfl)) (pe_ix ix_list (pv 0) (pv 3) (fun _ _ => rfl)) (nomark _)) (pw_and1 (pt_cmpR op_ne (pe_ix ix_tup (pv 1) (pv 2) (fun _ _ => rfl)) (pe_ix ix_tup (pv 1) (pv 3) (fun _ _ => rfl)) (nomark _))))) (pss_one (ps_ret pe_bl)) pss_nil)))))
  (pss_one (ps_ret pe_bl))), ?_⟩
    refine ⟨_, rfl, a, l.map V.int, rfl, .inl ha, _, rfl, by omega, by rw [List.length_map]; omega, ?_⟩
    rw [List.length_map, show ((l.length : Nat) : Int).toNat = l.length from rfl]
    refine for_range (lo := 0) (n := l.length) (fun k σ H' => ∃ v2 v3 : Option V, σ = [some (.ref a), some (.ref b), v2, v3] ∧ H' = H ∧ ∀ i j, i < k → j < i → co l i = co l j → co x i = co x j) ⟨none, none, rfl, rfl, fun i j h => absurd h (Nat.not_lt_zero _)⟩ (fun k σ H3 hk hP => ?_) (fun σ H3 hP => ?_)
    · obtain ⟨v2, v3, rfl, rfl, good⟩ := hP
      have ek : (0 : Int) + (k : Int) = (k : Int) := Int.zero_add _
      rw [ek]
      refine ⟨_, rfl, (k : Int), rfl, by omega, by omega, ?_⟩
      rw [show ((k : Nat) : Int).toNat = k from rfl]
      refine for_range (lo := 0) (n := k) (fun t σ H' => ∃ v3 : Option V, σ = [some (.ref a), some (.ref b), some (.int (k : Int)), v3] ∧ H' = H3 ∧ ∀ j, j < t → co l k = co l j → co x k = co x j) ⟨_, rfl, rfl, fun j h => absurd h (Nat.not_lt_zero _)⟩ (fun t σ H4 ht hP => ?_) (fun σ H4 hP => ?_)
      · obtain ⟨v3, rfl, rfl, good2⟩ := hP
        have et : (0 : Int) + (t : Int) = (t : Int) := Int.zero_add _
        rw [et]
        have ht' : t < l.length := by omega
        refine ⟨_, rfl, _, rfl, a, _, _, _, rfl, rfl, ha, at_co hk, _, rfl, _, rfl, a, _, _, _, rfl, rfl, ha, at_co ht', rfl, _, rfl, ?_⟩
        by_cases c : co l k = co l t
        · refine if_pos_of (decide_eq_true (by rw [c])) ?_
          refine ⟨_, rfl, _, rfl, b, _, _, _, rfl, rfl, hb, at_co (show k < x.length by omega), _, rfl, _, rfl, b, _, _, _, rfl, rfl, hb, at_co (show t < x.length by omega), rfl, _, rfl, ?_⟩
          by_cases e : co x k = co x t
          · refine if_neg_of (by rw [e, decide_eq_true rfl]; exact Bool.false_ne_true) ⟨_, rfl, rfl, fun j hj e2 => ?_⟩
            by_cases z : j = t
            · rw [z]; exact e
            · exact good2 j (by omega) e2
          · refine if_pos_of (by rw [decide_eq_false fun z => e (V.int.inj z)]; rfl) ?_
            have : okC l x = false := by
              cases h : okC l x with
              | false => rfl
              | true => exact absurd (okC_iff.mp h k t hk ht' c) e
            rw [this] at q
            exact q
        · refine if_neg_of (fun z => c (V.int.inj (of_decide_eq_true z))) (if_neg_of Bool.false_ne_true ⟨_, rfl, rfl, fun j hj e2 => ?_⟩)
          by_cases z : j = t
          · rw [z] at e2; exact absurd e2 c
          · exact good2 j (by omega) e2
      · obtain ⟨v3, rfl, rfl, good2⟩ := hP
        refine ⟨_, _, rfl, rfl, fun i j hi hj e => ?_⟩
        by_cases z : i = k
        · subst z; exact good2 j hj e
        · exact good i j (by omega) hj e
    · obtain ⟨v2, v3, rfl, rfl, good⟩ := hP
      have : okC l x = true := okC_iff.mpr fun i j hi hj e => by
        rcases Nat.lt_trichotomy i j with c | c | c
        · exact (good j i hj c e.symm).symm
        · rw [c]
        · exact good i j hi c e
      rw [this] at q
      exact q
def spMatchT (K : PySem.W.Frag) : Sp := fun vs H Q _ => ∃ (a b : Addr) (l x : List Int), vs = [.ref a, .ref b] ∧ SqT K H a (l.map V.int) ∧ SqL K H b (x.map V.int) ∧ x.length = l.length ∧ l.length ≤ 1000 ∧ Q (.bl (okC l x)) H
theorem okm_tl {f : Addr} {fd : FuncData} (F : Fun K "_law_matches" "_law_matches" s_law_matches f fd) (z_range : mg "range" = none) (z_len : mg "len" = none) :
    FnOk P w K mg base CX0 1 f fd ["marks", "colours"] (spMatchT K) := by
  refine F.ok sc_law_matches (fun vs H Q E h => ?_) (fun cdv A outer s H vs Q E hr h => ?_)
  · obtain ⟨a, b, l, x, rfl, _⟩ := h
    rfl
  · obtain ⟨a, b, l, x, rfl, ha, hb, hx, hl, q⟩ := h
    refine ⟨_, (pss_cons (ps_for PassesOwn.never rfl (pi_range1 rfl z_range (pa_cons (pe_callB call_len_seq (by rfl) z_len boot_len (pa_cons (pv 0) pa_nil)) pa_nil)) (pg_name (i := 2) sc_law_matches.nd rfl (.inl rfl)) (pss_one (ps_for PassesOwn.never rfl (pi_range1 rfl z_range (pa_cons (pv 2) pa_nil)) (pg_name (i := 3) sc_law_matches.nd rfl (.inl rfl)) (pss_one (ps_if (L2.PW.pt (pw_and (pt_cmpR op_eq (pe_ix ix_tup (pv 0) (pv 2) (fun _ _ => rfl)) (pe_ix ix_tup (pv 0) (pv 3) (fun _ _ => rfl)) (nomark _)) (pw_and1 (pt_cmpR op_ne (pe_ix ix_list (pv 1) (pv 2) (fun _ _ => rfl)) (pe_ix ix_list (pv 1) (pv 3) (fun _ _ => rfl)) (nomark _))))) (pss_one (ps_ret pe_bl)) pss_nil)))))
  (pss_one (ps_ret pe_bl))), ?_⟩
    refine ⟨_, rfl, a, l.map V.int, rfl, .inr ha, _, rfl, by omega, by rw [List.length_map]; omega, ?_⟩
    rw [List.length_map, show ((l.length : Nat) : Int).toNat = l.length from rfl]
    refine for_range (lo := 0) (n := l.length) (fun k σ H' => ∃ v2 v3 : Option V, σ = [some (.ref a), some (.ref b), v2, v3] ∧ H' = H ∧ ∀ i j, i < k → j < i → co l i = co l j → co x i = co x j) ⟨none, none, rfl, rfl, fun i j h => absurd h (Nat.not_lt_zero _)⟩ (fun k σ H3 hk hP => ?_) (fun σ H3 hP => ?_)
    · obtain ⟨v2, v3, rfl, rfl, good⟩ := hP
      have ek : (0 : Int) + (k : Int) = (k : Int) := Int.zero_add _
      rw [ek]
      refine ⟨_, rfl, (k : Int), rfl, by omega, by omega, ?_⟩
      rw [show ((k : Nat) : Int).toNat = k from rfl]
      refine for_range (lo := 0) (n := k) (fun t σ H' => ∃ v3 : Option V, σ = [some (.ref a), some (.ref b), some (.int (k : Int)), v3] ∧ H' = H3 ∧ ∀ j, j < t → co l k = co l j → co x k = co x j) ⟨_, rfl, rfl, fun j h => absurd h (Nat.not_lt_zero _)⟩ (fun t σ H4 ht hP => ?_) (fun σ H4 hP => ?_)
      · obtain ⟨v3, rfl, rfl, good2⟩ := hP
        have et : (0 : Int) + (t : Int) = (t : Int) := Int.zero_add _
        rw [et]
        have ht' : t < l.length := by omega
        refine ⟨_, rfl, _, rfl, a, _, _, _, rfl, rfl, ha, at_co hk, _, rfl, _, rfl, a, _, _, _, rfl, rfl, ha, at_co ht', rfl, _, rfl, ?_⟩
        by_cases c : co l k = co l t
        · refine if_pos_of (decide_eq_true (by rw [c])) ?_
          refine ⟨_, rfl, _, rfl, b, _, _, _, rfl, rfl, hb, at_co (show k < x.length by omega), _, rfl, _, rfl, b, _, _, _, rfl, rfl, hb, at_co (show t < x.length by omega), rfl, _, rfl, ?_⟩
          by_cases e : co x k = co x t
          · refine if_neg_of (by rw [e, decide_eq_true rfl]; exact Bool.false_ne_true) ⟨_, rfl, rfl, fun j hj e2 => ?_⟩
            by_cases z : j = t
            · rw [z]; exact e
            · exact good2 j (by omega) e2
          · refine if_pos_of (by rw [decide_eq_false fun z => e (V.int.inj z)]; rfl) ?_
            have : okC l x = false := by
              cases h : okC l x with
              | false => rfl
              | true => exact absurd (okC_iff.mp h k t hk ht' c) e
            rw [this] at q
            exact q
        · refine if_neg_of (fun z => c (V.int.inj (of_decide_eq_true z))) (if_neg_of Bool.false_ne_true ⟨_, rfl, rfl, fun j hj e2 => ?_⟩)
          by_cases z : j = t
          · rw [z] at e2; exact absurd e2 c
          · exact good2 j (by omega) e2
      · obtain ⟨v3, rfl, rfl, good2⟩ := hP
        refine ⟨_, _, rfl, rfl, fun i j hi hj e => ?_⟩
        by_cases z : i = k
        · subst z; exact good2 j hj e
        · exact good i j (by omega) hj e
    · obtain ⟨v2, v3, rfl, rfl, good⟩ := hP
      have : okC l x = true := okC_iff.mpr fun i j hi hj e => by
        rcases Nat.lt_trichotomy i j with c | c | c
        · exact (good j i hj c e.symm).symm
        · rw [c]
        · exact good i j hi c e
      rw [this] at q
      exact q
def spMatchA (K : PySem.W.Frag) : Sp := fun vs H Q E => spMatch K vs H Q E ∨ spMatchT K vs H Q E
theorem ok_law_matches {f : Addr} {fd : FuncData} (F : Fun K "_law_matches" "_law_matches" s_law_matches f fd) (z_range : mg "range" = none) (z_len : mg "len" = none) :
    FnOk P w K mg base CX0 1 f fd ["marks", "colours"] (spMatchA K) := by
  have a := okm_lt (P := P) (w := w) (base := base) F z_range z_len
  have b := okm_tl (P := P) (w := w) (base := base) F z_range z_len
  exact ⟨fun vs H Q E h => h.elim (a.len vs H Q E) (b.len vs H Q E), fun A outer s H args us vs Q E hr e0 bt hv h => h.elim (a.run A outer s H args us vs Q E hr e0 bt hv) (b.run A outer s H args us vs Q E hr e0 bt hv)⟩
end

section
variable {P : Program} {w : World} {K : PySem.W.Frag} {mg : Str → Option Value} {base : Heap}
/-! ### _law_table, _law_exact -/
def spTabX (ex : Bool) : Sp := fun vs H Q _ => ∃ (d n m : Nat) (v : V) (l : List Int), vs = [.int (d : Int), v] ∧ DgAt H v n m l ∧ 0 < d ∧ d ≤ 4 ∧ d ^ (n + m) ≤ 1024 ∧
  ∀ L us H', Same H H' → H' L = some (.lst us) → Paired (LP H') us (tabX d l n m ex) → Q (.ref L) H'
theorem ok_law_table {f : Addr} {fd : FuncData} (F : Fun K "_law_table" "_law_table" s_law_table f fd) (z_int : mg "int" = none)
    {a_law_marks : Addr} {fd_law_marks : FuncData} (G_law_marks : FnOk P w K mg base CX0 1 a_law_marks fd_law_marks ["diagram"] spMarks) (g_law_marks : mg "_law_marks" = some (.ref a_law_marks)) (k_law_marks : PySem.W.keepIn K (.ref a_law_marks) = true) (b_law_marks : Binds K fd_law_marks ["diagram"] [])
    {a_law_colours : Addr} {fd_law_colours : FuncData} (G_law_colours : FnOk P w K mg base CX0 1 a_law_colours fd_law_colours ["d", "count"] spColT) (g_law_colours : mg "_law_colours" = some (.ref a_law_colours)) (k_law_colours : PySem.W.keepIn K (.ref a_law_colours) = true) (b_law_colours : Binds K fd_law_colours ["d", "count"] [])
    {a_law_matches : Addr} {fd_law_matches : FuncData} (G_law_matches : FnOk P w K mg base CX0 1 a_law_matches fd_law_matches ["marks", "colours"] (spMatchA K)) (g_law_matches : mg "_law_matches" = some (.ref a_law_matches)) (k_law_matches : PySem.W.keepIn K (.ref a_law_matches) = true) (b_law_matches : Binds K fd_law_matches ["marks", "colours"] []) :
    FnOk P w K mg base CX0 2 f fd ["d", "diagram"] (spTabX false) := by
  refine F.ok sc_law_table (fun vs H Q E h => ?_) (fun cdv A outer s H vs Q E hr h => ?_)
  · obtain ⟨d, n, m, v, l, rfl, _⟩ := h
    rfl
  · obtain ⟨d, n, m, v, l, rfl, da, hd0, hd, hp, q⟩ := h
    refine ⟨_, (pss_cons (ps_set (i := 2) sc_law_table.nd rfl (.inr rfl) (pe_call G_law_marks (hr.mono (by decide)) rfl g_law_marks k_law_marks b_law_marks .nil pass0 (pa_cons (pv 1) pa_nil)))
  (pss_cons (ps_set (i := 3) sc_law_table.nd rfl (.inl rfl) (pe_lst pa_nil))
  (pss_cons (ps_for PassesOwn.never rfl (pi_list (pe_call G_law_colours (hr.mono (by decide)) rfl g_law_colours k_law_colours b_law_colours .nil pass0 (pa_cons (pv 0) (pa_cons (pe_ix ix_tup (pv 1) pe_int (fun _ _ => rfl)) pa_nil)))) (pg_name (i := 4) sc_law_table.nd rfl (.inr rfl)) (pss_one (ps_expr (pe_bm PySem.F.plainAttrs_list PySem.F.slot_list_append PySem.F.type_list_append mt_append (pv 3) (pa_cons (pe_lc (own := [("below", 5)]) rfl sc_law_table.nd (pi_list (pe_call G_law_colours (hr.mono (by decide)) rfl g_law_colours k_law_colours b_law_colours .nil pass0 (pa_cons (pv 0) (pa_cons (pe_ix ix_tup (pv 1) pe_int (fun _ _ => rfl)) pa_nil)))) (blkOk_by (N := ["d", "diagram", "marks", "rows", "above", "below"]) (sc := defScope s_law_table) (by first | decide +kernel | rfl)) (fun _ _ _ _ _ => (pg_name (i := 5) sc_law_table.nd rfl (.inl rfl))) (fun _ _ _ _ _ => pts_nil) (fun _ _ _ _ _ => (pe_callTy call_int1 (by rfl) z_int boot_int (pa_cons (pe_call G_law_matches (hr.mono (by decide)) rfl g_law_matches k_law_matches b_law_matches .nil pass0 (pa_cons (pv 2) (pa_cons (pe_op op_catC (pv 4) (pv 5)) pa_nil))) pa_nil)))) pa_nil)))))
  (pss_one (ps_ret (pv 3)))))), ?_⟩
    have szl : 20000 ≤ sizeLine := by decide
    have hs := siz_iff.mp da.2.1
    have hl := da.2.2
    have dg := da.dg
    obtain ⟨hv, _, _⟩ := id da
    have bf := blocks_few l
    have p1 : d ^ n ≤ 1024 := pow_up hd0 (by omega) hp
    have p2 : d ^ m ≤ 1024 := pow_up hd0 (by omega) hp
    refine ⟨_, rfl, v, n, m, blocksOf l, rfl, hv, dg, by omega, fun M H1 s1 nM hM => ?_⟩
    have ll : (labL (blocksOf l) l.length).length = l.length := labL_len _ _
    rw [show ((n : Int) + (m : Int)).toNat = l.length by omega] at hM
    obtain ⟨t, vb, rfl, ht, _⟩ := id (hv.same s1)
    refine ⟨(by show 0 ≤ sizeLine; omega), fun R nR => ?_⟩
    have w1 := same_upd (o := .lst []) nR
    have hR1 : upd H1 R (.lst []) R = some (.lst []) := upd_same
    have MR : M ≠ R := ne_of_none hM nR
    have sHR := Same.trans s1 w1
    have hM1 := w1 _ _ hM
    have ht1 := w1 _ _ ht
    have nR0 := none_back s1 nR
    generalize upd H1 R (.lst []) = H2 at *
    refine ⟨_, rfl, _, rfl, t, _, 0, _, rfl, rfl, .inl (.inl ht1), atI_nat (j := 0) rfl, d, n, rfl, hd0, hd, by omega, p1, fun C cs H3 s3 nC hC pC => ?_⟩
    have CR : C ≠ R := fun z => by rw [z, hR1] at nC; exact nomatch nC
    have hR3 := s3 _ _ hR1
    have hM3 := s3 _ _ hM1
    have ht3 := s3 _ _ ht1
    refine ⟨C, rfl, ⟨_, .inl (.inl hC)⟩, for_list (xs := cs) (fun i σ H' => ∃ v4 : Option V, σ = [some (.int (d : Int)), some (.ref t), some (.ref M), some (.ref R), v4, none] ∧ SameBut R H3 H' ∧ ∃ us, H' R = some (.lst us) ∧
      Paired (RowD R H') us (((rowsC d n).take i).map fun a => (rowsC d m).map fun b => entX (labL (blocksOf l) l.length) (a ++ b) false)) ⟨none, rfl, SameBut.refl _ _, [], hR3, .nil⟩ (fun i σ H' _ hP => ?_) (fun i x σ H' hx hP => ?_) (fun σ H' hP => ?_)⟩
    · obtain ⟨v4, rfl, sb, us, hR, pu⟩ := hP
      exact .inl (.inl (sb _ _ CR hC))
    · obtain ⟨v4, rfl, sb, us, hR, pu⟩ := hP
      obtain ⟨a, ea, ax, rfl, hax⟩ := paired_get pC hx
      have hi := (List.getElem?_eq_some_iff.mp ea).1
      rw [rowsC_len] at hi
      have la := (rowsC_ok (List.mem_of_getElem? ea)).1
      have kR : ∀ {b : Addr} {o : HO}, H3 b = some o → b ≠ R → H' b = some o := fun h n => sb _ _ n h
      have tR : t ≠ R := fun z => by rw [z, hR3] at ht3; exact nomatch ht3
      have aR : ax ≠ R := fun z => by rw [z, hR3] at hax; exact nomatch hax
      have lus : us.length ≤ 1024 := by rw [pu.length, List.length_map, List.length_take]; omega
      refine ⟨_, rfl, .inl ⟨rfl, _, .inl (.inl hR)⟩, _, rfl, _, rfl, t, _, 1, _, rfl, rfl, .inl (.inl (kR ht3 tR)), atI_nat (j := 1) rfl, d, m, rfl, hd0, hd, by omega, p2, fun B bs' H4 s4 nB hB pB => ?_⟩
      refine ⟨B, rfl, ⟨_, .inl (.inl hB)⟩, fun E1 nE => ?_⟩
      have BE : B ≠ E1 := ne_of_none hB nE
      have kE : ∀ {H'' : Hp}, SameBut E1 H4 H'' → Same H4 H'' := fun sb b o e => sb b o (ne_of_none e nE) e
      have hM4 := s4 _ _ (kR hM3 MR)
      have ha4 := s4 _ _ (kR hax aR)
      refine lc_list (xs := bs') (fun j H'' => SameBut E1 H4 H'' ∧ H'' E1 = some (.lst ((((rowsC d m).take j).map fun b => entX (labL (blocksOf l) l.length) (a ++ b) false).map V.int))) ⟨SameBut.upd, upd_same⟩ (fun j H'' _ hP => .inl (.inl (hP.1 _ _ BE hB))) (fun j y H5 hy hP => ?_) (fun H5 hP => ?_)
      · obtain ⟨sb5, hE⟩ := hP
        obtain ⟨b, eb, bx, rfl, hbx⟩ := paired_get pB hy
        have lb := (rowsC_ok (List.mem_of_getElem? eb)).1
        have lj := (List.getElem?_eq_some_iff.mp eb).1
        rw [rowsC_len] at lj
        refine ⟨rfl, _, rfl, _, rfl, _, rfl, _, _, _, _, rfl, rfl, kE sb5 _ _ ha4, kE sb5 _ _ hbx, by rw [List.length_map, List.length_map]; omega, fun c H6 s6 hc => ?_⟩
        rw [← List.map_append] at hc
        refine .inl ⟨M, c, _, a ++ b, rfl, .inl (.inl (s6 _ _ (kE sb5 _ _ hM4))), .inl (.inl hc), by rw [List.length_append]; omega, by omega, .inr ⟨_, rfl, ?_⟩⟩
        refine ⟨_, s6 _ _ hE, by rw [List.length_map, List.length_map, List.length_take]; omega, (sb5.trans (Same.but s6)).trans SameBut.upd, ?_⟩
        rw [upd_same, List.take_succ, eb, List.map_append, List.map_append]
        rfl
      · obtain ⟨sb5, hE⟩ := hP
        rw [pB.length, List.take_length] at hE
        have s45 := kE sb5
        have hR5 := s45 _ _ (s4 _ _ hR)
        have ER : E1 ≠ R := fun z => by rw [z, s4 _ _ hR] at nE; exact nomatch nE
        have sR : SameBut R H' (upd H5 R (.lst (us ++ [.ref E1]))) := fun b o nb e => SameBut.upd b o nb (s45 b o (s4 b o e))
        refine ⟨R, _, _, rfl, rfl, hR5, by omega, _, rfl, sb.trans sR, _, upd_same, ?_⟩
        rw [List.take_succ, ea, List.map_append]
        exact paired_add ⟨E1, rfl, ER, by rw [upd_ne ER]; exact hE⟩ (Paired.mapP pu fun _ _ h => rowD_keep sR h)
    · obtain ⟨v4, rfl, sb, us, hR, pu⟩ := hP
      rw [pC.length, List.take_length] at pu
      refine ⟨_, rfl, q R us H' (fun b o e => sb b o (ne_of_none e nR0) (s3 b o (sHR b o e))) hR (Paired.mapP pu fun _ _ h => by obtain ⟨a, e, _, h⟩ := h; exact ⟨a, e, h⟩)⟩
end

section
variable {P : Program} {w : World} {K : PySem.W.Frag} {mg : Str → Option Value} {base : Heap}
theorem ok_law_exact {f : Addr} {fd : FuncData} (F : Fun K "_law_exact" "_law_exact" s_law_exact f fd) (z_int : mg "int" = none)
    {a_law_marks : Addr} {fd_law_marks : FuncData} (G_law_marks : FnOk P w K mg base CX0 1 a_law_marks fd_law_marks ["diagram"] spMarks) (g_law_marks : mg "_law_marks" = some (.ref a_law_marks)) (k_law_marks : PySem.W.keepIn K (.ref a_law_marks) = true) (b_law_marks : Binds K fd_law_marks ["diagram"] [])
    {a_law_colours : Addr} {fd_law_colours : FuncData} (G_law_colours : FnOk P w K mg base CX0 1 a_law_colours fd_law_colours ["d", "count"] spColT) (g_law_colours : mg "_law_colours" = some (.ref a_law_colours)) (k_law_colours : PySem.W.keepIn K (.ref a_law_colours) = true) (b_law_colours : Binds K fd_law_colours ["d", "count"] [])
    {a_law_matches : Addr} {fd_law_matches : FuncData} (G_law_matches : FnOk P w K mg base CX0 1 a_law_matches fd_law_matches ["marks", "colours"] (spMatchA K)) (g_law_matches : mg "_law_matches" = some (.ref a_law_matches)) (k_law_matches : PySem.W.keepIn K (.ref a_law_matches) = true) (b_law_matches : Binds K fd_law_matches ["marks", "colours"] []) :
    FnOk P w K mg base CX0 2 f fd ["d", "diagram"] (spTabX true) := by
  refine F.ok sc_law_exact (fun vs H Q E h => ?_) (fun cdv A outer s H vs Q E hr h => ?_)
  · obtain ⟨d, n, m, v, l, rfl, _⟩ := h
    rfl
  · obtain ⟨d, n, m, v, l, rfl, da, hd0, hd, hp, q⟩ := h
    refine ⟨_, (pss_cons (ps_set (i := 2) sc_law_exact.nd rfl (.inl rfl) (pe_call G_law_marks (hr.mono (by decide)) rfl g_law_marks k_law_marks b_law_marks .nil pass0 (pa_cons (pv 1) pa_nil)))
  (pss_cons (ps_set (i := 3) sc_law_exact.nd rfl (.inl rfl) (pe_lst pa_nil))
  (pss_cons (ps_for PassesOwn.never rfl (pi_list (pe_call G_law_colours (hr.mono (by decide)) rfl g_law_colours k_law_colours b_law_colours .nil pass0 (pa_cons (pv 0) (pa_cons (pe_ix ix_tup (pv 1) pe_int (fun _ _ => rfl)) pa_nil)))) (pg_name (i := 4) sc_law_exact.nd rfl (.inl rfl)) (pss_cons (ps_set (i := 5) sc_law_exact.nd rfl (.inl rfl) (pe_lst pa_nil))
  (pss_cons (ps_for PassesOwn.never rfl (pi_list (pe_call G_law_colours (hr.mono (by decide)) rfl g_law_colours k_law_colours b_law_colours .nil pass0 (pa_cons (pv 0) (pa_cons (pe_ix ix_tup (pv 1) pe_int (fun _ _ => rfl)) pa_nil)))) (pg_name (i := 6) sc_law_exact.nd rfl (.inl rfl)) (pss_cons (ps_set (i := 7) sc_law_exact.nd rfl (.inl rfl) (pe_op op_catC (pv 4) (pv 6)))
  (pss_one (ps_expr (pe_bm PySem.F.plainAttrs_list PySem.F.slot_list_append PySem.F.type_list_append mt_append (pv 5) (pa_cons (pe_callTy call_int1 (by rfl) z_int boot_int (pa_cons (pe_and (pe_call G_law_matches (hr.mono (by decide)) rfl g_law_matches k_law_matches b_law_matches .nil pass0 (pa_cons (pv 2) (pa_cons (pv 7) pa_nil))) (pe_one (pe_call G_law_matches (hr.mono (by decide)) rfl g_law_matches k_law_matches b_law_matches .nil pass0 (pa_cons (pv 7) (pa_cons (pv 2) pa_nil))))) pa_nil)) pa_nil))))))
  (pss_one (ps_expr (pe_bm PySem.F.plainAttrs_list PySem.F.slot_list_append PySem.F.type_list_append mt_append (pv 3) (pa_cons (pv 5) pa_nil)))))))
  (pss_one (ps_ret (pv 3)))))), ?_⟩
    have szl : 20000 ≤ sizeLine := by decide
    have hs := siz_iff.mp da.2.1
    have hl := da.2.2
    have dg := da.dg
    obtain ⟨hv, _, _⟩ := id da
    have bf := blocks_few l
    have p1 : d ^ n ≤ 1024 := pow_up hd0 (by omega) hp
    have p2 : d ^ m ≤ 1024 := pow_up hd0 (by omega) hp
    refine ⟨_, rfl, v, n, m, blocksOf l, rfl, hv, dg, by omega, fun M H1 s1 nM hM => ?_⟩
    have ll : (labL (blocksOf l) l.length).length = l.length := labL_len _ _
    rw [show ((n : Int) + (m : Int)).toNat = l.length by omega] at hM
    obtain ⟨t, vb, rfl, ht, _⟩ := id (hv.same s1)
    refine ⟨(by show 0 ≤ sizeLine; omega), fun R nR => ?_⟩
    have w1 := same_upd (o := .lst []) nR
    have hR1 : upd H1 R (.lst []) R = some (.lst []) := upd_same
    have MR : M ≠ R := ne_of_none hM nR
    have sHR := Same.trans s1 w1
    have hM1 := w1 _ _ hM
    have ht1 := w1 _ _ ht
    have nR0 := none_back s1 nR
    generalize upd H1 R (.lst []) = H2 at *
    refine ⟨_, rfl, _, rfl, t, _, 0, _, rfl, rfl, .inl (.inl ht1), atI_nat (j := 0) rfl, d, n, rfl, hd0, hd, by omega, p1, fun C cs H3 s3 nC hC pC => ?_⟩
    have CR : C ≠ R := fun z => by rw [z, hR1] at nC; exact nomatch nC
    have hR3 := s3 _ _ hR1
    have hM3 := s3 _ _ hM1
    have ht3 := s3 _ _ ht1
    refine ⟨C, rfl, ⟨_, .inl (.inl hC)⟩, for_list (xs := cs) (fun i σ H' => ∃ v4 v5 v6 v7 : Option V, σ = [some (.int (d : Int)), some (.ref t), some (.ref M), some (.ref R), v4, v5, v6, v7] ∧ SameBut R H3 H' ∧ ∃ us, H' R = some (.lst us) ∧
      Paired (RowD R H') us (((rowsC d n).take i).map fun a => (rowsC d m).map fun b => entX (labL (blocksOf l) l.length) (a ++ b) true)) ⟨none, none, none, none, rfl, SameBut.refl _ _, [], hR3, .nil⟩ (fun i σ H' _ hP => ?_) (fun i x σ H' hx hP => ?_) (fun σ H' hP => ?_)⟩
    · obtain ⟨v4, v5, v6, v7, rfl, sb, us, hR, pu⟩ := hP
      exact .inl (.inl (sb _ _ CR hC))
    · obtain ⟨v4, v5, v6, v7, rfl, sb, us, hR, pu⟩ := hP
      obtain ⟨a, ea, ax, rfl, hax⟩ := paired_get pC hx
      have hi := (List.getElem?_eq_some_iff.mp ea).1
      rw [rowsC_len] at hi
      have la := (rowsC_ok (List.mem_of_getElem? ea)).1
      have kR : ∀ {b : Addr} {o : HO}, H3 b = some o → b ≠ R → H' b = some o := fun h n => sb _ _ n h
      have tR : t ≠ R := fun z => by rw [z, hR3] at ht3; exact nomatch ht3
      have aR : ax ≠ R := fun z => by rw [z, hR3] at hax; exact nomatch hax
      have lus : us.length ≤ 1024 := by rw [pu.length, List.length_map, List.length_take]; omega
      refine ⟨(by show 0 ≤ sizeLine; omega), fun E1 nE => ?_⟩
      have e1 := same_upd (o := .lst []) nE
      have hE0 : upd H' E1 (.lst []) E1 = some (.lst []) := upd_same
      have hR0 := e1 _ _ hR
      have ER : E1 ≠ R := fun z => by rw [z, hR] at nE; exact nomatch nE
      have ht0 := e1 _ _ (kR ht3 tR)
      have hM0 := e1 _ _ (kR hM3 MR)
      have ha0 := e1 _ _ (kR hax aR)
      have hkeep : ∀ {H7 : Hp}, SameBut E1 (upd H' E1 (.lst [])) H7 → Same H' H7 := fun s b o e => s b o (ne_of_none e nE) (e1 b o e)
      generalize upd H' E1 (.lst []) = H3b at *
      refine ⟨_, rfl, _, rfl, t, _, 1, _, rfl, rfl, .inl (.inl ht0), atI_nat (j := 1) rfl, d, m, rfl, hd0, hd, by omega, p2, fun B bs' H4 s4 nB hB pB => ?_⟩
      have hM4 := s4 _ _ hM0
      have ha4 := s4 _ _ ha0
      have hE4 := s4 _ _ hE0
      have BE : B ≠ E1 := fun z => by rw [z, hE0] at nB; exact nomatch nB
      have ME : M ≠ E1 := fun z => by rw [← z] at hkeep nE; exact nomatch nE.symm.trans (kR hM3 MR)
      have aE : ax ≠ E1 := fun z => by rw [← z] at nE; exact nomatch nE.symm.trans (kR hax aR)
      refine ⟨B, rfl, ⟨_, .inl (.inl hB)⟩, for_list (xs := bs') (fun j σ H'' => ∃ v6 v7 : Option V, σ = [some (.int (d : Int)), some (.ref t), some (.ref M), some (.ref R), some (.ref ax), some (.ref E1), v6, v7] ∧ SameBut E1 H4 H'' ∧ H'' E1 = some (.lst ((((rowsC d m).take j).map fun b => entX (labL (blocksOf l) l.length) (a ++ b) true).map V.int))) ⟨v6, v7, rfl, SameBut.refl _ _, hE4⟩ (fun j σ H'' _ hP => ?_) (fun j y σ H5 hy hP => ?_) (fun σ H5 hP => ?_)⟩
      · obtain ⟨v6, v7, rfl, sb5, hE⟩ := hP
        exact .inl (.inl (sb5 _ _ BE hB))
      · obtain ⟨v6, v7, rfl, sb5, hE⟩ := hP
        obtain ⟨b, eb, bx, rfl, hbx⟩ := paired_get pB hy
        have lb := (rowsC_ok (List.mem_of_getElem? eb)).1
        have lj := (List.getElem?_eq_some_iff.mp eb).1
        rw [rowsC_len] at lj
        have bE : bx ≠ E1 := fun z => by rw [z, hE4] at hbx; exact nomatch hbx
        refine ⟨_, rfl, _, rfl, _, _, _, _, rfl, rfl, sb5 _ _ aE ha4, sb5 _ _ bE hbx, by rw [List.length_map, List.length_map]; omega, fun c H6 s6 hc => ?_⟩
        rw [← List.map_append] at hc
        have hE6 := s6 _ _ hE
        have hM6 := s6 _ _ (sb5 _ _ ME hM4)
        have lab : (a ++ b).length = l.length := by rw [List.length_append]; omega
        refine ⟨_, rfl, .inl ⟨rfl, _, .inl (.inl hE6)⟩, _, rfl, _, rfl, .inl ⟨M, c, _, a ++ b, rfl, .inl (.inl hM6), .inl (.inl hc), by omega, by omega, ?_⟩⟩
        have fin : ∀ bb : Bool, bit bb = entX (labL (blocksOf l) l.length) (a ++ b) true → ∃ acc, H6 E1 = some (.lst acc) ∧ acc.length < sizeLine ∧ SameBut E1 H4 (upd H6 E1 (.lst (acc ++ [V.int (if bb = true then 1 else 0)]))) ∧ upd H6 E1 (.lst (acc ++ [V.int (if bb = true then 1 else 0)])) E1 = some (.lst ((((rowsC d m).take (j + 1)).map fun b => entX (labL (blocksOf l) l.length) (a ++ b) true).map V.int)) := fun bb e => by
          refine ⟨_, hE6, by rw [List.length_map, List.length_map, List.length_take]; omega, (sb5.trans (Same.but s6)).trans SameBut.upd, ?_⟩
          rw [upd_same, List.take_succ, eb, List.map_append, List.map_append]
          show some (HO.lst (_ ++ [V.int (bit bb)])) = _
          rw [e]
          rfl
        refine ⟨_, rfl, ?_⟩
        by_cases c1 : okC (labL (blocksOf l) l.length) (a ++ b) = true
        · rw [c1]
          refine if_pos_of rfl ?_
          refine ⟨_, rfl, _, rfl, .inr ⟨c, M, a ++ b, _, rfl, .inl (.inl hc), .inl (.inl hM6), by omega, by omega, .inr ⟨_, rfl, ?_⟩⟩⟩
          obtain ⟨acc, f1, f2, f3, f4⟩ := fin (okC (a ++ b) (labL (blocksOf l) l.length)) (by unfold entX; rw [if_pos rfl, c1]; rfl)
          exact ⟨E1, acc, _, rfl, rfl, f1, f2, _, _, rfl, f3, f4⟩
        · rw [Bool.not_eq_true _ |>.mp c1]
          refine if_neg_of Bool.false_ne_true (.inr ⟨_, rfl, ?_⟩)
          obtain ⟨acc, f1, f2, f3, f4⟩ := fin false (by unfold entX; rw [if_pos rfl, Bool.not_eq_true _ |>.mp c1]; rfl)
          exact ⟨E1, acc, _, rfl, rfl, f1, f2, _, _, rfl, f3, f4⟩
      · obtain ⟨v6, v7, rfl, sb5, hE⟩ := hP
        rw [pB.length, List.take_length] at hE
        have s45 : Same H' H5 := hkeep (fun b o nb e => sb5 b o nb (s4 b o e))
        have hR5 := s45 _ _ hR
        have sR : SameBut R H' (upd H5 R (.lst (us ++ [.ref E1]))) := fun b o nb e => SameBut.upd b o nb (s45 b o e)
        refine ⟨_, rfl, .inl ⟨rfl, _, .inl (.inl hR5)⟩, _, rfl, R, _, _, rfl, rfl, hR5, by omega, _, _, _, _, rfl, sb.trans sR, _, upd_same, ?_⟩
        rw [List.take_succ, ea, List.map_append]
        exact paired_add ⟨E1, rfl, ER, by rw [upd_ne ER]; exact hE⟩ (Paired.mapP pu fun _ _ h => rowD_keep sR h)
    · obtain ⟨v4, v5, v6, v7, rfl, sb, us, hR, pu⟩ := hP
      rw [pC.length, List.take_length] at pu
      refine ⟨_, rfl, q R us H' (fun b o e => sb b o (ne_of_none e nR0) (s3 b o (sHR b o e))) hR (Paired.mapP pu fun _ _ h => by obtain ⟨a, e, _, h⟩ := h; exact ⟨a, e, h⟩)⟩
end

section
variable {P : Program} {w : World} {K : PySem.W.Frag} {mg : Str → Option Value} {base : Heap}
/-! ### _law_shape, _law_drawn_diagram -/
theorem mod_nat (x : Int) {k : Int} (h : 0 < k) : ∃ j : Nat, (j : Int) < k ∧ x % k = (j : Int) := ⟨(x % k).toNat, by have := Int.emod_lt_of_pos x h; have := Int.emod_nonneg x (show k ≠ 0 by omega); omega, by have := Int.emod_nonneg x (show k ≠ 0 by omega); omega⟩
def spShapeX : Sp := fun vs H Q _ => ∃ (r : Addr) (ds : List Int) (most : Nat), vs = [.ref r, .int (most : Int)] ∧ H r = some (.lst (ds.map V.int)) ∧ ∀ (n m : Nat) (ds' : List Int) (L : Addr) (H' : Hp), n + m ≤ most → SameBut r H H' → H' r = some (.lst (ds'.map V.int)) → H' L = some (.lst [.int (n : Int), .int (m : Int)]) → Q (.ref L) H'
theorem ok_law_shape {f : Addr} {fd : FuncData} (F : Fun K "_law_shape" "_law_shape" s_law_shape f fd) (z_int : mg "int" = none)
    {a_law_next : Addr} {fd_law_next : FuncData} (G_law_next : FnOk P w K mg base CX0 1 a_law_next fd_law_next ["draws"] spNext) (g_law_next : mg "_law_next" = some (.ref a_law_next)) (k_law_next : PySem.W.keepIn K (.ref a_law_next) = true) (b_law_next : Binds K fd_law_next ["draws"] []) :
    FnOk P w K mg base CX0 2 f fd ["draws", "most"] spShapeX := by
  refine F.ok sc_law_shape (fun vs H Q E h => ?_) (fun cdv A outer s H vs Q E hr h => ?_)
  · obtain ⟨r, ds, most, rfl, _⟩ := h
    rfl
  · obtain ⟨r, ds, most, rfl, hR, q⟩ := h
    refine ⟨_, (pss_cons (ps_set (i := 2) sc_law_shape.nd rfl (.inl rfl) (pe_op op_mod (pe_callTy call_int1 (by rfl) z_int boot_int (pa_cons (pe_call G_law_next (hr.mono (by decide)) rfl g_law_next k_law_next b_law_next .nil pass0 (pa_cons (pv 0) pa_nil)) pa_nil)) (pe_op op_add (pv 1) pe_int)))
  (pss_one (ps_ret (pe_lst (pa_cons (pv 2) (pa_cons (pe_op op_mod (pe_callTy call_int1 (by rfl) z_int boot_int (pa_cons (pe_call G_law_next (hr.mono (by decide)) rfl g_law_next k_law_next b_law_next .nil pass0 (pa_cons (pv 0) pa_nil)) pa_nil)) (pe_op op_sub (pe_op op_add (pv 1) pe_int) (pv 2))) pa_nil)))))), ?_⟩
    refine ⟨_, rfl, r, ds, rfl, hR, fun n0 ds1 => .inl ⟨n0, rfl, _, rfl, _, _, rfl, rfl, n0, _, rfl, rfl, (by omega), ?_⟩⟩
    obtain ⟨n, hn, en⟩ := mod_nat n0 (show (0 : Int) < (most : Int) + 1 by omega)
    dsimp only
    rw [en]
    refine ⟨_, rfl, _, rfl, r, ds1, rfl, upd_same, fun m0 ds2 => .inl ⟨m0, rfl, _, rfl, _, _, rfl, rfl, _, rfl, _, _, rfl, rfl, m0, _, rfl, rfl, (by omega), ?_⟩⟩
    obtain ⟨m, hm, em⟩ := mod_nat m0 (show (0 : Int) < (most : Int) + 1 - (n : Int) by omega)
    dsimp only
    rw [em]
    refine ⟨(by show 2 ≤ sizeLine; decide), fun L nL => ?_⟩
    exact q n m ds2 L _ (by omega) ((SameBut.upd.trans SameBut.upd).trans (Same.but (same_upd nL))) (same_upd nL _ _ upd_same) upd_same
def spDrawnD : Sp := fun vs H Q _ => ∃ (r : Addr) (ds : List Int) (n m : Nat), vs = [.ref r, .int (n : Int), .int (m : Int)] ∧ H r = some (.lst (ds.map V.int)) ∧ 0 < n + m ∧ siz n m = true ∧ ∀ (v : V) (l ds' : List Int) (H' : Hp), SameBut r H H' → H' r = some (.lst (ds'.map V.int)) → DgAt H' v n m l → Q v H'
theorem ok_law_drawn_diagram {f : Addr} {fd : FuncData} (F : Fun K "_law_drawn_diagram" "_law_drawn_diagram" s_law_drawn_diagram f fd) (z_int : mg "int" = none) (z_range : mg "range" = none)
    {a_law_next : Addr} {fd_law_next : FuncData} (G_law_next : FnOk P w K mg base CX0 1 a_law_next fd_law_next ["draws"] spNext) (g_law_next : mg "_law_next" = some (.ref a_law_next)) (k_law_next : PySem.W.keepIn K (.ref a_law_next) = true) (b_law_next : Binds K fd_law_next ["draws"] [])
    {a_law_marked : Addr} {fd_law_marked : FuncData} (G_law_marked : FnOk P w K mg base CX0 1 a_law_marked fd_law_marked ["n", "m", "marks"] (spMarked K)) (g_law_marked : mg "_law_marked" = some (.ref a_law_marked)) (k_law_marked : PySem.W.keepIn K (.ref a_law_marked) = true) (b_law_marked : Binds K fd_law_marked ["n", "m", "marks"] []) :
    FnOk P w K mg base CX0 2 f fd ["draws", "n", "m"] spDrawnD := by
  refine F.ok sc_law_drawn_diagram (fun vs H Q E h => ?_) (fun cdv A outer s H vs Q E hr h => ?_)
  · obtain ⟨r, ds, n, m, rfl, _⟩ := h
    rfl
  · obtain ⟨r, ds, n, m, rfl, hR, pos, sz, q⟩ := h
    refine ⟨_, (pss_cons (ps_setLc (i := 3) (own := [("j", 4)]) rfl sc_law_drawn_diagram.nd rfl rfl (sw_true rfl rfl rfl (by decide +kernel)) (pi_range1 rfl z_range (pa_cons (pe_op op_add (pv 1) (pv 2)) pa_nil)) (blkOk_by (N := ["draws", "n", "m", "marks", "j"]) (sc := defScope s_law_drawn_diagram) (by first | decide +kernel | rfl)) (fun _ _ _ _ _ => (pg_name (i := 4) sc_law_drawn_diagram.nd rfl (.inl rfl))) (fun _ _ _ _ _ => pts_nil) (fun _ _ _ _ _ => (pe_op op_mod (pe_callTy call_int1 (by rfl) z_int boot_int (pa_cons (pe_call G_law_next (hr.mono (by decide)) rfl g_law_next k_law_next b_law_next .nil pass0 (pa_cons (pv 0) pa_nil)) pa_nil)) (pe_op op_add (pv 1) (pv 2)))))
  (Evl.pss_cut (ps_if (pt_cmpR op_eq (pe_op op_mod (pe_callTy call_int1 (by rfl) z_int boot_int (pa_cons (pe_call G_law_next (hr.mono (by decide)) rfl g_law_next k_law_next b_law_next .nil pass0 (pa_cons (pv 0) pa_nil)) pa_nil)) pe_int) pe_int (nomark _)) (pss_one (ps_setLc (i := 3) (own := [("j", 4)]) rfl sc_law_drawn_diagram.nd rfl rfl (sw_true rfl rfl rfl (by decide +kernel)) (pi_range1 rfl z_range (pa_cons (pe_op op_add (pv 1) (pv 2)) pa_nil)) (blkOk_by (N := ["draws", "n", "m", "marks", "j"]) (sc := defScope s_law_drawn_diagram) (by first | decide +kernel | rfl)) (fun _ _ _ _ _ => (pg_name (i := 4) sc_law_drawn_diagram.nd rfl (.inl rfl))) (fun _ _ _ _ _ => pts_nil) (fun _ _ _ _ _ => (pe_op op_mod (pe_callTy call_int1 (by rfl) z_int boot_int (pa_cons (pe_call G_law_next (hr.mono (by decide)) rfl g_law_next k_law_next b_law_next .nil pass0 (pa_cons (pv 0) pa_nil)) pa_nil)) pe_int)))) pss_nil)
  (pss_one (ps_ret (pe_call G_law_marked (hr.mono (by decide)) rfl g_law_marked k_law_marked b_law_marked .nil pass0 (pa_cons (pv 1) (pa_cons (pv 2) (pa_cons (pv 3) pa_nil)))))))), ?_⟩
    have szl : 20000 ≤ sizeLine := by decide
    have hs := siz_iff.mp sz
    refine ⟨_, rfl, _, rfl, _, _, rfl, rfl, (n : Int) + (m : Int), rfl, by omega, by omega, fun D nD => ?_⟩
    have rD : r ≠ D := ne_of_none hR nD
    rw [show ((n : Int) + (m : Int)).toNat = n + m by omega]
    refine lc_range (lo := 0) (n := n + m) (fun j H' => ∃ ds xs : List Int, (∀ b o, b ≠ r → b ≠ D → H b = some o → H' b = some o) ∧ H' r = some (.lst (ds.map V.int)) ∧ H' D = some (.lst (xs.map V.int)) ∧ xs.length = j) ⟨ds, [], fun b o _ nb e => by rw [upd_ne nb]; exact e, by rw [upd_ne rD]; exact hR, upd_same, rfl⟩ (fun j H' hj hP => ?_) (fun H1 hP => ?_)
    · obtain ⟨ds, xs, keep, hr', hD, lx⟩ := hP
      refine ⟨rfl, _, rfl, r, ds, rfl, hr', fun n0 ds1 => .inl ⟨n0, rfl, _, rfl, _, rfl, _, _, rfl, rfl, n0, _, rfl, rfl, (by omega), ?_⟩⟩
      refine ⟨_, by rw [upd_ne (Ne.symm rD)]; exact hD, by rw [List.length_map]; omega, ds1, xs ++ [n0 % ((n : Int) + (m : Int))], fun b o nr nb e => by rw [upd_ne nb, upd_ne nr]; exact keep b o nr nb e, by rw [upd_ne rD, upd_same], by rw [upd_same, List.map_append]; rfl, by rw [List.length_append, lx]; rfl⟩
    · obtain ⟨ds1, xs, keep, hr1, hD1, lx⟩ := hP
      have sb1 : SameBut r H H1 := fun b o nr e => keep b o nr (ne_of_none e nD) e
      refine ⟨fun σ H' => ∃ (M : Addr) (ds xs : List Int), σ = [some (.ref r), some (.int (n : Int)), some (.int (m : Int)), some (.ref M), none] ∧ SameBut r H H' ∧ H' r = some (.lst (ds.map V.int)) ∧ H' M = some (.lst (xs.map V.int)) ∧ xs.length = n + m, ?_, ?_⟩
      · refine ⟨_, rfl, r, ds1, rfl, hr1, fun n0 ds2 => .inl ⟨n0, rfl, n0, 2, rfl, rfl, (show (0 : Int) < 2 by decide), rfl, _, rfl, ?_⟩⟩
        have hD2 : upd H1 r (.lst (ds2.map V.int)) D = some (.lst (xs.map V.int)) := by rw [upd_ne (Ne.symm rD)]; exact hD1
        have hr2 : upd H1 r (.lst (ds2.map V.int)) r = some (.lst (ds2.map V.int)) := upd_same
        have sb2 : SameBut r H (upd H1 r (.lst (ds2.map V.int))) := sb1.trans SameBut.upd
        generalize upd H1 r (.lst (ds2.map V.int)) = H2 at *
        refine ite2 (fun _ => ?_) (fun _ => ⟨D, ds2, xs, rfl, sb2, hr2, hD2, lx⟩)
        refine ⟨_, rfl, _, rfl, _, _, rfl, rfl, (n : Int) + (m : Int), rfl, by omega, by omega, fun D3 nD3 => ?_⟩
        have rD3 : r ≠ D3 := ne_of_none hr2 nD3
        rw [show ((n : Int) + (m : Int)).toNat = n + m by omega]
        refine lc_range (lo := 0) (n := n + m) (fun j H' => ∃ ds xs : List Int, (∀ b o, b ≠ r → b ≠ D3 → H2 b = some o → H' b = some o) ∧ H' r = some (.lst (ds.map V.int)) ∧ H' D3 = some (.lst (xs.map V.int)) ∧ xs.length = j) ⟨ds2, [], fun b o _ nb e => by rw [upd_ne nb]; exact e, by rw [upd_ne rD3]; exact hr2, upd_same, rfl⟩ (fun j H' hj hP => ?_) (fun H3 hP => ?_)
        · obtain ⟨ds, xs, keep, hr', hD, lx⟩ := hP
          refine ⟨rfl, _, rfl, r, ds, rfl, hr', fun n0 ds1 => .inl ⟨n0, rfl, n0, 3, rfl, rfl, (show (0 : Int) < 3 by decide), ?_⟩⟩
          refine ⟨_, by rw [upd_ne (Ne.symm rD3)]; exact hD, by rw [List.length_map]; omega, ds1, xs ++ [n0 % 3], fun b o nr nb e => by rw [upd_ne nb, upd_ne nr]; exact keep b o nr nb e, by rw [upd_ne rD3, upd_same], by rw [upd_same, List.map_append]; rfl, by rw [List.length_append, lx]; rfl⟩
        · obtain ⟨ds3, xs3, keep3, hr3, hD3, lx3⟩ := hP
          refine ⟨D3, ds3, xs3, rfl, fun b o nr e => ?_, hr3, hD3, lx3⟩
          have e2 := sb2 b o nr e
          exact keep3 b o nr (ne_of_none e2 nD3) e2
      rintro σ H4 ⟨M, ds4, xs4, rfl, sb4, hr4, hM4, lx4⟩
      refine ⟨_, rfl, _, rfl, _, rfl, n, m, M, xs4, rfl, .inl (.inl hM4), by omega, by omega, fun v H5 s5 _ dv => ?_⟩
      exact q v xs4 ds4 H5 (sb4.trans (Same.but s5)) (s5 _ _ hr4) ⟨dv, sz, by omega⟩
end

section
variable {P : Program} {w : World} {K : PySem.W.Frag} {mg : Str → Option Value} {base : Heap}
/-! ### _law_told -/
structure ErrE (K : PySem.W.Frag) (mg : Str → Option Value) (CE X_NotWorld X_NotFamily CD X_NotNumber X_NotWord X_NotMatrix CB X_NoAnswer CT X_Malformed : Addr) : Prop where
  gE : mg "WorthError" = some (.ref CE)
  ebc : PySem.W.subIn K (.ref CE) (.type "BaseException") = some true
  ehd : PySem.W.hasDictIn K CE = true
  ety : PySem.W.typeIn K (.ref CE) = some (.type "type")
  sD : PySem.W.subIn K (.ref CD) (.ref CE) = some true
  sB : PySem.W.subIn K (.ref CB) (.ref CE) = some true
  sT : PySem.W.subIn K (.ref CT) (.ref CE) = some true
  kD : KindE K CE X_NotWorld X_NotFamily CD X_NotNumber X_NotWord X_NotMatrix CB X_NoAnswer CT X_Malformed CD "diagram"
  kB : KindE K CE X_NotWorld X_NotFamily CD X_NotNumber X_NotWord X_NotMatrix CB X_NoAnswer CT X_Malformed CB "number"
  kT : KindE K CE X_NotWorld X_NotFamily CD X_NotNumber X_NotWord X_NotMatrix CB X_NoAnswer CT X_Malformed CT "large"
theorem TabOf.imp {CB CD CT : Addr} {ex : Bool} {d : Int} {v : V} {n m : Int} {bs : List (List Int)} {H : Hp} {Q : VK} {E1 E2 : Value → Option Addr → Hp → Prop} (h : ∀ c H', (c = .ref CB ∨ c = .ref CD ∨ c = .ref CT) → E1 c none H' → E2 c none H')
    (t : TabOf CB CD CT ex d v n m bs H Q E1) : TabOf CB CD CT ex d v n m bs H Q E2 := by
  obtain ⟨hv, dok, t1, t2⟩ := t
  refine ⟨hv, dok, fun z => h _ _ (.inl rfl) (t1 z), fun rd => ?_⟩
  rcases t2 rd with ⟨nd, t2⟩ | ⟨d', n', m', l, e1, e2, e3, e4, sz, hl, t3, t4⟩
  · exact .inl ⟨nd, fun H' s' => h _ _ (.inr (.inl rfl)) (t2 H' s')⟩
  · exact .inr ⟨d', n', m', l, e1, e2, e3, e4, sz, hl, fun z H' s' => h _ _ (.inr (.inr rfl)) (t3 z H' s'), t4⟩
def EK (CB CD CT : Addr) (c : Value) (z : Str) : Prop := (c = .ref CB ∧ z = "number") ∨ (c = .ref CD ∧ z = "diagram") ∨ (c = .ref CT ∧ z = "large")
def TelE (CB CD CT : Addr) (Q : VK) : Value → Option Addr → Hp → Prop := fun c _ H' => ∃ z, EK CB CD CT c z ∧ ∀ H2, Same H' H2 → Q (.str (("!" : Str) ++ z)) H2
def spTold (CB CD CT : Addr) : Sp := fun vs H Q _ => ∃ (way d : Int) (v : V) (n m : Int) (bs : List (List Int)) (ex : Bool), vs = [.int way, .int d, v] ∧ ((way = 0 ∧ ex = false) ∨ (way = 1 ∧ ex = true)) ∧ TabOf CB CD CT ex d v n m bs H Q (TelE CB CD CT Q)
theorem ok_law_told {f CE X_NotWorld X_NotFamily CD X_NotNumber X_NotWord X_NotMatrix CB X_NoAnswer CT X_Malformed : Addr} {fd : FuncData} (F : Fun K "_law_told" "_law_told" s_law_told f fd) (T : ErrE K mg CE X_NotWorld X_NotFamily CD X_NotNumber X_NotWord X_NotMatrix CB X_NoAnswer CT X_Malformed)
    {a_colour_table : Addr} {fd_colour_table : FuncData} (G_colour_table : FnOk P w K mg base (L2N.CX P w) 7 a_colour_table fd_colour_table ["d", "diagram"] (spTableE CB CD CT false)) (g_colour_table : mg "colour_table" = some (.ref a_colour_table)) (k_colour_table : PySem.W.keepIn K (.ref a_colour_table) = true) (b_colour_table : Binds K fd_colour_table ["d", "diagram"] [])
    {a_exact_table : Addr} {fd_exact_table : FuncData} (G_exact_table : FnOk P w K mg base (L2N.CX P w) 7 a_exact_table fd_exact_table ["d", "diagram"] (spTableE CB CD CT true)) (g_exact_table : mg "exact_table" = some (.ref a_exact_table)) (k_exact_table : PySem.W.keepIn K (.ref a_exact_table) = true) (b_exact_table : Binds K fd_exact_table ["d", "diagram"] [])
    {a_law_error : Addr} {fd_law_error : FuncData} (G_law_error : FnE P w K mg base  1 a_law_error fd_law_error ["error"] (spLErr K CE X_NotWorld X_NotFamily CD X_NotNumber X_NotWord X_NotMatrix CB X_NoAnswer CT X_Malformed)) (g_law_error : mg "_law_error" = some (.ref a_law_error)) (k_law_error : PySem.W.keepIn K (.ref a_law_error) = true) (b_law_error : Binds K fd_law_error ["error"] []) :
    FnOk P w K mg base CX0 8 f fd ["which", "d", "diagram"] (spTold CB CD CT) := by
  have gc_WorthError := T.gE
  have eD := PySem.W.exm_ref T.ebc T.ehd T.ety T.sD
  have eB := PySem.W.exm_ref T.ebc T.ehd T.ety T.sB
  have eT := PySem.W.exm_ref T.ebc T.ehd T.ety T.sT
  refine F.ok sc_law_told (fun vs H Q E h => ?_) (fun cdv A outer s H vs Q E hr1 h => ?_)
  · obtain ⟨way, d, v, n, m, bs, ex, rfl, _⟩ := h
    rfl
  · obtain ⟨way, d, v, n, m, bs, ex, rfl, hw, q⟩ := h
    refine ⟨_, (pss_one (L2N.ps_try_as (i := 3) (Wout := fun _ _ _ _ => False) rfl rfl sc_law_told.nd rfl rfl ⟨rfl, by decide, .inl gc_WorthError⟩ takes0N (fun W pn xe tk _ => by exact (pss_cons (ps_if (pt_cmpR op_eq (pv 0) pe_int (nomark _)) (pss_one (ps_ret (pe_callS G_colour_table (hr1.mono (by decide)) rfl g_colour_table k_colour_table b_colour_table (fun σ => L2N.passAt tk σ) (pa_cons (pv 1) (pa_cons (pv 2) pa_nil))))) pss_nil)
  (pss_one (ps_ret (pe_callS G_exact_table (hr1.mono (by decide)) rfl g_exact_table k_exact_table b_exact_table (fun σ => L2N.passAt tk σ) (pa_cons (pv 1) (pa_cons (pv 2) pa_nil))))))) (fun ax oe cls dx pn hz hf => by exact (pss_one (ps_ret (pe_callX1 G_law_error (hr1.mono (by decide)) hz hf rfl g_law_error k_law_error b_law_error (pa_cons (pv 3) pa_nil))))))), ?_⟩
    rcases hw with ⟨rfl, rfl⟩ | ⟨rfl, rfl⟩
    · refine ⟨_, rfl, rfl, _, rfl, iteT ?_⟩
      refine ⟨_, rfl, _, rfl, d, v, n, m, bs, rfl, q.imp fun c H' _ e => ?_⟩
      obtain ⟨z, hz, e⟩ := e
      rcases hz with ⟨rfl, rfl⟩ | ⟨rfl, rfl⟩ | ⟨rfl, rfl⟩
      · exact ⟨true, eB, fun _ ax _ => ⟨_, rfl, ⟨_, _, rfl, rfl, rfl, T.kB, fun H2 s2 => e H2 s2⟩⟩, fun z => nomatch z⟩
      · exact ⟨true, eD, fun _ ax _ => ⟨_, rfl, ⟨_, _, rfl, rfl, rfl, T.kD, fun H2 s2 => e H2 s2⟩⟩, fun z => nomatch z⟩
      · exact ⟨true, eT, fun _ ax _ => ⟨_, rfl, ⟨_, _, rfl, rfl, rfl, T.kT, fun H2 s2 => e H2 s2⟩⟩, fun z => nomatch z⟩
    · refine ⟨_, rfl, rfl, _, rfl, iteF ?_⟩
      refine ⟨_, rfl, _, rfl, d, v, n, m, bs, rfl, q.imp fun c H' _ e => ?_⟩
      obtain ⟨z, hz, e⟩ := e
      rcases hz with ⟨rfl, rfl⟩ | ⟨rfl, rfl⟩ | ⟨rfl, rfl⟩
      · exact ⟨true, eB, fun _ ax _ => ⟨_, rfl, ⟨_, _, rfl, rfl, rfl, T.kB, fun H2 s2 => e H2 s2⟩⟩, fun z => nomatch z⟩
      · exact ⟨true, eD, fun _ ax _ => ⟨_, rfl, ⟨_, _, rfl, rfl, rfl, T.kD, fun H2 s2 => e H2 s2⟩⟩, fun z => nomatch z⟩
      · exact ⟨true, eT, fun _ ax _ => ⟨_, rfl, ⟨_, _, rfl, rfl, rfl, T.kT, fun H2 s2 => e H2 s2⟩⟩, fun z => nomatch z⟩
end

/-! ### _law_large: one block -/
theorem cr_sumK {X : Cx} {K : PySem.W.Frag} (hK : X.K = K) (hc : X.calm = true) : CallR X (.builtin "sum") (rSum K) := by
  subst hK
  exact cr_sum hc
theorem one_blk : ∀ p, p < 13 → 0 < p → blocksOf (List.replicate p 0) = [ixs p] := by decide +kernel
theorem one_sum : ∀ d, d < 5 → ∀ p, p < 13 → 0 < d → 0 < p → d ^ p ≤ 1024 → ∀ ex : Bool, ((tabD d (List.replicate p 0) (p / 2) (p - p / 2) ex).map List.sum).sum = (d : Int) := by decide +kernel
section
variable {P : Program} {w : World} {K : PySem.W.Frag} {mg : Str → Option Value} {base : Heap}
def spLargeX : Sp := fun vs H Q _ => ∃ d p : Nat, vs = [.int (d : Int), .int (p : Int)] ∧ 0 < d ∧ d < 5 ∧ 0 < p ∧ p < 13 ∧ ∀ H', Same H H' → Q (.bl true) H'
theorem ok_law_large {f CB CD CT : Addr} {fd : FuncData} (F : Fun K "_law_large" "_law_large" s_law_large f fd) (z_range : mg "range" = none) (z_tuple : mg "tuple" = none) (z_list : mg "list" = none) (z_sum : mg "sum" = none) (z_isinstance : mg "isinstance" = none)
    {a_law_told : Addr} {fd_law_told : FuncData} (G_law_told : FnOk P w K mg base CX0 8 a_law_told fd_law_told ["which", "d", "diagram"] (spTold CB CD CT)) (g_law_told : mg "_law_told" = some (.ref a_law_told)) (k_law_told : PySem.W.keepIn K (.ref a_law_told) = true) (b_law_told : Binds K fd_law_told ["which", "d", "diagram"] []) :
    FnOk P w K mg base CX0 9 f fd ["d", "points"] spLargeX := by
  refine F.ok sc_law_large (fun vs H Q E h => ?_) (fun cdv A outer s H vs Q E hr h => ?_)
  · obtain ⟨d, p, rfl, _⟩ := h
    rfl
  · obtain ⟨d, p, rfl, hd0, hd, hp0, hp, q⟩ := h
    refine ⟨_, (pss_cons (ps_set (i := 2) sc_law_large.nd rfl (.inl rfl) (pe_op op_fdiv (pv 1) pe_int))
  (pss_cons (ps_set (i := 3) sc_law_large.nd rfl (.inl rfl) (pe_tup (pa_cons (pv 2) (pa_cons (pe_op op_sub (pv 1) (pv 2)) (pa_cons (pe_tup (pa_cons (pe_tupRg rfl rfl z_tuple (prg_1 rfl z_range (pv 1))) pa_nil)) pa_nil)))))
  (pss_cons (ps_set (i := 4) sc_law_large.nd rfl (.inl rfl) pe_int)
  (pss_cons (ps_for PassesOwn.never rfl (pi_range1 rfl z_range (pa_cons (pv 1) pa_nil)) (pg_name (i := 5) sc_law_large.nd rfl (.inl rfl)) (pss_one (ps_set (i := 4) sc_law_large.nd rfl (.inl rfl) (pe_op op_mul (pv 4) (pv 0)))))
  (pss_cons (ps_for PassesOwn.never rfl (pi_range1 rfl z_range (pa_cons pe_int pa_nil)) (pg_name (i := 6) sc_law_large.nd rfl (.inl rfl)) (pss_cons (ps_set (i := 7) sc_law_large.nd rfl (.inl rfl) (pe_call G_law_told (hr.mono (by decide)) rfl g_law_told k_law_told b_law_told .nil pass0 (pa_cons (pv 6) (pa_cons (pv 0) (pa_cons (pv 3) pa_nil)))))
  (pss_one (ps_if (pt_cmpR op_gt (pv 4) pe_int (nomark _)) (pss_one (ps_if (pt_cmpR op_ne (pv 7) pe_str (nomark _)) (pss_one (ps_ret pe_bl)) pss_nil)) (pss_one (ps_if (L2.PW.pt (pw_or (pt_not (pt_val (pe_callB call_isi (by rfl) z_isinstance boot_isinstance (pa_cons (pv 7) (pa_cons (pe_bltn rfl z_list boot_list (show RelV (V.ty "list") (Value.type "list") from rfl)) pa_nil))))) (pw_or1 (pt_cmpR op_ne (pe_callB (cr_sum rfl) (by rfl) z_sum boot_sum (pa_cons (pe_lc (own := [("row", 8)]) rfl sc_law_large.nd (pi_list (pv 7)) (blkOk_by (N := ["d", "points", "n", "diagram", "entries", "j", "which", "told", "row"]) (sc := defScope s_law_large) (by first | decide +kernel | rfl)) (fun _ _ _ _ _ => (pg_name (i := 8) sc_law_large.nd rfl (.inl rfl))) (fun _ _ _ _ _ => pts_nil) (fun _ _ _ _ _ => (pe_callB (cr_sumK (K := K) rfl rfl) (by rfl) z_sum boot_sum (pa_cons (pv 8) pa_nil)))) pa_nil)) (pv 0) (nomark _))))) (pss_one (ps_ret pe_bl)) pss_nil))))))
  (pss_one (ps_ret pe_bl))))))), ?_⟩
    have szl : 20000 ≤ sizeLine := by decide
    have tel : ∀ ex : Bool, ∀ H' v, DgAt H' v ((p / 2 : Nat) : Int) ((p - p / 2 : Nat) : Int) (List.replicate p 0) → ∀ Q2 : VK, (1024 < d ^ p → ∀ H2, Same H' H2 → Q2 (.str "!large") H2) → (d ^ p ≤ 1024 → ∀ L H2, Same H' H2 → TabH H' H2 L ((tabD d (List.replicate p 0) (p / 2) (p - p / 2) ex).map fun r => r.map V.int) → Q2 (.ref L) H2) →
        TabOf CB CD CT ex (d : Int) v ((p / 2 : Nat) : Int) ((p - p / 2 : Nat) : Int) (blocksOf (List.replicate p 0)) H' Q2 (TelE CB CD CT Q2) := fun ex H' v da Q2 h1 h2 => by
      refine ⟨da.1, da.ok, fun z => absurd ⟨by omega, by omega⟩ z, fun _ => .inr ⟨d, p / 2, p - p / 2, List.replicate p 0, rfl, rfl, rfl, rfl, da.2.1, by rw [List.length_replicate]; omega, fun big H2 s2 => ?_, fun few => ?_⟩⟩
      · rw [show p / 2 + (p - p / 2) = p by omega] at big
        exact ⟨"large", .inr (.inr ⟨rfl, rfl⟩), fun H3 s3 => h1 big H3 (Same.trans s2 s3)⟩
      · rw [show p / 2 + (p - p / 2) = p by omega] at few
        exact h2 few
    refine ⟨_, rfl, (p : Int), 2, rfl, rfl, ⟨by decide, by decide⟩, ?_⟩
    have e2 : (p : Int) / 2 = ((p / 2 : Nat) : Int) := by omega
    dsimp only
    rw [e2]
    refine ⟨_, rfl, _, rfl, _, rfl, _, _, rfl, rfl, _, rfl, (p : Int), rfl, (by show _ ∧ _; constructor <;> omega), fun t1 n1 => ?_⟩
    have w1 := same_upd (o := .tup (rgV 0 (p : Int))) n1
    have h1 : upd H t1 (.tup (rgV 0 (p : Int))) t1 = some (.tup ((ixs p).map V.int)) := by
      rw [upd_same]
      congr 2
      unfold rgV ixs
      rw [List.map_map, show ((p : Int) - 0).toNat = p by omega]
      exact List.map_congr_left fun i _ => by show V.int (0 + (i : Int)) = V.int (i : Int); rw [Int.zero_add]
    generalize upd H t1 (.tup (rgV 0 (p : Int))) = H1 at *
    refine ⟨(by show 1 ≤ sizeLine; omega), fun t2 n2 => ?_⟩
    have w2 := same_upd (o := .tup [.ref t1]) n2
    have h2 : upd H1 t2 (.tup [.ref t1]) t2 = some (.tup [.ref t1]) := upd_same
    have h1 := w2 _ _ h1
    have w2 := Same.trans w1 w2
    generalize upd H1 t2 (.tup [.ref t1]) = H2 at *
    refine ⟨(by show 3 ≤ sizeLine; omega), fun t3 n3 => ?_⟩
    rw [show (fun i j : Int => V.int (i - j)) (p : Int) ((p / 2 : Nat) : Int) = V.int ((p - p / 2 : Nat) : Int) from congrArg V.int (by omega)]
    have w3 := same_upd (o := .tup [.int ((p / 2 : Nat) : Int), .int ((p - p / 2 : Nat) : Int), .ref t2]) n3
    have da : DgAt (upd H2 t3 (.tup [.int ((p / 2 : Nat) : Int), .int ((p - p / 2 : Nat) : Int), .ref t2])) (.ref t3) ((p / 2 : Nat) : Int) ((p - p / 2 : Nat) : Int) (List.replicate p 0) := by
      refine ⟨⟨t3, _, rfl, upd_same, t2, [.ref t1], rfl, w3 _ _ h2, ?_⟩, siz_iff.mpr ⟨by omega, by omega, by omega, by omega, by omega⟩, by rw [List.length_replicate]; omega⟩
      rw [one_blk p hp hp0]
      exact .cons ⟨t1, rfl, w3 _ _ h1⟩ .nil
    have w3 := Same.trans w2 w3
    generalize upd H2 t3 (.tup [.int ((p / 2 : Nat) : Int), .int ((p - p / 2 : Nat) : Int), .ref t2]) = H3 at *
    refine ⟨_, rfl, (p : Int), rfl, by omega, by omega, ?_⟩
    rw [show ((p : Nat) : Int).toNat = p from rfl]
    refine for_range (lo := 0) (n := p) (fun k σ H' => ∃ v5 : Option V, σ = [some (.int (d : Int)), some (.int (p : Int)), some (.int ((p / 2 : Nat) : Int)), some (.ref t3), some (.int ((d ^ k : Nat) : Int)), v5, none, none, none] ∧ H' = H3) ⟨none, rfl, rfl⟩ (fun k σ H' hk hP => ?_) (fun σ Hx hP => ?_)
    · obtain ⟨v5, rfl, rfl⟩ := hP
      exact ⟨_, rfl, _, rfl, _, _, rfl, rfl, .inr ⟨by omega, by omega⟩, ⟨_, by rw [Nat.pow_succ, Int.natCast_mul]; rfl, rfl⟩⟩
    · obtain ⟨v5, rfl, rfl⟩ := hP
      refine ⟨(2 : Int), rfl, by omega, by omega, for_range (lo := 0) (n := 2) (fun k σ H' => ∃ v6 v7 : Option V, σ = [some (.int (d : Int)), some (.int (p : Int)), some (.int ((p / 2 : Nat) : Int)), some (.ref t3), some (.int ((d ^ p : Nat) : Int)), v5, v6, v7, none] ∧ Same Hx H') ⟨none, none, rfl, Same.refl _⟩ (fun k σ H' hk hP => ?_) (fun σ H' hP => ?_)⟩
      · obtain ⟨v6, v7, rfl, s'⟩ := hP
        obtain ⟨ex, hex⟩ : ∃ ex : Bool, (((0 : Int) + (k : Int)) = 0 ∧ ex = false) ∨ (((0 : Int) + (k : Int)) = 1 ∧ ex = true) := by
          rcases (show k = 0 ∨ k = 1 by omega) with rfl | rfl
          · exact ⟨false, .inl ⟨rfl, rfl⟩⟩
          · exact ⟨true, .inr ⟨rfl, rfl⟩⟩
        refine ⟨_, rfl, _, rfl, _, rfl, _, _, _, _, _, _, ex, rfl, hex, tel ex H' (.ref t3) (da.same s') _ (fun big H4 s4 => ?_) (fun few L H4 s4 tb => ?_)⟩
        · refine ⟨_, rfl, _, _, rfl, rfl, _, rfl, if_pos_of (decide_eq_true (by omega)) ?_⟩
          exact ⟨_, rfl, rfl, _, rfl, ite_same ⟨_, _, rfl, Same.trans s' s4⟩⟩
        · refine ⟨_, rfl, _, _, rfl, rfl, _, rfl, if_neg_of (fun z => by have := of_decide_eq_true z; omega) ?_⟩
          obtain ⟨_, us, hL, _, pU⟩ := id tb
          refine ⟨_, rfl, _, _, _, _, true, rfl, .ty _, .base (.lst hL), kit_ty (by decide +kernel), _, rfl, iteF ?_⟩
          refine ⟨_, rfl, L, rfl, ⟨_, .inl (.inl hL)⟩, fun D nD => ?_⟩
          have LD : L ≠ D := ne_of_none hL nD
          have kD : ∀ {H'' : Hp}, SameBut D H4 H'' → Same H4 H'' := fun sb b o e => sb b o (ne_of_none e nD) e
          have lR : (tabD d (List.replicate p 0) (p / 2) (p - p / 2) ex).length ≤ 1024 := by
            unfold tabD tabO
            rw [List.length_map, List.length_range]
            exact pow_up hd0 (by omega) few
          refine lc_list (xs := us) (fun i H'' => SameBut D H4 H'' ∧ H'' D = some (.lst ((((tabD d (List.replicate p 0) (p / 2) (p - p / 2) ex).take i).map List.sum).map V.int))) ⟨SameBut.upd, upd_same⟩ (fun i H'' _ hP => .inl (.inl (hP.1 _ _ LD hL))) (fun i x H5 hx hP => ?_) (fun H5 hP => ?_)
          · obtain ⟨sb, hD⟩ := hP
            obtain ⟨r, er, a, rfl, _, _, ha⟩ := paired_get pU hx
            rw [List.getElem?_map] at er
            obtain ⟨r, er2, rfl⟩ := Option.map_eq_some_iff.mp er
            refine ⟨rfl, _, rfl, a, r, rfl, .inl (.inl (kD sb _ _ ha)), _, hD, by rw [List.length_map, List.length_map, List.length_take]; omega, sb.trans SameBut.upd, ?_⟩
            rw [upd_same, List.take_succ, er2, List.map_append, List.map_append]
            rfl
          · obtain ⟨sb, hD⟩ := hP
            have el : us.length = (tabD d (List.replicate p 0) (p / 2) (p - p / 2) ex).length := by rw [pU.length, List.length_map]
            rw [el, List.take_length] at hD
            refine ⟨D, _, rfl, .inl (.inl hD), ?_⟩
            rw [one_sum d hd p hp hd0 hp0 few ex]
            exact ⟨_, rfl, rfl, _, rfl, ite_same ⟨_, _, rfl, Same.trans s' (Same.trans s4 (kD sb))⟩⟩
      · obtain ⟨v6, v7, rfl, s'⟩ := hP
        exact q _ (Same.trans w3 s')
end

/-! ### the law -/
theorem tab_dp {K : PySem.W.Frag} {H : Hp} {us : List V} {rows : List (List Int)} (p : Paired (LP H) us rows) : DpAll K H us (rows.map dL) := by
  induction p with
  | nil => exact .nil
  | cons h _ ih => exact .cons h.dp ih
theorem tabH_lp {H0 H : Hp} {L : Addr} {us : List V} {rows : List (List Int)} (t : TabH H0 H L (rows.map fun r => r.map V.int)) (hL : H L = some (.lst us)) : Paired (LP H) us rows := by
  obtain ⟨_, us', hL', _, pr⟩ := t
  obtain rfl : us' = us := HO.lst.inj (Option.some.inj (hL'.symm.trans hL))
  have : ∀ {us : List V} {rows : List (List Int)}, Paired (fun v r => ∃ a, v = .ref a ∧ a ≠ L ∧ H0 a = none ∧ H a = some (.lst r)) us (rows.map fun r => r.map V.int) → Paired (LP H) us rows := by
    intro us rows
    induction rows generalizing us with
    | nil => intro p; cases p; exact .nil
    | cons r rows ih =>
      intro p
      cases p with
      | cons h t =>
        obtain ⟨a, e, _, _, ha⟩ := h
        exact .cons ⟨a, e, ha⟩ (ih t)
  exact this pr
theorem smL_tab {d n m : Nat} {l : List Int} {ex : Bool} (hd : 0 < d) (h : d ^ (n + m) ≤ 1024) : SmL 2 3000000 (.list ((tabD d l n m ex).map dL)) := by
  have e := smL_list (ds := (tabD d l n m ex).map dL) (n := 1) (k := 1923 * d ^ m + 3) fun D hD => by
    obtain ⟨r, hr, rfl⟩ := List.mem_map.mp hD
    unfold tabD tabO at hr
    obtain ⟨i, _, rfl⟩ := List.mem_map.mp hr
    refine smL_dL (B := d ^ m) (fun x hx => ?_) (by rw [List.length_map, List.length_range]; exact Nat.le_refl _)
    obtain ⟨j, _, rfl⟩ := List.mem_map.mp hx
    split <;> decide
  have el : ((tabD d l n m ex).map dL).length = d ^ n := by
    unfold tabD tabO
    rw [List.length_map, List.length_map, List.length_range]
  rw [el] at e
  have h1 : d ^ n ≤ 1024 := pow_up hd (by omega) h
  refine e.more ?_
  rw [Nat.pow_add] at h
  have : (1923 * d ^ m + 3 + 2) * d ^ n = 1923 * (d ^ n * d ^ m) + 5 * d ^ n := by
    rw [Nat.add_assoc, Nat.add_mul, Nat.mul_assoc, Nat.mul_comm (d ^ m)]
  omega
/-- what stays through the law -/
structure K5 (H : Hp) (r : Addr) (v : V) (d n m : Nat) (l ds : List Int) : Prop where
  hr : H r = some (.lst (ds.map V.int))
  da : DgAt H v n m l
theorem K5.same {H H' : Hp} {r : Addr} {v : V} {d n m : Nat} {l ds : List Int} (s : Same H H') (h : K5 H r v d n m l ds) : K5 H' r v d n m l ds := ⟨s _ _ h.hr, h.da.same s⟩
theorem K5.next {H : Hp} {r : Addr} {v : V} {d n m : Nat} {l ds ds' : List Int} (h : K5 H r v d n m l ds) : K5 (upd H r (.lst (ds'.map V.int))) r v d n m l ds' := ⟨upd_same, h.da.butL h.hr SameBut.upd⟩
section
variable {P : Program} {w : World} {K : PySem.W.Frag} {mg : Str → Option Value} {base : Heap}
def spLaw (K : PySem.W.Frag) : Sp := fun vs H Q _ => ∃ (a : Addr) (ns : List Int), vs = [.ref a] ∧ SqL K H a (ns.map V.int) ∧ ns.length ≤ 63 ∧ ∀ H', Q (.bl true) H'
theorem ok_law {f CB CD CT : Addr} {fd : FuncData} (F : Fun K "law" "law" s_law f fd) (z_int : mg "int" = none) (z_range : mg "range" = none) (z_repr : mg "repr" = none)
    {a_law_draws : Addr} {fd_law_draws : FuncData} (G_law_draws : FnOk P w K mg base CX0 2 a_law_draws fd_law_draws ["script"] (spDraws K)) (g_law_draws : mg "_law_draws" = some (.ref a_law_draws)) (k_law_draws : PySem.W.keepIn K (.ref a_law_draws) = true) (b_law_draws : Binds K fd_law_draws ["script"] [])
    {a_law_next : Addr} {fd_law_next : FuncData} (G_law_next : FnOk P w K mg base CX0 1 a_law_next fd_law_next ["draws"] spNext) (g_law_next : mg "_law_next" = some (.ref a_law_next)) (k_law_next : PySem.W.keepIn K (.ref a_law_next) = true) (b_law_next : Binds K fd_law_next ["draws"] [])
    {a_law_shape : Addr} {fd_law_shape : FuncData} (G_law_shape : FnOk P w K mg base CX0 2 a_law_shape fd_law_shape ["draws", "most"] spShapeX) (g_law_shape : mg "_law_shape" = some (.ref a_law_shape)) (k_law_shape : PySem.W.keepIn K (.ref a_law_shape) = true) (b_law_shape : Binds K fd_law_shape ["draws", "most"] [])
    {a_law_drawn_diagram : Addr} {fd_law_drawn_diagram : FuncData} (G_law_drawn_diagram : FnOk P w K mg base CX0 2 a_law_drawn_diagram fd_law_drawn_diagram ["draws", "n", "m"] spDrawnD) (g_law_drawn_diagram : mg "_law_drawn_diagram" = some (.ref a_law_drawn_diagram)) (k_law_drawn_diagram : PySem.W.keepIn K (.ref a_law_drawn_diagram) = true) (b_law_drawn_diagram : Binds K fd_law_drawn_diagram ["draws", "n", "m"] [])
    {a_law_told : Addr} {fd_law_told : FuncData} (G_law_told : FnOk P w K mg base CX0 8 a_law_told fd_law_told ["which", "d", "diagram"] (spTold CB CD CT)) (g_law_told : mg "_law_told" = some (.ref a_law_told)) (k_law_told : PySem.W.keepIn K (.ref a_law_told) = true) (b_law_told : Binds K fd_law_told ["which", "d", "diagram"] [])
    {a_law_table : Addr} {fd_law_table : FuncData} (G_law_table : FnOk P w K mg base CX0 2 a_law_table fd_law_table ["d", "diagram"] (spTabX false)) (g_law_table : mg "_law_table" = some (.ref a_law_table)) (k_law_table : PySem.W.keepIn K (.ref a_law_table) = true) (b_law_table : Binds K fd_law_table ["d", "diagram"] [])
    {a_law_exact : Addr} {fd_law_exact : FuncData} (G_law_exact : FnOk P w K mg base CX0 2 a_law_exact fd_law_exact ["d", "diagram"] (spTabX true)) (g_law_exact : mg "_law_exact" = some (.ref a_law_exact)) (k_law_exact : PySem.W.keepIn K (.ref a_law_exact) = true) (b_law_exact : Binds K fd_law_exact ["d", "diagram"] [])
    {a_law_large : Addr} {fd_law_large : FuncData} (G_law_large : FnOk P w K mg base CX0 9 a_law_large fd_law_large ["d", "points"] spLargeX) (g_law_large : mg "_law_large" = some (.ref a_law_large)) (k_law_large : PySem.W.keepIn K (.ref a_law_large) = true) (b_law_large : Binds K fd_law_large ["d", "points"] []) :
    FnG P w K mg base 10 f fd ["script"] (spLaw K) := by
  refine F.okG sc_law (fun vs H Q E h => ?_) (fun cdv A outer s H vs Q E hgu hr h => ?_)
  · obtain ⟨a, ns, rfl, _⟩ := h
    rfl
  · obtain ⟨sc, ns, rfl, hS, hlen, q⟩ := h
    refine ⟨_, (pss_cons (ps_set (i := 1) sc_law.nd rfl (.inl rfl) (pe_call G_law_draws (hr.mono (by decide)) rfl g_law_draws k_law_draws b_law_draws .nil pass0 (pa_cons (pv 0) pa_nil)))
  (pss_cons (ps_expr (pe_bm0 PySem.F.plainAttrs_list PySem.F.slot_list_reverse PySem.F.type_list_reverse mt_reverse (pv 1)))
  (pss_cons (ps_set (i := 2) sc_law.nd rfl (.inl rfl) (pe_op op_add pe_int (pe_op op_mod (pe_callTy call_int1 (by rfl) z_int boot_int (pa_cons (pe_call G_law_next (hr.mono (by decide)) rfl g_law_next k_law_next b_law_next .nil pass0 (pa_cons (pv 1) pa_nil)) pa_nil)) pe_int)))
  (pss_cons (ps_asg (pe_call G_law_shape (hr.mono (by decide)) rfl g_law_shape k_law_shape b_law_shape .nil pass0 (pa_cons (pv 1) (pa_cons (pe_op op_sub pe_int (pe_callTy call_int1 (by rfl) z_int boot_int (pa_cons (pe_cmpR op_eq (pv 2) pe_int (nomark _)) pa_nil))) pa_nil))) (pg_unl rfl (pgs_cons (pg_name (i := 3) sc_law.nd rfl (.inl rfl)) (pgs_cons (pg_name (i := 4) sc_law.nd rfl (.inl rfl)) pgs_nil))))
  (Evl.pss_cut (ps_set (i := 5) sc_law.nd rfl (.inl rfl) (pe_ifExp (pt_cmpR op_gt (pe_op op_add (pv 3) (pv 4)) pe_int (nomark _)) (pe_call G_law_drawn_diagram (hr.mono (by decide)) rfl g_law_drawn_diagram k_law_drawn_diagram b_law_drawn_diagram .nil pass0 (pa_cons (pv 1) (pa_cons (pv 3) (pa_cons (pv 4) pa_nil)))) (pe_tup (pa_cons pe_int (pa_cons pe_int (pa_cons (pe_tup pa_nil) pa_nil))))))
  (Evl.pss_cut (ps_if (pt_cmpR op_ne (pe_callB (cr_reprD hgu (room65 hr)) (by rfl) z_repr boot_repr (pa_cons (pe_call G_law_told (hr.mono (by decide)) rfl g_law_told k_law_told b_law_told .nil pass0 (pa_cons pe_int (pa_cons (pv 2) (pa_cons (pv 5) pa_nil)))) pa_nil)) (pe_callB (cr_reprD hgu (room65 hr)) (by rfl) z_repr boot_repr (pa_cons (pe_call G_law_table (hr.mono (by decide)) rfl g_law_table k_law_table b_law_table .nil pass0 (pa_cons (pv 2) (pa_cons (pv 5) pa_nil))) pa_nil)) (nomark _)) (pss_one (ps_ret pe_bl)) pss_nil)
  (Evl.pss_cut (ps_if (pt_cmpR op_ne (pe_callB (cr_reprD hgu (room65 hr)) (by rfl) z_repr boot_repr (pa_cons (pe_call G_law_told (hr.mono (by decide)) rfl g_law_told k_law_told b_law_told .nil pass0 (pa_cons pe_int (pa_cons (pv 2) (pa_cons (pv 5) pa_nil)))) pa_nil)) (pe_callB (cr_reprD hgu (room65 hr)) (by rfl) z_repr boot_repr (pa_cons (pe_call G_law_exact (hr.mono (by decide)) rfl g_law_exact k_law_exact b_law_exact .nil pass0 (pa_cons (pv 2) (pa_cons (pv 5) pa_nil))) pa_nil)) (nomark _)) (pss_one (ps_ret pe_bl)) pss_nil)
  (Evl.pss_cut (ps_if (L2.PW.pt (pw_and (pt_cmpR op_eq (pe_op op_mod (pe_callTy call_int1 (by rfl) z_int boot_int (pa_cons (pe_call G_law_next (hr.mono (by decide)) rfl g_law_next k_law_next b_law_next .nil pass0 (pa_cons (pv 1) pa_nil)) pa_nil)) pe_int) pe_int (nomark _)) (pw_and1 (pt_not (pt_val (pe_call G_law_large (hr.mono (by decide)) rfl g_law_large k_law_large b_law_large .nil pass0 (pa_cons (pv 2) (pa_cons (pe_op op_add pe_int (pe_op op_mod (pe_callTy call_int1 (by rfl) z_int boot_int (pa_cons (pe_call G_law_next (hr.mono (by decide)) rfl g_law_next k_law_next b_law_next .nil pass0 (pa_cons (pv 1) pa_nil)) pa_nil)) pe_int)) pa_nil)))))))) (pss_one (ps_ret pe_bl)) pss_nil)
  (pss_cons (ps_set (i := 6) sc_law.nd rfl (.inl rfl) (pe_tup (pa_cons (pv 3) (pa_cons (pv 4) (pa_cons (pe_op op_catC (pe_ix ix_tup (pv 5) pe_int (fun _ _ => rfl)) (pe_tup (pa_cons (pe_tup pa_nil) pa_nil))) pa_nil)))))
  (pss_cons (ps_for PassesOwn.never rfl (pi_range1 rfl z_range (pa_cons pe_int pa_nil)) (pg_name (i := 7) sc_law.nd rfl (.inl rfl)) (Evl.pss_cut (ps_if (pt_cmpR op_ne (pe_call G_law_told (hr.mono (by decide)) rfl g_law_told k_law_told b_law_told .nil pass0 (pa_cons (pv 7) (pa_cons (pe_ix ix_list (pe_lst (pa_cons pe_int (pa_cons pe_int (pa_cons (pe_un un_neg pe_int) pa_nil)))) (pe_op op_mod (pe_callTy call_int1 (by rfl) z_int boot_int (pa_cons (pe_call G_law_next (hr.mono (by decide)) rfl g_law_next k_law_next b_law_next .nil pass0 (pa_cons (pv 1) pa_nil)) pa_nil)) pe_int) (fun _ _ => rfl)) (pa_cons (pv 6) pa_nil)))) pe_str (nomark _)) (pss_one (ps_ret pe_bl)) pss_nil)
  (pss_one (ps_if (L2.PW.pt (pw_or (pt_cmpR op_ne (pe_call G_law_told (hr.mono (by decide)) rfl g_law_told k_law_told b_law_told .nil pass0 (pa_cons (pv 7) (pa_cons (pv 2) (pa_cons (pv 6) pa_nil)))) pe_str (nomark _)) (pw_or1 (pt_cmpR op_ne (pe_call G_law_told (hr.mono (by decide)) rfl g_law_told k_law_told b_law_told .nil pass0 (pa_cons (pv 7) (pa_cons (pv 2) (pa_cons (pe_tup (pa_cons (pv 3) (pa_cons (pe_op op_add (pv 4) pe_int) (pa_cons (pe_ix ix_tup (pv 5) pe_int (fun _ _ => rfl)) pa_nil)))) pa_nil)))) pe_str (nomark _))))) (pss_one (ps_ret pe_bl)) pss_nil))))
  (pss_one (ps_ret pe_bl)))))))))))), ?_⟩
    have szl : 20000 ≤ sizeLine := by decide
    have szb : 3000000 ≤ sizeLine := by decide
    refine ⟨_, rfl, sc, ns, rfl, hS, hlen, fun H1 r ds s1 nr hL => ?_⟩
    refine ⟨_, rfl, .inl ⟨rfl, _, .inl (.inl hL)⟩, r, _, rfl, rfl, hL, ?_⟩
    have hr1 : upd H1 r (.lst (ds.map V.int).reverse) r = some (.lst (ds.reverse.map V.int)) := by rw [upd_same, List.map_reverse]
    revert hr1
    generalize upd H1 r (.lst (ds.map V.int).reverse) = H2
    generalize ds.reverse = ds
    intro hr1
    clear hL s1 nr hS
    refine ⟨_, rfl, r, ds, rfl, hr1, fun d0 ds1 => .inl ⟨d0, rfl, d0, 4, rfl, rfl, (show (0 : Int) < 4 by decide), _, _, rfl, rfl, ?_⟩⟩
    obtain ⟨d, hd0, hd, ed⟩ : ∃ d : Nat, 0 < d ∧ d ≤ 4 ∧ 1 + d0 % 4 = (d : Int) := ⟨(1 + d0 % 4).toNat, by omega, by omega, by omega⟩
    dsimp only
    rw [ed]
    obtain ⟨most, hm5, hp5, em⟩ : ∃ most : Nat, most ≤ 5 ∧ (∀ k, k ≤ most → d ^ k ≤ 1024) ∧ (5 : Int) - (if decide (V.int (d : Int) = V.int 4) = true then 1 else 0) = (most : Int) := by
      have hp : ∀ k, k ≤ 5 → d ^ k ≤ 1024 := fun k hk => Nat.le_trans (Nat.pow_le_pow_left hd k) (Nat.pow_le_pow_right (by decide) hk)
      by_cases c : V.int (d : Int) = V.int 4
      · exact ⟨4, by decide, fun k hk => hp k (by omega), by rw [decide_eq_true c]; rfl⟩
      · exact ⟨5, by decide, fun k hk => hp k hk, by rw [decide_eq_false c]; rfl⟩
    refine ⟨_, rfl, _, rfl, rfl, .inr ⟨_, rfl, _, _, rfl, rfl, ?_⟩⟩
    dsimp only
    rw [em]
    refine ⟨r, ds1, most, rfl, upd_same, fun n m ds2 L H3 hnm sb3 hr3 hL3 => ?_⟩
    refine ⟨L, _, rfl, .inl (.inl hL3), rfl, _, _, rfl, _, _, rfl, rfl, ?_⟩
    have hp := hp5 (n + m) hnm
    clear hL3 sb3 em hp5
    refine ⟨fun σ H' => ∃ (v : V) (l ds : List Int), σ = [some (.ref sc), some (.ref r), some (.int (d : Int)), some (.int (n : Int)), some (.int (m : Int)), some v, none, none] ∧ K5 H' r v d n m l ds, ?_, ?_⟩
    · refine ⟨_, rfl, _, rfl, _, _, rfl, rfl, _, _, rfl, rfl, _, rfl, ?_⟩
      by_cases c : 0 < n + m
      · refine if_pos_of (decide_eq_true (by omega)) ?_
        refine ⟨_, rfl, _, rfl, _, rfl, r, ds2, n, m, rfl, hr3, c, siz_iff.mpr ⟨by omega, by omega, by omega, by omega, by omega⟩, fun v l ds3 H4 sb4 hr4 da => ?_⟩
        exact ⟨v, l, ds3, rfl, hr4, da⟩
      · refine if_neg_of (fun z => by have := of_decide_eq_true z; omega) ?_
        obtain rfl : n = 0 := by omega
        obtain rfl : m = 0 := by omega
        refine ⟨(by show 0 ≤ sizeLine; omega), fun t1 n1 => ⟨(by show 3 ≤ sizeLine; omega), fun t2 n2 => ?_⟩⟩
        have w1 := same_upd (o := .tup []) n1
        have w2 := same_upd (o := .tup [.int 0, .int 0, .ref t1]) n2
        refine ⟨.ref t2, [], ds2, rfl, w2 _ _ (w1 _ _ hr3), ⟨⟨t2, _, rfl, upd_same, t1, [], rfl, w2 _ _ upd_same, .nil⟩, by decide, rfl⟩⟩
    clear hr3
    rintro σ H4 ⟨v, l, ds4, rfl, k5⟩
    have hl : l.length = n + m := by have := k5.da.2.2; omega
    have dif : ∀ {H' : Hp} {ds' : List Int} (ex : Bool) (k5 : K5 H' r v d n m l ds') (Q2 : VK), (∀ L H2, Same H' H2 → TabH H' H2 L ((tabD d l n m ex).map fun r => r.map V.int) → Q2 (.ref L) H2) → TabOf CB CD CT ex (d : Int) v (n : Int) (m : Int) (blocksOf l) H' Q2 (TelE CB CD CT Q2) := fun {H' ds'} ex k5 Q2 h =>
      ⟨k5.da.1, k5.da.ok, fun z => absurd ⟨by omega, by omega⟩ z, fun _ => .inr ⟨d, n, m, l, rfl, rfl, rfl, rfl, k5.da.2.1, hl, fun big => absurd big (by omega), fun _ => h⟩⟩
    refine ⟨fun σ H' => ∃ ds : List Int, σ = [some (.ref sc), some (.ref r), some (.int (d : Int)), some (.int (n : Int)), some (.int (m : Int)), some v, none, none] ∧ K5 H' r v d n m l ds, ?_, ?_⟩
    · refine ⟨_, rfl, _, rfl, 0, d, v, n, m, _, false, rfl, .inl ⟨rfl, rfl⟩, dif false k5 _ fun L H5 s5 tb => ?_⟩
      obtain ⟨_, us, hL, _, _⟩ := id tb
      have sm := smL_tab (n := n) (m := m) (l := l) (ex := false) hd0 hp
      obtain ⟨_, _, m3, m4⟩ := id sm
      refine ⟨_, _, rfl, .lst (.inl (.inl hL)) (tab_dp (tabH_lp tb hL)), sm.shaped (by decide), m3, Nat.le_trans m4 szb, ?_⟩
      have k5 := k5.same s5
      refine ⟨_, rfl, _, rfl, d, n, m, v, l, rfl, k5.da, hd0, hd, hp, fun L2 us2 H6 s6 hL2 p2 => ?_⟩
      rw [tabX_eq hl] at p2
      refine ⟨_, _, rfl, .lst (.inl (.inl hL2)) (tab_dp p2), sm.shaped (by decide), m3, Nat.le_trans m4 szb, ?_⟩
      exact ⟨rfl, _, rfl, ite_same ⟨ds4, rfl, k5.same s6⟩⟩
    clear k5
    rintro σ H4 ⟨ds4, rfl, k5⟩
    refine ⟨fun σ H' => ∃ ds : List Int, σ = [some (.ref sc), some (.ref r), some (.int (d : Int)), some (.int (n : Int)), some (.int (m : Int)), some v, none, none] ∧ K5 H' r v d n m l ds, ?_, ?_⟩
    · refine ⟨_, rfl, _, rfl, 1, d, v, n, m, _, true, rfl, .inr ⟨rfl, rfl⟩, dif true k5 _ fun L H5 s5 tb => ?_⟩
      obtain ⟨_, us, hL, _, _⟩ := id tb
      have sm := smL_tab (n := n) (m := m) (l := l) (ex := true) hd0 hp
      obtain ⟨_, _, m3, m4⟩ := id sm
      refine ⟨_, _, rfl, .lst (.inl (.inl hL)) (tab_dp (tabH_lp tb hL)), sm.shaped (by decide), m3, Nat.le_trans m4 szb, ?_⟩
      have k5 := k5.same s5
      refine ⟨_, rfl, _, rfl, d, n, m, v, l, rfl, k5.da, hd0, hd, hp, fun L2 us2 H6 s6 hL2 p2 => ?_⟩
      rw [tabX_eq hl] at p2
      refine ⟨_, _, rfl, .lst (.inl (.inl hL2)) (tab_dp p2), sm.shaped (by decide), m3, Nat.le_trans m4 szb, ?_⟩
      exact ⟨rfl, _, rfl, ite_same ⟨ds4, rfl, k5.same s6⟩⟩
    clear k5
    rintro σ H4 ⟨ds4, rfl, k5⟩
    refine ⟨fun σ H' => ∃ ds : List Int, σ = [some (.ref sc), some (.ref r), some (.int (d : Int)), some (.int (n : Int)), some (.int (m : Int)), some v, none, none] ∧ K5 H' r v d n m l ds, ?_, ?_⟩
    · refine ⟨_, rfl, r, ds4, rfl, k5.hr, fun n0 ds5 => .inl ⟨n0, rfl, n0, 8, rfl, rfl, (show (0 : Int) < 8 by decide), rfl, _, rfl, ?_⟩⟩
      have k5 : K5 _ r v d n m l ds5 := k5.next
      refine ite2 (fun _ => ?_) (fun _ => ?_)
      · refine ⟨_, rfl, _, rfl, r, ds5, rfl, k5.hr, fun m0 ds6 => .inl ⟨m0, rfl, m0, 12, rfl, rfl, (show (0 : Int) < 12 by decide), _, _, rfl, rfl, ?_⟩⟩
        have k5 : K5 _ r v d n m l ds6 := k5.next
        obtain ⟨p, hp0, hp1, ep⟩ : ∃ p : Nat, 0 < p ∧ p < 13 ∧ 1 + m0 % 12 = (p : Int) := ⟨(1 + m0 % 12).toNat, by omega, by omega, by omega⟩
        dsimp only
        rw [ep]
        exact ⟨d, p, rfl, hd0, by omega, hp0, hp1, fun H7 s7 => ⟨_, rfl, iteF ⟨ds6, rfl, k5.same s7⟩⟩⟩
      · exact iteF ⟨ds5, rfl, k5⟩
    clear k5
    rintro σ H4 ⟨ds4, rfl, k5⟩
    obtain ⟨⟨t, vb, rfl, ht, tb, ts, rfl, htb, pts⟩, sz, hl2⟩ := id k5.da
    have hsz := siz_iff.mp sz
    have bf := blocks_few l
    have lts : ts.length ≤ 12 := by rw [pts.length]; omega
    have okd := k5.da.ok
    have ok1 : DgOk (n : Int) (m : Int) (blocksOf l ++ [[]]) := ⟨okd.1, okd.2.1, by rw [List.length_append]; show _ + 1 ≤ _; omega, by rw [List.flatten_append, List.length_append]; exact okd.2.2.2⟩
    have nd1 : ¬ IsDg (n : Int) (m : Int) (blocksOf l ++ [[]]) := fun dg => dg.ne [] (List.mem_append_right _ (List.mem_singleton.mpr rfl)) rfl
    have ok2 : DgOk (n : Int) ((m : Int) + 1) (blocksOf l) := ⟨okd.1, by omega, okd.2.2⟩
    have nd2 : ¬ IsDg (n : Int) ((m : Int) + 1) (blocksOf l) := fun dg => by
      have e1 := dg.pm.length_eq
      have e2 := k5.da.dg.pm.length_eq
      rw [ixs_len'] at e1 e2
      omega
    refine ⟨_, rfl, _, rfl, _, rfl, t, _, 2, _, rfl, rfl, .inl (.inl ht), atI_nat (j := 2) rfl, (by show 0 ≤ sizeLine; omega), fun e1 n1 => ⟨(by show 1 ≤ sizeLine; omega), fun e2 n2 => ?_⟩⟩
    have w1 := same_upd (o := .tup []) n1
    have w2 := same_upd (o := .tup [V.ref e1]) n2
    have h1 : upd H4 e1 (.tup []) e1 = some (.tup []) := upd_same
    generalize upd H4 e1 (.tup []) = H5 at *
    have h2 : upd H5 e2 (.tup [.ref e1]) e2 = some (.tup [.ref e1]) := upd_same
    have h1 := w2 _ _ h1
    have w2 := Same.trans w1 w2
    generalize upd H5 e2 (.tup [.ref e1]) = H6 at *
    refine ⟨tb, e2, _, _, rfl, rfl, w2 _ _ htb, h2, by show _ + 1 ≤ _; omega, fun bb H7 s7 hb => ⟨(by show 3 ≤ sizeLine; omega), fun bt nbt => ?_⟩⟩
    have k5 := (k5.same w2).same s7
    have wB := same_upd (o := .tup [.int (n : Int), .int (m : Int), .ref bb]) nbt
    have dvB : DGv (upd H7 bt (.tup [.int (n : Int), .int (m : Int), .ref bb])) (.ref bt) (n : Int) (m : Int) (blocksOf l ++ [[]]) :=
      ⟨bt, _, rfl, upd_same, bb, _, rfl, wB _ _ hb, paired_add ⟨e1, rfl, wB _ _ (s7 _ _ h1)⟩ (Paired.mapP pts fun _ _ h => ((h.same w2).same s7).same wB)⟩
    have k5 := k5.same wB
    have ht := wB _ _ (s7 _ _ (w2 _ _ ht))
    have htb := wB _ _ (s7 _ _ (w2 _ _ htb))
    have pts : Paired (TP (upd H7 bt (.tup [.int (n : Int), .int (m : Int), .ref bb]))) ts (blocksOf l) := Paired.mapP pts fun _ _ h => ((h.same w2).same s7).same wB
    generalize upd H7 bt (.tup [.int (n : Int), .int (m : Int), .ref bb]) = H8 at *
    clear wB hb h1 h2 w1 w2 s7 n1 n2 nbt
    refine ⟨(2 : Int), rfl, by omega, by omega, for_range (lo := 0) (n := 2) (fun k σ H' => ∃ (v7 : Option V) (ds : List Int), σ = [some (.ref sc), some (.ref r), some (.int (d : Int)), some (.int (n : Int)), some (.int (m : Int)), some (.ref t), some (.ref bt), v7] ∧ K5 H' r (.ref t) d n m l ds ∧ DGv H' (.ref bt) (n : Int) (m : Int) (blocksOf l ++ [[]])) ⟨none, ds4, rfl, k5, dvB⟩ (fun k σ H' hk hP => ?_) (fun σ H' hP => ?_)⟩
    · obtain ⟨v7, ds5, rfl, k5, dvB⟩ := hP
      obtain ⟨ex, hex⟩ : ∃ ex : Bool, (((0 : Int) + (k : Int)) = 0 ∧ ex = false) ∨ (((0 : Int) + (k : Int)) = 1 ∧ ex = true) := by
        rcases (show k = 0 ∨ k = 1 by omega) with rfl | rfl
        · exact ⟨false, .inl ⟨rfl, rfl⟩⟩
        · exact ⟨true, .inr ⟨rfl, rfl⟩⟩
      refine ⟨fun σ H' => ∃ (ds : List Int), σ = [some (.ref sc), some (.ref r), some (.int (d : Int)), some (.int (n : Int)), some (.int (m : Int)), some (.ref t), some (.ref bt), some (.int (0 + (k : Int)))] ∧ K5 H' r (.ref t) d n m l ds ∧ DGv H' (.ref bt) (n : Int) (m : Int) (blocksOf l ++ [[]]), ?_, ?_⟩
      · refine ⟨_, rfl, _, rfl, (by show 3 ≤ sizeLine; omega), fun p np => ?_⟩
        have wp := same_upd (o := .lst [.int 0, .int 5, .int (-1)]) np
        have hp1 : upd H' p (.lst [.int 0, .int 5, .int (-1)]) p = some (.lst [.int 0, .int 5, .int (-1)]) := upd_same
        have pr : p ≠ r := fun z => by rw [z, k5.hr] at np; exact nomatch np
        have k5 := k5.same wp
        have dvB := dvB.same wp
        refine ⟨_, rfl, r, ds5, rfl, k5.hr, fun n0 ds6 => .inl ⟨n0, rfl, n0, 3, rfl, rfl, (show (0 : Int) < 3 by decide), ?_⟩⟩
        have dvB : DGv _ (.ref bt) (n : Int) (m : Int) (blocksOf l ++ [[]]) := dvB.butL k5.hr (SameBut.upd (o := .lst (ds6.map V.int)))
        have k5 : K5 _ r (.ref t) d n m l ds6 := k5.next
        have hp2 : upd (upd H' p (.lst [.int 0, .int 5, .int (-1)])) r (.lst (ds6.map V.int)) p = some (.lst [.int 0, .int 5, .int (-1)]) := by rw [upd_ne pr]; exact hp1
        obtain ⟨j, x, hj, ej, ex2, nx⟩ : ∃ (j : Nat) (x : Int), n0 % 3 = (j : Int) ∧ j < 3 ∧ ([V.int 0, .int 5, .int (-1)] : List V)[j]? = some (.int x) ∧ ¬ (1 ≤ x ∧ x ≤ 4) := by
          rcases (show n0 % 3 = 0 ∨ n0 % 3 = 1 ∨ n0 % 3 = 2 by omega) with h | h | h
          · exact ⟨0, 0, h, by decide, rfl, by omega⟩
          · exact ⟨1, 5, h, by decide, rfl, by omega⟩
          · exact ⟨2, -1, h, by decide, rfl, by omega⟩
        dsimp only
        rw [hj]
        refine ⟨p, _, (j : Int), .int x, rfl, rfl, .inl (.inl hp2), atI_nat (j := j) ex2, _, rfl, _, x, .ref bt, n, m, _, ex, rfl, hex, dvB, ok1, fun _ => ⟨"number", .inl ⟨rfl, rfl⟩, fun H9 s9 => ?_⟩, fun rd => absurd rd nx⟩
        exact ⟨rfl, _, rfl, ite_same ⟨ds6, rfl, k5.same s9, dvB.same s9⟩⟩
      clear k5 dvB
      rintro σ H9 ⟨ds6, rfl, k5, dvB⟩
      refine ⟨_, rfl, _, rfl, _, rfl, _, d, .ref bt, n, m, _, ex, rfl, hex, dvB, ok1, fun z => absurd ⟨by omega, by omega⟩ z, fun _ => .inl ⟨nd1, fun H10 s10 => ⟨"diagram", .inr (.inl ⟨rfl, rfl⟩), fun H11 s11 => ?_⟩⟩⟩
      have k5 := (k5.same s10).same s11
      have dvB := (dvB.same s10).same s11
      refine ⟨rfl, _, rfl, ite_same ?_⟩
      obtain ⟨⟨t', vb, e, ht, tb', ts', rfl, htb, pts⟩, _, _⟩ := id k5.da
      obtain rfl := V.ref.inj e
      refine ⟨_, rfl, _, rfl, _, rfl, _, rfl, _, _, rfl, rfl, _, rfl, t, _, 2, _, rfl, rfl, .inl (.inl ht), atI_nat (j := 2) rfl, (by show 3 ≤ sizeLine; omega), fun u nu => ?_⟩
      have wu := same_upd (o := .tup [.int (n : Int), .int ((m : Int) + 1), .ref tb']) nu
      have dvU : DGv (upd H11 u (.tup [.int (n : Int), .int ((m : Int) + 1), .ref tb'])) (.ref u) (n : Int) ((m : Int) + 1) (blocksOf l) := ⟨u, _, rfl, upd_same, tb', ts', rfl, wu _ _ htb, Paired.mapP pts fun _ _ h => h.same wu⟩
      refine ⟨_, d, .ref u, n, (m : Int) + 1, _, ex, rfl, hex, dvU, ok2, fun z => absurd ⟨by omega, by omega⟩ z, fun _ => .inl ⟨nd2, fun H12 s12 => ⟨"diagram", .inr (.inl ⟨rfl, rfl⟩), fun H13 s13 => ?_⟩⟩⟩
      have sU := Same.trans wu (Same.trans s12 s13)
      exact ⟨rfl, _, rfl, ite_same ⟨_, ds6, rfl, k5.same sU, dvB.same sU⟩⟩
    · obtain ⟨v7, ds5, rfl, _⟩ := hP
      exact q _
end

theorem all_mk {P : Program} {w : World} {K : PySem.W.Frag} {h : Heap} {mg : Str → Option Value} {fa : Addr} (X : K.In h) (G : h.Ns mainGlobals mg) (hfa : mg "law" = some (.ref fa))
    {f_law_number : Addr} {od_law_number an_law_number : Option Addr} {sl_law_number : Array (Option Value)} {oc_law_number kV_law_number dc_law_number pm_law_number cd_law_number ct_law_number : Value}
    {f_law_next : Addr} {od_law_next an_law_next : Option Addr} {sl_law_next : Array (Option Value)} {oc_law_next kV_law_next dc_law_next pm_law_next cd_law_next ct_law_next : Value}
    {f_law_draws : Addr} {od_law_draws an_law_draws : Option Addr} {sl_law_draws : Array (Option Value)} {oc_law_draws kV_law_draws dc_law_draws pm_law_draws cd_law_draws ct_law_draws : Value}
    {f_is_size_ : Addr} {od_is_size_ an_is_size_ : Option Addr} {sl_is_size_ : Array (Option Value)} {oc_is_size_ kV_is_size_ dc_is_size_ pm_is_size_ cd_is_size_ ct_is_size_ : Value}
    {f_is_diagram : Addr} {od_is_diagram an_is_diagram : Option Addr} {sl_is_diagram : Array (Option Value)} {oc_is_diagram kV_is_diagram dc_is_diagram pm_is_diagram cd_is_diagram ct_is_diagram : Value}
    {f_check_diagram : Addr} {od_check_diagram an_check_diagram : Option Addr} {sl_check_diagram : Array (Option Value)} {oc_check_diagram kV_check_diagram dc_check_diagram pm_check_diagram cd_check_diagram ct_check_diagram : Value}
    {f_labels : Addr} {od_labels an_labels : Option Addr} {sl_labels : Array (Option Value)} {oc_labels kV_labels dc_labels pm_labels cd_labels ct_labels : Value}
    {f_law_marks : Addr} {od_law_marks an_law_marks : Option Addr} {sl_law_marks : Array (Option Value)} {oc_law_marks kV_law_marks dc_law_marks pm_law_marks cd_law_marks ct_law_marks : Value}
    {f_law_error : Addr} {od_law_error an_law_error : Option Addr} {sl_law_error : Array (Option Value)} {oc_law_error kV_law_error dc_law_error pm_law_error cd_law_error ct_law_error : Value}
    {f_law_colours : Addr} {od_law_colours an_law_colours : Option Addr} {sl_law_colours : Array (Option Value)} {oc_law_colours kV_law_colours dc_law_colours pm_law_colours cd_law_colours ct_law_colours : Value}
    {f_colourings_ : Addr} {od_colourings_ an_colourings_ : Option Addr} {sl_colourings_ : Array (Option Value)} {oc_colourings_ kV_colourings_ dc_colourings_ pm_colourings_ cd_colourings_ ct_colourings_ : Value}
    {f_place_ : Addr} {od_place_ an_place_ : Option Addr} {sl_place_ : Array (Option Value)} {oc_place_ kV_place_ dc_place_ pm_place_ cd_place_ ct_place_ : Value}
    {f_places_ : Addr} {od_places_ an_places_ : Option Addr} {sl_places_ : Array (Option Value)} {oc_places_ kV_places_ dc_places_ pm_places_ cd_places_ ct_places_ : Value}
    {f_check_colours_ : Addr} {od_check_colours_ an_check_colours_ : Option Addr} {sl_check_colours_ : Array (Option Value)} {oc_check_colours_ kV_check_colours_ dc_check_colours_ pm_check_colours_ cd_check_colours_ ct_check_colours_ : Value}
    {f_check_entries_ : Addr} {od_check_entries_ an_check_entries_ : Option Addr} {sl_check_entries_ : Array (Option Value)} {oc_check_entries_ kV_check_entries_ dc_check_entries_ pm_check_entries_ cd_check_entries_ ct_check_entries_ : Value}
    {f_empty_ : Addr} {od_empty_ an_empty_ : Option Addr} {sl_empty_ : Array (Option Value)} {oc_empty_ kV_empty_ dc_empty_ pm_empty_ cd_empty_ ct_empty_ : Value}
    {f_table_of_ : Addr} {od_table_of_ an_table_of_ : Option Addr} {sl_table_of_ : Array (Option Value)} {oc_table_of_ kV_table_of_ dc_table_of_ pm_table_of_ cd_table_of_ ct_table_of_ : Value}
    {f_colour_table : Addr} {od_colour_table an_colour_table : Option Addr} {sl_colour_table : Array (Option Value)} {oc_colour_table kV_colour_table dc_colour_table pm_colour_table cd_colour_table ct_colour_table : Value}
    {f_exact_table : Addr} {od_exact_table an_exact_table : Option Addr} {sl_exact_table : Array (Option Value)} {oc_exact_table kV_exact_table dc_exact_table pm_exact_table cd_exact_table ct_exact_table : Value}
    {f_law_marked : Addr} {od_law_marked an_law_marked : Option Addr} {sl_law_marked : Array (Option Value)} {oc_law_marked kV_law_marked dc_law_marked pm_law_marked cd_law_marked ct_law_marked : Value}
    {f_law_matches : Addr} {od_law_matches an_law_matches : Option Addr} {sl_law_matches : Array (Option Value)} {oc_law_matches kV_law_matches dc_law_matches pm_law_matches cd_law_matches ct_law_matches : Value}
    {f_law_table : Addr} {od_law_table an_law_table : Option Addr} {sl_law_table : Array (Option Value)} {oc_law_table kV_law_table dc_law_table pm_law_table cd_law_table ct_law_table : Value}
    {f_law_exact : Addr} {od_law_exact an_law_exact : Option Addr} {sl_law_exact : Array (Option Value)} {oc_law_exact kV_law_exact dc_law_exact pm_law_exact cd_law_exact ct_law_exact : Value}
    {f_law_shape : Addr} {od_law_shape an_law_shape : Option Addr} {sl_law_shape : Array (Option Value)} {oc_law_shape kV_law_shape dc_law_shape pm_law_shape cd_law_shape ct_law_shape : Value}
    {f_law_drawn_diagram : Addr} {od_law_drawn_diagram an_law_drawn_diagram : Option Addr} {sl_law_drawn_diagram : Array (Option Value)} {oc_law_drawn_diagram kV_law_drawn_diagram dc_law_drawn_diagram pm_law_drawn_diagram cd_law_drawn_diagram ct_law_drawn_diagram : Value}
    {f_law_told : Addr} {od_law_told an_law_told : Option Addr} {sl_law_told : Array (Option Value)} {oc_law_told kV_law_told dc_law_told pm_law_told cd_law_told ct_law_told : Value}
    {f_law_large : Addr} {od_law_large an_law_large : Option Addr} {sl_law_large : Array (Option Value)} {oc_law_large kV_law_large dc_law_large pm_law_large cd_law_large ct_law_large : Value}
    {f_law : Addr} {od_law an_law : Option Addr} {sl_law : Array (Option Value)} {oc_law kV_law dc_law pm_law cd_law ct_law : Value}
    {CB : Addr}
    {CD : Addr}
    {CT : Addr}
    {tm_MOST_ON_A_SIDE : Tok}
    {tm_MOST_POINTS : Tok}
    {tm_MOST_COLOURS : Tok}
    {tm_MOST_ENTRIES : Tok}
    {CE : Addr}
    {X_NotWorld : Addr}
    {X_NotFamily : Addr}
    {X_NotNumber : Addr}
    {X_NotWord : Addr}
    {X_NotMatrix : Addr}
    {X_NoAnswer : Addr}
    {X_Malformed : Addr}
    (a_law_number : PySem.W.nsIn K mainGlobals "_law_number" = some (some (.ref f_law_number))) (l_law_number : K.lookup f_law_number = some ⟨oc_law_number, od_law_number, .func (PySem.W.fnOf "_law_number" "_law_number" (defArgs s_law_number) (defBody s_law_number) (defScope s_law_number) .none kV_law_number dc_law_number pm_law_number an_law_number cd_law_number ct_law_number), sl_law_number⟩) (c_law_number : PySem.W.codeIn K cd_law_number "_law_number" = true) (k_law_number : PySem.W.keepIn K (.ref f_law_number) = true)
    (a_law_next : PySem.W.nsIn K mainGlobals "_law_next" = some (some (.ref f_law_next))) (l_law_next : K.lookup f_law_next = some ⟨oc_law_next, od_law_next, .func (PySem.W.fnOf "_law_next" "_law_next" (defArgs s_law_next) (defBody s_law_next) (defScope s_law_next) .none kV_law_next dc_law_next pm_law_next an_law_next cd_law_next ct_law_next), sl_law_next⟩) (c_law_next : PySem.W.codeIn K cd_law_next "_law_next" = true) (k_law_next : PySem.W.keepIn K (.ref f_law_next) = true)
    (a_law_draws : PySem.W.nsIn K mainGlobals "_law_draws" = some (some (.ref f_law_draws))) (l_law_draws : K.lookup f_law_draws = some ⟨oc_law_draws, od_law_draws, .func (PySem.W.fnOf "_law_draws" "_law_draws" (defArgs s_law_draws) (defBody s_law_draws) (defScope s_law_draws) .none kV_law_draws dc_law_draws pm_law_draws an_law_draws cd_law_draws ct_law_draws), sl_law_draws⟩) (c_law_draws : PySem.W.codeIn K cd_law_draws "_law_draws" = true) (k_law_draws : PySem.W.keepIn K (.ref f_law_draws) = true)
    (a_is_size_ : PySem.W.nsIn K mainGlobals "_is_size" = some (some (.ref f_is_size_))) (l_is_size_ : K.lookup f_is_size_ = some ⟨oc_is_size_, od_is_size_, .func (PySem.W.fnOf "_is_size" "_is_size" (defArgs s_is_size_) (defBody s_is_size_) (defScope s_is_size_) .none kV_is_size_ dc_is_size_ pm_is_size_ an_is_size_ cd_is_size_ ct_is_size_), sl_is_size_⟩) (c_is_size_ : PySem.W.codeIn K cd_is_size_ "_is_size" = true) (k_is_size_ : PySem.W.keepIn K (.ref f_is_size_) = true)
    (a_is_diagram : PySem.W.nsIn K mainGlobals "is_diagram" = some (some (.ref f_is_diagram))) (l_is_diagram : K.lookup f_is_diagram = some ⟨oc_is_diagram, od_is_diagram, .func (PySem.W.fnOf "is_diagram" "is_diagram" (defArgs s_is_diagram) (defBody s_is_diagram) (defScope s_is_diagram) .none kV_is_diagram dc_is_diagram pm_is_diagram an_is_diagram cd_is_diagram ct_is_diagram), sl_is_diagram⟩) (c_is_diagram : PySem.W.codeIn K cd_is_diagram "is_diagram" = true) (k_is_diagram : PySem.W.keepIn K (.ref f_is_diagram) = true)
    (a_check_diagram : PySem.W.nsIn K mainGlobals "check_diagram" = some (some (.ref f_check_diagram))) (l_check_diagram : K.lookup f_check_diagram = some ⟨oc_check_diagram, od_check_diagram, .func (PySem.W.fnOf "check_diagram" "check_diagram" (defArgs s_check_diagram) (defBody s_check_diagram) (defScope s_check_diagram) .none kV_check_diagram dc_check_diagram pm_check_diagram an_check_diagram cd_check_diagram ct_check_diagram), sl_check_diagram⟩) (c_check_diagram : PySem.W.codeIn K cd_check_diagram "check_diagram" = true) (k_check_diagram : PySem.W.keepIn K (.ref f_check_diagram) = true)
    (a_labels : PySem.W.nsIn K mainGlobals "labels" = some (some (.ref f_labels))) (l_labels : K.lookup f_labels = some ⟨oc_labels, od_labels, .func (PySem.W.fnOf "labels" "labels" (defArgs s_labels) (defBody s_labels) (defScope s_labels) .none kV_labels dc_labels pm_labels an_labels cd_labels ct_labels), sl_labels⟩) (c_labels : PySem.W.codeIn K cd_labels "labels" = true) (k_labels : PySem.W.keepIn K (.ref f_labels) = true)
    (a_law_marks : PySem.W.nsIn K mainGlobals "_law_marks" = some (some (.ref f_law_marks))) (l_law_marks : K.lookup f_law_marks = some ⟨oc_law_marks, od_law_marks, .func (PySem.W.fnOf "_law_marks" "_law_marks" (defArgs s_law_marks) (defBody s_law_marks) (defScope s_law_marks) .none kV_law_marks dc_law_marks pm_law_marks an_law_marks cd_law_marks ct_law_marks), sl_law_marks⟩) (c_law_marks : PySem.W.codeIn K cd_law_marks "_law_marks" = true) (k_law_marks : PySem.W.keepIn K (.ref f_law_marks) = true)
    (a_law_error : PySem.W.nsIn K mainGlobals "_law_error" = some (some (.ref f_law_error))) (l_law_error : K.lookup f_law_error = some ⟨oc_law_error, od_law_error, .func (PySem.W.fnOf "_law_error" "_law_error" (defArgs s_law_error) (defBody s_law_error) (defScope s_law_error) .none kV_law_error dc_law_error pm_law_error an_law_error cd_law_error ct_law_error), sl_law_error⟩) (c_law_error : PySem.W.codeIn K cd_law_error "_law_error" = true) (k_law_error : PySem.W.keepIn K (.ref f_law_error) = true)
    (a_law_colours : PySem.W.nsIn K mainGlobals "_law_colours" = some (some (.ref f_law_colours))) (l_law_colours : K.lookup f_law_colours = some ⟨oc_law_colours, od_law_colours, .func (PySem.W.fnOf "_law_colours" "_law_colours" (defArgs s_law_colours) (defBody s_law_colours) (defScope s_law_colours) .none kV_law_colours dc_law_colours pm_law_colours an_law_colours cd_law_colours ct_law_colours), sl_law_colours⟩) (c_law_colours : PySem.W.codeIn K cd_law_colours "_law_colours" = true) (k_law_colours : PySem.W.keepIn K (.ref f_law_colours) = true)
    (a_colourings_ : PySem.W.nsIn K mainGlobals "_colourings" = some (some (.ref f_colourings_))) (l_colourings_ : K.lookup f_colourings_ = some ⟨oc_colourings_, od_colourings_, .func (PySem.W.fnOf "_colourings" "_colourings" (defArgs s_colourings_) (defBody s_colourings_) (defScope s_colourings_) .none kV_colourings_ dc_colourings_ pm_colourings_ an_colourings_ cd_colourings_ ct_colourings_), sl_colourings_⟩) (c_colourings_ : PySem.W.codeIn K cd_colourings_ "_colourings" = true) (k_colourings_ : PySem.W.keepIn K (.ref f_colourings_) = true)
    (a_place_ : PySem.W.nsIn K mainGlobals "_place" = some (some (.ref f_place_))) (l_place_ : K.lookup f_place_ = some ⟨oc_place_, od_place_, .func (PySem.W.fnOf "_place" "_place" (defArgs s_place_) (defBody s_place_) (defScope s_place_) .none kV_place_ dc_place_ pm_place_ an_place_ cd_place_ ct_place_), sl_place_⟩) (c_place_ : PySem.W.codeIn K cd_place_ "_place" = true) (k_place_ : PySem.W.keepIn K (.ref f_place_) = true)
    (a_places_ : PySem.W.nsIn K mainGlobals "_places" = some (some (.ref f_places_))) (l_places_ : K.lookup f_places_ = some ⟨oc_places_, od_places_, .func (PySem.W.fnOf "_places" "_places" (defArgs s_places_) (defBody s_places_) (defScope s_places_) .none kV_places_ dc_places_ pm_places_ an_places_ cd_places_ ct_places_), sl_places_⟩) (c_places_ : PySem.W.codeIn K cd_places_ "_places" = true) (k_places_ : PySem.W.keepIn K (.ref f_places_) = true)
    (a_check_colours_ : PySem.W.nsIn K mainGlobals "_check_colours" = some (some (.ref f_check_colours_))) (l_check_colours_ : K.lookup f_check_colours_ = some ⟨oc_check_colours_, od_check_colours_, .func (PySem.W.fnOf "_check_colours" "_check_colours" (defArgs s_check_colours_) (defBody s_check_colours_) (defScope s_check_colours_) .none kV_check_colours_ dc_check_colours_ pm_check_colours_ an_check_colours_ cd_check_colours_ ct_check_colours_), sl_check_colours_⟩) (c_check_colours_ : PySem.W.codeIn K cd_check_colours_ "_check_colours" = true) (k_check_colours_ : PySem.W.keepIn K (.ref f_check_colours_) = true)
    (a_check_entries_ : PySem.W.nsIn K mainGlobals "_check_entries" = some (some (.ref f_check_entries_))) (l_check_entries_ : K.lookup f_check_entries_ = some ⟨oc_check_entries_, od_check_entries_, .func (PySem.W.fnOf "_check_entries" "_check_entries" (defArgs s_check_entries_) (defBody s_check_entries_) (defScope s_check_entries_) .none kV_check_entries_ dc_check_entries_ pm_check_entries_ an_check_entries_ cd_check_entries_ ct_check_entries_), sl_check_entries_⟩) (c_check_entries_ : PySem.W.codeIn K cd_check_entries_ "_check_entries" = true) (k_check_entries_ : PySem.W.keepIn K (.ref f_check_entries_) = true)
    (a_empty_ : PySem.W.nsIn K mainGlobals "_empty" = some (some (.ref f_empty_))) (l_empty_ : K.lookup f_empty_ = some ⟨oc_empty_, od_empty_, .func (PySem.W.fnOf "_empty" "_empty" (defArgs s_empty_) (defBody s_empty_) (defScope s_empty_) .none kV_empty_ dc_empty_ pm_empty_ an_empty_ cd_empty_ ct_empty_), sl_empty_⟩) (c_empty_ : PySem.W.codeIn K cd_empty_ "_empty" = true) (k_empty_ : PySem.W.keepIn K (.ref f_empty_) = true)
    (a_table_of_ : PySem.W.nsIn K mainGlobals "_table_of" = some (some (.ref f_table_of_))) (l_table_of_ : K.lookup f_table_of_ = some ⟨oc_table_of_, od_table_of_, .func (PySem.W.fnOf "_table_of" "_table_of" (defArgs s_table_of_) (defBody s_table_of_) (defScope s_table_of_) .none kV_table_of_ dc_table_of_ pm_table_of_ an_table_of_ cd_table_of_ ct_table_of_), sl_table_of_⟩) (c_table_of_ : PySem.W.codeIn K cd_table_of_ "_table_of" = true) (k_table_of_ : PySem.W.keepIn K (.ref f_table_of_) = true)
    (a_colour_table : PySem.W.nsIn K mainGlobals "colour_table" = some (some (.ref f_colour_table))) (l_colour_table : K.lookup f_colour_table = some ⟨oc_colour_table, od_colour_table, .func (PySem.W.fnOf "colour_table" "colour_table" (defArgs s_colour_table) (defBody s_colour_table) (defScope s_colour_table) .none kV_colour_table dc_colour_table pm_colour_table an_colour_table cd_colour_table ct_colour_table), sl_colour_table⟩) (c_colour_table : PySem.W.codeIn K cd_colour_table "colour_table" = true) (k_colour_table : PySem.W.keepIn K (.ref f_colour_table) = true)
    (a_exact_table : PySem.W.nsIn K mainGlobals "exact_table" = some (some (.ref f_exact_table))) (l_exact_table : K.lookup f_exact_table = some ⟨oc_exact_table, od_exact_table, .func (PySem.W.fnOf "exact_table" "exact_table" (defArgs s_exact_table) (defBody s_exact_table) (defScope s_exact_table) .none kV_exact_table dc_exact_table pm_exact_table an_exact_table cd_exact_table ct_exact_table), sl_exact_table⟩) (c_exact_table : PySem.W.codeIn K cd_exact_table "exact_table" = true) (k_exact_table : PySem.W.keepIn K (.ref f_exact_table) = true)
    (a_law_marked : PySem.W.nsIn K mainGlobals "_law_marked" = some (some (.ref f_law_marked))) (l_law_marked : K.lookup f_law_marked = some ⟨oc_law_marked, od_law_marked, .func (PySem.W.fnOf "_law_marked" "_law_marked" (defArgs s_law_marked) (defBody s_law_marked) (defScope s_law_marked) .none kV_law_marked dc_law_marked pm_law_marked an_law_marked cd_law_marked ct_law_marked), sl_law_marked⟩) (c_law_marked : PySem.W.codeIn K cd_law_marked "_law_marked" = true) (k_law_marked : PySem.W.keepIn K (.ref f_law_marked) = true)
    (a_law_matches : PySem.W.nsIn K mainGlobals "_law_matches" = some (some (.ref f_law_matches))) (l_law_matches : K.lookup f_law_matches = some ⟨oc_law_matches, od_law_matches, .func (PySem.W.fnOf "_law_matches" "_law_matches" (defArgs s_law_matches) (defBody s_law_matches) (defScope s_law_matches) .none kV_law_matches dc_law_matches pm_law_matches an_law_matches cd_law_matches ct_law_matches), sl_law_matches⟩) (c_law_matches : PySem.W.codeIn K cd_law_matches "_law_matches" = true) (k_law_matches : PySem.W.keepIn K (.ref f_law_matches) = true)
    (a_law_table : PySem.W.nsIn K mainGlobals "_law_table" = some (some (.ref f_law_table))) (l_law_table : K.lookup f_law_table = some ⟨oc_law_table, od_law_table, .func (PySem.W.fnOf "_law_table" "_law_table" (defArgs s_law_table) (defBody s_law_table) (defScope s_law_table) .none kV_law_table dc_law_table pm_law_table an_law_table cd_law_table ct_law_table), sl_law_table⟩) (c_law_table : PySem.W.codeIn K cd_law_table "_law_table" = true) (k_law_table : PySem.W.keepIn K (.ref f_law_table) = true)
    (a_law_exact : PySem.W.nsIn K mainGlobals "_law_exact" = some (some (.ref f_law_exact))) (l_law_exact : K.lookup f_law_exact = some ⟨oc_law_exact, od_law_exact, .func (PySem.W.fnOf "_law_exact" "_law_exact" (defArgs s_law_exact) (defBody s_law_exact) (defScope s_law_exact) .none kV_law_exact dc_law_exact pm_law_exact an_law_exact cd_law_exact ct_law_exact), sl_law_exact⟩) (c_law_exact : PySem.W.codeIn K cd_law_exact "_law_exact" = true) (k_law_exact : PySem.W.keepIn K (.ref f_law_exact) = true)
    (a_law_shape : PySem.W.nsIn K mainGlobals "_law_shape" = some (some (.ref f_law_shape))) (l_law_shape : K.lookup f_law_shape = some ⟨oc_law_shape, od_law_shape, .func (PySem.W.fnOf "_law_shape" "_law_shape" (defArgs s_law_shape) (defBody s_law_shape) (defScope s_law_shape) .none kV_law_shape dc_law_shape pm_law_shape an_law_shape cd_law_shape ct_law_shape), sl_law_shape⟩) (c_law_shape : PySem.W.codeIn K cd_law_shape "_law_shape" = true) (k_law_shape : PySem.W.keepIn K (.ref f_law_shape) = true)
    (a_law_drawn_diagram : PySem.W.nsIn K mainGlobals "_law_drawn_diagram" = some (some (.ref f_law_drawn_diagram))) (l_law_drawn_diagram : K.lookup f_law_drawn_diagram = some ⟨oc_law_drawn_diagram, od_law_drawn_diagram, .func (PySem.W.fnOf "_law_drawn_diagram" "_law_drawn_diagram" (defArgs s_law_drawn_diagram) (defBody s_law_drawn_diagram) (defScope s_law_drawn_diagram) .none kV_law_drawn_diagram dc_law_drawn_diagram pm_law_drawn_diagram an_law_drawn_diagram cd_law_drawn_diagram ct_law_drawn_diagram), sl_law_drawn_diagram⟩) (c_law_drawn_diagram : PySem.W.codeIn K cd_law_drawn_diagram "_law_drawn_diagram" = true) (k_law_drawn_diagram : PySem.W.keepIn K (.ref f_law_drawn_diagram) = true)
    (a_law_told : PySem.W.nsIn K mainGlobals "_law_told" = some (some (.ref f_law_told))) (l_law_told : K.lookup f_law_told = some ⟨oc_law_told, od_law_told, .func (PySem.W.fnOf "_law_told" "_law_told" (defArgs s_law_told) (defBody s_law_told) (defScope s_law_told) .none kV_law_told dc_law_told pm_law_told an_law_told cd_law_told ct_law_told), sl_law_told⟩) (c_law_told : PySem.W.codeIn K cd_law_told "_law_told" = true) (k_law_told : PySem.W.keepIn K (.ref f_law_told) = true)
    (a_law_large : PySem.W.nsIn K mainGlobals "_law_large" = some (some (.ref f_law_large))) (l_law_large : K.lookup f_law_large = some ⟨oc_law_large, od_law_large, .func (PySem.W.fnOf "_law_large" "_law_large" (defArgs s_law_large) (defBody s_law_large) (defScope s_law_large) .none kV_law_large dc_law_large pm_law_large an_law_large cd_law_large ct_law_large), sl_law_large⟩) (c_law_large : PySem.W.codeIn K cd_law_large "_law_large" = true) (k_law_large : PySem.W.keepIn K (.ref f_law_large) = true)
    (a_law : PySem.W.nsIn K mainGlobals "law" = some (some (.ref f_law))) (l_law : K.lookup f_law = some ⟨oc_law, od_law, .func (PySem.W.fnOf "law" "law" (defArgs s_law) (defBody s_law) (defScope s_law) .none kV_law dc_law pm_law an_law cd_law ct_law), sl_law⟩) (c_law : PySem.W.codeIn K cd_law "law" = true) (k_law : PySem.W.keepIn K (.ref f_law) = true)
    (zn_int : PySem.W.nsIn K mainGlobals "int" = some none)
    (zn_range : PySem.W.nsIn K mainGlobals "range" = some none)
    (zn_len : PySem.W.nsIn K mainGlobals "len" = some none)
    (zn_list : PySem.W.nsIn K mainGlobals "list" = some none)
    (zn_tuple : PySem.W.nsIn K mainGlobals "tuple" = some none)
    (zn_max : PySem.W.nsIn K mainGlobals "max" = some none)
    (zn_min : PySem.W.nsIn K mainGlobals "min" = some none)
    (zn_all : PySem.W.nsIn K mainGlobals "all" = some none)
    (zn_sorted : PySem.W.nsIn K mainGlobals "sorted" = some none)
    (zn_isinstance : PySem.W.nsIn K mainGlobals "isinstance" = some none)
    (zn_enumerate : PySem.W.nsIn K mainGlobals "enumerate" = some none)
    (zn_sum : PySem.W.nsIn K mainGlobals "sum" = some none)
    (zn_str : PySem.W.nsIn K mainGlobals "str" = some none)
    (zn_repr : PySem.W.nsIn K mainGlobals "repr" = some none)
    (zn_set : PySem.W.nsIn K mainGlobals "set" = some none)
    (n_BadNumber : PySem.W.nsIn K mainGlobals "BadNumber" = some (some (.ref CB)))
    (x_BadNumber : PySem.W.excIn K CB [.type "ValueError", .type "Exception", .type "BaseException", .type "object"] "ValueError.__new__" = true)
    (kc_BadNumber : PySem.W.keepIn K (.ref CB) = true)
    (bc_BadNumber : PySem.W.subIn K (.ref CB) (.type "BaseException") = some true)
    (tc_BadNumber : PySem.W.typeIn K (.ref CB) = some (.type "type"))
    (n_NotDiagram : PySem.W.nsIn K mainGlobals "NotDiagram" = some (some (.ref CD)))
    (x_NotDiagram : PySem.W.excIn K CD [.type "ValueError", .type "Exception", .type "BaseException", .type "object"] "ValueError.__new__" = true)
    (kc_NotDiagram : PySem.W.keepIn K (.ref CD) = true)
    (bc_NotDiagram : PySem.W.subIn K (.ref CD) (.type "BaseException") = some true)
    (tc_NotDiagram : PySem.W.typeIn K (.ref CD) = some (.type "type"))
    (n_TooLarge : PySem.W.nsIn K mainGlobals "TooLarge" = some (some (.ref CT)))
    (x_TooLarge : PySem.W.excIn K CT [.type "ValueError", .type "Exception", .type "BaseException", .type "object"] "ValueError.__new__" = true)
    (kc_TooLarge : PySem.W.keepIn K (.ref CT) = true)
    (bc_TooLarge : PySem.W.subIn K (.ref CT) (.type "BaseException") = some true)
    (tc_TooLarge : PySem.W.typeIn K (.ref CT) = some (.type "type"))
    (n_MOST_ON_A_SIDE : PySem.W.nsIn K mainGlobals "MOST_ON_A_SIDE" = some (some (.int 8 tm_MOST_ON_A_SIDE)))
    (n_MOST_POINTS : PySem.W.nsIn K mainGlobals "MOST_POINTS" = some (some (.int 12 tm_MOST_POINTS)))
    (n_MOST_COLOURS : PySem.W.nsIn K mainGlobals "MOST_COLOURS" = some (some (.int 4 tm_MOST_COLOURS)))
    (n_MOST_ENTRIES : PySem.W.nsIn K mainGlobals "MOST_ENTRIES" = some (some (.int 1024 tm_MOST_ENTRIES)))
    (n_WorthError : PySem.W.nsIn K mainGlobals "WorthError" = some (some (.ref CE)))
    (ebc : PySem.W.subIn K (.ref CE) (.type "BaseException") = some true)
    (ehd : PySem.W.hasDictIn K CE = true)
    (ety : PySem.W.typeIn K (.ref CE) = some (.type "type"))
    (hn_cls : PySem.W.specialIn K (.builtin "object.__class__") "__get__" = some (some (.builtin "getset_descriptor.__get__")))
    (ht_cls : PySem.W.takesIn K (.builtin "object.__class__") = some true)
    (n_NotWorld : PySem.W.nsIn K mainGlobals "NotWorld" = some (some (.ref X_NotWorld)))
    (n_NotFamily : PySem.W.nsIn K mainGlobals "NotFamily" = some (some (.ref X_NotFamily)))
    (n_NotNumber : PySem.W.nsIn K mainGlobals "NotNumber" = some (some (.ref X_NotNumber)))
    (n_NotWord : PySem.W.nsIn K mainGlobals "NotWord" = some (some (.ref X_NotWord)))
    (n_NotMatrix : PySem.W.nsIn K mainGlobals "NotMatrix" = some (some (.ref X_NotMatrix)))
    (n_NoAnswer : PySem.W.nsIn K mainGlobals "NoAnswer" = some (some (.ref X_NoAnswer)))
    (n_Malformed : PySem.W.nsIn K mainGlobals "Malformed" = some (some (.ref X_Malformed)))
    (hg_NotDiagram : PySem.W.findIn K (.ref CD) "__getattribute__" = some (some (.builtin "BaseException.__getattribute__")))
    (hk_NotDiagram : PySem.W.findIn K (.ref CD) "__getattr__" = some none)
    (hd_NotDiagram : PySem.W.hasDictIn K CD = true)
    (ha_NotDiagram : PySem.W.findIn K (.ref CD) "__class__" = some (some (.builtin "object.__class__")))
    (hm_NotDiagram : PySem.W.mroIn K CD (.type "object") = some true)
    (sE_NotDiagram : PySem.W.subIn K (.ref CD) (.ref CE) = some true)
    (tE_NotDiagram : PySem.W.kitOne K (.ref CD) (.ref CE) = some true)
    (t_NotDiagram_NotWorld : PySem.W.kitOne K (.ref CD) (.ref X_NotWorld) = some false)
    (t_NotDiagram_NotFamily : PySem.W.kitOne K (.ref CD) (.ref X_NotFamily) = some false)
    (t_NotDiagram_NotDiagram : PySem.W.kitOne K (.ref CD) (.ref CD) = some true)
    (t_NotDiagram_NotNumber : PySem.W.kitOne K (.ref CD) (.ref X_NotNumber) = some false)
    (t_NotDiagram_NotWord : PySem.W.kitOne K (.ref CD) (.ref X_NotWord) = some false)
    (t_NotDiagram_NotMatrix : PySem.W.kitOne K (.ref CD) (.ref X_NotMatrix) = some false)
    (t_NotDiagram_BadNumber : PySem.W.kitOne K (.ref CD) (.ref CB) = some false)
    (t_NotDiagram_NoAnswer : PySem.W.kitOne K (.ref CD) (.ref X_NoAnswer) = some false)
    (t_NotDiagram_TooLarge : PySem.W.kitOne K (.ref CD) (.ref CT) = some false)
    (t_NotDiagram_Malformed : PySem.W.kitOne K (.ref CD) (.ref X_Malformed) = some false)
    (hg_BadNumber : PySem.W.findIn K (.ref CB) "__getattribute__" = some (some (.builtin "BaseException.__getattribute__")))
    (hk_BadNumber : PySem.W.findIn K (.ref CB) "__getattr__" = some none)
    (hd_BadNumber : PySem.W.hasDictIn K CB = true)
    (ha_BadNumber : PySem.W.findIn K (.ref CB) "__class__" = some (some (.builtin "object.__class__")))
    (hm_BadNumber : PySem.W.mroIn K CB (.type "object") = some true)
    (sE_BadNumber : PySem.W.subIn K (.ref CB) (.ref CE) = some true)
    (tE_BadNumber : PySem.W.kitOne K (.ref CB) (.ref CE) = some true)
    (t_BadNumber_NotWorld : PySem.W.kitOne K (.ref CB) (.ref X_NotWorld) = some false)
    (t_BadNumber_NotFamily : PySem.W.kitOne K (.ref CB) (.ref X_NotFamily) = some false)
    (t_BadNumber_NotDiagram : PySem.W.kitOne K (.ref CB) (.ref CD) = some false)
    (t_BadNumber_NotNumber : PySem.W.kitOne K (.ref CB) (.ref X_NotNumber) = some false)
    (t_BadNumber_NotWord : PySem.W.kitOne K (.ref CB) (.ref X_NotWord) = some false)
    (t_BadNumber_NotMatrix : PySem.W.kitOne K (.ref CB) (.ref X_NotMatrix) = some false)
    (t_BadNumber_BadNumber : PySem.W.kitOne K (.ref CB) (.ref CB) = some true)
    (t_BadNumber_NoAnswer : PySem.W.kitOne K (.ref CB) (.ref X_NoAnswer) = some false)
    (t_BadNumber_TooLarge : PySem.W.kitOne K (.ref CB) (.ref CT) = some false)
    (t_BadNumber_Malformed : PySem.W.kitOne K (.ref CB) (.ref X_Malformed) = some false)
    (hg_TooLarge : PySem.W.findIn K (.ref CT) "__getattribute__" = some (some (.builtin "BaseException.__getattribute__")))
    (hk_TooLarge : PySem.W.findIn K (.ref CT) "__getattr__" = some none)
    (hd_TooLarge : PySem.W.hasDictIn K CT = true)
    (ha_TooLarge : PySem.W.findIn K (.ref CT) "__class__" = some (some (.builtin "object.__class__")))
    (hm_TooLarge : PySem.W.mroIn K CT (.type "object") = some true)
    (sE_TooLarge : PySem.W.subIn K (.ref CT) (.ref CE) = some true)
    (tE_TooLarge : PySem.W.kitOne K (.ref CT) (.ref CE) = some true)
    (t_TooLarge_NotWorld : PySem.W.kitOne K (.ref CT) (.ref X_NotWorld) = some false)
    (t_TooLarge_NotFamily : PySem.W.kitOne K (.ref CT) (.ref X_NotFamily) = some false)
    (t_TooLarge_NotDiagram : PySem.W.kitOne K (.ref CT) (.ref CD) = some false)
    (t_TooLarge_NotNumber : PySem.W.kitOne K (.ref CT) (.ref X_NotNumber) = some false)
    (t_TooLarge_NotWord : PySem.W.kitOne K (.ref CT) (.ref X_NotWord) = some false)
    (t_TooLarge_NotMatrix : PySem.W.kitOne K (.ref CT) (.ref X_NotMatrix) = some false)
    (t_TooLarge_BadNumber : PySem.W.kitOne K (.ref CT) (.ref CB) = some false)
    (t_TooLarge_NoAnswer : PySem.W.kitOne K (.ref CT) (.ref X_NoAnswer) = some false)
    (t_TooLarge_TooLarge : PySem.W.kitOne K (.ref CT) (.ref CT) = some true)
    (t_TooLarge_Malformed : PySem.W.kitOne K (.ref CT) (.ref X_Malformed) = some false)
    : ∃ fd : FuncData, (∀ (s : Shared) (v : Value), BindsTo s fd ⟨[v], []⟩ [("script", v)]) ∧ ∀ base : Heap, K.In base → base.Ns mainGlobals mg → FnG P w K mg base 10 fa fd ["script"] (spLaw K) := by
  have e := hfa.symm.trans (PySem.W.mg_of X G a_law)
  cases e
  have F_law_number := fun_mk (st := s_law_number) l_law_number c_law_number k_law_number
  have g_law_number := PySem.W.mg_of X G a_law_number
  have b_law_number := F_law_number.binds (ps := ["cell"]) fun _ _ _ _ _ _ us hl => match us, hl with | [_], _ => rfl
  have F_law_next := fun_mk (st := s_law_next) l_law_next c_law_next k_law_next
  have g_law_next := PySem.W.mg_of X G a_law_next
  have b_law_next := F_law_next.binds (ps := ["draws"]) fun _ _ _ _ _ _ us hl => match us, hl with | [_], _ => rfl
  have F_law_draws := fun_mk (st := s_law_draws) l_law_draws c_law_draws k_law_draws
  have g_law_draws := PySem.W.mg_of X G a_law_draws
  have b_law_draws := F_law_draws.binds (ps := ["script"]) fun _ _ _ _ _ _ us hl => match us, hl with | [_], _ => rfl
  have F_is_size_ := fun_mk (st := s_is_size_) l_is_size_ c_is_size_ k_is_size_
  have g_is_size_ := PySem.W.mg_of X G a_is_size_
  have b_is_size_ := F_is_size_.binds (ps := ["n", "m"]) fun _ _ _ _ _ _ us hl => match us, hl with | [_, _], _ => rfl
  have F_is_diagram := fun_mk (st := s_is_diagram) l_is_diagram c_is_diagram k_is_diagram
  have g_is_diagram := PySem.W.mg_of X G a_is_diagram
  have b_is_diagram := F_is_diagram.binds (ps := ["diagram"]) fun _ _ _ _ _ _ us hl => match us, hl with | [_], _ => rfl
  have F_check_diagram := fun_mk (st := s_check_diagram) l_check_diagram c_check_diagram k_check_diagram
  have g_check_diagram := PySem.W.mg_of X G a_check_diagram
  have b_check_diagram := F_check_diagram.binds (ps := ["diagram"]) fun _ _ _ _ _ _ us hl => match us, hl with | [_], _ => rfl
  have F_labels := fun_mk (st := s_labels) l_labels c_labels k_labels
  have g_labels := PySem.W.mg_of X G a_labels
  have b_labels := F_labels.binds (ps := ["diagram"]) fun _ _ _ _ _ _ us hl => match us, hl with | [_], _ => rfl
  have F_law_marks := fun_mk (st := s_law_marks) l_law_marks c_law_marks k_law_marks
  have g_law_marks := PySem.W.mg_of X G a_law_marks
  have b_law_marks := F_law_marks.binds (ps := ["diagram"]) fun _ _ _ _ _ _ us hl => match us, hl with | [_], _ => rfl
  have F_law_error := fun_mk (st := s_law_error) l_law_error c_law_error k_law_error
  have g_law_error := PySem.W.mg_of X G a_law_error
  have b_law_error := F_law_error.binds (ps := ["error"]) fun _ _ _ _ _ _ us hl => match us, hl with | [_], _ => rfl
  have F_law_colours := fun_mk (st := s_law_colours) l_law_colours c_law_colours k_law_colours
  have g_law_colours := PySem.W.mg_of X G a_law_colours
  have b_law_colours := F_law_colours.binds (ps := ["d", "count"]) fun _ _ _ _ _ _ us hl => match us, hl with | [_, _], _ => rfl
  have F_colourings_ := fun_mk (st := s_colourings_) l_colourings_ c_colourings_ k_colourings_
  have g_colourings_ := PySem.W.mg_of X G a_colourings_
  have b_colourings_ := F_colourings_.binds (ps := ["d", "points"]) fun _ _ _ _ _ _ us hl => match us, hl with | [_, _], _ => rfl
  have F_place_ := fun_mk (st := s_place_) l_place_ c_place_ k_place_
  have g_place_ := PySem.W.mg_of X G a_place_
  have b_place_ := F_place_.binds (ps := ["d", "colours"]) fun _ _ _ _ _ _ us hl => match us, hl with | [_, _], _ => rfl
  have F_places_ := fun_mk (st := s_places_) l_places_ c_places_ k_places_
  have g_places_ := PySem.W.mg_of X G a_places_
  have b_places_ := F_places_.binds (ps := ["d", "diagram", "exact"]) fun _ _ _ _ _ _ us hl => match us, hl with | [_, _, _], _ => rfl
  have F_check_colours_ := fun_mk (st := s_check_colours_) l_check_colours_ c_check_colours_ k_check_colours_
  have g_check_colours_ := PySem.W.mg_of X G a_check_colours_
  have b_check_colours_ := F_check_colours_.binds (ps := ["d"]) fun _ _ _ _ _ _ us hl => match us, hl with | [_], _ => rfl
  have F_check_entries_ := fun_mk (st := s_check_entries_) l_check_entries_ c_check_entries_ k_check_entries_
  have g_check_entries_ := PySem.W.mg_of X G a_check_entries_
  have b_check_entries_ := F_check_entries_.binds (ps := ["d", "points"]) fun _ _ _ _ _ _ us hl => match us, hl with | [_, _], _ => rfl
  have F_empty_ := fun_mk (st := s_empty_) l_empty_ c_empty_ k_empty_
  have g_empty_ := PySem.W.mg_of X G a_empty_
  have b_empty_ := F_empty_.binds (ps := ["d", "n", "m", "entry"]) fun _ _ _ _ _ _ us hl => match us, hl with | [_, _, _, _], _ => rfl
  have F_table_of_ := fun_mk (st := s_table_of_) l_table_of_ c_table_of_ k_table_of_
  have g_table_of_ := PySem.W.mg_of X G a_table_of_
  have b_table_of_ := F_table_of_.binds (ps := ["d", "diagram", "exact"]) fun _ _ _ _ _ _ us hl => match us, hl with | [_, _, _], _ => rfl
  have F_colour_table := fun_mk (st := s_colour_table) l_colour_table c_colour_table k_colour_table
  have g_colour_table := PySem.W.mg_of X G a_colour_table
  have b_colour_table := F_colour_table.binds (ps := ["d", "diagram"]) fun _ _ _ _ _ _ us hl => match us, hl with | [_, _], _ => rfl
  have F_exact_table := fun_mk (st := s_exact_table) l_exact_table c_exact_table k_exact_table
  have g_exact_table := PySem.W.mg_of X G a_exact_table
  have b_exact_table := F_exact_table.binds (ps := ["d", "diagram"]) fun _ _ _ _ _ _ us hl => match us, hl with | [_, _], _ => rfl
  have F_law_marked := fun_mk (st := s_law_marked) l_law_marked c_law_marked k_law_marked
  have g_law_marked := PySem.W.mg_of X G a_law_marked
  have b_law_marked := F_law_marked.binds (ps := ["n", "m", "marks"]) fun _ _ _ _ _ _ us hl => match us, hl with | [_, _, _], _ => rfl
  have F_law_matches := fun_mk (st := s_law_matches) l_law_matches c_law_matches k_law_matches
  have g_law_matches := PySem.W.mg_of X G a_law_matches
  have b_law_matches := F_law_matches.binds (ps := ["marks", "colours"]) fun _ _ _ _ _ _ us hl => match us, hl with | [_, _], _ => rfl
  have F_law_table := fun_mk (st := s_law_table) l_law_table c_law_table k_law_table
  have g_law_table := PySem.W.mg_of X G a_law_table
  have b_law_table := F_law_table.binds (ps := ["d", "diagram"]) fun _ _ _ _ _ _ us hl => match us, hl with | [_, _], _ => rfl
  have F_law_exact := fun_mk (st := s_law_exact) l_law_exact c_law_exact k_law_exact
  have g_law_exact := PySem.W.mg_of X G a_law_exact
  have b_law_exact := F_law_exact.binds (ps := ["d", "diagram"]) fun _ _ _ _ _ _ us hl => match us, hl with | [_, _], _ => rfl
  have F_law_shape := fun_mk (st := s_law_shape) l_law_shape c_law_shape k_law_shape
  have g_law_shape := PySem.W.mg_of X G a_law_shape
  have b_law_shape := F_law_shape.binds (ps := ["draws", "most"]) fun _ _ _ _ _ _ us hl => match us, hl with | [_, _], _ => rfl
  have F_law_drawn_diagram := fun_mk (st := s_law_drawn_diagram) l_law_drawn_diagram c_law_drawn_diagram k_law_drawn_diagram
  have g_law_drawn_diagram := PySem.W.mg_of X G a_law_drawn_diagram
  have b_law_drawn_diagram := F_law_drawn_diagram.binds (ps := ["draws", "n", "m"]) fun _ _ _ _ _ _ us hl => match us, hl with | [_, _, _], _ => rfl
  have F_law_told := fun_mk (st := s_law_told) l_law_told c_law_told k_law_told
  have g_law_told := PySem.W.mg_of X G a_law_told
  have b_law_told := F_law_told.binds (ps := ["which", "d", "diagram"]) fun _ _ _ _ _ _ us hl => match us, hl with | [_, _, _], _ => rfl
  have F_law_large := fun_mk (st := s_law_large) l_law_large c_law_large k_law_large
  have g_law_large := PySem.W.mg_of X G a_law_large
  have b_law_large := F_law_large.binds (ps := ["d", "points"]) fun _ _ _ _ _ _ us hl => match us, hl with | [_, _], _ => rfl
  have F_law := fun_mk (st := s_law) l_law c_law k_law
  have g_law := PySem.W.mg_of X G a_law
  have b_law := F_law.binds (ps := ["script"]) fun _ _ _ _ _ _ us hl => match us, hl with | [_], _ => rfl
  have z_int := PySem.W.mg_none_of X G zn_int
  have z_range := PySem.W.mg_none_of X G zn_range
  have z_len := PySem.W.mg_none_of X G zn_len
  have z_list := PySem.W.mg_none_of X G zn_list
  have z_tuple := PySem.W.mg_none_of X G zn_tuple
  have z_max := PySem.W.mg_none_of X G zn_max
  have z_min := PySem.W.mg_none_of X G zn_min
  have z_all := PySem.W.mg_none_of X G zn_all
  have z_sorted := PySem.W.mg_none_of X G zn_sorted
  have z_isinstance := PySem.W.mg_none_of X G zn_isinstance
  have z_enumerate := PySem.W.mg_none_of X G zn_enumerate
  have z_sum := PySem.W.mg_none_of X G zn_sum
  have z_str := PySem.W.mg_none_of X G zn_str
  have z_repr := PySem.W.mg_none_of X G zn_repr
  have z_set := PySem.W.mg_none_of X G zn_set
  have E_BadNumber : ErrC K mg "BadNumber" CB := ⟨PySem.W.mg_of X G n_BadNumber, x_BadNumber, kc_BadNumber, bc_BadNumber, tc_BadNumber⟩
  have E_NotDiagram : ErrC K mg "NotDiagram" CD := ⟨PySem.W.mg_of X G n_NotDiagram, x_NotDiagram, kc_NotDiagram, bc_NotDiagram, tc_NotDiagram⟩
  have E_TooLarge : ErrC K mg "TooLarge" CT := ⟨PySem.W.mg_of X G n_TooLarge, x_TooLarge, kc_TooLarge, bc_TooLarge, tc_TooLarge⟩
  have m_MOST_ON_A_SIDE := PySem.W.mg_of X G n_MOST_ON_A_SIDE
  have m_MOST_POINTS := PySem.W.mg_of X G n_MOST_POINTS
  have m_MOST_COLOURS := PySem.W.mg_of X G n_MOST_COLOURS
  have m_MOST_ENTRIES := PySem.W.mg_of X G n_MOST_ENTRIES
  have m_WorthError := PySem.W.mg_of X G n_WorthError
  have m_NotWorld := PySem.W.mg_of X G n_NotWorld
  have m_NotFamily := PySem.W.mg_of X G n_NotFamily
  have m_NotDiagram := PySem.W.mg_of X G n_NotDiagram
  have m_NotNumber := PySem.W.mg_of X G n_NotNumber
  have m_NotWord := PySem.W.mg_of X G n_NotWord
  have m_NotMatrix := PySem.W.mg_of X G n_NotMatrix
  have m_BadNumber := PySem.W.mg_of X G n_BadNumber
  have m_NoAnswer := PySem.W.mg_of X G n_NoAnswer
  have m_TooLarge := PySem.W.mg_of X G n_TooLarge
  have m_Malformed := PySem.W.mg_of X G n_Malformed
  have I_NotDiagram : ExcC K CD := ⟨hg_NotDiagram, hk_NotDiagram, bc_NotDiagram, hd_NotDiagram, ha_NotDiagram, hn_cls, ht_cls, hm_NotDiagram⟩
  have J_NotDiagram : KindE K CE X_NotWorld X_NotFamily CD X_NotNumber X_NotWord X_NotMatrix CB X_NoAnswer CT X_Malformed CD "diagram" := ⟨I_NotDiagram, tE_NotDiagram, by decide, t_NotDiagram_NotWorld, t_NotDiagram_NotFamily, t_NotDiagram_NotDiagram, t_NotDiagram_NotNumber, t_NotDiagram_NotWord, t_NotDiagram_NotMatrix, t_NotDiagram_BadNumber, t_NotDiagram_NoAnswer, t_NotDiagram_TooLarge, t_NotDiagram_Malformed⟩
  have I_BadNumber : ExcC K CB := ⟨hg_BadNumber, hk_BadNumber, bc_BadNumber, hd_BadNumber, ha_BadNumber, hn_cls, ht_cls, hm_BadNumber⟩
  have J_BadNumber : KindE K CE X_NotWorld X_NotFamily CD X_NotNumber X_NotWord X_NotMatrix CB X_NoAnswer CT X_Malformed CB "number" := ⟨I_BadNumber, tE_BadNumber, by decide, t_BadNumber_NotWorld, t_BadNumber_NotFamily, t_BadNumber_NotDiagram, t_BadNumber_NotNumber, t_BadNumber_NotWord, t_BadNumber_NotMatrix, t_BadNumber_BadNumber, t_BadNumber_NoAnswer, t_BadNumber_TooLarge, t_BadNumber_Malformed⟩
  have I_TooLarge : ExcC K CT := ⟨hg_TooLarge, hk_TooLarge, bc_TooLarge, hd_TooLarge, ha_TooLarge, hn_cls, ht_cls, hm_TooLarge⟩
  have J_TooLarge : KindE K CE X_NotWorld X_NotFamily CD X_NotNumber X_NotWord X_NotMatrix CB X_NoAnswer CT X_Malformed CT "large" := ⟨I_TooLarge, tE_TooLarge, by decide, t_TooLarge_NotWorld, t_TooLarge_NotFamily, t_TooLarge_NotDiagram, t_TooLarge_NotNumber, t_TooLarge_NotWord, t_TooLarge_NotMatrix, t_TooLarge_BadNumber, t_TooLarge_NoAnswer, t_TooLarge_TooLarge, t_TooLarge_Malformed⟩
  have T_told : ErrE K mg CE X_NotWorld X_NotFamily CD X_NotNumber X_NotWord X_NotMatrix CB X_NoAnswer CT X_Malformed := ⟨PySem.W.mg_of X G n_WorthError, ebc, ehd, ety, sE_NotDiagram, sE_BadNumber, sE_TooLarge, J_NotDiagram, J_BadNumber, J_TooLarge⟩
  refine ⟨PySem.W.fnOf "law" "law" (defArgs s_law) (defBody s_law) (defScope s_law) .none kV_law dc_law pm_law an_law cd_law ct_law, fun s v => .of_eq rfl, fun base _ _ => ?_⟩
  have G_law_number := ok_plain (P := P) (w := w) (mg := mg) (base := base) (F := F_law_number)
  have G_law_next := ok_next (P := P) (w := w) (mg := mg) (base := base) (F := F_law_next)
  have G_law_draws := ok_draws (P := P) (w := w) (mg := mg) (base := base) (F := F_law_draws) (z_range := z_range) (z_int := z_int) (G_law_number := G_law_number) (g_law_number := g_law_number) (k_law_number := k_law_number) (b_law_number := b_law_number)
  have G_is_size_ := ok_is_size_ (P := P) (w := w) (mg := mg) (base := base) (F := F_is_size_) (m_MOST_ON_A_SIDE := m_MOST_ON_A_SIDE) (m_MOST_POINTS := m_MOST_POINTS)
  have G_is_diagram := ok_is_diagram (P := P) (w := w) (mg := mg) (base := base) (F := F_is_diagram) (z_len := z_len) (z_list := z_list) (z_range := z_range) (z_sorted := z_sorted) (z_all := z_all) (G_is_size_ := G_is_size_) (g_is_size_ := g_is_size_) (k_is_size_ := k_is_size_) (b_is_size_ := b_is_size_)
  have G_check_diagram := ok_check_diagram (P := P) (w := w) (mg := mg) (base := base) (F := F_check_diagram) (T := E_NotDiagram) (G_is_diagram := G_is_diagram) (g_is_diagram := g_is_diagram) (k_is_diagram := k_is_diagram) (b_is_diagram := b_is_diagram)
  have G_labels := ok_labels (P := P) (w := w) (mg := mg) (base := base) (F := F_labels) (z_enumerate := z_enumerate) (z_range := z_range) (G_check_diagram := G_check_diagram) (g_check_diagram := g_check_diagram) (k_check_diagram := k_check_diagram) (b_check_diagram := b_check_diagram)
  have G_law_marks := ok_law_marks (P := P) (w := w) (mg := mg) (base := base) (F := F_law_marks) (z_len := z_len) (z_range := z_range)
  have G_law_error := ok_law_error (P := P) (w := w) (mg := mg) (base := base) (F := F_law_error) (m_WorthError := m_WorthError) (m_NotWorld := m_NotWorld) (m_NotFamily := m_NotFamily) (m_NotDiagram := m_NotDiagram) (m_NotNumber := m_NotNumber) (m_NotWord := m_NotWord) (m_NotMatrix := m_NotMatrix) (m_BadNumber := m_BadNumber) (m_NoAnswer := m_NoAnswer) (m_TooLarge := m_TooLarge) (m_Malformed := m_Malformed) (z_isinstance := z_isinstance) (z_len := z_len)
  have G_law_colours := ok_law_colours (P := P) (w := w) (mg := mg) (base := base) (F := F_law_colours) (z_range := z_range)
  have G_colourings_ := ok_colourings_ (P := P) (w := w) (mg := mg) (base := base) (F := F_colourings_) (z_range := z_range)
  have G_place_ := ok_place_ (P := P) (w := w) (mg := mg) (base := base) (F := F_place_)
  have G_places_ := ok_places_ (P := P) (w := w) (mg := mg) (base := base) (F := F_places_) (z_len := z_len) (z_set := z_set) (G_labels := G_labels) (g_labels := g_labels) (k_labels := k_labels) (b_labels := b_labels) (G_colourings_ := G_colourings_) (g_colourings_ := g_colourings_) (k_colourings_ := k_colourings_) (b_colourings_ := b_colourings_) (G_place_ := G_place_) (g_place_ := g_place_) (k_place_ := k_place_) (b_place_ := b_place_)
  have G_check_colours_ := ok_check_colours_ (P := P) (w := w) (mg := mg) (base := base) (F := F_check_colours_) (T := E_BadNumber) (m_MOST_COLOURS := m_MOST_COLOURS)
  have G_check_entries_ := ok_check_entries_ (P := P) (w := w) (mg := mg) (base := base) (F := F_check_entries_) (T := E_TooLarge) (m_MOST_ENTRIES := m_MOST_ENTRIES) (z_range := z_range)
  have G_empty_ := ok_empty_ (P := P) (w := w) (mg := mg) (base := base) (F := F_empty_) (z_len := z_len) (G_colourings_ := G_colourings_) (g_colourings_ := g_colourings_) (k_colourings_ := k_colourings_) (b_colourings_ := b_colourings_)
  have G_table_of_ := ok_table_of_ (P := P) (w := w) (mg := mg) (base := base) (F := F_table_of_) (G_check_colours_ := G_check_colours_) (g_check_colours_ := g_check_colours_) (k_check_colours_ := k_check_colours_) (b_check_colours_ := b_check_colours_) (G_check_diagram := G_check_diagram) (g_check_diagram := g_check_diagram) (k_check_diagram := k_check_diagram) (b_check_diagram := b_check_diagram) (G_check_entries_ := G_check_entries_) (g_check_entries_ := g_check_entries_) (k_check_entries_ := k_check_entries_) (b_check_entries_ := b_check_entries_) (G_empty_ := G_empty_) (g_empty_ := g_empty_) (k_empty_ := k_empty_) (b_empty_ := b_empty_) (G_places_ := G_places_) (g_places_ := g_places_) (k_places_ := k_places_) (b_places_ := b_places_)
  have G_colour_table := ok_colour_table (P := P) (w := w) (mg := mg) (base := base) (F := F_colour_table) (G_table_of_ := G_table_of_) (g_table_of_ := g_table_of_) (k_table_of_ := k_table_of_) (b_table_of_ := b_table_of_)
  have G_exact_table := ok_exact_table (P := P) (w := w) (mg := mg) (base := base) (F := F_exact_table) (G_table_of_ := G_table_of_) (g_table_of_ := g_table_of_) (k_table_of_ := k_table_of_) (b_table_of_ := b_table_of_)
  have G_law_marked := ok_law_marked (P := P) (w := w) (mg := mg) (base := base) (F := F_law_marked) (z_tuple := z_tuple) (z_range := z_range) (z_len := z_len)
  have G_law_matches := ok_law_matches (P := P) (w := w) (mg := mg) (base := base) (F := F_law_matches) (z_range := z_range) (z_len := z_len)
  have G_law_table := ok_law_table (P := P) (w := w) (mg := mg) (base := base) (F := F_law_table) (z_int := z_int) (G_law_marks := G_law_marks) (g_law_marks := g_law_marks) (k_law_marks := k_law_marks) (b_law_marks := b_law_marks) (G_law_colours := G_law_colours) (g_law_colours := g_law_colours) (k_law_colours := k_law_colours) (b_law_colours := b_law_colours) (G_law_matches := G_law_matches) (g_law_matches := g_law_matches) (k_law_matches := k_law_matches) (b_law_matches := b_law_matches)
  have G_law_exact := ok_law_exact (P := P) (w := w) (mg := mg) (base := base) (F := F_law_exact) (z_int := z_int) (G_law_marks := G_law_marks) (g_law_marks := g_law_marks) (k_law_marks := k_law_marks) (b_law_marks := b_law_marks) (G_law_colours := G_law_colours) (g_law_colours := g_law_colours) (k_law_colours := k_law_colours) (b_law_colours := b_law_colours) (G_law_matches := G_law_matches) (g_law_matches := g_law_matches) (k_law_matches := k_law_matches) (b_law_matches := b_law_matches)
  have G_law_shape := ok_law_shape (P := P) (w := w) (mg := mg) (base := base) (F := F_law_shape) (z_int := z_int) (G_law_next := G_law_next) (g_law_next := g_law_next) (k_law_next := k_law_next) (b_law_next := b_law_next)
  have G_law_drawn_diagram := ok_law_drawn_diagram (P := P) (w := w) (mg := mg) (base := base) (F := F_law_drawn_diagram) (z_int := z_int) (z_range := z_range) (G_law_next := G_law_next) (g_law_next := g_law_next) (k_law_next := k_law_next) (b_law_next := b_law_next) (G_law_marked := G_law_marked) (g_law_marked := g_law_marked) (k_law_marked := k_law_marked) (b_law_marked := b_law_marked)
  have G_law_told := ok_law_told (P := P) (w := w) (mg := mg) (base := base) (F := F_law_told) (T := T_told) (G_colour_table := G_colour_table) (g_colour_table := g_colour_table) (k_colour_table := k_colour_table) (b_colour_table := b_colour_table) (G_exact_table := G_exact_table) (g_exact_table := g_exact_table) (k_exact_table := k_exact_table) (b_exact_table := b_exact_table) (G_law_error := G_law_error) (g_law_error := g_law_error) (k_law_error := k_law_error) (b_law_error := b_law_error)
  have G_law_large := ok_law_large (P := P) (w := w) (mg := mg) (base := base) (F := F_law_large) (z_range := z_range) (z_tuple := z_tuple) (z_list := z_list) (z_sum := z_sum) (z_isinstance := z_isinstance) (G_law_told := G_law_told) (g_law_told := g_law_told) (k_law_told := k_law_told) (b_law_told := b_law_told)
  exact ok_law (P := P) (w := w) (mg := mg) (base := base) (F := F_law) (z_int := z_int) (z_range := z_range) (z_repr := z_repr) (G_law_draws := G_law_draws) (g_law_draws := g_law_draws) (k_law_draws := k_law_draws) (b_law_draws := b_law_draws) (G_law_next := G_law_next) (g_law_next := g_law_next) (k_law_next := k_law_next) (b_law_next := b_law_next) (G_law_shape := G_law_shape) (g_law_shape := g_law_shape) (k_law_shape := k_law_shape) (b_law_shape := b_law_shape) (G_law_drawn_diagram := G_law_drawn_diagram) (g_law_drawn_diagram := g_law_drawn_diagram) (k_law_drawn_diagram := k_law_drawn_diagram) (b_law_drawn_diagram := b_law_drawn_diagram) (G_law_told := G_law_told) (g_law_told := g_law_told) (k_law_told := k_law_told) (b_law_told := b_law_told) (G_law_table := G_law_table) (g_law_table := g_law_table) (k_law_table := k_law_table) (b_law_table := b_law_table) (G_law_exact := G_law_exact) (g_law_exact := g_law_exact) (k_law_exact := k_law_exact) (b_law_exact := b_law_exact) (G_law_large := G_law_large) (g_law_large := g_law_large) (k_law_large := k_law_large) (b_law_large := b_law_large)
end T
open PySem PySem.W PyProof.Rows
set_option maxHeartbeats 0 in
theorem PySem.Challenge.cw_threadworth_k54_tables_of_colours_holds : PySem.Challenge.rw_threadworth_k54_tables_of_colours.Holds := by
  w_on; o_law; k_head; (case hw => w_witness2)
  k_fill
  refine L2.walk_ofG (l := PySem.Challenge.rw_threadworth_k54_tables_of_colours) (n := 63) (k := 10) (x := "script") (sp := fun w => T.spLaw _) rfl (by decide) rfl ⟨rfl, by decide, by decide⟩ (fun w h Y => PySem.W.kIn_of Y) ?F (fun _ _ a ns hl hS => ⟨a, ns, rfl, hS, hl, fun _ => rfl⟩)
  case F =>
    intro w mg fa h KX G hmg
    refine' T.all_mk KX G hmg ?a_law_number ?l_law_number ?c_law_number ?k_law_number ?a_law_next ?l_law_next ?c_law_next ?k_law_next ?a_law_draws ?l_law_draws ?c_law_draws ?k_law_draws ?a_is_size_ ?l_is_size_ ?c_is_size_ ?k_is_size_ ?a_is_diagram ?l_is_diagram ?c_is_diagram ?k_is_diagram ?a_check_diagram ?l_check_diagram ?c_check_diagram ?k_check_diagram ?a_labels ?l_labels ?c_labels ?k_labels ?a_law_marks ?l_law_marks ?c_law_marks ?k_law_marks ?a_law_error ?l_law_error ?c_law_error ?k_law_error ?a_law_colours ?l_law_colours ?c_law_colours ?k_law_colours ?a_colourings_ ?l_colourings_ ?c_colourings_ ?k_colourings_ ?a_place_ ?l_place_ ?c_place_ ?k_place_ ?a_places_ ?l_places_ ?c_places_ ?k_places_ ?a_check_colours_ ?l_check_colours_ ?c_check_colours_ ?k_check_colours_ ?a_check_entries_ ?l_check_entries_ ?c_check_entries_ ?k_check_entries_ ?a_empty_ ?l_empty_ ?c_empty_ ?k_empty_ ?a_table_of_ ?l_table_of_ ?c_table_of_ ?k_table_of_ ?a_colour_table ?l_colour_table ?c_colour_table ?k_colour_table ?a_exact_table ?l_exact_table ?c_exact_table ?k_exact_table ?a_law_marked ?l_law_marked ?c_law_marked ?k_law_marked ?a_law_matches ?l_law_matches ?c_law_matches ?k_law_matches ?a_law_table ?l_law_table ?c_law_table ?k_law_table ?a_law_exact ?l_law_exact ?c_law_exact ?k_law_exact ?a_law_shape ?l_law_shape ?c_law_shape ?k_law_shape ?a_law_drawn_diagram ?l_law_drawn_diagram ?c_law_drawn_diagram ?k_law_drawn_diagram ?a_law_told ?l_law_told ?c_law_told ?k_law_told ?a_law_large ?l_law_large ?c_law_large ?k_law_large ?a_law ?l_law ?c_law ?k_law ?zn_int ?zn_range ?zn_len ?zn_list ?zn_tuple ?zn_max ?zn_min ?zn_all ?zn_sorted ?zn_isinstance ?zn_enumerate ?zn_sum ?zn_str ?zn_repr ?zn_set ?n_BadNumber ?x_BadNumber ?kc_BadNumber ?bc_BadNumber ?tc_BadNumber ?n_NotDiagram ?x_NotDiagram ?kc_NotDiagram ?bc_NotDiagram ?tc_NotDiagram ?n_TooLarge ?x_TooLarge ?kc_TooLarge ?bc_TooLarge ?tc_TooLarge ?n_MOST_ON_A_SIDE ?n_MOST_POINTS ?n_MOST_COLOURS ?n_MOST_ENTRIES ?n_WorthError ?ebc ?ehd ?ety ?hn_cls ?ht_cls ?n_NotWorld ?n_NotFamily ?n_NotNumber ?n_NotWord ?n_NotMatrix ?n_NoAnswer ?n_Malformed ?hg_NotDiagram ?hk_NotDiagram ?hd_NotDiagram ?ha_NotDiagram ?hm_NotDiagram ?sE_NotDiagram ?tE_NotDiagram ?t_NotDiagram_NotWorld ?t_NotDiagram_NotFamily ?t_NotDiagram_NotDiagram ?t_NotDiagram_NotNumber ?t_NotDiagram_NotWord ?t_NotDiagram_NotMatrix ?t_NotDiagram_BadNumber ?t_NotDiagram_NoAnswer ?t_NotDiagram_TooLarge ?t_NotDiagram_Malformed ?hg_BadNumber ?hk_BadNumber ?hd_BadNumber ?ha_BadNumber ?hm_BadNumber ?sE_BadNumber ?tE_BadNumber ?t_BadNumber_NotWorld ?t_BadNumber_NotFamily ?t_BadNumber_NotDiagram ?t_BadNumber_NotNumber ?t_BadNumber_NotWord ?t_BadNumber_NotMatrix ?t_BadNumber_BadNumber ?t_BadNumber_NoAnswer ?t_BadNumber_TooLarge ?t_BadNumber_Malformed ?hg_TooLarge ?hk_TooLarge ?hd_TooLarge ?ha_TooLarge ?hm_TooLarge ?sE_TooLarge ?tE_TooLarge ?t_TooLarge_NotWorld ?t_TooLarge_NotFamily ?t_TooLarge_NotDiagram ?t_TooLarge_NotNumber ?t_TooLarge_NotWord ?t_TooLarge_NotMatrix ?t_TooLarge_BadNumber ?t_TooLarge_NoAnswer ?t_TooLarge_TooLarge ?t_TooLarge_Malformed
    (case a_law_number => k_is); (case l_law_number => k_is); (case c_law_number => k_is); (case k_law_number => k_is); (case a_law_next => k_is); (case l_law_next => k_is); (case c_law_next => k_is); (case k_law_next => k_is)
    (case a_law_draws => k_is); (case l_law_draws => k_is); (case c_law_draws => k_is); (case k_law_draws => k_is); (case a_is_size_ => k_is); (case l_is_size_ => k_is); (case c_is_size_ => k_is); (case k_is_size_ => k_is)
    (case a_is_diagram => k_is); (case l_is_diagram => k_is); (case c_is_diagram => k_is); (case k_is_diagram => k_is); (case a_check_diagram => k_is); (case l_check_diagram => k_is); (case c_check_diagram => k_is); (case k_check_diagram => k_is)
    (case a_labels => k_is); (case l_labels => k_is); (case c_labels => k_is); (case k_labels => k_is); (case a_law_marks => k_is); (case l_law_marks => k_is); (case c_law_marks => k_is); (case k_law_marks => k_is)
    (case a_law_error => k_is); (case l_law_error => k_is); (case c_law_error => k_is); (case k_law_error => k_is); (case a_law_colours => k_is); (case l_law_colours => k_is); (case c_law_colours => k_is); (case k_law_colours => k_is)
    (case a_colourings_ => k_is); (case l_colourings_ => k_is); (case c_colourings_ => k_is); (case k_colourings_ => k_is); (case a_place_ => k_is); (case l_place_ => k_is); (case c_place_ => k_is); (case k_place_ => k_is)
    (case a_places_ => k_is); (case l_places_ => k_is); (case c_places_ => k_is); (case k_places_ => k_is); (case a_check_colours_ => k_is); (case l_check_colours_ => k_is); (case c_check_colours_ => k_is); (case k_check_colours_ => k_is)
    (case a_check_entries_ => k_is); (case l_check_entries_ => k_is); (case c_check_entries_ => k_is); (case k_check_entries_ => k_is); (case a_empty_ => k_is); (case l_empty_ => k_is); (case c_empty_ => k_is); (case k_empty_ => k_is)
    (case a_table_of_ => k_is); (case l_table_of_ => k_is); (case c_table_of_ => k_is); (case k_table_of_ => k_is); (case a_colour_table => k_is); (case l_colour_table => k_is); (case c_colour_table => k_is); (case k_colour_table => k_is)
    (case a_exact_table => k_is); (case l_exact_table => k_is); (case c_exact_table => k_is); (case k_exact_table => k_is); (case a_law_marked => k_is); (case l_law_marked => k_is); (case c_law_marked => k_is); (case k_law_marked => k_is)
    (case a_law_matches => k_is); (case l_law_matches => k_is); (case c_law_matches => k_is); (case k_law_matches => k_is); (case a_law_table => k_is); (case l_law_table => k_is); (case c_law_table => k_is); (case k_law_table => k_is)
    (case a_law_exact => k_is); (case l_law_exact => k_is); (case c_law_exact => k_is); (case k_law_exact => k_is); (case a_law_shape => k_is); (case l_law_shape => k_is); (case c_law_shape => k_is); (case k_law_shape => k_is)
    (case a_law_drawn_diagram => k_is); (case l_law_drawn_diagram => k_is); (case c_law_drawn_diagram => k_is); (case k_law_drawn_diagram => k_is); (case a_law_told => k_is); (case l_law_told => k_is); (case c_law_told => k_is); (case k_law_told => k_is)
    (case a_law_large => k_is); (case l_law_large => k_is); (case c_law_large => k_is); (case k_law_large => k_is); (case a_law => k_is); (case l_law => k_is); (case c_law => k_is); (case k_law => k_is)
    (case zn_int => k_is); (case zn_range => k_is); (case zn_len => k_is); (case zn_list => k_is); (case zn_tuple => k_is); (case zn_max => k_is); (case zn_min => k_is); (case zn_all => k_is)
    (case zn_sorted => k_is); (case zn_isinstance => k_is); (case zn_enumerate => k_is); (case zn_sum => k_is); (case zn_str => k_is); (case zn_repr => k_is); (case zn_set => k_is); (case n_BadNumber => k_is)
    (case x_BadNumber => k_exc); (case kc_BadNumber => k_is); (case bc_BadNumber => k_is); (case tc_BadNumber => k_is); (case n_NotDiagram => k_is); (case x_NotDiagram => k_exc); (case kc_NotDiagram => k_is); (case bc_NotDiagram => k_is)
    (case tc_NotDiagram => k_is); (case n_TooLarge => k_is); (case x_TooLarge => k_exc); (case kc_TooLarge => k_is); (case bc_TooLarge => k_is); (case tc_TooLarge => k_is); (case n_MOST_ON_A_SIDE => k_is); (case n_MOST_POINTS => k_is)
    (case n_MOST_COLOURS => k_is); (case n_MOST_ENTRIES => k_is); (case n_WorthError => k_is); (case ebc => k_is); (case ehd => k_is); (case ety => k_is); (case hn_cls => k_is); (case ht_cls => k_is)
    (case n_NotWorld => k_is); (case n_NotFamily => k_is); (case n_NotNumber => k_is); (case n_NotWord => k_is); (case n_NotMatrix => k_is); (case n_NoAnswer => k_is); (case n_Malformed => k_is); (case hg_NotDiagram => k_is)
    (case hk_NotDiagram => k_is); (case hd_NotDiagram => k_is); (case ha_NotDiagram => k_is); (case hm_NotDiagram => k_is); (case sE_NotDiagram => k_is); (case tE_NotDiagram => kit_is); (case t_NotDiagram_NotWorld => kit_is); (case t_NotDiagram_NotFamily => kit_is)
    (case t_NotDiagram_NotDiagram => kit_is); (case t_NotDiagram_NotNumber => kit_is); (case t_NotDiagram_NotWord => kit_is); (case t_NotDiagram_NotMatrix => kit_is); (case t_NotDiagram_BadNumber => kit_is); (case t_NotDiagram_NoAnswer => kit_is); (case t_NotDiagram_TooLarge => kit_is); (case t_NotDiagram_Malformed => kit_is)
    (case hg_BadNumber => k_is); (case hk_BadNumber => k_is); (case hd_BadNumber => k_is); (case ha_BadNumber => k_is); (case hm_BadNumber => k_is); (case sE_BadNumber => k_is); (case tE_BadNumber => kit_is); (case t_BadNumber_NotWorld => kit_is)
    (case t_BadNumber_NotFamily => kit_is); (case t_BadNumber_NotDiagram => kit_is); (case t_BadNumber_NotNumber => kit_is); (case t_BadNumber_NotWord => kit_is); (case t_BadNumber_NotMatrix => kit_is); (case t_BadNumber_BadNumber => kit_is); (case t_BadNumber_NoAnswer => kit_is); (case t_BadNumber_TooLarge => kit_is)
    (case t_BadNumber_Malformed => kit_is); (case hg_TooLarge => k_is); (case hk_TooLarge => k_is); (case hd_TooLarge => k_is); (case ha_TooLarge => k_is); (case hm_TooLarge => k_is); (case sE_TooLarge => k_is); (case tE_TooLarge => kit_is)
    (case t_TooLarge_NotWorld => kit_is); (case t_TooLarge_NotFamily => kit_is); (case t_TooLarge_NotDiagram => kit_is); (case t_TooLarge_NotNumber => kit_is); (case t_TooLarge_NotWord => kit_is); (case t_TooLarge_NotMatrix => kit_is); (case t_TooLarge_BadNumber => kit_is); (case t_TooLarge_NoAnswer => kit_is)
    (case t_TooLarge_TooLarge => kit_is); (case t_TooLarge_Malformed => kit_is)
