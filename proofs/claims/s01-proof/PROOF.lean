import PyProof.Rows.All
import Wide.All
import OpenK.AllK
import Wide.FinOn
import PyProof.EqAt
import PyProof.EqKinds
import PyProof.TupleCall
import KE.BitLaws
import PyProof.StationsW
import PyProof.InstStoreFacts
import PyProof.InstLoad
import PyProof.ExcAttrAll.Exception
import PyProof.ExcClass
import PyProof.ExcInit
import PyProof.RulesAs
import PyProof.ExcBaseAll.Exception
import KE.KDictList
import Open.SpecLaws
import KE.OsHead
import KE.OsGo
import PyProof.Rows.SeqMore3
import KE.IntTextLaws
import Open.Tops
import PySem.Challenge.RW_tideports_s01_answers
set_option Elab.async false
set_option linter.all false
set_option maxRecDepth 100000
set_option maxHeartbeats 2000000
namespace HB
open PySem PySem.W PySem.Calls PyProof.Rows
noncomputable section
def fL{α β:Type}(l:List α):(List α→β)→β:= @List.rec α (fun _=>(List α→β)→β) (fun k=>k []) (fun x _ ih k=>ih fun ys=>k (x::ys)) l
theorem fL_eq{α β:Type}: ∀(l:List α) (k:List α→β),fL l k=k l
 | [],_=>rfl
 | x::l,k=>fL_eq l fun ys=>k (x::ys)
def tQ(a b:Thread→Bool)(st:SharedT→Thread→Option (SharedT×Thread))(n:Nat):SharedT→Thread→Option SharedT:=
 @Nat.rec (fun _=>SharedT→Thread→Option SharedT) (fun _ _=>none) (fun _ ih s t=>match a t with
  | true=>some s
  | false=>match b t with
   | false=>none
   | true=>match st s t with
    | some (s,t)=>ih s t
    | none=>none) n
theorem tQ_of{tb:String→Option Builtin}{p:Program}{w:World}{m:Nat}{ann:Option Value}: ∀(n:Nat) (s:SharedT) (t:Thread) (s':SharedT),tQ through (stepOk m ann) (stepT (denote tb) p w) n s t=some s'→topRun tb p w m ann n s.abs t=some s'.abs
 | 0,_,_,_,h=>by cases h
 | n + 1,s,t,s',h=>by
  have h':(match through t with | true=>some s | false=>match stepOk m ann t with | false=>none | true=>match stepT (denote tb) p w s t with | some (s,t)=>tQ through (stepOk m ann) (stepT (denote tb) p w) n s t | none=>none)=some s':=h
  unfold topRun
  cases a:through t with
  | true=>rw [a] at h';cases h';rfl
  | false=>
   rw [a] at h'
   cases b:stepOk m ann t with
   | false=>rw [b] at h';cases h'
   | true=>
    rw [b] at h'
    cases c:stepT (denote tb) p w s t with
    | none=>rw [c] at h';cases h'
    | some x=>
     obtain ⟨s1,t1⟩:=x
     rw [c] at h'
     rw [stepT_spec c]
     exact tQ_of n s1 t1 s' h'
def Q3{β:Type}(x:Option SharedT)(k:SharedT→β):Option β:=match x with
 | some s=>some (k s)
 | none=>none
def mg(g:Nat→Obj)(n:Nat):Nat→Frag→List Obj:=
 @Nat.rec (fun _=>Nat→Frag→List Obj) (fun _ _=> []) (fun _ ih i K=>match K with
  | []=>g i::ih (Nat.succ i) []
  | x::r=>match Nat.beq x.1 i with
   | true=>x.2::ih (Nat.succ i) r
   | false=>g i::ih (Nat.succ i) (x::r)) n
theorem mg_eq{g:Nat→Obj}: ∀(n i:Nat) (K:Frag),(∀x ∈ K,x.2=g x.1)→mg g n i K=(List.range' i n).map g
 | 0,_,_,_=>rfl
 | n + 1,i,[],h=>congrArg (g i:: ·) (mg_eq n (i + 1) [] h)
 | n + 1,i,x::r,h=>by
  show (match Nat.beq x.1 i with | true=>x.2::mg g n (i + 1) r | false=>g i::mg g n (i + 1) (x::r))=g i::(List.range' (i + 1) n).map g
  cases e:Nat.beq x.1 i with
  | true=>
   have e':=Nat.eq_of_beq_eq_true e
   show x.2::mg g n (i + 1) r=_
   rw [mg_eq n (i + 1) r fun y hy=>h y (List.mem_cons_of_mem _ hy),h x (List.mem_cons_self ..),e']
  | false=>exact congrArg (g i:: ·) (mg_eq n (i + 1) (x::r) h)
def T0(P:Params):BT:=(boot_heap P).objs.toList.zipIdx.foldl (fun t x=>t.ins x.2 x.1) .nil
def S0(w:World)(os:OsState):SharedT:=⟨T0 w.params,11,(boot_heap w.params).life,Array.mk [],boot_drawn,boot_toks,os⟩
theorem s0(w:World)(os:OsState):(S0 w os).abs=⟨boot_heap w.params,Array.mk [],boot_drawn,boot_toks,os⟩:=by kernel_rfl
theorem sz(P:Params):((boot_heap P).isNs mainGlobals && (#[]:Array GenState).size == 0,(boot_heap P).objs.size,(boot_heap P).nsMap mainGlobals "__annotations__")=(true,11,some (.ref 6)):=by kernel_rfl
def L(K:Params→Frag)(P:Params)(s:SharedT):=((K P).map fun x=>s.tree.get x.1,s.n,s.life,s.gens,s.drawn,s.toks)
def LG(K:Params→Frag)(P:Params):List (Option Obj)×Nat×Life×Array GenState×Drawn×Nat:=((K P).map fun x=>some x.2,729,(boot_heap P).life,Array.mk [],{},1375)
def st(K:Params→Frag)(g:Nat→Obj){β:Type}(P:Params)(os:OsState)(k:Shared→β):β:=fL (mg g 729 0 (K P)) fun l=>k ⟨⟨⟨l⟩,(boot_heap P).life⟩,Array.mk [],{},1375,os⟩
abbrev run(p:Program)(w:World)(os:OsState):Option SharedT:=tQ through (stepOk 11 (some (.ref 6))) (stepT (denote treeTable) p w) 5700 (S0 w os) (topStub p)
theorem left {p q:Program} {lo:List Str} {Xt:Shared→Bool} {α:Type} {Yf:Shared→α} {Ya:World→α} {K:Params→Frag}
  (op: ∀w:World,(fencedOpening treeTable p w 5700).map (fun s=>(s.heap,s.gens,s.drawn,s.toks))=some (boot_heap w.params,Array.mk [],boot_drawn,boot_toks))
  (hr: ∀w os,Q3 (run p w os) (L K w.params)=some (LG K w.params))
  (ht: ∀w os,Q3 (run p w os) (fun s=>tabsOk q s.abs)=some true)
  (k0: ∀g P os,st K g P os (fun s=>staticsOk (importedModules p.main.body) (boot_heap P) s.heap && namesBound p s.heap && gensDone s && laidKept (boot_heap P) s.heap)=true)
  (k1: ∀g P os,st K g P os (fun s=>seen ((recsOf q).map (·.name)) (ownsOf q) [] {s with gens:= #[]})=expectedOf q)
  (k2: ∀g P os,st K g P os (fun s=>s.heap.bltView)=bltViewBooted)
  (k3: ∀g P os,st K g P os (fun s=>s.heap.keysOk (looseW q lo) ((recsOf q).map (·.name)) ((litsOf q).map (·.1)) ((clssOf q (looseW q lo)).map (·.name)))=true)
  (k4: ∀g P os,st K g P os (fun s=>s.heap.accountedOkI (importedModules p.main.body))=true)
  (k5: ∀g P os,st K g P os (fun s=>s.heap.isNs mainGlobals && s.heap.isNs builtinsNs && tablesOk q s.heap)=true)
  (k6: ∀g P os,st K g P os (fun s=>Xt s && s.gens.size == 0)=true)
  (k8: ∀g P os,st K g P os (fun s=>pinSeenD q (drecsOf q) s)=pinGoodD (drecsOf q))
  (k9: ∀g P os,st K g P os (fun s=>plainSeenE q (looseW q lo) s)=plainGoodE q (looseW q lo))
  (k10: ∀g P os,st K g P os (fun s=>plainSeenD q lo s)=plainGoodD q lo)
  (k11: ∀g P os,st K g P os (fun s=>wideSeen q s)=wideGood q)
  (k12: ∀g P os,st K g P os (fun s=>clsSeenW q lo s)=clsGoodW q lo)
  (k13: ∀g (w:World) os,st K g w.params os Yf=Ya w):LeftO p q lo Xt Yf Ya 5700:=fun w=>by
 obtain ⟨⟨h,gs,d,k,os⟩,e,e'⟩:=Option.map_eq_some_iff.mp (op w)
 obtain ⟨rfl,rfl,rfl,rfl⟩:h=boot_heap w.params∧gs=Array.mk []∧d=boot_drawn∧k=boot_toks:=by simpa using e'
 obtain ⟨z1,z2,z3⟩:_∧_∧_:=by simpa only [Prod.mk.injEq] using sz w.params
 obtain ⟨s,hs⟩: ∃s,run p w os=some s:=by
  have:=hr w os
  cases h:run p w os with
  | none=>rw [h] at this;cases this
  | some s=>exact ⟨s,rfl⟩
 have a1:=hr w os
 have a2:=ht w os
 rw [hs] at a1 a2
 have a2:tabsOk q s.abs=true:=Option.some.inj a2
 have a1:L K w.params s=LG K w.params:=Option.some.inj a1
 have r:=tQ_of _ _ _ _ hs
 rw [s0] at r
 obtain ⟨t,n,life,gs,d,k,o⟩:=s
 obtain ⟨b1,b2,b3,b4,b5,b6⟩:((K w.params).map fun x=>t.get x.1)=((K w.params).map fun x=>some x.2)∧n=729∧life=(boot_heap w.params).life∧gs=Array.mk []∧d= {}∧k=1375:=by
  simpa only [L,LG,Prod.mk.injEq] using a1
 subst b2 b3 b4 b5 b6
 have hm:mg (fun i=>(t.get i).getD default) 729 0 (K w.params)=t.list 729:=by
  rw [mg_eq 729 0 (K w.params) fun x hx=>by rw [List.map_inj_left.mp b1 x hx];rfl]
  unfold BT.list
  rw [List.range_eq_range']
 have hst: ∀ {β:Type} (f:Shared→β),st K (fun i=>(t.get i).getD default) w.params o f=f (SharedT.abs ⟨t,729,(boot_heap w.params).life,Array.mk [],{},1375,o⟩):=by
  intro β f
  unfold st
  rw [fL_eq,hm]
  rfl
 have c0:=(hst _).symm.trans (k0 (fun i=>(t.get i).getD default) w.params o)
 have c1:=(hst _).symm.trans (k1 (fun i=>(t.get i).getD default) w.params o)
 have c2:=(hst _).symm.trans (k2 (fun i=>(t.get i).getD default) w.params o)
 have c3:=(hst _).symm.trans (k3 (fun i=>(t.get i).getD default) w.params o)
 have c4:=(hst _).symm.trans (k4 (fun i=>(t.get i).getD default) w.params o)
 have c5:=(hst _).symm.trans (k5 (fun i=>(t.get i).getD default) w.params o)
 have c6:=(hst _).symm.trans (k6 (fun i=>(t.get i).getD default) w.params o)
 have c8:=(hst _).symm.trans (k8 (fun i=>(t.get i).getD default) w.params o)
 have c9:=(hst _).symm.trans (k9 (fun i=>(t.get i).getD default) w.params o)
 have c10:=(hst _).symm.trans (k10 (fun i=>(t.get i).getD default) w.params o)
 have c11:=(hst _).symm.trans (k11 (fun i=>(t.get i).getD default) w.params o)
 have c12:=(hst _).symm.trans (k12 (fun i=>(t.get i).getD default) w.params o)
 have c13:=(hst _).symm.trans (k13 (fun i=>(t.get i).getD default) w o)
 generalize SharedT.abs ⟨t,729,(boot_heap w.params).life,Array.mk [],{},1375,o⟩=s1 at *
 have tf:topFrom treeTable p w 5700 ⟨boot_heap w.params,Array.mk [],boot_drawn,boot_toks,os⟩=some s1:=by
  unfold topFrom
  dsimp only
  rw [z1,z2,z3,r]
  show (match staticsOk (importedModules p.main.body) (boot_heap w.params) s1.heap && namesBound p s1.heap && gensDone s1 && laidKept (boot_heap w.params) s1.heap with | true=>some s1 | false=>none)=_
  rw [c0]
 unfold openEnds
 rw [e]
 show (topFrom _ _ _ _ _).map _=_
 rw [tf]
 refine congrArg some (Prod.ext ?_ c13)
 simp only [Bool.and_eq_true] at c5 c6
 refine Prod.ext c1 (Prod.ext c2 (Prod.ext ?_ (Prod.ext a2 (Prod.ext c8 (Prod.ext c9 (Prod.ext c10 (Prod.ext c11 c12)))))))
 show (s1.heap.keysOk _ _ _ _ && s1.heap.accountedOkI _ && s1.heap.isNs mainGlobals && s1.heap.isNs builtinsNs && tablesOk q s1.heap && Xt s1 && _)=true
 rw [c3,c4,c5.1.1,c5.1.2,c5.2,c6.1]
 exact c6.2
end
end HB
section
open PySem PySem.W PySem.Calls PyProof.Rows
set_option maxHeartbeats 0
noncomputable def HB.q:Program:=view PySem.Challenge.rw_tideports_s01_answers.prog ((List.range 151).filter fun i=>![0,5,12,22,24,28,55,68,85,101,111].contains i)
def HB.lo:List Str:= [Str.ofString "read_lines_port",Str.ofString "read_wave_port",Str.ofString "read_lines_skytext",Str.ofString "read_wave_skytext"]
theorem HB.hz {r:OpenSpec} {q:Program} {loose:List Str} {Xt:Shared→Bool} {XP:(Str→Option Value)→Heap→Prop} {H:Hook} {d:DefRec} {kwd:List (Str×Expr)} {N:Nat}
  (hX: ∀s,Xt s=true→XP (s.heap.nsMap mainGlobals) s.heap) (hXk: ∀mg h h',XP mg h→(∀b o,h.get? b=some o→h'.get? b=some o)→XP mg h')
  (hdef:defOf q r.name=some (d,kwd)) (hp:r.prog.theDef r.name=some (d.params,d.body,d.scope)) (hk:kwWritten? d.params.kwonlyargs d.params.kw_defaults=some kwd) (hRf: ∀s,Xt s=true→RecFacts [] s.heap) (hsh: ∀as,r.pre as=true→WShape.hasAll [] as (r.args.map Codec.shape)=true)
  (k1:r.wellSaid=true) (ok:(chainsOk q && opensWell r.prog)=true) (hb:r.prog.bare) (hw: ∃args,r.pre args=true∧WData.layableAll args=true)
  (hc:LeftO r.prog q loose Xt (Hook.obs H) (Hook.val H) N∧WalkOS q loose XP (Hook.says H) r d kwd fun f vs=>PySem.call f vs):r.Holds:=
 holds_os hc.1 (Hook.of H) (Hook.keeps H) hX hXk hdef hp hk hRf hsh k1 ok hb hw hc.2
local macro_rules | `(tactic| o_law) => `(tactic| skip)
local macro_rules | `(tactic| k_head) => `(tactic| k_headS)
local macro_rules | `(tactic| o_headS $H) => `(tactic| refine HB.hz (q := HB.q) (loose := HB.lo) (Xt := fun s => xlAt HB.q [] s && recOk [] s) (XP := XL HB.q []) (H := $H) (N := 5700) (fun s e => xl_of s (Bool.and_eq_true_iff.mp e).1) XL.keeps (by rfl) (by rfl) (by rfl) (fun s e => recFacts_of (Bool.and_eq_true_iff.mp e).2) os_shapes (by decide +kernel) (by decide +kernel) ⟨rfl, rfl, rfl, rfl, rfl, by decide +kernel⟩ ?hw ?hc)
local macro_rules | `(tactic| w_witness2) => `(tactic| exact ⟨[.list [.int 3]], by decide +kernel, by decide +kernel⟩)
open_top tpH for PySem.Challenge.rw_tideports_s01_answers
end
namespace HB
open PySem PySem.W PySem.Calls PyProof.Rows
noncomputable def K (P:Params):Frag:=(0,boot_o_0 P)::(1,boot_o_1 P)::((tpH.heap_1 P).take 2++(4,boot_o_4 P)::(5,boot_o_5 P)::(6,boot_o_6 P)::(7,boot_o_7 P)::(8,boot_o_8 P)::(9,boot_o_9 P)::(10,boot_o_10 P)::(tpH.heap_1 P).drop 2)
abbrev p:=PySem.Challenge.rw_tideports_s01_answers.prog
theorem hr: ∀w os,Q3 (run p w os) (L K w.params)=some (LG K w.params):=by
 intro w os
 show Q3 (tQ through (stepOk 11 (some (.ref 6))) (stepT (denote treeTable) p w) 5700 (S0 w os) (topStub p)) _=_
 rewrite [Fast.te10156331382660048174,Fast.te11892475500146522536,Fast.te6613529449190102663,Fast.te14364793385576792824]
 kernel_rfl
theorem ht: ∀w os,Q3 (run p w os) (fun s=>tabsOk q s.abs)=some true:=by
 intro w os
 show Q3 (tQ through (stepOk 11 (some (.ref 6))) (stepT (denote treeTable) p w) 5700 (S0 w os) (topStub p)) _=_
 rewrite [Fast.te10156331382660048174,Fast.te11892475500146522536,Fast.te6613529449190102663,Fast.te14364793385576792824,Fast.te479339242167458305]
 kernel_rfl
theorem k0: ∀g P os,st K g P os (fun s=>staticsOk (importedModules p.main.body) (boot_heap P) s.heap && namesBound p s.heap && gensDone s && laidKept (boot_heap P) s.heap)=true:=by
 intro g P os;rewrite [Fast.te5923862056798008813];kernel_rfl
theorem k1: ∀g P os,st K g P os (fun s=>seen ((recsOf q).map (·.name)) (ownsOf q) [] {s with gens:= #[]})=expectedOf q:=by
 intro g P os;rewrite [Fast.te5160383126252970620,Fast.te3399658132070893891,Fast.te5991557255702980513];kernel_rfl
theorem k2: ∀g P os,st K g P os (fun s=>s.heap.bltView)=bltViewBooted:=by intro g P os;kernel_rfl
theorem k3: ∀g P os,st K g P os (fun s=>s.heap.keysOk (looseW q lo) ((recsOf q).map (·.name)) ((litsOf q).map (·.1)) ((clssOf q (looseW q lo)).map (·.name)))=true:=by
 intro g P os;rewrite [Fast.te10880121769531294198,Fast.te821141287760084731,Fast.te3399658132070893891,Fast.te7409074990110511671,Fast.te13664370479719496447];kernel_rfl
theorem k4: ∀g P os,st K g P os (fun s=>s.heap.accountedOkI (importedModules p.main.body))=true:=by
 intro g P os;rewrite [Fast.te14722251495701143533,Fast.te5923862056798008813];kernel_rfl
theorem k5: ∀g P os,st K g P os (fun s=>s.heap.isNs mainGlobals && s.heap.isNs builtinsNs && tablesOk q s.heap)=true:=by
 intro g P os;rewrite [Fast.te10994771534591457954];kernel_rfl
theorem k6: ∀g P os,st K g P os (fun s=>(xlAt q [] s && recOk [] s) && s.gens.size == 0)=true:=by
 intro g P os;kernel_rfl
theorem k8: ∀g P os,st K g P os (fun s=>pinSeenD q (drecsOf q) s)=pinGoodD (drecsOf q):=by
 intro g P os;rewrite [Fast.te16090120013241838585,Fast.te3247288618530077131];kernel_rfl
theorem k9: ∀g P os,st K g P os (fun s=>plainSeenE q (looseW q lo) s)=plainGoodE q (looseW q lo):=by
 intro g P os;rewrite [Fast.te2386780881361962483,Fast.te821141287760084731];kernel_rfl
theorem k10: ∀g P os,st K g P os (fun s=>plainSeenD q lo s)=plainGoodD q lo:=by
 intro g P os;rewrite [Fast.te11698064438423848299];kernel_rfl
theorem k11: ∀g P os,st K g P os (fun s=>wideSeen q s)=wideGood q:=by
 intro g P os;rewrite [Fast.te7317090234206586261];kernel_rfl
theorem k12: ∀g P os,st K g P os (fun s=>clsSeenW q lo s)=clsGoodW q lo:=by
 intro g P os;rewrite [Fast.te7369524293546568484];kernel_rfl
end HB

section
open Lean in
local macro_rules(kind:=Lean.Parser.Command.declaration)|s=>do
 let d:=s[1]
 let n:=d.isOfKind ``Parser.Command.definition||d.isOfKind ``Parser.Command.abbrev
 if d[0].getPos?.isNone||!(n||d.isOfKind ``Parser.Command.theorem) then Macro.throwUnsupported
 let s:=s.setArg 1 (d.setArg 0 (mkAtom d[0].getAtomVal))
 return if n then s.modifyArg 0 (·.setArg 4 (mkNullNode #[mkNode ``Parser.Command.noncomputable #[mkAtom "noncomputable"]])) else s
abbrev YH:=@List.length_append
abbrev YI:=@List.length_map
abbrev YJ:=@decide_eq_false
abbrev YK:=@List.mem_cons_of_mem
abbrev YL:=@List.getElem?_eq_some_iff
abbrev YM:=@Nat.le_refl
abbrev YN:=@List.mem_cons_self
abbrev YO:=@List.mem_singleton
abbrev YQ:=@decide_eq_true
abbrev YR:=@List.mem_cons
abbrev YS:=@List.map_cons
abbrev YT:=@List.map_append
abbrev YU:=@List.length_cons
abbrev YV:=@Nat.lt_of_lt_of_le
abbrev YW:=@Nat.zero_le
abbrev YX:=@List.take_add_one
abbrev YY:=@beq_eq_false_iff_ne
abbrev YZ:=@Bool.false_ne_true
abbrev Y0:=@List.append_nil
abbrev Y3:=@List.append_assoc
abbrev Y4:=@Nat.le_trans
abbrev Y5:=@List.size_toArray
abbrev Y6:=@List.getElem?_map
abbrev Y7:=@List.mem_of_getElem?
abbrev Y8:=@List.take_length
abbrev Y9:=@List.getElem?_eq_getElem
abbrev Y_:=@Bool.and_eq_true
abbrev Za:=@List.mem_append_right
abbrev Zb:=@List.mem_append
abbrev Zc:=@of_decide_eq_true
abbrev Zd:=@List.length_take
abbrev Ze:=@List.mem_map_of_mem
abbrev Zf:=@List.mem_map
abbrev Zg:=@List.mem_of_mem_take
abbrev Zh:=@List.find?_cons
abbrev Zi:=@List.mem_append_left
abbrev Zj:=@List.findIdx?_eq_none_iff
abbrev Zk:=@List.length_filter_le
abbrev Zl:=@Nat.lt_of_le_of_lt
abbrev Zm:=@Array.getElem?_toList
abbrev Zn:=@List.mem_of_find?_eq_some
abbrev Zo:=@List.drop_eq_getElem_cons
abbrev Zp:=@List.mem_filter
abbrev Zq:=@Int.natAbs_natCast
abbrev Zr:=@List.take_append_drop
abbrev Zs:=@List.mem_iff_getElem?
abbrev Zt:=@beq_self_eq_true
abbrev Zu:=@Nat.pow_le_pow_right
namespace L2
open PySem PySem.Spec PyProof.Rows
abbrev Key:=Sum Int Str
def IT:Key->Value->Bool
 | .inl k,v=>Value.isInt k v
 | .inr x,v=>Value.isStrOf x v
def Yj(w:World):Key->Int
 | .inl k=>hashInt k
 | .inr x=>hashStr w x
theorem iw: ∀ {k:Key} {v:Value},IT k v=true->(∃i t,k=Sum.inl i/\v=Value.int i t)\/(∃x t,k=Sum.inr x/\v=Value.str x t)
 | .inl i,v,h=>by
  obtain ⟨t,e⟩:=Value.isInt_shape (k:=i) (v:=v) h
  exact .inl ⟨i,t,rfl,e⟩
 | .inr x,v,h=>by
  obtain ⟨t,e⟩:=Value.isStrOf_shape (x:=x) (v:=v) h
  exact .inr ⟨x,t,rfl,e⟩
theorem PU(i:Int)(t:Tok):IT (.inl i) (.int i t)=true:=by simp [IT,Value.isInt]
theorem PX(x:Str)(t:Tok):IT (.inr x) (.str x t)=true:=by simp [IT,Value.isStrOf]
theorem VQ(a b:Int):decide ((Sum.inl a:Key)=Sum.inl b)=(a == b):=by
 by_cases e:a=b
 ·subst e;simp
 ·have h: ¬(Sum.inl a:Key)=Sum.inl b:=fun q=>e (Sum.inl.inj q)
  rw [YJ h]
  exact (YY.mpr e).symm
theorem Vr(a b:Str):decide ((Sum.inr a:Key)=Sum.inr b)=decide (a=b):=by
 by_cases e:a=b
 ·subst e;simp
 ·have h: ¬(Sum.inr a:Key)=Sum.inr b:=fun q=>e (Sum.inr.inj q)
  rw [YJ h,YJ e]
theorem Vq(a:Int)(b:Str):decide ((Sum.inl a:Key)=Sum.inr b)=false:=YJ (fun q=>nomatch q)
theorem Wl(a:Str)(b:Int):decide ((Sum.inr a:Key)=Sum.inl b)=false:=YJ (fun q=>nomatch q)
def fU(prog:Program)(w:World):PySem.KeyKind prog w Key where
 is:=IT
 hash:=Yj w
 inj:=fun v a b ha hb=>by
  rcases iw ha with ⟨i,t,rfl,rfl⟩ | ⟨x,t,rfl,rfl⟩
  ·rcases iw hb with ⟨j,u,rfl,e⟩ | ⟨y,u,rfl,e⟩
   ·injection e with e1 _;rw [e1]
   ·exact nomatch e
  ·rcases iw hb with ⟨j,u,rfl,e⟩ | ⟨y,u,rfl,e⟩
   ·exact nomatch e
   ·injection e with e1 _;rw [e1]
 byValue:=fun k v h=>by
  rcases iw h with ⟨i,t,rfl,rfl⟩ | ⟨x,t,rfl,rfl⟩ <;> rfl
 pyHash:=fun hv h=>by
  rcases iw hv with ⟨i,t,rfl,rfl⟩ | ⟨x,t,rfl,rfl⟩
  ·exact wpAny_pyHash_int h
  ·exact wpAny_pyHash_str h
 eqBool:=fun hu hv h=>by
  rcases iw hu with ⟨i,t,rfl,rfl⟩ | ⟨x,t,rfl,rfl⟩
  ·rcases iw hv with ⟨j,u,rfl,rfl⟩ | ⟨y,u,rfl,rfl⟩
   ·rw [VQ] at h;exact wpAny_eqBool_int h
   ·rw [Vq] at h;exact SeqAt.EqAt.int_str i t y u _ _ _ _ h
  ·rcases iw hv with ⟨j,u,rfl,rfl⟩ | ⟨y,u,rfl,rfl⟩
   ·rw [Wl] at h;exact SeqAt.EqAt.str_int x t j u _ _ _ _ h
   ·rw [Vr] at h;exact wpAny_eqBool_str h
 «strs» :=fun k x t v h=>by
  rcases iw h with ⟨i,u,rfl,e⟩ | ⟨y,u,rfl,e⟩
  ·exact nomatch e
  ·injection e with e1 _
   subst e1
   cases v <;> rfl
theorem Mb(prog:Program)(w:World)(i:Int)(t:Tok):(fU prog w).is (.inl i) (.int i t)=true:=PU i t
theorem Lf(prog:Program)(w:World)(x:Str)(t:Tok):(fU prog w).is (.inr x) (.str x t)=true:=PX x t
end L2
namespace L2
open PySem PySem.Spec PyProof.Rows
inductive V where
 | dh | bl (b:Bool) | int (i:Int) | str (x:Str) | K9 (b:Array UInt8) | GY (b:UInt64) | ref (a:Addr) | ty (n:String)
 deriving DecidableEq
def RelV:V->Value->Prop
 | .dh,u=>u=Value.none
 | .bl b,u=>u=Value.bool b
 | .int i,u=> ∃t,u=Value.int i t
 | .str x,u=> ∃t,u=Value.str x t
 | .K9 b,u=> ∃t,u=Value.bytes b t
 | .GY b,u=> ∃t,u=Value.float b t
 | .ref a,u=>u=Value.ref a
 | .ty n,u=>u=Value.type n
abbrev Vals:List V->List Value->Prop:=Paired RelV
theorem Vals.length{xs:List V}{us:List Value}(r:Vals xs us):xs.length=us.length:=Paired.length r
theorem Vals.get: ∀ {xs:List V} {us:List Value} {i:Nat} {x:V},Vals xs us->xs[i]?=some x-> ∃u,us[i]?=some u/\RelV x u
 | _,_,_,_,.nil,e=>by simp at e
 | _,_,0,_,.cons r _,e=>by simp at e;subst e;exact ⟨_,rfl,r⟩
 | _,_,i + 1,x,.cons _ t,e=>by
  obtain ⟨u,h1,h2⟩:=Vals.get (i:=i) (x:=x) t (by simpa using e)
  exact ⟨u,by simpa using h1,h2⟩
theorem Vals.append: ∀ {xs ys:List V} {us ws:List Value},Vals xs us->Vals ys ws->Vals (xs++ys) (us++ws)
 | _,_,_,_,.nil,s=>s
 | _,_,_,_,.cons r t,s=> .cons r (Vals.append t s)
theorem Vals.take: ∀ {xs:List V} {us:List Value} (n:Nat),Vals xs us->Vals (xs.take n) (us.take n)
 | _,_,0,_=> .nil
 | _,_,_ + 1,.nil=> .nil
 | _,_,n + 1,.cons r t=> .cons r (Vals.take n t)
theorem Vals.drop: ∀ {xs:List V} {us:List Value} (n:Nat),Vals xs us->Vals (xs.drop n) (us.drop n)
 | _,_,0,r=>r
 | _,_,_ + 1,.nil=> .nil
 | _,_,n + 1,.cons _ t=>Vals.drop n t
def sZ:Option V->Option Value->Prop
 | some v,some u=>RelV v u
 | none,none=>True
 | _,_=>False
def KV{κ:Type}:List (κ×V)->List (κ×Value)->Prop:=Paired fun (p:κ×V) (q:κ×Value)=>p.1=q.1/\RelV p.2 q.2
def kV:Key->V
 | .inl i=> .int i
 | .inr x=> .str x
inductive HO where
 | lst (xs:List V)
 | tup (xs:List V)
 | dK (kvs:List (Key×V)) | dT (kvs:List (List Key×V))
 | set (S:Int->Bool) (n:Nat)
 | ins (C dx:Addr) (fs:List (Str×V))
 | own (x:Addr)
 | xd (fs:List (Str×V))
 | met (f x:Addr)
 | Xq (lo hi:Int)
 | GZ (o:Obj) (u:HO)
 | Tt (ps:Array Value)
 | ext (φ:Heap->Prop)
abbrev Hp:=Addr->Option HO
def upd(H:Hp)(a:Addr)(o:HO):Hp:=fun b=>if b=a then some o else H b
theorem af{H:Hp}{a:Addr}{o:HO}:upd H a o a=some o:=by unfold upd;rw [if_pos rfl]
theorem ak{H:Hp}{a b:Addr}{o:HO}(h:b≠a):upd H a o b=H b:=by unfold upd;rw [if_neg h]
theorem b8{H:Hp}{a:Addr}{o u:HO}:upd (upd H a o) a u=upd H a u:=by
 funext b;unfold upd;split <;> rfl
theorem yX{H:Hp}{a b:Addr}{o u:HO}(h:H a=some o)(h':H b=some u)(d:o≠u):a≠b:=by
 intro e;subst e;rw [h] at h';exact d (Option.some.inj h')
theorem ao{H:Hp}{a b:Addr}{o:HO}(h:H a=some o)(h':H b=none):a≠b:=by
 intro e;subst e;rw [h] at h';cases h'
section
variable (P:Program) (w:World)
def gV(H:Hp)(h:Heap)(a:Addr):HO->Prop
 | .lst xs=>xs.length<=sizeLine/\ ∃(its:List Value) (n:Nat),Vals xs its/\h.get? a=some {cls:= .type "list",data:= .seq its.toArray n}
 | .tup xs=>xs.length<=sizeLine/\ ∃its:List Value,Vals xs its/\IsTup h a its.toArray
 | .dK kvs=>kvs.length<=sizeLine/\(a == sysModules)=false/\ ∃vs,KV kvs vs/\h.DictOf (fU P w) a vs
 | .dT kvs=>kvs.length<=sizeLine/\(a == sysModules)=false/\ ∃xs:List (List Key×Addr×Value),
   Paired (fun (p:List Key×V) (q:List Key×Addr×Value)=>p.1=q.1/\H q.2.1=some (.tup (p.1.map kV))/\RelV p.2 q.2.2) kvs xs/\
   ∃o es ep,h.get? a=some o/\o.ExactDict/\o.data= .dict es ep/\es.toList=xs.map (entryOfKey (tupleKind (fU P w)))/\(xs.map (·.1)).Nodup
 | .set S n=>h.SetOf (intKind P w) a S n
 | .ins C dx fs=>H dx=some (.own a)/\fs.length<=1000/\dx≠a/\h.get? a=some (PySem.W.instObj C dx)/\
   ∃mA,h.Ns1 dx mA/\(∀f,sZ (fs.lookup f) (mA f))/\PySem.Within mA (fs.map (·.1))
 | .own _=> ∃o,h.get? a=some o
 | .xd fs=> ∃mA,h.Ns1 a mA/\ ∀f,sZ (fs.lookup f) (mA f)
 | .Xq lo hi=> ∃t u v,h.get? a=some {cls:= .type "range",data:= .fields #[.int lo t,.int hi u,.int 1 v]}
 | .GZ o u=>h.get? a=some o/\gV H h a u
 | .Tt ps=>h.get? a=some {cls:= .none,data:= .fields ps}
 | .met f x=>h.get? a=some (PySem.W.methodObj (.ref f) (.ref x))
 | .ext φ=>φ h/\(∃o,h.get? a=some o)/\ ∀h1 h2:Heap,φ h1->(∀o,h1.get? a=some o->h2.get? a=some o)->φ h2
def vI(H:Hp)(h:Heap):Prop:= ∀a o,H a=some o->gV P w H h a o
end
section
variable {P:Program} {w:World} {H H':Hp} {h h':Heap} {a:Addr} {o:HO}
theorem gV.lt(x:gV P w H h a o):a < h.objs.size:=by
 cases o with
 | lst xs=>obtain ⟨_,_,_,_,e⟩:=x;exact Heap.lt_size e
 | tup xs=>obtain ⟨_,_,_,p⟩:=x;exact p.lt
 | dK kvs=>obtain ⟨_,_,_,_,o,_,_,e,_⟩:=x;exact Heap.lt_size e
 | dT kvs=>obtain ⟨_,_,_,_,o,_,_,e,_⟩:=x;exact Heap.lt_size e
 | set S n=>obtain ⟨o,_,_,_,e,_⟩:=x;exact Heap.lt_size e
 | ins C dx fs=>obtain ⟨_,_,_,e,_⟩:=x;exact Heap.lt_size e
 | own y=>obtain ⟨_,e⟩:=x;exact Heap.lt_size e
 | xd fs=>obtain ⟨_,⟨_,_,_,e,_⟩,_⟩:=x;exact Heap.lt_size e
 | Xq lo hi=>obtain ⟨_,_,_,e⟩:=x;exact Heap.lt_size e
 | GZ ob u=>obtain ⟨e,_⟩:=x;exact Heap.lt_size e
 | Tt ps=>exact Heap.lt_size (show h.get? a=some _ from x)
 | met f y=>exact Heap.lt_size (show h.get? a=some _ from x)
 | ext φ=>obtain ⟨_,⟨_,e⟩,_⟩:=x;exact Heap.lt_size e
theorem Paired.Wh{α β:Type}{F G:α->β->Prop}: ∀ {l₁:List α} {l₂:List β},Paired F l₁ l₂->(∀a b,F a b->G a b)->Paired G l₁ l₂
 | _,_,.nil,_=> .nil
 | _,_,.cons r t,f=> .cons (f _ _ r) (Paired.Wh t f)
theorem gV.stay (x:gV P w H h a o) (k: ∀b u,(b=a\/H b=some (.own a))->h.get? b=some u->h'.get? b=some u)
  (ho: ∀b,H b=some (.own a)->H' b=some (.own a)) (ht: ∀b xs,H b=some (.tup xs)->H' b=some (.tup xs)):gV P w H' h' a o:=by
 induction o with
 | lst xs=>obtain ⟨z,its,n,r,e⟩:=x;exact ⟨z,its,n,r,k _ _ (.inl rfl) e⟩
 | tup xs=>obtain ⟨z,its,r,ob,e,c⟩:=x;exact ⟨z,its,r,ob,k _ _ (.inl rfl) e,c⟩
 | dK kvs=>obtain ⟨z,y,vs,r,ob,es,ep,e,c⟩:=x;exact ⟨z,y,vs,r,ob,es,ep,k _ _ (.inl rfl) e,c⟩
 | dT kvs=>
  obtain ⟨z,y,xs,r,ob,es,ep,e,c⟩:=x
  exact ⟨z,y,xs,Paired.Wh r fun p q z=>⟨z.1,ht _ _ z.2.1,z.2.2⟩,ob,es,ep,k _ _ (.inl rfl) e,c⟩
 | set S n=>obtain ⟨ob,es,ep,t,e,c⟩:=x;exact ⟨ob,es,ep,t,k _ _ (.inl rfl) e,c⟩
 | ins C dx fs=>
  obtain ⟨d,z,ne,e,mA,⟨od,es,ep,e2,c⟩,r⟩:=x
  exact ⟨ho _ d,z,ne,k _ _ (.inl rfl) e,mA,⟨od,es,ep,k _ _ (.inr d) e2,c⟩,r⟩
 | own y=>obtain ⟨ob,e⟩:=x;exact ⟨ob,k _ _ (.inl rfl) e⟩
 | xd fs=>obtain ⟨mA,⟨od,es,ep,e,c⟩,r⟩:=x;exact ⟨mA,⟨od,es,ep,k _ _ (.inl rfl) e,c⟩,r⟩
 | Xq lo hi=>obtain ⟨t,u,v,e⟩:=x;exact ⟨t,u,v,k _ _ (.inl rfl) e⟩
 | GZ ob u ih=>obtain ⟨e,q⟩:=x;exact ⟨k _ _ (.inl rfl) e,ih q⟩
 | Tt ps=>
  have e:h.get? a=some {cls:= .none,data:= .fields ps}:=x
  show h'.get? a=some {cls:= .none,data:= .fields ps}
  exact k a _ (.inl rfl) e
 | met f y=>
  have e:h.get? a=some (PySem.W.methodObj (.ref f) (.ref y)):=x
  show h'.get? a=some (PySem.W.methodObj (.ref f) (.ref y))
  exact k a _ (.inl rfl) e
 | ext φ=>obtain ⟨p,⟨o,e⟩,st⟩:=x;exact ⟨st _ _ p fun o q=>k _ _ (.inl rfl) q,⟨o,k _ _ (.inl rfl) e⟩,st⟩
theorem vI.lt(x:vI P w H h)(e:H a=some o):a < h.objs.size:=(x a o e).lt
theorem vI.fresh(x:vI P w H h)(e:h.objs.size<=a):H a=none:=by
 cases q:H a with
 | none=>rfl
 | some u=>exact absurd (YV (x.lt q) e) (Nat.lt_irrefl _)
theorem vI.kept(x:vI P w H h)(k: ∀b u,h.get? b=some u->h'.get? b=some u):vI P w H h':=fun a o e=>
 (x a o e).stay (fun b u _ q=>k b u q) (fun _ q=>q) fun _ _ q=>q
theorem vI.laid(x:vI P w H h)(k: ∀b u,h.get? b=some u->h'.get? b=some u)(hp:h.objs.size<=a)(new:gV P w (upd H a o) h' a o):vI P w (upd H a o) h':=fun b u e=>by
 have hn:=x.fresh hp
 by_cases hb:b=a
 ·subst hb;rw [af] at e;cases e;exact new
 ·rw [ak hb] at e
  exact (x b u e).stay (fun c v _ q=>k c v q) (fun c q=>by rw [ak (ao q hn)];exact q) fun c xs q=>by rw [ak (ao q hn)];exact q
end
def Rd(H:Hp)(a:Addr)(u:HO):Prop:=H a=some u\/ ∃o,H a=some (.GZ o u)
theorem Rd.ok{P:Program}{w:World}{H:Hp}{h:Heap}{a:Addr}{u:HO}(r:Rd H a u)(x:vI P w H h):gV P w H h a u:=by
 rcases r with r | ⟨o,r⟩
 ·exact x a u r
 ·obtain ⟨_,q⟩:=x a _ r
  exact q
def Xn:Option HO->Prop
 | some (.lst _)=>True
 | some (.dK _)=>True
 | some (.dT _)=>True
 | some (.set _ _)=>True
 | some (.ins _ _ _)=>True
 | some (.ext _)=>True
 | _=>False
section
variable {P:Program} {w:World} {H:Hp} {h h':Heap} {x e:Addr} {o':HO}
theorem vI.write (ok:vI P w H h) (mu:Xn (H x)) (he:e=x\/H e=some (.own x)) (k: ∀b u,b≠e->h.get? b=some u->h'.get? b=some u) (heo: ∃u,h'.get? e=some u)
  (new:gV P w (upd H x o') h' x o'):vI P w (upd H x o') h':=fun b u q=>by
 have nown: ∀c y,H c=some (.own y)->c≠x:=fun c y r z=>by subst z;rw [r] at mu;exact mu
 have ntup: ∀c xs,H c=some (.tup xs)->c≠x:=fun c xs r z=>by subst z;rw [r] at mu;exact mu
 by_cases hb:b=x
 ·subst hb;rw [af] at q;cases q;exact new
 ·rw [ak hb] at q
  by_cases hbe:b=e
  ·have q':H b=some (.own x):=by
    rcases he with z | z
    ·exact absurd (hbe.trans z) hb
    ·rw [hbe];exact z
   rw [q] at q';cases q'
   obtain ⟨v,hv⟩:=heo
   exact ⟨v,by rw [hbe];exact hv⟩
  ·refine (ok b u q).stay (fun c v hc r=>k c v ?_ r) (fun c r=>by rw [ak (nown c b r)];exact r) fun c xs r=>by rw [ak (ntup c xs r)];exact r
   rcases hc with rfl | hc
   ·exact hbe
   ·rintro rfl
    rcases he with z | z
    ·exact nown c b hc z
    ·rw [hc] at z;cases z;exact hb rfl
end
structure Un(fs ex:List Addr)(H H':Hp)(h h':Heap):Prop where
 keep: ∀b o,h.get? b=some o->H b=none->b ∉ fs->b ∉ ex->h'.get? b=some o
 slot: ∀b o,h.get? b=some o->H b=none->b ∈ fs->b ∉ ex-> ∃sl,h'.get? b=some {o with slots:=sl}
 free: ∀b o,h.get? b=some o->H b=none->b ∉ ex->H' b=none
 there: ∀b o,h.get? b=some o->b ∉ ex-> ∃o',h'.get? b=some o'
 tups: ∀b xs,H b=some (.tup xs)->H' b=some (.tup xs)
 Ao: ∀b o u,H b=some (.GZ o u)->H' b=some (.GZ o u)
 C5: ∀b ps,H b=some (.Tt ps)-> ∃more,H' b=some (.Tt (ps++more))
section
variable {fs fs' ex ex':List Addr} {H H1 H2:Hp} {h h1 h2 h':Heap} {a x e:Addr} {o:HO}
theorem Un.any(u:Un fs ex H H1 h h1){b:Addr}{ob:Obj}(q:h.get? b=some ob)(n:H b=none)(hx:b ∉ ex): ∃sl,h1.get? b=some {ob with slots:=sl}:=by
 by_cases hb:b ∈ fs
 ·exact u.slot b ob q n hb hx
 ·exact ⟨ob.slots,u.keep b ob q n hb hx⟩
theorem Un.kept(k: ∀b u,h.get? b=some u->h'.get? b=some u):Un fs ex H H h h':=
 ⟨fun b ob q _ _ _=>k b ob q,fun b ob q _ _ _=>⟨ob.slots,k b ob q⟩,fun _ _ _ n _=>n,fun b ob q _=>⟨ob,k b ob q⟩,fun _ _ q=>q,fun _ _ _ q=>q,fun _ ps q=>⟨#[],by rw [q];simp⟩⟩
theorem Un.refl:Un fs ex H H h h:=Un.kept fun _ _ q=>q
theorem Un.laid(k: ∀b u,h.get? b=some u->h'.get? b=some u)(hp:h.objs.size<=a)(hn:H a=none):Un fs ex H (upd H a o) h h' where
 keep:=fun b u q _ _ _=>k b u q
 slot:=fun b u q _ _ _=>⟨u.slots,k b u q⟩
 free:=fun b u q n _=>by rw [ak (Nat.ne_of_lt (YV (Heap.lt_size q) hp))];exact n
 there:=fun b u q _=>⟨u,k b u q⟩
 tups:=fun b xs q=>by rw [ak (ao q hn)];exact q
 Ao:=fun b u xs q=>by rw [ak (ao q hn)];exact q
 C5:=fun b ps q=>⟨#[],by rw [ak (ao q hn),q];simp⟩
theorem Un.write(mu:Xn (H x))(he:e=x\/H e=some (.own x))(k: ∀b u,b≠e->h.get? b=some u->h'.get? b=some u)(heo: ∃u,h'.get? e=some u):Un fs ex H (upd H x o) h h':=by
 have hx: ∀b,H b=none->b≠x:=fun b n z=>by subst z;rw [n] at mu;exact mu
 have hb: ∀b,H b=none->b≠e:=fun b n z=>by
  subst z
  rcases he with r | r
  ·exact hx b n r
  ·rw [n] at r;cases r
 have hm: ∀b u,H b=some u-> ¬Xn (some u)->b≠x:=fun b u q nm z=>by subst z;rw [q] at mu;exact nm mu
 refine ⟨fun b u q n _ _=>k b u (hb b n) q,fun b u q n _ _=>⟨u.slots,k b u (hb b n) q⟩,fun b u q n _=>by rw [ak (hx b n)];exact n,fun b u q _=>?_,
  fun b xs q=>by rw [ak (hm b _ q fun z=>z)];exact q,fun b u xs q=>by rw [ak (hm b _ q fun z=>z)];exact q,fun b ps q=>⟨#[],by rw [ak (hm b _ q fun z=>z),q];simp⟩⟩
 by_cases hbe:b=e
 ·subst hbe;exact heo
 ·exact ⟨u,k b u hbe q⟩
end
def VG(h:Heap)(H:Hp):List Addr:=(List.range h.objs.size).filter fun a=>(H a).isSome
def J4(h:Heap)(H:Hp):Heap:=PySem.W.hideAll h (VG h H)
theorem PD(h:Heap)(H:Hp):(J4 h H).objs.size=h.objs.size:=PySem.W.hideAll_size _ _
theorem R0{h:Heap}{H:Hp}{b:Addr}{o:Obj}(e:h.get? b=some o)(n:H b=none):(J4 h H).get? b=some o:=
 PySem.W.hideAll_get _ e fun hm=>by
  have q:(H b).isSome=true:=(Zp.mp hm).2
  rw [n] at q;simp at q
theorem TF{h:Heap}{H:Hp}{b:Addr}{o:Obj}(e:(J4 h H).get? b=some o):h.get? b=some o/\H b=none:=by
 have e':h.get? b=some o:=PySem.W.of_hideAll (VG h H) e
 refine ⟨e',?_⟩
 cases q:H b with
 | none=>rfl
 | some x=>
  have hm:b ∈ VG h H:=Zp.mpr ⟨List.mem_range.mpr (Heap.lt_size e'),by simp [q]⟩
  have z:(J4 h H).get? b=none:=PySem.W.hideAll_none (VG h H) hm
  rw [z] at e;cases e
end L2
namespace L2
open PySem PySem.Spec PyProof.Rows
structure Mod(K:W.Frag)(mg:Str->Option Value)(base:Heap):Prop where
 Ws:K.In base
 glob:base.Ns mainGlobals mg
 blt: ∃mb,base.Ns builtinsNs mb/\ ∀x:Str,x≠"__name__"->mb x=bootBuiltins x
 nolimit:base.NoLimit
structure Cx where
 prog:Program
 w:World
 K:W.Frag
 mg:Str->Option Value
 base:Heap
 A:Around
 N:List Str
 D8:Shared
 Xa:Hp
 env:Env
 outer:List Env
 stack:List Env
 ex:List Addr
 fn:Str->Bool
 calm:Bool
 pn:List (Addr×Obj)
 xe:Value->Shared->Prop
def frs(l:List Env):List Addr:=l.filterMap (·.frame)
abbrev Cx.fs(X:Cx):List Addr:=frs X.outer
def Wz(sc:Scope)(x:Str):Prop:=sc.names.lookup x=some .local\/sc.names.lookup x=some .cell\/sc.names.lookup x=some .free
def Loc(sc:Scope)(x:Str):Prop:=sc.names.lookup x=some .local\/sc.names.lookup x=some .cell
def Look(env:Env)(h:Heap)(m:Str->Option Value)(x:Str)(u:Value):Prop:=
 (env.kindOf x=some .local/\m x=some u)\/((env.kindOf x=some .cell\/env.kindOf x=some .free)/\ ∃c,env.cells.lookup x=some c/\h.IsCell c (some u))
structure Cx.Ok(X:Cx):Prop where
 mod:Mod X.K X.mg X.base
 kind:X.env.scope.kind= .function
 glob:X.env.globals=mainGlobals
 blt:X.env.builtins=builtinsNs
 above:X.D8.heap.objs.size<=X.env.locals
 inj: ∀x y c,X.env.cells.lookup x=some c->X.env.cells.lookup y=some c->x=y
 has: ∀x,(X.env.kindOf x=some .cell\/X.env.kindOf x=some .free)-> ∃c,X.env.cells.lookup x=some c
 V3: ∀x c,X.fn x=true->X.env.cells.lookup x=some c->X.D8.heap.objs.size<=c
 hd:X.calm=true->X.A.handled=none
 frames:X.A.frames=some X.stack
 stk:X.stack=X.outer\/(X.stack=X.env::X.outer/\X.env.frame=some X.env.locals)
 Ww: ∀b ∈ X.ex,b≠X.env.locals/\ ∀x c,X.env.cells.lookup x=some c->c≠b
 bs: ∀b o,X.base.get? b=some o->X.D8.heap.get? b=some o/\X.Xa b=none
 Q5:X.base.objs.size<=X.D8.heap.objs.size
 N_: ∀b o,X.base.get? b=some o->b ∉ X.ex
 Oe: ∀b ∈ X.ex,b ∉ X.fs
 BP:X.D8.heap.FunFrames X.base X.outer
 UI: ∀b ∈ X.fs,X.Xa b=none
structure Inv(X:Cx)(pins:List (Addr×Obj))(σ:List (Option V))(H:Hp)(s:Shared):Prop where
 ok:X.Ok
 os:s.os=X.D8.os
 bare:AllBare s.gens
 base:Un X.fs X.ex X.Xa H X.D8.heap s.heap
 loc: ∃m,s.heap.Ns X.env.locals m/\ ∀(i:Nat) (x:Str) (v:V),X.N[i]?=some x->σ[i]?=some (some v)->Wz X.env.scope x-> ∃u,RelV v u/\Look X.env s.heap m x u
 cell: ∀x c,X.env.cells.lookup x=some c-> ∃v,s.heap.IsCell c v
 free:H X.env.locals=none
 n9: ∀x c,X.env.cells.lookup x=some c->H c=none
 pin: ∀p ∈ X.pn++pins,s.heap.get? p.1=some p.2/\H p.1=none/\p.1≠X.env.locals/\p.1 ∉ X.fs/\ ∀v,p.2.data≠ .cell v
 hok:vI X.prog X.w H s.heap
 len:σ.length=X.N.length
section
variable {X:Cx} {pins:List (Addr×Obj)} {σ:List (Option V)} {H H':Hp} {s:Shared} {h':Heap}
theorem Cx.Ok.Yb(ok:X.Ok){b:Addr}{o:Obj}(e:X.base.get? b=some o):b ∉ X.fs:=fun hb=>by
 have:=(ok.BP.mem hb).1
 rw [e] at this;cases this
theorem Inv.bs(I:Inv X pins σ H s): ∀b o,X.base.get? b=some o->s.heap.get? b=some o/\H b=none:=fun b o e=>
 ⟨I.base.keep b o (I.ok.bs b o e).1 (I.ok.bs b o e).2 (I.ok.Yb e) (I.ok.N_ b o e),I.base.free b o (I.ok.bs b o e).1 (I.ok.bs b o e).2 (I.ok.N_ b o e)⟩
theorem Inv.bk(I:Inv X pins σ H s): ∀b o,X.base.get? b=some o->s.heap.get? b=some o:=fun b o e=>(I.bs b o e).1
theorem Inv.mod(I:Inv X pins σ H s):Mod X.K X.mg X.base:=I.ok.mod
theorem Inv.GX(I:Inv X pins σ H s):X.K.In s.heap:=I.ok.mod.Ws.keeps I.bk
theorem Inv.fr(I:Inv X pins σ H s): ∃m,Fr X.base X.env.locals s.heap m:=
 let ⟨m,hn,_⟩:=I.loc
 ⟨m,hn,I.bk,Y4 I.ok.Q5 I.ok.above⟩
theorem Inv.lt(I:Inv X pins σ H s):X.env.locals < s.heap.objs.size:=let ⟨_,hn,_⟩:=I.loc;hn.lt
theorem Inv.sz(I:Inv X pins σ H s):X.D8.heap.objs.size<=s.heap.objs.size:=Y4 I.ok.above (Nat.le_of_lt I.lt)
theorem Inv.X5(I:Inv X pins σ H s){a:Addr}(h:s.heap.objs.size<=a):a ∉ X.fs:=fun hb=>by
 obtain ⟨_,o,ho,_⟩:=I.ok.BP.mem hb
 exact absurd (YV (Heap.lt_size ho) (Y4 I.sz h)) (Nat.lt_irrefl _)
theorem Inv.Q4(I:Inv X pins σ H s): ∀x c,X.env.cells.lookup x=some c->c≠X.env.locals:=fun x c e z=>by
 obtain ⟨v,o,ho,hd⟩:=I.cell x c e
 obtain ⟨m,⟨o',es,ep,ho',hd',_⟩,_⟩:=I.loc
 rw [z,ho'] at ho;cases ho;rw [hd'] at hd;cases hd
theorem Inv.BP(I:Inv X pins σ H s):s.heap.FunFrames X.base X.outer:=by
 have all: ∀(l:List Env),(∀b ∈ frs l,b ∈ X.fs)->X.D8.heap.FunFrames X.base l->s.heap.FunFrames X.base l:=by
  intro l
  induction l with
  | nil=>intro _ _;trivial
  | cons env r ih=>
   intro hs hl
   obtain ⟨hk,⟨L,o,hf,hn,ho,hd⟩,hr⟩:=hl
   have hL:L ∈ X.fs:=hs L (by unfold frs;rw [List.filterMap_cons,hf];exact YN)
   obtain ⟨sl,e⟩:=I.base.slot L o ho (I.ok.UI L hL) hL fun z=>I.ok.Oe L z hL
   exact ⟨hk,⟨L,_,hf,hn,e,hd⟩,ih (fun b hb=>hs b (by unfold frs;rw [List.filterMap_cons,hf];exact YK _ hb)) hr⟩
 exact all X.outer (fun _ hb=>hb) I.ok.BP
theorem Inv.stack(I:Inv X pins σ H s):s.heap.FunFrames X.base X.stack:=by
 rcases I.ok.stk with e | ⟨e,hf⟩
 ·rw [e];exact I.BP
 ·rw [e]
  obtain ⟨m,hn,_⟩:=I.loc
  refine .cons (by rw [I.ok.kind];decide) hf hn ?_ I.BP
  exact Heap.get?_none_of_le (Y4 I.ok.Q5 I.ok.above)
theorem Inv.JJ(I:Inv X pins σ H s): ∀b ∈ frs X.stack,b ∈ X.env.locals::X.fs:=fun b hb=>by
 rcases I.ok.stk with e | ⟨e,hf⟩
 ·rw [e] at hb;exact YK _ hb
 ·rw [e] at hb
  unfold frs at hb
  rw [List.filterMap_cons,hf] at hb
  exact hb
theorem Inv.JE(I:Inv X pins σ H s): ∀b ∈ frs X.stack,H b=none:=fun b hb=>by
 rcases YR.mp (I.JJ b hb) with e | hb
 ·rw [e];exact I.free
 ·obtain ⟨_,o,ho,_⟩:=I.ok.BP.mem hb
  exact I.base.free b o ho (I.ok.UI b hb) fun z=>I.ok.Oe b z hb
theorem Inv.step {g':Array GenState} {t':Nat} {d':Drawn} {ch:List Addr} (I:Inv X pins σ H s)
  (hch: ∀b ∈ ch,(b ∈ X.ex\/X.D8.heap.objs.size<=b)/\b≠X.env.locals/\(∀x c,X.env.cells.lookup x=some c->c≠b)/\ ∀p ∈ X.pn++pins,p.1≠b)
  (keep: ∀b o,b≠X.env.locals->b ∉ X.fs->b ∉ ch->s.heap.get? b=some o->H b=none->h'.get? b=some o)
  (slot: ∀b o,b≠X.env.locals->b ∈ X.fs->b ∉ ch->s.heap.get? b=some o->H b=none-> ∃sl,h'.get? b=some {o with slots:=sl}) (free: ∀b o,b ∉ ch->s.heap.get? b=some o->H b=none->H' b=none)
  (there: ∀b o,b ∉ ch->s.heap.get? b=some o-> ∃o',h'.get? b=some o')
  (tups: ∀b xs,H b=some (.tup xs)->H' b=some (.tup xs)) (Ao: ∀b o u,H b=some (.GZ o u)->H' b=some (.GZ o u)) (C5: ∀b ps,H b=some (.Tt ps)-> ∃more,H' b=some (.Tt (ps++more)))
  (ns: ∀m,s.heap.Ns X.env.locals m->h'.Ns X.env.locals m) (hok:vI X.prog X.w H' h') (hg:AllBare g'):
  Inv X pins σ H' {s with heap:=h',gens:=g',drawn:=d',toks:=t'}:=by
 have neL: ∀b o,X.D8.heap.get? b=some o->b≠X.env.locals:=fun b o e=>Nat.ne_of_lt (YV (Heap.lt_size e) I.ok.above)
 have neC: ∀b o,X.D8.heap.get? b=some o->b ∉ X.ex->b ∉ ch:=fun b o e hx hb=>by
  rcases (hch b hb).1 with z | z
  ·exact hx z
  ·exact absurd (YV (Heap.lt_size e) z) (Nat.lt_irrefl _)
 have cellK: ∀x c,X.env.cells.lookup x=some c-> ∀v,s.heap.IsCell c v->h'.IsCell c v:=fun x c e v ⟨o,ho,hd⟩=>by
  have nch:c ∉ ch:=fun z=>(hch c z).2.2.1 x c e rfl
  by_cases hc:c ∈ X.fs
  ·obtain ⟨sl,q⟩:=slot c o (I.Q4 x c e) hc nch ho (I.n9 x c e)
   exact ⟨_,q,hd⟩
  ·exact ⟨o,keep c o (I.Q4 x c e) hc nch ho (I.n9 x c e),hd⟩
 refine ⟨I.ok,I.os,hg,⟨fun b o e n hb hx=>?_,fun b o e n hb hx=>?_,fun b o e n hx=>?_,fun b o e hx=>?_,fun b xs e=>tups b xs (I.base.tups b xs e),fun b o xs e=>Ao b o xs (I.base.Ao b o xs e),fun b ps e=>?_⟩,?_,fun x c e=>?_,?_,fun x c e=>?_,fun p hp=>?_,hok,I.len⟩
 ·exact keep b o (neL b o e) hb (neC b o e hx) (I.base.keep b o e n hb hx) (I.base.free b o e n hx)
 ·obtain ⟨sl,e1⟩:=I.base.slot b o e n hb hx
  obtain ⟨sl',e2⟩:=slot b _ (neL b o e) hb (neC b o e hx) e1 (I.base.free b o e n hx)
  exact ⟨sl',e2⟩
 ·obtain ⟨o',e1⟩:=I.base.there b o e hx
  exact free b o' (neC b o e hx) e1 (I.base.free b o e n hx)
 ·obtain ⟨o',e1⟩:=I.base.there b o e hx
  exact there b o' (neC b o e hx) e1
 ·obtain ⟨m1,e1⟩:=I.base.C5 b ps e
  obtain ⟨m2,e2⟩:=C5 b _ e1
  exact ⟨m1++m2,by rw [e2,Array.append_assoc]⟩
 ·obtain ⟨m,hn,hl⟩:=I.loc
  refine ⟨m,ns m hn,fun i x v e1 e2 e3=>?_⟩
  obtain ⟨u,r,l⟩:=hl i x v e1 e2 e3
  refine ⟨u,r,?_⟩
  rcases l with l | ⟨k,c,e,z⟩
  ·exact .inl l
  ·exact .inr ⟨k,c,e,cellK x c e _ z⟩
 ·obtain ⟨v,z⟩:=I.cell x c e
  exact ⟨v,cellK x c e v z⟩
 ·obtain ⟨m,⟨o,_,_,ho,_⟩,_⟩:=I.loc
  exact free _ o (fun z=>(hch _ z).2.1 rfl) ho I.free
 ·obtain ⟨v,o,ho,hd⟩:=I.cell x c e
  exact free c o (fun z=>(hch c z).2.2.1 x c e rfl) ho (I.n9 x c e)
 ·obtain ⟨e,n,ne,nf,d⟩:=I.pin p hp
  have nch:p.1 ∉ ch:=fun z=>(hch p.1 z).2.2.2 p hp rfl
  exact ⟨keep p.1 p.2 ne nf nch e n,free p.1 p.2 nch e n,ne,nf,d⟩
theorem Inv.un{t':Nat}(I:Inv X pins σ H s)(u:Un X.fs [] H H' s.heap h')(hok:vI X.prog X.w H' h'):Inv X pins σ H' {s with heap:=h',toks:=t'}:=by
 obtain ⟨m,⟨o,es,ep,ho,r⟩,_⟩:=id I.loc
 obtain ⟨sl,hL⟩:=u.any ho I.free (by simp)
 exact I.step (g':=s.gens) (d':=s.drawn) (ch:= []) (fun _ z=>nomatch z) (fun b o _ hb _ e n=>u.keep b o e n hb (by simp)) (fun b o _ hb _ e n=>u.slot b o e n hb (by simp)) (fun b o _ e n=>u.free b o e n (by simp)) (fun b o _ e=>u.there b o e (by simp)) u.tups u.Ao u.C5 (fun m' hm=>by
  obtain ⟨o',es',ep',ho',r'⟩:=hm
  rw [ho] at ho';cases ho'
  exact ⟨_,es',ep',hL,r'⟩) hok I.bare
theorem Inv.call {g':Array GenState} {t':Nat} {d':Drawn} {ch:List Addr} (I:Inv X pins σ H s) (u:Un (frs X.stack) ch H H' s.heap h') (hok:vI X.prog X.w H' h') (hg:AllBare g')
  (hch: ∀b ∈ ch,(b ∈ X.ex\/X.D8.heap.objs.size<=b)/\b≠X.env.locals/\(∀x c,X.env.cells.lookup x=some c->c≠b)/\ ∀p ∈ X.pn++pins,p.1≠b):
  Inv X pins σ H' {s with heap:=h',gens:=g',drawn:=d',toks:=t'}:=by
 obtain ⟨m,⟨o,es,ep,ho,r⟩,_⟩:=id I.loc
 obtain ⟨sl,hL⟩:=u.any ho I.free fun z=>(hch _ z).2.1 rfl
 exact I.step (ch:=ch) hch (fun b o hL hb hc e n=>u.keep b o e n (fun z=>(YR.mp (I.JJ b z)).elim hL hb) hc) (fun b o _ _ hc e n=>u.any e n hc) (fun b o hc e n=>u.free b o e n hc) (fun b o hc e=>u.there b o e hc) u.tups u.Ao u.C5 (fun m' hm=>by
  obtain ⟨o',es',ep',ho',r'⟩:=hm
  rw [ho] at ho';cases ho'
  exact ⟨_,es',ep',hL,r'⟩) hok hg
theorem Inv.turned {t':Nat} {it:Addr} (I:Inv X pins σ H s) (k: ∀b o,b≠it->s.heap.get? b=some o->h'.get? b=some o) (hn:H it=none) (hL:it≠X.env.locals)
  (h1:it ∈ X.ex\/X.D8.heap.objs.size<=it) (h2: ∀x c,X.env.cells.lookup x=some c->c≠it) (h3: ∀p ∈ X.pn++pins,p.1≠it):Inv X pins σ H {s with heap:=h',toks:=t'}:=by
 have nit: ∀b u,H b=some u->b≠it:=fun b u e z=>by rw [z,hn] at e;cases e
 refine I.step (g':=s.gens) (d':=s.drawn) (ch:= [it]) (fun b hb=>?_) (fun b o _ _ hc e _=>k b o (fun z=>hc (by simp [z])) e) (fun b o _ _ hc e _=>⟨o.slots,k b o (fun z=>hc (by simp [z])) e⟩) (fun _ _ _ _ n=>n)
  (fun b o hc e=>⟨o,k b o (fun z=>hc (by simp [z])) e⟩) (fun _ _ e=>e) (fun _ _ _ e=>e) (fun b ps e=>⟨#[],by rw [e];simp⟩) (fun m hm=>?_) (fun b u e=>?_) I.bare
 ·have e:b=it:=by simpa using hb
  subst e
  exact ⟨h1,hL,h2,h3⟩
 ·obtain ⟨o,es,ep,ho,r⟩:=hm
  exact ⟨o,es,ep,k _ o (Ne.symm hL) ho,r⟩
 ·refine (I.hok b u e).stay (fun c v hc q=>k c v ?_ q) (fun _ q=>q) fun _ _ q=>q
  rcases hc with z | z
  ·rw [z];exact nit b u e
  ·exact nit c _ z
theorem Inv.tok(I:Inv X pins σ H s)(t:Nat):Inv X pins σ H {s with toks:=t}:=I.un (h':=s.heap) (t':=t) Un.refl I.hok
theorem Inv.kept{t':Nat}(I:Inv X pins σ H s)(k: ∀b u,s.heap.get? b=some u->h'.get? b=some u):Inv X pins σ H {s with heap:=h',toks:=t'}:=I.un (Un.kept k) (I.hok.kept k)
theorem Inv.laid{a:Addr}{o:HO}{t':Nat}(I:Inv X pins σ H s)(k: ∀b u,s.heap.get? b=some u->h'.get? b=some u)(hp:s.heap.objs.size<=a)(new:gV X.prog X.w (upd H a o) h' a o):
  Inv X pins σ (upd H a o) {s with heap:=h',toks:=t'}:=I.un (Un.laid k hp (I.hok.fresh hp)) (I.hok.laid k hp new)
theorem Inv.write {x e:Addr} {o:HO} {t':Nat} (I:Inv X pins σ H s) (mu:Xn (H x)) (he:e=x\/H e=some (.own x)) (k: ∀b u,b≠e->s.heap.get? b=some u->h'.get? b=some u) (heo: ∃u,h'.get? e=some u)
  (new:gV X.prog X.w (upd H x o) h' x o):Inv X pins σ (upd H x o) {s with heap:=h',toks:=t'}:=I.un (Un.write mu he k heo) (I.hok.write mu he k heo new)
theorem Inv.weak{σ':List (Option V)}(I:Inv X pins σ H s)(hl:σ'.length=σ.length)(w: ∀(i:Nat) v,σ'[i]?=some (some v)->σ[i]?=some (some v)):Inv X pins σ' H s:=
 ⟨I.ok,I.os,I.bare,I.base,let ⟨m,hn,hl'⟩:=I.loc;⟨m,hn,fun i x v e1 e2 e3=>hl' i x v e1 (w i v e2) e3⟩,I.cell,I.free,I.n9,I.pin,I.hok,hl.trans I.len⟩
theorem Inv.OG{pins':List (Addr×Obj)}(I:Inv X pins σ H s)(h: ∀p ∈ pins',s.heap.get? p.1=some p.2/\H p.1=none/\p.1≠X.env.locals/\p.1 ∉ X.fs/\ ∀v,p.2.data≠ .cell v):Inv X pins' σ H s:=
 ⟨I.ok,I.os,I.bare,I.base,I.loc,I.cell,I.free,I.n9,fun p hp=>(Zb.mp hp).elim (fun z=>I.pin p (Zi _ z)) (h p),I.hok,I.len⟩
theorem EF{N:List Str}(hN:N.Nodup){i j:Nat}{x:Str}(a:N[i]?=some x)(b:N[j]?=some x):i=j:=by
 obtain ⟨h1,e1⟩:=YL.mp a
 obtain ⟨h2,e2⟩:=YL.mp b
 exact (List.getElem_inj hN).mp (e1.trans e2.symm)
theorem IZ {M:Model} {A:Around} {E:Value->Shared->Prop} {i:Nat} {x:Str} {v:V} {u:Value} {Q:Unit->Shared->Prop} (I:Inv X pins σ H s) (hN:X.N.Nodup) (hi:X.N[i]?=some x) (hx:Loc X.env.scope x) (r:RelV v u)
  (h: ∀s',Inv X pins (σ.set i (some v)) H s'->(∃a,Heap.SameBut a s.heap s'.heap/\(a=X.env.locals\/X.env.cells.lookup x=some a))->Q () s') (hf:X.fn x=true\/X.env.scope.names.lookup x=some .local:=by first | exact .inl rfl | exact .inr rfl | assumption):wpAny M A (storeName X.env x u) Q E s:=by
 obtain ⟨m,hn,hl⟩:=id I.loc
 have hcls:(X.env.scope.kind == .class || (X.env.scope.kind == .module && X.env.locals != X.env.globals))=false:=by rw [I.ok.kind];rfl
 have hiσ:i < σ.length:=by rw [I.len];exact (YL.mp hi).1
 have Q4:=I.Q4
 have tracked: ∀ {a:Addr} {h':Heap},(∃o,s.heap.get? a=some o/\H a=none)->Heap.SameBut a s.heap h'->vI X.prog X.w H h':=fun {a h'} ha hs b ob e=>by
  obtain ⟨_,_,hfree⟩:=ha
  refine (I.hok b ob e).stay (fun c w' hc q=>(hs.2 c ?_).trans q) (fun _ q=>q) fun _ _ q=>q
  rintro rfl
  rcases hc with rfl | hc
  ·rw [hfree] at e;cases e
  ·rw [hfree] at hc;cases hc
 rcases hx with hk | hk
 ·refine wpAny_storeName_local hk hn (fun h' hn' hs=>?_) hcls
  obtain ⟨oL,_,_,hoL,_⟩:=id hn
  refine h _ ⟨I.ok,I.os,I.bare,⟨fun b o e n hb hx=>?_,fun b o e n hb hx=>?_,I.base.free,fun b o e hx=>?_,I.base.tups,I.base.Ao,I.base.C5⟩,⟨_,hn',fun j y v' e1 e2 e3=>?_⟩,fun y c e=>?_,I.free,I.n9,fun p hp=>?_,tracked ⟨oL,hoL,I.free⟩ hs,by simpa using I.len⟩ ⟨_,hs,.inl rfl⟩
  ·exact (hs.2 b (Nat.ne_of_lt (YV (Heap.lt_size e) I.ok.above))).trans (I.base.keep b o e n hb hx)
  ·obtain ⟨sl,e1⟩:=I.base.slot b o e n hb hx
   exact ⟨sl,(hs.2 b (Nat.ne_of_lt (YV (Heap.lt_size e) I.ok.above))).trans e1⟩
  ·obtain ⟨o',e1⟩:=I.base.there b o e hx
   exact ⟨o',(hs.2 b (Nat.ne_of_lt (YV (Heap.lt_size e) I.ok.above))).trans e1⟩
  ·by_cases hj:j=i
   ·subst hj
    rw [hi] at e1;cases e1
    rw [List.getElem?_set_self hiσ] at e2
    cases e2
    exact ⟨u,r,.inl ⟨hk,by simp⟩⟩
   ·rw [List.getElem?_set_ne (Ne.symm hj)] at e2
    obtain ⟨u',r',q⟩:=hl j y v' e1 e2 e3
    refine ⟨u',r',?_⟩
    rcases q with ⟨k,e⟩ | ⟨k,c,e,z⟩
    ·refine .inl ⟨k,?_⟩
     have:y≠x:=fun e=>hj (EF hN e1 (e▸hi))
     simp [this,e]
    ·exact .inr ⟨k,c,e,z.sameBut hs (Q4 y c e)⟩
  ·obtain ⟨w',z⟩:=I.cell y c e
   exact ⟨w',z.sameBut hs (Q4 y c e)⟩
  ·obtain ⟨e,n,ne,nf,d⟩:=I.pin p hp
   exact ⟨(hs.2 p.1 ne).trans e,n,ne,nf,d⟩
 ·have hfn:X.fn x=true:=by
   rcases hf with z | z
   ·exact z
   ·rw [z] at hk;cases hk
  obtain ⟨c,hc⟩:=I.ok.has x (.inl hk)
  obtain ⟨w',z⟩:=I.cell x c hc
  refine wpAny_storeName_cell I.ok.kind hk hc z (fun h' hc' hs=>?_)
  obtain ⟨oc,hoc,hocd⟩:=id z
  refine h {s with heap:=h'} ⟨I.ok,I.os,I.bare,⟨fun b o e n hb hx=>?_,fun b o e n hb hx=>?_,I.base.free,fun b o e hx=>?_,I.base.tups,I.base.Ao,I.base.C5⟩,⟨m,hn.sameBut hs (Ne.symm (Q4 x c hc)),fun j y v' e1 e2 e3=>?_⟩,fun y c' e=>?_,I.free,I.n9,fun p hp=>?_,tracked ⟨oc,hoc,I.n9 x c hc⟩ hs,by simpa using I.len⟩ ⟨c,hs,.inr hc⟩
  ·exact (hs.2 b (Nat.ne_of_lt (YV (Heap.lt_size e) (I.ok.V3 x c hfn hc)))).trans (I.base.keep b o e n hb hx)
  ·obtain ⟨sl,e1⟩:=I.base.slot b o e n hb hx
   exact ⟨sl,(hs.2 b (Nat.ne_of_lt (YV (Heap.lt_size e) (I.ok.V3 x c hfn hc)))).trans e1⟩
  ·obtain ⟨o',e1⟩:=I.base.there b o e hx
   exact ⟨o',(hs.2 b (Nat.ne_of_lt (YV (Heap.lt_size e) (I.ok.V3 x c hfn hc)))).trans e1⟩
  ·by_cases hj:j=i
   ·subst hj
    rw [hi] at e1;cases e1
    rw [List.getElem?_set_self hiσ] at e2
    cases e2
    exact ⟨u,r,.inr ⟨.inl hk,c,hc,hc'⟩⟩
   ·rw [List.getElem?_set_ne (Ne.symm hj)] at e2
    obtain ⟨u',r',q⟩:=hl j y v' e1 e2 e3
    refine ⟨u',r',?_⟩
    rcases q with q | ⟨k,c',e,z'⟩
    ·exact .inl q
    ·refine .inr ⟨k,c',e,z'.sameBut hs ?_⟩
     rintro rfl
     exact hj (EF hN e1 (I.ok.inj _ _ _ e hc▸hi))
  ·by_cases hcc:c'=c
   ·subst hcc;exact ⟨_,hc'⟩
   ·obtain ⟨w2,z2⟩:=I.cell y c' e
    exact ⟨w2,z2.sameBut hs hcc⟩
  ·obtain ⟨e,n,ne,nf,d⟩:=I.pin p hp
   refine ⟨(hs.2 p.1 ?_).trans e,n,ne,nf,d⟩
   intro q
   rw [q,hoc] at e
   have q':oc=p.2:=Option.some.inj e
   exact d w' (by rw [<-q'];exact hocd)
theorem B6 {M:Model} {A:Around} {E:Value->Shared->Prop} {i:Nat} {x:Str} {v:V} {u:Value} {Q:Unit->Shared->Prop} (I:Inv X pins σ H s) (hN:X.N.Nodup) (hi:X.N[i]?=some x) (hx:Loc X.env.scope x) (r:RelV v u)
  (h: ∀s',Inv X pins (σ.set i (some v)) H s'->Q () s') (hf:X.fn x=true\/X.env.scope.names.lookup x=some .local:=by first | exact .inl rfl | exact .inr rfl | assumption):wpAny M A (storeName X.env x u) Q E s:=
 IZ I hN hi hx r (fun s' I' _=>h s' I') hf
theorem Inv.RE {s':Shared} {ch:List Addr} (I:Inv X pins σ H s) (ho:s'.os=s.os) (u:Un (frs X.stack) ch H H' s.heap s'.heap) (hok:vI X.prog X.w H' s'.heap) (hg:AllBare s'.gens)
  (hch: ∀b ∈ ch,(b ∈ X.ex\/X.D8.heap.objs.size<=b)/\b≠X.env.locals/\(∀x c,X.env.cells.lookup x=some c->c≠b)/\ ∀p ∈ X.pn++pins,p.1≠b):Inv X pins σ H' s':=by
 obtain ⟨h',g',d',t',o'⟩:=s'
 have e:o'=s.os:=ho
 subst e
 exact I.call (g':=g') (t':=t') (d':=d') u hok hg hch
end
abbrev XK:=Value->Option Addr->Hp->Prop
abbrev St:=List (Option V)
abbrev VK:=V->Hp->Prop
abbrev TE:=St->Hp->VK->Prop
abbrev TT:=St->Hp->(Bool->Hp->Prop)->Prop
abbrev TA:=St->Hp->(List V->Hp->Prop)->Prop
structure Ends where
 nx:St->Hp->Prop
 rt:VK
 bk:St->Hp->Prop:=fun _ _=>False
 ct:St->Hp->Prop:=fun _ _=>False
abbrev TS:=Ends->St->Hp->Prop
def EP(X:Cx)(pins:List (Addr×Obj))(σ:St)(Q:VK)(u:Value)(s':Shared):Prop:= ∃v H',Inv X pins σ H' s'/\RelV v u/\Q v H'
def TP(X:Cx)(pins:List (Addr×Obj))(σ:St)(Q:Bool->Hp->Prop)(b:Bool)(s':Shared):Prop:= ∃H',Inv X pins σ H' s'/\Q b H'
def AP(X:Cx)(pins:List (Addr×Obj))(σ:St)(Q:List V->Hp->Prop)(us:List Value)(s':Shared):Prop:= ∃vs H',Inv X pins σ H' s'/\Vals vs us/\Q vs H'
def SP(X:Cx)(pins:List (Addr×Obj))(D:Ends)(f:Flow)(s':Shared):Prop:=
 match f with
 | .next=> ∃σ' H',Inv X pins σ' H' s'/\D.nx σ' H'
 | .brk=> ∃σ' H',Inv X pins σ' H' s'/\D.bk σ' H'
 | .cont=> ∃σ' H',Inv X pins σ' H' s'/\D.ct σ' H'
 | .ret u=> ∃v σ' H',Inv X pins σ' H' s'/\RelV v u/\D.rt v H'
def PE(X:Cx)(e:Expr)(t:TE):Prop:=
 ∀(pins:List (Addr×Obj)) (s:Shared) (σ:St) (H:Hp) (Q:VK),Inv X pins σ H s->t σ H Q->wpAny (model X.prog X.w) X.A (eval e X.env) (EP X pins σ Q) X.xe s
def PT(X:Cx)(e:Expr)(t:TT):Prop:=
 ∀(pins:List (Addr×Obj)) (s:Shared) (σ:St) (H:Hp) (Q:Bool->Hp->Prop),Inv X pins σ H s->t σ H Q->wpAny (model X.prog X.w) X.A (isTrue e X.env (eval e X.env)) (TP X pins σ Q) X.xe s
def PW(X:Cx)(e:Expr)(t:TT):Prop:=
 ∀(whole:Sem Value) (pins:List (Addr×Obj)) (s:Shared) (σ:St) (H:Hp) (Q:Bool->Hp->Prop),Inv X pins σ H s->t σ H Q->wpAny (model X.prog X.w) X.A (isTrue e X.env whole) (TP X pins σ Q) X.xe s
theorem PW.pt{X:Cx}{e:Expr}{t:TT}(h:PW X e t):PT X e t:=h _
def PA(X:Cx)(es:List Expr)(t:TA):Prop:=
 ∀(pos:Pos) (pins:List (Addr×Obj)) (s:Shared) (σ:St) (H:Hp) (Q:List V->Hp->Prop),Inv X pins σ H s->t σ H Q->wpAny (model X.prog X.w) X.A (spliced (backTo pos (starEach es X.env))) (AP X pins σ Q) X.xe s
def PS(X:Cx)(st:Stmt)(t:TS):Prop:=
 ∀(pins:List (Addr×Obj)) (s:Shared) (σ:St) (H:Hp) (D:Ends),Inv X pins σ H s->t D σ H->wpAny (model X.prog X.w) X.A (exec st X.env) (SP X pins D) X.xe s
def Mv(X:Cx)(st:List Stmt)(t:TS):Prop:=
 ∀(pins:List (Addr×Obj)) (s:Shared) (σ:St) (H:Hp) (D:Ends),Inv X pins σ H s->t D σ H->wpAny (model X.prog X.w) X.A (execs st X.env) (SP X pins D) X.xe s
theorem gD{α:Type}{t:Sem α}{Q Q':α->Shared->Prop}{M:Model}{A:Around}{E:Value->Shared->Prop}{s:Shared}(h:wpAny M A t Q E s)(hQ: ∀a s,Q a s->Q' a s):wpAny M A t Q' E s:=wpAny_mono h hQ fun _ _ x=>x
end L2
namespace L2
open PySem PySem.Spec PyProof.Rows
section
variable {X:Cx}
theorem bin {a b:Expr} {ta tb:TE} (ha:PE X a ta) (hb:PE X b tb) {pins:List (Addr×Obj)} {s:Shared} {σ:St} {H:Hp} {R:V->V->Hp->Prop} (I:Inv X pins σ H s) (h:ta σ H fun x H1=>tb σ H1 fun y H2=>R x y H2)
  {α:Type} {Q:α->Shared->Prop} {f:Value->Value->Sem α}
  (hf: ∀v u s2 x y H2,Inv X pins σ H2 s2->RelV x v->RelV y u->R x y H2->wpAny (model X.prog X.w) X.A (f v u) Q X.xe s2):
  wpAny (model X.prog X.w) X.A (eval a X.env) (fun v s₁=>wpAny (model X.prog X.w) X.A (eval b X.env) (fun u s₂=>wpAny (model X.prog X.w) X.A (f v u) Q X.xe s₂) X.xe s₁) X.xe s:=by
 refine gD (ha pins s σ H _ I h) fun v s1 ⟨x,H1,I1,r1,q1⟩=>?_
 refine gD (hb pins s1 σ H1 _ I1 q1) fun u s2 ⟨y,H2,I2,r2,q2⟩=>?_
 exact hf v u s2 x y H2 I2 r1 r2 q2
def cK(i:Nat):TE:=fun σ H Q=> ∃v,σ[i]?=some (some v)/\Q v H
def tC(v:V):TE:=fun _ H Q=>Q v H
theorem Vu{i:Nat}{x:Str}{pos:Pos}(hN:X.N[i]?=some x)(hv:Wz X.env.scope x)(hd:(x == ("__debug__":Str))=false:=by decide)(hcd:(x == ("__classdict__":Str))=false:=by decide):PE X (.Name x pos) (cK i):=by
 intro pins s σ H Q I h
 obtain ⟨v,e,h⟩:=h
 obtain ⟨m,hn,hl⟩:=I.loc
 obtain ⟨u,r,l⟩:=hl i x v hN e hv
 have fin:EP X pins σ Q u s:=⟨v,H,I,r,h⟩
 rcases l with ⟨hk,hm⟩ | ⟨hk,c,hc,hcell⟩
 ·exact wpAny_Name (wpAny_loadName_local I.ok.kind hk hn hm fin) hd
 ·rcases hk with hk | hk
  ·exact wpAny_Name (wpAny_loadName_cell I.ok.kind hk hc hcell fin) hd
  ·exact wpAny_Name (wpAny_loadName_free I.ok.kind hk hc hcell fin hcd) hd
theorem aH{i j pos}:PE X (.Constant (.int i) j pos) (tC (.int i)):=fun _ _ _ H _ I h=>wpAny_Constant_int ⟨.int i,H,I.tok _,⟨_,rfl⟩,h⟩
theorem Ji{b j pos}:PE X (.Constant (.bool b) j pos) (tC (.bl b)):=fun _ _ _ H _ I h=>Constant_bool ⟨.bl b,H,I,rfl,h⟩
theorem Gw{j pos}:PE X (.Constant .none j pos) (tC .dh):=fun _ _ _ H _ I h=>Constant_none ⟨.dh,H,I,rfl,h⟩
theorem cV{x j pos}:PE X (.Constant (.str x) j pos) (tC (.str x)):=fun _ _ _ H _ I h=>Calls.Constant_str ⟨.str x,H,I.tok _,⟨_,rfl⟩,h⟩
def Gl(X:Cx)(x:Str):Prop:=X.env.kindOf x=some .globalImplicit
theorem zw {E:Value->Shared->Prop} {pins:List (Addr×Obj)} {s:Shared} {σ:St} {H:Hp} {x:Str} {u:Value} {pos:Pos} {Q:Value->Shared->Prop} (I:Inv X pins σ H s) (hg:Gl X x) (hm:X.mg x=some u) (h:Q u s)
  (hd:(x == ("__debug__":Str))=false:=by decide):wpAny (model X.prog X.w) X.A (eval (.Name x pos) X.env) Q E s:=
 Calls.Name_function_global I.ok.kind hg (Calls.loadGlobal_global (by rw [I.ok.glob];exact I.mod.glob.keeps I.bk) hm h) hd
theorem Ka {E:Value->Shared->Prop} {pins:List (Addr×Obj)} {s:Shared} {σ:St} {H:Hp} {x:Str} {u:Value} {pos:Pos} {Q:Value->Shared->Prop} (I:Inv X pins σ H s) (hg:Gl X x) (hm:X.mg x=none) (hv:bootBuiltins x=some u) (h:Q u s)
  (hn:x≠"__name__":=by decide) (hd:(x == ("__debug__":Str))=false:=by decide):wpAny (model X.prog X.w) X.A (eval (.Name x pos) X.env) Q E s:=by
 obtain ⟨mb,h1,h2⟩:=I.mod.blt
 exact Calls.Name_function_global I.ok.kind hg (Calls.loadGlobal_builtin (by rw [I.ok.glob];exact I.mod.glob.keeps I.bk) hm (by rw [I.ok.blt];exact h1.keeps I.bk) ((h2 x hn).trans hv) h) hd
theorem TR{x:Str}{v:V}{u:Value}{pos:Pos}(hg:Gl X x)(hm:X.mg x=some u)(r:RelV v u)(hd:(x == ("__debug__":Str))=false:=by decide):PE X (.Name x pos) (tC v):=
 fun _ _ _ H _ I h=>zw I hg hm ⟨v,H,I,r,h⟩ hd
variable {a b:Expr} {ta tb:TE} {pos:Pos}
def PC(X:Cx)(op:CmpOp)(a b:Expr)(t:TE):Prop:=
 ∀(pins:List (Addr×Obj)) (s:Shared) (σ:St) (H:Hp) (Q:VK),Inv X pins σ H s->t σ H Q->
  wpAny (model X.prog X.w) X.A (eval a X.env) (fun v s₁=>wpAny (model X.prog X.w) X.A (eval b X.env) (fun u s₂=>wpAny (model X.prog X.w) X.A (compareOp op v u) (EP X pins σ Q) X.xe s₂) X.xe s₁) X.xe s
theorem SY(b:Expr){op:CmpOp}(h:op≠ .In)(h2:op≠ .NotIn):behindInMarks op b=false:=by
 have e1:(op == CmpOp.In)=false:=by cases op <;> first | rfl | exact absurd rfl h
 have e2:(op == CmpOp.NotIn)=false:=by cases op <;> first | rfl | exact absurd rfl h2
 cases b <;> simp [behindInMarks,e1,e2]
def XX(ta:TE):TE:=fun σ H Q=>ta σ H fun x H1=>Q (.bl (decide (x= .dh))) H1
theorem RelV.Rh{x:V}{v:Value}(r:RelV x v):(v == Value.none)=decide (x= .dh):=by
 cases x with
 | dh=>cases r;rfl
 | bl _=>cases r;rfl
 | int _=>obtain ⟨t,rfl⟩:=r;rfl
 | str _=>obtain ⟨t,rfl⟩:=r;rfl
 | K9 _=>obtain ⟨t,rfl⟩:=r;rfl
 | GY _=>obtain ⟨t,rfl⟩:=r;rfl
 | ref _=>cases r;rfl
 | ty _=>cases r;rfl
theorem Rq{j pos'}(ha:PE X a ta):PC X .Is a (.Constant .none j pos') (XX ta):=by
 intro pins s σ H Q I h
 refine gD (ha pins s σ H _ I h) fun v s1 ⟨x,H1,I1,r1,q1⟩=>?_
 exact Constant_none (is_none_gen ⟨.bl _,H1,I1,by rw [r1.Rh];rfl,q1⟩)
def tB(t:TE):TT:=fun σ H Q=>t σ H fun x H1=> ∃c,x= .bl c/\Q c H1
theorem wH{op:CmpOp}{t:TE}(h:PC X op a b t)(h1:behindInMarks op b=false:=by first | exact SY _ (by decide) (by decide) | rfl):PT X (.Compare a [op] [b] pos) (tB t):=by
 intro pins s σ H Q I hw
 refine wpAny_isTrue_Compare1 (gD (h pins s σ H _ I hw) fun v s1 h1=>gD h1 fun u s2 h2=>gD h2 fun c s3 ⟨x,H1,I1,r1,q1⟩=>?_) h1
 obtain ⟨d,rfl,q⟩:=q1
 cases r1
 exact wpAny_truthy_bool ⟨H1,I1,q⟩
theorem oA{e:Expr}{t:TE}(h:PE X e t)(he: ∀whole,isTrue e X.env whole=(do let v <-whole;standAt e.pos;holding [v] (truthy v)):=by intro _;rfl):PT X e (tB t):=by
 intro pins s σ H Q I hw
 refine isTrue_plain (gD (h pins s σ H _ I hw) fun v s1 ⟨x,H1,I1,r1,q1⟩=>?_) (he _)
 obtain ⟨d,rfl,q⟩:=q1
 cases r1
 exact wpAny_truthy_bool ⟨H1,I1,q⟩
variable {tA tB':TT} {rest:List Expr}
def XH(t u:TT):TT:=fun σ H Q=>t σ H fun c H1=>if c=true then u σ H1 Q else Q false H1
def Yw(t u:TT):TT:=fun σ H Q=>t σ H fun c H1=>if c=true then Q true H1 else u σ H1 Q
def XD(t:TT):TT:=fun σ H Q=>t σ H fun c H1=>Q (!c) H1
theorem Bf(ha:PT X a tA):PW X (.BoolOp .And [a] pos) tA:=by
 intro wh pins s σ H Q I h
 refine isTrue_and (gD (ha pins s σ H Q I h) fun c s1 e=>?_)
 cases c with
 | true=>exact isTrue_and_nil e
 | false=>exact e
theorem K4(ha:PT X a tA):PW X (.BoolOp .Or [a] pos) tA:=by
 intro wh pins s σ H Q I h
 refine isTrue_or (gD (ha pins s σ H Q I h) fun c s1 e=>?_)
 cases c with
 | false=>exact isTrue_or_nil e
 | true=>exact e
theorem Ff(ha:PT X a tA)(hb:PW X (.BoolOp .And (b::rest) pos) tB'):PW X (.BoolOp .And (a::b::rest) pos) (XH tA tB'):=by
 intro wh pins s σ H Q I h
 refine isTrue_and (gD (ha pins s σ H _ I h) fun c s1 ⟨H1,I1,q1⟩=>?_)
 cases c with
 | true=>exact hb wh pins s1 σ H1 Q I1 q1
 | false=>exact ⟨H1,I1,q1⟩
theorem Ou(ha:PT X a tA)(hb:PW X (.BoolOp .Or (b::rest) pos) tB'):PW X (.BoolOp .Or (a::b::rest) pos) (Yw tA tB'):=by
 intro wh pins s σ H Q I h
 refine isTrue_or (gD (ha pins s σ H _ I h) fun c s1 ⟨H1,I1,q1⟩=>?_)
 cases c with
 | true=>exact ⟨H1,I1,q1⟩
 | false=>exact hb wh pins s1 σ H1 Q I1 q1
theorem Ak(ha:PT X a tA):PT X (.UnaryOp .Not a pos) (XD tA):=by
 intro pins s σ H Q I h
 exact isTrue_not (ha pins s σ H (fun c H1=>Q (!c) H1) I h)
def XW(ta tb:TE):TE:=fun σ H Q=>ta σ H fun x H1=> ∃c,x= .bl c/\if c=true then Q (.bl true) H1 else tb σ H1 Q
theorem Wc{op}{t:TE}(h:PE X a t):PE X (.BoolOp op [a] pos) t:=fun pins s σ H Q I hw=>BoolOp_one (h pins s σ H Q I hw)
theorem WG(ha:PE X a ta)(hb:PE X (.BoolOp .Or (b::rest) pos) tb):PE X (.BoolOp .Or (a::b::rest) pos) (XW ta tb):=by
 intro pins s σ H Q I h
 refine BoolOp_or (gD (ha pins s σ H _ I h) fun v s1 ⟨x,H1,I1,r1,q1⟩=>?_)
 obtain ⟨c,rfl,q1⟩:=q1
 cases r1
 refine wpAny_truthy_bool ?_
 cases c with
 | false=>exact hb pins s1 σ H1 Q I1 q1
 | true=>exact ⟨.bl true,H1,I1,rfl,q1⟩
def WD(t:TT)(ta tb:TE):TE:=fun σ H Q=>t σ H fun c H1=>if c=true then ta σ H1 Q else tb σ H1 Q
theorem u9{c:Expr}(hc:PT X c tA)(ha:PE X a ta)(hb:PE X b tb):PE X (.IfExp c a b pos) (WD tA ta tb):=by
 intro pins s σ H Q I h
 refine wpAny_IfExp (gD (hc pins s σ H _ I h) fun d s1 ⟨H1,I1,q1⟩=>?_)
 cases d with
 | true=>exact ha pins s1 σ H1 Q I1 q1
 | false=>exact hb pins s1 σ H1 Q I1 q1
end
end L2
namespace L2
open PySem PySem.Spec PyProof.Rows
def b_(K:W.Frag)(H:Hp)(a:Addr)(xs:List V):Prop:=
 Rd H a (.lst xs)\/
  ∃(o:Obj) (its:Array Value) (n:Nat),K.lookup a=some o/\o.cls= .type "list"/\o.dict=none/\o.data= .seq its n/\its.size<=sizeLine/\Vals xs its.toList
def jn(K:W.Frag)(H:Hp)(a:Addr)(xs:List V):Prop:=
 Rd H a (.tup xs)\/
  ∃(o:Obj) (its:Array Value) (n:Nat),K.lookup a=some o/\o.cls= .type "tuple"/\o.data= .seq its n/\its.size<=sizeLine/\Vals xs its.toList
def Ye:Value->Option V
 | .none=>some .dh
 | .bool b=>some (.bl b)
 | .int i _=>some (.int i)
 | .str x _=>some (.str x)
 | .bytes b _=>some (.K9 b)
 | .float b _=>some (.GY b)
 | .ref a=>some (.ref a)
 | .type n=>some (.ty n)
 | _=>none
theorem RelV.abs{x:V}{u:Value}(r:RelV x u):Ye u=some x:=by
 cases x with
 | dh=>cases r;rfl
 | bl _=>cases r;rfl
 | int _=>obtain ⟨t,rfl⟩:=r;rfl
 | str _=>obtain ⟨t,rfl⟩:=r;rfl
 | K9 _=>obtain ⟨t,rfl⟩:=r;rfl
 | GY _=>obtain ⟨t,rfl⟩:=r;rfl
 | ref _=>cases r;rfl
 | ty _=>cases r;rfl
theorem RelV.inj{x y:V}{u:Value}(r:RelV x u)(q:RelV y u):x=y:=Option.some.inj (r.abs.symm.trans q.abs)
theorem Vals.inj: ∀ {xs ys:List V} {us:List Value},Vals xs us->Vals ys us->xs=ys
 | _,_,_,.nil,.nil=>rfl
 | _,_,_,.cons r t,.cons r' t'=>by rw [r.inj r',Vals.inj t t']
section
variable {X:Cx} {pins:List (Addr×Obj)} {σ:St} {H:Hp} {s:Shared} {a:Addr} {xs ys:List V}
theorem b_.of{K:W.Frag}(h:H a=some (.lst xs)):b_ K H a xs:= .inl (.inl h)
theorem jn.of{K:W.Frag}(h:H a=some (.tup xs)):jn K H a xs:= .inl (.inl h)
theorem Inv.list(I:Inv X pins σ H s)(h:b_ X.K H a xs): ∃its:List Value,Vals xs its/\PlainL s.heap a its.toArray/\xs.length<=sizeLine:=by
 rcases h with h | ⟨o,its,n,hk,hc,hd,hs,hz,r⟩
 ·obtain ⟨z,its,n,r,e⟩:=h.ok I.hok
  exact ⟨its,r,⟨_,n,e,rfl,rfl,rfl⟩,z⟩
 ·refine ⟨its.toList,r,⟨o,n,I.GX a o hk,hc,hd,by simpa using hs⟩,?_⟩
  have e:=r.length
  simp only [Array.length_toList] at e
  lia
theorem Inv.tuple(I:Inv X pins σ H s)(h:jn X.K H a xs): ∃its:List Value,Vals xs its/\IsTup s.heap a its.toArray/\xs.length<=sizeLine:=by
 rcases h with h | ⟨o,its,n,hk,hc,hs,hz,r⟩
 ·obtain ⟨z,its,r,p⟩:=h.ok I.hok
  exact ⟨its,r,p,z⟩
 ·refine ⟨its.toList,r,⟨o,I.GX a o hk,hc,n,by simpa using hs⟩,?_⟩
  have e:=r.length
  simp only [Array.length_toList] at e
  lia
theorem Inv.Rt(I:Inv X pins σ H s)(h:b_ X.K H a xs)(h':b_ X.K H a ys):xs=ys:=by
 obtain ⟨its,r,⟨o,n,e,_,_,d⟩,_⟩:=I.list h
 obtain ⟨its',r',⟨o',n',e',_,_,d'⟩,_⟩:=I.list h'
 rw [e] at e';cases e'
 rw [d] at d'
 injection d' with d1 _
 have:its=its':=by simpa using congrArg Array.toList d1
 subst this
 exact r.inj r'
theorem Inv.QV(I:Inv X pins σ H s)(h:jn X.K H a xs)(h':jn X.K H a ys):xs=ys:=by
 obtain ⟨its,r,⟨o,e,_,n,d⟩,_⟩:=I.tuple h
 obtain ⟨its',r',⟨o',e',_,n',d'⟩,_⟩:=I.tuple h'
 rw [e] at e';cases e'
 rw [d] at d'
 injection d' with d1 _
 have:its=its':=by simpa using congrArg Array.toList d1
 subst this
 exact r.inj r'
end
abbrev Cx.Ho(X:Cx)(E:Value->Shared->Prop):Cx:={X with xe:=E}
abbrev Cx.WS(X:Cx):Cx:=X.Ho fun _ _=>False
theorem Cx.Ok.Ho{X:Cx}(ok:X.Ok)(E:Value->Shared->Prop):(X.Ho E).Ok:=
 ⟨ok.mod,ok.kind,ok.glob,ok.blt,ok.above,ok.inj,ok.has,ok.V3,ok.hd,ok.frames,ok.stk,ok.Ww,ok.bs,ok.Q5,ok.N_,ok.Oe,ok.BP,ok.UI⟩
theorem Cx.Ok.xY{X:Cx}{E:Value->Shared->Prop}(ok:(X.Ho E).Ok):X.Ok:=
 ⟨ok.mod,ok.kind,ok.glob,ok.blt,ok.above,ok.inj,ok.has,ok.V3,ok.hd,ok.frames,ok.stk,ok.Ww,ok.bs,ok.Q5,ok.N_,ok.Oe,ok.BP,ok.UI⟩
section
variable {X:Cx} {pins:List (Addr×Obj)} {σ:St} {H:Hp} {s:Shared} {E:Value->Shared->Prop}
theorem Inv.Ho(I:Inv X pins σ H s)(E:Value->Shared->Prop):Inv (X.Ho E) pins σ H s:=⟨I.ok.Ho E,I.os,I.bare,I.base,I.loc,I.cell,I.free,I.n9,I.pin,I.hok,I.len⟩
theorem Inv.xY(I:Inv (X.Ho E) pins σ H s):Inv X pins σ H s:=⟨I.ok.xY,I.os,I.bare,I.base,I.loc,I.cell,I.free,I.n9,I.pin,I.hok,I.len⟩
theorem SP.xY{D:Ends}{f:Flow}{s':Shared}(h:SP (X.Ho E) pins D f s'):SP X pins D f s':=by
 cases f with
 | next=>obtain ⟨σ',H',I,q⟩:=h;exact ⟨σ',H',I.xY,q⟩
 | brk=>obtain ⟨σ',H',I,q⟩:=h;exact ⟨σ',H',I.xY,q⟩
 | cont=>obtain ⟨σ',H',I,q⟩:=h;exact ⟨σ',H',I.xY,q⟩
 | ret u=>obtain ⟨v,σ',H',I,r,q⟩:=h;exact ⟨v,σ',H',I.xY,r,q⟩
theorem Mv.WS{st:List Stmt}{t:TS}(h:Mv X.WS st t):Mv X st t:=fun pins s σ H D I hw=>
 wpAny_mono (h pins s σ H D (I.Ho _) hw) (fun _ _ q=>q.xY) fun _ _ z=>False.elim z
end
section
variable {X:Cx} {st:Stmt} {rest:List Stmt} {t u:TS} {e:Expr} {te:TE} {pos:Pos}
def IW:TS:=fun D σ H=>D.nx σ H
def AJ(t u:TS):TS:=fun D σ H=>t {D with nx:=u D} σ H
theorem aU:Mv X [] IW:=fun _ _ σ H _ I h=>wpAny_execs_nil ⟨σ,H,I,h⟩
theorem ah(h1:PS X st t)(h2:Mv X rest u):Mv X (st::rest) (AJ t u):=by
 intro pins s σ H D I h
 refine wpAny_execs_cons (gD (h1 pins s σ H {D with nx:=u D} I h) fun f s1 q=>?_)
 cases f with
 | next=>
  obtain ⟨σ',H',I',q⟩:=q
  exact h2 pins s1 σ' H' D I' q
 | ret v=>exact q
 | brk=>exact q
 | cont=>exact q
theorem aj(h1:PS X st t):Mv X [st] t:=by
 intro pins s σ H D I h
 refine wpAny_execs_cons (gD (h1 pins s σ H D I h) fun f s1 q=>?_)
 cases f with
 | next=>exact wpAny_execs_nil q
 | ret v=>exact q
 | brk=>exact q
 | cont=>exact q
theorem Inv.quiet{pins:List (Addr×Obj)}{σ:St}{H:Hp}{s:Shared}(I:Inv X pins σ H s):interactive X.env=false:=by simp [interactive,I.ok.kind]
def FL(te:TE):TS:=fun D σ H=>te σ H fun _ H1=>D.nx σ H1
theorem cJ(he:PE X e te)(hs:swapsWith e none pos.line X.env=pure false:=by rfl):PS X (.Expr e pos) (FL te):=by
 intro pins s σ H D I h
 exact wpAny_Expr_any (gD (he pins s σ H _ I h) fun v s1 ⟨x,H1,I1,r1,q1⟩=>⟨σ,H1,I1,q1⟩) I.quiet hs
def BI(te:TE):TS:=fun D σ H=>te σ H D.rt
theorem aD(he:PE X e te):PS X (.Return (some e) pos) (BI te):=by
 intro pins s σ H D I h
 exact wpAny_Return_some (gD (he pins s σ H _ I h) fun v s1 ⟨x,H1,I1,r1,q1⟩=>⟨x,σ,H1,I1,r1,q1⟩)
def Sa(c:TT)(t u:TS):TS:=fun D σ H=>c σ H fun b H1=>if b=true then t D σ H1 else u D σ H1
theorem b6{c:Expr}{a b:List Stmt}{tc:TT}(hc:PT X c tc)(ha:Mv X a t)(hb:Mv X b u):PS X (.If c a b pos) (Sa tc t u):=by
 intro pins s σ H D I h
 refine wpAny_If (gD (hc pins s σ H _ I h) fun d s1 ⟨H1,I1,q1⟩=>?_)
 cases d with
 | true=>exact ha pins s1 σ H1 D I1 q1
 | false=>exact hb pins s1 σ H1 D I1 q1
end
abbrev TG:=V->St->Hp->(St->Hp->Prop)->Prop
def PG(X:Cx)(target:Expr)(t:TG):Prop:=
 ∀(pins:List (Addr×Obj)) (s:Shared) (σ:St) (H:Hp) (v:V) (u:Value) (Q:St->Hp->Prop),Inv X pins σ H s->RelV v u->t v σ H Q->
  wpAny (model X.prog X.w) X.A (assign target X.env u) (fun _ s'=> ∃σ' H',Inv X pins σ' H' s'/\Q σ' H') X.xe s
abbrev X4:=V->V->Hp->VK->Prop
def Yz(X:Cx)(op:Operator)(t:X4):Prop:=
 ∀(pins:List (Addr×Obj)) (s:Shared) (σ:St) (H:Hp) (x y:V) (v u:Value) (Q:VK),Inv X pins σ H s->RelV x v->RelV y u->t x y H Q->
  wpAny (model X.prog X.w) X.A (inplaceOp op v u) (EP X pins σ Q) X.xe s
section
variable {X:Cx} {pos:Pos}
def mR(i:Nat):TG:=fun v σ H Q=>Q (σ.set i (some v)) H
theorem b9{i:Nat}{x:Str}(hN:X.N.Nodup)(hi:X.N[i]?=some x)(hx:Loc X.env.scope x)(hf:X.fn x=true\/X.env.scope.names.lookup x=some .local:=by first | exact .inl rfl | exact .inr rfl | assumption):PG X (.Name x pos) (mR i):=by
 intro pins s σ H v u Q I r h
 exact wpAny_assign_Name (B6 I hN hi hx r (fun s' I'=>⟨_,H,I',h⟩) hf)
def DL(te:TE)(g:TG):TS:=fun D σ H=>te σ H fun x H1=>g x σ H1 D.nx
theorem aF{i:Nat}{x:Str}{e:Expr}{te:TE}{pos':Pos}(hN:X.N.Nodup)(hi:X.N[i]?=some x)(hx:Loc X.env.scope x)(he:PE X e te)(hs:swapsWith e (some (.Name x pos')) pos.line X.env=pure false:=by rfl)(hf:X.fn x=true\/X.env.scope.names.lookup x=some .local:=by first | exact .inl rfl | exact .inr rfl | assumption):
  PS X (.Assign [.Name x pos'] e pos) (DL te (mR i)):=by
 intro pins s σ H D I h
 refine wpAny_Assign_Name (gD (he pins s σ H _ I h) fun v s1 ⟨y,H1,I1,r1,q1⟩=>?_) hs
 exact B6 I1 hN hi hx r1 (fun s2 I2=>⟨_,H1,I2,q1⟩) hf
def WB(i:Nat)(te:TE)(ti:X4):TS:=fun D σ H=> ∃x,σ[i]?=some (some x)/\te σ H fun y H1=>ti x y H1 fun z H2=>D.nx (σ.set i (some z)) H2
theorem VJ{i:Nat}{x:Str}{e:Expr}{te:TE}{op:Operator}{ti:X4}{pos':Pos}(hN:X.N.Nodup)(hi:X.N[i]?=some x)(hx:Loc X.env.scope x)(he:PE X e te)(ho:Yz X op ti)(hf:X.fn x=true\/X.env.scope.names.lookup x=some .local:=by first | exact .inl rfl | exact .inr rfl | assumption):
  PS X (.AugAssign (.Name x pos') op e pos) (WB i te ti):=by
 intro pins s σ H D I h
 obtain ⟨v,e1,h⟩:=h
 obtain ⟨m,hn,hl⟩:=I.loc
 have vis:Wz X.env.scope x:=by rcases hx with k | k;exact .inl k;exact .inr (.inl k)
 obtain ⟨u,r,l⟩:=hl i x v hi e1 vis
 refine wpAny_AugAssign_Name ?_
 have go:wpAny (model X.prog X.w) X.A (eval e X.env) (fun w s₂=>wpAny (model X.prog X.w) X.A (inplaceOp op u w) (fun r s₃=>wpAny (model X.prog X.w) X.A (storeName X.env x r) (fun _=>SP X pins D .next) X.xe s₃) X.xe s₂) X.xe s:=by
  refine gD (he pins s σ H _ I h) fun w s1 ⟨y,H1,I1,r1,q1⟩=>?_
  refine gD (ho pins s1 σ H1 v y u w _ I1 r r1 q1) fun z s2 ⟨zv,H2,I2,r2,q2⟩=>?_
  exact B6 I2 hN hi hx r2 (fun s3 I3=>⟨_,H2,I3,q2⟩) hf
 rcases l with ⟨hk,hm⟩ | ⟨hk,c,hc,hcell⟩
 ·exact wpAny_loadName_local I.ok.kind hk hn hm go
 ·rcases hk with hk | hk
  ·exact wpAny_loadName_cell I.ok.kind hk hc hcell go
  ·rcases hx with k | k
   ·have:X.env.scope.names.lookup x=some .free:=hk
    rw [k] at this;cases this
   ·have:X.env.scope.names.lookup x=some .free:=hk
    rw [k] at this;cases this
end
section
variable {X:Cx} {pos:Pos}
def Fi(c:TT)(tb:TS):TS:=fun D σ H=> ∃W:Nat->St->Hp->Prop,(∃m,W m σ H)/\ ∀m σ H,W m σ H->
 c σ H fun b H1=>if b=true then ∃N:St->Hp->Prop,(∀σ' H',N σ' H'-> ∃m',m' < m/\W m' σ' H')/\tb {D with nx:=N,ct:=N,bk:=D.nx} σ H1 else D.nx σ H1
theorem ow{c:Expr}{body:List Stmt}{tc:TT}{tb:TS}(hp:PassesOwn (model X.prog X.w) X.A X.env X.xe)(hc:PT X c tc)(hb:Mv X body tb):PS X (.While c body [] pos) (Fi tc tb):=by
 intro pins s σ H D I h
 obtain ⟨W,⟨m0,w0⟩,turn⟩:=h
 refine wpAny_While (codeAny_whileLoop (fun n s'=> ∃σ' H',Inv X pins σ' H' s'/\W n σ' H') ?_ m0 ⟨σ,H,I,w0⟩)
 rintro n s1 ⟨σ1,H1,I1,w1⟩
 refine wpAny_passesOwn hp (gD (hc pins s1 σ1 H1 _ I1 (turn n σ1 H1 w1)) fun b s2 ⟨H2,I2,q2⟩=>?_)
 cases b with
 | true=>
  obtain ⟨N,hN,q2⟩:=q2
  rw [if_pos rfl]
  refine wpAny_passesOwn hp (gD (hb pins s2 σ1 H2 _ I2 q2) fun f s3 q3=>?_)
  cases f with
  | next=>
   obtain ⟨σ3,H3,I3,n3⟩:=q3
   obtain ⟨m',hm,w3⟩:=hN σ3 H3 n3
   exact ⟨m',hm,σ3,H3,I3,w3⟩
  | cont=>
   obtain ⟨σ3,H3,I3,n3⟩:=q3
   obtain ⟨m',hm,w3⟩:=hN σ3 H3 n3
   exact ⟨m',hm,σ3,H3,I3,w3⟩
  | brk=>exact q3
  | ret v=>exact q3
 | false=>
  rw [if_neg YZ]
  exact wpAny_execs_nil ⟨σ1,H2,I2,q2⟩
end
structure It where
 go:Nat->Hp->Prop
 Tr:Nat->Hp->V->Hp->Prop
 stop:Nat->Hp->Prop
def Hu(X:Cx)(pins:List (Addr×Obj))(H:Hp)(b:Addr):Prop:=
 H b=none/\b≠X.env.locals/\b ∉ X.fs/\(b ∈ X.ex\/X.D8.heap.objs.size<=b)/\(∀x c,X.env.cells.lookup x=some c->c≠b)/\ ∀p ∈ X.pn++pins,p.1≠b
theorem Inv.RJ{X:Cx}{pins:List (Addr×Obj)}{σ:St}{H H':Hp}{s:Shared}{b:Addr}(I:Inv X pins σ H s)(hb:s.heap.objs.size<=b)(hn:H' b=none):Hu X pins H' b:=by
 refine ⟨hn,Nat.ne_of_gt (YV I.lt hb),I.X5 hb,.inr (Y4 I.sz hb),fun x c e z=>?_,fun p hp z=>?_⟩
 ·obtain ⟨v,q⟩:=I.cell x c e
  exact absurd (YV q.lt (by rw [z];exact hb)) (Nat.lt_irrefl _)
 ·exact absurd (YV (Heap.lt_size (I.pin p hp).1) (by rw [z];exact hb)) (Nat.lt_irrefl _)
structure Turn(P:Program)(w:World)(K:W.Frag)(tg:Expr)(J:It)(fp:List Addr)(it:Addr)(tn:Nat->Heap->Prop):Prop where
 mem:it ∈ fp
 obj: ∀i h,tn i h-> ∀b ∈ fp,∃o,h.get? b=some o/\ ∀v,o.data≠ .cell v
 keep: ∀i h h',tn i h->(∀b ∈ fp,∀o,h.get? b=some o->h'.get? b=some o)->tn i h'
 item: ∀(X:Cx),X.prog=P->X.w=w->X.K=K->X.calm=true-> ∀(i:Nat) (pins:List (Addr×Obj)) (s:Shared) (σ:St) (H:Hp) (E:Value->Shared->Prop),Inv X pins σ H s->(∀b ∈ fp,Hu X pins H b)->tn i s.heap->J.go i H->
  wpAny (model P w) X.A (pyNext (.ref it)) (fun r s1=> ∃u,r=some u/\
   wpAny (model P w) X.A (letOwnedTupleGo tg (.ref it) u) (fun _ s2=> ∃x H',Inv X pins σ H' s2/\RelV x u/\J.Tr i H x H'/\tn (i + 1) s2.heap/\ ∀b ∈ fp,H' b=none) E s1) E s
 done: ∀(X:Cx),X.prog=P->X.w=w->X.K=K->X.calm=true-> ∀(i:Nat) (pins:List (Addr×Obj)) (s:Shared) (σ:St) (H:Hp) (E:Value->Shared->Prop),Inv X pins σ H s->(∀b ∈ fp,Hu X pins H b)->tn i s.heap->J.stop i H->
  wpAny (model P w) X.A (pyNext (.ref it)) (fun r s1=>r=none/\Inv X pins σ H s1) E s
 self: ∀(A:Around) (i:Nat) (s:Shared) (Q:Value->Shared->Prop) (E:Value->Shared->Prop),tn i s.heap->Q (.ref it) s->wpAny (model P w) A (pyIter (.ref it)) Q E s
abbrev TI:=St->Hp->(It->Hp->Prop)->Prop
def Yk(X:Cx)(pins:List (Addr×Obj))(σ:St)(tg:Expr)(R:It->Hp->Prop)(itv:Value)(s2:Shared):Prop:=
 ∃(it:Addr) (fp:List Addr) (tn:Nat->Heap->Prop) (J:It) (H':Hp),itv= .ref it/\Inv X pins σ H' s2/\Turn X.prog X.w X.K tg J fp it tn/\tn 0 s2.heap/\(∀b ∈ fp,Hu X pins H' b)/\R J H'
def PI(X:Cx)(tg iter:Expr)(wi:TI):Prop:=
 ∀(pins:List (Addr×Obj)) (s:Shared) (σ:St) (H:Hp) (R:It->Hp->Prop),Inv X pins σ H s->wi σ H R->
  wpAny (model X.prog X.w) X.A (eval iter X.env) (fun v s1=>wpAny (model X.prog X.w) X.A (pyIter v) (Yk X pins σ tg R) X.xe s1) X.xe s
theorem OD {M:Model} {A:Around} {E:Value->Shared->Prop} {s:Shared} {tg:Expr} {it:Addr} {u:Value} {o:Obj} {n:String} {vs:Array Value} {Q:Unit->Shared->Prop} (ho:s.heap.get? it=some o) (hc:o.cls= .type n) (hd:o.data= .fields vs)
    (hn: ["enumerate","zip","dict_itemiterator","dict_reverseitemiterator","odict_iterator","itertools.zip_longest","itertools.pairwise"].contains n=false) (hQ:Q () s):wpAny M A (letOwnedTupleGo tg (.ref it) u) Q E s:=by
  unfold letOwnedTupleGo
  cases tg <;> first
    | exact wpAny_pure hQ
    | (cases u <;> first
        | exact wpAny_pure hQ
        | (refine wpAny_bind (wpAny_load ho ?_)
           rw [hc,hd]
           show wpAny M A (if (["enumerate","zip","dict_itemiterator","dict_reverseitemiterator","odict_iterator","itertools.zip_longest","itertools.pairwise"].contains n && vs[0]? == some (rawInt _))=true then _ else _) Q E s
           rw [if_neg (by intro h;rw [hn,Bool.false_and] at h;cases h)]
           exact wpAny_pure hQ))
def RK(K:W.Frag)(a:Addr):It:=
 ⟨fun i H=> ∃xs x,b_ K H a xs/\xs[i]?=some x,fun i H x H'=>H'=H/\ ∀xs,b_ K H a xs->xs[i]?=some x,fun i H=> ∃xs,b_ K H a xs/\xs.length<=i⟩
def Xg(K:W.Frag)(a:Addr):It:=
 ⟨fun i H=> ∃xs x,jn K H a xs/\xs[i]?=some x,fun i H x H'=>H'=H/\ ∀xs,jn K H a xs->xs[i]?=some x,fun i H=> ∃xs,jn K H a xs/\xs.length<=i⟩
def Tp(lo:Int)(n:Nat):It:=⟨fun i _=>i < n,fun i H x H'=>H'=H/\x= .int (lo + i),fun i _=>n<=i⟩
theorem Qh{P:Program}{w:World}{K:W.Frag}{tg:Expr}(a it:Addr):Turn P w K tg (RK K a) [it] it (fun i h=>h.IsListIter it a i) where
 mem:=by simp
 obj:=fun i h st b hb=>by
  have e:b=it:=by simpa using hb
  subst e
  obtain ⟨o,e,c,d⟩:=st
  exact ⟨o,e,fun v z=>by rw [d] at z;cases z⟩
 keep:=fun i h h' st k=>st.at fun o e=>k it (by simp) o e
 item:=by
  intro X hP hw hK hc i pins s σ H E I hf st hg
  subst hP hw hK
  obtain ⟨xs,x,hq,hx⟩:=hg
  obtain ⟨its,rv,p,hz⟩:=I.list hq
  obtain ⟨u,hu,ru⟩:=rv.get hx
  obtain ⟨f0,f1,f2,f3,f4,f5⟩:=hf it (by simp)
  refine wpAny_pyNext_list_item st p.isList (x:=u) (by simpa using hu) fun h' st' sb=>?_
  have I1:Inv X pins σ H {s with heap:=h'}:=I.turned (t':=s.toks) (fun b o hb e=>(sb.2 b hb).trans e) f0 f1 f3 f4 f5
  obtain ⟨o,e,c,d⟩:=id st'
  exact ⟨u,rfl,OD (s:={s with heap:=h'}) e c d (by decide) ⟨x,H,I1,ru,⟨rfl,fun ys hy=>by rw [I.Rt hy hq];exact hx⟩,st',fun b hb=>(hf b hb).1⟩⟩
 done:=by
  intro X hP hw hK hc i pins s σ H E I hf st hg
  subst hP hw hK
  obtain ⟨xs,hq,hx⟩:=hg
  obtain ⟨its,rv,p,hz⟩:=I.list hq
  obtain ⟨f0,f1,f2,f3,f4,f5⟩:=hf it (by simp)
  have hl:=rv.length
  exact wpAny_pyNext_list_end (I.ok.hd hc) st p.isList (by simp;lia) fun h' eb=>⟨rfl,I.turned (t':=s.toks) (fun b o hb e=>eb b o hb e) f0 f1 f3 f4 f5⟩
 self:=fun _ _ _ _ _ st h=>wpAny_pyIter_listiter st h
theorem Nv{P:Program}{w:World}{K:W.Frag}{tg:Expr}(a it:Addr):Turn P w K tg (Xg K a) [it] it (fun i h=>h.IsTupleIter it a i) where
 mem:=by simp
 obj:=fun i h st b hb=>by
  have e:b=it:=by simpa using hb
  subst e
  obtain ⟨o,e,c,d⟩:=st
  exact ⟨o,e,fun v z=>by rw [d] at z;cases z⟩
 keep:=fun i h h' st k=>st.at fun o e=>k it (by simp) o e
 item:=by
  intro X hP hw hK hc i pins s σ H E I hf st hg
  subst hP hw hK
  obtain ⟨xs,x,hq,hx⟩:=hg
  obtain ⟨its,rv,p,hz⟩:=I.tuple hq
  obtain ⟨u,hu,ru⟩:=rv.get hx
  obtain ⟨f0,f1,f2,f3,f4,f5⟩:=hf it (by simp)
  refine wpAny_pyNext_tuple_item st (show s.heap.IsTuple a its.toArray from p) (x:=u) (by simpa using hu) fun h' st' sb=>?_
  have I1:Inv X pins σ H {s with heap:=h'}:=I.turned (t':=s.toks) (fun b o hb e=>(sb.2 b hb).trans e) f0 f1 f3 f4 f5
  obtain ⟨o,e,c,d⟩:=id st'
  exact ⟨u,rfl,OD (s:={s with heap:=h'}) e c d (by decide) ⟨x,H,I1,ru,⟨rfl,fun ys hy=>by rw [I.QV hy hq];exact hx⟩,st',fun b hb=>(hf b hb).1⟩⟩
 done:=by
  intro X hP hw hK hc i pins s σ H E I hf st hg
  subst hP hw hK
  obtain ⟨xs,hq,hx⟩:=hg
  obtain ⟨its,rv,p,hz⟩:=I.tuple hq
  obtain ⟨f0,f1,f2,f3,f4,f5⟩:=hf it (by simp)
  have hl:=rv.length
  exact wpAny_pyNext_tuple_end (I.ok.hd hc) st (show s.heap.IsTuple a its.toArray from p) (by simp;lia) fun h' eb=>⟨rfl,I.turned (t':=s.toks) (fun b o hb e=>eb b o hb e) f0 f1 f3 f4 f5⟩
 self:=fun _ _ _ _ _ st h=>wpAny_pyIter_tupleiter st h
theorem Ot{P:Program}{w:World}{K:W.Frag}{tg:Expr}(it:Addr)(lo:Int)(n:Nat):Turn P w K tg (Tp lo n) [it] it (fun i h=>IsRangeIter h it (lo + (i:Nat) * 1) ((n:Int) - (i:Nat)) 1) where
 mem:=by simp
 obj:=fun i h st b hb=>by
  have e:b=it:=by simpa using hb
  subst e
  exact ⟨_,st,fun v z=>by
   have z':Data.fields _=Data.cell v:=z
   cases z'⟩
 keep:=fun i h h' st k=>k it (by simp) _ st
 item:=by
  intro X hP hw hK hc i pins s σ H E I hf st hg
  subst hP hw hK
  obtain ⟨f0,f1,f2,f3,f4,f5⟩:=hf it (by simp)
  have W:=Walks.range (prog:=X.prog) (w:=X.w) (I.ok.hd hc) it lo 1 n
  refine W.item i s _ _ hg st fun v h' tk hv st' kk=>?_
  obtain ⟨t,rfl⟩:=hv
  have I1:Inv X pins σ H {s with heap:=h',toks:=tk}:=I.turned (fun b o hb e=>kk b o (by simpa using hb) e) f0 f1 f3 f4 f5
  refine ⟨_,rfl,OD (s:={s with heap:=h',toks:=tk}) (n:="range_iterator") st' rfl rfl (by decide) ⟨.int (lo + i),H,I1,⟨t,?_⟩,⟨rfl,rfl⟩,st',fun b hb=>(hf b hb).1⟩⟩
  rw [Int.mul_one]
 done:=by
  intro X hP hw hK hc i pins s σ H E I hf st hg
  subst hP hw hK
  obtain ⟨f0,f1,f2,f3,f4,f5⟩:=hf it (by simp)
  exact wpAny_pyNext_range_end (I.ok.hd hc) st (by have:n<=i:=hg;lia) fun h' eb=>⟨rfl,I.turned (t':=s.toks) (fun b o hb e=>eb b o hb e) f0 f1 f3 f4 f5⟩
 self:=fun _ _ _ _ _ st h=>wpAny_pyIter_rangeiter st h
end L2
namespace L2
open PySem PySem.Spec PyProof.Rows
section
variable {X:Cx} {tg:Expr}
def ES(K:W.Frag)(tl:TE):TI:=fun σ H R=>tl σ H fun x H1=> ∃a,x= .ref a/\(∃xs,b_ K H1 a xs)/\R (RK K a) H1
def V_(K:W.Frag)(tl:TE):TI:=fun σ H R=>tl σ H fun x H1=> ∃a,x= .ref a/\(∃xs,jn K H1 a xs)/\R (Xg K a) H1
theorem dH{l:Expr}{tl:TE}(hl:PE X l tl):PI X tg l (ES X.K tl):=by
 intro pins s σ H R I h
 refine gD (hl pins s σ H _ I h) fun v s1 ⟨x,H1,I1,r1,q1⟩=>?_
 obtain ⟨a,e,⟨xs,hq⟩,q⟩:=q1
 subst e
 cases r1
 obtain ⟨its,rv,p,hz⟩:=I1.list hq
 refine wpAny_pyIter_list p.isList ?_
 refine ⟨s1.heap.objs.size,[s1.heap.objs.size],_,_,H1,rfl,I1.kept (t':=s1.toks) fun b o e=>Heap.get?_push_of_some _ e,Qh a _,⟨_,Heap.get?_push_size _ rfl,rfl,rfl⟩,fun b hb=>?_,q⟩
 have e:b=s1.heap.objs.size:=by simpa using hb
 subst e
 exact I1.RJ (YM _) (I1.hok.fresh (YM _))
theorem VT{l:Expr}{tl:TE}(hl:PE X l tl):PI X tg l (V_ X.K tl):=by
 intro pins s σ H R I h
 refine gD (hl pins s σ H _ I h) fun v s1 ⟨x,H1,I1,r1,q1⟩=>?_
 obtain ⟨a,e,⟨xs,hq⟩,q⟩:=q1
 subst e
 cases r1
 obtain ⟨its,rv,p,hz⟩:=I1.tuple hq
 refine wpAny_pyIter_tuple (show s1.heap.IsTuple a its.toArray from p) ?_
 refine ⟨s1.heap.objs.size,[s1.heap.objs.size],_,_,H1,rfl,I1.kept (t':=s1.toks) fun b o e=>Heap.get?_push_of_some _ e,Nv a _,⟨_,Heap.get?_push_size _ rfl,rfl,rfl⟩,fun b hb=>?_,q⟩
 have e:b=s1.heap.objs.size:=by simpa using hb
 subst e
 exact I1.RJ (YM _) (I1.hok.fresh (YM _))
theorem LP {pins:List (Addr×Obj)} {σ:St} {H:Hp} {s:Shared} {R:It->Hp->Prop} {E:Value->Shared->Prop} {lo hi:Int} {t u v:Tok} {tk:Nat} (I:Inv X pins σ H s) (h1: -(2 ^ 62)<=lo) (h2:lo < 2 ^ 62) (h3: -(2 ^ 62)<=hi) (h4:hi < 2 ^ 62)
  (q:R (Tp lo (hi - lo).toNat) H):wpAny (model X.prog X.w) X.A (pyIter (.ref s.heap.objs.size)) (Yk X pins σ tg R) E {s with heap:=s.heap.push {cls:= .type "range",data:= .fields #[.int lo t,.int hi u,.int 1 v]},toks:=tk}:=by
 refine wpAny_pyIter_range (IsRange.new ..) (small_one h1 h2 h3 h4) ?_
 have I1:Inv X pins σ H {s with heap:=s.heap.push {cls:= .type "range",data:= .fields #[.int lo t,.int hi u,.int 1 v]},toks:=tk}:=I.kept fun b o e=>Heap.get?_push_of_some _ e
 refine ⟨(s.heap.push {cls:= .type "range",data:= .fields #[.int lo t,.int hi u,.int 1 v]}).objs.size,[(s.heap.push {cls:= .type "range",data:= .fields #[.int lo t,.int hi u,.int 1 v]}).objs.size],_,_,H,rfl,
  I1.kept (t':=tk) fun b o e=>Heap.get?_push_of_some _ e,Ot _ lo (hi - lo).toNat,?_,fun b hb=>?_,q⟩
 ·have e1:lo + ((0:Nat):Int) * 1=lo:=by simp
  have e2:(((hi - lo).toNat:Nat):Int) - ((0:Nat):Int)=Builtin.Range.rangeSize lo hi 1:=by rw [rangeSize_one];split <;> lia
  show IsRangeIter _ _ (lo + ((0:Nat):Int) * 1) ((((hi - lo).toNat:Nat):Int) - ((0:Nat):Int)) 1
  rw [e1,e2]
  exact Heap.get?_push_size _ rfl
 ·have e:b=(s.heap.push {cls:= .type "range",data:= .fields #[.int lo t,.int hi u,.int 1 v]}).objs.size:=by simpa using hb
  subst e
  exact I1.RJ (YM _) (I1.hok.fresh (YM _))
def Xh(ta:TA):TI:=fun σ H R=>ta σ H fun vs H1=> ∃j:Int,vs= [.int j]/\ -(2 ^ 62)<=j/\j < 2 ^ 62/\R (Tp 0 j.toNat) H1
def U9(ta:TA):TI:=fun σ H R=>ta σ H fun vs H1=> ∃i j:Int,vs= [.int i,.int j]/\(-(2 ^ 62)<=i/\i < 2 ^ 62/\ -(2 ^ 62)<=j/\j < 2 ^ 62)/\R (Tp i (j - i).toNat) H1
theorem P6{a:Expr}{ta:TA}{p pos:Pos}(hg:Gl X "range")(hm:X.mg "range"=none)(ha:PA X [a] ta)(hs:starEach [a] X.env= [(false,eval a X.env)]:=by rfl):PI X tg (.Call (.Name "range" p) [a] [] pos) (Xh ta):=by
 intro pins s σ H R I h
 refine Call_ (Ka I hg hm boot_range (PyProof.Rows.callWith_type1 (gD (ha pos pins s σ H _ I h) fun us s1 ⟨vs,H1,I1,r1,q1⟩=>?_) hs rfl))
 obtain ⟨j,e,q1,q2,q⟩:=q1
 subst e
 cases r1 with
 | cons r rr=>
  cases rr
  obtain ⟨t,rfl⟩:=r
  exact call_range_1 (LP I1 (by lia) (by lia) q1 q2 (by simpa using q))
theorem Ce{a b:Expr}{ta:TA}{p pos:Pos}(hg:Gl X "range")(hm:X.mg "range"=none)(ha:PA X [a,b] ta)(hs:starEach [a,b] X.env= [(false,eval a X.env),(false,eval b X.env)]:=by rfl)(hs2:starEach [b] X.env= [(false,eval b X.env)]:=by rfl):
  PI X tg (.Call (.Name "range" p) [a,b] [] pos) (U9 ta):=by
 intro pins s σ H R I h
 refine Call_ (Ka I hg hm boot_range (PyProof.Rows.callWith_type1 (gD (ha pos pins s σ H _ I h) fun us s1 ⟨vs,H1,I1,r1,q1⟩=>?_) (by rw [hs,hs2]) (by rw [hs2];rfl)))
 obtain ⟨i,j,e,⟨q1,q2,q3,q4⟩,q⟩:=q1
 subst e
 cases r1 with
 | cons r rr=>
  cases rr with
  | cons r' rr=>
   cases rr
   obtain ⟨t,rfl⟩:=r
   obtain ⟨t',rfl⟩:=r'
   exact call_range_2 (LP I1 q1 q2 q3 q4 q)
def Xl(wi:TI)(g:TG)(tb:TS):TS:=fun D σ H=>wi σ H fun J H1=> ∃W:Nat->Nat->St->Hp->Prop,(∃m,W 0 m σ H1)/\ ∀i m σ H,W i m σ H->
 (J.stop i H/\D.nx σ H)\/(J.go i H/\ ∃N:St->Hp->Prop,(∀σ' H',N σ' H'-> ∃m',m' < m/\W (i + 1) m' σ' H')/\ ∀x H',J.Tr i H x H'->g x σ H' fun σ2 H2=>tb {D with nx:=N,ct:=N,bk:=D.nx} σ2 H2)
def F9(fp:List Addr)(h:Heap):List (Addr×Obj):=fp.filterMap fun b=>(h.get? b).map fun o=>(b,o)
theorem AI{fp:List Addr}{h:Heap}{b:Addr}{o:Obj}(hb:b ∈ fp)(e:h.get? b=some o):(b,o) ∈ F9 fp h:=List.mem_filterMap.mpr ⟨b,hb,by rw [e];rfl⟩
theorem PV{fp:List Addr}{h:Heap}{p:Addr×Obj}(hp:p ∈ F9 fp h):p.1 ∈ fp/\h.get? p.1=some p.2:=by
 obtain ⟨b,hb,e⟩:=List.mem_filterMap.mp hp
 cases q:h.get? b with
 | none=>rw [q] at e;cases e
 | some o=>
  rw [q] at e
  have e':(b,o)=p:=Option.some.inj e
  subst e'
  exact ⟨hb,q⟩
theorem Inv.pinned{pins:List (Addr×Obj)}{σ:St}{H:Hp}{s:Shared}{fp:List Addr}(I:Inv X pins σ H s)(hf: ∀b ∈ fp,Hu X pins H b)(ho: ∀b ∈ fp,∃o,s.heap.get? b=some o/\ ∀v,o.data≠ .cell v):Inv X (pins++F9 fp s.heap) σ H s:=
 I.OG fun p hp=>(Zb.mp hp).elim (fun z=>I.pin p (Za _ z)) fun z=>by
  obtain ⟨hb,e⟩:=PV z
  obtain ⟨f0,f1,f2,_⟩:=hf p.1 hb
  obtain ⟨o,e',d⟩:=ho p.1 hb
  rw [e] at e';cases e'
  exact ⟨e,f0,f1,f2,d⟩
theorem Inv.Bq{pins pl:List (Addr×Obj)}{σ:St}{H:Hp}{s:Shared}(I:Inv X (pins++pl) σ H s):Inv X pins σ H s:=I.OG fun p hp=>I.pin p (Za _ (Zi _ hp))
theorem jw {iter:Expr} {body:List Stmt} {wi:TI} {g:TG} {tb:TS} {pos:Pos} (hp:PassesOwn (model X.prog X.w) X.A X.env X.xe) (hc:X.calm=true) (hi:PI X tg iter wi) (hg:PG X tg g) (hb:Mv X body tb)
  (hs: ∀x,foldedSetIterable iter X.env x=pure x:=by intro _;rfl):PS X (.For tg iter body [] pos) (Xl wi g tb):=by
 intro pins s σ H D I h
 refine wpAny_For (gD (hi pins s σ H _ I h) fun v s1 h1=>gD h1 fun itv s2 h2=>?_) hs
 obtain ⟨it,fp,tn,J,H2,e,I2,T,st2,f2,W,⟨m0,w0⟩,turn⟩:=h2
 subst e
 have stat: ∀ {H':Hp},(∀b ∈ fp,H' b=none)-> ∀b ∈ fp,Hu X pins H' b:=fun hn b hb=>⟨hn b hb,(f2 b hb).2⟩
 refine codeAny_forLoop_any (fun n s'=> ∃i σ' H',Inv X pins σ' H' s'/\tn i s'.heap/\(∀b ∈ fp,H' b=none)/\W i n σ' H') ?_ m0 ⟨0,σ,H2,I2,st2,fun b hb=>(f2 b hb).1,w0⟩
 rintro n s3 ⟨i,σ3,H3,I3,st3,fr3,w3⟩
 rcases turn i n σ3 H3 w3 with ⟨stop,qn⟩ | ⟨go,N,hN,step⟩
 ·refine wpAny_passesOwn hp (gD (T.done X rfl rfl rfl hc i pins s3 σ3 H3 X.xe I3 (stat fr3) st3 stop) fun r s4 ⟨hr,I4⟩=>?_)
  subst hr
  exact wpAny_execs_nil ⟨σ3,H3,I4,qn⟩
 ·refine wpAny_passesOwn hp (gD (T.item X rfl rfl rfl hc i pins s3 σ3 H3 X.xe I3 (stat fr3) st3 go) fun r s4 ⟨u,hr,h4⟩=>?_)
  subst hr
  refine wpAny_passesOwn hp (gD h4 fun _ s5 ⟨x,H5,I5,r5,y5,st5,fr5⟩=>?_)
  have I5':=I5.pinned (stat fr5) (T.obj _ _ st5)
  refine wpAny_passesOwn hp (gD (hg _ s5 σ3 H5 x u _ I5' r5 (step x H5 y5)) fun _ s6 ⟨σ6,H6,I6,q6⟩=>?_)
  refine wpAny_passesOwn hp (gD (hb _ s6 σ6 H6 _ I6 q6) fun f s7 q7=>?_)
  have again: ∀ {σ7:St} {H7:Hp},Inv X (pins++F9 fp s5.heap) σ7 H7 s7->N σ7 H7-> ∃m,m < n/\ ∃i σ' H',Inv X pins σ' H' s7/\tn i s7.heap/\(∀b ∈ fp,H' b=none)/\W i m σ' H':=fun {σ7 H7} I7 n7=>by
   obtain ⟨m',hm,w7⟩:=hN σ7 H7 n7
   refine ⟨m',hm,i + 1,σ7,H7,I7.Bq,T.keep _ _ _ st5 fun b hb o e=>(I7.pin (b,o) (Za _ (Za _ (AI hb e)))).1,fun b hb=>?_,w7⟩
   obtain ⟨o,e,d⟩:=T.obj _ _ st5 b hb
   exact (I7.pin (b,o) (Za _ (Za _ (AI hb e)))).2.1
  cases f with
  | next=>obtain ⟨σ7,H7,I7,n7⟩:=q7;exact again I7 n7
  | cont=>obtain ⟨σ7,H7,I7,n7⟩:=q7;exact again I7 n7
  | brk=>obtain ⟨σ7,H7,I7,q7⟩:=q7;exact ⟨σ7,H7,I7.Bq,q7⟩
  | ret v=>obtain ⟨x7,σ7,H7,I7,r7,q7⟩:=q7;exact ⟨x7,σ7,H7,I7.Bq,r7,q7⟩
end
theorem gO {K:W.Frag} {a:Addr} {xs:List V} {g:TG} {tb:TS} {D:Ends} {σ:St} {H:Hp} (Pv:Nat->St->Hp->Prop) (h0:Pv 0 σ H) (hl: ∀i σ H,i<=xs.length->Pv i σ H->b_ K H a xs)
  (hs: ∀i x σ H,xs[i]?=some x->Pv i σ H->g x σ H fun σ2 H2=>tb {D with nx:=Pv (i + 1),ct:=Pv (i + 1),bk:=D.nx} σ2 H2) (hd: ∀σ H,Pv xs.length σ H->D.nx σ H):
  ∃W:Nat->Nat->St->Hp->Prop,(∃m,W 0 m σ H)/\ ∀i m σ H,W i m σ H->
   ((RK K a).stop i H/\D.nx σ H)\/((RK K a).go i H/\ ∃N:St->Hp->Prop,(∀σ' H',N σ' H'-> ∃m',m' < m/\W (i + 1) m' σ' H')/\ ∀x H',(RK K a).Tr i H x H'->g x σ H' fun σ2 H2=>tb {D with nx:=N,ct:=N,bk:=D.nx} σ2 H2):=by
 refine ⟨fun i m σ H=>m=xs.length - i/\i<=xs.length/\Pv i σ H,⟨xs.length,by simp,YW _,h0⟩,?_⟩
 rintro i m σ H ⟨rfl,hi,p⟩
 have q:=hl i σ H hi p
 by_cases hlt:i < xs.length
 ·refine .inr ⟨⟨xs,xs[i],q,by simp [hlt]⟩,Pv (i + 1),fun σ' H' p'=>⟨xs.length - (i + 1),by lia,rfl,hlt,p'⟩,fun x H' y=>?_⟩
  obtain ⟨e,y⟩:=y
  subst e
  exact hs i x σ _ (y xs q) p
 ·have e:i=xs.length:=by lia
  subst e
  exact .inl ⟨⟨xs,q,YM _⟩,hd σ H p⟩
theorem CP {lo:Int} {n:Nat} {g:TG} {tb:TS} {D:Ends} {σ:St} {H:Hp} (Pv:Nat->St->Hp->Prop) (h0:Pv 0 σ H)
  (hs: ∀i σ H,i < n->Pv i σ H->g (.int (lo + i)) σ H fun σ2 H2=>tb {D with nx:=Pv (i + 1),ct:=Pv (i + 1),bk:=D.nx} σ2 H2) (hd: ∀σ H,Pv n σ H->D.nx σ H):
  ∃W:Nat->Nat->St->Hp->Prop,(∃m,W 0 m σ H)/\ ∀i m σ H,W i m σ H->
   ((Tp lo n).stop i H/\D.nx σ H)\/((Tp lo n).go i H/\ ∃N:St->Hp->Prop,(∀σ' H',N σ' H'-> ∃m',m' < m/\W (i + 1) m' σ' H')/\ ∀x H',(Tp lo n).Tr i H x H'->g x σ H' fun σ2 H2=>tb {D with nx:=N,ct:=N,bk:=D.nx} σ2 H2):=by
 refine ⟨fun i m σ H=>m=n - i/\i<=n/\Pv i σ H,⟨n,by simp,YW _,h0⟩,?_⟩
 rintro i m σ H ⟨rfl,hi,p⟩
 by_cases hlt:i < n
 ·refine .inr ⟨hlt,Pv (i + 1),fun σ' H' p'=>⟨n - (i + 1),by lia,rfl,hlt,p'⟩,fun x H' y=>?_⟩
  obtain ⟨e,y⟩:=y
  subst e y
  exact hs i σ _ hlt p
 ·have e:i=n:=by lia
  subst e
  exact .inl ⟨YM _,hd σ H p⟩
end L2
namespace L2
open PySem PySem.Spec PyProof.Rows
abbrev R2:=V->V->Hp->VK->Prop
def zN(X:Cx)(f:Value->Value->Sem Value)(r:R2):Prop:=
 ∀(pins:List (Addr×Obj)) (s:Shared) (σ:St) (H:Hp) (x y:V) (v u:Value) (Q:VK),Inv X pins σ H s->RelV x v->RelV y u->r x y H Q->
  wpAny (model X.prog X.w) X.A (f v u) (EP X pins σ Q) X.xe s
def Yl(X:Cx)(f:Value->Sem Value)(r:V->Hp->VK->Prop):Prop:=
 ∀(pins:List (Addr×Obj)) (s:Shared) (σ:St) (H:Hp) (x:V) (v:Value) (Q:VK),Inv X pins σ H s->RelV x v->r x H Q->
  wpAny (model X.prog X.w) X.A (f v) (EP X pins σ Q) X.xe s
def u_(X:Cx)(f:Value)(r:List V->Hp->VK->Prop):Prop:=
 ∀(pins:List (Addr×Obj)) (s:Shared) (σ:St) (H:Hp) (xs:List V) (us:List Value) (Q:VK),Inv X pins σ H s->Vals xs us->r xs H Q->
  wpAny (model X.prog X.w) X.A (call f us) (EP X pins σ Q) X.xe s
def Ep(r:R2)(ta tb:TE):TE:=fun σ H Q=>ta σ H fun x H1=>tb σ H1 fun y H2=>r x y H2 Q
def Xw(r:V->Hp->VK->Prop)(ta:TE):TE:=fun σ H Q=>ta σ H fun x H1=>r x H1 Q
def rI(C:Int->Int->Prop)(g:Int->Int->V):R2:=fun x y H Q=> ∃i j,x= .int i/\y= .int j/\C i j/\Q (g i j) H
def Ra(g:Int->Int->V):R2:=fun x y H Q=> ∃i j,x= .int i/\y= .int j/\Q (g i j) H
def rU(g:Int->V):V->Hp->VK->Prop:=fun x H Q=> ∃i,x= .int i/\Q (g i) H
section
variable {X:Cx} {a b c:Expr} {ta tb tc:TE} {pos:Pos}
theorem Vl (ha:PE X a ta) (hb:PE X b tb) {pins:List (Addr×Obj)} {s:Shared} {σ:St} {H:Hp} {R:V->V->Hp->Prop} (I:Inv X pins σ H s)
  (h:ta σ H fun x H1=>tb σ H1 fun y H2=>R x y H2) {Q:Value->Shared->Prop} {f:Value->Value->Sem Value}
  (hf: ∀v u s2 x y H2,Inv X pins σ H2 s2->RelV x v->RelV y u->R x y H2->wpAny (model X.prog X.w) X.A (f v u) Q X.xe s2):
  wpAny (model X.prog X.w) X.A (eval a X.env) (fun v s₁=>wpAny (model X.prog X.w) X.A (eval b X.env) (fun u s₂=>wpAny (model X.prog X.w) X.A (f v u) Q X.xe s₂) X.xe s₁) X.xe s:=by
 refine gD (ha pins s σ H _ I h) fun v s1 ⟨x,H1,I1,r1,q1⟩=>?_
 refine gD (hb pins s1 σ H1 _ I1 q1) fun u s2 ⟨y,H2,I2,r2,q2⟩=>?_
 exact hf v u s2 x y H2 I2 r1 r2 q2
theorem aR{op:Operator}{r:R2}(ho:zN X (binaryOp op) r)(ha:PE X a ta)(hb:PE X b tb):PE X (.BinOp a op b pos) (Ep r ta tb):=by
 intro pins s σ H Q I h
 exact wpAny_BinOp (Vl ha hb I h fun v u s2 x y H2 I2 rx ry q=>ho pins s2 σ H2 x y v u Q I2 rx ry q)
theorem C_{op:UnaryOp}{r:V->Hp->VK->Prop}(ho:Yl X (unaryOp op) r)(ha:PE X a ta):PE X (.UnaryOp op a pos) (Xw r ta):=by
 intro pins s σ H Q I h
 exact UnaryOp_ (gD (ha pins s σ H _ I h) fun v s1 ⟨x,H1,I1,r1,q1⟩=>ho pins s1 σ H1 x v Q I1 r1 q1)
theorem W4 {f:Value->Value->Sem Value} {C:Int->Int->Prop} {g:Int->Int->Int}
  (rule: ∀(i j:Int) (t u:Tok) (s:Shared) (Q:Value->Shared->Prop) (E:Value->Shared->Prop),C i j->Q (.int (g i j) s.toks) {s with toks:=s.toks + 1}->wpAny (model X.prog X.w) X.A (f (.int i t) (.int j u)) Q E s):
  zN X f (rI C fun i j=> .int (g i j)):=by
 intro pins s σ H x y v u Q I rx ry h
 obtain ⟨i,j,rfl,rfl,hc,q⟩:=h
 obtain ⟨t,rfl⟩:=rx
 obtain ⟨t',rfl⟩:=ry
 exact rule i j t t' s _ _ hc ⟨.int (g i j),H,I.tok _,⟨_,rfl⟩,q⟩
theorem Vp {f:Value->Value->Sem Value} {g:Int->Int->Int}
  (rule: ∀(i j:Int) (t u:Tok) (s:Shared) (Q:Value->Shared->Prop) (E:Value->Shared->Prop),Q (.int (g i j) s.toks) {s with toks:=s.toks + 1}->wpAny (model X.prog X.w) X.A (f (.int i t) (.int j u)) Q E s):
  zN X f (Ra fun i j=> .int (g i j)):=by
 intro pins s σ H x y v u Q I rx ry h
 obtain ⟨i,j,rfl,rfl,q⟩:=h
 obtain ⟨t,rfl⟩:=rx
 obtain ⟨t',rfl⟩:=ry
 exact rule i j t t' s _ _ ⟨.int (g i j),H,I.tok _,⟨_,rfl⟩,q⟩
theorem TY {f:Value->Value->Sem Value} {g:Int->Int->Bool}
  (rule: ∀(i j:Int) (t u:Tok) (s:Shared) (Q:Value->Shared->Prop) (E:Value->Shared->Prop),Q (.bool (g i j)) s->wpAny (model X.prog X.w) X.A (f (.int i t) (.int j u)) Q E s):
  zN X f (Ra fun i j=> .bl (g i j)):=by
 intro pins s σ H x y v u Q I rx ry h
 obtain ⟨i,j,rfl,rfl,q⟩:=h
 obtain ⟨t,rfl⟩:=rx
 obtain ⟨t',rfl⟩:=ry
 exact rule i j t t' s _ _ ⟨.bl (g i j),H,I,rfl,q⟩
theorem N2(k:Nat):(0:Int)<=2 ^ k:=by
 rw [two_pow_cast]
 exact Int.natCast_nonneg _
theorem kU:zN X (binaryOp .Add) (Ra fun i j=> .int (i + j)):=Vp fun _ _ _ _ _ _ _ q=>add_int q
theorem uz:zN X (binaryOp .Sub) (Ra fun i j=> .int (i - j)):=Vp fun _ _ _ _ _ _ _ q=>sub_int q
theorem Oa:zN X (binaryOp .Mod) (rI (fun _ j=>0 < j) fun i j=> .int (i % j)):=W4 fun i j _ _ _ _ _ hc q=>by
 have h1:(0:Int) < j:=hc
 exact mod_int' (by lia) (by rw [Int.fmod_eq_emod_of_nonneg i (by lia)];exact q)
theorem Wb:zN X (binaryOp .RShift) (rI (fun _ j=>0<=j) fun i j=> .int (i / 2 ^ j.toNat)):=W4 fun i j _ _ _ _ _ hc q=>
 rshift_int hc (by rw [Int.fdiv_eq_ediv_of_nonneg i (N2 _)];exact q)
theorem BB:zN X (inplaceOp .Add) (Ra fun i j=> .int (i + j)):=Vp fun _ _ _ _ _ _ _ q=>iadd_int q
theorem YB {f:Value->Sem Value} {g:Int->Int}
  (rule: ∀(i:Int) (t:Tok) (s:Shared) (Q:Value->Shared->Prop) (E:Value->Shared->Prop),Q (.int (g i) s.toks) {s with toks:=s.toks + 1}->wpAny (model X.prog X.w) X.A (f (.int i t)) Q E s):
  Yl X f (rU fun i=> .int (g i)):=by
 intro pins s σ H x v Q I rx h
 obtain ⟨i,rfl,q⟩:=h
 obtain ⟨t,rfl⟩:=rx
 exact rule i t s _ _ ⟨.int (g i),H,I.tok _,⟨_,rfl⟩,q⟩
theorem yg:Yl X (unaryOp .USub) (rU fun i=> .int (-i)):=YB fun _ _ _ _ _ q=>neg_int q
end
def Xc:V->V->Bool
 | .dh,.dh=>true | .dh,.int _=>true | .int _,.dh=>true | .dh,.bl _=>true | .bl _,.dh=>true | .dh,.str _=>true | .str _,.dh=>true
 | .int _,.int _=>true | .bl _,.bl _=>true | .str _,.str _=>true | .K9 _,.K9 _=>true
 | .int _,.str _=>true | .str _,.int _=>true | .bl _,.str _=>true | .str _,.bl _=>true
 | _,_=>false
def U8:R2:=fun x y H Q=>Xc x y=true/\Q (.bl (decide (x=y))) H
def Yv:R2:=fun x y H Q=>Xc x y=true/\Q (.bl (!decide (x=y))) H
theorem OC{i j:Int}:decide (V.int i=V.int j)=(i == j):=by
 rw [Bool.eq_iff_iff]
 simp
theorem S8{i j:Bool}:decide (V.bl i=V.bl j)=(i == j):=by
 rw [Bool.eq_iff_iff]
 simp
theorem Pa{i j:Str}:decide (V.str i=V.str j)=(i == j):=by
 rw [Bool.eq_iff_iff]
 simp
theorem Po{i j:Array UInt8}:decide (V.K9 i=V.K9 j)=(i.toList == j.toList):=by
 rw [Bool.eq_iff_iff]
 cases i
 cases j
 simp
section
variable {X:Cx} {a b c:Expr} {ta tb tc:TE} {pos:Pos}
theorem di{pins:List (Addr×Obj)}{σ:St}{H:Hp}{s:Shared}{Q:VK}{k k':Bool}(I:Inv X pins σ H s)(q:Q (.bl k) H)(e:k=k'):EP X pins σ Q (.bool k') s:=by
 subst e
 exact ⟨.bl k,H,I,rfl,q⟩
theorem fQ:zN X (compareOp .Eq) U8:=by
 intro pins s σ H x y v u Q I rx ry h
 obtain ⟨hs,q⟩:=h
 cases x with
 | dh=>
  cases rx
  cases y with
  | dh=>cases ry;exact PySem.EqNone.eq_none_none (di I q (by simp))
  | bl j=>cases ry;exact PySem.EqNone.eq_none_bool (di I q (by simp))
  | int j=>obtain ⟨t',rfl⟩:=ry;exact PySem.EqNone.eq_none_int (di I q (by simp))
  | str j=>obtain ⟨t',rfl⟩:=ry;exact PySem.EqNone.eq_none_str (di I q (by simp))
  | _=>exact absurd (show false=true from hs) YZ
 | bl i=>
  cases rx
  cases y with
  | dh=>cases ry;exact PySem.EqNone.eq_bool_none (di I q (by simp))
  | bl j=>cases ry;exact eq_bool (di I q S8)
  | str j=>obtain ⟨t',rfl⟩:=ry;exact PySem.EqMixed.eq_bool_str (di I q (by simp))
  | _=>exact absurd (show false=true from hs) YZ
 | int i=>
  obtain ⟨t,rfl⟩:=rx
  cases y with
  | dh=>cases ry;exact PySem.EqNone.eq_int_none (di I q (by simp))
  | int j=>obtain ⟨t',rfl⟩:=ry;exact eq_int (di I q OC)
  | str j=>obtain ⟨t',rfl⟩:=ry;exact PySem.EqMixed.eq_int_str (di I q (by simp))
  | _=>exact absurd (show false=true from hs) YZ
 | str i=>
  obtain ⟨t,rfl⟩:=rx
  cases y with
  | dh=>cases ry;exact PySem.EqNone.eq_str_none (di I q (by simp))
  | bl j=>cases ry;exact PySem.EqMixed.eq_str_bool (di I q (by simp))
  | int j=>obtain ⟨t',rfl⟩:=ry;exact PySem.EqMixed.eq_str_int (di I q (by simp))
  | str j=>obtain ⟨t',rfl⟩:=ry;exact eq_str (di I q Pa)
  | _=>exact absurd (show false=true from hs) YZ
 | K9 i=>
  obtain ⟨t,rfl⟩:=rx
  cases y with
  | K9 j=>obtain ⟨t',rfl⟩:=ry;exact PySem.W.eq_bytes (di I q Po)
  | _=>exact absurd (show false=true from hs) YZ
 | _=>cases y <;> exact absurd (show false=true from hs) YZ
theorem Jl:zN X (compareOp .NotEq) Yv:=by
 intro pins s σ H x y v u Q I rx ry h
 obtain ⟨hs,q⟩:=h
 cases x with
 | dh=>
  cases rx
  cases y with
  | dh=>cases ry;exact PySem.EqNone.ne_none_none (di I q (by simp))
  | bl j=>cases ry;exact PySem.EqNone.ne_none_bool (di I q (by simp))
  | int j=>obtain ⟨t',rfl⟩:=ry;exact PySem.EqNone.ne_none_int (di I q (by simp))
  | str j=>obtain ⟨t',rfl⟩:=ry;exact PySem.EqNone.ne_none_str (di I q (by simp))
  | _=>exact absurd (show false=true from hs) YZ
 | bl i=>
  cases rx
  cases y with
  | dh=>cases ry;exact PySem.EqNone.ne_bool_none (di I q (by simp))
  | bl j=>cases ry;exact ne_bool (di I q (congrArg not S8))
  | str j=>obtain ⟨t',rfl⟩:=ry;exact PySem.EqMixed.ne_bool_str (di I q (by simp))
  | _=>exact absurd (show false=true from hs) YZ
 | int i=>
  obtain ⟨t,rfl⟩:=rx
  cases y with
  | dh=>cases ry;exact PySem.EqNone.ne_int_none (di I q (by simp))
  | int j=>obtain ⟨t',rfl⟩:=ry;exact ne_int (di I q (congrArg not OC))
  | str j=>obtain ⟨t',rfl⟩:=ry;exact PySem.EqMixed.ne_int_str (di I q (by simp))
  | _=>exact absurd (show false=true from hs) YZ
 | str i=>
  obtain ⟨t,rfl⟩:=rx
  cases y with
  | dh=>cases ry;exact PySem.EqNone.ne_str_none (di I q (by simp))
  | bl j=>cases ry;exact PySem.EqMixed.ne_str_bool (di I q (by simp))
  | int j=>obtain ⟨t',rfl⟩:=ry;exact PySem.EqMixed.ne_str_int (di I q (by simp))
  | str j=>obtain ⟨t',rfl⟩:=ry;exact ne_str (di I q (congrArg not Pa))
  | _=>exact absurd (show false=true from hs) YZ
 | K9 i=>
  obtain ⟨t,rfl⟩:=rx
  cases y with
  | K9 j=>obtain ⟨t',rfl⟩:=ry;exact PySem.W.ne_bytes (di I q (congrArg not Po))
  | _=>exact absurd (show false=true from hs) YZ
 | _=>cases y <;> exact absurd (show false=true from hs) YZ
theorem Il:zN X (compareOp .Lt) (Ra fun i j=> .bl (decide (i < j))):=TY fun _ _ _ _ _ _ _ q=>lt_int q
theorem O1:zN X (compareOp .LtE) (Ra fun i j=> .bl (decide (i<=j))):=TY fun _ _ _ _ _ _ _ q=>le_int q
theorem R4:zN X (compareOp .Gt) (Ra fun i j=> .bl (decide (j < i))):=TY fun _ _ _ _ _ _ _ q=>gt_int q
theorem EM:zN X (compareOp .GtE) (Ra fun i j=> .bl (decide (j<=i))):=TY fun _ _ _ _ _ _ _ q=>ge_int q
theorem zN.or{f:Value->Value->Sem Value}{r r':R2}(h:zN X f r)(h':zN X f r'):zN X f (fun x y H Q=>r x y H Q\/r' x y H Q):=by
 intro pins s σ H x y v u Q I rx ry q
 rcases q with q | q
 ·exact h pins s σ H x y v u Q I rx ry q
 ·exact h' pins s σ H x y v u Q I rx ry q
theorem aT(b:Expr){op:CmpOp}(h:op≠ .In:=by decide)(h2:op≠ .NotIn:=by decide):behindInMarks op b=false:=by
 have e1:(op == CmpOp.In)=false:=by cases op <;> first | rfl | exact absurd rfl h
 have e2:(op == CmpOp.NotIn)=false:=by cases op <;> first | rfl | exact absurd rfl h2
 cases b <;> simp [behindInMarks,e1,e2]
theorem zg{op:CmpOp}{r:R2}(ho:zN X (compareOp op) r)(ha:PE X a ta)(hb:PE X b tb)(hm:behindInMarks op b=false):PE X (.Compare a [op] [b] pos) (Ep r ta tb):=by
 intro pins s σ H Q I h
 exact wpAny_Compare1 (Vl ha hb I h fun v u s2 x y H2 I2 rx ry q=>ho pins s2 σ H2 x y v u Q I2 rx ry q) hm
def xj(t:TE):TT:=fun σ H Q=>t σ H fun x H'=> ∃k,x= .bl k/\Q k H'
theorem aO{op:CmpOp}{r:R2}(ho:zN X (compareOp op) r)(ha:PE X a ta)(hb:PE X b tb)(hm:behindInMarks op b=false):PT X (.Compare a [op] [b] pos) (xj (Ep r ta tb)):=by
 intro pins s σ H Q I h
 refine wpAny_isTrue_Compare1 (gD (ha pins s σ H _ I h) fun v s1 ⟨x,H1,I1,r1,q1⟩=>gD (hb pins s1 σ H1 _ I1 q1) fun u s2 ⟨y,H2,I2,r2,q2⟩=>
  gD (ho pins s2 σ H2 x y v u _ I2 r1 r2 q2) fun c s3 ⟨z,H3,I3,r3,k,e,q3⟩=>?_) hm
 subst e
 cases r3
 exact wpAny_truthy_bool ⟨H3,I3,q3⟩
def Wa(r r':R2)(ta tb tc:TE):TE:=fun σ H Q=>ta σ H fun x H1=>tb σ H1 fun y H2=>r x y H2 fun z H3=> ∃k,z= .bl k/\
 (if k=true then tc σ H3 fun w' H4=>r' y w' H4 Q else Q (.bl false) H3)
theorem Q7 {op op':CmpOp} {r r':R2} (ho:zN X (compareOp op) r) (ho':zN X (compareOp op') r') (ha:PE X a ta) (hb:PE X b tb) (hc:PE X c tc)
  (hm:lastMarks [op,op'] [b,c]=false:=by with_unfolding_all rfl):PE X (.Compare a [op,op'] [b,c] pos) (Wa r r' ta tb tc):=by
 intro pins s σ H Q I h
 refine Compare_chain (gD (ha pins s σ H _ I h) fun v s1 ⟨x,H1,I1,r1,q1⟩=>chain_link (gD (hb pins s1 σ H1 _ I1 q1) fun u s2 ⟨y,H2,I2,r2,q2⟩=>
  gD (ho pins s2 σ H2 x y v u _ I2 r1 r2 q2) fun d s3 ⟨z,H3,I3,r3,k,e,q3⟩=>?_)) hm
 subst e
 cases r3
 refine wpAny_truthy_bool ?_
 cases k with
 | false=>exact ite_ff ⟨.bl false,H3,I3,rfl,q3⟩
 | true=>exact ite_tt (chain_last (gD (hc pins s3 σ H3 _ I3 q3) fun w' s4 ⟨z',H4,I4,r4,q4⟩=>ho' pins s4 σ H4 y z' u w' Q I4 r2 r4 q4))
theorem Kw:(sizeLine:Nat) < 2 ^ 63:=by rw [sizeLine_eq];decide
theorem fM:zN X (binaryOp .Add) (fun x y H Q=> ∃i j,x= .str i/\y= .str j/\i.length + j.length<=sizeLine/\Q (.str (i++j)) H):=by
 intro pins s σ H x y v u Q I rx ry h
 obtain ⟨i,j,rfl,rfl,hz,q⟩:=h
 obtain ⟨t,rfl⟩:=rx
 obtain ⟨t',rfl⟩:=ry
 exact add_str (fun t' tk=>⟨.str (i++j),H,I.tok _,⟨_,rfl⟩,q⟩) hz
theorem vals1{x:V}{us:List Value}(r:Vals [x] us): ∃u,us= [u]/\RelV x u:=by
 cases r with
 | cons r1 r2=>cases r2;exact ⟨_,rfl,r1⟩
theorem yh:u_ X (.builtin "abs") (fun xs H Q=> ∃i,xs= [.int i]/\Q (.int (if i < 0 then -i else i)) H):=by
 intro pins s σ H xs us Q I r h
 obtain ⟨i,rfl,q⟩:=h
 obtain ⟨u,rfl,t,rfl⟩:=vals1 r
 exact call_abs_int fun u tk=>⟨.int (if i < 0 then -i else i),H,I.tok _,⟨_,rfl⟩,q⟩
theorem KZ:u_ X (.type "str") (fun xs H Q=> ∃i,xs= [.int i]/\i.natAbs.log2 < 1920/\Q (.str (toString i)) H):=by
 intro pins s σ H xs us Q I r h
 obtain ⟨i,rfl,hz,q⟩:=h
 obtain ⟨u,rfl,t,rfl⟩:=vals1 r
 exact PySem.P.str_of_int hz ⟨.str _,H,I.tok _,⟨_,rfl⟩,q⟩
theorem MY:u_ X (.builtin "ord") (fun xs H Q=> ∃x,xs= [.str x]/\x.length=1/\Q (.int (x.cps.getD 0 0:Nat)) H):=by
 intro pins s σ H xs us Q I r h
 obtain ⟨x,rfl,hz,q⟩:=h
 obtain ⟨u,rfl,t,rfl⟩:=vals1 r
 exact ord_of_one hz ⟨.int _,H,I.tok _,⟨_,rfl⟩,q⟩
end
end L2
namespace L2
open PySem PySem.Spec PyProof.Rows
structure NB(h:Heap)(x dx C:Addr)(mA:Str->Option Value):Prop where
 obj:h.get? x=some (PySem.W.instObj C dx)
 ns:h.Ns1 dx mA
 ne:dx≠x
theorem P9{h:Heap}{dx:Addr}{mA:Str->Option Value}(n:h.Ns1 dx mA): ∃od,h.get? dx=some od/\ ∀name,PySem.W.lookIn name od=some (mA name):=by
 obtain ⟨o,es,ep,ho,hd,hk,_,hm⟩:=n
 refine ⟨o,ho,fun name=>?_⟩
 have e:=hm name
 unfold nsFind findBy at e
 rw [<-Array.find?_toList] at e
 unfold PySem.W.lookIn
 rw [hd]
 dsimp only
 split
 ·rename_i y q
  rw [q] at e
  exact congrArg some e
 ·rename_i q
  rw [q] at e
  have a:es.toList.any (·.refKey)=false:=by
   rw [List.any_eq_false]
   intro y hy
   obtain ⟨z,t,hkey⟩:=hk y (Array.mem_toList_iff.mp hy)
   simp [DictEntry.refKey,hkey]
  have a': ¬es.toList.any (·.refKey)=true:=by rw [a];exact YZ
  rw [if_neg a']
  exact congrArg some e
theorem NB.look{h:Heap}{x dx C:Addr}{mA:Str->Option Value}(I:NB h x dx C mA): ∃od,PySem.W.InstAt h x (PySem.W.instObj C dx) C (some od)/\ ∀name,PySem.W.lookIn name od=some (mA name):=
 let ⟨od,ho,hl⟩:=P9 I.ns
 ⟨od,⟨I.obj,rfl,rfl,ho⟩,hl⟩
section
variable {prog:Program} {w:World} {A:Around} {E:Value->Shared->Prop} {s:Shared} {K:W.Frag} {x dx C f:Addr} {mA:Str->Option Value} {name:Str} {v:Value}
theorem get_map {expr:Bool} {Q:Value->Shared->Prop} (X:K.In s.heap) (I:NB s.heap x dx C mA) (hg:PySem.W.plainGet K C name=true) (hh:PySem.W.hasDictIn K C=true)
  (ha:PySem.W.findIn K (.ref C) name=some none) (hv:mA name=some v) (hv':PySem.W.handedIn v=true) (h:Q v {s with toks:=s.toks + 1}):
  wpAny (model prog w) A (getAttr (.ref x) name expr) Q E s:=by
 obtain ⟨od,J,hl⟩:=I.look
 exact PySem.W.get_value X J (PySem.W.plainGet_of hg).1 (PySem.W.findObj_own hh ha rfl (by rw [hl,hv])) hv' h
theorem SN {pl:Sem Bool} {Q:Value×List Value->Shared->Prop} (X:K.In s.heap) (I:NB s.heap x dx C mA) (hg:PySem.W.plainGet K C name=true)
  (hf:PySem.W.findIn K (.ref C) name=some (some (.ref f))) (ht:PySem.W.isFn K (.ref f)=true) (hv:mA name=none) (h:Q (.ref f,[.ref x]) s):
  wpAny (model prog w) A (getMethod (.ref x) name pl) Q E s:=by
 obtain ⟨od,J,hl⟩:=I.look
 exact PySem.W.method_fn X J (PySem.W.plainGet_of hg).1 (PySem.W.plainGet_of hg).2 hf (beq_iff_eq.mp ht) (by show (PySem.W.lookIn name od).map (·.isSome)=some false;rw [hl,hv];rfl) h
theorem Uh {ns:List Str} {Q:Unit->Shared->Prop} (X:K.In s.heap) (I:NB s.heap x dx C mA)
  (hs:PySem.W.findIn K (.ref C) "__setattr__"=some (some (.builtin "object.__setattr__"))) (hp:PySem.W.plainOver K C=true) (ht:PySem.W.takerIn K C name=some none) (hh:PySem.W.hasDictIn K C=true)
  (hw:PySem.Within mA ns) (hsz:ns.length<=sizeLine)
  (h: ∀h',NB h' x dx C (fun y=>if y=name then some v else mA y)->Heap.SameBut dx s.heap h'->Q () {s with heap:=h',toks:=s.toks + 2}):
  wpAny (model prog w) A (setAttr (.ref x) name v) Q E s:=by
 obtain ⟨od,J,hl⟩:=I.look
 refine PySem.W.set_plain X J hs (PySem.W.osa_open (s:={s with toks:=s.toks + 1}) (r:=none) X J hp ht fun b=>?_)
 obtain ⟨cd,hc,hd'⟩:=PySem.W.any_some hh
 have hx:s.heap.get? x=some ⟨.ref C,some dx,.plain,#[]⟩:=I.obj
 refine wpAny_bind (wpAny_pure (wpAny_bind (wpAny_bind (wpAny_loadPart hx (wpAny_bind (PySem.W.Looks.here (s:={s with toks:=s.toks + 1}) (PySem.W.looks_clsIn X hc) ?_))))))
 rw [hd']
 refine wpAny_pure (a:=some dx) (wpAny_bind (wpAny_pure (wpAny_bind ?_)))
 refine wpAny_nsSet1 (s:={s with toks:=s.toks + 1}) I.ns fun h' hn2 hs2=>?_
 obtain ⟨oD,esD,epD,hoD,hdD,hcD⟩:=hn2.count (PySem.Within.cons name v hw)
 refine wpAny_bind (wpAny_lookBehind hoD (by rw [hdD];exact pastItsLine_dict (Y4 hcD (by rw [YU];lia))) ?_)
 exact wpAny_pure (h _ ⟨(hs2.2 _ (Ne.symm I.ne)).trans I.obj,hn2,I.ne⟩ hs2)
theorem Ri {R:Result->Shared->Prop} {vs:List Value} {kw:List (Str×Value)} (X:K.In s.heap) (hm:PySem.W.makesIn K C=true)
  (hi:PySem.W.findIn K (.ref C) "__init__"=some (some (.ref f))) (hf:PySem.W.typeIn K (.ref f)=some (.type "function"))
  (h:codeAny (model prog w) (A.under (.builtin "type.__call__" ⟨.ref C::vs,kw⟩)) (.call (.ref f) ⟨.ref (s.heap.objs.size + 1)::vs,kw⟩) (PySem.W.InitBack (s.heap.objs.size + 1) R)
   {s with heap:=(s.heap.push PySem.W.emptyDict).push (PySem.W.instObj C s.heap.objs.size)}):
  codeAny (model prog w) A (.call (.ref C) ⟨vs,kw⟩) R s:=by
 obtain ⟨hh,g,d,t,os⟩:=s
 exact PySem.W.make_core (PySem.W.makes_of X hm) (PySem.W.looks_findIn X hi) (fun self=>PySem.W.bind_fn X self hf) (.inl rfl) h
end
def aY(f:Str)(v:V):List (Str×V)->List (Str×V)
 | []=> [(f,v)]
 | (g,x)::r=>if g=f then (g,v)::r else (g,x)::aY f v r
theorem yC(f g:Str)(v:V): ∀fs:List (Str×V),(aY f v fs).lookup g=if g=f then some v else fs.lookup g
 | []=>by
  show List.lookup g [(f,v)]=_
  by_cases h:g=f
  ·have hb:(g == f)=true:=beq_iff_eq.mpr h
   simp only [List.lookup,hb,if_pos h]
  ·have hb:(g == f)=false:=YY.mpr h
   simp only [List.lookup,hb,if_neg h]
 | (k,x)::r=>by
  have ih:=yC f g v r
  rw [show aY f v ((k,x)::r)=(if k=f then (k,v)::r else (k,x)::aY f v r) from rfl]
  by_cases hk:k=f
  ·rw [if_pos hk]
   by_cases h:g=k
   ·have hb:(g == k)=true:=beq_iff_eq.mpr h
    simp only [List.lookup,hb,if_pos (h.trans hk)]
   ·have hb:(g == k)=false:=YY.mpr h
    simp only [List.lookup,hb,if_neg (fun e:g=f=>h (e.trans hk.symm))]
  ·rw [if_neg hk]
   by_cases h:g=k
   ·have hb:(g == k)=true:=beq_iff_eq.mpr h
    simp only [List.lookup,hb,if_neg (fun e:g=f=>hk (h.symm.trans e))]
   ·have hb:(g == k)=false:=YY.mpr h
    simp only [List.lookup,hb]
    exact ih
theorem vn(f:Str)(v:V): ∀fs:List (Str×V),f ∈ (aY f v fs).map (·.1)/\ ∀g,g ∈ fs.map (·.1)->g ∈ (aY f v fs).map (·.1)
 | []=>⟨by simp [aY],fun g h=>by simp at h⟩
 | (k,x)::r=>by
  obtain ⟨i1,i2⟩:=vn f v r
  rw [show aY f v ((k,x)::r)=(if k=f then (k,v)::r else (k,x)::aY f v r) from rfl]
  by_cases hk:k=f
  ·rw [if_pos hk]
   subst hk
   exact ⟨by simp,fun g h=>by simpa using h⟩
  ·rw [if_neg hk]
   refine ⟨?_,fun g h=>?_⟩
   ·rw [YS]
    exact YK _ i1
   ·rw [YS] at h ⊢
    rcases YR.mp h with e | e
    ·exact YR.mpr (.inl e)
    ·exact YK _ (i2 g e)
theorem yQ(f:Str)(v:V): ∀fs:List (Str×V),(aY f v fs).length<=fs.length + 1
 | []=>by simp [aY]
 | (k,x)::r=>by
  have ih:=yQ f v r
  rw [show aY f v ((k,x)::r)=(if k=f then (k,v)::r else (k,x)::aY f v r) from rfl]
  by_cases hk:k=f
  ·rw [if_pos hk,YU,YU];lia
  ·rw [if_neg hk,YU,YU];lia
theorem sZ.some_of{v:V}{o:Option Value}(r:sZ (some v) o): ∃u,o=some u/\RelV v u:=by
 cases o with
 | none=>exact (show False from r).elim
 | some u=>exact ⟨u,rfl,r⟩
theorem sZ.none_of{o:Option Value}(r:sZ none o):o=none:=by
 cases o with
 | none=>rfl
 | some u=>exact (show False from r).elim
theorem PL{v:V}{u:Value}(r:RelV v u):PySem.W.handedIn u=true:=by
 cases v with
 | dh=>cases (show u=Value.none from r);rfl
 | bl b=>cases (show u=Value.bool b from r);rfl
 | int i=>obtain ⟨t,e⟩:=(show ∃t,u=Value.int i t from r);cases e;rfl
 | str x=>obtain ⟨t,e⟩:=(show ∃t,u=Value.str x t from r);cases e;rfl
 | K9 b=>obtain ⟨t,e⟩:=(show ∃t,u=Value.bytes b t from r);cases e;rfl
 | GY b=>obtain ⟨t,e⟩:=(show ∃t,u=Value.float b t from r);cases e;rfl
 | ref a=>cases (show u=Value.ref a from r);rfl
 | ty n=>cases (show u=Value.type n from r);rfl
section
variable {P:Program} {w:World} {H H':Hp} {h h':Heap} {a C dx:Addr} {fs fs':List (Str×V)}
theorem JV(hok:vI P w H h)(e:H a=some (.ins C dx fs)): ∃mA,NB h a dx C mA/\(∀f,sZ (fs.lookup f) (mA f))/\PySem.Within mA (fs.map (·.1))/\fs.length<=1000/\H dx=some (.own a):=by
 obtain ⟨d,z,ne,ob,mA,n,r,q⟩:=(show gV P w H h a (.ins C dx fs) from hok a _ e)
 exact ⟨mA,⟨ob,n,ne⟩,r,q,z,d⟩
end
structure zy(K:W.Frag)(C:Addr):Prop where
 pg:PySem.W.plainGet K C Str.empty=true
 hd:PySem.W.hasDictIn K C=true
 po:PySem.W.plainOver K C=true
 sa:PySem.W.findIn K (.ref C) "__setattr__"=some (some (.builtin "object.__setattr__"))
theorem zy.get{K:W.Frag}{C:Addr}(c:zy K C)(f:Str):PySem.W.plainGet K C f=true:=c.pg
def bH(K:W.Frag)(C:Addr)(f:Str):Prop:=PySem.W.findIn K (.ref C) f=some none
theorem bH.WT{K:W.Frag}{C:Addr}{f:Str}(n:bH K C f):PySem.W.takerIn K C f=some none:=by
 unfold PySem.W.takerIn
 rw [show PySem.W.findIn K (.ref C) f=some none from n]
 rfl
structure Meth(K:W.Frag)(C:Addr)(m:Str)(f:Addr):Prop where
 at_:PySem.W.findIn K (.ref C) m=some (some (.ref f))
 fn:PySem.W.isFn K (.ref f)=true
 kp:PySem.W.keepIn K (.ref f)=true
section
variable {X:Cx} {pins:List (Addr×Obj)} {σ:St} {H:Hp} {s:Shared} {a C dx:Addr} {fs:List (Str×V)} {f:Str} {v:V} {A:Around} {E:Value->Shared->Prop}
theorem Fj {b:Bool} {Q:Value->Shared->Prop} (I:Inv X pins σ H s) (e:H a=some (.ins C dx fs)) (c:zy X.K C) (n:bH X.K C f) (l:fs.lookup f=some v)
  (h: ∀u s',Inv X pins σ H s'->RelV v u->Q u s'):wpAny (model X.prog X.w) A (getAttr (.ref a) f b) Q E s:=by
 obtain ⟨mA,O,r,_,_,_⟩:=JV I.hok e
 obtain ⟨u,hu,ru⟩:=sZ.some_of (v:=v) (o:=mA f) (by rw [<-l];exact r f)
 exact get_map I.GX O (c.get f) c.hd n hu (PL ru) (h u _ (I.tok _) ru)
theorem Av {m:Str} {g:Addr} {pl:Sem Bool} {Q:Value×List Value->Shared->Prop} (I:Inv X pins σ H s) (e:H a=some (.ins C dx fs)) (c:zy X.K C) (k:Meth X.K C m g) (l:fs.lookup m=none)
  (h:Q (.ref g,[.ref a]) s):wpAny (model X.prog X.w) A (getMethod (.ref a) m pl) Q E s:=by
 obtain ⟨mA,O,r,_,_,_⟩:=JV I.hok e
 have hn:mA m=none:=sZ.none_of (by rw [<-l];exact r m)
 exact SN I.GX O (c.get m) k.at_ k.fn hn h
theorem Gd {y:V} {u:Value} {Q:Unit->Shared->Prop} (I:Inv X pins σ H s) (e:H a=some (.ins C dx fs)) (c:zy X.K C) (n:bH X.K C f) (hl:fs.length < 1000) (ry:RelV y u)
  (h: ∀s',Inv X pins σ (upd H a (.ins C dx (aY f y fs))) s'->Q () s'):wpAny (model X.prog X.w) A (setAttr (.ref a) f u) Q E s:=by
 obtain ⟨mA,O,r,wi,_,ho⟩:=JV I.hok e
 have hz:(fs.map (·.1)).length<=sizeLine:=by rw [YI,sizeLine_eq];lia
 refine Uh I.GX O c.sa c.po n.WT c.hd wi hz fun h' O' sb=>h _ ?_
 have hd: ∃o,h'.get? dx=some o:=let ⟨o,_,_,e',_⟩:=O'.ns;⟨o,e'⟩
 refine I.write (x:=a) (e:=dx) (by rw [e];exact True.intro) (.inr ho) (fun b q hb z=>(sb.2 b hb).trans z) hd ?_
 refine ⟨by rw [ak O.ne];exact ho,?_,O.ne,O'.obj,_,O'.ns,fun g=>?_,fun g hg=>?_⟩
 ·have:=yQ f y fs;lia
 ·show sZ ((aY f y fs).lookup g) (if g=f then some u else mA g)
  rw [yC]
  by_cases q:g=f
  ·rw [if_pos q,if_pos q];exact ry
  ·rw [if_neg q,if_neg q];exact r g
 ·by_cases q:g=f
  ·rw [q];exact (vn f y fs).1
  ·refine (vn f y fs).2 g (wi g fun z=>hg ?_)
   show (if g=f then some u else mA g)=none
   rw [if_neg q];exact z
theorem Inv.made(I:Inv X pins σ H s):Inv X pins σ (upd (upd H s.heap.objs.size (.own (s.heap.objs.size + 1))) (s.heap.objs.size + 1) (.ins C s.heap.objs.size []))
  {s with heap:=(s.heap.push PySem.W.emptyDict).push (PySem.W.instObj C s.heap.objs.size)}:=by
 have e1:(s.heap.push PySem.W.emptyDict).get? s.heap.objs.size=some PySem.W.emptyDict:=Heap.get?_push_size s.heap rfl
 have e2:((s.heap.push PySem.W.emptyDict).push (PySem.W.instObj C s.heap.objs.size)).get? (s.heap.objs.size + 1)=some (PySem.W.instObj C s.heap.objs.size):=by
  have:=Heap.get?_push_size (s.heap.push PySem.W.emptyDict) (o:=PySem.W.instObj C s.heap.objs.size) rfl
  rwa [Heap.size_push] at this
 have e3:(s.heap.push PySem.W.emptyDict).Ns s.heap.objs.size (fun _=>none):=⟨PySem.W.emptyDict,#[],_,e1,rfl,(fun e he=>absurd he (by simp)),fun _=>rfl⟩
 have I1:=I.laid (a:=s.heap.objs.size) (o:= .own (s.heap.objs.size + 1)) (h':=s.heap.push PySem.W.emptyDict) (t':=s.toks) (fun b u q=>Heap.get?_push_of_some _ q) (YM _) ⟨_,e1⟩
 refine I1.laid (a:=s.heap.objs.size + 1) (o:= .ins C s.heap.objs.size []) (t':=s.toks) (fun b u q=>Heap.get?_push_of_some _ q) (Nat.le_of_eq (Heap.size_push _ _)) ?_
 have ne:s.heap.objs.size≠s.heap.objs.size + 1:=Nat.ne_of_lt (Nat.lt_succ_self _)
 refine ⟨by rw [ak ne,af],YW _,ne,e2,fun _=>none,(Heap.Ns1.of_empty e3).at fun o q=>Heap.get?_push_of_some _ q,fun _=>True.intro,fun y hy=>absurd rfl hy⟩
theorem OP {prog:Program} {w:World} {env:Env} {e:Expr} {f:Str} {pos:Pos} {s:Shared} {Q:Value->Shared->Prop} (hb:attributeBase e f env (eval e env)=eval e env)
  (h:wpAny (model prog w) A (eval e env) (fun o s₁=>wpAny (model prog w) A (getAttr o f true) Q E s₁) E s):wpAny (model prog w) A (eval (.Attribute e f pos) env) Q E s:=
 Attribute_any_ h (by rw [arm_eval_Attribute,hb])
end
def Cu(K:W.Frag)(ta:TE)(f:Str):TE:=fun σ H Q=>ta σ H fun x H1=> ∃a C dx fs v,x= .ref a/\H1 a=some (.ins C dx fs)/\zy K C/\bH K C f/\fs.lookup f=some v/\Q v H1
def XZ(K:W.Frag)(ta tv:TE)(f:Str):TS:=fun D σ H=>tv σ H fun y H1=>ta σ H1 fun x H2=> ∃a C dx fs,x= .ref a/\H2 a=some (.ins C dx fs)/\zy K C/\bH K C f/\fs.length < 1000/\
 D.nx σ (upd H2 a (.ins C dx (aY f y fs)))
def WN(X:Cx)(op:Operator)(rd:V->V->Hp->VK->Prop):Prop:=
 ∀(pins:List (Addr×Obj)) (s:Shared) (σ:St) (H:Hp) (x y:V) (u v:Value) (Q:VK),Inv X pins σ H s->RelV x u->RelV y v->rd x y H Q->wpAny (model X.prog X.w) X.A (inplaceOp op u v) (EP X pins σ Q) X.xe s
def Ue(K:W.Frag)(ta tv:TE)(rd:V->V->Hp->VK->Prop)(f:Str):TS:=fun D σ H=>ta σ H fun x H1=> ∃a C dx fs v,x= .ref a/\H1 a=some (.ins C dx fs)/\zy K C/\bH K C f/\fs.lookup f=some v/\
 tv σ H1 fun y H2=>rd v y H2 fun z H3=> ∃dx' fs',H3 a=some (.ins C dx' fs')/\fs'.length < 1000/\D.nx σ (upd H3 a (.ins C dx' (aY f z fs')))
section
variable {X:Cx} {o e value:Expr} {f:Str} {pos pos' tpos:Pos} {ta tv:TE}
theorem au(he:PE X e ta)(hb:attributeBase e f X.env (eval e X.env)=eval e X.env):PE X (.Attribute e f pos) (Cu X.K ta f):=by
 intro pins s σ H Q I h
 refine OP hb (gD (he pins s σ H _ I h) fun u s1 ⟨x,H1,I1,rx,a,C,dx,fs,v,ex,ea,c,n,l,q⟩=>?_)
 subst ex
 obtain rfl:u=Value.ref a:=rx
 exact Fj I1 ea c n l fun u' s2 I2 ru=>⟨v,H1,I2,ru,q⟩
theorem bG(ha:PE X o ta)(hv:PE X value tv)(hs:swapsWith value (some (.Attribute o f pos')) pos.line X.env=pure false):PS X (.Assign [.Attribute o f pos'] value pos) (XZ X.K ta tv f):=by
 intro pins s σ H D I h
 refine plainObj_wpAny_Assign_Attribute (gD (hv pins s σ H _ I h) fun u s1 ⟨y,H1,I1,ry,q⟩=>gD (ha pins s1 σ H1 _ I1 q) fun ov s2 ⟨x,H2,I2,rx,a,C,dx,fs,ex,ea,c,n,l,q2⟩=>?_) hs
 subst ex
 obtain rfl:ov=Value.ref a:=rx
 exact Gd I2 ea c n l ry fun s3 I3=>⟨σ,_,I3,q2⟩
theorem pO{op:Operator}{rd:V->V->Hp->VK->Prop}(ha:PE X o ta)(hv:PE X value tv)(hop:WN X op rd):PS X (.AugAssign (.Attribute o f tpos) op value pos) (Ue X.K ta tv rd f):=by
 intro pins s σ H D I h
 refine wpAny_AugAssign_AttributeAny (gD (ha pins s σ H _ I h) fun ov s1 ⟨x,H1,I1,rx,a,C,dx,fs,v,ex,ea,c,n,l,q⟩=>?_)
 subst ex
 obtain rfl:ov=Value.ref a:=rx
 refine Fj I1 ea c n l fun u s2 I2 ru=>gD (hv pins s2 σ H1 _ I2 q) fun w3 s3 ⟨y,H2,I3,ry,q3⟩=>gD (hop pins s3 σ H2 v y u w3 _ I3 ru ry q3) fun w4 s4 ⟨z,H3,I4,rz,dx',fs',ea',l',q4⟩=>?_
 exact Gd I4 ea' c n l' rz fun s5 I5=>⟨σ,_,I5,q4⟩
def Yi:V->V->Hp->VK->Prop:=fun x y H Q=> ∃i j,x= .int i/\y= .int j/\Q (.int (i + j)) H
theorem Aa:WN X .Add Yi:=by
 rintro pins s σ H x y u v Q I rx ry ⟨i,j,rfl,rfl,q⟩
 obtain ⟨t,rfl⟩:=(show ∃t,u=Value.int i t from rx)
 obtain ⟨t',rfl⟩:=(show ∃t',v=Value.int j t' from ry)
 exact PyProof.Rows.iadd_int ⟨.int (i + j),H,I.tok _,⟨_,rfl⟩,q⟩
theorem U7 {pl:Sem Bool} {m:Str} {apos:Pos} {args:List Expr} {pins:List (Addr×Obj)} {s:Shared} {σ:St} {H:Hp} {Q:Value->Shared->Prop} {te:TE} (he:PE X e te) (I:Inv X pins σ H s)
  (h:te σ H fun x H1=> ∃a C dx fs g,x= .ref a/\H1 a=some (.ins C dx fs)/\zy X.K C/\Meth X.K C m g/\fs.lookup m=none/\
   ∀s1,Inv X pins σ H1 s1->wpAny (model X.prog X.w) X.A (callWith pos (.ref g) [.ref a] (backTo pos (starEach args X.env)) (backToKw pos (keywordEach [] X.env))) Q X.xe s1)
  (ht:eval (.Call (.Attribute e m apos) args [] pos) X.env=(do
   let ov <-eval e X.env
   standAt apos.atName
   let (f,first) <-holding [ov] (getMethod ov m pl)
   callWith pos f first (backTo pos (starEach args X.env)) (backToKw pos (keywordEach [] X.env)))):
  wpAny (model X.prog X.w) X.A (eval (.Call (.Attribute e m apos) args [] pos) X.env) Q X.xe s:=by
 refine PySem.W.methodCall_KW (pl:=pl) (gD (he pins s σ H _ I h) fun u s1 ⟨x,H1,I1,rx,a,C,dx,fs,g,ex,ea,c,k,l,q⟩=>?_) ht
 subst ex
 obtain rfl:u=Value.ref a:=rx
 exact Av I1 ea c k l (q s1 I1)
end
end L2
namespace L2
open PySem PySem.Spec PyProof.Rows
structure mj(k:Nat)(A:Around):Prop where
 hd:A.handled=none
 dp:A.depth + 3 * k + 5 < recursionLimit
 un:A.units + 16 * k + 200 < cLine
theorem mj.mono{j k:Nat}{A:Around}(r:mj k A)(h:j<=k):mj j A:=⟨r.hd,by have:=r.dp;lia,by have:=r.un;lia⟩
theorem mj.deeper{k:Nat}{A:Around}(r:mj (k + 1) A)(env:Env):mj k (A.deeper env):=
 ⟨r.hd,by have:=r.dp;show A.depth + 1 + 3 * k + 5 < _;lia,by have:=r.un;show A.units + 3 + 16 * k + 200 < _;lia⟩
theorem M9{A:Around}{C:Addr}{us:List Value}{kw:List (Str×Value)}:(A.under (.builtin "type.__call__" ⟨.ref C::us,kw⟩)).depth=A.depth + 1:=by
 first | rfl | simp [Around.under,Code.weight,Code.isCreation,Code.isGuard,Code.isCaller,Code.frames,Code.isFrame,guardIds]
theorem Ob{A:Around}{C:Addr}{us:List Value}{kw:List (Str×Value)}:(A.under (.builtin "type.__call__" ⟨.ref C::us,kw⟩)).units=A.units + 1:=by
 first | rfl | simp [Around.under,Code.cUnits,Code.frames,Code.isFrame]
theorem mj.make{k:Nat}{A:Around}(r:mj (k + 1) A)(C:Addr)(us:List Value)(kw:List (Str×Value)):mj k (A.under (.builtin "type.__call__" ⟨.ref C::us,kw⟩)):=
 ⟨r.hd,by have:=r.dp;rw [M9];lia,by have:=r.un;rw [Ob];lia⟩
theorem mj.depth{k:Nat}{A:Around}(r:mj k A):A.depth < recursionLimit:=by have:=r.dp;lia
theorem mj.units{k:Nat}{A:Around}(r:mj k A):A.units + 64 < cLine:=by have:=r.un;lia
def mQ:TA:=fun _ H Q=>Q [] H
def bC(ta:TE)(tr:TA):TA:=fun σ H Q=>ta σ H fun x H1=>tr σ H1 fun xs H2=>Q (x::xs) H2
section
variable {X:Cx} {e:Expr} {es:List Expr} {te:TE} {t:TA} {pos:Pos}
theorem ai:PA X [] mQ:=fun _ _ _ _ H Q I h=>Calls.spliced_nil ⟨[],H,I,.nil,h⟩
theorem aa(ha:PE X e te)(hr:PA X es t)(hs:starEach (e::es) X.env=(false,eval e X.env)::starEach es X.env:=by rfl):PA X (e::es) (bC te t):=by
 intro pos pins s σ H Q I h
 rw [hs]
 show wpAny _ _ (spliced ((false,eval e X.env)::backTo pos (starEach es X.env))) _ _ s
 refine Calls.spliced_cons (gD (ha pins s σ H _ I h) fun u s1 ⟨x,H1,I1,r1,q1⟩=>?_)
 exact gD (hr pos pins s1 σ H1 _ I1 q1) fun us s2 ⟨xs,H2,I2,r2,q2⟩=>⟨x::xs,H2,I2,.cons r1 r2,q2⟩
def LI(t:TA):TE:=fun σ H Q=>t σ H fun xs H1=>xs.length<=sizeLine/\ ∀p,H1 p=none->Q (.ref p) (upd H1 p (.tup xs))
def Uk(t:TA):TE:=fun σ H Q=>t σ H fun xs H1=>xs.length<=sizeLine/\ ∀p,H1 p=none->Q (.ref p) (upd H1 p (.lst xs))
theorem gX{x1}(h:PA X es t):PE X (.Tuple es x1 pos) (LI t):=by
 intro pins s σ H Q I hq
 refine wpAny_Tuple_spliced (gD (h pos pins s σ H _ I hq) fun us s1 ⟨xs,H1,I1,r,z,q⟩=>⟨by rw [<-r.length];exact z,?_⟩)
 have hf:H1 s1.heap.objs.size=none:=I1.hok.fresh (YM _)
 refine ⟨.ref s1.heap.objs.size,upd H1 s1.heap.objs.size (.tup xs),I1.laid (t':=s1.toks) (fun b u e=>Heap.get?_push_of_some _ e) (YM _) ?_,rfl,q _ hf⟩
 exact ⟨z,us,r,⟨_,Heap.get?_push_size _ rfl,rfl,_,rfl⟩⟩
theorem dJ(h:PA X es t):PE X (.List es pos) (Uk t):=by
 intro pins s σ H Q I hq
 refine wpAny_List_spliced (gD (h pos pins s σ H _ I hq) fun us s1 ⟨xs,H1,I1,r,z,q⟩=>⟨by rw [<-r.length];exact z,?_⟩)
 have hf:H1 s1.heap.objs.size=none:=I1.hok.fresh (YM _)
 refine ⟨.ref s1.heap.objs.size,upd H1 s1.heap.objs.size (.lst xs),I1.laid (t':=s1.toks) (fun b u e=>Heap.get?_push_of_some _ e) (YM _) ?_,rfl,q _ hf⟩
 exact ⟨z,us,0,r,Heap.get?_push_size _ rfl⟩
end
abbrev Sp:=List V->Hp->VK->XK->Prop
abbrev QI:=List Env->Hp->Shared->XK->Value->Shared->Prop
structure Nq(P:Program)(w:World)(K:W.Frag)(mg:Str->Option Value)(base:Heap)(A:Around)(outer:List Env)(s:Shared)(H:Hp):Prop where
 frames:A.frames=some outer
 mod:Mod K mg base
 bs: ∀b o,base.get? b=some o->s.heap.get? b=some o/\H b=none
 Q5:base.objs.size<=s.heap.objs.size
 BP:s.heap.FunFrames base outer
 UI: ∀b ∈ frs outer,H b=none
 hok:vI P w H s.heap
 bare:AllBare s.gens
def CE(outer:List Env)(P:Program)(w:World)(H:Hp)(s:Shared)(Q:VK)(u:Value)(s':Shared):Prop:=
 ∃v H',s'.os=s.os/\AllBare s'.gens/\Un (frs outer) [] H H' s.heap s'.heap/\vI P w H' s'.heap/\RelV v u/\Q v H'
def CR(CX:QI)(outer:List Env)(P:Program)(w:World)(H:Hp)(s:Shared)(Q:VK)(E:XK)(r:Result)(s':Shared):Prop:=
 match r with
 | .ok (.ret u)=>CE outer P w H s Q u s'
 | .ok _=>False
 | .error e=>CX outer H s E e s'
structure bw(P:Program)(w:World)(K:W.Frag)(mg:Str->Option Value)(base:Heap)(CX:QI)(k:Nat)(f:Addr)(fd:FuncData)(ps:List Str)(sp:Sp):Prop where
 len: ∀vs H Q E,sp vs H Q E->vs.length=ps.length
 run: ∀(A:Around) (outer:List Env) (s:Shared) (H:Hp) (args:Args) (us:List Value) (vs:List V) (Q:VK) (E:XK),mj k A->Nq P w K mg base A outer s H->BindsTo s fd args (ps.zip us)->Vals vs us->sp vs H Q E->
  codeAny (model P w) A (.call (.ref f) args) (CR CX outer P w H s Q E) s
theorem Nq.make{P:Program}{w:World}{K:W.Frag}{mg:Str->Option Value}{base:Heap}{A:Around}{outer:List Env}{s:Shared}{H:Hp}(e:Nq P w K mg base A outer s H)(C:Addr)(us:List Value)(kw:List (Str×Value)):
  Nq P w K mg base (A.under (.builtin "type.__call__" ⟨.ref C::us,kw⟩)) outer s H:=⟨by first | exact e.frames | (simpa [Around.under,Code.envs,Code.isFrame,pushEnvs] using e.frames),e.mod,e.bs,e.Q5,e.BP,e.UI,e.hok,e.bare⟩
section
variable {X:Cx} {pins:List (Addr×Obj)} {σ:St} {H:Hp} {s s':Shared}
theorem Inv.VN(I:Inv X pins σ H s):Nq X.prog X.w X.K X.mg X.base X.A X.stack s H:=
 ⟨I.ok.frames,I.ok.mod,I.bs,Y4 I.ok.Q5 I.sz,I.stack,I.JE,I.hok,I.bare⟩
theorem Inv.after{Q:VK}{u:Value}(I:Inv X pins σ H s)(h:CE X.stack X.prog X.w H s Q u s'):EP X pins σ Q u s':=by
 obtain ⟨v,H',os,bare,un,hok,r,q⟩:=h
 obtain ⟨hh,g,d,t,os'⟩:=s'
 obtain rfl:os'=s.os:=os
 exact ⟨v,H',I.call (h':=hh) (g':=g) (d':=d) (t':=t) (ch:= []) un hok bare (fun b z=>absurd z (by simp)),r,q⟩
end
def zU(sp:Sp)(dvs:List V)(E:XK)(t:TA):TE:=fun σ H Q=>t σ H fun vs H1=>sp (vs++dvs) H1 Q E
def Lu(C:Addr)(m:Str)(sp:Sp)(dvs:List V)(E:XK)(ta:TE)(t:TA):TE:=fun σ H Q=>ta σ H fun x H1=> ∃a dx fs,x= .ref a/\H1 a=some (.ins C dx fs)/\fs.lookup m=none/\
 t σ H1 fun vs H2=>sp (x::(vs++dvs)) H2 Q E
def Vc(C:Addr)(sp:Sp)(dvs:List V)(E:XK)(t:TA):TE:=fun σ H Q=>t σ H fun vs H1=> ∀x dx,H1 x=none->H1 dx=none->dx≠x->
 sp (.ref x::(vs++dvs)) (upd (upd H1 dx (.own x)) x (.ins C dx [])) (fun v H2=>v= .dh/\Q (.ref x) H2) E
def Binds(K:W.Frag)(fd:FuncData)(ps:List Str)(ds:List Value):Prop:=
 ∀(s:Shared) (us:List Value),K.In s.heap->(us++ds).length=ps.length->BindsTo s fd ⟨us,[]⟩ (ps.zip (us++ds))
theorem Binds.all{K:W.Frag}{fd:FuncData}{ps:List Str}(h: ∀us:List Value,us.length=ps.length->bindArgs fd ⟨us,[]⟩=pure (ps.zip us)):Binds K fd ps []:=fun s us _ hl=>by
 rw [Y0] at hl ⊢
 exact .of_eq (h us hl)
def Passes(CX:QI)(X:Cx)(E:XK):Prop:= ∀(pins:List (Addr×Obj)) (σ:St) (H:Hp) (s:Shared) (e:Value) (s':Shared),Inv X pins σ H s->CX X.stack H s E e s'->X.xe e s'
section
variable {X:Cx} {CX:QI} {k:Nat} {f C:Addr} {fd:FuncData} {ps:List Str} {sp:Sp} {dvs:List V} {ds:List Value} {E:XK} {x m:Str} {p pos apos:Pos} {e o:Expr} {es:List Expr} {ta:TE} {t:TA}
theorem M8 {pins:List (Addr×Obj)} {σ:St} {H:Hp} {s:Shared} {Q:VK} {us:List Value} {vs:List V} (F:bw X.prog X.w X.K X.mg X.base CX k f fd ps sp) (hr:mj k X.A) (hb:Binds X.K fd ps ds) (hd:Vals dvs ds) (hx:Passes CX X E)
  (I:Inv X pins σ H s) (r:Vals vs us) (h:sp (vs++dvs) H Q E):wpAny (model X.prog X.w) X.A (call (.ref f) us) (EP X pins σ Q) X.xe s:=by
 have r2:Vals (vs++dvs) (us++ds):=r.append hd
 have hl:(us++ds).length=ps.length:=by rw [<-r2.length];exact F.len _ _ _ _ h
 refine wpAny_call (codeAny_mono (F.run X.A X.stack s H ⟨us,[]⟩ (us++ds) (vs++dvs) Q E hr I.VN (hb s us I.GX hl) r2 h) fun r s' hq=>?_)
 cases r with
 | error e=>exact hx pins σ H s e s' I hq
 | ok fl=>
  cases fl with
  | ret u=>exact I.after hq
  | next=>exact False.elim hq
  | brk=>exact False.elim hq
  | cont=>exact False.elim hq
theorem aB (F:bw X.prog X.w X.K X.mg X.base CX k f fd ps sp) (hr:mj k X.A) (hg:Gl X x) (hm:X.mg x=some (.ref f)) (hk:PySem.W.keepIn X.K (.ref f)=true) (hb:Binds X.K fd ps ds) (hd:Vals dvs ds) (hx:Passes CX X E)
  (ha:PA X (e::es) t) (hdb:(x == ("__debug__":Str))=false:=by decide) (he:starEach (e::es) X.env=(false,eval e X.env)::starEach es X.env:=by rfl) (hpl:(backTo pos (starEach es X.env)).any (·.1)=false:=by rfl):
  PE X (.Call (.Name x p) (e::es) [] pos) (zU sp dvs E t):=by
 intro pins s σ H Q I h
 refine wpAny_Call_Name_kw (zw I hg hm ?_ hdb)
 refine PySem.W.callWith_K (h₀:=X.base) I.ok.mod.Ws hk (gD (ha pos pins s σ H _ I h) fun us s1 ⟨vs,H1,I1,r,q⟩=>⟨I1.GX,?_⟩) he hpl
 exact M8 F hr hb hd hx I1 r q
theorem bM {pl:Sem Bool} (he:PE X o ta) (c:zy X.K C) (hm:Meth X.K C m f) (F:bw X.prog X.w X.K X.mg X.base CX k f fd ps sp) (hr:mj k X.A) (hb:Binds X.K fd ps ds) (hd:Vals dvs ds) (hx:Passes CX X E) (ha:PA X (e::es) t)
  (hst:starEach (e::es) X.env=(false,eval e X.env)::starEach es X.env:=by rfl) (hpl:(backTo pos (starEach es X.env)).any (·.1)=false:=by rfl)
  (ht:eval (.Call (.Attribute o m apos) (e::es) [] pos) X.env=(do
   let ov <-eval o X.env
   standAt apos.atName
   let (f,first) <-holding [ov] (getMethod ov m pl)
   callWith pos f first (backTo pos (starEach (e::es) X.env)) (backToKw pos (keywordEach [] X.env))):=by rfl):
  PE X (.Call (.Attribute o m apos) (e::es) [] pos) (Lu C m sp dvs E ta t):=by
 intro pins s σ H Q I h
 refine PySem.W.methodCall_KW (pl:=pl) (gD (he pins s σ H _ I h) fun u s1 ⟨x,H1,I1,rx,a,dx,fs,ex,ea,l,q⟩=>?_) ht
 subst ex
 obtain rfl:u=Value.ref a:=rx
 refine Av I1 ea c hm l ?_
 refine PySem.W.callWith_K (first:= [.ref a]) (h₀:=X.base) I.ok.mod.Ws hm.kp (gD (ha pos pins s1 σ H1 _ I1 q) fun us s2 ⟨vs,H2,I2,r,q2⟩=>⟨I2.GX,?_⟩) hst hpl
 exact M8 (us:= .ref a::us) (vs:= .ref a::vs) F hr hb hd hx I2 (.cons rfl r) q2
theorem d8 {pl:Sem Bool} (he:PE X o ta) (c:zy X.K C) (hm:Meth X.K C m f) (F:bw X.prog X.w X.K X.mg X.base CX k f fd ps sp) (hr:mj k X.A) (hb:Binds X.K fd ps ds) (hd:Vals dvs ds) (hx:Passes CX X E)
  (ht:eval (.Call (.Attribute o m apos) [] [] pos) X.env=(do
   let ov <-eval o X.env
   standAt apos.atName
   let (f,first) <-holding [ov] (getMethod ov m pl)
   callWith pos f first (backTo pos (starEach [] X.env)) (backToKw pos (keywordEach [] X.env))):=by rfl):
  PE X (.Call (.Attribute o m apos) [] [] pos) (Lu C m sp dvs E ta mQ):=by
 intro pins s σ H Q I h
 refine PySem.W.methodCall_KW (pl:=pl) (gD (he pins s σ H _ I h) fun u s1 ⟨x,H1,I1,rx,a,dx,fs,ex,ea,l,q⟩=>?_) ht
 subst ex
 obtain rfl:u=Value.ref a:=rx
 refine Av I1 ea c hm l ?_
 exact PySem.W.callWith_K0 (first:= [.ref a]) I1.GX hm.kp (M8 (us:= [.ref a]) (vs:= [.ref a]) F hr hb hd hx I1 (.cons rfl .nil) q)
structure Mk(K:W.Frag)(C f:Addr):Prop where
 makes:PySem.W.makesIn K C=true
 init:PySem.W.findIn K (.ref C) "__init__"=some (some (.ref f))
 fn:PySem.W.isFn K (.ref f)=true
 kp:PySem.W.keepIn K (.ref C)=true
theorem Mm {pins:List (Addr×Obj)} {σ:St} {H:Hp} {s:Shared} {Q:VK} {us:List Value} {vs:List V} (M:Mk X.K C f) (F:bw X.prog X.w X.K X.mg X.base CX k f fd ps sp) (hr:mj (k + 1) X.A) (hb:Binds X.K fd ps ds) (hd:Vals dvs ds)
  (hx:Passes CX X E) (I:Inv X pins σ H s) (r:Vals vs us)
  (h: ∀x dx,H x=none->H dx=none->dx≠x->sp (.ref x::(vs++dvs)) (upd (upd H dx (.own x)) x (.ins C dx [])) (fun v H2=>v= .dh/\Q (.ref x) H2) E):
  wpAny (model X.prog X.w) X.A (call (.ref C) us) (EP X pins σ Q) X.xe s:=by
 have hq:=h (s.heap.objs.size + 1) s.heap.objs.size (I.hok.fresh (Nat.le_succ _)) (I.hok.fresh (YM _)) (Nat.ne_of_lt (Nat.lt_succ_self _))
 have I2:=Inv.made (C:=C) I
 have r2:Vals (V.ref (s.heap.objs.size + 1)::(vs++dvs)) (Value.ref (s.heap.objs.size + 1)::(us++ds)):= .cons rfl (r.append hd)
 have hl:(Value.ref (s.heap.objs.size + 1)::us++ds).length=ps.length:=by
  have e:=r2.length
  rw [F.len _ _ _ _ hq] at e
  exact e.symm
 refine wpAny_call (Ri (f:=f) I.GX M.makes M.init (beq_iff_eq.mp M.fn) (codeAny_mono (F.run _ X.stack _ _ ⟨Value.ref (s.heap.objs.size + 1)::us,[]⟩ (Value.ref (s.heap.objs.size + 1)::(us++ds)) _ _ E (hr.make C us [])
  (I2.VN.make C us []) (hb _ (Value.ref (s.heap.objs.size + 1)::us) I2.GX hl) r2 hq) fun r s' hq'=>?_))
 cases r with
 | error e=>exact hx pins σ _ _ e s' I2 hq'
 | ok fl=>
  cases fl with
  | ret u=>
   obtain ⟨v,H',I3,rv,ev,q3⟩:=I2.after hq'
   subst ev
   exact ⟨rv,⟨V.ref (s.heap.objs.size + 1),H',I3,rfl,q3⟩⟩
  | next=>exact False.elim hq'
  | brk=>exact False.elim hq'
  | cont=>exact False.elim hq'
theorem jz (M:Mk X.K C f) (F:bw X.prog X.w X.K X.mg X.base CX k f fd ps sp) (hr:mj (k + 1) X.A) (hg:Gl X x) (hm:X.mg x=some (.ref C)) (hb:Binds X.K fd ps ds) (hd:Vals dvs ds) (hx:Passes CX X E)
  (ha:PA X (e::es) t) (hdb:(x == ("__debug__":Str))=false:=by decide) (he:starEach (e::es) X.env=(false,eval e X.env)::starEach es X.env:=by rfl) (hpl:(backTo pos (starEach es X.env)).any (·.1)=false:=by rfl):
  PE X (.Call (.Name x p) (e::es) [] pos) (Vc C sp dvs E t):=by
 intro pins s σ H Q I h
 refine wpAny_Call_Name_kw (zw I hg hm ?_ hdb)
 refine PySem.W.callWith_K (h₀:=X.base) I.ok.mod.Ws M.kp (gD (ha pos pins s σ H _ I h) fun us s1 ⟨vs,H1,I1,r,q⟩=>⟨I1.GX,?_⟩) he hpl
 exact Mm M F hr hb hd hx I1 r q
theorem SO (M:Mk X.K C f) (F:bw X.prog X.w X.K X.mg X.base CX k f fd ps sp) (hr:mj (k + 1) X.A) (hg:Gl X x) (hm:X.mg x=some (.ref C)) (hb:Binds X.K fd ps ds) (hd:Vals dvs ds) (hx:Passes CX X E)
  (hdb:(x == ("__debug__":Str))=false:=by decide):PE X (.Call (.Name x p) [] [] pos) (Vc C sp dvs E mQ):=by
 intro pins s σ H Q I h
 refine wpAny_Call_Name_kw (zw I hg hm ?_ hdb)
 exact PySem.W.callWith_K0 I.GX M.kp (Mm (us:= []) M F hr hb hd hx I .nil h)
end
structure ay(N P:List Str)(sc:Scope):Prop where
 kind:sc.kind= .function
 co:sc.isCoroutine=false
 gen:sc.isGenerator=false
 nd:N.Nodup
 pre:N.take P.length=P
 par: ∀x ∈ P,sc.names.lookup x=some .local\/sc.names.lookup x=some .cell
 We: ∀y ∈ sc.names,y.2≠ .free
theorem II{kindOf:Str->Option NameKind}{x:Str}: ∀ {binds:List (Str×Value)} {m:Str->Option Value},(∀v,(x,v) ∉ binds)->bindL kindOf binds m x=m x
 | [],_,_=>rfl
 | (n,v)::r,m,h=>by
  unfold bindL
  rw [II fun w hw=>h w (YK _ hw)]
  split
  ·have:x≠n:=by rintro rfl;exact h v YN
   simp [this]
  ·rfl
theorem IL{kindOf:Str->Option NameKind}{x:Str}: ∀ {binds:List (Str×Value)} {m:Str->Option Value},(∀v,(x,v) ∉ binds)->bindC kindOf binds m x=m x
 | [],_,_=>rfl
 | (n,v)::r,m,h=>by
  unfold bindC
  rw [IL fun w hw=>h w (YK _ hw)]
  split
  ·rfl
  ·have:x≠n:=by rintro rfl;exact h v YN
   simp [this]
theorem IV{kindOf:Str->Option NameKind}{x:Str}{v:Value}: ∀ {P:List Str} {vs:List Value} {i:Nat} {m:Str->Option Value},P.Nodup->P[i]?=some x->vs[i]?=some v->kindOf x=some .local->
  bindL kindOf (P.zip vs) m x=some v
 | [],_,_,_,_,h,_,_=>by simp at h
 | _::_,[],_,_,_,_,h,_=>by simp at h
 | p::P,w::vs,0,m,nd,h1,h2,hk=>by
  simp at h1 h2;subst h1;subst h2
  show bindL kindOf ((p,w)::P.zip vs) m p=_
  unfold bindL
  rw [II fun v hv=>(List.nodup_cons.mp nd).1 (List.of_mem_zip hv).1,if_pos hk]
  simp
 | p::P,w::vs,i + 1,m,nd,h1,h2,hk=>by
  show bindL kindOf ((p,w)::P.zip vs) m x=_
  unfold bindL
  exact IV (i:=i) (List.nodup_cons.mp nd).2 (by simpa using h1) (by simpa using h2) hk
theorem Io{kindOf:Str->Option NameKind}{x:Str}{v:Value}: ∀ {P:List Str} {vs:List Value} {i:Nat} {m:Str->Option Value},P.Nodup->P[i]?=some x->vs[i]?=some v->kindOf x≠some .local->
  bindC kindOf (P.zip vs) m x=some v
 | [],_,_,_,_,h,_,_=>by simp at h
 | _::_,[],_,_,_,_,h,_=>by simp at h
 | p::P,w::vs,0,m,nd,h1,h2,hk=>by
  simp at h1 h2;subst h1;subst h2
  show bindC kindOf ((p,w)::P.zip vs) m p=_
  unfold bindC
  rw [IL fun v hv=>(List.nodup_cons.mp nd).1 (List.of_mem_zip hv).1,if_neg hk]
  simp
 | p::P,w::vs,i + 1,m,nd,h1,h2,hk=>by
  show bindC kindOf ((p,w)::P.zip vs) m x=_
  unfold bindC
  exact Io (i:=i) (List.nodup_cons.mp nd).2 (by simpa using h1) (by simpa using h2) hk
def start(N:List Str)(vs:List V):St:=vs.map some++List.replicate (N.length - vs.length) none
def DJ(CX:QI)(P:Program)(w:World)(K:W.Frag)(mg:Str->Option Value)(base:Heap)(N:List Str)(qual:Str)(scope:Scope)(f:Addr)(cd:Value)(A:Around)(outer:List Env)(s:Shared)(H:Hp)(E:XK):Cx where
 prog:=P
 w:=w
 K:=K
 mg:=mg
 base:=base
 A:=A.deeper (envOfC qual scope s.heap.objs.size f cd)
 N:=N
 D8:=s
 Xa:=H
 env:=envOfC qual scope s.heap.objs.size f cd
 outer:=outer
 stack:=envOfC qual scope s.heap.objs.size f cd::outer
 ex:= []
 calm:=true
 fn:=fun _=>true
 pn:= []
 xe:=fun e s'=>wpAny (model P w) (A.deeper (envOfC qual scope s.heap.objs.size f cd)) («leaving» (envOfC qual scope s.heap.objs.size f cd) e) (fun _ s''=>CX outer H s E e s'') (fun e' s''=>CX outer H s E e' s'') s'
theorem Mq{sc:Scope}{n:Nat}{x:Str}(h:sc.names.lookup x=some .cell): ∃c,(cellsFrom n sc.names []).lookup x=some c:=by
 have q:=PySem.W.cellsFrom_some sc.names n [] (.inl h)
 exact Option.isSome_iff_exists.mp q
theorem Qp {CX:QI} {P:Program} {w:World} {K:W.Frag} {mg:Str->Option Value} {base:Heap} {N ps:List Str} {qual:Str} {scope:Scope} {f:Addr} {cd:Value} {A:Around} {outer:List Env} {s s1:Shared} {H:Hp} {E:XK} {us:List Value} {vs:List V}
  (S:ay N ps scope) (hd:A.handled=none) (e0:Nq P w K mg base A outer s H) (hl:vs.length=ps.length) (r:Vals vs us)
  (x:InCallC s s.heap.objs.size (bindL (envOfC qual scope s.heap.objs.size f cd).kindOf (ps.zip us) fun _=>none) (cellsFrom (s.heap.objs.size + 1) scope.names []) (bindC (envOfC qual scope s.heap.objs.size f cd).kindOf (ps.zip us) fun _=>none) s1):
  Inv (DJ CX P w K mg base N qual scope f cd A outer s H E) [] (start N vs) H s1:=by
 have hpl:ps.length<=N.length:=by have:=congrArg List.length S.pre;rw [Zd] at this;lia
 obtain ⟨h1,tk,rfl,hk⟩:=x.done
 have noA: ∀b:Addr,b ∉ (DJ CX P w K mg base N qual scope f cd A outer s H E).ex:=fun b z=>absurd (show b ∈ ([]:List Addr) from z) (by simp)
 refine ⟨⟨e0.mod,S.kind,rfl,rfl,YM _,fun y z c h1 h2=>?_,fun y hy=>?_,fun y c _ h=>?_,fun _=>hd,Around.frames_deeper e0.frames,.inr ⟨rfl,rfl⟩,fun b z=>absurd z (noA b),e0.bs,e0.Q5,fun b _ _=>noA b,fun b z=>absurd z (noA b),e0.BP,e0.UI⟩,
  rfl,e0.bare,Un.kept hk,⟨_,x.toInCall.ns,fun i y v h1 h2 h3=>?_⟩,fun y c h=>⟨_,x.cell y c h⟩,e0.hok.fresh (YM _),fun y c h=>?_,fun p hp=>absurd (show p ∈ ([]:List (Addr×Obj)) from hp) (by simp),e0.hok.kept hk,?_⟩
 ·exact name_of_addr x.apart (PySem.mem_of_lookup h1) (PySem.mem_of_lookup h2)
 ·have hy:scope.names.lookup y=some .cell\/scope.names.lookup y=some .free:=hy
  rcases hy with hy | hy
  ·exact Mq hy
  ·exact absurd rfl (S.We _ (PySem.mem_of_lookup hy))
 ·exact Nat.le_of_lt (x.above y c (PySem.mem_of_lookup h))
 ·have hi:i < vs.length:=by
   unfold start at h2
   by_cases hi:i < vs.length
   ·exact hi
   ·rw [List.getElem?_append_right (by simpa using hi)] at h2
    rw [List.getElem?_replicate] at h2
    split at h2 <;> cases h2
  have ha:vs[i]?=some v:=by
   unfold start at h2
   rw [List.getElem?_append_left (by simpa using hi),Y6] at h2
   cases e:vs[i]? with
   | none=>rw [e] at h2;cases h2
   | some a=>rw [e] at h2;cases h2;rfl
  obtain ⟨u,hu,rv⟩:=r.get ha
  have hp:ps[i]?=some y:=by
   rw [<-S.pre,List.getElem?_take_of_lt (by lia)];exact h1
  have ndP:ps.Nodup:=by rw [<-S.pre];exact S.nd.sublist (List.take_sublist _ _)
  refine ⟨u,rv,?_⟩
  rcases S.par y (Y7 hp) with k | k
  ·exact .inl ⟨k,IV ndP hp hu k⟩
  ·obtain ⟨c,e⟩:=Mq (n:=s.heap.objs.size + 1) k
   refine .inr ⟨.inl k,c,e,?_⟩
   have q:=x.cell y c e
   rw [Io ndP hp hu (by show scope.names.lookup y≠_;rw [k];decide)] at q
   exact q
 ·exact e0.hok.fresh (Nat.le_of_lt (x.above y c (PySem.mem_of_lookup h)))
 ·unfold start
  show _=N.length
  rw [YH,YI,List.length_replicate]
  lia
theorem Vb {CX:QI} {P:Program} {w:World} {K:W.Frag} {mg:Str->Option Value} {base:Heap} {k:Nat} {f:Addr} {name qual:Str} {params:Arguments} {body:List Stmt} {scope:Scope} {dV kV doc pm cdv ct oc:Value} {an od:Option Addr}
  {osl:Array (Option Value)} {N ps:List Str} {sp:Sp} (lk:K.lookup f=some ⟨oc,od,.func (PySem.W.fnOf name qual params body scope dV kV doc pm an cdv ct),osl⟩) (hcd:PySem.W.codeIn K cdv qual=true) (S:ay N ps scope)
  (len: ∀vs H Q E,sp vs H Q E->vs.length=ps.length)
  (hbody: ∀(A:Around) (outer:List Env) (s:Shared) (H:Hp) (vs:List V) (Q:VK) (E:XK),mj k (A.deeper (envOfC qual scope s.heap.objs.size f cdv))->sp vs H Q E->
   ∃t,Mv (DJ CX P w K mg base N qual scope f cdv A outer s H E) body t/\t {nx:=fun _ H'=>Q .dh H',rt:=Q} (start N vs) H):
  bw P w K mg base CX (k + 1) f (PySem.W.fnOf name qual params body scope dV kV doc pm an cdv ct) ps sp:=by
 refine ⟨len,fun A outer s H args us vs Q E hr e0 hb r hsp=>?_⟩
 have hl:=len _ _ _ _ hsp
 have KX:K.In s.heap:=e0.mod.Ws.keeps fun b o e=>(e0.bs b o e).1
 have lim:s.heap.NoLimit:=e0.mod.nolimit.keeps fun b o e=>(e0.bs b o e).1
 have hkind: ∀y ∈ ps.zip us,scope.names.lookup y.1=some .local\/(scope.names.lookup y.1=some .cell/\((cellsFrom (s.heap.objs.size + 1) scope.names []).lookup y.1).isSome=true):=fun ⟨n,v⟩ hy=>by
  rcases S.par n (List.of_mem_zip hy).1 with q | q
  ·exact .inl q
  ·exact .inr ⟨q,PySem.W.cellsFrom_some _ _ _ (.inl q)⟩
 refine codeAny_call_function hr.depth (KX _ _ lk) rfl S.co S.gen rfl (PySem.W.codeRec_of KX hcd) (hb _ _ _ _ ?_)
 refine wpAny_newFunctionEnv_cells S.kind hkind fun env he s1 x=>?_
 subst he
 refine ⟨lim.keeps x.toInCall.keep,codeAny_func ?_⟩
 obtain ⟨t,ht,hq⟩:=hbody A outer s H vs Q E (hr.deeper _) hsp
 have I:Inv (DJ CX P w K mg base N qual scope f cdv A outer s H E) [] (start N vs) H s1:=Qp S hr.hd e0 hl r x
 refine wpAny_mono (ht [] s1 (start N vs) H _ I hq) (fun fl s' hs=>?_) fun e s' hs=>hs
 have fin: ∀ {σ':St} {H':Hp} {v:V} {u:Value},Inv (DJ CX P w K mg base N qual scope f cdv A outer s H E) [] σ' H' s'->RelV v u->Q v H'->CE outer P w H s Q u s':=
  fun {σ' H' v u} J rv q=>⟨v,H',J.os,J.bare,J.base,J.hok,rv,q⟩
 cases fl with
 | ret u=>
  obtain ⟨v,σ',H',J,rv,q⟩:=hs
  exact fin J rv q
 | next=>
  obtain ⟨σ',H',J,q⟩:=hs
  exact fin (v:=V.dh) (u:=Value.none) J rfl q
 | brk=>
  obtain ⟨_,_,_,q⟩:=hs
  exact False.elim q
 | cont=>
  obtain ⟨_,_,_,q⟩:=hs
  exact False.elim q
end L2
namespace L2
open PySem PySem.Spec PyProof.Rows
section
variable {X:Cx} {x:Str} {p pos:Pos} {e:Expr} {es:List Expr} {t:TA} {id T:String} {r:List V->Hp->VK->Prop}
def Vo(r:List V->Hp->VK->Prop)(t:TA):TE:=fun σ H Q=>t σ H fun vs H1=>r vs H1 Q
theorem bN (hc:u_ X (.builtin id) r) (hg:Gl X x) (hm:X.mg x=none) (hv:bootBuiltins x=some (.builtin id)) (ha:PA X (e::es) t) (hn:x≠"__name__":=by decide) (hdb:(x == ("__debug__":Str))=false:=by decide)
  (he:starEach (e::es) X.env=(false,eval e X.env)::starEach es X.env:=by rfl) (hpl:(backTo pos (starEach es X.env)).any (·.1)=false:=by rfl):PE X (.Call (.Name x p) (e::es) [] pos) (Vo r t):=by
 intro pins s σ H Q I h
 refine wpAny_Call_Name_kw (Ka I hg hm hv ?_ hn hdb)
 exact PyProof.Rows.callWith_builtin1 (gD (ha pos pins s σ H _ I h) fun us s1 ⟨vs,H1,I1,r1,q1⟩=>hc pins s1 σ H1 vs us Q I1 r1 q1) he hpl
theorem vF (hc:u_ X (.type T) r) (hg:Gl X x) (hm:X.mg x=none) (hv:bootBuiltins x=some (.type T)) (ha:PA X (e::es) t) (hn:x≠"__name__":=by decide) (hdb:(x == ("__debug__":Str))=false:=by decide)
  (he:starEach (e::es) X.env=(false,eval e X.env)::starEach es X.env:=by rfl) (hpl:(backTo pos (starEach es X.env)).any (·.1)=false:=by rfl):PE X (.Call (.Name x p) (e::es) [] pos) (Vo r t):=by
 intro pins s σ H Q I h
 refine wpAny_Call_Name_kw (Ka I hg hm hv ?_ hn hdb)
 exact PyProof.Rows.callWith_type1 (gD (ha pos pins s σ H _ I h) fun us s1 ⟨vs,H1,I1,r1,q1⟩=>hc pins s1 σ H1 vs us Q I1 r1 q1) he hpl
end
end L2
namespace HT
open PySem PyProof.Rows
section
variable {prog:Program} {w:World} {A:Around} {E:Value->Shared->Prop} {s:Shared}
theorem Tw {t b:Addr} {vs ws:List Value} {Q:Value->Shared->Prop} (ht:IsTup s.heap t vs.toArray) (hb:IsTup s.heap b ws.toArray) (hv:vs≠ [])
  (h1:ws= []->Q (.ref t) s) (h2:ws≠ []->Q (.ref s.heap.objs.size) {s with heap:=s.heap.push {cls:= .type "tuple",data:= .seq (vs++ws).toArray}})
  (hsz:vs.length + ws.length<=sizeLine):wpAny (model prog w) A (binaryOp .Add (.ref t) (.ref b)) Q E s:=by
 obtain ⟨⟨cls,dd,data,sl⟩,ho,hc,n,hd⟩:=id ht
 obtain ⟨⟨cls2,dd2,data2,sl2⟩,ho2,hc2,n2,hd2⟩:=id hb
 simp only at hc hd hc2 hd2
 subst hc hd hc2 hd2
 have e:vs.toArray++ws.toArray=(vs++ws).toArray:=by simp
 by_cases hw:ws= []
 ·exact concat_meets ⟨_,ho,rfl⟩ ⟨_,ho2,rfl⟩ noFill_tuple_add seq_tuple_add PySem.F.slot_tuple_add PySem.F.entry_tuple_add (PySem.F.args_tuple_add_2 _ _)
   (tuple_addW1 t b vs.toArray ws.toArray n n2 dd dd2 sl sl2 (by simpa using hv) (by simp [hw])) ⟨ho,ho2,h1 hw⟩
 ·refine concat_meets ⟨_,ho,rfl⟩ ⟨_,ho2,rfl⟩ noFill_tuple_add seq_tuple_add PySem.F.slot_tuple_add PySem.F.entry_tuple_add (PySem.F.args_tuple_add_2 _ _)
   (tuple_addW2 t b vs.toArray ws.toArray n n2 dd dd2 sl sl2 (by simpa using hv) (by simpa using hw) (by rw [Y5,Y5];exact hsz)) ⟨ho,ho2,?_⟩
  rw [e]
  exact h2 hw
def rj(n d:Nat):Option Int->Nat
 | none=>d
 | some v=>if v < 0 then (v + (n:Int)).toNat else min v.toNat n
theorem Ln(n d:Nat):rj n d none=d:=rfl
theorem Em(n d k:Nat):rj n d (some (k:Int))=min k n:=by
 show (if (k:Int) < 0 then ((k:Int) + (n:Int)).toNat else min (k:Int).toNat n)=min k n
 rw [if_neg (by lia),Int.toNat_natCast]
theorem Rk(n d:Nat)(hd:d<=n)(o:Option Int):rj n d o<=n:=by
 cases o with
 | none=>exact hd
 | some v=>
  show (if v < 0 then (v + (n:Int)).toNat else min v.toNat n)<=n
  by_cases hv:v < 0
  ·rw [if_pos hv];lia
  ·rw [if_neg hv];exact Nat.min_le_right _ _
end
end HT
namespace L2
open PySem PySem.Spec PyProof.Rows
abbrev TO:=St->Hp->(Option Int->Hp->Prop)->Prop
def PO(X:Cx)(e:Option Expr)(t:TO):Prop:=
 ∀(pins:List (Addr×Obj)) (s:Shared) (σ:St) (H:Hp) (Q:Option Int->Hp->Prop),Inv X pins σ H s->t σ H Q->
  wpAny (model X.prog X.w) X.A (evalPart e X.env) (fun u s'=> ∃o H',Inv X pins σ H' s'/\IsPart u o/\Q o H') X.xe s
def TV:TO:=fun _ H Q=>Q none H
def So(t:TE):TO:=fun σ H Q=>t σ H fun x H1=> ∃i,x= .int i/\Q (some i) H1
section
variable {X:Cx} {e:Expr} {te:TE} {lo hi:Option Expr} {tl th:TO} {pos p2:Pos}
theorem Pk:PO X none TV:=by
 intro pins s σ H Q I h
 rw [evalPart_none]
 exact wpAny_pure ⟨none,H,I,.none,h⟩
theorem fu(h:PE X e te):PO X (some e) (So te):=by
 intro pins s σ H Q I hw
 rw [evalPart_some]
 refine gD (h pins s σ H _ I hw) fun u s1 ⟨x,H1,I1,r1,q1⟩=>?_
 obtain ⟨i,rfl,q⟩:=q1
 obtain ⟨t,rfl⟩:=r1
 exact ⟨some i,H1,I1,.int i t,q⟩
def Xy(X:Cx)(r:V->Option Int->Option Int->Hp->VK->Prop):Prop:=
 ∀(pins:List (Addr×Obj)) (s:Shared) (σ:St) (H:Hp) (x:V) (v vl vu:Value) (lo hi:Option Int) (sl:Addr) (Q:VK),Inv X pins σ H s->RelV x v->s.heap.IsSliceOf sl vl vu .none->IsPart vl lo->IsPart vu hi->r x lo hi H Q->
  ∃T id,typeLookup (.type T) "__getitem__"=pure (some (.builtin id))/\s.TypeIs v T/\wpAny (model X.prog X.w) X.A (getItem v (.ref sl)) (EP X pins σ Q) X.xe s
def Ys(r:V->Option Int->Option Int->Hp->VK->Prop)(te:TE)(tl th:TO):TE:=fun σ H Q=>te σ H fun x H1=>tl σ H1 fun l H2=>th σ H2 fun u H3=>r x l u H3 Q
theorem sI{r:V->Option Int->Option Int->Hp->VK->Prop}(hr:Xy X r)(he:PE X e te)(hl:PO X lo tl)(hu:PO X hi th):PE X (.Subscript e (.Slice lo hi none p2) pos) (Ys r te tl th):=by
 intro pins s σ H Q I h
 refine Subscript_ (gD (he pins s σ H _ I h) fun v s1 ⟨x,H1,I1,r1,q1⟩=>?_)
 refine wpAny_Slice (gD (hl pins s1 σ H1 _ I1 q1) fun vl s2 ⟨l,H2,I2,pl,q2⟩=>gD (hu pins s2 σ H2 _ I2 q2) fun vu s3 ⟨u,H3,I3,pu,q3⟩=>?_)
 rw [evalPart_none]
 refine wpAny_pure ?_
 have I4:Inv X pins σ H3 {s3 with heap:=s3.heap.push {cls:= .type "slice",data:= .fields #[vl,vu,.none]}}:=I3.kept (t':=s3.toks) fun b ob q=>Heap.get?_push_of_some _ q
 obtain ⟨T,id,hT,ht,hg⟩:=hr pins {s3 with heap:=s3.heap.push {cls:= .type "slice",data:= .fields #[vl,vu,.none]}} σ H3 x v vl vu l u s3.heap.objs.size Q I4 r1 (Heap.IsSliceOf.new ..) pl pu q3
 show wpAny (model X.prog X.w) X.A (subscriptTail e (.Slice lo hi none p2) v (.ref s3.heap.objs.size)) (EP X pins σ Q) X.xe {s3 with heap:=s3.heap.push {cls:= .type "slice",data:= .fields #[vl,vu,.none]}}
 exact tail_any (ops:= [.ref s3.heap.objs.size,v]) ht hT hg (by with_unfolding_all rfl)
def Qu(xs:List V)(lo hi:Option Int):List V:=(xs.drop (HT.rj xs.length 0 lo)).take (HT.rj xs.length xs.length hi - HT.rj xs.length 0 lo)
theorem LV(xs:List V)(lo hi:Option Int):(Qu xs lo hi).length<=xs.length:=by
 unfold Qu
 rw [Zd,List.length_drop]
 lia
def Tn(K:W.Frag):R2:=fun x y H Q=> ∃a b xs ys,x= .ref a/\y= .ref b/\jn K H a xs/\jn K H b ys/\xs≠ []/\xs.length + ys.length<=sizeLine/\
 (ys= []->Q (.ref a) H)/\(ys≠ []-> ∀p,H p=none->Q (.ref p) (upd H p (.tup (xs++ys))))
theorem Vals.Jx{xs:List V}{us:List Value}(r:Vals xs us):us= [] ↔ xs= []:=by
 cases r with
 | nil=>simp
 | cons _ _=>simp
theorem Pr:zN X (binaryOp .Add) (Tn X.K):=by
 intro pins s σ H x y v u Q I rx ry h
 obtain ⟨a,b,xs,ys,rfl,rfl,ha,hb,hx,hz,q1,q2⟩:=h
 cases rx
 cases ry
 obtain ⟨its,r1,p1,_⟩:=I.tuple ha
 obtain ⟨its2,r2,p2,_⟩:=I.tuple hb
 refine HT.Tw p1 p2 (fun z=>hx (r1.Jx.mp z)) (fun z=>⟨.ref a,H,I,rfl,q1 (r2.Jx.mp z)⟩) (fun z=>?_) (by rw [<-r1.length,<-r2.length];exact hz)
 refine ⟨.ref s.heap.objs.size,_,I.laid (t':=s.toks) (o:= .tup (xs++ys)) (fun b ob q=>Heap.get?_push_of_some _ q) (YM _) ?_,rfl,q2 (fun w=>z (r2.Jx.mpr w)) _ (I.hok.fresh (YM _))⟩
 exact ⟨by rw [YH];exact hz,_,r1.append r2,IsTup.new _ _⟩
end
end L2
namespace L2
open PySem PySem.Spec PyProof.Rows
def Wv(n:Nat)(i:Int):Option Nat:=if 0<=i then (if i < n then some i.toNat else none) else if -(n:Int)<=i then some (i + n).toNat else none
def VZ{α:Type}(xs:List α)(i:Int):Option α:=(Wv xs.length i).bind fun j=>xs[j]?
theorem UY{n:Nat}{i:Int}{j:Nat}(h:Wv n i=some j):seqIndex? i n=some j/\j < n/\ -(n:Int)<=i/\i < n:=by
 unfold Wv at h
 by_cases h0:0<=i
 ·rw [if_pos h0] at h
  by_cases h1:i < n
  ·rw [if_pos h1] at h
   have e:i.toNat=j:=Option.some.inj h
   exact ⟨by rw [seqIndex_of h0 h1,e],by lia,by lia,h1⟩
  ·rw [if_neg h1] at h;cases h
 ·rw [if_neg h0] at h
  by_cases h1: -(n:Int)<=i
  ·rw [if_pos h1] at h
   have e:(i + n).toNat=j:=Option.some.inj h
   exact ⟨by rw [seqIndex_neg (by lia) h1,e],by lia,h1,by lia⟩
  ·rw [if_neg h1] at h;cases h
theorem Pb{α:Type}{xs:List α}{i:Int}{v:α}(h:VZ xs i=some v): ∃j,seqIndex? i xs.length=some j/\xs[j]?=some v/\j < xs.length/\ -(xs.length:Int)<=i/\i < xs.length:=by
 unfold VZ at h
 cases e:Wv xs.length i with
 | none=>rw [e] at h;cases h
 | some j=>
  rw [e] at h
  obtain ⟨h1,h2,h3,h4⟩:=UY e
  exact ⟨j,h1,h,h2,h3,h4⟩
theorem UU{α:Type}{xs:List α}{j:Nat}{v:α}(h:xs[j]?=some v):VZ xs (j:Int)=some v:=by
 have hj:j < xs.length:=(YL.mp h).1
 have e:Wv xs.length (j:Int)=some j:=by
  unfold Wv
  rw [if_pos (by lia),if_pos (by lia)];simp
 unfold VZ;rw [e];exact h
def UG(b:Expr):Prop:= ∀o i,subscripted b false o i=operate [o,i] (getItem o i)
def Xs(X:Cx)(r:R2):Prop:=
 ∀(value slice:Expr) (pins:List (Addr×Obj)) (s:Shared) (σ:St) (H:Hp) (x y:V) (v u:Value) (Q:VK),Inv X pins σ H s->RelV x v->RelV y u->r x y H Q->
  subscripted slice false v u=operate [v,u] (getItem v u)->wpAny (model X.prog X.w) X.A (subscriptTail value slice v u) (EP X pins σ Q) X.xe s
def OS(X:Cx)(id:String)(r:V->List V->Hp->VK->Prop):Prop:=
 ∀(pins:List (Addr×Obj)) (s:Shared) (σ:St) (H:Hp) (x:V) (xs:List V) (v:Value) (us:List Value) (Q:VK),Inv X pins σ H s->RelV x v->Vals xs us->r x xs H Q->
  wpAny (model X.prog X.w) X.A (call (.builtin id) (v::us)) (EP X pins σ Q) X.xe s
section
variable {X:Cx} {a b:Expr} {ta tb:TE} {pos:Pos}
theorem gj{r:R2}(hr:Xs X r)(ha:PE X a ta)(hb:PE X b tb)(hs:UG b):PE X (.Subscript a b pos) (Ep r ta tb):=by
 intro pins s σ H Q I h
 exact Subscript_ (Vl ha hb I h fun v u s2 x y H2 I2 rx ry q=>hr a b pins s2 σ H2 x y v u Q I2 rx ry q (hs _ _))
def Xz(K:W.Frag):R2:=fun x y H Q=> ∃p xs i v,x= .ref p/\y= .int i/\b_ K H p xs/\VZ xs i=some v/\Q v H
def VH(K:W.Frag):R2:=fun x y H Q=> ∃p xs i v,x= .ref p/\y= .int i/\jn K H p xs/\VZ xs i=some v/\Q v H
theorem ku:Xs X (Xz X.K):=by
 intro value slice pins s σ H x y v u Q I rx ry h hs
 obtain ⟨p,xs,i,z,rfl,rfl,hq,he,q⟩:=h
 cases rx
 obtain ⟨t,rfl⟩:=ry
 obtain ⟨its,r,pl,hz⟩:=I.list hq
 obtain ⟨j,h1,h2,h3,h4,h5⟩:=Pb he
 obtain ⟨w,ew,rw'⟩:=r.get h2
 have hl:=r.length
 have hn:=Kw
 have fin:EP X pins σ Q w s:=⟨z,H,I,rw',q⟩
 by_cases h0:0<=i
 ·have hj:i.toNat=j:=by
   rw [seqIndex_of h0 h5] at h1
   exact Option.some.inj h1
  exact item_listR pl.isList h0 (by lia) (by rw [hj];simpa using ew) fin hs
 ·have hj:(i + (its.toArray.size:Int)).toNat=j:=by
   rw [seqIndex_neg (by lia) h4] at h1
   rw [Y5,<-hl]
   exact Option.some.inj h1
  exact subscriptTail_builtinR (x:=w) pl.isList.typeIs slot_list_getitem.lookup
   (wpAny_getItem_list_neg (Q:=fun r s'=>r=w/\EP X pins σ Q r s') pl.isList (by lia) (by rw [Y5] <;> lia) (by lia) (by rw [hj];simpa using ew) ⟨rfl,fin⟩) hs
theorem p_:Xs X (VH X.K):=by
 intro value slice pins s σ H x y v u Q I rx ry h hs
 obtain ⟨p,xs,i,z,rfl,rfl,hq,he,q⟩:=h
 cases rx
 obtain ⟨t,rfl⟩:=ry
 obtain ⟨its,r,pl,hz⟩:=I.tuple hq
 obtain ⟨j,h1,h2,h3,h4,h5⟩:=Pb he
 obtain ⟨w,ew,rw'⟩:=r.get h2
 have hl:=r.length
 have hn:=Kw
 have fin:EP X pins σ Q w s:=⟨z,H,I,rw',q⟩
 exact subscriptTail_builtinR (x:=w) pl.typeIs slot_tuple_getitem.lookup
  (getItem_tuple (j:=j) (Q:=fun r s'=>r=w/\EP X pins σ Q r s') pl (by lia) (by lia) (by rw [Y5,<-hl];exact h1) (by simpa using ew) ⟨rfl,fin⟩) hs
theorem Kh(lo hi:Option Int)(n:Nat):(sliceBounds lo hi none n).1=((HT.rj n 0 lo:Nat):Int)/\(sliceBounds lo hi none n).2.1=((HT.rj n n hi:Nat):Int)/\(sliceBounds lo hi none n).2.2=1:=by
 refine ⟨?_,?_,rfl⟩
 ·cases lo with
  | none=>simp [sliceBounds,HT.rj]
  | some i=>
   simp only [sliceBounds,HT.rj,Option.getD_none,show (1:Int) > 0 by decide,if_true]
   by_cases h:i < 0
   ·simp only [h,if_true] <;> lia
   ·simp only [h,if_false] <;> lia
 ·cases hi with
  | none=>simp [sliceBounds,HT.rj]
  | some i=>
   simp only [sliceBounds,HT.rj,Option.getD_none,show (1:Int) > 0 by decide,if_true]
   by_cases h:i < 0
   ·simp only [h,if_true] <;> lia
   ·simp only [h,if_false] <;> lia
theorem Hg(its:List Value)(lo hi:Option Int):slicePick its.toArray lo hi none=((its.drop (HT.rj its.length 0 lo)).take (HT.rj its.length its.length hi - HT.rj its.length 0 lo)).toArray:=by
 obtain ⟨h1,h2,h3⟩:=Kh lo hi its.toArray.size
 unfold slicePick
 rw [h1,h2,h3]
 simp only [sliceRange_one,pick_run,Y5] <;> rfl
def XQ(K:W.Frag):V->Option Int->Option Int->Hp->VK->Prop:=fun x lo hi H Q=> ∃a xs,x= .ref a/\b_ K H a xs/\ ∀p,H p=none->Q (.ref p) (upd H p (.lst (Qu xs lo hi)))
theorem Uy:Xy X (XQ X.K):=by
 intro pins s σ H x v vl vu lo hi sl Q I rx hs pl pu h
 obtain ⟨a,xs,rfl,hx,q⟩:=h
 cases rx
 obtain ⟨its,r,ht,hz⟩:=I.list hx
 have hlen:=r.length
 refine ⟨"list",_,slot_list_getitem.lookup,ht.isList.typeIs,?_⟩
 refine wpAny_getItem_list_slice ht.isList hs pl pu .none (by simp) ?_ (by rw [Y5] <;> lia)
 rw [Hg,<-hlen]
 refine ⟨.ref s.heap.objs.size,_,I.laid (t':=s.toks) (o:= .lst (Qu xs lo hi)) (fun b ob q=>Heap.get?_push_of_some _ q) (YM _) ?_,rfl,q _ (I.hok.fresh (YM _))⟩
 exact ⟨Y4 (LV xs lo hi) hz,_,0,(r.drop (HT.rj xs.length 0 lo)).take (HT.rj xs.length xs.length hi - HT.rj xs.length 0 lo),Heap.get?_push_size _ rfl⟩
def qE:V->Bool
 | .dh=>true
 | .bl _=>true
 | .int _=>true
 | .str _=>true
 | _=>false
def M0:V->V->Bool
 | .dh,.dh=>true
 | .bl a,.bl b=>a == b
 | .bl a,.int b=>(if a then 1 else 0) == b
 | .int a,.bl b=>a == (if b then 1 else 0)
 | .int a,.int b=>a == b
 | .str a,.str b=>a == b
 | _,_=>false
theorem Vs{A:Around}{s:Shared}{y x:V}{u v:Value}(ry:RelV y u)(rx:RelV x v)(fy:qE y=true)(fx:qE x=true):SeqAt.EqAt A s u v (M0 y x):=by
 cases y with
 | dh=>
  cases ry
  cases x with
  | dh=>cases rx;exact SeqAt.EqAt.same _
  | bl b=>cases rx;exact SeqAt.EqAt.none_bool b
  | int b=>obtain ⟨t,rfl⟩:=rx;exact SeqAt.EqAt.none_int b t
  | str b=>obtain ⟨t,rfl⟩:=rx;exact SeqAt.EqAt.none_str b t
  | _=>exact absurd (show false=true from fx) YZ
 | bl a=>
  cases ry
  cases x with
  | dh=>cases rx;exact SeqAt.EqAt.bool_none a
  | bl b=>cases rx;exact SeqAt.EqAt.bool_bool a b
  | int b=>obtain ⟨t,rfl⟩:=rx;exact SeqAt.EqAt.bool_int a b t
  | str b=>obtain ⟨t,rfl⟩:=rx;exact SeqAt.EqAt.bool_str a b t
  | _=>exact absurd (show false=true from fx) YZ
 | int a=>
  obtain ⟨t',rfl⟩:=ry
  cases x with
  | dh=>cases rx;exact SeqAt.EqAt.int_none a t'
  | bl b=>cases rx;exact SeqAt.EqAt.int_bool a t' b
  | int b=>obtain ⟨t,rfl⟩:=rx;exact SeqAt.EqAt.int_int a t' b t
  | str b=>obtain ⟨t,rfl⟩:=rx;exact SeqAt.EqAt.int_str a t' b t
  | _=>exact absurd (show false=true from fx) YZ
 | str a=>
  obtain ⟨t',rfl⟩:=ry
  cases x with
  | dh=>cases rx;exact SeqAt.EqAt.str_none a t'
  | bl b=>cases rx;exact SeqAt.EqAt.str_bool a t' b
  | int b=>obtain ⟨t,rfl⟩:=rx;exact SeqAt.EqAt.str_int a t' b t
  | str b=>obtain ⟨t,rfl⟩:=rx;exact SeqAt.EqAt.str_str a t' b t
  | _=>exact absurd (show false=true from fx) YZ
 | _=>exact absurd (show false=true from fy) YZ
def Q6(x:V)(u:Value):Bool:=match u with
 | .none=>M0 .dh x
 | .bool b=>M0 (.bl b) x
 | .int i _=>M0 (.int i) x
 | .str z _=>M0 (.str z) x
 | _=>false
theorem GS{x y:V}{u:Value}(r:RelV y u)(f:qE y=true):Q6 x u=M0 y x:=by
 cases y with
 | dh=>cases r;rfl
 | bl b=>cases r;rfl
 | int i=>obtain ⟨t,rfl⟩:=r;rfl
 | str z=>obtain ⟨t,rfl⟩:=r;rfl
 | _=>exact absurd (show false=true from f) YZ
theorem Kx{x:V}: ∀ {xs:List V} {us:List Value},Vals xs us->xs.all qE=true->us.any (Q6 x)=xs.any fun y=>M0 y x
 | _,_,.nil,_=>rfl
 | y::xs,u::us,.cons r t,f=>by
  rw [List.all_cons,Y_] at f
  rw [List.any_cons,List.any_cons,GS r f.1,Kx t f.2]
theorem yl{A:Around}{s:Shared}{x:V}{v:Value}(rx:RelV x v)(fx:qE x=true): ∀ {xs:List V} {us:List Value},Vals xs us->xs.all qE=true-> ∀u ∈ us,SeqAt.EqAt A s u v (Q6 x u)
 | _,_,.nil,_=>fun u hu=>by cases hu
 | y::xs,u::us,.cons r t,f=>fun u' hu=>by
  rw [List.all_cons,Y_] at f
  rcases YR.mp hu with rfl | hu
  ·rw [GS r f.1];exact Vs r rx f.1 fx
  ·exact yl rx fx t f.2 u' hu
def Xu(x:V)(xs:List V):Bool:=xs.any fun y=>M0 y x
def Xx(K:W.Frag)(neg:Bool):R2:=fun x y H Q=> ∃p xs,y= .ref p/\(b_ K H p xs\/jn K H p xs)/\qE x=true/\xs.all qE=true/\Q (.bl (if neg then !Xu x xs else Xu x xs)) H
theorem PN:zN X (compareOp .In) (Xx X.K false):=by
 intro pins s σ H x y v u Q I rx ry h
 obtain ⟨p,xs,rfl,hq,fx,fs,q⟩:=h
 cases ry
 rcases hq with hq | hq
 ·obtain ⟨its,r,pl,hz⟩:=I.list hq
  refine SeqAt.in_listAt (Q6 x) pl.isList (fun w hw=>yl rx fx r fs w (by simpa using hw)) ⟨.bl _,H,I,rfl,?_⟩
  rw [show its.toArray.any (Q6 x)=its.any (Q6 x) by simp,Kx r fs]
  exact q
 ·obtain ⟨its,r,pl,hz⟩:=I.tuple hq
  refine SeqAt.in_tupleAt (Q6 x) pl (fun w hw=>yl rx fx r fs w (by simpa using hw)) ⟨.bl _,H,I,rfl,?_⟩
  rw [show its.toArray.any (Q6 x)=its.any (Q6 x) by simp,Kx r fs]
  exact q
theorem jA:u_ X (.builtin "len") (fun xs H Q=> ∃p ys,xs= [.ref p]/\(b_ X.K H p ys\/jn X.K H p ys)/\Q (.int ys.length) H):=by
 intro pins s σ H xs us Q I r h
 obtain ⟨p,ys,rfl,hq,q⟩:=h
 obtain ⟨u,rfl,rx⟩:=vals1 r
 cases rx
 have hn:=Kw
 rcases hq with hq | hq
 ·obtain ⟨its,r',pl,hz⟩:=I.list hq
  have hlen:=r'.length
  exact Calls.call_len_list pl.isList (by simp only [Y5] <;> lia) ⟨.int ys.length,H,I.tok _,⟨s.toks + 1,by rw [Y5,hlen]⟩,q⟩
 ·obtain ⟨its,r',pl,hz⟩:=I.tuple hq
  have hlen:=r'.length
  exact len_tuple pl (by simp only [Y5] <;> lia) ⟨.int ys.length,H,I.tok _,⟨s.toks + 1,by rw [Y5,hlen]⟩,q⟩
theorem KN:u_ X (.builtin "len") (fun xs H Q=> ∃z,xs= [.str z]/\z.length<=sizeLine/\Q (.int z.length) H):=by
 intro pins s σ H xs us Q I r h
 obtain ⟨z,rfl,hz,q⟩:=h
 obtain ⟨u,rfl,t,rfl⟩:=vals1 r
 have hn:=Kw
 exact len_str (by lia) ⟨.int z.length,H,I.tok _,⟨_,rfl⟩,q⟩
def XU(K:W.Frag)(T:String)(x:V)(H:Hp):Prop:=match x with
 | .str _=>T="str"
 | .int _=>T="int"
 | .ref p=>(T="list"/\ ∃xs,b_ K H p xs)\/(T="tuple"/\ ∃o,K.lookup p=some o/\o.cls= .type "tuple"/\o.dict=none)\/
   (T="dict"/\((∃kvs,H p=some (.dK kvs))\/ ∃kvs,H p=some (.dT kvs)))\/(T="set"/\ ∃S n,H p=some (.set S n))
 | _=>False
theorem RV{pins:List (Addr×Obj)}{σ:St}{H:Hp}{s:Shared}{T:String}{x:V}{v:Value}(I:Inv X pins σ H s)(r:RelV x v)(ty:XU X.K T x H):
  s.TypeIs v T/\ ∀a,v= .ref a-> ∃ob,s.heap.get? a=some ob/\ob.dict=none:=by
 cases x with
 | str z=>
  obtain ⟨t,rfl⟩:=r
  cases (show T="str" from ty)
  exact ⟨typeIs_str s z t,fun _ e=>nomatch e⟩
 | int i=>
  obtain ⟨t,rfl⟩:=r
  cases (show T="int" from ty)
  exact ⟨typeIs_int s i t,fun _ e=>nomatch e⟩
 | ref p=>
  cases r
  rcases ty with ⟨rfl,xs,hq⟩ | ⟨rfl,o,hk,hc,hd⟩ | ⟨rfl,hk⟩ | ⟨rfl,S,n,hk⟩
  ·obtain ⟨its,_,pl,_⟩:=I.list hq
   refine ⟨pl.isList.typeIs,fun a e=>?_⟩
   cases e
   obtain ⟨o,n,e,c,hd,_⟩:=pl
   exact ⟨o,e,hd⟩
  ·refine ⟨⟨o,I.GX p o hk,hc⟩,fun a e=>?_⟩
   cases e
   exact ⟨o,I.GX _ o hk,hd⟩
  ·have z: ∃o,s.heap.get? p=some o/\o.ExactDict:=by
    rcases hk with ⟨kvs,hk⟩ | ⟨kvs,hk⟩
    ·obtain ⟨_,_,_,_,o,_,_,e,ex,_⟩:=I.hok p _ hk
     exact ⟨o,e,ex⟩
    ·obtain ⟨_,_,_,_,o,_,_,e,ex,_⟩:=I.hok p _ hk
     exact ⟨o,e,ex⟩
   obtain ⟨o,e,ex⟩:=z
   refine ⟨⟨o,e,ex.1⟩,fun a e2=>?_⟩
   cases e2
   exact ⟨o,e,ex.2.1⟩
  ·obtain ⟨o,_,_,_,e,ex,_⟩:=I.hok p _ hk
   refine ⟨⟨o,e,ex.1⟩,fun a e2=>?_⟩
   cases e2
   exact ⟨o,e,ex.2.1⟩
 | _=>exact False.elim ty
def XN(K:W.Frag)(T:String)(r:V->List V->Hp->VK->Prop)(to:TE):TE:=fun σ H Q=>to σ H fun x H1=>XU K T x H1/\r x [] H1 Q
def Wy(K:W.Frag)(T:String)(r:V->List V->Hp->VK->Prop)(to:TE)(t:TA):TE:=fun σ H Q=>to σ H fun x H1=>XU K T x H1/\t σ H1 fun xs H2=>r x xs H2 Q
variable {o e:Expr} {es:List Expr} {to:TE} {t:TA} {name:Str} {apos cpos:Pos} {T id:String} {r:V->List V->Hp->VK->Prop}
theorem CB (pa:PlainAttrs T) (slot:Slot T name id) (hty:typeOf (.builtin id)=pure (.type "method_descriptor")) (hm:OS X id r) (ho:PE X o to)
  (hbase:attributeBase o name X.env (eval o X.env)=eval o X.env:=by rfl) (hline:(apos.endLine == cpos.line)=true:=by rfl):PE X (.Call (.Attribute o name apos) [] [] cpos) (XN X.K T r to):=by
 intro pins s σ H Q I h
 refine wpAny_Call_method0_late hbase hline (gD (ho pins s σ H _ I h) fun v s1 ⟨x,H1,I1,r1,ty,q1⟩=>?_)
 obtain ⟨h1,h2⟩:=RV I1 r1 ty
 exact ⟨T,id,pa,slot,hty,h1,h2,Calls.callWith_builtin rfl (PySem.evalArgs_none (hm pins s1 σ H1 x [] v [] Q I1 r1 .nil q1))⟩
theorem qw (pa:PlainAttrs T) (slot:Slot T name id) (hty:typeOf (.builtin id)=pure (.type "method_descriptor")) (hm:OS X id r) (ho:PE X o to) (ha:PA X (e::es) t)
  (hbase:attributeBase o name X.env (eval o X.env)=eval o X.env:=by rfl)
  (hfew:((backTo cpos (starEach (e::es) X.env)).all (fun x=>!x.1) && (backToKw cpos (keywordEach [] X.env)).all (fun x=>x.1.isSome)
   && decide ((e::es).length + ([]:List Keyword).length + (if ([]:List Keyword).isEmpty then 0 else 1) < 30))=true:=by rfl)
  (hline:(apos.endLine == cpos.line)=true:=by rfl) (hs:starEach (e::es) X.env=(false,eval e X.env)::starEach es X.env:=by rfl) (hplain:(backTo cpos (starEach es X.env)).any (·.1)=false:=by rfl):
  PE X (.Call (.Attribute o name apos) (e::es) [] cpos) (Wy X.K T r to t):=by
 intro pins s σ H Q I h
 refine wpAny_Call_method_late hbase hfew hline rfl (gD (ho pins s σ H _ I h) fun v s1 ⟨x,H1,I1,r1,ty,q1⟩=>?_)
 obtain ⟨h1,h2⟩:=RV I1 r1 ty
 refine ⟨T,id,pa,slot,hty,h1,h2,?_⟩
 have hA:=ha cpos pins s1 σ H1 _ I1 q1
 rw [hs] at hA ⊢
 refine Calls.callWith_builtin (by show (false || (backTo cpos (starEach es X.env)).any (·.1))=false;rw [hplain] <;> rfl) (Calls.evalArgs_plain ?_)
 exact gD hA fun us s2 ⟨vs,H2,I2,r2,q2⟩=>hm pins s2 σ H2 x vs v us Q I2 r1 r2 q2
end
end L2
namespace L2
open PySem PySem.Spec PyProof.Rows
def Yp(X:Cx)(id:String)(r:V->List V->Hp->VK->Prop):Prop:=
 ∀(pins:List (Addr×Obj)) (s:Shared) (σ:St) (H:Hp) (x:V) (xs:List V) (v:Value) (us:List Value) (Q:VK),Inv X pins σ H s->RelV x v->Vals xs us->r x xs H Q->
  wpAny (model X.prog X.w) X.A (call (.builtin id) (v::us)) (EP X pins σ Q) X.xe s
theorem Vals.one: ∀ {x:V} {us:List Value},Vals [x] us-> ∃u,us= [u]/\RelV x u
 | _,_,.cons r .nil=>⟨_,rfl,r⟩
theorem Vals.two: ∀ {x y:V} {us:List Value},Vals [x,y] us-> ∃u v,us= [u,v]/\RelV x u/\RelV y v
 | _,_,_,.cons r (.cons q .nil)=>⟨_,_,rfl,r,q⟩
section
variable {X:Cx} {pins:List (Addr×Obj)} {σ:St} {H:Hp} {s:Shared} {l b:Addr} {xs ys zs:List V}
theorem Inv.WU {its its':List Value} {n:Nat} {f:Array Value->Array Value} {t':Nat} (I:Inv X pins σ H s) (hH:H l=some (.lst xs))
  (e:s.heap.get? l=some {cls:= .type "list",data:= .seq its.toArray n}) (hf:f its.toArray=its'.toArray) (hv:Vals ys its') (hz:ys.length<=sizeLine):
  Inv X pins σ (upd H l (.lst ys)) {s with heap:=s.heap.update l (Obj.mapSeq f),toks:=t'}:=by
 have q:=PySem.IsL.update e f
 rw [hf] at q
 refine I.write (x:=l) (e:=l) (by rw [hH];exact trivial) (.inl rfl) (fun b' u hb hu=>(Heap.get?_update_other s.heap (Obj.mapSeq f) (Ne.symm hb)).trans hu) ⟨_,q⟩ ?_
 exact ⟨hz,its',_,hv,q⟩
theorem Inv.X7{its:List Value}{t':Nat}(I:Inv X pins σ H s)(hv:Vals ys its)(hz:ys.length<=sizeLine):
  Inv X pins σ (upd H s.heap.objs.size (.lst ys)) {s with heap:=s.heap.push {cls:= .type "list",data:= .seq its.toArray},toks:=t'}:=
 I.laid (fun _ _ q=>Heap.get?_push_of_some _ q) (YM _) ⟨hz,its,0,hv,Heap.get?_push_size _ rfl⟩
theorem Inv.fresh(I:Inv X pins σ H s):H s.heap.objs.size=none:=I.hok.fresh (YM _)
theorem Inv.SH(I:Inv X pins σ H s)(hH:H l=some (.lst xs)):xs.length<=sizeLine/\ ∃(its:List Value) (n:Nat),Vals xs its/\xs.length=its.length/\s.heap.get? l=some {cls:= .type "list",data:= .seq its.toArray n}:=by
 obtain ⟨z,its,n,r,e⟩:=I.hok l _ hH
 exact ⟨z,its,n,r,r.length,e⟩
theorem Sn{n:Nat}(h:n<=sizeLine):Builtin.List.listTooLong n=false:=by
 unfold Builtin.List.listTooLong
 exact YJ (by lia)
end
section
variable {X:Cx}
def Bd:V->List V->Hp->VK->Prop:=fun x vs H Q=> ∃l xs y,x= .ref l/\vs= [y]/\H l=some (.lst xs)/\xs.length < sizeLine/\Q .dh (upd H l (.lst (xs++ [y])))
theorem nZ:Yp X "list.append" Bd:=by
 intro pins s σ H x vs v us Q I rx rv h
 obtain ⟨l,xs,y,rfl,rfl,hH,hz,q⟩:=h
 cases rx
 obtain ⟨u,rfl,ru⟩:=rv.one
 obtain ⟨z,its,n,r,hl,e⟩:=I.SH hH
 refine call_meets F.slot_list_append ⟨_,e,rfl⟩ F.entry_list_append (F.args_list_append_2 _ _) (PySem.list_append l its.toArray n u (by rw [Y5];lia)) ⟨e,?_⟩
 refine ⟨.dh,_,I.WU (its':=its++ [u]) hH e (by simp) (r.append (.cons ru .nil)) ?_,rfl,q⟩
 rw [YH,List.length_singleton]
 lia
def Ua:V->List V->Hp->VK->Prop:=fun x vs H Q=> ∃l b xs zs,x= .ref l/\vs= [.ref b]/\H l=some (.lst xs)/\H b=some (.lst zs)/\xs.length + zs.length<=sizeLine/\Q .dh (upd H l (.lst (xs++zs)))
theorem QY:Yp X "list.extend" Ua:=by
 intro pins s σ H x vs v us Q I rx rv h
 obtain ⟨l,b,xs,zs,rfl,rfl,hH,hB,hz,q⟩:=h
 cases rx
 obtain ⟨u,rfl,ru⟩:=rv.one
 cases ru
 obtain ⟨z,its,n,r,hl,e⟩:=I.SH hH
 obtain ⟨z2,its2,n2,r2,hl2,e2⟩:=I.SH hB
 have hsz:its.toArray.size + its2.toArray.size<=sizeLine:=by rw [Y5,Y5];lia
 have hlong: ¬(!its.toArray.isEmpty && Builtin.List.listTooLong (its.toArray.size + its2.toArray.size))=true:=by
  rw [Sn hsz,Bool.and_false]
  exact YZ
 refine call_meets F.slot_list_extend ⟨_,e,rfl⟩ F.entry_list_extend (F.args_list_extend_2 _ _)
  (AutoSeq1.list_extend_list_list_0 l its.toArray n b its2.toArray n2 hlong (by rw [Y5];lia) (by lia)) ⟨e,e2,?_⟩
 refine ⟨.dh,_,I.WU (its':=its++its2) hH e (by simp) (r.append r2) ?_,rfl,q⟩
 rw [YH]
 lia
def W2:R2:=fun x y H Q=> ∃l b xs zs,x= .ref l/\y= .ref b/\H l=some (.lst xs)/\H b=some (.lst zs)/\xs.length + zs.length<=sizeLine/\ ∀p,H p=none->Q (.ref p) (upd H p (.lst (xs++zs)))
theorem NP:zN X (binaryOp .Add) W2:=by
 intro pins s σ H x y v u Q I rx ry h
 obtain ⟨l,b,xs,zs,rfl,rfl,hH,hB,hz,q⟩:=h
 cases rx
 cases ry
 obtain ⟨z,its,n,r,hl,e⟩:=I.SH hH
 obtain ⟨z2,its2,n2,r2,hl2,e2⟩:=I.SH hB
 refine PySem.P.add_list e e2 ?_ (by rw [Y5,Y5];lia)
 have ea:its.toArray++its2.toArray=(its++its2).toArray:=by simp
 rw [ea]
 exact ⟨.ref _,_,I.X7 (t':=s.toks) (r.append r2) (by rw [YH];lia),rfl,q _ I.fresh⟩
end
end L2
namespace L2
open PySem PySem.Spec PyProof.Rows
theorem Vals.ints: ∀ {ns:List Int} {us:List Value},Vals (ns.map V.int) us->IntsAre us ns
 | [],us,h=>by
  rw [List.map_nil] at h
  cases h
  exact IntsAre.nil
 | n::ns,us,h=>by
  rw [YS] at h
  cases h with
  | cons r t=>
   obtain ⟨k,rfl⟩:=r
   exact IntsAre.cons n k (Vals.ints t)
theorem BA: ∀ {us:List Value} {ns:List Int},IntsAre us ns->Vals (ns.map V.int) us
 | _,_,.nil=>by rw [List.map_nil];exact Paired.nil
 | _,_,.cons n t h=>by rw [YS];exact Paired.cons (show RelV (V.int n) (Value.int n t) from ⟨t,rfl⟩) (BA h)
theorem Vals.VI{a:Addr}{us:List Value}(r:Vals [V.ref a] us):us= [Value.ref a]:=by
 cases r with
 | cons r t=>
  cases t
  cases r
  rfl
section
variable {prog:Program} {w:World} {A:Around} {E:Value->Shared->Prop} {s:Shared} {l:Addr} {its:List Value} {ns:List Int} {Q:Value->Shared->Prop}
theorem Tv (hh:A.handled=none) (hl:s.heap.IsList l its.toArray) (hi:IntsAre its ns)
  (h: ∀h' tk t',(∀b o,s.heap.get? b=some o->h'.get? b=some o)->Q (.int ns.sum t') {s with heap:=h',toks:=tk}):wpAny (model prog w) A (call (.builtin "sum") [.ref l]) Q E s:=by
 obtain ⟨xs,e⟩:=hi.allInts.items
 have hn:numsOf (intItems xs).toList=ns:=by rw [<-e];exact hi.numsOf
 rw [nums_intItems] at hn
 rw [e] at hl
 refine PySem.sum_intListG hh hl fun h' tk t' hk=>?_
 have:=h h' tk t' hk
 rw [preSum_eq,List.take_of_length_le (by simp),hn];exact this
theorem UA (hh:A.handled=none) (hl:s.heap.IsList l its.toArray) (hi:IntsAre its ns) (hne:0 < ns.length)
  (h: ∀h' tk M t',(∀b o,s.heap.get? b=some o->h'.get? b=some o)->M ∈ ns->(∀a,a ∈ ns->a<=M)->Q (.int M t') {s with heap:=h',toks:=tk}):wpAny (model prog w) A (call (.builtin "max") [.ref l]) Q E s:=by
 obtain ⟨xs,e⟩:=hi.allInts.items
 have hn:numsOf (intItems xs).toList=ns:=by rw [<-e];exact hi.numsOf
 rw [nums_intItems] at hn
 subst hn
 rw [e] at hl
 have hsz:0 < xs.size:=by simpa using hne
 refine PySem.max_intList hh hl hsz fun v h' tk hv hk=>?_
 obtain ⟨t,rfl⟩:=intItems_at hv
 obtain ⟨h1,h2⟩:=argBest_gt (numAt xs) (xs.size - 1)
 refine h h' tk _ t hk ?_ fun a ha=>?_
 ·rw [numAt_eq];exact PySem.getD_mem (by rw [YI,Array.length_toList];omega)
 ·obtain ⟨j,hj,rfl⟩:=mem_getD ha
  rw [YI,Array.length_toList] at hj
  rw [<-numAt_eq];exact h2 j (by omega)
theorem T9 (hh:A.handled=none) (hl:s.heap.IsList l its.toArray) (hi:IntsAre its ns) (hne:0 < ns.length)
  (h: ∀h' tk M t',(∀b o,s.heap.get? b=some o->h'.get? b=some o)->M ∈ ns->(∀a,a ∈ ns->M<=a)->Q (.int M t') {s with heap:=h',toks:=tk}):wpAny (model prog w) A (call (.builtin "min") [.ref l]) Q E s:=by
 obtain ⟨xs,e⟩:=hi.allInts.items
 have hn:numsOf (intItems xs).toList=ns:=by rw [<-e];exact hi.numsOf
 rw [nums_intItems] at hn
 subst hn
 rw [e] at hl
 have hsz:0 < xs.size:=by simpa using hne
 refine PySem.min_intList hh hl hsz fun v h' tk hv hk=>?_
 obtain ⟨t,rfl⟩:=intItems_at hv
 obtain ⟨h1,h2⟩:=argBest_lt (numAt xs) (xs.size - 1)
 refine h h' tk _ t hk ?_ fun a ha=>?_
 ·rw [numAt_eq];exact PySem.getD_mem (by rw [YI,Array.length_toList];omega)
 ·obtain ⟨j,hj,rfl⟩:=mem_getD ha
  rw [YI,Array.length_toList] at hj
  rw [<-numAt_eq];exact h2 j (by omega)
end
section
variable {X:Cx}
def XT(K:W.Frag):List V->Hp->VK->Prop:=fun vs H Q=> ∃(a:Addr) (ns:List Int),vs= [V.ref a]/\b_ K H a (ns.map V.int)/\Q (.int ns.sum) H
def X_(K:W.Frag):List V->Hp->VK->Prop:=fun vs H Q=> ∃(a:Addr) (ns:List Int),vs= [V.ref a]/\b_ K H a (ns.map V.int)/\0 < ns.length/\ ∀m,m ∈ ns->(∀y,y ∈ ns->y<=m)->Q (.int m) H
def Yg(K:W.Frag):List V->Hp->VK->Prop:=fun vs H Q=> ∃(a:Addr) (ns:List Int),vs= [V.ref a]/\b_ K H a (ns.map V.int)/\0 < ns.length/\ ∀m,m ∈ ns->(∀y,y ∈ ns->m<=y)->Q (.int m) H
theorem yt(hc:X.calm=true):u_ X (.builtin "sum") (XT X.K):=by
 intro pins s σ H vs us Q I r h
 obtain ⟨a,ns,rfl,hs,q⟩:=h
 obtain ⟨its,rv,hl,_⟩:=I.list hs
 rw [Vals.VI r]
 exact Tv (I.ok.hd hc) hl.isList rv.ints fun h' tk t' hk=>⟨.int _,H,I.kept hk,⟨_,rfl⟩,q⟩
theorem Vv(hc:X.calm=true):u_ X (.builtin "max") (X_ X.K):=by
 intro pins s σ H vs us Q I r h
 obtain ⟨a,ns,rfl,hs,hne,q⟩:=h
 obtain ⟨its,rv,hl,_⟩:=I.list hs
 rw [Vals.VI r]
 exact UA (I.ok.hd hc) hl.isList rv.ints hne fun h' tk m t' hk h1 h2=>⟨.int _,H,I.kept hk,⟨_,rfl⟩,q m h1 h2⟩
theorem Vy(hc:X.calm=true):u_ X (.builtin "min") (Yg X.K):=by
 intro pins s σ H vs us Q I r h
 obtain ⟨a,ns,rfl,hs,hne,q⟩:=h
 obtain ⟨its,rv,hl,_⟩:=I.list hs
 rw [Vals.VI r]
 exact T9 (I.ok.hd hc) hl.isList rv.ints hne fun h' tk m t' hk h1 h2=>⟨.int _,H,I.kept hk,⟨_,rfl⟩,q m h1 h2⟩
end
section
variable {X:Cx}
def Wr(K:W.Frag):V->List V->Hp->VK->Prop:=fun x xs H Q=> ∃(a:Addr) (ys:List V) (y:V) (j:Nat) (z:V),x=V.ref a/\xs= [y]/\b_ K H a ys/\qE y=true/\ys.all qE=true/\ys[j]?=some z/\M0 z y=true/\
 (∀(m:Nat) (z':V),m < j->ys[m]?=some z'->M0 z' y=false)/\Q (.int (j:Nat)) H
theorem O0{ys:List V}(f:ys.all qE=true){j:Nat}{z:V}(h:ys[j]?=some z):qE z=true:=List.all_eq_true.mp f z (Y7 h)
theorem Lh:OS X "list.index" (Wr X.K):=by
 intro pins s σ H x xs v us Q I rx rxs h
 obtain ⟨a,ys,y,j,z,rfl,rfl,hs,fy,fys,hz,hzj,hno,q⟩:=h
 cases rx
 cases rxs with
 | cons ry rt=>
  rename_i uy ut
  cases rt
  obtain ⟨its,rv,⟨⟨cls,dd,data,sl⟩,n,ho,hc,hdn,hd⟩,hlen⟩:=I.list hs
  simp only at hc hd
  subst hc hd
  obtain ⟨u,hu,ru⟩:=rv.get hz
  obtain ⟨hjl,hje⟩:=YL.mp hu
  have hvl:=rv.length
  have hj:j < its.toArray.size:=by simpa using hjl
  have hsl:=sizeLine_eq
  refine call_meets PySem.F.slot_list_index ⟨_,ho,rfl⟩ PySem.F.entry_list_index (PySem.F.args_list_index_2 _ _)
   (SeqAt.list_indexAt a its.toArray n dd sl uy (Q6 y) j hj (by lia) ?_ ?_) ⟨ho,fun u' hu'=>yl ry fy rv fys u' (by simpa using hu'),?_⟩
  ·have e1:its.toArray[j]=u:=by simpa using hje
   rw [e1,GS ru (O0 fys hz)]
   exact hzj
  ·intro m hm hmj
   have hml:m < its.length:=by simpa using hm
   have hmy:m < ys.length:=by lia
   have hy':ys[m]?=some ys[m]:=Y9 hmy
   obtain ⟨u2,hu2,ru2⟩:=rv.get hy'
   obtain ⟨_,hme⟩:=YL.mp hu2
   have e1:its.toArray[m]=u2:=by simpa using hme
   rw [e1,GS ru2 (O0 fys hy')]
   exact hno m _ hmj hy'
  ·exact ⟨.int (j:Nat),H,I.tok _,⟨_,rfl⟩,q⟩
end
mutual
inductive Dp (K:W.Frag) (H:Hp):V->PyData->Prop
 | dh:Dp K H .dh .none
 | bl (b:Bool):Dp K H (.bl b) (.bool b)
 | int (i:Int):Dp K H (.int i) (.int i)
 | str (x:Str):Dp K H (.str x) (.str x)
 | lst {a:Addr} {xs:List V} {ds:List PyData}:b_ K H a xs->Gq K H xs ds->Dp K H (.ref a) (.list ds)
 | tup {a:Addr} {xs:List V} {ds:List PyData}:jn K H a xs->Gq K H xs ds->Dp K H (.ref a) (.tuple ds)
inductive Gq (K:W.Frag) (H:Hp):List V->List PyData->Prop
 | nil:Gq K H [] []
 | cons {v:V} {vs:List V} {d:PyData} {ds:List PyData}:Dp K H v d->Gq K H vs ds->Gq K H (v::vs) (d::ds)
end
section
variable {X:Cx} {pins:List (Addr×Obj)} {σ:St} {H:Hp} {s:Shared}
mutual
theorem Dp.reads(I:Inv X pins σ H s): ∀(d:PyData) (v:V) (u:Value),Dp X.K H v d->RelV v u-> ∃as,Reads s.heap u d as
 | .none,_,_,h,r=>by
  cases h
  cases r
  exact ⟨_,Reads.none⟩
 | .bool b,_,_,h,r=>by
  cases h
  cases r
  exact ⟨_,Reads.bool b⟩
 | .int i,_,_,h,r=>by
  cases h
  obtain ⟨t,rfl⟩:=r
  exact ⟨_,Reads.int i t⟩
 | .str x,_,_,h,r=>by
  cases h
  obtain ⟨t,rfl⟩:=r
  exact ⟨_,Reads.str x t⟩
 | .list ds,_,_,h,r=>by
  cases h with
  | lst hs ha=>
   cases r
   obtain ⟨its,rv,⟨o,n,ho,hc,_,hd⟩,_⟩:=I.list hs
   obtain ⟨as,hr⟩:=Dp.readsAll I ds _ its ha rv
   exact ⟨_,Reads.list ho hc hd hr⟩
 | .tuple ds,_,_,h,r=>by
  cases h with
  | tup hs ha=>
   cases r
   obtain ⟨its,rv,⟨o,ho,hc,n,hd⟩,_⟩:=I.tuple hs
   obtain ⟨as,hr⟩:=Dp.readsAll I ds _ its ha rv
   exact ⟨_,Reads.tuple ho hc hd hr⟩
 | .dict _,_,_,h,_=>by cases h
theorem Dp.readsAll(I:Inv X pins σ H s): ∀(ds:List PyData) (vs:List V) (us:List Value),Gq X.K H vs ds->Vals vs us-> ∃as,ReadsAll s.heap us ds as
 | [],_,_,h,r=>by
  cases h
  cases r
  exact ⟨_,ReadsAll.nil⟩
 | d::ds,_,_,h,r=>by
  cases h with
  | cons h1 h2=>
   cases r with
   | cons r1 r2=>
    obtain ⟨as,q1⟩:=Dp.reads I d _ _ h1 r1
    obtain ⟨bs,q2⟩:=Dp.readsAll I ds _ _ h2 r2
    exact ⟨_,ReadsAll.cons q1 q2⟩
end
end
section
variable {X:Cx}
def Yc(K:W.Frag):R2:=fun x y H Q=> ∃d e,Dp K H x d/\Dp K H y e/\SeqAt.shaped d=true/\SeqAt.shaped e=true/\Q (.bl (PyData.eqv d e)) H
theorem Wf(hu:X.A.units + 64 < cLine):zN X (compareOp .Eq) (Yc X.K):=by
 intro pins s σ H x y v u Q I rx ry h
 obtain ⟨d,e,hd,he,sd,se,q⟩:=h
 obtain ⟨as,r1⟩:=Dp.reads I d x v hd rx
 obtain ⟨bs,r2⟩:=Dp.reads I e y u he ry
 exact SeqAt.compareEq_shaped r1 r2 sd se hu ⟨.bl _,H,I,rfl,q⟩
end
end L2
namespace L2
open PySem PySem.Spec PyProof.Rows
abbrev Sk(h:Heap)(c:Addr)(v:Option Value):Prop:=h.IsCell c v
def XG(scope sc:Scope):Scope:=
 {scope with names:=scope.names.map fun (n,k)=>if (k == .free && sc.kind == .function && sc.names.lookup n == some .cell) then (n,.cell) else (n,k)}
def eU(cells:List (Str×Addr)):List (Str×NameKind)->List (Str×Addr)->List (Str×Addr)
 | [],acc=>acc
 | (n,k)::r,acc=>if k == .free then eU cells r ((n,(cells.lookup n).getD 0)::acc) else eU cells r acc
theorem A4 (env:Env) (f:Str×NameKind->List (Str×Addr)->Sem (ForInStep (List (Str×Addr))))
  (hf: ∀n k c,f (n,k) c=if k == .free then (do let a <-cellOf env n;pure (.yield ((n,a)::c))) else pure (.yield c)):
  ∀(names:List (Str×NameKind)) (acc:List (Str×Addr)),(∀y ∈ names,y.2= .free-> ∃c,env.cells.lookup y.1=some c)->forIn names acc f=pure (eU env.cells names acc)
 | [],acc,_=>by rw [List.forIn_nil];rfl
 | (n,k)::r,acc,h=>by
  rw [List.forIn_cons,hf]
  have ih:=fun acc=>A4 env f hf r acc fun y hy=>h y (YK _ hy)
  unfold eU
  by_cases hk:(k == NameKind.free)=true
  ·rw [if_pos hk,if_pos hk]
   obtain ⟨c,hc⟩:=h (n,k) YN (by simpa using hk)
   have e:cellOf env n=pure c:=by unfold cellOf;rw [hc]
   rw [e]
   have e2:(env.cells.lookup n).getD 0=c:=by rw [hc];rfl
   rw [e2]
   exact ih _
  ·rw [if_neg hk,if_neg hk]
   exact ih _
theorem Na{scope:Scope}{env:Env}(h: ∀y ∈ scope.names,y.2= .free-> ∃c,env.cells.lookup y.1=some c):closureFor scope env=pure (eU env.cells scope.names []):=by
 simp only [closureFor]
 rw [A4 env _ (fun n k c=>rfl) scope.names [] h]
 rfl
theorem mem_lookup{α:Type}: ∀ {l:List (Str×α)} {n:Str} {c:α},(n,c) ∈ l-> ∃c',l.lookup n=some c'
 | (k,v)::r,n,c,h=>by
  rw [List.lookup_cons]
  cases hb:n == k with
  | true=>exact ⟨_,rfl⟩
  | false=>
   rcases YR.mp h with e | h
   ·cases e;simp at hb
   ·exact mem_lookup h
theorem t8{cells:List (Str×Addr)}: ∀ {names:List (Str×NameKind)} {acc:List (Str×Addr)} {n:Str} {c:Addr},(n,c) ∈ eU cells names acc->(n,c) ∈ acc\/((n,.free) ∈ names/\c=(cells.lookup n).getD 0)
 | [],_,_,_,h=> .inl h
 | (m,k)::r,acc,n,c,h=>by
  unfold eU at h
  split at h
  ·rename_i hk
   have hk:k= .free:=by simpa using hk
   rcases t8 h with h | ⟨h1,h2⟩
   ·rcases YR.mp h with e | h
    ·cases e;exact .inr ⟨hk▸YN,rfl⟩
    ·exact .inl h
   ·exact .inr ⟨YK _ h1,h2⟩
  ·rcases t8 h with h | ⟨h1,h2⟩
   ·exact .inl h
   ·exact .inr ⟨YK _ h1,h2⟩
theorem yq{cells:List (Str×Addr)}: ∀ {names:List (Str×NameKind)} {acc:List (Str×Addr)} {p:Str×Addr},p ∈ acc->p ∈ eU cells names acc
 | [],_,_,h=>h
 | (m,k)::r,acc,p,h=>by
  unfold eU
  split
  ·exact yq (YK _ h)
  ·exact yq h
theorem yr{cells:List (Str×Addr)}: ∀ {names:List (Str×NameKind)} {acc:List (Str×Addr)} {n:Str},(n,.free) ∈ names->(n,(cells.lookup n).getD 0) ∈ eU cells names acc
 | (m,k)::r,acc,n,h=>by
  unfold eU
  rcases YR.mp h with e | h
  ·cases e
   exact yq YN
  ·split
   ·exact yr h
   ·exact yr h
theorem vE: ∀ {names:List (Str×NameKind)} {h:Heap} {acc:List (Str×Addr)} {x:Str} {c:Addr},(x,c) ∈ cellsFrom h.objs.size names acc->
  (x,c) ∈ acc\/((x,.cell) ∈ names/\h.objs.size<=c/\Sk (pushCells h names) c none)
 | [],_,_,_,_,h=> .inl h
 | (n,k)::r,h,acc,x,c,hm=>by
  unfold cellsFrom at hm
  unfold pushCells
  split at hm
  ·rename_i hk
   rw [if_pos hk]
   have hk:k= .cell:=by simpa using hk
   rw [<-Heap.size_push h {cls:= .type "cell",data:= .cell none}] at hm
   rcases vE hm with hm | ⟨h1,h2,h3⟩
   ·rcases YR.mp hm with e | hm
    ·cases e
     exact .inr ⟨hk▸YN,YM _,_,pushCells_keeps r _ _ _ (Heap.get?_push_size _ rfl),rfl⟩
    ·exact .inl hm
   ·rw [Heap.size_push] at h2
    exact .inr ⟨YK _ h1,Nat.le_of_succ_le h2,h3⟩
  ·rename_i hk
   rw [if_neg hk]
   rcases vE hm with hm | ⟨h1,h2,h3⟩
   ·exact .inl hm
   ·exact .inr ⟨YK _ h1,h2,h3⟩
theorem zu: ∀ {names:List (Str×NameKind)} {n:Nat} {acc:List (Str×Addr)} {p:Str×Addr},p ∈ acc->p ∈ cellsFrom n names acc
 | [],_,_,_,h=>h
 | (m,k)::r,n,acc,p,h=>by
  unfold cellsFrom
  split
  ·exact zu (YK _ h)
  ·exact zu h
theorem C4: ∀ {names:List (Str×NameKind)} {n:Nat} {acc:List (Str×Addr)} {x:Str},(x,.cell) ∈ names-> ∃c,(x,c) ∈ cellsFrom n names acc
 | (m,k)::r,n,acc,x,h=>by
  unfold cellsFrom
  rcases YR.mp h with e | h
  ·cases e
   exact ⟨n,zu YN⟩
  ·split
   ·exact C4 h
   ·exact C4 h
theorem CD: ∀ {names:List (Str×NameKind)} {h:Heap} {acc:List (Str×Addr)} {x y:Str} {c:Addr},(∀p ∈ acc,p.2 < h.objs.size)->(∀x y c,(x,c) ∈ acc->(y,c) ∈ acc->x=y)->
  (x,c) ∈ cellsFrom h.objs.size names acc->(y,c) ∈ cellsFrom h.objs.size names acc->x=y
 | [],_,_,_,_,_,_,hi,h1,h2=>hi _ _ _ h1 h2
 | (n,k)::r,h,acc,x,y,c,hl,hi,h1,h2=>by
  unfold cellsFrom at h1 h2
  split at h1
  ·rename_i hk
   rw [if_pos hk] at h2
   rw [<-Heap.size_push h {cls:= .type "cell",data:= .cell none}] at h1 h2
   refine CD (h:=h.push _) (fun p hp=>?_) (fun x y c a b=>?_) h1 h2
   ·rw [Heap.size_push]
    rcases YR.mp hp with rfl | hp
    ·exact Nat.lt_succ_self _
    ·exact Nat.lt_succ_of_lt (hl p hp)
   ·rcases YR.mp a with e | a <;> rcases YR.mp b with e' | b
    ·cases e;cases e';rfl
    ·cases e;exact absurd (hl _ b) (Nat.lt_irrefl _)
    ·cases e';exact absurd (hl _ a) (Nat.lt_irrefl _)
    ·exact hi _ _ _ a b
  ·rename_i hk
   rw [if_neg hk] at h2
   exact CD hl hi h1 h2
theorem LX {M:Model} {A:Around} {E:Value->Shared->Prop} {s:Shared} {scope:Scope} {globals:Addr} {closure:List (Str×Addr)} {qual:Str} {func:Option Addr} {code:Value} {around:Env} {builtins:Addr} {Q:Env->Shared->Prop}
  (h:Q (newEnv scope s.heap.objs.size globals (cellsFrom (s.heap.objs.size + 1) scope.names closure) qual func code (some around) builtins)
   {s with heap:=pushCells (s.heap.push {cls:= .type "dict",data:= .dict #[]}) scope.names}):
  wpAny M A (newFunctionEnv scope globals closure [] qual func code (some around) builtins) Q E s:=by
 simp only [newFunctionEnv,Option.isSome_some,if_true]
 refine wpAny_bind (wpAny_alloc ?_)
 refine wpAny_bind (wpAny_layCells _ (fun n k c=>rfl) scope.names closure _ _ ?_)
 rw [show ({s with heap:=s.heap.push {cls:= .type "dict",data:= .dict #[]}}:Shared).heap.objs.size=s.heap.objs.size + 1 from Heap.size_push ..]
 rw [List.forIn_nil]
 exact wpAny_bind (wpAny_pure (wpAny_pure h))
theorem xQ{sc:Scope}: ∀ {names:List (Str×NameKind)} {x:Str} {k:NameKind},
  (names.map fun (n,k)=>if (k == NameKind.free && sc.kind == .function && sc.names.lookup n == some .cell) then (n,NameKind.cell) else (n,k)).lookup x=some k->
  ∃k',names.lookup x=some k'/\(k=k'\/(k'= .free/\k= .cell))
 | [],_,_,h=>by simp at h
 | (n,k₀)::r,x,k,h=>by
  have ih:= @xQ sc r x k
  have h':List.lookup x ((if (k₀ == NameKind.free && sc.kind == .function && sc.names.lookup n == some .cell)=true then (n,NameKind.cell) else (n,k₀))::(r.map _))=some k:=h
  cases hx:x == n with
  | true=>
   simp only [List.lookup_cons,hx]
   by_cases hc:(k₀ == NameKind.free && sc.kind == .function && sc.names.lookup n == some .cell)=true
   ·rw [if_pos hc] at h'
    simp only [List.lookup_cons,hx] at h'
    cases h'
    simp only [Y_,beq_iff_eq] at hc
    exact ⟨k₀,rfl,.inr ⟨hc.1.1,rfl⟩⟩
   ·rw [if_neg hc] at h'
    simp only [List.lookup_cons,hx] at h'
    cases h'
    exact ⟨_,rfl,.inl rfl⟩
  | false=>
   simp only [List.lookup_cons,hx]
   by_cases hc:(k₀ == NameKind.free && sc.kind == .function && sc.names.lookup n == some .cell)=true
   ·rw [if_pos hc] at h'
    simp only [List.lookup_cons,hx] at h'
    exact ih h'
   ·rw [if_neg hc] at h'
    simp only [List.lookup_cons,hx] at h'
    exact ih h'
structure L_(N:List Str)(sc scope:Scope)(own:List (Str×Nat)):Prop where
 kind:scope.kind= .function
 uniq: ∀y ∈ scope.names,scope.names.lookup y.1=some y.2
 ix: ∀p ∈ own,N[p.2]?=some p.1
 free: ∀y ∈ scope.names,y.2= .free->sc.names.lookup y.1=some .cell\/sc.names.lookup y.1=some .free
 own: ∀y ∈ scope.names,y.2= .local\/y.2= .cell->y.1 ∈ own.map (·.1)\/y.1 ∉ N
def wipe(σ:St):List Nat->St
 | []=>σ
 | v::vs=>(wipe σ vs).set v none
theorem yk(σ:St): ∀vs:List Nat,(wipe σ vs).length=σ.length
 | []=>rfl
 | v::vs=>by unfold wipe;rw [List.length_set,yk σ vs]
theorem Cn{σ:St}{i:Nat}{x:V}: ∀ {vs:List Nat},(wipe σ vs)[i]?=some (some x)->σ[i]?=some (some x)/\i ∉ vs
 | [],h=>⟨h,by simp⟩
 | v::vs,h=>by
  unfold wipe at h
  by_cases hi:v=i
  ·subst hi
   by_cases hv:v < (wipe σ vs).length
   ·rw [List.getElem?_set_self hv] at h;cases h
   ·rw [List.getElem?_eq_none (by simpa using hv)] at h;cases h
  ·rw [List.getElem?_set_ne hi] at h
   obtain ⟨h1,h2⟩:=Cn h
   exact ⟨h1,by simp only [YR,not_or];exact ⟨fun e=>hi e.symm,h2⟩⟩
abbrev Cx.J1(X:Cx)(s:Shared)(H:Hp)(scope:Scope)(cenv:Env)(fp:List Addr):Cx:={X with D8:=s,Xa:=H,env:=cenv,outer:=X.stack,ex:=fp,fn:=fun x=>scope.names.lookup x == some .cell,pn:= [],xe:=fun _ _=>False}
section
variable {X:Cx} {pins:List (Addr×Obj)} {σ:St} {H:Hp} {s:Shared}
theorem Ml{scope:Scope}{own:List (Str×Nat)}{fp:List Addr}(I:Inv X pins σ H s)(ok:L_ X.N X.env.scope scope own)(hN:X.N.Nodup)(hfp: ∀b ∈ fp,Hu X pins H b/\b < s.heap.objs.size):
  Inv (X.J1 s H scope (compEnvC scope (cellsFrom (s.heap.objs.size + 1) scope.names (eU X.env.cells scope.names [])) s.heap.objs.size X.env) fp) [] (wipe σ (own.map (·.2))) H {s with heap:=pushCells (s.heap.push {cls:= .type "dict",data:= .dict #[]}) scope.names}:=by
 have hfree: ∀y ∈ scope.names,y.2= .free-> ∃c,X.env.cells.lookup y.1=some c:=fun y hy e=>by
  rcases ok.free y hy e with k | k
  ·exact I.ok.has _ (.inl k)
  ·exact I.ok.has _ (.inr k)
 generalize hcenv:compEnvC scope (cellsFrom (s.heap.objs.size + 1) scope.names (eU X.env.cells scope.names [])) s.heap.objs.size X.env=cenv
 have kp: ∀b o,s.heap.get? b=some o->(pushCells (s.heap.push {cls:= .type "dict",data:= .dict #[]}) scope.names).get? b=some o:=fun b o e=>pushCells_keeps _ _ _ _ (Heap.get?_push_of_some _ e)
 have hL:cenv.locals=s.heap.objs.size:=by rw [<-hcenv];rfl
 have hcl:cenv.cells=cellsFrom (s.heap.objs.size + 1) scope.names (eU X.env.cells scope.names []):=by rw [<-hcenv];rfl
 have hsc:cenv.scope=XG scope X.env.scope:=by rw [<-hcenv];rfl
 rw [<-Heap.size_push s.heap {cls:= .type "dict",data:= .dict #[]}] at hcl
 have cm: ∀ {y c},(y,c) ∈ eU X.env.cells scope.names []->X.env.cells.lookup y=some c/\c < s.heap.objs.size:=fun {y c} hm=>by
  rcases t8 hm with hm | ⟨h1,rfl⟩
  ·cases hm
  ·obtain ⟨c,hc⟩:=hfree _ h1 rfl
   rw [hc]
   obtain ⟨w,z⟩:=I.cell _ _ hc
   exact ⟨rfl,z.lt⟩
 have mem: ∀ {y c},cenv.cells.lookup y=some c->(X.env.cells.lookup y=some c/\c < s.heap.objs.size)\/(s.heap.objs.size + 1<=c/\Sk (pushCells (s.heap.push {cls:= .type "dict",data:= .dict #[]}) scope.names) c none):=fun {y c} e=>by
  rw [hcl] at e
  rcases vE (PySem.mem_of_lookup e) with hm | ⟨_,h2,h3⟩
  ·exact .inl (cm hm)
  ·rw [Heap.size_push] at h2;exact .inr ⟨h2,h3⟩
 have look: ∀ {y},scope.names.lookup y=some .free-> ∃c,cenv.cells.lookup y=some c/\X.env.cells.lookup y=some c:=fun {y} hl=>by
  have hy:(y,NameKind.free) ∈ scope.names:=PySem.mem_of_lookup hl
  obtain ⟨c',e'⟩:=mem_lookup (zu (names:=scope.names) (n:=(s.heap.push {cls:= .type "dict",data:= .dict #[]}).objs.size) (yr (cells:=X.env.cells) (acc:= []) hy))
  rw [<-hcl] at e'
  refine ⟨c',e',?_⟩
  rw [hcl] at e'
  rcases vE (PySem.mem_of_lookup e') with hm | ⟨h1,_,_⟩
  ·exact (cm hm).1
  ·have:=ok.uniq _ h1
   rw [hl] at this;cases this
 have okB:(X.J1 s H scope cenv fp).Ok:=by
  refine ⟨I.ok.mod,by show cenv.scope.kind=_;rw [hsc];exact ok.kind,by show cenv.globals=_;rw [<-hcenv];exact I.ok.glob,by show cenv.builtins=_;rw [<-hcenv];exact I.ok.blt,by show s.heap.objs.size<=cenv.locals;rw [hL];exact YM _,
   fun y z c e1 e2=>?_,fun y hy=>?_,fun y c z e=>?_,I.ok.hd,I.ok.frames,.inl rfl,fun b hb=>⟨?_,fun y c e z=>?_⟩,I.bs,Y4 I.ok.Q5 I.sz,fun b o e hb=>?_,fun b hb z=>?_,I.stack,I.JE⟩
  ·have e1:cenv.cells.lookup y=some c:=e1
   have e2:cenv.cells.lookup z=some c:=e2
   rw [hcl] at e1 e2
   refine CD (fun p hp=>?_) (fun y z c a b=>I.ok.inj y z c (cm a).1 (cm b).1) (PySem.mem_of_lookup e1) (PySem.mem_of_lookup e2)
   rw [Heap.size_push]
   exact Nat.lt_succ_of_lt (cm (y:=p.1) (c:=p.2) hp).2
  ·show ∃c,cenv.cells.lookup y=some c
   have key: ∀k,cenv.kindOf y=some k->(k= .cell\/k= .free)-> ∃c,cenv.cells.lookup y=some c:=fun k hk hk'=>by
    unfold Env.kindOf at hk
    rw [hsc] at hk
    obtain ⟨k',e,r⟩:=xQ hk
    have:k'= .cell\/k'= .free:=by
     rcases r with rfl | ⟨rfl,_⟩
     ·exact hk'
     ·exact .inr rfl
    rcases this with rfl | rfl
    ·obtain ⟨c,hm⟩:=C4 (n:=(s.heap.push {cls:= .type "dict",data:= .dict #[]}).objs.size) (acc:=eU X.env.cells scope.names []) (PySem.mem_of_lookup e)
     obtain ⟨c',e'⟩:=mem_lookup hm
     exact ⟨c',by rw [hcl];exact e'⟩
    ·obtain ⟨c,h1,_⟩:=look e
     exact ⟨c,h1⟩
   rcases hy with hy | hy
   ·exact key _ hy (.inl rfl)
   ·exact key _ hy (.inr rfl)
  ·have z:(scope.names.lookup y == some NameKind.cell)=true:=z
   have z:scope.names.lookup y=some .cell:=by simpa using z
   have e:cenv.cells.lookup y=some c:=e
   rw [hcl] at e
   rcases vE (PySem.mem_of_lookup e) with hm | ⟨_,h2,_⟩
   ·rcases t8 hm with hm | ⟨h1,_⟩
    ·cases hm
    ·have q:=ok.uniq _ h1
     rw [z] at q;cases q
   ·rw [Heap.size_push] at h2
    exact Nat.le_of_succ_le h2
  ·show b≠cenv.locals
   rw [hL];exact Nat.ne_of_lt (hfp b hb).2
  ·have e:cenv.cells.lookup y=some c:=e
   rcases mem e with ⟨h1,_⟩ | ⟨h1,_⟩
   ·exact (hfp b hb).1.2.2.2.2.1 y c h1 z
   ·have h2:s.heap.objs.size + 1<=b:=by rw [<-z];exact h1
    exact absurd (YV (hfp b hb).2 (Nat.le_of_succ_le h2)) (Nat.lt_irrefl _)
  ·rcases (hfp b hb).1.2.2.2.1 with z | z
   ·exact I.ok.N_ b o e z
   ·exact absurd (YV (Heap.lt_size e) (Y4 I.ok.Q5 z)) (Nat.lt_irrefl _)
  ·rcases YR.mp (I.JJ b z) with z | z
   ·exact (hfp b hb).1.2.1 z
   ·exact (hfp b hb).1.2.2.1 z
 refine ⟨okB,rfl,I.bare,Un.kept kp,⟨fun _=>none,?_,fun i y av e1 e2 e3=>?_⟩,fun y c e=>?_,?_,fun y c e=>?_,fun p hp=>?_,I.hok.kept kp,by rw [yk];exact I.len⟩
 ·show Heap.Ns _ cenv.locals _
  rw [hL]
  exact Heap.Ns.keeps (Heap.Ns.new ..) fun b o e=>pushCells_keeps _ _ _ _ e
 ·obtain ⟨e2,hne⟩:=Cn e2
  have hfr:scope.names.lookup y=some .free/\(cenv.kindOf y=some .cell\/cenv.kindOf y=some .free):=by
   have key: ∀k,cenv.scope.names.lookup y=some k->k= .local\/k= .cell\/k= .free->scope.names.lookup y=some .free/\(cenv.kindOf y=some .cell\/cenv.kindOf y=some .free):=fun k hk hk'=>by
    have hk0:=hk
    rw [hsc] at hk
    obtain ⟨k',e,r⟩:=xQ hk
    have no: ¬(k'= .local\/k'= .cell):=fun hh=>by
     rcases ok.own _ (PySem.mem_of_lookup e) hh with e' | e'
     ·obtain ⟨p,hp,hpy⟩:=Zf.mp e'
      have e3:=ok.ix p hp
      have:p.1=y:=hpy
      rw [this] at e3
      exact hne (Zf.mpr ⟨p,hp,EF hN e3 e1⟩)
     ·exact e' (Y7 e1)
    rcases r with rfl | ⟨rfl,rfl⟩
    ·rcases hk' with rfl | rfl | rfl
     ·exact absurd (.inl rfl) no
     ·exact absurd (.inr rfl) no
     ·exact ⟨e,.inr hk0⟩
    ·exact ⟨e,.inl hk0⟩
   have e3:Wz cenv.scope y:=e3
   rcases e3 with e3 | e3 | e3
   ·exact key _ e3 (.inl rfl)
   ·exact key _ e3 (.inr (.inl rfl))
   ·exact key _ e3 (.inr (.inr rfl))
  obtain ⟨m,hn,hl⟩:=I.loc
  have hvis:Wz X.env.scope y:=(ok.free _ (PySem.mem_of_lookup hfr.1) rfl).elim (fun k=> .inr (.inl k)) (fun k=> .inr (.inr k))
  obtain ⟨w,r,q⟩:=hl i y av e1 e2 hvis
  refine ⟨w,r,.inr ⟨hfr.2,?_⟩⟩
  obtain ⟨c,h1,h2⟩:=look hfr.1
  rcases q with ⟨k,_⟩ | ⟨_,c',e',z⟩
  ·have k:X.env.scope.names.lookup y=some .local:=k
   rcases ok.free _ (PySem.mem_of_lookup hfr.1) rfl with k' | k' <;> rw [show X.env.scope.names.lookup y=_ from k'] at k <;> cases k
  ·rw [h2] at e';cases e'
   exact ⟨c,h1,z.keeps kp⟩
 ·have e:cenv.cells.lookup y=some c:=e
  rcases mem e with ⟨h1,_⟩ | ⟨_,z⟩
  ·obtain ⟨w,z⟩:=I.cell y c h1
   exact ⟨w,z.keeps kp⟩
  ·exact ⟨_,z⟩
 ·show H cenv.locals=none
  rw [hL];exact I.hok.fresh (YM _)
 ·have e:cenv.cells.lookup y=some c:=e
  rcases mem e with ⟨h1,_⟩ | ⟨h1,_⟩
  ·exact I.n9 y c h1
  ·exact I.hok.fresh (Nat.le_of_succ_le h1)
 ·exact absurd (show p ∈ ([]:List (Addr×Obj))++ [] from hp) (by simp)
theorem Wi {E:Value->Shared->Prop} {D:Addr} {xs:List V} {y:V} {v:Value} {Q:Value->Shared->Prop} (I:Inv X pins σ H s) (hD:H D=some (.lst xs)) (hz:xs.length < sizeLine) (r:RelV y v)
  (h: ∀s',Inv X pins σ (upd H D (.lst (xs++ [y]))) s'->Q .none s'):wpAny (model X.prog X.w) X.A (call (.builtin "list.append") [.ref D,v]) Q E s:=by
 obtain ⟨hz',its,n,ri,e⟩:=I.hok D _ hD
 have hl:=ri.length
 refine append_at (hsz:=by rw [Y5];lia) e fun h' sb ho'=>?_
 refine h {s with heap:=h'} (I.write (t':=s.toks) (by rw [hD];trivial) (.inl rfl) (fun b u hb q=>(sb.2 b hb).trans q) ⟨_,ho'⟩ ⟨by rw [YH];exact hz,its++ [v],n + 1,ri.append (.cons r .nil),?_⟩)
 rw [ho']
 simp
def WM(X:Cx)(ifs:List Expr)(t:TT):Prop:=
 ∀(pins:List (Addr×Obj)) (s:Shared) (σ:St) (H:Hp) (Q:Bool->Hp->Prop),Inv X pins σ H s->t σ H Q->
  wpAny (model X.prog X.w) X.A (forIn ifs true fun c r=>if r=true then do let ok <-isTrue c X.env (eval c X.env);pure (ForInStep.yield ok) else pure (ForInStep.yield r)) (TP X pins σ Q) X.xe s
def HN:TT:=fun _ H Q=>Q true H
theorem tQ:WM X [] HN:=fun _ _ _ H _ I h=>wpAny_tests_nil ⟨H,I,h⟩
theorem O2{c:Expr}{t:TT}(h:PT X c t):WM X [c] t:=fun pins s σ H Q I hw=>wpAny_tests_one (h pins s σ H Q I hw)
end
theorem Lr{α:Type}{t:Sem α}{Q Q':α->Shared->Prop}{M:Model}{A:Around}{E:Value->Shared->Prop}{s:Shared}(h:wpAny M A t Q (fun _ _=>False) s)(hQ: ∀a s,Q a s->Q' a s):wpAny M A t Q' E s:=wpAny_mono h hQ fun _ _ z=>False.elim z
theorem Kr {prog:Program} {w:World} {A:Around} {R:Result->Shared->Prop} {s:Shared} {elt target iter:Expr} {ifs:List Expr} {scope:Scope} {pos:Pos} {it acc:Value} {env:Env} (I:Nat->Shared->Prop)
  (turn: ∀n s,I n s->wpAny (model prog w) A (pyNext it) (fun r s₁=>match r with
   | none=>R (.ok .next) s₁
   | some v=>wpAny (model prog w) A (letOwnedTupleGo target it v) (fun _ s₁'=>wpAny (model prog w) A (assign target env v) (fun _ s₂=>
     wpAny (model prog w) A (forIn ifs true fun c r=>if r=true then do let ok <-isTrue c env (eval c env);pure (ForInStep.yield ok) else pure (ForInStep.yield r)) (fun ok s₃=>
      if ok=true then wpAny (model prog w) A (eval elt env) (fun x s₄=>
       wpAny (model prog w) A (call (.builtin "list.append") [acc,x]) (fun _ s₅=> ∃m,m < n/\I m s₅) (notedBy (model prog w) A env fun e s'=>R (.error e) s') s₄) (notedBy (model prog w) A env fun e s'=>R (.error e) s') s₃
      else ∃m,m < n/\I m s₃) (notedBy (model prog w) A env fun e s'=>R (.error e) s') s₂) (notedBy (model prog w) A env fun e s'=>R (.error e) s') s₁') (notedBy (model prog w) A env fun e s'=>R (.error e) s') s₁) (notedBy (model prog w) A env fun e s'=>R (.error e) s') s)
  (n:Nat) (h:I n s):
  codeAny (model prog w) A (.compLoop (.ListComp elt [⟨target,iter,ifs,0⟩] scope pos) 0 it acc env) R s:=by
 refine codeAny_loop rfl I (fun n s hI=>?_) n h
 show wpAny _ A ((compTurn (.ListComp elt [⟨target,iter,ifs,0⟩] scope pos) 0 it acc env).onRaise (fun x=>do noteFrame x env;theTreesLotGoes x)) _ _ s
 refine wpAny_noted ?_
 rw [compTurn_list]
 refine wpAny_bind (wpAny_standAt (wpAny_bind (wpAny_mono (turn n s hI) (fun r s₁ h₁=>?_) fun _ _ h'=>h')))
 cases r with
 | none=>exact wpAny_pure h₁
 | some v=>
  refine wpAny_bind (wpAny_mono h₁ (fun _ s₁' h₁'=>?_) fun _ _ h'=>h')
  refine wpAny_bind (wpAny_mono h₁' (fun _ s₂ h₂=>wpAny_bind (wpAny_mono h₂ (fun ok s₃ h₃=>?_) fun _ _ h'=>h')) fun _ _ h'=>h')
  cases ok with
  | false=>exact wpAny_pure ⟨rfl,h₃⟩
  | true=>
   exact wpAny_bind (wpAny_bind (wpAny_mono h₃ (fun x s₄ h₄=>wpAny_bind (wpAny_mono h₄ (fun _ s₅ h₅=>wpAny_pure (wpAny_pure ⟨rfl,h₅⟩)) fun _ _ h'=>h')) fun _ _ h'=>h'))
section
variable {X:Cx}
def Tq(wi:TI)(g:TG)(tt:TT)(te:TE)(vs:List Nat):TE:=fun σ H Q=>wi σ H fun J H1=> ∀D,H1 D=none-> ∃W:Nat->Nat->Hp->Prop,(∃m,W 0 m (upd H1 D (.lst [])))/\ ∀i m H,W i m H->
 (J.stop i H/\Q (.ref D) H)\/(J.go i H/\ ∃Nx:Hp->Prop,(∀H',Nx H'-> ∃m',m' < m/\W (i + 1) m' H')/\ ∀x H',J.Tr i H x H'->g x (wipe σ vs) H' fun σ2 H2=>wipe σ2 vs=wipe σ vs/\tt σ2 H2 fun b H3=>
  if b=true then te σ2 H3 fun y H4=> ∃acc,H4 D=some (.lst acc)/\acc.length < sizeLine/\Nx (upd H4 D (.lst (acc++ [y]))) else Nx H3)
theorem OU {pins:List (Addr×Obj)} {s:Shared} {σ:St} {H:Hp} {Q:VK} {elt tg iter:Expr} {ifs:List Expr} {scope:Scope} {own:List (Str×Nat)} {pos pos':Pos} {wi:TI} {g:TG} {tt:TT} {te:TE} {use:Option (Value->Sem Unit)} {Qf:Value->Shared->Prop}
  (hc:X.calm=true) (hN:X.N.Nodup) (I:Inv X pins σ H s) (hi:PI X tg iter wi) (ok:L_ X.N X.env.scope scope own)
  (hg: ∀(s:Shared) (H:Hp) (C:Addr) (cl:List (Str×Addr)) (fp:List Addr),PG (X.J1 s H scope (compEnvC scope cl C X.env) fp) tg g) (ht: ∀(s:Shared) (H:Hp) (C:Addr) (cl:List (Str×Addr)) (fp:List Addr),WM (X.J1 s H scope (compEnvC scope cl C X.env) fp) ifs tt)
  (he: ∀(s:Shared) (H:Hp) (C:Addr) (cl:List (Str×Addr)) (fp:List Addr),PE (X.J1 s H scope (compEnvC scope cl C X.env) fp) elt te) (hs: ∀x,foldedSetIterable iter X.env x=pure x)
  (h:Tq wi g tt te (own.map (·.2)) σ H Q)
  (hRR: ∀D C s' m H',Inv X pins σ H' s'->Q (.ref D) H'->s'.heap.Ns C m->Hu X pins H' C->compPost (model X.prog X.w) X.A X.xe use Qf (.ref D) C (.ok .next) s'):
  wpAny (model X.prog X.w) X.A (comprehension (.ListComp elt [⟨tg,iter,ifs,0⟩] scope pos) scope X.env pos' (newList []) false (eval iter X.env) use) Qf X.xe s:=by
 have hfree: ∀y ∈ scope.names,y.2= .free-> ∃c,X.env.cells.lookup y.1=some c:=fun y hy e=>by
  rcases ok.free y hy e with k | k
  ·exact I.ok.has _ (.inl k)
  ·exact I.ok.has _ (.inr k)
 refine wpAny_comprehension_free (use:=use) rfl hs (Na hfree) ok.kind (fun y hy e=>by rw [ok.uniq y hy,e])
  (gD (hi pins s σ H _ I h) fun xv s1 hx=>gD hx fun itv s2 h2=>?_)
 obtain ⟨it,fp,tn,J,H2,e,I2,T,st2,f2,q⟩:=h2
 subst e
 refine wpAny_newObj_type (LX ?_) (by show 0<=sizeLine;decide)
 generalize hD:s2.heap.objs.size=D
 have hDn:H2 D=none:=I2.hok.fresh (Nat.le_of_eq hD)
 obtain ⟨W,⟨m0,w0⟩,turn⟩:=q D hDn
 generalize hs3:({s2 with heap:=s2.heap.push {cls:= .type "list",data:= .seq ([]:List Value).toArray}}:Shared)=s3
 have I3:Inv X pins σ (upd H2 D (.lst [])) s3:=by
  rw [<-hs3]
  refine I2.laid (t':=s2.toks) (fun b o e=>Heap.get?_push_of_some _ e) (Nat.le_of_eq hD) ⟨YW _,[],0,.nil,?_⟩
  rw [<-hD]
  exact Heap.get?_push_size _ rfl
 have h3:s3.heap=s2.heap.push {cls:= .type "list",data:= .seq ([]:List Value).toArray}:=by rw [<-hs3]
 have sz: ∀b ∈ fp,b < s2.heap.objs.size:=fun b hb=>by
  obtain ⟨o,e,_⟩:=T.obj _ _ st2 b hb
  exact Heap.lt_size e
 have f3: ∀b ∈ fp,Hu X pins (upd H2 D (.lst [])) b/\b < s3.heap.objs.size:=fun b hb=>by
  have hlt:=sz b hb
  refine ⟨⟨?_,(f2 b hb).2⟩,by rw [h3,Heap.size_push];exact Nat.lt_succ_of_lt hlt⟩
  rw [ak (by rw [<-hD];exact Nat.ne_of_lt hlt)]
  exact (f2 b hb).1
 have st3:tn 0 s3.heap:=T.keep _ _ _ st2 fun b _ o e=>by rw [h3];exact Heap.get?_push_of_some _ e
 have I4:=Ml I3 ok hN f3
 have pg:=hg s3 (upd H2 D (.lst [])) s3.heap.objs.size (cellsFrom (s3.heap.objs.size + 1) scope.names (eU X.env.cells scope.names [])) fp
 have pt:=ht s3 (upd H2 D (.lst [])) s3.heap.objs.size (cellsFrom (s3.heap.objs.size + 1) scope.names (eU X.env.cells scope.names [])) fp
 have pe:=he s3 (upd H2 D (.lst [])) s3.heap.objs.size (cellsFrom (s3.heap.objs.size + 1) scope.names (eU X.env.cells scope.names [])) fp
 show codeAny _ _ (.compStart (.ListComp elt [⟨tg,iter,ifs,0⟩] scope pos) 0 (.ref it) (.ref D) (compEnvC scope (cellsFrom (s3.heap.objs.size + 1) scope.names (eU X.env.cells scope.names [])) s3.heap.objs.size X.env)) (compPost (model X.prog X.w) X.A X.xe use Qf (.ref D) s3.heap.objs.size) {s3 with heap:=pushCells (s3.heap.push {cls:= .type "dict",data:= .dict #[]}) scope.names}
 have nfp: ∀b ∈ fp,(upd H2 D (.lst [])) b=none:=fun b hb=>(f3 b hb).1.1
 generalize hce:compEnvC scope (cellsFrom (s3.heap.objs.size + 1) scope.names (eU X.env.cells scope.names [])) s3.heap.objs.size X.env=ce at I4 pg pt pe ⊢
 have cL:ce.locals=s3.heap.objs.size:=by subst hce;rfl
 generalize hH3:upd H2 D (.lst [])=H3 at I3 I4 pg pt pe w0 nfp f3
 generalize hs4:({s3 with heap:=pushCells (s3.heap.push {cls:= .type "dict",data:= .dict #[]}) scope.names}:Shared)=s4 at I4 ⊢
 have st4:tn 0 s4.heap:=T.keep _ _ _ st3 fun b _ o e=>by rw [<-hs4];exact pushCells_keeps _ _ _ _ (Heap.get?_push_of_some _ e)
 have stat: ∀ {σ':St} {H':Hp} {s':Shared},Inv (X.J1 s3 H3 scope ce fp) [] σ' H' s'->(∀b ∈ fp,H' b=none)-> ∀b ∈ fp,Hu (X.J1 s3 H3 scope ce fp) [] H' b:=fun {σ' H' s'} I' hn b hb=>
  ⟨hn b hb,(I'.ok.Ww b hb).1,I'.ok.Oe b hb,.inl hb,fun x c e=>(I'.ok.Ww b hb).2 x c e,fun p hp=>absurd (show p ∈ ([]:List (Addr×Obj))++ [] from hp) (by simp)⟩
 have loop:codeAny (model X.prog X.w) X.A (.compLoop (.ListComp elt [⟨tg,iter,ifs,0⟩] scope pos) 0 (.ref it) (.ref D) ce) (compPost (model X.prog X.w) X.A X.xe use Qf (.ref D) s3.heap.objs.size) s4:=by
  refine Kr (fun n s'=> ∃i H',Inv (X.J1 s3 H3 scope ce fp) [] (wipe σ (own.map (·.2))) H' s'/\tn i s'.heap/\(∀b ∈ fp,H' b=none)/\W i n H') ?_ m0 ⟨0,H3,I4,st4,nfp,w0⟩
  rintro n s5 ⟨i,H5,I5,st5,n5,w5⟩
  rcases turn i n H5 w5 with ⟨stop,qq⟩ | ⟨go,Nx,hNx,step⟩
  ·have td:=T.done (X.J1 s3 H3 scope ce fp) rfl rfl rfl hc i [] s5 _ H5 (fun _ _=>False) I5 (stat I5 n5) st5 stop
   refine Lr td fun r s6 ⟨hr,I6⟩=>?_
   subst hr
   have I7:Inv X pins σ H5 s6:=I3.RE (ch:=fp) I6.os I6.base I6.hok I6.bare fun b hb=>⟨(f3 b hb).1.2.2.2.1,(f3 b hb).1.2.1,(f3 b hb).1.2.2.2.2.1,(f3 b hb).1.2.2.2.2.2⟩
   have nC:H5 s3.heap.objs.size=none:=by
    have z:H5 ce.locals=none:=I6.free
    rw [cL] at z
    exact z
   obtain ⟨m,hn,_⟩:=I6.loc
   have hn:s6.heap.Ns ce.locals m:=hn
   rw [cL] at hn
   exact hRR D s3.heap.objs.size s6 m H5 I7 qq hn (I3.RJ (YM _) nC)
  ·have ti:=T.item (X.J1 s3 H3 scope ce fp) rfl rfl rfl hc i [] s5 _ H5 (fun _ _=>False) I5 (stat I5 n5) st5 go
   refine Lr ti fun r s6 ⟨u,hr,h6⟩=>?_
   subst hr
   refine Lr h6 fun _ s7 ⟨x,H7,I7,r7,y7,st7,n7⟩=>?_
   have I7':=I7.pinned (stat I7 n7) (T.obj _ _ st7)
   refine Lr (pg _ s7 _ H7 x u _ I7' r7 (step x H7 y7)) fun _ s8 ⟨σ8,H8,I8,hw8,q8⟩=>?_
   refine Lr (pt _ s8 σ8 H8 _ I8 q8) fun b s9 ⟨H9,I9,q9⟩=>?_
   have fin: ∀ {s':Shared} {H':Hp},Inv (X.J1 s3 H3 scope ce fp) ([]++F9 fp s7.heap) σ8 H' s'->Nx H'-> ∃m,m < n/\ ∃i H',Inv (X.J1 s3 H3 scope ce fp) [] (wipe σ (own.map (·.2))) H' s'/\tn i s'.heap/\(∀b ∈ fp,H' b=none)/\W i m H':=fun {s' H'} I' nx=>by
    obtain ⟨m',hm,w'⟩:=hNx H' nx
    have pin': ∀b ∈ fp,∀o,s7.heap.get? b=some o->s'.heap.get? b=some o/\H' b=none:=fun b hb o e=>
     let z:=I'.pin (b,o) (Za _ (Za _ (AI hb e)))
     ⟨z.1,z.2.1⟩
    have hl:(wipe σ (own.map (·.2))).length=σ8.length:=by rw [<-hw8,yk]
    refine ⟨m',hm,i + 1,H',(I'.Bq (pins:= [])).weak hl (fun j v e=>?_),T.keep _ _ _ st7 fun b hb o e=>(pin' b hb o e).1,fun b hb=>?_,w'⟩
    ·rw [<-hw8] at e
     exact (Cn e).1
    ·obtain ⟨o,e,_⟩:=T.obj _ _ st7 b hb
     exact (pin' b hb o e).2
   cases b with
   | false=>
    simp only [Bool.false_eq_true,if_false] at q9 ⊢
    exact fin I9 q9
   | true=>
    simp only [if_true] at q9 ⊢
    refine Lr (pe _ s9 σ8 H9 _ I9 q9) fun z s10 ⟨yv,H10,I10,r10,acc,hD10,hz10,nx⟩=>?_
    exact Wi (X:=X.J1 s3 H3 scope ce fp) I10 hD10 hz10 r10 fun s11 I11=>fin I11 nx
 exact codeAny_compStart_list loop (T.self X.A 0 _ _ _ st4 loop)
theorem B3 {elt tg iter:Expr} {ifs:List Expr} {scope:Scope} {own:List (Str×Nat)} {pos:Pos} {wi:TI} {g:TG} {tt:TT} {te:TE} (hc:X.calm=true) (hN:X.N.Nodup) (hi:PI X tg iter wi) (ok:L_ X.N X.env.scope scope own)
  (hg: ∀(s:Shared) (H:Hp) (C:Addr) (cl:List (Str×Addr)) (fp:List Addr),PG (X.J1 s H scope (compEnvC scope cl C X.env) fp) tg g) (ht: ∀(s:Shared) (H:Hp) (C:Addr) (cl:List (Str×Addr)) (fp:List Addr),WM (X.J1 s H scope (compEnvC scope cl C X.env) fp) ifs tt)
  (he: ∀(s:Shared) (H:Hp) (C:Addr) (cl:List (Str×Addr)) (fp:List Addr),PE (X.J1 s H scope (compEnvC scope cl C X.env) fp) elt te) (hs: ∀x,foldedSetIterable iter X.env x=pure x:=by intro _;rfl):
  PE X (.ListComp elt [⟨tg,iter,ifs,0⟩] scope pos) (Tq wi g tt te (own.map (·.2))):=by
 intro pins s σ H Q I h
 rw [eval_ListComp]
 refine OU hc hN I hi ok hg ht he hs h fun D C s' m H' I' q hn f=>⟨m,hn,fun h'' sb=>?_⟩
 obtain ⟨f0,f1,f2,f3,f4,f5⟩:=f
 exact ⟨.ref D,H',I'.turned (t':=s'.toks) (fun b o hb e=>(sb.2 b hb).trans e) f0 f1 f3 f4 f5,rfl,q⟩
theorem RO {i:Nat} {y:Str} {py:Pos} {elt tg iter:Expr} {ifs:List Expr} {scope:Scope} {own:List (Str×Nat)} {pos spos:Pos} {wi:TI} {g:TG} {tt:TT} {te:TE} (hc:X.calm=true) (hN:X.N.Nodup) (hy:X.N[i]?=some y) (hyl:X.env.scope.names.lookup y=some .local)
  (hsw:swapsWith (.ListComp elt [⟨tg,iter,ifs,0⟩] scope pos) (some (.Name y py)) spos.line X.env=pure true) (hi:PI X tg iter wi) (ok:L_ X.N X.env.scope scope own)
  (hg: ∀(s:Shared) (H:Hp) (C:Addr) (cl:List (Str×Addr)) (fp:List Addr),PG (X.J1 s H scope (compEnvC scope cl C X.env) fp) tg g) (ht: ∀(s:Shared) (H:Hp) (C:Addr) (cl:List (Str×Addr)) (fp:List Addr),WM (X.J1 s H scope (compEnvC scope cl C X.env) fp) ifs tt)
  (he: ∀(s:Shared) (H:Hp) (C:Addr) (cl:List (Str×Addr)) (fp:List Addr),PE (X.J1 s H scope (compEnvC scope cl C X.env) fp) elt te) (hs: ∀x,foldedSetIterable iter X.env x=pure x:=by intro _;rfl):
  PS X (.Assign [.Name y py] (.ListComp elt [⟨tg,iter,ifs,0⟩] scope pos) spos) (DL (Tq wi g tt te (own.map (·.2))) (mR i)):=by
 intro pins s σ H D I h
 rw [exec_Assign_Name_used _ _ _ _ hsw]
 refine wpAny_bind (wpAny_standAt (wpAny_bind ?_))
 show wpAny _ X.A (do let _ <-comprehension (.ListComp elt [⟨tg,iter,ifs,0⟩] scope pos) scope X.env (firstIterPos [⟨tg,iter,ifs,0⟩] pos) (newList []) false (eval iter X.env) (some (assign (.Name y py) X.env))) _ _ s
 have h:Tq wi g tt te (own.map (·.2)) σ H (fun x H1=>mR i x σ H1 D.nx):=h
 refine wpAny_bind (gD (OU (Qf:=fun _ s'=>SP X pins D .next s') hc hN I hi ok hg ht he hs h fun L C s' m H' I' q hn f=>?_) fun _ s' hq=>wpAny_pure (wpAny_pure hq))
 show wpAny _ _ (assign (.Name y py) X.env (.ref L)) _ _ _
 refine wpAny_assign_Name (IZ (v:=V.ref L) I' hN hy (.inl hyl) rfl (fun s2 I2 ⟨a,sb,ha⟩=>?_) (.inr hyl))
 obtain ⟨f0,f1,f2,f3,f4,f5⟩:=f
 have haC:C≠a:=by
  rcases ha with z | z
  ·rw [z];exact f1
  ·exact fun e=>f4 y a z e.symm
 refine ⟨m,hn.sameBut sb haC,fun h3 sb3=>?_⟩
 exact ⟨_,H',I2.turned (t':=s2.toks) (fun b o hb e=>(sb3.2 b hb).trans e) f0 f1 f3 f4 f5,q⟩
theorem Uv {elt:Expr} {gs:List Comprehension} {scope:Scope} {pos py:Pos} {y:Str} {l:Nat} {env:Env} (hk:env.scope.kind= .function) (hy:env.scope.names.lookup y=some .local) (hl:(py.line == pos.line)=true)
  (ha:(scope.names.any fun (n,k)=>n == y && (k == .local || k == .cell))=false):swapsWith (.ListComp elt gs scope pos) (some (.Name y py)) l env=pure true:=by
 have ky:env.kindOf y=some .local:=hy
 have hb:env.blockKind= .function:=by unfold Env.blockKind;rw [hk];rfl
 unfold swapsWith
 simp only [hb,ky,ha,Expr.pos,hl]
 rfl
end
theorem SK {lo:Int} {n:Nat} {g:TG} {tt:TT} {te:TE} {vs:List Nat} {σ:St} {H1:Hp} {D:Addr} {Qd:Hp->Prop} (Pv:Nat->Hp->Prop) (h0:Pv 0 (upd H1 D (.lst [])))
  (hs: ∀i H,i < n->Pv i H->g (.int (lo + i)) (wipe σ vs) H fun σ2 H2=>wipe σ2 vs=wipe σ vs/\tt σ2 H2 fun b H3=>
   if b=true then te σ2 H3 fun y H4=> ∃acc,H4 D=some (.lst acc)/\acc.length < sizeLine/\Pv (i + 1) (upd H4 D (.lst (acc++ [y]))) else Pv (i + 1) H3) (hd: ∀H,Pv n H->Qd H):
  ∃W:Nat->Nat->Hp->Prop,(∃m,W 0 m (upd H1 D (.lst [])))/\ ∀i m H,W i m H->
   ((Tp lo n).stop i H/\Qd H)\/((Tp lo n).go i H/\ ∃Nx:Hp->Prop,(∀H',Nx H'-> ∃m',m' < m/\W (i + 1) m' H')/\ ∀x H',(Tp lo n).Tr i H x H'->g x (wipe σ vs) H' fun σ2 H2=>wipe σ2 vs=wipe σ vs/\tt σ2 H2 fun b H3=>
    if b=true then te σ2 H3 fun y H4=> ∃acc,H4 D=some (.lst acc)/\acc.length < sizeLine/\Nx (upd H4 D (.lst (acc++ [y]))) else Nx H3):=by
 refine ⟨fun i m H=>m=n - i/\i<=n/\Pv i H,⟨n,by simp,YW _,h0⟩,?_⟩
 rintro i m H ⟨rfl,hi,p⟩
 by_cases hlt:i < n
 ·refine .inr ⟨hlt,Pv (i + 1),fun H' p'=>⟨n - (i + 1),by lia,rfl,hlt,p'⟩,fun x H' y=>?_⟩
  obtain ⟨e,y⟩:=y
  subst e y
  exact hs i _ hlt p
 ·have e:i=n:=by lia
  subst e
  exact .inl ⟨YM _,hd H p⟩
theorem Ei {K:W.Frag} {a:Addr} {xs:List V} {g:TG} {tt:TT} {te:TE} {vs:List Nat} {σ:St} {H1:Hp} {D:Addr} {Qd:Hp->Prop} (Pv:Nat->Hp->Prop) (h0:Pv 0 (upd H1 D (.lst []))) (hl: ∀i H,i<=xs.length->Pv i H->b_ K H a xs)
  (hs: ∀i x H,xs[i]?=some x->Pv i H->g x (wipe σ vs) H fun σ2 H2=>wipe σ2 vs=wipe σ vs/\tt σ2 H2 fun b H3=>
   if b=true then te σ2 H3 fun y H4=> ∃acc,H4 D=some (.lst acc)/\acc.length < sizeLine/\Pv (i + 1) (upd H4 D (.lst (acc++ [y]))) else Pv (i + 1) H3) (hd: ∀H,Pv xs.length H->Qd H):
  ∃W:Nat->Nat->Hp->Prop,(∃m,W 0 m (upd H1 D (.lst [])))/\ ∀i m H,W i m H->
   ((RK K a).stop i H/\Qd H)\/((RK K a).go i H/\ ∃Nx:Hp->Prop,(∀H',Nx H'-> ∃m',m' < m/\W (i + 1) m' H')/\ ∀x H',(RK K a).Tr i H x H'->g x (wipe σ vs) H' fun σ2 H2=>wipe σ2 vs=wipe σ vs/\tt σ2 H2 fun b H3=>
    if b=true then te σ2 H3 fun y H4=> ∃acc,H4 D=some (.lst acc)/\acc.length < sizeLine/\Nx (upd H4 D (.lst (acc++ [y]))) else Nx H3):=by
 refine ⟨fun i m H=>m=xs.length - i/\i<=xs.length/\Pv i H,⟨xs.length,by simp,YW _,h0⟩,?_⟩
 rintro i m H ⟨rfl,hi,p⟩
 have q:=hl i H hi p
 by_cases hlt:i < xs.length
 ·refine .inr ⟨⟨xs,xs[i],q,by simp [hlt]⟩,Pv (i + 1),fun H' p'=>⟨xs.length - (i + 1),by lia,rfl,hlt,p'⟩,fun x H' y=>?_⟩
  obtain ⟨e,y⟩:=y
  subst e
  exact hs i x _ (y xs q) p
 ·have e:i=xs.length:=by lia
  subst e
  exact .inl ⟨⟨xs,q,YM _⟩,hd H p⟩
theorem Vt {K:W.Frag} {a:Addr} {xs:List V} {g:TG} {tt:TT} {te:TE} {vs:List Nat} {σ:St} {H1:Hp} {D:Addr} {Qd:Hp->Prop} (Pv:Nat->Hp->Prop) (h0:Pv 0 (upd H1 D (.lst []))) (hl: ∀i H,i<=xs.length->Pv i H->jn K H a xs)
  (hs: ∀i x H,xs[i]?=some x->Pv i H->g x (wipe σ vs) H fun σ2 H2=>wipe σ2 vs=wipe σ vs/\tt σ2 H2 fun b H3=>
   if b=true then te σ2 H3 fun y H4=> ∃acc,H4 D=some (.lst acc)/\acc.length < sizeLine/\Pv (i + 1) (upd H4 D (.lst (acc++ [y]))) else Pv (i + 1) H3) (hd: ∀H,Pv xs.length H->Qd H):
  ∃W:Nat->Nat->Hp->Prop,(∃m,W 0 m (upd H1 D (.lst [])))/\ ∀i m H,W i m H->
   ((Xg K a).stop i H/\Qd H)\/((Xg K a).go i H/\ ∃Nx:Hp->Prop,(∀H',Nx H'-> ∃m',m' < m/\W (i + 1) m' H')/\ ∀x H',(Xg K a).Tr i H x H'->g x (wipe σ vs) H' fun σ2 H2=>wipe σ2 vs=wipe σ vs/\tt σ2 H2 fun b H3=>
    if b=true then te σ2 H3 fun y H4=> ∃acc,H4 D=some (.lst acc)/\acc.length < sizeLine/\Nx (upd H4 D (.lst (acc++ [y]))) else Nx H3):=by
 refine ⟨fun i m H=>m=xs.length - i/\i<=xs.length/\Pv i H,⟨xs.length,by simp,YW _,h0⟩,?_⟩
 rintro i m H ⟨rfl,hi,p⟩
 have q:=hl i H hi p
 by_cases hlt:i < xs.length
 ·refine .inr ⟨⟨xs,xs[i],q,by simp [hlt]⟩,Pv (i + 1),fun H' p'=>⟨xs.length - (i + 1),by lia,rfl,hlt,p'⟩,fun x H' y=>?_⟩
  obtain ⟨e,y⟩:=y
  subst e
  exact hs i x _ (y xs q) p
 ·have e:i=xs.length:=by lia
  subst e
  exact .inl ⟨⟨xs,q,YM _⟩,hd H p⟩
def Xb(N:List Str)(sc scope:Scope)(own:List (Str×Nat)):Bool:=
 (match scope.kind with | .function=>true | _=>false) && (scope.names.all fun y=>decide (scope.names.lookup y.1=some y.2)) && (own.all fun p=>decide (N[p.2]?=some p.1)) &&
  (scope.names.all fun y=>match y.2 with
   | .free=>(match sc.names.lookup y.1 with | some .cell=>true | some .free=>true | _=>false)
   | .local=>decide (y.1 ∈ own.map (·.1)) || decide (y.1 ∉ N)
   | .cell=>decide (y.1 ∈ own.map (·.1)) || decide (y.1 ∉ N)
   | _=>true)
theorem mU{N:List Str}{sc scope:Scope}{own:List (Str×Nat)}(h:Xb N sc scope own=true):L_ N sc scope own:=by
 unfold Xb at h
 simp only [Y_,List.all_eq_true,decide_eq_true_eq] at h
 obtain ⟨⟨⟨h1,h2⟩,h3⟩,h4⟩:=h
 refine ⟨?_,h2,h3,fun y hy e=>?_,fun y hy e=>?_⟩
 ·split at h1
  ·assumption
  ·cases h1
 ·have q:=h4 y hy
  simp only [e] at q
  split at q <;> first | exact .inl (by assumption) | exact .inr (by assumption) | cases q
 ·have q:=h4 y hy
  rcases e with e | e <;> (simp only [e,Bool.or_eq_true,decide_eq_true_eq] at q;exact q)
end L2
namespace L2
open PySem PySem.Spec PyProof.Rows
section
variable {κ:Type} [DecidableEq κ]
def dg(kvs:List (κ×V))(k:κ):Option V:=(kvs.find? fun kv=>decide (kv.1=k)).map (·.2)
def putK(kvs:List (κ×V))(k:κ)(v:V):List (κ×V):=
 if (kvs.any fun kv=>decide (kv.1=k))=true then kvs.map (fun kv=>if kv.1=k then (kv.1,v) else kv) else kvs++ [(k,v)]
theorem gQ{p:κ×V}{r:List (κ×V)}{k:κ}(e:p.1=k):dg (p::r) k=some p.2:=by simp [dg,Zh,e]
theorem gK{p:κ×V}{r:List (κ×V)}{k:κ}(e: ¬p.1=k):dg (p::r) k=dg r k:=by simp [dg,Zh,e]
theorem vH(k:κ): ∀kvs:List (κ×V),(kvs.any fun kv=>decide (kv.1=k))=(dg kvs k).isSome
 | []=>rfl
 | p::r=>by
  rw [List.any_cons]
  by_cases e:p.1=k
  ·simp only [gQ e,YQ e,Bool.true_or,Option.isSome_some]
  ·rw [gK e,YJ e,Bool.false_or];exact vH k r
theorem Ma(k j:κ)(y:V): ∀kvs:List (κ×V),dg (kvs.map fun kv=>if kv.1=k then (kv.1,y) else kv) j=(dg kvs j).map fun x=>if j=k then y else x
 | []=>rfl
 | p::r=>by
  have ih:=Ma k j y r
  rw [YS]
  by_cases h:p.1=k
  ·rw [if_pos h]
   by_cases e:p.1=j
   ·rw [gQ (p:=(p.1,y)) e,gQ e,Option.map_some,if_pos (e.symm.trans h)]
   ·rw [gK (p:=(p.1,y)) e,gK e,ih]
  ·rw [if_neg h]
   by_cases e:p.1=j
   ·rw [gQ (p:=p) e,gQ e,Option.map_some,if_neg (fun z=>h (e.trans z))]
   ·rw [gK (p:=p) e,gK e,ih]
theorem IM(k j:κ)(y:V): ∀kvs:List (κ×V),dg kvs k=none->dg (kvs++ [(k,y)]) j=if j=k then some y else dg kvs j
 | [],_=>by
  by_cases e:k=j
  ·rw [if_pos e.symm];exact gQ (p:=(k,y)) e
  ·rw [if_neg (fun z=>e z.symm)];exact gK (p:=(k,y)) e
 | p::r,hn=>by
  rw [List.cons_append]
  have hk: ¬p.1=k:=fun z=>by rw [gQ z] at hn;cases hn
  rw [gK hk] at hn
  have ih:=IM k j y r hn
  by_cases e:p.1=j
  ·rw [gQ e,gQ e,if_neg (fun z=>hk (e.trans z))]
  ·rw [gK e,gK e,ih]
theorem oR(kvs:List (κ×V))(k j:κ)(y:V):dg (putK kvs k y) j=if j=k then some y else dg kvs j:=by
 unfold putK
 by_cases a:(kvs.any fun kv=>decide (kv.1=k))=true
 ·rw [if_pos a,Ma]
  rw [vH] at a
  by_cases e:j=k
  ·obtain ⟨x,hx⟩:=Option.isSome_iff_exists.mp a
   rw [if_pos e,e,hx,Option.map_some,if_pos rfl]
  ·rw [if_neg e]
   cases dg kvs j with
   | none=>rfl
   | some x=>rw [Option.map_some,if_neg e]
 ·rw [if_neg a]
  refine IM k j y kvs ?_
  rw [vH] at a
  cases q:dg kvs k with
  | none=>rfl
  | some x=>rw [q] at a;exact (a rfl).elim
theorem Dd(kvs:List (κ×V))(k:κ)(v:V):(putK kvs k v).length<=kvs.length + 1:=by
 unfold putK
 split
 ·rw [YI];lia
 ·rw [YH,YU,List.length_nil];lia
theorem BV{kvs:List (κ×V)}{k:κ}(v:V)(h:dg kvs k=none):putK kvs k v=kvs++ [(k,v)]:=by
 unfold putK
 rw [vH,h]
 exact if_neg (by decide)
theorem sZ.vA{o:Option V}{u:Option Value}(r:sZ o u):o.isSome=u.isSome:=by
 cases o with
 | none=>cases u with
  | none=>rfl
  | some _=>exact (show False from r).elim
 | some _=>cases u with
  | none=>exact (show False from r).elim
  | some _=>rfl
theorem sZ.getD{o:Option V}{u:Option Value}{d:V}{d':Value}(r:sZ o u)(rd:RelV d d'):RelV (o.getD d) (u.getD d'):=by
 cases o with
 | none=>cases u with
  | none=>exact rd
  | some _=>exact (show False from r).elim
 | some _=>cases u with
  | none=>exact (show False from r).elim
  | some _=>exact r
theorem KV.val{kvs:List (κ×V)}{vs:List (κ×Value)}(r:KV kvs vs)(k:κ):sZ (dg kvs k) (valueAt vs k):=by
 unfold KV at r
 induction r with
 | nil=>exact True.intro
 | @cons p q ps qs h t ih=>
  obtain ⟨h1,h2⟩:=h
  by_cases e:p.1=k
  ·have e':q.1=k:=h1.symm.trans e
   have b:valueAt (q::qs) k=some q.2:=by simp [valueAt,Zh,e']
   rw [gQ e,b];exact h2
  ·have e': ¬q.1=k:=fun z=>e (h1.trans z)
   have b:valueAt (q::qs) k=valueAt qs k:=by simp [valueAt,Zh,e']
   rw [gK e,b];exact ih
theorem KV.any{kvs:List (κ×V)}{vs:List (κ×Value)}(r:KV kvs vs)(k:κ):(kvs.any fun kv=>decide (kv.1=k))=vs.any fun kv=>decide (kv.1=k):=by
 unfold KV at r
 induction r with
 | nil=>rfl
 | cons h t ih=>rw [List.any_cons,List.any_cons,ih,h.1]
theorem KV.repl{kvs:List (κ×V)}{vs:List (κ×Value)}(r:KV kvs vs)(k:κ){y:V}{u:Value}(ry:RelV y u):
  KV (kvs.map fun kv=>if kv.1=k then (kv.1,y) else kv) (vs.map fun kv=>if kv.1=k then (kv.1,u) else kv):=by
 unfold KV at r ⊢
 induction r with
 | nil=>exact .nil
 | @cons p q ps qs h t ih=>
  rw [YS,YS]
  refine .cons ?_ ih
  obtain ⟨h1,h2⟩:=h
  by_cases e:p.1=k
  ·rw [if_pos e,if_pos (h1.symm.trans e)];exact ⟨h1,ry⟩
  ·rw [if_neg e,if_neg (fun z=>e (h1.trans z))];exact ⟨h1,h2⟩
theorem KV.put{kvs:List (κ×V)}{vs:List (κ×Value)}(r:KV kvs vs)(k:κ){y:V}{u:Value}(ry:RelV y u):KV (putK kvs k y) (stored vs k u):=by
 unfold putK stored
 rw [r.any k]
 by_cases e:(vs.any fun kv=>decide (kv.1=k))=true
 ·rw [if_pos e,if_pos e];exact r.repl k ry
 ·rw [if_neg e,if_neg e];exact Paired.snoc r ⟨rfl,ry⟩
theorem KV.length{kvs:List (κ×V)}{vs:List (κ×Value)}(r:KV kvs vs):kvs.length=vs.length:=Paired.length r
end
theorem Fy{P:Program}{w:World}{k:Key}{u:Value}(r:RelV (kV k) u):(fU P w).is k u=true:=by
 cases k with
 | inl i=>obtain ⟨t,e⟩:=(show ∃t,u=Value.int i t from r);subst e;exact Mb P w i t
 | inr x=>obtain ⟨t,e⟩:=(show ∃t,u=Value.str x t from r);subst e;exact Lf P w x t
theorem IY{P:Program}{w:World}: ∀ {ks:List Key} {us:List Value},Vals (ks.map kV) us->ItemsAre (fU P w) ks us
 | [],_,r=>by rw [List.map_nil] at r;cases r;exact .nil
 | k::ks,_,r=>by
  rw [YS] at r
  cases r with
  | cons h t=>exact .cons (Fy h) (IY t)
abbrev KT(H:Hp):List (List Key×V)->List (List Key×Addr×Value)->Prop:=Paired fun p q=>p.1=q.1/\H q.2.1=some (.tup (p.1.map kV))/\RelV p.2 q.2.2
theorem KT.val{H:Hp}{kvs:List (List Key×V)}{xs:List (List Key×Addr×Value)}(r:KT H kvs xs)(k:List Key):sZ (dg kvs k) ((atKey xs k).map (·.2)):=by
 induction r with
 | nil=>exact True.intro
 | @cons p q ps qs h t ih=>
  obtain ⟨h1,_,h2⟩:=h
  by_cases e:p.1=k
  ·have e':q.1=k:=h1.symm.trans e
   have b:atKey (q::qs) k=some q.2:=by simp [atKey,Zh,e']
   rw [gQ e,b];exact h2
  ·have e': ¬q.1=k:=fun z=>e (h1.trans z)
   have b:atKey (q::qs) k=atKey qs k:=by simp [atKey,Zh,e']
   rw [gK e,b];exact ih
theorem KT.repl{H:Hp}{kvs:List (List Key×V)}{xs:List (List Key×Addr×Value)}(r:KT H kvs xs)(k:List Key){y:V}{u:Value}(ry:RelV y u):
  KT H (kvs.map fun kv=>if kv.1=k then (kv.1,y) else kv) (xs.map (putAt k u)):=by
 induction r with
 | nil=>exact .nil
 | @cons p q ps qs h t ih=>
  rw [YS,YS]
  refine .cons ?_ ih
  obtain ⟨h1,h2,h3⟩:=h
  unfold putAt
  by_cases e:p.1=k
  ·rw [if_pos e,if_pos (h1.symm.trans e)];exact ⟨h1,h2,ry⟩
  ·rw [if_neg e,if_neg (fun z=>e (h1.trans z))];exact ⟨h1,h2,h3⟩
theorem KT.put{H:Hp}{kvs:List (List Key×V)}{xs:List (List Key×Addr×Value)}(r:KT H kvs xs)(k:List Key){b:Addr}{y:V}{u:Value}(hb:H b=some (.tup (k.map kV)))(ry:RelV y u):
  KT H (putK kvs k y) (storedH xs k b u):=by
 have e:(kvs.any fun kv=>decide (kv.1=k))=(atKey xs k).isSome:=by
  rw [vH,(r.val k).vA,Option.isSome_map]
 unfold putK storedH
 rw [e]
 by_cases q:(atKey xs k).isSome=true
 ·rw [if_pos q,if_pos q];exact r.repl k ry
 ·rw [if_neg q,if_neg q];exact Paired.snoc r ⟨rfl,hb,ry⟩
theorem KT.keeps{H H':Hp}{kvs:List (List Key×V)}{xs:List (List Key×Addr×Value)}(r:KT H kvs xs)(ht: ∀b ys,H b=some (.tup ys)->H' b=some (.tup ys)):KT H' kvs xs:=
 Paired.Wh r fun _ _ z=>⟨z.1,ht _ _ z.2.1,z.2.2⟩
section
variable {P:Program} {w:World} {H:Hp} {h:Heap} {a:Addr}
theorem U1{u:HO}(ok:vI P w H h)(e:Rd H a u):gV P w H h a u:=e.ok ok
theorem BU{kvs:List (Key×V)}(ok:vI P w H h)(e:Rd H a (.dK kvs)):kvs.length<=sizeLine/\(a == sysModules)=false/\ ∃vs,KV kvs vs/\h.DictOf (fU P w) a vs:=
 show gV P w H h a (.dK kvs) from U1 ok e
theorem R7{kvs:List (Key×V)}(ok:vI P w H h)(e:H a=some (.dK kvs)):kvs.length<=sizeLine/\(a == sysModules)=false/\ ∃vs,KV kvs vs/\h.DictOf (fU P w) a vs:=BU ok (.inl e)
theorem Aq{ks:List Key}(ok:vI P w H h)(e:H a=some (.tup (ks.map kV))):(tupleKind (fU P w)).is h ks a:=by
 obtain ⟨_,its,r,o,h1,h2,n,h3⟩:=(show gV P w H h a (.tup (ks.map kV)) from ok a _ e)
 exact ⟨o,its.toArray,n,h1,h2,h3,by simpa using IY r⟩
theorem Df{kvs:List (List Key×V)}(ok:vI P w H h)(e:Rd H a (.dT kvs)):kvs.length<=sizeLine/\(a == sysModules)=false/\
  ∃xs,KT H kvs xs/\h.DictOfH (tupleKind (fU P w)) a xs:=by
 obtain ⟨z,y,xs,r,o,es,ep,h1,h2,h3,h4,h5⟩:=(show gV P w H h a (.dT kvs) from U1 ok e)
 refine ⟨z,y,xs,r,o,es,ep,h1,h2,h3,h4,fun x hx=>?_,h5⟩
 have all: ∀ {l:List (List Key×V)} {m:List (List Key×Addr×Value)},KT H l m-> ∀x ∈ m,(tupleKind (fU P w)).is h x.1 x.2.1:=by
  intro l m q
  induction q with
  | nil=>intro x hx;exact nomatch hx
  | @cons p q ps qs hq t ih=>
   intro x hx
   rcases YR.mp hx with e | hx
   ·subst e
    exact Aq ok (by rw [<-hq.1];exact hq.2.1)
   ·exact ih x hx
 exact all r x hx
theorem W8{kvs:List (List Key×V)}(ok:vI P w H h)(e:H a=some (.dT kvs)):kvs.length<=sizeLine/\(a == sysModules)=false/\
  ∃xs,KT H kvs xs/\h.DictOfH (tupleKind (fU P w)) a xs:=Df ok (.inl e)
end
def iY(H:Hp)(a:Addr)(y:V)(r:Option V):Prop:=
 (∃kvs k,Rd H a (.dK kvs)/\y=kV k/\r=dg kvs k)\/ ∃kvs k b,Rd H a (.dT kvs)/\y= .ref b/\H b=some (.tup (k.map kV))/\r=dg kvs k
def zQ(H:Hp)(a:Addr)(y v:V)(H':Hp):Prop:=
 (∃kvs k,H a=some (.dK kvs)/\y=kV k/\kvs.length < sizeLine/\H'=upd H a (.dK (putK kvs k v)))\/
 ∃kvs k b,H a=some (.dT kvs)/\y= .ref b/\H b=some (.tup (k.map kV))/\kvs.length < sizeLine/\H'=upd H a (.dT (putK kvs k v))
theorem iY.k{H:Hp}{a:Addr}{kvs:List (Key×V)}{k:Key}(e:H a=some (.dK kvs)):iY H a (kV k) (dg kvs k):= .inl ⟨kvs,k,.inl e,rfl,rfl⟩
theorem zQ.k{H:Hp}{a:Addr}{kvs:List (Key×V)}{k:Key}{v:V}(e:H a=some (.dK kvs))(hl:kvs.length < sizeLine):zQ H a (kV k) v (upd H a (.dK (putK kvs k v))):= .inl ⟨kvs,k,e,rfl,hl,rfl⟩
section
variable {X:Cx} {pins:List (Addr×Obj)} {σ:St} {H:Hp} {s:Shared} {a:Addr} {y v:V} {u r:Value} {o:Option V} {A:Around} {E:Value->Shared->Prop}
theorem Inv.big(I:Inv X pins σ H s):sysModules < s.heap.objs.size:=by
 have h:mainGlobals < s.heap.objs.size:=(I.mod.glob.keeps I.bk).lt
 exact Nat.lt_trans (by decide) h
theorem Qi{Q:Value->Shared->Prop}(hu:A.units + 1 < cLine)(I:Inv X pins σ H s)(g:iY H a y (some v))(ry:RelV y u)(h: ∀w' s',Inv X pins σ H s'->RelV v w'->Q w' s'):
  wpAny (model X.prog X.w) A (getItem (.ref a) u) Q E s:=by
 rcases g with ⟨kvs,k,e,ey,l⟩ | ⟨kvs,k,b,e,ey,eb,l⟩
 ·subst ey
  obtain ⟨z,hd,vs,rel,dd⟩:=BU I.hok e
  obtain ⟨w',hw,rw'⟩:=sZ.some_of (v:=v) (o:=valueAt vs k) (by rw [l];exact rel.val k)
  exact wpAny_getItem_of (Fy ry) dd.mapOf hw (h w' _ (I.tok _) rw')
 ·subst ey
  cases (show u=Value.ref b from ry)
  obtain ⟨z,hd,xs,rel,dd⟩:=Df I.hok e
  obtain ⟨w',hw,rw'⟩:=sZ.some_of (v:=v) (o:=(atKey xs k).map (·.2)) (by rw [l];exact rel.val k)
  obtain ⟨p,hp,hp2⟩:=Option.map_eq_some_iff.mp hw
  refine wpAny_getItem_heap (tupleKind_room_in1 hu) (Aq I.hok eb) dd hp ?_
  rw [hp2]
  exact h w' _ (I.tok _) rw'
theorem XF{Q:Value->Shared->Prop}(hu:A.units + 1 < cLine)(I:Inv X pins σ H s)(g:iY H a y o)(ry:RelV y u)(h: ∀s',Inv X pins σ H s'->Q (.bool o.isSome) s'):
  wpAny (model X.prog X.w) A (compareOp .In u (.ref a)) Q E s:=by
 rcases g with ⟨kvs,k,e,ey,l⟩ | ⟨kvs,k,b,e,ey,eb,l⟩
 ·subst ey
  obtain ⟨z,hd,vs,rel,dd⟩:=BU I.hok e
  refine wpAny_in_of (Fy ry) hd dd.mapOf ?_
  rw [<-(rel.val k).vA,<-l]
  exact h _ (I.tok _)
 ·subst ey
  cases (show u=Value.ref b from ry)
  obtain ⟨z,hd,xs,rel,dd⟩:=Df I.hok e
  refine wpAny_in_heap (tupleKind_room_in1 hu) (Aq I.hok eb) hd dd ?_
  have q:=(rel.val k).vA
  rw [Option.isSome_map] at q
  rw [<-q,<-l]
  exact h _ (I.tok _)
theorem Uc{Q:Value->Shared->Prop}(hu:A.units + 1 < cLine)(I:Inv X pins σ H s)(g:iY H a y o)(ry:RelV y u)(h: ∀s',Inv X pins σ H s'->Q (.bool (!o.isSome)) s'):
  wpAny (model X.prog X.w) A (compareOp .NotIn u (.ref a)) Q E s:=by
 rcases g with ⟨kvs,k,e,ey,l⟩ | ⟨kvs,k,b,e,ey,eb,l⟩
 ·subst ey
  obtain ⟨z,hd,vs,rel,dd⟩:=BU I.hok e
  refine wpAny_notIn_of (Fy ry) hd dd.mapOf ?_
  rw [<-(rel.val k).vA,<-l]
  exact h _ (I.tok _)
 ·subst ey
  cases (show u=Value.ref b from ry)
  obtain ⟨z,hd,xs,rel,dd⟩:=Df I.hok e
  refine wpAny_notIn_heap (tupleKind_room_in1 hu) (Aq I.hok eb) hd dd ?_
  have q:=(rel.val k).vA
  rw [Option.isSome_map] at q
  rw [<-q,<-l]
  exact h _ (I.tok _)
theorem Pq{h':Heap}{t':Nat}{ob:HO}(I:Inv X pins σ H s)(mu:Xn (H a))(hs:Heap.SameBut a s.heap h')(he: ∃q,h'.get? a=some q)(new:gV X.prog X.w (upd H a ob) h' a ob):
  Inv X pins σ (upd H a ob) {s with heap:=h',toks:=t'}:=
 I.write (x:=a) (e:=a) mu (.inl rfl) (fun b q hb z=>(hs.2 b hb).trans z) he new
theorem V2{P:Program}{w:World}{H':Hp}{h':Heap}{kvs:List (Key×V)}{vs:List (Key×Value)}(z:kvs.length<=sizeLine)(hd:(a == sysModules)=false)(rel:KV kvs vs)(dd:h'.DictOf (fU P w) a vs):
  gV P w H' h' a (.dK kvs):=⟨z,hd,vs,rel,dd⟩
theorem Q3{H':Hp}{Q:Unit->Shared->Prop}(hu:A.units + 1 < cLine)(I:Inv X pins σ H s)(g:zQ H a y v H')(ry:RelV y u)(rv:RelV v r)(h: ∀s',Inv X pins σ H' s'->Q () s'):
  wpAny (model X.prog X.w) A (setItem (.ref a) u r) Q E s:=by
 rcases g with ⟨kvs,k,e,ey,l,eH⟩ | ⟨kvs,k,b,e,ey,eb,l,eH⟩
 ·subst ey eH
  obtain ⟨z,hd,vs,rel,dd⟩:=R7 I.hok e
  have hz:vs.length<=sizeLine:=by rw [<-rel.length];exact z
  have hl:(putK kvs k v).length<=sizeLine:=by have:=Dd kvs k v;lia
  refine wpAny_setItem_pairs (hsz:=hz) (Fy ry) dd fun h' dd' hs=>h _ ?_
  have he: ∃q,h'.get? a=some q:=let ⟨q,_,_,hq,_⟩:=dd';⟨q,hq⟩
  exact Pq I (by rw [e];exact True.intro) hs he (V2 hl hd (rel.put k rv) dd')
 ·subst ey eH
  cases (show u=Value.ref b from ry)
  obtain ⟨z,hd,xs,rel,dd⟩:=W8 I.hok e
  have hz:xs.length<=sizeLine:=by rw [<-Paired.length rel];exact z
  have hl:(putK kvs k v).length<=sizeLine:=by have:=Dd kvs k v;lia
  refine wpAny_setItem_heap (hsz:=hz) (tupleKind_room_in1 hu) (Aq I.hok eb) dd fun h' dd' hs=>h _ ?_
  obtain ⟨q,es,ep,hq,h2,h3,h4,_,h5⟩:=dd'
  refine Pq I (by rw [e];exact True.intro) hs ⟨q,hq⟩ ⟨hl,hd,_,(rel.put k eb rv).keeps fun c ys ec=>?_,q,es,ep,hq,h2,h3,h4,h5⟩
  rw [ak (yX ec e (fun z=>nomatch z))]
  exact ec
end
section
variable {X:Cx} {pins:List (Addr×Obj)} {σ:St} {H:Hp} {s:Shared} {a:Addr} {kvs:List (Key×V)} {k:Key} {u:Value} {A:Around} {E:Value->Shared->Prop}
theorem Xo{Q:Value->Shared->Prop}(I:Inv X pins σ H s)(e:Rd H a (.dK kvs))(h: ∀t s',Inv X pins σ H s'->Q (.int kvs.length t) s'):wpAny (model X.prog X.w) A (call (.builtin "len") [.ref a]) Q E s:=by
 obtain ⟨z,hd,vs,rel,dd⟩:=BU I.hok e
 refine call_len_dict hd dd (by rw [<-rel.length];rw [sizeLine_eq] at z;lia) ?_
 rw [<-rel.length]
 exact h _ _ (I.tok _)
end
def WV(i:Expr):Prop:= ∀ov iv,subscripted i false ov iv=operate [ov,iv] (getItem ov iv)
theorem TX {prog:Program} {w:World} {A:Around} {E:Value->Shared->Prop} {s:Shared} {env:Env} {value slice:Expr} {pos:Pos} {T id:String} {Q:Value->Shared->Prop}
  (hl:typeLookup (.type T) "__getitem__"=pure (some (.builtin id))) (hs:WV slice)
  (h:wpAny (model prog w) A (eval value env) (fun o s₁=>wpAny (model prog w) A (eval slice env) (fun i s₂=>s₂.TypeIs o T/\wpAny (model prog w) A (getItem o i) Q E s₂) E s₁) E s):
  wpAny (model prog w) A (eval (.Subscript value slice pos) env) Q E s:=by
 refine Subscript_ (wpAny_mono h (fun o s₁ h₁=>wpAny_mono h₁ (fun i s₂ h₂=>?_) fun _ _ x=>x) fun _ _ x=>x)
 obtain ⟨hT,h₂⟩:=h₂
 unfold subscriptTail
 refine wpAny_bind ?_
 rw [getitemInPython_of_ne hT.not_modules]
 refine wpAny_bind (wpAny_specialOf hT hl ?_)
 have fin:wpAny (model prog w) A (subscripted slice false o i) (fun r s₃=>wpAny (model prog w) A (letTemporaryGo value o r >>= fun _=>pure r) Q E s₃) E s₂:=by
  rw [hs o i]
  exact wpAny_operating (wpAny_mono h₂ (fun r s₃ h₃=>wpAny_bind (wpAny_letTemporaryGo (wpAny_pure h₃))) fun _ _ x=>x)
 first
  | exact wpAny_pure (wpAny_bind fin)
  | exact wpAny_bind (wpAny_pure (wpAny_bind fin))
  | exact wpAny_bind fin
theorem L7{X:Cx}{pins:List (Addr×Obj)}{σ:St}{H:Hp}{s:Shared}{a:Addr}{y:V}{o:Option V}(I:Inv X pins σ H s)(g:iY H a y o):s.TypeIs (.ref a) "dict":=by
 rcases g with ⟨kvs,k,e,_,_⟩ | ⟨kvs,k,b,e,_,_,_⟩
 ·obtain ⟨_,_,vs,_,dd⟩:=BU I.hok e
  exact dd.typeIs
 ·obtain ⟨_,_,xs,_,dd⟩:=Df I.hok e
  exact dd.typeIs
def WW(td ty:TE):TE:=fun σ H Q=>td σ H fun x H1=>ty σ H1 fun y H2=> ∃a v,x= .ref a/\iY H2 a y (some v)/\Q v H2
def XR(ty td:TE):TE:=fun σ H Q=>ty σ H fun y H1=>td σ H1 fun x H2=> ∃a o,x= .ref a/\iY H2 a y o/\Q (.bl o.isSome) H2
def Uw(ty td:TE):TE:=fun σ H Q=>ty σ H fun y H1=>td σ H1 fun x H2=> ∃a o,x= .ref a/\iY H2 a y o/\Q (.bl (!o.isSome)) H2
def WI(td ty tv:TE):TS:=fun D σ H=>tv σ H fun v H1=>td σ H1 fun x H2=>ty σ H2 fun y H3=> ∃a H4,x= .ref a/\zQ H3 a y v H4/\D.nx σ H4
section
variable {X:Cx} {o i e value:Expr} {pos pos' tpos:Pos} {td ty tv:TE}
theorem ug(hu:X.A.units + 1 < cLine)(ho:PE X o td)(hi:PE X i ty)(hs:WV i):PE X (.Subscript o i pos) (WW td ty):=by
 intro pins s σ H Q I h
 refine TX PySem.F.slot_dict_getitem.lookup hs (gD (ho pins s σ H _ I h) fun u s1 ⟨x,H1,I1,rx,q1⟩=>gD (hi pins s1 σ H1 _ I1 q1) fun iv s2 ⟨y,H2,I2,ry,a,v,ex,g,q2⟩=>?_)
 subst ex
 obtain rfl:u=Value.ref a:=rx
 exact ⟨L7 I2 g,Qi hu I2 g ry fun w' s3 I3 rw'=>⟨v,H2,I3,rw',q2⟩⟩
theorem Jw(hu:X.A.units + 1 < cLine)(hi:PE X i ty)(ho:PE X o td):PC X .In i o (XR ty td):=by
 intro pins s σ H Q I h
 refine gD (hi pins s σ H _ I h) fun iv s1 ⟨y,H1,I1,ry,q1⟩=>gD (ho pins s1 σ H1 _ I1 q1) fun u s2 ⟨x,H2,I2,rx,a,ov,ex,g,q2⟩=>?_
 subst ex
 obtain rfl:u=Value.ref a:=rx
 exact XF hu I2 g ry fun s3 I3=>⟨.bl ov.isSome,H2,I3,rfl,q2⟩
theorem Cj(hu:X.A.units + 1 < cLine)(hi:PE X i ty)(ho:PE X o td):PC X .NotIn i o (Uw ty td):=by
 intro pins s σ H Q I h
 refine gD (hi pins s σ H _ I h) fun iv s1 ⟨y,H1,I1,ry,q1⟩=>gD (ho pins s1 σ H1 _ I1 q1) fun u s2 ⟨x,H2,I2,rx,a,ov,ex,g,q2⟩=>?_
 subst ex
 obtain rfl:u=Value.ref a:=rx
 exact Uc hu I2 g ry fun s3 I3=>⟨.bl (!ov.isSome),H2,I3,rfl,q2⟩
theorem m9(hu:X.A.units + 1 < cLine)(ho:PE X o td)(hi:PE X i ty)(hv:PE X value tv)(hs:swapsWith value (some (.Subscript o i pos')) pos.line X.env=pure false):
  PS X (.Assign [.Subscript o i pos'] value pos) (WI td ty tv):=by
 intro pins s σ H D I h
 refine wpAny_Assign_Subscript (gD (hv pins s σ H _ I h) fun r s1 ⟨v,H1,I1,rv,q1⟩=>gD (ho pins s1 σ H1 _ I1 q1) fun u s2 ⟨x,H2,I2,rx,q2⟩=>gD (hi pins s2 σ H2 _ I2 q2) fun iv s3 ⟨y,H3,I3,ry,a,H4,ex,g,q3⟩=>?_) hs
 subst ex
 obtain rfl:u=Value.ref a:=rx
 exact Q3 hu I3 g ry rv fun s4 I4=>⟨σ,H4,I4,q3⟩
end
theorem RH{P:Program}{w:World}{H:Hp}(h:Heap)(hb:sysModules < h.objs.size):gV P w H (h.push {cls:= .type "dict",data:= .dict #[]}) h.objs.size (.dK []):=
 ⟨YW _,YY.mpr (Ne.symm (Nat.ne_of_lt hb)),[],.nil,Heap.DictOf.new h⟩
def Vn:TE:=fun _ H Q=> ∀p,H p=none->Q (.ref p) (upd H p (.dK []))
section
variable {X:Cx} {pos:Pos}
theorem oE:PE X (.Dict [] [] pos) Vn:=fun pins s σ H Q I h=>
 wpAny_Dict_empty ⟨.ref s.heap.objs.size,_,I.laid (a:=s.heap.objs.size) (o:= .dK []) (t':=s.toks) (fun _ _ q=>Heap.get?_push_of_some _ q) (YM _) (RH s.heap I.big),rfl,h _ (I.hok.fresh (YM _))⟩
end
structure M1(X:Cx)(o:Expr)(m:Str)(apos:Pos)(e:Expr)(cpos:Pos):Prop where
 base:attributeBase o m X.env (eval o X.env)=eval o X.env
 few:((backTo cpos (starEach [e] X.env)).all (fun x=>!x.1) && (backToKw cpos (keywordEach [] X.env)).all (fun x=>x.1.isSome)
  && decide (([e]:List Expr).length + ([]:List Keyword).length + (if ([]:List Keyword).isEmpty then 0 else 1) < 30))=true
 line:(apos.endLine == cpos.line)=true
 trees:backTo cpos (starEach [e] X.env)= [(false,eval e X.env)]
structure M2(X:Cx)(o:Expr)(m:Str)(apos:Pos)(e f:Expr)(cpos:Pos):Prop where
 base:attributeBase o m X.env (eval o X.env)=eval o X.env
 few:((backTo cpos (starEach [e,f] X.env)).all (fun x=>!x.1) && (backToKw cpos (keywordEach [] X.env)).all (fun x=>x.1.isSome)
  && decide (([e,f]:List Expr).length + ([]:List Keyword).length + (if ([]:List Keyword).isEmpty then 0 else 1) < 30))=true
 line:(apos.endLine == cpos.line)=true
 trees:backTo cpos (starEach [e,f] X.env)= [(false,eval e X.env),(false,eval f X.env)]
def XC(H:Hp)(a:Addr):Prop:=(∃kvs,Rd H a (.dK kvs))\/ ∃kvs,Rd H a (.dT kvs)
theorem Tj{X:Cx}{pins:List (Addr×Obj)}{σ:St}{H:Hp}{s:Shared}{a:Addr}(I:Inv X pins σ H s)(d:XC H a):
  s.TypeIs (.ref a) "dict"/\(∀b,Value.ref a= .ref b-> ∃ob,s.heap.get? b=some ob/\ob.dict=none)/\(a == sysModules)=false:=by
 rcases d with ⟨kvs,e⟩ | ⟨kvs,e⟩
 ·obtain ⟨_,hd,vs,_,dd⟩:=BU I.hok e
  refine ⟨dd.typeIs,fun b q=>?_,hd⟩
  cases q
  obtain ⟨ob,_,_,h1,h2,_⟩:=dd
  exact ⟨ob,h1,h2.2.1⟩
 ·obtain ⟨_,hd,xs,_,dd⟩:=Df I.hok e
  refine ⟨dd.typeIs,fun b q=>?_,hd⟩
  cases q
  obtain ⟨ob,_,_,h1,h2,_⟩:=dd
  exact ⟨ob,h1,h2.2.1⟩
section
variable {X:Cx} {pins:List (Addr×Obj)} {σ:St} {H:Hp} {s:Shared} {a:Addr} {y d:V} {u r:Value} {o:Option V} {A:Around} {E:Value->Shared->Prop}
theorem VY{Q:Value->Shared->Prop}(hu:A.units + 1 < cLine)(I:Inv X pins σ H s)(g:iY H a y o)(ry:RelV y u)(h: ∀w' s',Inv X pins σ H s'->RelV (o.getD .dh) w'->Q w' s'):
  wpAny (model X.prog X.w) A (call (.builtin "dict.get") [.ref a,u]) Q E s:=by
 rcases g with ⟨kvs,k,e,ey,l⟩ | ⟨kvs,k,b,e,ey,eb,l⟩
 ·subst ey
  obtain ⟨z,hd,vs,rel,dd⟩:=BU I.hok e
  refine call_meetsIn PySem.F.slot_dict_get dd.typeIs PySem.F.entry_dict_get (PySem.F.args_dict_get_2 _ _) (meets_dict_get (fU X.prog X.w) a (Fy ry) hd) ⟨_,dd.mapOf,h _ _ (I.tok _) ?_⟩
  rw [l]
  exact (rel.val k).getD rfl
 ·subst ey
  cases (show u=Value.ref b from ry)
  obtain ⟨z,hd,xs,rel,dd⟩:=Df I.hok e
  refine call_meetsIn PySem.F.slot_dict_get dd.typeIs PySem.F.entry_dict_get (PySem.F.args_dict_get_2 _ _) (meetsH_dict_get (tupleKind (fU X.prog X.w)) a b hd) ⟨tupleKind_room_in1 hu,k,xs,Aq I.hok eb,dd,h _ _ (I.tok _) ?_⟩
  rw [l]
  exact (rel.val k).getD rfl
theorem V7{Q:Value->Shared->Prop}(hu:A.units + 1 < cLine)(I:Inv X pins σ H s)(g:iY H a y o)(ry:RelV y u)(rd:RelV d r)(h: ∀w' s',Inv X pins σ H s'->RelV (o.getD d) w'->Q w' s'):
  wpAny (model X.prog X.w) A (call (.builtin "dict.get") [.ref a,u,r]) Q E s:=by
 rcases g with ⟨kvs,k,e,ey,l⟩ | ⟨kvs,k,b,e,ey,eb,l⟩
 ·subst ey
  obtain ⟨z,hd,vs,rel,dd⟩:=BU I.hok e
  refine call_meetsIn PySem.F.slot_dict_get dd.typeIs PySem.F.entry_dict_get (PySem.F.args_dict_get_3 _ _ _) (meets_dict_get_default (fU X.prog X.w) a (Fy ry) hd r) ⟨_,dd.mapOf,h _ _ (I.tok _) ?_⟩
  rw [l]
  exact (rel.val k).getD rd
 ·subst ey
  cases (show u=Value.ref b from ry)
  obtain ⟨z,hd,xs,rel,dd⟩:=Df I.hok e
  refine call_meetsIn PySem.F.slot_dict_get dd.typeIs PySem.F.entry_dict_get (PySem.F.args_dict_get_3 _ _ _) (meetsH_dict_get_default (tupleKind (fU X.prog X.w)) a b hd r) ⟨tupleKind_room_in1 hu,k,xs,Aq I.hok eb,dd,h _ _ (I.tok _) ?_⟩
  rw [l]
  exact (rel.val k).getD rd
end
def Wo(td ty:TE):TE:=fun σ H Q=>td σ H fun x H1=> ∃a,x= .ref a/\XC H1 a/\ty σ H1 fun y H2=> ∃o,iY H2 a y o/\Q (o.getD .dh) H2
def Wj(td ty tx:TE):TE:=fun σ H Q=>td σ H fun x H1=> ∃a,x= .ref a/\XC H1 a/\ty σ H1 fun y H2=>tx σ H2 fun z H3=> ∃o,iY H3 a y o/\Q (o.getD z) H3
section
variable {X:Cx} {o e f:Expr} {apos cpos:Pos} {td ty tx:TE}
theorem Sh(hu:X.A.units + 1 < cLine)(ho:PE X o td)(he:PE X e ty)(m:M1 X o "get" apos e cpos):PE X (.Call (.Attribute o "get" apos) [e] [] cpos) (Wo td ty):=by
 intro pins s σ H Q I h
 refine wpAny_Call_method m.base m.few m.line PySem.F.plainAttrs_dict PySem.F.slot_dict_get PySem.F.type_dict_get (gD (ho pins s σ H _ I h) fun u s1 ⟨x,H1,I1,rx,a,ex,d,q1⟩=>?_)
 subst ex
 obtain rfl:u=Value.ref a:=rx
 obtain ⟨t1,t2,_⟩:=Tj I1 d
 refine ⟨t1,t2,?_⟩
 rw [m.trees]
 refine Calls.callWith_builtin rfl (Calls.evalArgs_plain (Calls.spliced_cons (gD (he pins s1 σ H1 _ I1 q1) fun iv s2 ⟨y,H2,I2,ry,ov,g,q2⟩=>Calls.spliced_nil ?_)))
 exact VY hu I2 g ry fun w' s3 I3 rw'=>⟨_,H2,I3,rw',q2⟩
theorem RD(hu:X.A.units + 1 < cLine)(ho:PE X o td)(he:PE X e ty)(hf:PE X f tx)(m:M2 X o "get" apos e f cpos):PE X (.Call (.Attribute o "get" apos) [e,f] [] cpos) (Wj td ty tx):=by
 intro pins s σ H Q I h
 refine wpAny_Call_method m.base m.few m.line PySem.F.plainAttrs_dict PySem.F.slot_dict_get PySem.F.type_dict_get (gD (ho pins s σ H _ I h) fun u s1 ⟨x,H1,I1,rx,a,ex,d,q1⟩=>?_)
 subst ex
 obtain rfl:u=Value.ref a:=rx
 obtain ⟨t1,t2,_⟩:=Tj I1 d
 refine ⟨t1,t2,?_⟩
 rw [m.trees]
 refine Calls.callWith_builtin rfl (Calls.evalArgs_plain (Calls.spliced_cons (gD (he pins s1 σ H1 _ I1 q1) fun iv s2 ⟨y,H2,I2,ry,q2⟩=>
  Calls.spliced_cons (gD (hf pins s2 σ H2 _ I2 q2) fun fv s3 ⟨z,H3,I3,rz,ov,g,q3⟩=>Calls.spliced_nil ?_))))
 exact V7 hu I3 g ry rz fun w' s4 I4 rw'=>⟨_,H3,I4,rw',q3⟩
end
end L2
namespace L2
open PySem PySem.Spec PyProof.Rows
section
variable {X:Cx}
theorem SS {tg:Expr} {pins:List (Addr×Obj)} {σ:St} {H:Hp} {s:Shared} {R:It->Hp->Prop} {J:It} {tn:Nat->Heap->Prop} {tk:Nat} (I:Inv X pins σ H s) (o:Obj)
  (T:Turn X.prog X.w X.K tg J [s.heap.objs.size] s.heap.objs.size tn) (st:tn 0 (s.heap.push o)) (q:R J H):Yk X pins σ tg R (.ref s.heap.objs.size) {s with heap:=s.heap.push o,toks:=tk}:=by
 refine ⟨s.heap.objs.size,[s.heap.objs.size],tn,J,H,rfl,I.kept fun b ob e=>Heap.get?_push_of_some _ e,T,st,fun b hb=>?_,q⟩
 have e:b=s.heap.objs.size:=by simpa using hb
 subst e
 exact I.RJ (YM _) (I.hok.fresh (YM _))
end
def WQ(x:Str):It:=⟨fun i _=>i < x.cps.size,fun i H v H'=>H'=H/\ ∃c,x.cps[i]?=some c/\v= .str ⟨#[c]⟩,fun i _=>x.cps.size<=i⟩
theorem MH{P:Program}{w:World}{K:W.Frag}{tg:Expr}(it:Addr)(x:Str)(t:Tok)(ty:String)(hty:ty="str_ascii_iterator"\/ty="str_iterator"):
  Turn P w K tg (WQ x) [it] it (fun i h=>h.IsStrIter it ty x t i) where
 mem:=by simp
 obj:=fun i h st b hb=>by
  have e:b=it:=by simpa using hb
  subst e
  obtain ⟨o,e,c,d⟩:=st
  exact ⟨o,e,fun v z=>by rw [d] at z;cases z⟩
 keep:=fun i h h' st k=>let ⟨o,ho,r⟩:=st;⟨o,k it (by simp) o ho,r⟩
 item:=by
  intro X hP hw hK hc i pins s σ H E I hf st hg
  subst hP hw hK
  obtain ⟨f0,f1,f2,f3,f4,f5⟩:=hf it (by simp)
  have W:Walks X.prog X.w X.A it [it] [it] x.cps.size (SignAt x) (fun i h=>h.IsStrIter it ty x t i):=by
   rcases hty with e | e
   ·rw [e];exact Walks.strAscii (I.ok.hd hc) it x t
   ·rw [e];exact Walks.strWide (I.ok.hd hc) it x t
  have hno: ["enumerate","zip","dict_itemiterator","dict_reverseitemiterator","odict_iterator","itertools.zip_longest","itertools.pairwise"].contains ty=false:=by
   rcases hty with e | e
   ·rw [e];decide
   ·rw [e];decide
  refine W.item i s _ _ hg st fun v h' tk hv st' kk=>?_
  obtain ⟨c,u,hcx,rfl⟩:=hv
  have I1:Inv X pins σ H {s with heap:=h',toks:=tk}:=I.turned (fun b o hb e=>kk b o (by simpa using hb) e) f0 f1 f3 f4 f5
  obtain ⟨oi,e,cc,dd⟩:=id st'
  exact ⟨_,rfl,OD (s:={s with heap:=h',toks:=tk}) e cc dd hno ⟨.str ⟨#[c]⟩,H,I1,⟨u,rfl⟩,⟨rfl,c,hcx,rfl⟩,st',fun b hb=>(hf b hb).1⟩⟩
 done:=by
  intro X hP hw hK hc i pins s σ H E I hf st hg
  subst hP hw hK
  obtain ⟨f0,f1,f2,f3,f4,f5⟩:=hf it (by simp)
  have hx:x.cps[i]?=none:=Array.getElem?_eq_none hg
  rcases hty with e | e
  ·rw [e] at st
   exact wpAny_pyNext_ascii_end (I.ok.hd hc) st hx fun h' eb=>⟨rfl,I.turned (t':=s.toks) (fun b o hb e=>eb b o hb e) f0 f1 f3 f4 f5⟩
  ·rw [e] at st
   exact wpAny_pyNext_wide_end (I.ok.hd hc) st hx fun h' eb=>⟨rfl,I.turned (t':=s.toks) (fun b o hb e=>eb b o hb e) f0 f1 f3 f4 f5⟩
 self:=fun A i s Q E st h=>by
  rcases hty with e | e
  ·rw [e] at st;exact wpAny_pyIter_striter_ascii st h
  ·rw [e] at st;exact wpAny_pyIter_striter_wide st h
def Xm(te:TE):TI:=fun σ H R=>te σ H fun v H1=> ∃x,v= .str x/\R (WQ x) H1
theorem RB{X:Cx}{tg e:Expr}{te:TE}(he:PE X e te):PI X tg e (Xm te):=by
 intro pins s σ H R I h
 refine gD (he pins s σ H _ I h) fun v s1 ⟨y,H1,I1,r1,x,ex,q⟩=>?_
 subst ex
 obtain ⟨t,rfl⟩:=r1
 cases ha:x.cps.all (· < 128)
 ·exact wpAny_pyIter_wide ha (SS (tk:=s1.toks) I1 _ (MH _ x t "str_iterator" (.inr rfl)) ⟨_,Heap.get?_push_size _ rfl,rfl,rfl⟩ q)
 ·exact wpAny_pyIter_ascii ha (SS (tk:=s1.toks) I1 _ (MH _ x t "str_ascii_iterator" (.inl rfl)) ⟨_,Heap.get?_push_size _ rfl,rfl,rfl⟩ q)
end L2
section
namespace TL
open PySem PySem.Builtin PySem.Builtin.Str PySem.StrLaws
abbrev tl(x:Str):List Nat:=x.cps.toList
theorem m_(x:Str):x.length=(tl x).length:=by simp [tl,Str.length]
theorem FQ{x y:Str}(h:tl x=tl y):x=y:=Str.ext' (Array.toList_inj.mp h)
theorem pL(x y:Str):tl (x++y)=tl x++tl y:=by
 show (x++y).cps.toList=_
 rw [Str.cps_append,Array.toList_append]
theorem O9(l:List Nat):tl ⟨l.toArray⟩=l:=rfl
theorem Gf: ∀ {l m:List Str},l.map tl=m.map tl->l=m
 | [],[],_=>rfl
 | [],_::_,h=>by simp at h
 | _::_,[],h=>by simp at h
 | x::l,y::m,h=>by
  rw [YS,YS] at h
  injection h with h1 h2
  rw [FQ h1,Gf h2]
theorem PY(x:Str)(i j:Nat):tl (strSub x i j)=((tl x).drop i).take (j - i):=strSub_toList x i j
def GP(S:List Nat):List (List Nat)->List Nat
 | []=> []
 | [p]=>p
 | p::q::r=>p++(S++GP S (q::r))
theorem JY(y:Str): ∀parts:List Str,tl (Str.join y parts)=GP (tl y) (parts.map tl)
 | []=>rfl
 | [_]=>rfl
 | x::z::r=>by
  show tl (x++y++Str.join y (z::r))=tl x++(tl y++GP (tl y) ((z::r).map tl))
  rw [pL,pL,JY y (z::r),Y3]
theorem join_eq(y:Str)(parts:List Str):Txt.join y parts=Str.join y parts:=glued_eq_join y parts
def pA(n:Nat):List Nat:=(Nat.toDigits 10 n).map Char.toNat
theorem M6(n:Nat):tl (Str.ofString (toString ((n:Nat):Int)))=pA n:=PySem.W.KIN.signs_num n
theorem zS: ∀d:Nat,d < 10->(Nat.digitChar d).toNat=48 + d:=by decide
theorem Bl{n:Nat}(h:n < 10):pA n= [48 + n]:=by
 unfold pA
 rw [Nat.toDigits_of_lt_base h]
 show [(Nat.digitChar n).toNat]=_
 rw [zS n h]
theorem Cw{n:Nat}(h:10<=n):pA n=pA (n / 10)++ [48 + n % 10]:=by
 have hm:n % 10 < 10:=Nat.mod_lt n (by decide)
 have t:Nat.toDigits 10 (n / 10)++Nat.toDigits 10 (n % 10)=Nat.toDigits 10 (10 * (n / 10) + n % 10):=Nat.toDigits_append_toDigits (by decide) (by lia) hm
 rw [Nat.div_add_mod] at t
 show (Nat.toDigits 10 n).map Char.toNat=_
 rw [<-t,YT,Nat.toDigits_of_lt_base hm]
 show (Nat.toDigits 10 (n / 10)).map Char.toNat++ [(Nat.digitChar (n % 10)).toNat]=_
 rw [zS _ hm] <;> rfl
theorem Dv(n:Nat):NumText.AllDigits (pA n):=by
 induction n using Nat.strongRecOn with
 | _ n ih=>
  by_cases h:n < 10
  ·rw [Bl h]
   intro c hc
   rw [YO.mp hc]
   lia
  ·rw [Cw (by lia)]
   intro c hc
   rcases Zb.mp hc with hc | hc
   ·exact ih (n / 10) (by lia) c hc
   ·have hm:n % 10 < 10:=Nat.mod_lt n (by decide)
    rw [YO.mp hc]
    lia
theorem UJ(n:Nat):pA n≠ []:=by
 by_cases h:n < 10
 ·rw [Bl h]
  simp
 ·rw [Cw (by lia)]
  simp
theorem LN{n k:Nat}(hk:0 < k)(h:n < 10 ^ k):(pA n).length<=k:=by
 have z:=PyProof.Rows.toString_length_le (v:=(n:Int)) (by lia) hk (by
  have e:((10:Int) ^ k)=((10 ^ k:Nat):Int):=by
   first
    | exact (Int.natCast_pow 10 k).symm
    | simp
  rw [e]
  first | exact Int.ofNat_lt.mpr h | lia)
 rw [m_,M6] at z
 exact z
end TL
end
namespace L2
open PySem PySem.Spec PyProof.Rows
theorem wM: ∀ {ys:List Str} {us:List Value},Vals (ys.map V.str) us->StrsAre us ys
 | [],_,.nil=> .nil
 | y::ys,_,.cons r t=>by
  obtain ⟨k,rfl⟩:=r
  exact .cons y k (wM t)
section
variable {X:Cx}
theorem OO:OS X "str.join" (fun x xs H Q=> ∃a p,∃ys:List Str,x= .str a/\xs= [.ref p]/\(b_ X.K H p (ys.map V.str)\/jn X.K H p (ys.map V.str))/\
  (ys.map (·.length)).sum + ys.length * a.length<=16777216/\Q (.str (Txt.join a ys)) H):=by
 intro pins s σ H x xs v us Q I rx rs h
 obtain ⟨a,p,ys,rfl,rfl,hp,hz,h⟩:=h
 obtain ⟨t,rfl⟩:=rx
 cases rs with
 | cons r1 rs=>
  cases rs
  cases r1
  rcases hp with hp | hp
  ·obtain ⟨its,r,⟨o,n,ho,hc,_,hd⟩,_⟩:=I.list hp
   exact PyProof.Rows.join_list (items:=its.toArray) ⟨o,ho,hc,n,hd⟩ (by rw [List.toList_toArray];exact wM r) hz fun t' k=>⟨.str _,H,I.tok k,⟨t',rfl⟩,h⟩
  ·obtain ⟨its,r,ht,_⟩:=I.tuple hp
   exact PyProof.Rows.join_tuple (items:=its.toArray) ht (by rw [List.toList_toArray];exact wM r) hz fun t' k=>⟨.str _,H,I.tok k,⟨t',rfl⟩,h⟩
theorem Xr {id:String} {C:Str->Prop} {g:Str->V} (rule: ∀(a:Str) (t:Tok) (s:Shared) (Q:Value->Shared->Prop),C a->(∀(u:Value) (k:Nat),RelV (g a) u->Q u {s with toks:=k})->
  wpAny (model X.prog X.w) X.A (call (.builtin id) [.str a t]) Q X.xe s):OS X id (fun x xs H Q=> ∃a,x= .str a/\xs= []/\C a/\Q (g a) H):=by
 intro pins s σ H x xs v us Q I rx rs h
 obtain ⟨a,rfl,rfl,hc,h⟩:=h
 obtain ⟨t,rfl⟩:=rx
 cases rs
 exact rule a t s _ hc fun u k r=>⟨g a,H,I.tok k,r,h⟩
theorem PZ:OS X "str.rstrip" (fun x xs H Q=> ∃a,x= .str a/\xs= []/\a.length<=sizeLine/\Q (.str (Txt.rstrip a)) H):=
 Xr (C:=fun a=>a.length<=sizeLine) (g:=fun a=> .str (Txt.rstrip a)) fun _ _ _ _ hc h=>PySem.SC.rstrip (fun t' k=>h _ k ⟨t',rfl⟩) hc
theorem Fw:OS X "str.isdigit" (fun x xs H Q=> ∃a,x= .str a/\xs= []/\True/\Q (.bl (Txt.isdigit a)) H):=
 Xr (C:=fun _=>True) (g:=fun a=> .bl (Txt.isdigit a)) fun _ _ s _ _ h=>PySem.SC.isdigit (h _ s.toks rfl)
theorem NO:OS X "str.isalpha" (fun x xs H Q=> ∃a,x= .str a/\xs= []/\True/\Q (.bl (Txt.isalpha a)) H):=
 Xr (C:=fun _=>True) (g:=fun a=> .bl (Txt.isalpha a)) fun _ _ s _ _ h=>PySem.SC.isalpha (h _ s.toks rfl)
theorem NN:OS X "str.isalnum" (fun x xs H Q=> ∃a,x= .str a/\xs= []/\True/\Q (.bl (Txt.isalnum a)) H):=
 Xr (C:=fun _=>True) (g:=fun a=> .bl (Txt.isalnum a)) fun _ _ s _ _ h=>PySem.SC.isalnum (h _ s.toks rfl)
theorem wz:u_ X (.type "int") (fun xs H Q=> ∃a n,xs= [.str a]/\PySem.intText? a=some n/\a.length<=640/\Q (.int n) H):=by
 intro pins s σ H xs us Q I rs h
 obtain ⟨a,n,rfl,hn,hl,h⟩:=h
 cases rs with
 | cons r1 rs=>
  cases rs
  obtain ⟨t,rfl⟩:=r1
  exact PySem.W.KIN.call_text hn hl ⟨.int n,H,I.tok _,⟨_,rfl⟩,h⟩
end
end L2
namespace L2
open PySem PySem.Spec PyProof.Rows
theorem IsPart.raw{v:Value}{o:Option Int}(p:IsPart v o): ∃l:Option (Int×Tok),v=partValue l/\l.map (·.1)=o:=by
 cases p with
 | none=>exact ⟨none,rfl,rfl⟩
 | int i t=>exact ⟨some (i,t),rfl,rfl⟩
def MM(n d:Nat):Option Int->Int
 | none=>(d:Int)
 | some i=>max 0 (min (if i < 0 then i + (n:Int) else i) (n:Int))
theorem L3(n d:Nat)(o:Option Int):MM n d o=((HT.rj n d o:Nat):Int):=by
 cases o with
 | none=>rfl
 | some v=>
  show max (0:Int) (min (if v < 0 then v + (n:Int) else v) (n:Int))=(((if v < 0 then (v + (n:Int)).toNat else min v.toNat n):Nat):Int)
  by_cases hv:v < 0
  ·simp only [if_pos hv]
   lia
  ·simp only [if_neg hv]
   lia
theorem Qn(a b:Option Int)(n:Nat):Builtin.Str.strSliceIndices a b 1 n=sliceRange (MM n 0 a) (MM n n b) 1:=by
 have h1:((1:Int) > 0)=True:=by simp
 cases a <;> cases b <;> first
  | rfl
  | (simp only [Builtin.Str.strSliceIndices,MM,h1,if_true];rfl)
  | simp [Builtin.Str.strSliceIndices,MM]
theorem XY(a b:Option Int)(n:Nat):Builtin.Str.strSliceIndices a b 1 n=(List.range (HT.rj n n b - HT.rj n 0 a)).map (fun k=>HT.rj n 0 a + k):=by
 rw [Qn,L3,L3]
 generalize HT.rj n 0 a=p
 generalize HT.rj n n b=q
 simp only [sliceRange,show ((1:Int) > 0)=True from by simp,if_true]
 by_cases hlt:(p:Int) < q
 ·have e3:(((q:Int) - p + 1 - 1) / 1).toNat=q - p:=by first | lia | (simp;done) | (simp;lia)
  simp only [hlt,if_true,e3]
  refine List.map_congr_left fun k _=>?_
  lia
 ·have:q - p=0:=by lia
  simp [hlt,this]
def Bw(z:Str)(lo hi:Option Int):Str:=
 ⟨((z.cps.toList.drop (HT.rj z.length 0 lo)).take (HT.rj z.length z.length hi - HT.rj z.length 0 lo)).toArray⟩
theorem zW(z:Str)(lo hi:Option Int):PySem.StrLaws.sliceText z lo hi=Bw z lo hi:=by
 have h1:HT.rj z.length 0 lo<=z.length:=HT.Rk _ _ (YW _) _
 have h2:HT.rj z.length z.length hi<=z.length:=HT.Rk _ _ (YM _) _
 have hp:HT.rj z.length 0 lo<=max (HT.rj z.length 0 lo) (HT.rj z.length z.length hi):=Nat.le_max_left _ _
 have hq:max (HT.rj z.length 0 lo) (HT.rj z.length z.length hi)<=z.length:=Nat.max_le.mpr ⟨h1,h2⟩
 have hd:max (HT.rj z.length 0 lo) (HT.rj z.length z.length hi) - HT.rj z.length 0 lo=HT.rj z.length z.length hi - HT.rj z.length 0 lo:=by lia
 have e:Builtin.Str.strSliceIndices lo hi 1 z.length=
   Builtin.Str.strSliceIndices (some ((HT.rj z.length 0 lo:Nat):Int)) (some ((max (HT.rj z.length 0 lo) (HT.rj z.length z.length hi):Nat):Int)) 1 z.length:=by
  rw [PySem.StrLaws.strSliceIndices_plain hp hq,hd,XY]
 have e2:PySem.StrLaws.sliceText z lo hi=
   PySem.StrLaws.sliceText z (some ((HT.rj z.length 0 lo:Nat):Int)) (some ((max (HT.rj z.length 0 lo) (HT.rj z.length z.length hi):Nat):Int)):=by
  unfold PySem.StrLaws.sliceText
  rw [e]
 rw [e2,PySem.StrLaws.sliceText_nat z hp hq,hd]
 rfl
theorem MR(z:Str)(lo hi:Option Int):(Bw z lo hi).length<=z.length:=by
 show (((z.cps.toList.drop (HT.rj z.length 0 lo)).take (HT.rj z.length z.length hi - HT.rj z.length 0 lo)).toArray).size<=z.cps.size
 rw [Y5,Zd,List.length_drop,Array.length_toList]
 lia
def WJ:V->Option Int->Option Int->Hp->VK->Prop:=fun x lo hi H Q=> ∃z,x= .str z/\z.length<=sizeLine/\Q (.str (Bw z lo hi)) H
theorem Cm{X:Cx}:Xy X WJ:=by
 intro pins s σ H x v vl vu lo hi sl Q I rx hs pl pu h
 obtain ⟨z,rfl,hz,q⟩:=h
 obtain ⟨t,rfl⟩:=rx
 obtain ⟨os,hos,hcs,hds⟩:=hs
 obtain ⟨l,rfl,rfl⟩:=IsPart.raw pl
 obtain ⟨u,rfl,rfl⟩:=IsPart.raw pu
 refine ⟨"str",_,F.slot_str_getitem.lookup,typeIs_str _ _ _,?_⟩
 refine wpAny_getItem_str_slice (l:=l) (u:=u) (st:=none) ⟨os,hos,hcs,hds⟩ rfl ?_
 have hl:(PySem.StrLaws.sliceText z (l.map (·.1)) (u.map (·.1))).length<=sizeLine:=by
  rw [zW]
  exact Y4 (MR z _ _) hz
 rw [<-zW] at q
 unfold PySem.StrLaws.sliceText at q hl
 show Made.post (if ((1:Int) == 1 && (Builtin.Str.strSliceIndices (l.map (·.1)) (u.map (·.1)) 1 z.length).length == z.length)=true then Made.val (.str z t)
  else Made.str ⟨((Builtin.Str.strSliceIndices (l.map (·.1)) (u.map (·.1)) 1 z.length).filterMap (z.cps[·]?)).toArray⟩) (EP X pins σ Q) s
 by_cases c:((1:Int) == 1 && (Builtin.Str.strSliceIndices (l.map (·.1)) (u.map (·.1)) 1 z.length).length == z.length)=true
 ·rw [if_pos c] at q ⊢
  exact ⟨.str z,H,I,⟨t,rfl⟩,q⟩
 ·rw [if_neg c] at q hl ⊢
  exact ⟨hl,.str _,H,I.tok _,⟨_,rfl⟩,q⟩
end L2
namespace L2
open PySem PySem.Spec PyProof.Rows
def inClass(s:Stmt)(j:Nat):Stmt:=match s with
 | .ClassDef _ _ _ body _ _ _ _ _ _ _=>body.getD j (.Pass ⟨0,0,0,0⟩)
 | _=> .Pass ⟨0,0,0,0⟩
def qc(s:Stmt):Arguments:=match s with
 | .FunctionDef _ a _ _ _ _ _ _ _ _=>a
 | _=>{posonlyargs:= [],args:= [],vararg:=none,kwonlyargs:= [],kw_defaults:= [],kwarg:=none,defaults:= []}
def kC(s:Stmt):List Stmt:=match s with
 | .FunctionDef _ _ b _ _ _ _ _ _ _=>b
 | _=> []
def aq(s:Stmt):Scope:=match s with
 | .FunctionDef _ _ _ _ _ _ sc _ _ _=>sc
 | _=>{kind:= .function,names:= [],isGenerator:=false,isCoroutine:=false}
abbrev lA:QI:=fun _ _ _ _ _ _=>False
abbrev E0:XK:=fun _ _ _=>False
theorem aL{X:Cx}:Passes lA X E0:=fun _ _ _ _ _ _ _ h=>h.elim
structure bI(K:W.Frag)(x qual:Str)(st:Stmt)(f:Addr)(fd:FuncData):Prop where
 ex: ∃(oc:Value) (od:Option Addr) (kV doc pm:Value) (an:Option Addr) (cdv ct:Value) (osl:Array (Option Value)),
  fd=PySem.W.fnOf x qual (qc st) (kC st) (aq st) .none kV doc pm an cdv ct/\K.lookup f=some ⟨oc,od,.func fd,osl⟩/\PySem.W.codeIn K cdv qual=true
 kp:PySem.W.keepIn K (.ref f)=true
section
variable {P:Program} {w:World} {K:W.Frag} {mg:Str->Option Value} {base:Heap}
theorem bI.ok {x qual:Str} {st:Stmt} {f:Addr} {fd:FuncData} {N ps:List Str} {k:Nat} {sp:Sp} (F:bI K x qual st f fd) (S:ay N ps (aq st)) (len: ∀vs H Q E,sp vs H Q E->vs.length=ps.length)
  (hbody: ∀(cdv:Value) (A:Around) (outer:List Env) (s:Shared) (H:Hp) (vs:List V) (Q:VK) (E:XK),mj k (A.deeper (envOfC qual (aq st) s.heap.objs.size f cdv))->sp vs H Q E->
   ∃t,Mv (DJ lA P w K mg base N qual (aq st) f cdv A outer s H E).WS (kC st) t/\t {nx:=fun _ H'=>Q .dh H',rt:=Q} (start N vs) H):bw P w K mg base lA (k + 1) f fd ps sp:=by
 obtain ⟨oc,od,kV,doc,pm,an,cdv,ct,osl,rfl,lk,hcd⟩:=F.ex
 refine Vb lk hcd S len fun A outer s H vs Q E hr hsp=>?_
 obtain ⟨t,h,q⟩:=hbody cdv A outer s H vs Q E hr hsp
 exact ⟨t,h.WS,q⟩
theorem bI.binds {x qual:Str} {st:Stmt} {f:Addr} {fd:FuncData} {ps:List Str} (F:bI K x qual st f fd)
  (h: ∀(kV doc pm:Value) (an:Option Addr) (cdv ct:Value) (us:List Value),us.length=ps.length->bindArgs (PySem.W.fnOf x qual (qc st) (kC st) (aq st) .none kV doc pm an cdv ct) ⟨us,[]⟩=pure (ps.zip us)):Binds K fd ps []:=by
 obtain ⟨oc,od,kV,doc,pm,an,cdv,ct,osl,rfl,lk,hcd⟩:=F.ex
 exact .all (h kV doc pm an cdv ct)
theorem Vx {x qual:Str} {st:Stmt} {f:Addr} {oc:Value} {od an:Option Addr} {osl:Array (Option Value)} {kV doc pm cdv ct:Value} (l:K.lookup f=some ⟨oc,od,.func (PySem.W.fnOf x qual (qc st) (kC st) (aq st) .none kV doc pm an cdv ct),osl⟩)
  (c:PySem.W.codeIn K cdv qual=true) (k:PySem.W.keepIn K (.ref f)=true):bI K x qual st f (PySem.W.fnOf x qual (qc st) (kC st) (aq st) .none kV doc pm an cdv ct):=⟨⟨oc,od,kV,doc,pm,an,cdv,ct,osl,rfl,l,c⟩,k⟩
end
theorem tW{A:Around}{k:Nat}(hr:mj k A):A.units + 1 < cLine:=Zl (Nat.add_le_add_left (by decide:1<=64) _) hr.units
section
variable {X:Cx}
theorem pv (i:Nat) {x:Str} {pos:Pos} (hN:X.N[i]?=some x:=by rfl) (hv:Wz X.env.scope x:=by first | exact Or.inl rfl | exact Or.inr (Or.inl rfl) | exact Or.inr (Or.inr rfl)) (hd:(x == ("__debug__":Str))=false:=by decide)
  (hcd:(x == ("__classdict__":Str))=false:=by decide):PE X (.Name x pos) (cK i):=Vu hN hv hd hcd
theorem Ip:u_ X (.builtin "len") (fun xs H Q=> ∃a kvs,xs= [V.ref a]/\H a=some (.dK kvs)/\Q (.int kvs.length) H):=by
 intro pins s σ H xs us Q I r h
 obtain ⟨a,kvs,rfl,ha,q⟩:=h
 obtain ⟨u,rfl,ru⟩:=vals1 r
 cases ru
 exact Xo I (.inl ha) fun t s' I'=>⟨.int kvs.length,H,I',⟨t,rfl⟩,q⟩
end
theorem cM{A B:Prop}(h:B):if false=true then A else B:=by
 rw [if_neg YZ]
 exact h
theorem cC{A B:Prop}(h:A):if true=true then A else B:=by
 rw [if_pos rfl]
 exact h
def aN(H H':Hp):Prop:= ∀b o,H b=some o->H' b=some o
theorem aN.trans{H H1 H2:Hp}(a:aN H H1)(b:aN H1 H2):aN H H2:=fun c o h=>b c o (a c o h)
theorem aN.free{H H':Hp}(e:aN H H'){l:Addr}(h:H' l=Option.none):H l=Option.none:=by
 cases q:H l with
 | none=>rfl
 | some o=>
  rw [e l o q] at h
  cases h
theorem aN.seq{K:W.Frag}{H H':Hp}{a:Addr}{xs:List V}(e:aN H H')(h:b_ K H a xs):b_ K H' a xs:=by
 rcases h with (h | ⟨o,h⟩) | h
 ·exact .inl (.inl (e _ _ h))
 ·exact .inl (.inr ⟨o,e _ _ h⟩)
 ·exact .inr h
section
variable {κ:Type} [DecidableEq κ]
theorem T4{kvs:List (κ×V)}{k:κ}{v:V}(h:dg kvs k=some v):k ∈ kvs.map (·.1):=by
 have q:(kvs.any fun kv=>decide (kv.1=k))=true:=by
  rw [vH,h]
  all_goals rfl
 obtain ⟨p,hp,e⟩:=List.any_eq_true.mp q
 exact Zf.mpr ⟨p,hp,Zc e⟩
end
theorem at_of{xs:List V}{z:Int}{j:Nat}{v:V}(e:z=(j:Int))(h:xs[j]?=some v):VZ xs z=some v:=by
 rw [e]
 exact UU h
end L2
namespace XL
open PySem
abbrev fr(l:List Env):List Addr:=l.filterMap (·.frame)
structure Kp(fs no:List Addr)(h h':Heap):Prop where
 all: ∀b o,b ∉ fs->b ∉ no->h.get? b=some o->h'.get? b=some o
 Wu: ∀b o,b ∈ fs->b ∉ no->h.get? b=some o-> ∃sl,h'.get? b=some {o with slots:=sl}
theorem Kp.trans{fs no:List Addr}{h h1 h2:Heap}(x:Kp fs no h h1)(y:Kp fs no h1 h2):Kp fs no h h2:=
 ⟨fun b o hb hn e=>y.all b o hb hn (x.all b o hb hn e),fun b o hb hn e=>let ⟨_,e1⟩:=x.Wu b o hb hn e;let ⟨sl,e2⟩:=y.Wu b _ hb hn e1;⟨sl,e2⟩⟩
section
variable {M:Model} {A:Around} {E:Value->Shared->Prop} {s:Shared}
theorem entry {base:Heap} {env:Env} {outer:List Env} {L e:Addr} {oe:Obj} {vs:Array Value} {head:Value} {had:Bool} {Q:Unit->Shared->Prop}
  (hfr:A.frames=some (env::outer)) (hl:s.heap.FunFrames base (env::outer)) (hf:env.frame=some L) (he:s.heap.get? e=some oe) (hd:oe.data= .fields vs) (hz:1 < vs.size)
  (h: ∀h' T oT ts,h'.get? e=some {oe with data:= .fields (vs.setIfInBounds 1 (.ref T))}->s.heap.get? T=none->T≠e->h'.get? T=some oT->oT.data= .fields ts->ts[3]?=some (rawInt L)->
   Kp (fr (env::outer)) [e] s.heap h'->Q () {s with heap:=h'}):
  wpAny M A (do let a <-frameOf env;let pl <-entryPlaceOf L had;let b <-EntryCells.newEntry head a .none (rawInt L) .none pl;setField (.ref e) 1 b) Q E s:=by
 have nf:e ∉ fr (env::outer):=fun hm=>by
  obtain ⟨_,o,ho,q⟩:=hl.mem hm
  rw [he] at ho
  cases ho
  exact q vs hd
 refine wpAny_bind (wpAny_frameOf_fun hfr hl hf fun h1 so=>?_)
 refine wpAny_bind (wpAny_entryPlaceOf fun pl hpl=>?_)
 unfold EntryCells.newEntry newFields
 refine wpAny_bind (wpAny_newObj_type ?_ (hpl.sizeOk5 _ _ _ _ _))
 have e1:h1.get? e=some oe:=(so.2.1 e nf).trans he
 have ne:h1.objs.size≠e:=Nat.ne_of_gt (Heap.lt_size e1)
 obtain ⟨ot,ts,ho,hts,h3⟩: ∃(ot:Obj) (ts:Array Value),ot= {cls:=Value.type "traceback",data:= .fields ([head,.ref L,.none,rawInt L,.none]++(if pl.isEmpty then List.replicate 6 Value.none else pl)).toArray}/\ot.data= .fields ts/\ts[3]?=some (rawInt L):=
  ⟨_,_,rfl,rfl,by simp⟩
 rw [<-ho]
 dsimp only
 have nfr:ot.isFreed=false:=Obj.isFreed_of_fields hts
 have e2:(h1.push ot).get? e=some oe:=Heap.get?_push_of_some _ e1
 refine wpAny_setField e2 hd hz ?_
 have d3:=Obj.data_mapFields hd (·.setIfInBounds 1 (Value.ref h1.objs.size))
 have e3:=Heap.get?_update_self (Obj.mapFields (·.setIfInBounds 1 (Value.ref h1.objs.size))) e2 (Obj.isFreed_of_fields d3)
 have t3:=(Heap.get?_update_other (h1.push ot) (Obj.mapFields (·.setIfInBounds 1 (Value.ref h1.objs.size))) (Ne.symm ne)).trans (Heap.get?_push_size h1 nfr)
 refine h _ h1.objs.size ot ts ?_ ?_ ne t3 hts h3 ⟨fun b o hb hn eb=>?_,fun b o hb hn eb=>?_⟩
 ·rw [e3]
  obtain ⟨c,d,dt,sl⟩:=oe
  cases hd
  rfl
 ·refine Heap.get?_none_of_le ?_
  rw [so.1]
  exact YM _
 ·have hne:e≠b:=fun q=>hn (by rw [q];exact YO.mpr rfl)
  rw [Heap.get?_update_other _ _ hne]
  exact Heap.get?_push_of_some _ ((so.2.1 b hb).trans eb)
 ·obtain ⟨sl,q⟩:=so.2.2 b o eb
  have hne:e≠b:=fun q=>hn (by rw [q];exact YO.mpr rfl)
  exact ⟨sl,by rw [Heap.get?_update_other _ _ hne];exact Heap.get?_push_of_some _ q⟩
structure Ex(h:Heap)(a:Addr)(c:Value)(od:Option Addr)(T:Addr)(fl:Value):Prop where
 obj: ∃vs,h.get? a=some {cls:=c,dict:=od,data:= .fields vs}/\vs[1]?=some (.ref T)
 ne:T≠a
 tb: ∃oT ts,h.get? T=some oT/\oT.data= .fields ts/\ts[3]?=some fl
def XI(h:Heap)(a:Addr)(c:Value)(od:Option Addr):Prop:= ∃vs,h.get? a=some {cls:=c,dict:=od,data:= .fields vs}/\vs[1]?=some .none
variable {base:Heap} {env:Env} {outer:List Env} {L a T:Addr} {c:Value} {od:Option Addr} {Q:Unit->Shared->Prop}
theorem W3 (hfr:A.frames=some (env::outer)) (hl:s.heap.FunFrames base (env::outer)) (hf:env.frame=some L) (x:XI s.heap a c od)
  (h: ∀h' T,Ex h' a c od T (rawInt L)->s.heap.get? T=none->Kp (fr (env::outer)) [a] s.heap h'->Q () {s with heap:=h'}):wpAny M A (noteFrame (.ref a) env) Q E s:=by
 obtain ⟨vs,ho,h1⟩:=x
 have hz:1 < vs.size:=(Array.getElem?_eq_some_iff.mp h1).1
 unfold noteFrame
 simp only [hf]
 refine wpAny_bind (wpAny_field ho rfl h1 ?_)
 rw [if_neg (by decide)]
 refine entry hfr hl hf ho rfl hz fun h' T oT ts g1 g2 g3 g4 g5 g6 kp=>h h' T ⟨⟨_,g1,by simp [hz]⟩,g3,oT,ts,g4,g5,g6⟩ g2 kp
theorem U_ (hfr:A.frames=some (env::outer)) (hl:s.heap.FunFrames base (env::outer)) (hf:env.frame=some L) (x:Ex s.heap a c od T .none)
  (h: ∀h' T',Ex h' a c od T' (rawInt L)->s.heap.get? T'=none->Kp (fr (env::outer)) [a,T] s.heap h'->Q () {s with heap:=h'}):wpAny M A (noteFrame (.ref a) env) Q E s:=by
 obtain ⟨⟨vs,ho,h1⟩,ne,oT,ts,t1,t2,t3⟩:=x
 have hz:1 < vs.size:=(Array.getElem?_eq_some_iff.mp h1).1
 unfold noteFrame
 simp only [hf]
 refine wpAny_bind (wpAny_field ho rfl h1 ?_)
 rw [if_pos (show (Value.ref T != Value.none)=true from by simp)]
 refine wpAny_bind (wpAny_field t1 t2 t3 ?_)
 rw [if_neg (show ¬((Value.none == rawInt L)=true) from by simp [rawInt])]
 refine wpAny_bind (wpAny_setField t1 t2 (Array.getElem?_eq_some_iff.mp t3).1 ?_)
 have oth: ∀b,b≠T->(s.heap.update T (Obj.mapFields (·.setIfInBounds 3 Value.none))).get? b=s.heap.get? b:=fun b hb=>Heap.get?_update_other _ _ (Ne.symm hb)
 have nT: ∀b o,s.heap.get? b=some o->(∀vs,o.data≠ .fields vs)->b≠T:=fun b o hb q z=>by
  subst z
  rw [t1] at hb
  cases hb
  exact q ts t2
 refine entry hfr (hl.of_keeps fun b o hb q=>⟨o,(oth b (nT b o hb q)).trans hb,rfl⟩) hf ((oth a (Ne.symm ne)).trans ho) rfl hz
  fun h' T' oT' ts' g1 g2 g3 g4 g5 g6 kp=>h h' T' ⟨⟨_,g1,by simp [hz]⟩,g3,oT',ts',g4,g5,g6⟩ ?_ ⟨fun b o hb hn e=>?_,fun b o hb hn e=>?_⟩
 ·by_cases q:T'=T
  ·subst q
   have w:=Heap.get?_update_self (h:=s.heap) (Obj.mapFields (·.setIfInBounds 3 Value.none)) t1 (Obj.isFreed_of_fields (Obj.data_mapFields t2 _))
   rw [w] at g2
   cases g2
  ·rw [oth T' q] at g2
   exact g2
 ·have hbT:b≠T:=fun z=>hn (by rw [z];simp)
  exact kp.all b o hb (fun z=>hn (by rw [YO.mp z];simp)) ((oth b hbT).trans e)
 ·have hbT:b≠T:=fun z=>hn (by rw [z];simp)
  exact kp.Wu b o hb (fun z=>hn (by rw [YO.mp z];simp)) ((oth b hbT).trans e)
theorem flight {fs:List Addr} {fl:Value} {f:Option Addr} (x:Ex s.heap a c od T fl)
  (h: ∀h',Ex h' a c od T (f.elim Value.none fun f=>rawInt f)->Kp fs [T] s.heap h'->Q () {s with heap:=h'}):wpAny M A (setFlight (.ref a) f) Q E s:=by
 obtain ⟨⟨vs,ho,h1⟩,ne,oT,ts,t1,t2,t3⟩:=x
 have z3:3 < ts.size:=(Array.getElem?_eq_some_iff.mp t3).1
 unfold setFlight
 refine wpAny_bind (wpAny_field ho rfl h1 ?_)
 rw [if_pos (show (Value.ref T != Value.none)=true from by simp)]
 have oth: ∀b,b≠T->(s.heap.update T (Obj.mapFields (·.setIfInBounds 3 (f.elim Value.none fun f=>rawInt f)))).get? b=s.heap.get? b:=fun b hb=>Heap.get?_update_other _ _ (Ne.symm hb)
 refine wpAny_setField t1 t2 z3 (h _ ⟨⟨vs,(oth a (Ne.symm ne)).trans ho,h1⟩,ne,_,_,Heap.get?_update_self _ t1 (Obj.isFreed_of_fields (Obj.data_mapFields t2 _)),Obj.data_mapFields t2 _,by simp [z3]⟩ ⟨fun b o hb hn e=>?_,fun b o hb hn e=>⟨o.slots,?_⟩⟩)
 ·exact (oth b fun z=>hn (by rw [z];simp)).trans e
 ·exact (oth b fun z=>hn (by rw [z];simp)).trans e
theorem FE{fs no:List Addr}{h h1 h2:Heap}{T:Addr}(x:Kp fs no h h1)(n:h.get? T=none)(y:Kp fs [T] h1 h2):Kp fs no h h2:=by
 refine ⟨fun b o hb hn e=>y.all b o hb (fun z=>?_) (x.all b o hb hn e),fun b o hb hn e=>?_⟩
 ·rw [YO.mp z,n] at e
  cases e
 ·obtain ⟨sl,e1⟩:=x.Wu b o hb hn e
  refine let ⟨sl',e2⟩:=y.Wu b _ hb (fun z=>?_) e1;⟨sl',e2⟩
  rw [YO.mp z,n] at e
  cases e
theorem VB (hfr:A.frames=some (env::outer)) (hl:s.heap.FunFrames base (env::outer)) (hf:env.frame=some L) (x:XI s.heap a c od)
  (h: ∀h' T,Ex h' a c od T .none->s.heap.get? T=none->Kp (fr (env::outer)) [a] s.heap h'->Q () {s with heap:=h'}):wpAny M A («leaving» env (.ref a)) Q E s:=by
 unfold «leaving»
 refine wpAny_bind (W3 hfr hl hf x fun h1 T x1 n1 k1=>?_)
 exact flight (s:={s with heap:=h1}) (fs:=fr (env::outer)) x1 fun h2 x2 k2=>h h2 T x2 n1 (FE k1 n1 k2)
theorem VW (hfr:A.frames=some (env::outer)) (hl:s.heap.FunFrames base (env::outer)) (hf:env.frame=some L) (x:Ex s.heap a c od T .none)
  (h: ∀h' T',Ex h' a c od T' .none->s.heap.get? T'=none->Kp (fr (env::outer)) [a,T] s.heap h'->Q () {s with heap:=h'}):wpAny M A («leaving» env (.ref a)) Q E s:=by
 unfold «leaving»
 refine wpAny_bind (U_ hfr hl hf x fun h1 T x1 n1 k1=>?_)
 exact flight (s:={s with heap:=h1}) (fs:=fr (env::outer)) x1 fun h2 x2 k2=>h h2 T x2 n1 (FE k1 n1 k2)
end
end XL
namespace XL
open PySem Builtin Builtin.ObjectAttr
section
variable {prog:Program} {w:World} {A:Around} {E:Value->Shared->Prop} {h:Heap} {g:Array GenState} {d:Drawn} {t:Nat} {os:OsState}
variable {nm q:Str} {C N x:Addr} {bs bm:List Value} {sn:List Str} {sub:List Value} {ab:Bool} {col:Option Bool} {dd:Option Addr} {k0 k1 k2 k3 k5:Option Value} {B newId sa owner:String}
 {mN:Str->Option Value} {name:Str} {v:Value} {c0:Value} {vs:Array Value}
theorem VR {Q:Unit->Shared->Prop} (SF:StoreFacts B bm sa owner) (hC:h.get? C=some (excClassObj nm q C N bs bm true sn sub ab col dd k0 k1 k2 k3 k5 newId))
  (hn:h.Ns N mN) (hns:mN "__setattr__"=none) (hna:mN name=none) (hB:typeLookup (.type B) name=pure none) (hx:h.get? x=some {cls:= .ref C,data:= .fields vs})
  (hq: ∀h' tk',h'.get? x=some {cls:= .ref C,dict:=some h.objs.size,data:= .fields vs}->h'.Ns1 h.objs.size (fun y=>if y=name then some v else none)->
   (∀b ob,b≠x->h.get? b=some ob->h'.get? b=some ob)->Q () ⟨h',g,d,tk',os⟩):
  wpAny (model prog w) A (setAttr (.ref x) name v) Q E ⟨h,g,d,t,os⟩:=by
 obtain ⟨o,ho⟩: ∃o:Obj,o= {cls:= .ref C,data:= .fields vs}:=⟨_,rfl⟩
 rw [<-ho] at hx
 have hc:o.cls= .ref C:=by rw [ho]
 have fb:=SF.slot.bind (.ref x)
 have fp:=SF.passes (.ref x)
 have ne:x≠h.objs.size:=Nat.ne_of_lt (Heap.lt_size hx)
 unfold setAttr callSpecial? specialOf
 repeat (any_goals (first
  | assumption
  | (with_reducible refine wpAny_loadPart_at hx ?_;rw [hc])
  | (with_reducible refine wpAny_typeLookup_exc hC hn SF.mro SF.slot.lookup ?_;rw [hns])
  | wp_step))
 refine codeAny_call_builtin SF.slot.plain SF.entry (wpAny_check_sa SF hC hx hc ?_)
 unfold Builtin.«object.__setattr__»
 repeat (first
  | rw [refuse_eq]
  | rw [refuseLoop_ref,fp]
  | (with_reducible refine wpAny_loadPart_at hx ?_;rw [hc])
  | with_reducible refine wpAny_mroOf_exc hC ?_
  | (with_reducible refine wpAny_typeLookup_exc hC hn SF.mro hB ?_;rw [hna])
  | wp_step)
 have hx1:=Heap.get?_push_of_some (h:=h) {cls:= .type "dict",data:= .dict #[]} hx
 subst ho
 refine wpAny_bind (wpAny_alloc' (wpAny_bind (wpAny_update' hx1 (wpAny_pure ?_))))
 have hg:((h.push {cls:= .type "dict",data:= .dict #[]}).update x fun o=>{o with dict:=some h.objs.size}).get? h.objs.size=some {cls:= .type "dict",data:= .dict #[]}:=
  (Heap.get?_update_ne _ _ _ _ ne.symm).trans (Heap.get?_push_at rfl rfl)
 show wpAny _ _ (storeInDict h.objs.size _ name v) _ _ _
 unfold storeInDict newKeyGuard
 refine wpAny_bind (wpAny_pure (wpAny_bind (wpAny_nsSet1 (Heap.Ns1.of_empty ⟨_,#[],_,hg,rfl,fun e he=>absurd he (by simp),fun _=>rfl⟩) fun h' n' sb=>?_)))
 obtain ⟨oD,esD,epD,hoD,hdD,hcD⟩:=n'.count (Within.cons name v Within.nil)
 refine wpAny_bind (wpAny_lookBehind hoD (by rw [hdD];exact pastItsLine_dict (Y4 hcD (by rw [YU,List.length_nil,sizeLine_eq];lia))) ?_)
 wp_walk
 refine hq h' _ ((sb.2 x ne).trans (Heap.get?_update_self _ hx1 rfl)) n' fun b ob hb e=>?_
 exact (sb.2 b (Nat.ne_of_lt (Heap.lt_size e))).trans ((Heap.get?_update_ne _ _ _ _ hb).trans (Heap.get?_push_of_some _ e))
end
section
variable {prog:Program} {w:World} {A:Around} {E:Value->Shared->Prop} {h:Heap} {g:Array GenState} {d:Drawn} {t:Nat} {os:OsState}
variable {nm q:Str} {C N x dx:Addr} {bs:List Value} {sn:List Str} {sub:List Value} {ab:Bool} {col:Option Bool} {dd:Option Addr} {k0 k1 k2 k3 k5:Option Value} {newId:String}
 {mN mA:Str->Option Value} {f:Str} {v:Value} {o:Obj}
theorem W5 {expr:Bool} {Q:Value->Shared->Prop} (hC:h.get? C=some (excClassObj nm q C N bs [.type "Exception",.type "BaseException",.type "object"] true sn sub ab col dd k0 k1 k2 k3 k5 newId))
  (hn:h.Ns N mN) (hng:mN "__getattribute__"=none) (hnh:mN "__getattr__"=none) (hna:mN f=none) (hB:typeLookup (.type "Exception") f=pure none)
  (hx:h.get? x=some o) (hc:o.cls= .ref C) (hdx:o.dict=some dx) (hnc: ∀c,o.data≠ .cls c) (hns:h.Ns1 dx mA) (hv:mA f=some v) (hh:handedOut v=pure v) (hq:Q v ⟨h,g,d,t + 1,os⟩):
  wpAny (model prog w) A (getAttr (.ref x) f expr) Q E ⟨h,g,d,t,os⟩:=by
 have FB:=PySem.F.attrBase_Exception
 have fb:=FB.ga.bind (.ref x)
 have g0:(expr && onTheHeap (Value.builtin "BaseException.__getattribute__"))=false:=by cases expr <;> rfl
 have g2:(Value.builtin "BaseException.__getattribute__" == Value.builtin "object.__getattribute__")=false:=by decide +kernel
 have g1:(onTheHeap (Value.ref C) && Value.builtin "BaseException.__getattribute__" == Value.builtin "object.__getattribute__")=false:=by rw [g2];rfl
 unfold getAttr getAttrBy
 repeat (any_goals (first
  | assumption
  | (with_reducible refine wpAny_loadPart_at hx ?_;rw [hc])
  | (with_reducible refine wpAny_typeLookup_exc hC hn FB.mro FB.ga.lookup ?_;rw [hng])
  | (with_reducible refine wpAny_typeLookup_exc hC hn FB.mro FB.noGetattr ?_;rw [hnh])
  | wp_step))
 refine codeAny_call_builtin FB.ga.plain PySem.F.entry_bexc_ga (wpAny_check_ga_own FB hC .base hx hc ?_)
 unfold Builtin.«object.__getattribute__»
 repeat (first
  | (with_reducible refine wpAny_loadPart_at hx ?_;rw [hc])
  | (with_reducible refine wpAny_typeLookup_exc hC hn FB.mro hB ?_;rw [hna])
  | wp_step)
 split
 ·rename_i c z
  exact absurd z (hnc c)
 unfold instanceDict
 repeat (first
  | (with_reducible refine wpAny_loadPart_at hx ?_;rw [hc])
  | with_reducible refine wpAny_loadPart_at hC ?_
  | wp_step)
 rw [hdx]
 repeat (first
  | (with_reducible refine wpAny_nsGet hns.ns ?_;rw [hv])
  | rw [hh]
  | wp_step)
 exact hq
end
end XL
namespace XL
open PySem
section
variable {M:Model} {A:Around} {E:Value->Shared->Prop} {env:Env} {s:Shared}
theorem Wk {x:Sem Value} {Q:Flow->Shared->Prop} (hh:A.handled=none)
  (h:wpAny M A x (fun v s₁=> ∃e vs od C nm q N bs bm hd sn sub ab col dd k0 k1 k2 k3 k5 newId,v= .ref e/\s₁.heap.get? C=some (excClassObj nm q C N bs bm hd sn sub ab col dd k0 k1 k2 k3 k5 newId)/\bm.contains (.type "BaseException")=true/\
   s₁.heap.get? e=some {cls:= .ref C,dict:=od,data:= .fields vs}/\vs[1]?=some .none/\E (.ref e) s₁) E s):
  wpAny M A (raiseStmt env (some x) none) Q E s:=by
 unfold raiseStmt
 refine wpAny_bind (wpAny_mono h (fun v s₁ hv=>?_) fun _ _ z=>z)
 obtain ⟨e,vs,od,C,nm,q,N,bs,bm,hd,sn,sub,ab,col,dd,k0,k1,k2,k3,k5,newId,rfl,hC,hb,he,h1,hE⟩:=hv
 have hB:(Value.ref C::bm).contains (.type "BaseException")=true:=by rw [List.contains_cons,hb,Bool.or_true]
 obtain ⟨hp,g,d,tk,os⟩:=s₁
 repeat (first
  | with_reducible refine wpAny_field he rfl h1 ?_
  | with_reducible refine wpAny_loadPart_at he ?_
  | with_reducible refine wpAny_loadPart_at hC ?_
  | (with_reducible refine wpAny_isSubtype_exc hC ?_;rw [hB])
  | wp_step)
 exact wpAny_raiseNew_none hh hE
end
end XL
namespace L2
open PySem PySem.Spec PyProof.Rows
section
variable {X:Cx} {pins:List (Addr×Obj)} {σ:List (Option V)} {H H':Hp} {s:Shared} {h':Heap}
theorem Inv.cD {g':Array GenState} {t':Nat} {d':Drawn} {ch:List Addr} (I:Inv X pins σ H s)
  (hch: ∀b ∈ ch,(b ∈ X.ex\/X.D8.heap.get? b=none)/\b≠X.env.locals/\(∀x c,X.env.cells.lookup x=some c->c≠b)/\ ∀p ∈ X.pn++pins,p.1≠b)
  (keep: ∀b o,b≠X.env.locals->b ∉ X.fs->b ∉ ch->s.heap.get? b=some o->H b=none->h'.get? b=some o)
  (slot: ∀b o,b≠X.env.locals->b ∈ X.fs->b ∉ ch->s.heap.get? b=some o->H b=none-> ∃sl,h'.get? b=some {o with slots:=sl}) (free: ∀b o,b ∉ ch->s.heap.get? b=some o->H b=none->H' b=none)
  (there: ∀b o,b ∉ ch->s.heap.get? b=some o-> ∃o',h'.get? b=some o')
  (tups: ∀b xs,H b=some (.tup xs)->H' b=some (.tup xs)) (Ao: ∀b o u,H b=some (.GZ o u)->H' b=some (.GZ o u)) (C5: ∀b ps,H b=some (.Tt ps)-> ∃more,H' b=some (.Tt (ps++more)))
  (ns: ∀m,s.heap.Ns X.env.locals m->h'.Ns X.env.locals m) (hok:vI X.prog X.w H' h') (hg:AllBare g'):
  Inv X pins σ H' {s with heap:=h',gens:=g',drawn:=d',toks:=t'}:=by
 have neL: ∀b o,X.D8.heap.get? b=some o->b≠X.env.locals:=fun b o e=>Nat.ne_of_lt (YV (Heap.lt_size e) I.ok.above)
 have neC: ∀b o,X.D8.heap.get? b=some o->b ∉ X.ex->b ∉ ch:=fun b o e hx hb=>by
  rcases (hch b hb).1 with z | z
  ·exact hx z
  ·rw [z] at e;cases e
 have cellK: ∀x c,X.env.cells.lookup x=some c-> ∀v,s.heap.IsCell c v->h'.IsCell c v:=fun x c e v ⟨o,ho,hd⟩=>by
  have nch:c ∉ ch:=fun z=>(hch c z).2.2.1 x c e rfl
  by_cases hc:c ∈ X.fs
  ·obtain ⟨sl,q⟩:=slot c o (I.Q4 x c e) hc nch ho (I.n9 x c e)
   exact ⟨_,q,hd⟩
  ·exact ⟨o,keep c o (I.Q4 x c e) hc nch ho (I.n9 x c e),hd⟩
 refine ⟨I.ok,I.os,hg,⟨fun b o e n hb hx=>?_,fun b o e n hb hx=>?_,fun b o e n hx=>?_,fun b o e hx=>?_,fun b xs e=>tups b xs (I.base.tups b xs e),fun b o xs e=>Ao b o xs (I.base.Ao b o xs e),fun b ps e=>?_⟩,?_,fun x c e=>?_,?_,fun x c e=>?_,fun p hp=>?_,hok,I.len⟩
 ·exact keep b o (neL b o e) hb (neC b o e hx) (I.base.keep b o e n hb hx) (I.base.free b o e n hx)
 ·obtain ⟨sl,e1⟩:=I.base.slot b o e n hb hx
  obtain ⟨sl',e2⟩:=slot b _ (neL b o e) hb (neC b o e hx) e1 (I.base.free b o e n hx)
  exact ⟨sl',e2⟩
 ·obtain ⟨o',e1⟩:=I.base.there b o e hx
  exact free b o' (neC b o e hx) e1 (I.base.free b o e n hx)
 ·obtain ⟨o',e1⟩:=I.base.there b o e hx
  exact there b o' (neC b o e hx) e1
 ·obtain ⟨m1,e1⟩:=I.base.C5 b ps e
  obtain ⟨m2,e2⟩:=C5 b _ e1
  exact ⟨m1++m2,by rw [e2,Array.append_assoc]⟩
 ·obtain ⟨m,hn,hl⟩:=I.loc
  refine ⟨m,ns m hn,fun i x v e1 e2 e3=>?_⟩
  obtain ⟨u,r,l⟩:=hl i x v e1 e2 e3
  refine ⟨u,r,?_⟩
  rcases l with l | ⟨k,c,e,z⟩
  ·exact .inl l
  ·exact .inr ⟨k,c,e,cellK x c e _ z⟩
 ·obtain ⟨v,z⟩:=I.cell x c e
  exact ⟨v,cellK x c e v z⟩
 ·obtain ⟨m,⟨o,_,_,ho,_⟩,_⟩:=I.loc
  exact free _ o (fun z=>(hch _ z).2.1 rfl) ho I.free
 ·obtain ⟨v,o,ho,hd⟩:=I.cell x c e
  exact free c o (fun z=>(hch c z).2.2.1 x c e rfl) ho (I.n9 x c e)
 ·obtain ⟨e,n,ne,nf,d⟩:=I.pin p hp
  have nch:p.1 ∉ ch:=fun z=>(hch p.1 z).2.2.2 p hp rfl
  exact ⟨keep p.1 p.2 ne nf nch e n,free p.1 p.2 nch e n,ne,nf,d⟩
end
end L2
namespace L2
open PySem PySem.Spec PyProof.Rows XL
theorem there{P:Program}{w:World}{H:Hp}{h:Heap}{a:Addr}{o:HO}(x:gV P w H h a o): ∃ob,h.get? a=some ob:=by
 cases o with
 | lst xs=>obtain ⟨_,_,_,_,e⟩:=x;exact ⟨_,e⟩
 | tup xs=>obtain ⟨_,_,_,ob,e,_⟩:=x;exact ⟨ob,e⟩
 | dK kvs=>obtain ⟨_,_,_,_,o,_,_,e,_⟩:=x;exact ⟨_,e⟩
 | dT kvs=>obtain ⟨_,_,_,_,o,_,_,e,_⟩:=x;exact ⟨_,e⟩
 | set S n=>obtain ⟨o,_,_,_,e,_⟩:=x;exact ⟨_,e⟩
 | ins C dx fs=>obtain ⟨_,_,_,e,_⟩:=x;exact ⟨_,e⟩
 | own y=>exact x
 | xd fs=>obtain ⟨_,⟨_,_,_,e,_⟩,_⟩:=x;exact ⟨_,e⟩
 | Xq lo hi=>obtain ⟨_,_,_,e⟩:=x;exact ⟨_,e⟩
 | GZ ob u=>obtain ⟨e,_⟩:=x;exact ⟨_,e⟩
 | Tt ps=>exact ⟨_,show h.get? a=some _ from x⟩
 | met f y=>exact ⟨_,show h.get? a=some _ from x⟩
 | ext φ=>obtain ⟨_,e,_⟩:=x;exact e
theorem zq{P:Program}{w:World}{H:Hp}{h:Heap}{a:Addr}(x:vI P w H h)(n:h.get? a=none):H a=none:=by
 cases e:H a with
 | none=>rfl
 | some o=>
  obtain ⟨ob,q⟩:=there (x a o e)
  rw [n] at q
  cases q
section
variable {X:Cx} {pins:List (Addr×Obj)} {σ:St} {H H':Hp} {s:Shared} {h':Heap}
structure Nw(X:Cx)(pins:List (Addr×Obj))(b:Addr):Prop where
 s0:X.D8.heap.get? b=none
 loc:b≠X.env.locals
 X8: ∀x c,X.env.cells.lookup x=some c->c≠b
 pin: ∀p ∈ X.pn++pins,p.1≠b
theorem GJ{b:Addr}(I:Inv X pins σ H s)(hx:X.ex= [])(h:s.heap.get? b=none):Nw X pins b:=by
 refine ⟨?_,fun z=>?_,fun x c e z=>?_,fun p hp z=>?_⟩
 ·cases e:X.D8.heap.get? b with
  | none=>rfl
  | some o=>
   obtain ⟨o',e'⟩:=I.base.there b o e (by rw [hx];simp)
   rw [h] at e'
   cases e'
 ·obtain ⟨m,⟨o,_,_,ho,_⟩,_⟩:=I.loc
  rw [<-z,h] at ho
  cases ho
 ·obtain ⟨v,o,ho,_⟩:=I.cell x c e
  rw [z,h] at ho
  cases ho
 ·have e:=(I.pin p hp).1
  rw [z,h] at e
  cases e
theorem JM{no:List Addr}(I:Inv X pins σ H s)(k:Kp (frs X.stack) no s.heap h')(hno: ∀b ∈ no,Nw X pins b/\H b=none):Inv X pins σ H {s with heap:=h'}:=by
 have hs: ∀b o,b ∉ no->s.heap.get? b=some o-> ∃sl,h'.get? b=some {o with slots:=sl}:=fun b o hn e=>by
  by_cases hb:b ∈ frs X.stack
  ·exact k.Wu b o hb hn e
  ·exact ⟨o.slots,k.all b o hb hn e⟩
 have VG: ∀b o u,H b=some u->s.heap.get? b=some o->h'.get? b=some o:=fun b o u hb e=>
  k.all b o (fun z=>by rw [I.JE b z] at hb;cases hb) (fun z=>by rw [(hno b z).2] at hb;cases hb) e
 refine I.cD (g':=s.gens) (d':=s.drawn) (t':=s.toks) (ch:=no) (fun b hb=>⟨.inr (hno b hb).1.s0,(hno b hb).1.loc,(hno b hb).1.X8,(hno b hb).1.pin⟩)
  (fun b o hL hf hn e _=>k.all b o (fun z=>(YR.mp (I.JJ b z)).elim hL hf) hn e) (fun b o _ _ hn e _=>hs b o hn e) (fun b o _ _ n=>n) (fun b o hn e=>let ⟨sl,q⟩:=hs b o hn e;⟨_,q⟩)
  (fun _ _ e=>e) (fun _ _ _ e=>e) (fun b ps e=>⟨#[],by rw [e];simp⟩) (fun m hm=>?_) (fun b u e=>?_) I.bare
 ·obtain ⟨o,es,ep,ho,r⟩:=hm
  obtain ⟨sl,q⟩:=hs _ o (fun z=>(hno _ z).1.loc rfl) ho
  exact ⟨_,es,ep,q,r⟩
 ·refine (I.hok b u e).stay (fun c v hc q=>?_) (fun _ q=>q) fun _ _ q=>q
  rcases hc with rfl | hc
  ·exact VG c v _ e q
  ·exact VG c v _ hc q
end
def B8(P:Program)(w:World):QI:=fun outer H s E e s'=> ∃(a:Addr) (c:Value) (od:Option Addr) (T:Addr) (H':Hp),e= .ref a/\s'.os=s.os/\AllBare s'.gens/\Un (frs outer) [] H H' s.heap s'.heap/\vI P w H' s'.heap/\
 Ex s'.heap a c od T .none/\s.heap.get? a=none/\s.heap.get? T=none/\H' a=none/\H' T=none/\E c od H'
def O5(X:Cx)(E:XK):Prop:= ∀(pins:List (Addr×Obj)) (σ:St) (H:Hp) (s:Shared) (a:Addr) (c:Value) (od:Option Addr),Inv X pins σ H s->Nw X pins a->H a=none->
 (XI s.heap a c od\/ ∃T,Ex s.heap a c od T .none/\Nw X pins T/\H T=none)->E c od H->X.xe (.ref a) s
theorem O5.passes{X:Cx}{E:XK}(F:O5 X E)(hx:X.ex= []):Passes (B8 X.prog X.w) X E:=by
 rintro pins σ H s e s' I ⟨a,c,od,T,H',rfl,os,bare,un,hok,ex,na,nT,ha,hT,q⟩
 exact F pins σ H' s' a c od (I.RE os un hok bare fun _ z=>nomatch z) (GJ I hx na) ha (.inr ⟨T,ex,GJ I hx nT,hT⟩) q
theorem aA{P:Program}{w:World}{K:W.Frag}{mg:Str->Option Value}{base:Heap}{N:List Str}{qual:Str}{scope:Scope}{f:Addr}{cd:Value}{A:Around}{outer:List Env}{s0:Shared}{H0:Hp}{E:XK}:
  O5 (DJ (B8 P w) P w K mg base N qual scope f cd A outer s0 H0 E) E:=by
 intro pins σ H s a c od I na ha x q
 have fin: ∀(h':Heap) (T:Addr),Ex h' a c od T .none->s.heap.get? T=none->Inv (DJ (B8 P w) P w K mg base N qual scope f cd A outer s0 H0 E) pins σ H {s with heap:=h'}->B8 P w outer H0 s0 E (.ref a) {s with heap:=h'}:=fun h' T x' nT J=>
  ⟨a,c,od,T,H,rfl,J.os,J.bare,J.base,J.hok,x',na.s0,(GJ I rfl nT).s0,ha,zq I.hok nT,q⟩
 rcases x with x | ⟨T,x,nT,hT⟩
 ·exact VB (base:=base) I.ok.frames I.stack rfl x fun h' T x' n' k'=>fin h' T x' n' (JM I k' fun b hb=>by
   rw [YO.mp hb]
   exact ⟨na,ha⟩)
 ·exact VW (base:=base) I.ok.frames I.stack rfl x fun h' T' x' n' k'=>fin h' T' x' n' (JM I k' fun b hb=>by
   rcases YR.mp hb with e | e
   ·rw [e];exact ⟨na,ha⟩
   ·rw [YO.mp e];exact ⟨nT,hT⟩)
theorem T_ {P:Program} {w:World} {K:W.Frag} {mg:Str->Option Value} {base:Heap} {x qual:Str} {st:Stmt} {f:Addr} {fd:FuncData} {N ps:List Str} {k:Nat} {sp:Sp} (F:bI K x qual st f fd) (S:ay N ps (aq st)) (len: ∀vs H Q E,sp vs H Q E->vs.length=ps.length)
  (hbody: ∀(cdv:Value) (A:Around) (outer:List Env) (s:Shared) (H:Hp) (vs:List V) (Q:VK) (E:XK),mj k (A.deeper (envOfC qual (aq st) s.heap.objs.size f cdv))->sp vs H Q E->
   ∃t,Mv (DJ (B8 P w) P w K mg base N qual (aq st) f cdv A outer s H E) (kC st) t/\t {nx:=fun _ H'=>Q .dh H',rt:=Q} (start N vs) H):bw P w K mg base (B8 P w) (k + 1) f fd ps sp:=by
 obtain ⟨oc,od,kV,doc,pm,an,cdv,ct,osl,rfl,lk,hcd⟩:=F.ex
 exact Vb lk hcd S len fun A outer s H vs Q E hr hsp=>hbody cdv A outer s H vs Q E hr hsp
theorem oq {P:Program} {w:World} {K:W.Frag} {mg:Str->Option Value} {base:Heap} {x qual:Str} {st:Stmt} {f:Addr} {fd:FuncData} {N ps:List Str} {k:Nat} {sp:Sp} (F:bI K x qual st f fd) (S:ay N ps (aq st)) (h: ∀vs H Q E,sp vs H Q E-> ∀R:Prop,(vs.length=ps.length->(∀(cdv:Value) (A:Around) (outer:List Env) (s:Shared),mj k (A.deeper (envOfC qual (aq st) s.heap.objs.size f cdv))->
   ∃t,Mv (DJ lA P w K mg base N qual (aq st) f cdv A outer s H E).WS (kC st) t/\t {nx:=fun _ H'=>Q .dh H',rt:=Q} (start N vs) H)->R)->R):bw P w K mg base lA (k + 1) f fd ps sp:=
 F.ok S (fun vs H Q E g=>h vs H Q E g _ fun a _=>a) fun cdv A outer s H vs Q E hr g=>h vs H Q E g _ fun _ b=>b cdv A outer s hr
theorem K5 {P:Program} {w:World} {K:W.Frag} {mg:Str->Option Value} {base:Heap} {x qual:Str} {st:Stmt} {f:Addr} {fd:FuncData} {N ps:List Str} {k:Nat} {sp:Sp} (F:bI K x qual st f fd) (S:ay N ps (aq st)) (h: ∀vs H Q E,sp vs H Q E-> ∀R:Prop,(vs.length=ps.length->(∀(cdv:Value) (A:Around) (outer:List Env) (s:Shared),mj k (A.deeper (envOfC qual (aq st) s.heap.objs.size f cdv))->
   ∃t,Mv (DJ (B8 P w) P w K mg base N qual (aq st) f cdv A outer s H E) (kC st) t/\t {nx:=fun _ H'=>Q .dh H',rt:=Q} (start N vs) H)->R)->R):bw P w K mg base (B8 P w) (k + 1) f fd ps sp:=
 T_ F S (fun vs H Q E g=>h vs H Q E g _ fun a _=>a) fun cdv A outer s H vs Q E hr g=>h vs H Q E g _ fun _ b=>b cdv A outer s hr
theorem fG{P:Program}{w:World}{K:W.Frag}{mg:Str->Option Value}{base:Heap}{N:List Str}{qual:Str}{scope:Scope}{f:Addr}{cd:Value}{A:Around}{outer:List Env}{s0:Shared}{H0:Hp}{E:XK}{CX:QI}:
  PassesOwn (model P w) (A.deeper (envOfC qual scope s0.heap.objs.size f cd)) (envOfC qual scope s0.heap.objs.size f cd) (DJ CX P w K mg base N qual scope f cd A outer s0 H0 E).xe:=PassesOwn.leaving
end L2
namespace L2
open PySem PySem.Spec PyProof.Rows XL
abbrev EB:List Value:= [.type "Exception",.type "BaseException",.type "object"]
def P4(K:W.Frag)(C N:Addr):Bool:=match K.lookup C with
 | some ⟨.type "type",_,.cls cd,sl⟩=>(match cd.mro,sl.toList with
  | .ref C'::bm,[_,_,_,_,some (.builtin n),_]=>C' == C && n == "Exception.__new__" && !cd.hasDel && bm == EB && cd.hasDict && cd.ns == N && PySem.W.nsOkIn K N
  | _,_=>false)
 | _=>false
structure Mf(K:W.Frag)(C N fI:Addr):Prop where
 cls:P4 K C N=true
 ini:PySem.W.nsIn K N "__init__"=some (some (.ref fI))
 sa:PySem.W.nsIn K N "__setattr__"=some none
 ga:PySem.W.nsIn K N "__getattribute__"=some none
 gt:PySem.W.nsIn K N "__getattr__"=some none
 fn:PySem.W.isFn K (.ref fI)=true
 kp:PySem.W.keepIn K (.ref C)=true
structure Xj(K:W.Frag)(N:Addr)(f:Str):Prop where
 own:PySem.W.nsIn K N f=some none
 base:typeLookup (.type "Exception") f=pure none
theorem T8{K:W.Frag}{h:Heap}{N:Addr}{mg:Str->Option Value}{n:Str}{v:Value}(X:K.In h)(G:h.Ns N mg)(e:PySem.W.nsIn K N n=some (some v)):mg n=some v:=by
 obtain ⟨od,en,pn,go,gd,_,gf⟩:=G
 unfold PySem.W.nsIn at e
 split at e
 ·rename_i c d es' n' sl q
  have z:=X _ _ q
  rw [go] at z
  cases z
  cases gd
  split at e
  ·rename_i x hx
   cases e
   rw [<-gf]
   unfold nsFind findBy
   rw [<-Array.find?_toList,hx]
   rfl
  ·split at e <;> cases e
 ·cases e
theorem Mf.at{K:W.Frag}{C N fI:Addr}(c:Mf K C N fI){h:Heap}(X:K.In h): ∃nm q bs sn sub ab col dd k0 k1 k2 k3 k5 mN,
  h.get? C=some (excClassObj nm q C N bs EB true sn sub ab col dd k0 k1 k2 k3 k5 "Exception.__new__")/\h.Ns N mN/\mN "__init__"=some (.ref fI)/\mN "__setattr__"=none/\mN "__getattribute__"=none/\mN "__getattr__"=none/\ ∀f,Xj K N f->mN f=none:=by
 have q:=c.cls
 unfold P4 at q
 split at q
 ·rename_i dd cd sl ho
  split at q
  ·rename_i C' bm k0 k1 k2 k3 n k5 hm hs
   simp only [Y_,beq_iff_eq,Bool.not_eq_true'] at q
   obtain ⟨⟨⟨⟨⟨⟨rfl,rfl⟩,hdel⟩,hb⟩,hdict⟩,hns⟩,hok⟩:=q
   obtain ⟨nm,bs,mro,ns,qn,hd,sn,sub,ab,col,del⟩:=cd
   dsimp only at hm hdel hdict hns
   subst hm hdel hdict hns hb
   have hsl:sl= #[k0,k1,k2,k3,some (.builtin "Exception.__new__"),k5]:=by
    obtain ⟨l⟩:=sl
    simp only at hs
    rw [hs]
   subst hsl
   have G:h.Ns ns (h.nsMap ns):= .of_isNs (PySem.W.isNs_of_in X hok)
   exact ⟨nm,qn,bs,sn,sub,ab,col,dd,k0,k1,k2,k3,k5,_,X _ _ ho,G,T8 X G c.ini,PySem.W.ns_none_of X G c.sa,PySem.W.ns_none_of X G c.ga,PySem.W.ns_none_of X G c.gt,fun f n=>PySem.W.ns_none_of X G n.own⟩
  ·cases q
 ·cases q
def QG(a C:Addr)(od:Option Addr):HO:= .ext fun h=> ∃vs,h.get? a=some {cls:= .ref C,dict:=od,data:= .fields vs}/\vs[1]?=some .none
def KR(dx:Addr)(fs:List (Str×V)):HO:= .ext fun h=> ∃mA,h.Ns1 dx mA/\(∀f,sZ (fs.lookup f) (mA f))/\PySem.Within mA (fs.map (·.1))/\fs.length<=1000
def del(H:Hp)(a:Addr):Hp:=fun b=>if b=a then none else H b
theorem BS{H:Hp}{a:Addr}:del H a a=none:=by unfold del;rw [if_pos rfl]
theorem yR{H:Hp}{a b:Addr}(h:b≠a):del H a b=H b:=by unfold del;rw [if_neg h]
section
variable {P:Program} {w:World} {H:Hp} {h:Heap} {a C dx:Addr} {od:Option Addr} {fs:List (Str×V)}
theorem Ss{vs:Array Value}(e:h.get? a=some {cls:= .ref C,dict:=od,data:= .fields vs})(n:vs[1]?=some .none):gV P w H h a (QG a C od):=
 ⟨⟨vs,e,n⟩,⟨_,e⟩,fun _ _ ⟨vs,e,n⟩ k=>⟨vs,k _ e,n⟩⟩
theorem Sw(hok:vI P w H h)(e:H a=some (QG a C od)): ∃vs,h.get? a=some {cls:= .ref C,dict:=od,data:= .fields vs}/\vs[1]?=some .none:=(hok a _ e).1
theorem Rr{mA:Str->Option Value}(n:h.Ns1 dx mA)(r: ∀f,sZ (fs.lookup f) (mA f))(wi:PySem.Within mA (fs.map (·.1)))(z:fs.length<=1000):gV P w H h dx (KR dx fs):=by
 refine ⟨⟨mA,n,r,wi,z⟩,let ⟨o,_,_,e,_⟩:=n;⟨o,e⟩,fun _ _ ⟨mA,⟨o,es,ep,e,c⟩,r,wi,z⟩ k=>⟨mA,⟨o,es,ep,k _ e,c⟩,r,wi,z⟩⟩
theorem Sm(hok:vI P w H h)(e:H dx=some (KR dx fs)): ∃mA,h.Ns1 dx mA/\(∀f,sZ (fs.lookup f) (mA f))/\PySem.Within mA (fs.map (·.1))/\fs.length<=1000:=(hok dx _ e).1
end
section
variable {X:Cx} {pins:List (Addr×Obj)} {σ:St} {H H':Hp} {s:Shared} {h':Heap} {a:Addr}
theorem Ro{o:HO}{t':Nat}(I:Inv X pins σ H s)(k: ∀b u,s.heap.get? b=some u->h'.get? b=some u)(hp:s.heap.get? a=none)(new:gV X.prog X.w (upd H a o) h' a o):
  Inv X pins σ (upd H a o) {s with heap:=h',toks:=t'}:=by
 have hn:=zq I.hok hp
 have ne: ∀b u,s.heap.get? b=some u->b≠a:=fun b u e z=>by rw [z,hp] at e;cases e
 refine I.un ⟨fun b u q _ _ _=>k b u q,fun b u q _ _ _=>⟨u.slots,k b u q⟩,fun b u q n _=>by rw [ak (ne b u q)];exact n,fun b u q _=>⟨u,k b u q⟩,
  fun b xs q=>by rw [ak (ao q hn)];exact q,fun b u xs q=>by rw [ak (ao q hn)];exact q,fun b ps q=>⟨#[],by rw [ak (ao q hn),q];simp⟩⟩ fun b u e=>?_
 by_cases hb:b=a
 ·subst hb
  rw [af] at e
  cases e
  exact new
 ·rw [ak hb] at e
  exact (I.hok b u e).stay (fun c v _ q=>k c v q) (fun c q=>by rw [ak (ao q hn)];exact q) fun c xs q=>by rw [ak (ao q hn)];exact q
theorem UZ{φ:Heap->Prop}(I:Inv X pins σ H s)(e:H a=some (.ext φ)):Inv X pins σ (del H a) s:=by
 have ne: ∀b o,H b=some o->(∀φ,o≠ .ext φ)->b≠a:=fun b o q d z=>by
  rw [z,e] at q
  cases q
  exact d φ rfl
 have u:Un X.fs [] H (del H a) s.heap s.heap:=⟨fun _ _ q _ _ _=>q,fun b o q _ _ _=>⟨o.slots,q⟩,fun b o q n _=>by
   by_cases z:b=a
   ·rw [z];exact BS
   ·rw [yR z];exact n,fun b o q _=>⟨o,q⟩,
  fun b xs q=>by rw [yR (ne b _ q fun _ z=>nomatch z)];exact q,fun b o xs q=>by rw [yR (ne b _ q fun _ z=>nomatch z)];exact q,
  fun b ps q=>⟨#[],by rw [yR (ne b _ q fun _ z=>nomatch z),q];simp⟩⟩
 refine I.un (h':=s.heap) (t':=s.toks) u fun b o q=>?_
 have hb:b≠a:=fun z=>by rw [z,BS] at q;cases q
 rw [yR hb] at q
 exact (I.hok b o q).stay (fun _ _ _ z=>z) (fun c z=>by rw [yR (ne c _ z fun _ z=>nomatch z)];exact z) fun c xs z=>by rw [yR (ne c _ z fun _ z=>nomatch z)];exact z
end
def WY(K:W.Frag)(ta tv:TE)(f:Str):TS:=fun D σ H=>tv σ H fun y H1=>ta σ H1 fun x H2=> ∃a C N fI od,x= .ref a/\H2 a=some (QG a C od)/\Mf K C N fI/\Xj K N f/\
 match od with
 | none=> ∀dx,H2 dx=none->D.nx σ (upd (upd H2 dx (KR dx [(f,y)])) a (QG a C (some dx)))
 | some dx=> ∃fs,H2 dx=some (KR dx fs)/\fs.length < 1000/\dx≠a/\D.nx σ (upd H2 dx (KR dx (aY f y fs)))
theorem O3{X:Cx}{o value:Expr}{f:Str}{pos pos':Pos}{ta tv:TE}(ha:PE X o ta)(hv:PE X value tv)(hs:swapsWith value (some (.Attribute o f pos')) pos.line X.env=pure false):PS X (.Assign [.Attribute o f pos'] value pos) (WY X.K ta tv f):=by
 intro pins s σ H D I h
 refine plainObj_wpAny_Assign_Attribute (gD (hv pins s σ H _ I h) fun u s1 ⟨y,H1,I1,ry,q⟩=>gD (ha pins s1 σ H1 _ I1 q) fun ov s2 ⟨x,H2,I2,rx,a,C,N,fI,od,ex,ea,c,n,q2⟩=>?_) hs
 subst ex
 obtain rfl:ov=Value.ref a:=rx
 obtain ⟨vs,hob,hvs⟩:=Sw I2.hok ea
 obtain ⟨nm,qn,bs,sn,sub,ab,col,dd,k0,k1,k2,k3,k5,mN,hC,hN,hi,hsa,hga,hgt,hno⟩:=c.at I2.GX
 have hxC:a≠C:=fun z=>by
  subst z
  rw [hob] at hC
  cases hC
 obtain ⟨hp2,g2,d2,t2,os2⟩:=s2
 dsimp only at hob hC hN
 cases od with
 | none=>
  refine VR PySem.F.store_Exception hC hN hsa (hno f n) n.base hob fun h' tk' e1 n1 k1=>?_
  have hnd:H2 hp2.objs.size=none:=I2.hok.fresh (YM _)
  have hnx:hp2.objs.size≠a:=Nat.ne_of_gt (Heap.lt_size hob)
  have hnone:hp2.get? hp2.objs.size=none:=Heap.get?_none_of_le (YM _)
  have od:gV X.prog X.w (upd H2 hp2.objs.size (KR hp2.objs.size [(f,y)])) h' hp2.objs.size (KR hp2.objs.size [(f,y)]):=by
   refine Rr n1 (fun b=>?_) (fun b hb=>?_) (by simp)
   ·by_cases z:b=f
    ·subst z
     simp [List.lookup]
     exact ry
    ·have zz:(b == f)=false:=YY.mpr z
     simp [List.lookup,zz,z,sZ]
   ·by_cases z:b=f
    ·simp [z]
    ·simp [z] at hb
  have ox:gV X.prog X.w (upd (upd H2 hp2.objs.size (KR hp2.objs.size [(f,y)])) a (QG a C (some hp2.objs.size))) h' a (QG a C (some hp2.objs.size)):=Ss e1 hvs
  refine ⟨σ,_,?_,q2 hp2.objs.size hnd⟩
  have stp: ∀(u:HO) (b:Addr),(∀φ,u≠ .ext φ)->H2 b=some u->upd (upd H2 hp2.objs.size (KR hp2.objs.size [(f,y)])) a (QG a C (some hp2.objs.size)) b=some u:=fun u b d e=>by
   rw [ak (yX e ea (d _)),ak (ao e hnd)]
   exact e
  refine I2.un (h':=h') (t':=tk') ⟨fun b o e n _ _=>k1 b o (fun z=>by rw [z,ea] at n;cases n) e,fun b o e n _ _=>⟨o.slots,k1 b o (fun z=>by rw [z,ea] at n;cases n) e⟩,fun b o e n _=>?_,fun b o e _=>?_,
   fun b xs e=>stp _ b (by intro _ z;cases z) e,fun b o xs e=>stp _ b (by intro _ z;cases z) e,fun b ps e=>⟨#[],by rw [stp _ b (by intro _ z;cases z) e];simp⟩⟩ fun b u e=>?_
  ·rw [ak (fun z=>by rw [z,ea] at n;cases n),ak (Nat.ne_of_lt (Heap.lt_size e))]
   exact n
  ·by_cases z:b=a
   ·exact ⟨_,by rw [z];exact e1⟩
   ·exact ⟨o,k1 b o z e⟩
  ·by_cases hb:b=a
   ·subst hb
    rw [af] at e
    cases e
    exact ox
   ·rw [ak hb] at e
    by_cases hb2:b=hp2.objs.size
    ·subst hb2
     rw [af] at e
     cases e
     exact od
    ·rw [ak hb2] at e
     refine (I2.hok b u e).stay (fun c v hc qq=>k1 c v (fun z=>?_) qq) (fun c qq=>stp _ c (by intro _ z;cases z) qq) fun c xs qq=>stp _ c (by intro _ z;cases z) qq
     subst z
     rcases hc with rfl | hc
     ·exact hb rfl
     ·rw [ea] at hc
      cases hc
 | some dx=>
  obtain ⟨fs,ed,hl,hne,q3⟩:=q2
  obtain ⟨mA,nA,rA,wA,zA⟩:=Sm I2.hok ed
  refine store_attr (mA:=mA) (ns:=fs.map (·.1)) PySem.F.store_Exception hC hN hsa (hno f n) n.base hxC ⟨_,hob,rfl,(by intro _ z;cases z),.inr ⟨dx,rfl,hne,nA⟩⟩ (fun h' tk' In hk hsame=>?_) wA (by rw [YI,sizeLine_eq];lia)
  obtain ⟨o1,e1,c1,dt1,sl1,d1⟩:=hsame _ hob
  obtain ⟨o2,e2,_,_,hd2⟩:=In
  rw [e1] at e2
  cases e2
  have hd1:=d1 dx rfl
  have nB:h'.Ns1 dx (fun y_1=>if y_1=f then some u else mA y_1):=by
   rcases hd2 with ⟨dn,_⟩ | ⟨dx',hdx',_,hns⟩
   ·rw [hd1] at dn
    cases dn
   ·rw [hd1] at hdx'
    cases hdx'
    exact hns
  have e1':h'.get? a=some {cls:= .ref C,dict:=some dx,data:= .fields vs}:=by
   rw [e1]
   obtain ⟨c1',d1',t1',l1'⟩:=o1
   dsimp only at c1 dt1 sl1 hd1
   subst c1 dt1 sl1 hd1
   rfl
  refine ⟨σ,_,I2.write (x:=dx) (e:=dx) (by rw [ed];exact True.intro) (.inl rfl) (fun b o hb e=>?_) (let ⟨o,_,_,e,_⟩:=nB;⟨o,e⟩) ?_,q3⟩
  ·by_cases z:b=a
   ·subst z
    rw [hob] at e
    cases e
    exact e1'
   ·exact hk b o z (fun o0 dx0 g0 g1=>by rw [hob] at g0;cases g0;cases g1;exact hb) e
  ·refine Rr nB (fun b=>?_) (fun b hb=>?_) (by have:=yQ f y fs;lia)
   ·rw [yC]
    by_cases z:b=f
    ·rw [if_pos z,if_pos z]
     exact ry
    ·rw [if_neg z,if_neg z]
     exact rA b
   ·by_cases z:b=f
    ·rw [z]
     exact (vn f y fs).1
    ·refine (vn f y fs).2 b (wA b fun zz=>hb ?_)
     rw [if_neg z]
     exact zz
section
variable {X:Cx} {pins:List (Addr×Obj)} {σ:St} {H:Hp} {s:Shared} {C N fI:Addr} {fd:FuncData} {ps:List Str} {sp:Sp} {k:Nat}
theorem P5 {us:List Value} {vs:List V} {Q:Addr->Hp->Prop} (c:Mf X.K C N fI) (F:bw X.prog X.w X.K X.mg X.base lA k fI fd ps sp) (hr:mj (k + 1) X.A) (hb:Binds X.K fd ps []) (hex:X.ex= [])
  (I:Inv X pins σ H s) (r:Vals vs us) (hz:vs.length<=sizeLine)
  (h: ∀a,H a=none->Nw X pins a->sp (.ref a::vs) (upd H a (QG a C none)) (fun v H2=>v= .dh/\Q a H2) E0):
  wpAny (model X.prog X.w) X.A (call (.ref C) us) (fun v s'=> ∃a H2,v= .ref a/\Inv X pins σ H2 s'/\Nw X pins a/\Q a H2) X.xe s:=by
 obtain ⟨nm,qn,bs,sn,sub,ab,col,dd,k0,k1,k2,k3,k5,mN,hC,hN,hi,hsa,hga,hgt,hno⟩:=c.at I.GX
 have ht:PySem.W.typeIn X.K (.ref fI)=some (.type "function"):=beq_iff_eq.mp c.fn
 obtain ⟨oI,hoI,hcI⟩: ∃oI,s.heap.get? fI=some oI/\oI.cls= .type "function":=by
  unfold PySem.W.typeIn at ht
  cases e:X.K.lookup fI with
  | none=>simp [e] at ht
  | some o=>
   simp [e] at ht
   exact ⟨o,I.GX _ _ e,ht⟩
 obtain ⟨hp,g,d,tk,os⟩:=s
 refine wpAny_call_exc_init PySem.F.excBase_Exception hC hN hi hoI hcI (fun h' e M=>?_) (by rw [<-r.length];exact hz)
 obtain ⟨mk,mn,t0,mo,mt,mtt⟩:=M
 have hn:=GJ I hex mn
 have he:H e=none:=zq I.hok mn
 have I2:Inv X pins σ (upd H e (QG e C none)) {heap:=h',gens:=g,drawn:=d,toks:=tk,os:=os}:=Ro (h':=h') (t':=tk) I mk mn (Ss mo rfl)
 have q:=h e he hn
 have r2:Vals (V.ref e::vs) (Value.ref e::us):= .cons rfl r
 have hl:(Value.ref e::us++ []).length=ps.length:=by
  have e1:=r2.length
  rw [F.len _ _ _ _ q] at e1
  rw [Y0]
  exact e1.symm
 refine wpAny_call (codeAny_mono (F.run _ X.stack _ _ ⟨Value.ref e::us,[]⟩ (Value.ref e::us) _ _ E0 (hr.make C us [])
  (I2.VN.make C us []) (by have:=hb _ (Value.ref e::us) I2.GX hl;rw [Y0] at this;exact this) r2 q) fun rr s' hq'=>?_)
 cases rr with
 | error e=>exact hq'.elim
 | ok fl=>
  cases fl with
  | ret u=>
   obtain ⟨v,H',I3,rv,ev,q3⟩:=I2.after hq'
   subst ev
   exact ⟨rv,e,H',rfl,I3,hn,q3⟩
  | next=>exact False.elim hq'
  | brk=>exact False.elim hq'
  | cont=>exact False.elim hq'
def Yo(C:Addr)(f1 f2:Str):Sp:=fun vs H Q _=> ∃a v1 v2,vs= [.ref a,v1,v2]/\H a=some (QG a C none)/\ ∀dx,H dx=none->
 Q .dh (upd (upd (upd H dx (KR dx [(f1,v1)])) a (QG a C (some dx))) dx (KR dx [(f1,v1),(f2,v2)]))
def RS(C:Addr)(f1 f2:Str)(E:XK)(ta:TA):TS:=fun _ σ H=>ta σ H fun vs H1=> ∃v1 v2,vs= [v1,v2]/\ ∀dx,H1 dx=none->E (.ref C) (some dx) (upd H1 dx (KR dx [(f1,v1),(f2,v2)]))
theorem mO {E:XK} {x f1 f2:Str} {p cpos pos:Pos} {e:Expr} {es:List Expr} {t:TA} (c:Mf X.K C N fI) (F:bw X.prog X.w X.K X.mg X.base lA k fI fd ps (Yo C f1 f2)) (hr:mj (k + 1) X.A) (hb:Binds X.K fd ps []) (hex:X.ex= [])
  (hg:Gl X x) (hm:X.mg x=some (.ref C)) (hc:X.calm=true) (hfl:O5 X E) (ha:PA X (e::es) t)
  (hdb:(x == ("__debug__":Str))=false:=by decide) (he:starEach (e::es) X.env=(false,eval e X.env)::starEach es X.env:=by rfl) (hpl:(backTo cpos (starEach es X.env)).any (·.1)=false:=by rfl):
  PS X (.Raise (some (.Call (.Name x p) (e::es) [] cpos)) none pos) (RS C f1 f2 E t):=by
 intro pins s σ H D I h
 show wpAny (model X.prog X.w) X.A (do standAt pos;raiseStmt X.env (some (do let v <-eval (.Call (.Name x p) (e::es) [] cpos) X.env;standAt pos;pure v)) none) _ _ s
 refine wpAny_bind (wpAny_standAt (Wk (I.ok.hd hc) (wpAny_bind (gD (Q:=fun v s'=> ∃a H2,v= .ref a/\Inv X pins σ H2 s'/\Nw X pins a/\ ∃dx,H2 a=some (QG a C (some dx))/\E (.ref C) (some dx) (del H2 a)) ?_ fun v s1 hv=>?_))))
 ·refine wpAny_Call_Name_kw (zw I hg hm ?_ hdb)
  refine PySem.W.callWith_K (h₀:=X.base) I.ok.mod.Ws c.kp (gD (ha cpos pins s σ H _ I h) fun us s1 ⟨vs,H1,I1,r,v1,v2,ev,q⟩=>⟨I1.GX,?_⟩) he hpl
  subst ev
  refine P5 (Q:=fun a H2=> ∃dx,H2 a=some (QG a C (some dx))/\E (.ref C) (some dx) (del H2 a)) c F hr hb hex I1 r (by rw [sizeLine_eq];simp) fun a na nw=>?_
  refine ⟨a,v1,v2,rfl,af,fun dx hd=>⟨rfl,dx,?_,?_⟩⟩
  ·have n:a≠dx:=fun z=>by rw [<-z,af] at hd;cases hd
   rw [ak n,af]
  ·have n:dx≠a:=fun z=>by rw [z,af] at hd;cases hd
   rw [ak n] at hd
   refine Eq.mp (congrArg (E (.ref C) (some dx)) ?_) (q dx hd)
   funext b
   by_cases z:b=a
   ·subst z
    rw [BS,ak (Ne.symm n)]
    exact na
   ·rw [yR z]
    by_cases z2:b=dx
    ·subst z2
     rw [af,af]
    ·rw [ak z2,ak z2,ak z,ak z2,ak z]
 ·obtain ⟨a,H2,rfl,I2,nw,dx,ea,q⟩:=hv
  refine wpAny_bind (wpAny_standAt (wpAny_pure ?_))
  obtain ⟨vs,hob,hvs⟩:=Sw I2.hok ea
  obtain ⟨nm,qn,bs,sn,sub,ab,col,dd,k0,k1,k2,k3,k5,mN,hC,hN,hi,hsa,hga,hgt,hno⟩:=c.at I2.GX
  exact ⟨a,vs,some dx,C,nm,qn,N,bs,EB,true,sn,sub,ab,col,dd,k0,k1,k2,k3,k5,_,rfl,hC,by decide,hob,hvs,hfl pins σ (del H2 a) s1 a (.ref C) (some dx) (UZ I2 ea) nw BS (.inl ⟨vs,hob,hvs⟩) q⟩
end
def Ve(a C dx:Addr):HO:= .ext fun h=> ∃vs,h.get? a=some {cls:= .ref C,dict:=some dx,data:= .fields vs}
section
variable {X:Cx} {pins:List (Addr×Obj)} {σ:St} {H:Hp} {s:Shared} {a C N fI dx:Addr}
theorem Vh{P:Program}{w:World}{h:Heap}{vs:Array Value}(e:h.get? a=some {cls:= .ref C,dict:=some dx,data:= .fields vs}):gV P w H h a (Ve a C dx):=
 ⟨⟨vs,e⟩,⟨_,e⟩,fun _ _ ⟨vs,e⟩ k=>⟨vs,k _ e⟩⟩
theorem QA{φ:Heap->Prop}(I:Inv X pins σ H s)(n:Nw X pins a)(hn:H a=none)(ok:gV X.prog X.w (upd H a (.ext φ)) s.heap a (.ext φ)):Inv X pins σ (upd H a (.ext φ)) s:=by
 have ne: ∀b o,H b=some o->b≠a:=fun b o e=>ao e hn
 refine ⟨I.ok,I.os,I.bare,⟨I.base.keep,I.base.slot,fun b o e m x=>?_,I.base.there,fun b xs e=>?_,fun b o u e=>?_,fun b ps e=>?_⟩,I.loc,I.cell,?_,fun x c e=>?_,fun p hp=>?_,fun b o e=>?_,I.len⟩
 ·rw [ak (fun z=>by rw [z,n.s0] at e;cases e)]
  exact I.base.free b o e m x
 ·rw [ak (ne _ _ (I.base.tups b xs e))]
  exact I.base.tups b xs e
 ·rw [ak (ne _ _ (I.base.Ao b o u e))]
  exact I.base.Ao b o u e
 ·obtain ⟨m,e1⟩:=I.base.C5 b ps e
  exact ⟨m,by rw [ak (ne _ _ e1)];exact e1⟩
 ·rw [ak (Ne.symm n.loc)]
  exact I.free
 ·rw [ak (n.X8 x c e)]
  exact I.n9 x c e
 ·obtain ⟨p1,p2,p3⟩:=I.pin p hp
  exact ⟨p1,by rw [ak (n.pin p hp)];exact p2,p3⟩
 ·by_cases z:b=a
  ·subst z
   rw [af] at e
   cases e
   exact ok
  ·rw [ak z] at e
   exact (I.hok b o e).stay (fun _ _ _ q=>q) (fun c q=>by rw [ak (ne _ _ q)];exact q) fun c xs q=>by rw [ak (ne _ _ q)];exact q
def E1(K:W.Frag)(ta:TE)(f:Str):TE:=fun σ H Q=>ta σ H fun x H1=> ∃a C N fI dx fs v,x= .ref a/\H1 a=some (Ve a C dx)/\Mf K C N fI/\Xj K N f/\H1 dx=some (KR dx fs)/\fs.lookup f=some v/\Q v H1
theorem handed{v:V}{u:Value}(r:RelV v u):handedOut u=pure u:=by
 cases v with
 | dh=>cases (show u=Value.none from r);rfl
 | bl b=>cases (show u=Value.bool b from r);rfl
 | int i=>obtain ⟨t,e⟩:=(show ∃t,u=Value.int i t from r);cases e;rfl
 | str x=>obtain ⟨t,e⟩:=(show ∃t,u=Value.str x t from r);cases e;rfl
 | K9 b=>obtain ⟨t,e⟩:=(show ∃t,u=Value.bytes b t from r);cases e;rfl
 | GY b=>obtain ⟨t,e⟩:=(show ∃t,u=Value.float b t from r);cases e;rfl
 | ref a=>cases (show u=Value.ref a from r);rfl
 | ty n=>cases (show u=Value.type n from r);rfl
theorem Ef{e:Expr}{f:Str}{pos:Pos}{ta:TE}(he:PE X e ta)(hb:attributeBase e f X.env (eval e X.env)=eval e X.env):PE X (.Attribute e f pos) (E1 X.K ta f):=by
 intro pins s σ H Q I h
 refine OP hb (gD (he pins s σ H _ I h) fun u s1 ⟨x,H1,I1,rx,a,C,N,fI,dx,fs,v,ex,ea,c,n,ed,l,q⟩=>?_)
 subst ex
 obtain rfl:u=Value.ref a:=rx
 obtain ⟨vs,hob⟩: ∃vs,s1.heap.get? a=some {cls:= .ref C,dict:=some dx,data:= .fields vs}:=(I1.hok a _ ea).1
 obtain ⟨nm,qn,bs,sn,sub,ab,col,dd,k0,k1,k2,k3,k5,mN,hC,hN,hi,hsa,hga,hgt,hno⟩:=c.at I1.GX
 obtain ⟨mA,nA,rA,wA,zA⟩:=Sm I1.hok ed
 obtain ⟨u',eu,ru⟩:=sZ.some_of (l▸rA f)
 obtain ⟨hp,g,d,tk,os⟩:=s1
 exact W5 hC hN hga hgt (hno f n) n.base hob rfl rfl (by intro _ z;cases z) nA eu (handed ru) ⟨v,H1,I1.tok _,ru,q⟩
end
abbrev Cx.Lc(X:Cx)(pins:List (Addr×Obj))(xe:Value->Shared->Prop):Cx:={X with pn:=X.pn++pins,xe:=xe}
abbrev Cx.hand(X:Cx)(a:Addr)(pins:List (Addr×Obj)):Cx:={X with A:=X.A.mark (some (.ref a)),calm:=false,pn:=X.pn++pins,xe:=fun _ _=>False}
section
variable {X:Cx} {pins:List (Addr×Obj)} {σ:St} {H:Hp} {s:Shared} {a C N fI:Addr}
theorem Cx.Ok.Lc(ok:X.Ok)(pins:List (Addr×Obj))(xe:Value->Shared->Prop):(X.Lc pins xe).Ok:=
 ⟨ok.mod,ok.kind,ok.glob,ok.blt,ok.above,ok.inj,ok.has,ok.V3,ok.hd,ok.frames,ok.stk,ok.Ww,ok.bs,ok.Q5,ok.N_,ok.Oe,ok.BP,ok.UI⟩
theorem Cx.Ok.hand(ok:X.Ok)(a:Addr)(pins:List (Addr×Obj)):(X.hand a pins).Ok:=
 ⟨ok.mod,ok.kind,ok.glob,ok.blt,ok.above,ok.inj,ok.has,ok.V3,(fun z=>nomatch z),ok.frames,ok.stk,ok.Ww,ok.bs,ok.Q5,ok.N_,ok.Oe,ok.BP,ok.UI⟩
theorem Inv.WC(I:Inv X pins σ H s)(xe:Value->Shared->Prop):Inv (X.Lc pins xe) [] σ H s:=
 ⟨I.ok.Lc pins xe,I.os,I.bare,I.base,I.loc,I.cell,I.free,I.n9,fun p hp=>I.pin p (by simpa using hp),I.hok,I.len⟩
theorem Inv.C9{pins':List (Addr×Obj)}{xe:Value->Shared->Prop}(ok:X.Ok)(I:Inv (X.Lc pins xe) pins' σ H s):Inv X pins σ H s:=
 ⟨ok,I.os,I.bare,I.base,I.loc,I.cell,I.free,I.n9,fun p hp=>I.pin p (Zi _ hp),I.hok,I.len⟩
theorem Inv.R3(I:Inv X pins σ H s)(a:Addr):Inv (X.hand a pins) [] σ H s:=
 ⟨I.ok.hand a pins,I.os,I.bare,I.base,I.loc,I.cell,I.free,I.n9,fun p hp=>I.pin p (by simpa using hp),I.hok,I.len⟩
theorem Inv.Wd{pins':List (Addr×Obj)}(ok:X.Ok)(I:Inv (X.hand a pins) pins' σ H s):Inv X pins σ H s:=
 ⟨ok,I.os,I.bare,I.base,I.loc,I.cell,I.free,I.n9,fun p hp=>I.pin p (Zi _ hp),I.hok,I.len⟩
theorem Nw.C9{xe:Value->Shared->Prop}{pins':List (Addr×Obj)}{b:Addr}(n:Nw (X.Lc pins xe) pins' b):Nw X pins b:=⟨n.s0,n.loc,n.X8,fun p hp=>n.pin p (Zi _ hp)⟩
theorem QT{h':Heap}{m':Str->Option Value}{t':Nat}(I:Inv X pins σ H s)(hn':h'.Ns X.env.locals m')(hs:Heap.SameBut X.env.locals s.heap h'):
  Inv X pins (List.replicate σ.length none) H {s with heap:=h',toks:=t'}:=by
 obtain ⟨m,⟨oL,_,_,hoL,_⟩,_⟩:=I.loc
 have Q4:=I.Q4
 have tracked:vI X.prog X.w H h':=fun b ob e=>by
  refine (I.hok b ob e).stay (fun c w' hc q=>(hs.2 c ?_).trans q) (fun _ q=>q) fun _ _ q=>q
  rintro rfl
  rcases hc with z | hc
  ·rw [<-z,I.free] at e;cases e
  ·rw [I.free] at hc;cases hc
 refine ⟨I.ok,I.os,I.bare,⟨fun b o e n hb hx=>?_,fun b o e n hb hx=>?_,I.base.free,fun b o e hx=>?_,I.base.tups,I.base.Ao,I.base.C5⟩,⟨m',hn',fun j y v' e1 e2 e3=>?_⟩,fun y c e=>?_,I.free,I.n9,fun p hp=>?_,tracked,by simpa using I.len⟩
 ·exact (hs.2 b (Nat.ne_of_lt (YV (Heap.lt_size e) I.ok.above))).trans (I.base.keep b o e n hb hx)
 ·obtain ⟨sl,e1⟩:=I.base.slot b o e n hb hx
  exact ⟨sl,(hs.2 b (Nat.ne_of_lt (YV (Heap.lt_size e) I.ok.above))).trans e1⟩
 ·obtain ⟨o',e1⟩:=I.base.there b o e hx
  exact ⟨o',(hs.2 b (Nat.ne_of_lt (YV (Heap.lt_size e) I.ok.above))).trans e1⟩
 ·have:=List.getElem?_replicate (a:=(none:Option V)) (n:=σ.length) (i:=j)
  rw [this] at e2
  split at e2 <;> cases e2
 ·obtain ⟨w',z⟩:=I.cell y c e
  exact ⟨w',z.sameBut hs (Q4 y c e)⟩
 ·obtain ⟨e,n,ne,nf,d⟩:=I.pin p hp
  exact ⟨(hs.2 p.1 ne).trans e,n,ne,nf,d⟩
theorem To {i:Nat} {x n:Str} {p pos hpos rpos:Pos} {e:Expr} {te:TE} {E:XK} {Q0:VK} {body:List Stmt} {tb:TS}
  (c:Mf X.K C N fI) (hex:X.ex= []) (hst:X.stack=X.env::X.outer) (hf:X.env.frame=some X.env.locals) (hg:Gl X x) (hm:X.mg x=some (.ref C)) (hN:X.N.Nodup) (hi:X.N[i]?=some n) (hloc:X.env.scope.names.lookup n=some .local)
  (hb: ∀pins xe,Passes (B8 X.prog X.w) (X.Lc pins xe) E->Mv (X.Lc pins xe) body tb)
  (he: ∀a pins,PE (X.hand a pins) e te)
  (hE: ∀(c:Value) (od:Option Addr) (H:Hp) (a:Addr) (σ:St),E c od H->H a=none->i < σ.length-> ∃dx,c= .ref C/\od=some dx/\te (σ.set i (some (.ref a))) (upd H a (Ve a C dx)) Q0)
  (hdb:(x == ("__debug__":Str))=false:=by decide):
  PS X (.Try body [.ExceptHandler (some (.Name x p)) (some n) [.Return (some e) rpos] hpos] [] [] pos) (fun D σ H=>(∀v H',Q0 v H'->D.rt v H')/\tb D σ H):=by
 intro pins s σ H D I ⟨hQ,h⟩
 have ok:=I.ok
 refine wpAny_Try_except (wpAny_mono (hb pins _ ?_ [] s σ H D (I.WC _) h) (fun f s1 q=>?_) fun _ _ z=>z)
 ·rintro pins' σ' H0 s0 e0 s' I0 ⟨a,c',od,T,H',rfl,os,bare,un,hok,ex,na,nT,ha,hT,q0⟩
  have I1:Inv X pins σ' H' s':=(I0.RE os un hok bare fun _ z=>nomatch z).C9 ok
  have wa:Nw X pins a:=(GJ I0 hex na).C9
  have wT:Nw X pins T:=(GJ I0 hex nT).C9
  obtain ⟨dx,rfl,rfl,q⟩:=hE c' od H' a σ' q0 ha (by rw [I1.len];exact (YL.mp hi).1)
  have hfr:X.A.frames=some (X.env::X.outer):=by rw [<-hst];exact ok.frames
  have hfs:frs X.stack=fr (X.env::X.outer):=by rw [hst];rfl
  refine U_ (base:=X.base) (L:=X.env.locals) hfr (hst▸I1.stack) hf ex fun h1 T1 x1 n1 k1=>?_
  refine flight (s:={s' with heap:=h1}) (fs:=fr (X.env::X.outer)) x1 fun h2 x2 k2=>?_
  have I2:Inv X pins σ' H' {s' with heap:=h2}:=JM I1 (hfs▸FE k1 n1 k2) fun b hb=>by
   rcases YR.mp hb with e | e
   ·rw [e];exact ⟨wa,ha⟩
   ·rw [YO.mp e];exact ⟨wT,hT⟩
  have wT1:Nw X pins T1:=GJ I1 hex n1
  have hT1:H' T1=none:=zq I1.hok n1
  refine wpAny_handleBy_cons (codeAny_handlers_test ?_) (by intro z;cases z)
  have J2:=I2.R3 a
  refine Lr (zw (E:=fun _ _=>False) J2 hg hm (Q:=fun u s3=>u= .ref C/\s3= {s' with heap:=h2}) ⟨rfl,rfl⟩ hdb) fun u s3 z=>?_
  obtain ⟨rfl,rfl⟩:=z
  obtain ⟨vs,hob,hv1⟩:=x2.obj
  obtain ⟨nm,qn,bs,sn,sub,ab,col,dd,k0,k1',k2',k3,k5,mN,hC,hNs,_⟩:=c.at J2.GX
  refine wpAny_excMatches_sub_self hC hob rfl (by decide) (codeAny_handlers_suite_as ?_)
  refine flight (s:={s' with heap:=h2}) (fs:=fr (X.env::X.outer)) x2 fun h3 x3 k3'=>?_
  have I3:Inv X pins σ' H' {s' with heap:=h3}:=JM (s:={s' with heap:=h2}) I2 (hfs▸k3') fun b hb=>by rw [YO.mp hb];exact ⟨wT1,hT1⟩
  obtain ⟨vs3,hob3,_⟩:=x3.obj
  have I4:=QA I3 wa ha (Vh hob3)
  refine B6 I4 hN hi (Or.inl hloc) (v:= .ref a) rfl (fun s5 I5=>?_) (Or.inr hloc)
  refine Lr (aj (aD (he a pins)) [] s5 _ _ ⟨fun _ _=>False,Q0,fun _ _=>False,fun _ _=>False⟩ (I5.R3 a) q) fun f s6 z=>?_
  cases f with
  | next=>obtain ⟨_,_,_,z⟩:=z;exact z.elim
  | brk=>obtain ⟨_,_,_,z⟩:=z;exact z.elim
  | cont=>obtain ⟨_,_,_,z⟩:=z;exact z.elim
  | ret u=>
   obtain ⟨v,σ6,H6,I6,r6,q6⟩:=z
   have J6:=I6.Wd ok
   obtain ⟨m6,hn6,_⟩:=id J6.loc
   refine wpAny_nameGoes hloc hn6 (by rw [ok.kind];rfl) fun h7 m7 hn7 hs7=>?_
   exact ⟨v,_,H6,QT J6 hn7 hs7,r6,hQ v H6 q6⟩
 ·cases f with
  | next=>
   obtain ⟨σ',H',I',q⟩:=q
   exact wpAny_execs_nil ⟨σ',H',I'.C9 ok,q⟩
  | brk=>
   obtain ⟨σ',H',I',q⟩:=q
   exact ⟨σ',H',I'.C9 ok,q⟩
  | cont=>
   obtain ⟨σ',H',I',q⟩:=q
   exact ⟨σ',H',I'.C9 ok,q⟩
  | ret u=>
   obtain ⟨v,σ',H',I',r,q⟩:=q
   exact ⟨v,σ',H',I'.C9 ok,r,q⟩
end
end L2
namespace L2
open PySem PySem.Spec PyProof.Rows
section
variable {X:Cx}
theorem PK:OS X "str.ljust" (fun x xs H Q=> ∃a i b,x= .str a/\xs= [.int i,.str b]/\PadOk i=true/\b.length=1/\Q (.str (Txt.ljustF a i (b.cps.getD 0 0))) H):=by
 intro pins s σ H x xs v us Q I rx rs h
 obtain ⟨a,i,b,rfl,rfl,hp,hb,h⟩:=h
 obtain ⟨t,rfl⟩:=rx
 obtain ⟨u,w',rfl,ru,rw'⟩:=rs.two
 obtain ⟨t1,rfl⟩:=ru
 obtain ⟨t2,rfl⟩:=rw'
 exact ljust_fill hp hb fun t' k=>⟨.str _,H,I.tok k,⟨t',rfl⟩,h⟩
theorem RL:OS X "str.zfill" (fun x xs H Q=> ∃a i,x= .str a/\xs= [.int i]/\PadOk i=true/\Q (.str (Txt.zfill a i)) H):=by
 intro pins s σ H x xs v us Q I rx rs h
 obtain ⟨a,i,rfl,rfl,hp,h⟩:=h
 obtain ⟨t,rfl⟩:=rx
 obtain ⟨u,rfl,ru⟩:=rs.one
 obtain ⟨t1,rfl⟩:=ru
 exact PySem.SC.zfill hp fun t' k=>⟨.str _,H,I.tok k,⟨t',rfl⟩,h⟩
theorem NW:OS X "str.rstrip" (fun x xs H Q=> ∃a b,x= .str a/\xs= [.str b]/\a.length<=sizeLine/\Q (.str (Txt.rstripChars a b)) H):=by
 intro pins s σ H x xs v us Q I rx rs h
 obtain ⟨a,b,rfl,rfl,hz,h⟩:=h
 obtain ⟨t,rfl⟩:=rx
 obtain ⟨u,rfl,ru⟩:=rs.one
 obtain ⟨t1,rfl⟩:=ru
 exact PySem.SC.rstripChars (fun t' k=>⟨.str _,H,I.tok k,⟨t',rfl⟩,h⟩) hz
def Bg(i:Int):Prop:=i.natAbs < 2 ^ 4000
theorem Bg.bits{i:Int}(h:Bg i):Builtin.Int.intBits i<=4001:=by
 unfold Builtin.Int.intBits
 split
 ·exact YW _
 ·rename_i hz
  have h0:i.natAbs≠0:=fun z=>hz (by simp [Int.natAbs_eq_zero.mp z])
  have:=(Nat.log2_lt h0).mpr h
  lia
theorem cg:zN X (binaryOp .Mult) (rI (fun i j=>Bg i/\Bg j) fun i j=> .int (i * j)):=W4 fun i j _ _ _ _ _ hc q=>mul_int q (by
 have h1:=hc.1.bits
 have h2:=hc.2.bits
 unfold IntMulOk
 intro z
 have h3:=(Bool.and_eq_true_iff.mp z).2
 unfold Builtin.Int.intTooBig at h3
 have h4:=Zc h3
 revert h4
 have hb:(8002:Int)<=(bitsLine:Int):=by decide +kernel
 lia)
theorem Lo:zN X (inplaceOp .Mult) (rI (fun i j=>Bg i/\Bg j) fun i j=> .int (i * j)):=W4 fun i j _ _ _ _ _ hc q=>imul_int q (by
 have h1:=hc.1.bits
 have h2:=hc.2.bits
 unfold IntMulOk
 intro z
 have h3:=(Bool.and_eq_true_iff.mp z).2
 unfold Builtin.Int.intTooBig at h3
 have h4:=Zc h3
 revert h4
 have hb:(8002:Int)<=(bitsLine:Int):=by decide +kernel
 omega)
theorem o9:zN X (binaryOp .FloorDiv) (rI (fun _ j=>0 < j/\Bg j) fun i j=> .int (i / j)):=W4 fun i j _ _ _ _ _ hc q=>by
 have hj:j≠0:=by have:=hc.1;omega
 rw [show i / j=i.fdiv j from (Int.fdiv_eq_ediv_of_nonneg _ (Int.le_of_lt hc.1)).symm] at q
 refine floordiv_int hj q (.inl (PyProof.noPylong_of_log2 ?_))
 have h0:j.natAbs≠0:=by omega
 have:=(Nat.log2_lt h0).mpr hc.2
 omega
theorem UE:zN X (binaryOp .Add) (fun x y H Q=> ∃a b ys,x= .ref a/\y= .ref b/\jn X.K H a []/\jn X.K H b ys/\Q (.ref b) H):=by
 intro pins s σ H x y v u Q I rx ry h
 obtain ⟨a,b,ys,rfl,rfl,ha,hb,q⟩:=h
 cases rx
 cases ry
 obtain ⟨its,r1,p1,_⟩:=I.tuple ha
 obtain ⟨its2,r2,p2,_⟩:=I.tuple hb
 cases r1
 obtain ⟨⟨cls,dd,data,sl⟩,ho,hc,n,hd⟩:=id p1
 obtain ⟨⟨cls2,dd2,data2,sl2⟩,ho2,hc2,n2,hd2⟩:=id p2
 simp only at hc hd hc2 hd2
 subst hc hd hc2 hd2
 exact concat_meets ⟨_,ho,rfl⟩ ⟨_,ho2,rfl⟩ noFill_tuple_add seq_tuple_add PySem.F.slot_tuple_add PySem.F.entry_tuple_add (PySem.F.args_tuple_add_2 _ _)
  (tuple_addW0 a b #[] its2.toArray n n2 dd dd2 sl sl2 rfl) ⟨ho,ho2,⟨.ref b,H,I,rfl,q⟩⟩
def VC(K:W.Frag):V->List V->Hp->VK->Prop:=fun x xs H Q=> ∃(a:Addr) (ys:List V) (y:V),x=V.ref a/\xs= [y]/\b_ K H a ys/\qE y=true/\ys.all qE=true/\Q (.int ((ys.countP fun z=>M0 z y:Nat):Int)) H
theorem FH{y:V}: ∀ {ys:List V} {us:List Value},Vals ys us->ys.all qE=true->us.countP (Q6 y)=ys.countP fun z=>M0 z y
 | _,_,.nil,_=>rfl
 | _,_,@Paired.cons _ _ _ z _ r _ r1 rs,h=>by
  rw [List.all_cons,Y_] at h
  rw [List.countP_cons,List.countP_cons,FH rs h.2,GS r1 h.1]
theorem P0:OS X "list.count" (VC X.K):=by
 intro pins s σ H x xs v us Q I rx rxs h
 obtain ⟨a,ys,y,rfl,rfl,hs,fy,fys,q⟩:=h
 cases rx
 obtain ⟨uy,rfl,ry⟩:=rxs.one
 obtain ⟨its,rv,⟨⟨cls,dd,data,sl⟩,n,ho,hc,hdn,hd⟩,hlen⟩:=I.list hs
 simp only at hc hd
 subst hc hd
 refine call_meets PySem.F.slot_list_count ⟨_,ho,rfl⟩ PySem.F.entry_list_count (PySem.F.args_list_count_2 _ _)
  (SeqAt.list_countAt a its.toArray n dd sl uy (Q6 y)) ⟨ho,fun u' hu'=>yl ry fy rv fys u' (by simpa using hu'),?_⟩
 rw [List.toList_toArray,FH rv fys]
 exact ⟨.int _,H,I.tok _,⟨_,rfl⟩,q⟩
def Jj(v d:Addr):HO:= .ext fun h=>h.IsValuesView v d
theorem Qk:OS X "dict.values" (fun x xs H Q=> ∃d kvs,x= .ref d/\xs= []/\H d=some (.dK kvs)/\ ∀v,H v=none->Q (.ref v) (upd H v (Jj v d))):=by
 intro pins s σ H x xs v us Q I rx rs h
 obtain ⟨d,kvs,rfl,rfl,hd,q⟩:=h
 cases rx
 cases rs
 obtain ⟨hz,hs,vs,kv,hD⟩:=R7 I.hok hd
 refine call_meetsIn PySem.F.slot_dict_values hD.typeIs PySem.F.entry_dict_values (PySem.F.args_dict_values_1 _) (meets_dict_values (fU X.prog X.w) d hs) ⟨⟨vs,hD⟩,?_⟩
 have iv:(s.heap.push {cls:= .type "dict_values",data:= .fields #[.ref d]}).IsValuesView s.heap.objs.size d:=⟨_,Heap.get?_push_size _ rfl,rfl,rfl⟩
 exact ⟨.ref s.heap.objs.size,_,I.laid (t':=s.toks) (o:=Jj s.heap.objs.size d) (fun b ob q=>Heap.get?_push_of_some _ q) (YM _) ⟨iv,⟨_,Heap.get?_push_size _ rfl⟩,fun _ _ ⟨o,e,r⟩ k=>⟨o,k _ e,r⟩⟩,rfl,q _ (I.hok.fresh (YM _))⟩
theorem NG(hcalm:X.calm=true):u_ X (.type "list") (fun xs H Q=> ∃v d kvs,xs= [.ref v]/\H v=some (Jj v d)/\H d=some (.dK kvs)/\ ∀l,H l=none->Q (.ref l) (upd H l (.lst (kvs.map (·.2))))):=by
 intro pins s σ H xs us Q I r h
 obtain ⟨v,d,kvs,rfl,hv,hd,q⟩:=h
 obtain ⟨u,rfl,rx⟩:=vals1 r
 cases rx
 obtain ⟨hz,hs,vs,kv,hD⟩:=R7 I.hok hd
 obtain ⟨ep,hat⟩:=hD.dictAt
 have hl:kvs.length=vs.length:=Paired.length kv
 refine PySem.W.kdl_call (PySem.W.kdl_values (knd:=fU X.prog X.w) (kvs:=vs) (ep:=ep)) (I.ok.hd hcalm) ⟨(I.hok v _ hv).1,hat⟩ (by rw [<-hl];exact hz) fun h' tk acc' c' hk hS hacc=>?_
 have e1:acc'.toList=vs.map (·.2):=PySem.W.kdl_vals_eq acc'.toList (by rw [Array.length_toList];exact hacc.1) fun j v e=>hacc.2 j v (by rw [<-Zm];exact e)
 have e2:acc'=(vs.map (·.2)).toArray:=by rw [<-e1]
 subst e2
 have rr:Vals (kvs.map (·.2)) (vs.map (·.2)):=by
  clear q hz hl hD hat hacc e1 hS hd
  induction kv with
  | nil=>exact .nil
  | cons r1 _ ih=>exact .cons r1.2 ih
 exact ⟨.ref s.heap.objs.size,_,I.laid (t':=tk) (o:= .lst (kvs.map (·.2))) hk (YM _) ⟨by rw [YI];exact hz,_,c',rr,hS⟩,rfl,q _ (I.hok.fresh (YM _))⟩
def Yd(K:W.Frag)(te:TE)(tl tc:TO):TE:=fun σ H Q=>te σ H fun x H1=>tl σ H1 fun l H2=>tc σ H2 fun c H3=> ∃(a:Addr) (ns:List Int),x= .ref a/\c≠some 0/\b_ K H3 a (ns.map V.int)/\
 ∀p,H3 p=none->Q (.ref p) (upd H3 p (.lst ((pickNums ns l none c).map V.int)))
theorem zp{e st:Expr}{lo:Option Expr}{te:TE}{tl tc:TO}{p2 pos:Pos}(he:PE X e te)(hl:PO X lo tl)(hst:PO X (some st) tc):PE X (.Subscript e (.Slice lo none (some st) p2) pos) (Yd X.K te tl tc):=by
 intro pins s σ H Q I h
 refine Subscript_ (gD (he pins s σ H _ I h) fun v s1 ⟨x,H1,I1,r1,q1⟩=>?_)
 refine wpAny_Slice (gD (hl pins s1 σ H1 _ I1 q1) fun vl s2 ⟨l,H2,I2,pl,q2⟩=>?_)
 rw [evalPart_none]
 refine wpAny_pure (gD (hst pins s2 σ H2 _ I2 q2) fun vc s3 ⟨c,H3,I3,pc,q3⟩=>?_)
 obtain ⟨a,ns,rfl,hc,hx,q⟩:=q3
 cases r1
 have I4:Inv X pins σ H3 {s3 with heap:=s3.heap.push {cls:= .type "slice",data:= .fields #[vl,.none,vc]}}:=I3.kept (t':=s3.toks) fun b ob q=>Heap.get?_push_of_some _ q
 obtain ⟨its,r,ht,hz⟩:=I4.list hx
 have hlen:=r.length
 have hi:IntsAre its ns:=r.ints
 have hzn:ns.length<=sizeLine:=by rw [YI] at hz;exact hz
 show wpAny (model X.prog X.w) X.A (subscriptTail e (.Slice lo none (some st) p2) (.ref a) (.ref s3.heap.objs.size)) (EP X pins σ Q) X.xe {s3 with heap:=s3.heap.push {cls:= .type "slice",data:= .fields #[vl,.none,vc]}}
 refine tail_any (ops:= [.ref a,.ref s3.heap.objs.size]) ht.isList.typeIs slot_list_getitem.lookup ?_ (by with_unfolding_all rfl)
 refine wpAny_getItem_list_slice ht.isList (Heap.IsSliceOf.new ..) pl .none pc hc ?_ (by rw [Y5] <;> rw [YI] at hlen <;> lia)
 refine ⟨.ref _,_,I4.laid (t':=s3.toks) (o:= .lst ((pickNums ns l none c).map V.int)) (fun b ob q=>Heap.get?_push_of_some _ q) (YM _) ?_,rfl,q _ (I4.hok.fresh (YM _))⟩
 have hp:=hi.pick l none c
 exact ⟨by rw [YI];exact Y4 (length_pickNums_le hi l none c) hzn,(slicePick its.toArray l none c).toList,0,BA hp,Heap.get?_push_size _ rfl⟩
end
end L2
section
namespace L2
open PySem PySem.Spec PyProof.Rows
open PySem.W (WData Codec OpenSpec Well WellAll ReadsW ReadsAllW)
mutual
inductive Dw (K:W.Frag) (H:Hp):V->WData->Prop
 | dh:Dw K H .dh .none
 | bl (b:Bool):Dw K H (.bl b) (.bool b)
 | int (i:Int):Dw K H (.int i) (.int i)
 | str (x:Str):Dw K H (.str x) (.str x)
 | K9 (b:Array UInt8):Dw K H (.K9 b) (.bytes b.toList)
 | lst {a:Addr} {xs:List V} {ds:List WData}:b_ K H a xs->xg K H xs ds->Dw K H (.ref a) (.list ds)
 | tup {a:Addr} {xs:List V} {ds:List WData}:jn K H a xs->xg K H xs ds->Dw K H (.ref a) (.tuple ds)
inductive xg (K:W.Frag) (H:Hp):List V->List WData->Prop
 | nil:xg K H [] []
 | cons {v:V} {vs:List V} {d:WData} {ds:List WData}:Dw K H v d->xg K H vs ds->xg K H (v::vs) (d::ds)
end
theorem ON{K:W.Frag}{H:Hp}: ∀ns:List Int,xg K H (ns.map V.int) (ns.map WData.int)
 | []=> .nil
 | n::r=> .cons (.int n) (ON r)
theorem Ov{K:W.Frag}{H:Hp}: ∀(ns:List Int) (xs:List V),xg K H xs (ns.map WData.int)->xs=ns.map V.int
 | [],xs,h=>by
  cases h
  rfl
 | n::r,xs,h=>by
  cases h with
  | cons h1 h2=>
   cases h1
   rw [Ov r _ h2] <;> rfl
section
variable {P:Program} {w:World} {K:W.Frag} {H:Hp} {h:Heap} {R:PySem.W.WRecords} {cl:Str->Option Addr}
theorem Wm{a:Addr}{xs:List V}(hok:vI P w H h)(KX:K.In h)(q:b_ K H a xs): ∃(its:List Value) (o:Obj) (n:Nat),Vals xs its/\h.get? a=some o/\o.cls= .type "list"/\o.data= .seq its.toArray n:=by
 rcases q with q | ⟨o,its,n,e,hc,_,hd,_,hv⟩
 ·obtain ⟨_,its,n,hv,e⟩:=(show gV P w H h a (.lst xs) from q.ok hok)
  exact ⟨its,_,n,hv,e,rfl,rfl⟩
 ·exact ⟨its.toList,o,n,hv,KX _ _ e,hc,by simp [hd]⟩
theorem VF{a:Addr}{xs:List V}(hok:vI P w H h)(KX:K.In h)(q:jn K H a xs): ∃(its:List Value) (o:Obj) (n:Nat),Vals xs its/\h.get? a=some o/\o.cls= .type "tuple"/\o.data= .seq its.toArray n:=by
 rcases q with q | ⟨o,its,n,e,hc,hd,_,hv⟩
 ·obtain ⟨_,its,hv,o,e,hc,n,hd⟩:=(show gV P w H h a (.tup xs) from q.ok hok)
  exact ⟨its,o,n,hv,e,hc,hd⟩
 ·exact ⟨its.toList,o,n,hv,KX _ _ e,hc,by simp [hd]⟩
mutual
theorem Dw.reads(hok:vI P w H h)(KX:K.In h): ∀(d:WData) (v:V) (u:Value),Dw K H v d->RelV v u-> ∃as,ReadsW R cl h u d as
 | .none,_,_,x,r=>by
  cases x
  cases r
  exact ⟨_,ReadsW.none⟩
 | .bool b,_,_,x,r=>by
  cases x
  cases r
  exact ⟨_,ReadsW.bool b⟩
 | .int i,_,_,x,r=>by
  cases x
  obtain ⟨t,rfl⟩:=r
  exact ⟨_,ReadsW.int i t⟩
 | .str s,_,_,x,r=>by
  cases x
  obtain ⟨t,rfl⟩:=r
  exact ⟨_,ReadsW.str s t⟩
 | .bytes b,_,_,x,r=>by
  cases x
  obtain ⟨t,rfl⟩:=r
  exact ⟨_,ReadsW.bytes _ t⟩
 | .list ds,_,_,x,r=>by
  cases x with
  | lst hs ha=>
   cases r
   obtain ⟨its,o,n,rv,ho,hc,hd⟩:=Wm hok KX hs
   obtain ⟨as,hr⟩:=Dw.readsAll hok KX ds _ its ha rv
   exact ⟨_,ReadsW.list ho hc hd hr⟩
 | .tuple ds,_,_,x,r=>by
  cases x with
  | tup hs ha=>
   cases r
   obtain ⟨its,o,n,rv,ho,hc,hd⟩:=VF hok KX hs
   obtain ⟨as,hr⟩:=Dw.readsAll hok KX ds _ its ha rv
   exact ⟨_,ReadsW.tuple ho hc hd hr⟩
 | .float _,_,_,x,_=>by cases x
 | .dict _,_,_,x,_=>by cases x
 | .bytearray _,_,_,x,_=>by cases x
 | .set _,_,_,x,_=>by cases x
 | .frozenset _,_,_,x,_=>by cases x
 | .obj _ _,_,_,x,_=>by cases x
theorem Dw.readsAll(hok:vI P w H h)(KX:K.In h): ∀(ds:List WData) (vs:List V) (us:List Value),xg K H vs ds->Vals vs us-> ∃as,ReadsAllW R cl h us ds as
 | [],_,_,x,r=>by
  cases x
  cases r
  exact ⟨_,ReadsAllW.nil⟩
 | d::ds,_,_,x,r=>by
  cases x with
  | cons h1 h2=>
   cases r with
   | cons r1 r2=>
    obtain ⟨as,q1⟩:=Dw.reads hok KX d _ _ h1 r1
    obtain ⟨bs,q2⟩:=Dw.readsAll hok KX ds _ _ h2 r2
    exact ⟨_,ReadsAllW.cons q1 q2⟩
end
end
mutual
def O4:WData->Bool
 | .none=>true
 | .bool _=>true
 | .int _=>true
 | .str _=>true
 | .bytes _=>true
 | .list xs=>Ec xs
 | .tuple xs=>Ec xs
 | _=>false
def Ec:List WData->Bool
 | []=>true
 | x::r=>O4 x && Ec r
end
theorem LL{α:Type}{f:α->WData}(h: ∀a,O4 (f a)=true): ∀l:List α,Ec (l.map f)=true
 | []=>rfl
 | x::r=>by
  show (O4 (f x) && Ec (r.map f))=true
  rw [h x,LL h r] <;> rfl
theorem xU: ∀(c:Codec) (a:c.denote),O4 (c.enc a)=true
 | .unit,_=>rfl
 | .bool,_=>rfl
 | .int _ _,_=>rfl
 | .nat _ _,_=>rfl
 | .u8,_=>rfl
 | .bytes _ _,_=>rfl
 | .text _ _ _ _,_=>rfl
 | .list _ _ c,a=>LL (fun x=>xU c x) a
 | .pair c d,a=>by
  show (O4 (c.enc a.1) && (O4 (d.enc a.2) && true))=true
  rw [xU c a.1,xU d a.2] <;> rfl
 | .triple c d e,a=>by
  show (O4 (c.enc a.1) && (O4 (d.enc a.2.1) && (O4 (e.enc a.2.2) && true)))=true
  rw [xU c a.1,xU d a.2.1,xU e a.2.2] <;> rfl
 | .option c,none=>rfl
 | .option c,some x=>xU c x
theorem IS: ∀(cs:List Codec) (a:Codec.denoteAll cs),Ec (Codec.encAll cs a)=true
 | [],_=>rfl
 | c::cs,a=>by
  show (O4 (c.enc a.1) && Ec (Codec.encAll cs a.2))=true
  rw [xU c a.1,IS cs a.2] <;> rfl
theorem Ab: ∀ {xs:List WData} {d:WData},d ∈ xs->d.weight<=WData.weightAll xs
 | [],d,h=>absurd h (by simp)
 | x::r,d,h=>by
  show d.weight<=x.weight + 1 + WData.weightAll r
  rcases YR.mp h with e | m
  ·rw [e]
   lia
  ·have z:=Ab m
   lia
def toV:Value->V
 | .none=> .dh
 | .bool b=> .bl b
 | .int i _=> .int i
 | .str x _=> .str x
 | .bytes b _=> .K9 b
 | .ref a=> .ref a
 | _=> .dh
def P7(A:List Addr):Value->Prop
 | .none=>True
 | .bool _=>True
 | .int _ _=>True
 | .str _ _=>True
 | .bytes _ _=>True
 | .ref a=>a ∈ A
 | _=>False
theorem P7.mono{A B:List Addr}(h: ∀a ∈ A,a ∈ B): ∀ {u:Value},P7 A u->P7 B u:=fun {u} x=>by
 cases u with
 | ref a=>exact h a x
 | none=>trivial
 | bool b=>trivial
 | int i t=>trivial
 | str s t=>trivial
 | bytes b t=>trivial
 | _=>exact False.elim x
theorem RM{A:List Addr}{u:Value}(x:P7 A u):RelV (toV u) u:=by
 cases u with
 | ref a=>rfl
 | none=>rfl
 | bool b=>rfl
 | int i t=>exact ⟨t,rfl⟩
 | str s t=>exact ⟨t,rfl⟩
 | bytes b t=>exact ⟨t,rfl⟩
 | _=>exact False.elim x
theorem vj{A:List Addr}: ∀ {vs:List Value},(∀u ∈ vs,P7 A u)->Vals (vs.map toV) vs
 | [],_=> .nil
 | u::r,h=> .cons (RM (h u (YN ..))) (vj fun x hx=>h x (YK _ hx))
def xm(h:Heap)(A:List Addr)(a:Addr):Prop:= ∃vs:List Value,vs.length<=sizeLine/\(∀u ∈ vs,P7 A u)/\
 (h.get? a=some {cls:= .type "list",data:= .seq vs.toArray}\/h.get? a=some {cls:= .type "tuple",data:= .seq vs.toArray})
theorem xm.mono{h:Heap}{A B:List Addr}{a:Addr}(k: ∀a ∈ A,a ∈ B)(x:xm h A a):xm h B a:=by
 obtain ⟨vs,h1,h2,h3⟩:=x
 exact ⟨vs,h1,fun u hu=>(h2 u hu).mono k,h3⟩
theorem t9{P:Params}{h:Heap}: ∀ {vs:List Value} {ds:List WData},WellAll P h vs ds->vs.length=ds.length
 | _,_,.nil=>rfl
 | _,_,.cons _ b=>by
  show _ + 1=_ + 1
  rw [t9 b]
theorem Jp{P:Params}{h:Heap}{v:Value}{ds:List WData}(x:Well P h v (.list ds)): ∃(a:Addr) (vs:List Value),v= .ref a/\h.get? a=some {cls:= .type "list",data:= .seq vs.toArray}/\WellAll P h vs ds:=by
 cases x with
 | list ho hall=>exact ⟨_,_,rfl,ho,hall⟩
theorem EV{P:Params}{h:Heap}{v:Value}{ds:List WData}(x:Well P h v (.tuple ds)): ∃(a:Addr) (vs:List Value),v= .ref a/\h.get? a=some {cls:= .type "tuple",data:= .seq vs.toArray}/\WellAll P h vs ds:=by
 cases x with
 | tuple ho hall=>exact ⟨_,_,rfl,ho,hall⟩
theorem IU{P:Params}{h:Heap}{us:List Value}{d:WData}{ds:List WData}(x:WellAll P h us (d::ds)): ∃(v:Value) (vs:List Value),us=v::vs/\Well P h v d/\WellAll P h vs ds:=by
 cases x with
 | cons a b=>exact ⟨_,_,rfl,a,b⟩
theorem Pd{n:Nat}(h:n<=1048576):n<=sizeLine:=Y4 h (by decide)
section
variable {P:Params} {h:Heap}
mutual
theorem SE: ∀(d:WData) (v:Value),Well P h v d->O4 d=true->d.weight<=1048576-> ∃A:List Addr,P7 A v/\ ∀a ∈ A,xm h A a
 | .none,_,x,_,_=>by
  cases x
  exact ⟨[],trivial,fun a m=>absurd m (by simp)⟩
 | .bool b,_,x,_,_=>by
  cases x
  exact ⟨[],trivial,fun a m=>absurd m (by simp)⟩
 | .int i,_,x,_,_=>by
  cases x
  exact ⟨[],trivial,fun a m=>absurd m (by simp)⟩
 | .str s,_,x,_,_=>by
  cases x
  exact ⟨[],trivial,fun a m=>absurd m (by simp)⟩
 | .bytes b,_,x,_,_=>by
  cases x
  exact ⟨[],trivial,fun a m=>absurd m (by simp)⟩
 | .list ds,_,x,p,z=>by
  obtain ⟨a,vs,rfl,ho,hall⟩:=Jp x
  have z2:WData.weightAll ds<=1048576:=z
  obtain ⟨A,h1,h2⟩:=Bv ds _ hall p fun d hd=>Y4 (Ab hd) z2
  have k: ∀b ∈ A,b ∈ a::A:=fun b hb=>YK _ hb
  refine ⟨a::A,YN ..,fun b hb=>?_⟩
  rcases YR.mp hb with e | m
  ·rw [e]
   exact ⟨vs,Pd (by rw [t9 hall];exact Y4 (PySem.W.length_le_weightAllW ds) z2),fun u hu=>(h1 u hu).mono k,.inl ho⟩
  ·exact (h2 b m).mono k
 | .tuple ds,_,x,p,z=>by
  obtain ⟨a,vs,rfl,ho,hall⟩:=EV x
  have z2:WData.weightAll ds<=1048576:=z
  obtain ⟨A,h1,h2⟩:=Bv ds _ hall p fun d hd=>Y4 (Ab hd) z2
  have k: ∀b ∈ A,b ∈ a::A:=fun b hb=>YK _ hb
  refine ⟨a::A,YN ..,fun b hb=>?_⟩
  rcases YR.mp hb with e | m
  ·rw [e]
   exact ⟨vs,Pd (by rw [t9 hall];exact Y4 (PySem.W.length_le_weightAllW ds) z2),fun u hu=>(h1 u hu).mono k,.inr ho⟩
  ·exact (h2 b m).mono k
 | .float _,_,_,p,_=>Bool.noConfusion (show false=true from p)
 | .dict _,_,_,p,_=>Bool.noConfusion (show false=true from p)
 | .bytearray _,_,_,p,_=>Bool.noConfusion (show false=true from p)
 | .set _,_,_,p,_=>Bool.noConfusion (show false=true from p)
 | .frozenset _,_,_,p,_=>Bool.noConfusion (show false=true from p)
 | .obj _ _,_,_,p,_=>Bool.noConfusion (show false=true from p)
theorem Bv: ∀(ds:List WData) (vs:List Value),WellAll P h vs ds->Ec ds=true->(∀d ∈ ds,d.weight<=1048576)-> ∃A:List Addr,(∀u ∈ vs,P7 A u)/\ ∀a ∈ A,xm h A a
 | [],_,x,_,_=>by
  cases x
  exact ⟨[],fun u m=>absurd m (by simp),fun a m=>absurd m (by simp)⟩
 | d::ds,_,x,p,z=>by
  obtain ⟨v,vs,rfl,x1,x2⟩:=IU x
  have q:O4 d=true/\Ec ds=true:=Bool.and_eq_true_iff.mp p
  obtain ⟨A,a1,a2⟩:=SE d v x1 q.1 (z d (YN ..))
  obtain ⟨B,b1,b2⟩:=Bv ds vs x2 q.2 fun e he=>z e (YK _ he)
  have kA: ∀b ∈ A,b ∈ A++B:=fun b hb=>Zb.mpr (.inl hb)
  have kB: ∀b ∈ B,b ∈ A++B:=fun b hb=>Zb.mpr (.inr hb)
  refine ⟨A++B,fun u hu=>?_,fun b hb=>?_⟩
  ·rcases YR.mp hu with e | m
   ·rw [e]
    exact a1.mono kA
   ·exact (b1 u m).mono kB
  ·rcases Zb.mp hb with m | m
   ·exact (a2 b m).mono kA
   ·exact (b2 b m).mono kB
end
end
def UX(o:Obj):Option HO:=match o.data with
 | .seq vs _=>if (o.cls == Value.type "list")=true then some (.GZ o (.lst (vs.toList.map toV))) else some (.GZ o (.tup (vs.toList.map toV)))
 | _=>none
def wB(K:W.Frag)(h:Heap)(A:List Addr):Hp:=fun b=>if b ∈ A then (if (K.lookup b).isNone=true then (h.get? b).bind UX else none) else none
def MJ(H:Hp):Prop:= ∀b,H b=none\/ ∃o u,H b=some (.GZ o u)
theorem Mu(vs:List Value):UX {cls:= .type "list",data:= .seq vs.toArray}=some (.GZ {cls:= .type "list",data:= .seq vs.toArray} (.lst (vs.map toV))):=by
 show (if (Value.type "list" == Value.type "list")=true then some (HO.GZ {cls:= .type "list",data:= .seq vs.toArray} (.lst (vs.toArray.toList.map toV))) else some (HO.GZ {cls:= .type "list",data:= .seq vs.toArray} (.tup (vs.toArray.toList.map toV))))=_
 rw [if_pos (Zt _)]
theorem MI(vs:List Value):UX {cls:= .type "tuple",data:= .seq vs.toArray}=some (.GZ {cls:= .type "tuple",data:= .seq vs.toArray} (.tup (vs.map toV))):=by
 show (if (Value.type "tuple" == Value.type "list")=true then some (HO.GZ {cls:= .type "tuple",data:= .seq vs.toArray} (.lst (vs.toArray.toList.map toV))) else some (HO.GZ {cls:= .type "tuple",data:= .seq vs.toArray} (.tup (vs.toArray.toList.map toV))))=_
 rw [if_neg (by decide)]
section
variable {P:Program} {w:World} {K:W.Frag} {h:Heap} {A:List Addr}
theorem Et{b:Addr}{o:Obj}(hb:b ∈ A)(hk:K.lookup b=none)(e:h.get? b=some o):wB K h A b=UX o:=by
 unfold wB
 rw [if_pos hb,hk,if_pos (show (none:Option Obj).isNone=true from rfl),e] <;> rfl
theorem UB{b:Addr}{u:HO}(q:wB K h A b=some u):b ∈ A/\K.lookup b=none:=by
 unfold wB at q
 by_cases hb:b ∈ A
 ·rw [if_pos hb] at q
  cases hk:K.lookup b with
  | none=>exact ⟨hb,rfl⟩
  | some o=>
   rw [hk,if_neg (by simp)] at q
   cases q
 ·rw [if_neg hb] at q
  cases q
theorem Eg(ar: ∀a ∈ A,xm h A a){b:Addr}{u:HO}(q:wB K h A b=some u):K.lookup b=none/\ ∃vs:List Value,vs.length<=sizeLine/\(∀u ∈ vs,P7 A u)/\
    ((h.get? b=some {cls:= .type "list",data:= .seq vs.toArray}/\u= .GZ {cls:= .type "list",data:= .seq vs.toArray} (.lst (vs.map toV)))\/
     (h.get? b=some {cls:= .type "tuple",data:= .seq vs.toArray}/\u= .GZ {cls:= .type "tuple",data:= .seq vs.toArray} (.tup (vs.map toV)))):=by
  obtain ⟨hb,hk⟩:=UB q
  obtain ⟨vs,h1,h2,h3⟩:=ar b hb
  refine ⟨hk,vs,h1,h2,?_⟩
  rcases h3 with e | e
  · rw [Et hb hk e,Mu] at q
    exact .inl ⟨e,(Option.some.inj q).symm⟩
  · rw [Et hb hk e,MI] at q
    exact .inr ⟨e,(Option.some.inj q).symm⟩
theorem Py(ar: ∀a ∈ A,xm h A a):MJ (wB K h A):=fun b=>by
 cases q:wB K h A b with
 | none=>exact .inl rfl
 | some u=>
  obtain ⟨_,vs,_,_,⟨_,e⟩ | ⟨_,e⟩⟩:=Eg ar q
  ·exact .inr ⟨_,_,by rw [e]⟩
  ·exact .inr ⟨_,_,by rw [e]⟩
theorem Tz(ar: ∀a ∈ A,xm h A a):vI P w (wB K h A) h:=fun b u q=>by
 obtain ⟨_,vs,h1,h2,⟨e,rfl⟩ | ⟨e,rfl⟩⟩:=Eg ar q
 ·exact ⟨e,by rw [YI];exact h1,vs,_,vj h2,e⟩
 ·exact ⟨e,by rw [YI];exact h1,vs,vj h2,_,e,rfl,_,rfl⟩
theorem Es{c c':Value}{vs us:List Value}(e:(some {cls:=c,data:= .seq vs.toArray}:Option Obj)=some {cls:=c',data:= .seq us.toArray}):c=c'/\vs=us:=by
 have e1:=Option.some.inj e
 have e2:c=c':=congrArg Obj.cls e1
 have e3:Data.seq vs.toArray=Data.seq us.toArray:=congrArg Obj.data e1
 injection e3 with e4
 refine ⟨e2,?_⟩
 have e5:=congrArg Array.toList e4
 simpa using e5
theorem XM(KX:K.In h)(ar: ∀a ∈ A,xm h A a){a:Addr}{vs:List Value}(ha:a ∈ A)(e:h.get? a=some {cls:= .type "list",data:= .seq vs.toArray}):(∀u ∈ vs,P7 A u)/\b_ K (wB K h A) a (vs.map toV):=by
 obtain ⟨us,h1,h2,h3⟩:=ar a ha
 have hu:us=vs:=by
  rcases h3 with q | q
  ·rw [e] at q
   exact (Es q).2.symm
  ·rw [e] at q
   exact absurd (Value.type.inj (Es q).1) (by decide)
 subst hu
 refine ⟨h2,?_⟩
 cases hk:K.lookup a with
 | none=>exact .inl (.inr ⟨_,by rw [Et ha hk e,Mu]⟩)
 | some o=>
  have e2:=KX a o hk
  rw [e] at e2
  obtain rfl:=Option.some.inj e2
  exact .inr ⟨_,us.toArray,_,hk,rfl,rfl,rfl,by rw [Y5];exact h1,by simpa using vj h2⟩
theorem X3(KX:K.In h)(ar: ∀a ∈ A,xm h A a){a:Addr}{vs:List Value}(ha:a ∈ A)(e:h.get? a=some {cls:= .type "tuple",data:= .seq vs.toArray}):(∀u ∈ vs,P7 A u)/\jn K (wB K h A) a (vs.map toV):=by
 obtain ⟨us,h1,h2,h3⟩:=ar a ha
 have hu:us=vs:=by
  rcases h3 with q | q
  ·rw [e] at q
   exact absurd (Value.type.inj (Es q).1) (by decide)
  ·rw [e] at q
   exact (Es q).2.symm
 subst hu
 refine ⟨h2,?_⟩
 cases hk:K.lookup a with
 | none=>exact .inl (.inr ⟨_,by rw [Et ha hk e,MI]⟩)
 | some o=>
  have e2:=KX a o hk
  rw [e] at e2
  obtain rfl:=Option.some.inj e2
  exact .inr ⟨_,us.toArray,_,hk,rfl,rfl,by rw [Y5];exact h1,by simpa using vj h2⟩
mutual
theorem Vj{Pm:Params}(KX:K.In h)(ar: ∀a ∈ A,xm h A a): ∀(d:WData) (v:Value),Well Pm h v d->O4 d=true->P7 A v->Dw K (wB K h A) (toV v) d
 | .none,_,x,_,_=>by
  cases x
  exact .dh
 | .bool b,_,x,_,_=>by
  cases x
  exact .bl b
 | .int i,_,x,_,_=>by
  cases x
  exact .int i
 | .str s,_,x,_,_=>by
  cases x
  exact .str s
 | .bytes b,_,x,_,_=>by
  cases x
  have z:=Dw.K9 (K:=K) (H:=wB K h A) b.toArray
  exact z
 | .list ds,_,x,p,hu=>by
  obtain ⟨a,vs,rfl,ho,hall⟩:=Jp x
  obtain ⟨h2,hs⟩:=XM KX ar hu ho
  exact .lst hs (KL KX ar ds _ hall p h2)
 | .tuple ds,_,x,p,hu=>by
  obtain ⟨a,vs,rfl,ho,hall⟩:=EV x
  obtain ⟨h2,hs⟩:=X3 KX ar hu ho
  exact .tup hs (KL KX ar ds _ hall p h2)
 | .float _,_,_,p,_=>Bool.noConfusion (show false=true from p)
 | .dict _,_,_,p,_=>Bool.noConfusion (show false=true from p)
 | .bytearray _,_,_,p,_=>Bool.noConfusion (show false=true from p)
 | .set _,_,_,p,_=>Bool.noConfusion (show false=true from p)
 | .frozenset _,_,_,p,_=>Bool.noConfusion (show false=true from p)
 | .obj _ _,_,_,p,_=>Bool.noConfusion (show false=true from p)
theorem KL{Pm:Params}(KX:K.In h)(ar: ∀a ∈ A,xm h A a): ∀(ds:List WData) (vs:List Value),WellAll Pm h vs ds->Ec ds=true->(∀u ∈ vs,P7 A u)->xg K (wB K h A) (vs.map toV) ds
 | [],_,x,_,_=>by
  cases x
  exact .nil
 | d::ds,_,x,p,hu=>by
  obtain ⟨v,vs,rfl,x1,x2⟩:=IU x
  have q:O4 d=true/\Ec ds=true:=Bool.and_eq_true_iff.mp p
  exact .cons (Vj KX ar d v x1 q.1 (hu _ (YN ..))) (KL KX ar ds vs x2 q.2 fun u m=>hu u (YK _ m))
end
end
theorem QX {P:Program} {w:World} {K:W.Frag} {mg mb:Str->Option Value} {CX:QI} {k:Nat} {fa:Addr} {fd:FuncData} {ps:List Str} {sp:Sp} {s₁:Shared} {vals:List Value} {ds:List WData} {R:PySem.W.WRecords} {cl:Str->Option Addr} {d0:WData}
  (KX:K.In s₁.heap) (hns:s₁.heap.Ns mainGlobals mg) (hb:s₁.heap.Ns builtinsNs mb) (hbb: ∀x:Str,x≠"__name__"->mb x=bootBuiltins x) (hlim:s₁.heap.NoLimit) (hg:s₁.gens= #[])
  (hwl:WellAll w.params s₁.heap vals ds) (hpl:Ec ds=true) (hwt: ∀d ∈ ds,d.weight<=1048576) (hr:mj k callerA)
  (F: ∀base:Heap,K.In base->base.Ns mainGlobals mg->bw P w K mg base CX k fa fd ps sp) (hbind: ∀(s:Shared) (us:List Value),us.length=ps.length->BindsTo s fd ⟨us,[]⟩ (ps.zip us)) (hlen:ds.length=ps.length)
  (hsp: ∀(H:Hp) (xs:List V),MJ H->xg K H xs ds->sp xs H (fun v H'=>Dw K H' v d0) fun _ _ _=>False)
  (hCX: ∀H e s',CX [] H s₁ (fun _ _ _=>False) e s'->False):
  codeAny (model P w) callerA (.call (.ref fa) ⟨vals,[]⟩) (fun r s'=> ∃u as,r= .ok (.ret u)/\ReadsW R cl s'.heap u d0 as/\OldK s₁.heap s'.heap/\s'.os=s₁.os/\AllBare s'.gens) s₁:=by
 obtain ⟨A,ho,ar⟩:=Bv ds vals hwl hpl hwt
 have hO:MJ (wB K s₁.heap A):=Py ar
 have hok:vI P w (wB K s₁.heap A) s₁.heap:=Tz ar
 have hS:=KL KX ar ds vals hwl hpl ho
 have hV:=vj ho
 have hK: ∀b u,wB K s₁.heap A b=some u->K.lookup b=none:=fun b u q=>(Eg ar q).1
 have noA: ∀ {b:Addr} {o:Obj} {es:Array DictEntry} {ep:Nat},s₁.heap.get? b=some o->o.data= .dict es ep->wB K s₁.heap A b=none:=fun {b o es ep} e d=>by
  cases q:wB K s₁.heap A b with
  | none=>rfl
  | some u=>
   obtain ⟨_,vs,_,_,⟨e2,_⟩ | ⟨e2,_⟩⟩:=Eg ar q
   ·rw [e2] at e
    cases e
    have d':Data.seq vs.toArray _=Data.dict es ep:=d
    cases d'
   ·rw [e2] at e
    cases e
    have d':Data.seq vs.toArray _=Data.dict es ep:=d
    cases d'
 generalize wB K s₁.heap A=H at hO hok hS hK noA
 have base_of: ∀ {b:Addr} {o:Obj},s₁.heap.get? b=some o->H b=none->(J4 s₁.heap H).get? b=some o:=fun e n=>R0 e n
 have nsK: ∀ {b:Addr} {m:Str->Option Value},s₁.heap.Ns b m->(J4 s₁.heap H).Ns b m:=fun {b m} ⟨o,es,ep,e,d,r⟩=>⟨o,es,ep,base_of e (noA e d),d,r⟩
 have nK: ∀b o,K.lookup b=some o->H b=none:=fun b o e=>by
  cases q:H b with
  | none=>rfl
  | some u=>
   rw [hK b u q] at e
   cases e
 have hKb:K.In (J4 s₁.heap H):=fun b o e=>base_of (KX b o e) (nK b o e)
 have hM:Mod K mg (J4 s₁.heap H):=⟨hKb,nsK hns,⟨mb,nsK hb,hbb⟩,let ⟨mc,h1,h2⟩:=hlim;⟨mc,nsK h1,h2⟩⟩
 have e0:Nq P w K mg (J4 s₁.heap H) callerA [] s₁ H:=⟨rfl,hM,fun b o e=>TF e,Nat.le_of_eq (PD _ _),trivial,fun b hb=>absurd (show b ∈ ([]:List Addr) from hb) (by simp),hok,.of_eq hg⟩
 have hl:vals.length=ps.length:=by rw [t9 hwl];exact hlen
 refine codeAny_mono ((F _ hKb (nsK hns)).run callerA [] s₁ H ⟨vals,[]⟩ vals (vals.map toV) _ _ hr e0 (hbind s₁ vals hl) hV (hsp H _ hO hS)) fun r s' x=>?_
 cases r with
 | error e=>exact (hCX H e s' x).elim
 | ok fl=>
  cases fl with
  | next=>exact False.elim x
  | brk=>exact False.elim x
  | cont=>exact False.elim x
  | ret u=>
   obtain ⟨v,H',os,bare,un,hok',r',q⟩:=x
   have kept: ∀b o,s₁.heap.get? b=some o->s'.heap.get? b=some o:=fun b o e=>by
    cases q2:H b with
    | none=>exact un.keep b o e q2 (by intro z;exact absurd (show b ∈ ([]:List Addr) from z) (by simp)) (by simp)
    | some u2=>
     rcases hO b with z | ⟨ob,u3,z⟩
     ·rw [q2] at z
      cases z
     ·have z2:=un.Ao b ob _ z
      obtain ⟨e1,_⟩:=hok b _ z
      obtain ⟨e2,_⟩:=hok' b _ z2
      rw [e] at e1
      cases e1
      exact e2
   have KX':K.In s'.heap:=fun b o e=>kept b o (KX b o e)
   obtain ⟨as,hrd⟩:=Dw.reads (R:=R) (cl:=cl) hok' KX' d0 v u q r'
   exact ⟨u,as,rfl,hrd,OldK.of_keep kept,os,bare⟩
theorem EY{ds:List WData}(h:WData.layableAll ds=true): ∀d ∈ ds,d.weight<=1048576:=fun d hd=>
 (PySem.W.layableW_iff.mp (List.all_eq_true.mp h d hd)).2.2
theorem Fg: ∀(cs:List Codec) (a:Codec.denoteAll cs),(Codec.encAll cs a).length=cs.length
 | [],_=>rfl
 | c::cs,a=>by
  show (Codec.encAll cs a.2).length + 1=cs.length + 1
  rw [Fg cs a.2]
theorem Pu {r:OpenSpec} {k:Nat} {q:Program} {loose:List Str} {XP:(Str->Option Value)->Heap->Prop} {YP:World->Heap->Prop} {d:DefRec} {K:Params->W.Frag} {CX:World->QI} {ps:List Str} {sp:World->Sp}
  (hwell:r.wellSaid=true) (hdf:d.params.defaults= []) (hlen:r.args.length=ps.length) (hr:mj k callerA)
  (hY: ∀(w:World) (h:Heap),YP w h->(K w.params).In h)
  (F: ∀(w:World) (mg:Str->Option Value) (fa:Addr) (h:Heap),YP w h->(K w.params).In h->h.Ns mainGlobals mg->mg d.name=some (.ref fa)->
   ∃fd:FuncData,(∀(s:Shared) (us:List Value),us.length=ps.length->BindsTo s fd ⟨us,[]⟩ (ps.zip us))/\
    ∀base:Heap,(K w.params).In base->base.Ns mainGlobals mg->bw r.prog w (K w.params) mg base (CX w) k fa fd ps (sp w))
  (hsp: ∀(w:World) (H:Hp) (xs:List V) (a:Codec.denoteAll r.args),MJ H->Codec.withinAll r.args a=true->Codec.app r.args r.asked a=true->xg (K w.params) H xs (Codec.encAll r.args a)->
   sp w xs H (fun v H'=>Dw (K w.params) H' v (r.ret.enc (Codec.app r.args r.f a))) fun _ _ _=>False)
  (hCX: ∀(w:World) (H:Hp) (s:Shared) (e:Value) (s':Shared),CX w [] H s (fun _ _ _=>False) e s'->False):
  PySem.W.WalkOS q loose XP YP r d [] (fun f vs=>PySem.call f vs):=by
 intro w D8 s₁ mg mb G Y fa o pm cd doc dV kV ho hd hcd hD hmg hg args vals as hpre hlay hrd hwl hlo
 obtain ⟨a,e1,e2⟩:=PySem.W.os_pre_some hpre
 obtain ⟨e3,hwi⟩:=Codec.encAll_of_decAll r.args args a e1
 subst e3
 have KX:=hY w _ Y
 obtain ⟨fd,hb,hF⟩:=F w mg fa _ Y KX G.T.g hmg
 refine PySem.W.enter_call (codeAny_mono (QX (R:= []) (cl:=classAt D8.heap) (d0:=r.ret.enc (Codec.app r.args r.f a)) KX G.T.g G.T.b G.T.builtins G.T.nolimit hg hwl (IS _ _) (EY hlay) hr hF hb (by rw [Fg];exact hlen)
  (fun H xs hO hS=>hsp w H xs a hO hwi e2 hS) fun H e s'=>hCX w H s₁ e s') fun r' s' hq=>?_)
 obtain ⟨u,as',rfl,h1,h2,h3,h4⟩:=hq
 exact ⟨.inl ⟨u,_,as',rfl,fun _=>rfl,h1,(OpenSpec.post_iff hwell hwi _ _).mpr rfl,fun z=>Bool.noConfusion (show false=true from z)⟩,h2,h3,h4⟩
theorem NT {r:OpenSpec} {k:Nat} {q:Program} {loose:List Str} {XP:(Str->Option Value)->Heap->Prop} {YP:World->Heap->Prop} {d:DefRec} {K:Params->W.Frag} {CX:QI} {ps:List Str} {sp:W.Frag->Sp}
  (hwell:r.wellSaid=true) (hdf:d.params.defaults= []) (hlen:r.args.length=ps.length) (hr:mj k callerA)
  (hY: ∀(w:World) (h:Heap),YP w h->(K w.params).In h)
  (F: ∀(w:World) (mg:Str->Option Value) (fa:Addr) (h:Heap),YP w h->(K w.params).In h->h.Ns mainGlobals mg->mg d.name=some (.ref fa)->
   ∃fd:FuncData,(∀(s:Shared) (us:List Value),us.length=ps.length->BindsTo s fd ⟨us,[]⟩ (ps.zip us))/\
    ∀base:Heap,(K w.params).In base->base.Ns mainGlobals mg->bw r.prog w (K w.params) mg base CX k fa fd ps (sp (K w.params)))
  (hsp: ∀(K:W.Frag) (H:Hp) (xs:List V) (a:Codec.denoteAll r.args),MJ H->Codec.withinAll r.args a=true->Codec.app r.args r.asked a=true->xg K H xs (Codec.encAll r.args a)->
   sp K xs H (fun v H'=>Dw K H' v (r.ret.enc (Codec.app r.args r.f a))) fun _ _ _=>False)
  (hCX: ∀(H:Hp) (s:Shared) (e:Value) (s':Shared),CX [] H s (fun _ _ _=>False) e s'->False):
  PySem.W.WalkOS q loose XP YP r d [] (fun f vs=>PySem.call f vs):=
 Pu (K:=K) (CX:=fun _=>CX) (sp:=fun w=>sp (K w.params)) hwell hdf hlen hr hY F (fun w H xs a h1 h2 h3 h4=>hsp (K w.params) H xs a h1 h2 h3 h4) fun _ H s e s'=>hCX H s e s'
end L2
end
namespace Td
open PySem PySem.Spec PyProof.Rows L2
def top(i:Nat):Stmt:=PySem.Challenge.pw_tideports_s01_answers.main.body.getD i (.Pass ⟨0,0,0,0⟩)
abbrev B9:Stmt:=top 9
abbrev AD:Stmt:=top 10
abbrev pQ:Stmt:=inClass (top 4) 0
abbrev uJ:Stmt:=inClass (top 11) 0
abbrev uu:Stmt:=inClass (top 11) 1
abbrev lg:Stmt:=inClass (top 11) 2
abbrev nq:Stmt:=inClass (top 11) 3
abbrev lG:Stmt:=inClass (top 11) 4
abbrev ki:Stmt:=inClass (top 11) 5
abbrev fK:Stmt:=inClass (top 11) 6
abbrev qO:Stmt:=inClass (top 19) 0
abbrev yS:Stmt:=inClass (top 20) 0
abbrev yF:Stmt:=top 21
abbrev oH:Stmt:=top 22
abbrev pM:Stmt:=top 24
abbrev sS:Stmt:=top 26
abbrev oU:Stmt:=top 27
abbrev sC:Stmt:=inClass (top 44) 0
abbrev lB:Stmt:=top 45
abbrev zf:Stmt:=top 47
abbrev wo:Stmt:=top 48
abbrev mw:Stmt:=top 49
abbrev ym:Stmt:=top 51
abbrev Ah:Stmt:=top 52
abbrev yj:Stmt:=top 53
abbrev uH:Stmt:=top 54
abbrev Am:Stmt:=inClass (top 62) 0
abbrev Ag:Stmt:=top 63
abbrev wc:Stmt:=top 64
abbrev nE:Stmt:=top 65
abbrev uw:Stmt:=top 66
abbrev uq:Stmt:=top 67
abbrev Fx:Stmt:=top 77
abbrev Ny:Stmt:=top 78
abbrev Fc:Stmt:=top 79
abbrev pH:Stmt:=top 80
abbrev mz:Stmt:=top 81
abbrev rf:Stmt:=top 82
abbrev uK:Stmt:=top 83
abbrev x6:Stmt:=top 84
abbrev uU:Stmt:=inClass (top 91) 0
abbrev sM:Stmt:=inClass (top 91) 1
abbrev ux:Stmt:=inClass (top 92) 0
abbrev CG:Stmt:=top 93
abbrev R8:Stmt:=top 94
abbrev vM:Stmt:=top 95
abbrev oB:Stmt:=top 96
abbrev uI:Stmt:=top 97
abbrev pU:Stmt:=top 98
abbrev p7:Stmt:=top 99
abbrev qR:Stmt:=top 100
abbrev wm:Stmt:=inClass (top 106) 0
abbrev wJ:Stmt:=inClass (top 107) 0
abbrev sN:Stmt:=inClass (top 107) 1
abbrev kj:Stmt:=inClass (top 107) 2
abbrev nv:Stmt:=inClass (top 107) 3
abbrev qL:Stmt:=top 108
abbrev yb:Stmt:=top 109
abbrev As:Stmt:=top 110
abbrev sL:Stmt:=inClass (top 134) 0
abbrev yu:Stmt:=inClass (top 135) 0
abbrev uC:Stmt:=inClass (top 135) 1
abbrev zd:Stmt:=inClass (top 135) 2
abbrev p9:Stmt:=inClass (top 135) 3
abbrev qK:Stmt:=inClass (top 135) 4
abbrev CM:Stmt:=top 136
abbrev uF:Stmt:=top 137
abbrev pX:Stmt:=top 138
abbrev vK:Stmt:=top 139
abbrev uv:Stmt:=top 140
abbrev sA:Stmt:=top 141
abbrev ur:Stmt:=top 142
abbrev um:Stmt:=top 143
abbrev qI:Stmt:=top 144
abbrev vV:Stmt:=top 145
abbrev uX:Stmt:=top 146
abbrev sy:Stmt:=top 147
abbrev ye:Stmt:=top 148
abbrev Ci:Stmt:=top 149
abbrev vR:Stmt:=top 150
set_option genInjectivity false in
set_option genSizeOfSpec false in
structure Ad where
 pK:Addr
 rV:FuncData
 ny:Addr
 pF:FuncData
 c9:Addr
 gy:FuncData
 gh:Addr
 j9:FuncData
 gk:Addr
 kc:FuncData
 bQ:Addr
 cZ:FuncData
 cj:Addr
 eT:FuncData
 bR:Addr
 dc:FuncData
 bL:Addr
 cN:FuncData
 aV:Addr
 bE:FuncData
 dS:Addr
 g8:FuncData
 jr:Addr
 nR:FuncData
 lF:Addr
 nP:FuncData
 dG:Addr
 fB:FuncData
 ee:Addr
 gq:FuncData
 gI:Addr
 jf:FuncData
 dN:Addr
 fm:FuncData
 fk:Addr
 i8:FuncData
 ck:Addr
 c8:FuncData
 kO:Addr
 nV:FuncData
 jx:Addr
 lN:FuncData
 cG:Addr
 dP:FuncData
 k_:Addr
 oh:FuncData
 nI:Addr
 p6:FuncData
 kZ:Addr
 n8:FuncData
 iL:Addr
 j4:FuncData
 kL:Addr
 pG:FuncData
 nF:Addr
 pT:FuncData
 jE:Addr
 lM:FuncData
 cT:Addr
 eE:FuncData
 iG:Addr
 j_:FuncData
 iT:Addr
 j0:FuncData
 sW:Addr
 vz:FuncData
 AM:Addr
 CK:FuncData
 tE:Addr
 u7:FuncData
 eF:Addr
 gA:FuncData
 cF:Addr
 dQ:FuncData
 fL:Addr
 h_:FuncData
 iJ:Addr
 j3:FuncData
 lC:Addr
 nQ:FuncData
 gg:Addr
 jV:FuncData
 fh:Addr
 jm:FuncData
 gm:Addr
 j8:FuncData
 p8:Addr
 rS:FuncData
 Gk:Addr
 IP:FuncData
 jy:Addr
 lY:FuncData
 dF:Addr
 fF:FuncData
 iK:Addr
 jT:FuncData
 eS:Addr
 gz:FuncData
 eN:Addr
 gn:FuncData
 fP:Addr
 ic:FuncData
 iB:Addr
 lW:FuncData
 iC:Addr
 lZ:FuncData
 eX:Addr
 i9:FuncData
 bK:Addr
 cO:FuncData
 cz:Addr
 eB:FuncData
 fH:Addr
 ia:FuncData
 lJ:Addr
 nN:FuncData
 nj:Addr
 pV:FuncData
 eZ:Addr
 i_:FuncData
 ju:Addr
 nW:FuncData
 gi:Addr
 jZ:FuncData
 jt:Addr
 n6:FuncData
 cX:Addr
 gv:FuncData
 dU:Addr
 g7:FuncData
 l0:Addr
 nU:FuncData
 iR:Addr
 kg:FuncData
 eG:Addr
 gu:FuncData
 jG:Addr
 lO:FuncData
 iP:Addr
 j7:FuncData
 gP:Addr
 jk:FuncData
 iU:Addr
 kh:FuncData
 iM:Addr
 jU:FuncData
 fJ:Addr
 g_:FuncData
 jD:Addr
 lT:FuncData
 iF:Addr
 jW:FuncData
 gB:Addr
 jg:FuncData
 kM:Addr
 nO:FuncData
 pR:Addr
 rT:FuncData
 jF:Addr
 lQ:FuncData
 aW:Addr
 bA:Addr
 bD:Addr
 mq:Addr
 aM:Addr
 mV:Addr
 d9:Addr
 fR:Addr
 i6:Addr
 aP:Addr
 cP:Addr
 fX:Addr
 bY:Addr
 sG:Addr
 wD:Addr
 dD:Addr
def GV(mg:Str->Option Value)(x:Str)(v:V):Prop:= ∃u,mg x=some u/\RelV v u
def TK(K:W.Frag)(a:Addr)(xs:List V):Prop:= ∃(o:Obj) (its:Array Value) (n:Nat),K.lookup a=some o/\o.cls= .type "tuple"/\o.data= .seq its n/\its.size<=sizeLine/\Vals xs its.toList
set_option genInjectivity false in
set_option genSizeOfSpec false in
structure Txt(K:W.Frag)(mg:Str->Option Value)(A:Ad):Prop where
 rW:bI K "text_of" "text_of" B9 A.pK A.rV
 Je:Binds K A.rV ["codes"] []
 zo:mg "text_of"=some (.ref A.pK)
 tH:bI K "codes_of" "codes_of" AD A.ny A.pF
 Oq:Binds K A.pF ["text"] []
 AU:mg "codes_of"=some (.ref A.ny)
 lP:bI K "__init__" "TextFault.__init__" pQ A.c9 A.gy
 bX:Binds K A.gy ["self","kind","place"] []
 qj:bI K "__init__" "Reader.__init__" uJ A.gh A.j9
 zV:Binds K A.j9 ["self","text"] []
 mH:bI K "here" "Reader.here" uu A.gk A.kc
 dj:Binds K A.kc ["self"] []
 dw:Meth K A.bA "here" A.gk
 e9:bI K "read_one_of" "Reader.read_one_of" lg A.bQ A.cZ
 aK:Binds K A.cZ ["self","words"] []
 aJ:Meth K A.bA "read_one_of" A.bQ
 gM:bI K "read_name" "Reader.read_name" nq A.cj A.eT
 ng:Binds K A.eT ["self"] []
 nu:Meth K A.bA "read_name" A.cj
 fj:bI K "read_digits" "Reader.read_digits" lG A.bR A.dc
 qx:Binds K A.dc ["self","most"] []
 qB:Meth K A.bA "read_digits" A.bR
 d7:bI K "read_decimal" "Reader.read_decimal" ki A.bL A.cN
 gU:Binds K A.cN ["self","most_before","most_behind"] []
 gT:Meth K A.bA "read_decimal" A.bL
 bT:bI K "read_signed_decimal" "Reader.read_signed_decimal" fK A.aV A.bE
 jK:Binds K A.bE ["self","most_before","most_behind"] []
 jR:Meth K A.bA "read_signed_decimal" A.aV
 m8:bI K "__init__" "PortWave.__init__" qO A.dS A.g8
 DW:Binds K A.g8 ["self","name","name_place","size","lag","lag_place"] []
 tT:bI K "__init__" "Port.__init__" yS A.jr A.nR
 MB:Binds K A.nR ["self","level","waves"] []
 qF:bI K "read_port" "read_port" yF A.lF A.nP
 LK:Binds K A.nP ["text","numbers"] []
 yD:mg "read_port"=some (.ref A.lF)
 iz:bI K "read_lines" "read_lines" oH A.dG A.fB
 A6:Binds K A.fB ["reader"] []
 oQ:mg "read_lines_port"=some (.ref A.dG)
 je:bI K "read_wave" "read_wave" pM A.ee A.gq
 CV:Binds K A.gq ["reader"] []
 pN:mg "read_wave_port"=some (.ref A.ee)
 kT:bI K "printed_port" "printed_port" sS A.gI A.jf
 Gj:Binds K A.jf ["port"] []
 rY:mg "printed_port"=some (.ref A.gI)
 dM:bI K "printed_decimal" "printed_decimal" oU A.dN A.fm
 oG:Binds K A.fm ["value","behind"] []
 ie:mg "printed_decimal"=some (.ref A.dN)
 oY:bI K "__init__" "SkyLine.__init__" sC A.fk A.i8
 GH:Binds K A.i8 ["self","word","place","name"] []
 e8:bI K "read_lines" "read_lines" lB A.ck A.c8
 yG:Binds K A.c8 ["text"] []
 lD:mg "read_lines_skytext"=some (.ref A.ck)
 qz:bI K "read_line" "read_line" zf A.kO A.nV
 MP:Binds K A.nV ["reader"] []
 yT:mg "read_line"=some (.ref A.kO)
 pq:bI K "read_angle" "read_angle" wo A.jx A.lN
 K6:Binds K A.lN ["reader","line"] []
 wW:mg "read_angle"=some (.ref A.jx)
 fT:bI K "read_wave" "read_wave" mw A.cG A.dP
 zP:Binds K A.dP ["reader","line"] []
 l_:mg "read_wave_skytext"=some (.ref A.cG)
 nX:bI K "read_part" "read_part" ym A.k_ A.oh
 DB:Binds K A.oh ["reader","parts","word","others"] []
 tR:mg "read_part"=some (.ref A.k_)
 lH:bI K "read_sum" "read_sum" Ah A.nI A.p6
 wX:Binds K A.p6 ["reader","terms","ends"] []
 pS:mg "read_sum"=some (.ref A.nI)
 oj:bI K "read_term" "read_term" yj A.kZ A.n8
 Dc:Binds K A.n8 ["reader","sign"] []
 tS:mg "read_term"=some (.ref A.kZ)
 iS:bI K "read_number" "read_number" uH A.iL A.j4
 uB:Binds K A.j4 ["reader"] []
 mX:mg "read_number"=some (.ref A.iL)
 vP:bI K "__init__" "Sky.__init__" Am A.kL A.pG
 M4:Binds K A.pG ["self","lines"] []
 rX:bI K "read_sky" "read_sky" Ag A.nF A.pT
 M3:Binds K A.pT ["text"] []
 An:mg "read_sky"=some (.ref A.nF)
 oF:bI K "judge_line" "judge_line" wc A.jE A.lM
 JF:Binds K A.lM ["line","known"] []
 vU:mg "judge_line"=some (.ref A.jE)
 gH:bI K "is_beyond_number" "is_beyond_number" nE A.cT A.eE
 AB:Binds K A.eE ["line","known"] []
 nL:mg "is_beyond_number"=some (.ref A.cT)
 mG:bI K "is_too_much" "is_too_much" uw A.iG A.j_
 Hx:Binds K A.j_ ["line"] []
 uL:mg "is_too_much"=some (.ref A.iG)
 jX:bI K "judge_terms" "judge_terms" uq A.iT A.j0
 zY:Binds K A.j0 ["terms","known","wanted"] []
 qo:mg "judge_terms"=some (.ref A.iT)
 r8:bI K "cosine" "cosine" Fx A.sW A.vz
 E6:Binds K A.vz ["angle"] []
 ze:mg "cosine"=some (.ref A.sW)
 Gy:bI K "sine" "sine" Ny A.AM A.CK
 VP:Binds K A.CK ["angle"] []
 N3:mg "sine"=some (.ref A.AM)
 yN:bI K "on_ray" "on_ray" Fc A.tE A.u7
 RI:Binds K A.u7 ["fine"] []
 FW:mg "on_ray"=some (.ref A.tE)
 jd:bI K "cosine_of_turn" "cosine_of_turn" pH A.eF A.gA
 Cz:Binds K A.gA ["part","whole"] []
 pZ:mg "cosine_of_turn"=some (.ref A.eF)
 bZ:bI K "cosine_of_quarter" "cosine_of_quarter" mz A.cF A.dQ
 i0:Binds K A.dQ ["part","whole"] []
 dR:mg "cosine_of_quarter"=some (.ref A.cF)
 jO:bI K "cosine_of_arc" "cosine_of_arc" rf A.fL A.h_
 D7:Binds K A.h_ ["arc"] []
 q_:mg "cosine_of_arc"=some (.ref A.fL)
 mT:bI K "sine_of_arc" "sine_of_arc" uK A.iJ A.j3
 HV:Binds K A.j3 ["arc"] []
 uP:mg "sine_of_arc"=some (.ref A.iJ)
 n_:bI K "arc_terms" "arc_terms" x6 A.lC A.nQ
 Dy:Binds K A.nQ ["arc"] []
 tV:mg "arc_terms"=some (.ref A.lC)
 qf:bI K "__init__" "Motion.__init__" uU A.gg A.jV
 qe:Binds K A.jV ["self","start","rate"] []
 lK:bI K "stand" "Motion.stand" sM A.fh A.jm
 yL:Binds K A.jm ["self","minute"] []
 yY:Meth K A.d9 "stand" A.fh
 qb:bI K "__init__" "Steady.__init__" ux A.gm A.j8
 zZ:Binds K A.j8 ["self","factor","shift"] []
 pJ:bI K "nearest" "nearest" CG A.p8 A.rS
 CO:Binds K A.rS ["number","divisor"] []
 vD:mg "nearest"=some (.ref A.p8)
 IX:bI K "cut" "cut" R8 A.Gk A.IP
 U5:Binds K A.IP ["part","whole"] []
 OH:mg "cut"=some (.ref A.Gk)
 ou:bI K "motions_of" "motions_of" vM A.jy A.lY
 KD:Binds K A.lY ["lines"] []
 wY:mg "motions_of"=some (.ref A.jy)
 fq:bI K "motion_of_terms" "motion_of_terms" oB A.dF A.fF
 tU:Binds K A.fF ["terms","motions"] []
 kD:mg "motion_of_terms"=some (.ref A.dF)
 mJ:bI K "steadies_of" "steadies_of" uI A.iK A.jT
 Ii:Binds K A.jT ["lines","motions","minute"] []
 uG:mg "steadies_of"=some (.ref A.iK)
 jl:bI K "steady_of_wave" "steady_of_wave" pU A.eS A.gz
 CS:Binds K A.gz ["line","motions","minute"] []
 pI:mg "steady_of_wave"=some (.ref A.eS)
 gx:bI K "angle_of_terms" "angle_of_terms" p7 A.eN A.gn
 vm:Binds K A.gn ["terms","motions","minute"] []
 lX:mg "angle_of_terms"=some (.ref A.eN)
 jM:bI K "steady_of_sum" "steady_of_sum" qR A.fP A.ic
 DN:Binds K A.ic ["terms","steadies"] []
 qQ:mg "steady_of_sum"=some (.ref A.fP)
 rH:bI K "__init__" "Swing.__init__" wm A.iB A.lW
 J5:Binds K A.lW ["self","weight","motion"] []
 rM:bI K "__init__" "Tides.__init__" wJ A.iC A.lZ
 Jv:Binds K A.lZ ["self","sky","port"] []
 lu:bI K "height" "Tides.height" sN A.eX A.i9
 sR:Binds K A.i9 ["self","minute"] []
 sJ:Meth K A.aP "height" A.eX
 dZ:bI K "reckon_height" "Tides.reckon_height" kj A.bK A.cO
 xG:Binds K A.cO ["self","minute"] []
 xD:Meth K A.aP "reckon_height" A.bK
 gJ:bI K "swings_for" "Tides.swings_for" nv A.cz A.eB
 A1:Binds K A.eB ["self","steadied"] []
 Al:Meth K A.aP "swings_for" A.cz
 jQ:bI K "steady_minute" "steady_minute" qL A.fH A.ia
 DE:Binds K A.ia ["minute"] []
 qT:mg "steady_minute"=some (.ref A.fH)
 qu:bI K "lines_for" "lines_for" yb A.lJ A.nN
 MG:Binds K A.nN ["waves","lines"] []
 xZ:mg "lines_for"=some (.ref A.lJ)
 tw:bI K "swing_of" "swing_of" As A.nj A.pV
 Nz:Binds K A.pV ["wave","motion","steady"] []
 AX:mg "swing_of"=some (.ref A.nj)
 oZ:bI K "__init__" "Harbour.__init__" sL A.eZ A.i_
 E2:Binds K A.i_ ["self"] []
 ud:bI K "__init__" "Tape.__init__" yu A.ju A.nW
 MS:Binds K A.nW ["self","calls"] []
 mW:bI K "at_end" "Tape.at_end" uC A.gi A.jZ
 Hj:Binds K A.jZ ["self"] []
 Ie:Meth K A.fX "at_end" A.gi
 qD:bI K "take" "Tape.take" zd A.jt A.n6
 Dh:Binds K A.n6 ["self"] []
 Dj:Meth K A.fX "take" A.jt
 jh:bI K "take_many" "Tape.take_many" p9 A.cX A.gv
 vh:Binds K A.gv ["self","length"] []
 ve:Meth K A.fX "take_many" A.cX
 jJ:bI K "take_row" "Tape.take_row" qK A.dU A.g7
 xq:Binds K A.g7 ["self"] []
 xh:Meth K A.fX "take_row" A.dU
 vG:bI K "answers" "answers" CM A.l0 A.nU
 WA:Binds K A.nU ["calls"] []
 CH:mg "answers"=some (.ref A.l0)
 mL:bI K "answer_call" "answer_call" uF A.iR A.kg
 HZ:Binds K A.kg ["harbour","tape"] []
 uO:mg "answer_call"=some (.ref A.iR)
 jb:bI K "answer_of_port" "answer_of_port" pX A.eG A.gu
 C2:Binds K A.gu ["harbour","call","numbers"] []
 pW:mg "answer_of_port"=some (.ref A.eG)
 oJ:bI K "answer_sky" "answer_sky" vK A.jG A.lO
 KP:Binds K A.lO ["harbour","text"] []
 wC:mg "answer_sky"=some (.ref A.jG)
 mS:bI K "answer_port" "answer_port" uv A.iP A.j7
 Hw:Binds K A.j7 ["harbour","text"] []
 uD:mg "answer_port"=some (.ref A.iP)
 kK:bI K "answer_print" "answer_print" sA A.gP A.jk
 E7:Binds K A.jk ["port"] []
 r_:mg "answer_print"=some (.ref A.gP)
 mF:bI K "answer_size" "answer_size" ur A.iU A.kh
 Hz:Binds K A.kh ["port"] []
 uZ:mg "answer_size"=some (.ref A.iU)
 mE:bI K "answer_wave" "answer_wave" um A.iM A.jU
 G0:Binds K A.jU ["harbour","index"] []
 uT:mg "answer_wave"=some (.ref A.iM)
 jP:bI K "answer_height" "answer_height" qI A.fJ A.g_
 DR:Binds K A.g_ ["tides","minute"] []
 qM:mg "answer_height"=some (.ref A.fJ)
 o7:bI K "answer_row" "answer_row" vV A.jD A.lT
 K0:Binds K A.lT ["tides","start","count"] []
 w9:mg "answer_row"=some (.ref A.jD)
 mP:bI K "answer_most" "answer_most" uX A.iF A.jW
 HS:Binds K A.jW ["tides","start","count"] []
 uW:mg "answer_most"=some (.ref A.iF)
 lz:bI K "answer_first" "answer_first" sy A.gB A.jg
 Fz:Binds K A.jg ["tides","start","count","bound","way"] []
 sF:mg "answer_first"=some (.ref A.gB)
 lI:bI K "is_minute" "is_minute" ye A.kM A.nO
 yJ:Binds K A.nO ["number"] []
 qp:mg "is_minute"=some (.ref A.kM)
 pY:bI K "is_span" "is_span" Ci A.pR A.rT
 Ct:Binds K A.rT ["start","count"] []
 vo:mg "is_span"=some (.ref A.pR)
 l7:bI K "heights_of" "heights_of" vR A.jF A.lQ
 BL:Binds K A.lQ ["tides","start","count"] []
 rE:mg "heights_of"=some (.ref A.jF)
 cI:mg "TextFault"=some (.ref A.aW)
 B0:mg "Reader"=some (.ref A.bA)
 az:zy K A.bA
 zk:Mk K A.bA A.gh
 iQ:bH K A.bA "text"
 aI:bH K A.bA "place"
 AH:mg "PortWave"=some (.ref A.bD)
 aZ:zy K A.bD
 yi:Mk K A.bD A.dS
 bV:bH K A.bD "name"
 dX:bH K A.bD "name_place"
 gZ:bH K A.bD "size"
 gG:bH K A.bD "lag"
 ig:bH K A.bD "lag_place"
 NX:mg "Port"=some (.ref A.mq)
 oX:zy K A.mq
 J3:Mk K A.mq A.jr
 lR:bH K A.mq "level"
 eW:bH K A.mq "waves"
 Cq:mg "SkyLine"=some (.ref A.aM)
 aE:zy K A.aM
 AG:Mk K A.aM A.fk
 cu:bH K A.aM "word"
 g9:bH K A.aM "place"
 bU:bH K A.aM "name"
 jN:bH K A.aM "phase"
 kX:bH K A.aM "rate"
 cB:bH K A.aM "terms"
 kR:bH K A.aM "turn"
 dO:bH K A.aM "factors"
 gr:bH K A.aM "shifts"
 R_:mg "Sky"=some (.ref A.mV)
 zX:zy K A.mV
 Ni:Mk K A.mV A.kL
 qC:bH K A.mV "lines"
 iH:bH K A.mV "numbers"
 vv:mg "Motion"=some (.ref A.d9)
 iE:zy K A.d9
 rR:Mk K A.d9 A.gg
 gE:bH K A.d9 "start"
 iN:bH K A.d9 "rate"
 Bj:mg "Steady"=some (.ref A.fR)
 qt:zy K A.fR
 zD:Mk K A.fR A.gm
 jH:bH K A.fR "factor"
 kN:bH K A.fR "shift"
 Kz:mg "Swing"=some (.ref A.i6)
 zF:zy K A.i6
 GF:Mk K A.i6 A.iB
 oV:bH K A.i6 "weight"
 o6:bH K A.i6 "motion"
 Ks:mg "Tides"=some (.ref A.aP)
 cR:zy K A.aP
 Fl:Mk K A.aP A.iC
 o_:bH K A.aP "port"
 jI:bH K A.aP "motions"
 qh:bH K A.aP "lines"
 gR:bH K A.aP "swings"
 fN:bH K A.aP "heights"
 C1:mg "Harbour"=some (.ref A.cP)
 bF:zy K A.cP
 AQ:Mk K A.cP A.eZ
 eV:bH K A.cP "sky"
 cy:bH K A.cP "port"
 cS:bH K A.cP "tides"
 NQ:mg "Tape"=some (.ref A.fX)
 jc:zy K A.fX
 JT:Mk K A.fX A.ju
 lV:bH K A.fX "calls"
 fZ:bH K A.fX "place"
 xc:Mf K A.aW A.bY A.c9
 xk:Xj K A.bY "kind"
 xp:Xj K A.bY "place"
 vp:GV mg "GRAMMAR" (.int 1)
 rF:GV mg "NAME_TWICE" (.int 2)
 lS:GV mg "NAME_NOT_THERE" (.int 3)
 JD:GV mg "SIGNS" (.str "\n +-.0123456789ABCDEFGHIJKLMNOPQRSTUVWXYZabcdefghijklmnopqrstuvwxyz")
 vY:GV mg "OTHER_SIGN" (.str "?")
 uQ:GV mg "NAME_LENGTH" (.int 7)
 qY:GV mg "LAG_TOO_LARGE" (.int 4)
 ir:GV mg "SIZE_DIGITS_BEFORE" (.int 2)
 c_:GV mg "SIZE_DIGITS_BEHIND" (.int 4)
 mh:GV mg "LAG_DIGITS_BEFORE" (.int 3)
 i7:GV mg "LAG_DIGITS_BEHIND" (.int 3)
 wQ:GV mg "WHOLE_TURN" (.int 360000)
 rP:GV mg "ANGLE" (.str "angle ")
 C7:GV mg "WAVE" (.str "wave ")
 Jd:GV mg "SUM" (.str "sum ")
 oK:GV mg "TURN_skytext" (.str " turn ")
 vB:GV mg "FACTOR" (.str " factor ")
 wR:GV mg "SHIFT" (.str " shift ")
 KQ:GV mg "PLUS" (.str " + ")
 J7:GV mg "MINUS" (.str " - ")
 kP:GV mg "LINE_END" (.str "\n")
 Gb:GV mg "COUNTS" (.ref A.sG)
 Su:TK K A.sG [.str "1 ",.str "2 ",.str "3 ",.str "4 ",.str "5 ",.str "6 ",.str "7 ",.str "8 ",.str "9 ",.str "10 ",.str "11 ",.str "12 ",.str "13 ",.str "14 ",.str "15 "]
 Jq:GV mg "TURNS" (.ref A.wD)
 Ul:TK K A.wD [.str "90",.str "180",.str "270"]
 vQ:GV mg "MOST_TERMS" (.int 8)
 wK:GV mg "MOST_PARTS" (.int 8)
 qX:GV mg "DIGITS_BEFORE" (.int 3)
 qS:GV mg "DIGITS_BEHIND" (.int 12)
 Aj:GV mg "TOO_MANY" (.int 4)
 AO:GV mg "TOO_MUCH" (.int 5)
 uY:GV mg "MOST_ANGLES" (.int 16)
 wj:GV mg "MOST_WAVES" (.int 128)
 uV:GV mg "FACTORS_END" (.int 1000000000000)
 uA:GV mg "MOST_COUNTS" (.int 12)
 j5:GV mg "TURN_circle" (.int 4294967296)
 sO:GV mg "QUARTER_TURN" (.int 1073741824)
 qa:GV mg "QUARTER_ARC" (.int 9860048348863269281198066682114134445731725432595044866280)
 yI:GV mg "FINE_BITS" (.int 192)
 z_:GV mg "FINE_ONE" (.int 6277101735386680763835789423207666416102355444464034512896)
 wI:GV mg "FINE_TERMS" (.int 64)
 Ax:GV mg "RAY_STEP" (.int 5846006549323611672814739330865132078623730171904)
 qZ:GV mg "HALF_RAY_STEP" (.int 2923003274661805836407369665432566039311865085952)
 oO:GV mg "NUMBER_UNITS" (.int 60)
 oN:GV mg "DEGREE_UNITS" (.int 60000000000000)
 rD:GV mg "TURN_UNITS" (.int 21600000000000000)
 rL:GV mg "NUMBER_ONE" (.int 1000000000000)
 iD:GV mg "FACTOR_ONE" (.int 1073741824)
 ql:GV mg "STEADY_SPAN" (.int 32768)
 nJ:GV mg "HALF_STEADY_SPAN" (.int 16384)
 pP:GV mg "LAGS_OF_DEGREE" (.int 1000)
 rQ:GV mg "HEIGHT_ONE" (.int 1152921504606846976)
 Ac:GV mg "SKY_CALL" (.int 0)
 yz:GV mg "PORT_CALL" (.int 1)
 w_:GV mg "PRINT_CALL" (.int 2)
 x_:GV mg "SIZE_CALL" (.int 3)
 xX:GV mg "WAVE_CALL" (.int 4)
 uo:GV mg "HEIGHT_CALL" (.int 5)
 AR:GV mg "ROW_CALL" (.int 6)
 yp:GV mg "MOST_CALL" (.int 7)
 o8:GV mg "NUMBERS_OF_CALL" (.ref A.dD)
 BW:TK K A.dD [.int 0,.int 0,.int 0,.int 0,.int 1,.int 1,.int 2,.int 2,.int 4]
 u6:GV mg "DONE" (.int 0)
 J_:GV mg "FOUND" (.int 1)
 wG:GV mg "NONE_FOUND" (.int 0)
 jS:GV mg "NOT_ALLOWED" (.int (-1))
 zE:GV mg "NOT_SET" (.int (-3))
 tu:GV mg "NO_SUCH_WAVE" (.int (-4))
 wZ:GV mg "PORT_FAULT" (.int (-5))
 yM:GV mg "SKY_FAULT" (.int (-6))
 tF:GV mg "FIRST_MINUTE" (.int (-2147483648))
 uE:GV mg "LAST_MINUTE" (.int 2147483647)
 sr:GV mg "LONGEST_SPAN" (.int 128)
 NI:GV mg "DOWN" (.int 0)
 US:GV mg "UP" (.int 1)
 xu:mg "len"=none
 zx:mg "range"=none
 OI:mg "ord"=none
 Gr:mg "abs"=none
 zT:mg "sum"=none
 Rm:mg "min"=none
 RX:mg "max"=none
 MT:mg "int"=none
 Sv:mg "str"=none
 Oj:mg "list"=none
section
variable {X:Cx}
theorem aC{x:Str}{v:V}{pos:Pos}(hg:Gl X x)(h:GV X.mg x v)(hd:(x == ("__debug__":Str))=false:=by decide):PE X (.Name x pos) (tC v):=by
 obtain ⟨u,h1,h2⟩:=h
 exact TR hg h1 h2 hd
def X9(a b:TI):TI:=fun σ H R=>a σ H R\/b σ H R
theorem WX{tg it:Expr}{a b:TI}(ha:PI X tg it a)(hb:PI X tg it b):PI X tg it (X9 a b):=fun pins s σ H R I h=>h.elim (ha pins s σ H R I) (hb pins s σ H R I)
theorem VX{tg l:Expr}{tl:TE}(hl:PE X l tl):PI X tg l (X9 (ES X.K tl) (V_ X.K tl)):=WX (dH hl) (VT hl)
theorem TK.sq{K:W.Frag}{a:Addr}{xs:List V}{H:Hp}(h:TK K a xs):jn K H a xs:= .inr h
theorem jv{N P:List Str}{sc:Scope}(a:sc.kind= .function)(b:sc.isCoroutine=false/\sc.isGenerator=false/\N.Nodup/\N.take P.length=P/\(∀x ∈ P,sc.names.lookup x=some .local\/sc.names.lookup x=some .cell)/\ ∀y ∈ sc.names,y.2≠ .free):ay N P sc:=⟨a,b.1,b.2.1,b.2.2.1,b.2.2.2.1,b.2.2.2.2.1,b.2.2.2.2.2⟩
theorem Uo{A:Around}{k:Nat}(hr:mj k A):A.units + 64 < cLine:=hr.units
end
section
variable {K:W.Frag} {mg:Str->Option Value} {A:Ad}
abbrev bB(A:Ad)(dx:Addr)(v0 v1:V):HO:= .ins A.bA dx [("text",v0),("place",v1)]
abbrev Ij(A:Ad)(dx:Addr)(v0 v1 v2 v3 v4:V):HO:= .ins A.bD dx [("name",v0),("name_place",v1),("size",v2),("lag",v3),("lag_place",v4)]
abbrev U4(A:Ad)(dx:Addr)(v0 v1:V):HO:= .ins A.mq dx [("level",v0),("waves",v1)]
abbrev cY(A:Ad)(dx:Addr)(v0 v1 v2 v3 v4 v5 v6 v7 v8:V):HO:= .ins A.aM dx [("word",v0),("place",v1),("name",v2),("phase",v3),("rate",v4),("terms",v5),("turn",v6),("factors",v7),("shifts",v8)]
abbrev LH(A:Ad)(dx:Addr)(v0 v1:V):HO:= .ins A.mV dx [("lines",v0),("numbers",v1)]
abbrev mY(A:Ad)(dx:Addr)(v0 v1:V):HO:= .ins A.d9 dx [("start",v0),("rate",v1)]
abbrev wO(A:Ad)(dx:Addr)(v0 v1:V):HO:= .ins A.fR dx [("factor",v0),("shift",v1)]
abbrev RG(A:Ad)(dx:Addr)(v0 v1:V):HO:= .ins A.i6 dx [("weight",v0),("motion",v1)]
abbrev CI(A:Ad)(dx:Addr)(v0 v1 v2 v3 v4:V):HO:= .ins A.aP dx [("port",v0),("motions",v1),("lines",v2),("swings",v3),("heights",v4)]
abbrev a_(A:Ad)(dx:Addr)(v0 v1 v2:V):HO:= .ins A.cP dx [("sky",v0),("port",v1),("tides",v2)]
abbrev kI(A:Ad)(dx:Addr)(v0 v1:V):HO:= .ins A.fX dx [("calls",v0),("place",v1)]
theorem DZ{v0 v1 v2 v3 v4 v5 v6 v7 v8 x:V}:aY ("phase":Str) x [(("word":Str),v0),(("place":Str),v1),(("name":Str),v2),(("phase":Str),v3),(("rate":Str),v4),(("terms":Str),v5),(("turn":Str),v6),(("factors":Str),v7),(("shifts":Str),v8)]= [(("word":Str),v0),(("place":Str),v1),(("name":Str),v2),(("phase":Str),x),(("rate":Str),v4),(("terms":Str),v5),(("turn":Str),v6),(("factors":Str),v7),(("shifts":Str),v8)]:=rfl
theorem Gs{v0 v1 v2 v3 v4 v5 v6 v7 v8 x:V}:aY ("rate":Str) x [(("word":Str),v0),(("place":Str),v1),(("name":Str),v2),(("phase":Str),v3),(("rate":Str),v4),(("terms":Str),v5),(("turn":Str),v6),(("factors":Str),v7),(("shifts":Str),v8)]= [(("word":Str),v0),(("place":Str),v1),(("name":Str),v2),(("phase":Str),v3),(("rate":Str),x),(("terms":Str),v5),(("turn":Str),v6),(("factors":Str),v7),(("shifts":Str),v8)]:=rfl
theorem FU{v0 v1 v2 v3 v4 v5 v6 v7 v8 x:V}:aY ("turn":Str) x [(("word":Str),v0),(("place":Str),v1),(("name":Str),v2),(("phase":Str),v3),(("rate":Str),v4),(("terms":Str),v5),(("turn":Str),v6),(("factors":Str),v7),(("shifts":Str),v8)]= [(("word":Str),v0),(("place":Str),v1),(("name":Str),v2),(("phase":Str),v3),(("rate":Str),v4),(("terms":Str),v5),(("turn":Str),x),(("factors":Str),v7),(("shifts":Str),v8)]:=rfl
end
theorem aS{K:W.Frag}{h:Heap}{mg:Str->Option Value}{x:Str}{i:Int}{t:Tok}(X:K.In h)(G:h.Ns mainGlobals mg)(e:W.nsIn K mainGlobals x=some (some (.int i t))):GV mg x (.int i):=⟨_,W.mg_of X G e,t,rfl⟩
theorem tP{K:W.Frag}{h:Heap}{mg:Str->Option Value}{x s:Str}{t:Tok}(X:K.In h)(G:h.Ns mainGlobals mg)(e:W.nsIn K mainGlobals x=some (some (.str s t))):GV mg x (.str s):=⟨_,W.mg_of X G e,t,rfl⟩
theorem Oc{K:W.Frag}{h:Heap}{mg:Str->Option Value}{x:Str}{a:Addr}(X:K.In h)(G:h.Ns mainGlobals mg)(e:W.nsIn K mainGlobals x=some (some (.ref a))):GV mg x (.ref a):=⟨_,W.mg_of X G e,rfl⟩
structure Ud(o:Obj)(xs:List V):Prop where
 ex: ∃(its:Array Value) (n:Nat),o.cls= .type "tuple"/\o.data= .seq its n/\its.size<=sizeLine/\Vals xs its.toList
theorem Rp{K:W.Frag}{a:Addr}{o:Obj}{xs:List V}(l:K.lookup a=some o)(t:Ud o xs):TK K a xs:=by
 obtain ⟨its,n,h1,h2,h3,h4⟩:=t.ex
 exact ⟨o,its,n,l,h1,h2,h3,h4⟩
theorem W7{K:W.Frag}{C N:Addr}{o on:Obj}(l:K.lookup C=some o)(ln:K.lookup N=some on)(hn:(N == C)=false)(h:P4 [(C,o),(N,on)] C N=true):P4 K C N=true:=by
 have e1:List.lookup C [(C,o),(N,on)]=some o:=by rw [List.lookup_cons,Zt]
 have e2:List.lookup N [(C,o),(N,on)]=some on:=by rw [List.lookup_cons,hn,List.lookup_cons,Zt]
 unfold P4 W.nsOkIn at h ⊢
 rw [l,ln]
 rw [e1,e2] at h
 exact h
def XJ(K:W.Frag):Sp:=fun vs H Q _=> ∃(la:Addr) (l:List Int),vs= [.ref la]/\b_ K H la (l.map V.int)/\l.length<=30000/\PyWqacco.answers_asked l=true/\ ∀D H',aN H H'->H' D=some (.lst ((PyWqacco.answers l).map V.int))->Q (.ref D) H'
theorem pB{K:W.Frag}{x q:Str}{st:Stmt}{f:Addr}{fd:FuncData}{p0:Str}(F:bI K x q st f fd)(h: ∀(kV doc pm:Value) (an:Option Addr) (cdv ct:Value) (u0:Value),bindArgs (W.fnOf x q (qc st) (kC st) (aq st) .none kV doc pm an cdv ct) ⟨[u0],[]⟩=pure [(p0,u0)]):Binds K fd [p0] []:=F.binds fun a b c d e g us hl=>match us,hl with | [u0],_=>h a b c d e g u0
theorem om{K:W.Frag}{x q:Str}{st:Stmt}{f:Addr}{fd:FuncData}{p0 p1:Str}(F:bI K x q st f fd)(h: ∀(kV doc pm:Value) (an:Option Addr) (cdv ct:Value) (u0 u1:Value),bindArgs (W.fnOf x q (qc st) (kC st) (aq st) .none kV doc pm an cdv ct) ⟨[u0,u1],[]⟩=pure [(p0,u0),(p1,u1)]):Binds K fd [p0,p1] []:=F.binds fun a b c d e g us hl=>match us,hl with | [u0,u1],_=>h a b c d e g u0 u1
theorem xF{K:W.Frag}{x q:Str}{st:Stmt}{f:Addr}{fd:FuncData}{p0 p1 p2:Str}(F:bI K x q st f fd)(h: ∀(kV doc pm:Value) (an:Option Addr) (cdv ct:Value) (u0 u1 u2:Value),bindArgs (W.fnOf x q (qc st) (kC st) (aq st) .none kV doc pm an cdv ct) ⟨[u0,u1,u2],[]⟩=pure [(p0,u0),(p1,u1),(p2,u2)]):Binds K fd [p0,p1,p2] []:=F.binds fun a b c d e g us hl=>match us,hl with | [u0,u1,u2],_=>h a b c d e g u0 u1 u2
theorem Xe{K:W.Frag}{x q:Str}{st:Stmt}{f:Addr}{fd:FuncData}{p0 p1 p2 p3:Str}(F:bI K x q st f fd)(h: ∀(kV doc pm:Value) (an:Option Addr) (cdv ct:Value) (u0 u1 u2 u3:Value),bindArgs (W.fnOf x q (qc st) (kC st) (aq st) .none kV doc pm an cdv ct) ⟨[u0,u1,u2,u3],[]⟩=pure [(p0,u0),(p1,u1),(p2,u2),(p3,u3)]):Binds K fd [p0,p1,p2,p3] []:=F.binds fun a b c d e g us hl=>match us,hl with | [u0,u1,u2,u3],_=>h a b c d e g u0 u1 u2 u3
theorem X6{K:W.Frag}{x q:Str}{st:Stmt}{f:Addr}{fd:FuncData}{p0 p1 p2 p3 p4:Str}(F:bI K x q st f fd)(h: ∀(kV doc pm:Value) (an:Option Addr) (cdv ct:Value) (u0 u1 u2 u3 u4:Value),bindArgs (W.fnOf x q (qc st) (kC st) (aq st) .none kV doc pm an cdv ct) ⟨[u0,u1,u2,u3,u4],[]⟩=pure [(p0,u0),(p1,u1),(p2,u2),(p3,u3),(p4,u4)]):Binds K fd [p0,p1,p2,p3,p4] []:=F.binds fun a b c d e g us hl=>match us,hl with | [u0,u1,u2,u3,u4],_=>h a b c d e g u0 u1 u2 u3 u4
theorem XA{K:W.Frag}{x q:Str}{st:Stmt}{f:Addr}{fd:FuncData}{p0 p1 p2 p3 p4 p5:Str}(F:bI K x q st f fd)(h: ∀(kV doc pm:Value) (an:Option Addr) (cdv ct:Value) (u0 u1 u2 u3 u4 u5:Value),bindArgs (W.fnOf x q (qc st) (kC st) (aq st) .none kV doc pm an cdv ct) ⟨[u0,u1,u2,u3,u4,u5],[]⟩=pure [(p0,u0),(p1,u1),(p2,u2),(p3,u3),(p4,u4),(p5,u5)]):Binds K fd [p0,p1,p2,p3,p4,p5] []:=F.binds fun a b c d e g us hl=>match us,hl with | [u0,u1,u2,u3,u4,u5],_=>h a b c d e g u0 u1 u2 u3 u4 u5
theorem all_mk {P:Program} {w:World} {K:W.Frag} {h:Heap} {mg:Str->Option Value} {fa:Addr} (X:K.In h) (G:h.Ns mainGlobals mg) (Vf:mg "answers"=some (.ref fa)) (ok: ∀ {base:Heap} {A:Ad},Txt K mg A->bw P w K mg base lA 16 A.l0 A.nU ["calls"] (XJ K))
  {pK:Addr} {rV:FuncData}
  {ny:Addr} {pF:FuncData}
  {c9:Addr} {gy:FuncData}
  {gh:Addr} {j9:FuncData}
  {gk:Addr} {kc:FuncData}
  {bQ:Addr} {cZ:FuncData}
  {cj:Addr} {eT:FuncData}
  {bR:Addr} {dc:FuncData}
  {bL:Addr} {cN:FuncData}
  {aV:Addr} {bE:FuncData}
  {dS:Addr} {g8:FuncData}
  {jr:Addr} {nR:FuncData}
  {lF:Addr} {nP:FuncData}
  {dG:Addr} {fB:FuncData}
  {ee:Addr} {gq:FuncData}
  {gI:Addr} {jf:FuncData}
  {dN:Addr} {fm:FuncData}
  {fk:Addr} {i8:FuncData}
  {ck:Addr} {c8:FuncData}
  {kO:Addr} {nV:FuncData}
  {jx:Addr} {lN:FuncData}
  {cG:Addr} {dP:FuncData}
  {k_:Addr} {oh:FuncData}
  {nI:Addr} {p6:FuncData}
  {kZ:Addr} {n8:FuncData}
  {iL:Addr} {j4:FuncData}
  {kL:Addr} {pG:FuncData}
  {nF:Addr} {pT:FuncData}
  {jE:Addr} {lM:FuncData}
  {cT:Addr} {eE:FuncData}
  {iG:Addr} {j_:FuncData}
  {iT:Addr} {j0:FuncData}
  {sW:Addr} {vz:FuncData}
  {AM:Addr} {CK:FuncData}
  {tE:Addr} {u7:FuncData}
  {eF:Addr} {gA:FuncData}
  {cF:Addr} {dQ:FuncData}
  {fL:Addr} {h_:FuncData}
  {iJ:Addr} {j3:FuncData}
  {lC:Addr} {nQ:FuncData}
  {gg:Addr} {jV:FuncData}
  {fh:Addr} {jm:FuncData}
  {gm:Addr} {j8:FuncData}
  {p8:Addr} {rS:FuncData}
  {Gk:Addr} {IP:FuncData}
  {jy:Addr} {lY:FuncData}
  {dF:Addr} {fF:FuncData}
  {iK:Addr} {jT:FuncData}
  {eS:Addr} {gz:FuncData}
  {eN:Addr} {gn:FuncData}
  {fP:Addr} {ic:FuncData}
  {iB:Addr} {lW:FuncData}
  {iC:Addr} {lZ:FuncData}
  {eX:Addr} {i9:FuncData}
  {bK:Addr} {cO:FuncData}
  {cz:Addr} {eB:FuncData}
  {fH:Addr} {ia:FuncData}
  {lJ:Addr} {nN:FuncData}
  {nj:Addr} {pV:FuncData}
  {eZ:Addr} {i_:FuncData}
  {ju:Addr} {nW:FuncData}
  {gi:Addr} {jZ:FuncData}
  {jt:Addr} {n6:FuncData}
  {cX:Addr} {gv:FuncData}
  {dU:Addr} {g7:FuncData}
  {l0:Addr} {nU:FuncData}
  {iR:Addr} {kg:FuncData}
  {eG:Addr} {gu:FuncData}
  {jG:Addr} {lO:FuncData}
  {iP:Addr} {j7:FuncData}
  {gP:Addr} {jk:FuncData}
  {iU:Addr} {kh:FuncData}
  {iM:Addr} {jU:FuncData}
  {fJ:Addr} {g_:FuncData}
  {jD:Addr} {lT:FuncData}
  {iF:Addr} {jW:FuncData}
  {gB:Addr} {jg:FuncData}
  {kM:Addr} {nO:FuncData}
  {pR:Addr} {rT:FuncData}
  {jF:Addr} {lQ:FuncData}
  {aW:Addr}
  {bA:Addr}
  {bD:Addr}
  {mq:Addr}
  {aM:Addr}
  {mV:Addr}
  {d9:Addr}
  {fR:Addr}
  {i6:Addr}
  {aP:Addr}
  {cP:Addr}
  {fX:Addr}
  {bY:Addr} {xo Yr:Obj}
  {Qz:Tok}
  {Ke:Tok}
  {Cv:Tok}
  {TJ:Tok}
  {KS:Tok}
  {HL:Tok}
  {DS:Tok}
  {yy:Tok}
  {yf:Tok}
  {zI:Tok}
  {zL:Tok}
  {J9:Tok}
  {UD:Tok}
  {VV:Tok}
  {W9:Tok}
  {GA:Tok}
  {Se:Tok}
  {Ut:Tok}
  {Vk:Tok}
  {Up:Tok}
  {Nb:Tok}
  {sG:Addr} {Lw:Obj}
  {wD:Addr} {O_:Obj}
  {K1:Tok}
  {JK:Tok}
  {DO:Tok}
  {D0:Tok}
  {Nu:Tok}
  {N9:Tok}
  {HF:Tok}
  {KI:Tok}
  {G6:Tok}
  {Hs:Tok}
  {G8:Tok}
  {EX:Tok}
  {HW:Tok}
  {ME:Tok}
  {Oo:Tok}
  {J0:Tok}
  {Nc:Tok}
  {DH:Tok}
  {F2:Tok}
  {Gg:Tok}
  {Jz:Tok}
  {JA:Tok}
  {JW:Tok}
  {HC:Tok}
  {AE:Tok}
  {C6:Tok}
  {Ky:Tok}
  {Od:Tok}
  {La:Tok}
  {KU:Tok}
  {Ll:Tok}
  {Lg:Tok}
  {Ht:Tok}
  {N8:Tok}
  {Ld:Tok}
  {dD:Addr} {uf:Obj}
  {V9:Tok}
  {Um:Tok}
  {JH:Tok}
  {HG:Tok}
  {QE:Tok}
  {EW:Tok}
  {Kn:Tok}
  {L4:Tok}
  {FD:Tok}
  {HJ:Tok}
  {Gh:Tok}
  {VS:Tok}
  {Yh:Tok}
  {Yt:ClassData}
  (cI:W.nsIn K mainGlobals "TextFault"=some (some (.ref aW)))
  (B0:W.nsIn K mainGlobals "Reader"=some (some (.ref bA)))
  (AH:W.nsIn K mainGlobals "PortWave"=some (some (.ref bD)))
  (NX:W.nsIn K mainGlobals "Port"=some (some (.ref mq)))
  (Cq:W.nsIn K mainGlobals "SkyLine"=some (some (.ref aM)))
  (R_:W.nsIn K mainGlobals "Sky"=some (some (.ref mV)))
  (vv:W.nsIn K mainGlobals "Motion"=some (some (.ref d9)))
  (Bj:W.nsIn K mainGlobals "Steady"=some (some (.ref fR)))
  (Kz:W.nsIn K mainGlobals "Swing"=some (some (.ref i6)))
  (Ks:W.nsIn K mainGlobals "Tides"=some (some (.ref aP)))
  (C1:W.nsIn K mainGlobals "Harbour"=some (some (.ref cP)))
  (NQ:W.nsIn K mainGlobals "Tape"=some (some (.ref fX)))
  (zo:W.nsIn K mainGlobals "text_of"=some (some (.ref pK)))
  (AU:W.nsIn K mainGlobals "codes_of"=some (some (.ref ny)))
  (HM:W.findIn K (.ref bA) "__init__"=some (some (.ref gh)))
  (G9:W.isFn K (.ref gh)=true)
  (G7:W.findIn K (.ref bA) "here"=some (some (.ref gk)))
  (HE:W.isFn K (.ref gk)=true)
  (yO:W.findIn K (.ref bA) "read_one_of"=some (some (.ref bQ)))
  (y_:W.isFn K (.ref bQ)=true)
  (Ay:W.findIn K (.ref bA) "read_name"=some (some (.ref cj)))
  (AZ:W.isFn K (.ref cj)=true)
  (zc:W.findIn K (.ref bA) "read_digits"=some (some (.ref bR)))
  (yx:W.isFn K (.ref bR)=true)
  (xB:W.findIn K (.ref bA) "read_decimal"=some (some (.ref bL)))
  (xC:W.isFn K (.ref bL)=true)
  (qP:W.findIn K (.ref bA) "read_signed_decimal"=some (some (.ref aV)))
  (qJ:W.isFn K (.ref aV)=true)
  (Ed:W.findIn K (.ref bD) "__init__"=some (some (.ref dS)))
  (DX:W.isFn K (.ref dS)=true)
  (LU:W.findIn K (.ref mq) "__init__"=some (some (.ref jr)))
  (MO:W.isFn K (.ref jr)=true)
  (yD:W.nsIn K mainGlobals "read_port"=some (some (.ref lF)))
  (oQ:W.nsIn K mainGlobals "read_lines_port"=some (some (.ref dG)))
  (pN:W.nsIn K mainGlobals "read_wave_port"=some (some (.ref ee)))
  (rY:W.nsIn K mainGlobals "printed_port"=some (some (.ref gI)))
  (ie:W.nsIn K mainGlobals "printed_decimal"=some (some (.ref dN)))
  (Fq:W.findIn K (.ref aM) "__init__"=some (some (.ref fk)))
  (Fv:W.isFn K (.ref fk)=true)
  (lD:W.nsIn K mainGlobals "read_lines_skytext"=some (some (.ref ck)))
  (yT:W.nsIn K mainGlobals "read_line"=some (some (.ref kO)))
  (wW:W.nsIn K mainGlobals "read_angle"=some (some (.ref jx)))
  (l_:W.nsIn K mainGlobals "read_wave_skytext"=some (some (.ref cG)))
  (tR:W.nsIn K mainGlobals "read_part"=some (some (.ref k_)))
  (pS:W.nsIn K mainGlobals "read_sum"=some (some (.ref nI)))
  (tS:W.nsIn K mainGlobals "read_term"=some (some (.ref kZ)))
  (mX:W.nsIn K mainGlobals "read_number"=some (some (.ref iL)))
  (Nr:W.findIn K (.ref mV) "__init__"=some (some (.ref kL)))
  (NJ:W.isFn K (.ref kL)=true)
  (An:W.nsIn K mainGlobals "read_sky"=some (some (.ref nF)))
  (vU:W.nsIn K mainGlobals "judge_line"=some (some (.ref jE)))
  (nL:W.nsIn K mainGlobals "is_beyond_number"=some (some (.ref cT)))
  (uL:W.nsIn K mainGlobals "is_too_much"=some (some (.ref iG)))
  (qo:W.nsIn K mainGlobals "judge_terms"=some (some (.ref iT)))
  (ze:W.nsIn K mainGlobals "cosine"=some (some (.ref sW)))
  (N3:W.nsIn K mainGlobals "sine"=some (some (.ref AM)))
  (FW:W.nsIn K mainGlobals "on_ray"=some (some (.ref tE)))
  (pZ:W.nsIn K mainGlobals "cosine_of_turn"=some (some (.ref eF)))
  (dR:W.nsIn K mainGlobals "cosine_of_quarter"=some (some (.ref cF)))
  (q_:W.nsIn K mainGlobals "cosine_of_arc"=some (some (.ref fL)))
  (uP:W.nsIn K mainGlobals "sine_of_arc"=some (some (.ref iJ)))
  (tV:W.nsIn K mainGlobals "arc_terms"=some (some (.ref lC)))
  (Hv:W.findIn K (.ref d9) "__init__"=some (some (.ref gg)))
  (Ih:W.isFn K (.ref gg)=true)
  (F4:W.findIn K (.ref d9) "stand"=some (some (.ref fh)))
  (FA:W.isFn K (.ref fh)=true)
  (Hf:W.findIn K (.ref fR) "__init__"=some (some (.ref gm)))
  (HK:W.isFn K (.ref gm)=true)
  (vD:W.nsIn K mainGlobals "nearest"=some (some (.ref p8)))
  (OH:W.nsIn K mainGlobals "cut"=some (some (.ref Gk)))
  (wY:W.nsIn K mainGlobals "motions_of"=some (some (.ref jy)))
  (kD:W.nsIn K mainGlobals "motion_of_terms"=some (some (.ref dF)))
  (uG:W.nsIn K mainGlobals "steadies_of"=some (some (.ref iK)))
  (pI:W.nsIn K mainGlobals "steady_of_wave"=some (some (.ref eS)))
  (lX:W.nsIn K mainGlobals "angle_of_terms"=some (some (.ref eN)))
  (qQ:W.nsIn K mainGlobals "steady_of_sum"=some (some (.ref fP)))
  (J8:W.findIn K (.ref i6) "__init__"=some (some (.ref iB)))
  (JG:W.isFn K (.ref iB)=true)
  (KW:W.findIn K (.ref aP) "__init__"=some (some (.ref iC)))
  (JU:W.isFn K (.ref iC)=true)
  (EL:W.findIn K (.ref aP) "height"=some (some (.ref eX)))
  (Ez:W.isFn K (.ref eX)=true)
  (xy:W.findIn K (.ref aP) "reckon_height"=some (some (.ref bK)))
  (xE:W.isFn K (.ref bK)=true)
  (Au:W.findIn K (.ref aP) "swings_for"=some (some (.ref cz)))
  (Ae:W.isFn K (.ref cz)=true)
  (qT:W.nsIn K mainGlobals "steady_minute"=some (some (.ref fH)))
  (xZ:W.nsIn K mainGlobals "lines_for"=some (some (.ref lJ)))
  (AX:W.nsIn K mainGlobals "swing_of"=some (some (.ref nj)))
  (F8:W.findIn K (.ref cP) "__init__"=some (some (.ref eZ)))
  (Ew:W.isFn K (.ref eZ)=true)
  (My:W.findIn K (.ref fX) "__init__"=some (some (.ref ju)))
  (LY:W.isFn K (.ref ju)=true)
  (HU:W.findIn K (.ref fX) "at_end"=some (some (.ref gi)))
  (Ib:W.isFn K (.ref gi)=true)
  (Lj:W.findIn K (.ref fX) "take"=some (some (.ref jt)))
  (ML:W.isFn K (.ref jt)=true)
  (Cs:W.findIn K (.ref fX) "take_many"=some (some (.ref cX)))
  (Cp:W.isFn K (.ref cX)=true)
  (DU:W.findIn K (.ref fX) "take_row"=some (some (.ref dU)))
  (DM:W.isFn K (.ref dU)=true)
  (CH:W.nsIn K mainGlobals "answers"=some (some (.ref l0)))
  (uO:W.nsIn K mainGlobals "answer_call"=some (some (.ref iR)))
  (pW:W.nsIn K mainGlobals "answer_of_port"=some (some (.ref eG)))
  (wC:W.nsIn K mainGlobals "answer_sky"=some (some (.ref jG)))
  (uD:W.nsIn K mainGlobals "answer_port"=some (some (.ref iP)))
  (r_:W.nsIn K mainGlobals "answer_print"=some (some (.ref gP)))
  (uZ:W.nsIn K mainGlobals "answer_size"=some (some (.ref iU)))
  (uT:W.nsIn K mainGlobals "answer_wave"=some (some (.ref iM)))
  (qM:W.nsIn K mainGlobals "answer_height"=some (some (.ref fJ)))
  (w9:W.nsIn K mainGlobals "answer_row"=some (some (.ref jD)))
  (uW:W.nsIn K mainGlobals "answer_most"=some (some (.ref iF)))
  (sF:W.nsIn K mainGlobals "answer_first"=some (some (.ref gB)))
  (qp:W.nsIn K mainGlobals "is_minute"=some (some (.ref kM)))
  (vo:W.nsIn K mainGlobals "is_span"=some (some (.ref pR)))
  (rE:W.nsIn K mainGlobals "heights_of"=some (some (.ref jF)))
  (YG:W.clsIn K aW=some Yt)
  (xn:Yt.ns=bY)
  (X0:W.nsIn K bY "__init__"=some (some (.ref c9)))
  (rW:bI K "text_of" "text_of" B9 pK rV)
  (tH:bI K "codes_of" "codes_of" AD ny pF)
  (lP:bI K "__init__" "TextFault.__init__" pQ c9 gy)
  (qj:bI K "__init__" "Reader.__init__" uJ gh j9)
  (mH:bI K "here" "Reader.here" uu gk kc)
  (e9:bI K "read_one_of" "Reader.read_one_of" lg bQ cZ)
  (gM:bI K "read_name" "Reader.read_name" nq cj eT)
  (fj:bI K "read_digits" "Reader.read_digits" lG bR dc)
  (d7:bI K "read_decimal" "Reader.read_decimal" ki bL cN)
  (bT:bI K "read_signed_decimal" "Reader.read_signed_decimal" fK aV bE)
  (m8:bI K "__init__" "PortWave.__init__" qO dS g8)
  (tT:bI K "__init__" "Port.__init__" yS jr nR)
  (qF:bI K "read_port" "read_port" yF lF nP)
  (iz:bI K "read_lines" "read_lines" oH dG fB)
  (je:bI K "read_wave" "read_wave" pM ee gq)
  (kT:bI K "printed_port" "printed_port" sS gI jf)
  (dM:bI K "printed_decimal" "printed_decimal" oU dN fm)
  (oY:bI K "__init__" "SkyLine.__init__" sC fk i8)
  (e8:bI K "read_lines" "read_lines" lB ck c8)
  (qz:bI K "read_line" "read_line" zf kO nV)
  (pq:bI K "read_angle" "read_angle" wo jx lN)
  (fT:bI K "read_wave" "read_wave" mw cG dP)
  (nX:bI K "read_part" "read_part" ym k_ oh)
  (lH:bI K "read_sum" "read_sum" Ah nI p6)
  (oj:bI K "read_term" "read_term" yj kZ n8)
  (iS:bI K "read_number" "read_number" uH iL j4)
  (vP:bI K "__init__" "Sky.__init__" Am kL pG)
  (rX:bI K "read_sky" "read_sky" Ag nF pT)
  (oF:bI K "judge_line" "judge_line" wc jE lM)
  (gH:bI K "is_beyond_number" "is_beyond_number" nE cT eE)
  (mG:bI K "is_too_much" "is_too_much" uw iG j_)
  (jX:bI K "judge_terms" "judge_terms" uq iT j0)
  (r8:bI K "cosine" "cosine" Fx sW vz)
  (Gy:bI K "sine" "sine" Ny AM CK)
  (yN:bI K "on_ray" "on_ray" Fc tE u7)
  (jd:bI K "cosine_of_turn" "cosine_of_turn" pH eF gA)
  (bZ:bI K "cosine_of_quarter" "cosine_of_quarter" mz cF dQ)
  (jO:bI K "cosine_of_arc" "cosine_of_arc" rf fL h_)
  (mT:bI K "sine_of_arc" "sine_of_arc" uK iJ j3)
  (n_:bI K "arc_terms" "arc_terms" x6 lC nQ)
  (qf:bI K "__init__" "Motion.__init__" uU gg jV)
  (lK:bI K "stand" "Motion.stand" sM fh jm)
  (qb:bI K "__init__" "Steady.__init__" ux gm j8)
  (pJ:bI K "nearest" "nearest" CG p8 rS)
  (IX:bI K "cut" "cut" R8 Gk IP)
  (ou:bI K "motions_of" "motions_of" vM jy lY)
  (fq:bI K "motion_of_terms" "motion_of_terms" oB dF fF)
  (mJ:bI K "steadies_of" "steadies_of" uI iK jT)
  (jl:bI K "steady_of_wave" "steady_of_wave" pU eS gz)
  (gx:bI K "angle_of_terms" "angle_of_terms" p7 eN gn)
  (jM:bI K "steady_of_sum" "steady_of_sum" qR fP ic)
  (rH:bI K "__init__" "Swing.__init__" wm iB lW)
  (rM:bI K "__init__" "Tides.__init__" wJ iC lZ)
  (lu:bI K "height" "Tides.height" sN eX i9)
  (dZ:bI K "reckon_height" "Tides.reckon_height" kj bK cO)
  (gJ:bI K "swings_for" "Tides.swings_for" nv cz eB)
  (jQ:bI K "steady_minute" "steady_minute" qL fH ia)
  (qu:bI K "lines_for" "lines_for" yb lJ nN)
  (tw:bI K "swing_of" "swing_of" As nj pV)
  (oZ:bI K "__init__" "Harbour.__init__" sL eZ i_)
  (ud:bI K "__init__" "Tape.__init__" yu ju nW)
  (mW:bI K "at_end" "Tape.at_end" uC gi jZ)
  (qD:bI K "take" "Tape.take" zd jt n6)
  (jh:bI K "take_many" "Tape.take_many" p9 cX gv)
  (jJ:bI K "take_row" "Tape.take_row" qK dU g7)
  (vG:bI K "answers" "answers" CM l0 nU)
  (mL:bI K "answer_call" "answer_call" uF iR kg)
  (jb:bI K "answer_of_port" "answer_of_port" pX eG gu)
  (oJ:bI K "answer_sky" "answer_sky" vK jG lO)
  (mS:bI K "answer_port" "answer_port" uv iP j7)
  (kK:bI K "answer_print" "answer_print" sA gP jk)
  (mF:bI K "answer_size" "answer_size" ur iU kh)
  (mE:bI K "answer_wave" "answer_wave" um iM jU)
  (jP:bI K "answer_height" "answer_height" qI fJ g_)
  (o7:bI K "answer_row" "answer_row" vV jD lT)
  (mP:bI K "answer_most" "answer_most" uX iF jW)
  (lz:bI K "answer_first" "answer_first" sy gB jg)
  (lI:bI K "is_minute" "is_minute" ye kM nO)
  (pY:bI K "is_span" "is_span" Ci pR rT)
  (l7:bI K "heights_of" "heights_of" vR jF lQ)
  (az:zy K bA)
  (zk:W.makesIn K bA=true)
  (Qc:W.keepIn K (.ref bA)=true)
  (iQ:W.findIn K (.ref bA) "text"=some none)
  (aI:W.findIn K (.ref bA) "place"=some none)
  (aZ:zy K bD)
  (yi:W.makesIn K bD=true)
  (Ms:W.keepIn K (.ref bD)=true)
  (bV:W.findIn K (.ref bD) "name"=some none)
  (dX:W.findIn K (.ref bD) "name_place"=some none)
  (gZ:W.findIn K (.ref bD) "size"=some none)
  (gG:W.findIn K (.ref bD) "lag"=some none)
  (ig:W.findIn K (.ref bD) "lag_place"=some none)
  (oX:zy K mq)
  (J3:W.makesIn K mq=true)
  (TQ:W.keepIn K (.ref mq)=true)
  (lR:W.findIn K (.ref mq) "level"=some none)
  (eW:W.findIn K (.ref mq) "waves"=some none)
  (aE:zy K aM)
  (AG:W.makesIn K aM=true)
  (N5:W.keepIn K (.ref aM)=true)
  (cu:W.findIn K (.ref aM) "word"=some none)
  (g9:W.findIn K (.ref aM) "place"=some none)
  (bU:W.findIn K (.ref aM) "name"=some none)
  (jN:W.findIn K (.ref aM) "phase"=some none)
  (kX:W.findIn K (.ref aM) "rate"=some none)
  (cB:W.findIn K (.ref aM) "terms"=some none)
  (kR:W.findIn K (.ref aM) "turn"=some none)
  (dO:W.findIn K (.ref aM) "factors"=some none)
  (gr:W.findIn K (.ref aM) "shifts"=some none)
  (zX:zy K mV)
  (Ni:W.makesIn K mV=true)
  (Wq:W.keepIn K (.ref mV)=true)
  (qC:W.findIn K (.ref mV) "lines"=some none)
  (iH:W.findIn K (.ref mV) "numbers"=some none)
  (iE:zy K d9)
  (rR:W.makesIn K d9=true)
  (Qg:W.keepIn K (.ref d9)=true)
  (gE:W.findIn K (.ref d9) "start"=some none)
  (iN:W.findIn K (.ref d9) "rate"=some none)
  (qt:zy K fR)
  (zD:W.makesIn K fR=true)
  (P_:W.keepIn K (.ref fR)=true)
  (jH:W.findIn K (.ref fR) "factor"=some none)
  (kN:W.findIn K (.ref fR) "shift"=some none)
  (zF:zy K i6)
  (GF:W.makesIn K i6=true)
  (Q8:W.keepIn K (.ref i6)=true)
  (oV:W.findIn K (.ref i6) "weight"=some none)
  (o6:W.findIn K (.ref i6) "motion"=some none)
  (cR:zy K aP)
  (Fl:W.makesIn K aP=true)
  (RU:W.keepIn K (.ref aP)=true)
  (o_:W.findIn K (.ref aP) "port"=some none)
  (jI:W.findIn K (.ref aP) "motions"=some none)
  (qh:W.findIn K (.ref aP) "lines"=some none)
  (gR:W.findIn K (.ref aP) "swings"=some none)
  (fN:W.findIn K (.ref aP) "heights"=some none)
  (bF:zy K cP)
  (AQ:W.makesIn K cP=true)
  (M5:W.keepIn K (.ref cP)=true)
  (eV:W.findIn K (.ref cP) "sky"=some none)
  (cy:W.findIn K (.ref cP) "port"=some none)
  (cS:W.findIn K (.ref cP) "tides"=some none)
  (jc:zy K fX)
  (JT:W.makesIn K fX=true)
  (TM:W.keepIn K (.ref fX)=true)
  (lV:W.findIn K (.ref fX) "calls"=some none)
  (fZ:W.findIn K (.ref fX) "place"=some none)
  (xl:K.lookup aW=some xo)
  (YE:K.lookup bY=some Yr)
  (YF:(bY == aW)=false)
  (Yy:P4 [(aW,xo),(bY,Yr)] aW bY=true)
  (Yu:W.nsIn K bY "__setattr__"=some none)
  (Yx:W.nsIn K bY "__getattribute__"=some none)
  (YA:W.nsIn K bY "__getattr__"=some none)
  (YC:W.isFn K (.ref c9)=true)
  (YD:W.keepIn K (.ref aW)=true)
  (xk:W.nsIn K bY "kind"=some none)
  (xp:W.nsIn K bY "place"=some none)
  (vp:W.nsIn K mainGlobals "GRAMMAR"=some (some (.int (1) Qz)))
  (rF:W.nsIn K mainGlobals "NAME_TWICE"=some (some (.int (2) Ke)))
  (lS:W.nsIn K mainGlobals "NAME_NOT_THERE"=some (some (.int (3) Cv)))
  (JD:W.nsIn K mainGlobals "SIGNS"=some (some (.str "\n +-.0123456789ABCDEFGHIJKLMNOPQRSTUVWXYZabcdefghijklmnopqrstuvwxyz" TJ)))
  (vY:W.nsIn K mainGlobals "OTHER_SIGN"=some (some (.str "?" KS)))
  (uQ:W.nsIn K mainGlobals "NAME_LENGTH"=some (some (.int (7) HL)))
  (qY:W.nsIn K mainGlobals "LAG_TOO_LARGE"=some (some (.int (4) DS)))
  (ir:W.nsIn K mainGlobals "SIZE_DIGITS_BEFORE"=some (some (.int (2) yy)))
  (c_:W.nsIn K mainGlobals "SIZE_DIGITS_BEHIND"=some (some (.int (4) yf)))
  (mh:W.nsIn K mainGlobals "LAG_DIGITS_BEFORE"=some (some (.int (3) zI)))
  (i7:W.nsIn K mainGlobals "LAG_DIGITS_BEHIND"=some (some (.int (3) zL)))
  (wQ:W.nsIn K mainGlobals "WHOLE_TURN"=some (some (.int (360000) J9)))
  (rP:W.nsIn K mainGlobals "ANGLE"=some (some (.str "angle " UD)))
  (C7:W.nsIn K mainGlobals "WAVE"=some (some (.str "wave " VV)))
  (Jd:W.nsIn K mainGlobals "SUM"=some (some (.str "sum " W9)))
  (oK:W.nsIn K mainGlobals "TURN_skytext"=some (some (.str " turn " GA)))
  (vB:W.nsIn K mainGlobals "FACTOR"=some (some (.str " factor " Se)))
  (wR:W.nsIn K mainGlobals "SHIFT"=some (some (.str " shift " Ut)))
  (KQ:W.nsIn K mainGlobals "PLUS"=some (some (.str " + " Vk)))
  (J7:W.nsIn K mainGlobals "MINUS"=some (some (.str " - " Up)))
  (kP:W.nsIn K mainGlobals "LINE_END"=some (some (.str "\n" Nb)))
  (Gb:W.nsIn K mainGlobals "COUNTS"=some (some (.ref sG)))
  (Tc:K.lookup sG=some Lw)
  (SM:Ud Lw [.str "1 ",.str "2 ",.str "3 ",.str "4 ",.str "5 ",.str "6 ",.str "7 ",.str "8 ",.str "9 ",.str "10 ",.str "11 ",.str "12 ",.str "13 ",.str "14 ",.str "15 "])
  (Jq:W.nsIn K mainGlobals "TURNS"=some (some (.ref wD)))
  (UN:K.lookup wD=some O_)
  (UH:Ud O_ [.str "90",.str "180",.str "270"])
  (vQ:W.nsIn K mainGlobals "MOST_TERMS"=some (some (.int (8) K1)))
  (wK:W.nsIn K mainGlobals "MOST_PARTS"=some (some (.int (8) JK)))
  (qX:W.nsIn K mainGlobals "DIGITS_BEFORE"=some (some (.int (3) DO)))
  (qS:W.nsIn K mainGlobals "DIGITS_BEHIND"=some (some (.int (12) D0)))
  (Aj:W.nsIn K mainGlobals "TOO_MANY"=some (some (.int (4) Nu)))
  (AO:W.nsIn K mainGlobals "TOO_MUCH"=some (some (.int (5) N9)))
  (uY:W.nsIn K mainGlobals "MOST_ANGLES"=some (some (.int (16) HF)))
  (wj:W.nsIn K mainGlobals "MOST_WAVES"=some (some (.int (128) KI)))
  (uV:W.nsIn K mainGlobals "FACTORS_END"=some (some (.int (1000000000000) G6)))
  (uA:W.nsIn K mainGlobals "MOST_COUNTS"=some (some (.int (12) Hs)))
  (j5:W.nsIn K mainGlobals "TURN_circle"=some (some (.int (4294967296) G8)))
  (sO:W.nsIn K mainGlobals "QUARTER_TURN"=some (some (.int (1073741824) EX)))
  (qa:W.nsIn K mainGlobals "QUARTER_ARC"=some (some (.int (9860048348863269281198066682114134445731725432595044866280) HW)))
  (yI:W.nsIn K mainGlobals "FINE_BITS"=some (some (.int (192) ME)))
  (z_:W.nsIn K mainGlobals "FINE_ONE"=some (some (.int (6277101735386680763835789423207666416102355444464034512896) Oo)))
  (wI:W.nsIn K mainGlobals "FINE_TERMS"=some (some (.int (64) J0)))
  (Ax:W.nsIn K mainGlobals "RAY_STEP"=some (some (.int (5846006549323611672814739330865132078623730171904) Nc)))
  (qZ:W.nsIn K mainGlobals "HALF_RAY_STEP"=some (some (.int (2923003274661805836407369665432566039311865085952) DH)))
  (oO:W.nsIn K mainGlobals "NUMBER_UNITS"=some (some (.int (60) F2)))
  (oN:W.nsIn K mainGlobals "DEGREE_UNITS"=some (some (.int (60000000000000) Gg)))
  (rD:W.nsIn K mainGlobals "TURN_UNITS"=some (some (.int (21600000000000000) Jz)))
  (rL:W.nsIn K mainGlobals "NUMBER_ONE"=some (some (.int (1000000000000) JA)))
  (iD:W.nsIn K mainGlobals "FACTOR_ONE"=some (some (.int (1073741824) JW)))
  (ql:W.nsIn K mainGlobals "STEADY_SPAN"=some (some (.int (32768) HC)))
  (nJ:W.nsIn K mainGlobals "HALF_STEADY_SPAN"=some (some (.int (16384) AE)))
  (pP:W.nsIn K mainGlobals "LAGS_OF_DEGREE"=some (some (.int (1000) C6)))
  (rQ:W.nsIn K mainGlobals "HEIGHT_ONE"=some (some (.int (1152921504606846976) Ky)))
  (Ac:W.nsIn K mainGlobals "SKY_CALL"=some (some (.int (0) Od)))
  (yz:W.nsIn K mainGlobals "PORT_CALL"=some (some (.int (1) La)))
  (w_:W.nsIn K mainGlobals "PRINT_CALL"=some (some (.int (2) KU)))
  (x_:W.nsIn K mainGlobals "SIZE_CALL"=some (some (.int (3) Ll)))
  (xX:W.nsIn K mainGlobals "WAVE_CALL"=some (some (.int (4) Lg)))
  (uo:W.nsIn K mainGlobals "HEIGHT_CALL"=some (some (.int (5) Ht)))
  (AR:W.nsIn K mainGlobals "ROW_CALL"=some (some (.int (6) N8)))
  (yp:W.nsIn K mainGlobals "MOST_CALL"=some (some (.int (7) Ld)))
  (o8:W.nsIn K mainGlobals "NUMBERS_OF_CALL"=some (some (.ref dD)))
  (B5:K.lookup dD=some uf)
  (BD:Ud uf [.int 0,.int 0,.int 0,.int 0,.int 1,.int 1,.int 2,.int 2,.int 4])
  (u6:W.nsIn K mainGlobals "DONE"=some (some (.int (0) V9)))
  (J_:W.nsIn K mainGlobals "FOUND"=some (some (.int (1) Um)))
  (wG:W.nsIn K mainGlobals "NONE_FOUND"=some (some (.int (0) JH)))
  (jS:W.nsIn K mainGlobals "NOT_ALLOWED"=some (some (.int (-1) HG)))
  (zE:W.nsIn K mainGlobals "NOT_SET"=some (some (.int (-3) QE)))
  (tu:W.nsIn K mainGlobals "NO_SUCH_WAVE"=some (some (.int (-4) EW)))
  (wZ:W.nsIn K mainGlobals "PORT_FAULT"=some (some (.int (-5) Kn)))
  (yM:W.nsIn K mainGlobals "SKY_FAULT"=some (some (.int (-6) L4)))
  (tF:W.nsIn K mainGlobals "FIRST_MINUTE"=some (some (.int (-2147483648) FD)))
  (uE:W.nsIn K mainGlobals "LAST_MINUTE"=some (some (.int (2147483647) HJ)))
  (sr:W.nsIn K mainGlobals "LONGEST_SPAN"=some (some (.int (128) Gh)))
  (NI:W.nsIn K mainGlobals "DOWN"=some (some (.int (0) VS)))
  (US:W.nsIn K mainGlobals "UP"=some (some (.int (1) Yh)))
  (xu:W.nsIn K mainGlobals "len"=some none)
  (zx:W.nsIn K mainGlobals "range"=some none)
  (OI:W.nsIn K mainGlobals "ord"=some none)
  (Gr:W.nsIn K mainGlobals "abs"=some none)
  (zT:W.nsIn K mainGlobals "sum"=some none)
  (Rm:W.nsIn K mainGlobals "min"=some none)
  (RX:W.nsIn K mainGlobals "max"=some none)
  (MT:W.nsIn K mainGlobals "int"=some none)
  (Sv:W.nsIn K mainGlobals "str"=some none)
  (Oj:W.nsIn K mainGlobals "list"=some none):
  ∃fd:FuncData,(∀(s:Shared) (us:List Value),us.length=(["calls"]:List Str).length->BindsTo s fd ⟨us,[]⟩ ((["calls"]:List Str).zip us))/\ ∀base:Heap,K.In base->base.Ns mainGlobals mg->bw P w K mg base lA 16 fa fd ["calls"] (XJ K):=by
 have e:l0=fa:=(Value.ref.inj (Option.some.inj (Vf.symm.trans (W.mg_of X G CH)))).symm
 subst e
 have T:Txt K mg ⟨pK,rV,ny,pF,c9,gy,gh,j9,gk,kc,bQ,cZ,cj,eT,bR,dc,bL,cN,aV,bE,dS,g8,jr,nR,lF,nP,dG,fB,ee,gq,gI,jf,dN,fm,fk,i8,ck,c8,kO,nV,jx,lN,cG,dP,k_,oh,nI,p6,kZ,n8,iL,j4,kL,pG,nF,pT,jE,lM,cT,eE,iG,j_,iT,j0,sW,vz,AM,CK,tE,u7,eF,gA,cF,dQ,fL,h_,iJ,j3,lC,nQ,gg,jV,fh,jm,gm,j8,p8,rS,Gk,IP,jy,lY,dF,fF,iK,jT,eS,gz,eN,gn,fP,ic,iB,lW,iC,lZ,eX,i9,bK,cO,cz,eB,fH,ia,lJ,nN,nj,pV,eZ,i_,ju,nW,gi,jZ,jt,n6,cX,gv,dU,g7,l0,nU,iR,kg,eG,gu,jG,lO,iP,j7,gP,jk,iU,kh,iM,jU,fJ,g_,jD,lT,iF,jW,gB,jg,kM,nO,pR,rT,jF,lQ,aW,bA,bD,mq,aM,mV,d9,fR,i6,aP,cP,fX,bY,sG,wD,dD⟩:=⟨rW,pB rW fun _ _ _ _ _ _ _=>rfl,W.mg_of X G zo,tH,pB tH fun _ _ _ _ _ _ _=>rfl,W.mg_of X G AU,lP,xF lP fun _ _ _ _ _ _ _ _ _=>rfl,qj,om qj fun _ _ _ _ _ _ _ _=>rfl,mH,pB mH fun _ _ _ _ _ _ _=>rfl,⟨G7,HE,mH.kp⟩,e9,om e9 fun _ _ _ _ _ _ _ _=>rfl,⟨yO,y_,e9.kp⟩,gM,pB gM fun _ _ _ _ _ _ _=>rfl,⟨Ay,AZ,gM.kp⟩,fj,om fj fun _ _ _ _ _ _ _ _=>rfl,⟨zc,yx,fj.kp⟩,d7,xF d7 fun _ _ _ _ _ _ _ _ _=>rfl,⟨xB,xC,d7.kp⟩,bT,xF bT fun _ _ _ _ _ _ _ _ _=>rfl,⟨qP,qJ,bT.kp⟩,m8,XA m8 fun _ _ _ _ _ _ _ _ _ _ _ _=>rfl,tT,xF tT fun _ _ _ _ _ _ _ _ _=>rfl,qF,om qF fun _ _ _ _ _ _ _ _=>rfl,W.mg_of X G yD,iz,pB iz fun _ _ _ _ _ _ _=>rfl,W.mg_of X G oQ,je,pB je fun _ _ _ _ _ _ _=>rfl,W.mg_of X G pN,kT,pB kT fun _ _ _ _ _ _ _=>rfl,W.mg_of X G rY,dM,om dM fun _ _ _ _ _ _ _ _=>rfl,W.mg_of X G ie,oY,Xe oY fun _ _ _ _ _ _ _ _ _ _=>rfl,e8,pB e8 fun _ _ _ _ _ _ _=>rfl,W.mg_of X G lD,qz,pB qz fun _ _ _ _ _ _ _=>rfl,W.mg_of X G yT,pq,om pq fun _ _ _ _ _ _ _ _=>rfl,W.mg_of X G wW,fT,om fT fun _ _ _ _ _ _ _ _=>rfl,W.mg_of X G l_,nX,Xe nX fun _ _ _ _ _ _ _ _ _ _=>rfl,W.mg_of X G tR,lH,xF lH fun _ _ _ _ _ _ _ _ _=>rfl,W.mg_of X G pS,oj,om oj fun _ _ _ _ _ _ _ _=>rfl,W.mg_of X G tS,iS,pB iS fun _ _ _ _ _ _ _=>rfl,W.mg_of X G mX,vP,om vP fun _ _ _ _ _ _ _ _=>rfl,rX,pB rX fun _ _ _ _ _ _ _=>rfl,W.mg_of X G An,oF,om oF fun _ _ _ _ _ _ _ _=>rfl,W.mg_of X G vU,gH,om gH fun _ _ _ _ _ _ _ _=>rfl,W.mg_of X G nL,mG,pB mG fun _ _ _ _ _ _ _=>rfl,W.mg_of X G uL,jX,xF jX fun _ _ _ _ _ _ _ _ _=>rfl,W.mg_of X G qo,r8,pB r8 fun _ _ _ _ _ _ _=>rfl,W.mg_of X G ze,Gy,pB Gy fun _ _ _ _ _ _ _=>rfl,W.mg_of X G N3,yN,pB yN fun _ _ _ _ _ _ _=>rfl,W.mg_of X G FW,jd,om jd fun _ _ _ _ _ _ _ _=>rfl,W.mg_of X G pZ,bZ,om bZ fun _ _ _ _ _ _ _ _=>rfl,W.mg_of X G dR,jO,pB jO fun _ _ _ _ _ _ _=>rfl,W.mg_of X G q_,mT,pB mT fun _ _ _ _ _ _ _=>rfl,W.mg_of X G uP,n_,pB n_ fun _ _ _ _ _ _ _=>rfl,W.mg_of X G tV,qf,xF qf fun _ _ _ _ _ _ _ _ _=>rfl,lK,om lK fun _ _ _ _ _ _ _ _=>rfl,⟨F4,FA,lK.kp⟩,qb,xF qb fun _ _ _ _ _ _ _ _ _=>rfl,pJ,om pJ fun _ _ _ _ _ _ _ _=>rfl,W.mg_of X G vD,IX,om IX fun _ _ _ _ _ _ _ _=>rfl,W.mg_of X G OH,ou,pB ou fun _ _ _ _ _ _ _=>rfl,W.mg_of X G wY,fq,om fq fun _ _ _ _ _ _ _ _=>rfl,W.mg_of X G kD,mJ,xF mJ fun _ _ _ _ _ _ _ _ _=>rfl,W.mg_of X G uG,jl,xF jl fun _ _ _ _ _ _ _ _ _=>rfl,W.mg_of X G pI,gx,xF gx fun _ _ _ _ _ _ _ _ _=>rfl,W.mg_of X G lX,jM,om jM fun _ _ _ _ _ _ _ _=>rfl,W.mg_of X G qQ,rH,xF rH fun _ _ _ _ _ _ _ _ _=>rfl,rM,xF rM fun _ _ _ _ _ _ _ _ _=>rfl,lu,om lu fun _ _ _ _ _ _ _ _=>rfl,⟨EL,Ez,lu.kp⟩,dZ,om dZ fun _ _ _ _ _ _ _ _=>rfl,⟨xy,xE,dZ.kp⟩,gJ,om gJ fun _ _ _ _ _ _ _ _=>rfl,⟨Au,Ae,gJ.kp⟩,jQ,pB jQ fun _ _ _ _ _ _ _=>rfl,W.mg_of X G qT,qu,om qu fun _ _ _ _ _ _ _ _=>rfl,W.mg_of X G xZ,tw,xF tw fun _ _ _ _ _ _ _ _ _=>rfl,W.mg_of X G AX,oZ,pB oZ fun _ _ _ _ _ _ _=>rfl,ud,om ud fun _ _ _ _ _ _ _ _=>rfl,mW,pB mW fun _ _ _ _ _ _ _=>rfl,⟨HU,Ib,mW.kp⟩,qD,pB qD fun _ _ _ _ _ _ _=>rfl,⟨Lj,ML,qD.kp⟩,jh,om jh fun _ _ _ _ _ _ _ _=>rfl,⟨Cs,Cp,jh.kp⟩,jJ,pB jJ fun _ _ _ _ _ _ _=>rfl,⟨DU,DM,jJ.kp⟩,vG,pB vG fun _ _ _ _ _ _ _=>rfl,W.mg_of X G CH,mL,om mL fun _ _ _ _ _ _ _ _=>rfl,W.mg_of X G uO,jb,xF jb fun _ _ _ _ _ _ _ _ _=>rfl,W.mg_of X G pW,oJ,om oJ fun _ _ _ _ _ _ _ _=>rfl,W.mg_of X G wC,mS,om mS fun _ _ _ _ _ _ _ _=>rfl,W.mg_of X G uD,kK,pB kK fun _ _ _ _ _ _ _=>rfl,W.mg_of X G r_,mF,pB mF fun _ _ _ _ _ _ _=>rfl,W.mg_of X G uZ,mE,om mE fun _ _ _ _ _ _ _ _=>rfl,W.mg_of X G uT,jP,om jP fun _ _ _ _ _ _ _ _=>rfl,W.mg_of X G qM,o7,xF o7 fun _ _ _ _ _ _ _ _ _=>rfl,W.mg_of X G w9,mP,xF mP fun _ _ _ _ _ _ _ _ _=>rfl,W.mg_of X G uW,lz,X6 lz fun _ _ _ _ _ _ _ _ _ _ _=>rfl,W.mg_of X G sF,lI,pB lI fun _ _ _ _ _ _ _=>rfl,W.mg_of X G qp,pY,om pY fun _ _ _ _ _ _ _ _=>rfl,W.mg_of X G vo,l7,xF l7 fun _ _ _ _ _ _ _ _ _=>rfl,W.mg_of X G rE,W.mg_of X G cI,W.mg_of X G B0,az,⟨zk,HM,G9,Qc⟩,iQ,aI,W.mg_of X G AH,aZ,⟨yi,Ed,DX,Ms⟩,bV,dX,gZ,gG,ig,W.mg_of X G NX,oX,⟨J3,LU,MO,TQ⟩,lR,eW,W.mg_of X G Cq,aE,⟨AG,Fq,Fv,N5⟩,cu,g9,bU,jN,kX,cB,kR,dO,gr,W.mg_of X G R_,zX,⟨Ni,Nr,NJ,Wq⟩,qC,iH,W.mg_of X G vv,iE,⟨rR,Hv,Ih,Qg⟩,gE,iN,W.mg_of X G Bj,qt,⟨zD,Hf,HK,P_⟩,jH,kN,W.mg_of X G Kz,zF,⟨GF,J8,JG,Q8⟩,oV,o6,W.mg_of X G Ks,cR,⟨Fl,KW,JU,RU⟩,o_,jI,qh,gR,fN,W.mg_of X G C1,bF,⟨AQ,F8,Ew,M5⟩,eV,cy,cS,W.mg_of X G NQ,jc,⟨JT,My,LY,TM⟩,lV,fZ,⟨W7 xl YE YF Yy,X0,Yu,Yx,YA,YC,YD⟩,⟨xk,by rfl⟩,⟨xp,by rfl⟩,aS X G vp,aS X G rF,aS X G lS,tP X G JD,tP X G vY,aS X G uQ,aS X G qY,aS X G ir,aS X G c_,aS X G mh,aS X G i7,aS X G wQ,tP X G rP,tP X G C7,tP X G Jd,tP X G oK,tP X G vB,tP X G wR,tP X G KQ,tP X G J7,tP X G kP,Oc X G Gb,Rp Tc SM,Oc X G Jq,Rp UN UH,aS X G vQ,aS X G wK,aS X G qX,aS X G qS,aS X G Aj,aS X G AO,aS X G uY,aS X G wj,aS X G uV,aS X G uA,aS X G j5,aS X G sO,aS X G qa,aS X G yI,aS X G z_,aS X G wI,aS X G Ax,aS X G qZ,aS X G oO,aS X G oN,aS X G rD,aS X G rL,aS X G iD,aS X G ql,aS X G nJ,aS X G pP,aS X G rQ,aS X G Ac,aS X G yz,aS X G w_,aS X G x_,aS X G xX,aS X G uo,aS X G AR,aS X G yp,Oc X G o8,Rp B5 BD,aS X G u6,aS X G J_,aS X G wG,aS X G jS,aS X G zE,aS X G tu,aS X G wZ,aS X G yM,aS X G tF,aS X G uE,aS X G sr,aS X G NI,aS X G US,W.mg_none_of X G xu,W.mg_none_of X G zx,W.mg_none_of X G OI,W.mg_none_of X G Gr,W.mg_none_of X G zT,W.mg_none_of X G Rm,W.mg_none_of X G RX,W.mg_none_of X G MT,W.mg_none_of X G Sv,W.mg_none_of X G Oj⟩
 obtain ⟨oc,od,kV,doc,pm,an,cdv,ct,osl,e2,lk,hcd⟩:=vG.ex
 refine ⟨nU,fun s us hu=>?_,fun base _ _=>ok T⟩
 subst e2
 match us,hu with
 | [_],_=>exact .of_eq rfl
end Td
namespace PM
open Tide
def ly:Nat->List Bytes->Nat->Cur->Except Nat (Bytes×Cur)
 | 0,_,_,c=> .error c.at_
 | f + 1,left,k,c=>match left.filter (fun w=>decide (w[k]?=c.next)) with
  | []=> .error c.at_
  | w::r=>if w.length=k + 1 then .ok (w,c.on) else ly f (w::r) (k + 1) c.on
def oneOf(ws:List Bytes)(c:Cur):Except Nat (Bytes×Cur):=ly 16 ws 0 c
theorem A9(w:Bytes): ∀(f k:Nat) (c:Cur),k < w.length->w.length<=k + f->ly f [w] k c=(lit (w.drop k) c).map fun d=>(w,d)
 | 0,k,c,h1,h2=>by lia
 | f + 1,k,c,h1,h2=>by
  obtain ⟨x,hx⟩: ∃x,w[k]?=some x:=⟨w[k],Y9 h1⟩
  have hd:w.drop k=x::w.drop (k + 1):=by
   rw [Zo h1]
   rw [Y9 h1] at hx
   cases hx
   rfl
  rw [ly,hd,lit]
  by_cases hn:c.next=some x
  ·have e:([w].filter fun w=>decide (w[k]?=c.next))= [w]:=by simp [hx,hn]
   rw [e]
   dsimp only
   rw [if_pos hn]
   by_cases hl:w.length=k + 1
   ·rw [if_pos hl]
    have:w.drop (k + 1)= []:=List.drop_eq_nil_of_le (by lia)
    rw [this]
    rfl
   ·rw [if_neg hl]
    exact A9 w f (k + 1) c.on (by lia) (by lia)
  ·have e:([w].filter fun w=>decide (w[k]?=c.next))= []:=by
    simp [hx]
    exact fun h=>hn h.symm
   rw [e]
   dsimp only
   rw [if_neg hn]
   rfl
theorem zj(w:Bytes)(c:Cur)(h1:w≠ [])(h2:w.length<=16):oneOf [w] c=(lit w c).map fun d=>(w,d):=by
 have:=A9 w 16 0 c (List.length_pos_iff.mpr h1) (by omega)
 rw [List.drop_zero] at this
 exact this
def aQ(x:UInt8):Bytes:=if x=43 then [32] else if x=45 then [32] else if x=116 then [117,114,110,32] else if x=102 then [97,99,116,111,114,32] else [104,105,102,116,32]
def wordOf(x:UInt8):Bytes:=32::x::aQ x
def bh(may:Bytes):List Bytes:=may.map wordOf++ [[10]]
theorem LR(x:UInt8):1<=(aQ x).length/\(aQ x).length<=6:=by
 unfold aQ
 repeat (first | (split;(· decide)) | decide)
theorem GU{x:UInt8}: ∀ {may:Bytes},may.Nodup->x ∈ may->((may.map wordOf).filter fun w=>decide (w[1]?=some x))= [wordOf x]
 | [],_,h=>by cases h
 | y::r,hn,h=>by
  rw [YS,List.filter_cons]
  have hw:(wordOf y)[1]?=some y:=rfl
  rw [hw]
  rcases YR.mp h with e | e
  ·subst e
   have:((r.map wordOf).filter fun w=>decide (w[1]?=some x))= []:=by
    rw [List.filter_eq_nil_iff]
    intro w hw'
    obtain ⟨z,hz,rfl⟩:=Zf.mp hw'
    have:(wordOf z)[1]?=some z:=rfl
    rw [this]
    intro q
    have q:=Zc q
    cases q
    exact (List.nodup_cons.mp hn).1 hz
   rw [this]
   simp
  ·have ne: ¬(some y=some x):=fun q=>by
    cases q
    exact (List.nodup_cons.mp hn).1 e
   rw [if_neg (by simp;exact fun q=>ne (by rw [q]))]
   exact GU (List.nodup_cons.mp hn).2 e
theorem IK{o:Option UInt8}{may:Bytes}(h: ∀x,o=some x->x ∉ may):((may.map wordOf).filter fun w=>decide (w[1]?=o))= []:=by
 rw [List.filter_eq_nil_iff]
 intro w hw
 obtain ⟨z,hz,rfl⟩:=Zf.mp hw
 have e:(wordOf z)[1]?=some z:=rfl
 rw [e]
 intro q
 have q:=Zc q
 exact h z q.symm hz
def jj(may:Bytes)(c:Cur):Except Nat (Bytes×Cur):=match behind may c with
 | .error p=> .error p
 | .ok (none,d)=> .ok ([10],d)
 | .ok (some x,d)=>(lit (aQ x) d).map fun d=>(wordOf x,d)
theorem Aw(may:Bytes)(hn:may.Nodup)(c:Cur):oneOf (bh may) c=jj may c:=by
 have h32:((may.map wordOf).filter fun w=>decide (w[0]?=some 32))=may.map wordOf:=by
  rw [List.filter_eq_self]
  intro w hw
  obtain ⟨z,_,rfl⟩:=Zf.mp hw
  rfl
 have hno: ∀o:Option UInt8,o≠some 32->((may.map wordOf).filter fun w=>decide (w[0]?=o))= []:=by
  intro o ho
  rw [List.filter_eq_nil_iff]
  intro w hw
  obtain ⟨z,_,rfl⟩:=Zf.mp hw
  intro q
  have q:=Zc q
  exact ho q.symm
 unfold oneOf bh jj behind
 rw [ly,List.filter_append]
 by_cases h10:c.next=some LF
 ·have h10':c.next=some 10:=h10
  rw [hno _ (by rw [h10'];decide),if_pos h10,h10']
  rfl
 ·rw [if_neg h10]
  have n10:(([[10]]:List Bytes).filter fun w=>decide (w[0]?=c.next))= []:=by
   rw [List.filter_eq_nil_iff]
   intro w hw
   rw [YO.mp hw]
   intro q
   have q:=Zc q
   exact h10 q.symm
  rw [n10,Y0]
  by_cases hb:c.next=some 32
  ·rw [hb,h32]
   cases hm:may with
   | nil=>simp
   | cons y r=>
    rw [if_pos ⟨rfl,by simp⟩,YS]
    dsimp only
    have hl:=(LR y).1
    rw [if_neg (by unfold wordOf;simp only [YU];lia),<-YS,<-hm,ly]
    cases ho:c.on.next with
    | none=>
     rw [IK (by intro x q;cases q)]
    | some x=>
     dsimp only
     by_cases hx:x ∈ may
     ·rw [GU hn hx,if_pos (List.contains_iff_mem.mpr hx)]
      dsimp only
      have hl:=LR x
      rw [if_neg (by unfold wordOf;simp only [YU];lia)]
      rw [A9 (wordOf x) 14 2 c.on.on (by unfold wordOf;simp only [YU];lia) (by unfold wordOf;simp only [YU];lia)]
      rfl
     ·rw [IK (by intro z q;cases q;exact hx),if_neg (by rw [List.contains_iff_mem];exact hx)]
  ·rw [hno _ hb,if_neg (fun q=>hb q.1)]
theorem kY{ws:List Bytes}{c:Cur}{w:Bytes}(h:(ws.filter fun w=>decide (w[0]?=c.next))= [w])(h2:2<=w.length)(h16:w.length<=16):oneOf ws c=(lit w c).map fun d=>(w,d):=by
 have hm:w ∈ ws.filter fun w=>decide (w[0]?=c.next):=by rw [h];simp
 have hw:w[0]?=c.next:=Zc (Zp.mp hm).2
 rw [<-zj w c (by intro q;rw [q] at h2;simp at h2) h16]
 have e:([w].filter fun w=>decide (w[0]?=c.next))= [w]:=by simp [hw]
 unfold oneOf
 rw [ly,ly,h,e]
theorem vL{ws:List Bytes}{c:Cur}(h:(ws.filter fun w=>decide (w[0]?=c.next))= []):oneOf ws c= .error c.at_:=by
 unfold oneOf
 rw [ly,h]
def gY:Bytes:= [97,110,103,108,101,32]
def lq:Bytes:= [119,97,118,101,32]
def CL:Bytes:= [115,117,109,32]
theorem M7(c:Cur):oneOf [gY,lq,CL] c=
  if c.next=some 97 then (lit gY c).map fun d=>(gY,d) else if c.next=some 119 then (lit lq c).map fun d=>(lq,d) else if c.next=some 115 then (lit CL c).map fun d=>(CL,d) else .error c.at_:=by
 split
 ·rename_i h
  exact kY (by rw [h];rfl) (by decide) (by decide)
 split
 ·rename_i h
  exact kY (by rw [h];rfl) (by decide) (by decide)
 split
 ·rename_i h
  exact kY (by rw [h];rfl) (by decide) (by decide)
 ·rename_i h1 h2 h3
  refine vL ?_
  rw [List.filter_eq_nil_iff]
  intro w hw q
  have q:=Zc q
  simp only [YR,List.not_mem_nil,or_false] at hw
  rcases hw with rfl | rfl | rfl
  ·exact h1 q.symm
  ·exact h2 q.symm
  ·exact h3 q.symm
theorem Mg:ascii "angle "=gY:=by decide +kernel
theorem wU:ascii "wave "=lq:=by decide +kernel
theorem Qx:ascii "sum "=CL:=by decide +kernel
theorem QZ:ascii "urn "=aQ 116:=by decide +kernel
theorem Li:ascii "actor "=aQ 102:=by decide +kernel
theorem Nk:ascii "hift "=aQ 115:=by decide +kernel
theorem Ds:ascii "level "= [108,101,118,101,108,32]:=by decide +kernel
theorem Sd:ascii "90"= [57,48]:=by decide +kernel
theorem Qw:ascii "180"= [49,56,48]:=by decide +kernel
theorem QD:ascii "270"= [50,55,48]:=by decide +kernel
def j6:List Bytes:= [[57,48],[49,56,48],[50,55,48]]
def tN(w:Bytes):Nat:=if w= [57,48] then 1 else if w= [49,56,48] then 2 else 3
theorem Nf(c:Cur):(oneOf j6 c).map (fun p=>(tN p.1,p.2))=turnIn c:=by
 unfold turnIn
 rw [Sd,Qw,QD]
 split
 ·rename_i h
  rw [kY (w:= [57,48]) (by rw [h];rfl) (by decide) (by decide)]
  cases lit [57,48] c <;> rfl
 split
 ·rename_i h
  rw [kY (w:= [49,56,48]) (by rw [h];rfl) (by decide) (by decide)]
  cases lit [49,56,48] c <;> rfl
 split
 ·rename_i h
  rw [kY (w:= [50,55,48]) (by rw [h];rfl) (by decide) (by decide)]
  cases lit [50,55,48] c <;> rfl
 ·rename_i h1 h2 h3
  rw [vL]
  ·rfl
  rw [List.filter_eq_nil_iff]
  intro w hw q
  have q:=Zc q
  simp only [j6,YR,List.not_mem_nil,or_false] at hw
  rcases hw with rfl | rfl | rfl
  ·exact h1 q.symm
  ·exact h2 q.symm
  ·exact h3 q.symm
def cnt(k:Nat):Bytes:=if k < 10 then [UInt8.ofNat (48 + k),32] else [49,UInt8.ofNat (38 + k),32]
def iX:List Bytes:=(List.range 15).map fun k=>cnt (k + 1)
def countIn(c:Cur):Except Nat (Nat×Cur):=do
 let one:=nextIs (fun (x:UInt8)=>x == 49) c
 let (d,e):=some_ isDigit 1 c
 let (f,e):=if one=true/\nextIs (fun (x:UInt8)=>decide (48<=x.toNat) && decide (x.toNat<=53)) e=true then some_ isDigit 1 e else ([],e)
 let e <-blank e
 return (decimal (d++f),e)
theorem U6{x:UInt8}{n:Nat}(h:x.toNat=n)(hn:n < 256):x=UInt8.ofNat n:=by
 subst h
 simp
theorem Ey{c:Cur}{x:UInt8}(h:c.next=some x)(hd:isDigit x=true):some_ isDigit 1 c=([x],c.on):=by
 rw [some_,h]
 dsimp only
 rw [if_pos hd]
 rfl
theorem OA{c:Cur}{x:UInt8}{r:Bytes}(h:c.next=some x):lit (x::r) c=lit r c.on:=by rw [lit,if_pos h]
theorem MF{c:Cur}{x:UInt8}{k:Nat}(hx:c.next=some x)(hd:isDigit x=true)(h1:x≠49)(hf:(iX.filter fun w=>decide (w[0]?=some x))= [[x,32]]):
  (oneOf iX c).map (fun p=>(decimal p.1.dropLast,p.2))=countIn c:=by
 have ne:nextIs (fun (x:UInt8)=>x == 49) c=false:=by
  unfold nextIs
  rw [hx]
  simp [h1]
 unfold countIn
 rw [ne,Ey hx hd]
 dsimp only
 rw [if_neg (by simp),kY (w:= [x,32]) (by rw [hx];exact hf) (by simp) (by simp),OA hx]
 unfold blank
 cases lit [32] c.on with
 | error p=>rfl
 | ok d=>rfl
theorem Di{c:Cur}{x:UInt8}(hx:c.next=some x)(h1:49<=x.toNat)(h2:x.toNat<=57):(oneOf iX c).map (fun p=>(decimal p.1.dropLast,p.2))=countIn c:=by
 have hd:isDigit x=true:=by
  unfold isDigit
  simp
  lia
 rcases (show x.toNat=49\/x.toNat=50\/x.toNat=51\/x.toNat=52\/x.toNat=53\/x.toNat=54\/x.toNat=55\/x.toNat=56\/x.toNat=57 by lia) with h | h | h | h | h | h | h | h | h
 all_goals have e:=U6 h (by decide)
 ·have e1:x=49:=e
  subst e1
  have one:nextIs (fun (x:UInt8)=>x == 49) c=true:=by
   unfold nextIs
   rw [hx]
   rfl
  have f1:(iX.filter fun w=>decide (w[0]?=c.next))= [49,32]:: [[49,48,32],[49,49,32],[49,50,32],[49,51,32],[49,52,32],[49,53,32]]:=by
   rw [hx]
   decide +kernel
  unfold countIn oneOf
  rw [one,Ey hx hd,ly,f1]
  dsimp only
  rw [if_neg (by decide),ly]
  have err: ∀o:Option UInt8,(∀y,o=some y->y≠32/\ ¬(48<=y.toNat/\y.toNat<=53))->(([49,32]:: [[49,48,32],[49,49,32],[49,50,32],[49,51,32],[49,52,32],[49,53,32]]:List Bytes).filter fun w=>decide (w[1]?=o))= []:=by
   intro o ho
   rw [List.filter_eq_nil_iff]
   intro w hw q
   have q:=Zc q
   simp only [YR,List.not_mem_nil,or_false] at hw
   rcases hw with rfl | rfl | rfl | rfl | rfl | rfl | rfl
   ·exact (ho _ q.symm).1 rfl
   all_goals exact (ho _ q.symm).2 (by decide)
  cases hy:c.on.next with
  | none=>
   rw [err none (by intro y q;cases q)]
   have nx:nextIs (fun (x:UInt8)=>decide (48<=x.toNat) && decide (x.toNat<=53)) c.on=false:=by
    unfold nextIs
    rw [hy]
   rw [nx,if_neg (by simp)]
   unfold blank
   rw [lit,if_neg (by rw [hy];simp)]
   rfl
  | some y=>
   by_cases h32:y=32
   ·subst h32
    have nx:nextIs (fun (x:UInt8)=>decide (48<=x.toNat) && decide (x.toNat<=53)) c.on=false:=by
     unfold nextIs
     rw [hy]
     rfl
    have ff:(([49,32]:: [[49,48,32],[49,49,32],[49,50,32],[49,51,32],[49,52,32],[49,53,32]]:List Bytes).filter fun w=>decide (w[1]?=some 32))= [[49,32]]:=by decide +kernel
    rw [nx,if_neg (by simp),ff]
    unfold blank
    rw [OA hy]
    rfl
   ·by_cases hr:48<=y.toNat/\y.toNat<=53
    ·have nx:nextIs (fun (x:UInt8)=>decide (48<=x.toNat) && decide (x.toNat<=53)) c.on=true:=by
      unfold nextIs
      rw [hy]
      simp
      exact hr
     have hdy:isDigit y=true:=by
      unfold isDigit
      simp
      lia
     have ff:(([49,32]:: [[49,48,32],[49,49,32],[49,50,32],[49,51,32],[49,52,32],[49,53,32]]:List Bytes).filter fun w=>decide (w[1]?=some y))= [[49,y,32]]:=by
      rcases (show y.toNat=48\/y.toNat=49\/y.toNat=50\/y.toNat=51\/y.toNat=52\/y.toNat=53 by lia) with q | q | q | q | q | q
      all_goals
       have e:=U6 q (by decide)
       subst e
       decide +kernel
     rw [nx,if_pos ⟨rfl,rfl⟩,Ey hy hdy,ff]
     dsimp only
     rw [if_neg (by simp),A9 [49,y,32] 14 2 c.on.on (by simp) (by simp)]
     unfold blank
     show Except.map _ (Except.map _ (lit [32] c.on.on))=_
     cases lit [32] c.on.on with
     | error p=>rfl
     | ok d=>rfl
    ·rw [err (some y) (by intro z q;cases q;exact ⟨h32,hr⟩)]
     have nx:nextIs (fun (x:UInt8)=>decide (48<=x.toNat) && decide (x.toNat<=53)) c.on=false:=by
      unfold nextIs
      rw [hy]
      simp
      lia
     rw [nx,if_neg (by simp)]
     unfold blank
     rw [lit,if_neg (by rw [hy];simp;exact h32)]
     rfl
 all_goals
  subst e
  exact MF (k:=0) hx hd (by decide) (by decide +kernel)
end PM
namespace PJ
open Tide
structure Seg(lo hi:Nat)(ps:List Nat):Prop where
 le:lo<=hi
 pw:ps.Pairwise (· < ·)
 mem: ∀p ∈ ps,lo<=p/\p < hi
theorem Seg.nil{lo hi:Nat}(h:lo<=hi):Seg lo hi []:=⟨h,List.Pairwise.nil,fun _ q=>nomatch q⟩
theorem Seg.app{lo mid hi:Nat}{a b:List Nat}(x:Seg lo mid a)(y:Seg mid hi b):Seg lo hi (a++b):=by
 refine ⟨Y4 x.le y.le,List.pairwise_append.mpr ⟨x.pw,y.pw,fun p hp q hq=>?_⟩,fun p hp=>?_⟩
 ·have:=(x.mem p hp).2
  have:=(y.mem q hq).1
  lia
 ·rcases Zb.mp hp with h | h
  ·have:=x.mem p h
   have:=y.le
   lia
  ·have:=y.mem p h
   have:=x.le
   lia
theorem Seg.one{lo hi p:Nat}(h1:lo<=p)(h2:p < hi):Seg lo hi [p]:=⟨by lia,List.pairwise_singleton _ _,fun q hq=>by rw [YO.mp hq];exact ⟨h1,h2⟩⟩
theorem Seg.mono{lo lo' hi hi':Nat}{a:List Nat}(x:Seg lo hi a)(h1:lo'<=lo)(h2:hi<=hi'):Seg lo' hi' a:=⟨by have:=x.le;lia,x.pw,fun p hp=>by have:=x.mem p hp;lia⟩
theorem aX{α β:Type}{m:Except Nat α}{f:α->Except Nat β}{b:β}{R:Prop}(h:(m >>= f)= .ok b)(k: ∀a,m= .ok a->f a= .ok b->R):R:=by
 cases m with
 | error p=>cases h
 | ok a=>exact k a rfl h
theorem iW{α γ β:Type}{m:Except Nat (α×γ)}{f:α×γ->Except Nat β}{b:β}{R:Prop}(h:(m >>= f)= .ok b)(k: ∀a c,m= .ok (a,c)->f (a,c)= .ok b->R):R:=aX h fun a=>k a.1 a.2
theorem Cd{α γ δ β:Type}{m:Except Nat (α×γ×δ)}{f:α×γ×δ->Except Nat β}{b:β}{R:Prop}(h:(m >>= f)= .ok b)(k: ∀a c d,m= .ok (a,c,d)->f (a,c,d)= .ok b->R):R:=aX h fun a=>k a.1 a.2.1 a.2.2
theorem B7(c:Cur):c.on.at_=c.at_ + 1:=rfl
theorem fO: ∀(w:Bytes) {c d:Cur},lit w c= .ok d->d.at_=c.at_ + w.length
 | [],c,d,h=>by cases h;rfl
 | x::r,c,d,h=>by
  rw [lit] at h
  split at h
  ·have:=fO r h
   rw [this,B7,YU]
   lia
  ·cases h
theorem some_at(p:UInt8->Bool): ∀(n:Nat) (c:Cur),(some_ p n c).2.at_=c.at_ + (some_ p n c).1.length
 | 0,c=>rfl
 | n + 1,c=>by
  rw [some_]
  split
  ·split
   ·have:=some_at p n c.on
    dsimp only
    rw [this,B7,YU]
    lia
   ·rfl
  ·rfl
theorem L0{p:UInt8->Bool}{n:Nat}{c:Cur}(h:nextIs p c=true):0 < (some_ p (n + 1) c).1.length:=by
 unfold nextIs at h
 rw [some_]
 cases hx:c.next with
 | none=>rw [hx] at h;cases h
 | some x=>
  rw [hx] at h
  dsimp only at h ⊢
  rw [if_pos h]
  simp
theorem zH{c d:Cur}{n:Bytes}(h:nameIn c= .ok (n,d)):c.at_ < d.at_:=by
 unfold nameIn at h
 split at h
 ·rename_i hl
  have e:=Except.ok.inj h
  have e2:d=(some_ (fun (x:UInt8)=>isLetter x || isDigit x) 7 c).2:=(congrArg Prod.snd e).symm
  rw [e2,some_at]
  have hp:nextIs (fun (x:UInt8)=>isLetter x || isDigit x) c=true:=by
   unfold nextIs at hl ⊢
   split at hl
   ·rename_i x hx
    show (isLetter x || isDigit x)=true
    rw [hl]
    rfl
   ·cases hl
  have:0 < (some_ (fun (x:UInt8)=>isLetter x || isDigit x) 7 c).1.length:=L0 (n:=6) hp
  lia
 ·cases h
theorem zG{n:Nat}{c d:Cur}{b:Bytes}(h:someDigits n c= .ok (b,d)):c.at_<=d.at_:=by
 unfold someDigits at h
 split at h
 ·have e:=Except.ok.inj h
  have e2:d=(some_ isDigit n c).2:=(congrArg Prod.snd e).symm
  rw [e2,some_at]
  lia
 ·cases h
theorem Cf{c d:Cur}{v:Int}(h:number c= .ok (v,d)):c.at_<=d.at_:=by
 unfold number at h
 refine iW h fun b c1 h1 h=>?_
 refine iW h fun f c2 h2 h=>?_
 have e:=Except.ok.inj h
 have e2:d=c2:=(congrArg Prod.snd e).symm
 have a1:=zG h1
 have a0:c.at_<=(if nextIs (fun (x:UInt8)=>x == 45) c=true then c.on else c).at_:=by
  split
  ·rw [B7];lia
  ·exact YM _
 have a2:c1.at_<=c2.at_:=by
  split at h2
  ·have:=zG h2
   rw [B7] at this
   lia
  ·cases h2
   exact YM _
 rw [e2]
 lia
theorem count_at{c d:Cur}{k:Nat}(h:PM.countIn c= .ok (k,d)):c.at_<=d.at_:=by
 unfold PM.countIn at h
 have s1:=some_at isDigit 1 c
 generalize some_ isDigit 1 c=p at h s1
 obtain ⟨b,e⟩:=p
 have s2:=some_at isDigit 1 e
 dsimp only at h s1 s2
 by_cases hc:nextIs (fun (x:UInt8)=>x == 49) c=true/\nextIs (fun (x:UInt8)=>decide (48<=x.toNat) && decide (x.toNat<=53)) e=true
 ·rw [if_pos hc] at h
  generalize some_ isDigit 1 e=p2 at h s2
  obtain ⟨b2,e2⟩:=p2
  refine aX h fun e3 h3 h=>?_
  cases Except.ok.inj h
  have g3:=fO _ h3
  dsimp only at s2 g3
  lia
 ·rw [if_neg hc] at h
  refine aX h fun e3 h3 h=>?_
  cases Except.ok.inj h
  have g3:=fO _ h3
  dsimp only at g3
  lia
theorem Pe(m:Bool)(c:Cur):termIn m c=((if nextIs (fun (x:UInt8)=>decide (49<=x.toNat) && decide (x.toNat<=57)) c=true then PM.countIn c else .ok (1,c)) >>= fun p=>nameIn p.2 >>= fun q=> .ok (⟨m,p.1,q.1,p.2.at_⟩,q.2)):=rfl
theorem T3{m:Bool}{c d:Cur}{t:Term}(h:termIn m c= .ok (t,d)):Seg c.at_ d.at_ [t.at_]:=by
 rw [Pe] at h
 refine iW h fun k c1 h1 h=>?_
 refine iW h fun n e h2 h=>?_
 cases h
 have a2:=zH h2
 refine Seg.one ?_ a2
 split at h1
 ·exact count_at h1
 ·cases h1
  exact YM _
theorem IE{may:Bytes}{c d:Cur}{k:Option UInt8}(h:behind may c= .ok (k,d)):c.at_ < d.at_:=by
 unfold behind at h
 split at h
 ·cases h
  rw [B7]
  lia
 ·split at h
  ·split at h
   ·split at h
    ·cases h
     show c.at_ < c.on.on.at_
     rw [B7,B7]
     lia
    ·cases h
   ·cases h
  ·cases h
theorem Mh(may:Bytes): ∀(f:Nat) (m:Bool) (l:List Term) (c:Cur) (l':List Term) (k:Option UInt8) (d:Cur),terms may f m l c= .ok (l',k,d)-> ∃r,l'=l++r/\Seg c.at_ d.at_ (r.map Term.at_)
 | 0,m,l,c,l',k,d,h=>by cases h
 | f + 1,m,l,c,l',k,d,h=>by
  rw [terms] at h
  refine iW h fun x c1 h1 h=>?_
  refine iW h fun k1 c2 h2 h=>?_
  have s1:=T3 h1
  have b2:=IE h2
  dsimp only at h
  split at h
  ·refine aX h fun c3 h3 h=>?_
   have b3:=fO _ h3
   obtain ⟨r,e,s⟩:=Mh may f _ _ _ _ _ _ h
   refine ⟨x::r,by rw [e,Y3];rfl,?_⟩
   rw [YS]
   exact Seg.app (s1.mono (YM _) (YM _)) (s.mono (by lia) (YM _))
  ·have q:=Except.ok.inj h
   cases q
   refine ⟨[x],rfl,?_⟩
   exact s1.mono (YM _) (by lia)
theorem NR{may:Bytes}{c d:Cur}{l:List Term}{k:Option UInt8}(h:sumIn may c= .ok (l,k,d)):Seg c.at_ d.at_ (l.map Term.at_):=by
 unfold sumIn at h
 refine aX h fun c1 h1 h=>?_
 obtain ⟨r,e,s⟩:=Mh may _ _ _ _ _ _ _ h
 have a1:c.at_<=c1.at_:=by
  split at h1
  ·have:=fO _ h1
   rw [B7] at this
   lia
  ·cases h1
   exact YM _
 rw [e]
 exact s.mono a1 (YM _)
theorem EG(letter:UInt8)(word later:Bytes): ∀(f:Nat) (k:Option UInt8) (l:List Part) (c:Cur) (l':List Part) (k':Option UInt8) (d:Cur),partsIn letter word later f k l c= .ok (l',k',d)-> ∃r,l'=l++r/\Seg c.at_ d.at_ ((r.flatMap Part.sum).map Term.at_)
 | 0,k,l,c,l',k',d,h=>by
  cases h
  exact ⟨[],by simp,Seg.nil (YM _)⟩
 | f + 1,k,l,c,l',k',d,h=>by
  rw [partsIn] at h
  split at h
  ·refine aX h fun c1 h1 h=>?_
   refine iW h fun v c2 h2 h=>?_
   refine aX h fun c3 h3 h=>?_
   refine Cd h fun s k2 c4 h4 h=>?_
   obtain ⟨r,e,sg⟩:=EG letter word later f _ _ _ _ _ _ h
   have a1:=fO _ h1
   have a2:=Cf h2
   have a3:=fO _ h3
   have s4:=NR h4
   refine ⟨⟨v,s⟩::r,by rw [e,Y3];rfl,?_⟩
   rw [List.flatMap_cons,YT]
   exact Seg.app (s4.mono (by lia) (YM _)) sg
  ·cases h
   exact ⟨[],by simp,Seg.nil (YM _)⟩
def marks(l:Line):List Nat:=l.place::l.uses.map Term.at_
theorem OM{c d:Cur}{l:Line}(h:lineIn c= .ok (l,d)):Seg c.at_ d.at_ (marks l):=by
 unfold lineIn at h
 split at h
 ·refine aX h fun c1 h1 h=>?_
  refine iW h fun n c2 h2 h=>?_
  refine aX h fun c3 h3 h=>?_
  refine iW h fun x c4 h4 h=>?_
  refine aX h fun c5 h5 h=>?_
  refine iW h fun y c6 h6 h=>?_
  refine aX h fun c7 h7 h=>?_
  cases Except.ok.inj h
  have:=fO _ h1
  have:=zH h2
  have:=fO _ h3
  have:=Cf h4
  have:=fO _ h5
  have:=Cf h6
  have:=fO _ h7
  show Seg c.at_ _ [c1.at_]
  exact Seg.one (by lia) (by lia)
 split at h
 ·refine aX h fun c1 h1 h=>?_
  refine iW h fun n c2 h2 h=>?_
  refine aX h fun c3 h3 h=>?_
  refine Cd h fun s k c4 h4 h=>?_
  refine Cd h fun q k5 c5 h5 h=>?_
  refine Cd h fun fs k6 c6 h6 h=>?_
  refine Cd h fun ss k7 c7 h7 h=>?_
  cases Except.ok.inj h
  have:=fO _ h1
  have:=zH h2
  have:=fO _ h3
  have s4:=NR h4
  obtain ⟨r6,e6,s6⟩:=EG _ _ _ _ _ _ _ _ _ _ h6
  obtain ⟨r7,e7,s7⟩:=EG _ _ _ _ _ _ _ _ _ _ h7
  rw [List.nil_append] at e6 e7
  subst e6 e7
  have a5:c4.at_<=c5.at_:=by
   dsimp only at h5
   split at h5
   ·refine aX h5 fun d1 g1 h5=>?_
    refine iW h5 fun q1 d2 g2 h5=>?_
    refine iW h5 fun k1 d3 g3 h5=>?_
    cases Except.ok.inj h5
    have w1:=fO _ g1
    have w3:=IE g3
    dsimp only at w3
    have:d1.at_<=d2.at_:=by
     unfold turnIn at g2
     have lm: ∀(w:Bytes) (n:Nat),(lit w d1).map (fun (d:Cur)=>(n,d))= .ok (q1,d2)->d1.at_<=d2.at_:=by
      intro w n q
      cases hl:lit w d1 with
      | error p=>rw [hl] at q;cases q
      | ok z=>
       rw [hl] at q
       have:=fO _ hl
       cases q
       lia
     split at g2
     ·exact lm _ _ g2
     split at g2
     ·exact lm _ _ g2
     split at g2
     ·exact lm _ _ g2
     ·cases g2
    show c4.at_<=d3.at_
    lia
   ·cases Except.ok.inj h5
    exact YM _
  show Seg c.at_ _ (c1.at_::(s++(fs++ss).flatMap Part.sum).map Term.at_)
  rw [List.flatMap_append,YT,YT]
  have:=s4.le
  have:=s6.le
  have:=s7.le
  exact Seg.app (a:= [c1.at_]) (mid:=c3.at_) (Seg.one (by lia) (by lia)) (Seg.app (s4.mono (YM _) a5) (Seg.app s6 s7))
 split at h
 ·refine aX h fun c1 h1 h=>?_
  refine iW h fun n c2 h2 h=>?_
  refine aX h fun c3 h3 h=>?_
  refine Cd h fun s k c4 h4 h=>?_
  cases Except.ok.inj h
  have:=fO _ h1
  have:=zH h2
  have:=fO _ h3
  have s4:=NR h4
  have:=s4.le
  show Seg c.at_ _ (c1.at_::s.map Term.at_)
  exact Seg.app (a:= [c1.at_]) (mid:=c3.at_) (Seg.one (by lia) (by lia)) s4
 ·cases h
theorem Lp: ∀(f:Nat) (c:Cur) (l:List Line),linesIn f c= .ok l-> ∃hi,Seg c.at_ hi (l.flatMap marks)
 | 0,c,l,h=>by
  cases h
  exact ⟨c.at_,Seg.nil (YM _)⟩
 | f + 1,c,l,h=>by
  rw [linesIn] at h
  split at h
  ·cases h
   exact ⟨c.at_,Seg.nil (YM _)⟩
  ·refine iW h fun x c1 h1 h=>?_
   refine aX h fun r h2 h=>?_
   cases Except.ok.inj h
   obtain ⟨hi,s⟩:=Lp f c1 r h2
   exact ⟨hi,by rw [List.flatMap_cons];exact Seg.app (OM h1) s⟩
abbrev pick(m:Option (Nat×Nat))(x:Nat×Nat):Option (Nat×Nat):=match m with
 | some y=>if sooner y x=true then some y else some x
 | none=>some x
theorem iI(a b:Nat×Nat):sooner a b=true ↔ a.2 < b.2\/(a.2=b.2/\a.1<=b.1):=by
 unfold sooner
 simp
theorem L1{a b:Nat×Nat}(h:sooner a b=true)(h':sooner b a=true):a=b:=by
 rw [iI] at h h'
 have e2:a.2=b.2:=by lia
 have e1:a.1=b.1:=by lia
 exact Prod.ext e1 e2
theorem F6: ∀(ws:List (Nat×Nat)) (y w:Nat×Nat),(w=y\/w ∈ ws)->(∀x,x=y\/x ∈ ws->sooner w x=true)->ws.foldl pick (some y)=some w
 | [],y,w,h,_=>by
  rcases h with h | h
  ·rw [h];rfl
  ·cases h
 | x::r,y,w,h,m=>by
  rw [List.foldl_cons]
  show r.foldl pick (if sooner y x=true then some y else some x)=some w
  by_cases q:sooner y x=true
  ·rw [if_pos q]
   refine F6 r y w ?_ fun z hz=>m z (hz.elim .inl fun hz=> .inr (YK _ hz))
   rcases h with h | h
   ·exact .inl h
   ·rcases YR.mp h with e | e
    ·subst e
     exact .inl (L1 (m y (.inl rfl)) q)
    ·exact .inr e
  ·rw [if_neg q]
   refine F6 r x w ?_ fun z hz=>m z (hz.elim (fun e=> .inr (by rw [e];exact YN)) fun hz=> .inr (YK _ hz))
   rcases h with h | h
   ·subst h
    exact absurd (m x (.inr YN)) q
   ·rcases YR.mp h with e | e
    ·exact .inl e
    ·exact .inr e
theorem Lv{ws:List (Nat×Nat)}{w:Nat×Nat}(h:w ∈ ws)(m: ∀x ∈ ws,sooner w x=true):ws.foldl pick none=some w:=by
 cases ws with
 | nil=>cases h
 | cons x r=>
  rw [List.foldl_cons]
  exact F6 r x w (YR.mp h) fun z hz=>m z (YR.mpr hz)
def aw(before:List Line):List Line->List (Nat×Nat)
 | []=> []
 | l::r=>wrongs before l++aw (before++ [l]) r
theorem U0: ∀(l pre:List Line),((List.range l.length).flatMap fun (i:Nat)=>match l[i]? with
  | some x=>wrongs (pre++l.take i) x
  | none=> [])=aw pre l
 | [],pre=>rfl
 | x::r,pre=>by
  rw [YU,List.range_succ_eq_map,List.flatMap_cons,List.flatMap_map]
  have ih:=U0 r (pre++ [x])
  show wrongs (pre++ []) x++_=wrongs pre x++aw (pre++ [x]) r
  rw [Y0,<-ih]
  congr 1
  congr 1
  funext i
  show (match (x::r)[i + 1]? with | some y=>wrongs (pre++(x::r).take (i + 1)) y | none=> [])=_
  rw [List.getElem?_cons_succ,List.take_succ_cons]
  cases r[i]? with
  | none=>rfl
  | some y=>rw [Y3];rfl
theorem all_eq(l:List Line):allWrongs l=aw [] l:=by
 rw [<-U0]
 rfl
def qG(before:List Line)(l:Line):Bool:=before.any fun (x:Line)=>x.name == l.name
def uR(before:List Line)(l:Line):Bool:=if l.isAngle=true then decide (ANGLES<=(before.filter Line.isAngle).length) else decide (WAVES<=(before.filter fun (x:Line)=>!x.isAngle).length)
def qW(l:Line):Bool:=match l with
 | .wave _ _ _ _ fs _=>decide (10 ^ 12<=(fs.map fun (x:Part)=>x.number.natAbs).foldr (fun (a b:Nat)=>a + b) 0)
 | .sum _ _ s=>decide (COUNTS < (s.map fun (x:Term)=>x.count).foldr (fun (a b:Nat)=>a + b) 0)
 | .angle _ _ _ _=>false
def qm(before:List Line)(l:Line)(x:Term):Bool:=!before.any fun (y:Line)=>(if l.isWave=true then y.isAngle else y.isWave) && y.name == x.name
def bO(before:List Line)(l:Line):Option (Nat×Nat):=
 if qG before l=true then some (2,l.place) else if uR before l=true then some (4,l.place) else if qW l=true then some (5,l.place) else (l.uses.find? (qm before l)).map fun x=>(3,x.at_)
def cH(before:List Line):List Line->Option (Nat×Nat)
 | []=>none
 | l::r=>match bO before l with
  | some f=>some f
  | none=>cH (before++ [l]) r
theorem jY(before:List Line)(l:Line):wrongs before l=(if qG before l=true then [(2,l.place)] else [])++((l.uses.filter (qm before l)).map fun (x:Term)=>(3,x.at_))++(if uR before l=true then [(4,l.place)] else [])++(if qW l=true then [(5,l.place)] else []):=by
 unfold wrongs qG uR qW
 cases l with
 | angle n p x y=>rfl
 | wave n p s t fs ss=>
  show _++_=_++_
  congr 1
  simp only [decide_eq_true_eq]
  rfl
 | sum n p s=>
  show _++_=_++_
  congr 1
  simp only [decide_eq_true_eq]
  rfl
theorem vW{before:List Line}{l:Line}{f:Nat×Nat}(h:f ∈ wrongs before l):f=(2,l.place)\/f=(4,l.place)\/f=(5,l.place)\/ ∃x ∈ l.uses,f=(3,x.at_):=by
 rw [jY] at h
 simp only [Zb] at h
 rcases h with ((h | h) | h) | h
 ·split at h
  ·exact .inl (YO.mp h)
  ·cases h
 ·obtain ⟨x,hx,rfl⟩:=Zf.mp h
  exact .inr (.inr (.inr ⟨x,(Zp.mp hx).1,rfl⟩))
 ·split at h
  ·exact .inr (.inl (YO.mp h))
  ·cases h
 ·split at h
  ·exact .inr (.inr (.inl (YO.mp h)))
  ·cases h
theorem Be{before:List Line}{l:Line}{f:Nat×Nat}(h:f ∈ wrongs before l):f.2 ∈ marks l:=by
 rcases vW h with rfl | rfl | rfl | ⟨x,hx,rfl⟩
 ·exact YN
 ·exact YN
 ·exact YN
 ·exact YK _ (Zf.mpr ⟨x,hx,rfl⟩)
theorem MN: ∀ {l before:List Line} {f:Nat×Nat},f ∈ aw before l->f.2 ∈ l.flatMap marks
 | [],before,f,h=>by cases h
 | x::r,before,f,h=>by
  rw [List.flatMap_cons]
  rcases Zb.mp h with h | h
  ·exact Zi _ (Be h)
  ·exact Za _ (MN h)
theorem Fb{p:Term->Bool}: ∀ {l:List Term} {x:Term},(l.map Term.at_).Pairwise (· < ·)->l.find? p=some x->x ∈ l/\p x=true/\ ∀y ∈ l,p y=true->x.at_<=y.at_
 | [],x,_,h=>by cases h
 | z::r,x,hp,h=>by
  rw [YS,List.pairwise_cons] at hp
  rw [Zh] at h
  split at h
  ·rename_i q
   cases h
   refine ⟨YN,q,fun y hy _=>?_⟩
   rcases YR.mp hy with e | e
   ·rw [e];exact YM _
   ·exact Nat.le_of_lt (hp.1 _ (Zf.mpr ⟨y,e,rfl⟩))
  ·rename_i q
   obtain ⟨a,b,c⟩:=Fb hp.2 h
   refine ⟨YK _ a,b,fun y hy py=>?_⟩
   rcases YR.mp hy with e | e
   ·rw [e,q] at py;cases py
   ·exact c y e py
theorem G3{before:List Line}{l:Line}{f:Nat×Nat}(hp:(marks l).Pairwise (· < ·))(h:bO before l=some f):f ∈ wrongs before l/\ ∀x ∈ wrongs before l,sooner f x=true:=by
 have hu: ∀y ∈ l.uses,l.place < y.at_:=fun y hy=>(List.pairwise_cons.mp hp).1 _ (Zf.mpr ⟨y,hy,rfl⟩)
 have lt: ∀(k:Nat) (y:Term),y ∈ l.uses->sooner (k,l.place) (3,y.at_)=true:=fun k y hy=>(iI _ _).mpr (.inl (hu y hy))
 have le: ∀(k j:Nat),k<=j->sooner (k,l.place) (j,l.place)=true:=fun k j h=>(iI _ _).mpr (.inr ⟨rfl,h⟩)
 have m2: ∀x ∈ wrongs before l,qG before l=false->x≠(2,l.place):=fun x hx hd e=>by
  subst e
  rw [jY,hd] at hx
  simp only [Zb,Zf] at hx
  rcases hx with ((hx | ⟨y,_,hx⟩) | hx) | hx
  ·simp at hx
  ·simp at hx
  ·split at hx <;> simp at hx
  ·split at hx <;> simp at hx
 have m4: ∀x ∈ wrongs before l,uR before l=false->x≠(4,l.place):=fun x hx hd e=>by
  subst e
  rw [jY,hd] at hx
  simp only [Zb,Zf] at hx
  rcases hx with ((hx | ⟨y,_,hx⟩) | hx) | hx
  ·split at hx <;> simp at hx
  ·simp at hx
  ·simp at hx
  ·split at hx <;> simp at hx
 have m5: ∀x ∈ wrongs before l,qW l=false->x≠(5,l.place):=fun x hx hd e=>by
  subst e
  rw [jY,hd] at hx
  simp only [Zb,Zf] at hx
  rcases hx with ((hx | ⟨y,_,hx⟩) | hx) | hx
  ·split at hx <;> simp at hx
  ·simp at hx
  ·split at hx <;> simp at hx
  ·simp at hx
 unfold bO at h
 by_cases h2:qG before l=true
 ·rw [if_pos h2] at h
  cases h
  refine ⟨by rw [jY,if_pos h2];simp,fun x hx=>?_⟩
  rcases vW hx with rfl | rfl | rfl | ⟨y,hy,rfl⟩
  ·exact le _ _ (by decide)
  ·exact le _ _ (by decide)
  ·exact le _ _ (by decide)
  ·exact lt _ y hy
 rw [if_neg h2] at h
 rw [Bool.not_eq_true] at h2
 by_cases h4:uR before l=true
 ·rw [if_pos h4] at h
  cases h
  refine ⟨by rw [jY,if_pos h4];simp,fun x hx=>?_⟩
  rcases vW hx with e | rfl | rfl | ⟨y,hy,rfl⟩
  ·exact absurd e (m2 x hx h2)
  ·exact le _ _ (by decide)
  ·exact le _ _ (by decide)
  ·exact lt _ y hy
 rw [if_neg h4] at h
 rw [Bool.not_eq_true] at h4
 by_cases h5:qW l=true
 ·rw [if_pos h5] at h
  cases h
  refine ⟨by rw [jY,if_pos h5];simp,fun x hx=>?_⟩
  rcases vW hx with e | e | rfl | ⟨y,hy,rfl⟩
  ·exact absurd e (m2 x hx h2)
  ·exact absurd e (m4 x hx h4)
  ·exact le _ _ (by decide)
  ·exact lt _ y hy
 rw [if_neg h5] at h
 rw [Bool.not_eq_true] at h5
 obtain ⟨z,hz,rfl⟩:=Option.map_eq_some_iff.mp h
 obtain ⟨a,b,c⟩:=Fb (List.pairwise_cons.mp hp).2 hz
 refine ⟨?_,fun x hx=>?_⟩
 ·rw [jY]
  simp only [Zb,Zf]
  exact .inl (.inl (.inr ⟨z,Zp.mpr ⟨a,b⟩,rfl⟩))
 ·have hx':=hx
  rw [jY,h2,h4,h5] at hx
  simp only [Bool.false_eq_true,if_false,List.nil_append,Y0,Zf] at hx
  obtain ⟨y,hy,rfl⟩:=hx
  have hy:=Zp.mp hy
  have:=c y hy.1 hy.2
  rw [iI]
  show z.at_ < y.at_\/(z.at_=y.at_/\3<=3)
  lia
theorem FG{before:List Line}{l:Line}(h:bO before l=none):wrongs before l= []:=by
 unfold bO at h
 split at h
 ·cases h
 rename_i h2
 split at h
 ·cases h
 rename_i h4
 split at h
 ·cases h
 rename_i h5
 have hf:l.uses.find? (qm before l)=none:=Option.map_eq_none_iff.mp h
 rw [jY,if_neg h2,if_neg h4,if_neg h5]
 have:l.uses.filter (qm before l)= []:=by
  rw [List.filter_eq_nil_iff]
  intro x hx q
  exact absurd q (List.find?_eq_none.mp hf x hx)
 rw [this]
 rfl
theorem MV: ∀(l before:List Line),(l.flatMap marks).Pairwise (· < ·)->(aw before l).foldl pick none=cH before l
 | [],before,_=>rfl
 | x::r,before,hp=>by
  rw [List.flatMap_cons,List.pairwise_append] at hp
  obtain ⟨hp1,hp2,hp3⟩:=hp
  rw [cH]
  cases hf:bO before x with
  | none=>
   dsimp only
   rw [<-MV r (before++ [x]) hp2]
   show (wrongs before x++aw (before++ [x]) r).foldl pick none=_
   rw [FG hf]
   rfl
  | some f=>
   dsimp only
   obtain ⟨h1,h2⟩:=G3 hp1 hf
   refine Lv (Zi _ h1) fun y hy=>?_
   rcases Zb.mp hy with hy | hy
   ·exact h2 y hy
   ·exact (iI _ _).mpr (.inl (hp3 _ (Be h1) _ (MN hy)))
theorem GK(b:Bytes):judge b=match grammar b with
  | .error p=> .error (1,p)
  | .ok l=>match cH [] l with
   | some f=> .error f
   | none=> .ok l:=by
 unfold judge
 cases hg:grammar b with
 | error p=>rfl
 | ok l=>
  dsimp only
  obtain ⟨hi,s⟩:=Lp _ _ _ hg
  have e:=MV l [] s.pw
  rw [<-all_eq] at e
  rw [<-e]
  rfl
theorem vZ{a b:Nat}{c d:Cur}{v:Nat}(h:pointed a b c= .ok (v,d)):c.at_<=d.at_:=by
 unfold pointed at h
 refine iW h fun x c1 h1 h=>?_
 refine iW h fun f c2 h2 h=>?_
 obtain ⟨_,rfl⟩:v=_/\c2=d:=⟨(congrArg Prod.fst (Except.ok.inj h)).symm,congrArg Prod.snd (Except.ok.inj h)⟩
 have a1:=zG h1
 have a2:c1.at_<=c2.at_:=by
  split at h2
  ·have:=zG h2
   rw [B7] at this
   lia
  ·cases h2
   exact YM _
 show c.at_<=c2.at_
 lia
def KH(x:Share):List Nat:= [x.at_,x.lagAt]
theorem Jc: ∀(f:Nat) (c:Cur) (l:List Share),sharesIn f c= .ok l-> ∃hi,Seg c.at_ hi (l.flatMap KH)
 | 0,c,l,h=>by
  cases h
  exact ⟨c.at_,Seg.nil (YM _)⟩
 | f + 1,c,l,h=>by
  rw [sharesIn] at h
  split at h
  ·cases h
   exact ⟨c.at_,Seg.nil (YM _)⟩
  ·refine aX h fun c1 h1 h=>?_
   refine iW h fun n c2 h2 h=>?_
   refine aX h fun c3 h3 h=>?_
   refine iW h fun z c4 h4 h=>?_
   refine aX h fun c5 h5 h=>?_
   refine iW h fun g c6 h6 h=>?_
   refine aX h fun c7 h7 h=>?_
   refine aX h fun r h8 h=>?_
   cases Except.ok.inj h
   obtain ⟨hi,s⟩:=Jc f c7 r h8
   have w1:=fO _ h1
   have w2:=zH h2
   have w3:=fO _ h3
   have w4:=vZ h4
   have w5:=fO _ h5
   have w6:=vZ h6
   have w7:=fO _ h7
   have e7: [LF].length=1:=rfl
   refine ⟨hi,?_⟩
   rw [List.flatMap_cons]
   exact Seg.app (mid:=c7.at_) (Seg.app (a:= [c1.at_]) (b:= [c5.at_]) (mid:=c5.at_) (Seg.one (by lia) (by lia)) (Seg.one (YM _) (by lia))) s
theorem Lm: ∀ {ws:List (Nat×Nat)},ws.Pairwise (fun a b=>sooner a b=true)->ws.foldl pick none=ws.head?
 | [],_=>rfl
 | x::r,h=>by
  refine Lv YN fun y hy=>?_
  rcases YR.mp hy with e | e
  ·rw [e,iI]
   exact .inr ⟨rfl,YM _⟩
  ·exact (List.pairwise_cons.mp h).1 y e
def pw(l:List Line)(before:List Share):List Share->List (Nat×Nat)
 | []=> []
 | x::r=>shareWrongs l before x++pw l (before++ [x]) r
theorem Vd(l:List Line): ∀(s pre:List Share),((List.range s.length).flatMap fun (i:Nat)=>match s[i]? with
  | some x=>shareWrongs l (pre++s.take i) x
  | none=> [])=pw l pre s
 | [],pre=>rfl
 | x::r,pre=>by
  rw [YU,List.range_succ_eq_map,List.flatMap_cons,List.flatMap_map]
  have ih:=Vd l r (pre++ [x])
  show shareWrongs l (pre++ []) x++_=shareWrongs l pre x++pw l (pre++ [x]) r
  rw [Y0,<-ih]
  congr 1
  congr 1
  funext i
  show (match (x::r)[i + 1]? with | some y=>shareWrongs l (pre++(x::r).take (i + 1)) y | none=> [])=_
  rw [List.getElem?_cons_succ,List.take_succ_cons]
  cases r[i]? with
  | none=>rfl
  | some y=>rw [Y3];rfl
theorem Jk{l:List Line}{before:List Share}{x:Share}{f:Nat×Nat}(h:f ∈ shareWrongs l before x):f.2 ∈ KH x:=by
 unfold shareWrongs at h
 simp only [Zb] at h
 rcases h with h | h | h
 ·split at h
  ·rw [YO.mp h];exact YN
  ·cases h
 ·split at h
  ·cases h
  ·rw [YO.mp h];exact YN
 ·split at h
  ·rw [YO.mp h];exact YK _ YN
  ·cases h
theorem LM(l:List Line): ∀ {s before:List Share} {f:Nat×Nat},f ∈ pw l before s->f.2 ∈ s.flatMap KH
 | [],before,f,h=>by cases h
 | x::r,before,f,h=>by
  rw [List.flatMap_cons]
  rcases Zb.mp h with h | h
  ·exact Zi _ (Jk h)
  ·exact Za _ (LM l h)
theorem JO{l:List Line}{before:List Share}{x:Share}(h:x.at_ < x.lagAt):(shareWrongs l before x).Pairwise (fun a b=>sooner a b=true):=by
 have s23:sooner (2,x.at_) (3,x.at_)=true:=(iI _ _).mpr (.inr ⟨rfl,by show 2<=3;decide⟩)
 have s24:sooner (2,x.at_) (4,x.lagAt)=true:=(iI _ _).mpr (.inl h)
 have s34:sooner (3,x.at_) (4,x.lagAt)=true:=(iI _ _).mpr (.inl h)
 unfold shareWrongs
 split <;> split <;> split <;> simp [s23,s24,s34]
theorem ID(l:List Line): ∀(s before:List Share),(s.flatMap KH).Pairwise (· < ·)->(pw l before s).Pairwise (fun a b=>sooner a b=true)
 | [],before,_=>List.Pairwise.nil
 | x::r,before,hp=>by
  rw [List.flatMap_cons,List.pairwise_append] at hp
  obtain ⟨hp1,hp2,hp3⟩:=hp
  show (shareWrongs l before x++pw l (before++ [x]) r).Pairwise _
  refine List.pairwise_append.mpr ⟨JO ?_,ID l r _ hp2,fun a ha b hb=>(iI _ _).mpr (.inl (hp3 _ (Jk ha) _ (LM l hb)))⟩
  exact (List.pairwise_cons.mp hp1).1 _ (by simp)
def cE(l:List Line)(before:List Share)(x:Share):Option (Nat×Nat):=
 if before.any (fun (y:Share)=>y.name == x.name)=true then some (2,x.at_) else if (waves l).any (fun (w:Line)=>w.name == x.name)=true then (if ROUND<=x.lag then some (4,x.lagAt) else none) else some (3,x.at_)
def eO(l:List Line)(before:List Share):List Share->Option (Nat×Nat)
 | []=>none
 | x::r=>match cE l before x with
  | some f=>some f
  | none=>eO l (before++ [x]) r
theorem Ng(l:List Line)(before:List Share)(x:Share):(shareWrongs l before x).head?=cE l before x/\(cE l before x=none->shareWrongs l before x= []):=by
 unfold shareWrongs cE
 split <;> split <;> (try split) <;> simp
theorem Mz(l:List Line): ∀(s before:List Share),(pw l before s).head?=eO l before s
 | [],before=>rfl
 | x::r,before=>by
  obtain ⟨h1,h2⟩:=Ng l before x
  show (shareWrongs l before x++pw l (before++ [x]) r).head?=_
  rw [eO,List.head?_append,h1]
  cases hf:cE l before x with
  | none=>
   dsimp only
   rw [<-Mz l r]
   rfl
  | some f=>rfl
theorem wL(l:List Line)(b:Bytes):judgePort l b=match portGrammar b with
  | .error p=> .error (1,p)
  | .ok p=>match eO l [] p.shares with
   | some f=> .error f
   | none=> .ok p:=by
 unfold judgePort
 cases hg:portGrammar b with
 | error p=>rfl
 | ok p=>
  dsimp only
  unfold portGrammar at hg
  refine aX hg fun c1 h1 hg=>?_
  refine iW hg fun x c2 h2 hg=>?_
  refine aX hg fun c3 h3 hg=>?_
  refine aX hg fun r h4 hg=>?_
  cases Except.ok.inj hg
  obtain ⟨hi,s⟩:=Jc _ _ _ h4
  have e:=Lm (ID l r [] s.pw)
  rw [Mz,<-Vd] at e
  dsimp only
  rw [<-e]
  rfl
end PJ
namespace Td
open PySem PySem.Spec PyProof.Rows L2
variable {P:Program} {w:World} {K:W.Frag} {mg:Str->Option Value} {base:Heap} {A:Ad}
def Bt(n:Nat)(i:Int):Prop:=i.natAbs < 2 ^ n
theorem Bt.mul{a b:Nat}{i j:Int}(x:Bt a i)(y:Bt b j):Bt (a + b) (i * j):=by
 unfold Bt at *
 rw [Int.natAbs_mul,Nat.pow_add]
 exact Nat.mul_lt_mul'' x y
theorem Bt.mono{a b:Nat}{i:Int}(x:Bt a i)(h:a<=b):Bt b i:=YV x (Zu (by decide) h)
theorem Bt.add{a b c:Nat}{i j:Int}(x:Bt a i)(y:Bt b j)(h1:a < c)(h2:b < c):Bt c (i + j):=by
 have x':=x.mono (b:=c - 1) (by omega)
 have y':=y.mono (b:=c - 1) (by omega)
 unfold Bt at *
 have e:2 ^ c=2 ^ (c - 1) + 2 ^ (c - 1):=by
  have:c=(c - 1) + 1:=by omega
  rw [this,Nat.pow_succ]
  simp only [Nat.add_sub_cancel]
  omega
 omega
theorem Bt.neg{a:Nat}{i:Int}(x:Bt a i):Bt a (-i):=by
 unfold Bt at *
 rw [Int.natAbs_neg]
 exact x
theorem Bt.sub{a b c:Nat}{i j:Int}(x:Bt a i)(y:Bt b j)(h1:a < c)(h2:b < c):Bt c (i - j):=by
 rw [Int.sub_eq_add_neg]
 exact x.add y.neg h1 h2
theorem Bt.bg{a:Nat}{i:Int}(x:Bt a i)(h:a<=4000:=by decide):Bg i:=x.mono h
theorem vN{X:Cx}{i:Nat}{x:Str}{e:Expr}{te:TE}{op:Operator}{r:R2}{pos pos':Pos}(hN:X.N.Nodup)(hi:X.N[i]?=some x)(hx:Loc X.env.scope x)(ho:zN X (inplaceOp op) r)(he:PE X e te)(hf:X.fn x=true\/X.env.scope.names.lookup x=some .local:=by first | exact .inl rfl | exact .inr rfl | assumption):
  PS X (.AugAssign (.Name x pos') op e pos) (WB i te r):=VJ hN hi hx he ho hf
theorem NH:ay ["number","divisor"] ["number","divisor"] (aq CG):=jv rfl (by decide +kernel)
def NF(K:W.Frag)(A:Ad):Sp:=fun vs H Q _=> ∃n d:Int,vs= [.int n,.int d]/\0 < d/\Bt 3900 n/\Bt 3900 d/\Q (.int ((2 * n + d) / (2 * d))) H
theorem AY(T:Txt K mg A):bw P w K mg base (lA) 1 A.p8 A.rS ["number","divisor"] (NF K A):=by
 refine oq T.pJ NH fun vs H Q E h Rz kz=>?_
 obtain ⟨n,d,rfl,h0,bn,bd,q⟩:=h
 refine kz rfl fun cdv Ar outer s hr=>?_
 refine ⟨_,(aj (aD (aR o9 (aR kU (aR cg aH (pv 0)) (pv 1)) (aR cg aH (pv 1))))),?_⟩
 have b2:Bt 2 2:=by unfold Bt;decide
 exact ⟨_,rfl,_,_,rfl,rfl,⟨b2.bg,bn.bg⟩,_,rfl,_,_,rfl,rfl,_,rfl,_,_,rfl,rfl,⟨b2.bg,bd.bg⟩,_,_,rfl,rfl,⟨by lia,(b2.mul bd).bg⟩,q⟩
theorem KA:ay ["number"] ["number"] (aq ye):=jv rfl (by decide +kernel)
def KY(K:W.Frag)(A:Ad):Sp:=fun vs H Q _=> ∃n:Int,vs= [.int n]/\Q (.bl (decide (-2147483648<=n) && decide (n<=2147483647))) H
theorem wV(T:Txt K mg A):bw P w K mg base (lA) 1 A.kM A.nO ["number"] (KY K A):=by
 refine oq T.lI KA fun vs H Q E h Rz kz=>?_
 obtain ⟨n,rfl,q⟩:=h
 refine kz rfl fun cdv Ar outer s hr=>?_
 refine ⟨_,(aj (aD (Q7 O1 O1 (aC rfl T.tF) (pv 0) (aC rfl T.uE)))),?_⟩
 refine ⟨_,rfl,_,_,rfl,rfl,_,rfl,?_⟩
 by_cases h1:(-2147483648:Int)<=n
 ·rw [YQ h1] at q ⊢
  exact ⟨_,_,rfl,rfl,q⟩
 ·rw [YJ h1] at q ⊢
  exact q
def IC(t k:Int):Bool:=decide (-2147483648<=t) && decide (t<=2147483647) && decide (k<=128) && (decide (k=0) || (decide (-2147483648<=t + k - 1) && decide (t + k - 1<=2147483647)))
theorem NV:ay ["start","count"] ["start","count"] (aq Ci):=jv rfl (by decide +kernel)
def NZ(K:W.Frag)(A:Ad):Sp:=fun vs H Q _=> ∃t k:Int,vs= [.int t,.int k]/\Q (.bl (IC t k)) H
theorem AN(T:Txt K mg A):bw P w K mg base (lA) 2 A.pR A.rT ["start","count"] (NZ K A):=by
 refine oq T.pY NV fun vs H Q E h Rz kz=>?_
 obtain ⟨t,k,rfl,q⟩:=h
 refine kz rfl fun cdv Ar outer s hr=>?_
 refine ⟨_,(ah (b6 (PW.pt (Ou (Ak (oA (aB (wV T) (hr.mono (by decide)) rfl T.qp T.lI.kp T.yJ .nil aL (aa (pv 0) ai)))) (K4 (aO R4 (pv 1) (aC rfl T.sr) (aT _))))) (aj (aD Ji)) aU)
   (aj (aD (WG (zg fQ (pv 1) aH (aT _)) (Wc (aB (wV T) (hr.mono (by decide)) rfl T.qp T.lI.kp T.yJ .nil aL (aa (aR uz (aR kU (pv 0) (pv 1)) aH) ai))))))),?_⟩
 refine ⟨_,rfl,t,rfl,_,rfl,?_⟩
 unfold IC at q
 cases h1:(decide (-2147483648<=t) && decide (t<=2147483647)) with
 | false=>
  rw [h1] at q
  exact q
 | true=>
  rw [h1] at q
  refine ⟨_,rfl,_,_,rfl,rfl,_,rfl,?_⟩
  by_cases h2:k<=128
  ·rw [YQ h2] at q
   have e:decide ((128:Int) < k)=false:=YJ (by omega)
   rw [e]
   refine ⟨_,rfl,rfl,_,rfl,?_⟩
   by_cases h3:k=0
   ·rw [YQ h3] at q
    rw [YQ (show V.int k=V.int 0 by rw [h3])]
    exact q
   ·rw [YJ h3] at q
    rw [YJ (show ¬V.int k=V.int 0 by intro z;cases z;exact h3 rfl)]
    exact ⟨_,rfl,_,rfl,_,_,rfl,rfl,_,_,rfl,rfl,_,rfl,q⟩
  ·rw [YJ h2] at q
   have e:decide ((128:Int) < k)=true:=YQ (by omega)
   rw [e]
   exact q
theorem VO:ay ["part","whole"] ["part","whole"] (aq R8):=jv rfl (by decide +kernel)
def VE(K:W.Frag)(A:Ad):Sp:=fun vs H Q _=> ∃p d:Int,vs= [.int p,.int d]/\0 < d/\Bt 3900 p/\Bt 3900 d/\Q (.int (p * 4294967296 / d % 4294967296)) H
theorem R6(T:Txt K mg A):bw P w K mg base (lA) 1 A.Gk A.IP ["part","whole"] (VE K A):=by
 refine oq T.IX VO fun vs H Q E h Rz kz=>?_
 obtain ⟨p,d,rfl,h0,bp,bd,q⟩:=h
 refine kz rfl fun cdv Ar outer s hr=>?_
 refine ⟨_,(aj (aD (aR Oa (aR o9 (aR cg (pv 0) (aC rfl T.j5)) (pv 1)) (aC rfl T.j5)))),?_⟩
 have b2:Bt 33 4294967296:=by unfold Bt;decide
 exact ⟨_,rfl,_,_,rfl,rfl,⟨bp.bg,b2.bg⟩,_,rfl,_,_,rfl,rfl,⟨h0,bd.bg⟩,_,_,rfl,rfl,(by show (0:Int) < 4294967296;decide),q⟩
theorem CW:ay ["minute"] ["minute"] (aq qL):=jv rfl (by decide +kernel)
def CQ(K:W.Frag)(A:Ad):Sp:=fun vs H Q _=> ∃t:Int,vs= [.int t]/\Bt 100 t/\Q (.int (t / 32768 * 32768 + 16384)) H
theorem C0(T:Txt K mg A):bw P w K mg base (lA) 1 A.fH A.ia ["minute"] (CQ K A):=by
 refine oq T.jQ CW fun vs H Q E h Rz kz=>?_
 obtain ⟨t,rfl,bt,q⟩:=h
 refine kz rfl fun cdv Ar outer s hr=>?_
 refine ⟨_,(aj (aD (aR kU (aR cg (aR o9 (pv 0) (aC rfl T.ql)) (aC rfl T.ql)) (aC rfl T.nJ)))),?_⟩
 have b2:Bt 16 32768:=by unfold Bt;decide
 have h:Bt 101 (t / 32768):=by unfold Bt at *;omega
 exact ⟨_,rfl,_,_,rfl,rfl,⟨by show (0:Int) < 32768;decide,b2.bg⟩,_,_,rfl,rfl,⟨h.bg,b2.bg⟩,_,_,rfl,rfl,q⟩
theorem Jm:ay ["fine","size"] ["fine"] (aq Fc):=jv rfl (by decide +kernel)
def Qj(K:W.Frag)(A:Ad):Sp:=fun vs H Q _=> ∃c:Int,vs= [.int c]/\Q (.int (Tide.rounded c)) H
theorem Qa(T:Txt K mg A):bw P w K mg base (lA) 1 A.tE A.u7 ["fine"] (Qj K A):=by
 refine oq T.yN Jm fun vs H Q E h Rz kz=>?_
 obtain ⟨c,rfl,q⟩:=h
 refine kz rfl fun cdv Ar outer s hr=>?_
 refine ⟨_,(ah (aF (i:=1) Jm.nd rfl (Or.inl rfl) (aR o9 (aR kU (bN yh (by rfl) T.Gr (by decide +kernel) (aa (pv 0) ai)) (aC rfl T.qZ)) (aC rfl T.Ax)))
   (aj (aD (u9 (aO Il (pv 0) aH (aT _)) (C_ yg (pv 1)) (pv 1))))),?_⟩
 refine ⟨_,rfl,_,rfl,_,_,rfl,rfl,_,_,rfl,rfl,⟨by show (0:Int) < 5846006549323611672814739330865132078623730171904;decide,?_⟩,?_⟩
 ·have:Bt 200 5846006549323611672814739330865132078623730171904:=by unfold Bt;decide
  exact this.bg
 ·have e:Tide.rounded c=if c < 0 then -(((if c < 0 then -c else c) + 2923003274661805836407369665432566039311865085952) / 5846006549323611672814739330865132078623730171904) else ((if c < 0 then -c else c) + 2923003274661805836407369665432566039311865085952) / 5846006549323611672814739330865132078623730171904:=by
   unfold Tide.rounded
   have e1:(2:Nat) ^ (Tide.BITS - 31)=2923003274661805836407369665432566039311865085952:=by decide
   have e2:(2:Nat) ^ (Tide.BITS - 30)=5846006549323611672814739330865132078623730171904:=by decide
   rw [e1,e2]
   by_cases h:c < 0
   ·simp only [h,if_true]
    have:((c.natAbs:Nat):Int)= -c:=by lia
    lia
   ·simp only [h,if_false]
    have:((c.natAbs:Nat):Int)=c:=by lia
    lia
  rw [e] at q
  refine ⟨_,rfl,_,_,rfl,rfl,_,rfl,?_⟩
  by_cases h:c < 0
  ·simp only [h,if_true] at q
   rw [YQ h]
   refine ⟨_,rfl,_,rfl,?_⟩
   simp only [h,if_true]
   exact q
  ·simp only [h,if_false] at q
   rw [YJ h]
   refine ⟨_,rfl,?_⟩
   simp only [h,if_false]
   exact q
end Td
namespace Td
open PySem PyProof.Rows
def jo:List Int->Int
 | a::_::_::_::r=>a + jo r
 | a::_=>a
 | []=>0
theorem zB(l:List Int):jo l=match l with
  | []=>0
  | a::r=>a + jo (r.drop 3):=by
 match l with
 | []=>rfl
 | [a]=>simp [jo]
 | [a,_]=>simp [jo]
 | [a,_,_]=>simp [jo]
 | a::_::_::_::r=>simp [jo]
theorem FF(i n:Nat):sliceRange (i:Int) (n:Int) 4=if i < n then i::sliceRange ((i + 4:Nat):Int) (n:Int) 4 else []:=by
 unfold sliceRange
 by_cases h:i < n
 ·have h1:(i:Int) < (n:Int):=by lia
  rw [if_pos h]
  simp only [show (4:Int) > 0 by decide,if_true,h1]
  have e:(((n:Int) - (i:Int) + 4 - 1) / 4).toNat=((if ((i + 4:Nat):Int) < (n:Int) then (((n:Int) - ((i + 4:Nat):Int) + 4 - 1) / 4) else 0):Int).toNat + 1:=by
   split <;> lia
  rw [e,List.range_succ_eq_map,YS,List.map_map]
  have e2:((i:Int) + 4 * ((0:Nat):Int)).toNat=i:=by lia
  rw [e2]
  refine congrArg (List.cons i) ?_
  apply List.map_congr_left
  intro k _
  show ((i:Int) + 4 * ((k + 1:Nat):Int)).toNat=(((i + 4:Nat):Int) + 4 * (k:Int)).toNat
  lia
 ·have h1: ¬(i:Int) < (n:Int):=by lia
  rw [if_neg h]
  simp [h1]
theorem Mt(ns:List Int): ∀(k i:Nat),ns.length - i<=k->((sliceRange (i:Int) (ns.length:Int) 4).filterMap (ns[·]?)).sum=jo (ns.drop i)
 | 0,i,h=>by
  rw [FF,if_neg (by omega),List.drop_of_length_le (by omega)]
  rfl
 | k + 1,i,h=>by
  rw [FF]
  by_cases h1:i < ns.length
  ·rw [if_pos h1,List.filterMap_cons,Y9 h1]
   simp only [List.sum_cons]
   rw [Mt ns k (i + 4) (by omega),Zo h1,zB (ns[i]::ns.drop (i + 1))]
   simp only [List.drop_drop]
  ·rw [if_neg h1,List.drop_of_length_le (by omega)]
   rfl
theorem OX(ns:List Int)(i:Nat):(pickNums ns (some (i:Int)) none (some 4)).sum=jo (ns.drop i):=by
 unfold pickNums sliceBounds
 simp only [Option.getD_some,show (4:Int) > 0 by decide,if_true]
 have e:(max (0:Int) (min (if (i:Int) < 0 then (i:Int) + (ns.length:Int) else (i:Int)) (ns.length:Int)))=((min i ns.length:Nat):Int):=by
  rw [if_neg (by lia)]
  lia
 rw [e,Mt ns _ _ (YM _)]
 by_cases h:i<=ns.length
 ·rw [Nat.min_eq_left h]
 ·rw [Nat.min_eq_right (by lia),List.drop_of_length_le (YM _),List.drop_of_length_le (by lia)]
theorem Gp: ∀(l:List Int) (m:Nat),jo (l++List.replicate m 0)=jo l
 | [],m=>by
  have z: ∀m:Nat,jo (List.replicate m 0)=0:=by
   intro m
   induction m using Nat.strongRecOn with
   | ind m ih=>
    match m with
    | 0=>rfl
    | 1=>rfl
    | 2=>rfl
    | 3=>rfl
    | m + 4=>
     show (0:Int) + jo (List.replicate m 0)=0
     rw [ih m (by omega)]
     rfl
  rw [List.nil_append]
  exact z m
 | a::r,m=>by
  rw [List.cons_append,zB (a::(r++_)),zB (a::r)]
  show a + jo ((r++List.replicate m 0).drop 3)=a + jo (r.drop 3)
  rw [List.drop_append,List.drop_replicate,Gp (r.drop 3)]
 termination_by l=>l.length
 decreasing_by simp;omega
theorem E3: ∀(l:List Nat),l.length % 4=0->Tide.turnAbout l=jo (Tide.asInts l) - jo ((Tide.asInts l).drop 2)
 | [],_=>rfl
 | a::x::b::y::r,h=>by
  have ih:=E3 r (by simp at h;lia)
  show (a:Int) - (b:Int) + Tide.turnAbout r=_
  rw [ih]
  have e1:jo (Tide.asInts (a::x::b::y::r))=(a:Int) + jo (Tide.asInts r):=rfl
  have e2:jo ((Tide.asInts (a::x::b::y::r)).drop 2)=(b:Int) + jo ((Tide.asInts r).drop 2):=by
   show jo ((b:Int)::(y:Int)::Tide.asInts r)=_
   rw [zB]
   show (b:Int) + jo ((Tide.asInts r).drop 2)=_
   rfl
  rw [e1,e2]
  lia
 | [_],h=>by simp at h
 | [_,_],h=>by simp at h
 | [_,_,_],h=>by simp at h
def Jr(x:Nat):Nat->Nat->Nat->List Nat
 | 0,_,_=> []
 | f + 1,k,t=>t::if t * x / 2 ^ 192 / (k + 1)=0 then [] else Jr x f (k + 1) (t * x / 2 ^ 192 / (k + 1))
theorem MU(x:Nat): ∀(f k:Nat),Tide.arcTerms x f k 0=List.replicate f 0
 | 0,_=>rfl
 | f + 1,k=>by
  show 0::Tide.arcTerms x f (k + 1) (0 * x / 2 ^ Tide.BITS / (k + 1))=_
  rw [Nat.zero_mul,Nat.zero_div,Nat.zero_div,MU x f]
  rfl
theorem Ti(x:Nat): ∀(f k t:Nat),∃m,Tide.arcTerms x f k t=Jr x f k t++List.replicate m 0
 | 0,_,_=>⟨0,rfl⟩
 | f + 1,k,t=>by
  have e0:Tide.arcTerms x (f + 1) k t=t::Tide.arcTerms x f (k + 1) (t * x / 2 ^ 192 / (k + 1)):=rfl
  have e1:Jr x (f + 1) k t=t::if t * x / 2 ^ 192 / (k + 1)=0 then [] else Jr x f (k + 1) (t * x / 2 ^ 192 / (k + 1)):=rfl
  rw [e0,e1]
  by_cases h:t * x / 2 ^ 192 / (k + 1)=0
  ·rw [if_pos h,h,MU]
   exact ⟨f,rfl⟩
  ·rw [if_neg h]
   obtain ⟨m,e⟩:=Ti x f (k + 1) (t * x / 2 ^ 192 / (k + 1))
   exact ⟨m,by rw [e];rfl⟩
theorem EO(x:Nat): ∀(f k t:Nat),(Tide.arcTerms x (f + 1) k t).take f=Tide.arcTerms x f k t
 | 0,_,_=>rfl
 | f + 1,k,t=>by
  show t::(Tide.arcTerms x (f + 1) (k + 1) _).take f=t::Tide.arcTerms x f (k + 1) _
  rw [EO x f]
theorem Eu(x:Nat): ∀(f k t:Nat),(Tide.arcTerms x f k t).length=f
 | 0,_,_=>rfl
 | f + 1,k,t=>by
  show (Tide.arcTerms x f (k + 1) _).length + 1=f + 1
  rw [Eu x f]
def Me(x:Nat):List Int:=Tide.asInts (Jr x 64 0 (2 ^ 192))
theorem Js(m:Nat):Tide.asInts (List.replicate m 0)=List.replicate m 0:=by simp [Tide.asInts]
theorem uh(a b:List Nat):Tide.asInts (a++b)=Tide.asInts a++Tide.asInts b:=by simp [Tide.asInts]
theorem UQ(x:Nat): ∃m,Tide.asInts (Tide.arcTerms x 64 0 (2 ^ 192))=Me x++List.replicate m 0:=by
 obtain ⟨m,e⟩:=Ti x 64 0 (2 ^ 192)
 exact ⟨m,by rw [e,uh,Js];rfl⟩
theorem Bk(x i:Nat):jo ((Tide.asInts (Tide.arcTerms x 64 0 (2 ^ 192))).drop i)=jo ((Me x).drop i):=by
 obtain ⟨m,e⟩:=UQ x
 rw [e,List.drop_append,List.drop_replicate,Gp]
theorem UR(x:Nat):Tide.cosOf x=jo (Me x) - jo ((Me x).drop 2):=by
 unfold Tide.cosOf Tide.series
 rw [List.drop_zero,EO,E3 _ (by rw [Eu])]
 have h0:=Bk x 0
 rw [List.drop_zero,List.drop_zero] at h0
 show jo (Tide.asInts (Tide.arcTerms x 64 0 (2 ^ 192))) - jo ((Tide.asInts (Tide.arcTerms x 64 0 (2 ^ 192))).drop 2)=_
 rw [h0,Bk]
theorem Gx: ∀(l:List Int) (z:Int),l.length % 4≠0->jo (l++ [z])=jo l
 | [a,b,c],z,_=>by simp [jo]
 | [a,b],z,_=>by simp [jo]
 | [a],z,_=>by simp [jo]
 | a::b::c::d::r,z,h=>by
  show a + jo (r++ [z])=a + jo r
  rw [Gx r z (by simp at h;lia)]
 | [],_,h=>by simp at h
theorem Ux(x:Nat):Tide.sinOf x=jo ((Me x).drop 1) - jo ((Me x).drop 3):=by
 unfold Tide.sinOf Tide.series
 obtain ⟨z,ez⟩: ∃z,Tide.arcTerms x 65 0 (2 ^ Tide.BITS)=Tide.arcTerms x 64 0 (2 ^ 192)++ [z]:=by
  have h1:=EO x 64 0 (2 ^ 192)
  have h2:=Eu x 65 0 (2 ^ 192)
  have h3:=Zr 64 (Tide.arcTerms x 65 0 (2 ^ 192))
  rw [h1] at h3
  have h4:((Tide.arcTerms x 65 0 (2 ^ 192)).drop 64).length=1:=by rw [List.length_drop,h2]
  obtain ⟨z,ez⟩:=List.length_eq_one_iff.mp h4
  rw [ez] at h3
  exact ⟨z,h3.symm⟩
 have hl:=Eu x 64 0 (2 ^ 192)
 rw [ez,List.drop_append_of_le_length (by lia),List.take_of_length_le (by rw [YH,List.length_drop,hl];simp),E3 _ (by rw [YH,List.length_drop,hl];simp)]
 rw [uh,show Tide.asInts [z]= [(z:Int)] from rfl]
 have e1:Tide.asInts ((Tide.arcTerms x 64 0 (2 ^ 192)).drop 1)=(Tide.asInts (Tide.arcTerms x 64 0 (2 ^ 192))).drop 1:=by simp [Tide.asInts,List.map_drop]
 have hl2:(Tide.asInts (Tide.arcTerms x 64 0 (2 ^ 192))).length=64:=by rw [Tide.asInts,YI];exact hl
 rw [e1,Gx _ _ (by rw [List.length_drop,hl2];decide),List.drop_append_of_le_length (by rw [List.length_drop,hl2];lia),List.drop_drop]
 have e2:jo ((Tide.asInts (Tide.arcTerms x 64 0 (2 ^ 192))).drop (1 + 2)++ [(z:Int)])=jo ((Tide.asInts (Tide.arcTerms x 64 0 (2 ^ 192))).drop 3):=by
  exact Gx _ _ (by rw [List.length_drop,hl2];decide)
 rw [e2,Bk,Bk]
end Td
namespace Td
open PySem PySem.Spec PyProof.Rows L2
variable {P:Program} {w:World} {K:W.Frag} {mg:Str->Option Value} {base:Heap} {A:Ad}
theorem Pn{x t:Nat}(k:Nat)(hx:x<=Tide.QUARTER)(ht:t<=2 ^ (192 + k)):t * x / 2 ^ 192 / (k + 1)<=2 ^ (192 + (k + 1)):=by
 have h1:Tide.QUARTER<=2 ^ 193:=by decide
 have h2:t * x<=2 ^ (192 + k) * 2 ^ 193:=Nat.mul_le_mul ht (Y4 hx h1)
 have h3:t * x / 2 ^ 192<=2 ^ (192 + k) * 2:=by
  refine Nat.div_le_of_le_mul ?_
  have e:2 ^ 192 * (2 ^ (192 + k) * 2)=2 ^ (192 + k) * 2 ^ 193:=by rw [Nat.mul_comm,Nat.mul_assoc]
  rw [e]
  exact h2
 refine Y4 (Nat.div_le_self _ _) ?_
 rw [<-Nat.add_assoc,Nat.pow_succ]
 exact h3
theorem OY{C:Int->Int->Prop}{g:Int->Int->V}{i j:Int}{Q:VK}{H:Hp}{v:V}(c:C i j)(e:g i j=v)(q:Q v H):rI C g (.int i) (.int j) H Q:=⟨i,j,rfl,rfl,c,e▸q⟩
theorem GI{g:Int->Int->V}{i j:Int}{Q:VK}{H:Hp}{v:V}(e:g i j=v)(q:Q v H):Ra g (.int i) (.int j) H Q:=⟨i,j,rfl,rfl,e▸q⟩
theorem Rl(t x P i:Nat):(t:Int) * (x:Int) / (P:Int) / (1 + (i:Int))=((t * x / P / (i + 1):Nat):Int):=by
 push_cast
 rw [Int.add_comm 1 (i:Int)]
theorem o5:ay ["arc","terms","term","number"] ["arc"] (aq x6):=jv rfl (by decide +kernel)
def K7(K:W.Frag)(A:Ad):Sp:=fun vs H Q _=> ∃x:Nat,vs= [.int x]/\x<=Tide.QUARTER/\ ∀p H',aN H H'->H p=none->H' p=some (.lst ((Me x).map V.int))->Q (.ref p) H'
theorem A5(T:Txt K mg A):bw P w K mg base (lA) 1 A.lC A.nQ ["arc"] (K7 K A):=by
 refine oq T.n_ o5 fun vs H Q E h Rz kz=>?_
 obtain ⟨x,rfl,hx,q⟩:=h
 refine kz rfl fun cdv Ar outer s hr=>?_
 refine ⟨_,(ah (aF (i:=1) o5.nd rfl (Or.inl rfl) (dJ ai))
   (ah (aF (i:=2) o5.nd rfl (Or.inl rfl) (aC rfl T.z_))
   (ah (jw PassesOwn.never rfl (Ce rfl T.zx (aa aH (aa (aR kU (aC rfl T.wI) aH) ai))) (b9 (i:=3) o5.nd rfl (Or.inl rfl)) (ah (cJ (qw PySem.F.plainAttrs_list PySem.F.slot_list_append PySem.F.type_list_append nZ (pv 1) (aa (pv 2) ai)))
   (ah (aF (i:=2) o5.nd rfl (Or.inl rfl) (aR o9 (aR Wb (aR cg (pv 2) (pv 0)) (aC rfl T.yI)) (pv 3)))
   (aj (b6 (aO fQ (pv 2) aH (aT _)) (aj (aD (pv 1))) aU)))))
   (aj (aD (pv 1)))))),?_⟩
 refine ⟨YW _,fun p hp=>?_⟩
 refine ⟨_,_,rfl,rfl,1,65,rfl,⟨by decide,by decide,by decide,by decide⟩,CP (lo:=1) (n:=64) (fun i σ H'=> ∃(t:Nat) (v:Option V),σ= [some (.int x),some (.ref p),some (.int t),v]/\aN H H'/\t<=2 ^ (192 + i)/\ ∃ns:List Nat,ns.length=i/\H' p=some (.lst ((Tide.asInts ns).map V.int))/\Jr x 64 0 (2 ^ 192)=ns++Jr x (64 - i) i t) ?_ ?_ ?_⟩
 ·refine ⟨2 ^ 192,none,rfl,?_,YM _,[],rfl,af,rfl⟩
  intro b o e
  rw [ak (ao e hp)]
  exact e
 ·rintro i σ H' hi ⟨t,v,rfl,s1,ht,ns,hl,hL,e⟩
  have e2:Jr x (64 - i) i t=t::if t * x / 2 ^ 192 / (i + 1)=0 then [] else Jr x (64 - (i + 1)) (i + 1) (t * x / 2 ^ 192 / (i + 1)):=by
   have:64 - i=(64 - (i + 1)) + 1:=by lia
   rw [this]
   rfl
  refine ⟨_,rfl,.inl ⟨rfl,_,b_.of hL⟩,_,rfl,p,_,_,rfl,rfl,hL,?_,?_⟩
  ·rw [YI,Tide.asInts,YI,hl,sizeLine_eq]
   lia
  have bt:Bt 300 (t:Int):=by
   unfold Bt
   have:(2:Nat) ^ (192 + i)<=2 ^ 256:=Zu (by decide) (by lia)
   have h3:(2:Nat) ^ 256 < 2 ^ 300:=by decide
   lia
  have bx:Bt 300 (x:Int):=by
   unfold Bt
   have:Tide.QUARTER < 2 ^ 300:=by decide
   lia
  have s2:aN H (upd H' p (.lst ((Tide.asInts ns).map V.int++ [V.int t]))):=fun b o e=>by
   rw [ak (ao e hp)]
   exact s1 b o e
  have b1:Bg (1 + (i:Int)):=by
   have:Bt 100 (1 + (i:Int)):=by
    unfold Bt
    have:(100:Nat) < 2 ^ 100:=by decide
    lia
   exact this.bg
  have eL:(Tide.asInts ns).map V.int++ [V.int t]=(Tide.asInts (ns++ [t])).map V.int:=by rw [uh,YT];rfl
  refine ⟨_,rfl,_,rfl,_,_,rfl,rfl,⟨bt.bg,bx.bg⟩,_,_,rfl,rfl,by show (0:Int)<=192;decide,_,rfl,?_⟩
  have ev:((t:Int) * (x:Int) / 2 ^ (192:Int).toNat) / (1 + (i:Int))=((t * x / 2 ^ 192 / (i + 1):Nat):Int):=by
   have e4:(2:Int) ^ (192:Int).toNat=((2 ^ 192:Nat):Int):=by decide
   rw [e4,Rl]
  refine OY ⟨by lia,b1⟩ (congrArg V.int ev) ?_
  refine ⟨_,rfl,rfl,_,rfl,?_⟩
  by_cases hz:t * x / 2 ^ 192 / (i + 1)=0
  ·rw [hz]
   refine cC ⟨_,rfl,?_⟩
   refine q p _ s2 hp ?_
   rw [af,eL,Me,e,e2,if_pos hz]
  ·have hz2: ¬V.int ((t * x / 2 ^ 192 / (i + 1):Nat):Int)=V.int 0:=by
    intro z
    have z2:=V.int.inj z
    lia
   rw [YJ hz2]
   refine cM ⟨_,_,rfl,s2,Pn i hx ht,ns++ [t],by rw [YH,hl];rfl,by rw [af,eL],?_⟩
   rw [e,e2,if_neg hz,Y3]
   rfl
 ·rintro σ H' ⟨t,v,rfl,s1,ht,ns,hl,hL,e⟩
  refine ⟨_,rfl,q p H' s1 hp ?_⟩
  rw [hL,Me,e]
  show _=some (HO.lst ((Tide.asInts (ns++ [])).map V.int))
  rw [Y0]
theorem Iz(a b d:Nat):(a:Int) * (b:Int) / (d:Int)=((a * b / d:Nat):Int):=by
 push_cast
 rfl
theorem wN{r d:Nat}(h:r<=d)(hd:0 < d):Tide.QUARTER * r / d<=Tide.QUARTER:=Nat.div_le_of_le_mul (by rw [Nat.mul_comm d];exact Nat.mul_le_mul_left _ h)
theorem vq:ay ["arc","terms"] ["arc"] (aq rf):=jv rfl (by decide +kernel)
def CJ(K:W.Frag)(A:Ad):Sp:=fun vs H Q _=> ∃x:Nat,vs= [.int x]/\x<=Tide.QUARTER/\ ∀H',aN H H'->Q (.int (Tide.cosOf x)) H'
theorem CU(T:Txt K mg A):bw P w K mg base (lA) 2 A.fL A.h_ ["arc"] (CJ K A):=by
 refine oq T.jO vq fun vs H Q E h Rz kz=>?_
 obtain ⟨x,rfl,hx,q⟩:=h
 refine kz rfl fun cdv Ar outer s hr=>?_
 refine ⟨_,(ah (aF (i:=1) vq.nd rfl (Or.inl rfl) (aB (A5 T) (hr.mono (by decide)) rfl T.tV T.n_.kp T.Dy .nil aL (aa (pv 0) ai)))
   (aj (aD (aR uz (bN (yt rfl) (by rfl) T.zT (by decide +kernel) (aa (zp (pv 1) (fu aH) (fu aH)) ai)) (bN (yt rfl) (by rfl) T.zT (by decide +kernel) (aa (zp (pv 1) (fu aH) (fu aH)) ai)))))),?_⟩
 refine ⟨_,rfl,x,rfl,hx,fun p H1 s1 hp h1=>?_⟩
 refine ⟨_,rfl,_,rfl,_,rfl,p,Me x,rfl,by decide,b_.of h1,fun a ha=>?_⟩
 have n1:p≠a:=ao h1 ha
 refine ⟨a,_,rfl,b_.of af,_,rfl,_,rfl,_,rfl,p,Me x,rfl,by decide,b_.of (by rw [ak n1];exact h1),fun b hb=>?_⟩
 refine ⟨b,_,rfl,b_.of af,?_⟩
 have e0:=OX (Me x) 0
 have e2:=OX (Me x) 2
 rw [List.drop_zero] at e0
 refine GI (v:= .int (Tide.cosOf x)) (congrArg V.int ?_) ?_
 ·rw [UR,<-e0,<-e2]
  rfl
 ·refine q _ fun c o e=>?_
  have e1:=s1 c o e
  rw [ak (ao (show upd H1 a _ c=some o by rw [ak (ao e1 ha)];exact e1) hb),ak (ao e1 ha)]
  exact e1
theorem yc:ay ["arc","terms"] ["arc"] (aq uK):=jv rfl (by decide +kernel)
def GG(K:W.Frag)(A:Ad):Sp:=fun vs H Q _=> ∃x:Nat,vs= [.int x]/\x<=Tide.QUARTER/\ ∀H',aN H H'->Q (.int (Tide.sinOf x)) H'
theorem EI(T:Txt K mg A):bw P w K mg base (lA) 2 A.iJ A.j3 ["arc"] (GG K A):=by
 refine oq T.mT yc fun vs H Q E h Rz kz=>?_
 obtain ⟨x,rfl,hx,q⟩:=h
 refine kz rfl fun cdv Ar outer s hr=>?_
 refine ⟨_,(ah (aF (i:=1) yc.nd rfl (Or.inl rfl) (aB (A5 T) (hr.mono (by decide)) rfl T.tV T.n_.kp T.Dy .nil aL (aa (pv 0) ai)))
   (aj (aD (aR uz (bN (yt rfl) (by rfl) T.zT (by decide +kernel) (aa (zp (pv 1) (fu aH) (fu aH)) ai)) (bN (yt rfl) (by rfl) T.zT (by decide +kernel) (aa (zp (pv 1) (fu aH) (fu aH)) ai)))))),?_⟩
 refine ⟨_,rfl,x,rfl,hx,fun p H1 s1 hp h1=>?_⟩
 refine ⟨_,rfl,_,rfl,_,rfl,p,Me x,rfl,by decide,b_.of h1,fun a ha=>?_⟩
 have n1:p≠a:=ao h1 ha
 refine ⟨a,_,rfl,b_.of af,_,rfl,_,rfl,_,rfl,p,Me x,rfl,by decide,b_.of (by rw [ak n1];exact h1),fun b hb=>?_⟩
 refine ⟨b,_,rfl,b_.of af,?_⟩
 have e0:=OX (Me x) 1
 have e2:=OX (Me x) 3
 refine GI (v:= .int (Tide.sinOf x)) (congrArg V.int ?_) ?_
 ·rw [Ux,<-e0,<-e2]
  rfl
 ·refine q _ fun c o e=>?_
  have e1:=s1 c o e
  rw [ak (ao (show upd H1 a _ c=some o by rw [ak (ao e1 ha)];exact e1) hb),ak (ao e1 ha)]
  exact e1
theorem xR:ay ["part","whole"] ["part","whole"] (aq mz):=jv rfl (by decide +kernel)
def zb(K:W.Frag)(A:Ad):Sp:=fun vs H Q _=> ∃r d:Nat,vs= [.int r,.int d]/\r<=d/\0 < d/\d < 2 ^ 64/\ ∀H',aN H H'->Q (.int (Tide.quarterCos r d)) H'
theorem iu(T:Txt K mg A):bw P w K mg base (lA) 3 A.cF A.dQ ["part","whole"] (zb K A):=by
 refine oq T.bZ xR fun vs H Q E h Rz kz=>?_
 obtain ⟨r,d,rfl,hr1,hd,hd64,q⟩:=h
 refine kz rfl fun cdv Ar outer s hr=>?_
 refine ⟨_,(ah (b6 (aO O1 (aR cg aH (pv 0)) (pv 1) (aT _)) (aj (aD (aB (CU T) (hr.mono (by decide)) rfl T.q_ T.jO.kp T.D7 .nil aL (aa (aR o9 (aR cg (aC rfl T.qa) (pv 0)) (pv 1)) ai)))) aU)
   (aj (aD (aB (EI T) (hr.mono (by decide)) rfl T.uP T.mT.kp T.HV .nil aL (aa (aR o9 (aR cg (aC rfl T.qa) (aR uz (pv 1) (pv 0))) (pv 1)) ai))))),?_⟩
 have bd:Bt 64 (d:Int):=by unfold Bt;omega
 have br:Bt 64 (r:Int):=by unfold Bt;omega
 have bdr:Bt 65 ((d:Int) - (r:Int)):=bd.sub br (by decide) (by decide)
 have b2:Bt 2 2:=by unfold Bt;decide
 have bq:Bt 194 9860048348863269281198066682114134445731725432595044866280:=by unfold Bt;decide
 refine ⟨_,rfl,_,_,rfl,rfl,⟨b2.bg,br.bg⟩,_,rfl,_,_,rfl,rfl,_,rfl,?_⟩
 unfold Tide.quarterCos at q
 by_cases h:2 * r<=d
 ·simp only [h,if_true] at q
  rw [YQ (show (2:Int) * (r:Int)<=(d:Int) by omega)]
  refine cC ⟨_,rfl,_,_,rfl,rfl,⟨bq.bg,br.bg⟩,_,rfl,_,_,rfl,rfl,⟨by omega,bd.bg⟩,Tide.QUARTER * r / d,?_,wN hr1 hd,q⟩
  rw [<-Iz]
  rfl
 ·simp only [h,if_false] at q
  rw [YJ (show ¬(2:Int) * (r:Int)<=(d:Int) by omega)]
  refine cM ⟨_,rfl,_,rfl,_,_,rfl,rfl,_,_,rfl,rfl,⟨bq.bg,bdr.bg⟩,_,rfl,_,_,rfl,rfl,⟨by omega,bd.bg⟩,Tide.QUARTER * (d - r) / d,?_,wN (by omega) hd,q⟩
  rw [<-Iz,Int.natCast_sub hr1]
  rfl
theorem o4:ay ["part","whole","quarter","rest"] ["part","whole"] (aq pH):=jv rfl (by decide +kernel)
def BZ(K:W.Frag)(A:Ad):Sp:=fun vs H Q _=> ∃m d:Nat,vs= [.int m,.int d]/\m < d/\d < 2 ^ 64/\ ∀H',aN H H'->Q (.int (Tide.cosAt m d)) H'
theorem A8(T:Txt K mg A):bw P w K mg base (lA) 4 A.eF A.gA ["part","whole"] (BZ K A):=by
 refine oq T.jd o4 fun vs H Q E h Rz kz=>?_
 obtain ⟨m,d,rfl,hm,hd64,q⟩:=h
 refine kz rfl fun cdv Ar outer s hr=>?_
 refine ⟨_,(ah (aF (i:=2) o4.nd rfl (Or.inl rfl) (aR o9 (aR cg aH (pv 0)) (pv 1)))
   (ah (aF (i:=3) o4.nd rfl (Or.inl rfl) (aR Oa (aR cg aH (pv 0)) (pv 1)))
   (ah (b6 (aO fQ (pv 2) aH (aT _)) (aj (aD (aB (iu T) (hr.mono (by decide)) rfl T.dR T.bZ.kp T.i0 .nil aL (aa (pv 3) (aa (pv 1) ai))))) aU)
   (ah (b6 (aO fQ (pv 2) aH (aT _)) (aj (aD (C_ yg (aB (iu T) (hr.mono (by decide)) rfl T.dR T.bZ.kp T.i0 .nil aL (aa (aR uz (pv 1) (pv 3)) (aa (pv 1) ai)))))) aU)
   (ah (b6 (aO fQ (pv 2) aH (aT _)) (aj (aD (C_ yg (aB (iu T) (hr.mono (by decide)) rfl T.dR T.bZ.kp T.i0 .nil aL (aa (pv 3) (aa (pv 1) ai)))))) aU)
   (aj (aD (aB (iu T) (hr.mono (by decide)) rfl T.dR T.bZ.kp T.i0 .nil aL (aa (aR uz (pv 1) (pv 3)) (aa (pv 1) ai)))))))))),?_⟩
 have bd:Bt 64 (d:Int):=by unfold Bt;lia
 have bm:Bt 64 (m:Int):=by unfold Bt;lia
 have b4:Bt 3 4:=by unfold Bt;decide
 have hd:0 < d:=by lia
 have e1:(4:Int) * (m:Int) / (d:Int)=((4 * m / d:Nat):Int):=by push_cast;rfl
 have e2:(4:Int) * (m:Int) % (d:Int)=((4 * m % d:Nat):Int):=by push_cast;rfl
 have er:4 * m - 4 * m / d * d=4 * m % d:=by
  have:=Nat.div_add_mod (4 * m) d
  rw [Nat.mul_comm d] at this
  lia
 have hlt:4 * m % d < d:=Nat.mod_lt _ hd
 have e3:(d:Int) - ((4 * m % d:Nat):Int)=((d - 4 * m % d:Nat):Int):=by lia
 unfold Tide.cosAt at q
 simp only [Nat.mod_eq_of_lt hm,er] at q
 refine ⟨_,rfl,_,_,rfl,rfl,⟨b4.bg,bm.bg⟩,_,rfl,?_⟩
 refine OY ⟨by lia,bd.bg⟩ (congrArg V.int e1) ?_
 refine ⟨_,rfl,_,_,rfl,rfl,⟨b4.bg,bm.bg⟩,_,rfl,?_⟩
 refine OY (by lia) (congrArg V.int e2) ?_
 generalize 4 * m / d=qq at *
 have key: ∀(a b:Nat),((a:Int)=(b:Int)) ↔ a=b:=fun a b=>by lia
 have dec: ∀(b:Nat),decide (V.int (qq:Int)=V.int (b:Int))=decide (qq=b):=fun b=>by
  by_cases h:qq=b
  ·rw [h]
   simp
  ·rw [YJ h,YJ (fun z=>h ((key _ _).mp (V.int.inj z)))]
 refine ⟨_,rfl,rfl,_,rfl,?_⟩
 have d0:=dec 0
 have d1:=dec 1
 have d2:=dec 2
 by_cases h0:qq=0
 ·simp only [h0,if_true] at q
  rw [show V.int (0:Int)=V.int ((0:Nat):Int) from rfl,d0,YQ h0]
  exact cC ⟨_,rfl,_,rfl,_,_,rfl,Nat.le_of_lt hlt,hd,hd64,q⟩
 ·rw [show V.int (0:Int)=V.int ((0:Nat):Int) from rfl,d0,YJ h0]
  refine cM ⟨_,rfl,rfl,_,rfl,?_⟩
  by_cases h1:qq=1
  ·simp only [h0,h1,if_false,if_true,show ¬(1:Nat)=0 by decide] at q
   rw [show V.int (1:Int)=V.int ((1:Nat):Int) from rfl,d1,YQ h1]
   refine cC ⟨_,rfl,_,rfl,_,_,rfl,rfl,_,rfl,d - 4 * m % d,d,?_,by lia,hd,hd64,fun H' s'=>⟨_,rfl,q H' s'⟩⟩
   exact congrArg (fun z=> [V.int z,V.int (d:Int)]) e3
  ·rw [show V.int (1:Int)=V.int ((1:Nat):Int) from rfl,d1,YJ h1]
   refine cM ⟨_,rfl,rfl,_,rfl,?_⟩
   by_cases h2:qq=2
   ·simp only [h2,if_false,if_true,show ¬(2:Nat)=0 by decide,show ¬(2:Nat)=1 by decide] at q
    rw [show V.int (2:Int)=V.int ((2:Nat):Int) from rfl,d2,YQ h2]
    exact cC ⟨_,rfl,_,rfl,_,_,rfl,Nat.le_of_lt hlt,hd,hd64,fun H' s'=>⟨_,rfl,q H' s'⟩⟩
   ·simp only [h0,h1,h2,if_false] at q
    rw [show V.int (2:Int)=V.int ((2:Nat):Int) from rfl,d2,YJ h2]
    refine cM ⟨_,rfl,_,rfl,_,_,rfl,rfl,_,rfl,d - 4 * m % d,d,?_,by lia,hd,hd64,q⟩
    exact congrArg (fun z=> [V.int z,V.int (d:Int)]) e3
theorem QS:ay ["angle"] ["angle"] (aq Fx):=jv rfl (by decide +kernel)
def Px(K:W.Frag)(A:Ad):Sp:=fun vs H Q _=> ∃a:Nat,vs= [.int a]/\a < 2 ^ 32/\ ∀H',aN H H'->Q (.int (Tide.C a)) H'
theorem CA(T:Txt K mg A):bw P w K mg base (lA) 5 A.sW A.vz ["angle"] (Px K A):=by
 refine oq T.r8 QS fun vs H Q E h Rz kz=>?_
 obtain ⟨a,rfl,ha,q⟩:=h
 refine kz rfl fun cdv Ar outer s hr=>?_
 refine ⟨_,(aj (aD (aB (Qa T) (hr.mono (by decide)) rfl T.FW T.yN.kp T.RI .nil aL (aa (aB (A8 T) (hr.mono (by decide)) rfl T.pZ T.jd.kp T.Cz .nil aL (aa (pv 0) (aa (aC rfl T.j5) ai))) ai)))),?_⟩
 exact ⟨_,rfl,a,4294967296,rfl,ha,by decide,fun H' s'=>⟨_,rfl,q H' s'⟩⟩
theorem UM(a:Nat)(h:a < 2 ^ 32):((a:Int) - 1073741824) % 4294967296=(((a + 3 * 2 ^ 30) % 2 ^ 32:Nat):Int):=by lia
theorem PF(a:Nat):Tide.cosAt (a % 2 ^ 32) Tide.TURN=Tide.cosAt a Tide.TURN:=by
 unfold Tide.cosAt
 have e:a % 2 ^ 32 % Tide.TURN=a % Tide.TURN:=Nat.mod_mod _ _
 rw [e]
theorem T6:ay ["angle"] ["angle"] (aq Ny):=jv rfl (by decide +kernel)
def Ui(K:W.Frag)(A:Ad):Sp:=fun vs H Q _=> ∃a:Nat,vs= [.int a]/\a < 2 ^ 32/\ ∀H',aN H H'->Q (.int (Tide.S a)) H'
theorem Ur(T:Txt K mg A):bw P w K mg base (lA) 6 A.AM A.CK ["angle"] (Ui K A):=by
 refine oq T.Gy T6 fun vs H Q E h Rz kz=>?_
 obtain ⟨a,rfl,ha,q⟩:=h
 refine kz rfl fun cdv Ar outer s hr=>?_
 refine ⟨_,(aj (aD (aB (CA T) (hr.mono (by decide)) rfl T.ze T.r8.kp T.E6 .nil aL (aa (aR Oa (aR uz (pv 0) (aC rfl T.sO)) (aC rfl T.j5)) ai)))),?_⟩
 refine ⟨_,rfl,_,_,rfl,rfl,_,_,rfl,rfl,by show (0:Int) < 4294967296;decide,(a + 3 * 2 ^ 30) % 2 ^ 32,?_,Nat.mod_lt _ (by decide),fun H' s'=>?_⟩
 ·rw [<-UM a ha]
  rfl
 ·have:=q H' s'
  unfold Tide.S Tide.C at this
  unfold Tide.C
  rw [PF]
  exact this
end Td
namespace Td
open PySem PySem.Spec PyProof.Rows L2 TL
open Tide (Bytes Cur isDigit isLetter nextIs)
def Kf(F:Addr->Prop)(H H':Hp):Prop:= ∀b o,F b->H b=some o->H' b=some o
theorem Kf.refl{F:Addr->Prop}{H:Hp}:Kf F H H:=fun _ _ _ e=>e
theorem Kf.trans{F:Addr->Prop}{H H1 H2:Hp}(a:Kf F H H1)(b:Kf F H1 H2):Kf F H H2:=fun c o f e=>b c o f (a c o f e)
theorem Kf.mono{F G:Addr->Prop}{H H':Hp}(a:Kf F H H')(h: ∀b o,G b->H b=some o->F b):Kf G H H':=fun c o g e=>a c o (h c o g e) e
theorem Kf.of{F:Addr->Prop}{H H':Hp}(a:aN H H'):Kf F H H':=fun b o _ e=>a b o e
theorem Kf.new{F:Addr->Prop}{H:Hp}{p:Addr}{o:HO}(h:H p=none):Kf F H (upd H p o):=fun b u _ e=>by rw [ak (ao e h)];exact e
theorem Kf.put{F:Addr->Prop}{H:Hp}{p:Addr}{o:HO}(h: ¬F p):Kf F H (upd H p o):=fun b u f e=>by rw [ak (fun z=>h (by rw [<-z];exact f))];exact e
theorem aN.new{H:Hp}{p:Addr}{o:HO}(h:H p=none):aN H (upd H p o):=fun b u e=>by rw [ak (ao e h)];exact e
def Er(A:Ad)(E:XK)(F:Addr->Prop)(H:Hp)(k p:Nat):Prop:= ∀dx H',Kf F H H'->H' dx=some (KR dx [("kind",.int (k:Int)),("place",.int (p:Int))])->E (.ref A.aW) (some dx) H'
theorem Er.step{A:Ad}{E:XK}{F G:Addr->Prop}{H H1:Hp}{k p:Nat}(e:Er A E F H k p)(a:Kf F H H1)(h: ∀b o,F b->H1 b=some o->G b):Er A E G H1 k p:=
 fun dx H' k' ed=>e dx H' (a.trans (k'.mono h)) ed
theorem Er.raise{A:Ad}{E:XK}{F:Addr->Prop}{H H1:Hp}{k p:Nat}(e:Er A E F H k p)(a:Kf F H H1): ∀dx,H1 dx=none->E (.ref A.aW) (some dx) (upd H1 dx (KR dx [("kind",.int (k:Int)),("place",.int (p:Int))])):=
 fun dx hd=>e dx _ (a.trans (Kf.new hd)) af
def Iv(x:UInt8):Bool:=x == 10 || x == 32 || x == 43 || x == 45 || x == 46 || isDigit x || isLetter x
def ph(x:UInt8):Nat:=if Iv x=true then x.toNat else 63
theorem R1{p:UInt8->Bool}(h: ∀n:Nat,n < 256->p (UInt8.ofNat n)=true)(x:UInt8):p x=true:=by
 have:=h x.toNat (UInt8.toNat_lt x)
 rw [UInt8.ofNat_toNat] at this
 exact this
theorem SV(x:UInt8):Unicode.isDigit (ph x)=isDigit x:=by
 have:=R1 (p:=fun x=>Unicode.isDigit (ph x) == isDigit x) (by decide +kernel) x
 exact beq_iff_eq.mp this
theorem SD(x:UInt8):Unicode.isAlpha (ph x)=isLetter x:=beq_iff_eq.mp (R1 (p:=fun x=>Unicode.isAlpha (ph x) == isLetter x) (by decide +kernel) x)
theorem S_(x:UInt8):Unicode.isAlnum (ph x)=(isLetter x || isDigit x):=beq_iff_eq.mp (R1 (p:=fun x=>Unicode.isAlnum (ph x) == (isLetter x || isDigit x)) (by decide +kernel) x)
theorem W0(y:UInt8)(h:Iv y=true):y.toNat≠63:=by
 have:=R1 (p:=fun y=>!Iv y || !(y.toNat == 63)) (by decide +kernel) y
 rw [h] at this
 simpa using this
theorem WK{x y:UInt8}(h:Iv y=true):ph x=y.toNat ↔ x=y:=by
 unfold ph
 constructor
 ·intro e
  by_cases hx:Iv x=true
  ·rw [if_pos hx] at e
   exact UInt8.toNat_inj.mp e
  ·rw [if_neg hx] at e
   exact absurd e.symm (W0 y h)
 ·intro e
  rw [e,if_pos h]
theorem U3{x:UInt8}(h:Iv x=true):ph x=x.toNat:=by unfold ph;rw [if_pos h]
def st(b:Bytes):Str:=⟨(b.map UInt8.toNat).toArray⟩
theorem kW(b:Bytes):tl (st b)=b.map UInt8.toNat:=rfl
theorem sD{a b:Bytes}(h:st a=st b):a=b:=by
 have e:a.map UInt8.toNat=b.map UInt8.toNat:=by rw [<-kW,h,kW]
 exact List.map_inj_right (fun _ _ q=>UInt8.toNat_inj.mp q) |>.mp e
def sg(o:Option UInt8):Str:=⟨(o.toList.map ph).toArray⟩
theorem Pg(o:Option UInt8):tl (sg o)=o.toList.map ph:=rfl
theorem L8(o:Option UInt8):Txt.isdigit (sg o)=o.any isDigit:=by
 cases o with
 | none=>rfl
 | some x=>simp [Txt.isdigit,sg,Str.length,SV]
theorem Tg(o:Option UInt8):Txt.isalpha (sg o)=o.any isLetter:=by
 cases o with
 | none=>rfl
 | some x=>simp [Txt.isalpha,sg,Str.length,SD]
theorem Q_(o:Option UInt8):Txt.isalnum (sg o)=o.any (fun x=>isLetter x || isDigit x):=by
 cases o with
 | none=>rfl
 | some x=>simp [Txt.isalnum,sg,Str.length,S_]
theorem eK(p:UInt8->Bool)(c:Cur):nextIs p c=c.next.any p:=by
 unfold nextIs
 cases c.next <;> rfl
theorem Mr{o:Option UInt8}{y:UInt8}(h:Iv y=true):sg o=st [y] ↔ o=some y:=by
 constructor
 ·intro e
  have e1:o.toList.map ph= [y.toNat]:=by rw [<-Pg,e,kW];rfl
  cases o with
  | none=>simp at e1
  | some x=>
   simp at e1
   rw [(WK h).mp e1]
 ·intro e
  subst e
  refine FQ ?_
  rw [Pg,kW]
  simp [U3 h]
theorem BO{o:Option UInt8}:sg o=Str.empty ↔ o=none:=by
 cases o with
 | none=>simp [sg,Str.empty]
 | some x=>
  constructor
  ·intro e
   have e1:=congrArg tl e
   rw [Pg] at e1
   simp [Str.empty] at e1
  ·intro e;cases e
structure Tx(t:Str)(b:Bytes):Prop where
 eq:tl t=b.map ph
 len:b.length<=30000
def cur(b:Bytes)(p:Nat):Cur:=⟨b.drop p,p⟩
theorem qy(b:Bytes)(p:Nat):(cur b p).next=b[p]?:=by
 unfold Cur.next cur
 exact List.head?_drop
theorem Af(b:Bytes)(p:Nat):(cur b p).on=cur b (p + 1):=by
 unfold Cur.on cur
 simp [List.drop_drop]
theorem Tx.long{t:Str}{b:Bytes}(x:Tx t b):t.length<=sizeLine:=by
 rw [m_,x.eq,YI,sizeLine_eq]
 have:=x.len
 lia
theorem Nh(t:Str)(i j:Nat):tl (Bw t (some (i:Int)) (some (j:Int)))=((tl t).drop (min i (tl t).length)).take (min j (tl t).length - min i (tl t).length):=by
 unfold Bw
 rw [HT.Em,HT.Em]
 rfl
theorem LS{t:Str}{b:Bytes}(x:Tx t b)(i j:Nat)(hj:j<=b.length):tl (Bw t (some (i:Int)) (some (j:Int)))=((b.drop i).take (j - i)).map ph:=by
 have hl:(tl t).length=b.length:=by rw [x.eq,YI]
 rw [Nh,hl,Nat.min_eq_left hj]
 by_cases hi:i<=b.length
 ·rw [Nat.min_eq_left hi,x.eq,List.map_take,List.map_drop]
 ·rw [Nat.min_eq_right (by lia),x.eq,List.map_take,List.map_drop,show j - b.length=0 by lia,show j - i=0 by lia]
  rfl
theorem Sy{t:Str}{b:Bytes}(x:Tx t b)(p:Nat):Bw t (some (p:Int)) (some ((p:Int) + 1))=sg (cur b p).next:=by
 refine FQ ?_
 rw [qy,Pg,show ((p:Int) + 1)=((p + 1:Nat):Int) by lia]
 by_cases h:p < b.length
 ·rw [LS x p (p + 1) (by lia),Y9 h,Zo h,show p + 1 - p=1 by lia]
  rfl
 ·have hl:(tl t).length=b.length:=by rw [x.eq,YI]
  rw [Nh,hl,Nat.min_eq_right (by lia),Nat.min_eq_right (by lia),List.getElem?_eq_none (by lia),Nat.sub_self]
  rfl
theorem Jg: ∀ {b:Bytes},b.all Iv=true->b.map ph=b.map UInt8.toNat
 | [],_=>rfl
 | x::r,h=>by
  rw [List.all_cons,Y_] at h
  rw [YS,YS,U3 h.1,Jg h.2]
def gW(A:Ad)(H:Hp)(r:Addr)(b:Bytes)(p:Nat):Prop:= ∃dx t,H r=some (bB A dx (.str t) (.int (p:Int)))/\Tx t b
def Reads(A:Ad)(E:XK)(F:Addr->Prop)(H:Hp)(r:Addr)(b:Bytes)(p:Nat){α:Type}(f:Cur->Except Nat (α×Cur))(ok:α->Nat->Hp->Prop):Prop:=
 (∀x q H',f (cur b p)= .ok (x,cur b q)->Kf F H H'->gW A H' r b q->ok x q H')/\ ∀e,f (cur b p)= .error e->Er A E F H 1 e
variable {P:Program} {w:World} {K:W.Frag} {mg:Str->Option Value} {base:Heap} {A:Ad}
theorem bS{H:Hp}{x dx:Addr}{o:HO}(nx:H x=none)(nd:H dx=none):aN H (upd (upd H dx (.own x)) x o):=fun b u e=>by
 rw [ak (ao e nx),ak (ao e nd)]
 exact e
theorem Bp:ay ["self","kind","place"] ["self","kind","place"] (aq pQ):=jv rfl (by decide +kernel)
def Bh(K:W.Frag)(A:Ad):Sp:=Yo A.aW "kind" "place"
theorem bP(T:Txt K mg A):bw P w K mg base (lA) 1 A.c9 A.gy ["self","kind","place"] (Bh K A):=by
 refine oq T.lP Bp fun vs H Q E h Rz kz=>?_
 obtain ⟨a,v1,v2,rfl,ha,q⟩:=h
 refine kz rfl fun cdv Ar outer s hr=>?_
 refine ⟨_,(ah (O3 (pv 0) (pv 1) rfl)
   (aj (O3 (pv 0) (pv 2) rfl))),?_⟩
 refine ⟨_,rfl,_,rfl,a,_,_,_,none,rfl,ha,T.xc,T.xk,fun dx hd=>?_⟩
 have n:dx≠a:=fun z=>by rw [z,ha] at hd;cases hd
 exact ⟨_,rfl,_,rfl,a,_,_,_,some dx,rfl,af,T.xc,T.xp,[("kind",v1)],by rw [ak n,af],(by show 1 < 1000;decide),n,q dx hd⟩
theorem FI:ay ["self","text"] ["self","text"] (aq uJ):=jv rfl (by decide +kernel)
def EA(K:W.Frag)(A:Ad):Sp:=fun vs H Q _=> ∃(a dx:Addr) (v_text:V),vs= [.ref a,v_text]/\H a=some (.ins A.bA dx [])/\Q .dh (upd H a (bB A dx v_text (.int 0)))
theorem xS(T:Txt K mg A):bw P w K mg base (lA) 1 A.gh A.j9 ["self","text"] (EA K A):=by
 refine oq T.qj FI fun vs H Q E h Rz kz=>?_
 obtain ⟨a,dx,v_text,rfl,ha,q⟩:=h
 refine kz rfl fun cdv Ar outer s hr=>?_
 refine ⟨_,(ah (bG (pv 0) (pv 1) rfl)
   (aj (bG (pv 0) aH rfl))),?_⟩
 refine ⟨_,rfl,_,rfl,a,_,dx,_,rfl,ha,T.az,T.iQ,(by show 0 < 1000;decide),_,rfl,a,_,dx,_,rfl,af,T.az,T.aI,(by show 1 < 1000;decide),?_⟩
 simp only [b8]
 exact q
theorem Cg:ay ["self","name","name_place","size","lag","lag_place"] ["self","name","name_place","size","lag","lag_place"] (aq qO):=jv rfl (by decide +kernel)
def Cy(K:W.Frag)(A:Ad):Sp:=fun vs H Q _=> ∃(a dx:Addr) (v_name v_name_place v_size v_lag v_lag_place:V),vs= [.ref a,v_name,v_name_place,v_size,v_lag,v_lag_place]/\H a=some (.ins A.bD dx [])/\Q .dh (upd H a (Ij A dx v_name v_name_place v_size v_lag v_lag_place))
theorem CN(T:Txt K mg A):bw P w K mg base (lA) 1 A.dS A.g8 ["self","name","name_place","size","lag","lag_place"] (Cy K A):=by
 refine oq T.m8 Cg fun vs H Q E h Rz kz=>?_
 obtain ⟨a,dx,v_name,v_name_place,v_size,v_lag,v_lag_place,rfl,ha,q⟩:=h
 refine kz rfl fun cdv Ar outer s hr=>?_
 refine ⟨_,(ah (bG (pv 0) (pv 1) rfl)
   (ah (bG (pv 0) (pv 2) rfl)
   (ah (bG (pv 0) (pv 3) rfl)
   (ah (bG (pv 0) (pv 4) rfl)
   (aj (bG (pv 0) (pv 5) rfl)))))),?_⟩
 refine ⟨_,rfl,_,rfl,a,_,dx,_,rfl,ha,T.aZ,T.bV,(by show 0 < 1000;decide),_,rfl,_,rfl,a,_,dx,_,rfl,af,T.aZ,T.dX,(by show 1 < 1000;decide),_,rfl,_,rfl,a,_,dx,_,rfl,af,T.aZ,T.gZ,(by show 2 < 1000;decide),_,rfl,_,rfl,a,_,dx,_,rfl,af,T.aZ,T.gG,(by show 3 < 1000;decide),_,rfl,_,rfl,a,_,dx,_,rfl,af,T.aZ,T.ig,(by show 4 < 1000;decide),?_⟩
 simp only [b8]
 exact q
theorem JR:ay ["self","level","waves"] ["self","level","waves"] (aq yS):=jv rfl (by decide +kernel)
def Jt(K:W.Frag)(A:Ad):Sp:=fun vs H Q _=> ∃(a dx:Addr) (v_level v_waves:V),vs= [.ref a,v_level,v_waves]/\H a=some (.ins A.mq dx [])/\Q .dh (upd H a (U4 A dx v_level v_waves))
theorem Kv(T:Txt K mg A):bw P w K mg base (lA) 1 A.jr A.nR ["self","level","waves"] (Jt K A):=by
 refine oq T.tT JR fun vs H Q E h Rz kz=>?_
 obtain ⟨a,dx,v_level,v_waves,rfl,ha,q⟩:=h
 refine kz rfl fun cdv Ar outer s hr=>?_
 refine ⟨_,(ah (bG (pv 0) (pv 1) rfl)
   (aj (bG (pv 0) (pv 2) rfl))),?_⟩
 refine ⟨_,rfl,_,rfl,a,_,dx,_,rfl,ha,T.oX,T.lR,(by show 0 < 1000;decide),_,rfl,_,rfl,a,_,dx,_,rfl,af,T.oX,T.eW,(by show 1 < 1000;decide),?_⟩
 simp only [b8]
 exact q
theorem GO:ay ["self","start","rate"] ["self","start","rate"] (aq uU):=jv rfl (by decide +kernel)
def Fd(K:W.Frag)(A:Ad):Sp:=fun vs H Q _=> ∃(a dx:Addr) (v_start v_rate:V),vs= [.ref a,v_start,v_rate]/\H a=some (.ins A.d9 dx [])/\Q .dh (upd H a (mY A dx v_start v_rate))
theorem oW(T:Txt K mg A):bw P w K mg base (lA) 1 A.gg A.jV ["self","start","rate"] (Fd K A):=by
 refine oq T.qf GO fun vs H Q E h Rz kz=>?_
 obtain ⟨a,dx,v_start,v_rate,rfl,ha,q⟩:=h
 refine kz rfl fun cdv Ar outer s hr=>?_
 refine ⟨_,(ah (bG (pv 0) (pv 1) rfl)
   (aj (bG (pv 0) (pv 2) rfl))),?_⟩
 refine ⟨_,rfl,_,rfl,a,_,dx,_,rfl,ha,T.iE,T.gE,(by show 0 < 1000;decide),_,rfl,_,rfl,a,_,dx,_,rfl,af,T.iE,T.iN,(by show 1 < 1000;decide),?_⟩
 simp only [b8]
 exact q
theorem GN:ay ["self","factor","shift"] ["self","factor","shift"] (aq ux):=jv rfl (by decide +kernel)
def EU(K:W.Frag)(A:Ad):Sp:=fun vs H Q _=> ∃(a dx:Addr) (v_factor v_shift:V),vs= [.ref a,v_factor,v_shift]/\H a=some (.ins A.fR dx [])/\Q .dh (upd H a (wO A dx v_factor v_shift))
theorem yw(T:Txt K mg A):bw P w K mg base (lA) 1 A.gm A.j8 ["self","factor","shift"] (EU K A):=by
 refine oq T.qb GN fun vs H Q E h Rz kz=>?_
 obtain ⟨a,dx,v_factor,v_shift,rfl,ha,q⟩:=h
 refine kz rfl fun cdv Ar outer s hr=>?_
 refine ⟨_,(ah (bG (pv 0) (pv 1) rfl)
   (aj (bG (pv 0) (pv 2) rfl))),?_⟩
 refine ⟨_,rfl,_,rfl,a,_,dx,_,rfl,ha,T.qt,T.jH,(by show 0 < 1000;decide),_,rfl,_,rfl,a,_,dx,_,rfl,af,T.qt,T.kN,(by show 1 < 1000;decide),?_⟩
 simp only [b8]
 exact q
theorem HX:ay ["self","weight","motion"] ["self","weight","motion"] (aq wm):=jv rfl (by decide +kernel)
def Hl(K:W.Frag)(A:Ad):Sp:=fun vs H Q _=> ∃(a dx:Addr) (v_weight v_motion:V),vs= [.ref a,v_weight,v_motion]/\H a=some (.ins A.i6 dx [])/\Q .dh (upd H a (RG A dx v_weight v_motion))
theorem Hq(T:Txt K mg A):bw P w K mg base (lA) 1 A.iB A.lW ["self","weight","motion"] (Hl K A):=by
 refine oq T.rH HX fun vs H Q E h Rz kz=>?_
 obtain ⟨a,dx,v_weight,v_motion,rfl,ha,q⟩:=h
 refine kz rfl fun cdv Ar outer s hr=>?_
 refine ⟨_,(ah (bG (pv 0) (pv 1) rfl)
   (aj (bG (pv 0) (pv 2) rfl))),?_⟩
 refine ⟨_,rfl,_,rfl,a,_,dx,_,rfl,ha,T.zF,T.oV,(by show 0 < 1000;decide),_,rfl,_,rfl,a,_,dx,_,rfl,af,T.zF,T.o6,(by show 1 < 1000;decide),?_⟩
 simp only [b8]
 exact q
theorem DT:ay ["self"] ["self"] (aq sL):=jv rfl (by decide +kernel)
def D6(K:W.Frag)(A:Ad):Sp:=fun vs H Q _=> ∃(a dx:Addr),vs= [.ref a]/\H a=some (.ins A.cP dx [])/\Q .dh (upd H a (a_ A dx .dh .dh .dh))
theorem DQ(T:Txt K mg A):bw P w K mg base (lA) 1 A.eZ A.i_ ["self"] (D6 K A):=by
 refine oq T.oZ DT fun vs H Q E h Rz kz=>?_
 obtain ⟨a,dx,rfl,ha,q⟩:=h
 refine kz rfl fun cdv Ar outer s hr=>?_
 refine ⟨_,(ah (bG (pv 0) Gw rfl)
   (ah (bG (pv 0) Gw rfl)
   (aj (bG (pv 0) Gw rfl)))),?_⟩
 refine ⟨_,rfl,a,_,dx,_,rfl,ha,T.bF,T.eV,(by show 0 < 1000;decide),_,rfl,a,_,dx,_,rfl,af,T.bF,T.cy,(by show 1 < 1000;decide),_,rfl,a,_,dx,_,rfl,af,T.bF,T.cS,(by show 2 < 1000;decide),?_⟩
 simp only [b8]
 exact q
theorem JC:ay ["self","calls"] ["self","calls"] (aq yu):=jv rfl (by decide +kernel)
def Kq(K:W.Frag)(A:Ad):Sp:=fun vs H Q _=> ∃(a dx:Addr) (v_calls:V),vs= [.ref a,v_calls]/\H a=some (.ins A.fX dx [])/\Q .dh (upd H a (kI A dx v_calls (.int 0)))
theorem Km(T:Txt K mg A):bw P w K mg base (lA) 1 A.ju A.nW ["self","calls"] (Kq K A):=by
 refine oq T.ud JC fun vs H Q E h Rz kz=>?_
 obtain ⟨a,dx,v_calls,rfl,ha,q⟩:=h
 refine kz rfl fun cdv Ar outer s hr=>?_
 refine ⟨_,(ah (bG (pv 0) (pv 1) rfl)
   (aj (bG (pv 0) aH rfl))),?_⟩
 refine ⟨_,rfl,_,rfl,a,_,dx,_,rfl,ha,T.jc,T.lV,(by show 0 < 1000;decide),_,rfl,a,_,dx,_,rfl,af,T.jc,T.fZ,(by show 1 < 1000;decide),?_⟩
 simp only [b8]
 exact q
theorem Fp:ay ["self"] ["self"] (aq uu):=jv rfl (by decide +kernel)
def E_(K:W.Frag)(A:Ad):Sp:=fun vs H Q _=> ∃r b p,vs= [.ref r]/\gW A H r b p/\Q (.str (sg (cur b p).next)) H
theorem cQ(T:Txt K mg A):bw P w K mg base (lA) 1 A.gk A.kc ["self"] (E_ K A):=by
 refine oq T.mH Fp fun vs H Q E h Rz kz=>?_
 obtain ⟨r,b,p,rfl,⟨dx,t,e,tx⟩,q⟩:=h
 refine kz rfl fun cdv Ar outer s hr=>?_
 refine ⟨_,(aj (aD (sI Cm (au (pv 0) rfl) (fu (au (pv 0) rfl)) (fu (aR kU (au (pv 0) rfl) aH))))),?_⟩
 refine ⟨_,rfl,_,_,_,_,_,rfl,e,T.az,T.iQ,rfl,?_⟩
 refine ⟨_,rfl,_,_,_,_,_,rfl,e,T.az,T.aI,rfl,_,rfl,?_⟩
 refine ⟨_,rfl,_,_,_,_,_,rfl,e,T.az,T.aI,rfl,_,_,rfl,rfl,_,rfl,t,rfl,tx.long,?_⟩
 rw [<-Sy tx p] at q
 exact q
structure Run(pr:UInt8->Bool)(n:Nat)(b:Bytes)(p i:Nat):Prop where
 le:i<=n
 eq:Tide.some_ pr n (cur b p)=((b.drop p).take i++(Tide.some_ pr (n - i) (cur b (p + i))).1,(Tide.some_ pr (n - i) (cur b (p + i))).2)
 len:((b.drop p).take i).length=i
 all:((b.drop p).take i).all pr=true
theorem Run.zero(pr:UInt8->Bool)(n:Nat)(b:Bytes)(p:Nat):Run pr n b p 0:=⟨YW _,by simp,by simp,by simp⟩
theorem Us{pr:UInt8->Bool}{n:Nat}{b:Bytes}{p:Nat}{x:UInt8}(h:b[p]?=some x)(hx:pr x=true):Tide.some_ pr (n + 1) (cur b p)=(x::(Tide.some_ pr n (cur b (p + 1))).1,(Tide.some_ pr n (cur b (p + 1))).2):=by
 rw [Tide.some_,qy,h]
 dsimp only
 rw [if_pos hx,Af]
theorem Ug{pr:UInt8->Bool}{n:Nat}{b:Bytes}{p:Nat}(h:(b[p]?).any pr=false):Tide.some_ pr n (cur b p)=([],cur b p):=by
 cases n with
 | zero=>rfl
 | succ n=>
  rw [Tide.some_,qy]
  cases hx:b[p]? with
  | none=>rfl
  | some x=>
   rw [hx] at h
   have h':pr x=false:=h
   dsimp only
   rw [if_neg (by rw [h'];decide)]
theorem Run.step{pr:UInt8->Bool}{n:Nat}{b:Bytes}{p i:Nat}(R:Run pr n b p i)(hi:i < n)(h:(cur b (p + i)).next.any pr=true):Run pr n b p (i + 1):=by
 rw [qy] at h
 cases hx:b[p + i]? with
 | none=>rw [hx] at h;cases h
 | some x=>
  rw [hx] at h
  have hp:pr x=true:=h
  obtain ⟨hlt,ex⟩:=YL.mp hx
  have et:(b.drop p).take (i + 1)=(b.drop p).take i++ [x]:=by
   rw [YX,List.getElem?_drop,hx]
   rfl
  refine ⟨hi,?_,?_,?_⟩
  ·rw [R.eq,et,show n - i=(n - (i + 1)) + 1 by lia,Us hx hp,Y3,Nat.add_assoc]
   rfl
  ·rw [et,YH,R.len]
   rfl
  ·rw [et,List.all_append,R.all]
   simp [hp]
theorem Run.stop{pr:UInt8->Bool}{n:Nat}{b:Bytes}{p i:Nat}(R:Run pr n b p i)(h:i=n\/(cur b (p + i)).next.any pr=false):Tide.some_ pr n (cur b p)=((b.drop p).take i,cur b (p + i)):=by
 rw [R.eq]
 rcases h with h | h
 ·subst h
  rw [Nat.sub_self]
  show (_++ [],cur b (p + i))=_
  rw [Y0]
 ·rw [qy] at h
  rw [Ug h,Y0]
theorem Run.text{pr:UInt8->Bool}{n:Nat}{b:Bytes}{p i:Nat}{t:Str}(R:Run pr n b p i)(tx:Tx t b)(h0:0 < i)(hok: ∀x,pr x=true->Iv x=true):Bw t (some (p:Int)) (some ((p + i:Nat):Int))=st ((b.drop p).take i):=by
 have hl:=R.len
 rw [Zd,List.length_drop] at hl
 refine FQ ?_
 rw [LS tx p (p + i) (by lia),kW,show p + i - p=i by lia]
 exact Jg (List.all_eq_true.mpr fun x hx=>hok x (List.all_eq_true.mp R.all x hx))
theorem RP(x:UInt8)(h:(isLetter x || isDigit x)=true):Iv x=true:=by
 unfold Iv
 rw [Bool.or_eq_true] at h
 rcases h with h | h <;> simp [h]
theorem SI(x:UInt8)(h:isDigit x=true):Iv x=true:=by
 unfold Iv
 simp [h]
theorem Pc{o:Option UInt8}{p q:UInt8->Bool}(h: ∀x,p x=true->q x=true)(a:o.any p=true):o.any q=true:=by
 cases o with
 | none=>cases a
 | some x=>exact h x a
theorem rC:ay ["self","start"] ["self"] (aq nq):=jv rfl (by decide +kernel)
def rm(K:W.Frag)(A:Ad):Sp:=fun vs H Q E=> ∃r b p,vs= [.ref r]/\gW A H r b p/\Reads A E (· ≠r) H r b p Tide.nameIn (fun x q H'=>Q (.str (st x)) H')
theorem mD(T:Txt K mg A):bw P w K mg base (B8 P w) 3 A.cj A.eT ["self"] (rm K A):=by
 refine K5 T.gM rC fun vs H Q E h Rz kz=>?_
 obtain ⟨r,b,p,rfl,rd,rok,rer⟩:=h
 refine kz rfl fun cdv Ar outer s hr=>?_
 refine ⟨_,(ah (aF (i:=1) rC.nd rfl (Or.inl rfl) (au (pv 0) rfl))
   (ah (b6 (Ak (oA (CB PySem.F.plainAttrs_str PySem.F.slot_str_isalpha PySem.F.type_str_isalpha NO (d8 (pv 0) T.az T.dw (cQ T) (hr.mono (by decide)) T.dj .nil aL)))) (aj (mO T.xc (bP T) (hr.mono (by decide)) T.bX rfl rfl T.cI rfl aA (aa (aC rfl T.vp) (aa (au (pv 0) rfl) ai)))) aU)
   (ah (ow fG (PW.pt (Ff (aO Il (au (pv 0) rfl) (aR kU (pv 1) (aC rfl T.uQ)) (aT _)) (Bf (oA (CB PySem.F.plainAttrs_str PySem.F.slot_str_isalnum PySem.F.type_str_isalnum NN (d8 (pv 0) T.az T.dw (cQ T) (hr.mono (by decide)) T.dj .nil aL)))))) (aj (pO (pv 0) aH Aa)))
   (aj (aD (sI Cm (au (pv 0) rfl) (fu (pv 1)) (fu (au (pv 0) rfl)))))))),?_⟩
 obtain ⟨dx,t,e,tx⟩:=id rd
 refine ⟨_,rfl,_,_,_,_,_,rfl,e,T.az,T.aI,rfl,?_⟩
 refine ⟨_,rfl,r,_,_,rfl,e,rfl,r,b,p,rfl,rd,rfl,_,rfl,rfl,trivial,_,rfl,?_⟩
 rw [Tg]
 cases h1:(cur b p).next.any isLetter with
 | false=>
  refine cC ?_
  refine ⟨_,rfl,_,_,_,_,_,rfl,e,T.az,T.aI,rfl,_,_,rfl,Er.raise (rer p ?_) Kf.refl⟩
  unfold Tide.nameIn
  rw [eK,h1]
  rfl
 | true=>
  refine cM ?_
  refine ⟨fun m σ H'=> ∃i,m=7 - i/\Run (fun x=>isLetter x || isDigit x) 7 b p i/\σ= [some (.ref r),some (.int (p:Int))]/\Kf (· ≠r) H H'/\H' r=some (bB A dx (.str t) (.int ((p + i:Nat):Int))),⟨7,0,rfl,Run.zero _ _ _ _,rfl,Kf.refl,e⟩,?_⟩
  rintro m σ H1 ⟨i,rfl,R,rfl,k1,e1⟩
  refine ⟨_,rfl,_,_,_,_,_,rfl,e1,T.az,T.aI,rfl,_,rfl,_,_,rfl,rfl,_,_,rfl,rfl,_,rfl,?_⟩
  have done:(i=7\/(cur b (p + i)).next.any (fun x=>isLetter x || isDigit x)=false)->Q (.str (Bw t (some (p:Int)) (some ((p + i:Nat):Int)))) H1:=fun hs=>by
   have h0:0 < i:=by
    rcases hs with hs | hs
    ·lia
    ·refine Nat.pos_of_ne_zero fun z=>?_
     subst z
     rw [Nat.add_zero,Pc (fun x hx=>by rw [hx];rfl) h1] at hs
     cases hs
   rw [R.text tx h0 RP]
   refine rok _ (p + i) H1 ?_ k1 ⟨dx,t,e1,tx⟩
   unfold Tide.nameIn
   rw [eK,h1,if_pos rfl,R.stop hs]
  by_cases h2:i < 7
  ·rw [YQ (show ((p + i:Nat):Int) < (p:Int) + 7 by lia)]
   refine cC ⟨_,rfl,r,_,_,rfl,e1,rfl,r,b,p + i,rfl,⟨dx,t,e1,tx⟩,rfl,_,rfl,rfl,trivial,_,rfl,?_⟩
   rw [Q_]
   cases h3:(cur b (p + i)).next.any (fun x=>isLetter x || isDigit x) with
   | true=>
    refine cC ⟨fun σ' H'=>σ'= [some (.ref r),some (.int (p:Int))]/\Kf (· ≠r) H H'/\H' r=some (bB A dx (.str t) (.int ((p + (i + 1):Nat):Int))),fun σ' H' ⟨z1,z2,z3⟩=>⟨7 - (i + 1),by lia,i + 1,rfl,R.step h2 h3,z1,z2,z3⟩,?_⟩
    refine ⟨_,rfl,r,_,_,_,_,rfl,e1,T.az,T.aI,rfl,_,_,rfl,rfl,_,_,e1,by show 2 < 1000;decide,rfl,k1.trans (Kf.put (by simp)),?_⟩
    rw [af]
    rfl
   | false=>
    refine cM ⟨_,rfl,_,_,_,_,_,rfl,e1,T.az,T.iQ,rfl,_,rfl,_,rfl,?_⟩
    exact ⟨_,rfl,_,_,_,_,_,rfl,e1,T.az,T.aI,rfl,_,rfl,_,rfl,tx.long,done (.inr h3)⟩
  ·rw [YJ (show ¬((p + i:Nat):Int) < (p:Int) + 7 by lia)]
   refine cM ?_
   have hi:i=7:=by have:=R.le;lia
   refine ⟨_,rfl,_,_,_,_,_,rfl,e1,T.az,T.iQ,rfl,_,rfl,_,rfl,?_⟩
   exact ⟨_,rfl,_,_,_,_,_,rfl,e1,T.az,T.aI,rfl,_,rfl,_,rfl,tx.long,done (.inl hi)⟩
theorem pC:ay ["self","most","start"] ["self","most"] (aq lG):=jv rfl (by decide +kernel)
def xJ(K:W.Frag)(A:Ad):Sp:=fun vs H Q E=> ∃r b p,∃n:Nat,vs= [.ref r,.int (n:Int)]/\0 < n/\gW A H r b p/\Reads A E (· ≠r) H r b p (Tide.someDigits n) (fun x q H'=>Q (.str (st x)) H')
theorem pD(T:Txt K mg A):bw P w K mg base (B8 P w) 3 A.bR A.dc ["self","most"] (xJ K A):=by
 refine K5 T.fj pC fun vs H Q E h Rz kz=>?_
 obtain ⟨r,b,p,n,rfl,hn,rd,rok,rer⟩:=h
 refine kz rfl fun cdv Ar outer s hr=>?_
 refine ⟨_,(ah (aF (i:=2) pC.nd rfl (Or.inl rfl) (au (pv 0) rfl))
   (ah (ow fG (PW.pt (Ff (aO Il (au (pv 0) rfl) (aR kU (pv 2) (pv 1)) (aT _)) (Bf (oA (CB PySem.F.plainAttrs_str PySem.F.slot_str_isdigit PySem.F.type_str_isdigit Fw (d8 (pv 0) T.az T.dw (cQ T) (hr.mono (by decide)) T.dj .nil aL)))))) (aj (pO (pv 0) aH Aa)))
   (ah (b6 (aO fQ (au (pv 0) rfl) (pv 2) (aT _)) (aj (mO T.xc (bP T) (hr.mono (by decide)) T.bX rfl rfl T.cI rfl aA (aa (aC rfl T.vp) (aa (au (pv 0) rfl) ai)))) aU)
   (aj (aD (sI Cm (au (pv 0) rfl) (fu (pv 2)) (fu (au (pv 0) rfl)))))))),?_⟩
 obtain ⟨dx,t,e,tx⟩:=id rd
 refine ⟨_,rfl,_,_,_,_,_,rfl,e,T.az,T.aI,rfl,?_⟩
 refine ⟨fun m σ H'=> ∃i,m=n - i/\Run isDigit n b p i/\σ= [some (.ref r),some (.int (n:Int)),some (.int (p:Int))]/\Kf (· ≠r) H H'/\H' r=some (bB A dx (.str t) (.int ((p + i:Nat):Int))),⟨n,0,rfl,Run.zero _ _ _ _,rfl,Kf.refl,e⟩,?_⟩
 rintro m σ H1 ⟨i,rfl,R,rfl,k1,e1⟩
 refine ⟨_,rfl,_,_,_,_,_,rfl,e1,T.az,T.aI,rfl,_,rfl,_,rfl,_,_,rfl,rfl,_,_,rfl,rfl,_,rfl,?_⟩
 have done:(i=n\/(cur b (p + i)).next.any isDigit=false)->AJ (Sa (xj (Ep U8 (Cu K (cK 0) "place") (cK 2))) (RS A.aW "kind" "place" E (bC (tC (.int 1)) (bC (Cu K (cK 0) "place") mQ))) IW) (BI (Ys WJ (Cu K (cK 0) "text") (So (cK 2)) (So (Cu K (cK 0) "place")))) {nx:=fun _ H'=>Q .dh H',rt:=Q} [some (.ref r),some (.int (n:Int)),some (.int (p:Int))] H1:=fun hs=>by
  refine ⟨_,rfl,_,_,_,_,_,rfl,e1,T.az,T.aI,rfl,_,rfl,rfl,_,rfl,?_⟩
  by_cases h0:i=0
  ·subst h0
   rw [YQ (show V.int ((p + 0:Nat):Int)=V.int (p:Int) from rfl)]
   refine cC ⟨_,rfl,_,_,_,_,_,rfl,e1,T.az,T.aI,rfl,_,_,rfl,Er.raise (rer p ?_) k1⟩
   unfold Tide.someDigits
   rcases hs with hs | hs
   ·lia
   ·rw [eK,show cur b p=cur b (p + 0) from rfl,hs]
    rfl
  ·rw [YJ (show ¬V.int ((p + i:Nat):Int)=V.int (p:Int) from fun z=>by have:=V.int.inj z;lia)]
   refine cM ⟨_,rfl,_,_,_,_,_,rfl,e1,T.az,T.iQ,rfl,_,rfl,_,rfl,?_⟩
   refine ⟨_,rfl,_,_,_,_,_,rfl,e1,T.az,T.aI,rfl,_,rfl,_,rfl,tx.long,?_⟩
   rw [R.text tx (Nat.pos_of_ne_zero h0) SI]
   refine rok _ (p + i) H1 ?_ k1 ⟨dx,t,e1,tx⟩
   have hd:(cur b p).next.any isDigit=true:=by
    have ha:=R.all
    have hl:=R.len
    rw [qy]
    cases hb:b.drop p with
    | nil=>rw [hb] at hl;simp at hl;lia
    | cons x rr=>
     rw [hb] at ha
     have hi:i=(i - 1) + 1:=by lia
     rw [hi,List.take_succ_cons,List.all_cons,Y_] at ha
     have:b[p]?=some x:=by
      rw [<-List.head?_drop,hb]
      rfl
     rw [this]
     exact ha.1
   unfold Tide.someDigits
   rw [eK,hd,if_pos rfl,R.stop hs]
 by_cases h2:i < n
 ·rw [YQ (show ((p + i:Nat):Int) < (p:Int) + (n:Int) by lia)]
  refine cC ⟨_,rfl,r,_,_,rfl,e1,rfl,r,b,p + i,rfl,⟨dx,t,e1,tx⟩,rfl,_,rfl,rfl,trivial,_,rfl,?_⟩
  rw [L8]
  cases h3:(cur b (p + i)).next.any isDigit with
  | true=>
   refine cC ⟨fun σ' H'=>σ'= [some (.ref r),some (.int (n:Int)),some (.int (p:Int))]/\Kf (· ≠r) H H'/\H' r=some (bB A dx (.str t) (.int ((p + (i + 1):Nat):Int))),fun σ' H' ⟨z1,z2,z3⟩=>⟨n - (i + 1),by lia,i + 1,rfl,R.step h2 h3,z1,z2,z3⟩,?_⟩
   refine ⟨_,rfl,r,_,_,_,_,rfl,e1,T.az,T.aI,rfl,_,_,rfl,rfl,_,_,e1,by show 2 < 1000;decide,rfl,k1.trans (Kf.put (by simp)),?_⟩
   rw [af]
   rfl
  | false=>exact cM (done (.inr h3))
 ·rw [YJ (show ¬((p + i:Nat):Int) < (p:Int) + (n:Int) by lia)]
  refine cM (done (.inl ?_))
  have:=R.le
  lia
theorem Vi{d:Bytes}(h:d.all isDigit=true):NumText.AllDigits (d.map UInt8.toNat):=by
 intro c hc
 obtain ⟨x,hx,rfl⟩:=Zf.mp hc
 have:=List.all_eq_true.mp h x hx
 unfold isDigit at this
 simpa using this
theorem Pf: ∀(d:Bytes) (a:Nat),(d.map UInt8.toNat).foldl (fun acc c=>acc * 10 + (c - 48)) a=d.foldl (fun (n:Nat) (x:UInt8)=>10 * n + (x.toNat - 48)) a
 | [],a=>rfl
 | x::r,a=>by
  rw [YS,List.foldl_cons,List.foldl_cons,Nat.mul_comm a 10,Pf r]
theorem El(d:Bytes): ∀(f:Bytes) (a:Nat),f.foldl (fun (n:Nat) (x:UInt8)=>10 * n + (x.toNat - 48)) a=a * 10 ^ f.length + Tide.decimal f
 | [],a=>by simp [Tide.decimal]
 | x::r,a=>by
  have e1:=El d r (10 * a + (x.toNat - 48))
  have e2:=El d r (10 * 0 + (x.toNat - 48))
  rw [List.foldl_cons,e1]
  unfold Tide.decimal at *
  rw [List.foldl_cons,e2,YU,Nat.pow_succ]
  generalize List.foldl _ 0 r=z
  generalize (x.toNat - 48)=y
  generalize 10 ^ r.length=P
  rw [Nat.add_mul,Nat.add_mul,Nat.mul_zero,Nat.zero_mul,Nat.mul_comm 10 a,Nat.mul_assoc,Nat.mul_comm 10 P]
  lia
theorem Jb: ∀m:Nat,Tide.decimal (List.replicate m 48)=0
 | 0=>rfl
 | m + 1=>by
  have:=Jb m
  unfold Tide.decimal at *
  rw [List.replicate_succ,List.foldl_cons]
  exact this
theorem Mc{d f:Bytes}{n:Nat}(hd:d.all isDigit=true)(hf:f.all isDigit=true)(h1:d≠ [])(h2:d.length<=100)(h3:f.length<=n)(h4:n<=100):
  intText? (st d++Txt.ljustF (st f) (n:Int) 48)=some ((Tide.decimal d * 10 ^ n + Tide.decimal f * 10 ^ (n - f.length):Nat):Int)/\(st d++Txt.ljustF (st f) (n:Int) 48).length<=640:=by
 have e:tl (st d++Txt.ljustF (st f) (n:Int) 48)=(d++(f++List.replicate (n - f.length) 48)).map UInt8.toNat:=by
  rw [pL,kW]
  show _++(Txt.ljustF (st f) (n:Int) 48).cps.toList=_
  rw [ljustF_list]
  have hl:(st f).length=f.length:=by rw [m_,kW,YI]
  rw [hl,YT,YT,List.map_replicate]
  simp [st]
 have hall:(d++(f++List.replicate (n - f.length) 48)).all isDigit=true:=by
  rw [List.all_append,List.all_append,hd,hf]
  simp
  right
  rfl
 have hlen:(st d++Txt.ljustF (st f) (n:Int) 48).length<=640:=by
  rw [m_,e,YI,YH,YH,List.length_replicate]
  lia
 refine ⟨?_,hlen⟩
 have:=PySem.intText_digits (x:=st d++Txt.ljustF (st f) (n:Int) 48) (by rw [show (st d++Txt.ljustF (st f) (n:Int) 48).cps.toList=_ from e];exact Vi hall)
  (by rw [show (st d++Txt.ljustF (st f) (n:Int) 48).cps.toList=_ from e];simp [h1]) (by lia)
 rw [this]
 congr 1
 rw [show (st d++Txt.ljustF (st f) (n:Int) 48).cps.toList=_ from e]
 unfold NumText.digitsVal
 rw [Pf,List.foldl_append,List.foldl_append]
 rw [El [] (List.replicate (n - f.length) 48),El [] f,Jb,List.length_replicate]
 have hp:10 ^ f.length * 10 ^ (n - f.length)=10 ^ n:=by rw [<-Nat.pow_add];congr 1;lia
 show (((Tide.decimal d * 10 ^ f.length + Tide.decimal f) * 10 ^ (n - f.length) + 0:Nat):Int)=_
 rw [Nat.add_zero,Nat.add_mul,Nat.mul_assoc,hp]
def wv(ws:List Bytes):List V:=ws.map fun w=>V.str (st w)
def goodW(ws:List Bytes):Bool:=decide (ws.length<=100) && ws.all fun w=>decide (0 < w.length) && decide (w.length<=15) && w.all Iv && ws.all fun w'=>w == w' || !w.isPrefixOf w'
theorem Sj(w:Bytes)(k:Nat):Bw (st w) (some (k:Int)) (some ((k:Int) + 1))=st (w[k]?).toList:=by
 refine FQ ?_
 have hl:(tl (st w)).length=w.length:=by rw [kW,YI]
 rw [show ((k:Int) + 1)=((k + 1:Nat):Int) by lia,Nh,hl,kW,kW]
 by_cases h:k < w.length
 ·rw [Nat.min_eq_left (by lia),Nat.min_eq_left (by lia),Y9 h,show k + 1 - k=1 by lia,<-List.map_drop,Zo h]
  rfl
 ·rw [Nat.min_eq_right (by lia),Nat.min_eq_right (by lia),List.getElem?_eq_none (by lia),Nat.sub_self]
  rfl
theorem UC{w:Bytes}(hw:w.all Iv=true)(k:Nat)(o:Option UInt8):decide (V.str (Bw (st w) (some (k:Int)) (some ((k:Int) + 1)))=V.str (sg o))=decide (w[k]?=o):=by
 rw [Sj]
 have key:st (w[k]?).toList=sg o ↔ w[k]?=o:=by
  cases h:w[k]? with
  | none=>
   show st []=sg o ↔ _
   constructor
   ·intro e
    exact (BO.mp e.symm).symm
   ·intro e
    exact (BO.mpr e.symm).symm
  | some x=>
   have hx:Iv x=true:=List.all_eq_true.mp hw x (Y7 h)
   show st [x]=sg o ↔ _
   constructor
   ·intro e
    exact ((Mr hx).mp e.symm).symm
   ·intro e
    exact ((Mr hx).mpr e.symm).symm
 by_cases h:w[k]?=o
 ·rw [YQ h,YQ (congrArg V.str (key.mpr h))]
 ·rw [YJ h,YJ (fun z=>h (key.mp (V.str.inj z)))]
theorem Ox(K:W.Frag)(H:Hp): ∀ws:List Bytes,Gq K H (wv ws) (ws.map fun w=>PyData.str (st w))
 | []=> .nil
 | w::r=> .cons (.str _) (Ox K H r)
theorem Le: ∀ws:List Bytes,PyData.canLayAll0 (ws.map fun w=>PyData.str (st w))=true/\PyData.depthAll (ws.map fun w=>PyData.str (st w))<=1
 | []=>by simp [PyData.canLayAll0,PyData.depthAll]
 | w::r=>by
  have ih:=Le r
  have h1:PyData.strOk (st w)=true:=by
   unfold PyData.strOk st
   simp
   intro x _
   have:=UInt8.toNat_lt x
   lia
  simp only [YS,PyData.canLayAll0,PyData.depthAll,PyData.canLay0,PyData.depth,h1,ih.1]
  simp
  exact ih.2
theorem T5(ws:List Bytes):PyData.eqv (.list (ws.map fun w=>PyData.str (st w))) (.list [])=ws.isEmpty:=by
 cases ws <;> rfl
structure Left(ws:List Bytes)(b:Bytes)(p k:Nat)(left:List Bytes):Prop where
 eq:PM.oneOf ws (cur b p)=PM.ly (16 - k) left k (cur b (p + k))
 mem: ∀w ∈ left,w ∈ ws/\k < w.length
 pre: ∀w ∈ left,∀w' ∈ left,w.take k=w'.take k
 len:left.length<=100
theorem BN{ws:List Bytes}(h:goodW ws=true){w:Bytes}(m:w ∈ ws):0 < w.length/\w.length<=15/\w.all Iv=true/\ ∀w' ∈ ws,w.isPrefixOf w'=true->w=w':=by
 have:=List.all_eq_true.mp (Bool.and_eq_true_iff.mp h).2 w m
 simp only [Y_,decide_eq_true_eq] at this
 obtain ⟨⟨⟨h1,h2⟩,h3⟩,h4⟩:=this
 refine ⟨h1,h2,h3,fun w' m' hp=>?_⟩
 have:=List.all_eq_true.mp h4 w' m'
 rw [hp] at this
 simpa using this
theorem Left.zero{ws:List Bytes}(h:goodW ws=true)(b:Bytes)(p:Nat):Left ws b p 0 ws:=⟨rfl,fun w m=>⟨m,(BN h m).1⟩,fun w _ w' _=>by rw [List.take_zero,List.take_zero],Zc (Bool.and_eq_true_iff.mp h).1⟩
def GY(b:Bytes)(p k:Nat)(left:List Bytes):List Bytes:=left.filter fun w=>decide (w[k]?=(cur b (p + k)).next)
theorem Left.none{ws left:List Bytes}{b:Bytes}{p k:Nat}(L:Left ws b p k left)(hk:k < 16)(h:GY b p k left= []):PM.oneOf ws (cur b p)= .error (p + k):=by
 rw [L.eq,show 16 - k=(15 - k) + 1 by lia,PM.ly]
 have h':(left.filter fun w=>decide (w[k]?=(cur b (p + k)).next))= []:=h
 rw [h']
 rfl
theorem Left.done{ws left r:List Bytes}{b w:Bytes}{p k:Nat}(L:Left ws b p k left)(hk:k < 16)(h:GY b p k left=w::r)(hw:w.length=k + 1):PM.oneOf ws (cur b p)= .ok (w,cur b (p + (k + 1))):=by
 rw [L.eq,show 16 - k=(15 - k) + 1 by lia,PM.ly]
 have h':(left.filter fun w=>decide (w[k]?=(cur b (p + k)).next))=w::r:=h
 rw [h']
 dsimp only
 rw [if_pos hw,Af]
 rfl
theorem JN{w w':Bytes}{k:Nat}(h:w.take k=w'.take k)(h2:w[k]?=w'[k]?):w.take (k + 1)=w'.take (k + 1):=by
 rw [YX,YX,h,h2]
theorem Left.next{ws left r:List Bytes}{b w:Bytes}{p k:Nat}(hg:goodW ws=true)(L:Left ws b p k left)(hk:k < 16)(h:GY b p k left=w::r)(hw: ¬w.length=k + 1):Left ws b p (k + 1) (w::r)/\k + 1 < 16:=by
 have hm: ∀v ∈ w::r,v ∈ left/\v[k]?=(cur b (p + k)).next:=fun v hv=>by
  rw [<-h] at hv
  have:=Zp.mp hv
  exact ⟨this.1,Zc this.2⟩
 have hpre: ∀v ∈ w::r,∀v' ∈ w::r,v.take (k + 1)=v'.take (k + 1):=fun v hv v' hv'=>
  JN (L.pre v (hm v hv).1 v' (hm v' hv').1) ((hm v hv).2.trans (hm v' hv').2.symm)
 have hww:=YN (a:=w) (l:=r)
 have hwl:k + 1 < w.length:=by have:=(L.mem w (hm w hww).1).2;lia
 have hlen: ∀v ∈ w::r,k + 1 < v.length:=fun v hv=>by
  have h1:=(L.mem v (hm v hv).1).2
  by_cases h2:v.length=k + 1
  ·have hp:=hpre v hv w hww
   rw [List.take_of_length_le (by lia)] at hp
   have:v.isPrefixOf w=true:=by
    rw [List.isPrefixOf_iff_prefix,hp]
    exact List.take_prefix _ _
   have:=(BN hg (L.mem v (hm v hv).1).1).2.2.2 w (L.mem w (hm w hww).1).1 this
   rw [this] at h2
   lia
  ·lia
 refine ⟨⟨?_,fun v hv=>⟨(L.mem v (hm v hv).1).1,hlen v hv⟩,hpre,?_⟩,?_⟩
 ·rw [L.eq,show 16 - k=(16 - (k + 1)) + 1 by lia,PM.ly]
  have h':(left.filter fun w=>decide (w[k]?=(cur b (p + k)).next))=w::r:=h
  rw [h']
  dsimp only
  rw [if_neg hw,Af]
  rfl
 ·rw [<-h]
  exact Y4 (Zk _ _) L.len
 ·have:=(BN hg (L.mem w (hm w hww).1).1).2.1
  lia
theorem aN.Xd{K:W.Frag}{H H':Hp}{a:Addr}{xs:List V}(e:aN H H')(h:jn K H a xs):jn K H' a xs:=by
 rcases h with (h | ⟨o,h⟩) | h
 ·exact .inl (.inl (e _ _ h))
 ·exact .inl (.inr ⟨o,e _ _ h⟩)
 ·exact .inr h
theorem W_ {K:W.Frag} {a:Addr} {xs:List V} {j:Nat} {g:TG} {tt:TT} {te:TE} {vs:List Nat} {σ:L2.St} {H:Hp} {Q:VK} (Pv:Addr->Nat->Hp->Prop) (hσ:σ[j]?=some (some (.ref a))) (hq:b_ K H a xs\/jn K H a xs)
  (h0: ∀D,H D=none->Pv D 0 (upd H D (.lst []))) (hl: ∀D i H',H D=none->i<=xs.length->Pv D i H'->aN H H')
  (hs: ∀D i x H',H D=none->xs[i]?=some x->Pv D i H'->g x (wipe σ vs) H' fun σ2 H2=>wipe σ2 vs=wipe σ vs/\tt σ2 H2 fun b H3=>
   if b=true then te σ2 H3 fun y H4=> ∃acc,H4 D=some (.lst acc)/\acc.length < sizeLine/\Pv D (i + 1) (upd H4 D (.lst (acc++ [y]))) else Pv D (i + 1) H3) (hd: ∀D H',H D=none->Pv D xs.length H'->Q (.ref D) H'):
  Tq (X9 (ES K (cK j)) (V_ K (cK j))) g tt te vs σ H Q:=by
 rcases hq with hq | hq
 ·exact Or.inl ⟨_,hσ,a,rfl,⟨_,hq⟩,fun D hD=>Ei (K:=K) (a:=a) (xs:=xs) (Pv D) (h0 D hD) (fun i H' hi p=>(hl D i H' hD hi p).seq hq) (fun i x H' hx p=>hs D i x H' hD hx p) (fun H' p=>hd D H' hD p)⟩
 ·exact Or.inr ⟨_,hσ,a,rfl,⟨_,hq⟩,fun D hD=>Vt (K:=K) (a:=a) (xs:=xs) (Pv D) (h0 D hD) (fun i H' hi p=>Td.aN.Xd (hl D i H' hD hi p) hq) (fun i x H' hx p=>hs D i x H' hD hx p) (fun H' p=>hd D H' hD p)⟩
theorem DA{α:Type}(p:α->Bool){l:List α}{i:Nat}{x:α}(h:l[i]?=some x):(l.take (i + 1)).filter p=(l.take i).filter p++if p x=true then [x] else []:=by
 rw [YX,h,List.filter_append]
 show _++List.filter p [x]=_
 rw [List.filter_cons,List.filter_nil]
theorem b7:ay ["self","words","left","length","sign","word"] ["self","words"] (aq lg):=jv rfl (by decide +kernel)
def dY(K:W.Frag)(A:Ad):Sp:=fun vs H Q E=> ∃r wa b p ws,vs= [.ref r,.ref wa]/\gW A H r b p/\jn K H wa (wv ws)/\goodW ws=true/\Reads A E (· ≠r) H r b p (PM.oneOf ws) (fun x q H'=>Q (.str (st x)) H')
theorem aG(T:Txt K mg A):bw P w K mg base (B8 P w) 3 A.bQ A.cZ ["self","words"] (dY K A):=by
 refine K5 T.e9 b7 fun vs H Q E h Rz kz=>?_
 obtain ⟨r,wa,b,p,ws,rfl,rd,hws,hg,rok,rer⟩:=h
 refine kz rfl fun cdv Ar outer s hr=>?_
 have hu64:=Uo hr
 refine ⟨_,(ah (aF (i:=2) b7.nd rfl (Or.inl rfl) (pv 1))
   (ah (aF (i:=3) b7.nd rfl (Or.inr rfl) aH)
   (aj (ow fG (oA Ji) (ah (aF (i:=4) b7.nd rfl (Or.inr rfl) (d8 (pv 0) T.az T.dw (cQ T) (hr.mono (by decide)) T.dj .nil aL))
   (ah (RO (i:=2) rfl b7.nd rfl rfl (Uv rfl rfl rfl rfl) (VX (pv 2)) (own:= [("word",5)]) (mU rfl) (fun _ _ _ _ _=>b9 (i:=5) b7.nd rfl (Or.inl rfl)) (fun _ _ _ _ _=>(O2 (aO fQ (sI Cm (pv 5) (fu (pv 3)) (fu (aR kU (pv 3) aH))) (pv 4) (aT _)))) (fun _ _ _ _ _=>(pv 5)))
   (ah (b6 (aO (Wf hu64) (pv 2) (dJ ai) (aT _)) (aj (mO T.xc (bP T) (hr.mono (by decide)) T.bX rfl rfl T.cI rfl aA (aa (aC rfl T.vp) (aa (au (pv 0) rfl) ai)))) aU)
   (ah (pO (pv 0) aH Aa)
   (ah (vN (i:=3) b7.nd rfl (Or.inr rfl) BB aH)
   (aj (b6 (aO fQ (bN KN (by rfl) T.xu PySem.boot_len (aa (gj ku (pv 2) aH (fun _ _=>rfl)) ai)) (pv 3) (aT _)) (aj (aD (gj ku (pv 2) aH (fun _ _=>rfl)))) aU))))))))))),?_⟩
 obtain ⟨dx,t,e,tx⟩:=id rd
 refine ⟨_,rfl,?_⟩
 refine ⟨fun m σ H'=> ∃k left la v4,m=16 - k/\k < 16/\Left ws b p k left/\σ= [some (.ref r),some (.ref wa),some (.ref la),some (.int (k:Int)),v4,none]/\Kf (· ≠r) H H'/\H' r=some (bB A dx (.str t) (.int ((p + k:Nat):Int)))/\(b_ K H' la (wv left)\/jn K H' la (wv left)),
  ⟨16,0,ws,wa,none,rfl,by decide,Left.zero hg b p,rfl,Kf.refl,e,.inr hws⟩,?_⟩
 rintro m σ H1 ⟨k,left,la,v4,rfl,hk,L,rfl,k1,e1,hla⟩
 refine ⟨true,rfl,cC ?_⟩
 refine ⟨fun σ' H'=> ∃left' la' v4',σ'= [some (.ref r),some (.ref wa),some (.ref la'),some (.int ((k + 1:Nat):Int)),v4',none]/\k + 1 < 16/\Left ws b p (k + 1) left'/\Kf (· ≠r) H H'/\H' r=some (bB A dx (.str t) (.int ((p + (k + 1):Nat):Int)))/\(b_ K H' la' (wv left')\/jn K H' la' (wv left')),
  fun σ' H' ⟨left',la',v4',z1,z2,z3,z4,z5,z6⟩=>⟨16 - (k + 1),by lia,k + 1,left',la',v4',rfl,z2,z3,z1,z4,z5,z6⟩,?_⟩
 refine ⟨_,rfl,r,_,_,rfl,e1,rfl,r,b,p + k,rfl,⟨dx,t,e1,tx⟩,?_⟩
 dsimp only [mR,AJ,DL]
 refine W_ (a:=la) (xs:=wv left) (fun D i H'=>H'=upd H1 D (.lst (wv ((left.take i).filter fun w=>decide (w[k]?=(cur b (p + k)).next))))) ?_ hla (fun D hD=>rfl) (fun D i H' hD _ z=>by rw [z];exact aN.new hD) ?_ ?_
 ·rfl
 ·rintro D i x H' hD hx rfl
  obtain ⟨w,hw,rfl⟩: ∃w,left[i]?=some w/\x=V.str (st w):=by
   unfold wv at hx
   rw [Y6] at hx
   cases e:left[i]? with
   | none=>rw [e] at hx;cases hx
   | some w=>
    rw [e] at hx
    exact ⟨w,rfl,(Option.some.inj hx).symm⟩
  have hmw:=Y7 hw
  have gw:=BN hg (L.mem w hmw).1
  refine ⟨rfl,_,rfl,_,rfl,_,rfl,_,rfl,_,_,rfl,rfl,_,rfl,_,rfl,?_,_,rfl,rfl,_,rfl,?_⟩
  ·rw [m_,kW,YI,sizeLine_eq]
   have:=gw.2.1
   lia
  rw [UC gw.2.2.1,DA _ hw]
  by_cases hc:w[k]?=(cur b (p + k)).next
  ·rw [YQ hc]
   refine cC ⟨_,rfl,_,af,?_,?_⟩
   ·rw [wv,YI,sizeLine_eq]
    have h1:=Zk (fun w:Bytes=>decide (w[k]?=(cur b (p + k)).next)) (left.take i)
    have h2:(left.take i).length<=left.length:=by rw [Zd];lia
    have h3:=L.len
    lia
   ·rw [b8,if_pos rfl,wv,wv,YT]
    rfl
  ·rw [YJ hc]
   refine cM ?_
   rw [if_neg (by decide),Y0]
 ·rintro D H' hD rfl
  have hfl:(left.take (wv left).length).filter (fun w=>decide (w[k]?=(cur b (p + k)).next))=GY b p k left:=by
   rw [wv,YI,Y8]
   rfl
  rw [hfl]
  have nD:r≠D:=ao e1 hD
  have e2:upd H1 D (.lst (wv (GY b p k left))) r=some (bB A dx (.str t) (.int ((p + k:Nat):Int))):=by rw [ak nD];exact e1
  have k2:Kf (· ≠r) H (upd H1 D (.lst (wv (GY b p k left)))):=k1.trans (Kf.new hD)
  have hL:upd H1 D (.lst (wv (GY b p k left))) D=some (.lst (wv (GY b p k left))):=af
  generalize upd H1 D (.lst (wv (GY b p k left)))=H2 at e2 k2 hL
  refine ⟨_,rfl,YW _,fun z hz=>?_⟩
  have nz:D≠z:=ao hL hz
  have lay:=Le (GY b p k left)
  refine ⟨_,_,.lst (b_.of (by rw [ak nz];exact hL)) (Ox _ _ _),.lst (b_.of af) .nil,?_,by decide,_,rfl,?_⟩
  ·unfold SeqAt.shaped
   rw [show PyData.canLay0 (.list ((GY b p k left).map fun w=>PyData.str (st w)))=true from lay.1]
   have:PyData.depth (.list ((GY b p k left).map fun w=>PyData.str (st w)))<=64:=by
    have:=lay.2
    simp only [PyData.depth]
    lia
   rw [YQ this]
   rfl
  rw [T5]
  have e3:upd H2 z (.lst []) r=some (bB A dx (.str t) (.int ((p + k:Nat):Int))):=by rw [ak (ao e2 hz)];exact e2
  have k3:Kf (· ≠r) H (upd H2 z (.lst [])):=k2.trans (Kf.new hz)
  have hL3:upd H2 z (.lst []) D=some (.lst (wv (GY b p k left))):=by rw [ak nz];exact hL
  generalize upd H2 z (.lst [])=H3 at e3 k3 hL3
  cases hf:GY b p k left with
  | nil=>exact cC ⟨_,rfl,_,_,_,_,_,rfl,e3,T.az,T.aI,rfl,_,_,rfl,Er.raise (rer _ (L.none hk hf)) k3⟩
  | cons w rr=>
   rw [hf] at hL3
   refine cM ⟨_,rfl,r,_,_,_,_,rfl,e3,T.az,T.aI,rfl,_,_,rfl,rfl,_,_,e3,by show 2 < 1000;decide,?_⟩
   have e4:upd H3 r (bB A dx (.str t) (.int ((p + (k + 1):Nat):Int))) r=some (bB A dx (.str t) (.int ((p + (k + 1):Nat):Int))):=af
   have k4:Kf (· ≠r) H (upd H3 r (bB A dx (.str t) (.int ((p + (k + 1):Nat):Int)))):=k3.trans (Kf.put (by simp))
   have hL4:upd H3 r (bB A dx (.str t) (.int ((p + (k + 1):Nat):Int))) D=some (.lst (wv (w::rr))):=by rw [ak (Ne.symm nD)];exact hL3
   refine ⟨_,rfl,_,_,rfl,rfl,?_⟩
   have hw:w ∈ left:=(Zp.mp (show w ∈ GY b p k left by rw [hf];exact YN)).1
   have gw:=BN hg (L.mem w hw).1
   have lw:(st w).length=w.length:=by rw [m_,kW,YI]
   refine ⟨_,rfl,D,_,_,_,rfl,rfl,b_.of hL4,at_of (j:=0) (v:= .str (st w)) rfl rfl,_,rfl,by rw [lw,sizeLine_eq];have:=gw.2.1;lia,_,rfl,rfl,_,rfl,?_⟩
   rw [lw]
   by_cases hl:w.length=k + 1
   ·rw [YQ (show V.int (w.length:Int)=V.int ((k:Int) + 1) by rw [hl];rfl)]
    refine cC ⟨_,rfl,D,_,_,_,rfl,rfl,b_.of hL4,at_of (j:=0) (v:= .str (st w)) rfl rfl,?_⟩
    exact rok w (p + (k + 1)) _ (L.done hk hf hl) k4 ⟨dx,t,e4,tx⟩
   ·rw [YJ (show ¬V.int (w.length:Int)=V.int ((k:Int) + 1) from fun z=>hl (by have:=V.int.inj z;lia))]
    have nx:=L.next hg hk hf hl
    exact cM ⟨w::rr,D,_,rfl,nx.2,nx.1,k4,e4,.inl (b_.of hL4)⟩
theorem EZ(pr:UInt8->Bool): ∀(n:Nat) (c:Cur),(Tide.some_ pr n c).1.all pr=true/\(Tide.some_ pr n c).1.length<=n
 | 0,c=>⟨rfl,YM _⟩
 | n + 1,c=>by
  rw [Tide.some_]
  cases c.next with
  | none=>exact ⟨rfl,YW _⟩
  | some x=>
   by_cases h:pr x=true
   ·simp only [h,if_true,List.all_cons,Bool.true_and,YU]
    have:=EZ pr n c.on
    exact ⟨this.1,by lia⟩
   ·simp [h]
theorem Eo{n:Nat}{c:Cur}{d:Bytes}{c':Cur}(h:Tide.someDigits n c= .ok (d,c')):d.all isDigit=true/\d.length<=n:=by
 unfold Tide.someDigits at h
 split at h
 ·have e:=EZ isDigit n c
  have h1:=(Except.ok.inj h)
  rw [h1] at e
  exact e
 ·cases h
theorem Te{n:Nat}{c:Cur}{d:Bytes}{c':Cur}(hn:0 < n)(h:Tide.someDigits n c= .ok (d,c')):d≠ []:=by
 unfold Tide.someDigits at h
 split at h
 ·rename_i hx
  obtain ⟨m,rfl⟩: ∃m,n=m + 1:=⟨n - 1,by lia⟩
  have e:=PJ.L0 (n:=m) hx
  have h1:=(Except.ok.inj h)
  rw [h1] at e
  intro z
  rw [z] at e
  simp at e
 ·cases h
theorem Gz{a b:Nat}{c c1:Cur}{d:Bytes}(h:Tide.someDigits a c= .ok (d,c1))(hp:nextIs (fun x=>x == 46) c1=false):Tide.pointed a b c= .ok (Tide.decimal d * 10 ^ b + Tide.decimal [] * 10 ^ (b - ([]:Bytes).length),c1):=by
 unfold Tide.pointed
 rw [h]
 show (if nextIs (fun x=>x == 46) c1=true then Tide.someDigits b c1.on else .ok ([],c1)) >>= _=_
 rw [hp]
 rfl
theorem Dm{a b:Nat}{c c1:Cur}{d:Bytes}(h:Tide.someDigits a c= .ok (d,c1))(hp:nextIs (fun x=>x == 46) c1=true):Tide.pointed a b c=(Tide.someDigits b c1.on) >>= fun (z:Bytes×Cur)=> .ok (Tide.decimal d * 10 ^ b + Tide.decimal z.1 * 10 ^ (b - z.1.length),z.2):=by
 unfold Tide.pointed
 rw [h]
 show (if nextIs (fun x=>x == 46) c1=true then Tide.someDigits b c1.on else .ok ([],c1)) >>= _=_
 rw [hp]
 rfl
theorem ED{a b:Nat}{c:Cur}{e:Nat}(h:Tide.someDigits a c= .error e):Tide.pointed a b c= .error e:=by
 unfold Tide.pointed
 rw [h]
 rfl
theorem Np{o:Option UInt8}{y:UInt8}(h:Iv y=true):decide (V.str (sg o)=V.str (st [y]))=o.any (fun x=>x == y):=by
 cases o with
 | none=>
  rw [YJ (fun z=>by have:=(Mr h).mp (V.str.inj z);cases this)]
  rfl
 | some x=>
  by_cases hx:x=y
  ·rw [YQ (congrArg V.str ((Mr h).mpr (by rw [hx])))]
   show true=(x == y)
   rw [hx]
   simp
  ·rw [YJ (fun z=>by have:=(Mr h).mp (V.str.inj z);cases this;exact hx rfl)]
   show false=(x == y)
   exact (YY.mpr hx).symm
theorem Rw:(Str.ofString ".":Str)=st [46]:=by decide +kernel
theorem FZ:(Str.ofString "-":Str)=st [45]:=by decide +kernel
theorem Bm:(Str.ofString "":Str)=st []:=by decide +kernel
theorem Yq:(Str.ofString "0").cps.getD 0 0=48:=by decide +kernel
theorem f9:ay ["self","most_before","most_behind","before","behind"] ["self","most_before","most_behind"] (aq ki):=jv rfl (by decide +kernel)
def vO(K:W.Frag)(A:Ad):Sp:=fun vs H Q E=> ∃r b p,∃m n:Nat,vs= [.ref r,.int (m:Int),.int (n:Int)]/\0 < m/\0 < n/\m<=100/\n<=100/\gW A H r b p/\Reads A E (· ≠r) H r b p (Tide.pointed m n) (fun x q H'=>Q (.int (x:Int)) H')
theorem fV(T:Txt K mg A):bw P w K mg base (B8 P w) 4 A.bL A.cN ["self","most_before","most_behind"] (vO K A):=by
 refine K5 T.d7 f9 fun vs H Q E h Rz kz=>?_
 obtain ⟨r,b,p,m,n,rfl,hm,hn,hm1,hn1,rd,rok,rer⟩:=h
 refine kz rfl fun cdv Ar outer s hr=>?_
 refine ⟨_,(ah (aF (i:=3) f9.nd rfl (Or.inl rfl) (bM (pv 0) T.az T.qB (pD T) (hr.mono (by decide)) T.qx .nil (aA.passes rfl) (aa (pv 1) ai)))
   (ah (aF (i:=4) f9.nd rfl (Or.inl rfl) cV)
   (ah (b6 (aO fQ (d8 (pv 0) T.az T.dw (cQ T) (hr.mono (by decide)) T.dj .nil aL) cV (aT _)) (ah (pO (pv 0) aH Aa)
   (aj (aF (i:=4) f9.nd rfl (Or.inl rfl) (bM (pv 0) T.az T.qB (pD T) (hr.mono (by decide)) T.qx .nil (aA.passes rfl) (aa (pv 2) ai))))) aU)
   (aj (aD (vF wz rfl T.MT (by decide +kernel) (aa (aR fM (pv 3) (qw PySem.F.plainAttrs_str PySem.F.slot_str_ljust PySem.F.type_str_ljust PK (pv 4) (aa (pv 2) (aa cV ai)))) ai))))))),?_⟩
 obtain ⟨dx,t,e,tx⟩:=id rd
 refine ⟨_,rfl,r,_,_,rfl,e,rfl,_,rfl,r,b,p,m,rfl,hm,rd,fun d q1 H1 ed k1 rd1=>?_,fun er he=>rer er (ED he)⟩
 have da:=Eo ed
 have dn:=Te hm ed
 obtain ⟨dx1,t1,e1,tx1⟩:=id rd1
 refine ⟨_,rfl,r,_,_,rfl,e1,rfl,r,b,q1,rfl,rd1,rfl,_,rfl,?_⟩
 rw [Rw,Np (by decide),<-eK]
 have pok:PadOk (n:Int)=true:=padOk_of (by lia) (by lia)
 cases hd:nextIs (fun x=>x == 46) (cur b q1) with
 | false=>
  have pt:=Mc (f:= []) da.1 rfl dn (by have:=da.2;lia) (YW _) hn1
  rw [<-Yq,<-Bm] at pt
  refine cM ⟨_,rfl,_,rfl,rfl,_,rfl,_,(n:Int),"0",rfl,rfl,pok,rfl,_,_,rfl,rfl,?_,_,_,rfl,pt.1,pt.2,?_⟩
  ·have:=pt.2
   rw [strLen_append] at this
   rw [sizeLine_eq]
   lia
  exact rok _ q1 H1 (Gz ed hd) k1 rd1
 | true=>
  have pe:=Dm (b:=n) ed hd
  rw [Af] at pe
  refine cC ⟨_,rfl,r,_,_,_,_,rfl,e1,T.az,T.aI,rfl,_,_,rfl,rfl,_,_,e1,by show 2 < 1000;decide,?_⟩
  have k2:Kf (· ≠r) H (upd H1 r (bB A dx1 (.str t1) (.int ((q1 + 1:Nat):Int)))):=k1.trans (Kf.put (by simp))
  have e2:upd H1 r (bB A dx1 (.str t1) (.int ((q1 + 1:Nat):Int))) r=some (bB A dx1 (.str t1) (.int ((q1 + 1:Nat):Int))):=af
  refine ⟨_,rfl,r,_,_,rfl,e2,rfl,_,rfl,r,b,q1 + 1,n,rfl,hn,⟨dx1,t1,e2,tx1⟩,fun f q3 H3 ef k3 rd3=>?_,fun er he=>(rer er (by rw [pe,he];rfl)).step k2 fun b o h _=>h⟩
  have fa:=Eo ef
  have pt:=Mc da.1 fa.1 dn (by have:=da.2;lia) fa.2 hn1
  rw [<-Yq] at pt
  refine ⟨_,rfl,_,rfl,rfl,_,rfl,_,(n:Int),"0",rfl,rfl,pok,rfl,_,_,rfl,rfl,?_,_,_,rfl,pt.1,pt.2,?_⟩
  ·have:=pt.2
   rw [strLen_append] at this
   rw [sizeLine_eq]
   lia
  exact rok _ q3 H3 (by rw [pe,ef];rfl) (k2.trans k3) rd3
def mK(m n:Nat)(c:Cur):Except Nat (Int×Cur):=(Tide.pointed m n (if nextIs (fun x=>x == 45) c=true then c.on else c)) >>= fun (z:Nat×Cur)=> .ok (if nextIs (fun x=>x == 45) c=true then -(z.1:Int) else (z.1:Int),z.2)
theorem CY(c:Cur):Tide.number c=mK 3 12 c:=by
 unfold Tide.number mK Tide.pointed
 dsimp only
 cases Tide.someDigits 3 (if nextIs (fun x=>x == 45) c=true then c.on else c) with
 | error e=>rfl
 | ok z=>
  obtain ⟨d,c1⟩:=z
  show (if nextIs (fun x=>x == 46) c1=true then Tide.someDigits 12 c1.on else .ok ([],c1)) >>= _=((if nextIs (fun x=>x == 46) c1=true then Tide.someDigits 12 c1.on else .ok ([],c1)) >>= _) >>= _
  cases (if nextIs (fun x=>x == 46) c1=true then Tide.someDigits 12 c1.on else .ok ([],c1):Except Nat (Bytes×Cur)) with
  | error e=>rfl
  | ok z=>rfl
theorem qv:ay ["self","most_before","most_behind"] ["self","most_before","most_behind"] (aq fK):=jv rfl (by decide +kernel)
def qH(K:W.Frag)(A:Ad):Sp:=fun vs H Q E=> ∃r b p,∃m n:Nat,vs= [.ref r,.int (m:Int),.int (n:Int)]/\0 < m/\0 < n/\m<=100/\n<=100/\gW A H r b p/\Reads A E (· ≠r) H r b p (mK m n) (fun x q H'=>Q (.int x) H')
theorem jq(T:Txt K mg A):bw P w K mg base (B8 P w) 5 A.aV A.bE ["self","most_before","most_behind"] (qH K A):=by
 refine K5 T.bT qv fun vs H Q E h Rz kz=>?_
 obtain ⟨r,b,p,m,n,rfl,hm,hn,hm1,hn1,rd,rok,rer⟩:=h
 refine kz rfl fun cdv Ar outer s hr=>?_
 refine ⟨_,(ah (b6 (aO Jl (d8 (pv 0) T.az T.dw (cQ T) (hr.mono (by decide)) T.dj .nil aL) cV (aT _)) (aj (aD (bM (pv 0) T.az T.gT (fV T) (hr.mono (by decide)) T.gU .nil (aA.passes rfl) (aa (pv 1) (aa (pv 2) ai))))) aU)
   (ah (pO (pv 0) aH Aa)
   (aj (aD (C_ yg (bM (pv 0) T.az T.gT (fV T) (hr.mono (by decide)) T.gU .nil (aA.passes rfl) (aa (pv 1) (aa (pv 2) ai)))))))),?_⟩
 obtain ⟨dx,t,e,tx⟩:=id rd
 refine ⟨_,rfl,r,_,_,rfl,e,rfl,r,b,p,rfl,rd,rfl,_,rfl,?_⟩
 rw [FZ,Np (by decide),<-eK]
 unfold mK at rok rer
 cases hd:nextIs (fun x=>x == 45) (cur b p) with
 | false=>
  simp only [hd,Bool.false_eq_true,if_false] at rok rer
  refine cC ⟨_,rfl,r,_,_,rfl,e,rfl,_,rfl,_,rfl,r,b,p,m,n,rfl,hm,hn,hm1,hn1,rd,fun x q1 H1 ex k1 rd1=>?_,fun er he=>rer er (by rw [he];rfl)⟩
  exact rok _ q1 H1 (by rw [ex];rfl) k1 rd1
 | true=>
  simp only [hd,if_true,Af] at rok rer
  refine cM ⟨_,rfl,r,_,_,_,_,rfl,e,T.az,T.aI,rfl,_,_,rfl,rfl,_,_,e,by show 2 < 1000;decide,?_⟩
  have k2:Kf (· ≠r) H (upd H r (bB A dx (.str t) (.int ((p + 1:Nat):Int)))):=Kf.put (by simp)
  have e2:upd H r (bB A dx (.str t) (.int ((p + 1:Nat):Int))) r=some (bB A dx (.str t) (.int ((p + 1:Nat):Int))):=af
  refine ⟨_,rfl,r,_,_,rfl,e2,rfl,_,rfl,_,rfl,r,b,p + 1,m,n,rfl,hm,hn,hm1,hn1,⟨dx,t,e2,tx⟩,fun x q1 H1 ex k1 rd1=>⟨_,rfl,?_⟩,fun er he=>(rer er (by rw [he];rfl)).step k2 fun b o h _=>h⟩
  exact rok _ q1 H1 (by rw [ex];rfl) (k2.trans k1) rd1
end Td
namespace Td
open PySem PySem.Spec PyProof.Rows L2 TL
open Tide (Bytes Cur isDigit isLetter nextIs Term Part Line)
open PM (aQ wordOf bh jj)
def sj(F:Addr->Prop)(H:Hp)(v:V)(x:Term):Prop:= ∃a,v= .ref a/\F a/\H a=some (.tup [.int x.times,.str (st x.name),.int (x.at_:Int)])/\x.count<=15
def kE(F:Addr->Prop)(H:Hp)(a:Addr)(l:List Term):Prop:=F a/\ ∃vs,H a=some (.lst vs)/\Paired (sj F H) vs l/\l.length<=8
def oz(F:Addr->Prop)(H:Hp)(v:V)(x:Part):Prop:= ∃a ta,v= .ref a/\F a/\H a=some (.tup [.int x.number,.ref ta])/\kE F H ta x.sum/\x.number.natAbs < 10 ^ 15
def qi(F:Addr->Prop)(H:Hp)(a:Addr)(l:List Part):Prop:=F a/\ ∃vs,H a=some (.lst vs)/\Paired (oz F H) vs l/\l.length<=8
def nM:Line->Bytes
 | .angle _ _ _ _=>PM.gY
 | .wave _ _ _ _ _ _=>PM.lq
 | .sum _ _ _=>PM.CL
def yV:Line->Int
 | .angle _ _ p _=>p
 | _=>0
def F7:Line->Int
 | .angle _ _ _ r=>r
 | _=>0
def eY:Line->List Term
 | .angle _ _ _ _=> []
 | .wave _ _ s _ _ _=>s
 | .sum _ _ s=>s
def EE:Line->Nat
 | .wave _ _ _ q _ _=>90 * q
 | _=>0
def bJ:Line->List Part
 | .wave _ _ _ _ fs _=>fs
 | _=> []
def dW:Line->List Part
 | .wave _ _ _ _ _ ss=>ss
 | _=> []
def iV(A:Ad)(F:Addr->Prop)(H:Hp)(v:V)(l:Line):Prop:= ∃a dx ta fa sa,v= .ref a/\F a/\
 H a=some (cY A dx (.str (st (nM l))) (.int (l.place:Int)) (.str (st l.name)) (.int (yV l)) (.int (F7 l)) (.ref ta) (.int (EE l:Int)) (.ref fa) (.ref sa))/\
 kE F H ta (eY l)/\qi F H fa (bJ l)/\qi F H sa (dW l)/\(yV l).natAbs < 10 ^ 15/\(F7 l).natAbs < 10 ^ 15/\EE l<=270
def iy(A:Ad)(F:Addr->Prop)(H:Hp)(a:Addr)(l:List Line):Prop:=F a/\ ∃vs,H a=some (.lst vs)/\Paired (iV A F H) vs l
theorem Paired.ja{α β:Type}{R S:α->β->Prop}(f: ∀a b,R a b->S a b): ∀ {l:List α} {m:List β},Paired R l m->Paired S l m
 | _,_,.nil=> .nil
 | _,_,.cons h t=> .cons (f _ _ h) (Paired.ja f t)
theorem Paired.at2{α β:Type}{R:α->β->Prop}{l:List α}{m:List β}(h:Paired R l m): ∀ {i:Nat} {a:α},l[i]?=some a-> ∃b,m[i]?=some b/\R a b:=by
 induction h with
 | nil=>intro i a e;simp at e
 | cons h _ ih=>
  intro i a e
  cases i with
  | zero=>cases e;exact ⟨_,rfl,h⟩
  | succ i=>exact ih e
theorem Paired.V5{α β:Type}{R:α->β->Prop}{l:List α}{m:List β}(h:Paired R l m): ∀ {i:Nat} {b:β},m[i]?=some b-> ∃a,l[i]?=some a/\R a b:=by
 induction h with
 | nil=>intro i a e;simp at e
 | cons h _ ih=>
  intro i a e
  cases i with
  | zero=>cases e;exact ⟨_,rfl,h⟩
  | succ i=>exact ih e
theorem Paired.PR{α β:Type}{R:α->β->Prop}{l:List α}{m:List β}{a:α}{b:β}(h:Paired R l m)(q:R a b):Paired R (l++ [a]) (m++ [b]):=by
 induction h with
 | nil=>exact .cons q .nil
 | cons h _ ih=>exact .cons h ih
section
variable {A:Ad} {F G:Addr->Prop} {H H':Hp} {a:Addr} {v:V}
theorem sj.keep{x:Term}(h:sj F H v x)(k:Kf F H H'):sj F H' v x:=let ⟨a,e,f,g,c⟩:=h;⟨a,e,f,k a _ f g,c⟩
theorem sj.wide{x:Term}(h:sj F H v x)(w: ∀b o,F b->H b=some o->G b):sj G H v x:=let ⟨a,e,f,g,c⟩:=h;⟨a,e,w a _ f g,g,c⟩
theorem kE.keep{l:List Term}(h:kE F H a l)(k:Kf F H H'):kE F H' a l:=let ⟨f,vs,g,p,z⟩:=h;⟨f,vs,k a _ f g,Paired.ja (fun _ _ t=>t.keep k) p,z⟩
theorem kE.wide{l:List Term}(h:kE F H a l)(w: ∀b o,F b->H b=some o->G b):kE G H a l:=let ⟨f,vs,g,p,z⟩:=h;⟨w a _ f g,vs,g,Paired.ja (fun _ _ t=>t.wide w) p,z⟩
theorem oz.keep{x:Part}(h:oz F H v x)(k:Kf F H H'):oz F H' v x:=let ⟨a,t,e,f,g,p,z⟩:=h;⟨a,t,e,f,k a _ f g,p.keep k,z⟩
theorem oz.wide{x:Part}(h:oz F H v x)(w: ∀b o,F b->H b=some o->G b):oz G H v x:=let ⟨a,t,e,f,g,p,z⟩:=h;⟨a,t,e,w a _ f g,g,p.wide w,z⟩
theorem qi.keep{l:List Part}(h:qi F H a l)(k:Kf F H H'):qi F H' a l:=let ⟨f,vs,g,p,z⟩:=h;⟨f,vs,k a _ f g,Paired.ja (fun _ _ t=>t.keep k) p,z⟩
theorem qi.wide{l:List Part}(h:qi F H a l)(w: ∀b o,F b->H b=some o->G b):qi G H a l:=let ⟨f,vs,g,p,z⟩:=h;⟨w a _ f g,vs,g,Paired.ja (fun _ _ t=>t.wide w) p,z⟩
theorem iV.keep{l:Line}(h:iV A F H v l)(k:Kf F H H'):iV A F H' v l:=let ⟨a,dx,ta,fa,sa,e,f,g,p,q,r,z⟩:=h;⟨a,dx,ta,fa,sa,e,f,k a _ f g,p.keep k,q.keep k,r.keep k,z⟩
theorem iV.wide{l:Line}(h:iV A F H v l)(w: ∀b o,F b->H b=some o->G b):iV A G H v l:=let ⟨a,dx,ta,fa,sa,e,f,g,p,q,r,z⟩:=h;⟨a,dx,ta,fa,sa,e,w a _ f g,g,p.wide w,q.wide w,r.wide w,z⟩
theorem iy.keep{l:List Line}(h:iy A F H a l)(k:Kf F H H'):iy A F H' a l:=let ⟨f,vs,g,p⟩:=h;⟨f,vs,k a _ f g,Paired.ja (fun _ _ t=>t.keep k) p⟩
theorem iy.wide{l:List Line}(h:iy A F H a l)(w: ∀b o,F b->H b=some o->G b):iy A G H a l:=let ⟨f,vs,g,p⟩:=h;⟨w a _ f g,vs,g,Paired.ja (fun _ _ t=>t.wide w) p⟩
end
def finish(z:List Term×Option UInt8×Cur):Except Nat ((List Term×Bytes)×Cur):=match z.2.1 with
 | none=> .ok ((z.1,[10]),z.2.2)
 | some x=>(Tide.lit (aQ x) z.2.2).map fun d=>((z.1,wordOf x),d)
def cU(may:Bytes)(c:Cur):Except Nat ((List Term×Bytes)×Cur):=Tide.sumIn may c >>= finish
def d_(may:Bytes)(f:Nat)(l:List Term)(c:Cur):Except Nat ((List Term×Bytes)×Cur):=
 (Tide.behind (Tide.mays l.length may) c >>= fun (z:Option UInt8×Cur)=>if z.1=some 43\/z.1=some 45 then Tide.blank z.2 >>= fun c=>Tide.terms may f (z.1 == some 45) l c else .ok (l,z.1,z.2)) >>= finish
theorem Ol(may:Bytes)(f:Nat)(minus:Bool)(l:List Term)(c:Cur):(Tide.terms may (f + 1) minus l c >>= finish)=(Tide.termIn minus c >>= fun (z:Term×Cur)=>d_ may f (l++ [z.1]) z.2):=by
 rw [Tide.terms]
 cases Tide.termIn minus c with
 | error e=>rfl
 | ok z=>rfl
theorem UT{may:Bytes}{f:Nat}{l:List Term}{c:Cur}{e:Nat}(h:jj (Tide.mays l.length may) c= .error e):d_ may f l c= .error e:=by
 unfold d_
 unfold jj at h
 cases hb:Tide.behind (Tide.mays l.length may) c with
 | error p=>
  rw [hb] at h
  cases h
  rfl
 | ok z=>
  obtain ⟨k,d⟩:=z
  rw [hb] at h
  cases k with
  | none=>cases h
  | some x=>
   have h2:(Tide.lit (aQ x) d).map (fun d=>(wordOf x,d))= .error e:=h
   cases hl:Tide.lit (aQ x) d with
   | ok d'=>rw [hl] at h2;cases h2
   | error p=>
    rw [hl] at h2
    cases h2
    show (if (some x=some 43\/some x=some 45) then Tide.blank d >>= _ else _) >>= finish=_
    by_cases h3:some x=some (43:UInt8)\/some x=some 45
    ·rw [if_pos h3]
     have:Tide.blank d= .error e:=by
      unfold Tide.blank
      rcases h3 with h3 | h3 <;> cases h3 <;> exact hl
     rw [this]
     rfl
    ·rw [if_neg h3]
     show finish (l,some x,d)=_
     unfold finish
     show (Tide.lit (aQ x) d).map _=_
     rw [hl]
     rfl
theorem RQ{may:Bytes}{f:Nat}{l:List Term}{c d:Cur}(h:jj (Tide.mays l.length may) c= .ok ([10],d)):d_ may f l c= .ok ((l,[10]),d):=by
 unfold d_
 unfold jj at h
 cases hb:Tide.behind (Tide.mays l.length may) c with
 | error p=>rw [hb] at h;cases h
 | ok z=>
  obtain ⟨k,d'⟩:=z
  rw [hb] at h
  cases k with
  | none=>cases h;rfl
  | some x=>
   have h2:(Tide.lit (aQ x) d').map (fun d=>(wordOf x,d))= .ok ([10],d):=h
   cases hl:Tide.lit (aQ x) d' with
   | error p=>rw [hl] at h2;cases h2
   | ok d''=>rw [hl] at h2;cases h2
theorem MD{may:Bytes}{c d:Cur}{w:Bytes}(h:jj may c= .ok (w,d)):w= [10]\/ ∃x ∈ may,w=wordOf x/\ ∃d',Tide.behind may c= .ok (some x,d')/\Tide.lit (aQ x) d'= .ok d:=by
 unfold jj at h
 cases hb:Tide.behind may c with
 | error p=>rw [hb] at h;cases h
 | ok z=>
  obtain ⟨k,d'⟩:=z
  rw [hb] at h
  cases k with
  | none=>cases h;exact .inl rfl
  | some x=>
   have h2:(Tide.lit (aQ x) d').map (fun d=>(wordOf x,d))= .ok (w,d):=h
   cases hl:Tide.lit (aQ x) d' with
   | error p=>rw [hl] at h2;cases h2
   | ok d''=>
    rw [hl] at h2
    cases h2
    refine .inr ⟨x,?_,rfl,d',rfl,hl⟩
    unfold Tide.behind at hb
    split at hb
    ·cases hb
    ·split at hb
     ·split at hb
      ·split at hb
       ·rename_i hc
        cases hb
        simpa using hc
       ·cases hb
      ·cases hb
     ·cases hb
theorem QO{may:Bytes}{f:Nat}{l:List Term}{c d d':Cur}{x:UInt8}(hx:x=43\/x=45)(h:Tide.behind (Tide.mays l.length may) c= .ok (some x,d'))(hl:Tide.lit (aQ x) d'= .ok d):
  d_ may f l c=(Tide.terms may f (x == 45) l d >>= finish):=by
 unfold d_
 rw [h]
 show (if (some x=some 43\/some x=some 45) then Tide.blank d' >>= _ else _) >>= finish=_
 rw [if_pos (by rcases hx with h | h <;> rw [h] <;> simp)]
 have:Tide.blank d'= .ok d:=by
  unfold Tide.blank
  rcases hx with h | h <;> subst h <;> exact hl
 rw [this]
 rcases hx with h | h <;> subst h <;> rfl
theorem Pw{may:Bytes}{f:Nat}{l:List Term}{c d d':Cur}{x:UInt8}(hx: ¬(x=43\/x=45))(h:Tide.behind (Tide.mays l.length may) c= .ok (some x,d'))(hl:Tide.lit (aQ x) d'= .ok d):
  d_ may f l c= .ok ((l,wordOf x),d):=by
 unfold d_
 rw [h]
 show (if (some x=some 43\/some x=some 45) then Tide.blank d' >>= _ else _) >>= finish=_
 rw [if_neg (by intro z;apply hx;rcases z with z | z <;> cases z <;> simp)]
 show finish (l,some x,d')=_
 unfold finish
 show (Tide.lit (aQ x) d').map _=_
 rw [hl]
 rfl
def AS(letter:UInt8)(later:Bytes)(n:Nat)(c:Cur):Except Nat ((Part×Bytes)×Cur):=
 Tide.number c >>= fun (z:Int×Cur)=>Tide.blank z.2 >>= fun c=>cU ((if n + 1 < 8 then [letter] else [])++later) c >>= fun (y:(List Term×Bytes)×Cur)=> .ok ((⟨z.1,y.1.1⟩,y.1.2),y.2)
def bz(letter:UInt8)(later:Bytes):Nat->Bytes->List Part->Cur->Except Nat ((List Part×Bytes)×Cur)
 | 0,w,l,c=> .ok ((l,w),c)
 | f + 1,w,l,c=>if w=wordOf letter then AS letter later l.length c >>= fun (y:(Part×Bytes)×Cur)=>bz letter later f y.1.2 (l++ [y.1.1]) y.2 else .ok ((l,w),c)
theorem dec_lt: ∀(d:Bytes) (a:Nat),d.all isDigit=true->d.foldl (fun (n:Nat) (x:UInt8)=>10 * n + (x.toNat - 48)) a < (a + 1) * 10 ^ d.length
 | [],a,_=>by simp
 | x::r,a,h=>by
  rw [List.all_cons,Y_] at h
  have hx:x.toNat - 48<=9:=by
   have:=h.1
   unfold isDigit at this
   simp at this
   lia
  have ih:=dec_lt r (10 * a + (x.toNat - 48)) h.2
  rw [List.foldl_cons,YU,Nat.pow_succ]
  refine YV ih ?_
  have:(10 * a + (x.toNat - 48) + 1)<=(a + 1) * 10:=by lia
  calc (10 * a + (x.toNat - 48) + 1) * 10 ^ r.length<=((a + 1) * 10) * 10 ^ r.length:=Nat.mul_le_mul_right _ this
   _=(a + 1) * (10 ^ r.length * 10):=by rw [Nat.mul_assoc,Nat.mul_comm 10]
theorem AL{m n:Nat}{c d:Cur}{x:Nat}(h:Tide.pointed m n c= .ok (x,d)):x < 10 ^ (m + n):=by
 cases h1:Tide.someDigits m c with
 | error e=>rw [ED h1] at h;cases h
 | ok z=>
  obtain ⟨ds,c1⟩:=z
  have da:=Eo h1
  have hd:Tide.decimal ds + 1<=10 ^ m:=by
   have:=dec_lt ds 0 da.1
   unfold Tide.decimal
   have h2:10 ^ ds.length<=10 ^ m:=Zu (by decide) da.2
   lia
  have key: ∀f:Nat,f < 10 ^ n->Tide.decimal ds * 10 ^ n + f < 10 ^ (m + n):=fun f hf=>by
   rw [Nat.pow_add]
   calc Tide.decimal ds * 10 ^ n + f < Tide.decimal ds * 10 ^ n + 10 ^ n:=by lia
    _=(Tide.decimal ds + 1) * 10 ^ n:=by rw [Nat.add_mul,Nat.one_mul]
    _<=10 ^ m * 10 ^ n:=Nat.mul_le_mul_right _ hd
  cases hp:nextIs (fun x=>x == 46) c1 with
  | false=>
   rw [Gz h1 hp] at h
   cases h
   refine key _ ?_
   simp [Tide.decimal]
   exact Nat.pos_of_ne_zero (by simp)
  | true=>
   rw [Dm h1 hp] at h
   cases h2:Tide.someDigits n c1.on with
   | error e=>rw [h2] at h;cases h
   | ok z=>
    obtain ⟨f,c2⟩:=z
    rw [h2] at h
    cases h
    have fa:=Eo h2
    refine key _ ?_
    have h3:=dec_lt f 0 fa.1
    rw [Nat.zero_add,Nat.one_mul] at h3
    have h4:10 ^ f.length * 10 ^ (n - f.length)=10 ^ n:=by rw [<-Nat.pow_add];congr 1;have:=fa.2;lia
    have h5:0 < 10 ^ (n - f.length):=Nat.pos_of_ne_zero (by simp)
    calc Tide.decimal f * 10 ^ (n - f.length) < 10 ^ f.length * 10 ^ (n - f.length):=Nat.mul_lt_mul_of_pos_right h3 h5
     _=10 ^ n:=h4
theorem Ik{m n:Nat}{c d:Cur}{x:Int}(h:mK m n c= .ok (x,d)):x.natAbs < 10 ^ (m + n):=by
 unfold mK at h
 cases h1:Tide.pointed m n (if nextIs (fun x=>x == 45) c=true then c.on else c) with
 | error e=>rw [h1] at h;cases h
 | ok z=>
  obtain ⟨y,c1⟩:=z
  have:=AL h1
  rw [h1] at h
  have h2:(if nextIs (fun x=>x == 45) c=true then -(y:Int) else (y:Int))=x:=congrArg Prod.fst (Except.ok.inj h)
  split at h2 <;> omega
theorem C8{c d:Cur}{x:Int}(h:Tide.number c= .ok (x,d)):x.natAbs < 10 ^ 15:=by
 rw [CY] at h
 exact Ik h
theorem jn.kf{K:W.Frag}{F:Addr->Prop}{H H':Hp}{a:Addr}{xs:List V}(h:jn K H a xs)(k:Kf F H H')(hf: ∀o,H a=some o->(∀C dx fs,o≠ .ins C dx fs)->(∀ys,o≠ .lst ys)->F a):jn K H' a xs:=by
 rcases h with (h | ⟨o,h⟩) | h
 ·exact .inl (.inl (k _ _ (hf _ h (fun _ _ _ z=>nomatch z) (fun _ z=>nomatch z)) h))
 ·exact .inl (.inr ⟨o,k _ _ (hf _ h (fun _ _ _ z=>nomatch z) (fun _ z=>nomatch z)) h⟩)
 ·exact .inr h
theorem jn.Ym{K:W.Frag}{H H':Hp}{a r ta C dx:Addr}{xs ys:List V}{fs:List (Str×V)}(h:jn K H a xs)(k:Kf (fun b=>b≠r/\b≠ta) H H')(er:H r=some (.ins C dx fs))(et:H ta=some (.lst ys)):jn K H' a xs:=
 Td.jn.kf h k fun o e h1 h2=>⟨fun z=>by rw [z,er] at e;cases e;exact h1 _ _ _ rfl,fun z=>by rw [z,et] at e;cases e;exact h2 _ rfl⟩
variable {P:Program} {w:World} {K:W.Frag} {mg:Str->Option Value} {base:Heap} {A:Ad}
theorem D3:ay ["self","word","place","name"] ["self","word","place","name"] (aq sC):=jv rfl (by decide +kernel)
def DI(K:W.Frag)(A:Ad):Sp:=fun vs H Q _=> ∃(a dx:Addr) (v1 v2 v3:V),vs= [.ref a,v1,v2,v3]/\H a=some (.ins A.aM dx [])/\ ∀ta fa sa H',H ta=none->H fa=none->H sa=none->ta≠fa->ta≠sa->fa≠sa->Kf (· ≠a) H H'->H' a=some (cY A dx v1 v2 v3 (.int 0) (.int 0) (.ref ta) (.int 0) (.ref fa) (.ref sa))->H' ta=some (.lst [])->H' fa=some (.lst [])->H' sa=some (.lst [])->Q .dh H'
theorem DV(T:Txt K mg A):bw P w K mg base (lA) 1 A.fk A.i8 ["self","word","place","name"] (DI K A):=by
 refine oq T.oY D3 fun vs H Q E h Rz kz=>?_
 obtain ⟨a,dx,v1,v2,v3,rfl,ha,q⟩:=h
 refine kz rfl fun cdv Ar outer s hr=>?_
 refine ⟨_,(ah (bG (pv 0) (pv 1) rfl)
   (ah (bG (pv 0) (pv 2) rfl)
   (ah (bG (pv 0) (pv 3) rfl)
   (ah (bG (pv 0) aH rfl)
   (ah (bG (pv 0) aH rfl)
   (ah (bG (pv 0) (dJ ai) rfl)
   (ah (bG (pv 0) aH rfl)
   (ah (bG (pv 0) (dJ ai) rfl)
   (aj (bG (pv 0) (dJ ai) rfl)))))))))),?_⟩
 refine ⟨_,rfl,_,rfl,a,_,dx,_,rfl,ha,T.aE,T.cu,(by show 0 < 1000;decide),_,rfl,_,rfl,a,_,dx,_,rfl,af,T.aE,T.g9,(by show 1 < 1000;decide),_,rfl,_,rfl,a,_,dx,_,rfl,af,T.aE,T.bU,(by show 2 < 1000;decide),_,rfl,a,_,dx,_,rfl,af,T.aE,T.jN,(by show 3 < 1000;decide),_,rfl,a,_,dx,_,rfl,af,T.aE,T.kX,(by show 4 < 1000;decide),?_⟩
 simp only [b8]
 have k1:Kf (· ≠a) H (upd H a (.ins A.aM dx (aY "rate" (.int 0) (aY "phase" (.int 0) (aY "name" v3 (aY "place" v2 (aY "word" v1 []))))))):=Kf.put (by simp)
 have e1:upd H a (.ins A.aM dx (aY "rate" (.int 0) (aY "phase" (.int 0) (aY "name" v3 (aY "place" v2 (aY "word" v1 [])))))) a=some (.ins A.aM dx (aY "rate" (.int 0) (aY "phase" (.int 0) (aY "name" v3 (aY "place" v2 (aY "word" v1 [])))))):=af
 have n1: ∀b,b≠a->upd H a (.ins A.aM dx (aY "rate" (.int 0) (aY "phase" (.int 0) (aY "name" v3 (aY "place" v2 (aY "word" v1 [])))))) b=H b:=fun b hb=>ak hb
 generalize upd H a (.ins A.aM dx (aY "rate" (.int 0) (aY "phase" (.int 0) (aY "name" v3 (aY "place" v2 (aY "word" v1 []))))))=H1 at k1 e1 n1
 refine ⟨YW _,fun ta hta=>⟨_,rfl,a,_,dx,_,rfl,(by rw [ak (ao e1 hta)];exact e1),T.aE,T.cB,(by show 5 < 1000;decide),?_⟩⟩
 have na:a≠ta:=ao e1 hta
 refine ⟨_,rfl,a,_,dx,_,rfl,af,T.aE,T.kR,(by show 6 < 1000;decide),?_⟩
 simp only [b8]
 have k2:Kf (· ≠a) H (upd (upd H1 ta (.lst [])) a (.ins A.aM dx (aY "turn" (.int 0) (aY "terms" (.ref ta) (aY "rate" (.int 0) (aY "phase" (.int 0) (aY "name" v3 (aY "place" v2 (aY "word" v1 []))))))))):=k1.trans ((Kf.new hta).trans (Kf.put (by simp)))
 have e2:upd (upd H1 ta (.lst [])) a (.ins A.aM dx (aY "turn" (.int 0) (aY "terms" (.ref ta) (aY "rate" (.int 0) (aY "phase" (.int 0) (aY "name" v3 (aY "place" v2 (aY "word" v1 [])))))))) a=_:=af
 have t2:upd (upd H1 ta (.lst [])) a (.ins A.aM dx (aY "turn" (.int 0) (aY "terms" (.ref ta) (aY "rate" (.int 0) (aY "phase" (.int 0) (aY "name" v3 (aY "place" v2 (aY "word" v1 [])))))))) ta=some (.lst []):=by rw [ak (Ne.symm na),af]
 have n2: ∀b,b≠a->b≠ta->upd (upd H1 ta (.lst [])) a (.ins A.aM dx (aY "turn" (.int 0) (aY "terms" (.ref ta) (aY "rate" (.int 0) (aY "phase" (.int 0) (aY "name" v3 (aY "place" v2 (aY "word" v1 [])))))))) b=H b:=fun b hb hc=>by rw [ak hb,ak hc];exact n1 b hb
 generalize upd (upd H1 ta (.lst [])) a (.ins A.aM dx (aY "turn" (.int 0) (aY "terms" (.ref ta) (aY "rate" (.int 0) (aY "phase" (.int 0) (aY "name" v3 (aY "place" v2 (aY "word" v1 []))))))))=H2 at k2 e2 t2 n2
 refine ⟨YW _,fun fa Vf=>⟨_,rfl,a,_,dx,_,rfl,(by rw [ak (ao e2 Vf)];exact e2),T.aE,T.dO,(by show 7 < 1000;decide),?_⟩⟩
 have nf:a≠fa:=ao e2 Vf
 have nt:ta≠fa:=ao t2 Vf
 refine ⟨YW _,fun sa hsa=>⟨_,rfl,a,_,dx,_,rfl,(by rw [ak (ao af hsa),af]),T.aE,T.gr,(by show 8 < 1000;decide),?_⟩⟩
 have ns:a≠sa:=ao af hsa
 have nfs:fa≠sa:=fun z=>by rw [<-z,ak (Ne.symm nf),af] at hsa;cases hsa
 have nts:ta≠sa:=fun z=>by rw [<-z,ak (Ne.symm na),ak nt,t2] at hsa;cases hsa
 rw [ak (Ne.symm ns),ak (Ne.symm nfs)] at hsa
 refine q ta fa sa _ ?_ ?_ ?_ nt nts nfs ?_ af ?_ ?_ ?_
 ·rw [<-n1 ta (Ne.symm na)];exact hta
 ·rw [<-n2 fa (Ne.symm nf) (Ne.symm nt)];exact Vf
 ·rw [<-n2 sa (Ne.symm ns) (Ne.symm nts)];exact hsa
 ·refine k2.trans ((Kf.new Vf).trans ((Kf.put (by simp)).trans ((Kf.new ?_).trans (Kf.put (by simp)))))
  rw [ak (Ne.symm ns),ak (Ne.symm nfs)]
  exact hsa
 ·rw [ak (Ne.symm na),ak nts,ak (Ne.symm na),ak nt]
  exact t2
 ·rw [ak (Ne.symm nf),ak nfs,ak (Ne.symm nf),af]
 ·rw [ak (Ne.symm ns),af]
theorem F3:ay ["reader"] ["reader"] (aq uH):=jv rfl (by decide +kernel)
def EK(K:W.Frag)(A:Ad):Sp:=fun vs H Q E=> ∃r b p,vs= [.ref r]/\gW A H r b p/\Reads A E (· ≠r) H r b p Tide.number (fun x q H'=>Q (.int x) H')
theorem sH(T:Txt K mg A):bw P w K mg base (B8 P w) 6 A.iL A.j4 ["reader"] (EK K A):=by
 refine K5 T.iS F3 fun vs H Q E h Rz kz=>?_
 obtain ⟨r,b,p,rfl,rd,rok,rer⟩:=h
 refine kz rfl fun cdv Ar outer s hr=>?_
 refine ⟨_,(aj (aD (bM (pv 0) T.az T.jR (jq T) (hr.mono (by decide)) T.jK .nil (aA.passes rfl) (aa (aC rfl T.qX) (aa (aC rfl T.qS) ai))))),?_⟩
 obtain ⟨dx,t,e,tx⟩:=id rd
 refine ⟨_,rfl,r,_,_,rfl,e,rfl,r,b,p,3,12,rfl,by decide,by decide,by decide,by decide,rd,fun x q1 H1 ex k1 rd1=>?_,fun er he=>rer er (by rw [CY];exact he)⟩
 exact rok x q1 H1 (by rw [CY];exact ex) k1 rd1
theorem Qm:wv PM.iX= [.str "1 ",.str "2 ",.str "3 ",.str "4 ",.str "5 ",.str "6 ",.str "7 ",.str "8 ",.str "9 ",.str "10 ",.str "11 ",.str "12 ",.str "13 ",.str "14 ",.str "15 "]:=by decide +kernel
theorem PB: ∀w ∈ PM.iX,intText? (Txt.rstrip (st w))=some ((Tide.decimal w.dropLast:Nat):Int)/\(Txt.rstrip (st w)).length<=640/\(st w).length<=640/\Tide.decimal w.dropLast<=15:=by decide +kernel
theorem LW:goodW PM.iX=true:=by decide +kernel
theorem CZ{ws:List Bytes}{c d:Cur}{w:Bytes}(h:PM.oneOf ws c= .ok (w,d)):w ∈ ws:=by
 have key: ∀(f:Nat) (left:List Bytes) (k:Nat) (c:Cur),(∀v ∈ left,v ∈ ws)->PM.ly f left k c= .ok (w,d)->w ∈ ws:=by
  intro f
  induction f with
  | zero=>intro left k c _ h;cases h
  | succ f ih=>
   intro left k c hl h
   rw [PM.ly] at h
   cases hf:left.filter (fun w=>decide (w[k]?=c.next)) with
   | nil=>rw [hf] at h;cases h
   | cons v r=>
    rw [hf] at h
    dsimp only at h
    have hm: ∀u ∈ v::r,u ∈ ws:=fun u hu=>hl u (Zp.mp (by rw [hf];exact hu)).1
    split at h
    ·cases h
     exact hm _ YN
    ·exact ih _ _ _ hm h
 exact key 16 ws 0 c (fun _ h=>h) h
theorem QF(o:Option UInt8)(h:o.any isDigit=true): ∃x,o=some x/\(x=48\/(49<=x.toNat/\x.toNat<=57)):=by
 cases o with
 | none=>cases h
 | some x=>
  have h1:isDigit x=true:=h
  unfold isDigit at h1
  simp at h1
  refine ⟨x,rfl,?_⟩
  by_cases hx:x.toNat=48
  ·left
   exact UInt8.toNat_inj.mp hx
  ·right
   lia
def xK(m:Bool):Int:=if m=true then -1 else 1
theorem Q9(m:Bool)(k:Nat)(n:Bytes)(p:Nat):xK m * (k:Int)=Term.times ⟨m,k,n,p⟩:=by
 unfold xK Term.times
 cases m <;> simp
theorem rO:ay ["reader","sign","count","place"] ["reader","sign"] (aq yj):=jv rfl (by decide +kernel)
def lU(K:W.Frag)(A:Ad):Sp:=fun vs H Q E=> ∃r b p,∃m:Bool,vs= [.ref r,.int (xK m)]/\gW A H r b p/\Reads A E (· ≠r) H r b p (Tide.termIn m) (fun x q H'=> ∀a,H a=none->H' a=some (.tup [.int x.times,.str (st x.name),.int (x.at_:Int)])->x.count<=15->Q (.ref a) H')
theorem Bx(T:Txt K mg A):bw P w K mg base (B8 P w) 4 A.kZ A.n8 ["reader","sign"] (lU K A):=by
 refine K5 T.oj rO fun vs H Q E h Rz kz=>?_
 obtain ⟨r,b,p,m,rfl,rd,rok,rer⟩:=h
 refine kz rfl fun cdv Ar outer s hr=>?_
 refine ⟨_,(ah (aF (i:=2) rO.nd rfl (Or.inl rfl) aH)
   (ah (b6 (oA (CB PySem.F.plainAttrs_str PySem.F.slot_str_isdigit PySem.F.type_str_isdigit Fw (d8 (pv 0) T.az T.dw (cQ T) (hr.mono (by decide)) T.dj .nil aL))) (aj (aF (i:=2) rO.nd rfl (Or.inl rfl) (vF wz rfl T.MT (by decide +kernel) (aa (CB PySem.F.plainAttrs_str PySem.F.slot_str_rstrip PySem.F.type_str_rstrip PZ (bM (pv 0) T.az T.aJ (aG T) (hr.mono (by decide)) T.aK .nil (aA.passes rfl) (aa (aC rfl T.Gb) ai))) ai)))) aU)
   (ah (aF (i:=3) rO.nd rfl (Or.inl rfl) (au (pv 0) rfl))
   (aj (aD (gX (aa (aR cg (pv 1) (pv 2)) (aa (d8 (pv 0) T.az T.nu (mD T) (hr.mono (by decide)) T.ng .nil (aA.passes rfl)) (aa (pv 3) ai))))))))),?_⟩
 obtain ⟨dx,t,e,tx⟩:=id rd
 simp only [PJ.Pe] at rok rer
 have rest: ∀(k q1:Nat) (H1:Hp),k<=15->Kf (· ≠r) H H1->gW A H1 r b q1->(if nextIs (fun (x:UInt8)=>decide (49<=x.toNat) && decide (x.toNat<=57)) (cur b p)=true then PM.countIn (cur b p) else .ok (1,cur b p))= .ok (k,cur b q1)->
   AJ (DL (Cu K (cK 0) "place") (mR 3)) (BI (LI (bC (Ep (rI (fun i j=>Bg i/\Bg j) fun i j=> .int (i * j)) (cK 1) (cK 2)) (bC (Lu A.bA "read_name" (rm K A) [] E (cK 0) mQ) (bC (cK 3) mQ))))) {nx:=fun _ H'=>Q .dh H',rt:=Q} [some (.ref r),some (.int (xK m)),some (.int (k:Int)),none] H1:=fun k q1 H1 hk k1 rd1 ec=>by
  obtain ⟨dx1,t1,e1,tx1⟩:=id rd1
  have b1:Bt 2 (xK m):=by unfold Bt xK;cases m <;> decide
  have b2:Bt 5 (k:Int):=by unfold Bt;lia
  refine ⟨_,rfl,_,_,_,_,_,rfl,e1,T.az,T.aI,rfl,_,rfl,_,rfl,_,_,rfl,rfl,⟨b1.bg,b2.bg⟩,_,rfl,r,_,_,rfl,e1,rfl,r,b,q1,rfl,rd1,fun n q2 H2 en k2 rd2=>⟨_,rfl,(by show 3<=sizeLine;decide),fun a ha=>?_⟩,fun er he=>(rer er (by rw [ec];show Tide.nameIn (cur b q1) >>= _=_;rw [he];rfl)).step k1 fun b o h _=>h⟩
  have na:H a=none:=by
   by_cases z:a=r
   ·subst z
    obtain ⟨_,_,e2,_⟩:=rd2
    rw [e2] at ha
    cases ha
   ·cases hh:H a with
    | none=>rfl
    | some o=>
     rw [(k1.trans k2) a o z hh] at ha
     cases ha
  refine rok ⟨m,k,n,q1⟩ q2 _ (by rw [ec];show Tide.nameIn (cur b q1) >>= _=_;rw [en];rfl) ((k1.trans k2).trans (Kf.new ha)) ?_ a na ?_ hk
  ·obtain ⟨dx2,t2,e2,tx2⟩:=rd2
   exact ⟨dx2,t2,by rw [ak (ao e2 ha)];exact e2,tx2⟩
  ·rw [af,<-Q9]
 refine ⟨_,rfl,r,_,_,rfl,e,rfl,r,b,p,rfl,rd,rfl,_,rfl,rfl,trivial,_,rfl,?_⟩
 rw [L8]
 cases hd:(cur b p).next.any isDigit with
 | false=>
  refine cM (rest 1 p H (by decide) Kf.refl rd ?_)
  rw [if_neg]
  rw [eK]
  intro z
  rw [Pc (q:=isDigit) (fun x hx=>by unfold isDigit;simp at hx ⊢;lia) z] at hd
  cases hd
 | true=>
  obtain ⟨x,hx,h48⟩:=QF _ hd
  refine cC ⟨_,rfl,r,_,_,rfl,e,rfl,r,A.sG,b,p,PM.iX,rfl,rd,by rw [Qm];exact T.Su.sq,LW,fun w q1 H1 ew k1 rd1=>?_,fun er he=>?_⟩
  ·have ct:=PB w (CZ ew)
   refine ⟨rfl,_,rfl,rfl,(by rw [sizeLine_eq];have:=ct.2.2.1;lia),_,_,rfl,ct.1,ct.2.1,?_⟩
   refine rest _ q1 H1 ct.2.2.2 k1 rd1 ?_
   rcases h48 with h48 | h48
   ·exfalso
    have:PM.oneOf PM.iX (cur b p)= .error (cur b p).at_:=PM.vL (by rw [hx,h48];decide +kernel)
    rw [this] at ew
    cases ew
   ·rw [if_pos (by rw [eK,hx];simp [h48.1,h48.2])]
    have:=PM.Di hx h48.1 h48.2
    rw [ew] at this
    exact this.symm
  ·rcases h48 with h48 | h48
   ·have:PM.oneOf PM.iX (cur b p)= .error (cur b p).at_:=PM.vL (by rw [hx,h48];decide +kernel)
    rw [this] at he
    cases he
    refine rer _ ?_
    rw [if_neg (by rw [eK,hx,h48];decide)]
    show Tide.nameIn (cur b p) >>= _=_
    unfold Tide.nameIn
    rw [eK,hx,h48]
    rfl
   ·refine rer _ ?_
    rw [if_pos (by rw [eK,hx];simp [h48.1,h48.2])]
    have:=PM.Di hx h48.1 h48.2
    rw [he] at this
    rw [<-this]
    rfl
def De(may:Bytes):Bool:=decide may.Nodup && decide ((43:UInt8) ∉ may) && decide ((45:UInt8) ∉ may) && decide (([43,45]++may).Nodup) && goodW (bh may) && goodW (bh ([43,45]++may))
theorem K3:(Str.ofString " + ":Str)=st (wordOf 43):=by decide +kernel
theorem Ub:(Str.ofString " - ":Str)=st (wordOf 45):=by decide +kernel
theorem QM(a b:List Bytes):wv (a++b)=wv a++wv b:=YT
theorem WO(w:Bytes)(ws:List Bytes):Xu (.str (st w)) (wv ws)=ws.contains w:=by
 unfold Xu wv
 rw [List.any_map,List.contains_eq_any_beq]
 congr 1
 funext y
 show M0 (.str (st y)) (.str (st w))=(w == y)
 show (st y == st w)=(w == y)
 by_cases h:w=y
 ·subst h
  simp
 ·rw [YY.mpr h,YY.mpr (fun z=>h (sD z).symm)]
theorem T7(ws:List Bytes):(wv ws).all qE=true:=by
 unfold wv
 rw [List.all_map]
 exact List.all_eq_true.mpr fun _ _=>rfl
theorem FN(ws:List Bytes):(wv ws).length=ws.length:=YI _
theorem Rc{x y:UInt8}(h:wordOf x=wordOf y):x=y:=by
 unfold wordOf at h
 injection h with _ h
 injection h
theorem yZ{may:Bytes}{x:UInt8}:wordOf x ∈ bh may ↔ x ∈ may:=by
 unfold bh
 constructor
 ·intro h
  rcases Zb.mp h with h | h
  ·obtain ⟨y,hy,e⟩:=Zf.mp h
   rw [<-Rc e]
   exact hy
  ·have:=YO.mp h
   unfold wordOf at this
   cases this
 ·intro h
  exact Zi _ (Ze h)
theorem Wg{may:Bytes}{l:List Term}(h:De may=true):(Tide.mays l.length may).Nodup/\goodW (bh (Tide.mays l.length may))=true:=by
 unfold De at h
 simp only [Y_,decide_eq_true_eq] at h
 obtain ⟨⟨⟨⟨⟨h1,_⟩,_⟩,h2⟩,h3⟩,h4⟩:=h
 unfold Tide.mays
 split
 ·exact ⟨h2,h4⟩
 ·exact ⟨h1,h3⟩
structure su(A:Ad)(H:Hp)(r ta:Addr)(b:Bytes)(H1:Hp)(l:List Term)(q:Nat):Prop where
 kf:Kf (fun c=>c≠r/\c≠ta) H H1
 rd:gW A H1 r b q
 ts: ∃vs,H1 ta=some (.lst vs)/\Paired (sj (fun c=>H c=none) H1) vs l
 len:l.length<=8
theorem Vg{H H1:Hp}{r ta a:Addr}{o1 o2:HO}(k:Kf (fun c=>c≠r/\c≠ta) H H1)(h1:H1 r=some o1)(h2:H1 ta=some o2)(ha:H1 a=none):H a=none:=by
 cases hh:H a with
 | none=>rfl
 | some o=>
  rw [k a o ⟨(fun z=>by rw [z,h1] at ha;cases ha),(fun z=>by rw [z,h2] at ha;cases ha)⟩ hh] at ha
  cases ha
theorem qA:ay ["reader","terms","ends","sign","more","behind"] ["reader","terms","ends"] (aq Ah):=jv rfl (by decide +kernel)
def Dg(K:W.Frag)(A:Ad):Sp:=fun vs H Q E=> ∃r ta ea b p may,vs= [.ref r,.ref ta,.ref ea]/\gW A H r b p/\H ta=some (.lst [])/\jn K H ea (wv (bh may))/\De may=true/\Reads A E (fun c=>c≠r/\c≠ta) H r b p (cU may) (fun x q H'=>su A H r ta b H' x.1 q->x.1.length<=8->Q (.str (st x.2)) H')
theorem ua(T:Txt K mg A):bw P w K mg base (B8 P w) 5 A.nI A.p6 ["reader","terms","ends"] (Dg K A):=by
 refine K5 T.lH qA fun vs H Q E h Rz kz=>?_
 obtain ⟨r,ta,ea,b,p,may,rfl,rd,eta,hea,hmay,rok,rer⟩:=h
 refine kz rfl fun cdv Ar outer s hr=>?_
 refine ⟨_,(ah (aF (i:=3) qA.nd rfl (Or.inl rfl) aH)
   (ah (b6 (aO fQ (d8 (pv 0) T.az T.dw (cQ T) (hr.mono (by decide)) T.dj .nil aL) cV (aT _)) (ah (cJ (bM (pv 0) T.az T.aJ (aG T) (hr.mono (by decide)) T.aK .nil (aA.passes rfl) (aa (gX (aa cV ai)) ai)))
   (aj (aF (i:=3) qA.nd rfl (Or.inl rfl) (C_ yg aH)))) aU)
   (ah (cJ (qw PySem.F.plainAttrs_list PySem.F.slot_list_append PySem.F.type_list_append nZ (pv 1) (aa (aB (Bx T) (hr.mono (by decide)) rfl T.tS T.oj.kp T.Dc .nil (aA.passes rfl) (aa (pv 0) (aa (pv 3) ai))) ai)))
   (aj (ow fG (oA Ji) (ah (aF (i:=4) qA.nd rfl (Or.inl rfl) (u9 (aO Il (bN jA (by rfl) T.xu PySem.boot_len (aa (pv 1) ai)) (aC rfl T.vQ) (aT _)) (gX (aa (aC rfl T.KQ) (aa (aC rfl T.J7) ai))) (gX ai)))
   (ah (aF (i:=5) qA.nd rfl (Or.inl rfl) (bM (pv 0) T.az T.aJ (aG T) (hr.mono (by decide)) T.aK .nil (aA.passes rfl) (aa (aR (UE.or Pr) (pv 4) (pv 2)) ai)))
   (ah (b6 (aO PN (pv 5) (pv 2) (by with_unfolding_all rfl)) (aj (aD (pv 5))) aU)
   (aj (cJ (qw PySem.F.plainAttrs_list PySem.F.slot_list_append PySem.F.type_list_append nZ (pv 1) (aa (aB (Bx T) (hr.mono (by decide)) rfl T.tS T.oj.kp T.Dc .nil (aA.passes rfl) (aa (pv 0) (aa (u9 (aO fQ (pv 5) (aC rfl T.KQ) (aT _)) aH (C_ yg aH)) ai))) ai)))))))))))),?_⟩
 obtain ⟨dx,t,e,tx⟩:=id rd
 have nrt:r≠ta:=yX e eta (by intro z;cases z)
 have hm:=hmay
 unfold De at hm
 simp only [Y_,decide_eq_true_eq] at hm
 obtain ⟨⟨⟨⟨⟨hm1,hm2⟩,hm3⟩,hm4⟩,hm5⟩,hm6⟩:=hm
 have first: ∀(neg:Bool) (q1:Nat) (H1:Hp) (v4 v5:Option V),su A H r ta b H1 [] q1->cU may (cur b p)=(Tide.terms may 8 neg [] (cur b q1) >>= finish)->
   AJ (FL (Wy K "list" Bd (cK 1) (bC (zU (lU K A) [] E (bC (cK 0) (bC (cK 3) mQ))) mQ)))
    (Fi (tB (tC (.bl true)))
     (AJ (DL (WD (xj (Ep (Ra fun i j=> .bl (decide (i < j))) (Vo (fun xs H Q=> ∃p ys,xs= [.ref p]/\(b_ K H p ys\/jn K H p ys)/\Q (.int ys.length) H) (bC (cK 1) mQ)) (tC (.int 8)))) (LI (bC (tC (.str " + ")) (bC (tC (.str " - ")) mQ))) (LI mQ)) (mR 4))
     (AJ (DL (Lu A.bA "read_one_of" (dY K A) [] E (cK 0) (bC (Ep (fun x y H Q=>(∃a b ys,x= .ref a/\y= .ref b/\jn K H a []/\jn K H b ys/\Q (.ref b) H)\/Tn K x y H Q) (cK 4) (cK 2)) mQ)) (mR 5))
     (AJ (Sa (xj (Ep (Xx K false) (cK 5) (cK 2))) (BI (cK 5)) IW)
      (FL (Wy K "list" Bd (cK 1) (bC (zU (lU K A) [] E (bC (cK 0) (bC (WD (xj (Ep U8 (cK 5) (tC (.str " + ")))) (tC (.int 1)) (Xw (rU fun i=> .int (-i)) (tC (.int 1)))) mQ))) mQ)))))))
    {nx:=fun _ H'=>Q .dh H',rt:=Q} [some (.ref r),some (.ref ta),some (.ref ea),some (.int (xK neg)),v4,v5] H1:=fun neg q1 H1 v4 v5 S1 es=>by
  have one: ∀(l:List Term) (m:Bool) (q2:Nat) (H2:Hp) (X:Hp->Prop),su A H r ta b H2 l q2->l.length < 8->cU may (cur b p)=(Tide.terms may (8 - l.length) m l (cur b q2) >>= finish)->
    (∀(x:Term) (q3:Nat) (H3:Hp),su A H r ta b H3 (l++ [x]) q3->cU may (cur b p)=d_ may (8 - (l++ [x]).length) (l++ [x]) (cur b q3)->X H3)->
    lU K A [.ref r,.int (xK m)] H2 (fun x H3=> ∃la xs y,V.ref ta= .ref la/\ [x]= [y]/\H3 la=some (.lst xs)/\xs.length < sizeLine/\X (upd H3 la (.lst (xs++ [y])))) E:=fun l m q2 H2 X S2 hl es2 hX=>by
   obtain ⟨dx2,t2,e2,tx2⟩:=id S2.rd
   obtain ⟨vs,ets,pts⟩:=S2.ts
   have estep:cU may (cur b p)=(Tide.termIn m (cur b q2) >>= fun (z:Term×Cur)=>d_ may (8 - (l.length + 1)) (l++ [z.1]) z.2):=by
    rw [es2,show 8 - l.length=(8 - (l.length + 1)) + 1 by lia,Ol]
   refine ⟨r,b,q2,m,rfl,S2.rd,fun x q3 H3 ex k3 rd3 a na ha hc=>?_,fun er he=>(rer er (by rw [estep,he];rfl)).step S2.kf fun b o h _=>h.1⟩
   have e3:H3 ta=some (.lst vs):=k3 ta _ (Ne.symm nrt) ets
   refine ⟨ta,vs,.ref a,rfl,rfl,e3,?_,?_⟩
   ·have:vs.length=l.length:=Paired.length pts
    rw [this,sizeLine_eq]
    lia
   have nat:a≠ta:=fun z=>by rw [z,ets] at na;cases na
   have nar:a≠r:=fun z=>by rw [z,e2] at na;cases na
   have nHa:H a=none:=Vg S2.kf e2 ets na
   obtain ⟨dx3,t3,e3r,tx3⟩:=id rd3
   refine hX x q3 _ ⟨S2.kf.trans ((k3.mono fun b o h _=>h.1).trans (Kf.put (by simp))),⟨dx3,t3,by rw [ak nrt];exact e3r,tx3⟩,⟨vs++ [.ref a],af,Paired.PR (Paired.ja (fun v y h=>?_) pts) ⟨a,rfl,nHa,by rw [ak nat];exact ha,hc⟩⟩,by rw [YH];show l.length + 1<=8;lia⟩ ?_
   ·obtain ⟨c,ec,fc,gc,cc⟩:=h
    have ncr:c≠r:=fun z=>by rw [z,e] at fc;cases fc
    have nct:c≠ta:=fun z=>by rw [z,eta] at fc;cases fc
    exact ⟨c,ec,fc,by rw [ak nct];exact k3 c _ ncr gc,cc⟩
   ·rw [estep,ex,YH]
    rfl
  refine ⟨_,rfl,.inl ⟨rfl,_,b_.of S1.ts.choose_spec.1⟩,_,rfl,_,rfl,one [] neg q1 H1 _ S1 (by decide) es fun x q2 H2 S2 es2=>?_⟩
  refine ⟨fun m σ H'=> ∃(l:List Term) (q3:Nat) (v4 v5:Option V),m=8 - l.length/\σ= [some (.ref r),some (.ref ta),some (.ref ea),some (.int (xK neg)),v4,v5]/\su A H r ta b H' l q3/\cU may (cur b p)=d_ may (8 - l.length) l (cur b q3),⟨_,_,q2,v4,v5,rfl,rfl,S2,es2⟩,?_⟩
  clear S2 es2 H2 q2 x S1 es q1 H1
  rintro m σ H3 ⟨l,q3,v4,v5,rfl,rfl,S3,es3⟩
  refine ⟨true,rfl,cC ⟨fun σ' H'=> ∃(l':List Term) (q4:Nat) (v4 v5:Option V),l.length < 8/\l'.length=l.length + 1/\σ'= [some (.ref r),some (.ref ta),some (.ref ea),some (.int (xK neg)),v4,v5]/\su A H r ta b H' l' q4/\cU may (cur b p)=d_ may (8 - l'.length) l' (cur b q4),
   fun σ' H' ⟨l',q4,v4,v5,z1,z2,z3,z4,z5⟩=>⟨8 - l'.length,by lia,l',q4,v4,v5,rfl,z3,z4,z5⟩,?_⟩⟩
  obtain ⟨vs,ets,pts⟩:=S3.ts
  have lvs:vs.length=l.length:=Paired.length pts
  refine ⟨_,rfl,ta,vs,rfl,.inl (b_.of ets),_,_,rfl,rfl,_,rfl,?_⟩
  have go: ∀(ma:Addr) (H4:Hp),su A H r ta b H4 l q3->jn K H4 ma (wv (if l.length < 8 then [wordOf 43,wordOf 45] else []))->
    AJ (DL (Lu A.bA "read_one_of" (dY K A) [] E (cK 0) (bC (Ep (fun x y H Q=>(∃a b ys,x= .ref a/\y= .ref b/\jn K H a []/\jn K H b ys/\Q (.ref b) H)\/Tn K x y H Q) (cK 4) (cK 2)) mQ)) (mR 5))
     (AJ (Sa (xj (Ep (Xx K false) (cK 5) (cK 2))) (BI (cK 5)) IW)
      (FL (Wy K "list" Bd (cK 1) (bC (zU (lU K A) [] E (bC (cK 0) (bC (WD (xj (Ep U8 (cK 5) (tC (.str " + ")))) (tC (.int 1)) (Xw (rU fun i=> .int (-i)) (tC (.int 1)))) mQ))) mQ))))
     {nx:=fun σ' H'=> ∃(l':List Term) (q4:Nat) (v4 v5:Option V),l.length < 8/\l'.length=l.length + 1/\σ'= [some (.ref r),some (.ref ta),some (.ref ea),some (.int (xK neg)),v4,v5]/\su A H r ta b H' l' q4/\cU may (cur b p)=d_ may (8 - l'.length) l' (cur b q4),rt:=Q,
      ct:=fun σ' H'=> ∃(l':List Term) (q4:Nat) (v4 v5:Option V),l.length < 8/\l'.length=l.length + 1/\σ'= [some (.ref r),some (.ref ta),some (.ref ea),some (.int (xK neg)),v4,v5]/\su A H r ta b H' l' q4/\cU may (cur b p)=d_ may (8 - l'.length) l' (cur b q4),bk:=fun _ H'=>Q .dh H'}
     [some (.ref r),some (.ref ta),some (.ref ea),some (.int (xK neg)),some (.ref ma),v5] H4:=fun ma H4 S4 hma=>by
   have hb:=Wg (l:=l) hmay
   have heas: ∀H5,Kf (fun c=>c≠r/\c≠ta) H H5->jn K H5 ea (wv (bh may)):=fun H5 k5=>Td.jn.Ym hea k5 e eta
   have call: ∀(wa:Addr) (H5:Hp),su A H r ta b H5 l q3->jn K H5 wa (wv (bh (Tide.mays l.length may)))->dY K A [.ref r,.ref wa] H5 (fun x H6=>
     AJ (Sa (xj (Ep (Xx K false) (cK 5) (cK 2))) (BI (cK 5)) IW)
      (FL (Wy K "list" Bd (cK 1) (bC (zU (lU K A) [] E (bC (cK 0) (bC (WD (xj (Ep U8 (cK 5) (tC (.str " + ")))) (tC (.int 1)) (Xw (rU fun i=> .int (-i)) (tC (.int 1)))) mQ))) mQ)))
     {nx:=fun σ' H'=> ∃(l':List Term) (q4:Nat) (v4 v5:Option V),l.length < 8/\l'.length=l.length + 1/\σ'= [some (.ref r),some (.ref ta),some (.ref ea),some (.int (xK neg)),v4,v5]/\su A H r ta b H' l' q4/\cU may (cur b p)=d_ may (8 - l'.length) l' (cur b q4),rt:=Q,
      ct:=fun σ' H'=> ∃(l':List Term) (q4:Nat) (v4 v5:Option V),l.length < 8/\l'.length=l.length + 1/\σ'= [some (.ref r),some (.ref ta),some (.ref ea),some (.int (xK neg)),v4,v5]/\su A H r ta b H' l' q4/\cU may (cur b p)=d_ may (8 - l'.length) l' (cur b q4),bk:=fun _ H'=>Q .dh H'}
     [some (.ref r),some (.ref ta),some (.ref ea),some (.int (xK neg)),some (.ref ma),some x] H6) E:=fun wa H5 S5 hwa=>by
    refine ⟨r,wa,b,q3,_,rfl,S5.rd,hwa,hb.2,fun w q4 H6 ew k6 rd6=>?_,fun er he=>?_⟩
    ·rw [PM.Aw _ hb.1] at ew
     obtain ⟨vs5,ets5,pts5⟩:=S5.ts
     have S6:su A H r ta b H6 l q4:=⟨S5.kf.trans (k6.mono fun b o h _=>h.1),rd6,⟨vs5,k6 ta _ (Ne.symm nrt) ets5,Paired.ja (fun v y h=>h.keep (k6.mono fun c o hc _ z=>by rw [z,e] at hc;cases hc)) pts5⟩,S5.len⟩
     obtain ⟨dx6,t6,e6,tx6⟩:=id rd6
     refine ⟨_,rfl,_,rfl,ea,_,rfl,.inr (heas H6 S6.kf),rfl,T7 _,_,rfl,?_⟩
     rw [WO]
     rcases MD ew with hw | ⟨x,hx,hw,d',hbh,hlit⟩
     ·subst hw
      have hc:(bh may).contains [10]=true:=by
       rw [List.contains_iff_mem]
       exact Za _ YN
      rw [hc]
      exact cC ⟨_,rfl,rok (l,[10]) q4 H6 (by rw [es3];exact RQ ew) S6.kf rd6 S6 S6.len⟩
     ·subst hw
      by_cases hxm:x ∈ may
      ·have hc:(bh may).contains (wordOf x)=true:=by
        rw [List.contains_iff_mem]
        exact yZ.mpr hxm
       rw [hc]
       have hne: ¬(x=43\/x=45):=fun z=>by
        rcases z with z | z
        ·rw [z] at hxm;exact hm2 hxm
        ·rw [z] at hxm;exact hm3 hxm
       exact cC ⟨_,rfl,rok (l,wordOf x) q4 H6 (by rw [es3];exact Pw hne hbh hlit) S6.kf rd6 S6 S6.len⟩
      ·have hc:(bh may).contains (wordOf x)=false:=by
        rw [Bool.eq_false_iff]
        intro z
        exact hxm (yZ.mp (List.contains_iff_mem.mp z))
       rw [hc]
       have hl8:l.length < 8/\(x=43\/x=45):=by
        unfold Tide.mays Tide.TERMS at hx
        split at hx
        ·rename_i h8
         refine ⟨h8,?_⟩
         rcases Zb.mp hx with z | z
         ·simpa using z
         ·exact absurd z hxm
        ·exact absurd (by simpa using hx) hxm
       have es6:cU may (cur b p)=(Tide.terms may (8 - l.length) (x == 45) l (cur b q4) >>= finish):=by
        rw [es3]
        exact QO hl8.2 hbh hlit
       refine cM ⟨_,rfl,.inl ⟨rfl,_,b_.of S6.ts.choose_spec.1⟩,_,rfl,_,rfl,rfl,_,rfl,?_⟩
       have X:=one l (x == 45) q4 H6 (fun H'=> ∃(l':List Term) (q4:Nat) (v4 v5:Option V),l.length < 8/\l'.length=l.length + 1/\ [some (V.ref r),some (V.ref ta),some (V.ref ea),some (V.int (xK neg)),some (V.ref ma),some (V.str (st (wordOf x)))]= [some (V.ref r),some (.ref ta),some (.ref ea),some (.int (xK neg)),v4,v5]/\su A H r ta b H' l' q4/\cU may (cur b p)=d_ may (8 - l'.length) l' (cur b q4)) S6 hl8.1 es6
        (fun y q5 H7 S7 es7=>⟨_,q5,_,_,hl8.1,by rw [YH];rfl,rfl,S7,es7⟩)
       rcases hl8.2 with h43 | h45
       ·subst h43
        rw [YQ (show V.str (st (wordOf 43))=V.str " + " by rw [K3])]
        exact cC X
       ·subst h45
        rw [YJ (show ¬V.str (st (wordOf 45))=V.str " + " by rw [K3];decide +kernel)]
        exact cM ⟨_,rfl,X⟩
    ·rw [PM.Aw _ hb.1] at he
     exact (rer er (by rw [es3];exact UT he)).step S5.kf fun b o h _=>h.1
   obtain ⟨dx4,t4,e4,tx4⟩:=id S4.rd
   refine ⟨_,rfl,r,_,_,rfl,e4,rfl,_,rfl,_,rfl,?_⟩
   by_cases h8:l.length < 8
   ·rw [if_pos h8] at hma
    have em:wv (bh (Tide.mays l.length may))=wv [wordOf 43,wordOf 45]++wv (bh may):=by
     rw [<-QM,Tide.mays,if_pos (show l.length < Tide.TERMS from h8)]
     rfl
    refine .inr ⟨ma,ea,_,_,rfl,rfl,hma,heas H4 S4.kf,by simp [wv],?_,fun z=>?_,fun _ pa hpa=>?_⟩
    ·rw [FN,FN,sizeLine_eq]
     have:=(Bool.and_eq_true_iff.mp hm5).1
     have:=Zc this
     show 2 + _<=_
     lia
    ·exfalso
     have:=congrArg List.length z
     rw [FN] at this
     simp [bh] at this
    ·refine call pa _ ?_ (jn.of (by rw [af,em]))
     obtain ⟨vs4,ets4,pts4⟩:=S4.ts
     exact ⟨S4.kf.trans (Kf.new hpa),⟨dx4,t4,by rw [ak (ao e4 hpa)];exact e4,tx4⟩,⟨vs4,by rw [ak (ao ets4 hpa)];exact ets4,Paired.ja (fun v y h=>h.keep (Kf.new hpa)) pts4⟩,S4.len⟩
   ·rw [if_neg h8] at hma
    refine .inl ⟨ma,ea,_,rfl,rfl,hma,heas H4 S4.kf,call ea H4 S4 ?_⟩
    rw [Tide.mays,if_neg (show ¬l.length < Tide.TERMS from h8)]
    exact heas H4 S4.kf
  obtain ⟨dx3,t3,e3,tx3⟩:=id S3.rd
  have S3new: ∀(ma:Addr) (o:HO),H3 ma=none->su A H r ta b (upd H3 ma o) l q3:=fun ma o hma=>
   ⟨S3.kf.trans (Kf.new hma),⟨dx3,t3,by rw [ak (ao e3 hma)];exact e3,tx3⟩,⟨vs,by rw [ak (ao ets hma)];exact ets,Paired.ja (fun v y h=>h.keep (Kf.new hma)) pts⟩,S3.len⟩
  rw [lvs]
  by_cases h8:l.length < 8
  ·rw [YQ (show (l.length:Int) < 8 by lia)]
   refine cC ⟨(by show 2<=sizeLine;decide),fun ma hma=>go ma _ (S3new ma _ hma) ?_⟩
   rw [if_pos h8]
   refine jn.of ?_
   rw [af,K3,Ub]
   rfl
  ·rw [YJ (show ¬(l.length:Int) < 8 by lia)]
   refine cM ⟨YW _,fun ma hma=>go ma _ (S3new ma _ hma) ?_⟩
   rw [if_neg h8]
   exact jn.of af
 refine ⟨_,rfl,r,_,_,rfl,e,rfl,r,b,p,rfl,rd,rfl,_,rfl,?_⟩
 rw [FZ,Np (by decide),<-eK]
 cases hd:nextIs (fun x=>x == 45) (cur b p) with
 | false=>
  refine cM (first false p H none none ⟨Kf.refl,rd,⟨[],eta,.nil⟩,by decide⟩ ?_)
  unfold cU Tide.sumIn
  simp only [hd,Bool.false_eq_true,if_false]
  rfl
 | true=>
  have esum:cU may (cur b p)=(Tide.blank (cur b (p + 1)) >>= fun c=>Tide.terms may 8 true [] c >>= finish):=by
   unfold cU Tide.sumIn
   simp only [hd,if_true,Af]
   show (Tide.blank (cur b (p + 1)) >>= fun c=>Tide.terms may 8 true [] c) >>= finish=_
   cases Tide.blank (cur b (p + 1)) <;> rfl
  have elit:PM.oneOf [[45,32]] (cur b p)=(Tide.blank (cur b (p + 1))).map fun d=>([45,32],d):=by
   rw [PM.zj _ _ (by decide) (by decide),Tide.lit]
   have hn:(cur b p).next=some 45:=by
    rw [eK] at hd
    cases hx:(cur b p).next with
    | none=>rw [hx] at hd;cases hd
    | some x=>
     rw [hx] at hd
     have:(x == 45)=true:=hd
     rw [beq_iff_eq.mp this]
   rw [if_pos hn,Af]
   rfl
  refine cC ⟨_,rfl,r,_,_,rfl,e,rfl,(by show 1<=sizeLine;decide),fun wa hwa=>?_⟩
  have e1:upd H wa (.tup [.str "- "]) r=some (bB A dx (.str t) (.int (p:Int))):=by rw [ak (ao e hwa)];exact e
  refine ⟨r,wa,b,p,[[45,32]],rfl,⟨dx,t,e1,tx⟩,jn.of (by rw [af];rfl),by decide +kernel,fun w q1 H1 ew k1 rd1=>?_,fun er he=>?_⟩
  ·refine ⟨_,rfl,first true q1 H1 none none ⟨(Kf.new hwa).trans (k1.mono fun b o h _=>h.1),rd1,⟨[],k1 ta _ (Ne.symm nrt) (by rw [ak (ao eta hwa)];exact eta),.nil⟩,by decide⟩ ?_⟩
   rw [esum]
   rw [elit] at ew
   cases hbl:Tide.blank (cur b (p + 1)) with
   | error z=>rw [hbl] at ew;cases ew
   | ok d=>
    rw [hbl] at ew
    have:d=cur b q1:=congrArg Prod.snd (Except.ok.inj ew)
    rw [this]
    rfl
  ·refine (rer er ?_).step (Kf.new hwa) fun b o h _=>h.1
   rw [esum]
   rw [elit] at he
   cases hbl:Tide.blank (cur b (p + 1)) with
   | ok z=>rw [hbl] at he;cases he
   | error d=>
    rw [hbl] at he
    cases he
    rfl
end Td
namespace Td
open Tide (Bytes Cur isDigit isLetter nextIs Term Part Line)
open PM (aQ wordOf bh jj)
theorem MX{may:Bytes}{c d:Cur}{x:UInt8}(h:Tide.behind may c= .ok (some x,d)):x ∈ may:=by
 unfold Tide.behind at h
 split at h
 ·cases h
 ·split at h
  ·split at h
   ·split at h
    ·rename_i hc
     cases h
     simpa using hc
    ·cases h
   ·cases h
  ·cases h
theorem OQ(may:Bytes): ∀(f:Nat) (m:Bool) (l l':List Term) (c d:Cur) (k:Option UInt8),Tide.terms may f m l c= .ok (l',k,d)->k=none\/ ∃x ∈ may,k=some x
 | 0,m,l,l',c,d,k,h=>by cases h
 | f + 1,m,l,l',c,d,k,h=>by
  rw [Tide.terms] at h
  refine PJ.aX h fun z e1 h=>?_
  refine PJ.aX h fun y e2 h=>?_
  obtain ⟨k2,c2⟩:=y
  dsimp only at h
  split at h
  ·refine PJ.aX h fun c3 e3 h=>?_
   exact OQ may f _ _ _ _ _ _ h
  ·rename_i hn
   cases h
   cases k with
   | none=>exact .inl rfl
   | some x=>
    refine .inr ⟨x,?_,rfl⟩
    have:=MX e2
    unfold Tide.mays at this
    rcases Zb.mp this with z | z
    ·split at z
     ·exfalso
      apply hn
      simp at z
      rcases z with z | z <;> rw [z] <;> simp
     ·cases z
    ·exact z
theorem Ls{may:Bytes}{c d:Cur}{l:List Term}{k:Option UInt8}(h:Tide.sumIn may c= .ok (l,k,d)):k=none\/ ∃x ∈ may,k=some x:=by
 unfold Tide.sumIn at h
 refine PJ.aX h fun c1 _ h=>?_
 exact OQ may _ _ _ _ _ _ _ h
def yo(k:Option UInt8)(c:Cur):Except Nat (Bytes×Cur):=match k with
 | none=> .ok ([10],c)
 | some x=>(Tide.lit (aQ x) c).map fun d=>(wordOf x,d)
theorem Co(l:List Term)(k:Option UInt8)(c:Cur):finish (l,k,c)=(yo k c >>= fun (z:Bytes×Cur)=> .ok ((l,z.1),z.2)):=by
 unfold finish yo
 cases k with
 | none=>rfl
 | some x=>
  show (Tide.lit (aQ x) c).map _=(Tide.lit (aQ x) c).map _ >>= _
  cases Tide.lit (aQ x) c <;> rfl
theorem O6{x y:UInt8}(h:x≠y): ¬wordOf x=wordOf y:=fun z=>by
 unfold wordOf at z
 injection z with _ z
 injection z with z _
 exact h z
theorem E8(letter:UInt8)(later:Bytes): ∀(f:Nat) (k:Option UInt8) (l:List Part) (c:Cur),f + l.length=8->
  (Tide.partsIn letter (aQ letter) later f k l c >>= fun (z:List Part×Option UInt8×Cur)=>yo z.2.1 z.2.2 >>= fun (y:Bytes×Cur)=> .ok ((z.1,y.1),y.2))=(yo k c >>= fun (y:Bytes×Cur)=>bz letter later f y.1 l y.2)
 | 0,k,l,c,h=>by
  rw [Tide.partsIn]
  show (yo k c >>= fun (y:Bytes×Cur)=> .ok ((l,y.1),y.2))=_
  cases yo k c <;> rfl
 | f + 1,k,l,c,h=>by
  rw [Tide.partsIn]
  by_cases hk:k=some letter
  ·subst hk
   rw [if_pos rfl]
   show _=((Tide.lit (aQ letter) c).map fun d=>(wordOf letter,d)) >>= _
   cases h1:Tide.lit (aQ letter) c with
   | error e=>rfl
   | ok c1=>
    show _=bz letter later (f + 1) (wordOf letter) l c1
    rw [bz,if_pos rfl]
    unfold AS
    show (Tide.number c1 >>= _) >>= _=(Tide.number c1 >>= _) >>= _
    cases h2:Tide.number c1 with
    | error e=>rfl
    | ok z=>
     obtain ⟨v,c2⟩:=z
     show (Tide.blank c2 >>= _) >>= _=(Tide.blank c2 >>= _) >>= _
     cases h3:Tide.blank c2 with
     | error e=>rfl
     | ok c3=>
      have hm:(if f=0 then ([]:Bytes) else [letter])++later=(if l.length + 1 < 8 then [letter] else [])++later:=by
       by_cases hf:f=0
       ·rw [if_pos hf,if_neg (by lia)]
       ·rw [if_neg hf,if_pos (by lia)]
      show (Tide.sumIn ((if f=0 then ([]:Bytes) else [letter])++later) c3 >>= _) >>= _=(cU ((if l.length + 1 < 8 then [letter] else [])++later) c3 >>= _) >>= _
      rw [<-hm]
      unfold cU
      cases h4:Tide.sumIn ((if f=0 then ([]:Bytes) else [letter])++later) c3 with
      | error e=>rfl
      | ok z=>
       obtain ⟨s,k',c4⟩:=z
       have ih:=E8 letter later f k' (l++ [⟨v,s⟩]) c4 (by rw [YH];show f + (l.length + 1)=8;lia)
       show (Tide.partsIn letter (aQ letter) later f k' (l++ [⟨v,s⟩]) c4 >>= _)=((finish (s,k',c4)) >>= _) >>= _
       rw [ih,Co]
       cases yo k' c4 <;> rfl
  ·rw [if_neg hk]
   show (yo k c >>= fun (y:Bytes×Cur)=> .ok ((l,y.1),y.2))=_
   cases k with
   | none=>
    show _=bz letter later (f + 1) [10] l c
    rw [bz,if_neg (by unfold wordOf;intro z;cases z)]
    rfl
   | some x=>
    show (((Tide.lit (aQ x) c).map fun d=>(wordOf x,d)) >>= _)=((Tide.lit (aQ x) c).map fun d=>(wordOf x,d)) >>= _
    cases Tide.lit (aQ x) c with
    | error e=>rfl
    | ok d=>
     show _=bz letter later (f + 1) (wordOf x) l d
     rw [bz,if_neg (O6 fun z=>hk (by rw [z]))]
     rfl
theorem OJ: ∀(f:Nat) (k k':Option UInt8) (l l':List Part) (c d:Cur),f + l.length=8->(k=none\/(k=some 115/\0 < f))->Tide.partsIn 115 (aQ 115) [] f k l c= .ok (l',k',d)->k'=none
 | 0,k,k',l,l',c,d,h,hk,e=>by
  rw [Tide.partsIn] at e
  cases e
  rcases hk with hk | hk
  ·exact hk
  ·exact absurd hk.2 (by lia)
 | f + 1,k,k',l,l',c,d,h,hk,e=>by
  rw [Tide.partsIn] at e
  split at e
  ·refine PJ.aX e fun c1 _ e=>?_
   refine PJ.aX e fun z _ e=>?_
   refine PJ.aX e fun c3 _ e=>?_
   refine PJ.aX e fun y e4 e=>?_
   obtain ⟨s,k2,c4⟩:=y
   refine OJ f k2 k' _ l' c4 d (by rw [YH];show f + (l.length + 1)=8;lia) ?_ e
   rcases Ls e4 with z | ⟨x,hx,z⟩
   ·exact .inl z
   ·right
    rw [Y0] at hx
    split at hx
    ·cases hx
    ·have:=YO.mp hx
     rw [z,this]
     exact ⟨rfl,by lia⟩
  ·rename_i hn
   cases e
   rcases hk with hk | hk
   ·exact hk
   ·exact absurd hk.1 hn
theorem MC: ∀(f:Nat) (k k':Option UInt8) (l l':List Part) (c d:Cur),f + l.length=8->(k=none\/k=some 115\/(k=some 102/\0 < f))->Tide.partsIn 102 (aQ 102) [115] f k l c= .ok (l',k',d)->k'=none\/k'=some 115
 | 0,k,k',l,l',c,d,h,hk,e=>by
  rw [Tide.partsIn] at e
  cases e
  rcases hk with hk | hk | hk
  ·exact .inl hk
  ·exact .inr hk
  ·exact absurd hk.2 (by lia)
 | f + 1,k,k',l,l',c,d,h,hk,e=>by
  rw [Tide.partsIn] at e
  split at e
  ·refine PJ.aX e fun c1 _ e=>?_
   refine PJ.aX e fun z _ e=>?_
   refine PJ.aX e fun c3 _ e=>?_
   refine PJ.aX e fun y e4 e=>?_
   obtain ⟨s,k2,c4⟩:=y
   refine MC f k2 k' _ l' c4 d (by rw [YH];show f + (l.length + 1)=8;lia) ?_ e
   rcases Ls e4 with z | ⟨x,hx,z⟩
   ·exact .inl z
   ·right
    rcases Zb.mp hx with hx | hx
    ·split at hx
     ·cases hx
     ·have:=YO.mp hx
      rw [z,this]
      exact .inr ⟨rfl,by lia⟩
    ·have:=YO.mp hx
     rw [z,this]
     exact .inl rfl
  ·rename_i hn
   cases e
   rcases hk with hk | hk | hk
   ·exact .inl hk
   ·exact .inr hk
   ·exact absurd hk.1 hn
def qg(w:Bytes)(c:Cur):Except Nat ((Nat×Bytes)×Cur):=if w=wordOf 116 then PM.oneOf PM.j6 c >>= fun (z:Bytes×Cur)=>PM.oneOf (bh [102,115]) z.2 >>= fun (y:Bytes×Cur)=> .ok ((PM.tN z.1,y.1),y.2) else .ok ((0,w),c)
def kH(c:Cur):Except Nat ((List Term×Nat×List Part×List Part)×Cur):=
 cU [116,102,115] c >>= fun (a:(List Term×Bytes)×Cur)=>qg a.1.2 a.2 >>= fun (t:(Nat×Bytes)×Cur)=>bz 102 [115] 8 t.1.2 [] t.2 >>= fun (f:(List Part×Bytes)×Cur)=>
  bz 115 [] 8 f.1.2 [] f.2 >>= fun (s:(List Part×Bytes)×Cur)=> .ok ((a.1.1,t.1.1,f.1.1,s.1.1),s.2)
def Gu(c:Cur):Except Nat ((List Term×Nat×List Part×List Part)×Cur):=
 Tide.sumIn [116,102,115] c >>= fun (a:List Term×Option UInt8×Cur)=>(if a.2.1=some 116 then Tide.lit (aQ 116) a.2.2 >>= fun c=>Tide.turnIn c >>= fun (q:Nat×Cur)=>Tide.behind [102,115] q.2 >>= fun (y:Option UInt8×Cur)=> .ok (q.1,y.1,y.2) else .ok (0,a.2.1,a.2.2):Except Nat (Nat×Option UInt8×Cur)) >>=
  fun (t:Nat×Option UInt8×Cur)=>Tide.partsIn 102 (aQ 102) [115] 8 t.2.1 [] t.2.2 >>= fun (f:List Part×Option UInt8×Cur)=>Tide.partsIn 115 (aQ 115) [] 8 f.2.1 [] f.2.2 >>= fun (s:List Part×Option UInt8×Cur)=> .ok ((a.1,t.1,f.1,s.1),s.2.2)
theorem E5(t:Nat)(a:List Term)(k:Option UInt8)(c:Cur)(hk:k=none\/k=some 115\/k=some 102):
  (Tide.partsIn 102 (aQ 102) [115] 8 k [] c >>= fun (f:List Part×Option UInt8×Cur)=>Tide.partsIn 115 (aQ 115) [] 8 f.2.1 [] f.2.2 >>= fun (s:List Part×Option UInt8×Cur)=>(.ok ((a,t,f.1,s.1),s.2.2):Except Nat ((List Term×Nat×List Part×List Part)×Cur)))=
  (yo k c >>= fun (y:Bytes×Cur)=>bz 102 [115] 8 y.1 [] y.2 >>= fun (f:(List Part×Bytes)×Cur)=>bz 115 [] 8 f.1.2 [] f.2 >>= fun (s:(List Part×Bytes)×Cur)=> .ok ((a,t,f.1.1,s.1.1),s.2)):=by
 have e1:=E8 102 [115] 8 k [] c rfl
 have e2:(yo k c >>= fun (y:Bytes×Cur)=>bz 102 [115] 8 y.1 [] y.2 >>= fun (f:(List Part×Bytes)×Cur)=>bz 115 [] 8 f.1.2 [] f.2 >>= fun (s:(List Part×Bytes)×Cur)=>(.ok ((a,t,f.1.1,s.1.1),s.2):Except Nat ((List Term×Nat×List Part×List Part)×Cur)))=(yo k c >>= fun (y:Bytes×Cur)=>bz 102 [115] 8 y.1 [] y.2) >>= fun (f:(List Part×Bytes)×Cur)=>bz 115 [] 8 f.1.2 [] f.2 >>= fun (s:(List Part×Bytes)×Cur)=> .ok ((a,t,f.1.1,s.1.1),s.2):=by
  cases yo k c <;> rfl
 rw [e2,<-e1]
 cases h1:Tide.partsIn 102 (aQ 102) [115] 8 k [] c with
 | error e=>rfl
 | ok f=>
  obtain ⟨fs,k2,c2⟩:=f
  have hk2:=MC 8 k k2 [] fs c c2 rfl (by rcases hk with h | h | h;exact .inl h;exact .inr (.inl h);exact .inr (.inr ⟨h,by decide⟩)) h1
  have e3:=E8 115 [] 8 k2 [] c2 rfl
  show (Tide.partsIn 115 (aQ 115) [] 8 k2 [] c2 >>= _)=((yo k2 c2 >>= fun (y:Bytes×Cur)=> .ok ((fs,y.1),y.2)) >>= _)
  have e4:((yo k2 c2 >>= fun (y:Bytes×Cur)=>(.ok ((fs,y.1),y.2):Except Nat ((List Part×Bytes)×Cur))) >>= fun (f:(List Part×Bytes)×Cur)=>bz 115 [] 8 f.1.2 [] f.2 >>= fun (s:(List Part×Bytes)×Cur)=>(.ok ((a,t,f.1.1,s.1.1),s.2):Except Nat ((List Term×Nat×List Part×List Part)×Cur)))=(yo k2 c2 >>= fun (y:Bytes×Cur)=>bz 115 [] 8 y.1 [] y.2) >>= fun (s:(List Part×Bytes)×Cur)=> .ok ((a,t,fs,s.1.1),s.2):=by
   cases yo k2 c2 <;> rfl
  rw [e4,<-e3]
  cases h2:Tide.partsIn 115 (aQ 115) [] 8 k2 [] c2 with
  | error e=>rfl
  | ok s=>
   obtain ⟨ss,k3,c3⟩:=s
   have hk3:=OJ 8 k2 k3 [] ss c2 c3 rfl (by rcases hk2 with h | h;exact .inl h;exact .inr ⟨h,by decide⟩) h2
   subst hk3
   rfl
theorem UL(c:Cur):Gu c=kH c:=by
 unfold Gu kH cU
 cases h1:Tide.sumIn [116,102,115] c with
 | error e=>rfl
 | ok z=>
  obtain ⟨l,k,c1⟩:=z
  have hk:=Ls h1
  show (if k=some 116 then _ else _) >>= _=(finish (l,k,c1)) >>= _
  rw [Co]
  by_cases h116:k=some 116
  ·subst h116
   rw [if_pos rfl]
   show _=(((Tide.lit (aQ 116) c1).map fun d=>(wordOf 116,d)) >>= _) >>= _
   cases h2:Tide.lit (aQ 116) c1 with
   | error e=>rfl
   | ok c2=>
    show (Tide.turnIn c2 >>= _) >>= _=qg (wordOf 116) c2 >>= _
    unfold qg
    rw [if_pos rfl,<-PM.Nf]
    cases h3:PM.oneOf PM.j6 c2 with
    | error e=>rfl
    | ok q=>
     obtain ⟨w,c3⟩:=q
     show (Tide.behind [102,115] c3 >>= _) >>= _=(PM.oneOf (bh [102,115]) c3 >>= _) >>= _
     rw [PM.Aw _ (by decide)]
     unfold jj
     cases h4:Tide.behind [102,115] c3 with
     | error e=>rfl
     | ok y=>
      obtain ⟨k4,c4⟩:=y
      have hk4:k4=none\/k4=some 115\/k4=some 102:=by
       cases k4 with
       | none=>exact .inl rfl
       | some x=>
        have:=MX h4
        simp at this
        rcases this with h | h <;> rw [h] <;> simp
      have:=E5 (PM.tN w) l k4 c4 hk4
      show (Tide.partsIn 102 (aQ 102) [115] 8 k4 [] c4 >>= _)=_
      rw [this]
      cases k4 with
      | none=>rfl
      | some x=>
       show (((Tide.lit (aQ x) c4).map fun d=>(wordOf x,d)) >>= _)=((((Tide.lit (aQ x) c4).map fun d=>(wordOf x,d))) >>= _) >>= _
       cases Tide.lit (aQ x) c4 <;> rfl
  ·rw [if_neg h116]
   have hk4:k=none\/k=some 115\/k=some 102:=by
    rcases hk with h | ⟨x,hx,h⟩
    ·exact .inl h
    ·simp at hx
     rcases hx with z | z | z
     ·exact absurd (by rw [h,z]) h116
     ·rw [h,z];simp
     ·rw [h,z];simp
   have:=E5 0 l k c1 hk4
   show (Tide.partsIn 102 (aQ 102) [115] 8 k [] c1 >>= _)=_
   rw [this]
   cases k with
   | none=>rfl
   | some x=>
    have hx:x≠116:=fun z=>h116 (by rw [z])
    show (((Tide.lit (aQ x) c1).map fun d=>(wordOf x,d)) >>= _)=((((Tide.lit (aQ x) c1).map fun d=>(wordOf x,d)) >>= _)) >>= _
    cases Tide.lit (aQ x) c1 with
    | error e=>rfl
    | ok d=>
     show _=qg (wordOf x) d >>= _
     unfold qg
     rw [if_neg (O6 hx)]
     rfl
def Ej(w:Bytes)(n:Bytes)(p:Nat)(c:Cur):Except Nat (Line×Cur):=
 if w=PM.gY then Tide.number c >>= fun (x:Int×Cur)=>Tide.blank x.2 >>= fun c=>Tide.number c >>= fun (y:Int×Cur)=>Tide.lit [10] y.2 >>= fun c=> .ok (.angle n p x.1 y.1,c)
 else if w=PM.lq then kH c >>= fun (z:(List Term×Nat×List Part×List Part)×Cur)=> .ok (.wave n p z.1.1 z.1.2.1 z.1.2.2.1 z.1.2.2.2,z.2)
 else cU [] c >>= fun (z:(List Term×Bytes)×Cur)=> .ok (.sum n p z.1.1,z.2)
def KG(c:Cur):Except Nat (Line×Cur):=
 PM.oneOf [PM.gY,PM.lq,PM.CL] c >>= fun (w:Bytes×Cur)=>Tide.nameIn w.2 >>= fun (n:Bytes×Cur)=>Tide.blank n.2 >>= fun c=>Ej w.1 n.1 w.2.at_ c
theorem TN(c:Cur):Tide.lineIn c=KG c:=by
 unfold Tide.lineIn KG
 rw [PM.M7,PM.Mg,PM.wU,PM.Qx,PM.QZ,PM.Li,PM.Nk]
 split
 ·cases Tide.lit PM.gY c with
  | error e=>rfl
  | ok c1=>
   show (Tide.nameIn c1 >>= _)=(Tide.nameIn c1 >>= _)
   cases Tide.nameIn c1 with
   | error e=>rfl
   | ok z=>
    show (Tide.blank z.2 >>= _)=(Tide.blank z.2 >>= _)
    cases Tide.blank z.2 with
    | error e=>rfl
    | ok c2=>rfl
 split
 ·cases Tide.lit PM.lq c with
  | error e=>rfl
  | ok c1=>
   show (Tide.nameIn c1 >>= _)=(Tide.nameIn c1 >>= _)
   cases Tide.nameIn c1 with
   | error e=>rfl
   | ok z=>
    show (Tide.blank z.2 >>= _)=(Tide.blank z.2 >>= _)
    cases Tide.blank z.2 with
    | error e=>rfl
    | ok c2=>
     show _=kH c2 >>= _
     rw [<-UL]
     unfold Gu
     show (Tide.sumIn [116,102,115] c2 >>= _)=(Tide.sumIn [116,102,115] c2 >>= _) >>= _
     cases Tide.sumIn [116,102,115] c2 with
     | error e=>rfl
     | ok a=>
      obtain ⟨l,k,c3⟩:=a
      show ((if k=some 116 then _ else _:Except Nat (Nat×Option UInt8×Cur)) >>= _:Except Nat (Line×Cur))=((if k=some 116 then _ else _:Except Nat (Nat×Option UInt8×Cur)) >>= _:Except Nat ((List Term×Nat×List Part×List Part)×Cur)) >>= _
      have ek:(if k=some 116 then (do let c <-Tide.lit (aQ 116) c3;let x <-Tide.turnIn c;match x with | (q,c)=>do let x <-Tide.behind [102,115] c;match x with | (k,c)=>pure (q,k,c)) else Except.ok (0,k,c3):Except Nat (Nat×Option UInt8×Cur))=(if k=some 116 then Tide.lit (aQ 116) c3 >>= fun c=>Tide.turnIn c >>= fun (q:Nat×Cur)=>Tide.behind [102,115] q.2 >>= fun (y:Option UInt8×Cur)=> .ok (q.1,y.1,y.2) else .ok (0,k,c3):Except Nat (Nat×Option UInt8×Cur)):=rfl
      rw [ek]
      cases (if k=some 116 then Tide.lit (aQ 116) c3 >>= fun c=>Tide.turnIn c >>= fun (q:Nat×Cur)=>Tide.behind [102,115] q.2 >>= fun (y:Option UInt8×Cur)=> .ok (q.1,y.1,y.2) else .ok (0,k,c3):Except Nat (Nat×Option UInt8×Cur)) with
      | error e=>rfl
      | ok t=>
       obtain ⟨q,k4,c4⟩:=t
       show (Tide.partsIn 102 (aQ 102) [115] 8 k4 [] c4 >>= _)=(Tide.partsIn 102 (aQ 102) [115] 8 k4 [] c4 >>= _) >>= _
       cases Tide.partsIn 102 (aQ 102) [115] 8 k4 [] c4 with
       | error e=>rfl
       | ok f=>
        obtain ⟨fs,k5,c5⟩:=f
        show (Tide.partsIn 115 (aQ 115) [] 8 k5 [] c5 >>= _)=(Tide.partsIn 115 (aQ 115) [] 8 k5 [] c5 >>= _) >>= _
        cases Tide.partsIn 115 (aQ 115) [] 8 k5 [] c5 <;> rfl
 split
 ·cases Tide.lit PM.CL c with
  | error e=>rfl
  | ok c1=>
   show (Tide.nameIn c1 >>= _)=(Tide.nameIn c1 >>= _)
   cases Tide.nameIn c1 with
   | error e=>rfl
   | ok z=>
    show (Tide.blank z.2 >>= _)=(Tide.blank z.2 >>= _)
    cases Tide.blank z.2 with
    | error e=>rfl
    | ok c2=>
     show _=cU [] c2 >>= _
     unfold cU
     show (Tide.sumIn [] c2 >>= _)=(Tide.sumIn [] c2 >>= _) >>= _
     cases h:Tide.sumIn [] c2 with
     | error e=>rfl
     | ok a=>
      obtain ⟨l,k,c3⟩:=a
      rcases Ls h with hk | ⟨x,hx,_⟩
      ·subst hk
       rfl
      ·cases hx
 ·rfl
open PySem PySem.Spec PyProof.Rows L2 TL
variable {P:Program} {w:World} {K:W.Frag} {mg:Str->Option Value} {base:Heap} {A:Ad}
theorem Er.tX{A:Ad}{E:XK}{F G:Addr->Prop}{H H1:Hp}{k p:Nat}(e:Er A E F H k p)(a:Kf F H H1)(h: ∀b o,F b->H b=some o->G b):Er A E G H1 k p:=
 fun dx H' k' ed=>e dx H' (fun b o f hb=>k' b o (h b o f hb) (a b o f hb)) ed
theorem l9{H H1:Hp}{r a:Addr}{o1:HO}(k:Kf (· ≠r) H H1)(h1:H1 r=some o1)(ha:H1 a=none):H a=none:=by
 cases hh:H a with
 | none=>rfl
 | some o=>
  rw [k a o (fun z=>by rw [z,h1] at ha;cases ha) hh] at ha
  cases ha
theorem BK{w:Bytes}{c:Cur}(h1:w≠ [])(h2:w.length<=16){x:Bytes}{d:Cur}(h:PM.oneOf [w] c= .ok (x,d)):x=w/\Tide.lit w c= .ok d:=by
 rw [PM.zj w c h1 h2] at h
 cases hl:Tide.lit w c with
 | error e=>rw [hl] at h;cases h
 | ok z=>
  rw [hl] at h
  have e:=Except.ok.inj h
  exact ⟨(congrArg Prod.fst e).symm,congrArg Except.ok (congrArg Prod.snd e)⟩
theorem tL{w:Bytes}{c:Cur}(h1:w≠ [])(h2:w.length<=16){e:Nat}(h:PM.oneOf [w] c= .error e):Tide.lit w c= .error e:=by
 rw [PM.zj w c h1 h2] at h
 cases hl:Tide.lit w c with
 | error e=>rw [hl] at h;cases h;rfl
 | ok z=>rw [hl] at h;cases h
theorem lE:(Str.ofString " ":Str)=st [32]:=by decide +kernel
theorem xw:(Str.ofString "\n":Str)=st [10]:=by decide +kernel
theorem sE:goodW [[32]]=true:=by decide +kernel
theorem KJ:goodW [[10]]=true:=by decide +kernel
theorem vX:ay ["reader","parts","word","others","number","terms"] ["reader","parts","word","others"] (aq ym):=jv rfl (by decide +kernel)
def rK(K:W.Frag)(A:Ad):Sp:=fun vs H Q E=> ∃r pa oa b p letter later vs0,vs= [.ref r,.ref pa,.str (st (wordOf letter)),.ref oa]/\gW A H r b p/\H pa=some (.lst vs0)/\vs0.length < 8/\jn K H oa (wv (bh later))/\De later=true/\De ([letter]++later)=true/\Reads A E (fun c=>c≠r/\c≠pa) H r b p (AS letter later vs0.length) (fun x q H'=> ∀v,H' pa=some (.lst (vs0++ [v]))->oz (fun c=>H c=none) H' v x.1->Q (.str (st x.2)) H')
theorem BC(T:Txt K mg A):bw P w K mg base (B8 P w) 7 A.k_ A.oh ["reader","parts","word","others"] (rK K A):=by
 refine K5 T.nX vX fun vs H Q E h Rz kz=>?_
 obtain ⟨r,pa,oa,b,p,letter,later,vs0,rfl,rd,epa,hl8,hoa,ok1,ok2,rok,rer⟩:=h
 refine kz rfl fun cdv Ar outer s hr=>?_
 refine ⟨_,(ah (aF (i:=4) vX.nd rfl (Or.inl rfl) (aB (sH T) (hr.mono (by decide)) rfl T.mX T.iS.kp T.uB .nil (aA.passes rfl) (aa (pv 0) ai)))
   (ah (cJ (bM (pv 0) T.az T.aJ (aG T) (hr.mono (by decide)) T.aK .nil (aA.passes rfl) (aa (gX (aa cV ai)) ai)))
   (ah (aF (i:=5) vX.nd rfl (Or.inl rfl) (dJ ai))
   (ah (cJ (qw PySem.F.plainAttrs_list PySem.F.slot_list_append PySem.F.type_list_append nZ (pv 1) (aa (gX (aa (pv 4) (aa (pv 5) ai))) ai)))
   (ah (b6 (aO Il (bN jA (by rfl) T.xu PySem.boot_len (aa (pv 1) ai)) (aC rfl T.wK) (aT _)) (aj (aD (aB (ua T) (hr.mono (by decide)) rfl T.pS T.lH.kp T.wX .nil (aA.passes rfl) (aa (pv 0) (aa (pv 5) (aa (aR Pr (gX (aa (pv 2) ai)) (pv 3)) ai)))))) aU)
   (aj (aD (aB (ua T) (hr.mono (by decide)) rfl T.pS T.lH.kp T.wX .nil (aA.passes rfl) (aa (pv 0) (aa (pv 5) (aa (pv 3) ai))))))))))),?_⟩
 obtain ⟨dx,t,e,tx⟩:=id rd
 have nrp:r≠pa:=yX e epa (by intro z;cases z)
 have wk: ∀ {H1 H2:Hp},Kf (· ≠r) H1 H2->Kf (fun c=>c≠r/\c≠pa) H1 H2:=fun k=>k.mono fun b o h _=>h.1
 unfold AS at rok rer
 refine ⟨_,rfl,r,b,p,rfl,rd,fun x q1 H1 ex k1 rd1=>?_,fun er he=>(rer er (by rw [he];rfl)).tX Kf.refl fun b o h _=>h.1⟩
 rw [ex] at rok rer
 obtain ⟨dx1,t1,e1,tx1⟩:=id rd1
 refine ⟨_,rfl,r,_,_,rfl,e1,rfl,(by show 1<=sizeLine;decide),fun wa hwa=>?_⟩
 have e1':upd H1 wa (.tup [.str " "]) r=some (bB A dx1 (.str t1) (.int (q1:Int))):=by rw [ak (ao e1 hwa)];exact e1
 refine ⟨r,wa,b,q1,[[32]],rfl,⟨dx1,t1,e1',tx1⟩,jn.of (by rw [af,lE];rfl),sE,fun w q2 H2 ew k2 rd2=>?_,fun er he=>?_⟩
 rotate_left
 ·refine (rer er ?_).tX (wk (k1.trans (Kf.new hwa))) fun b o h _=>h.1
  show Tide.blank (cur b q1) >>= _=_
  rw [show Tide.blank (cur b q1)= .error er from tL (by decide) (by decide) he]
  rfl
 obtain ⟨rfl,ewl⟩:=BK (by decide) (by decide) ew
 have ebl:Tide.blank (cur b q1)= .ok (cur b q2):=ewl
 have rok2: ∀(y:List Term×Bytes) (q3:Nat) (H3:Hp),cU ((if vs0.length + 1 < 8 then [letter] else [])++later) (cur b q2)= .ok (y,cur b q3)->Kf (fun c=>c≠r/\c≠pa) H H3->gW A H3 r b q3-> ∀v,H3 pa=some (.lst (vs0++ [v]))->oz (fun c=>H c=none) H3 v ⟨x,y.1⟩->Q (.str (st y.2)) H3:=fun y q3 H3 es=>rok (⟨x,y.1⟩,y.2) q3 H3 (by
  show Tide.blank (cur b q1) >>= _=_
  rw [ebl]
  show cU ((if vs0.length + 1 < 8 then [letter] else [])++later) (cur b q2) >>= _=_
  rw [es]
  rfl)
 have rer2: ∀er,cU ((if vs0.length + 1 < 8 then [letter] else [])++later) (cur b q2)= .error er->Er A E (fun c=>c≠r/\c≠pa) H 1 er:=fun er es=>rer er (by
  show Tide.blank (cur b q1) >>= _=_
  rw [ebl]
  show cU ((if vs0.length + 1 < 8 then [letter] else [])++later) (cur b q2) >>= _=_
  rw [es]
  rfl)
 have k02:Kf (· ≠r) H H2:=(k1.trans (Kf.new hwa)).trans k2
 obtain ⟨dx2,t2,e2,tx2⟩:=id rd2
 have epa2:H2 pa=some (.lst vs0):=k02 pa _ (Ne.symm nrp) epa
 refine ⟨YW _,fun ta hta=>?_⟩
 have nta:H ta=none:=l9 k02 e2 hta
 have ntr:ta≠r:=fun z=>by rw [z,e2] at hta;cases hta
 have ntp:ta≠pa:=fun z=>by rw [z,epa2] at hta;cases hta
 refine ⟨_,rfl,.inl ⟨rfl,_,b_.of (by rw [ak (Ne.symm ntp)];exact epa2)⟩,_,rfl,_,rfl,(by show 2<=sizeLine;decide),fun a ha=>⟨pa,vs0,.ref a,rfl,rfl,?_,?_,?_⟩⟩
 ·rw [ak (fun z=>by rw [<-z,ak (Ne.symm ntp),epa2] at ha;cases ha),ak (Ne.symm ntp)]
  exact epa2
 ·rw [sizeLine_eq]
  lia
 have nat:a≠ta:=fun z=>by rw [z,af] at ha;cases ha
 rw [ak nat] at ha
 have nar:a≠r:=fun z=>by rw [z,e2] at ha;cases ha
 have nap:a≠pa:=fun z=>by rw [z,epa2] at ha;cases ha
 have nHa:H a=none:=l9 k02 e2 ha
 have ha':upd H2 ta (.lst []) a=none:=by rw [ak nat];exact ha
 have k5:Kf (fun c=>c≠r/\c≠pa) H (upd (upd (upd H2 ta (.lst [])) a (.tup [.int x,.ref ta])) pa (.lst (vs0++ [.ref a]))):=(wk k02).trans ((Kf.new hta).trans ((Kf.new ha').trans (Kf.put (by simp))))
 have f5: ∀c,H c≠none->upd (upd (upd H2 ta (.lst [])) a (.tup [.int x,.ref ta])) pa (.lst (vs0++ [.ref a])) c≠none:=fun c hc=>by
  by_cases z:c=pa
  ·rw [z,af];simp
  ·by_cases z2:c=r
   ·rw [z2,ak nrp,ak (Ne.symm nar),ak (Ne.symm ntr),e2];simp
   ·cases hh:H c with
    | none=>exact absurd hh hc
    | some o=>rw [k5 c o ⟨z2,z⟩ hh];simp
 have rd5:gW A (upd (upd (upd H2 ta (.lst [])) a (.tup [.int x,.ref ta])) pa (.lst (vs0++ [.ref a]))) r b q2:=⟨dx2,t2,by rw [ak nrp,ak (Ne.symm nar),ak (Ne.symm ntr)];exact e2,tx2⟩
 have eta5:upd (upd (upd H2 ta (.lst [])) a (.tup [.int x,.ref ta])) pa (.lst (vs0++ [.ref a])) ta=some (.lst []):=by rw [ak ntp,ak (Ne.symm nat),af]
 have ea5:upd (upd (upd H2 ta (.lst [])) a (.tup [.int x,.ref ta])) pa (.lst (vs0++ [.ref a])) a=some (.tup [.int x,.ref ta]):=by rw [ak nap,af]
 have ep5:upd (upd (upd H2 ta (.lst [])) a (.tup [.int x,.ref ta])) pa (.lst (vs0++ [.ref a])) pa=some (.lst (vs0++ [.ref a])):=af
 generalize upd (upd (upd H2 ta (.lst [])) a (.tup [.int x,.ref ta])) pa (.lst (vs0++ [.ref a]))=H5 at k5 f5 rd5 eta5 ea5 ep5
 have hoa5:jn K H5 oa (wv (bh later)):=Td.jn.Ym hoa k5 e epa
 have fin: ∀(H6:Hp) (oa6:Addr) (may:Bytes),may=(if vs0.length + 1 < 8 then [letter] else [])++later->Kf (fun _=>True) H5 H6->jn K H6 oa6 (wv (bh may))->De may=true->Dg K A [.ref r,.ref ta,.ref oa6] H6 Q E:=fun H6 oa6 may hmay k6 hoa6 hok=>by
  obtain ⟨dx5,t5,e5,tx5⟩:=id rd5
  refine ⟨r,ta,oa6,b,q2,may,rfl,⟨dx5,t5,k6 _ _ trivial e5,tx5⟩,k6 _ _ trivial eta5,hoa6,hok,fun y q3 H7 es k7 rd7 S7 l8=>?_,fun er he=>(rer2 er (by rw [<-hmay];exact he)).tX (k5.trans (k6.mono fun _ _ _ _=>trivial)) fun c o h hc=>⟨h.1,fun z=>by rw [z,nta] at hc;cases hc⟩⟩
  obtain ⟨vs7,ets7,pts7⟩:=S7.ts
  refine rok2 y q3 H7 (by rw [<-hmay];exact es) (fun c o h hc=>k7 c o ⟨h.1,fun z=>by rw [z,nta] at hc;cases hc⟩ (k6 c o trivial (k5 c o h hc))) rd7 (.ref a) (k7 pa _ ⟨Ne.symm nrp,Ne.symm ntp⟩ (k6 _ _ trivial ep5)) ⟨a,ta,rfl,nHa,k7 a _ ⟨nar,nat⟩ (k6 _ _ trivial ea5),⟨nta,vs7,ets7,Paired.ja (fun v z hz=>?_) pts7,l8⟩,C8 ex⟩
  obtain ⟨c,e1,e2,e3⟩:=hz
  refine ⟨c,e1,?_,e3⟩
  cases hh:H c with
  | none=>exact hh
  | some o=>
   exfalso
   have:=f5 c (by rw [hh];simp)
   cases h5:H5 c with
   | none=>exact this h5
   | some o'=>
    have e2':H6 c=none:=e2
    rw [k6 c o' trivial h5] at e2'
    cases e2'
 refine ⟨_,rfl,pa,_,rfl,.inl (b_.of ep5),_,_,rfl,rfl,_,rfl,?_⟩
 have elen:(vs0++ [V.ref a]).length=vs0.length + 1:=by rw [YH];rfl
 rw [elen]
 by_cases h8:vs0.length + 1 < 8
 ·rw [YQ (show ((vs0.length + 1:Nat):Int) < 8 by lia)]
  refine cC ⟨_,rfl,_,rfl,_,rfl,(by show 1<=sizeLine;decide),fun wt hwt=>⟨_,rfl,wt,oa,_,_,rfl,rfl,jn.of af,Td.aN.Xd (aN.new hwt) hoa5,by simp,?_,fun z=>?_,fun _ pb hpb=>?_⟩⟩
  ·rw [FN,sizeLine_eq]
   unfold De at ok1
   simp only [Y_,decide_eq_true_eq] at ok1
   have:=Zc (Bool.and_eq_true_iff.mp ok1.1.2).1
   show 1 + _<=_
   lia
  ·exfalso
   have:=congrArg List.length z
   rw [FN] at this
   simp [bh] at this
  ·refine fin _ pb ([letter]++later) (by rw [if_pos h8]) ((Kf.new hwt).trans (Kf.new hpb)) (jn.of (by rw [af];rfl)) ok2
 ·rw [YJ (show ¬((vs0.length + 1:Nat):Int) < 8 by lia)]
  exact cM ⟨_,rfl,_,rfl,_,rfl,fin H5 oa later (by rw [if_neg h8];rfl) Kf.refl hoa5 ok1⟩
theorem HD:ay ["reader","line"] ["reader","line"] (aq wo):=jv rfl (by decide +kernel)
def G1(K:W.Frag)(A:Ad):Sp:=fun vs H Q E=> ∃r la b p dx v1 v2 v3 v6 v7 v8 v9,vs= [.ref r,.ref la]/\gW A H r b p/\H la=some (cY A dx v1 v2 v3 (.int 0) (.int 0) v6 v7 v8 v9)/\la≠r/\Reads A E (fun c=>c≠r/\c≠la) H r b p (fun c=>Tide.number c >>= fun (x:Int×Cur)=>Tide.blank x.2 >>= fun c=>Tide.number c >>= fun (y:Int×Cur)=>Tide.lit [10] y.2 >>= fun c=> .ok ((x.1,y.1),c)) (fun x q H'=>H' la=some (cY A dx v1 v2 v3 (.int x.1) (.int x.2) v6 v7 v8 v9)->x.1.natAbs < 10 ^ 15->x.2.natAbs < 10 ^ 15->Q .dh H')
theorem Ig(T:Txt K mg A):bw P w K mg base (B8 P w) 7 A.jx A.lN ["reader","line"] (G1 K A):=by
 refine K5 T.pq HD fun vs H Q E h Rz kz=>?_
 obtain ⟨r,la,b,p,dx,v1,v2,v3,v6,v7,v8,v9,rfl,rd,ela,nlr,rok,rer⟩:=h
 refine kz rfl fun cdv Ar outer s hr=>?_
 refine ⟨_,(ah (bG (pv 1) (aB (sH T) (hr.mono (by decide)) rfl T.mX T.iS.kp T.uB .nil (aA.passes rfl) (aa (pv 0) ai)) rfl)
   (ah (cJ (bM (pv 0) T.az T.aJ (aG T) (hr.mono (by decide)) T.aK .nil (aA.passes rfl) (aa (gX (aa cV ai)) ai)))
   (ah (bG (pv 1) (aB (sH T) (hr.mono (by decide)) rfl T.mX T.iS.kp T.uB .nil (aA.passes rfl) (aa (pv 0) ai)) rfl)
   (aj (cJ (bM (pv 0) T.az T.aJ (aG T) (hr.mono (by decide)) T.aK .nil (aA.passes rfl) (aa (gX (aa (aC rfl T.kP) ai)) ai))))))),?_⟩
 dsimp only at rok rer
 obtain ⟨dxr,t,e,tx⟩:=id rd
 have wk: ∀ {H1 H2:Hp},Kf (· ≠r) H1 H2->Kf (fun c=>c≠r/\c≠la) H1 H2:=fun k=>k.mono fun b o h _=>h.1
 refine ⟨_,rfl,r,b,p,rfl,rd,fun x q1 H1 ex k1 rd1=>?_,fun er he=>(rer er (by rw [he];rfl)).tX Kf.refl fun b o h _=>h.1⟩
 rw [ex] at rok rer
 obtain ⟨dx1,t1,e1,tx1⟩:=id rd1
 have ela1:=k1 la _ nlr ela
 refine ⟨_,rfl,la,_,dx,_,rfl,ela1,T.aE,T.jN,(by show 9 < 1000;decide),?_⟩
 have e2:upd H1 la (cY A dx v1 v2 v3 (.int x) (.int 0) v6 v7 v8 v9) r=some (bB A dx1 (.str t1) (.int (q1:Int))):=by rw [ak (Ne.symm nlr)];exact e1
 have k2:Kf (fun c=>c≠r/\c≠la) H (upd H1 la (cY A dx v1 v2 v3 (.int x) (.int 0) v6 v7 v8 v9)):=(wk k1).trans (Kf.put (by simp))
 have ela2:upd H1 la (cY A dx v1 v2 v3 (.int x) (.int 0) v6 v7 v8 v9) la=some (cY A dx v1 v2 v3 (.int x) (.int 0) v6 v7 v8 v9):=af
 rw [DZ]
 generalize upd H1 la (cY A dx v1 v2 v3 (.int x) (.int 0) v6 v7 v8 v9)=H2 at e2 k2 ela2
 refine ⟨_,rfl,r,_,_,rfl,e2,rfl,(by show 1<=sizeLine;decide),fun wa hwa=>?_⟩
 have e2':upd H2 wa (.tup [.str " "]) r=some (bB A dx1 (.str t1) (.int (q1:Int))):=by rw [ak (ao e2 hwa)];exact e2
 refine ⟨r,wa,b,q1,[[32]],rfl,⟨dx1,t1,e2',tx1⟩,jn.of (by rw [af,lE];rfl),sE,fun w q3 H3 ew k3 rd3=>?_,fun er he=>?_⟩
 rotate_left
 ·refine (rer er ?_).tX (k2.trans (Kf.new hwa)) fun b o h _=>h.1
  show Tide.blank (cur b q1) >>= _=_
  rw [show Tide.blank (cur b q1)= .error er from tL (by decide) (by decide) he]
  rfl
 obtain ⟨rfl,ewl⟩:=BK (by decide) (by decide) ew
 have ebl:Tide.blank (cur b q1)= .ok (cur b q3):=ewl
 have kk3:Kf (fun c=>c≠r/\c≠la) H H3:=(k2.trans (Kf.new hwa)).trans (wk k3)
 have ela3:H3 la=_:=k3 la _ nlr (by rw [ak (ao ela2 hwa)];exact ela2)
 refine ⟨_,rfl,r,b,q3,rfl,rd3,fun y q4 H4 ey k4 rd4=>?_,fun er he=>(rer er ?_).tX kk3 fun b o h _=>h.1⟩
 rotate_left
 ·show Tide.blank (cur b q1) >>= _=_
  rw [ebl]
  show Tide.number (cur b q3) >>= _=_
  rw [he]
  rfl
 obtain ⟨dx4,t4,e4,tx4⟩:=id rd4
 have ela4:=k4 la _ nlr ela3
 refine ⟨_,rfl,la,_,dx,_,rfl,ela4,T.aE,T.kX,(by show 9 < 1000;decide),?_⟩
 have e5:upd H4 la (cY A dx v1 v2 v3 (.int x) (.int y) v6 v7 v8 v9) r=some (bB A dx4 (.str t4) (.int (q4:Int))):=by rw [ak (Ne.symm nlr)];exact e4
 have k5:Kf (fun c=>c≠r/\c≠la) H (upd H4 la (cY A dx v1 v2 v3 (.int x) (.int y) v6 v7 v8 v9)):=(kk3.trans (wk k4)).trans (Kf.put (by simp))
 have ela5:upd H4 la (cY A dx v1 v2 v3 (.int x) (.int y) v6 v7 v8 v9) la=some (cY A dx v1 v2 v3 (.int x) (.int y) v6 v7 v8 v9):=af
 rw [Gs]
 generalize upd H4 la (cY A dx v1 v2 v3 (.int x) (.int y) v6 v7 v8 v9)=H5 at e5 k5 ela5
 refine ⟨_,rfl,r,_,_,rfl,e5,rfl,(by show 1<=sizeLine;decide),fun wb hwb=>?_⟩
 have e5':upd H5 wb (.tup [.str "\n"]) r=some (bB A dx4 (.str t4) (.int (q4:Int))):=by rw [ak (ao e5 hwb)];exact e5
 refine ⟨r,wb,b,q4,[[10]],rfl,⟨dx4,t4,e5',tx4⟩,jn.of (by rw [af,xw];rfl),KJ,fun w q6 H6 ew2 k6 rd6=>?_,fun er he=>?_⟩
 ·obtain ⟨rfl,ewl2⟩:=BK (by decide) (by decide) ew2
  refine rok (x,y) q6 H6 ?_ ((k5.trans (Kf.new hwb)).trans (wk k6)) rd6 (k6 la _ nlr (by rw [ak (ao ela5 hwb)];exact ela5)) (C8 ex) (C8 ey)
  show Tide.blank (cur b q1) >>= _=_
  rw [ebl]
  show Tide.number (cur b q3) >>= _=_
  rw [ey]
  show Tide.lit [10] (cur b q4) >>= _=_
  rw [ewl2]
  rfl
 ·refine (rer er ?_).tX (k5.trans (Kf.new hwb)) fun b o h _=>h.1
  show Tide.blank (cur b q1) >>= _=_
  rw [ebl]
  show Tide.number (cur b q3) >>= _=_
  rw [ey]
  show Tide.lit [10] (cur b q4) >>= _=_
  rw [tL (by decide) (by decide) he]
  rfl
theorem VD{C dx C' dx':Addr}{fs fs':List (Str×V)}(h:fs.length≠fs'.length):HO.ins C dx fs≠ .ins C' dx' fs':=fun z=>by
 injection z with _ _ z
 exact h (by rw [z])
theorem Tf{may:Bytes}{c d:Cur}{l:List Term}{w:Bytes}(h:cU may c= .ok ((l,w),d)):w ∈ bh may:=by
 unfold cU at h
 refine PJ.aX h fun z e h=>?_
 obtain ⟨l',k,c'⟩:=z
 rw [Co] at h
 refine PJ.aX h fun y e2 h=>?_
 obtain ⟨w',d'⟩:=y
 have hw:w'=w:=congrArg (fun z=>z.1.2) (Except.ok.inj h)
 subst hw
 unfold yo at e2
 cases k with
 | none=>
  have: [10]=w':=congrArg Prod.fst (Except.ok.inj e2)
  rw [<-this]
  exact Za _ YN
 | some x=>
  rcases Ls e with hk | ⟨y,hy,hk⟩
  ·cases hk
  ·cases hk
   have e2':(Tide.lit (aQ x) c').map (fun d=>(wordOf x,d))= .ok (w',d'):=e2
   cases hl:Tide.lit (aQ x) c' with
   | error e=>rw [hl] at e2';cases e2'
   | ok d2=>
    rw [hl] at e2'
    have:wordOf x=w':=congrArg Prod.fst (Except.ok.inj e2')
    rw [<-this]
    exact yZ.mpr hy
theorem Jo{letter:UInt8}{later:Bytes}{n:Nat}{c d:Cur}{x:Part}{w:Bytes}(h:AS letter later n c= .ok ((x,w),d)):w ∈ bh ((if n + 1 < 8 then [letter] else [])++later):=by
 unfold AS at h
 refine PJ.aX h fun z _ h=>?_
 refine PJ.aX h fun c2 _ h=>?_
 refine PJ.aX h fun y e h=>?_
 obtain ⟨⟨l,w'⟩,d'⟩:=y
 have hw:w'=w:=congrArg (fun z=>z.1.2) (Except.ok.inj h)
 subst hw
 exact Tf e
theorem OV:(Str.ofString " turn ":Str)=st (wordOf 116):=by decide +kernel
theorem Cb:(Str.ofString " factor ":Str)=st (wordOf 102):=by decide +kernel
theorem BJ:(Str.ofString " shift ":Str)=st (wordOf 115):=by decide +kernel
theorem RT:wv PM.j6= [.str "90",.str "180",.str "270"]:=by decide +kernel
theorem NC:goodW PM.j6=true:=by decide +kernel
theorem SX: ∀w ∈ PM.j6,intText? (st w)=some ((90 * PM.tN w:Nat):Int)/\(st w).length<=640/\PM.tN w<=3:=by decide +kernel
theorem qN(a b:Bytes):decide (V.str (st a)=V.str (st b))=decide (a=b):=by
 by_cases h:a=b
 ·subst h;simp
 ·rw [YJ h,YJ (fun z=>h (sD (V.str.inj z)))]
structure sV(A:Ad)(H:Hp)(r la ta fa sa dx:Addr)(v1 v2 v3 v4 v5:V)(b:Bytes)(H1:Hp)(s:List Term)(tq:Nat)(fs ss:List Part)(q:Nat):Prop where
 kf:Kf (fun c=>c≠r/\c≠la/\c≠ta/\c≠fa/\c≠sa) H H1
 rd:gW A H1 r b q
 ln:H1 la=some (cY A dx v1 v2 v3 v4 v5 (.ref ta) (.int ((90 * tq:Nat):Int)) (.ref fa) (.ref sa))
 ts: ∃vs,H1 ta=some (.lst vs)/\Paired (sj (fun c=>H c=none) H1) vs s
 WE: ∃vs,H1 fa=some (.lst vs)/\Paired (oz (fun c=>H c=none) H1) vs fs
 Xf: ∃vs,H1 sa=some (.lst vs)/\Paired (oz (fun c=>H c=none) H1) vs ss
 l1:s.length<=8
 l2:fs.length<=8
 l3:ss.length<=8
 Xp:tq<=3
def Xv(s:List Term)(tq:Nat)(fs:List Part)(z:(List Part×Bytes)×Cur):Except Nat ((List Term×Nat×List Part×List Part)×Cur):= .ok ((s,tq,fs,z.1.1),z.2)
def WZ(s:List Term)(tq:Nat)(z:(List Part×Bytes)×Cur):Except Nat ((List Term×Nat×List Part×List Part)×Cur):=bz 115 [] 8 z.1.2 [] z.2 >>= Xv s tq z.1.1
theorem Mj(c:Cur):kH c=(cU [116,102,115] c >>= fun (a:(List Term×Bytes)×Cur)=>qg a.1.2 a.2 >>= fun (t:(Nat×Bytes)×Cur)=>bz 102 [115] 8 t.1.2 [] t.2 >>= WZ a.1.1 t.1.1):=rfl
theorem F0{letter:UInt8}{later:Bytes}{f:Nat}{w:Bytes}{l:List Part}{c:Cur}(h: ¬w=wordOf letter):bz letter later f w l c= .ok ((l,w),c):=by
 cases f with
 | zero=>rfl
 | succ f=>rw [bz,if_neg h]
theorem Lq{letter:UInt8}{later:Bytes}{l:List Part}{c:Cur}(h:l.length < 8):bz letter later (8 - l.length) (wordOf letter) l c=(AS letter later l.length c >>= fun (y:(Part×Bytes)×Cur)=>bz letter later (8 - (l++ [y.1.1]).length) y.1.2 (l++ [y.1.1]) y.2):=by
 rw [show 8 - l.length=(8 - (l.length + 1)) + 1 by lia,bz,if_pos rfl]
 congr 1
 funext y
 rw [YH]
 rfl
theorem e_:ay ["reader","line","behind"] ["reader","line"] (aq mw):=jv rfl (by decide +kernel)
def xM(K:W.Frag)(A:Ad):Sp:=fun vs H Q E=> ∃r la b p dx v1 v2 v3 v4 v5 ta fa sa,vs= [.ref r,.ref la]/\gW A H r b p/\H la=some (cY A dx v1 v2 v3 v4 v5 (.ref ta) (.int 0) (.ref fa) (.ref sa))/\H ta=some (.lst [])/\H fa=some (.lst [])/\H sa=some (.lst [])/\ta≠fa/\ta≠sa/\fa≠sa/\Reads A E (fun c=>c≠r/\c≠la/\c≠ta/\c≠fa/\c≠sa) H r b p kH (fun x q H'=>sV A H r la ta fa sa dx v1 v2 v3 v4 v5 b H' x.1 x.2.1 x.2.2.1 x.2.2.2 q->Q .dh H')
theorem xN(T:Txt K mg A):bw P w K mg base (B8 P w) 8 A.cG A.dP ["reader","line"] (xM K A):=by
 refine K5 T.fT e_ fun vs H Q E h Rz kz=>?_
 obtain ⟨r,la,b,p,dx,v1,v2,v3,v4,v5,ta,fa,sa,rfl,rd,ela,eta,efa,esa,ntf,nts,nfs,rok,rer⟩:=h
 refine kz rfl fun cdv Ar outer s hr=>?_
 refine ⟨_,(ah (aF (i:=2) e_.nd rfl (Or.inl rfl) (aB (ua T) (hr.mono (by decide)) rfl T.pS T.lH.kp T.wX .nil (aA.passes rfl) (aa (pv 0) (aa (au (pv 1) rfl) (aa (gX (aa (aC rfl T.oK) (aa (aC rfl T.vB) (aa (aC rfl T.wR) (aa (aC rfl T.kP) ai))))) ai)))))
   (ah (b6 (aO fQ (pv 2) (aC rfl T.oK) (aT _)) (ah (bG (pv 1) (vF wz rfl T.MT (by decide +kernel) (aa (bM (pv 0) T.az T.aJ (aG T) (hr.mono (by decide)) T.aK .nil (aA.passes rfl) (aa (aC rfl T.Jq) ai)) ai)) rfl)
   (aj (aF (i:=2) e_.nd rfl (Or.inl rfl) (bM (pv 0) T.az T.aJ (aG T) (hr.mono (by decide)) T.aK .nil (aA.passes rfl) (aa (gX (aa (aC rfl T.vB) (aa (aC rfl T.wR) (aa (aC rfl T.kP) ai)))) ai))))) aU)
   (ah (ow fG (aO fQ (pv 2) (aC rfl T.vB) (aT _)) (aj (aF (i:=2) e_.nd rfl (Or.inl rfl) (aB (BC T) (hr.mono (by decide)) rfl T.tR T.nX.kp T.DB .nil (aA.passes rfl) (aa (pv 0) (aa (au (pv 1) rfl) (aa (aC rfl T.vB) (aa (gX (aa (aC rfl T.wR) (aa (aC rfl T.kP) ai))) ai))))))))
   (aj (ow fG (aO fQ (pv 2) (aC rfl T.wR) (aT _)) (aj (aF (i:=2) e_.nd rfl (Or.inl rfl) (aB (BC T) (hr.mono (by decide)) rfl T.tR T.nX.kp T.DB .nil (aA.passes rfl) (aa (pv 0) (aa (au (pv 1) rfl) (aa (aC rfl T.wR) (aa (gX (aa (aC rfl T.kP) ai)) ai)))))))))))),?_⟩
 obtain ⟨dxr,t,e,tx⟩:=id rd
 have nrl:r≠la:=yX e ela (VD (by simp))
 have nrt:r≠ta:=yX e eta (by intro z;cases z)
 have nrf:r≠fa:=yX e efa (by intro z;cases z)
 have nrs:r≠sa:=yX e esa (by intro z;cases z)
 have nlt:la≠ta:=yX ela eta (by intro z;cases z)
 have nlf:la≠fa:=yX ela efa (by intro z;cases z)
 have nls:la≠sa:=yX ela esa (by intro z;cases z)
 have hnew: ∀c,H c=none->c≠r/\c≠la/\c≠ta/\c≠fa/\c≠sa:=fun c hc=>⟨(fun z=>by rw [z,e] at hc;cases hc),(fun z=>by rw [z,ela] at hc;cases hc),(fun z=>by rw [z,eta] at hc;cases hc),(fun z=>by rw [z,efa] at hc;cases hc),(fun z=>by rw [z,esa] at hc;cases hc)⟩
 have onlyR: ∀ {H1 H2:Hp} {s:List Term} {tq:Nat} {fs ss:List Part} {q q2:Nat},sV A H r la ta fa sa dx v1 v2 v3 v4 v5 b H1 s tq fs ss q->Kf (· ≠r) H1 H2->gW A H2 r b q2->sV A H r la ta fa sa dx v1 v2 v3 v4 v5 b H2 s tq fs ss q2:=fun S k rd2=>by
  obtain ⟨vs1,a1,p1⟩:=S.ts
  obtain ⟨vs2,a2,p2⟩:=S.WE
  obtain ⟨vs3,a3,p3⟩:=S.Xf
  have kG:Kf (fun c=>H c=none) _ _:=k.mono fun c o h _=>(hnew c h).1
  exact ⟨S.kf.trans (k.mono fun c o h _=>h.1),rd2,k la _ (Ne.symm nrl) S.ln,⟨vs1,k ta _ (Ne.symm nrt) a1,Paired.ja (fun _ _ h=>h.keep kG) p1⟩,⟨vs2,k fa _ (Ne.symm nrf) a2,Paired.ja (fun _ _ h=>h.keep kG) p2⟩,⟨vs3,k sa _ (Ne.symm nrs) a3,Paired.ja (fun _ _ h=>h.keep kG) p3⟩,S.l1,S.l2,S.l3,S.Xp⟩
 have stE: ∀ {H1:Hp} {er:Nat} {G:Addr->Prop},kH (cur b p)= .error er->Kf (fun c=>c≠r/\c≠la/\c≠ta/\c≠fa/\c≠sa) H H1->(∀c,c≠r/\c≠la/\c≠ta/\c≠fa/\c≠sa->G c)->Er A E G H1 1 er:=fun he k hg=>(rer _ he).tX k fun c o h _=>hg c h
 have shifts: ∀(m:Nat) (ss:List Part) (s:List Term) (tq:Nat) (fs:List Part) (q1:Nat) (H1:Hp) (w:Bytes),m=8 - ss.length->sV A H r la ta fa sa dx v1 v2 v3 v4 v5 b H1 s tq fs ss q1->(w=wordOf 115->ss.length < 8)->kH (cur b p)=(bz 115 [] (8 - ss.length) w ss (cur b q1) >>= Xv s tq fs)->
   Fi (xj (Ep U8 (cK 2) (tC (.str " shift ")))) (DL (zU (rK K A) [] E (bC (cK 0) (bC (Cu K (cK 1) "shifts") (bC (tC (.str " shift ")) (bC (LI (bC (tC (.str "\n")) mQ)) mQ))))) (mR 2)) {nx:=fun _ H'=>Q .dh H',rt:=Q} [some (.ref r),some (.ref la),some (.str (st w))] H1:=fun m0 ss0 s tq fs q10 H10 w0 hm0 S0 hw0 es0=>by
  refine ⟨fun m σ H'=> ∃(ss:List Part) (q2:Nat) (w:Bytes),m=8 - ss.length/\σ= [some (.ref r),some (.ref la),some (.str (st w))]/\sV A H r la ta fa sa dx v1 v2 v3 v4 v5 b H' s tq fs ss q2/\(w=wordOf 115->ss.length < 8)/\kH (cur b p)=(bz 115 [] (8 - ss.length) w ss (cur b q2) >>= Xv s tq fs),⟨_,ss0,q10,w0,rfl,rfl,S0,hw0,es0⟩,?_⟩
  clear S0 es0 hw0 hm0 m0 ss0 q10 H10 w0
  rintro m σ H1 ⟨ss,q1,w,rfl,rfl,S,hw,es⟩
  refine ⟨_,rfl,rfl,_,rfl,?_⟩
  rw [BJ,qN]
  by_cases h:w=wordOf 115
  ·subst h
   rw [YQ rfl]
   have hl:=hw rfl
   rw [Lq hl] at es
   refine cC ⟨fun σ' H'=> ∃(ss':List Part) (q2:Nat) (w:Bytes),ss'.length=ss.length + 1/\σ'= [some (.ref r),some (.ref la),some (.str (st w))]/\sV A H r la ta fa sa dx v1 v2 v3 v4 v5 b H' s tq fs ss' q2/\(w=wordOf 115->ss'.length < 8)/\kH (cur b p)=(bz 115 [] (8 - ss'.length) w ss' (cur b q2) >>= Xv s tq fs),
    fun σ' H' ⟨ss',q2,w,z1,z2,z3,z4,z5⟩=>⟨8 - ss'.length,by lia,ss',q2,w,rfl,z2,z3,z4,z5⟩,?_⟩
   obtain ⟨vs3,a3,p3⟩:=S.Xf
   have lvs:vs3.length=ss.length:=Paired.length p3
   refine ⟨_,rfl,_,rfl,_,_,_,_,_,rfl,S.ln,T.aE,T.gr,rfl,(by show 1<=sizeLine;decide),fun oa hoa=>?_⟩
   have k2:Kf (fun _=>True) H1 (upd H1 oa (.tup [.str "\n"])):=Kf.new hoa
   obtain ⟨dx1,t1,e1,tx1⟩:=id S.rd
   refine ⟨r,sa,oa,b,q1,115,[],vs3,rfl,⟨dx1,t1,k2 _ _ trivial e1,tx1⟩,k2 _ _ trivial a3,by rw [lvs];exact hl,jn.of (by rw [af,xw];rfl),by decide +kernel,by decide +kernel,fun x q2 H2 ex k3 rd2 v hv pv=>?_,fun er he=>?_⟩
   ·obtain ⟨vs1,a1,p1⟩:=S.ts
    obtain ⟨vs2,a2,p2⟩:=S.WE
    have k12:Kf (fun c=>c≠r/\c≠sa) H1 H2:=fun c o h hc=>k3 c o h (k2 c o trivial hc)
    have kG:Kf (fun c=>H c=none) H1 H2:=k12.mono fun c o h _=>⟨(hnew c h).1,(hnew c h).2.2.2.2⟩
    rw [lvs] at ex
    rw [ex] at es
    have pv':oz (fun c=>H c=none) H2 v x.1:=pv.wide fun c o h _=>by
     cases hh:H c with
     | none=>first | rfl | exact hh
     | some o'=>
      exfalso
      have h':upd H1 oa (.tup [.str "\n"]) c=none:=h
      by_cases z:c≠r/\c≠la/\c≠ta/\c≠fa/\c≠sa
      ·rw [k2 c o' trivial (S.kf c o' z hh)] at h';cases h'
      ·have:H1 c≠none:=by
        by_cases z1:c=r
        ·rw [z1,e1];simp
        by_cases z2:c=la
        ·rw [z2,S.ln];simp
        by_cases z3:c=ta
        ·rw [z3,a1];simp
        by_cases z4:c=fa
        ·rw [z4,a2];simp
        by_cases z5:c=sa
        ·rw [z5,a3];simp
        exact absurd ⟨z1,z2,z3,z4,z5⟩ z
       cases h1c:H1 c with
       | none=>exact this h1c
       | some o2=>rw [k2 c o2 trivial h1c] at h';cases h'
    refine ⟨ss++ [x.1],q2,x.2,by rw [YH];rfl,rfl,⟨S.kf.trans (k12.mono fun c o h _=>⟨h.1,h.2.2.2.2⟩),rd2,k12 la _ ⟨Ne.symm nrl,nls⟩ S.ln,⟨vs1,k12 ta _ ⟨Ne.symm nrt,nts⟩ a1,Paired.ja (fun _ _ h=>h.keep kG) p1⟩,⟨vs2,k12 fa _ ⟨Ne.symm nrf,nfs⟩ a2,Paired.ja (fun _ _ h=>h.keep kG) p2⟩,⟨_,hv,Paired.PR (Paired.ja (fun _ _ h=>h.keep kG) p3) pv'⟩,S.l1,S.l2,by rw [YH];show ss.length + 1<=8;lia,S.Xp⟩,fun hw2=>?_,es⟩
    have:=Jo (x:=x.1) (w:=x.2) ex
    rw [hw2,yZ,Y0] at this
    rw [YH]
    show ss.length + 1 < 8
    by_cases z:ss.length + 1 < 8
    ·exact z
    ·rw [if_neg z] at this
     cases this
   ·rw [lvs] at he
    exact stE (by rw [es,he];rfl) (S.kf.trans (k2.mono fun _ _ _ _=>trivial)) fun c h=>⟨h.1,h.2.2.2.2⟩
  ·rw [YJ h]
   refine cM (rok (s,tq,fs,ss) q1 H1 ?_ S.kf S.rd S)
   rw [es,F0 h]
   rfl
 have factors: ∀(m:Nat) (fs:List Part) (s:List Term) (tq:Nat) (q1:Nat) (H1:Hp) (w:Bytes),m=8 - fs.length->sV A H r la ta fa sa dx v1 v2 v3 v4 v5 b H1 s tq fs [] q1->(w=wordOf 102->fs.length < 8)->kH (cur b p)=(bz 102 [115] (8 - fs.length) w fs (cur b q1) >>= WZ s tq)->
   AJ (Fi (xj (Ep U8 (cK 2) (tC (.str " factor ")))) (DL (zU (rK K A) [] E (bC (cK 0) (bC (Cu K (cK 1) "factors") (bC (tC (.str " factor ")) (bC (LI (bC (tC (.str " shift ")) (bC (tC (.str "\n")) mQ))) mQ))))) (mR 2))) (Fi (xj (Ep U8 (cK 2) (tC (.str " shift ")))) (DL (zU (rK K A) [] E (bC (cK 0) (bC (Cu K (cK 1) "shifts") (bC (tC (.str " shift ")) (bC (LI (bC (tC (.str "\n")) mQ)) mQ))))) (mR 2))) {nx:=fun _ H'=>Q .dh H',rt:=Q} [some (.ref r),some (.ref la),some (.str (st w))] H1:=fun m0 fs0 s tq q10 H10 w0 hm0 S0 hw0 es0=>by
  refine ⟨fun m σ H'=> ∃(fs:List Part) (q2:Nat) (w:Bytes),m=8 - fs.length/\σ= [some (.ref r),some (.ref la),some (.str (st w))]/\sV A H r la ta fa sa dx v1 v2 v3 v4 v5 b H' s tq fs [] q2/\(w=wordOf 102->fs.length < 8)/\kH (cur b p)=(bz 102 [115] (8 - fs.length) w fs (cur b q2) >>= WZ s tq),⟨_,fs0,q10,w0,rfl,rfl,S0,hw0,es0⟩,?_⟩
  clear S0 es0 hw0 hm0 m0 fs0 q10 H10 w0
  rintro m σ H1 ⟨fs,q1,w,rfl,rfl,S,hw,es⟩
  refine ⟨_,rfl,rfl,_,rfl,?_⟩
  rw [Cb,qN]
  by_cases h:w=wordOf 102
  ·subst h
   rw [YQ rfl]
   have hl:=hw rfl
   rw [Lq hl] at es
   refine cC ⟨fun σ' H'=> ∃(fs':List Part) (q2:Nat) (w:Bytes),fs'.length=fs.length + 1/\σ'= [some (.ref r),some (.ref la),some (.str (st w))]/\sV A H r la ta fa sa dx v1 v2 v3 v4 v5 b H' s tq fs' [] q2/\(w=wordOf 102->fs'.length < 8)/\kH (cur b p)=(bz 102 [115] (8 - fs'.length) w fs' (cur b q2) >>= WZ s tq),
    fun σ' H' ⟨fs',q2,w,z1,z2,z3,z4,z5⟩=>⟨8 - fs'.length,by lia,fs',q2,w,rfl,z2,z3,z4,z5⟩,?_⟩
   obtain ⟨vs2,a2,p2⟩:=S.WE
   have lvs:vs2.length=fs.length:=Paired.length p2
   refine ⟨_,rfl,_,rfl,_,_,_,_,_,rfl,S.ln,T.aE,T.dO,rfl,(by show 2<=sizeLine;decide),fun oa hoa=>?_⟩
   have k2:Kf (fun _=>True) H1 (upd H1 oa (.tup [.str " shift ",.str "\n"])):=Kf.new hoa
   obtain ⟨dx1,t1,e1,tx1⟩:=id S.rd
   refine ⟨r,fa,oa,b,q1,102,[115],vs2,rfl,⟨dx1,t1,k2 _ _ trivial e1,tx1⟩,k2 _ _ trivial a2,by rw [lvs];exact hl,jn.of (by rw [af,xw,BJ];rfl),by decide +kernel,by decide +kernel,fun x q2 H2 ex k3 rd2 v hv pv=>?_,fun er he=>?_⟩
   ·obtain ⟨vs1,a1,p1⟩:=S.ts
    obtain ⟨vs3,a3,p3⟩:=S.Xf
    have k12:Kf (fun c=>c≠r/\c≠fa) H1 H2:=fun c o h hc=>k3 c o h (k2 c o trivial hc)
    have kG:Kf (fun c=>H c=none) H1 H2:=k12.mono fun c o h _=>⟨(hnew c h).1,(hnew c h).2.2.2.1⟩
    rw [lvs] at ex
    rw [ex] at es
    have pv':oz (fun c=>H c=none) H2 v x.1:=pv.wide fun c o h _=>by
     cases hh:H c with
     | none=>first | rfl | exact hh
     | some o'=>
      exfalso
      have h':upd H1 oa (.tup [.str " shift ",.str "\n"]) c=none:=h
      by_cases z:c≠r/\c≠la/\c≠ta/\c≠fa/\c≠sa
      ·rw [k2 c o' trivial (S.kf c o' z hh)] at h';cases h'
      ·have:H1 c≠none:=by
        by_cases z1:c=r
        ·rw [z1,e1];simp
        by_cases z2:c=la
        ·rw [z2,S.ln];simp
        by_cases z3:c=ta
        ·rw [z3,a1];simp
        by_cases z4:c=fa
        ·rw [z4,a2];simp
        by_cases z5:c=sa
        ·rw [z5,a3];simp
        exact absurd ⟨z1,z2,z3,z4,z5⟩ z
       cases h1c:H1 c with
       | none=>exact this h1c
       | some o2=>rw [k2 c o2 trivial h1c] at h';cases h'
    refine ⟨fs++ [x.1],q2,x.2,by rw [YH];rfl,rfl,⟨S.kf.trans (k12.mono fun c o h _=>⟨h.1,h.2.2.2.1⟩),rd2,k12 la _ ⟨Ne.symm nrl,nlf⟩ S.ln,⟨vs1,k12 ta _ ⟨Ne.symm nrt,ntf⟩ a1,Paired.ja (fun _ _ h=>h.keep kG) p1⟩,⟨_,hv,Paired.PR (Paired.ja (fun _ _ h=>h.keep kG) p2) pv'⟩,⟨vs3,k12 sa _ ⟨Ne.symm nrs,Ne.symm nfs⟩ a3,Paired.ja (fun _ _ h=>h.keep kG) p3⟩,S.l1,by rw [YH];show fs.length + 1<=8;lia,S.l3,S.Xp⟩,fun hw2=>?_,es⟩
    have:=Jo (x:=x.1) (w:=x.2) ex
    rw [hw2,yZ] at this
    rw [YH]
    show fs.length + 1 < 8
    by_cases z:fs.length + 1 < 8
    ·exact z
    ·rw [if_neg z] at this
     simp at this
   ·rw [lvs] at he
    exact stE (by rw [es,he];rfl) (S.kf.trans (k2.mono fun _ _ _ _=>trivial)) fun c h=>⟨h.1,h.2.2.2.1⟩
  ·rw [YJ h]
   refine cM (shifts _ [] s tq fs q1 H1 w rfl S (fun _=>by decide) ?_)
   rw [es,F0 h]
   rfl
 have base0: ∀ {H1:Hp} {q:Nat},Kf (fun c=>c≠r/\c≠ta) H H1->True:=fun _=>trivial
 have esum:=Mj (cur b p)
 refine ⟨_,rfl,_,rfl,_,_,_,_,_,rfl,ela,T.aE,T.cB,rfl,(by show 4<=sizeLine;decide),fun ea hea=>?_⟩
 have k0:Kf (fun _=>True) H (upd H ea (.tup [.str " turn ",.str " factor ",.str " shift ",.str "\n"])):=Kf.new hea
 refine ⟨r,ta,ea,b,p,[116,102,115],rfl,⟨dxr,t,k0 _ _ trivial e,tx⟩,k0 _ _ trivial eta,jn.of (by rw [af,OV,Cb,BJ,xw];rfl),by decide +kernel,fun a q1 H1 ea1 k1 rd1 S1 l8=>?_,fun er he=>?_⟩
 rotate_left
 ·exact stE (by rw [esum,he];rfl) (k0.mono fun _ _ _ _=>trivial) fun c h=>⟨h.1,h.2.2.1⟩
 rw [ea1] at esum
 have k01:Kf (fun c=>c≠r/\c≠ta) H H1:=fun c o h hc=>k1 c o h (k0 c o trivial hc)
 have S:sV A H r la ta fa sa dx v1 v2 v3 v4 v5 b H1 a.1 0 [] [] q1:=by
  obtain ⟨vs1,a1,p1⟩:=S1.ts
  refine ⟨k01.mono fun c o h _=>⟨h.1,h.2.2.1⟩,rd1,k01 la _ ⟨Ne.symm nrl,nlt⟩ ela,⟨vs1,a1,Paired.ja (fun v y h=>?_) p1⟩,⟨[],k01 fa _ ⟨Ne.symm nrf,Ne.symm ntf⟩ efa,.nil⟩,⟨[],k01 sa _ ⟨Ne.symm nrs,Ne.symm nts⟩ esa,.nil⟩,l8,by decide,by decide,by decide⟩
  refine h.wide fun c o hc _=>?_
  cases hh:H c with
  | none=>first | rfl | exact hh
  | some o'=>
   exfalso
   have h':upd H ea (.tup [.str " turn ",.str " factor ",.str " shift ",.str "\n"]) c=none:=hc
   rw [k0 c o' trivial hh] at h'
   cases h'
 refine ⟨_,rfl,rfl,_,rfl,?_⟩
 rw [OV,qN]
 by_cases h116:a.2=wordOf 116
 ·rw [YQ h116]
  have et:kH (cur b p)=(PM.oneOf PM.j6 (cur b q1) >>= fun (z:Bytes×Cur)=>PM.oneOf (bh [102,115]) z.2 >>= fun (y:Bytes×Cur)=>bz 102 [115] 8 y.1 [] y.2 >>= WZ a.1 (PM.tN z.1)):=by
   rw [esum]
   show qg a.2 (cur b q1) >>= _=_
   unfold qg
   rw [if_pos h116]
   cases PM.oneOf PM.j6 (cur b q1) with
   | error e=>rfl
   | ok z=>
    show (PM.oneOf (bh [102,115]) z.2 >>= _) >>= _=PM.oneOf (bh [102,115]) z.2 >>= _
    cases PM.oneOf (bh [102,115]) z.2 <;> rfl
  obtain ⟨dx1,t1,e1,tx1⟩:=id S.rd
  refine cC ⟨_,rfl,r,_,_,rfl,e1,rfl,r,A.wD,b,q1,PM.j6,rfl,S.rd,by rw [RT];exact T.Ul.sq,NC,fun w q2 H2 ew k2 rd2=>?_,fun er he=>stE (by rw [et,he];rfl) S.kf fun c h=>h.1⟩
  rw [ew] at et
  have tt:=SX w (CZ ew)
  have S2:=onlyR S k2 rd2
  refine ⟨_,_,rfl,tt.1,tt.2.1,_,rfl,la,_,dx,_,rfl,S2.ln,T.aE,T.kR,(by show 9 < 1000;decide),?_⟩
  rw [FU]
  obtain ⟨dx2,t2,e2,tx2⟩:=id S2.rd
  have S3:sV A H r la ta fa sa dx v1 v2 v3 v4 v5 b (upd H2 la (cY A dx v1 v2 v3 v4 v5 (.ref ta) (.int ((90 * PM.tN w:Nat):Int)) (.ref fa) (.ref sa))) a.1 (PM.tN w) [] [] q2:=by
   obtain ⟨vs1,a1,p1⟩:=S2.ts
   obtain ⟨vs2,a2,p2⟩:=S2.WE
   obtain ⟨vs3,a3,p3⟩:=S2.Xf
   have kG:Kf (fun c=>H c=none) H2 (upd H2 la (cY A dx v1 v2 v3 v4 v5 (.ref ta) (.int ((90 * PM.tN w:Nat):Int)) (.ref fa) (.ref sa))):=Kf.put (by rw [ela];simp)
   exact ⟨S2.kf.trans (Kf.put (by simp)),⟨dx2,t2,by rw [ak nrl];exact e2,tx2⟩,af,⟨vs1,by rw [ak (Ne.symm nlt)];exact a1,Paired.ja (fun _ _ h=>h.keep kG) p1⟩,⟨vs2,by rw [ak (Ne.symm nlf)];exact a2,Paired.ja (fun _ _ h=>h.keep kG) p2⟩,⟨vs3,by rw [ak (Ne.symm nls)];exact a3,Paired.ja (fun _ _ h=>h.keep kG) p3⟩,S2.l1,S2.l2,S2.l3,tt.2.2⟩
  generalize upd H2 la (cY A dx v1 v2 v3 v4 v5 (.ref ta) (.int ((90 * PM.tN w:Nat):Int)) (.ref fa) (.ref sa))=H3 at S3
  obtain ⟨dx3,t3,e3,tx3⟩:=id S3.rd
  refine ⟨_,rfl,r,_,_,rfl,e3,rfl,(by show 3<=sizeLine;decide),fun wa hwa=>?_⟩
  have k3:Kf (fun _=>True) H3 (upd H3 wa (.tup [.str " factor ",.str " shift ",.str "\n"])):=Kf.new hwa
  refine ⟨r,wa,b,q2,bh [102,115],rfl,⟨dx3,t3,k3 _ _ trivial e3,tx3⟩,jn.of (by rw [af,Cb,BJ,xw];rfl),by decide +kernel,fun y q4 H4 ey k4 rd4=>?_,fun er he=>stE (by rw [et];show PM.oneOf (bh [102,115]) (cur b q2) >>= _=_;rw [he];rfl) (S3.kf.trans (k3.mono fun _ _ _ _=>trivial)) fun c h=>h.1⟩
  refine factors _ [] a.1 (PM.tN w) q4 H4 y rfl (onlyR S3 (fun c o h hc=>k4 c o h (k3 c o trivial hc)) rd4) (fun _=>by decide) ?_
  rw [et]
  show PM.oneOf (bh [102,115]) (cur b q2) >>= _=_
  rw [ey]
  rfl
 ·rw [YJ h116]
  refine cM (factors _ [] a.1 0 q1 H1 a.2 rfl S (fun _=>by decide) ?_)
  rw [esum]
  show qg a.2 (cur b q1) >>= _=_
  unfold qg
  rw [if_neg h116]
  rfl
theorem vd:(Str.ofString "angle ":Str)=st PM.gY:=by decide +kernel
theorem mZ:(Str.ofString "wave ":Str)=st PM.lq:=by decide +kernel
theorem Kg:(Str.ofString "sum ":Str)=st PM.CL:=by decide +kernel
theorem Sz{H H1:Hp}{r a:Addr}{o1:HO}(k:Kf (· ≠r) H H1)(h1:H1 r=some o1):H1 a=none->H a=none:=fun ha=>l9 k h1 ha
theorem rJ:ay ["reader","word","place","line"] ["reader"] (aq zf):=jv rfl (by decide +kernel)
def KC(K:W.Frag)(A:Ad):Sp:=fun vs H Q E=> ∃r b p,vs= [.ref r]/\gW A H r b p/\Reads A E (· ≠r) H r b p Tide.lineIn (fun l q H'=> ∀v,iV A (fun c=>H c=none) H' v l->Q v H')
theorem JB(T:Txt K mg A):bw P w K mg base (B8 P w) 9 A.kO A.nV ["reader"] (KC K A):=by
 refine K5 T.qz rJ fun vs H Q E h Rz kz=>?_
 obtain ⟨r,b,p,rfl,rd,rok,rer⟩:=h
 refine kz rfl fun cdv Ar outer s hr=>?_
 refine ⟨_,(ah (aF (i:=1) rJ.nd rfl (Or.inl rfl) (bM (pv 0) T.az T.aJ (aG T) (hr.mono (by decide)) T.aK .nil (aA.passes rfl) (aa (gX (aa (aC rfl T.rP) (aa (aC rfl T.C7) (aa (aC rfl T.Jd) ai)))) ai)))
   (ah (aF (i:=2) rJ.nd rfl (Or.inl rfl) (au (pv 0) rfl))
   (ah (aF (i:=3) rJ.nd rfl (Or.inl rfl) (jz T.AG (DV T) (hr.mono (by decide)) rfl T.Cq T.GH .nil aL (aa (pv 1) (aa (pv 2) (aa (d8 (pv 0) T.az T.nu (mD T) (hr.mono (by decide)) T.ng .nil (aA.passes rfl)) ai)))))
   (ah (cJ (bM (pv 0) T.az T.aJ (aG T) (hr.mono (by decide)) T.aK .nil (aA.passes rfl) (aa (gX (aa cV ai)) ai)))
   (ah (b6 (aO fQ (pv 1) (aC rfl T.rP) (aT _)) (aj (cJ (aB (Ig T) (hr.mono (by decide)) rfl T.wW T.pq.kp T.K6 .nil (aA.passes rfl) (aa (pv 0) (aa (pv 3) ai))))) (aj (b6 (aO fQ (pv 1) (aC rfl T.C7) (aT _)) (aj (cJ (aB (xN T) (hr.mono (by decide)) rfl T.l_ T.fT.kp T.zP .nil (aA.passes rfl) (aa (pv 0) (aa (pv 3) ai))))) (aj (cJ (aB (ua T) (hr.mono (by decide)) rfl T.pS T.lH.kp T.wX .nil (aA.passes rfl) (aa (pv 0) (aa (au (pv 3) rfl) (aa (gX (aa (aC rfl T.kP) ai)) ai)))))))))
   (aj (aD (pv 3)))))))),?_⟩
 obtain ⟨dxr,t,e,tx⟩:=id rd
 simp only [TN] at rok rer
 unfold KG at rok rer
 refine ⟨_,rfl,r,_,_,rfl,e,rfl,(by show 3<=sizeLine;decide),fun wa hwa=>?_⟩
 have k0:Kf (· ≠r) H (upd H wa (.tup [.str "angle ",.str "wave ",.str "sum "])):=Kf.new hwa
 have e0:upd H wa (.tup [.str "angle ",.str "wave ",.str "sum "]) r=some (bB A dxr (.str t) (.int (p:Int))):=by rw [ak (ao e hwa)];exact e
 refine ⟨r,wa,b,p,[PM.gY,PM.lq,PM.CL],rfl,⟨dxr,t,e0,tx⟩,jn.of (by rw [af,vd,mZ,Kg];rfl),by decide +kernel,fun w q1 H1 ew k1 rd1=>?_,fun er he=>(rer er (by rw [he];rfl)).step k0 fun _ _ h _=>h⟩
 rw [ew] at rok rer
 have hwm:=CZ ew
 obtain ⟨dx1,t1,e1,tx1⟩:=id rd1
 have k01:=k0.trans k1
 refine ⟨_,rfl,_,_,_,_,_,rfl,e1,T.az,T.aI,rfl,?_⟩
 refine ⟨_,rfl,_,rfl,_,rfl,r,_,_,rfl,e1,rfl,r,b,q1,rfl,rd1,fun n q2 H2 en k2 rd2=>?_,fun er he=>(rer er ?_).step k01 fun _ _ h _=>h⟩
 rotate_left
 ·show Tide.nameIn (cur b q1) >>= _=_
  rw [he]
  rfl
 have k02:=k01.trans k2
 obtain ⟨dx2,t2,e2,tx2⟩:=id rd2
 intro x dx hx hdx ndx
 have nxr:x≠r:=fun z=>by rw [z,e2] at hx;cases hx
 have ndr:dx≠r:=fun z=>by rw [z,e2] at hdx;cases hdx
 refine ⟨x,dx,_,_,_,rfl,af,fun ta fa sa H3 nta nfa OW ntf nts nfs k3 ex eta efa esa=>⟨rfl,?_⟩⟩
 have ntx:ta≠x:=fun z=>by rw [z,af] at nta;cases nta
 have nfx:fa≠x:=fun z=>by rw [z,af] at nfa;cases nfa
 have nsx:sa≠x:=fun z=>by rw [z,af] at OW;cases OW
 have ntd:ta≠dx:=fun z=>by rw [z,ak ndx,af] at nta;cases nta
 have nfd:fa≠dx:=fun z=>by rw [z,ak ndx,af] at nfa;cases nfa
 have nsd:sa≠dx:=fun z=>by rw [z,ak ndx,af] at OW;cases OW
 rw [ak ntx,ak ntd] at nta
 rw [ak nfx,ak nfd] at nfa
 rw [ak nsx,ak nsd] at OW
 have k23:Kf (fun _=>True) H2 H3:=fun c o _ hc=>k3 c o (fun z=>by rw [z,hx] at hc;cases hc) (by rw [ak (ao hc hx),ak (ao hc hdx)];exact hc)
 have k03:Kf (· ≠r) H H3:=k02.trans (k23.mono fun _ _ _ _=>trivial)
 have e3:H3 r=some (bB A dx2 (.str t2) (.int (q2:Int))):=k23 _ _ trivial e2
 have hHx:H x=none:=l9 k02 e2 hx
 have hHta:H ta=none:=l9 k02 e2 nta
 have hHfa:H fa=none:=l9 k02 e2 nfa
 have hHsa:H sa=none:=l9 k02 e2 OW
 clear k3 k23
 refine ⟨_,rfl,r,_,_,rfl,e3,rfl,(by show 1<=sizeLine;decide),fun wb hwb=>?_⟩
 have k4:Kf (fun _=>True) H3 (upd H3 wb (.tup [.str " "])):=Kf.new hwb
 refine ⟨r,wb,b,q2,[[32]],rfl,⟨dx2,t2,k4 _ _ trivial e3,tx2⟩,jn.of (by rw [af,lE];rfl),sE,fun w2 q5 H5 ew2 k5 rd5=>?_,fun er he=>(rer er ?_).step (k03.trans (k4.mono fun _ _ _ _=>trivial)) fun _ _ h _=>h⟩
 rotate_left
 ·show Tide.nameIn (cur b q1) >>= _=_
  rw [en]
  show Tide.blank (cur b q2) >>= _=_
  rw [show Tide.blank (cur b q2)= .error er from tL (by decide) (by decide) he]
  rfl
 obtain ⟨rfl,ewl⟩:=BK (by decide) (by decide) ew2
 have rok2: ∀(l:Line) (q6:Nat) (H6:Hp),Ej w n q1 (cur b q5)= .ok (l,cur b q6)->Kf (· ≠r) H H6->gW A H6 r b q6-> ∀v,iV A (fun c=>H c=none) H6 v l->Q v H6:=fun l q6 H6 es=>rok l q6 H6 (by
  show Tide.nameIn (cur b q1) >>= _=_
  rw [en]
  show Tide.blank (cur b q2) >>= _=_
  rw [show Tide.blank (cur b q2)= .ok (cur b q5) from ewl]
  exact es)
 have rer2: ∀er,Ej w n q1 (cur b q5)= .error er->Er A E (· ≠r) H 1 er:=fun er es=>rer er (by
  show Tide.nameIn (cur b q1) >>= _=_
  rw [en]
  show Tide.blank (cur b q2) >>= _=_
  rw [show Tide.blank (cur b q2)= .ok (cur b q5) from ewl]
  exact es)
 clear rok rer
 have k35:Kf (· ≠r) H3 H5:=(k4.mono fun _ _ _ _=>trivial).trans k5
 have k05:Kf (· ≠r) H H5:=k03.trans k35
 obtain ⟨dx5,t5,e5,tx5⟩:=id rd5
 have ntr:ta≠r:=fun z=>by rw [z,e] at hHta;cases hHta
 have nfr:fa≠r:=fun z=>by rw [z,e] at hHfa;cases hHfa
 have nsr:sa≠r:=fun z=>by rw [z,e] at hHsa;cases hHsa
 have ex5:=k35 x _ nxr ex
 have eta5:=k35 ta _ ntr eta
 have efa5:=k35 fa _ nfr efa
 have esa5:=k35 sa _ nsr esa
 have b5: ∀c o,(fun c=>H5 c=none) c->H5 c=some o->(fun c=>H c=none) c:=fun c o h1 h2=>by rw [show H5 c=none from h1] at h2;cases h2
 have bk: ∀c,H5 c=none->H c=none:=fun c=>Sz k05 e5
 unfold Ej at rok2 rer2
 refine ⟨_,rfl,rfl,_,rfl,?_⟩
 rw [vd,qN]
 by_cases h1:w=PM.gY
 ·rw [YQ h1]
  simp only [h1,if_true] at rok2 rer2
  refine cC ⟨_,rfl,_,rfl,r,x,b,q5,dx,_,_,_,_,_,_,_,rfl,rd5,ex5,nxr,fun y q6 H6 ey k6 rd6 el6 h15 h15'=>⟨_,rfl,?_⟩,fun er he=>(rer2 er ?_).tX k05 fun c o h hc=>⟨h,fun z=>by rw [z,hHx] at hc;cases hc⟩⟩
  ·refine rok2 (.angle n q1 y.1 y.2) q6 H6 ?_ (fun c o h hc=>k6 c o ⟨h,fun z=>by rw [z,hHx] at hc;cases hc⟩ (k05 c o h hc)) rd6 (.ref x) ?_
   ·dsimp only at ey
    refine PJ.aX ey fun z1 f1 ey=>?_
    refine PJ.aX ey fun z2 f2 ey=>?_
    refine PJ.aX ey fun z3 f3 ey=>?_
    refine PJ.aX ey fun z4 f4 ey=>?_
    have g:=Except.ok.inj ey
    rw [f1]
    show Tide.blank z1.2 >>= _=_
    rw [f2]
    show Tide.number z2 >>= _=_
    rw [f3]
    show Tide.lit [10] z3.2 >>= _=_
    rw [f4]
    have g1:(z1.1,z3.1)=y:=congrArg Prod.fst g
    have g2:z4=cur b q6:=congrArg Prod.snd g
    show Except.ok (Line.angle n q1 z1.1 z3.1,z4)=_
    rw [g2,<-g1]
   ·refine ⟨x,dx,ta,fa,sa,rfl,hHx,by rw [el6,h1];rfl,⟨hHta,[],k6 ta _ ⟨ntr,ntx⟩ eta5,.nil,YW _⟩,⟨hHfa,[],k6 fa _ ⟨nfr,nfx⟩ efa5,.nil,YW _⟩,⟨hHsa,[],k6 sa _ ⟨nsr,nsx⟩ esa5,.nil,YW _⟩,h15,h15',by show (0:Nat)<=270;decide⟩
  ·dsimp only at he
   cases f1:Tide.number (cur b q5) with
   | error z=>rw [f1] at he;cases he;rfl
   | ok z1=>
    rw [f1] at he
    show Tide.blank z1.2 >>= _=_
    have he:Tide.blank z1.2 >>= _=_:=he
    cases f2:Tide.blank z1.2 with
    | error z=>rw [f2] at he;cases he;rfl
    | ok z2=>
     rw [f2] at he
     show Tide.number z2 >>= _=_
     have he:Tide.number z2 >>= _=_:=he
     cases f3:Tide.number z2 with
     | error z=>rw [f3] at he;cases he;rfl
     | ok z3=>
      rw [f3] at he
      show Tide.lit [10] z3.2 >>= _=_
      have he:Tide.lit [10] z3.2 >>= _=_:=he
      cases f4:Tide.lit [10] z3.2 with
      | error z=>rw [f4] at he;cases he;rfl
      | ok z4=>rw [f4] at he;cases he
 ·rw [YJ h1]
  simp only [h1,if_false] at rok2 rer2
  refine cM ⟨_,rfl,rfl,_,rfl,?_⟩
  rw [mZ,qN]
  by_cases h2:w=PM.lq
  ·rw [YQ h2]
   simp only [h2,if_true] at rok2 rer2
   refine cC ⟨_,rfl,_,rfl,r,x,b,q5,dx,_,_,_,_,_,ta,fa,sa,rfl,rd5,ex5,eta5,efa5,esa5,ntf,nts,nfs,fun y q6 H6 ey k6 rd6 S6=>⟨_,rfl,?_⟩,fun er he=>(rer2 er (by rw [he];rfl)).tX k05 fun c o h hc=>⟨h,(fun z=>by rw [z,hHx] at hc;cases hc),(fun z=>by rw [z,hHta] at hc;cases hc),(fun z=>by rw [z,hHfa] at hc;cases hc),(fun z=>by rw [z,hHsa] at hc;cases hc)⟩⟩
   obtain ⟨vs1,a1,p1⟩:=S6.ts
   obtain ⟨vs2,a2,p2⟩:=S6.WE
   obtain ⟨vs3,a3,p3⟩:=S6.Xf
   refine rok2 (.wave n q1 y.1 y.2.1 y.2.2.1 y.2.2.2) q6 H6 (by rw [ey];rfl) (fun c o h hc=>k6 c o ⟨h,(fun z=>by rw [z,hHx] at hc;cases hc),(fun z=>by rw [z,hHta] at hc;cases hc),(fun z=>by rw [z,hHfa] at hc;cases hc),(fun z=>by rw [z,hHsa] at hc;cases hc)⟩ (k05 c o h hc)) rd6 (.ref x) ?_
   refine ⟨x,dx,ta,fa,sa,rfl,hHx,by rw [S6.ln,h2];rfl,⟨hHta,vs1,a1,Paired.ja (fun _ _ h=>h.wide fun c _ hc _=>bk c hc) p1,S6.l1⟩,⟨hHfa,vs2,a2,Paired.ja (fun _ _ h=>h.wide fun c _ hc _=>bk c hc) p2,S6.l2⟩,⟨hHsa,vs3,a3,Paired.ja (fun _ _ h=>h.wide fun c _ hc _=>bk c hc) p3,S6.l3⟩,by show (0:Int).natAbs < _;decide,by show (0:Int).natAbs < _;decide,?_⟩
   show 90 * y.2.1<=270
   have:=S6.Xp
   lia
  ·rw [YJ h2]
   simp only [h2,if_false] at rok2 rer2
   have h3:w=PM.CL:=by
    simp only [YR,List.not_mem_nil,or_false] at hwm
    rcases hwm with z | z | z
    ·exact absurd z h1
    ·exact absurd z h2
    ·exact z
   refine cM ⟨_,rfl,_,rfl,_,_,_,_,_,rfl,ex5,T.aE,T.cB,rfl,(by show 1<=sizeLine;decide),fun ea hea=>?_⟩
   have k6:Kf (fun _=>True) H5 (upd H5 ea (.tup [.str "\n"])):=Kf.new hea
   refine ⟨r,ta,ea,b,q5,[],rfl,⟨dx5,t5,k6 _ _ trivial e5,tx5⟩,k6 _ _ trivial eta5,jn.of (by rw [af,xw];rfl),by decide +kernel,fun y q7 H7 ey k7 rd7 S7 l8=>⟨_,rfl,?_⟩,fun er he=>(rer2 er (by rw [he];rfl)).tX (k05.trans (k6.mono fun _ _ _ _=>trivial)) fun c o h hc=>⟨h,fun z=>by rw [z,hHta] at hc;cases hc⟩⟩
   have k57:Kf (fun c=>c≠r/\c≠ta) H5 H7:=fun c o h hc=>k7 c o h (k6 c o trivial hc)
   obtain ⟨vs1,a1,p1⟩:=S7.ts
   refine rok2 (.sum n q1 y.1) q7 H7 (by rw [ey];rfl) (fun c o h hc=>k57 c o ⟨h,fun z=>by rw [z,hHta] at hc;cases hc⟩ (k05 c o h hc)) rd7 (.ref x) ?_
   refine ⟨x,dx,ta,fa,sa,rfl,hHx,by rw [k57 x _ ⟨nxr,Ne.symm ntx⟩ ex5,h3];rfl,⟨hHta,vs1,a1,Paired.ja (fun _ _ h=>h.wide fun c _ hc _=>bk c ?_) p1,l8⟩,⟨hHfa,[],k57 fa _ ⟨nfr,Ne.symm ntf⟩ efa5,.nil,YW _⟩,⟨hHsa,[],k57 sa _ ⟨nsr,Ne.symm nts⟩ esa5,.nil,YW _⟩,by show (0:Int).natAbs < _;decide,by show (0:Int).natAbs < _;decide,by show (0:Nat)<=270;decide⟩
   have hc':upd H5 ea (.tup [.str "\n"]) c=none:=hc
   cases hh:H5 c with
   | none=>first | rfl | exact hh
   | some o=>
    rw [k6 c o trivial hh] at hc'
    cases hc'
theorem OF(o:Option UInt8):decide (V.str (sg o)=V.str "")=o.isNone:=by
 have e0:(Str.ofString "":Str)=Str.empty:=by decide +kernel
 cases o with
 | none=>rw [e0,YQ (congrArg V.str (BO.mpr rfl))];rfl
 | some x=>rw [e0,YJ (fun z=>by have:=BO.mp (V.str.inj z);cases this)];rfl
theorem BX(b:Bytes)(q:Nat):(cur b q).rest= [] ↔ (cur b q).next=none:=by
 show b.drop q= [] ↔ (b.drop q).head?=none
 cases b.drop q <;> simp
theorem Rv{b:Bytes}{q f:Nat}{x:UInt8}(h:(cur b q).next=some x):Tide.linesIn (f + 1) (cur b q)=(Tide.lineIn (cur b q) >>= fun (z:Line×Cur)=>Tide.linesIn f z.2 >>= fun r=> .ok (z.1::r)):=by
 rw [Tide.linesIn,if_neg (fun z=>by rw [(BX b q).mp z] at h;cases h)]
 rfl
theorem N1{b:Bytes}{q f:Nat}(h:(cur b q).next=none):Tide.linesIn f (cur b q)= .ok []:=by
 cases f with
 | zero=>rfl
 | succ f=>rw [Tide.linesIn,if_pos ((BX b q).mpr h)]
theorem TU{b:Bytes}{q q':Nat}{l:Line}(h:Tide.lineIn (cur b q)= .ok (l,cur b q')):q < q':=by
 have s:=PJ.OM h
 have:=s.mem l.place YN
 have h1:(cur b q).at_=q:=rfl
 have h2:(cur b q').at_=q':=rfl
 lia
theorem kr:ay ["text","reader","lines"] ["text"] (aq lB):=jv rfl (by decide +kernel)
def xA(K:W.Frag)(A:Ad):Sp:=fun vs H Q E=> ∃t b,vs= [.str t]/\Tx t b/\(∀ls a H',Tide.grammar b= .ok ls->aN H H'->iy A (fun c=>H c=none) H' a ls->ls.length<=30000->Q (.ref a) H')/\ ∀e,Tide.grammar b= .error e->Er A E (fun _=>True) H 1 e
theorem xH(T:Txt K mg A):bw P w K mg base (B8 P w) 10 A.ck A.c8 ["text"] (xA K A):=by
 refine K5 T.e8 kr fun vs H Q E h Rz kz=>?_
 obtain ⟨t,b,rfl,tx,rok,rer⟩:=h
 refine kz rfl fun cdv Ar outer s hr=>?_
 refine ⟨_,(ah (aF (i:=1) kr.nd rfl (Or.inl rfl) (jz T.zk (xS T) (hr.mono (by decide)) rfl T.B0 T.zV .nil aL (aa (pv 0) ai)))
   (ah (aF (i:=2) kr.nd rfl (Or.inl rfl) (dJ ai))
   (ah (ow fG (aO Jl (d8 (pv 1) T.az T.dw (cQ T) (hr.mono (by decide)) T.dj .nil aL) cV (aT _)) (aj (cJ (qw PySem.F.plainAttrs_list PySem.F.slot_list_append PySem.F.type_list_append nZ (pv 2) (aa (aB (JB T) (hr.mono (by decide)) rfl T.yT T.qz.kp T.MP .nil (aA.passes rfl) (aa (pv 1) ai)) ai)))))
   (aj (aD (pv 2)))))),?_⟩
 refine ⟨_,rfl,fun r dx hr1 hdx ndx=>⟨r,dx,_,rfl,af,rfl,?_⟩⟩
 rw [b8]
 have s1:aN H (upd (upd H dx (.own r)) r (bB A dx (.str t) (.int 0))):=bS hr1 hdx
 have e1:upd (upd H dx (.own r)) r (bB A dx (.str t) (.int 0)) r=some (bB A dx (.str t) (.int ((0:Nat):Int))):=af
 generalize upd (upd H dx (.own r)) r (bB A dx (.str t) (.int 0))=H1 at s1 e1
 refine ⟨YW _,fun la hla=>?_⟩
 have s2:aN H (upd H1 la (.lst [])):=s1.trans (aN.new hla)
 have e2:upd H1 la (.lst []) r=some (bB A dx (.str t) (.int ((0:Nat):Int))):=by rw [ak (ao e1 hla)];exact e1
 have el2:upd H1 la (.lst []) la=some (.lst []):=af
 have nla:H la=none:=s1.free hla
 have nrl:r≠la:=ao e1 hla
 generalize upd H1 la (.lst [])=H2 at s2 e2 el2
 refine ⟨fun m σ H'=> ∃(ls:List Line) (vs:List V) (q f:Nat),m=b.length + 1 - q/\σ= [some (.str t),some (.ref r),some (.ref la)]/\aN H H'/\gW A H' r b q/\H' la=some (.lst vs)/\Paired (iV A (fun c=>H c=none/\c≠r/\c≠la) H') vs ls/\Tide.grammar b=(Tide.linesIn f (cur b q) >>= fun r=> .ok (ls++r))/\b.length + 1<=f + q/\ls.length<=q/\ls.length<=30000,
  ⟨_,[],[],0,b.length + 1,rfl,rfl,s2,⟨dx,t,e2,tx⟩,el2,.nil,?_,by lia,YW _,YW _⟩,?_⟩
 ·unfold Tide.grammar
  show Tide.linesIn (b.length + 1) ⟨b,0⟩=Tide.linesIn (b.length + 1) ⟨b.drop 0,0⟩ >>= _
  rw [List.drop_zero]
  cases Tide.linesIn (b.length + 1) ⟨b,0⟩ <;> rfl
 clear e2 el2 s2 H2 e1 s1 hla
 rintro m σ H2 ⟨ls,vs,q,f,rfl,rfl,s2,rd2,el2,pl,eg,hf,hlq,hl3⟩
 obtain ⟨dx2,t2,e2,tx2⟩:=id rd2
 refine ⟨_,rfl,r,_,_,rfl,e2,rfl,r,b,q,rfl,rd2,rfl,_,rfl,?_⟩
 rw [OF]
 cases hn:(cur b q).next with
 | none=>
  refine cM ⟨_,rfl,?_⟩
  rw [N1 hn] at eg
  refine rok ls la H2 ?_ s2 ⟨nla,vs,el2,Paired.ja (fun _ _ h=>h.wide fun c o hc _=>hc.1) pl⟩ hl3
  rw [eg]
  show Except.ok (ls++ [])=_
  rw [Y0]
 | some x=>
  have hq:q < b.length:=by
   rw [qy] at hn
   exact (YL.mp hn).1
  have h3:=tx.len
  obtain ⟨f',rfl⟩: ∃f',f=f' + 1:=⟨f - 1,by lia⟩
  rw [Rv hn] at eg
  refine cC ⟨fun σ' H'=> ∃(ls':List Line) (vs':List V) (q' f':Nat),q < q'/\σ'= [some (.str t),some (.ref r),some (.ref la)]/\aN H H'/\gW A H' r b q'/\H' la=some (.lst vs')/\Paired (iV A (fun c=>H c=none/\c≠r/\c≠la) H') vs' ls'/\Tide.grammar b=(Tide.linesIn f' (cur b q') >>= fun r=> .ok (ls'++r))/\b.length + 1<=f' + q'/\ls'.length<=q'/\ls'.length<=30000,
   fun σ' H' ⟨ls',vs',q',f',z1,z2,z3,z4,z5,z6,z7,z8,z9,z10⟩=>⟨b.length + 1 - q',by lia,ls',vs',q',f',rfl,z2,z3,z4,z5,z6,z7,z8,z9,z10⟩,?_⟩
  refine ⟨_,rfl,.inl ⟨rfl,_,b_.of el2⟩,_,rfl,r,b,q,rfl,rd2,fun l q3 H3 el k3 rd3 v hv=>?_,fun er he=>(rer er ?_).tX (Kf.of s2) fun c o _ hc z=>?_⟩
  ·have lvs:vs.length=ls.length:=Paired.length pl
   refine ⟨la,vs,v,rfl,rfl,k3 la _ (Ne.symm nrl) el2,by rw [lvs,sizeLine_eq];lia,?_⟩
   have hon:=TU el
   have kF:Kf (fun c=>H c=none/\c≠r/\c≠la) H2 (upd H3 la (.lst (vs++ [v]))):=(k3.mono fun c o h _=>h.2.1).trans (Kf.put (by simp))
   have kF3:Kf (fun c=>H c=none/\c≠r/\c≠la) H3 (upd H3 la (.lst (vs++ [v]))):=Kf.put (by simp)
   have hv':iV A (fun c=>H c=none/\c≠r/\c≠la) H3 v l:=hv.wide fun c o hc _=>⟨s2.free hc,(fun z=>by rw [z,show H2 r=_ from e2] at hc;cases hc),(fun z=>by rw [z,show H2 la=_ from el2] at hc;cases hc)⟩
   obtain ⟨dx3,t3,e3,tx3⟩:=rd3
   refine ⟨ls++ [l],vs++ [v],q3,f',hon,rfl,fun c o hc=>?_,⟨dx3,t3,by rw [ak nrl];exact e3,tx3⟩,af,Paired.PR (Paired.ja (fun _ _ h=>h.keep kF) pl) (hv'.keep kF3),?_,by lia,by rw [YH];show ls.length + 1<=q3;lia,by rw [YH];show ls.length + 1<=30000;lia⟩
   ·have ncr:c≠r:=fun z=>by rw [z,hr1] at hc;cases hc
    have ncl:c≠la:=fun z=>by rw [z,nla] at hc;cases hc
    rw [ak ncl]
    exact k3 c o ncr (s2 c o hc)
   ·rw [eg,el]
    show (Tide.linesIn f' (cur b q3) >>= fun r=> .ok (l::r)) >>= _=_
    cases Tide.linesIn f' (cur b q3) with
    | error z=>rfl
    | ok z=>
     show Except.ok (ls++l::z)=Except.ok (ls++ [l]++z)
     rw [Y3]
     rfl
  ·rw [eg,he]
   rfl
  ·rw [z,hr1] at hc
   cases hc
end Td
namespace Td
open PySem PySem.Spec PyProof.Rows L2 TL
open Tide (Bytes Cur isDigit isLetter nextIs Term Part Line)
theorem zC{X:Cx}{K:W.Frag}(h:X.K=K):Xs X (VH K):=h▸p_
theorem ue{X:Cx}{K:W.Frag}{e:Expr}{f:Str}{pos:Pos}{ta:TE}(h:X.K=K)(he:PE X e ta)(hb:attributeBase e f X.env (eval e X.env)=eval e X.env):PE X (.Attribute e f pos) (Cu K ta f):=h▸au he hb
def kn(before:List Line):List (Key×V):=before.map fun l=>(Sum.inr (st l.name),V.str (st (nM l)))
def Dn(before:List Line):Prop:=(before.map Line.name).Nodup
theorem Jy: ∀(before:List Line) (n:Bytes),dg (kn before) (Sum.inr (st n))=(before.find? fun l=>l.name == n).map fun l=>V.str (st (nM l))
 | [],n=>rfl
 | l::r,n=>by
  have ih:=Jy r n
  by_cases h:l.name=n
  ·have e:(l.name == n)=true:=by rw [h];simp
   rw [Zh,e]
   exact gQ (by show (Sum.inr (st l.name):Key)=Sum.inr (st n);rw [h])
  ·have e:(l.name == n)=false:=YY.mpr h
   rw [Zh,e]
   show dg ((Sum.inr (st l.name),V.str (st (nM l)))::kn r) (Sum.inr (st n))=_
   rw [gK (fun z=>h (sD (Sum.inr.inj z)))]
   exact ih
theorem Rb(before:List Line)(l:Line):(dg (kn before) (Sum.inr (st l.name))).isSome=PJ.qG before l:=by
 rw [Jy]
 unfold PJ.qG
 cases h:before.find? (fun x=>x.name == l.name) with
 | none=>
  have:=List.find?_eq_none.mp h
  symm
  show before.any _=false
  rw [List.any_eq_false]
  exact this
 | some y=>
  symm
  show before.any _=true
  rw [List.any_eq_true]
  exact ⟨y,Zn h,by have:=List.find?_some h;exact this⟩
theorem Vm(before:List Line)(l:Line)(h:PJ.qG before l=false):putK (kn before) (Sum.inr (st l.name)) (V.str (st (nM l)))=kn (before++ [l]):=by
 have hn:dg (kn before) (Sum.inr (st l.name))=none:=by
  have:=Rb before l
  rw [h] at this
  cases e:dg (kn before) (Sum.inr (st l.name)) with
  | none=>rfl
  | some v=>rw [e] at this;cases this
 rw [BV _ hn]
 unfold kn
 rw [YT]
 rfl
theorem Dn.snoc{before:List Line}{l:Line}(d:Dn before)(h:PJ.qG before l=false):Dn (before++ [l]):=by
 unfold Dn at *
 rw [YT]
 refine List.nodup_append.mpr ⟨d,by simp,fun a ha b hb=>?_⟩
 have hb':b=l.name:=by simpa using hb
 rw [hb']
 intro z
 subst z
 obtain ⟨x,hx,e⟩:=Zf.mp ha
 unfold PJ.qG at h
 rw [List.any_eq_false] at h
 exact h x hx (by rw [e];simp)
theorem tK(y:Line):decide (nM y=PM.gY)=y.isAngle:=by cases y <;> rfl
theorem IJ(y:Line):decide (nM y=PM.lq)=y.isWave:=by cases y <;> rfl
theorem Sl(y:Line):decide (nM y=PM.CL)=(!y.isAngle && !y.isWave):=by cases y <;> rfl
theorem RA{before:List Line}(d:Dn before)(p:Line->Bool)(n:Bytes):(before.any fun y=>p y && y.name == n)=(before.find? fun y=>y.name == n).any p:=by
 induction before with
 | nil=>rfl
 | cons y r ih=>
  unfold Dn at d
  rw [YS,List.nodup_cons] at d
  rw [List.any_cons,Zh]
  by_cases h:y.name=n
  ·have e:(y.name == n)=true:=by rw [h];simp
   rw [e]
   show (p y && true || _)=p y
   have:(r.any fun y=>p y && y.name == n)=false:=by
    rw [List.any_eq_false]
    intro z hz q
    have q2:=(Bool.and_eq_true_iff.mp q).2
    exact d.1 (by rw [h,<-beq_iff_eq.mp q2];exact Ze hz)
   rw [this]
   simp
  ·have e:(y.name == n)=false:=YY.mpr h
   rw [e,Bool.and_false,Bool.false_or]
   exact ih d.2
def Bb(before:List Line)(w:Bytes)(x:Term):Bool:=!(before.find? fun y=>y.name == x.name).any fun y=>decide (nM y=w)
theorem Wn{before:List Line}(d:Dn before)(l:Line)(x:Term):PJ.qm before l x=Bb before (if l.isWave=true then PM.gY else PM.lq) x:=by
 unfold PJ.qm Bb
 rw [RA d]
 congr 2
 funext y
 split
 ·rw [tK]
 ·rw [IJ]
theorem Xk(before:List Line)(w:Bytes)(x:Term):(!decide ((dg (kn before) (Sum.inr (st x.name))).getD .dh=V.str (st w)))=Bb before w x:=by
 rw [Jy]
 unfold Bb
 cases before.find? (fun y=>y.name == x.name) with
 | none=>
  show (!decide (V.dh=V.str (st w)))=_
  rw [YJ (fun z=>nomatch z)]
  rfl
 | some y=>
  show (!decide (V.str (st (nM y))=V.str (st w)))=(!decide (nM y=w))
  by_cases h:nM y=w
  ·rw [h];simp
  ·rw [YJ h,YJ (fun z=>h (sD (V.str.inj z)))]
theorem Ru(before:List Line):(kn before).length=before.length:=YI _
theorem RW(before:List Line):((kn before).map (·.2)).countP (fun z=>M0 z (.str (st PM.gY)))=(before.filter Line.isAngle).length:=by
 induction before with
 | nil=>rfl
 | cons y r ih=>
  have e:M0 (V.str (st (nM y))) (.str (st PM.gY))=y.isAngle:=by
   rw [<-tK]
   show (st (nM y) == st PM.gY)=_
   by_cases h:nM y=PM.gY
   ·rw [h];simp
   ·rw [YJ h]
    exact YY.mpr (fun z=>h (sD z))
  show List.countP _ (V.str (st (nM y))::(kn r).map (·.2))=_
  rw [List.countP_cons,ih,e,List.filter_cons]
  cases y.isAngle <;> simp
theorem Gm(before:List Line):(before.filter fun x=>!x.isAngle).length + (before.filter Line.isAngle).length=before.length:=by
 induction before with
 | nil=>rfl
 | cons y r ih=>
  rw [List.filter_cons,List.filter_cons,YU]
  cases y.isAngle <;> simp <;> lia
def nums(ls:List Line):List (Key×V):=(Tide.waves ls).zipIdx.map fun z=>(Sum.inr (st z.1.name),V.int (z.2:Int))
theorem LA(ls:List Line):(nums ls).length=(Tide.waves ls).length:=by unfold nums;rw [YI,List.length_zipIdx]
theorem EJ(ls:List Line)(l:Line):Tide.waves (ls++ [l])=Tide.waves ls++if l.isAngle=true then [] else [l]:=by
 unfold Tide.waves
 rw [List.filter_append,List.filter_cons,List.filter_nil]
 cases l.isAngle <;> rfl
theorem D9(ls:List Line)(l:Line)(h:l.isAngle=true):nums (ls++ [l])=nums ls:=by
 unfold nums
 rw [EJ,h,if_pos rfl,Y0]
theorem QL(ls:List Line):(nums ls).map (·.1)=(Tide.waves ls).map fun l=>Sum.inr (st l.name):=by
 unfold nums
 rw [List.map_map]
 show (Tide.waves ls).zipIdx.map (fun z=>(Sum.inr (st z.1.name):Key))=_
 have: ∀(l:List Line) (k:Nat),(l.zipIdx k).map (fun z=>(Sum.inr (st z.1.name):Key))=l.map fun l=>(Sum.inr (st l.name):Key):=by
  intro l
  induction l with
  | nil=>intro k;rfl
  | cons y r ih=>intro k;rw [List.zipIdx_cons,YS,YS,ih]
 exact this _ 0
theorem Pz(ls:List Line)(l:Line)(h:l.isAngle=false)(d:PJ.qG ls l=false):putK (nums ls) (Sum.inr (st l.name)) (V.int ((nums ls).length:Int))=nums (ls++ [l]):=by
 have hn:dg (nums ls) (Sum.inr (st l.name))=none:=by
  cases e:dg (nums ls) (Sum.inr (st l.name)) with
  | none=>rfl
  | some v=>
   exfalso
   have:=T4 e
   rw [QL] at this
   obtain ⟨y,hy,ey⟩:=Zf.mp this
   have hy2:=(Zp.mp hy).1
   unfold PJ.qG at d
   rw [List.any_eq_false] at d
   exact d y hy2 (by rw [sD (Sum.inr.inj ey)];simp)
 rw [BV _ hn,LA]
 unfold nums
 rw [EJ,h,if_neg (by decide),List.zipIdx_append,YT]
 simp
theorem FT: ∀(s:List Term),(s.map fun x=>if x.times < 0 then -x.times else x.times).sum=(((s.map fun (x:Term)=>x.count).foldr (fun (a b:Nat)=>a + b) 0:Nat):Int)
 | []=>rfl
 | x::r=>by
  rw [YS,List.sum_cons,FT r,YS,List.foldr_cons]
  have:(if x.times < 0 then -x.times else x.times)=(x.count:Int):=by
   unfold Term.times
   cases x.minus
   ·simp;lia
   ·simp;lia
  rw [this]
  lia
theorem Mn: ∀(s:List Part),(s.map fun x=>if x.number < 0 then -x.number else x.number).sum=(((s.map fun (x:Part)=>x.number.natAbs).foldr (fun (a b:Nat)=>a + b) 0:Nat):Int)
 | []=>rfl
 | x::r=>by
  rw [YS,List.sum_cons,Mn r,YS,List.foldr_cons]
  have:(if x.number < 0 then -x.number else x.number)=(x.number.natAbs:Int):=by split <;> lia
  rw [this]
  lia
theorem xT(σ:L2.St)(j:Nat)(v:Option V):wipe ((wipe σ [j]).set j v) [j]=wipe σ [j]:=by
 simp [wipe,List.set_set]
theorem UK {K:W.Frag} {a:Addr} {xs:List V} {te:TE} {j:Nat} {σ:L2.St} {H1:Hp} {Q:VK} (ys:List V) (hlen:ys.length=xs.length) (hz:xs.length<=sizeLine) (hq:b_ K H1 a xs)
  (hstep: ∀(i:Nat) (x y:V),xs[i]?=some x->ys[i]?=some y-> ∀H',aN H1 H'-> ∀P:VK,P y H'->te ((wipe σ [j]).set j (some x)) H' P)
  (hd: ∀D,H1 D=none->Q (.ref D) (upd H1 D (.lst ys))): ∀D,H1 D=none-> ∃W:Nat->Nat->Hp->Prop,(∃m,W 0 m (upd H1 D (.lst [])))/\ ∀i m H,W i m H->
   ((RK K a).stop i H/\Q (.ref D) H)\/((RK K a).go i H/\ ∃Nx:Hp->Prop,(∀H',Nx H'-> ∃m',m' < m/\W (i + 1) m' H')/\ ∀x H',(RK K a).Tr i H x H'->mR j x (wipe σ [j]) H' fun σ2 H2=>wipe σ2 [j]=wipe σ [j]/\HN σ2 H2 fun b H3=>
    if b=true then te σ2 H3 fun y H4=> ∃acc,H4 D=some (.lst acc)/\acc.length < sizeLine/\Nx (upd H4 D (.lst (acc++ [y]))) else Nx H3):=fun D hD=>by
 refine Ei (K:=K) (a:=a) (xs:=xs) (fun i H'=>H'=upd H1 D (.lst (ys.take i))) rfl (fun i H' _ z=>?_) (fun i x H' hx z=>?_) (fun H' z=>?_)
 ·rw [z]
  exact (aN.new hD).seq hq
 ·subst z
  have hi:=(YL.mp hx).1
  obtain ⟨y,hy⟩: ∃y,ys[i]?=some y:=⟨ys[i]'(by lia),Y9 (by lia)⟩
  refine ⟨xT σ j _,?_⟩
  unfold HN
  simp only [if_true]
  refine hstep i x y hx hy _ (aN.new hD) _ ⟨ys.take i,af,?_,?_⟩
  ·rw [Zd]
   lia
  ·rw [b8,YX,hy]
   rfl
 ·rw [z,<-hlen,Y8]
  exact hd D hD
theorem yU {K:W.Frag} {a:Addr} {xs:List V} {tl te:TE} {j:Nat} {σ:L2.St} {H1:Hp} {Q:VK} (ys:List V) (htl: ∀P:VK,P (.ref a) H1->tl σ H1 P) (hlen:ys.length=xs.length) (hz:xs.length<=sizeLine) (hq:b_ K H1 a xs)
  (hstep: ∀(i:Nat) (x y:V),xs[i]?=some x->ys[i]?=some y-> ∀H',aN H1 H'-> ∀P:VK,P y H'->te ((wipe σ [j]).set j (some x)) H' P)
  (hd: ∀D,H1 D=none->Q (.ref D) (upd H1 D (.lst ys))):Tq (ES K tl) (mR j) HN te [j] σ H1 Q:=htl _ ⟨a,rfl,⟨xs,hq⟩,UK ys hlen hz hq hstep hd⟩
variable {P:Program} {w:World} {K:W.Frag} {mg:Str->Option Value} {base:Heap} {A:Ad}
theorem sj.sq{K:W.Frag}{F:Addr->Prop}{H H':Hp}{v:V}{x:Term}(h:sj F H v x)(s:aN H H'): ∃a,v= .ref a/\jn K H' a [.int x.times,.str (st x.name),.int (x.at_:Int)]:=let ⟨a,e,_,g,_⟩:=h;⟨a,e,jn.of (s _ _ g)⟩
theorem xV:ay ["terms","known","wanted","term"] ["terms","known","wanted"] (aq uq):=jv rfl (by decide +kernel)
def r9(K:W.Frag)(A:Ad):Sp:=fun vs H Q E=> ∃(F:Addr->Prop) (ta ka:Addr) (l:List Term) (before:List Line) (w:Bytes),vs= [.ref ta,.ref ka,.str (st w)]/\kE F H ta l/\H ka=some (.dK (kn before))/\(l.find? (Bb before w)=none->Q .dh H)/\ ∀x,l.find? (Bb before w)=some x->Er A E (fun _=>True) H 3 x.at_
theorem xO(T:Txt K mg A):bw P w K mg base (B8 P w) 3 A.iT A.j0 ["terms","known","wanted"] (r9 K A):=by
 refine K5 T.jX xV fun vs H Q E h Rz kz=>?_
 obtain ⟨F,ta,ka,l,before,w,rfl,ht,hk,rok,rer⟩:=h
 refine kz rfl fun cdv Ar outer s hr=>?_
 have hu:=tW hr
 refine ⟨_,(aj (jw fG rfl (dH (pv 0)) (b9 (i:=3) xV.nd rfl (Or.inl rfl)) (aj (b6 (aO Jl (Sh hu (pv 1) (gj p_ (pv 3) aH (fun _ _=>rfl)) ⟨rfl,rfl,rfl,rfl⟩) (pv 2) (aT _)) (aj (mO T.xc (bP T) (hr.mono (by decide)) T.bX rfl rfl T.cI rfl aA (aa (aC rfl T.lS) (aa (gj p_ (pv 3) aH (fun _ _=>rfl)) ai)))) aU)))),?_⟩
 obtain ⟨_,vs,el,pl,l8⟩:=id ht
 have lvs:vs.length=l.length:=Paired.length pl
 refine ⟨_,rfl,ta,rfl,⟨_,b_.of el⟩,gO (K:=K) (a:=ta) (xs:=vs) (fun i σ H'=> ∃v:Option V,σ= [some (.ref ta),some (.ref ka),some (.str (st w)),v]/\H'=H/\(l.take i).find? (Bb before w)=none) ⟨none,rfl,rfl,rfl⟩ (fun i σ H' _ ⟨_,_,z,_⟩=>by rw [z];exact b_.of el) ?_ ?_⟩
 ·rintro i x σ H' hx ⟨v,rfl,rfl,hf⟩
  obtain ⟨y,hy,hxy⟩:=Paired.at2 pl hx
  obtain ⟨a,rfl,_,ga,_⟩:=hxy
  refine ⟨_,rfl,ka,rfl,.inl ⟨_,.inl hk⟩,_,rfl,a,_,_,_,rfl,rfl,jn.of ga,at_of (j:=1) (v:= .str (st y.name)) rfl rfl,_,iY.k (k:=Sum.inr (st y.name)) hk,_,rfl,?_,_,rfl,?_⟩
  ·rw [Jy]
   cases before.find? (fun l=>l.name == y.name) <;> rfl
  rw [Xk]
  have et:l.take (i + 1)=l.take i++ [y]:=by
   rw [YX,hy]
   rfl
  cases hb:Bb before w y with
  | true=>
   refine cC ⟨_,rfl,a,_,_,_,rfl,rfl,jn.of ga,at_of (j:=2) (v:= .int (y.at_:Int)) rfl rfl,_,_,rfl,Er.raise (rer y ?_) Kf.refl⟩
   have e1:l=l.take i++(y::l.drop (i + 1)):=by
    have h2:=Zr (i + 1) l
    rw [et,Y3] at h2
    exact h2.symm
   rw [e1,List.find?_append,hf]
   show (y::l.drop (i + 1)).find? (Bb before w)=some y
   rw [Zh,hb]
  | false=>
   refine cM ⟨_,rfl,rfl,?_⟩
   rw [et,List.find?_append,hf]
   show [y].find? (Bb before w)=none
   rw [Zh,hb]
   rfl
 ·rintro σ H' ⟨v,rfl,rfl,hf⟩
  rw [lvs,Y8] at hf
  exact rok hf
theorem kQ:ay ["line","factor","term"] ["line"] (aq uw):=jv rfl (by decide +kernel)
def FY(K:W.Frag)(A:Ad):Sp:=fun vs H Q _=> ∃(F:Addr->Prop) (v:V) (l:Line),vs= [v]/\iV A F H v l/\ ∀H',aN H H'->Q (.bl (PJ.qW l)) H'
theorem E9(T:Txt K mg A):bw P w K mg base (lA) 1 A.iG A.j_ ["line"] (FY K A):=by
 refine oq T.mG kQ fun vs H Q E h Rz kz=>?_
 obtain ⟨F,v,l,rfl,⟨a,dx,ta,fa,sa,rfl,fA,ea,ht,hf,hs,hb⟩,q⟩:=h
 refine kz rfl fun cdv Ar outer s hr=>?_
 refine ⟨_,(ah (b6 (aO fQ (au (pv 0) rfl) (aC rfl T.Jd) (aT _)) (aj (aD (zg R4 (bN (yt rfl) (by rfl) T.zT (by decide +kernel) (aa (B3 rfl kQ.nd (dH (au (pv 0) rfl)) (own:= [("term",2)]) (mU rfl) (fun _ _ _ _ _=>b9 (i:=2) kQ.nd rfl (Or.inl rfl)) (fun _ _ _ _ _=>tQ) (fun _ _ _ _ _=>(bN yh (by rfl) T.Gr (by decide +kernel) (aa (gj (zC (K:=K) rfl) (pv 2) aH (fun _ _=>rfl)) ai)))) ai)) (aC rfl T.uA) (aT _)))) aU)
   (aj (aD (zg EM (bN (yt rfl) (by rfl) T.zT (by decide +kernel) (aa (B3 rfl kQ.nd (dH (au (pv 0) rfl)) (own:= [("factor",1)]) (mU rfl) (fun _ _ _ _ _=>b9 (i:=1) kQ.nd rfl (Or.inl rfl)) (fun _ _ _ _ _=>tQ) (fun _ _ _ _ _=>(bN yh (by rfl) T.Gr (by decide +kernel) (aa (gj (zC (K:=K) rfl) (pv 1) aH (fun _ _=>rfl)) ai)))) ai)) (aC rfl T.uV) (aT _))))),?_⟩
 obtain ⟨_,vt,et,pt,lt⟩:=id ht
 obtain ⟨_,vf,ef,pf,lf⟩:=id hf
 have lvt:vt.length=(eY l).length:=Paired.length pt
 have lvf:vf.length=(bJ l).length:=Paired.length pf
 refine ⟨_,rfl,_,_,_,_,_,rfl,ea,T.aE,T.cu,rfl,rfl,_,rfl,?_⟩
 rw [Kg,qN]
 by_cases h:nM l=PM.CL
 ·rw [YQ h]
  refine cC ?_
  dsimp only [BI,Ep,Vo,bC]
  refine yU (((eY l).map fun (x:Term)=>if x.times < 0 then -x.times else x.times).map V.int) (fun P p=>⟨_,rfl,_,_,_,_,_,rfl,ea,T.aE,T.cB,rfl,p⟩) (by rw [YI,YI,lvt]) (by rw [lvt,sizeLine_eq];lia) (b_.of et) (fun i x y hx hy H' s' P p=>?_) (fun D hD=>?_)
  ·obtain ⟨z,hz,hxz⟩:=Paired.at2 pt hx
   obtain ⟨b,rfl,hsq⟩:=hxz.sq (K:=K) s'
   have ey:y= .int (if z.times < 0 then -z.times else z.times):=by
    rw [Y6,Y6,hz] at hy
    exact (Option.some.inj hy).symm
   subst ey
   exact ⟨_,rfl,b,_,_,_,rfl,rfl,hsq,at_of (j:=0) (v:= .int z.times) rfl rfl,_,rfl,p⟩
  ·have:PJ.qW l=decide ((12:Int) < ((((eY l).map fun (x:Term)=>x.count).foldr (fun (a b:Nat)=>a + b) 0:Nat):Int)):=by
    cases l with
    | angle=>cases h
    | wave=>cases h
    | sum n p s=>
     show decide (12 < _)=decide ((12:Int) < _)
     simp only [eY]
     congr 1
     simp
     lia
   rw [this,<-FT] at q
   exact ⟨D,_,rfl,b_.of af,_,_,rfl,rfl,q _ (aN.new hD)⟩
 ·rw [YJ h]
  refine cM ?_
  dsimp only [IW,BI,Ep,Vo,bC]
  refine yU (((bJ l).map fun (x:Part)=>if x.number < 0 then -x.number else x.number).map V.int) (fun P p=>⟨_,rfl,_,_,_,_,_,rfl,ea,T.aE,T.dO,rfl,p⟩) (by rw [YI,YI,lvf]) (by rw [lvf,sizeLine_eq];lia) (b_.of ef) (fun i x y hx hy H' s' P p=>?_) (fun D hD=>?_)
  ·obtain ⟨z,hz,hxz⟩:=Paired.at2 pf hx
   obtain ⟨b,tb,rfl,_,gb,_⟩:=hxz
   have ey:y= .int (if z.number < 0 then -z.number else z.number):=by
    rw [Y6,Y6,hz] at hy
    exact (Option.some.inj hy).symm
   subst ey
   exact ⟨_,rfl,b,_,_,_,rfl,rfl,jn.of (s' _ _ gb),at_of (j:=0) (v:= .int z.number) rfl rfl,_,rfl,p⟩
  ·have:PJ.qW l=decide ((1000000000000:Int)<=((((bJ l).map fun (x:Part)=>x.number.natAbs).foldr (fun (a b:Nat)=>a + b) 0:Nat):Int)):=by
    cases l with
    | angle=>rfl
    | wave n p s t fs ss=>
     show decide (10 ^ 12<=_)=decide ((1000000000000:Int)<=_)
     simp only [bJ]
     congr 1
     simp
     lia
    | sum=>exact absurd rfl h
   rw [this,<-Mn] at q
   exact ⟨D,_,rfl,b_.of af,_,_,rfl,rfl,q _ (aN.new hD)⟩
theorem rB:ay ["line","known","angles"] ["line","known"] (aq nE):=jv rfl (by decide +kernel)
def zK(K:W.Frag)(A:Ad):Sp:=fun vs H Q _=> ∃(F:Addr->Prop) (v:V) (l:Line) (ka:Addr) (before:List Line),vs= [v,.ref ka]/\iV A F H v l/\H ka=some (.dK (kn before))/\ ∀H',aN H H'->Q (.bl (PJ.uR before l)) H'
theorem zJ(T:Txt K mg A):bw P w K mg base (lA) 1 A.cT A.eE ["line","known"] (zK K A):=by
 refine oq T.gH rB fun vs H Q E h Rz kz=>?_
 obtain ⟨F,v,l,ka,before,rfl,⟨a,dx,ta,fa,sa,rfl,fA,ea,ht,hf,hs,hb⟩,hk,q⟩:=h
 refine kz rfl fun cdv Ar outer s hr=>?_
 refine ⟨_,(ah (aF (i:=2) rB.nd rfl (Or.inl rfl) (qw PySem.F.plainAttrs_list PySem.F.slot_list_count PySem.F.type_list_count P0 (vF (NG rfl) rfl T.Oj (by decide +kernel) (aa (CB PySem.F.plainAttrs_dict PySem.F.slot_dict_values PySem.F.type_dict_values Qk (pv 1)) ai)) (aa (aC rfl T.rP) ai)))
   (ah (b6 (aO fQ (au (pv 0) rfl) (aC rfl T.rP) (aT _)) (aj (aD (zg EM (pv 2) (aC rfl T.uY) (aT _)))) aU)
   (aj (aD (zg EM (aR uz (bN Ip (by rfl) T.xu PySem.boot_len (aa (pv 1) ai)) (pv 2)) (aC rfl T.wj) (aT _)))))),?_⟩
 refine ⟨_,rfl,.inr (.inr (.inl ⟨rfl,.inl ⟨_,hk⟩⟩)),ka,_,rfl,rfl,hk,fun vw hvw=>?_⟩
 have nk:ka≠vw:=ao hk hvw
 refine ⟨vw,ka,_,rfl,af,by rw [ak nk];exact hk,fun D hD=>?_⟩
 have s2:aN H (upd (upd H vw (Jj vw ka)) D (.lst ((kn before).map (·.2)))):=(aN.new hvw).trans (aN.new hD)
 have eD:upd (upd H vw (Jj vw ka)) D (.lst ((kn before).map (·.2))) D=some (.lst ((kn before).map (·.2))):=af
 generalize upd (upd H vw (Jj vw ka)) D (.lst ((kn before).map (·.2)))=H2 at s2 eD
 refine ⟨.inl ⟨rfl,_,b_.of eD⟩,D,_,_,rfl,rfl,b_.of eD,rfl,?_,?_⟩
 ·unfold kn
  rw [List.map_map,List.all_map]
  exact List.all_eq_true.mpr fun _ _=>rfl
 rw [vd,RW]
 refine ⟨_,rfl,_,_,_,_,_,rfl,s2 _ _ ea,T.aE,T.cu,rfl,rfl,_,rfl,?_⟩
 rw [qN]
 have ew:decide (nM l=PM.gY)=l.isAngle:=tK l
 rw [ew]
 unfold PJ.uR at q
 cases hl:l.isAngle with
 | true=>
  rw [hl] at q
  have:decide ((16:Int)<=((before.filter Line.isAngle).length:Int))=decide (Tide.ANGLES<=(before.filter Line.isAngle).length):=by
   show _=decide (16<=_)
   congr 1
   simp
   lia
  exact cC ⟨_,rfl,GI (congrArg V.bl this) (q H2 s2)⟩
 | false=>
  rw [hl] at q
  have hx:=Gm before
  have:decide ((128:Int)<=((kn before).length:Int) - ((before.filter Line.isAngle).length:Int))=decide (Tide.WAVES<=(before.filter fun (x:Line)=>!x.isAngle).length):=by
   rw [Ru]
   show _=decide (128<=_)
   congr 1
   simp only [eq_iff_iff]
   constructor <;> intro h <;> lia
  exact cM ⟨_,rfl,ka,_,rfl,s2 _ _ hk,_,rfl,_,_,rfl,rfl,GI (congrArg V.bl this) (q H2 s2)⟩
theorem Paired.XO{α β:Type}{R:α->β->Prop}{l l':List α}{m m':List β}(h:Paired R l m)(q:Paired R l' m'):Paired R (l++l') (m++m'):=by
 induction h with
 | nil=>exact q
 | cons h _ ih=>exact .cons h ih
theorem Er.same{A:Ad}{E:XK}{H H1:Hp}{k p:Nat}(e:Er A E (fun _=>True) H k p)(s:aN H H1):Er A E (fun _=>True) H1 k p:=e.step (Kf.of s) fun _ _ h _=>h
theorem uN:ay ["line","known","wanted","part"] ["line","known"] (aq wc):=jv rfl (by decide +kernel)
def Hr(K:W.Frag)(A:Ad):Sp:=fun vs H Q E=> ∃(F:Addr->Prop) (v:V) (l:Line) (ka:Addr) (before:List Line),vs= [v,.ref ka]/\iV A F H v l/\H ka=some (.dK (kn before))/\Dn before/\(PJ.bO before l=none-> ∀H',aN H H'->Q .dh H')/\ ∀f,PJ.bO before l=some f->Er A E (fun _=>True) H f.1 f.2
theorem Hi(T:Txt K mg A):bw P w K mg base (B8 P w) 4 A.jE A.lM ["line","known"] (Hr K A):=by
 refine K5 T.oF uN fun vs H Q E h Rz kz=>?_
 obtain ⟨F,v,l,ka,before,rfl,hl,hk,hd,rok,rer⟩:=h
 refine kz rfl fun cdv Ar outer s hr=>?_
 have hu:=tW hr
 refine ⟨_,(ah (b6 (wH (Jw hu (au (pv 0) rfl) (pv 1))) (aj (mO T.xc (bP T) (hr.mono (by decide)) T.bX rfl rfl T.cI rfl aA (aa (aC rfl T.rF) (aa (au (pv 0) rfl) ai)))) aU)
   (ah (b6 (oA (aB (zJ T) (hr.mono (by decide)) rfl T.nL T.gH.kp T.AB .nil aL (aa (pv 0) (aa (pv 1) ai)))) (aj (mO T.xc (bP T) (hr.mono (by decide)) T.bX rfl rfl T.cI rfl aA (aa (aC rfl T.Aj) (aa (au (pv 0) rfl) ai)))) aU)
   (ah (b6 (oA (aB (E9 T) (hr.mono (by decide)) rfl T.uL T.mG.kp T.Hx .nil aL (aa (pv 0) ai))) (aj (mO T.xc (bP T) (hr.mono (by decide)) T.bX rfl rfl T.cI rfl aA (aa (aC rfl T.AO) (aa (au (pv 0) rfl) ai)))) aU)
   (ah (aF (i:=2) uN.nd rfl (Or.inl rfl) (u9 (aO fQ (au (pv 0) rfl) (aC rfl T.Jd) (aT _)) (aC rfl T.C7) (aC rfl T.rP)))
   (ah (cJ (aB (xO T) (hr.mono (by decide)) rfl T.qo T.jX.kp T.zY .nil (aA.passes rfl) (aa (au (pv 0) rfl) (aa (pv 1) (aa (pv 2) ai)))))
   (aj (jw fG rfl (dH (aR NP (au (pv 0) rfl) (au (pv 0) rfl))) (b9 (i:=3) uN.nd rfl (Or.inl rfl)) (aj (cJ (aB (xO T) (hr.mono (by decide)) rfl T.qo T.jX.kp T.zY .nil (aA.passes rfl) (aa (gj p_ (pv 3) aH (fun _ _=>rfl)) (aa (pv 1) (aa (pv 2) ai))))))))))))),?_⟩
 obtain ⟨a,dx,ta,fa,sa,rfl,fA,ea,ht,hf,hs,hb⟩:=id hl
 unfold PJ.bO at rok rer
 refine ⟨_,rfl,_,_,_,_,_,rfl,ea,T.aE,T.bU,rfl,_,rfl,ka,_,rfl,iY.k (k:=Sum.inr (st l.name)) hk,_,rfl,?_⟩
 rw [Rb]
 cases h1:PJ.qG before l with
 | true=>
  rw [h1] at rer
  exact cC ⟨_,rfl,_,_,_,_,_,rfl,ea,T.aE,T.g9,rfl,_,_,rfl,Er.raise (rer _ rfl) Kf.refl⟩
 | false=>
  rw [h1] at rok rer
  simp only [Bool.false_eq_true,if_false] at rok rer
  refine cM ⟨_,rfl,_,rfl,F,_,l,ka,before,rfl,hl,hk,fun H1 s1=>⟨_,rfl,?_⟩⟩
  cases h2:PJ.uR before l with
  | true=>
   rw [h2] at rer
   exact cC ⟨_,rfl,_,_,_,_,_,rfl,s1 _ _ ea,T.aE,T.g9,rfl,_,_,rfl,Er.raise (rer _ rfl) (Kf.of s1)⟩
  | false=>
   rw [h2] at rok rer
   simp only [Bool.false_eq_true,if_false] at rok rer
   refine cM ⟨_,rfl,F,_,l,rfl,hl.keep (Kf.of s1),fun H2 s2=>⟨_,rfl,?_⟩⟩
   have s02:=s1.trans s2
   cases h3:PJ.qW l with
   | true=>
    rw [h3] at rer
    exact cC ⟨_,rfl,_,_,_,_,_,rfl,s02 _ _ ea,T.aE,T.g9,rfl,_,_,rfl,Er.raise (rer _ rfl) (Kf.of s02)⟩
   | false=>
    rw [h3] at rok rer
    simp only [Bool.false_eq_true,if_false] at rok rer
    have ebad:PJ.qm before l=Bb before (if l.isWave=true then PM.gY else PM.lq):=funext fun x=>Wn hd l x
    rw [ebad] at rok rer
    have rest: ∀w:Bytes,(l.uses≠ []->w=(if l.isWave=true then PM.gY else PM.lq))->AJ (FL (zU (r9 K A) [] E (bC (Cu K (cK 0) "terms") (bC (cK 1) (bC (cK 2) mQ)))))
      (Xl (ES K (Ep W2 (Cu K (cK 0) "factors") (Cu K (cK 0) "shifts"))) (mR 3) (FL (zU (r9 K A) [] E (bC (Ep (VH K) (cK 3) (tC (.int 1))) (bC (cK 1) (bC (cK 2) mQ)))))) {nx:=fun _ H'=>Q .dh H',rt:=Q} [some (.ref a),some (.ref ka),some (.str (st w)),none] H2:=fun w hw=>by
     have euse:l.uses.find? (Bb before (if l.isWave=true then PM.gY else PM.lq))=(eY l++(bJ l++dW l).flatMap Part.sum).find? (Bb before w):=by
      have e1:l.uses=eY l++(bJ l++dW l).flatMap Part.sum:=by
       cases l with
       | angle=>rfl
       | wave=>rfl
       | sum n p s=>show s=s++ [];rw [Y0]
      rw [e1]
      by_cases hu:l.uses= []
      ·rw [<-e1,hu]
       rfl
      ·rw [hw hu]
     rw [euse] at rok rer
     refine ⟨_,rfl,_,_,_,_,_,rfl,s02 _ _ ea,T.aE,T.cB,rfl,_,rfl,_,rfl,F,ta,ka,eY l,before,w,rfl,ht.keep (Kf.of s02),s02 _ _ hk,fun h4=>?_,fun x hx=>(rer _ (by rw [List.find?_append,hx];rfl)).same s02⟩
     rw [List.find?_append,h4] at rok rer
     obtain ⟨_,vf,ef,pf,lf⟩:=id hf
     obtain ⟨_,vss,es,ps,lss⟩:=id hs
     have lvf:vf.length=(bJ l).length:=Paired.length pf
     have lvs:vss.length=(dW l).length:=Paired.length ps
     refine ⟨_,rfl,_,_,_,_,_,rfl,s02 _ _ ea,T.aE,T.dO,rfl,_,rfl,_,_,_,_,_,rfl,s02 _ _ ea,T.aE,T.gr,rfl,fa,sa,vf,vss,rfl,rfl,s02 _ _ ef,s02 _ _ es,by rw [lvf,lvs,sizeLine_eq];lia,fun D hD=>⟨D,rfl,⟨_,b_.of af⟩,?_⟩⟩
     have s3:aN H (upd H2 D (.lst (vf++vss))):=s02.trans (aN.new hD)
     have eD:upd H2 D (.lst (vf++vss)) D=some (.lst (vf++vss)):=af
     generalize upd H2 D (.lst (vf++vss))=H3 at s3 eD
     have pall:Paired (oz F H) (vf++vss) (bJ l++dW l):=Paired.XO pf ps
     have lall:(vf++vss).length=(bJ l++dW l).length:=Paired.length pall
     refine gO (K:=K) (a:=D) (xs:=vf++vss) (fun i σ H'=> ∃v:Option V,σ= [some (.ref a),some (.ref ka),some (.str (st w)),v]/\H'=H3/\(((bJ l++dW l).take i).flatMap Part.sum).find? (Bb before w)=none) ⟨none,rfl,rfl,rfl⟩ (fun i σ H' _ ⟨_,_,z,_⟩=>by rw [z];exact b_.of eD) ?_ ?_
     ·rintro i x σ H' hx ⟨v,rfl,rfl,hf4⟩
      obtain ⟨y,hy,hxy⟩:=Paired.at2 pall hx
      obtain ⟨pa,ta',rfl,_,gp,htt,_⟩:=hxy
      have et:(bJ l++dW l).take (i + 1)=(bJ l++dW l).take i++ [y]:=by
       rw [YX,hy]
       rfl
      have eall:(bJ l++dW l).flatMap Part.sum=((bJ l++dW l).take i).flatMap Part.sum++(y.sum++((bJ l++dW l).drop (i + 1)).flatMap Part.sum):=by
       have h2:=Zr (i + 1) (bJ l++dW l)
       rw [et,Y3] at h2
       conv=>lhs;rw [<-h2]
       rw [List.flatMap_append]
       rfl
      refine ⟨_,rfl,pa,_,_,_,rfl,rfl,jn.of (s3 _ _ gp),at_of (j:=1) (v:= .ref ta') rfl rfl,_,rfl,_,rfl,F,ta',ka,y.sum,before,w,rfl,htt.keep (Kf.of s3),s3 _ _ hk,fun h5=>⟨_,rfl,rfl,?_⟩,fun z hz=>(rer (3,z.at_) ?_).same s3⟩
      ·rw [et,List.flatMap_append,List.find?_append,hf4]
       show ([y].flatMap Part.sum).find? _=none
       rw [List.flatMap_cons,List.flatMap_nil,Y0]
       exact h5
      ·rw [eall,List.find?_append,hf4,List.find?_append,hz]
       rfl
     ·rintro σ H' ⟨v,rfl,rfl,hf4⟩
      rw [lall,Y8] at hf4
      exact rok (by rw [hf4];rfl) H' s3
    refine cM ⟨_,rfl,_,_,_,_,_,rfl,s02 _ _ ea,T.aE,T.cu,rfl,rfl,_,rfl,?_⟩
    rw [Kg,qN]
    by_cases h5:nM l=PM.CL
    ·rw [YQ h5]
     refine cC ?_
     have:=rest PM.lq fun _=>by
      cases l with
      | angle=>cases h5
      | wave=>cases h5
      | sum=>rfl
     rw [<-mZ] at this
     exact this
    ·rw [YJ h5]
     refine cM ?_
     have:=rest PM.gY fun hu=>by
      cases l with
      | angle=>exact absurd rfl hu
      | wave=>rfl
      | sum=>exact absurd rfl h5
     rw [<-vd] at this
     exact this
def rq(A:Ad)(F:Addr->Prop)(H:Hp)(a:Addr)(ls:List Line):Prop:=F a/\ ∃dx la na,H a=some (LH A dx (.ref la) (.ref na))/\iy A F H la ls/\F na/\H na=some (.dK (nums ls))
theorem rq.keep{A:Ad}{F:Addr->Prop}{H H':Hp}{a:Addr}{ls:List Line}(h:rq A F H a ls)(k:Kf F H H'):rq A F H' a ls:=let ⟨f,dx,la,na,e,p,g,q⟩:=h;⟨f,dx,la,na,k _ _ f e,p.keep k,g,k _ _ g q⟩
theorem rq.wide{A:Ad}{F G:Addr->Prop}{H:Hp}{a:Addr}{ls:List Line}(h:rq A F H a ls)(w: ∀b o,F b->H b=some o->G b):rq A G H a ls:=let ⟨f,dx,la,na,e,p,g,q⟩:=h;⟨w _ _ f e,dx,la,na,e,p.wide w,w _ _ g q,q⟩
theorem Vw{ls:List Line}(d:Dn ls){i:Nat}{l:Line}(h:ls[i]?=some l):PJ.qG (ls.take i) l=false:=by
 unfold PJ.qG
 rw [List.any_eq_false]
 intro y hy z
 have e1:ls.take (i + 1)=ls.take i++ [l]:=by rw [YX,h];rfl
 have hd:Dn (ls.take (i + 1)):=by
  unfold Dn at *
  rw [List.map_take]
  exact d.sublist (List.take_sublist _ _)
 unfold Dn at hd
 rw [e1,YT,List.nodup_append] at hd
 exact hd.2.2 y.name (Ze hy) l.name (by simp) (beq_iff_eq.mp z)
theorem Dk:ay ["self","lines","line"] ["self","lines"] (aq Am):=jv rfl (by decide +kernel)
def LQ(K:W.Frag)(A:Ad):Sp:=fun vs H Q _=> ∃(F:Addr->Prop) (a dx la:Addr) (ls:List Line),vs= [.ref a,.ref la]/\H a=some (.ins A.mV dx [])/\ ¬F a/\iy A F H la ls/\Dn ls/\ls.length<=30000/\ ∀na H',H na=none->Kf (· ≠a) H H'->H' a=some (LH A dx (.ref la) (.ref na))->H' na=some (.dK (nums ls))->Q .dh H'
theorem L5(T:Txt K mg A):bw P w K mg base (lA) 1 A.kL A.pG ["self","lines"] (LQ K A):=by
 refine oq T.vP Dk fun vs H Q E h Rz kz=>?_
 obtain ⟨F,a,dx,la,ls,rfl,ha,fa,hl,hd,hlen,q⟩:=h
 refine kz rfl fun cdv Ar outer s hr=>?_
 have hu:=tW hr
 refine ⟨_,(ah (bG (pv 0) (pv 1) rfl)
   (ah (bG (pv 0) oE rfl)
   (aj (jw PassesOwn.never rfl (dH (pv 1)) (b9 (i:=2) Dk.nd rfl (Or.inl rfl)) (aj (b6 (aO Jl (au (pv 2) rfl) (aC rfl T.rP) (aT _)) (aj (m9 hu (au (pv 0) rfl) (au (pv 2) rfl) (bN Ip (by rfl) T.xu PySem.boot_len (aa (au (pv 0) rfl) ai)) rfl)) aU)))))),?_⟩
 refine ⟨_,rfl,_,rfl,a,_,dx,_,rfl,ha,T.zX,T.qC,(by show 0 < 1000;decide),fun na hna=>?_⟩
 have nna:na≠a:=fun z=>by rw [z,af] at hna;cases hna
 rw [ak nna] at hna
 refine ⟨_,rfl,a,_,dx,_,rfl,by rw [ak (Ne.symm nna),af],T.zX,T.iH,(by show 1 < 1000;decide),?_⟩
 have hna':upd H a (.ins A.mV dx (aY "lines" (.ref la) [])) na=none:=by rw [ak nna];exact hna
 have k1:Kf (· ≠a) H (upd (upd (upd H a (.ins A.mV dx (aY "lines" (.ref la) []))) na (.dK [])) a (LH A dx (.ref la) (.ref na))):=(Kf.put (by simp)).trans ((Kf.new hna').trans (Kf.put (by simp)))
 have e1:upd (upd (upd H a (.ins A.mV dx (aY "lines" (.ref la) []))) na (.dK [])) a (LH A dx (.ref la) (.ref na)) a=some (LH A dx (.ref la) (.ref na)):=af
 have n1:upd (upd (upd H a (.ins A.mV dx (aY "lines" (.ref la) []))) na (.dK [])) a (LH A dx (.ref la) (.ref na)) na=some (.dK (nums (ls.take 0))):=by rw [ak nna,af];rfl
 have hp:aY ("numbers":Str) (V.ref na) (aY ("lines":Str) (V.ref la) [])= [(("lines":Str),.ref la),(("numbers":Str),.ref na)]:=rfl
 rw [hp]
 generalize upd (upd (upd H a (.ins A.mV dx (aY "lines" (.ref la) []))) na (.dK [])) a (LH A dx (.ref la) (.ref na))=H1 at k1 e1 n1
 obtain ⟨fla,vs,el,pl⟩:=id hl
 have lvs:vs.length=ls.length:=Paired.length pl
 have nla:la≠a:=fun z=>by rw [z,ha] at el;cases el
 have FnA: ∀c,F c->c≠a:=fun c hc z=>fa (z▸hc)
 refine ⟨_,rfl,la,rfl,⟨vs,b_.of (k1 _ _ nla el)⟩,gO (K:=K) (a:=la) (xs:=vs) (fun i σ H'=> ∃v:Option V,σ= [some (.ref a),some (.ref la),v]/\Kf (· ≠a) H H'/\H' a=some (LH A dx (.ref la) (.ref na))/\H' na=some (.dK (nums (ls.take i)))) ⟨none,rfl,k1,e1,n1⟩ (fun i σ H' _ ⟨_,_,z,_⟩=>b_.of (z _ _ nla el)) ?_ ?_⟩
 ·rintro i x σ H' hx ⟨v,rfl,k2,e2,n2⟩
  obtain ⟨l,hli,hxl⟩:=Paired.at2 pl hx
  obtain ⟨c,dxc,ta,fc,sc,rfl,fC,ec,_⟩:=id hxl
  have ec2:=k2 _ _ (FnA c fC) ec
  refine ⟨_,rfl,_,_,_,_,_,rfl,ec2,T.aE,T.cu,rfl,rfl,_,rfl,?_⟩
  rw [vd,qN,tK]
  have et:ls.take (i + 1)=ls.take i++ [l]:=by rw [YX,hli];rfl
  cases hA:l.isAngle with
  | true=>exact cM ⟨_,rfl,k2,e2,by rw [n2,et,D9 _ _ hA]⟩
  | false=>
   refine cC ⟨_,rfl,_,_,_,_,_,rfl,e2,T.zX,T.iH,rfl,na,_,rfl,n2,_,rfl,_,_,_,_,_,rfl,e2,T.zX,T.iH,rfl,_,rfl,_,_,_,_,_,rfl,ec2,T.aE,T.bU,rfl,na,_,rfl,zQ.k (k:=Sum.inr (st l.name)) n2 ?_,_,rfl,(fun b o h hb=>by rw [ak (ao hb hna)];exact k2 b o h hb),?_,?_⟩
   ·rw [LA,sizeLine_eq]
    have:(Tide.waves (ls.take i)).length<=(ls.take i).length:=Zk _ _
    rw [Zd] at this
    lia
   ·rw [ak (Ne.symm nna)]
    exact e2
   ·rw [af,Pz _ _ hA (Vw hd hli),et]
 ·rintro σ H' ⟨v,rfl,k2,e2,n2⟩
  rw [lvs,Y8] at n2
  exact q na H' hna k2 e2 n2
theorem judge_ok{b:Bytes}{ls:List Line}(h:Tide.grammar b= .ok ls)(h2:PJ.cH [] ls=none):Tide.judge b= .ok ls:=by
 rw [PJ.GK,h]
 dsimp only
 rw [h2]
theorem Sb{b:Bytes}{ls:List Line}{f:Nat×Nat}(h:Tide.grammar b= .ok ls)(h2:PJ.cH [] ls=some f):Tide.judge b= .error f:=by
 rw [PJ.GK,h]
 dsimp only
 rw [h2]
theorem Ca{before:List Line}{l:Line}(h:PJ.bO before l=none):PJ.qG before l=false:=by
 unfold PJ.bO at h
 cases hd:PJ.qG before l with
 | false=>rfl
 | true=>rw [hd] at h;cases h
theorem uc:ay ["text","lines","known","line"] ["text"] (aq Ag):=jv rfl (by decide +kernel)
def Lb(K:W.Frag)(A:Ad):Sp:=fun vs H Q E=> ∃t b,vs= [.str t]/\Tx t b/\(∀ls a H',Tide.judge b= .ok ls->aN H H'->rq A (fun c=>H c=none) H' a ls->PJ.cH [] ls=none->ls.length<=30000->Q (.ref a) H')/\ ∀f,Tide.judge b= .error f->Er A E (fun _=>True) H f.1 f.2
theorem LO(T:Txt K mg A):bw P w K mg base (B8 P w) 11 A.nF A.pT ["text"] (Lb K A):=by
 refine K5 T.rX uc fun vs H Q E h Rz kz=>?_
 obtain ⟨t,b,rfl,tx,rok,rer⟩:=h
 refine kz rfl fun cdv Ar outer s hr=>?_
 have hu:=tW hr
 refine ⟨_,(ah (aF (i:=1) uc.nd rfl (Or.inl rfl) (aB (xH T) (hr.mono (by decide)) rfl T.lD T.e8.kp T.yG .nil (aA.passes rfl) (aa (pv 0) ai)))
   (ah (aF (i:=2) uc.nd rfl (Or.inl rfl) oE)
   (ah (jw fG rfl (dH (pv 1)) (b9 (i:=3) uc.nd rfl (Or.inl rfl)) (ah (cJ (aB (Hi T) (hr.mono (by decide)) rfl T.vU T.oF.kp T.JF .nil (aA.passes rfl) (aa (pv 3) (aa (pv 2) ai))))
   (aj (m9 hu (pv 2) (au (pv 3) rfl) (au (pv 3) rfl) rfl))))
   (aj (aD (jz T.Ni (L5 T) (hr.mono (by decide)) rfl T.R_ T.M4 .nil aL (aa (pv 1) ai))))))),?_⟩
 refine ⟨_,rfl,t,b,rfl,tx,fun ls la H1 eg s1 hl hlen=>?_,fun e he=>rer (1,e) (by rw [PJ.GK,he])⟩
 intro ka hka
 have nka:H ka=none:=s1.free hka
 have hl1:iy A (fun c=>H c=none/\c≠ka) H1 la ls:=hl.wide fun c o hc ho=>⟨hc,ao ho hka⟩
 obtain ⟨fla,vs,el,pl⟩:=id hl1
 have lvs:vs.length=ls.length:=Paired.length pl
 have k2:Kf (· ≠ka) H1 (upd H1 ka (.dK [])):=Kf.new hka
 have e2:upd H1 ka (.dK []) ka=some (.dK (kn (ls.take 0))):=af
 generalize upd H1 ka (.dK [])=H2 at k2 e2
 refine ⟨_,rfl,la,rfl,⟨vs,b_.of (k2 _ _ fla.2 el)⟩,gO (K:=K) (a:=la) (xs:=vs) (fun i σ H'=> ∃v:Option V,σ= [some (.str t),some (.ref la),some (.ref ka),v]/\Kf (· ≠ka) H1 H'/\H' ka=some (.dK (kn (ls.take i)))/\Dn (ls.take i)/\PJ.cH [] ls=PJ.cH (ls.take i) (ls.drop i)) ⟨none,rfl,k2,e2,by unfold Dn;simp,rfl⟩ (fun i σ H' _ ⟨_,_,z,_⟩=>b_.of (z _ _ fla.2 el)) ?_ ?_⟩
 ·rintro i x σ H3 hx ⟨v,rfl,k3,e3,d3,ff⟩
  obtain ⟨l,hli,hxl⟩:=Paired.at2 pl hx
  have et:ls.take (i + 1)=ls.take i++ [l]:=by rw [YX,hli];rfl
  have ed:ls.drop i=l::ls.drop (i + 1):=by
   obtain ⟨hi,e⟩:=YL.mp hli
   rw [Zo hi,e]
  rw [ed,PJ.cH] at ff
  have kF:Kf (fun c=>H c=none/\c≠ka) H1 H3:=k3.mono fun c o h _=>h.2
  have hx3:=hxl.keep kF
  refine ⟨_,rfl,_,rfl,_,x,l,ka,ls.take i,rfl,hx3,e3,d3,fun hnf H4 s4=>?_,fun f hf=>?_⟩
  ·rw [hnf] at ff
   obtain ⟨c,dxc,ta,fc,sc,rfl,fC,ec,_⟩:=id hx3
   refine ⟨_,rfl,_,_,_,_,_,rfl,s4 _ _ ec,T.aE,T.cu,rfl,_,rfl,_,rfl,_,_,_,_,_,rfl,s4 _ _ ec,T.aE,T.bU,rfl,ka,_,rfl,zQ.k (k:=Sum.inr (st l.name)) (s4 _ _ e3) ?_,_,rfl,?_,?_,?_,?_⟩
   ·rw [Ru,sizeLine_eq,Zd]
    lia
   ·exact (k3.trans (Kf.of s4)).trans (Kf.put (by simp))
   ·rw [af,Vm _ _ (Ca hnf),et]
   ·rw [et]
    exact d3.snoc (Ca hnf)
   ·rw [ff,et]
  ·rw [hf] at ff
   refine (rer f (Sb eg ff)).tX (fun c o _ hc=>k3 c o ?_ (s1 c o hc)) fun _ _ h _=>h
   intro z
   rw [z,nka] at hc
   cases hc
 ·rintro σ H3 ⟨v,rfl,k3,e3,d3,ff⟩
  rw [lvs,Y8] at d3 ff
  rw [List.drop_length] at ff
  have kF:Kf (fun c=>H c=none/\c≠ka) H1 H3:=k3.mono fun c o h _=>h.2
  have hl3:=hl1.keep kF
  refine ⟨_,rfl,fun x dx hx hdx ndx=>⟨fun c=>H c=none/\c≠ka/\c≠x/\c≠dx,x,dx,la,ls,rfl,af,fun z=>z.2.2.1 rfl,?_,d3,hlen,fun na H4 hna k4 e4 n4=>⟨rfl,?_⟩⟩⟩
  ·refine iy.keep (F:=fun c=>H c=none/\c≠ka/\c≠x/\c≠dx) (H:=H3) (hl3.wide fun c o hc ho=>⟨hc.1,hc.2,ao ho hx,ao ho hdx⟩) fun c o hc ho=>?_
   rw [ak hc.2.2.1,ak hc.2.2.2]
   exact ho
  ·have s13:aN H H3:=fun c o hc=>k3 c o (fun z=>by rw [z,nka] at hc;cases hc) (s1 c o hc)
   have nx:H x=none:=s13.free hx
   have nxn:na≠x:=fun z=>by rw [z,af] at hna;cases hna
   have nxd:na≠dx:=fun z=>by rw [z,ak ndx,af] at hna;cases hna
   rw [ak nxn,ak nxd] at hna
   have k34:Kf (fun _=>True) H3 H4:=fun c o _ hc=>k4 c o (ao hc hx) (by rw [ak (ao hc hx),ak (ao hc hdx)];exact hc)
   refine rok ls x H4 (judge_ok eg ff) (fun c o hc=>k34 c o trivial (s13 c o hc)) ⟨nx,dx,la,na,e4,(hl3.keep (k34.mono fun _ _ _ _=>trivial)).wide fun c o hc _=>hc.1,s13.free hna,n4⟩ ff hlen
def jC:List Nat:= [10,32,43,45,46]++(List.range 10).map (· + 48)++(List.range 26).map (· + 65)++(List.range 26).map (· + 97)
theorem R5:tl (Str.ofString "\n +-.0123456789ABCDEFGHIJKLMNOPQRSTUVWXYZabcdefghijklmnopqrstuvwxyz")=jC:=by decide +kernel
def Sq(l:List Nat):List (Key×V):=l.map fun (c:Nat)=>(Sum.inl (c:Int),V.str ⟨#[c]⟩)
theorem JX: ∀(l:List Nat) (c:Nat),dg (Sq l) (Sum.inl (c:Int))=if c ∈ l then some (V.str ⟨#[c]⟩) else none
 | [],c=>by simp [Sq,dg]
 | d::r,c=>by
  have ih:=JX r c
  show dg ((Sum.inl (d:Int),V.str ⟨#[d]⟩)::Sq r) (Sum.inl (c:Int))=_
  by_cases h:d=c
  ·subst h
   rw [gQ rfl]
   simp
  ·rw [gK (fun z=>h (by have:=Sum.inl.inj z;lia)),ih]
   have:c≠d:=fun z=>h z.symm
   simp [this]
theorem TH{l:List Nat}{c:Nat}(h:c ∉ l):putK (Sq l) (Sum.inl (c:Int)) (V.str ⟨#[c]⟩)=Sq (l++ [c]):=by
 rw [BV _ (by rw [JX,if_neg h])]
 unfold Sq
 rw [YT]
 rfl
theorem Rx:jC.Nodup:=by decide +kernel
theorem QU(x:UInt8):decide (x.toNat ∈ jC)=Iv x:=by
 have:=R1 (p:=fun x=>decide (x.toNat ∈ jC) == Iv x) (by decide +kernel) x
 exact beq_iff_eq.mp this
theorem VA(x:UInt8):(dg (Sq jC) (Sum.inl (x.toNat:Int))).getD (V.str "?")=V.str ⟨#[ph x]⟩:=by
 rw [JX]
 unfold ph
 have h:=QU x
 by_cases hm:x.toNat ∈ jC
 ·rw [if_pos hm]
  rw [YQ hm] at h
  rw [if_pos h.symm]
  rfl
 ·rw [if_neg hm]
  rw [YJ hm] at h
  rw [if_neg (by rw [<-h];decide)]
  have:(Str.ofString "?":Str)=⟨#[63]⟩:=by decide +kernel
  rw [this]
  rfl
theorem Th(l:List Nat):tl (Txt.join Str.empty (l.map fun c=>(⟨#[c]⟩:Str)))=l:=by
 rw [TL.join_eq,TL.JY]
 show GP [] ((l.map fun c=>(⟨#[c]⟩:Str)).map tl)=l
 rw [List.map_map]
 induction l with
 | nil=>rfl
 | cons c r ih=>
  cases r with
  | nil=>rfl
  | cons d r'=>
   rw [YS] at ih
   show [c]++ []++GP [] _=_
   rw [ih]
   rfl
theorem Uz {x:Str} {g:TG} {tb:TS} {D:Ends} {σ:L2.St} {H:Hp} (Pv:Nat->L2.St->Hp->Prop) (h0:Pv 0 σ H)
  (hs: ∀(i c:Nat) σ H,x.cps[i]?=some c->Pv i σ H->g (.str ⟨#[c]⟩) σ H fun σ2 H2=>tb {D with nx:=Pv (i + 1),ct:=Pv (i + 1),bk:=D.nx} σ2 H2) (hd: ∀σ H,Pv x.cps.size σ H->D.nx σ H):
  ∃W:Nat->Nat->L2.St->Hp->Prop,(∃m,W 0 m σ H)/\ ∀i m σ H,W i m σ H->
   ((WQ x).stop i H/\D.nx σ H)\/((WQ x).go i H/\ ∃N:L2.St->Hp->Prop,(∀σ' H',N σ' H'-> ∃m',m' < m/\W (i + 1) m' σ' H')/\ ∀y H',(WQ x).Tr i H y H'->g y σ H' fun σ2 H2=>tb {D with nx:=N,ct:=N,bk:=D.nx} σ2 H2):=by
 refine ⟨fun i m σ H=>m=x.cps.size - i/\i<=x.cps.size/\Pv i σ H,⟨x.cps.size,by simp,YW _,h0⟩,?_⟩
 rintro i m σ H ⟨rfl,hi,p⟩
 by_cases hlt:i < x.cps.size
 ·refine .inr ⟨hlt,Pv (i + 1),fun σ' H' p'=>⟨x.cps.size - (i + 1),by lia,rfl,hlt,p'⟩,fun y H' z=>?_⟩
  obtain ⟨e,c,hc,ey⟩:=z
  subst e ey
  exact hs i c σ _ hc p
 ·have e:i=x.cps.size:=by lia
  subst e
  exact .inl ⟨YM _,hd σ H p⟩
theorem Lz: ∀b:Bytes,((b.map fun x=>(⟨#[ph x]⟩:Str)).map (·.length)).sum=b.length
 | []=>rfl
 | x::r=>by
  rw [YS,YS,List.sum_cons,Lz r,YU]
  show 1 + r.length=r.length + 1
  lia
def bInts(b:Bytes):List Int:=b.map fun x=>(x.toNat:Int)
theorem tD:ay ["codes","signs","sign","code"] ["codes"] (aq B9):=jv rfl (by decide +kernel)
def Nn(K:W.Frag)(A:Ad):Sp:=fun vs H Q _=> ∃a b,vs= [.ref a]/\b_ K H a ((bInts b).map V.int)/\b.length<=30000/\ ∀t H',aN H H'->Tx t b->Q (.str t) H'
theorem Gv(T:Txt K mg A):bw P w K mg base (lA) 1 A.pK A.rV ["codes"] (Nn K A):=by
 refine oq T.rW tD fun vs H Q E h Rz kz=>?_
 obtain ⟨a,b,rfl,ha,hb,q⟩:=h
 refine kz rfl fun cdv Ar outer s hr=>?_
 have hu:=tW hr
 refine ⟨_,(ah (aF (i:=1) tD.nd rfl (Or.inr rfl) oE)
   (ah (jw PassesOwn.never rfl (RB (aC rfl T.JD)) (b9 (i:=2) tD.nd rfl (Or.inl rfl)) (aj (m9 hu (pv 1) (bN MY (by rfl) T.OI (by decide +kernel) (aa (pv 2) ai)) (pv 2) rfl)))
   (aj (aD (qw PySem.F.plainAttrs_str PySem.F.slot_str_join PySem.F.type_str_join OO cV (aa (B3 rfl tD.nd (dH (pv 0)) (own:= [("code",3)]) (mU rfl) (fun _ _ _ _ _=>b9 (i:=3) tD.nd rfl (Or.inl rfl)) (fun _ _ _ _ _=>tQ) (fun _ _ _ _ _=>(RD hu (pv 1) (pv 3) (aC rfl T.vY) ⟨rfl,rfl,rfl,rfl⟩))) ai)))))),?_⟩
 intro da hda
 have s1:aN H (upd H da (.dK [])):=aN.new hda
 have e1:upd H da (.dK []) da=some (.dK (Sq (jC.take 0))):=af
 generalize upd H da (.dK [])=H1 at s1 e1
 refine ⟨_,rfl,Uz (fun i σ H'=> ∃v:Option V,σ= [some (.ref a),some (.ref da),v,none]/\aN H H'/\H' da=some (.dK (Sq (jC.take i)))) ⟨none,rfl,s1,e1⟩ ?_ ?_⟩
 ·rintro i c σ H2 hc ⟨v,rfl,s2,e2⟩
  have hc':jC[i]?=some c:=by
   rw [<-R5]
   show (Str.ofString _).cps.toList[i]?=_
   rw [Zm]
   exact hc
  have hnd:c ∉ jC.take i:=fun hm=>by
   have nd:=Rx
   have e:jC.take (i + 1)=jC.take i++ [c]:=by rw [YX,hc'];rfl
   have nd2:(jC.take (i + 1)).Nodup:=nd.sublist (List.take_sublist _ _)
   rw [e,List.nodup_append] at nd2
   exact nd2.2.2 c hm c (by simp) rfl
  have et:jC.take (i + 1)=jC.take i++ [c]:=by rw [YX,hc'];rfl
  refine ⟨_,rfl,_,rfl,_,rfl,_,rfl,rfl,da,_,rfl,zQ.k (k:=Sum.inl (c:Int)) e2 ?_,_,rfl,?_,?_⟩
  ·unfold Sq
   rw [YI,Zd,sizeLine_eq]
   have:jC.length=67:=by decide +kernel
   lia
  ·intro z o ho
   rw [ak (fun w=>by rw [w,hda] at ho;cases ho)]
   exact s2 z o ho
  ·rw [af,TH hnd,et]
 ·rintro σ H2 ⟨v,rfl,s2,e2⟩
  have e2':H2 da=some (.dK (Sq jC)):=by
   rw [e2]
   have:jC.take (Str.ofString "\n +-.0123456789ABCDEFGHIJKLMNOPQRSTUVWXYZabcdefghijklmnopqrstuvwxyz").cps.size=jC:=by decide +kernel
   rw [this]
  dsimp only [BI,Wy,tC,bC]
  refine ⟨rfl,?_⟩
  refine yU (b.map fun x=>V.str ⟨#[ph x]⟩) (fun P p=>⟨_,rfl,p⟩) (by rw [YI,YI,bInts,YI]) (by rw [YI,bInts,YI,sizeLine_eq];lia) (s2.seq ha) (fun i x y hx hy H' s' P p=>?_) (fun D hD=>?_)
  ·obtain ⟨z,hz,rfl,rfl⟩: ∃z,b[i]?=some z/\x=V.int (z.toNat:Int)/\y=V.str ⟨#[ph z]⟩:=by
    unfold bInts at hx
    rw [Y6,Y6] at hx
    rw [Y6] at hy
    cases hb':b[i]? with
    | none=>rw [hb'] at hx;cases hx
    | some z=>
     rw [hb'] at hx hy
     exact ⟨z,rfl,(Option.some.inj hx).symm,(Option.some.inj hy).symm⟩
   refine ⟨_,rfl,da,rfl,.inl ⟨_,.inl (s' _ _ e2')⟩,_,rfl,_,iY.k (k:=Sum.inl (z.toNat:Int)) (s' _ _ e2'),?_⟩
   have:=VA z
   rw [this]
   exact p
  ·refine ⟨_,D,b.map fun x=>(⟨#[ph x]⟩:Str),rfl,rfl,.inl (b_.of (by rw [af,List.map_map];rfl)),?_,?_⟩
   ·rw [Lz,show (Str.ofString "").length=0 from by decide +kernel,Nat.mul_zero]
    lia
   ·refine q _ _ (s2.trans (aN.new hD)) ⟨?_,hb⟩
    have:=Th (b.map ph)
    rw [List.map_map] at this
    exact this
theorem TZ {x:Str} {tl te:TE} {j:Nat} {σ:L2.St} {H1:Hp} {Q:VK} (ys:List V) (htl: ∀P:VK,P (.str x) H1->tl σ H1 P) (hlen:ys.length=x.cps.size) (hz:x.cps.size<=sizeLine)
  (hstep: ∀(i c:Nat) (y:V),x.cps[i]?=some c->ys[i]?=some y-> ∀H',aN H1 H'-> ∀P:VK,P y H'->te ((wipe σ [j]).set j (some (.str ⟨#[c]⟩))) H' P)
  (hd: ∀D,H1 D=none->Q (.ref D) (upd H1 D (.lst ys))):Tq (Xm tl) (mR j) HN te [j] σ H1 Q:=htl _ ⟨x,rfl,fun D hD=>by
 refine ⟨fun i m H'=>m=x.cps.size - i/\i<=x.cps.size/\H'=upd H1 D (.lst (ys.take i)),⟨x.cps.size,by simp,YW _,rfl⟩,?_⟩
 rintro i m H' ⟨rfl,hi,rfl⟩
 by_cases hlt:i < x.cps.size
 ·refine .inr ⟨hlt,fun H'=>H'=upd H1 D (.lst (ys.take (i + 1))),fun H' p'=>⟨x.cps.size - (i + 1),by lia,rfl,hlt,p'⟩,fun y H' z=>?_⟩
  obtain ⟨e,c,hc,ey⟩:=z
  subst e ey
  obtain ⟨y,hy⟩: ∃y,ys[i]?=some y:=⟨ys[i]'(by lia),Y9 (by lia)⟩
  refine ⟨xT σ j _,?_⟩
  unfold HN
  simp only [if_true]
  refine hstep i c y hc hy _ (aN.new hD) _ ⟨ys.take i,af,?_,?_⟩
  ·rw [Zd]
   lia
  ·rw [b8,YX,hy]
   rfl
 ·have e:i=x.cps.size:=by lia
  subst e
  refine .inl ⟨YM _,?_⟩
  rw [<-hlen,Y8]
  exact hd D hD⟩
theorem yH:ay ["text","sign"] ["text"] (aq AD):=jv rfl (by decide +kernel)
def MZ(K:W.Frag)(A:Ad):Sp:=fun vs H Q _=> ∃t,∃cs:List Nat,vs= [.str t]/\tl t=cs/\cs.length<=10000000/\ ∀p H',aN H H'->H' p=some (.lst (cs.map fun (c:Nat)=>V.int (c:Int)))->Q (.ref p) H'
theorem LG(T:Txt K mg A):bw P w K mg base (lA) 1 A.ny A.pF ["text"] (MZ K A):=by
 refine oq T.tH yH fun vs H Q E h Rz kz=>?_
 obtain ⟨t,cs,rfl,ht,hl,q⟩:=h
 refine kz rfl fun cdv Ar outer s hr=>?_
 refine ⟨_,(aj (aD (B3 rfl yH.nd (RB (pv 0)) (own:= [("sign",1)]) (mU rfl) (fun _ _ _ _ _=>b9 (i:=1) yH.nd rfl (Or.inl rfl)) (fun _ _ _ _ _=>tQ) (fun _ _ _ _ _=>(bN MY (by rfl) T.OI (by decide +kernel) (aa (pv 1) ai)))))),?_⟩
 dsimp only [BI]
 have hsz:t.cps.size=cs.length:=by rw [<-ht];simp [tl]
 refine TZ (x:=t) (cs.map fun (c:Nat)=>V.int (c:Int)) (fun P p=>⟨_,rfl,p⟩) (by rw [YI,hsz]) (by rw [hsz,sizeLine_eq];lia) (fun i c y hc hy H' s' P p=>?_) (fun D hD=>q D _ (aN.new hD) af)
 have hc':cs[i]?=some c:=by
  rw [<-ht]
  show t.cps.toList[i]?=_
  rw [Zm]
  exact hc
 have ey:y=V.int (c:Int):=by
  rw [Y6,hc'] at hy
  exact (Option.some.inj hy).symm
 subst ey
 exact ⟨_,rfl,_,rfl,rfl,p⟩
end Td
namespace Td
open PySem PySem.Spec PyProof.Rows L2 TL
open Tide (Bytes Cur isDigit isLetter nextIs Term Part Line Share)
variable {P:Program} {w:World} {K:W.Frag} {mg:Str->Option Value} {base:Heap} {A:Ad}
theorem zh {K:W.Frag} {A:Ad} {H:Hp} {r:Addr} {b:Bytes} {q:Nat} {w:Bytes} {s:Str} {σ:L2.St} {E:XK} {Q:VK} (hg:goodW [w]=true) (h1:w≠ []) (h2:w.length<=16) (rd:gW A H r b q) (es:s=st w)
  (ok: ∀q' H',Tide.lit w (cur b q)= .ok (cur b q')->Kf (· ≠r) H H'->gW A H' r b q'->Q (.str (st w)) H') (er: ∀e,Tide.lit w (cur b q)= .error e->Er A E (· ≠r) H 1 e):
  bC (LI (bC (tC (.str s)) mQ)) mQ σ H fun vs H2=>dY K A (.ref r::(vs++ [])) H2 Q E:=by
 obtain ⟨dx,t,e,tx⟩:=id rd
 refine ⟨by show 1<=sizeLine;decide,fun p hp=>⟨r,p,b,q,[w],rfl,⟨dx,t,by rw [ak (ao e hp)];exact e,tx⟩,jn.of (by rw [af,es];rfl),hg,fun x q' H' ew k rd'=>?_,fun z he=>(er z (tL h1 h2 he)).step (Kf.new hp) fun _ _ h _=>h⟩⟩
 obtain ⟨rfl,el⟩:=BK h1 h2 ew
 exact ok q' H' el ((Kf.new hp).trans k) rd'
def zl(c:Cur):Except Nat (Share×Cur):=
 Tide.lit PM.lq c >>= fun c1=>Tide.nameIn c1 >>= fun (n:Bytes×Cur)=>Tide.blank n.2 >>= fun c3=>Tide.pointed 2 4 c3 >>= fun (z:Nat×Cur)=>Tide.blank z.2 >>= fun c5=>Tide.pointed 3 3 c5 >>= fun (g:Nat×Cur)=>Tide.lit [10] g.2 >>= fun c7=> .ok (⟨n.1,c1.at_,z.1,g.1,c5.at_⟩,c7)
theorem Qv{b:Bytes}{q f:Nat}{x:UInt8}(h:(cur b q).next=some x):Tide.sharesIn (f + 1) (cur b q)=(zl (cur b q) >>= fun (z:Share×Cur)=>Tide.sharesIn f z.2 >>= fun r=> .ok (z.1::r)):=by
 rw [Tide.sharesIn,if_neg (fun z=>by rw [(BX b q).mp z] at h;cases h),PM.wU]
 unfold zl
 cases Tide.lit PM.lq (cur b q) with
 | error e=>rfl
 | ok c1=>
  show (Tide.nameIn c1 >>= _)=(Tide.nameIn c1 >>= _) >>= _
  cases Tide.nameIn c1 with
  | error e=>rfl
  | ok n=>
   show (Tide.blank n.2 >>= _)=(Tide.blank n.2 >>= _) >>= _
   cases Tide.blank n.2 with
   | error e=>rfl
   | ok c3=>
    show (Tide.pointed 2 4 c3 >>= _)=(Tide.pointed 2 4 c3 >>= _) >>= _
    cases Tide.pointed 2 4 c3 with
    | error e=>rfl
    | ok z=>
     show (Tide.blank z.2 >>= _)=(Tide.blank z.2 >>= _) >>= _
     cases Tide.blank z.2 with
     | error e=>rfl
     | ok c5=>
      show (Tide.pointed 3 3 c5 >>= _)=(Tide.pointed 3 3 c5 >>= _) >>= _
      cases Tide.pointed 3 3 c5 with
      | error e=>rfl
      | ok g=>
       show (Tide.lit [10] g.2 >>= _)=(Tide.lit [10] g.2 >>= _) >>= _
       cases Tide.lit [10] g.2 <;> rfl
theorem LJ{b:Bytes}{q f:Nat}(h:(cur b q).next=none):Tide.sharesIn f (cur b q)= .ok []:=by
 cases f with
 | zero=>rfl
 | succ f=>rw [Tide.sharesIn,if_pos ((BX b q).mpr h)]
theorem Sx{b:Bytes}{q q':Nat}{x:Share}(h:zl (cur b q)= .ok (x,cur b q')):q < q':=by
 unfold zl at h
 refine PJ.aX h fun c1 f1 h=>?_
 refine PJ.aX h fun n f2 h=>?_
 refine PJ.aX h fun c3 f3 h=>?_
 refine PJ.aX h fun z f4 h=>?_
 refine PJ.aX h fun c5 f5 h=>?_
 refine PJ.aX h fun g f6 h=>?_
 refine PJ.aX h fun c7 f7 h=>?_
 have e7:c7=cur b q':=congrArg Prod.snd (Except.ok.inj h)
 have a1:=PJ.fO _ f1
 have a2:=PJ.zH f2
 have a3:=PJ.fO _ f3
 have a4:=PJ.vZ f4
 have a5:=PJ.fO _ f5
 have a6:=PJ.vZ f6
 have a7:=PJ.fO _ f7
 have h1:(cur b q).at_=q:=rfl
 have h2:c7.at_=q':=by rw [e7];rfl
 simp only [YU,List.length_nil] at a3 a5 a7
 have:PM.lq.length=5:=rfl
 lia
theorem Sf{c d:Cur}{n:Bytes}(h:Tide.nameIn c= .ok (n,d)):n.length<=7:=by
 unfold Tide.nameIn at h
 split at h
 ·have e:=(EZ (fun x=>isLetter x || isDigit x) 7 c).2
  rw [Except.ok.inj h] at e
  exact e
 ·cases h
def l6(A:Ad)(F:Addr->Prop)(H:Hp)(v:V)(x:Share):Prop:= ∃a dx,v= .ref a/\F a/\H a=some (Ij A dx (.str (st x.name)) (.int (x.at_:Int)) (.int (x.size:Int)) (.int (x.lag:Int)) (.int (x.lagAt:Int)))/\x.size < 10 ^ 6/\x.lag < 10 ^ 6/\x.name.length<=7
def iO(A:Ad)(F:Addr->Prop)(H:Hp)(a:Addr)(p:Tide.Port):Prop:=F a/\ ∃dx wa vs,H a=some (U4 A dx (.int p.level) (.ref wa))/\F wa/\H wa=some (.lst vs)/\Paired (l6 A F H) vs p.shares/\p.level.natAbs < 10 ^ 6/\p.shares.length<=30000
section
variable {A:Ad} {F G:Addr->Prop} {H H':Hp} {a:Addr} {v:V}
theorem l6.keep{x:Share}(h:l6 A F H v x)(k:Kf F H H'):l6 A F H' v x:=let ⟨a,dx,e,f,g,z⟩:=h;⟨a,dx,e,f,k _ _ f g,z⟩
theorem l6.wide{x:Share}(h:l6 A F H v x)(w: ∀b o,F b->H b=some o->G b):l6 A G H v x:=let ⟨a,dx,e,f,g,z⟩:=h;⟨a,dx,e,w _ _ f g,g,z⟩
theorem iO.keep{p:Tide.Port}(h:iO A F H a p)(k:Kf F H H'):iO A F H' a p:=let ⟨f,dx,wa,vs,e,g,i,q,z⟩:=h;⟨f,dx,wa,vs,k _ _ f e,g,k _ _ g i,Paired.ja (fun _ _ s=>s.keep k) q,z⟩
theorem iO.wide{p:Tide.Port}(h:iO A F H a p)(w: ∀b o,F b->H b=some o->G b):iO A G H a p:=let ⟨f,dx,wa,vs,e,g,i,q,z⟩:=h;⟨w _ _ f e,dx,wa,vs,e,w _ _ g i,i,Paired.ja (fun _ _ s=>s.wide w) q,z⟩
end
theorem Qy:goodW [PM.lq]=true:=by decide +kernel
theorem fE:ay ["reader","name_place","name","size","lag_place","lag"] ["reader"] (aq pM):=jv rfl (by decide +kernel)
def B4(K:W.Frag)(A:Ad):Sp:=fun vs H Q E=> ∃r b p,vs= [.ref r]/\gW A H r b p/\Reads A E (· ≠r) H r b p zl (fun x q H'=> ∀v,l6 A (fun c=>H c=none) H' v x->Q v H')
theorem A3(T:Txt K mg A):bw P w K mg base (B8 P w) 5 A.ee A.gq ["reader"] (B4 K A):=by
 refine K5 T.je fE fun vs H Q E h Rz kz=>?_
 obtain ⟨r,b,p,rfl,rd,rok,rer⟩:=h
 refine kz rfl fun cdv Ar outer s hr=>?_
 refine ⟨_,(ah (cJ (bM (pv 0) T.az T.aJ (aG T) (hr.mono (by decide)) T.aK .nil (aA.passes rfl) (aa (gX (aa cV ai)) ai)))
   (ah (aF (i:=1) fE.nd rfl (Or.inl rfl) (au (pv 0) rfl))
   (ah (aF (i:=2) fE.nd rfl (Or.inl rfl) (d8 (pv 0) T.az T.nu (mD T) (hr.mono (by decide)) T.ng .nil (aA.passes rfl)))
   (ah (cJ (bM (pv 0) T.az T.aJ (aG T) (hr.mono (by decide)) T.aK .nil (aA.passes rfl) (aa (gX (aa cV ai)) ai)))
   (ah (aF (i:=3) fE.nd rfl (Or.inl rfl) (bM (pv 0) T.az T.gT (fV T) (hr.mono (by decide)) T.gU .nil (aA.passes rfl) (aa (aC rfl T.ir) (aa (aC rfl T.c_) ai))))
   (ah (cJ (bM (pv 0) T.az T.aJ (aG T) (hr.mono (by decide)) T.aK .nil (aA.passes rfl) (aa (gX (aa cV ai)) ai)))
   (ah (aF (i:=4) fE.nd rfl (Or.inl rfl) (au (pv 0) rfl))
   (ah (aF (i:=5) fE.nd rfl (Or.inl rfl) (bM (pv 0) T.az T.gT (fV T) (hr.mono (by decide)) T.gU .nil (aA.passes rfl) (aa (aC rfl T.mh) (aa (aC rfl T.i7) ai))))
   (ah (cJ (bM (pv 0) T.az T.aJ (aG T) (hr.mono (by decide)) T.aK .nil (aA.passes rfl) (aa (gX (aa cV ai)) ai)))
   (aj (aD (jz T.yi (CN T) (hr.mono (by decide)) rfl T.AH T.DW .nil aL (aa (pv 2) (aa (pv 1) (aa (pv 3) (aa (pv 5) (aa (pv 4) ai))))))))))))))))),?_⟩
 obtain ⟨dxr,t,e,tx⟩:=id rd
 unfold zl at rok rer
 refine ⟨_,rfl,r,_,_,rfl,e,rfl,zh Qy (by decide) (by decide) rd mZ (fun q1 H1 f1 k1 rd1=>?_) (fun er he=>rer er (by rw [he];rfl))⟩
 rw [f1] at rok rer
 obtain ⟨dx1,t1,e1,tx1⟩:=id rd1
 refine ⟨_,rfl,_,_,_,_,_,rfl,e1,T.az,T.aI,rfl,_,rfl,r,_,_,rfl,e1,rfl,r,b,q1,rfl,rd1,fun n q2 H2 f2 k2 rd2=>?_,fun er he=>(rer er (by show Tide.nameIn (cur b q1) >>= _=_;rw [he];rfl)).step k1 fun _ _ h _=>h⟩
 replace rok:=fun x q H' h=>rok x q H' (by show Tide.nameIn (cur b q1) >>= _=_;rw [f2];exact h)
 replace rer:=fun er h=>rer er (by show Tide.nameIn (cur b q1) >>= _=_;rw [f2];exact h)
 have kk2:=k1.trans k2
 obtain ⟨dx2,t2,e2,tx2⟩:=id rd2
 refine ⟨_,rfl,r,_,_,rfl,e2,rfl,zh sE (by decide) (by decide) rd2 lE (fun q3 H3 f3 k3 rd3=>?_) (fun er he=>(rer er (by show Tide.lit [32] (cur b q2) >>= _=_;rw [he];rfl)).step kk2 fun _ _ h _=>h)⟩
 replace rok:=fun x q H' h=>rok x q H' (by show Tide.lit [32] (cur b q2) >>= _=_;rw [f3];exact h)
 replace rer:=fun er h=>rer er (by show Tide.lit [32] (cur b q2) >>= _=_;rw [f3];exact h)
 have kk3:=kk2.trans k3
 obtain ⟨dx3,t3,e3,tx3⟩:=id rd3
 refine ⟨_,rfl,r,_,_,rfl,e3,rfl,r,b,q3,2,4,rfl,by decide,by decide,by decide,by decide,rd3,fun z q4 H4 f4 k4 rd4=>?_,fun er he=>(rer er (by show Tide.pointed 2 4 (cur b q3) >>= _=_;rw [he];rfl)).step kk3 fun _ _ h _=>h⟩
 replace rok:=fun x q H' h=>rok x q H' (by show Tide.pointed 2 4 (cur b q3) >>= _=_;rw [f4];exact h)
 replace rer:=fun er h=>rer er (by show Tide.pointed 2 4 (cur b q3) >>= _=_;rw [f4];exact h)
 have kk4:=kk3.trans k4
 obtain ⟨dx4,t4,e4,tx4⟩:=id rd4
 refine ⟨_,rfl,r,_,_,rfl,e4,rfl,zh sE (by decide) (by decide) rd4 lE (fun q5 H5 f5 k5 rd5=>?_) (fun er he=>(rer er (by show Tide.lit [32] (cur b q4) >>= _=_;rw [he];rfl)).step kk4 fun _ _ h _=>h)⟩
 replace rok:=fun x q H' h=>rok x q H' (by show Tide.lit [32] (cur b q4) >>= _=_;rw [f5];exact h)
 replace rer:=fun er h=>rer er (by show Tide.lit [32] (cur b q4) >>= _=_;rw [f5];exact h)
 have kk5:=kk4.trans k5
 obtain ⟨dx5,t5,e5,tx5⟩:=id rd5
 refine ⟨_,rfl,_,_,_,_,_,rfl,e5,T.az,T.aI,rfl,_,rfl,r,_,_,rfl,e5,rfl,r,b,q5,3,3,rfl,by decide,by decide,by decide,by decide,rd5,fun g q6 H6 f6 k6 rd6=>?_,fun er he=>(rer er (by show Tide.pointed 3 3 (cur b q5) >>= _=_;rw [he];rfl)).step kk5 fun _ _ h _=>h⟩
 replace rok:=fun x q H' h=>rok x q H' (by show Tide.pointed 3 3 (cur b q5) >>= _=_;rw [f6];exact h)
 replace rer:=fun er h=>rer er (by show Tide.pointed 3 3 (cur b q5) >>= _=_;rw [f6];exact h)
 have kk6:=kk5.trans k6
 obtain ⟨dx6,t6,e6,tx6⟩:=id rd6
 refine ⟨_,rfl,r,_,_,rfl,e6,rfl,zh KJ (by decide) (by decide) rd6 xw (fun q7 H7 f7 k7 rd7=>?_) (fun er he=>(rer er (by show Tide.lit [10] (cur b q6) >>= _=_;rw [he];rfl)).step kk6 fun _ _ h _=>h)⟩
 have kk7:=kk6.trans k7
 obtain ⟨dx7,t7,e7,tx7⟩:=id rd7
 refine ⟨_,rfl,_,rfl,_,rfl,_,rfl,_,rfl,fun x dx hx hdx ndx=>⟨x,dx,_,_,_,_,_,rfl,af,rfl,?_⟩⟩
 rw [b8]
 have nxr:x≠r:=fun w=>by rw [w,e7] at hx;cases hx
 have ndr:dx≠r:=fun w=>by rw [w,e7] at hdx;cases hdx
 refine rok ⟨n,q1,z,g,q5⟩ q7 _ ?_ (kk7.trans fun c o h hc=>bS hx hdx c o hc) ⟨dx7,t7,bS hx hdx _ _ e7,tx7⟩ (.ref x) ⟨x,dx,rfl,l9 kk7 e7 hx,af,AL f4,AL f6,Sf f2⟩
 show Tide.lit [10] (cur b q6) >>= _=_
 rw [f7]
 rfl
def xP:Bytes:= [108,101,118,101,108,32]
theorem Ba:(Str.ofString "level ":Str)=st xP:=by decide +kernel
theorem NL:goodW [xP]=true:=by decide +kernel
theorem UW(b:Bytes):Tide.portGrammar b=(Tide.lit xP (cur b 0) >>= fun c1=>mK 2 4 c1 >>= fun (x:Int×Cur)=>Tide.lit [10] x.2 >>= fun c3=>Tide.sharesIn (b.length + 1) c3 >>= fun r=> .ok ⟨x.1,r⟩):=by
 unfold Tide.portGrammar
 rw [PM.Ds]
 rfl
theorem ni:ay ["reader","level","waves"] ["reader"] (aq oH):=jv rfl (by decide +kernel)
def AK(K:W.Frag)(A:Ad):Sp:=fun vs H Q E=> ∃r b,vs= [.ref r]/\gW A H r b 0/\(∀p a H',Tide.portGrammar b= .ok p->Kf (· ≠r) H H'->iO A (fun c=>H c=none) H' a p->Q (.ref a) H')/\ ∀e,Tide.portGrammar b= .error e->Er A E (· ≠r) H 1 e
theorem AV(T:Txt K mg A):bw P w K mg base (B8 P w) 6 A.dG A.fB ["reader"] (AK K A):=by
 refine K5 T.iz ni fun vs H Q E h Rz kz=>?_
 obtain ⟨r,b,rfl,rd,rok,rer⟩:=h
 refine kz rfl fun cdv Ar outer s hr=>?_
 refine ⟨_,(ah (cJ (bM (pv 0) T.az T.aJ (aG T) (hr.mono (by decide)) T.aK .nil (aA.passes rfl) (aa (gX (aa cV ai)) ai)))
   (ah (aF (i:=1) ni.nd rfl (Or.inl rfl) (bM (pv 0) T.az T.jR (jq T) (hr.mono (by decide)) T.jK .nil (aA.passes rfl) (aa (aC rfl T.ir) (aa (aC rfl T.c_) ai))))
   (ah (cJ (bM (pv 0) T.az T.aJ (aG T) (hr.mono (by decide)) T.aK .nil (aA.passes rfl) (aa (gX (aa cV ai)) ai)))
   (ah (aF (i:=2) ni.nd rfl (Or.inl rfl) (dJ ai))
   (ah (ow fG (aO Jl (d8 (pv 0) T.az T.dw (cQ T) (hr.mono (by decide)) T.dj .nil aL) cV (aT _)) (aj (cJ (qw PySem.F.plainAttrs_list PySem.F.slot_list_append PySem.F.type_list_append nZ (pv 2) (aa (aB (A3 T) (hr.mono (by decide)) rfl T.pN T.je.kp T.CV .nil (aA.passes rfl) (aa (pv 0) ai)) ai)))))
   (aj (aD (jz T.J3 (Kv T) (hr.mono (by decide)) rfl T.NX T.MB .nil aL (aa (pv 1) (aa (pv 2) ai)))))))))),?_⟩
 obtain ⟨dxr,t,e,tx⟩:=id rd
 rw [UW] at rok rer
 have h3:=tx.len
 refine ⟨_,rfl,r,_,_,rfl,e,rfl,zh NL (by decide) (by decide) rd Ba (fun q1 H1 f1 k1 rd1=>?_) (fun er he=>rer er (by rw [he];rfl))⟩
 rw [f1] at rok rer
 obtain ⟨dx1,t1,e1,tx1⟩:=id rd1
 refine ⟨_,rfl,r,_,_,rfl,e1,rfl,r,b,q1,2,4,rfl,by decide,by decide,by decide,by decide,rd1,fun x q2 H2 f2 k2 rd2=>?_,fun er he=>(rer er (by show mK 2 4 (cur b q1) >>= _=_;rw [he];rfl)).step k1 fun _ _ h _=>h⟩
 replace rok:=fun p a H' h=>rok p a H' (by show mK 2 4 (cur b q1) >>= _=_;rw [f2];exact h)
 replace rer:=fun er h=>rer er (by show mK 2 4 (cur b q1) >>= _=_;rw [f2];exact h)
 have kk2:=k1.trans k2
 obtain ⟨dx2,t2,e2,tx2⟩:=id rd2
 refine ⟨_,rfl,r,_,_,rfl,e2,rfl,zh KJ (by decide) (by decide) rd2 xw (fun q3 H3 f3 k3 rd3=>?_) (fun er he=>(rer er (by show Tide.lit [10] (cur b q2) >>= _=_;rw [he];rfl)).step kk2 fun _ _ h _=>h)⟩
 replace rok:=fun p a H' h=>rok p a H' (by show Tide.lit [10] (cur b q2) >>= _=_;rw [f3];exact h)
 replace rer:=fun er h=>rer er (by show Tide.lit [10] (cur b q2) >>= _=_;rw [f3];exact h)
 have kk3:=kk2.trans k3
 have hx:=Ik f2
 obtain ⟨dx3,t3,e3,tx3⟩:=id rd3
 refine ⟨YW _,fun la hla=>?_⟩
 have nrl:r≠la:=ao e3 hla
 have nla:H la=none:=l9 kk3 e3 hla
 have k4:Kf (· ≠r) H (upd H3 la (.lst [])):=kk3.trans (Kf.new hla)
 have rd4:gW A (upd H3 la (.lst [])) r b q3:=⟨dx3,t3,by rw [ak nrl];exact e3,tx3⟩
 have el4:upd H3 la (.lst []) la=some (.lst []):=af
 generalize upd H3 la (.lst [])=H4 at k4 rd4 el4
 clear k1 k2 k3 kk2 kk3 rd1 rd2 rd3 e1 e2 e3 hla f1 f2 f3
 refine ⟨fun m σ H'=> ∃(ls:List Share) (vs:List V) (q f:Nat),m=b.length + 1 - q/\σ= [some (.ref r),some (.int x),some (.ref la)]/\Kf (· ≠r) H H'/\gW A H' r b q/\H' la=some (.lst vs)/\Paired (l6 A (fun c=>H c=none/\c≠r/\c≠la) H') vs ls/\Tide.sharesIn (b.length + 1) (cur b q3)=(Tide.sharesIn f (cur b q) >>= fun r=> .ok (ls++r))/\b.length + 1<=f + q/\ls.length<=q/\ls.length<=30000,
  ⟨_,[],[],q3,b.length + 1,rfl,rfl,k4,rd4,el4,.nil,?_,by lia,YW _,YW _⟩,?_⟩
 ·cases Tide.sharesIn (b.length + 1) (cur b q3) <;> rfl
 clear k4 rd4 el4 H4
 rintro m σ H2 ⟨ls,vs,q,f,rfl,rfl,s2,rd2,el2,pl,eg,hf,hlq,hl3⟩
 obtain ⟨dx2,t2,e2,tx2⟩:=id rd2
 refine ⟨_,rfl,r,_,_,rfl,e2,rfl,r,b,q,rfl,rd2,rfl,_,rfl,?_⟩
 rw [OF]
 cases hn:(cur b q).next with
 | none=>
  rw [LJ hn] at eg
  refine cM ⟨_,rfl,_,rfl,fun px dx hpx hdx ndx=>⟨px,dx,_,_,rfl,af,rfl,?_⟩⟩
  rw [b8]
  refine rok ⟨x,ls⟩ px _ ?_ (s2.trans fun c o h hc=>bS hpx hdx c o hc) ⟨l9 s2 e2 hpx,dx,la,vs,af,nla,bS hpx hdx _ _ el2,Paired.ja (fun _ _ h=>(h.wide fun c o hc _=>hc.1).keep fun c o _ hc=>bS hpx hdx c o hc) pl,hx,hl3⟩
  show Tide.sharesIn (b.length + 1) (cur b q3) >>= _=_
  rw [eg]
  show Except.ok (Tide.Port.mk x (ls++ []))=_
  rw [Y0]
 | some y=>
  have hq:q < b.length:=by
   rw [qy] at hn
   exact (YL.mp hn).1
  obtain ⟨f',rfl⟩: ∃f',f=f' + 1:=⟨f - 1,by lia⟩
  rw [Qv hn] at eg
  refine cC ⟨fun σ' H'=> ∃(ls':List Share) (vs':List V) (q' f':Nat),q < q'/\σ'= [some (.ref r),some (.int x),some (.ref la)]/\Kf (· ≠r) H H'/\gW A H' r b q'/\H' la=some (.lst vs')/\Paired (l6 A (fun c=>H c=none/\c≠r/\c≠la) H') vs' ls'/\Tide.sharesIn (b.length + 1) (cur b q3)=(Tide.sharesIn f' (cur b q') >>= fun r=> .ok (ls'++r))/\b.length + 1<=f' + q'/\ls'.length<=q'/\ls'.length<=30000,
   fun σ' H' ⟨ls',vs',q',f',z1,z2,z3,z4,z5,z6,z7,z8,z9,z10⟩=>⟨b.length + 1 - q',by lia,ls',vs',q',f',rfl,z2,z3,z4,z5,z6,z7,z8,z9,z10⟩,?_⟩
  refine ⟨_,rfl,.inl ⟨rfl,_,b_.of el2⟩,_,rfl,r,b,q,rfl,rd2,fun l q3' H3 el k3 rd3 v hv=>?_,fun er he=>(rer er ?_).step s2 fun c o h _=>h⟩
  ·have lvs:vs.length=ls.length:=Paired.length pl
   refine ⟨la,vs,v,rfl,rfl,k3 la _ (Ne.symm nrl) el2,by rw [lvs,sizeLine_eq];lia,?_⟩
   have hon:=Sx el
   have kF:Kf (fun c=>H c=none/\c≠r/\c≠la) H2 (upd H3 la (.lst (vs++ [v]))):=(k3.mono fun c o h _=>h.2.1).trans (Kf.put (by simp))
   have kF3:Kf (fun c=>H c=none/\c≠r/\c≠la) H3 (upd H3 la (.lst (vs++ [v]))):=Kf.put (by simp)
   have hv':l6 A (fun c=>H c=none/\c≠r/\c≠la) H3 v l:=hv.wide fun c o hc _=>⟨l9 s2 e2 hc,(fun z=>by rw [z,show H2 r=_ from e2] at hc;cases hc),(fun z=>by rw [z,show H2 la=_ from el2] at hc;cases hc)⟩
   obtain ⟨dx3,t3,e3,tx3⟩:=rd3
   refine ⟨ls++ [l],vs++ [v],q3',f',hon,rfl,fun c o ncr hc=>?_,⟨dx3,t3,by rw [ak nrl];exact e3,tx3⟩,af,Paired.PR (Paired.ja (fun _ _ h=>h.keep kF) pl) (hv'.keep kF3),?_,by lia,by rw [YH];show ls.length + 1<=q3';lia,by rw [YH];show ls.length + 1<=30000;lia⟩
   ·have ncl:c≠la:=fun z=>by rw [z,nla] at hc;cases hc
    rw [ak ncl]
    exact k3 c o ncr (s2 c o ncr hc)
   ·rw [eg,el]
    show (Tide.sharesIn f' (cur b q3') >>= fun r=> .ok (l::r)) >>= _=_
    cases Tide.sharesIn f' (cur b q3') with
    | error z=>rfl
    | ok z=>
     show Except.ok (ls++l::z)=Except.ok (ls++ [l]++z)
     rw [Y3]
     rfl
  ·show Tide.sharesIn (b.length + 1) (cur b q3) >>= _=_
   rw [eg,he]
   rfl
end Td
namespace Td
open PySem PySem.Spec PyProof.Rows L2 TL
open Tide (Bytes)
theorem Oi(bs:ByteArray): ∀(k i:Nat) (r:List UInt8),bs.size=i + k->ByteArray.toList.loop bs i r=r.reverse++bs.data.toList.drop i:=by
 intro k
 induction k with
 | zero=>
  intro i r h
  rw [ByteArray.toList.loop.eq_1,if_neg (by lia),List.drop_eq_nil_of_le,Y0]
  rw [Array.length_toList]
  show bs.size<=i
  lia
 | succ k ih=>
  intro i r h
  rw [ByteArray.toList.loop.eq_1,if_pos (by lia),ih (i + 1) _ (by lia)]
  have hi:i < bs.data.toList.length:=by rw [Array.length_toList];show i < bs.size;lia
  rw [Zo hi,List.reverse_cons,Y3]
  have:bs.get! i=bs.data.toList[i]:=by
   show bs.data[i]! =_
   rw [Array.getElem_toList,getElem!_pos]
  rw [this]
  rfl
theorem bytes_list(bs:ByteArray):bs.toList=bs.data.toList:=by
 unfold ByteArray.toList
 rw [Oi bs bs.size 0 [] (by lia)]
 rfl
theorem NY(l:List Char)(h: ∀c ∈ l,c.toNat<=127):(Tide.ascii (String.ofList l)).map UInt8.toNat=l.map Char.toNat:=by
 unfold Tide.ascii
 show (String.ofList l).toByteArray.toList.map UInt8.toNat=_
 rw [bytes_list,String.toByteArray_ofList]
 show (l.flatMap String.utf8EncodeChar).toByteArray.data.toList.map UInt8.toNat=_
 rw [List.toList_data_toByteArray]
 induction l with
 | nil=>rfl
 | cons c r ih=>
  rw [List.flatMap_cons,YT,ih (fun d hd=>h d (YK _ hd)),YS]
  have hc:c.val.toNat<=127:=h c YN
  have:(String.utf8EncodeChar c).map UInt8.toNat= [c.toNat]:=by
   rw [String.utf8EncodeChar.eq_def]
   dsimp only
   rw [if_pos hc]
   show [(UInt8.ofNat c.val.toNat).toNat]= [c.toNat]
   rw [UInt8.toNat_ofNat_of_lt' (by show c.val.toNat < 256;lia)]
   rfl
  rw [this]
  rfl
theorem yW(n:Nat):(Tide.digitsOf n).map UInt8.toNat=pA n:=by
 unfold Tide.digitsOf pA
 show (Tide.ascii (String.ofList (Nat.toDigits 10 n))).map UInt8.toNat=_
 refine NY _ fun c hc=>?_
 have h:=Dv n c.toNat (by unfold pA;exact Ze hc)
 lia
def fx:Nat->Nat->List Nat
 | 0,_=> []
 | k + 1,n=>fx k (n / 10)++ [48 + n % 10]
theorem ND: ∀k n,(fx k n).length=k
 | 0,_=>rfl
 | k + 1,n=>by rw [fx,YH,ND k];rfl
def HY(k:Nat)(l:List Nat):List Nat:=List.replicate (k - l.length) 48++l
theorem MK(k n:Nat):HY (k + 2) (pA n)=HY (k + 1) (pA (n / 10))++ [48 + n % 10]:=by
 unfold HY
 by_cases h:n < 10
 ·rw [Bl h,show n / 10=0 by lia,Bl (by lia),Nat.mod_eq_of_lt h]
  show List.replicate (k + 1) 48++ [48 + n]=List.replicate k 48++ [48]++ [48 + n]
  rw [List.replicate_succ']
 ·rw [Cw (by lia),YH]
  show List.replicate (k + 2 - ((pA (n / 10)).length + 1)) 48++_=_
  rw [show k + 2 - ((pA (n / 10)).length + 1)=k + 1 - (pA (n / 10)).length by lia,Y3]
theorem Sg: ∀k n,HY (k + 1) (pA n)=pA (n / 10 ^ k)++fx k n
 | 0,n=>by
  have:=List.length_pos_iff.mpr (UJ n)
  unfold HY
  rw [show 0 + 1 - (pA n).length=0 by lia,Nat.pow_zero,Nat.div_one]
  simp [fx]
 | k + 1,n=>by
  rw [MK,Sg k (n / 10),Nat.div_div_eq_div_mul,show 10 * 10 ^ k=10 ^ (k + 1) by rw [Nat.pow_succ];lia,fx,Y3]
theorem SW: ∀k n,n < 10 ^ (k + 1)->fx (k + 1) n=HY (k + 1) (pA n)
 | 0,n,h=>by
  have h:n < 10:=by simpa using h
  unfold HY
  rw [Bl h]
  show []++ [48 + n % 10]=_
  rw [Nat.mod_eq_of_lt h]
  rfl
 | k + 1,n,h=>by
  rw [MK,<-SW k (n / 10) (by rw [Nat.pow_succ] at h;lia),fx]
theorem Ju: ∀k n,fx k (n % 10 ^ k)=fx k n
 | 0,n=>rfl
 | k + 1,n=>by
  have h1:n % 10 ^ (k + 1) / 10=n / 10 % 10 ^ k:=by rw [Nat.pow_succ,Nat.mul_comm,Nat.mod_mul_right_div_self]
  have h2:n % 10 ^ (k + 1) % 10=n % 10:=Nat.mod_mod_of_dvd n ⟨10 ^ k,by rw [Nat.pow_succ];lia⟩
  rw [fx,fx,h1,h2,Ju k]
theorem OZ: ∀k,fx k 0=List.replicate k 48
 | 0=>rfl
 | k + 1=>by rw [fx,Nat.zero_div,OZ k,List.replicate_succ']
def tM(l:List Nat):List Nat:=(l.reverse.dropWhile (· == 48)).reverse
theorem LC: ∀(l:List Nat),(∀c ∈ l,c=48)->l.dropWhile (· == 48)= []
 | [],_=>rfl
 | c::r,h=>by
  rw [h c YN]
  show r.dropWhile _= []
  exact LC r fun d hd=>h d (YK _ hd)
theorem Q2{l:List Nat}(h:l.dropWhile (· == 48)= []): ∀c ∈ l,c=48:=by
 induction l with
 | nil=>intro c hc;cases hc
 | cons d r ih=>
  by_cases hd:d=48
  ·subst hd
   intro c hc
   rcases YR.mp hc with e | e
   ·exact e
   ·exact ih h c e
  ·rw [List.dropWhile_cons,if_neg (by simpa using hd)] at h
   cases h
theorem F5: ∀k n,n < 10 ^ k->(∀c ∈ fx k n,c=48)->n=0
 | 0,n,h,_=>by simpa using h
 | k + 1,n,h,hc=>by
  rw [fx] at hc
  have h1:=F5 k (n / 10) (by rw [Nat.pow_succ] at h;lia) fun c hm=>hc c (Zi _ hm)
  have h2:=hc (48 + n % 10) (Za _ (by simp))
  lia
theorem I_(k n:Nat):tM (fx k n)= [] ↔ n % 10 ^ k=0:=by
 unfold tM
 rw [List.reverse_eq_nil_iff]
 constructor
 ·intro h
  refine F5 k (n % 10 ^ k) (Nat.mod_lt _ (Nat.pow_pos (by decide))) fun c hc=>?_
  rw [Ju] at hc
  exact Q2 h c (List.mem_reverse.mpr hc)
 ·intro h
  rw [<-Ju,h,OZ]
  exact LC _ fun c hc=>(List.mem_replicate.mp (List.mem_reverse.mp hc)).2
theorem yK: ∀(l:Bytes),(l.dropWhile fun x=>x == 48).map UInt8.toNat=(l.map UInt8.toNat).dropWhile (· == 48)
 | []=>rfl
 | x::r=>by
  rw [List.dropWhile_cons,YS,List.dropWhile_cons]
  by_cases h:x=48
  ·subst h
   exact yK r
  ·have h1:(x == 48)=false:=YY.mpr h
   have h2:(x.toNat == 48)=false:=YY.mpr fun e=>h (UInt8.toNat_inj.mp e)
   rw [h1,h2]
   rfl
theorem QB(b:Bytes):(Tide.shorn b).map UInt8.toNat=tM (b.map UInt8.toNat):=by
 unfold Tide.shorn tM
 rw [List.map_reverse,yK,List.map_reverse]
theorem Dr(k n:Nat):(Tide.printPointed (k + 1) n).map UInt8.toNat=pA (n / 10 ^ (k + 1))++(if tM (fx (k + 1) n)= [] then [] else 46::tM (fx (k + 1) n)):=by
 unfold Tide.printPointed
 rw [YT,yW]
 congr 1
 by_cases h:n % 10 ^ (k + 1)=0
 ·rw [if_pos h,if_pos ((I_ _ _).mpr h)]
  rfl
 ·rw [if_neg h,if_neg (fun z=>h ((I_ _ _).mp z)),YS,QB,YT,yW,List.map_replicate]
  have e:=SW k (n % 10 ^ (k + 1)) (Nat.mod_lt _ (Nat.pow_pos (by decide)))
  rw [Ju] at e
  rw [e]
  unfold HY
  rw [show (Tide.digitsOf (n % 10 ^ (k + 1))).length=(pA (n % 10 ^ (k + 1))).length by rw [<-yW,YI]]
  rfl
theorem Ql(x y:Str)(c:Nat)(hy:y.cps= #[c]):tl (Txt.rstripChars x y)=((tl x).reverse.dropWhile (· == c)).reverse:=by
 unfold Txt.rstripChars
 have hg:(y.cps.contains:Nat->Bool)=(· == c):=by
  funext z
  rw [hy,Array.contains_eq_mem]
  by_cases h:z=c
  ·subst h;simp
  ·simp [h]
 rw [hg]
 have key: ∀l:List Nat,l.take (l.length - (l.reverse.takeWhile (· == c)).length)=(l.reverse.dropWhile (· == c)).reverse:=by
  intro l
  have h:=List.takeWhile_append_dropWhile (p:=(· == c)) (l:=l.reverse)
  have h2:l=(l.reverse.dropWhile (· == c)).reverse++(l.reverse.takeWhile (· == c)).reverse:=by
   rw [<-List.reverse_append,h,List.reverse_reverse]
  have h3:l.length=(l.reverse.dropWhile (· == c)).reverse.length + (l.reverse.takeWhile (· == c)).length:=by
   have:=congrArg List.length h2
   rw [YH,List.length_reverse (as:=l.reverse.takeWhile _)] at this
   exact this
  rw [h3,Nat.add_sub_cancel]
  conv=>lhs;rw [h2]
  rw [List.take_left']
  rw [<-h2]
 have hs:tl (PySem.stripped (· == c) false true x)=((tl x).reverse.dropWhile (· == c)).reverse:=by
  unfold PySem.stripped
  rw [PY]
  show ((tl x).drop 0).take (x.length - (((tl x).drop 0).reverse.takeWhile (· == c)).length - 0)=_
  rw [List.drop_zero,Nat.sub_zero,m_]
  exact key (tl x)
 unfold Txt.stripBy
 split
 ·rename_i h
  have h:x.length - (((tl x).drop 0).reverse.takeWhile (· == c)).length=x.length:=by
   have:=(Bool.and_eq_true_iff.mp h).2
   exact beq_iff_eq.mp this
  rw [List.drop_zero,m_] at h
  rw [<-key (tl x),h,Y8]
 ·exact hs
theorem Rj{x:Str}{k:Nat}(h:NumText.AllDigits (tl x)):tl (Txt.zfill x (k:Int))=HY k (tl x):=by
 unfold Txt.zfill HY
 have hl:x.length=(tl x).length:=m_ x
 split
 ·rename_i hk
  rw [show k - (tl x).length=0 by lia]
  rfl
 ·rename_i hk
  have hp:PySem.zfilled x ((k:Int).toNat - x.length)=Builtin.Str.padded x ((k:Int).toNat - x.length) 0 48:=by
   unfold PySem.zfilled
   split
   ·rename_i h0
    have:=h 43 (Array.mem_toList_iff.mpr (Array.mem_of_getElem? h0))
    lia
   ·rename_i h0
    have:=h 45 (Array.mem_toList_iff.mpr (Array.mem_of_getElem? h0))
    lia
   ·rfl
  rw [hp]
  show (Array.replicate _ 48++x.cps++Array.replicate 0 48).toList=_
  rw [Array.toList_append,Array.toList_append,Array.toList_replicate,Array.toList_replicate,Int.toNat_natCast,hl]
  show List.replicate _ 48++tl x++ []=_
  rw [Y0]
end Td
namespace Td
open PySem PySem.Spec PyProof.Rows L2 TL
open Tide (Bytes Cur isDigit isLetter nextIs Term Part Line Share)
variable {P:Program} {w:World} {K:W.Frag} {mg:Str->Option Value} {base:Heap} {A:Ad}
def ks(before:List Share):List (Key×V):=before.map fun x=>(Sum.inr (st x.name),V.bl true)
theorem N7: ∀(before:List Share) (n:Bytes),(dg (ks before) (Sum.inr (st n))).isSome=before.any fun y=>y.name == n
 | [],n=>rfl
 | l::r,n=>by
  have ih:=N7 r n
  show (dg ((Sum.inr (st l.name),V.bl true)::ks r) (Sum.inr (st n))).isSome=(l.name == n || r.any _)
  by_cases h:l.name=n
  ·rw [gQ (by show (Sum.inr (st l.name):Key)=Sum.inr (st n);rw [h]),h]
   simp
  ·rw [gK (fun z=>h (sD (Sum.inr.inj z))),ih,YY.mpr h]
   rfl
theorem Vz(before:List Share)(x:Share)(h:(before.any fun (y:Share)=>y.name == x.name)=false):putK (ks before) (Sum.inr (st x.name)) (V.bl true)=ks (before++ [x]):=by
 have hn:dg (ks before) (Sum.inr (st x.name))=none:=by
  have:=N7 before x.name
  rw [h] at this
  cases e:dg (ks before) (Sum.inr (st x.name)) with
  | none=>rfl
  | some v=>rw [e] at this;cases this
 rw [BV _ hn]
 unfold ks
 rw [YT]
 rfl
theorem V8(before:List Share):(ks before).length=before.length:=YI _
theorem Jh: ∀(ws:List Line) (k:Nat) (n:Bytes),dg ((ws.zipIdx k).map fun z=>((Sum.inr (st z.1.name):Key),V.int (z.2:Int))) (Sum.inr (st n))=(ws.findIdx? fun w=>w.name == n).map fun (i:Nat)=>V.int ((k + i:Nat):Int)
 | [],k,n=>rfl
 | l::r,k,n=>by
  rw [List.zipIdx_cons,YS,List.findIdx?_cons]
  by_cases h:l.name=n
  ·have e:(l.name == n)=true:=by rw [h];simp
   rw [gQ (by show (Sum.inr (st l.name):Key)=Sum.inr (st n);rw [h]),e]
   rfl
  ·rw [gK (fun z=>h (sD (Sum.inr.inj z))),Jh r (k + 1) n,YY.mpr h]
   simp only [Bool.false_eq_true,if_false,Option.map_map]
   congr 1
   funext i
   show V.int ((k + 1 + i:Nat):Int)=V.int ((k + (i + 1):Nat):Int)
   congr 2
   lia
theorem Mp(ls:List Line)(n:Bytes):dg (nums ls) (Sum.inr (st n))=((Tide.waves ls).findIdx? fun w=>w.name == n).map fun (i:Nat)=>V.int (i:Int):=by
 unfold nums
 rw [Jh]
 simp only [Nat.zero_add]
theorem Ry(ls:List Line)(n:Bytes):(dg (nums ls) (Sum.inr (st n))).isSome=(Tide.waves ls).any fun w=>w.name == n:=by
 rw [Mp,Option.isSome_map,List.findIdx?_isSome]
theorem UO{ls:List Line}{b:Bytes}{p:Tide.Port}(h:Tide.portGrammar b= .ok p)(h2:PJ.eO ls [] p.shares=none):Tide.judgePort ls b= .ok p:=by
 rw [PJ.wL,h]
 dsimp only
 rw [h2]
theorem JI{ls:List Line}{b:Bytes}{p:Tide.Port}{f:Nat×Nat}(h:Tide.portGrammar b= .ok p)(h2:PJ.eO ls [] p.shares=some f):Tide.judgePort ls b= .error f:=by
 rw [PJ.wL,h]
 dsimp only
 rw [h2]
theorem rN:ay ["text","numbers","port","known","wave"] ["text","numbers"] (aq yF):=jv rfl (by decide +kernel)
def JP(K:W.Frag)(A:Ad):Sp:=fun vs H Q E=> ∃t b na ls,vs= [.str t,.ref na]/\Tx t b/\H na=some (.dK (nums ls))/\(∀p a H',Tide.judgePort ls b= .ok p->aN H H'->iO A (fun c=>H c=none) H' a p->PJ.eO ls [] p.shares=none->Q (.ref a) H')/\ ∀f,Tide.judgePort ls b= .error f->Er A E (fun _=>True) H f.1 f.2
theorem JQ(T:Txt K mg A):bw P w K mg base (B8 P w) 7 A.lF A.nP ["text","numbers"] (JP K A):=by
 refine K5 T.qF rN fun vs H Q E h Rz kz=>?_
 obtain ⟨t,b,na,ls,rfl,tx,hna,rok,rer⟩:=h
 refine kz rfl fun cdv Ar outer s hr=>?_
 have hu:=tW hr
 refine ⟨_,(ah (aF (i:=2) rN.nd rfl (Or.inl rfl) (aB (AV T) (hr.mono (by decide)) rfl T.oQ T.iz.kp T.A6 .nil (aA.passes rfl) (aa (jz T.zk (xS T) (hr.mono (by decide)) rfl T.B0 T.zV .nil aL (aa (pv 0) ai)) ai)))
   (ah (aF (i:=3) rN.nd rfl (Or.inl rfl) oE)
   (ah (jw fG rfl (dH (au (pv 2) rfl)) (b9 (i:=4) rN.nd rfl (Or.inl rfl)) (ah (b6 (wH (Jw hu (au (pv 4) rfl) (pv 3))) (aj (mO T.xc (bP T) (hr.mono (by decide)) T.bX rfl rfl T.cI rfl aA (aa (aC rfl T.rF) (aa (au (pv 4) rfl) ai)))) aU)
   (ah (b6 (wH (Cj hu (au (pv 4) rfl) (pv 1))) (aj (mO T.xc (bP T) (hr.mono (by decide)) T.bX rfl rfl T.cI rfl aA (aa (aC rfl T.lS) (aa (au (pv 4) rfl) ai)))) aU)
   (ah (b6 (aO EM (au (pv 4) rfl) (aC rfl T.wQ) (aT _)) (aj (mO T.xc (bP T) (hr.mono (by decide)) T.bX rfl rfl T.cI rfl aA (aa (aC rfl T.qY) (aa (au (pv 4) rfl) ai)))) aU)
   (aj (m9 hu (pv 3) (au (pv 4) rfl) Ji rfl))))))
   (aj (aD (pv 2)))))),?_⟩
 refine ⟨_,rfl,fun r dx hr1 hdx ndx=>⟨r,dx,_,rfl,af,rfl,?_⟩⟩
 rw [b8]
 have s1:aN H (upd (upd H dx (.own r)) r (bB A dx (.str t) (.int 0))):=bS hr1 hdx
 have e1:upd (upd H dx (.own r)) r (bB A dx (.str t) (.int 0)) r=some (bB A dx (.str t) (.int ((0:Nat):Int))):=af
 generalize upd (upd H dx (.own r)) r (bB A dx (.str t) (.int 0))=H1 at s1 e1
 refine ⟨r,b,rfl,⟨dx,t,e1,tx⟩,fun p a H2 eg k2 pa=>?_,fun e he=>(rer (1,e) (by rw [PJ.wL,he])).tX (Kf.of s1) fun c o _ hc z=>by rw [z,hr1] at hc;cases hc⟩
 have s2:aN H H2:=fun c o hc=>k2 c o (fun z=>by rw [z,hr1] at hc;cases hc) (s1 c o hc)
 have pa2:iO A (fun c=>H c=none) H2 a p:=pa.wide fun c o hc _=>s1.free hc
 clear pa k2 e1 s1 H1
 intro ka hka
 have nka:H ka=none:=s2.free hka
 have pa3:iO A (fun c=>H c=none/\c≠ka) H2 a p:=pa2.wide fun c o hc ho=>⟨hc,ao ho hka⟩
 obtain ⟨fa,dxp,wa,vs,ep,fwa,ew,ps,hlv,hln⟩:=id pa3
 have lvs:vs.length=p.shares.length:=Paired.length ps
 have k3:Kf (· ≠ka) H2 (upd H2 ka (.dK [])):=Kf.new hka
 have e3:upd H2 ka (.dK []) ka=some (.dK (ks (p.shares.take 0))):=af
 generalize upd H2 ka (.dK [])=H3 at k3 e3
 refine ⟨_,rfl,_,_,_,_,_,rfl,k3 _ _ fa.2 ep,T.oX,T.eW,rfl,wa,rfl,⟨vs,b_.of (k3 _ _ fwa.2 ew)⟩,gO (K:=K) (a:=wa) (xs:=vs) (fun i σ H'=> ∃v:Option V,σ= [some (.str t),some (.ref na),some (.ref a),some (.ref ka),v]/\Kf (· ≠ka) H2 H'/\H' ka=some (.dK (ks (p.shares.take i)))/\PJ.eO ls [] p.shares=PJ.eO ls (p.shares.take i) (p.shares.drop i)) ⟨none,rfl,k3,e3,rfl⟩ (fun i σ H' _ ⟨_,_,z,_⟩=>b_.of (z _ _ fwa.2 ew)) ?_ ?_⟩
 ·rintro i x σ H4 hx ⟨v,rfl,k4,e4,ff⟩
  obtain ⟨s,hsi,hxs⟩:=Paired.at2 ps hx
  have et:p.shares.take (i + 1)=p.shares.take i++ [s]:=by rw [YX,hsi];rfl
  have ed:p.shares.drop i=s::p.shares.drop (i + 1):=by
   obtain ⟨hi,e⟩:=YL.mp hsi
   rw [Zo hi,e]
  rw [ed,PJ.eO] at ff
  obtain ⟨sa,dxs,rfl,fsa,es,hs1,hs2,hs3⟩:=hxs
  have es4:=k4 _ _ fsa.2 es
  have nan:na≠ka:=ao hna nka
  have hn4:H4 na=some (.dK (nums ls)):=k4 _ _ nan (s2 _ _ hna)
  have s04:aN H H4:=fun c o hc=>k4 c o (fun z=>by rw [z,nka] at hc;cases hc) (s2 c o hc)
  refine ⟨_,rfl,_,_,_,_,_,rfl,es4,T.aZ,T.bV,rfl,_,rfl,ka,_,rfl,iY.k (k:=Sum.inr (st s.name)) e4,_,rfl,?_⟩
  rw [N7]
  cases h1:(p.shares.take i).any (fun (y:Share)=>y.name == s.name) with
  | true=>
   have sf:PJ.cE ls (p.shares.take i) s=some (2,s.at_):=by unfold PJ.cE;rw [if_pos h1]
   rw [sf] at ff
   exact cC ⟨_,rfl,_,_,_,_,_,rfl,es4,T.aZ,T.dX,rfl,_,_,rfl,Er.raise ((rer (2,s.at_) (JI eg ff)).same s04) Kf.refl⟩
  | false=>
   refine cM ⟨_,rfl,_,_,_,_,_,rfl,es4,T.aZ,T.bV,rfl,_,rfl,na,_,rfl,iY.k (k:=Sum.inr (st s.name)) hn4,_,rfl,?_⟩
   rw [Ry]
   cases h2:(Tide.waves ls).any (fun (w:Line)=>w.name == s.name) with
   | false=>
    have sf:PJ.cE ls (p.shares.take i) s=some (3,s.at_):=by unfold PJ.cE;rw [if_neg (by rw [h1];decide),if_neg (by rw [h2];decide)]
    rw [sf] at ff
    exact cC ⟨_,rfl,_,_,_,_,_,rfl,es4,T.aZ,T.dX,rfl,_,_,rfl,Er.raise ((rer (3,s.at_) (JI eg ff)).same s04) Kf.refl⟩
   | true=>
    refine cM ⟨_,rfl,_,_,_,_,_,rfl,es4,T.aZ,T.gG,rfl,_,_,rfl,rfl,_,rfl,?_⟩
    by_cases h3:Tide.ROUND<=s.lag
    ·have sf:PJ.cE ls (p.shares.take i) s=some (4,s.lagAt):=by unfold PJ.cE;rw [if_neg (by rw [h1];decide),if_pos h2,if_pos h3]
     rw [sf] at ff
     rw [YQ (show (360000:Int)<=(s.lag:Int) by have:360000<=s.lag:=h3;lia)]
     exact cC ⟨_,rfl,_,_,_,_,_,rfl,es4,T.aZ,T.ig,rfl,_,_,rfl,Er.raise ((rer (4,s.lagAt) (JI eg ff)).same s04) Kf.refl⟩
    ·have sf:PJ.cE ls (p.shares.take i) s=none:=by unfold PJ.cE;rw [if_neg (by rw [h1];decide),if_pos h2,if_neg h3]
     rw [sf] at ff
     rw [YJ (show ¬(360000:Int)<=(s.lag:Int) by have: ¬360000<=s.lag:=h3;lia)]
     refine cM ⟨_,rfl,_,rfl,_,_,_,_,_,rfl,es4,T.aZ,T.bV,rfl,ka,_,rfl,zQ.k (k:=Sum.inr (st s.name)) e4 ?_,_,rfl,k4.trans (Kf.put (by simp)),?_,?_⟩
     ·rw [V8,sizeLine_eq,Zd]
      lia
     ·rw [af,Vz _ _ h1,et]
     ·rw [ff,et]
 ·rintro σ H4 ⟨v,rfl,k4,e4,ff⟩
  rw [lvs,Y8,List.drop_length] at ff
  have kF:Kf (fun c=>H c=none/\c≠ka) H2 H4:=k4.mono fun c o h _=>h.2
  exact ⟨_,rfl,rok p a H4 (UO eg ff) (fun c o hc=>k4 c o (fun z=>by rw [z,nka] at hc;cases hc) (s2 c o hc)) ((pa3.keep kF).wide fun c o hc _=>hc.1) ff⟩
theorem O8{x y:Str}(h:tl x=tl y):x=y:=by
 have: [x].map tl= [y].map tl:=by show [tl x]= [tl y];rw [h]
 exact (List.cons.inj (Gf this)).1
def cA(k:Nat)(v:Int):Bytes:=(if v < 0 then [45] else [])++Tide.printPointed k v.natAbs
theorem fY(a b:Bytes):st a++st b=st (a++b):=O8 (by rw [pL,kW,kW,kW,YT])
theorem ji(a:Bytes):(st a).length=a.length:=by rw [m_,kW,YI]
theorem Ow(v:Int):(if v < 0 then -v else v)=((v.natAbs:Nat):Int):=by split <;> omega
theorem V1(z:Str)(l r:List Nat)(h:tl z=l++r)(n:Nat)(hn:r.length=n)(h0:0 < n):Bw z (some (-(n:Int))) none=⟨r.toArray⟩/\Bw z none (some (-(n:Int)))=⟨l.toArray⟩:=by
 have hz:z.cps.toList=l++r:=h
 have hl:z.length=l.length + n:=by rw [m_,h,YH,hn]
 have h1:HT.rj z.length 0 (some (-(n:Int)))=l.length:=by
  show (if (-(n:Int)) < 0 then (-(n:Int) + (z.length:Int)).toNat else _)=_
  rw [if_pos (by lia),hl]
  lia
 have h2:HT.rj z.length z.length (some (-(n:Int)))=l.length:=by
  show (if (-(n:Int)) < 0 then (-(n:Int) + (z.length:Int)).toNat else _)=_
  rw [if_pos (by lia),hl]
  lia
 unfold Bw
 rw [h1,h2,HT.Ln,HT.Ln,hz,hl]
 constructor
 ·rw [List.drop_left,show l.length + n - l.length=r.length by lia,Y8]
 ·rw [List.drop_zero,Nat.sub_zero,List.take_left]
theorem Yn{b:Bool}{va vb v:V}{σ:L2.St}{H:Hp}{N:VK}(e:(if b=true then va else vb)=v)(h:N v H):if b=true then tC va σ H N else tC vb σ H N:=by
 subst e
 cases b
 ·exact cM h
 ·exact cC h
theorem gC:ay ["value","behind","digits","sign","fraction","point"] ["value","behind"] (aq oU):=jv rfl (by decide +kernel)
def AW(K:W.Frag)(A:Ad):Sp:=fun vs H Q _=> ∃(v:Int) (k:Nat),vs= [.int v,.int ((k + 1:Nat):Int)]/\v.natAbs < 10 ^ 15/\k<=10/\Q (.str (st (cA (k + 1) v))) H
theorem nG(T:Txt K mg A):bw P w K mg base (lA) 1 A.dN A.fm ["value","behind"] (AW K A):=by
 refine oq T.dM gC fun vs H Q E h Rz kz=>?_
 obtain ⟨v,k,rfl,hv,hk,q⟩:=h
 refine kz rfl fun cdv Ar outer s hr=>?_
 refine ⟨_,(ah (aF (i:=2) gC.nd rfl (Or.inl rfl) (qw PySem.F.plainAttrs_str PySem.F.slot_str_zfill PySem.F.type_str_zfill RL (vF KZ rfl T.Sv (by decide +kernel) (aa (bN yh (by rfl) T.Gr (by decide +kernel) (aa (pv 0) ai)) ai)) (aa (aR kU (pv 1) aH) ai)))
   (ah (aF (i:=3) gC.nd rfl (Or.inl rfl) (u9 (aO Il (pv 0) aH (aT _)) cV cV))
   (ah (aF (i:=4) gC.nd rfl (Or.inl rfl) (qw PySem.F.plainAttrs_str PySem.F.slot_str_rstrip PySem.F.type_str_rstrip NW (sI Cm (pv 2) (fu (C_ yg (pv 1))) Pk) (aa cV ai)))
   (ah (aF (i:=5) gC.nd rfl (Or.inl rfl) (u9 (aO Jl (pv 4) cV (aT _)) cV cV))
   (aj (aD (aR fM (aR fM (aR fM (pv 3) (sI Cm (pv 2) Pk (fu (C_ yg (pv 1))))) (pv 5)) (pv 4)))))))),?_⟩
 have hd:tl (Txt.zfill (toString ((v.natAbs:Nat):Int)) (((k + 1) + 1:Nat):Int))=pA (v.natAbs / 10 ^ (k + 1))++fx (k + 1) v.natAbs:=by
  rw [Rj (by rw [M6];exact Dv _),M6,Sg]
 have hnl:(pA (v.natAbs / 10 ^ (k + 1))).length<=15:=LN (by decide) (Zl (Nat.div_le_self _ _) hv)
 have hfl:=ND (k + 1) v.natAbs
 refine ⟨_,rfl,_,rfl,_,rfl,?_,?_⟩
 ·rw [Ow]
  show v.natAbs.log2 < 1920
  have:v.natAbs < 2 ^ 1920:=YV (YV hv (show 10 ^ 15<=2 ^ 50 by decide)) (Zu (by decide) (by decide))
  by_cases h0:v.natAbs=0
  ·rw [h0];decide
  ·exact (Nat.log2_lt h0).mpr this
 rw [Ow]
 refine ⟨rfl,_,rfl,_,_,rfl,rfl,_,((k + 1 + 1:Nat):Int),rfl,rfl,padOk_of (by lia) (by lia),?_⟩
 generalize Txt.zfill (toString ((v.natAbs:Nat):Int)) (((k + 1) + 1:Nat):Int)=z at hd
 have hzl:z.length=(pA (v.natAbs / 10 ^ (k + 1))).length + (k + 1):=by rw [m_,hd,YH,hfl]
 have hsz:z.length<=sizeLine:=by rw [sizeLine_eq];lia
 obtain ⟨c1,c2⟩:=V1 z _ _ hd (k + 1) hfl (by lia)
 refine ⟨_,rfl,_,_,rfl,rfl,_,rfl,?_⟩
 obtain ⟨s0,es,hs0⟩: ∃s0:Bytes,(if decide (v < 0)=true then V.str "-" else V.str "")=V.str (st s0)/\s0=if v < 0 then [45] else []:=by
  rw [FZ,Bm]
  by_cases h:v < 0
  ·exact ⟨[45],by rw [if_pos (YQ h)],by rw [if_pos h]⟩
  ·exact ⟨[],by rw [if_neg (by simpa using h)],by rw [if_neg h]⟩
 obtain ⟨p0,hp0⟩: ∃p0:Bytes,p0=if tM (fx (k + 1) v.natAbs)= [] then [] else [46]:=⟨_,rfl⟩
 refine Yn (v:= .str (st s0)) es ?_
 refine ⟨_,rfl,_,rfl,_,rfl,_,rfl,_,rfl,hsz,?_⟩
 rw [c1]
 refine ⟨rfl,_,"0",rfl,rfl,by rw [sizeLine_eq,m_,O9,hfl];lia,?_⟩
 have ef:tl (Txt.rstripChars ⟨(fx (k + 1) v.natAbs).toArray⟩ "0")=tM (fx (k + 1) v.natAbs):=Ql _ _ 48 (by decide +kernel)
 have hfs:(Txt.rstripChars ⟨(fx (k + 1) v.natAbs).toArray⟩ "0").length<=k + 1:=by
  have:=PyProof.Rows.len_rstripChars ⟨(fx (k + 1) v.natAbs).toArray⟩ "0"
  rw [m_ ⟨(fx (k + 1) v.natAbs).toArray⟩,O9,hfl] at this
  exact this
 generalize Txt.rstripChars ⟨(fx (k + 1) v.natAbs).toArray⟩ "0"=f at ef hfs
 have hs1:(st s0).length<=1:=by rw [ji,hs0];split <;> simp
 have hp1:(st p0).length<=1:=by rw [ji,hp0];split <;> simp
 have hn1:(⟨(pA (v.natAbs / 10 ^ (k + 1))).toArray⟩:Str).length<=15:=by rw [m_,O9];exact hnl
 refine ⟨_,rfl,rfl,_,rfl,Yn (v:= .str (st p0)) ?_ ⟨_,rfl,_,rfl,_,rfl,_,rfl,_,rfl,_,rfl,hsz,?_⟩⟩
 ·by_cases h:tM (fx (k + 1) v.natAbs)= []
  ·have:f=st []:=O8 (by rw [ef,h];rfl)
   rw [hp0,if_pos h,Bm,this]
   simp
  ·have:f≠st []:=fun z=>h (by rw [<-ef,z];rfl)
   rw [hp0,if_neg h,Bm,Rw,YJ (fun z=>this (V.str.inj z))]
   rfl
 rw [c2]
 refine ⟨_,_,rfl,rfl,by rw [sizeLine_eq];lia,_,rfl,_,_,rfl,rfl,by rw [sizeLine_eq,strLen_append];lia,_,rfl,_,_,rfl,rfl,by rw [sizeLine_eq,strLen_append,strLen_append];lia,?_⟩
 have:st s0++⟨(pA (v.natAbs / 10 ^ (k + 1))).toArray⟩++st p0++f=st (cA (k + 1) v):=O8 (by
  rw [pL,pL,pL,kW,kW,kW,O9,ef,cA,YT,Dr,hs0,hp0,Y3,Y3]
  congr 2
  split
  ·rename_i h
   rw [h]
   rfl
  ·rfl)
 rw [this]
 exact q
theorem QK(l:List Nat):(tM l).length<=l.length:=by
 unfold tM
 rw [List.length_reverse]
 have:=List.Sublist.length_le (List.dropWhile_sublist (fun x:Nat=>x == 48) (l:=l.reverse))
 rw [List.length_reverse] at this
 exact this
theorem pointed_len{k n:Nat}(h:n < 10 ^ 15):(Tide.printPointed (k + 1) n).length<=k + 17:=by
 have e:=congrArg List.length (Dr k n)
 rw [YI,YH] at e
 have h1:(pA (n / 10 ^ (k + 1))).length<=15:=LN (by decide) (Zl (Nat.div_le_self _ _) h)
 have h2:=QK (fx (k + 1) n)
 rw [ND] at h2
 rw [e]
 split
 ·simp;lia
 ·rw [YU];lia
theorem GD{k:Nat}{v:Int}(h:v.natAbs < 10 ^ 15):(cA (k + 1) v).length<=k + 18:=by
 have:=pointed_len (k:=k) h
 unfold cA
 rw [YH]
 split
 ·show 1 + _<=_;lia
 ·show 0 + _<=_;lia
theorem GB(k n:Nat):cA k (n:Int)=Tide.printPointed k n:=by
 unfold cA
 rw [if_neg (by lia),Zq]
 rfl
theorem Qq(ys:List Str):tl (Txt.join Str.empty ys)=(ys.map tl).flatten:=by
 rw [TL.join_eq,TL.JY]
 show GP [] (ys.map tl)=_
 generalize ys.map tl=l
 induction l with
 | nil=>rfl
 | cons a r ih=>
  cases r with
  | nil=>show a=a++ [];rw [Y0]
  | cons b r'=>
   show a++([]++GP [] (b::r'))=_
   rw [ih]
   rfl
def oM(p:Tide.Port):Bytes:=xP++(cA 4 p.level++ [10])
theorem EH(p:Tide.Port):Tide.printedPort p=oM p++p.shares.flatMap Tide.printShare:=by
 unfold Tide.printedPort oM cA
 rw [PM.Ds]
 simp only [Y3]
 rfl
theorem P8(p:Tide.Port):Txt.join Str.empty (st (oM p)::p.shares.map fun x=>st (Tide.printShare x))=st (Tide.printedPort p):=O8 (by
 rw [Qq,kW,EH,YS,List.flatten_cons,kW,YT]
 congr 1
 induction p.shares with
 | nil=>rfl
 | cons x r ih=>rw [YS,YS,List.flatten_cons,ih,List.flatMap_cons,YT,kW])
theorem Ja{x:Share}(h1:x.size < 10 ^ 6)(h2:x.lag < 10 ^ 6)(h3:x.name.length<=7):(Tide.printShare x).length<=80:=by
 unfold Tide.printShare
 rw [PM.wU]
 have a:(Tide.printPointed 4 x.size).length<=20:=pointed_len (k:=3) (n:=x.size) (by lia)
 have b:(Tide.printPointed 3 x.lag).length<=19:=pointed_len (k:=2) (n:=x.lag) (by lia)
 simp only [YH,YU,List.length_nil]
 have:PM.lq.length=5:=rfl
 lia
theorem jL:ay ["port","lines","wave","size","lag"] ["port"] (aq sS):=jv rfl (by decide +kernel)
def Eb(K:W.Frag)(A:Ad):Sp:=fun vs H Q _=> ∃F a p,vs= [.ref a]/\iO A F H a p/\ ∀H',aN H H'->Q (.str (st (Tide.printedPort p))) H'
theorem Ea(T:Txt K mg A):bw P w K mg base (lA) 2 A.gI A.jf ["port"] (Eb K A):=by
 refine oq T.kT jL fun vs H Q E h Rz kz=>?_
 obtain ⟨F,a,p,rfl,pa,q⟩:=h
 refine kz rfl fun cdv Ar outer s hr=>?_
 refine ⟨_,(ah (aF (i:=1) jL.nd rfl (Or.inl rfl) (dJ (aa (aR fM (aR fM cV (aB (nG T) (hr.mono (by decide)) rfl T.ie T.dM.kp T.oG .nil aL (aa (au (pv 0) rfl) (aa (aC rfl T.c_) ai)))) cV) ai)))
   (ah (jw PassesOwn.never rfl (dH (au (pv 0) rfl)) (b9 (i:=2) jL.nd rfl (Or.inl rfl)) (ah (aF (i:=3) jL.nd rfl (Or.inl rfl) (aB (nG T) (hr.mono (by decide)) rfl T.ie T.dM.kp T.oG .nil aL (aa (au (pv 2) rfl) (aa (aC rfl T.c_) ai))))
   (ah (aF (i:=4) jL.nd rfl (Or.inl rfl) (aB (nG T) (hr.mono (by decide)) rfl T.ie T.dM.kp T.oG .nil aL (aa (au (pv 2) rfl) (aa (aC rfl T.i7) ai))))
   (aj (cJ (qw PySem.F.plainAttrs_list PySem.F.slot_list_append PySem.F.type_list_append nZ (pv 1) (aa (aR fM (aR fM (aR fM (aR fM (aR fM (aR fM cV (au (pv 2) rfl)) cV) (pv 3)) cV) (pv 4)) cV) ai)))))))
   (aj (aD (qw PySem.F.plainAttrs_str PySem.F.slot_str_join PySem.F.type_str_join OO cV (aa (pv 1) ai)))))),?_⟩
 obtain ⟨fa,dxp,wa,vs,ep,fwa,ew,ps,hlv,hln⟩:=id pa
 have lvs:vs.length=p.shares.length:=Paired.length ps
 have hl6:p.level.natAbs < 10 ^ 15:=by lia
 have hl1:=GD (k:=3) hl6
 have hl1':(cA 4 p.level).length<=21:=hl1
 refine ⟨_,rfl,_,_,_,_,_,rfl,ep,T.oX,T.lR,rfl,p.level,3,rfl,hl6,by decide,_,_,rfl,rfl,by rw [Ba,ji,ji,sizeLine_eq];have:xP.length=6:=rfl;lia,_,_,rfl,rfl,by rw [Ba,fY,xw,ji,ji,sizeLine_eq,YH];have:xP.length=6:=rfl;have:([10]:Bytes).length=1:=rfl;lia,by show 1<=sizeLine;decide,fun la hla=>?_⟩
 have e0:Str.ofString "level "++st (cA (3 + 1) p.level)++Str.ofString "\n"=st (oM p):=by
  rw [Ba,xw,fY,fY,Y3]
  rfl
 have s1:aN H (upd H la (.lst [.str (Str.ofString "level "++st (cA (3 + 1) p.level)++Str.ofString "\n")])):=aN.new hla
 have e1:upd H la (.lst [.str (Str.ofString "level "++st (cA (3 + 1) p.level)++Str.ofString "\n")]) la=some (.lst ((st (oM p)::(p.shares.take 0).map fun x=>st (Tide.printShare x)).map V.str)):=by rw [af,e0];rfl
 generalize upd H la (.lst [.str (Str.ofString "level "++st (cA (3 + 1) p.level)++Str.ofString "\n")])=H1 at s1 e1
 have hph:(oM p).length<=80:=by
  unfold oM
  rw [YH,YH]
  have:xP.length=6:=rfl
  have:([10]:Bytes).length=1:=rfl
  lia
 refine ⟨_,rfl,_,_,_,_,_,rfl,s1 _ _ ep,T.oX,T.eW,rfl,wa,rfl,⟨vs,b_.of (s1 _ _ ew)⟩,gO (K:=K) (a:=wa) (xs:=vs) (fun i σ H'=> ∃v1 v2 v3:Option V,σ= [some (.ref a),some (.ref la),v1,v2,v3]/\aN H H'/\H' la=some (.lst ((st (oM p)::(p.shares.take i).map fun x=>st (Tide.printShare x)).map V.str))) ⟨none,none,none,rfl,s1,e1⟩ (fun i σ H' _ ⟨_,_,_,_,z,_⟩=>b_.of (z _ _ ew)) ?_ ?_⟩
 ·rintro i x σ H2 hx ⟨v1,v2,v3,rfl,s2,e2⟩
  obtain ⟨s,hsi,hxs⟩:=Paired.at2 ps hx
  have et:p.shares.take (i + 1)=p.shares.take i++ [s]:=by rw [YX,hsi];rfl
  obtain ⟨sa,dxs,rfl,fsa,es,hs1,hs2,hs3⟩:=hxs
  have es2:=s2 _ _ es
  have a1:=pointed_len (k:=3) (n:=s.size) (by lia)
  have a2:=pointed_len (k:=2) (n:=s.lag) (by lia)
  have l5:PM.lq.length=5:=rfl
  have l1:([32]:Bytes).length=1:=rfl
  have l10:([10]:Bytes).length=1:=rfl
  refine ⟨_,rfl,_,_,_,_,_,rfl,es2,T.aZ,T.gZ,rfl,(s.size:Int),3,rfl,by lia,by decide,?_⟩
  rw [GB]
  refine ⟨_,rfl,_,_,_,_,_,rfl,es2,T.aZ,T.gG,rfl,(s.lag:Int),2,rfl,by lia,by decide,?_⟩
  rw [GB]
  refine ⟨_,rfl,.inl ⟨rfl,_,b_.of e2⟩,_,rfl,_,_,_,_,_,rfl,es2,T.aZ,T.bV,rfl,_,_,rfl,rfl,by rw [mZ,ji,ji,sizeLine_eq];lia,_,_,rfl,rfl,by rw [mZ,lE,fY,ji,ji,sizeLine_eq,YH];lia,_,rfl,_,_,rfl,rfl,by rw [mZ,lE,fY,fY,ji,ji,sizeLine_eq,YH,YH];lia,_,_,rfl,rfl,by rw [mZ,lE,fY,fY,fY,ji,ji,sizeLine_eq,YH,YH,YH];lia,_,rfl,_,_,rfl,rfl,by rw [mZ,lE,fY,fY,fY,fY,ji,ji,sizeLine_eq,YH,YH,YH,YH];lia,_,_,rfl,rfl,by rw [mZ,lE,xw,fY,fY,fY,fY,fY,ji,ji,sizeLine_eq,YH,YH,YH,YH,YH];lia,?_⟩
  have e3:Str.ofString "wave "++st s.name++Str.ofString " "++st (Tide.printPointed (3 + 1) s.size)++Str.ofString " "++st (Tide.printPointed (2 + 1) s.lag)++Str.ofString "\n"=st (Tide.printShare s):=by
   rw [mZ,lE,xw,fY,fY,fY,fY,fY,fY]
   unfold Tide.printShare
   rw [PM.wU]
   simp only [Y3]
   rfl
  refine ⟨la,_,_,rfl,rfl,e2,?_,?_⟩
  ·rw [YI,YU,YI,Zd,sizeLine_eq]
   lia
  ·refine ⟨_,_,_,rfl,fun c o hc=>?_,?_⟩
   ·rw [ak (ao hc hla)]
    exact s2 c o hc
   ·rw [af,e3,et]
    simp only [YT,YS,List.map_nil,List.cons_append]
 ·rintro σ H2 ⟨v1,v2,v3,rfl,s2,e2⟩
  rw [lvs,Y8] at e2
  refine ⟨rfl,_,rfl,_,la,_,rfl,rfl,.inl (b_.of e2),?_,?_⟩
  ·have hsum: ∀(l:List Share),(∀x ∈ l,(Tide.printShare x).length<=80)->((l.map fun x=>st (Tide.printShare x)).map (·.length)).sum<=80 * l.length:=by
    intro l
    induction l with
    | nil=>intro _;exact YM _
    | cons x r ih=>
     intro h
     have h1:=ih fun y hy=>h y (YK _ hy)
     have h2:=h x YN
     rw [YS,YS,List.sum_cons,ji,YU]
     lia
   have h1:=hsum p.shares fun x hx=>by
    obtain ⟨i,hi⟩:=Zs.mp hx
    obtain ⟨v,_,hv⟩:=Paired.V5 ps hi
    obtain ⟨_,_,_,_,_,z1,z2,z3⟩:=hv
    exact Ja z1 z2 z3
   rw [YS,List.sum_cons,ji,show (Str.ofString "").length=0 from by decide +kernel,Nat.mul_zero]
   lia
  ·have:=q H2 s2
   rw [<-P8 p] at this
   exact this
end Td
namespace Td
open PySem PySem.Spec PyProof.Rows L2 TL
open Tide (Bytes Cur Term Part Line Share sumInt)
theorem Dt{x:Nat}(hx:x<=Tide.QUARTER): ∀(f k t:Nat),t<=2 ^ (192 + k)-> ∀y ∈ Tide.arcTerms x f k t,y<=2 ^ (192 + k + f)
 | 0,k,t,_,y,hy=>by cases hy
 | f + 1,k,t,ht,y,hy=>by
  have hy:y ∈ t::Tide.arcTerms x f (k + 1) (t * x / 2 ^ 192 / (k + 1)):=hy
  rcases YR.mp hy with e | e
  ·rw [e]
   exact Y4 ht (Zu (by decide) (by lia))
  ·have:=Dt hx f (k + 1) _ (Pn k hx ht) y e
   rw [show 192 + k + (f + 1)=192 + (k + 1) + f by lia]
   exact this
theorem Oz{B:Nat}: ∀(l:List Nat),(∀y ∈ l,y<=B)->(Tide.turnAbout l).natAbs<=l.length * B
 | a::c::b::d::r,h=>by
  have ih:=Oz r fun y hy=>h y (YK _ (YK _ (YK _ (YK _ hy))))
  have ha:=h a YN
  have hb:=h b (YK _ (YK _ YN))
  show ((a:Int) - (b:Int) + Tide.turnAbout r).natAbs<=(r.length + 1 + 1 + 1 + 1) * B
  rw [show (r.length + 1 + 1 + 1 + 1) * B=r.length * B + 4 * B by rw [show r.length + 1 + 1 + 1 + 1=r.length + 4 by omega,Nat.add_mul]]
  omega
 | [],_=>YW _
 | [_],_=>YW _
 | [_,_],_=>YW _
 | [_,_,_],_=>YW _
theorem Im{x:Nat}(hx:x<=Tide.QUARTER)(i:Nat):(Tide.series i x).natAbs<=2 ^ 263:=by
 unfold Tide.series
 have h:=Oz (B:=2 ^ 257) (((Tide.arcTerms x 65 0 (2 ^ Tide.BITS)).drop i).take 64) fun y hy=>Dt hx 65 0 _ (YM _) y (List.mem_of_mem_drop (Zg hy))
 have hl:(((Tide.arcTerms x 65 0 (2 ^ Tide.BITS)).drop i).take 64).length<=64:=by rw [Zd];lia
 refine Y4 h (Y4 (Nat.mul_le_mul_right _ hl) ?_)
 decide
theorem qd{r d:Nat}(h:r<=d)(hd:0 < d):(Tide.quarterCos r d).natAbs<=2 ^ 263:=by
 unfold Tide.quarterCos
 split
 ·exact Im (wN h hd) 0
 ·exact Im (wN (Nat.sub_le _ _) hd) 1
theorem SQ(a:Nat):Bt 104 (Tide.C a):=by
 have h1:(Tide.cosAt a Tide.TURN).natAbs<=2 ^ 263:=by
  unfold Tide.cosAt
  dsimp only
  have ht:Tide.TURN=4294967296:=by decide
  rw [ht]
  have h0:4 * (a % 4294967296) / 4294967296 * 4294967296<=4 * (a % 4294967296):=Nat.div_mul_le_self _ _
  have h2:4 * (a % 4294967296) - 4 * (a % 4294967296) / 4294967296 * 4294967296<=4294967296:=by
   have:=Nat.div_add_mod (4 * (a % 4294967296)) 4294967296
   have:=Nat.mod_lt (4 * (a % 4294967296)) (show 0 < 4294967296 by decide)
   omega
  split
  ·exact qd h2 (by decide)
  ·split
   ·rw [Int.natAbs_neg];exact qd (Nat.sub_le _ _) (by decide)
   ·split
    ·rw [Int.natAbs_neg];exact qd h2 (by decide)
    ·exact qd (Nat.sub_le _ _) (by decide)
 have h2:((Tide.cosAt a Tide.TURN).natAbs + 2 ^ (Tide.BITS - 31)) / 2 ^ (Tide.BITS - 30) < 2 ^ 104:=by
  refine Nat.div_lt_of_lt_mul ?_
  refine Zl (Nat.add_le_add_right h1 _) ?_
  decide
 unfold Tide.C Bt Tide.rounded
 split
 ·rw [Int.natAbs_neg,Zq];exact h2
 ·rw [Zq];exact h2
theorem WR(a:Nat):Bt 104 (Tide.S a):=SQ _
theorem Of{b:Nat}: ∀(l:List Int),(∀x ∈ l,Bt b x)->(sumInt l).natAbs<=l.length * (2 ^ b - 1)
 | [],_=>YW _
 | x::r,h=>by
  have ih:=Of r fun y hy=>h y (YK _ hy)
  have hx:=h x YN
  unfold Bt at hx
  show (x + sumInt r).natAbs<=(r.length + 1) * _
  rw [Nat.add_mul]
  omega
theorem JZ{b:Nat}{l:List Int}(h: ∀x ∈ l,Bt b x)(hl:l.length<=8):Bt (b + 3) (sumInt l):=by
 have h1:=Of l h
 have h2:l.length * (2 ^ b - 1)<=8 * (2 ^ b - 1):=Nat.mul_le_mul_right _ hl
 have h3:0 < 2 ^ b:=Nat.pow_pos (by decide)
 unfold Bt
 rw [Nat.pow_add,show (2:Nat) ^ 3=8 by decide]
 omega
theorem IB(l:List Int):l.sum=sumInt l:=by
 induction l with
 | nil=>rfl
 | cons x r ih=>rw [List.sum_cons,ih];rfl
def mC(f:Bytes->Int×Int)(s:List Term):Int×Int:=(sumInt (s.map fun (x:Term)=>x.times * (f x.name).1),sumInt (s.map fun (x:Term)=>x.times * (f x.name).2))
def fA(ls:List Line)(n:Bytes):Int×Int:=(60 * (Tide.angleOf ls n).1,(Tide.angleOf ls n).2)
def v_(ls:List Line)(s:List Term)(q:Nat):Int×Int:=((mC (fA ls) s).1 + ((q * (Tide.UNIT / 4):Nat):Int),(mC (fA ls) s).2)
def fW(ls:List Line)(n:Bytes):Int×Int:=match Tide.waveOf ls n with
 | some (.wave _ _ s q _ _)=>v_ ls s q
 | _=>(0,0)
def Kd(ls:List Line):Line->Int×Int
 | .angle _ _ p r=>(60 * p,r)
 | .wave _ _ s q _ _=>v_ ls s q
 | .sum _ _ s=>mC (fW ls) s
theorem Kc{α:Type}(g:α->Int)(f1 f2:α->Int)(t:Int): ∀s:List α,sumInt (s.map fun x=>g x * (f1 x + f2 x * t))=sumInt (s.map fun x=>g x * f1 x) + sumInt (s.map fun x=>g x * f2 x) * t
 | []=>by simp [sumInt]
 | x::r=>by
  show g x * (f1 x + f2 x * t) + sumInt (r.map _)=(g x * f1 x + sumInt (r.map _)) + (g x * f2 x + sumInt (r.map _)) * t
  rw [Kc g f1 f2 t r,Int.mul_add,Int.add_mul,Int.mul_assoc]
  lia
theorem Ai(ls:List Line)(s:List Term)(t:Int):Tide.anglesAt ls s t=(mC (fA ls) s).1 + (mC (fA ls) s).2 * t:=Kc (fun (x:Term)=>x.times) (fun x=>60 * (Tide.angleOf ls x.name).1) (fun x=>(Tide.angleOf ls x.name).2) t s
theorem Iw(ls:List Line)(s:List Term)(q:Nat)(t:Int):Tide.plainAt ls s q t=(v_ ls s q).1 + (v_ ls s q).2 * t:=by
 unfold Tide.plainAt v_
 rw [Ai]
 dsimp only
 lia
theorem UP(ls:List Line)(w:Line)(t:Int)(h:w.isAngle=false):Tide.argument ls w t=(Kd ls w).1 + (Kd ls w).2 * t:=by
 cases w with
 | angle=>cases h
 | wave n p s q fs ss=>exact Iw ls s q t
 | sum n p s=>
  show sumInt (s.map _)=(mC (fW ls) s).1 + (mC (fW ls) s).2 * t
  refine Eq.trans ?_ (Kc (fun (x:Term)=>x.times) (fun x=>(fW ls x.name).1) (fun x=>(fW ls x.name).2) t s)
  congr 1
  refine List.map_congr_left fun x _=>?_
  unfold fW
  cases h:Tide.waveOf ls x.name with
  | none=>simp
  | some y=>
   cases y with
   | angle=>simp
   | wave n p s q fs ss=>
    show x.times * Tide.plainAt ls s q t=x.times * ((v_ ls s q).1 + (v_ ls s q).2 * t)
    rw [Iw]
   | sum=>simp
structure TB(s:List Term):Prop where
 len:s.length<=8
 cnt: ∀x ∈ s,x.count<=15
structure LB(l:Line):Prop where
 ph:(yV l).natAbs < 10 ^ 15
 rt:(F7 l).natAbs < 10 ^ 15
 tn:EE l<=270
 ts:TB (eY l)
 fs:(bJ l).length<=8/\ ∀p ∈ bJ l,p.number.natAbs < 10 ^ 15/\TB p.sum
 ss:(dW l).length<=8/\ ∀p ∈ dW l,p.number.natAbs < 10 ^ 15/\TB p.sum
theorem kE.tb{F:Addr->Prop}{H:Hp}{a:Addr}{s:List Term}(h:kE F H a s):TB s:=by
 obtain ⟨_,vs,_,ps,hl⟩:=h
 refine ⟨hl,fun x hx=>?_⟩
 obtain ⟨i,hi⟩:=Zs.mp hx
 obtain ⟨v,_,hv⟩:=Paired.V5 ps hi
 obtain ⟨_,_,_,_,z⟩:=hv
 exact z
theorem qi.pb{F:Addr->Prop}{H:Hp}{a:Addr}{s:List Part}(h:qi F H a s):s.length<=8/\ ∀p ∈ s,p.number.natAbs < 10 ^ 15/\TB p.sum:=by
 obtain ⟨_,vs,_,ps,hl⟩:=h
 refine ⟨hl,fun x hx=>?_⟩
 obtain ⟨i,hi⟩:=Zs.mp hx
 obtain ⟨v,_,hv⟩:=Paired.V5 ps hi
 obtain ⟨_,_,_,_,_,z1,z2⟩:=hv
 exact ⟨z2,z1.tb⟩
theorem iV.lb{A:Ad}{F:Addr->Prop}{H:Hp}{v:V}{l:Line}(h:iV A F H v l):LB l:=by
 obtain ⟨a,dx,ta,fa,sa,rfl,fA,ea,ht,hf,hs,h1,h2,h3⟩:=h
 exact ⟨h1,h2,h3,ht.tb,hf.pb,hs.pb⟩
theorem x8{x:Term}(h:x.count<=15):Bt 4 x.times:=by
 unfold Bt Tide.Term.times
 split <;> omega
theorem Ek{b:Nat}{f:Bytes->Int×Int}{s:List Term}(hs:TB s)(hf: ∀x ∈ s,Bt b (f x.name).1/\Bt b (f x.name).2):Bt (b + 7) (mC f s).1/\Bt (b + 7) (mC f s).2:=by
 refine ⟨?_,?_⟩
 ·refine (JZ (b:=4 + b) (fun y hy=>?_) (by rw [YI];exact hs.len)).mono (by lia)
  obtain ⟨x,hx,rfl⟩:=Zf.mp hy
  exact (x8 (hs.cnt x hx)).mul (hf x hx).1
 ·refine (JZ (b:=4 + b) (fun y hy=>?_) (by rw [YI];exact hs.len)).mono (by lia)
  obtain ⟨x,hx,rfl⟩:=Zf.mp hy
  exact (x8 (hs.cnt x hx)).mul (hf x hx).2
theorem kq{n:Nat}:Bt n 0:=Nat.pow_pos (by decide)
theorem K_{ls:List Line}(h: ∀l ∈ ls,LB l)(n:Bytes):Bt 57 (fA ls n).1/\Bt 57 (fA ls n).2:=by
 unfold fA Tide.angleOf
 cases hf:ls.find? (fun (x:Line)=>x.isAngle && x.name == n) with
 | none=>exact ⟨kq,kq⟩
 | some y=>
  have hb:=h y (Zn hf)
  cases y with
  | angle m q p r=>
   have h1:p.natAbs < 10 ^ 15:=hb.ph
   have h2:r.natAbs < 10 ^ 15:=hb.rt
   unfold Bt
   dsimp only
   lia
  | wave=>exact ⟨kq,kq⟩
  | sum=>exact ⟨kq,kq⟩
theorem Iq{ls:List Line}(h: ∀l ∈ ls,LB l){s:List Term}{q:Nat}(hs:TB s)(hq:90 * q<=270):Bt 66 (v_ ls s q).1/\Bt 66 (v_ ls s q).2:=by
 have:=Ek (b:=57) (f:=fA ls) hs fun x _=>K_ h x.name
 refine ⟨Bt.add this.1 (b:=60) ?_ (by decide) (by decide),this.2.mono (by decide)⟩
 unfold Bt
 rw [Zq]
 have:Tide.UNIT / 4=5400000000000000:=by decide
 rw [this]
 lia
theorem R9{ls:List Line}(h: ∀l ∈ ls,LB l)(n:Bytes):Bt 66 (fW ls n).1/\Bt 66 (fW ls n).2:=by
 unfold fW Tide.waveOf
 cases hf:ls.find? (fun (x:Line)=>x.isWave && x.name == n) with
 | none=>exact ⟨kq,kq⟩
 | some y=>
  have hb:=h y (Zn hf)
  cases y with
  | angle=>exact ⟨kq,kq⟩
  | wave m p s q fs ss=>exact Iq h hb.ts hb.tn
  | sum=>exact ⟨kq,kq⟩
theorem RN{ls:List Line}(h: ∀l ∈ ls,LB l){l:Line}(hl:LB l):Bt 80 (Kd ls l).1/\Bt 80 (Kd ls l).2:=by
 cases l with
 | angle m q p r=>
  have h1:p.natAbs < 10 ^ 15:=hl.ph
  have h2:r.natAbs < 10 ^ 15:=hl.rt
  unfold Bt Kd
  dsimp only
  lia
 | wave m p s q fs ss=>
  have:=Iq h (s:=s) (q:=q) hl.ts hl.tn
  exact ⟨this.1.mono (by decide),this.2.mono (by decide)⟩
 | sum m p s=>
  have:=Ek (b:=66) (f:=fW ls) (s:=s) hl.ts fun x _=>R9 h x.name
  exact ⟨this.1.mono (by decide),this.2.mono (by decide)⟩
theorem Ge{ls:List Line}(d:Dn ls){p:Line->Bool}{y:Line}(hy:y ∈ ls)(hp:p y=true):(ls.find? fun x=>p x && x.name == y.name)=some y:=by
 induction ls with
 | nil=>cases hy
 | cons z r ih=>
  unfold Dn at d
  rw [YS,List.nodup_cons] at d
  rw [Zh]
  rcases YR.mp hy with e | e
  ·subst e
   rw [hp]
   simp
  ·have hn:z.name≠y.name:=fun q=>d.1 (by rw [q];exact Ze e)
   rw [show (p z && z.name == y.name)=false by rw [YY.mpr hn,Bool.and_false]]
   exact ih d.2 e
theorem Rg{ls:List Line}(d:Dn ls){y:Line}(hy:y ∈ ls)(ha:y.isAngle=true):fA ls y.name=Kd ls y:=by
 unfold fA Tide.angleOf
 rw [Ge d hy ha]
 cases y with
 | angle=>rfl
 | wave=>cases ha
 | sum=>cases ha
theorem Gn{ls:List Line}(d:Dn ls){y:Line}(hy:y ∈ ls)(ha:y.isWave=true):Tide.waveOf ls y.name=some y:=Ge d hy ha
theorem VM{ls:List Line}(d:Dn ls){y:Line}(hy:y ∈ ls)(ha:y.isWave=true):fW ls y.name=Kd ls y:=by
 unfold fW
 rw [Gn d hy ha]
 cases y with
 | angle=>cases ha
 | wave=>rfl
 | sum=>cases ha
variable {P:Program} {w:World} {K:W.Frag} {mg:Str->Option Value} {base:Heap} {A:Ad}
def rg(A:Ad)(F:Addr->Prop)(H:Hp)(v:V)(m:Int×Int):Prop:= ∃a dx,v= .ref a/\F a/\H a=some (mY A dx (.int m.1) (.int m.2))
theorem rg.keep{A:Ad}{F:Addr->Prop}{H H':Hp}{v:V}{m:Int×Int}(h:rg A F H v m)(k:Kf F H H'):rg A F H' v m:=let ⟨a,dx,e,f,g⟩:=h;⟨a,dx,e,f,k _ _ f g⟩
theorem rg.wide{A:Ad}{F G:Addr->Prop}{H:Hp}{v:V}{m:Int×Int}(h:rg A F H v m)(w: ∀b o,F b->H b=some o->G b):rg A G H v m:=let ⟨a,dx,e,f,g⟩:=h;⟨a,dx,e,w _ _ f g,g⟩
theorem D5:ay ["self","minute"] ["self","minute"] (aq sM):=jv rfl (by decide +kernel)
def DF(K:W.Frag)(A:Ad):Sp:=fun vs H Q _=> ∃(a dx:Addr) (s r t:Int),vs= [.ref a,.int t]/\H a=some (mY A dx (.int s) (.int r))/\Bt 200 r/\Bt 100 t/\Q (.int (s + r * t)) H
theorem xr(T:Txt K mg A):bw P w K mg base (lA) 1 A.fh A.jm ["self","minute"] (DF K A):=by
 refine oq T.lK D5 fun vs H Q E h Rz kz=>?_
 obtain ⟨a,dx,s',r,t,rfl,ea,br,bt,q⟩:=h
 refine kz rfl fun cdv Ar outer s hr=>?_
 refine ⟨_,(aj (aD (aR kU (au (pv 0) rfl) (aR cg (au (pv 0) rfl) (pv 1))))),?_⟩
 exact ⟨_,rfl,_,_,_,_,_,rfl,ea,T.iE,T.gE,rfl,_,rfl,_,_,_,_,_,rfl,ea,T.iE,T.iN,rfl,_,rfl,_,_,rfl,rfl,⟨br.bg,bt.bg⟩,_,_,rfl,rfl,q⟩
def MQ(R:V->Int×Int->Prop)(ds:List (Key×V))(s:List Term)(f:Bytes->Int×Int):Prop:= ∀x ∈ s,∃v,dg ds (.inr (st x.name))=some v/\R v (f x.name)
theorem cW:ay ["terms","motions","start","rate","term"] ["terms","motions"] (aq oB):=jv rfl (by decide +kernel)
def AF(K:W.Frag)(A:Ad):Sp:=fun vs H Q _=> ∃(F G:Addr->Prop) (ta ma:Addr) (s:List Term) (ds:List (Key×V)) (f:Bytes->Int×Int),vs= [.ref ta,.ref ma]/\kE F H ta s/\H ma=some (.dK ds)/\MQ (rg A G H) ds s f/\(∀x ∈ s,Bt 100 (f x.name).1/\Bt 100 (f x.name).2)/\ ∀a dx H',aN H H'->H a=none->H' a=some (mY A dx (.int (mC f s).1) (.int (mC f s).2))->Q (.ref a) H'
theorem sU(T:Txt K mg A):bw P w K mg base (lA) 3 A.dF A.fF ["terms","motions"] (AF K A):=by
 refine oq T.fq cW fun vs H Q E h Rz kz=>?_
 obtain ⟨F,G,ta,ma,s',ds,f,rfl,ht,hm,hs,hb,q⟩:=h
 refine kz rfl fun cdv Ar outer s hr=>?_
 have hu:=tW hr
 refine ⟨_,(ah (aF (i:=2) cW.nd rfl (Or.inl rfl) (bN (yt rfl) (by rfl) T.zT (by decide +kernel) (aa (B3 rfl cW.nd (dH (pv 0)) (own:= [("term",4)]) (mU rfl) (fun _ _ _ _ _=>b9 (i:=4) cW.nd rfl (Or.inl rfl)) (fun _ _ _ _ _=>tQ) (fun _ _ _ _ _=>(aR cg (gj (zC (K:=K) rfl) (pv 4) aH (fun _ _=>rfl)) (ue (K:=K) rfl (ug hu (pv 1) (gj (zC (K:=K) rfl) (pv 4) aH (fun _ _=>rfl)) (fun _ _=>rfl)) rfl)))) ai)))
   (ah (aF (i:=3) cW.nd rfl (Or.inl rfl) (bN (yt rfl) (by rfl) T.zT (by decide +kernel) (aa (B3 rfl cW.nd (dH (pv 0)) (own:= [("term",4)]) (mU rfl) (fun _ _ _ _ _=>b9 (i:=4) cW.nd rfl (Or.inl rfl)) (fun _ _ _ _ _=>tQ) (fun _ _ _ _ _=>(aR cg (gj (zC (K:=K) rfl) (pv 4) aH (fun _ _=>rfl)) (ue (K:=K) rfl (ug hu (pv 1) (gj (zC (K:=K) rfl) (pv 4) aH (fun _ _=>rfl)) (fun _ _=>rfl)) rfl)))) ai)))
   (aj (aD (jz T.rR (oW T) (hr.mono (by decide)) rfl T.vv T.qe .nil aL (aa (pv 2) (aa (pv 3) ai))))))),?_⟩
 obtain ⟨_,vs,el,pl,l8⟩:=id ht
 have hc:=ht.tb
 have lvs:vs.length=s'.length:=Paired.length pl
 dsimp only [AJ,DL,BI,Ep,Vo,bC]
 refine yU ((s'.map fun (x:Term)=>x.times * (f x.name).1).map V.int) (fun P p=>⟨_,rfl,p⟩) (by rw [YI,YI,lvs]) (by rw [lvs,sizeLine_eq];lia) (b_.of el) (fun i x y hx hy H' k' P p=>?_) (fun D hD=>?_)
 ·obtain ⟨z,hz,hxz⟩:=Paired.at2 pl hx
  obtain ⟨b,rfl,hsq⟩:=hxz.sq (K:=K) k'
  have ey:y= .int (z.times * (f z.name).1):=by
   rw [Y6,Y6,hz] at hy
   exact (Option.some.inj hy).symm
  subst ey
  have hzm:z ∈ s':=Y7 hz
  obtain ⟨v,hv,m,dxm,rfl,_,em⟩:=hs z hzm
  have hg:iY H' ma (.str (st z.name)) (some (.ref m)):=hv▸iY.k (k:=Sum.inr (st z.name)) (k' _ _ hm)
  exact ⟨_,rfl,b,_,_,_,rfl,rfl,hsq,at_of (j:=0) (v:= .int z.times) rfl rfl,_,rfl,_,rfl,b,_,_,_,rfl,rfl,hsq,at_of (j:=1) (v:= .str (st z.name)) rfl rfl,ma,_,rfl,hg,_,_,_,_,_,rfl,k' _ _ em,T.iE,T.gE,rfl,_,_,rfl,rfl,⟨(x8 (hc.cnt z hzm)).bg,(hb z hzm).1.bg⟩,p⟩
 refine ⟨D,_,rfl,b_.of af,?_⟩
 have s1:aN H (upd H D (.lst ((s'.map fun (x:Term)=>x.times * (f x.name).1).map V.int))):=aN.new hD
 generalize upd H D (.lst ((s'.map fun (x:Term)=>x.times * (f x.name).1).map V.int))=H1 at s1
 dsimp only [mR,AJ,DL,BI,Ep,Vo,bC]
 refine yU ((s'.map fun (x:Term)=>x.times * (f x.name).2).map V.int) (fun P p=>⟨_,rfl,p⟩) (by rw [YI,YI,lvs]) (by rw [lvs,sizeLine_eq];lia) (b_.of (s1 _ _ el)) (fun i x y hx hy H' k' P p=>?_) (fun D2 hD2=>?_)
 ·obtain ⟨z,hz,hxz⟩:=Paired.at2 pl hx
  obtain ⟨b,rfl,hsq⟩:=hxz.sq (K:=K) (s1.trans k')
  have ey:y= .int (z.times * (f z.name).2):=by
   rw [Y6,Y6,hz] at hy
   exact (Option.some.inj hy).symm
  subst ey
  have hzm:z ∈ s':=Y7 hz
  obtain ⟨v,hv,m,dxm,rfl,_,em⟩:=hs z hzm
  have hg:iY H' ma (.str (st z.name)) (some (.ref m)):=hv▸iY.k (k:=Sum.inr (st z.name)) (k' _ _ (s1 _ _ hm))
  exact ⟨_,rfl,b,_,_,_,rfl,rfl,hsq,at_of (j:=0) (v:= .int z.times) rfl rfl,_,rfl,_,rfl,b,_,_,_,rfl,rfl,hsq,at_of (j:=1) (v:= .str (st z.name)) rfl rfl,ma,_,rfl,hg,_,_,_,_,_,rfl,k' _ _ (s1 _ _ em),T.iE,T.iN,rfl,_,_,rfl,rfl,⟨(x8 (hc.cnt z hzm)).bg,(hb z hzm).2.bg⟩,p⟩
 have s2:aN H (upd H1 D2 (.lst ((s'.map fun (x:Term)=>x.times * (f x.name).2).map V.int))):=s1.trans (aN.new hD2)
 refine ⟨D2,_,rfl,b_.of af,?_⟩
 generalize upd H1 D2 (.lst ((s'.map fun (x:Term)=>x.times * (f x.name).2).map V.int))=H2 at s2
 refine ⟨_,rfl,_,rfl,fun x dx hx hdx ndx=>⟨x,dx,_,_,rfl,af,rfl,?_⟩⟩
 rw [b8]
 refine q x dx _ (s2.trans (bS hx hdx)) (s2.free hx) ?_
 rw [af,IB,IB]
 rfl
def tO(A:Ad)(F:Addr->Prop)(H:Hp)(ma:Addr)(all ls:List Line):Prop:=F ma/\ ∃ds,H ma=some (.dK ds)/\ds.length<=ls.length/\(∀l ∈ ls,∃v,dg ds (.inr (st l.name))=some v/\rg A F H v (Kd all l))
theorem tO.keep{A:Ad}{F:Addr->Prop}{H H':Hp}{a:Addr}{m l:List Line}(h:tO A F H a m l)(k:Kf F H H'):tO A F H' a m l:=let ⟨f,ds,e,z,g⟩:=h;⟨f,ds,k _ _ f e,z,fun l hl=>let ⟨v,hv,q⟩:=g l hl;⟨v,hv,q.keep k⟩⟩
theorem tO.wide{A:Ad}{F G:Addr->Prop}{H:Hp}{a:Addr}{m l:List Line}(h:tO A F H a m l)(w: ∀b o,F b->H b=some o->G b):tO A G H a m l:=let ⟨f,ds,e,z,g⟩:=h;⟨w _ _ f e,ds,e,z,fun l hl=>let ⟨v,hv,q⟩:=g l hl;⟨v,hv,q.wide w⟩⟩
theorem sP{before:List Line}{l:Line}(h:PJ.bO before l=none)(x:Term)(hx:x ∈ l.uses): ∃y ∈ before,(if l.isWave=true then y.isAngle else y.isWave)=true/\y.name=x.name:=by
 unfold PJ.bO at h
 split at h
 ·cases h
 ·split at h
  ·cases h
  ·split at h
   ·cases h
   ·have hb:l.uses.find? (PJ.qm before l)=none:=by
     cases e:l.uses.find? (PJ.qm before l) with
     | none=>rfl
     | some z=>rw [e] at h;cases h
    have:=List.find?_eq_none.mp hb x hx
    unfold PJ.qm at this
    rw [Bool.not_eq_true,Bool.not_eq_false',List.any_eq_true] at this
    obtain ⟨y,hy,e⟩:=this
    rw [Y_] at e
    exact ⟨y,hy,e.1,beq_iff_eq.mp e.2⟩
theorem Az{before:List Line}{l:Line}(h:PJ.bO before l=none):PJ.qW l=false:=by
 unfold PJ.bO at h
 split at h
 ·cases h
 ·split at h
  ·cases h
  ·split at h
   ·cases h
   ·rename_i h3
    exact Bool.eq_false_iff.mpr h3
theorem nH{before:List Line}: ∀ {ls:List Line},PJ.cH before ls=none-> ∀ {i:Nat} {l:Line},ls[i]?=some l->PJ.bO (before++ls.take i) l=none
 | [],_,i,l,hl=>by simp at hl
 | x::r,h,i,l,hl=>by
  rw [PJ.cH] at h
  cases hf:PJ.bO before x with
  | some f=>rw [hf] at h;cases h
  | none=>
   rw [hf] at h
   cases i with
   | zero=>
    cases hl
    rw [List.take_zero,Y0]
    exact hf
   | succ i=>
    have:=nH (before:=before++ [x]) h (i:=i) hl
    rw [List.take_succ_cons]
    rw [Y3] at this
    exact this
theorem LD{before:List Line}(d:Dn before): ∀ {ls:List Line},PJ.cH before ls=none->Dn (before++ls)
 | [],_=>by rw [Y0];exact d
 | x::r,h=>by
  rw [PJ.cH] at h
  cases hf:PJ.bO before x with
  | some f=>rw [hf] at h;cases h
  | none=>
   rw [hf] at h
   have:=LD (d.snoc (Ca hf)) h
   rw [Y3] at this
   exact this
structure Good(ls:List Line):Prop where
 ff:PJ.cH [] ls=none
 lb: ∀l ∈ ls,LB l
 len:ls.length<=30000
theorem Good.dn{ls:List Line}(g:Good ls):Dn ls:=LD (before:= []) (by unfold Dn;simp) g.ff
theorem Og{ls:List Line}(d:Dn ls){i j:Nat}{l m:Line}(hi:ls[i]?=some l)(hj:ls[j]?=some m)(e:l.name=m.name):i=j:=by
 have h1:(ls.map Line.name)[i]?=some l.name:=by rw [Y6,hi];rfl
 have h2:(ls.map Line.name)[j]?=some l.name:=by rw [Y6,hj,e];rfl
 unfold Dn at d
 obtain ⟨hi',e1⟩:=YL.mp h1
 obtain ⟨hj',e2⟩:=YL.mp h2
 rcases Nat.lt_trichotomy i j with h | h | h
 ·exact absurd (by rw [e1,e2]) (List.pairwise_iff_getElem.mp d i j hi' hj' h)
 ·exact h
 ·exact absurd (by rw [e1,e2]) (List.pairwise_iff_getElem.mp d j i hj' hi' h)
theorem vC(kvs:List (Key×V))(k:Key)(v:V):(putK kvs k v).length<=kvs.length + 1:=by
 unfold putK
 split
 ·rw [YI];lia
 ·rw [YH];exact YM _
theorem qk:ay ["lines","motions","line","motion"] ["lines"] (aq vM):=jv rfl (by decide +kernel)
def HR(K:W.Frag)(A:Ad):Sp:=fun vs H Q _=> ∃(F:Addr->Prop) (la:Addr) (ls:List Line),vs= [.ref la]/\iy A F H la ls/\Good ls/\ ∀ma H',aN H H'->tO A (fun c=>H c=none) H' ma ls ls->Q (.ref ma) H'
theorem G4(T:Txt K mg A):bw P w K mg base (lA) 4 A.jy A.lY ["lines"] (HR K A):=by
 refine oq T.ou qk fun vs H Q E h Rz kz=>?_
 obtain ⟨F,la,ls,rfl,hl,hg,q⟩:=h
 refine kz rfl fun cdv Ar outer s hr=>?_
 have hu:=tW hr
 refine ⟨_,(ah (aF (i:=1) qk.nd rfl (Or.inl rfl) oE)
   (ah (jw PassesOwn.never rfl (dH (pv 0)) (b9 (i:=2) qk.nd rfl (Or.inl rfl)) (aj (b6 (aO fQ (au (pv 2) rfl) (aC rfl T.rP) (aT _)) (aj (m9 hu (pv 1) (au (pv 2) rfl) (jz T.rR (oW T) (hr.mono (by decide)) rfl T.vv T.qe .nil aL (aa (aR cg (au (pv 2) rfl) (aC rfl T.oO)) (aa (au (pv 2) rfl) ai))) rfl)) (ah (aF (i:=3) qk.nd rfl (Or.inl rfl) (aB (sU T) (hr.mono (by decide)) rfl T.kD T.fq.kp T.tU .nil aL (aa (au (pv 2) rfl) (aa (pv 1) ai))))
   (aj (m9 hu (pv 1) (au (pv 2) rfl) (jz T.rR (oW T) (hr.mono (by decide)) rfl T.vv T.qe .nil aL (aa (aR kU (au (pv 3) rfl) (aR cg (au (pv 2) rfl) (aC rfl T.oN))) (aa (au (pv 3) rfl) ai))) rfl))))))
   (aj (aD (pv 1))))),?_⟩
 obtain ⟨fla,vs,el,pl⟩:=id hl
 have lvs:vs.length=ls.length:=Paired.length pl
 intro ma hma
 have s1:aN H (upd H ma (.dK [])):=aN.new hma
 have e1:upd H ma (.dK []) ma=some (.dK []):=af
 generalize upd H ma (.dK [])=H1 at s1 e1
 have hdn:=hg.dn
 have hlen:=hg.len
 refine ⟨_,rfl,la,rfl,⟨vs,b_.of (s1 _ _ el)⟩,gO (K:=K) (a:=la) (xs:=vs) (fun i σ H'=> ∃v w:Option V,σ= [some (.ref la),some (.ref ma),v,w]/\aN H H'/\ ∃ds,H' ma=some (.dK ds)/\ds.length<=i/\(∀l ∈ ls.take i,∃v,dg ds (.inr (st l.name))=some v/\rg A (fun c=>H c=none/\c≠ma) H' v (Kd ls l))) ⟨none,none,rfl,s1,[],e1,YW _,fun l hl=>by rw [List.take_zero] at hl;cases hl⟩ (fun i σ H' _ ⟨_,_,_,z,_⟩=>b_.of (z _ _ el)) ?_ ?_⟩
 ·rintro i x σ H2 hx ⟨v,w',rfl,s2,ds,e2,hdl,hds⟩
  obtain ⟨l,hli,hxl⟩:=Paired.at2 pl hx
  have et:ls.take (i + 1)=ls.take i++ [l]:=by rw [YX,hli];rfl
  have hlm:l ∈ ls:=Y7 hli
  have hil:i < ls.length:=(YL.mp hli).1
  have hlf:PJ.bO (ls.take i) l=none:=nH (before:= []) hg.ff hli
  have hlb:=hg.lb l hlm
  have hxl2:=hxl.keep (Kf.of s2)
  obtain ⟨c,dxc,ta,fa,sa,rfl,fC,ec,ht,_⟩:=id hxl2
  have put: ∀(H3:Hp),aN H H3->Kf (fun c=>H c=none/\c≠ma) H2 H3->H3 ma=some (.dK ds)->H3 c=some (cY A dxc (.str (st (nM l))) (.int (l.place:Int)) (.str (st l.name)) (.int (yV l)) (.int (F7 l)) (.ref ta) (.int (EE l:Int)) (.ref fa) (.ref sa))-> ∀(m dm:Addr),H m=none->m≠ma->H3 m=some (mY A dm (.int (Kd ls l).1) (.int (Kd ls l).2))->
    ∃a H4,V.ref ma= .ref a/\zQ H3 a (.str (st l.name)) (.ref m) H4/\aN H H4/\ ∃ds',H4 ma=some (.dK ds')/\ds'.length<=i + 1/\(∀l ∈ ls.take (i + 1),∃v,dg ds' (.inr (st l.name))=some v/\rg A (fun c=>H c=none/\c≠ma) H4 v (Kd ls l)):=by
   intro H3 s3 k3 e3 ec3 m dm hm1 hm2 hm3
   refine ⟨ma,_,rfl,zQ.k (k:=Sum.inr (st l.name)) e3 (by rw [sizeLine_eq];lia),fun b o hb=>?_,_,af,?_,?_⟩
   ·rw [ak (ao hb hma)]
    exact s3 b o hb
   ·exact Y4 (vC _ _ _) (by lia)
   ·have k4:Kf (fun c=>H c=none/\c≠ma) H3 (upd H3 ma (.dK (putK ds (.inr (st l.name)) (.ref m)))):=Kf.put (by simp)
    rw [et]
    intro y hy
    rcases Zb.mp hy with hy | hy
    ·obtain ⟨v,hv,mv⟩:=hds y hy
     refine ⟨v,?_,(mv.keep k3).keep k4⟩
     rw [oR,if_neg,hv]
     intro z
     have z2:=sD (Sum.inr.inj z)
     obtain ⟨j,hj⟩:=Zs.mp hy
     have hj2:ls[j]?=some y:=by
      rw [List.getElem?_take] at hj
      split at hj
      ·exact hj
      ·cases hj
     have:=Og hdn hli hj2 (by first | exact z2 | exact z2.symm)
     have hjl:=(YL.mp hj).1
     rw [Zd] at hjl
     lia
    ·rw [YO.mp hy]
     exact ⟨.ref m,by rw [oR,if_pos rfl],m,dm,rfl,⟨hm1,hm2⟩,by rw [ak hm2];exact hm3⟩
  refine ⟨_,rfl,_,_,_,_,_,rfl,ec,T.aE,T.cu,rfl,rfl,_,rfl,?_⟩
  rw [vd,qN,tK]
  cases hA:l.isAngle with
  | true=>
   refine cC ⟨_,rfl,_,_,_,_,_,rfl,ec,T.aE,T.jN,rfl,_,_,rfl,rfl,⟨?_,?_⟩,_,rfl,_,_,_,_,_,rfl,ec,T.aE,T.kX,rfl,fun m dm hm hdm ndm=>⟨m,dm,_,_,rfl,af,rfl,?_⟩⟩
   ·have:Bt 60 (yV l):=by have:=hlb.ph;unfold Bt;lia
    exact this.bg
   ·have:Bt 60 60:=by unfold Bt;decide
    exact this.bg
   rw [b8]
   have s3:=s2.trans (bS (o:=mY A dm (.int (yV l * 60)) (.int (F7 l))) hm hdm)
   have hmo:Kd ls l=(yV l * 60,F7 l):=by
    cases l with
    | angle n p x r=>show (60 * x,r)=(x * 60,r);rw [Int.mul_comm]
    | wave=>cases hA
    | sum=>cases hA
   have nm:m≠ma:=fun z=>by rw [z,e2] at hm;cases hm
   have k3:Kf (fun c=>H c=none/\c≠ma) H2 (upd (upd H2 dm (.own m)) m (mY A dm (.int (yV l * 60)) (.int (F7 l)))):=fun b o _ hb=>bS hm hdm b o hb
   obtain ⟨a',H4,z1,z2,z3,z4⟩:=put _ s3 k3 (bS hm hdm _ _ e2) (bS hm hdm _ _ ec) m dm (s2.free hm) nm (by rw [af,hmo])
   exact ⟨_,rfl,_,rfl,_,_,_,_,_,rfl,bS hm hdm _ _ ec,T.aE,T.bU,rfl,a',H4,z1,z2,_,_,rfl,z3,z4⟩
  | false=>
   have hsay: ∃f:Bytes->Int×Int,MQ (rg A (fun c=>H c=none/\c≠ma) H2) ds (eY l) f/\(∀x ∈ eY l,Bt 100 (f x.name).1/\Bt 100 (f x.name).2)/\Kd ls l=((mC f (eY l)).1 + (EE l:Int) * 60000000000000,(mC f (eY l)).2):=by
    cases l with
    | angle=>cases hA
    | wave n p s q fs ss=>
     refine ⟨fA ls,fun x hx=>?_,fun x hx=>⟨(K_ hg.lb _).1.mono (by decide),(K_ hg.lb _).2.mono (by decide)⟩,?_⟩
     ·obtain ⟨y,hy,ya,yn⟩:=sP hlf x (Zi _ hx)
      obtain ⟨v,hv,mv⟩:=hds y hy
      have:=Rg hdn (Zg hy) ya
      rw [<-yn,this]
      exact ⟨v,hv,mv⟩
     ·show ((mC (fA ls) s).1 + ((q * (Tide.UNIT / 4):Nat):Int),(mC (fA ls) s).2)=_
      have e4:Tide.UNIT / 4=5400000000000000:=by decide
      rw [e4]
      show _=((mC (fA ls) s).1 + ((90 * q:Nat):Int) * 60000000000000,(mC (fA ls) s).2)
      have e5:((q * 5400000000000000:Nat):Int)=((90 * q:Nat):Int) * 60000000000000:=by lia
      rw [e5]
    | sum n p s=>
     refine ⟨fW ls,fun x hx=>?_,fun x hx=>⟨(R9 hg.lb _).1.mono (by decide),(R9 hg.lb _).2.mono (by decide)⟩,?_⟩
     ·obtain ⟨y,hy,ya,yn⟩:=sP hlf x hx
      obtain ⟨v,hv,mv⟩:=hds y hy
      have:=VM hdn (Zg hy) ya
      rw [<-yn,this]
      exact ⟨v,hv,mv⟩
     ·show mC (fW ls) s=((mC (fW ls) s).1 + ((0:Nat):Int) * 60000000000000,(mC (fW ls) s).2)
      rw [show ((0:Nat):Int) * 60000000000000=0 by decide,Int.add_zero]
   obtain ⟨f,hs1,hs2,hmo⟩:=hsay
   refine cM ⟨_,rfl,_,_,_,_,_,rfl,ec,T.aE,T.cB,rfl,_,rfl,F,_,ta,ma,eY l,ds,f,rfl,ht,e2,hs1,hs2,fun a dx H3 s3 ha ea=>?_⟩
   refine ⟨_,rfl,_,_,_,_,_,rfl,ea,T.iE,T.gE,rfl,_,rfl,_,_,_,_,_,rfl,s3 _ _ ec,T.aE,T.kR,rfl,_,_,rfl,rfl,⟨?_,?_⟩,_,_,rfl,rfl,_,rfl,_,_,_,_,_,rfl,ea,T.iE,T.iN,rfl,fun m dm hm hdm ndm=>⟨m,dm,_,_,rfl,af,rfl,?_⟩⟩
   ·have:Bt 60 (EE l:Int):=by have:=hlb.tn;unfold Bt;lia
    exact this.bg
   ·have:Bt 60 60000000000000:=by unfold Bt;decide
    exact this.bg
   rw [b8]
   have s4:aN H2 (upd (upd H3 dm (.own m)) m (mY A dm (.int ((mC f (eY l)).1 + (EE l:Int) * 60000000000000)) (.int (mC f (eY l)).2))):=s3.trans (bS hm hdm)
   have nm:m≠ma:=fun z=>by rw [z,s3 _ _ e2] at hm;cases hm
   obtain ⟨a',H4,z1,z2,z3,z4⟩:=put _ (s2.trans s4) (Kf.of s4) (s4 _ _ e2) (s4 _ _ ec) m dm (s2.free (s3.free hm)) nm (by rw [af,hmo])
   exact ⟨_,rfl,_,rfl,_,_,_,_,_,rfl,s4 _ _ ec,T.aE,T.bU,rfl,a',H4,z1,z2,_,_,rfl,z3,z4⟩
 ·rintro σ H2 ⟨v,w',rfl,s2,ds,e2,hdl,hds⟩
  rw [lvs,Y8] at hds
  refine ⟨_,rfl,q ma H2 s2 ⟨hma,ds,e2,by lia,fun l hl=>?_⟩⟩
  obtain ⟨v,hv,mv⟩:=hds l hl
  exact ⟨v,hv,mv.wide fun _ _ h _=>h.1⟩
theorem Lx(n:Int)(d:Nat)(h:0 < d):n * 4294967296 / (d:Int) % 4294967296=((Tide.cut n d:Nat):Int):=by
 unfold Tide.cut
 have e:(2:Int) ^ 32=4294967296:=by decide
 rw [e]
 have:=Int.emod_nonneg (n * 4294967296 / (d:Int)) (show (4294967296:Int)≠0 by decide)
 lia
theorem Om(n:Int)(d:Nat):Tide.cut n d < 2 ^ 32:=by
 unfold Tide.cut
 have e:(2:Int) ^ 32=4294967296:=by decide
 rw [e]
 have h1:=Int.emod_nonneg (n * 4294967296 / (d:Int)) (show (4294967296:Int)≠0 by decide)
 have h2:=Int.emod_lt_of_pos (n * 4294967296 / (d:Int)) (show (0:Int) < 4294967296 by decide)
 have e2:(2:Nat) ^ 32=4294967296:=by decide
 lia
theorem tG(a b:List Int):sumInt (a++b)=sumInt a + sumInt b:=by
 induction a with
 | nil=>show sumInt b=0 + sumInt b;lia
 | cons x r ih=>show x + sumInt (r++b)=(x + sumInt r) + sumInt b;rw [ih];lia
theorem vS(x:Int):sumInt [x]=x:=by show x + 0=x;lia
def gF(ls:List Line)(b:Int)(x:Part):Int:=x.number * Tide.C (Tide.cut (Tide.anglesAt ls x.sum b) Tide.UNIT)
def gS(ls:List Line)(b:Int)(x:Part):Int:=x.number * Tide.S (Tide.cut (Tide.anglesAt ls x.sum b) Tide.UNIT)
def Br(ls:List Line)(ss:List Part)(b:Int):Int:=sumInt (ss.map (gS ls b))
def fS(ls:List Line)(b:Int)(n:Bytes):Int×Int:=match Tide.waveOf ls n with
 | some (.wave _ _ _ _ fs ss)=>(Tide.plainFactor ls fs b,Br ls ss b)
 | _=>(1,0)
def K8(ls:List Line)(b:Int):Line->Int×Int
 | .wave n p s q fs ss=>(Tide.factor ls (.wave n p s q fs ss) b,Br ls ss b)
 | .sum n p s=>(Tide.factor ls (.sum n p s) b,(mC (fun n=>(0,(fS ls b n).2)) s).2)
 | .angle _ _ _ _=>(0,0)
theorem Rn(ls:List Line)(w:Line)(b:Int)(h:w.isAngle=false):Tide.shift ls w b=60 * (K8 ls b w).2:=by
 cases w with
 | angle=>cases h
 | wave n p s q fs ss=>rfl
 | sum n p s=>
  show sumInt (s.map _)=60 * sumInt (s.map _)
  induction s with
  | nil=>rfl
  | cons x r ih=>
   show _ + sumInt (r.map _)=60 * (_ + sumInt (r.map _))
   rw [Int.mul_add,<-ih rfl]
   congr 1
   unfold fS
   dsimp only
   cases hw:Tide.waveOf ls x.name with
   | none=>simp
   | some y=>
    cases y with
    | angle=>simp
    | sum=>simp
    | wave n p s q fs ss=>
     show x.times * (60 * Br ls ss b)=60 * (x.times * Br ls ss b)
     rw [<-Int.mul_assoc,Int.mul_comm x.times,Int.mul_assoc]
theorem Nj(ls:List Line)(w:Line)(b:Int)(h:w.isAngle=false):(K8 ls b w).1=Tide.factor ls w b:=by
 cases w with
 | angle=>cases h
 | wave=>rfl
 | sum=>rfl
def cnt(s:List Term):Nat:=(s.map fun (x:Term)=>x.count).foldr (fun (a b:Nat)=>a + b) 0
def prodF(f:Bytes->Int)(s:List Term):Int:=(s.map fun (x:Term)=>f x.name ^ x.count).foldr (fun (a b:Int)=>a * b) 1
theorem O7(a b:List Term):cnt (a++b)=cnt a + cnt b:=by
 induction a with
 | nil=>show cnt b=0 + cnt b;lia
 | cons x r ih=>show x.count + cnt (r++b)=(x.count + cnt r) + cnt b;rw [ih];lia
theorem QH(f:Bytes->Int)(a b:List Term):prodF f (a++b)=prodF f a * prodF f b:=by
 induction a with
 | nil=>show prodF f b=1 * prodF f b;rw [Int.one_mul]
 | cons x r ih=>show f x.name ^ x.count * prodF f (r++b)=(f x.name ^ x.count * prodF f r) * prodF f b;rw [ih,Int.mul_assoc]
theorem Uq(x:Term):cnt [x]=x.count:=by show x.count + 0=_;lia
theorem QW(f:Bytes->Int)(x:Term):prodF f [x]=f x.name ^ x.count:=by show _ * 1=_;rw [Int.mul_one]
theorem GQ(ls:List Line)(n:Bytes)(p:Nat)(s:List Term)(b:Int):Tide.factor ls (.sum n p s) b=Tide.nearest (1073741824 * prodF (fun n=>(fS ls b n).1) s) (2 ^ (30 * cnt s)):=by
 show Tide.nearest (2 ^ 30 * (s.map _).foldr _ 1) _=_
 refine congrArg (fun z:List Int=>Tide.nearest (2 ^ 30 * z.foldr (fun (a b:Int)=>a * b) 1) (2 ^ (30 * cnt s))) (a₂:=s.map fun (x:Term)=>(fS ls b x.name).1 ^ x.count) ?_
 ·refine List.map_congr_left fun x _=>?_
  unfold fS
  cases hw:Tide.waveOf ls x.name with
  | none=>show 1=(1:Int) ^ x.count;rw [Int.one_pow]
  | some y=>
   cases y with
   | angle=>show 1=(1:Int) ^ x.count;rw [Int.one_pow]
   | sum=>show 1=(1:Int) ^ x.count;rw [Int.one_pow]
   | wave=>rfl
theorem Bt.pow{a:Nat}{i:Int}(h:Bt a i)(ha:0 < a): ∀k:Nat,Bt (a * k + 1) (i ^ k)
 | 0=>by rw [Int.pow_zero];unfold Bt;rw [Nat.mul_zero];decide
 | k + 1=>by
  rw [Int.pow_succ]
  have h1:=(Bt.pow h ha k).mul h
  exact h1.mono (by rw [Nat.mul_succ];lia)
theorem BH{a:Nat}{f:Bytes->Int}(ha:0 < a): ∀ {s:List Term},(∀x ∈ s,Bt a (f x.name))->Bt (a * cnt s + s.length + 1) (prodF f s)
 | [],_=>by unfold prodF Bt;exact YV (by decide:(1:Int).natAbs < 2 ^ 1) (Zu (by decide) (by lia))
 | x::r,h=>by
  have h1:=(h x YN).pow ha x.count
  have h2:=BH ha (s:=r) fun y hy=>h y (YK _ hy)
  refine (h1.mul h2).mono ?_
  rw [show cnt (x::r)=x.count + cnt r from rfl,Nat.mul_add,YU]
  lia
theorem Pp{a:Nat}{n:Int}{d:Nat}(h:Bt a n)(hd:0 < d):Bt (a + 2) (Tide.nearest n d):=by
 unfold Tide.nearest Bt at *
 have e:(2:Nat) ^ (a + 2)=4 * 2 ^ a:=by rw [Nat.pow_add];lia
 rw [e]
 have hp:0 < 2 ^ a:=Nat.pow_pos (by decide)
 have h1:(2 * n + (d:Int)) / (2 * (d:Int))<=n.natAbs + 1:=by
  refine Int.ediv_le_of_le_mul (by lia) ?_
  have:1 * (2 * n)<=(n.natAbs:Int) * (2 * (d:Int)):=by
   have h2:(1:Int)<=(d:Int):=by lia
   have h3:(2 * (n.natAbs:Int)) * 1<=(2 * (n.natAbs:Int)) * (d:Int):=Int.mul_le_mul_of_nonneg_left h2 (by lia)
   have h4:(n.natAbs:Int) * (2 * (d:Int))=(2 * (n.natAbs:Int)) * (d:Int):=by rw [<-Int.mul_assoc,Int.mul_comm (n.natAbs:Int) 2]
   rw [h4]
   lia
  rw [Int.add_mul]
  lia
 have h2: -((n.natAbs:Int) + 1)<=(2 * n + (d:Int)) / (2 * (d:Int)):=by
  refine Int.le_ediv_of_mul_le (by lia) ?_
  have h2:(1:Int)<=(d:Int):=by lia
  have h3:(2 * (n.natAbs:Int)) * 1<=(2 * (n.natAbs:Int)) * (d:Int):=Int.mul_le_mul_of_nonneg_left h2 (by lia)
  have h4: -((n.natAbs:Int) + 1) * (2 * (d:Int))= -((2 * (n.natAbs:Int)) * (d:Int)) - 2 * (d:Int):=by
   rw [Int.neg_mul,Int.add_mul,<-Int.mul_assoc,Int.mul_comm (n.natAbs:Int) 2,Int.one_mul]
   lia
  rw [h4]
  lia
 lia
theorem KO{x:Int}(h:x.natAbs < 10 ^ 15):Bt 50 x:=YV h (by decide)
theorem Xi{ls:List Line}{b:Int}{x:Part}(h:x.number.natAbs < 10 ^ 15):Bt 154 (gF ls b x):=(KO h).mul (SQ _)
theorem W6{ls:List Line}{b:Int}{x:Part}(h:x.number.natAbs < 10 ^ 15):Bt 154 (gS ls b x):=(KO h).mul (WR _)
theorem Pj{ls:List Line}{b:Int}{fs:List Part}(h:fs.length<=8/\ ∀p ∈ fs,p.number.natAbs < 10 ^ 15/\TB p.sum):Bt 157 (sumInt (fs.map (gF ls b))):=JZ (b:=154) (fun y hy=>by
 obtain ⟨x,hx,rfl⟩:=Zf.mp hy
 exact Xi (h.2 x hx).1) (by rw [YI];exact h.1)
theorem OE{ls:List Line}{b:Int}{fs:List Part}(h:fs.length<=8/\ ∀p ∈ fs,p.number.natAbs < 10 ^ 15/\TB p.sum):Bt 157 (Br ls fs b):=JZ (b:=154) (fun y hy=>by
 obtain ⟨x,hx,rfl⟩:=Zf.mp hy
 exact W6 (h.2 x hx).1) (by rw [YI];exact h.1)
theorem GW(ls:List Line)(fs:List Part)(b:Int):Tide.plainFactor ls fs b=Tide.nearest (1073741824 * 1000000000000 + sumInt (fs.map (gF ls b))) 1000000000000:=rfl
theorem y9{ls:List Line}{b:Int}{fs:List Part}(h:fs.length<=8/\ ∀p ∈ fs,p.number.natAbs < 10 ^ 15/\TB p.sum):Bt 160 (Tide.plainFactor ls fs b):=by
 rw [GW]
 have h0:Bt 100 (1073741824 * 1000000000000):=by unfold Bt;decide
 exact Pp (h0.add (Pj h) (c:=158) (by decide) (by decide)) (by decide)
theorem OT{ls:List Line}(h: ∀l ∈ ls,LB l)(b:Int)(n:Bytes):Bt 160 (fS ls b n).1/\Bt 160 (fS ls b n).2:=by
 unfold fS Tide.waveOf
 cases hf:ls.find? (fun (x:Line)=>x.isWave && x.name == n) with
 | none=>exact ⟨by show (1:Int).natAbs < 2 ^ 160;decide,kq⟩
 | some y=>
  have hb:=h y (Zn hf)
  cases y with
  | angle=>exact ⟨by show (1:Int).natAbs < 2 ^ 160;decide,kq⟩
  | wave m p s q fs ss=>exact ⟨y9 hb.fs,(OE hb.ss).mono (by decide)⟩
  | sum=>exact ⟨by show (1:Int).natAbs < 2 ^ 160;decide,kq⟩
theorem V4{ls:List Line}(d:Dn ls){y:Line}(hy:y ∈ ls)(ha:y.isWave=true)(b:Int):fS ls b y.name=K8 ls b y:=by
 unfold fS
 rw [Gn d hy ha]
 cases y with
 | angle=>cases ha
 | wave=>rfl
 | sum=>cases ha
theorem Mx{n:Bytes}{p:Nat}{s:List Term}(h:PJ.qW (.sum n p s)=false):cnt s<=12:=by
 have h:decide (12 < cnt s)=false:=h
 have:=of_decide_eq_false h
 lia
theorem RZ{ls:List Line}(h: ∀l ∈ ls,LB l){l:Line}(hl:LB l)(hm:PJ.qW l=false)(b:Int):Bt 2200 (K8 ls b l).1/\Bt 200 (K8 ls b l).2:=by
 cases l with
 | angle=>exact ⟨kq,kq⟩
 | wave n p s q fs ss=>exact ⟨(y9 (ls:=ls) (b:=b) hl.fs).mono (by decide),(OE (ls:=ls) (b:=b) hl.ss).mono (by decide)⟩
 | sum n p s=>
  refine ⟨?_,(Ek (b:=160) (f:=fun n=>(0,(fS ls b n).2)) (s:=s) hl.ts fun x _=>⟨kq,(OT h b x.name).2⟩).2.mono (by decide)⟩
  show Bt 2200 (Tide.factor ls (.sum n p s) b)
  rw [GQ]
  have h0:Bt 31 1073741824:=by unfold Bt;decide
  have h1:=BH (a:=160) (f:=fun n=>(fS ls b n).1) (by decide) (s:=s) fun x _=>(OT h b x.name).1
  have h2:cnt s<=12:=Mx hm
  have h3:s.length<=8:=hl.ts.len
  exact (Pp (h0.mul h1) (Nat.pow_pos (by decide))).mono (by lia)
def xW(A:Ad)(F:Addr->Prop)(H:Hp)(v:V)(m:Int×Int):Prop:= ∃a dx,v= .ref a/\F a/\H a=some (wO A dx (.int m.1) (.int m.2))
theorem xW.keep{A:Ad}{F:Addr->Prop}{H H':Hp}{v:V}{m:Int×Int}(h:xW A F H v m)(k:Kf F H H'):xW A F H' v m:=let ⟨a,dx,e,f,g⟩:=h;⟨a,dx,e,f,k _ _ f g⟩
theorem xW.wide{A:Ad}{F G:Addr->Prop}{H:Hp}{v:V}{m:Int×Int}(h:xW A F H v m)(w: ∀b o,F b->H b=some o->G b):xW A G H v m:=let ⟨a,dx,e,f,g⟩:=h;⟨a,dx,e,w _ _ f g,g⟩
theorem MQ.keep{A:Ad}{F:Addr->Prop}{H H':Hp}{ds:List (Key×V)}{s:List Term}{f:Bytes->Int×Int}(h:MQ (rg A F H) ds s f)(k:Kf F H H'):MQ (rg A F H') ds s f:=fun x hx=>let ⟨v,e,m⟩:=h x hx;⟨v,e,m.keep k⟩
theorem By:ay ["terms","motions","minute"] ["terms","motions","minute"] (aq p7):=jv rfl (by decide +kernel)
def BR(K:W.Frag)(A:Ad):Sp:=fun vs H Q _=> ∃(F G:Addr->Prop) (ta ma:Addr) (s:List Term) (ds:List (Key×V)) (f:Bytes->Int×Int) (t:Int),vs= [.ref ta,.ref ma,.int t]/\kE F H ta s/\H ma=some (.dK ds)/\MQ (rg A G H) ds s f/\(∀x ∈ s,Bt 100 (f x.name).1/\Bt 100 (f x.name).2)/\Bt 60 t/\ ∀H',aN H H'->Q (.int ((Tide.cut ((mC f s).1 + (mC f s).2 * t) Tide.UNIT:Nat):Int)) H'
theorem tZ(T:Txt K mg A):bw P w K mg base (lA) 4 A.eN A.gn ["terms","motions","minute"] (BR K A):=by
 refine oq T.gx By fun vs H Q E h Rz kz=>?_
 obtain ⟨F,G,ta,ma,s',ds,f,t,rfl,ht,hm,hs,hb,bt,q⟩:=h
 refine kz rfl fun cdv Ar outer s hr=>?_
 refine ⟨_,(aj (aD (aB (R6 T) (hr.mono (by decide)) rfl T.OH T.IX.kp T.U5 .nil aL (aa (bM (aB (sU T) (hr.mono (by decide)) rfl T.kD T.fq.kp T.tU .nil aL (aa (pv 0) (aa (pv 1) ai))) T.iE T.yY (xr T) (hr.mono (by decide)) T.yL .nil aL (aa (pv 2) ai)) (aa (aC rfl T.rD) ai))))),?_⟩
 have b1:=Ek ht.tb hb
 have b2:Bt 180 ((mC f s').2 * t):=(b1.2.mul bt).mono (by decide)
 have b3:Bt 60 21600000000000000:=by unfold Bt;decide
 have e:=Lx ((mC f s').1 + (mC f s').2 * t) Tide.UNIT (by decide)
 refine ⟨_,rfl,_,rfl,F,G,ta,ma,s',ds,f,rfl,ht,hm,hs,hb,fun a dx H1 s1 ha ea=>⟨a,_,_,rfl,ea,rfl,_,rfl,a,dx,_,_,t,rfl,ea,b1.2.mono (by decide),bt.mono (by decide),_,_,rfl,by show (0:Int) < 21600000000000000;decide,(b1.1.add b2 (c:=190) (by decide) (by decide)).mono (by decide),b3.mono (by decide),?_⟩⟩
 have:=q H1 s1
 rw [<-e] at this
 exact this
theorem dI:ay ["line","motions","minute","factor","part","shift"] ["line","motions","minute"] (aq pU):=jv rfl (by decide +kernel)
def A2(K:W.Frag)(A:Ad):Sp:=fun vs H Q _=> ∃(F G:Addr->Prop) (v:V) (l:Line) (ma:Addr) (ds:List (Key×V)) (ls:List Line) (t:Int),vs= [v,.ref ma,.int t]/\iV A F H v l/\l.isWave=true/\H ma=some (.dK ds)/\(∀p ∈ bJ l++dW l,MQ (rg A G H) ds p.sum (fA ls))/\(∀l ∈ ls,LB l)/\Bt 60 t/\ ∀a dx H',aN H H'->H a=none->H' a=some (wO A dx (.int (K8 ls t l).1) (.int (K8 ls t l).2))->Q (.ref a) H'
theorem BQ(T:Txt K mg A):bw P w K mg base (lA) 7 A.eS A.gz ["line","motions","minute"] (A2 K A):=by
 refine oq T.jl dI fun vs H Q E h Rz kz=>?_
 obtain ⟨F,G,v,l,ma,ds,ls,t,rfl,hl,hw,hm,hsay,hlb,bt,q⟩:=h
 refine kz rfl fun cdv Ar outer s hr=>?_
 refine ⟨_,(ah (aF (i:=3) dI.nd rfl (Or.inl rfl) (aR cg (aC rfl T.iD) (aC rfl T.rL)))
   (ah (jw PassesOwn.never rfl (dH (au (pv 0) rfl)) (b9 (i:=4) dI.nd rfl (Or.inl rfl)) (aj (vN (i:=3) dI.nd rfl (Or.inl rfl) BB (aR cg (gj p_ (pv 4) aH (fun _ _=>rfl)) (aB (CA T) (hr.mono (by decide)) rfl T.ze T.r8.kp T.E6 .nil aL (aa (aB (tZ T) (hr.mono (by decide)) rfl T.lX T.gx.kp T.vm .nil aL (aa (gj p_ (pv 4) aH (fun _ _=>rfl)) (aa (pv 1) (aa (pv 2) ai)))) ai))))))
   (ah (aF (i:=5) dI.nd rfl (Or.inl rfl) aH)
   (ah (jw PassesOwn.never rfl (dH (au (pv 0) rfl)) (b9 (i:=4) dI.nd rfl (Or.inl rfl)) (aj (vN (i:=5) dI.nd rfl (Or.inl rfl) BB (aR cg (gj p_ (pv 4) aH (fun _ _=>rfl)) (aB (Ur T) (hr.mono (by decide)) rfl T.N3 T.Gy.kp T.VP .nil aL (aa (aB (tZ T) (hr.mono (by decide)) rfl T.lX T.gx.kp T.vm .nil aL (aa (gj p_ (pv 4) aH (fun _ _=>rfl)) (aa (pv 1) (aa (pv 2) ai)))) ai))))))
   (aj (aD (jz T.zD (yw T) (hr.mono (by decide)) rfl T.Bj T.zZ .nil aL (aa (aB (AY T) (hr.mono (by decide)) rfl T.vD T.pJ.kp T.CO .nil aL (aa (pv 3) (aa (aC rfl T.rL) ai))) (aa (pv 5) ai))))))))),?_⟩
 have lb:=hl.lb
 obtain ⟨c,dxc,ta,fa,sa,rfl,fC,ec,ht,hf,hs,_⟩:=id hl
 obtain ⟨_,vf,ef,pf,lf⟩:=id hf
 obtain ⟨_,vss,es,ps,lss⟩:=id hs
 have lvf:vf.length=(bJ l).length:=Paired.length pf
 have lvs:vss.length=(dW l).length:=Paired.length ps
 have hfb: ∀n,Bt 100 (fA ls n).1/\Bt 100 (fA ls n).2:=fun n=>⟨(K_ hlb n).1.mono (by decide),(K_ hlb n).2.mono (by decide)⟩
 refine ⟨_,_,rfl,rfl,⟨?_,?_⟩,_,rfl,_,_,_,_,_,rfl,ec,T.aE,T.dO,rfl,fa,rfl,⟨vf,b_.of ef⟩,gO (K:=K) (a:=fa) (xs:=vf) (fun i σ H'=> ∃v:Option V,σ= [some (.ref c),some (.ref ma),some (.int t),some (.int (1073741824 * 1000000000000 + sumInt (((bJ l).take i).map (gF ls t)))),v,none]/\aN H H') ⟨none,rfl,fun _ _ h=>h⟩ (fun i σ H' _ ⟨_,_,z⟩=>b_.of (z _ _ ef)) ?_ ?_⟩
 ·have:Bt 60 1073741824:=by unfold Bt;decide
  exact this.bg
 ·have:Bt 60 1000000000000:=by unfold Bt;decide
  exact this.bg
 ·rintro i x σ H1 hx ⟨v,rfl,s1⟩
  obtain ⟨p,hp,hxp⟩:=Paired.at2 pf hx
  obtain ⟨pa,pt,rfl,_,ep,htp,hnb⟩:=id hxp
  have hpm:p ∈ bJ l:=Y7 hp
  have et:(bJ l).take (i + 1)=(bJ l).take i++ [p]:=by rw [YX,hp];rfl
  refine ⟨_,rfl,_,rfl,pa,_,_,_,rfl,rfl,jn.of (s1 _ _ ep),at_of (j:=0) (v:= .int p.number) rfl rfl,_,rfl,pa,_,_,_,rfl,rfl,jn.of (s1 _ _ ep),at_of (j:=1) (v:= .ref pt) rfl rfl,_,rfl,_,rfl,F,G,pt,ma,p.sum,ds,fA ls,t,rfl,htp.keep (Kf.of s1),s1 _ _ hm,(hsay p (Zi _ hpm)).keep (Kf.of s1),fun x _=>hfb x.name,bt,fun H2 s2=>⟨_,rfl,Om _ _,fun H3 s3=>⟨_,_,rfl,rfl,⟨(KO hnb).bg,(SQ _).bg⟩,_,_,rfl,rfl,some (.ref pa),?_,s1.trans (s2.trans s3)⟩⟩⟩
  rw [et,YT,tG]
  show _= [some (V.ref c),some (V.ref ma),some (V.int t),some (V.int (1073741824 * 1000000000000 + (sumInt (((bJ l).take i).map (gF ls t)) + sumInt [gF ls t p]))),_,none]
  rw [vS,<-Int.add_assoc]
  unfold gF
  rw [Ai]
  rfl
 rintro σ H1 ⟨v1,rfl,s1⟩
 rw [lvf,Y8]
 refine ⟨_,rfl,_,_,_,_,_,rfl,s1 _ _ ec,T.aE,T.gr,rfl,sa,rfl,⟨vss,b_.of (s1 _ _ es)⟩,gO (K:=K) (a:=sa) (xs:=vss) (fun i σ H'=> ∃v:Option V,σ= [some (.ref c),some (.ref ma),some (.int t),some (.int (1073741824 * 1000000000000 + sumInt ((bJ l).map (gF ls t)))),v,some (.int (sumInt (((dW l).take i).map (gS ls t))))]/\aN H H') ⟨v1,rfl,s1⟩ (fun i σ H' _ ⟨_,_,z⟩=>b_.of (z _ _ es)) ?_ ?_⟩
 ·rintro i x σ H2 hx ⟨v,rfl,s2⟩
  obtain ⟨p,hp,hxp⟩:=Paired.at2 ps hx
  obtain ⟨pa,pt,rfl,_,ep,htp,hnb⟩:=id hxp
  have hpm:p ∈ dW l:=Y7 hp
  have et:(dW l).take (i + 1)=(dW l).take i++ [p]:=by rw [YX,hp];rfl
  refine ⟨_,rfl,_,rfl,pa,_,_,_,rfl,rfl,jn.of (s2 _ _ ep),at_of (j:=0) (v:= .int p.number) rfl rfl,_,rfl,pa,_,_,_,rfl,rfl,jn.of (s2 _ _ ep),at_of (j:=1) (v:= .ref pt) rfl rfl,_,rfl,_,rfl,F,G,pt,ma,p.sum,ds,fA ls,t,rfl,htp.keep (Kf.of s2),s2 _ _ hm,(hsay p (Za _ hpm)).keep (Kf.of s2),fun x _=>hfb x.name,bt,fun H3 s3=>⟨_,rfl,Om _ _,fun H4 s4=>⟨_,_,rfl,rfl,⟨(KO hnb).bg,(WR _).bg⟩,_,_,rfl,rfl,some (.ref pa),?_,s2.trans (s3.trans s4)⟩⟩⟩
  rw [et,YT,tG]
  show _= [some (V.ref c),some (V.ref ma),some (V.int t),some (V.int (1073741824 * 1000000000000 + sumInt ((bJ l).map (gF ls t)))),_,some (V.int (sumInt (((dW l).take i).map (gS ls t)) + sumInt [gS ls t p]))]
  rw [vS]
  unfold gS
  rw [Ai]
  rfl
 rintro σ H2 ⟨v2,rfl,s2⟩
 rw [lvs,Y8]
 have h0:Bt 100 (1073741824 * 1000000000000):=by unfold Bt;decide
 have h1:=h0.add (Pj (ls:=ls) (b:=t) lb.fs) (c:=158) (by decide) (by decide)
 have h2:Bt 60 1000000000000:=by unfold Bt;decide
 refine ⟨_,rfl,_,_,rfl,by show (0:Int) < 1000000000000;decide,h1.mono (by decide),h2.mono (by decide),_,rfl,fun x dx hx hdx ndx=>⟨x,dx,_,_,rfl,af,rfl,?_⟩⟩
 rw [b8]
 refine q x dx _ (s2.trans (bS hx hdx)) (s2.free hx) ?_
 rw [af]
 cases l with
 | angle=>cases hw
 | sum=>cases hw
 | wave n p s q fs ss=>rfl
theorem P1(x:Term):(if x.times < 0 then -x.times else x.times)=(x.count:Int):=by
 unfold Tide.Term.times
 cases x.minus
 ·simp;lia
 ·simp;lia
theorem RY{s:List Term}{i:Nat}{x:Term}(h:s[i]?=some x):cnt (s.take i) + x.count<=cnt s:=by
 obtain ⟨hi,e⟩:=YL.mp h
 have h2:s=s.take i++(x::s.drop (i + 1)):=by
  conv=>lhs;rw [<-Zr i s,Zo hi,e]
 have h3:=congrArg cnt h2
 rw [O7] at h3
 have h4:cnt (x::s.drop (i + 1))=x.count + cnt (s.drop (i + 1)):=rfl
 lia
theorem bW:ay ["terms","steadies","product","divisor","shift","term","steady","time"] ["terms","steadies"] (aq qR):=jv rfl (by decide +kernel)
def C3(K:W.Frag)(A:Ad):Sp:=fun vs H Q _=> ∃(F G:Addr->Prop) (ta sa:Addr) (s:List Term) (ds:List (Key×V)) (g:Bytes->Int×Int),vs= [.ref ta,.ref sa]/\kE F H ta s/\H sa=some (.dK ds)/\MQ (xW A G H) ds s g/\(∀x ∈ s,Bt 160 (g x.name).1/\Bt 200 (g x.name).2)/\cnt s<=12/\ ∀a dx H',aN H H'->H a=none->H' a=some (wO A dx (.int (Tide.nearest (1073741824 * prodF (fun n=>(g n).1) s) (2 ^ (30 * cnt s)))) (.int (mC g s).2))->Q (.ref a) H'
theorem CF(T:Txt K mg A):bw P w K mg base (lA) 3 A.fP A.ic ["terms","steadies"] (C3 K A):=by
 refine oq T.jM bW fun vs H Q E h Rz kz=>?_
 obtain ⟨F,G,ta,sa,s',ds,g,rfl,ht,hsa,hsay,hb,hcn,q⟩:=h
 refine kz rfl fun cdv Ar outer s hr=>?_
 have hu:=tW hr
 refine ⟨_,(ah (aF (i:=2) bW.nd rfl (Or.inl rfl) (aC rfl T.iD))
   (ah (aF (i:=3) bW.nd rfl (Or.inl rfl) aH)
   (ah (aF (i:=4) bW.nd rfl (Or.inl rfl) aH)
   (ah (jw PassesOwn.never rfl (dH (pv 0)) (b9 (i:=5) bW.nd rfl (Or.inl rfl)) (ah (aF (i:=6) bW.nd rfl (Or.inl rfl) (ug hu (pv 1) (gj p_ (pv 5) aH (fun _ _=>rfl)) (fun _ _=>rfl)))
   (ah (vN (i:=4) bW.nd rfl (Or.inl rfl) BB (aR cg (gj p_ (pv 5) aH (fun _ _=>rfl)) (au (pv 6) rfl)))
   (aj (jw PassesOwn.never rfl (P6 rfl T.zx (aa (bN yh (by rfl) T.Gr (by decide +kernel) (aa (gj p_ (pv 5) aH (fun _ _=>rfl)) ai)) ai)) (b9 (i:=7) bW.nd rfl (Or.inl rfl)) (ah (vN (i:=2) bW.nd rfl (Or.inl rfl) Lo (au (pv 6) rfl))
   (aj (vN (i:=3) bW.nd rfl (Or.inl rfl) Lo (aC rfl T.iD)))))))))
   (aj (aD (jz T.zD (yw T) (hr.mono (by decide)) rfl T.Bj T.zZ .nil aL (aa (aB (AY T) (hr.mono (by decide)) rfl T.vD T.pJ.kp T.CO .nil aL (aa (pv 2) (aa (pv 3) ai))) (aa (pv 4) ai))))))))),?_⟩
 obtain ⟨_,vs,el,pl,l8⟩:=id ht
 have hc:=ht.tb
 have lvs:vs.length=s'.length:=Paired.length pl
 have b30:Bt 31 1073741824:=by unfold Bt;decide
 refine ⟨_,rfl,ta,rfl,⟨vs,b_.of el⟩,gO (K:=K) (a:=ta) (xs:=vs) (fun i σ H'=> ∃v1 v2 v3:Option V,σ= [some (.ref ta),some (.ref sa),some (.int (1073741824 * prodF (fun n=>(g n).1) (s'.take i))),some (.int ((2 ^ (30 * cnt (s'.take i)):Nat):Int)),some (.int (mC g (s'.take i)).2),v1,v2,v3]/\H'=H) ⟨none,none,none,rfl,rfl⟩ (fun i σ H' _ ⟨_,_,_,_,z⟩=>by rw [z];exact b_.of el) ?_ ?_⟩
 ·rintro i x σ H1 hx ⟨v1,v2,v3,rfl,rfl⟩
  obtain ⟨z,hz,hxz⟩:=Paired.at2 pl hx
  obtain ⟨b,rfl,_,eb,_⟩:=hxz
  have hzm:z ∈ s':=Y7 hz
  obtain ⟨v,hv,m,dxm,rfl,_,em⟩:=hsay z hzm
  have hg:iY H1 sa (.str (st z.name)) (some (.ref m)):=hv▸iY.k (k:=Sum.inr (st z.name)) hsa
  have hct:=RY hz
  have et:s'.take (i + 1)=s'.take i++ [z]:=by rw [YX,hz];rfl
  have hz15:=hc.cnt z hzm
  have hl8:(s'.take i).length<=8:=by rw [Zd];lia
  have bp:=BH (a:=160) (f:=fun n=>(g n).1) (by decide) (s:=s'.take i) fun x hx=>(hb x (Zg hx)).1
  refine ⟨_,rfl,_,rfl,b,_,_,_,rfl,rfl,jn.of eb,at_of (j:=1) (v:= .str (st z.name)) rfl rfl,sa,_,rfl,hg,_,rfl,_,rfl,b,_,_,_,rfl,rfl,jn.of eb,at_of (j:=0) (v:= .int z.times) rfl rfl,_,rfl,_,_,_,_,_,rfl,em,T.qt,T.kN,rfl,_,_,rfl,rfl,⟨(x8 hz15).bg,(hb z hzm).2.bg⟩,_,_,rfl,rfl,_,rfl,b,_,_,_,rfl,rfl,jn.of eb,at_of (j:=0) (v:= .int z.times) rfl rfl,z.times,rfl,?_⟩
  rw [P1]
  refine ⟨(z.count:Int),rfl,by lia,by lia,CP (lo:=0) (n:=z.count) (fun j σ H'=> ∃v3:Option V,σ= [some (.ref ta),some (.ref sa),some (.int (1073741824 * prodF (fun n=>(g n).1) (s'.take i) * (g z.name).1 ^ j)),some (.int ((2 ^ (30 * (cnt (s'.take i) + j)):Nat):Int)),some (.int (mC g (s'.take (i + 1))).2),some (.ref b),some (.ref m),v3]/\H'=H1) ⟨v3,?_,rfl⟩ ?_ ?_⟩
  ·rw [Int.pow_zero,Int.mul_one,Nat.add_zero,et]
   unfold mC
   rw [YT,YT,tG,tG]
   show _= [_,_,_,_,some (V.int (sumInt ((s'.take i).map fun (x:Term)=>x.times * (g x.name).2) + sumInt [z.times * (g z.name).2])),_,_,_]
   rw [vS]
   rfl
  ·rintro j σ H2 hj ⟨v3,rfl,rfl⟩
   have bj:=(hb z hzm).1.pow (by decide) j
   have bprod:Bg (1073741824 * prodF (fun n=>(g n).1) (s'.take i) * (g z.name).1 ^ j):=((b30.mul bp).mul bj).mono (by lia)
   have bdiv:Bg ((2 ^ (30 * (cnt (s'.take i) + j)):Nat):Int):=by
    show (((2 ^ (30 * (cnt (s'.take i) + j)):Nat):Int)).natAbs < 2 ^ 4000
    rw [Zq]
    exact Nat.pow_lt_pow_right (by decide) (by lia)
   refine ⟨_,rfl,_,rfl,_,_,_,_,_,rfl,em,T.qt,T.jH,rfl,_,_,rfl,rfl,⟨bprod,(hb z hzm).1.bg⟩,_,rfl,_,_,rfl,rfl,⟨bdiv,b30.bg⟩,some (.int (0 + (j:Int))),?_,rfl⟩
   rw [Int.pow_succ,<-Int.mul_assoc]
   have e2:((2 ^ (30 * (cnt (s'.take i) + (j + 1))):Nat):Int)=((2 ^ (30 * (cnt (s'.take i) + j)):Nat):Int) * 1073741824:=by
    rw [show 30 * (cnt (s'.take i) + (j + 1))=30 * (cnt (s'.take i) + j) + 30 by lia,Nat.pow_add,Int.natCast_mul]
    rfl
   rw [e2]
   rfl
  ·rintro σ H2 ⟨v3,rfl,rfl⟩
   refine ⟨some (.ref b),some (.ref m),v3,?_,rfl⟩
   rw [et,QH,QW,O7,Uq,Int.mul_assoc]
 ·rintro σ H1 ⟨v1,v2,v3,rfl,rfl⟩
  rw [lvs,Y8]
  have bp:=BH (a:=160) (f:=fun n=>(g n).1) (by decide) (s:=s') fun x hx=>(hb x hx).1
  have hp:0 < 2 ^ (30 * cnt s'):=Nat.pow_pos (by decide)
  refine ⟨_,rfl,_,rfl,_,_,rfl,by lia,(b30.mul bp).mono (by lia),?_,_,rfl,fun x dx hx hdx ndx=>⟨x,dx,_,_,rfl,af,rfl,?_⟩⟩
  ·show (((2 ^ (30 * cnt s'):Nat):Int)).natAbs < 2 ^ 3900
   rw [Zq]
   exact Nat.pow_lt_pow_right (by decide) (by lia)
  rw [b8]
  refine q x dx _ (bS hx hdx) hx ?_
  rw [af]
  rfl
theorem yd{α:Type}(p:α->Bool): ∀ {ls:List α} {i:Nat} {l:α},(ls.filter p)[i]?=some l-> ∃j:Nat,ls[j]?=some l/\p l=true/\(ls.filter p).take i=(ls.take j).filter p
 | [],i,l,h=>by simp at h
 | x::r,i,l,h=>by
  by_cases hp:p x=true
  ·rw [List.filter_cons_of_pos hp] at h ⊢
   cases i with
   | zero=>
    cases h
    exact ⟨0,rfl,hp,rfl⟩
   | succ i=>
    obtain ⟨j,h1,h2,h3⟩:=yd p (ls:=r) (i:=i) h
    refine ⟨j + 1,h1,h2,?_⟩
    rw [List.take_succ_cons,List.take_succ_cons,List.filter_cons_of_pos hp,h3]
  ·rw [List.filter_cons_of_neg hp] at h ⊢
   obtain ⟨j,h1,h2,h3⟩:=yd p (ls:=r) (i:=i) h
   refine ⟨j + 1,h1,h2,?_⟩
   rw [List.take_succ_cons,List.filter_cons_of_neg hp,h3]
structure N6(ls:List Line)(p:Line->Bool):Prop where
 na: ∀l ∈ ls,p l=true->l.isAngle=false
 un: ∀l ∈ ls,p l=true->l.isWave=false-> ∀x ∈ eY l,∀y ∈ ls,y.name=x.name->p y=true
def V0(A:Ad)(F:Addr->Prop)(H:Hp)(a:Addr)(all:List Line)(t:Int)(ls:List Line):Prop:=F a/\ ∃ds,H a=some (.dK ds)/\ds.length<=ls.length/\(∀l ∈ ls,∃v,dg ds (.inr (st l.name))=some v/\xW A F H v (K8 all t l))
theorem Qt{ls:List Line}(d:Dn ls)(p:Line->Bool):Dn (ls.filter p):=by
 unfold Dn at *
 exact d.sublist (List.Sublist.map _ List.filter_sublist)
theorem s_:ay ["lines","motions","minute","steadies","line"] ["lines","motions","minute"] (aq uI):=jv rfl (by decide +kernel)
def FJ(K:W.Frag)(A:Ad):Sp:=fun vs H Q _=> ∃(F G:Addr->Prop) (la ma:Addr) (ls:List Line) (p:Line->Bool) (t:Int),vs= [.ref la,.ref ma,.int t]/\iy A F H la (ls.filter p)/\Good ls/\N6 ls p/\tO A G H ma ls ls/\Bt 60 t/\ ∀sa H',aN H H'->V0 A (fun c=>H c=none) H' sa ls t (ls.filter p)->Q (.ref sa) H'
theorem EN(T:Txt K mg A):bw P w K mg base (lA) 8 A.iK A.jT ["lines","motions","minute"] (FJ K A):=by
 refine oq T.mJ s_ fun vs H Q E h Rz kz=>?_
 obtain ⟨F,G,la,ma,ls,p,t,rfl,hl,hg,hen,hmo,bt,q⟩:=h
 refine kz rfl fun cdv Ar outer s hr=>?_
 have hu:=tW hr
 refine ⟨_,(ah (aF (i:=3) s_.nd rfl (Or.inl rfl) oE)
   (ah (jw PassesOwn.never rfl (dH (pv 0)) (b9 (i:=4) s_.nd rfl (Or.inl rfl)) (aj (b6 (aO fQ (au (pv 4) rfl) (aC rfl T.C7) (aT _)) (aj (m9 hu (pv 3) (au (pv 4) rfl) (aB (BQ T) (hr.mono (by decide)) rfl T.pI T.jl.kp T.CS .nil aL (aa (pv 4) (aa (pv 1) (aa (pv 2) ai)))) rfl)) (aj (m9 hu (pv 3) (au (pv 4) rfl) (aB (CF T) (hr.mono (by decide)) rfl T.qQ T.jM.kp T.DN .nil aL (aa (au (pv 4) rfl) (aa (pv 3) ai))) rfl)))))
   (aj (aD (pv 3))))),?_⟩
 obtain ⟨fla,vs,el,pl⟩:=id hl
 have lvs:vs.length=(ls.filter p).length:=Paired.length pl
 obtain ⟨_,mds,em,hml,hms⟩:=id hmo
 intro sa hsa
 have s1:aN H (upd H sa (.dK [])):=aN.new hsa
 have e1:upd H sa (.dK []) sa=some (.dK []):=af
 generalize upd H sa (.dK [])=H1 at s1 e1
 have hdn:=hg.dn
 have hdf:=Qt hdn p
 have hlen:(ls.filter p).length<=30000:=Y4 (Zk _ _) hg.len
 refine ⟨_,rfl,la,rfl,⟨vs,b_.of (s1 _ _ el)⟩,gO (K:=K) (a:=la) (xs:=vs) (fun i σ H'=> ∃v:Option V,σ= [some (.ref la),some (.ref ma),some (.int t),some (.ref sa),v]/\aN H H'/\ ∃ds,H' sa=some (.dK ds)/\ds.length<=i/\(∀l ∈ (ls.filter p).take i,∃v,dg ds (.inr (st l.name))=some v/\xW A (fun c=>H c=none/\c≠sa) H' v (K8 ls t l))) ⟨none,rfl,s1,[],e1,YW _,fun l hl=>by rw [List.take_zero] at hl;cases hl⟩ (fun i σ H' _ ⟨_,_,z,_⟩=>b_.of (z _ _ el)) ?_ ?_⟩
 ·rintro i x σ H2 hx ⟨v,rfl,s2,ds,e2,hdl,hds⟩
  obtain ⟨l,hli,hxl⟩:=Paired.at2 pl hx
  have et:(ls.filter p).take (i + 1)=(ls.filter p).take i++ [l]:=by rw [YX,hli];rfl
  obtain ⟨j,hlj,hpl,etj⟩:=yd p hli
  have hlm:l ∈ ls:=Y7 hlj
  have hil:i < (ls.filter p).length:=(YL.mp hli).1
  have hlf:PJ.bO (ls.take j) l=none:=nH (before:= []) hg.ff hlj
  have hlb:=hg.lb l hlm
  have hxl2:=hxl.keep (Kf.of s2)
  obtain ⟨c,dxc,ta,fa,sc,rfl,fC,ec,ht,_⟩:=id hxl2
  have put: ∀(H3:Hp),aN H2 H3-> ∀(m dm:Addr),H m=none->m≠sa->H3 m=some (wO A dm (.int (K8 ls t l).1) (.int (K8 ls t l).2))->
    ∃a H4,V.ref sa= .ref a/\zQ H3 a (.str (st l.name)) (.ref m) H4/\aN H H4/\ ∃ds',H4 sa=some (.dK ds')/\ds'.length<=i + 1/\(∀l ∈ (ls.filter p).take (i + 1),∃v,dg ds' (.inr (st l.name))=some v/\xW A (fun c=>H c=none/\c≠sa) H4 v (K8 ls t l)):=by
   intro H3 s3 m dm hm1 hm2 hm3
   refine ⟨sa,_,rfl,zQ.k (k:=Sum.inr (st l.name)) (s3 _ _ e2) (by rw [sizeLine_eq];lia),fun b o hb=>?_,_,af,?_,?_⟩
   ·rw [ak (ao hb hsa)]
    exact s3 b o (s2 b o hb)
   ·exact Y4 (vC _ _ _) (by lia)
   ·have k4:Kf (fun c=>H c=none/\c≠sa) H3 (upd H3 sa (.dK (putK ds (.inr (st l.name)) (.ref m)))):=Kf.put (by simp)
    rw [et]
    intro y hy
    rcases Zb.mp hy with hy | hy
    ·obtain ⟨v,hv,mv⟩:=hds y hy
     refine ⟨v,?_,(mv.keep (Kf.of s3)).keep k4⟩
     rw [oR,if_neg,hv]
     intro z
     have z2:=sD (Sum.inr.inj z)
     obtain ⟨j,hj⟩:=Zs.mp hy
     have hj2:(ls.filter p)[j]?=some y:=by
      rw [List.getElem?_take] at hj
      split at hj
      ·exact hj
      ·cases hj
     have:=Og hdf hli hj2 (by first | exact z2 | exact z2.symm)
     have hjl:=(YL.mp hj).1
     rw [Zd] at hjl
     lia
    ·rw [YO.mp hy]
     exact ⟨.ref m,by rw [oR,if_pos rfl],m,dm,rfl,⟨hm1,hm2⟩,by rw [ak hm2];exact hm3⟩
  have hA:l.isAngle=false:=hen.na l hlm hpl
  refine ⟨_,rfl,_,_,_,_,_,rfl,ec,T.aE,T.cu,rfl,rfl,_,rfl,?_⟩
  rw [mZ,qN,IJ]
  cases hW:l.isWave with
  | true=>
   refine cC ⟨_,rfl,_,rfl,_,rfl,F,G,_,l,ma,mds,ls,t,rfl,hxl2,hW,s2 _ _ em,fun pp hpp x hx=>?_,hg.lb,bt,fun a dx H3 s3 ha ea=>?_⟩
   ·have hu:x ∈ l.uses:=by
     cases l with
     | angle=>cases hW
     | sum=>cases hW
     | wave n q s k fs ss=>exact Za _ (List.mem_flatMap.mpr ⟨pp,hpp,hx⟩)
    obtain ⟨y,hy,ya,yn⟩:=sP hlf x hu
    rw [hW] at ya
    obtain ⟨v,hv,mv⟩:=hms y (Zg hy)
    have:=Rg hdn (Zg hy) ya
    rw [<-yn,this]
    exact ⟨v,hv,mv.keep (Kf.of s2)⟩
   ·have nm:a≠sa:=fun z=>by rw [z,e2] at ha;cases ha
    obtain ⟨a',H4,z1,z2,z3,z4⟩:=put H3 s3 a dx (s2.free ha) nm ea
    exact ⟨_,rfl,_,rfl,_,_,_,_,_,rfl,s3 _ _ ec,T.aE,T.bU,rfl,a',H4,z1,z2,_,rfl,z3,z4⟩
  | false=>
   refine cM ⟨_,rfl,_,_,_,_,_,rfl,ec,T.aE,T.cB,rfl,_,rfl,F,(fun c=>H c=none/\c≠sa),ta,sa,eY l,ds,fS ls t,rfl,ht,e2,fun x hx=>?_,fun x hx=>⟨(OT hg.lb t x.name).1,(OT hg.lb t x.name).2.mono (by decide)⟩,?_,fun a dx H3 s3 ha ea=>?_⟩
   ·have hu:x ∈ l.uses:=by
     cases l with
     | angle=>cases hA
     | sum=>exact hx
     | wave=>cases hW
    obtain ⟨y,hy,ya,yn⟩:=sP hlf x hu
    rw [hW] at ya
    have hyl:=Zg hy
    have hpy:=hen.un l hlm hpl hW x hx y hyl yn
    obtain ⟨v,hv,mv⟩:=hds y (by rw [etj];exact Zp.mpr ⟨hy,hpy⟩)
    have:=V4 hdn hyl ya t
    rw [<-yn,this]
    exact ⟨v,hv,mv⟩
   ·cases l with
    | angle=>cases hA
    | wave=>cases hW
    | sum n q s=>exact Mx (Az hlf)
   ·have nm:a≠sa:=fun z=>by rw [z,e2] at ha;cases ha
    have ea2:H3 a=some (wO A dx (.int (K8 ls t l).1) (.int (K8 ls t l).2)):=by
     rw [ea]
     cases l with
     | angle=>cases hA
     | wave=>cases hW
     | sum n q s=>
      show _=some (wO A dx (.int (Tide.factor ls (.sum n q s) t)) (.int (mC (fun n=>(0,(fS ls t n).2)) s).2))
      rw [GQ]
      rfl
    obtain ⟨a',H4,z1,z2,z3,z4⟩:=put H3 s3 a dx (s2.free ha) nm ea2
    exact ⟨_,rfl,_,rfl,_,_,_,_,_,rfl,s3 _ _ ec,T.aE,T.bU,rfl,a',H4,z1,z2,_,rfl,z3,z4⟩
 ·rintro σ H2 ⟨v,rfl,s2,ds,e2,hdl,hds⟩
  rw [lvs,Y8] at hds
  refine ⟨_,rfl,q sa H2 s2 ⟨hsa,ds,e2,by lia,fun l hl=>?_⟩⟩
  obtain ⟨v,hv,mv⟩:=hds l hl
  exact ⟨v,hv,mv.wide fun _ _ h _=>h.1⟩
def x9(A:Ad)(F:Addr->Prop)(H:Hp)(v:V)(z:Int×(Int×Int)):Prop:= ∃a dx b dy,v= .ref a/\F a/\H a=some (RG A dx (.int z.1) (.ref b))/\F b/\H b=some (mY A dy (.int z.2.1) (.int z.2.2))
theorem x9.keep{A:Ad}{F:Addr->Prop}{H H':Hp}{v:V}{m:Int×(Int×Int)}(h:x9 A F H v m)(k:Kf F H H'):x9 A F H' v m:=let ⟨a,dx,b,dy,e,f,g,i,j⟩:=h;⟨a,dx,b,dy,e,f,k _ _ f g,i,k _ _ i j⟩
theorem x9.wide{A:Ad}{F G:Addr->Prop}{H:Hp}{v:V}{m:Int×(Int×Int)}(h:x9 A F H v m)(w: ∀b o,F b->H b=some o->G b):x9 A G H v m:=let ⟨a,dx,b,dy,e,f,g,i,j⟩:=h;⟨a,dx,b,dy,e,w _ _ f g,g,w _ _ i j,j⟩
def Qs(x:Share)(m d:Int×Int):Int×(Int×Int):=((x.size:Int) * d.1,((m.1 - (x.lag:Int) * 60000000000) * 1073741824 + d.2 * 60,m.2 * 1073741824))
theorem yP:ay ["wave","motion","steady","lag","start"] ["wave","motion","steady"] (aq As):=jv rfl (by decide +kernel)
def LZ(K:W.Frag)(A:Ad):Sp:=fun vs H Q _=> ∃(F G K':Addr->Prop) (v mv sv:V) (x:Share) (m d:Int×Int),vs= [v,mv,sv]/\l6 A F H v x/\rg A G H mv m/\xW A K' H sv d/\Bt 100 m.1/\Bt 100 m.2/\Bt 2200 d.1/\Bt 200 d.2/\ ∀v' H',aN H H'->x9 A (fun c=>H c=none) H' v' (Qs x m d)->Q v' H'
theorem MA(T:Txt K mg A):bw P w K mg base (lA) 3 A.nj A.pV ["wave","motion","steady"] (LZ K A):=by
 refine oq T.tw yP fun vs H Q E h Rz kz=>?_
 obtain ⟨F,G,K',v,mv,sv,x,m,d,rfl,⟨a,dxa,rfl,fa,ea,h1,h2,h3⟩,⟨b,dxb,rfl,fb,eb⟩,⟨c,dxc,rfl,fc,ec⟩,bm1,bm2,bd1,bd2,q⟩:=h
 refine kz rfl fun cdv Ar outer s hr=>?_
 refine ⟨_,(ah (aF (i:=3) yP.nd rfl (Or.inl rfl) (aR o9 (aR cg (au (pv 0) rfl) (aC rfl T.oN)) (aC rfl T.pP)))
   (ah (aF (i:=4) yP.nd rfl (Or.inl rfl) (aR kU (aR cg (aR uz (au (pv 1) rfl) (pv 3)) (aC rfl T.iD)) (aR cg (au (pv 2) rfl) (aC rfl T.oO))))
   (aj (aD (jz T.GF (Hq T) (hr.mono (by decide)) rfl T.Kz T.J5 .nil aL (aa (aR cg (au (pv 0) rfl) (au (pv 2) rfl)) (aa (jz T.rR (oW T) (hr.mono (by decide)) rfl T.vv T.qe .nil aL (aa (pv 4) (aa (aR cg (au (pv 1) rfl) (aC rfl T.iD)) ai))) ai))))))),?_⟩
 have b1:Bt 60 60000000000000:=by unfold Bt;decide
 have b2:Bt 60 1000:=by unfold Bt;decide
 have b3:Bt 60 1073741824:=by unfold Bt;decide
 have b4:Bt 60 60:=by unfold Bt;decide
 have bl:Bt 20 (x.lag:Int):=by unfold Bt;omega
 have bs:Bt 20 (x.size:Int):=by unfold Bt;omega
 have bl2:Bt 60 ((x.lag:Int) * 60000000000):=by unfold Bt;omega
 have el:(x.lag:Int) * 60000000000000 / 1000=(x.lag:Int) * 60000000000:=by omega
 refine ⟨_,rfl,_,_,_,_,_,rfl,ea,T.aZ,T.gG,rfl,_,_,rfl,rfl,⟨bl.bg,b1.bg⟩,?_⟩
 dsimp only [tC]
 refine OY ⟨by decide,b2.bg⟩ (congrArg V.int el) ?_
 refine ⟨_,rfl,_,_,_,_,_,rfl,eb,T.iE,T.gE,rfl,_,rfl,_,_,rfl,rfl,_,_,rfl,rfl,⟨(bm1.sub bl2 (c:=101) (by decide) (by decide)).bg,b3.bg⟩,_,rfl,_,_,_,_,_,rfl,ec,T.qt,T.kN,rfl,_,_,rfl,rfl,⟨bd2.bg,b4.bg⟩,_,_,rfl,rfl,_,rfl,_,_,_,_,_,rfl,ea,T.aZ,T.gZ,rfl,_,rfl,_,_,_,_,_,rfl,ec,T.qt,T.jH,rfl,_,_,rfl,rfl,⟨bs.bg,bd1.bg⟩,_,rfl,_,rfl,_,_,_,_,_,rfl,eb,T.iE,T.iN,rfl,_,_,rfl,rfl,⟨bm2.bg,b3.bg⟩,fun y dy hy hdy ndy=>⟨y,dy,_,_,rfl,af,rfl,?_⟩⟩
 rw [b8]
 have s1:=bS (o:=mY A dy (.int (Qs x m d).2.1) (.int (Qs x m d).2.2)) hy hdy
 have ey:upd (upd H dy (.own y)) y (mY A dy (.int (Qs x m d).2.1) (.int (Qs x m d).2.2)) y=some (mY A dy (.int (Qs x m d).2.1) (.int (Qs x m d).2.2)):=af
 refine fun z dz hz hdz ndz=>⟨z,dz,_,_,rfl,af,rfl,?_⟩
 rw [b8]
 exact q (.ref z) _ (s1.trans (bS hz hdz)) ⟨z,dz,y,dy,rfl,s1.free hz,af,hy,bS hz hdz _ _ ey⟩
def Nd(nd:List (Key×V))(n:Bytes):Prop:=(dg nd (.inr (st n))).isSome=true
theorem wu(nd:List (Key×V))(k n:Bytes)(v:V):Nd (putK nd (.inr (st k)) v) n ↔ n=k\/Nd nd n:=by
 unfold Nd
 rw [oR]
 by_cases h:n=k
 ·rw [if_pos (by rw [h])]
  simp [h]
 ·rw [if_neg (fun z=>h (sD (Sum.inr.inj z)))]
  simp [h]
theorem OR{ls:List Line}(d:Dn ls){y z:Line}(hy:y ∈ ls)(hz:z ∈ ls)(h:y.name=z.name):y=z:=by
 obtain ⟨i,hi⟩:=Zs.mp hy
 obtain ⟨j,hj⟩:=Zs.mp hz
 have:=Og d hi hj h
 subst this
 rw [hi] at hj
 exact Option.some.inj hj
theorem S9 {K:W.Frag} {a:Addr} {xs:List V} {tl te:TE} {tt:TT} {j:Nat} {σ:L2.St} {H1:Hp} {Q:VK} (p:Nat->Bool) (htl: ∀P:VK,P (.ref a) H1->tl σ H1 P) (hz:xs.length<=sizeLine) (hq:b_ K H1 a xs)
  (htt: ∀(i:Nat) (x:V),xs[i]?=some x-> ∀H',aN H1 H'-> ∀P:Bool->Hp->Prop,P (p i) H'->tt ((wipe σ [j]).set j (some x)) H' P)
  (hstep: ∀(i:Nat) (x:V),xs[i]?=some x-> ∀H',aN H1 H'-> ∀P:VK,P x H'->te ((wipe σ [j]).set j (some x)) H' P)
  (hd: ∀D,H1 D=none->Q (.ref D) (upd H1 D (.lst ((xs.zipIdx.filter fun z=>p z.2).map (·.1))))):Tq (ES K tl) (mR j) tt te [j] σ H1 Q:=htl _ ⟨a,rfl,⟨xs,hq⟩,fun D hD=>by
 refine Ei (K:=K) (a:=a) (xs:=xs) (fun i H'=>H'=upd H1 D (.lst (((xs.zipIdx.take i).filter fun z=>p z.2).map (·.1)))) rfl (fun i H' _ z=>?_) (fun i x H' hx z=>?_) (fun H' z=>?_)
 ·rw [z]
  exact (aN.new hD).seq hq
 ·subst z
  refine ⟨xT σ j _,htt i x hx _ (aN.new hD) _ ?_⟩
  have hx2:xs.zipIdx[i]?=some (x,i):=by rw [List.getElem?_zipIdx,hx];simp
  rw [DA (fun z:V×Nat=>p z.2) hx2]
  cases hp:p i with
  | true=>
   refine cC (hstep i x hx _ (aN.new hD) _ ⟨_,af,?_,?_⟩)
   ·rw [YI]
    have h1:=Zk (fun z:V×Nat=>p z.2) (xs.zipIdx.take i)
    rw [Zd,List.length_zipIdx] at h1
    have:=(YL.mp hx).1
    lia
   ·rw [b8]
    simp
  | false=>
   refine cM ?_
   simp
 ·rw [z,<-List.length_zipIdx (l:=xs) (i:=0),Y8]
  exact hd D hD⟩
theorem Paired.WH{α β:Type}{R:α->β->Prop}{xs:List α}{ls:List β}(h:Paired R xs ls)(f:β->Bool): ∀(k:Nat) (p:Nat->Bool),(∀i l,ls[i]?=some l->p (k + i)=f l)->Paired R (((xs.zipIdx k).filter fun z=>p z.2).map (·.1)) (ls.filter f):=by
 induction h with
 | nil=>intro k p _;exact .nil
 | cons h0 t ih=>
  rename_i a l as bs
  intro k p hp
  have h1:p k=f l:=hp 0 l rfl
  have h2:=ih (k + 1) p fun i y hy=>by
   have:=hp (i + 1) y hy
   rw [<-this]
   congr 1
   lia
  rw [List.zipIdx_cons]
  cases hf:f l with
  | true=>
   rw [List.filter_cons_of_pos (by show p k=true;rw [h1,hf]),List.filter_cons_of_pos hf]
   exact .cons h0 h2
  | false=>
   rw [List.filter_cons_of_neg (by show ¬p k=true;rw [h1,hf];decide),List.filter_cons_of_neg (by rw [hf];decide)]
   exact h2
theorem jB:ay ["waves","lines","needed","wave","line","term"] ["waves","lines"] (aq yb):=jv rfl (by decide +kernel)
def Ko(K:W.Frag)(A:Ad):Sp:=fun vs H Q _=> ∃(F G:Addr->Prop) (wa la:Addr) (ws:List V) (shares:List Share) (ls:List Line),vs= [.ref wa,.ref la]/\H wa=some (.lst ws)/\Paired (l6 A F H) ws shares/\shares.length<=30000/\iy A G H la ls/\Good ls/\(∀s ∈ shares,∃y ∈ ls,y.isAngle=false/\y.name=s.name)/\ ∀p D H',aN H H'->N6 ls p->(∀s ∈ shares,∀l ∈ ls,l.name=s.name->p l=true)->H D=none->iy A (fun c=>G c\/H c=none) H' D (ls.filter p)->Q (.ref D) H'
theorem Kl(T:Txt K mg A):bw P w K mg base (lA) 1 A.lJ A.nN ["waves","lines"] (Ko K A):=by
 refine oq T.qu jB fun vs H Q E h Rz kz=>?_
 obtain ⟨F,G,wa,la,ws,shares,ls,rfl,ew,pw,hwl,hl,hg,hnm,q⟩:=h
 refine kz rfl fun cdv Ar outer s hr=>?_
 have hu:=tW hr
 refine ⟨_,(ah (aF (i:=2) jB.nd rfl (Or.inr rfl) oE)
   (ah (jw PassesOwn.never rfl (dH (pv 0)) (b9 (i:=3) jB.nd rfl (Or.inl rfl)) (aj (m9 hu (pv 2) (au (pv 3) rfl) Ji rfl)))
   (ah (jw PassesOwn.never rfl (dH (pv 1)) (b9 (i:=4) jB.nd rfl (Or.inl rfl)) (aj (b6 (PW.pt (Ff (aO fQ (au (pv 4) rfl) (aC rfl T.Jd) (aT _)) (Bf (wH (Jw hu (au (pv 4) rfl) (pv 2)))))) (aj (jw PassesOwn.never rfl (dH (au (pv 4) rfl)) (b9 (i:=5) jB.nd rfl (Or.inl rfl)) (aj (m9 hu (pv 2) (gj p_ (pv 5) aH (fun _ _=>rfl)) Ji rfl)))) aU)))
   (aj (aD (B3 rfl jB.nd (dH (pv 1)) (own:= [("line",4)]) (mU rfl) (fun _ _ _ _ _=>b9 (i:=4) jB.nd rfl (Or.inl rfl)) (fun _ _ _ _ _=>(O2 (wH (Jw hu (ue (K:=K) rfl (pv 4) rfl) (pv 2))))) (fun _ _ _ _ _=>(pv 4)))))))),?_⟩
 obtain ⟨gla,vs,el,pl⟩:=id hl
 have lvs:vs.length=ls.length:=Paired.length pl
 have lws:ws.length=shares.length:=Paired.length pw
 have hdn:=hg.dn
 have hlen:=hg.len
 intro na hna
 have s1:aN H (upd H na (.dK [])):=aN.new hna
 have e1:upd H na (.dK []) na=some (.dK []):=af
 generalize upd H na (.dK [])=H1 at s1 e1
 refine ⟨_,rfl,wa,rfl,⟨ws,b_.of (s1 _ _ ew)⟩,gO (K:=K) (a:=wa) (xs:=ws) (fun i σ H'=> ∃v:Option V,σ= [some (.ref wa),some (.ref la),some (.ref na),v,none,none]/\aN H H'/\ ∃nd,H' na=some (.dK nd)/\nd.length<=i/\(∀n,Nd nd n-> ∃s ∈ shares,s.name=n)/\(∀s ∈ shares.take i,Nd nd s.name)) ⟨none,rfl,s1,[],e1,YW _,(fun n h=>by cases h),fun l hl=>by rw [List.take_zero] at hl;cases hl⟩ (fun i σ H' _ ⟨_,_,z,_⟩=>b_.of (z _ _ ew)) ?_ ?_⟩
 ·rintro i x σ H2 hx ⟨v,rfl,s2,nd,e2,hdl,hn1,hn2⟩
  obtain ⟨s,hsi,hxs⟩:=Paired.at2 pw hx
  have et:shares.take (i + 1)=shares.take i++ [s]:=by rw [YX,hsi];rfl
  obtain ⟨sa,dxs,rfl,fsa,es,_⟩:=hxs
  have hil:=(YL.mp hsi).1
  refine ⟨_,rfl,_,rfl,_,_,_,_,_,rfl,s2 _ _ es,T.aZ,T.bV,rfl,na,_,rfl,zQ.k (k:=Sum.inr (st s.name)) e2 (by rw [sizeLine_eq];lia),some (.ref sa),rfl,?_,_,af,Y4 (vC _ _ _) (by lia),fun n hn=>?_,fun y hy=>?_⟩
  ·intro b o hb
   rw [ak (ao hb hna)]
   exact s2 b o hb
  ·rcases (wu _ _ _ _).mp hn with h | h
   ·exact ⟨s,Y7 hsi,h.symm⟩
   ·exact hn1 n h
  ·rw [et] at hy
   rcases Zb.mp hy with h | h
   ·exact (wu _ _ _ _).mpr (.inr (hn2 y h))
   ·rw [YO.mp h]
    exact (wu _ _ _ _).mpr (.inl rfl)
 rintro σ H2 ⟨v3,rfl,s2,nd0,e2,hdl0,hn1,hn2⟩
 rw [lws,Y8] at hn2
 rw [lws] at hdl0
 refine ⟨_,rfl,la,rfl,⟨vs,b_.of (s2 _ _ el)⟩,gO (K:=K) (a:=la) (xs:=vs) (fun i σ H'=> ∃v5 v6:Option V,σ= [some (.ref wa),some (.ref la),some (.ref na),v3,v5,v6]/\aN H H'/\ ∃nd,H' na=some (.dK nd)/\nd.length<=30000 + 8 * i/\(∀s ∈ shares,Nd nd s.name)/\(∀n,Nd nd n-> ∃y ∈ ls,y.isAngle=false/\y.name=n)/\(∀l ∈ ls.take i,l.isWave=false->Nd nd l.name-> ∀x ∈ eY l,Nd nd x.name)) ⟨none,none,rfl,s2,nd0,e2,by lia,hn2,(fun n h=>?_),(fun l hl=>by rw [List.take_zero] at hl;cases hl)⟩ (fun i σ H' _ ⟨_,_,_,z,_⟩=>b_.of (z _ _ el)) ?_ ?_⟩
 ·obtain ⟨s,hs,rfl⟩:=hn1 n h
  exact hnm s hs
 ·rintro i x σ H3 hx ⟨v5,v6,rfl,s3,nd,e3,hdl,hm1,hm2,hm3⟩
  obtain ⟨l,hli,hxl⟩:=Paired.at2 pl hx
  have et:ls.take (i + 1)=ls.take i++ [l]:=by rw [YX,hli];rfl
  have hlm:l ∈ ls:=Y7 hli
  have hil:=(YL.mp hli).1
  have hlf:PJ.bO (ls.take i) l=none:=nH (before:= []) hg.ff hli
  obtain ⟨c,dxc,ta,fa,sc,rfl,fC,ec,ht,_⟩:=hxl.keep (Kf.of s3)
  have skip:(l.isWave=false->l.isAngle=false-> ¬Nd nd l.name)-> ∃v5 v6:Option V,[some (V.ref wa),some (V.ref la),some (V.ref na),v3,some (V.ref c),v6]= [some (.ref wa),some (.ref la),some (.ref na),v3,v5,v6]/\aN H H3/\ ∃nd,H3 na=some (.dK nd)/\nd.length<=30000 + 8 * (i + 1)/\(∀s ∈ shares,Nd nd s.name)/\(∀n,Nd nd n-> ∃y ∈ ls,y.isAngle=false/\y.name=n)/\(∀l ∈ ls.take (i + 1),l.isWave=false->Nd nd l.name-> ∀x ∈ eY l,Nd nd x.name):=fun h=>by
   refine ⟨_,v6,rfl,s3,nd,e3,by lia,hm1,hm2,fun l' hl' hw' hn' x hx=>?_⟩
   rw [et] at hl'
   rcases Zb.mp hl' with h' | h'
   ·exact hm3 l' h' hw' hn' x hx
   ·rw [YO.mp h'] at hw' hn' hx
    cases hA:l.isAngle with
    | false=>exact absurd hn' (h hw' hA)
    | true=>
     cases l with
     | angle=>cases hx
     | wave=>cases hA
     | sum=>cases hA
  refine ⟨_,rfl,_,_,_,_,_,rfl,ec,T.aE,T.cu,rfl,rfl,_,rfl,?_⟩
  rw [Kg,qN,Sl]
  cases hS:(!l.isAngle && !l.isWave) with
  | false=>
   refine cM (cM ?_)
   obtain ⟨w5,w6,z1,z2⟩:=skip fun h1 h2=>by rw [h1,h2] at hS;cases hS
   exact ⟨some (.ref c),v6,rfl,z2⟩
  | true=>
   have hA:l.isAngle=false:=by cases h:l.isAngle with | false=>rfl | true=>rw [h] at hS;cases hS
   have hW:l.isWave=false:=by cases h:l.isWave with | false=>rfl | true=>rw [h,Bool.not_true,Bool.and_false] at hS;cases hS
   refine cC ⟨_,rfl,_,_,_,_,_,rfl,ec,T.aE,T.bU,rfl,_,rfl,na,_,rfl,iY.k (k:=Sum.inr (st l.name)) e3,_,rfl,?_⟩
   cases hN:(dg nd (.inr (st l.name))).isSome with
   | false=>
    refine cM ?_
    obtain ⟨w5,w6,z1,z2⟩:=skip fun _ _ h=>by unfold Nd at h;rw [hN] at h;cases h
    exact ⟨some (.ref c),v6,rfl,z2⟩
   | true=>
    obtain ⟨_,vt,et2,pt,l8⟩:=id ht
    have lvt:vt.length=(eY l).length:=Paired.length pt
    refine cC ⟨_,rfl,_,_,_,_,_,rfl,ec,T.aE,T.cB,rfl,ta,rfl,⟨vt,b_.of et2⟩,gO (K:=K) (a:=ta) (xs:=vt) (fun j σ H'=> ∃v6:Option V,σ= [some (.ref wa),some (.ref la),some (.ref na),v3,some (.ref c),v6]/\aN H H'/\Kf (· ≠na) H3 H'/\ ∃nd,H' na=some (.dK nd)/\nd.length<=30000 + 8 * i + j/\(∀s ∈ shares,Nd nd s.name)/\(∀n,Nd nd n-> ∃y ∈ ls,y.isAngle=false/\y.name=n)/\(∀l ∈ ls.take i,l.isWave=false->Nd nd l.name-> ∀x ∈ eY l,Nd nd x.name)/\(∀x ∈ (eY l).take j,Nd nd x.name)) ⟨v6,rfl,s3,Kf.refl,nd,e3,by lia,hm1,hm2,hm3,fun l hl=>by rw [List.take_zero] at hl;cases hl⟩ (fun j σ H' _ ⟨_,_,_,z,_⟩=>b_.of (z _ _ ?_ et2)) ?_ ?_⟩
    ·intro z
     rw [z,e3] at et2
     cases et2
    ·rintro j x σ H4 hx ⟨v6,rfl,s4,k4,nd,e4,hd4,a1,a2,a3,a4⟩
     obtain ⟨z,hz,hxz⟩:=Paired.at2 pt hx
     obtain ⟨b,rfl,_,eb,_⟩:=hxz
     have hzm:z ∈ eY l:=Y7 hz
     have hjl:=(YL.mp hz).1
     have nb:b≠na:=fun w=>by rw [w,e3] at eb;cases eb
     have eb4:=k4 _ _ nb eb
     have ez:(eY l).take (j + 1)=(eY l).take j++ [z]:=by rw [YX,hz];rfl
     have hu:z ∈ l.uses:=by
      cases l with
      | angle=>cases hA
      | wave=>cases hW
      | sum=>exact hzm
     obtain ⟨y,hy,ya,yn⟩:=sP hlf z hu
     rw [hW] at ya
     have hyl:=Zg hy
     refine ⟨_,rfl,_,rfl,b,_,_,_,rfl,rfl,jn.of eb4,at_of (j:=1) (v:= .str (st z.name)) rfl rfl,na,_,rfl,zQ.k (k:=Sum.inr (st z.name)) e4 (by rw [sizeLine_eq];lia),some (.ref b),rfl,?_,k4.trans (Kf.put (by simp)),_,af,Y4 (vC _ _ _) (by lia),fun s hs=>(wu _ _ _ _).mpr (.inr (a1 s hs)),fun n hn=>?_,fun l' hl' hw' hn' x hx=>?_,fun x hx=>?_⟩
     ·intro b o hb
      rw [ak (ao hb hna)]
      exact s4 b o hb
     ·rcases (wu _ _ _ _).mp hn with h | h
      ·exact ⟨y,hyl,by cases y with | angle=>cases ya | wave=>rfl | sum=>rfl,by rw [yn,h]⟩
      ·exact a2 n h
     ·rcases (wu _ _ _ _).mp hn' with h | h
      ·have:=OR hdn (Zg hl') hyl (by rw [h,yn])
       rw [this] at hw'
       have ya':y.isWave=true:=ya
       rw [ya'] at hw'
       cases hw'
      ·exact (wu _ _ _ _).mpr (.inr (a3 l' hl' hw' h x hx))
     ·rw [ez] at hx
      rcases Zb.mp hx with h | h
      ·exact (wu _ _ _ _).mpr (.inr (a4 x h))
      ·rw [YO.mp h]
       exact (wu _ _ _ _).mpr (.inl rfl)
    ·rintro σ H4 ⟨v6,rfl,s4,k4,nd,e4,hd4,a1,a2,a3,a4⟩
     rw [lvt,Y8] at a4
     refine ⟨_,v6,rfl,s4,nd,e4,by lia,a1,a2,fun l' hl' hw' hn' x hx=>?_⟩
     rw [et] at hl'
     rcases Zb.mp hl' with h' | h'
     ·exact a3 l' h' hw' hn' x hx
     ·rw [YO.mp h'] at hx
      exact a4 x hx
 rintro σ H3 ⟨v5,v6,rfl,s3,nd,e3,hdl,hm1,hm2,hm3⟩
 rw [lvs,Y8] at hm3
 obtain ⟨pf,hpf⟩: ∃pf:Nat->Bool,∀i l,ls[i]?=some l->pf i=(dg nd (.inr (st l.name))).isSome:=⟨fun i=>match ls[i]? with | some l=>(dg nd (.inr (st l.name))).isSome | none=>false,fun i l h=>by show (match ls[i]? with | some l=>(dg nd (.inr (st l.name))).isSome | none=>false)=_;rw [h]⟩
 dsimp only [BI]
 refine S9 (a:=la) (xs:=vs) pf (fun P p=>⟨_,rfl,p⟩) (by rw [lvs,sizeLine_eq];lia) (b_.of (s3 _ _ el)) (fun i x hx H' k' P p=>?_) (fun i x hx H' k' P p=>⟨_,rfl,p⟩) (fun D hD=>?_)
 ·obtain ⟨l,hli,hxl⟩:=Paired.at2 pl hx
  obtain ⟨c,dxc,ta,fa,sc,rfl,fC,ec,ht,_⟩:=hxl.keep (Kf.of (s3.trans k'))
  rw [hpf i l hli] at p
  exact ⟨_,rfl,_,_,_,_,_,rfl,ec,T.aE,T.bU,rfl,_,rfl,na,_,rfl,iY.k (k:=Sum.inr (st l.name)) (k' _ _ e3),_,rfl,p⟩
 ·refine q (fun l=>(dg nd (.inr (st l.name))).isSome) D _ (s3.trans (aN.new hD)) ⟨fun l hl hp=>?_,fun l hl hp hw x hx y hy e=>?_⟩ (fun s hs l hl e=>?_) (s3.free hD) ⟨.inr (s3.free hD),_,af,?_⟩
  ·obtain ⟨y,hy,ya,yn⟩:=hm2 l.name hp
   rw [OR hdn hl hy yn.symm]
   exact ya
  ·have:=hm3 l hl hw hp x hx
   rw [<-e] at this
   exact this
  ·have:=hm1 s hs
   rw [<-e] at this
   exact this
  ·refine Paired.WH (R:=iV A (fun c=>G c\/H c=none) _) (Paired.ja (fun _ _ h=>iV.wide (iV.keep h (Kf.of (s3.trans (aN.new hD)))) fun b _ hc _=>Or.inl hc) pl) (fun l=>(dg nd (.inr (st l.name))).isSome) 0 pf fun i l hl=>by rw [Nat.zero_add];exact hpf i l hl
def Nm(ls:List Line)(p:Tide.Port):Prop:= ∀s ∈ p.shares,∃y ∈ ls,y.isAngle=false/\y.name=s.name
theorem A0{ls:List Line}(d:Dn ls){y:Line}(hy:y ∈ ls)(ha:y.isAngle=false){n:Bytes}(hn:y.name=n):Tide.lineOf ls n=y:=by
 unfold Tide.lineOf Tide.waves
 rw [List.find?_filter,<-hn]
 have h:(ls.find? fun x=>(!x.isAngle) && x.name == y.name)=some y:=Ge (p:=fun x=>!x.isAngle) d hy (by rw [ha];rfl)
 have e:(fun a=>decide ((!Line.isAngle a)=true/\(a.name == y.name)=true))=fun x:Line=>(!x.isAngle) && x.name == y.name:=by
  funext x
  cases x.isAngle <;> cases (x.name == y.name) <;> rfl
 first
  | rw [e,h];rfl
  | rw [h];rfl
def vJ(ls:List Line)(p:Tide.Port)(b:Int):List (Int×(Int×Int)):=p.shares.map fun (x:Share)=>Qs x (Kd ls (Tide.lineOf ls x.name)) (K8 ls b (Tide.lineOf ls x.name))
def Va(t:Int)(z:Int×(Int×Int)):Int:=z.1 * Tide.C (Tide.cut (z.2.1 + z.2.2 * t) (Tide.UNIT * 2 ^ 30))
theorem QJ(t:Int):t / 32768 * 32768 + 16384=Tide.steady t:=by
 unfold Tide.steady
 show _=32768 * (t / 32768) + 32768 / 2
 lia
theorem SJ{ls:List Line}{x:Share}{t:Int}(h:(Tide.lineOf ls x.name).isAngle=false):Va t (Qs x (Kd ls (Tide.lineOf ls x.name)) (K8 ls (Tide.steady t) (Tide.lineOf ls x.name)))=Tide.adds ls x t:=by
 unfold Va Qs Tide.adds Tide.angleAt
 dsimp only
 rw [Nj _ _ _ h,UP _ _ _ h,Rn _ _ _ h]
 congr 3
 have e1:((x.lag * Tide.MILLI * 2 ^ 30:Nat):Int)=(x.lag:Int) * 60000000000 * 1073741824:=by
  have:Tide.MILLI=60000000000:=by decide
  rw [this]
  lia
 have e2:(2:Int) ^ 30=1073741824:=by decide
 rw [e1,e2,Int.mul_right_comm]
 lia
theorem N4{ls:List Line}{p:Tide.Port}(hn:Nm ls p)(d:Dn ls)(t:Int):Tide.height ls p t=Tide.nearest (p.level * 1152921504606846976 + sumInt ((vJ ls p (Tide.steady t)).map (Va t))) 1152921504606846976:=by
 unfold Tide.height vJ
 rw [List.map_map]
 have:(p.shares.map fun (x:Share)=>Tide.adds ls x t)=p.shares.map (Va t ∘ fun (x:Share)=>Qs x (Kd ls (Tide.lineOf ls x.name)) (K8 ls (Tide.steady t) (Tide.lineOf ls x.name))):=by
  refine List.map_congr_left fun x hx=>?_
  obtain ⟨y,hy,ya,yn⟩:=hn x hx
  have h:=A0 d hy ya yn
  exact (SJ (by rw [h];exact ya)).symm
 rw [this]
 rfl
theorem QN(n:Int):n * 4294967296 / (21600000000000000 * 1073741824) % 4294967296=((Tide.cut n (Tide.UNIT * 2 ^ 30):Nat):Int):=Lx n (Tide.UNIT * 2 ^ 30) (by decide)
theorem RC{ls:List Line}(g:Good ls){p:Tide.Port}(hn:Nm ls p){b:Int}{z:Int×(Int×Int)}(hs: ∀s ∈ p.shares,s.size < 10 ^ 6/\s.lag < 10 ^ 6)(hz:z ∈ vJ ls p b):Bt 2300 z.1/\Bt 300 z.2.1/\Bt 200 z.2.2:=by
 unfold vJ at hz
 obtain ⟨x,hx,rfl⟩:=Zf.mp hz
 obtain ⟨y,hy,ya,yn⟩:=hn x hx
 rw [A0 g.dn hy ya yn]
 obtain ⟨h1,h2⟩:=hs x hx
 have bm:=RN g.lb (g.lb y hy)
 obtain ⟨i,hi⟩:=Zs.mp hy
 have bd:=RZ g.lb (g.lb y hy) (Az (nH (before:= []) g.ff hi)) b
 have bl2:Bt 60 ((x.lag:Int) * 60000000000):=by unfold Bt;omega
 have bs:Bt 20 (x.size:Int):=by unfold Bt;omega
 have b3:Bt 60 1073741824:=by unfold Bt;decide
 have b4:Bt 60 60:=by unfold Bt;decide
 unfold Qs
 dsimp only
 refine ⟨(bs.mul bd.1).mono (by decide),?_,(bm.2.mul b3).mono (by decide)⟩
 have h3:Bt 81 ((Kd ls y).1 - (x.lag:Int) * 60000000000):=bm.1.sub bl2 (by decide) (by decide)
 exact (h3.mul b3).add (bd.2.mul b4) (by decide) (by decide)
theorem SR{b:Nat}{l:List Int}(h: ∀x ∈ l,Bt b x)(hl:l.length<=30000):Bt (b + 15) (sumInt l):=by
 have h1:=Of l h
 have h2:l.length * (2 ^ b - 1)<=30000 * (2 ^ b - 1):=Nat.mul_le_mul_right _ hl
 have h3:0 < 2 ^ b:=Nat.pow_pos (by decide)
 unfold Bt
 rw [Nat.pow_add,show (2:Nat) ^ 15=32768 by decide]
 omega
def Bu(A:Ad)(F:Addr->Prop)(H:Hp)(v:V)(l:List (Int×(Int×Int))):Prop:= ∃la vs,v= .ref la/\F la/\H la=some (.lst vs)/\Paired (x9 A F H) vs l
theorem Bu.keep{A:Ad}{F:Addr->Prop}{H H':Hp}{v:V}{l:List (Int×(Int×Int))}(h:Bu A F H v l)(k:Kf F H H'):Bu A F H' v l:=let ⟨a,vs,e,f,g,q⟩:=h;⟨a,vs,e,f,k _ _ f g,Paired.ja (fun _ _ z=>z.keep k) q⟩
theorem Bu.wide{A:Ad}{F G:Addr->Prop}{H:Hp}{v:V}{l:List (Int×(Int×Int))}(h:Bu A F H v l)(w: ∀b o,F b->H b=some o->G b):Bu A G H v l:=let ⟨a,vs,e,f,g,q⟩:=h;⟨a,vs,e,w _ _ f g,g,Paired.ja (fun _ _ z=>z.wide w) q⟩
structure dB(A:Ad)(F:Addr->Prop)(H:Hp)(a:Addr)(ls:List Line)(p:Tide.Port)(n:Nat)(sa ha:Addr):Prop where
 OW: ¬F sa
 Wx: ¬F ha
 ne:sa≠ha
 fa:F a
 ob: ∃dx pa ma la pr,H a=some (CI A dx (.ref pa) (.ref ma) (.ref la) (.ref sa) (.ref ha))/\iO A F H pa p/\tO A F H ma ls ls/\iy A F H la (ls.filter pr)/\N6 ls pr/\(∀s ∈ p.shares,∀l ∈ ls,l.name=s.name->pr l=true)
 sw: ∃sd,H sa=some (.dK sd)/\sd.length<=n/\ ∀k v,dg sd (.inl k)=some v->Bu A F H v (vJ ls p k)
 ht: ∃hd,H ha=some (.dK hd)/\hd.length<=n/\ ∀k v,dg hd (.inl k)=some v->v= .int (Tide.height ls p k)
theorem dB.keep{A:Ad}{F:Addr->Prop}{H H':Hp}{a:Addr}{ls:List Line}{p:Tide.Port}{n:Nat}{sa ha:Addr}(h:dB A F H a ls p n sa ha)(k:Kf (fun c=>F c\/c=sa\/c=ha) H H'):dB A F H' a ls p n sa ha:=by
 obtain ⟨h1,h2,h3,h4,⟨dx,pa,ma,la,pr,e,po,mo,lo,en,nm⟩,⟨sd,es,ls1,hs⟩,⟨hd,eh,lh,hh⟩⟩:=h
 have kF:Kf F H H':=k.mono fun _ _ f _=> .inl f
 exact ⟨h1,h2,h3,h4,⟨dx,pa,ma,la,pr,kF _ _ h4 e,po.keep kF,mo.keep kF,lo.keep kF,en,nm⟩,⟨sd,k _ _ (.inr (.inl rfl)) es,ls1,fun q v hv=>(hs q v hv).keep kF⟩,⟨hd,k _ _ (.inr (.inr rfl)) eh,lh,hh⟩⟩
theorem dB.wide{A:Ad}{F G:Addr->Prop}{H:Hp}{a:Addr}{ls:List Line}{p:Tide.Port}{n:Nat}{sa ha:Addr}(h:dB A F H a ls p n sa ha)(w: ∀b o,F b->H b=some o->G b)(n1: ¬G sa)(n2: ¬G ha):dB A G H a ls p n sa ha:=by
 obtain ⟨h1,h2,h3,h4,⟨dx,pa,ma,la,pr,e,po,mo,lo,en,nm⟩,⟨sd,es,ls1,hs⟩,⟨hd,eh,lh,hh⟩⟩:=h
 exact ⟨n1,n2,h3,w _ _ h4 e,⟨dx,pa,ma,la,pr,e,po.wide w,mo.wide w,lo.wide w,en,nm⟩,⟨sd,es,ls1,fun q v hv=>(hs q v hv).wide w⟩,⟨hd,eh,lh,hh⟩⟩
theorem dB.more{A:Ad}{F:Addr->Prop}{H:Hp}{a:Addr}{ls:List Line}{p:Tide.Port}{n m:Nat}{sa ha:Addr}(h:dB A F H a ls p n sa ha)(le:n<=m):dB A F H a ls p m sa ha:=by
 obtain ⟨h1,h2,h3,h4,h5,⟨sd,es,ls1,hs⟩,⟨hd,eh,lh,hh⟩⟩:=h
 exact ⟨h1,h2,h3,h4,h5,⟨sd,es,Y4 ls1 le,hs⟩,⟨hd,eh,Y4 lh le,hh⟩⟩
theorem Uj {K:W.Frag} {a:Addr} {xs:List V} {tl te:TE} {j:Nat} {σ:L2.St} {H1:Hp} {Q:VK} {β:Type} (ys:List β) (R:Addr->Hp->V->β->Prop)
  (hR: ∀D H H' v y,R D H v y->Kf (· ≠D) H H'->R D H' v y) (htl: ∀P:VK,P (.ref a) H1->tl σ H1 P) (hlen:ys.length=xs.length) (hz:xs.length<=sizeLine) (hq:b_ K H1 a xs)
  (hstep: ∀(D:Addr) (i:Nat) (x:V) (y:β),H1 D=none->xs[i]?=some x->ys[i]?=some y-> ∀H',aN H1 H'->H' D≠none-> ∀P:VK,(∀v H'',aN H' H''->R D H'' v y->P v H'')->te ((wipe σ [j]).set j (some x)) H' P)
  (hd: ∀D vs H',H1 D=none->aN H1 H'->H' D=some (.lst vs)->Paired (R D H') vs ys->Q (.ref D) H'):Tq (ES K tl) (mR j) HN te [j] σ H1 Q:=htl _ ⟨a,rfl,⟨xs,hq⟩,fun D hD=>by
 refine Ei (K:=K) (a:=a) (xs:=xs) (fun i H'=>aN H1 H'/\ ∃vs,H' D=some (.lst vs)/\Paired (R D H') vs (ys.take i)) ⟨aN.new hD,[],af,.nil⟩ (fun i H' _ z=>z.1.seq hq) (fun i x H' hx z=>?_) (fun H' z=>?_)
 ·obtain ⟨s1,vs,e1,p1⟩:=z
  have hi:=(YL.mp hx).1
  obtain ⟨y,hy⟩: ∃y,ys[i]?=some y:=⟨ys[i]'(by lia),Y9 (by lia)⟩
  refine ⟨xT σ j _,?_⟩
  unfold HN
  simp only [if_true]
  refine hstep D i x y hD hx hy H' s1 (by rw [e1];simp) _ fun v H'' s2 r=>⟨vs,s2 _ _ e1,?_,?_,vs++ [v],af,?_⟩
  ·have:=Paired.length p1
   rw [this,Zd]
   lia
  ·intro c o hc
   rw [ak (ao hc hD)]
   exact s2 c o (s1 c o hc)
  ·have k2:Kf (· ≠D) H'' (upd H'' D (.lst (vs++ [v]))):=Kf.put (by simp)
   rw [YX,hy]
   exact Paired.PR (Paired.ja (fun _ _ q=>hR D _ _ _ _ (hR D _ _ _ _ q (Kf.of s2)) k2) p1) (hR D _ _ _ _ r k2)
 ·obtain ⟨s1,vs,e1,p1⟩:=z
  rw [<-hlen,Y8] at p1
  exact hd D vs H' hD s1 e1 p1⟩
theorem iZ:ay ["self","steadied","steadies","wave"] ["self","steadied"] (aq nv):=jv rfl (by decide +kernel)
def zO(K:W.Frag)(A:Ad):Sp:=fun vs H Q _=> ∃(F:Addr->Prop) (a:Addr) (ls:List Line) (p:Tide.Port) (n:Nat) (sa ha:Addr) (t:Int),vs= [.ref a,.int t]/\dB A F H a ls p n sa ha/\Good ls/\Nm ls p/\(∀c,H c=none->F c)/\n < 10 ^ 6/\Bt 60 t/\ ∀v H',Kf (· ≠sa) H H'->dB A F H' a ls p (n + 1) sa ha->Bu A F H' v (vJ ls p t)->Q v H'
theorem zM(T:Txt K mg A):bw P w K mg base (lA) 9 A.cz A.eB ["self","steadied"] (zO K A):=by
 refine oq T.gJ iZ fun vs H Q E h Rz kz=>?_
 obtain ⟨F,a,ls,p,n,sa,ha,t,rfl,td,hg,hn,hF,hn6,bt,q⟩:=h
 refine kz rfl fun cdv Ar outer s hr=>?_
 have hu:=tW hr
 refine ⟨_,(ah (b6 (wH (Cj hu (pv 1) (au (pv 0) rfl))) (ah (aF (i:=2) iZ.nd rfl (Or.inr rfl) (aB (EN T) (hr.mono (by decide)) rfl T.uG T.mJ.kp T.Ii .nil aL (aa (au (pv 0) rfl) (aa (au (pv 0) rfl) (aa (pv 1) ai)))))
   (aj (m9 hu (au (pv 0) rfl) (pv 1) (B3 rfl iZ.nd (dH (au (au (pv 0) rfl) rfl)) (own:= [("wave",3)]) (mU rfl) (fun _ _ _ _ _=>b9 (i:=3) iZ.nd rfl (Or.inl rfl)) (fun _ _ _ _ _=>tQ) (fun _ _ _ _ _=>(aB (MA T) (hr.mono (by decide)) rfl T.AX T.tw.kp T.Nz .nil aL (aa (pv 3) (aa (ug hu (ue (K:=K) rfl (pv 0) rfl) (ue (K:=K) rfl (pv 3) rfl) (fun _ _=>rfl)) (aa (ug hu (pv 2) (ue (K:=K) rfl (pv 3) rfl) (fun _ _=>rfl)) ai)))))) rfl))) aU)
   (aj (aD (ug hu (au (pv 0) rfl) (pv 1) (fun _ _=>rfl))))),?_⟩
 obtain ⟨h1,h2,h3,h4,⟨dx,pa,ma,la,pr,e,po,mo,lo,en,nm⟩,⟨sd,es,ls1,hs⟩,⟨hd,eh,lh,hh⟩⟩:=id td
 refine ⟨_,rfl,_,rfl,_,_,_,_,_,rfl,e,T.cR,T.gR,rfl,sa,_,rfl,iY.k (k:=Sum.inl t) es,_,rfl,?_⟩
 cases hv:dg sd (.inl t) with
 | some v=>
  have hg':iY H sa (.int t) (some v):=hv▸iY.k (k:=Sum.inl t) es
  exact cM ⟨_,rfl,_,_,_,_,_,rfl,e,T.cR,T.gR,rfl,_,rfl,sa,v,rfl,hg',q v H Kf.refl (td.more (by lia)) (hs t v hv)⟩
 | none=>
  refine cC ⟨_,rfl,_,_,_,_,_,rfl,e,T.cR,T.qh,rfl,_,rfl,_,_,_,_,_,rfl,e,T.cR,T.jI,rfl,_,rfl,F,F,la,ma,ls,pr,t,rfl,lo,hg,en,mo,bt,fun ta H1 s1 hst=>?_⟩
  obtain ⟨fta,tds,et,htl,htd⟩:=id hst
  obtain ⟨fpa,dxp,wa,ws,ep,fwa,ew,pw,hlv,hln⟩:=id po
  obtain ⟨fma,mds,em,hml,hmd⟩:=id mo
  have lws:ws.length=p.shares.length:=Paired.length pw
  dsimp only [mR]
  refine Uj (a:=wa) (xs:=ws) (vJ ls p t) (fun D H v y=>x9 A (fun c=>F c/\c≠D) H v y) (fun D H H' v y h k=>x9.keep h (k.mono fun _ _ z _=>z.2)) (fun P pp=>⟨_,rfl,_,_,_,_,_,rfl,s1 _ _ e,T.cR,T.o_,rfl,_,_,_,_,_,rfl,s1 _ _ ep,T.oX,T.eW,rfl,pp⟩) (by unfold vJ;rw [YI,lws]) (by rw [lws,sizeLine_eq];lia) (b_.of (s1 _ _ ew)) (fun D i x y hD hx hy H2 s2 hD2 P pp=>?_) (fun D vs H2 hD s2 e2 p2=>?_)
  ·obtain ⟨z,hz,hxz⟩:=Paired.at2 pw hx
   have ey:y=Qs z (Kd ls (Tide.lineOf ls z.name)) (K8 ls t (Tide.lineOf ls z.name)):=by
    unfold vJ at hy
    rw [Y6,hz] at hy
    exact (Option.some.inj hy).symm
   have hzm:z ∈ p.shares:=Y7 hz
   obtain ⟨l,hl,hla,hln⟩:=hn z hzm
   rw [A0 hg.dn hl hla hln] at ey
   subst ey
   have s02:=s1.trans s2
   have hz2:=hxz.keep (Kf.of s02)
   obtain ⟨za,dz,rfl,fz,ez,_⟩:=id hz2
   obtain ⟨mv,hmv,mm⟩:=hmd l hl
   obtain ⟨sv,hsv,sm⟩:=htd l (Zp.mpr ⟨hl,nm z hzm l hl hln⟩)
   rw [hln] at hmv hsv
   have g1:iY H2 ma (.str (st z.name)) (some mv):=hmv▸iY.k (k:=Sum.inr (st z.name)) (s02 _ _ em)
   have g2:iY H2 ta (.str (st z.name)) (some sv):=hsv▸iY.k (k:=Sum.inr (st z.name)) (s2 _ _ et)
   have bm:=RN hg.lb (hg.lb l hl)
   obtain ⟨i',hi'⟩:=Zs.mp hl
   have bd:=RZ hg.lb (hg.lb l hl) (Az (nH (before:= []) hg.ff hi')) t
   exact ⟨_,rfl,_,rfl,_,_,_,_,_,rfl,s02 _ _ e,T.cR,T.jI,rfl,_,rfl,_,_,_,_,_,rfl,ez,T.aZ,T.bV,rfl,ma,_,rfl,g1,_,rfl,_,rfl,_,_,_,_,_,rfl,ez,T.aZ,T.bV,rfl,ta,_,rfl,g2,F,F,_,_,mv,sv,z,_,_,rfl,hz2,mm.keep (Kf.of s02),sm.keep (Kf.of s2),bm.1.mono (by decide),bm.2.mono (by decide),bd.1,bd.2,fun v' H3 s3 hsw=>pp v' H3 s3 (hsw.wide fun c o hc _=>⟨hF c (s02.free hc),fun w=>hD2 (by rw [<-w];exact hc)⟩)⟩
  ·have s02:=s1.trans s2
   have nDs:D≠sa:=fun w=>by rw [w,s1 _ _ es] at hD;cases hD
   have fD:F D:=hF D (s1.free hD)
   have sws:Bu A F H2 (.ref D) (vJ ls p t):=⟨D,vs,rfl,fD,e2,Paired.ja (fun _ _ h=>x9.wide h fun _ _ hc _=>hc.1) p2⟩
   refine ⟨_,rfl,_,_,_,_,_,rfl,s02 _ _ e,T.cR,T.gR,rfl,_,rfl,sa,_,rfl,zQ.k (k:=Sum.inl t) (s02 _ _ es) (by rw [sizeLine_eq];lia),?_⟩
   have kF:Kf F H2 (upd H2 sa (.dK (putK sd (.inl t) (.ref D)))):=Kf.put h1
   have k0F:Kf F H (upd H2 sa (.dK (putK sd (.inl t) (.ref D)))):=(Kf.of s02).trans kF
   have na:a≠sa:=fun w=>h1 (w▸h4)
   have e3:upd H2 sa (.dK (putK sd (.inl t) (.ref D))) a=some (CI A dx (.ref pa) (.ref ma) (.ref la) (.ref sa) (.ref ha)):=by rw [ak na];exact s02 _ _ e
   have hgv:iY (upd H2 sa (.dK (putK sd (.inl t) (.ref D)))) sa (.int t) (some (.ref D)):=by
    have:dg (putK sd (.inl t) (.ref D)) (.inl t)=some (.ref D):=by rw [oR,if_pos rfl]
    exact this▸iY.k (k:=Sum.inl t) af
   refine ⟨_,rfl,_,_,_,_,_,rfl,e3,T.cR,T.gR,rfl,_,rfl,sa,_,rfl,hgv,?_⟩
   refine q (.ref D) _ ((Kf.of s02).trans (Kf.put (by simp))) ⟨h1,h2,h3,h4,⟨dx,pa,ma,la,pr,e3,po.keep k0F,mo.keep k0F,lo.keep k0F,en,nm⟩,⟨_,af,Y4 (vC _ _ _) (by lia),fun k v hv=>?_⟩,⟨hd,by rw [ak (Ne.symm h3)];exact s02 _ _ eh,by lia,hh⟩⟩ (sws.keep kF)
   rw [oR] at hv
   split at hv
   ·rename_i hk
    cases hv
    rw [Sum.inl.inj hk]
    exact sws.keep kF
   ·exact (hs k v hv).keep k0F
theorem iO.sz{A:Ad}{F:Addr->Prop}{H:Hp}{a:Addr}{p:Tide.Port}(h:iO A F H a p): ∀s ∈ p.shares,s.size < 10 ^ 6/\s.lag < 10 ^ 6:=by
 obtain ⟨_,_,_,_,_,_,_,ps,_⟩:=h
 intro s hs
 obtain ⟨i,hi⟩:=Zs.mp hs
 obtain ⟨v,_,hv⟩:=Paired.V5 ps hi
 obtain ⟨_,_,_,_,_,z1,z2,_⟩:=hv
 exact ⟨z1,z2⟩
theorem f_:ay ["self","minute","total","swing"] ["self","minute"] (aq kj):=jv rfl (by decide +kernel)
def we(K:W.Frag)(A:Ad):Sp:=fun vs H Q _=> ∃(F:Addr->Prop) (a:Addr) (ls:List Line) (p:Tide.Port) (n:Nat) (sa ha:Addr) (t:Int),vs= [.ref a,.int t]/\dB A F H a ls p n sa ha/\Good ls/\Nm ls p/\(∀c,H c=none->F c)/\n < 10 ^ 6/\Bt 40 t/\ ∀H',Kf (· ≠sa) H H'->dB A F H' a ls p (n + 1) sa ha->Q (.int (Tide.height ls p t)) H'
theorem wg(T:Txt K mg A):bw P w K mg base (lA) 10 A.bK A.cO ["self","minute"] (we K A):=by
 refine oq T.dZ f_ fun vs H Q E h Rz kz=>?_
 obtain ⟨F,a,ls,p,n,sa,ha,t,rfl,td,hg,hn,hF,hn6,bt,q⟩:=h
 refine kz rfl fun cdv Ar outer s hr=>?_
 refine ⟨_,(ah (aF (i:=2) f_.nd rfl (Or.inl rfl) (aR cg (au (au (pv 0) rfl) rfl) (aC rfl T.rQ)))
   (ah (jw PassesOwn.never rfl (dH (bM (pv 0) T.cR T.Al (zM T) (hr.mono (by decide)) T.A1 .nil aL (aa (aB (C0 T) (hr.mono (by decide)) rfl T.qT T.jQ.kp T.DE .nil aL (aa (pv 1) ai)) ai))) (b9 (i:=3) f_.nd rfl (Or.inl rfl)) (aj (vN (i:=2) f_.nd rfl (Or.inl rfl) BB (aR cg (au (pv 3) rfl) (aB (CA T) (hr.mono (by decide)) rfl T.ze T.r8.kp T.E6 .nil aL (aa (aB (R6 T) (hr.mono (by decide)) rfl T.OH T.IX.kp T.U5 .nil aL (aa (bM (au (pv 3) rfl) T.iE T.yY (xr T) (hr.mono (by decide)) T.yL .nil aL (aa (pv 1) ai)) (aa (aR cg (aC rfl T.rD) (aC rfl T.iD)) ai))) ai))))))
   (aj (aD (aB (AY T) (hr.mono (by decide)) rfl T.vD T.pJ.kp T.CO .nil aL (aa (pv 2) (aa (aC rfl T.rQ) ai))))))),?_⟩
 obtain ⟨h1,h2,h3,h4,⟨dx,pa,ma,la,pr,e,po,mo,lo,en,nm⟩,⟨sd,es,ls1,hs⟩,⟨hd,eh,lh,hh⟩⟩:=id td
 obtain ⟨fpa,dxp,wa,ws,ep,fwa,ew,pw,hlv,hln⟩:=id po
 have bl:Bt 60 p.level:=by unfold Bt;omega
 have b60:Bt 61 1152921504606846976:=by unfold Bt;decide
 have bs:Bt 60 (t / 32768 * 32768 + 16384):=by unfold Bt at *;omega
 have bu:Bt 100 21600000000000000:=by unfold Bt;decide
 have bf:Bt 100 1073741824:=by unfold Bt;decide
 refine ⟨_,rfl,_,_,_,_,_,rfl,e,T.cR,T.o_,rfl,_,_,_,_,_,rfl,ep,T.oX,T.lR,rfl,_,_,rfl,rfl,⟨bl.bg,b60.bg⟩,_,rfl,a,_,_,rfl,e,rfl,_,rfl,t,rfl,bt.mono (by decide),F,a,ls,p,n,sa,ha,_,rfl,td,hg,hn,hF,hn6,bs,fun v H1 k1 td1 sw=>?_⟩
 rw [QJ] at sw
 obtain ⟨sl,vs,rfl,fsl,esl,psl⟩:=sw
 have lvs:vs.length=(vJ ls p (Tide.steady t)).length:=Paired.length psl
 have lsw:(vJ ls p (Tide.steady t)).length=p.shares.length:=by unfold vJ;rw [YI]
 refine ⟨sl,rfl,⟨vs,b_.of esl⟩,gO (K:=K) (a:=sl) (xs:=vs) (fun i σ H'=> ∃v:Option V,σ= [some (.ref a),some (.int t),some (.int (p.level * 1152921504606846976 + sumInt (((vJ ls p (Tide.steady t)).take i).map (Va t)))),v]/\aN H1 H') ⟨none,?_,fun _ _ h=>h⟩ (fun i σ H' _ ⟨_,_,z⟩=>b_.of (z _ _ esl)) ?_ ?_⟩
 ·rw [List.take_zero,List.map_nil,show sumInt []=0 from rfl,Int.add_zero]
  rfl
 ·rintro i x σ H2 hx ⟨v,rfl,s2⟩
  obtain ⟨z,hz,hxz⟩:=Paired.at2 psl hx
  obtain ⟨za,dz,b,dy,rfl,fz,ez,fb,eb⟩:=hxz.keep (Kf.of s2)
  have hzm:z ∈ vJ ls p (Tide.steady t):=Y7 hz
  obtain ⟨bz1,bz2,bz3⟩:=RC hg hn po.sz hzm
  have et:(vJ ls p (Tide.steady t)).take (i + 1)=(vJ ls p (Tide.steady t)).take i++ [z]:=by rw [YX,hz];rfl
  have bst:Bt 3900 (z.2.1 + z.2.2 * t):=(bz2.add (bz3.mul bt) (c:=400) (by decide) (by decide)).mono (by decide)
  have e3:=QN (z.2.1 + z.2.2 * t)
  refine ⟨_,rfl,_,rfl,_,_,_,_,_,rfl,ez,T.zF,T.oV,rfl,_,rfl,_,_,_,_,_,rfl,ez,T.zF,T.o6,rfl,b,_,_,rfl,eb,rfl,_,rfl,b,dy,_,_,t,rfl,eb,bz3,bt.mono (by decide),_,_,rfl,rfl,⟨bu.bg,bf.bg⟩,_,_,rfl,by show (0:Int) < 21600000000000000 * 1073741824;decide,bst,(bu.mul bf).mono (by decide),Tide.cut (z.2.1 + z.2.2 * t) (Tide.UNIT * 2 ^ 30),?_,Om _ _,fun H3 s3=>⟨_,_,rfl,rfl,⟨bz1.bg,(SQ _).bg⟩,_,_,rfl,rfl,some (.ref za),?_,s2.trans s3⟩⟩
  ·exact congrArg (fun u=> [V.int u]) e3
  ·rw [et,YT,tG]
   show _= [_,_,some (V.int (p.level * 1152921504606846976 + (sumInt (((vJ ls p (Tide.steady t)).take i).map (Va t)) + sumInt [Va t z]))),_]
   rw [vS,<-Int.add_assoc]
   rfl
 ·rintro σ H2 ⟨v,rfl,s2⟩
  rw [lvs,Y8]
  have bsum:Bt 2430 (sumInt ((vJ ls p (Tide.steady t)).map (Va t))):=(SR (b:=2404) (fun y hy=>by
   obtain ⟨z,hz,rfl⟩:=Zf.mp hy
   exact (RC hg hn po.sz hz).1.mul (SQ _)) (by rw [YI,lsw];exact hln)).mono (by decide)
  refine ⟨_,rfl,_,_,rfl,by show (0:Int) < 1152921504606846976;decide,((bl.mul b60).add bsum (c:=2431) (by decide) (by decide)).mono (by decide),b60.mono (by decide),?_⟩
  have:=q H2 (k1.trans (Kf.of s2)) (td1.keep (Kf.of s2))
  rw [N4 hn hg.dn] at this
  exact this
theorem D4:ay ["self","minute"] ["self","minute"] (aq sN):=jv rfl (by decide +kernel)
def DK(K:W.Frag)(A:Ad):Sp:=fun vs H Q _=> ∃(F:Addr->Prop) (a:Addr) (ls:List Line) (p:Tide.Port) (n:Nat) (sa ha:Addr) (t:Int),vs= [.ref a,.int t]/\dB A F H a ls p n sa ha/\Good ls/\Nm ls p/\(∀c,H c=none->F c)/\n < 10 ^ 6/\Bt 40 t/\ ∀H',Kf (fun c=>c≠sa/\c≠ha) H H'->dB A F H' a ls p (n + 2) sa ha->Q (.int (Tide.height ls p t)) H'
theorem qU(T:Txt K mg A):bw P w K mg base (lA) 11 A.eX A.i9 ["self","minute"] (DK K A):=by
 refine oq T.lu D4 fun vs H Q E h Rz kz=>?_
 obtain ⟨F,a,ls,p,n,sa,ha,t,rfl,td,hg,hn,hF,hn6,bt,q⟩:=h
 refine kz rfl fun cdv Ar outer s hr=>?_
 have hu:=tW hr
 refine ⟨_,(ah (b6 (wH (Cj hu (pv 1) (au (pv 0) rfl))) (aj (m9 hu (au (pv 0) rfl) (pv 1) (bM (pv 0) T.cR T.xD (wg T) (hr.mono (by decide)) T.xG .nil aL (aa (pv 1) ai)) rfl)) aU)
   (aj (aD (ug hu (au (pv 0) rfl) (pv 1) (fun _ _=>rfl))))),?_⟩
 obtain ⟨h1,h2,h3,h4,⟨dx,pa,ma,la,pr,e,po,mo,lo,en,nm⟩,⟨sd,es,ls1,hs⟩,⟨hd,eh,lh,hh⟩⟩:=id td
 refine ⟨_,rfl,_,rfl,_,_,_,_,_,rfl,e,T.cR,T.fN,rfl,ha,_,rfl,iY.k (k:=Sum.inl t) eh,_,rfl,?_⟩
 cases hv:dg hd (.inl t) with
 | some v=>
  have hg':iY H ha (.int t) (some v):=hv▸iY.k (k:=Sum.inl t) eh
  refine cM ⟨_,rfl,_,_,_,_,_,rfl,e,T.cR,T.fN,rfl,_,rfl,ha,v,rfl,hg',?_⟩
  rw [hh t v hv]
  exact q H Kf.refl (td.more (by lia))
 | none=>
  refine cC ⟨_,rfl,a,_,_,rfl,e,rfl,_,rfl,F,a,ls,p,n,sa,ha,t,rfl,td,hg,hn,hF,hn6,bt,fun H1 k1 td1=>?_⟩
  obtain ⟨g1,g2,g3,g4,⟨dx',pa',ma',la',pr',e',po',mo',lo',en',nm'⟩,⟨sd',es',ls1',hs'⟩,⟨hd',eh',lh',hh'⟩⟩:=id td1
  refine ⟨_,rfl,_,_,_,_,_,rfl,e',T.cR,T.fN,rfl,_,rfl,ha,_,rfl,zQ.k (k:=Sum.inl t) eh' (by rw [sizeLine_eq];lia),?_⟩
  have kF:Kf F H1 (upd H1 ha (.dK (putK hd' (.inl t) (.int (Tide.height ls p t))))):=Kf.put h2
  have na:a≠ha:=fun w=>h2 (w▸h4)
  have e3:upd H1 ha (.dK (putK hd' (.inl t) (.int (Tide.height ls p t)))) a=some (CI A dx' (.ref pa') (.ref ma') (.ref la') (.ref sa) (.ref ha)):=by rw [ak na];exact e'
  have hgv:iY (upd H1 ha (.dK (putK hd' (.inl t) (.int (Tide.height ls p t))))) ha (.int t) (some (.int (Tide.height ls p t))):=by
   have:dg (putK hd' (.inl t) (.int (Tide.height ls p t))) (.inl t)=some (.int (Tide.height ls p t)):=by rw [oR,if_pos rfl]
   exact this▸iY.k (k:=Sum.inl t) af
  refine ⟨_,rfl,_,_,_,_,_,rfl,e3,T.cR,T.fN,rfl,_,rfl,ha,_,rfl,hgv,?_⟩
  refine q _ ((k1.mono fun _ _ h _=>h.1).trans (Kf.put (by simp))) ⟨h1,h2,h3,h4,⟨dx',pa',ma',la',pr',e3,po'.keep kF,mo'.keep kF,lo'.keep kF,en',nm'⟩,⟨sd',by rw [ak h3];exact es',by lia,fun k v hv=>(hs' k v hv).keep kF⟩,⟨_,af,Y4 (vC _ _ _) (by lia),fun k v hv=>?_⟩⟩
  rw [oR] at hv
  split at hv
  ·rename_i hk
   cases hv
   rw [Sum.inl.inj hk]
  ·exact hh' k v hv
theorem Hh:ay ["self","sky","port"] ["self","sky","port"] (aq wJ):=jv rfl (by decide +kernel)
def Hy(K:W.Frag)(A:Ad):Sp:=fun vs H Q _=> ∃(F:Addr->Prop) (a dx sk pa:Addr) (ls:List Line) (p:Tide.Port),vs= [.ref a,.ref sk,.ref pa]/\H a=some (.ins A.aP dx [])/\ ¬F a/\rq A F H sk ls/\Good ls/\iO A F H pa p/\Nm ls p/\ ∀sa ha H',Kf (· ≠a) H H'->H sa=none->H ha=none->dB A (fun c=>c≠sa/\c≠ha/\(F c\/c=a\/H c=none)) H' a ls p 0 sa ha->Q .dh H'
theorem Ic(T:Txt K mg A):bw P w K mg base (lA) 5 A.iC A.lZ ["self","sky","port"] (Hy K A):=by
 refine oq T.rM Hh fun vs H Q E h Rz kz=>?_
 obtain ⟨F,a,dx,sk,pa,ls,p,rfl,ea,fa,hsk,hg,po,hn,q⟩:=h
 refine kz rfl fun cdv Ar outer s hr=>?_
 refine ⟨_,(ah (bG (pv 0) (pv 2) rfl)
   (ah (bG (pv 0) (aB (G4 T) (hr.mono (by decide)) rfl T.wY T.ou.kp T.KD .nil aL (aa (au (pv 1) rfl) ai)) rfl)
   (ah (bG (pv 0) (aB (Kl T) (hr.mono (by decide)) rfl T.xZ T.qu.kp T.MG .nil aL (aa (au (pv 2) rfl) (aa (au (pv 1) rfl) ai))) rfl)
   (ah (bG (pv 0) oE rfl)
   (aj (bG (pv 0) oE rfl)))))),?_⟩
 obtain ⟨fsk,dxs,la,na,esk,hl,fna,ena⟩:=id hsk
 obtain ⟨fpa,dxp,wa,ws,ep,fwa,ew,pw,hlv,hln⟩:=id po
 have Fn: ∀c,F c->c≠a:=fun c hc z=>fa (z▸hc)
 refine ⟨_,rfl,_,rfl,a,_,dx,_,rfl,ea,T.cR,T.o_,(by show 0 < 1000;decide),?_⟩
 have k1:Kf (· ≠a) H (upd H a (.ins A.aP dx (aY "port" (.ref pa) []))):=Kf.put (by simp)
 have e1:upd H a (.ins A.aP dx (aY "port" (.ref pa) [])) a=some (.ins A.aP dx [(("port":Str),.ref pa)]):=af
 generalize upd H a (.ins A.aP dx (aY "port" (.ref pa) []))=H1 at k1 e1
 have kf: ∀ {H':Hp},Kf (· ≠a) H H'->Kf F H H':=fun k=>k.mono fun c _ hc _=>Fn c hc
 refine ⟨_,rfl,_,_,_,_,_,rfl,kf k1 _ _ fsk esk,T.zX,T.qC,rfl,F,la,ls,rfl,hl.keep (kf k1),hg,fun ma H2 s2 hmo=>?_⟩
 have k2:Kf (· ≠a) H H2:=k1.trans (Kf.of s2)
 refine ⟨_,rfl,a,_,dx,_,rfl,s2 _ _ e1,T.cR,T.jI,(by show 1 < 1000;decide),?_⟩
 have nma:ma≠a:=fun z=>by have:=hmo.1;rw [z,e1] at this;cases this
 have k3:Kf (· ≠a) H (upd H2 a (.ins A.aP dx (aY "motions" (.ref ma) [(("port":Str),.ref pa)]))):=k2.trans (Kf.put (by simp))
 have mo3:tO A (fun c=>H c=none/\c≠a) (upd H2 a (.ins A.aP dx (aY "motions" (.ref ma) [(("port":Str),.ref pa)]))) ma ls ls:=(hmo.wide fun c o hc _=>⟨l9 k1 e1 hc,fun z=>by have hc':H1 c=none:=hc;rw [z,e1] at hc';cases hc'⟩).keep (Kf.put (by simp))
 have e3:upd H2 a (.ins A.aP dx (aY "motions" (.ref ma) [(("port":Str),.ref pa)])) a=some (.ins A.aP dx [(("port":Str),.ref pa),(("motions":Str),.ref ma)]):=af
 generalize upd H2 a (.ins A.aP dx (aY "motions" (.ref ma) [(("port":Str),.ref pa)]))=H3 at k3 mo3 e3
 refine ⟨_,rfl,_,_,_,_,_,rfl,kf k3 _ _ fpa ep,T.oX,T.eW,rfl,_,rfl,_,_,_,_,_,rfl,kf k3 _ _ fsk esk,T.zX,T.qC,rfl,F,F,wa,la,ws,p.shares,ls,rfl,kf k3 _ _ fwa ew,Paired.ja (fun _ _ h=>h.keep (kf k3)) pw,hln,hl.keep (kf k3),hg,hn,fun pr D H4 s4 hen hpr hD hlD=>?_⟩
 refine ⟨_,rfl,a,_,dx,_,rfl,s4 _ _ e3,T.cR,T.qh,(by show 2 < 1000;decide),?_⟩
 have nDa:D≠a:=fun z=>by rw [z,e3] at hD;cases hD
 have k5:Kf (· ≠a) H (upd H4 a (.ins A.aP dx (aY "lines" (.ref D) [(("port":Str),.ref pa),(("motions":Str),.ref ma)]))):=(k3.trans (Kf.of s4)).trans (Kf.put (by simp))
 have mo5:tO A (fun c=>H c=none/\c≠a) (upd H4 a (.ins A.aP dx (aY "lines" (.ref D) [(("port":Str),.ref pa),(("motions":Str),.ref ma)]))) ma ls ls:=(mo3.keep (Kf.of s4)).keep (Kf.put (by simp))
 have lo5:iy A (fun c=>(F c\/H c=none)/\c≠a) (upd H4 a (.ins A.aP dx (aY "lines" (.ref D) [(("port":Str),.ref pa),(("motions":Str),.ref ma)]))) D (ls.filter pr):=(hlD.wide fun c o hc _=>hc.elim (fun h=>⟨.inl h,Fn c h⟩) fun h=>⟨.inr (l9 k3 e3 h),fun z=>by rw [z,e3] at h;cases h⟩).keep (Kf.put (by simp))
 have e5:upd H4 a (.ins A.aP dx (aY "lines" (.ref D) [(("port":Str),.ref pa),(("motions":Str),.ref ma)])) a=some (.ins A.aP dx [(("port":Str),.ref pa),(("motions":Str),.ref ma),(("lines":Str),.ref D)]):=af
 generalize upd H4 a (.ins A.aP dx (aY "lines" (.ref D) [(("port":Str),.ref pa),(("motions":Str),.ref ma)]))=H5 at k5 mo5 lo5 e5
 intro sa hsa
 have OW:sa≠a:=fun z=>by rw [z,e5] at hsa;cases hsa
 refine ⟨_,rfl,a,_,dx,_,rfl,by rw [ak (Ne.symm OW)];exact e5,T.cR,T.gR,(by show 3 < 1000;decide),?_⟩
 have k6:Kf (· ≠a) H5 (upd (upd H5 sa (.dK [])) a (.ins A.aP dx (aY "swings" (.ref sa) [(("port":Str),.ref pa),(("motions":Str),.ref ma),(("lines":Str),.ref D)]))):=(Kf.new hsa).trans (Kf.put (by simp))
 have e6:upd (upd H5 sa (.dK [])) a (.ins A.aP dx (aY "swings" (.ref sa) [(("port":Str),.ref pa),(("motions":Str),.ref ma),(("lines":Str),.ref D)])) a=some (.ins A.aP dx [(("port":Str),.ref pa),(("motions":Str),.ref ma),(("lines":Str),.ref D),(("swings":Str),.ref sa)]):=af
 have es6:upd (upd H5 sa (.dK [])) a (.ins A.aP dx (aY "swings" (.ref sa) [(("port":Str),.ref pa),(("motions":Str),.ref ma),(("lines":Str),.ref D)])) sa=some (.dK []):=by rw [ak OW,af]
 generalize upd (upd H5 sa (.dK [])) a (.ins A.aP dx (aY "swings" (.ref sa) [(("port":Str),.ref pa),(("motions":Str),.ref ma),(("lines":Str),.ref D)]))=H6 at k6 e6 es6
 intro ha hha
 have Wx:ha≠a:=fun z=>by rw [z,e6] at hha;cases hha
 have nhs:sa≠ha:=fun z=>by rw [<-z,es6] at hha;cases hha
 refine ⟨_,rfl,a,_,dx,_,rfl,by rw [ak (Ne.symm Wx)];exact e6,T.cR,T.fN,(by show 4 < 1000;decide),?_⟩
 have k7:Kf (· ≠a) H5 (upd (upd H6 ha (.dK [])) a (CI A dx (.ref pa) (.ref ma) (.ref D) (.ref sa) (.ref ha))):=k6.trans ((Kf.new hha).trans (Kf.put (by simp)))
 have hH5h:H5 ha=none:=l9 k6 e6 hha
 have w5: ∀c,H5 c≠none->c≠sa/\c≠ha:=fun c hc=>⟨fun z=>hc (by rw [z];exact hsa),fun z=>hc (by rw [z];exact hH5h)⟩
 have kG: ∀ {G:Addr->Prop},(∀c,G c->c≠a)->Kf G H5 (upd (upd H6 ha (.dK [])) a (CI A dx (.ref pa) (.ref ma) (.ref D) (.ref sa) (.ref ha))):=fun hG=>k7.mono fun c _ hc _=>hG c hc
 refine q sa ha _ (k5.trans k7) (l9 k5 e5 hsa) (l9 k5 e5 hH5h) ⟨fun z=>z.1 rfl,fun z=>z.2.1 rfl,nhs,⟨Ne.symm OW,Ne.symm Wx,.inr (.inl rfl)⟩,⟨dx,pa,ma,D,pr,af,?_,?_,?_,hen,hpr⟩,⟨[],?_,YW _,fun k v hv=>by cases hv⟩,⟨[],?_,YW _,fun k v hv=>by cases hv⟩⟩
 ·exact (((po.keep (kf k5)).wide (G:=fun c=>(F c/\c≠a)/\c≠sa/\c≠ha) fun c o hc ho=>⟨⟨hc,Fn c hc⟩,w5 c (by rw [ho];simp)⟩).keep (kG fun c h=>h.1.2)).wide fun c o hc _=>⟨hc.2.1,hc.2.2,.inl hc.1.1⟩
 ·exact ((mo5.wide (G:=fun c=>(H c=none/\c≠a)/\c≠sa/\c≠ha) fun c o hc ho=>⟨hc,w5 c (by rw [ho];simp)⟩).keep (kG fun c h=>h.1.2)).wide fun c o hc _=>⟨hc.2.1,hc.2.2,.inr (.inr hc.1.1)⟩
 ·exact ((lo5.wide (G:=fun c=>((F c\/H c=none)/\c≠a)/\c≠sa/\c≠ha) fun c o hc ho=>⟨hc,w5 c (by rw [ho];simp)⟩).keep (kG fun c h=>h.1.2)).wide fun c o hc _=>⟨hc.2.1,hc.2.2,hc.1.1.elim .inl fun h=> .inr (.inr h)⟩
 ·rw [ak OW,ak nhs];exact es6
 ·rw [ak Wx,af]
theorem b_.Wt{K:W.Frag}{H H':Hp}{a r C dx:Addr}{xs:List V}{fs:List (Str×V)}(h:b_ K H a xs)(k:Kf (fun b=>b≠r) H H')(er:H r=some (.ins C dx fs)):b_ K H' a xs:=by
 rcases h with (h | ⟨o,h⟩) | h
 ·exact .inl (.inl (k _ _ (fun z=>by rw [z,er] at h;cases h) h))
 ·exact .inl (.inr ⟨o,k _ _ (fun z=>by rw [z,er] at h;cases h) h⟩)
 ·exact .inr h
theorem F_:ay ["self"] ["self"] (aq uC):=jv rfl (by decide +kernel)
def FO(K:W.Frag)(A:Ad):Sp:=fun vs H Q _=> ∃(tp dx la:Addr) (l:List Int) (i:Nat),vs= [.ref tp]/\H tp=some (kI A dx (.ref la) (.int (i:Int)))/\b_ K H la (l.map V.int)/\Q (.bl (decide (l.length<=i))) H
theorem GR(T:Txt K mg A):bw P w K mg base (lA) 1 A.gi A.jZ ["self"] (FO K A):=by
 refine oq T.mW F_ fun vs H Q E h Rz kz=>?_
 obtain ⟨tp,dx,la,l,i,rfl,e,hla,q⟩:=h
 refine kz rfl fun cdv Ar outer s hr=>?_
 refine ⟨_,(aj (aD (zg EM (au (pv 0) rfl) (bN jA (by rfl) T.xu PySem.boot_len (aa (au (pv 0) rfl) ai)) (aT _)))),?_⟩
 have:decide (((l.map V.int).length:Int)<=(i:Int))=decide (l.length<=i):=by
  rw [YI]
  congr 1
  simp
 refine ⟨_,rfl,_,_,_,_,_,rfl,e,T.jc,T.fZ,rfl,_,rfl,_,_,_,_,_,rfl,e,T.jc,T.lV,rfl,la,_,rfl,.inl hla,GI (congrArg V.bl this) q⟩
theorem JL:ay ["self"] ["self"] (aq zd):=jv rfl (by decide +kernel)
def Ku(K:W.Frag)(A:Ad):Sp:=fun vs H Q _=> ∃(tp dx la:Addr) (l:List Int) (i:Nat) (z:Int),vs= [.ref tp]/\H tp=some (kI A dx (.ref la) (.int (i:Int)))/\b_ K H la (l.map V.int)/\l[i]?=some z/\ ∀H',Kf (· ≠tp) H H'->H' tp=some (kI A dx (.ref la) (.int ((i + 1:Nat):Int)))->Q (.int z) H'
theorem BY(T:Txt K mg A):bw P w K mg base (lA) 1 A.jt A.n6 ["self"] (Ku K A):=by
 refine oq T.qD JL fun vs H Q E h Rz kz=>?_
 obtain ⟨tp,dx,la,l,i,z,rfl,e,hla,hz,q⟩:=h
 refine kz rfl fun cdv Ar outer s hr=>?_
 refine ⟨_,(ah (pO (pv 0) aH Aa)
   (aj (aD (gj ku (au (pv 0) rfl) (aR uz (au (pv 0) rfl) aH) (fun _ _=>rfl))))),?_⟩
 refine ⟨_,rfl,tp,_,_,_,_,rfl,e,T.jc,T.fZ,rfl,_,_,rfl,rfl,_,_,e,by show 2 < 1000;decide,?_⟩
 have e2:upd H tp (kI A dx (.ref la) (.int ((i:Int) + 1))) tp=some (kI A dx (.ref la) (.int ((i:Int) + 1))):=af
 have k2:Kf (· ≠tp) H (upd H tp (kI A dx (.ref la) (.int ((i:Int) + 1)))):=Kf.put (by simp)
 have hl2:=b_.Wt hla k2 e
 refine ⟨_,rfl,_,_,_,_,_,rfl,e2,T.jc,T.lV,rfl,_,rfl,_,_,_,_,_,rfl,e2,T.jc,T.fZ,rfl,_,_,rfl,rfl,la,_,_,_,rfl,rfl,hl2,at_of (j:=i) (v:= .int z) (by lia) (by rw [Y6,hz];rfl),?_⟩
 exact q _ k2 e2
theorem t_:ay ["self","length","start"] ["self","length"] (aq p9):=jv rfl (by decide +kernel)
def BF(K:W.Frag)(A:Ad):Sp:=fun vs H Q _=> ∃(tp dx la:Addr) (l:List Int) (i n:Nat),vs= [.ref tp,.int (n:Int)]/\H tp=some (kI A dx (.ref la) (.int (i:Int)))/\b_ K H la (l.map V.int)/\i + n<=l.length/\ ∀D H',Kf (· ≠tp) H H'->H' tp=some (kI A dx (.ref la) (.int ((i + n:Nat):Int)))->H D=none->H' D=some (.lst (((l.drop i).take n).map V.int))->Q (.ref D) H'
theorem tY(T:Txt K mg A):bw P w K mg base (lA) 1 A.cX A.gv ["self","length"] (BF K A):=by
 refine oq T.jh t_ fun vs H Q E h Rz kz=>?_
 obtain ⟨tp,dx,la,l,i,n,rfl,e,hla,hn,q⟩:=h
 refine kz rfl fun cdv Ar outer s hr=>?_
 refine ⟨_,(ah (aF (i:=2) t_.nd rfl (Or.inl rfl) (au (pv 0) rfl))
   (ah (pO (pv 0) (pv 1) Aa)
   (aj (aD (sI Uy (au (pv 0) rfl) (fu (pv 2)) (fu (au (pv 0) rfl))))))),?_⟩
 refine ⟨_,rfl,_,_,_,_,_,rfl,e,T.jc,T.fZ,rfl,_,rfl,tp,_,_,_,_,rfl,e,T.jc,T.fZ,rfl,_,rfl,_,_,rfl,rfl,_,_,e,by show 2 < 1000;decide,?_⟩
 have e2:upd H tp (kI A dx (.ref la) (.int ((i:Int) + (n:Int)))) tp=some (kI A dx (.ref la) (.int ((i:Int) + (n:Int)))):=af
 have k2:Kf (· ≠tp) H (upd H tp (kI A dx (.ref la) (.int ((i:Int) + (n:Int))))):=Kf.put (by simp)
 have hl2:=b_.Wt hla k2 e
 refine ⟨_,rfl,_,_,_,_,_,rfl,e2,T.jc,T.lV,rfl,_,rfl,_,rfl,_,rfl,_,_,_,_,_,rfl,e2,T.jc,T.fZ,rfl,_,rfl,la,_,rfl,hl2,fun D hD=>?_⟩
 have hD:upd H tp (kI A dx (.ref la) (.int ((i:Int) + (n:Int)))) D=none:=hD
 have nD:D≠tp:=fun w=>by rw [w,e2] at hD;cases hD
 have hc:Qu (l.map V.int) (some (i:Int)) (some ((i:Int) + (n:Int)))=((l.drop i).take n).map V.int:=by
  unfold Qu
  rw [show (i:Int) + (n:Int)=((i + n:Nat):Int) by lia,HT.Em,HT.Em,YI,Nat.min_eq_left (by lia),Nat.min_eq_left (by lia),<-List.map_drop,<-List.map_take,Nat.add_sub_cancel_left]
 refine q D _ (k2.trans (Kf.new hD)) ?_ ?_ ?_
 ·rw [ak (Ne.symm nD)]
  exact e2
 ·rw [ak nD] at hD
  exact hD
 ·rw [af]
  exact congrArg (fun z=>some (HO.lst z)) hc
theorem Cc:ay ["self"] ["self"] (aq qK):=jv rfl (by decide +kernel)
def Cr(K:W.Frag)(A:Ad):Sp:=fun vs H Q _=> ∃(tp dx la:Addr) (l:List Int) (i n:Nat),vs= [.ref tp]/\H tp=some (kI A dx (.ref la) (.int (i:Int)))/\b_ K H la (l.map V.int)/\l[i]?=some (n:Int)/\i + 1 + n<=l.length/\ ∀D H',Kf (· ≠tp) H H'->H' tp=some (kI A dx (.ref la) (.int ((i + 1 + n:Nat):Int)))->H D=none->H' D=some (.lst (((l.drop (i + 1)).take n).map V.int))->Q (.ref D) H'
theorem vg(T:Txt K mg A):bw P w K mg base (lA) 2 A.dU A.g7 ["self"] (Cr K A):=by
 refine oq T.jJ Cc fun vs H Q E h Rz kz=>?_
 obtain ⟨tp,dx,la,l,i,n,rfl,e,hla,hz,hn,q⟩:=h
 refine kz rfl fun cdv Ar outer s hr=>?_
 refine ⟨_,(aj (aD (bM (pv 0) T.jc T.ve (tY T) (hr.mono (by decide)) T.vh .nil aL (aa (d8 (pv 0) T.jc T.Dj (BY T) (hr.mono (by decide)) T.Dh .nil aL) ai)))),?_⟩
 refine ⟨_,rfl,tp,_,_,rfl,e,rfl,_,rfl,tp,_,_,rfl,e,rfl,tp,dx,la,l,i,_,rfl,e,hla,hz,fun H1 k1 e1=>⟨tp,dx,la,l,i + 1,n,rfl,e1,b_.Wt hla k1 e,hn,fun D H2 k2 e2 hD eD=>q D H2 (k1.trans k2) e2 ?_ eD⟩⟩
 exact l9 k1 e1 hD
theorem zm(t:Int):(decide (-2147483648<=t) && decide (t<=2147483647))=TidePorts.isMinute t:=by
 unfold TidePorts.isMinute
 have e:(2:Int) ^ 31=2147483648:=by decide
 rw [e]
 congr 1
 simp only [decide_eq_decide]
 lia
theorem En(t:Int)(k:Nat):IC t (k:Int)=!TidePorts.beyond t k:=by
 unfold IC TidePorts.beyond
 rw [zm,zm]
 have h1:decide ((k:Int)<=128)=!decide (TidePorts.SPAN < k):=by
  rw [<-decide_not]
  simp only [decide_eq_decide]
  show (k:Int)<=128 ↔ ¬128 < k
  omega
 have h2:decide ((k:Int)=0)=!decide (0 < k):=by
  rw [<-decide_not]
  simp only [decide_eq_decide]
  omega
 rw [h1,h2]
 cases TidePorts.isMinute t <;> cases decide (TidePorts.SPAN < k) <;> cases decide (0 < k) <;> cases TidePorts.isMinute (t + k - 1) <;> rfl
theorem Eh{t:Int}{k:Nat}(h:IC t (k:Int)=true): -2147483648<=t/\t<=2147483647/\k<=128:=by
 unfold IC at h
 simp only [Y_,decide_eq_true_eq] at h
 exact ⟨h.1.1.1,h.1.1.2,by omega⟩
theorem nS(ls:List Line)(p:Tide.Port)(t:Int)(k:Nat):(Tide.heights ls p t k).length=k:=by
 unfold Tide.heights
 rw [YI,List.length_range]
theorem Nl(ls:List Line)(p:Tide.Port)(t:Int){k i:Nat}(h:i < k):(Tide.heights ls p t k)[i]?=some (Tide.height ls p (t + i)):=by
 unfold Tide.heights
 rw [Y6,List.getElem?_range h]
 rfl
theorem JS(ls:List Line)(p:Tide.Port)(t:Int)(k:Nat):Tide.heights ls p t (k + 1)=Tide.heights ls p t k++ [Tide.height ls p (t + (k:Nat))]:=by
 unfold Tide.heights
 rw [List.range_succ,YT]
 rfl
theorem least_le: ∀(r:List Int) (a:Int),r.foldl (fun (a b:Int)=>min a b) a<=a/\(∀y ∈ r,r.foldl (fun (a b:Int)=>min a b) a<=y)/\(r.foldl (fun (a b:Int)=>min a b) a=a\/r.foldl (fun (a b:Int)=>min a b) a ∈ r)
 | [],a=>⟨Int.le_refl _,(fun _ h=>by cases h),.inl rfl⟩
 | x::r,a=>by
  obtain ⟨h1,h2,h3⟩:=least_le r (min a x)
  show (r.foldl _ (min a x))<=a/\_
  refine ⟨by lia,fun y hy=>?_,?_⟩
  ·rcases YR.mp hy with e | e
   ·rw [e];show (r.foldl _ (min a x))<=x;lia
   ·exact h2 y e
  ·rcases h3 with e | e
   ·by_cases hx:a<=x
    ·left;show (r.foldl _ (min a x))=a;lia
    ·right;refine YR.mpr (.inl ?_);show (r.foldl _ (min a x))=x;lia
   ·right;exact YK _ e
theorem Du: ∀(r:List Int) (a:Int),a<=r.foldl (fun (a b:Int)=>max a b) a/\(∀y ∈ r,y<=r.foldl (fun (a b:Int)=>max a b) a)/\(r.foldl (fun (a b:Int)=>max a b) a=a\/r.foldl (fun (a b:Int)=>max a b) a ∈ r)
 | [],a=>⟨Int.le_refl _,(fun _ h=>by cases h),.inl rfl⟩
 | x::r,a=>by
  obtain ⟨h1,h2,h3⟩:=Du r (max a x)
  show a<=(r.foldl _ (max a x))/\_
  refine ⟨by lia,fun y hy=>?_,?_⟩
  ·rcases YR.mp hy with e | e
   ·rw [e];show x<=(r.foldl _ (max a x));lia
   ·exact h2 y e
  ·rcases h3 with e | e
   ·by_cases hx:x<=a
    ·left;show (r.foldl _ (max a x))=a;lia
    ·right;refine YR.mpr (.inl ?_);show (r.foldl _ (max a x))=x;lia
   ·right;exact YK _ e
theorem Si{r:List Int}{m:Int}(hm:m ∈ r)(h: ∀y ∈ r,m<=y):Tide.least r=m:=by
 unfold Tide.least
 cases r with
 | nil=>cases hm
 | cons x r=>
  obtain ⟨h1,h2,h3⟩:=least_le (x::r) x
  have h4:=h2 m hm
  show (x::r).foldl _ x=m
  rcases h3 with e | e
  ·have:=h x YN
   lia
  ·have:=h _ e
   lia
theorem Ly{r:List Int}{m:Int}(hm:m ∈ r)(h: ∀y ∈ r,y<=m):Tide.greatest r=m:=by
 unfold Tide.greatest
 cases r with
 | nil=>cases hm
 | cons x r=>
  obtain ⟨h1,h2,h3⟩:=Du (x::r) x
  have h4:=h2 m hm
  show (x::r).foldl _ x=m
  rcases h3 with e | e
  ·have:=h x YN
   lia
  ·have:=h _ e
   lia
theorem Mw{r:List Int}{m:Int}(hm:m ∈ r): ∃j:Nat,(Tide.firstOf r fun (x:Int)=>x == m)=some j/\r[j]?=some m/\ ∀(i:Nat) (z:V),i < j->(r.map V.int)[i]?=some z->M0 z (.int m)=false:=by
 unfold Tide.firstOf
 cases hf:r.findIdx? (fun (x:Int)=>x == m) with
 | none=>
  have:=Zj.mp hf m hm
  simp at this
 | some j=>
  obtain ⟨hj,h1,h2⟩:=List.findIdx?_eq_some_iff_getElem.mp hf
  refine ⟨j,rfl,?_,fun i z hi hz=>?_⟩
  ·rw [Y9 hj]
   exact congrArg some (beq_iff_eq.mp h1)
  ·rw [Y6,Y9 (by omega)] at hz
   cases hz
   have:=h2 i hi
   show decide (r[i]=m)=false
   rw [Bool.not_eq_true] at this
   exact YJ (YY.mp this)
theorem V6 {ta:TA} {te:TE} {j:Nat} {σ:L2.St} {H1:Hp} {Q:VK} {lo hi:Int} (hta: ∀P:List V->Hp->Prop,P [.int lo,.int hi] H1->ta σ H1 P) (hb: -(2 ^ 62)<=lo/\lo < 2 ^ 62/\ -(2 ^ 62)<=hi/\hi < 2 ^ 62) (Pv:Addr->Nat->Hp->Prop) (h0: ∀D,H1 D=none->Pv D 0 (upd H1 D (.lst [])))
  (hs: ∀(D:Addr) (i:Nat) (H':Hp),H1 D=none->i < (hi - lo).toNat->Pv D i H'->te ((wipe σ [j]).set j (some (.int (lo + i)))) H' fun y H4=> ∃acc,H4 D=some (.lst acc)/\acc.length < sizeLine/\Pv D (i + 1) (upd H4 D (.lst (acc++ [y]))))
  (hd: ∀D H',H1 D=none->Pv D (hi - lo).toNat H'->Q (.ref D) H'):Tq (U9 ta) (mR j) HN te [j] σ H1 Q:=hta _ ⟨lo,hi,rfl,hb,fun D hD=>by
 refine SK (Pv D) (h0 D hD) (fun i H' hi p=>?_) (fun H' p=>hd D H' hD p)
 refine ⟨xT σ j _,?_⟩
 unfold HN
 simp only [if_true]
 exact hs D i H' hD hi p⟩
structure TD(A:Ad)(F:Addr->Prop)(H:Hp)(a:Addr)(ls:List Line)(p:Tide.Port)(n:Nat)(sa ha:Addr):Prop where
 td:dB A F H a ls p n sa ha
 gd:Good ls
 nm:Nm ls p
 cl: ∀c,H c=none->F c
theorem TD.step{A:Ad}{F:Addr->Prop}{H H':Hp}{a:Addr}{ls:List Line}{p:Tide.Port}{n m:Nat}{sa ha:Addr}(h:TD A F H a ls p n sa ha)(k:Kf (fun c=>c≠sa/\c≠ha) H H')(t:dB A F H' a ls p m sa ha):TD A F H' a ls p m sa ha:=by
 refine ⟨t,h.gd,h.nm,fun c hc=>h.cl c ?_⟩
 cases e:H c with
 | none=>rfl
 | some o=>
  obtain ⟨sd,es,_⟩:=t.sw
  obtain ⟨hd,eh,_⟩:=t.ht
  by_cases h1:c=sa
  ·rw [h1,es] at hc;cases hc
  ·by_cases h2:c=ha
   ·rw [h2,eh] at hc;cases hc
   ·rw [k c o ⟨h1,h2⟩ e] at hc;cases hc
theorem TD.same{A:Ad}{F:Addr->Prop}{H H':Hp}{a:Addr}{ls:List Line}{p:Tide.Port}{n:Nat}{sa ha:Addr}(h:TD A F H a ls p n sa ha)(s:aN H H'):TD A F H' a ls p n sa ha:=h.step (Kf.of s) (h.td.keep (Kf.of s))
theorem TD.ne{A:Ad}{F:Addr->Prop}{H:Hp}{a:Addr}{ls:List Line}{p:Tide.Port}{n:Nat}{sa ha:Addr}(h:TD A F H a ls p n sa ha){D:Addr}(hD:H D=none):D≠sa/\D≠ha:=by
 obtain ⟨sd,es,_⟩:=h.td.sw
 obtain ⟨hd,eh,_⟩:=h.td.ht
 exact ⟨(fun z=>by rw [z,es] at hD;cases hD),(fun z=>by rw [z,eh] at hD;cases hD)⟩
theorem TD.ob{A:Ad}{F:Addr->Prop}{H:Hp}{a:Addr}{ls:List Line}{p:Tide.Port}{n:Nat}{sa ha:Addr}(h:TD A F H a ls p n sa ha): ∃dx pa ma la,H a=some (CI A dx (.ref pa) (.ref ma) (.ref la) (.ref sa) (.ref ha)):=by
 obtain ⟨dx,pa,ma,la,pr,e,_⟩:=h.td.ob
 exact ⟨dx,pa,ma,la,e⟩
theorem VL{t:Int}(h1: -2147483648<=t)(h2:t<=2147483647 + 200):Bt 40 t:=by
 unfold Bt
 have:(2:Nat) ^ 40=1099511627776:=by decide
 omega
theorem uM:ay ["tides","start","count","minute"] ["tides","start","count"] (aq vR):=jv rfl (by decide +kernel)
def HH(K:W.Frag)(A:Ad):Sp:=fun vs H Q _=> ∃(F:Addr->Prop) (a:Addr) (ls:List Line) (p:Tide.Port) (n:Nat) (sa ha:Addr) (t:Int) (k:Nat),vs= [.ref a,.int t,.int (k:Int)]/\TD A F H a ls p n sa ha/\n < 900000/\ -2147483648<=t/\t<=2147483647/\k<=128/\ ∀D H',Kf (fun c=>c≠sa/\c≠ha) H H'->dB A F H' a ls p (n + 2 * k) sa ha->H D=none->H' D=some (.lst ((Tide.heights ls p t k).map V.int))->Q (.ref D) H'
theorem zR(T:Txt K mg A):bw P w K mg base (lA) 12 A.jF A.lQ ["tides","start","count"] (HH K A):=by
 refine oq T.l7 uM fun vs H Q E h Rz kz=>?_
 obtain ⟨F,a,ls,p,n,sa,ha,t,k,rfl,td,hn6,ht1,ht2,hk,q⟩:=h
 refine kz rfl fun cdv Ar outer s hr=>?_
 refine ⟨_,(aj (aD (B3 rfl uM.nd (Ce rfl T.zx (aa (pv 1) (aa (aR kU (pv 1) (pv 2)) ai))) (own:= [("minute",3)]) (mU rfl) (fun _ _ _ _ _=>b9 (i:=3) uM.nd rfl (Or.inl rfl)) (fun _ _ _ _ _=>tQ) (fun _ _ _ _ _=>(bM (pv 0) T.cR T.sJ (qU T) (hr.mono (by decide)) T.sR .nil aL (aa (pv 3) ai)))))),?_⟩
 dsimp only [BI]
 have hk2:(t + (k:Int) - t).toNat=k:=by lia
 refine V6 (lo:=t) (hi:=t + (k:Int)) (fun P pp=>⟨_,rfl,_,rfl,_,rfl,_,_,rfl,rfl,pp⟩) ⟨by lia,by lia,by lia,by lia⟩ (fun D i H'=>TD A (fun c=>F c/\c≠D) H' a ls p (n + 2 * i) sa ha/\Kf (fun c=>c≠sa/\c≠ha) H H'/\H' D=some (.lst ((Tide.heights ls p t i).map V.int))) (fun D hD=>⟨?_,Kf.new hD,af⟩) (fun D i H1 hD hi z=>?_) (fun D H1 hD z=>?_)
 ·have t1:dB A (fun c=>F c/\c≠D) H a ls p n sa ha:=td.td.wide (fun c o hc ho=>⟨hc,ao ho hD⟩) (fun z=>td.td.OW z.1) (fun z=>td.td.Wx z.1)
  refine ⟨t1.keep (Kf.new hD),td.gd,td.nm,fun c hc=>?_⟩
  have nc:c≠D:=fun z=>by rw [z,af] at hc;cases hc
  rw [ak nc] at hc
  exact ⟨td.cl c hc,nc⟩
 ·obtain ⟨t1,k1,e1⟩:=z
  obtain ⟨dx,pa,ma,la,ea⟩:=t1.ob
  rw [hk2] at hi
  refine ⟨_,rfl,a,_,_,rfl,ea,rfl,_,rfl,_,a,ls,p,n + 2 * i,sa,ha,t + i,rfl,t1.td,t1.gd,t1.nm,t1.cl,by lia,VL (by lia) (by lia),fun H2 k2 t2=>?_⟩
  obtain ⟨nD1,nD2⟩:=td.ne hD
  refine ⟨_,k2 _ _ ⟨nD1,nD2⟩ e1,by rw [YI,nS,sizeLine_eq];lia,?_,fun c o hc ho=>?_,?_⟩
  ·have t3:=t1.step k2 t2
   have k3:Kf (fun c=>(F c/\c≠D)\/c=sa\/c=ha) H2 (upd H2 D (.lst ((Tide.heights ls p t i).map V.int++ [.int (Tide.height ls p (t + i))]))):=Kf.put (fun z=>by
    rcases z with z | z | z
    ·exact z.2 rfl
    ·exact nD1 z
    ·exact nD2 z)
   refine ⟨t2.keep k3,td.gd,td.nm,fun c hc=>?_⟩
   have nc:c≠D:=fun z=>by rw [z,af] at hc;cases hc
   rw [ak nc] at hc
   exact t3.cl c hc
  ·rw [ak (ao ho hD)]
   exact k2 c o hc (k1 c o hc ho)
  ·rw [af,JS,YT]
   rfl
 ·obtain ⟨t1,k1,e1⟩:=z
  rw [hk2] at t1 e1
  exact q D H1 k1 (t1.td.wide (fun c o hc _=>hc.1) td.td.OW td.td.Wx) hD e1
def HA(A:Ad)(F:Addr->Prop)(H:Hp)(a:Addr)(ls:List Line)(p:Tide.Port)(n:Nat)(sa ha:Addr)(Q:VK)(l:List Int):Prop:= ∀D H',Kf (fun c=>c≠sa/\c≠ha) H H'->dB A F H' a ls p (n + 256) sa ha->H D=none->H' D=some (.lst (l.map V.int))->Q (.ref D) H'
theorem CC:ay ["tides","minute"] ["tides","minute"] (aq qI):=jv rfl (by decide +kernel)
def CT(K:W.Frag)(A:Ad):Sp:=fun vs H Q _=> ∃(F:Addr->Prop) (a:Addr) (ls:List Line) (p:Tide.Port) (n:Nat) (sa ha:Addr) (t:Int),vs= [.ref a,.int t]/\TD A F H a ls p n sa ha/\n < 900000/\HA A F H a ls p n sa ha Q (if TidePorts.isMinute t=false then [-1] else [0,Tide.height ls p t])
theorem Ck(T:Txt K mg A):bw P w K mg base (lA) 12 A.fJ A.g_ ["tides","minute"] (CT K A):=by
 refine oq T.jP CC fun vs H Q E h Rz kz=>?_
 obtain ⟨F,a,ls,p,n,sa,ha,t,rfl,td,hn6,q⟩:=h
 refine kz rfl fun cdv Ar outer s hr=>?_
 refine ⟨_,(ah (b6 (Ak (oA (aB (wV T) (hr.mono (by decide)) rfl T.qp T.lI.kp T.yJ .nil aL (aa (pv 1) ai)))) (aj (aD (dJ (aa (aC rfl T.jS) ai)))) aU)
   (aj (aD (dJ (aa (aC rfl T.u6) (aa (bM (pv 0) T.cR T.sJ (qU T) (hr.mono (by decide)) T.sR .nil aL (aa (pv 1) ai)) ai)))))),?_⟩
 refine ⟨_,rfl,t,rfl,_,rfl,?_⟩
 rw [zm]
 cases hm:TidePorts.isMinute t with
 | false=>
  rw [if_pos hm] at q
  exact cC ⟨by show 1<=sizeLine;decide,fun D hD=>q D _ (Kf.new hD) ((td.td.more (by lia)).keep (Kf.new hD)) hD af⟩
 | true=>
  rw [if_neg (by rw [hm];decide)] at q
  obtain ⟨dx,pa,ma,la,ea⟩:=td.ob
  have hb:Bt 40 t:=by
   rw [<-zm] at hm
   simp only [Y_,decide_eq_true_eq] at hm
   exact VL (by lia) (by lia)
  refine cM ⟨_,rfl,a,_,_,rfl,ea,rfl,_,rfl,F,a,ls,p,n,sa,ha,t,rfl,td.td,td.gd,td.nm,td.cl,by lia,hb,fun H1 k1 t1=>⟨by show 2<=sizeLine;decide,fun D hD=>?_⟩⟩
  have td1:=td.step k1 t1
  have hD0:H D=none:=by
   cases e:H D with
   | none=>rfl
   | some o=>
    obtain ⟨n1,n2⟩:=td1.ne hD
    rw [k1 D o ⟨n1,n2⟩ e] at hD
    cases hD
  exact q D _ (k1.trans (Kf.new hD)) ((t1.more (by lia)).keep (Kf.new hD)) hD0 af
theorem TD.back{A:Ad}{F:Addr->Prop}{H H1:Hp}{a:Addr}{ls:List Line}{p:Tide.Port}{n:Nat}{sa ha:Addr}(td1:TD A F H1 a ls p n sa ha)(k1:Kf (fun c=>c≠sa/\c≠ha) H H1){D:Addr}(hD:H1 D=none):H D=none:=by
 cases e:H D with
 | none=>rfl
 | some o=>
  obtain ⟨n1,n2⟩:=td1.ne hD
  rw [k1 D o ⟨n1,n2⟩ e] at hD
  cases hD
theorem HP:ay ["tides","start","count"] ["tides","start","count"] (aq vV):=jv rfl (by decide +kernel)
def G_(K:W.Frag)(A:Ad):Sp:=fun vs H Q _=> ∃(F:Addr->Prop) (a:Addr) (ls:List Line) (p:Tide.Port) (n:Nat) (sa ha:Addr) (t:Int) (k:Nat),vs= [.ref a,.int t,.int (k:Int)]/\TD A F H a ls p n sa ha/\n < 900000/\HA A F H a ls p n sa ha Q (if TidePorts.beyond t k=true then [-1] else 0::(k:Int)::Tide.heights ls p t k)
theorem G5(T:Txt K mg A):bw P w K mg base (lA) 13 A.jD A.lT ["tides","start","count"] (G_ K A):=by
 refine oq T.o7 HP fun vs H Q E h Rz kz=>?_
 obtain ⟨F,a,ls,p,n,sa,ha,t,k,rfl,td,hn6,q⟩:=h
 refine kz rfl fun cdv Ar outer s hr=>?_
 refine ⟨_,(ah (b6 (Ak (oA (aB (AN T) (hr.mono (by decide)) rfl T.vo T.pY.kp T.Ct .nil aL (aa (pv 1) (aa (pv 2) ai))))) (aj (aD (dJ (aa (aC rfl T.jS) ai)))) aU)
   (aj (aD (aR NP (dJ (aa (aC rfl T.u6) (aa (pv 2) ai))) (aB (zR T) (hr.mono (by decide)) rfl T.rE T.l7.kp T.BL .nil aL (aa (pv 0) (aa (pv 1) (aa (pv 2) ai)))))))),?_⟩
 refine ⟨_,rfl,_,rfl,t,(k:Int),rfl,_,rfl,?_⟩
 have hsp:=En t k
 cases hm:TidePorts.beyond t k with
 | true=>
  rw [if_pos hm] at q
  rw [hm] at hsp
  rw [hsp]
  exact cC ⟨by show 1<=sizeLine;decide,fun D hD=>q D _ (Kf.new hD) ((td.td.more (by lia)).keep (Kf.new hD)) hD af⟩
 | false=>
  rw [if_neg (by rw [hm];decide)] at q
  rw [hm] at hsp
  rw [hsp]
  obtain ⟨s1,s2,s3⟩:=Eh hsp
  refine cM ⟨_,rfl,by show 2<=sizeLine;decide,fun D1 hD1=>?_⟩
  have td1:=td.same (aN.new (o:= .lst [.int 0,.int (k:Int)]) hD1)
  refine ⟨_,rfl,_,rfl,_,rfl,F,a,ls,p,n,sa,ha,t,k,rfl,td1,hn6,s1,s2,s3,fun D2 H2 k2 t2 hD2 e2=>?_⟩
  have td2:=td1.step k2 t2
  have k02:Kf (fun c=>c≠sa/\c≠ha) H H2:=(Kf.new hD1).trans k2
  refine ⟨D1,D2,[.int 0,.int (k:Int)],_,rfl,rfl,k2 _ _ (td.ne hD1) af,e2,?_,fun D hD=>?_⟩
  ·rw [YI,nS,sizeLine_eq]
   show 2 + k<=_
   lia
  ·exact q D _ (k02.trans (Kf.new hD)) ((t2.more (by lia)).keep (Kf.new hD)) (td2.back k02 hD) af
theorem Jf(l:List Int):(l.map V.int).all qE=true:=by
 rw [List.all_map]
 exact List.all_eq_true.mpr fun _ _=>rfl
def NK(t:Int)(r:List Int):List Int:= [0,Tide.least r,t + ((Tide.firstOf r fun (x:Int)=>x == Tide.least r).getD 0:Nat),Tide.greatest r,t + ((Tide.firstOf r fun (x:Int)=>x == Tide.greatest r).getD 0:Nat)]
theorem oS:ay ["tides","start","count","heights","low","high"] ["tides","start","count"] (aq uX):=jv rfl (by decide +kernel)
def ET(K:W.Frag)(A:Ad):Sp:=fun vs H Q _=> ∃(F:Addr->Prop) (a:Addr) (ls:List Line) (p:Tide.Port) (n:Nat) (sa ha:Addr) (t:Int) (k:Nat),vs= [.ref a,.int t,.int (k:Int)]/\TD A F H a ls p n sa ha/\n < 900000/\HA A F H a ls p n sa ha Q (if TidePorts.beyond t k=true\/k=0 then [-1] else NK t (Tide.heights ls p t k))
theorem EC(T:Txt K mg A):bw P w K mg base (lA) 13 A.iF A.jW ["tides","start","count"] (ET K A):=by
 refine oq T.mP oS fun vs H Q E h Rz kz=>?_
 obtain ⟨F,a,ls,p,n,sa,ha,t,k,rfl,td,hn6,q⟩:=h
 refine kz rfl fun cdv Ar outer s hr=>?_
 refine ⟨_,(ah (b6 (PW.pt (Ou (aO fQ (pv 2) aH (aT _)) (K4 (Ak (oA (aB (AN T) (hr.mono (by decide)) rfl T.vo T.pY.kp T.Ct .nil aL (aa (pv 1) (aa (pv 2) ai)))))))) (aj (aD (dJ (aa (aC rfl T.jS) ai)))) aU)
   (ah (aF (i:=3) oS.nd rfl (Or.inl rfl) (aB (zR T) (hr.mono (by decide)) rfl T.rE T.l7.kp T.BL .nil aL (aa (pv 0) (aa (pv 1) (aa (pv 2) ai)))))
   (ah (aF (i:=4) oS.nd rfl (Or.inl rfl) (bN (Vy rfl) (by rfl) T.Rm (by decide +kernel) (aa (pv 3) ai)))
   (ah (aF (i:=5) oS.nd rfl (Or.inl rfl) (bN (Vv rfl) (by rfl) T.RX (by decide +kernel) (aa (pv 3) ai)))
   (aj (aD (dJ (aa (aC rfl T.u6) (aa (pv 4) (aa (aR kU (pv 1) (qw PySem.F.plainAttrs_list PySem.F.slot_list_index PySem.F.type_list_index Lh (pv 3) (aa (pv 4) ai))) (aa (pv 5) (aa (aR kU (pv 1) (qw PySem.F.plainAttrs_list PySem.F.slot_list_index PySem.F.type_list_index Lh (pv 3) (aa (pv 5) ai))) ai)))))))))))),?_⟩
 refine ⟨_,rfl,rfl,_,rfl,?_⟩
 have hsp:=En t k
 by_cases h0:k=0
 ·rw [if_pos (.inr h0)] at q
  rw [YQ (show V.int (k:Int)=V.int 0 by rw [h0];rfl)]
  exact cC (cC ⟨by show 1<=sizeLine;decide,fun D hD=>q D _ (Kf.new hD) ((td.td.more (by lia)).keep (Kf.new hD)) hD af⟩)
 ·rw [YJ (show ¬V.int (k:Int)=V.int 0 from fun z=>h0 (by have:=V.int.inj z;lia))]
  refine cM ⟨_,rfl,_,rfl,t,(k:Int),rfl,_,rfl,?_⟩
  cases hm:TidePorts.beyond t k with
  | true=>
   rw [if_pos (.inl hm)] at q
   rw [hm] at hsp
   rw [hsp]
   exact cC ⟨by show 1<=sizeLine;decide,fun D hD=>q D _ (Kf.new hD) ((td.td.more (by lia)).keep (Kf.new hD)) hD af⟩
  | false=>
   rw [if_neg (fun z=>z.elim (fun w=>by rw [hm] at w;cases w) h0)] at q
   rw [hm] at hsp
   rw [hsp]
   obtain ⟨s1,s2,s3⟩:=Eh hsp
   refine cM ⟨_,rfl,_,rfl,_,rfl,F,a,ls,p,n,sa,ha,t,k,rfl,td,hn6,s1,s2,s3,fun D1 H1 k1 t1 hD1 e1=>?_⟩
   have td1:=td.step k1 t1
   have hl:=nS ls p t k
   refine ⟨_,rfl,D1,_,rfl,b_.of e1,by lia,fun lo hlo hle=>⟨_,rfl,D1,_,rfl,b_.of e1,by lia,fun hi hhi hge=>?_⟩⟩
   obtain ⟨j1,f1,g1,m1⟩:=Mw hlo
   obtain ⟨j2,f2,g2,m2⟩:=Mw hhi
   unfold NK at q
   rw [Si hlo hle,Ly hhi hge,f1,f2] at q
   refine ⟨_,rfl,_,rfl,_,rfl,.inl ⟨rfl,_,b_.of e1⟩,_,rfl,D1,_,_,j1,.int lo,rfl,rfl,b_.of e1,rfl,Jf _,by rw [Y6,g1];rfl,Zt lo,m1,_,_,rfl,rfl,_,rfl,_,rfl,_,rfl,.inl ⟨rfl,_,b_.of e1⟩,_,rfl,D1,_,_,j2,.int hi,rfl,rfl,b_.of e1,rfl,Jf _,by rw [Y6,g2];rfl,Zt hi,m2,_,_,rfl,rfl,by show 5<=sizeLine;decide,fun D hD=>?_⟩
   exact q D _ (k1.trans (Kf.new hD)) ((t1.more (by lia)).keep (Kf.new hD)) (td1.back k1 hD) af
def Mi(t:Int)(o:Option Nat):List Int:=match o with
 | none=> [0]
 | some i=> [1,t + (i:Nat)]
def B_(h:Int)(up:Nat)(x:Int):Bool:=if up=1 then decide (h<=x) else decide (x<=h)
theorem H_{ls:List Line}{p:Tide.Port}{t:Int}{k:Nat}{f:Int->Bool}(h: ∀i,i < k->f (Tide.height ls p (t + (i:Nat)))=false):Tide.firstOf (Tide.heights ls p t k) f=none:=by
 unfold Tide.firstOf
 rw [Zj]
 intro x hx
 unfold Tide.heights at hx
 obtain ⟨i,hi,rfl⟩:=Zf.mp hx
 exact h i (List.mem_range.mp hi)
theorem HQ{ls:List Line}{p:Tide.Port}{t:Int}{k j:Nat}{f:Int->Bool}(hj:j < k)(h: ∀i,i < j->f (Tide.height ls p (t + (i:Nat)))=false)(h2:f (Tide.height ls p (t + (j:Nat)))=true):Tide.firstOf (Tide.heights ls p t k) f=some j:=by
 unfold Tide.firstOf
 rw [List.findIdx?_eq_some_iff_getElem]
 have hl:=nS ls p t k
 have hat: ∀i (hi:i < k),(Tide.heights ls p t k)[i]'(by lia)=Tide.height ls p (t + (i:Nat)):=fun i hi=>by
  have:=Nl ls p t hi
  rw [Y9 (by lia)] at this
  exact Option.some.inj this
 refine ⟨by lia,by rw [hat j hj];exact h2,fun i hi=>?_⟩
 rw [hat i (by lia),h i hi]
 decide
theorem qV:ay ["tides","start","count","bound","way","minute","height"] ["tides","start","count","bound","way"] (aq sy):=jv rfl (by decide +kernel)
def DG(K:W.Frag)(A:Ad):Sp:=fun vs H Q _=> ∃(F:Addr->Prop) (a:Addr) (ls:List Line) (p:Tide.Port) (n:Nat) (sa ha:Addr) (t:Int) (k:Nat) (h:Int) (up:Nat),vs= [.ref a,.int t,.int (k:Int),.int h,.int (up:Int)]/\TD A F H a ls p n sa ha/\n < 900000/\HA A F H a ls p n sa ha Q (if TidePorts.beyond t k=true\/1 < up then [-1] else Mi t (Tide.firstOf (Tide.heights ls p t k) (B_ h up)))
theorem DP(T:Txt K mg A):bw P w K mg base (lA) 12 A.gB A.jg ["tides","start","count","bound","way"] (DG K A):=by
 refine oq T.lz qV fun vs H Q E h Rz kz=>?_
 obtain ⟨F,a,ls,p,n,sa,ha,t,k,h',up,rfl,td,hn6,q⟩:=h
 refine kz rfl fun cdv Ar outer s hr=>?_
 refine ⟨_,(ah (b6 (PW.pt (Ou (aO R4 (pv 4) (aC rfl T.US) (aT _)) (K4 (Ak (oA (aB (AN T) (hr.mono (by decide)) rfl T.vo T.pY.kp T.Ct .nil aL (aa (pv 1) (aa (pv 2) ai)))))))) (aj (aD (dJ (aa (aC rfl T.jS) ai)))) aU)
   (ah (jw PassesOwn.never rfl (Ce rfl T.zx (aa (pv 1) (aa (aR kU (pv 1) (pv 2)) ai))) (b9 (i:=5) qV.nd rfl (Or.inl rfl)) (ah (aF (i:=6) qV.nd rfl (Or.inl rfl) (bM (pv 0) T.cR T.sJ (qU T) (hr.mono (by decide)) T.sR .nil aL (aa (pv 5) ai)))
   (aj (b6 (PW.pt (Ou (PW.pt (Ff (aO fQ (pv 4) (aC rfl T.US) (aT _)) (Bf (aO EM (pv 6) (pv 3) (aT _))))) (K4 (PW.pt (Ff (aO fQ (pv 4) (aC rfl T.NI) (aT _)) (Bf (aO O1 (pv 6) (pv 3) (aT _)))))))) (aj (aD (dJ (aa (aC rfl T.J_) (aa (pv 5) ai))))) aU))))
   (aj (aD (dJ (aa (aC rfl T.wG) ai)))))),?_⟩
 refine ⟨_,rfl,_,_,rfl,rfl,_,rfl,?_⟩
 have hsp:=En t k
 by_cases h0:1 < up
 ·rw [if_pos (.inr h0)] at q
  rw [YQ (show (1:Int) < (up:Int) by lia)]
  exact cC (cC ⟨by show 1<=sizeLine;decide,fun D hD=>q D _ (Kf.new hD) ((td.td.more (by lia)).keep (Kf.new hD)) hD af⟩)
 ·rw [YJ (show ¬(1:Int) < (up:Int) by lia)]
  refine cM ⟨_,rfl,_,rfl,t,(k:Int),rfl,_,rfl,?_⟩
  cases hm:TidePorts.beyond t k with
  | true=>
   rw [if_pos (.inl hm)] at q
   rw [hm] at hsp
   rw [hsp]
   exact cC ⟨by show 1<=sizeLine;decide,fun D hD=>q D _ (Kf.new hD) ((td.td.more (by lia)).keep (Kf.new hD)) hD af⟩
  | false=>
   rw [if_neg (fun z=>z.elim (fun w=>by rw [hm] at w;cases w) h0)] at q
   rw [hm] at hsp
   rw [hsp]
   obtain ⟨s1,s2,s3⟩:=Eh hsp
   have hk2:(t + (k:Int) - t).toNat=k:=by lia
   refine cM ⟨_,rfl,_,rfl,_,rfl,_,_,rfl,rfl,t,t + (k:Int),rfl,⟨by lia,by lia,by lia,by lia⟩,?_⟩
   rw [hk2]
   refine CP (lo:=t) (n:=k) (fun i σ H'=> ∃v1 v2:Option V,σ= [some (.ref a),some (.int t),some (.int (k:Int)),some (.int h'),some (.int (up:Int)),v1,v2]/\TD A F H' a ls p (n + 2 * i) sa ha/\Kf (fun c=>c≠sa/\c≠ha) H H'/\ ∀j,j < i->B_ h' up (Tide.height ls p (t + (j:Nat)))=false) ⟨none,none,rfl,td,Kf.refl,fun j hj=>absurd hj (Nat.not_lt_zero _)⟩ ?_ ?_
   ·rintro i σ H1 hi ⟨v1,v2,rfl,t1,k1,hno⟩
    obtain ⟨dx,pa,ma,la,ea⟩:=t1.ob
    refine ⟨_,rfl,a,_,_,rfl,ea,rfl,_,rfl,_,a,ls,p,n + 2 * i,sa,ha,t + i,rfl,t1.td,t1.gd,t1.nm,t1.cl,by lia,VL (by lia) (by lia),fun H2 k2 t2=>?_⟩
    have td2:=t1.step k2 t2
    have k02:=k1.trans k2
    have go:B_ h' up (Tide.height ls p (t + (i:Nat)))=false-> ∃v1' v2':Option V,[some (V.ref a),some (V.int t),some (V.int (k:Int)),some (V.int h'),some (V.int (up:Int)),some (V.int (t + (i:Nat))),some (V.int (Tide.height ls p (t + (i:Nat))))]= [some (.ref a),some (.int t),some (.int (k:Int)),some (.int h'),some (.int (up:Int)),v1',v2']/\TD A F H2 a ls p (n + 2 * (i + 1)) sa ha/\Kf (fun c=>c≠sa/\c≠ha) H H2/\ ∀j,j < i + 1->B_ h' up (Tide.height ls p (t + (j:Nat)))=false:=fun hh=>⟨_,_,rfl,td2,k02,fun j hj=>by
     by_cases e:j=i
     ·rw [e];exact hh
     ·exact hno j (by lia)⟩
    have hit:B_ h' up (Tide.height ls p (t + (i:Nat)))=true-> ∀D,H2 D=none->Q (.ref D) (upd H2 D (.lst [.int 1,.int (t + (i:Nat))])):=fun hh D hD=>by
     rw [HQ hi hno hh] at q
     exact q D _ (k02.trans (Kf.new hD)) ((t2.more (by lia)).keep (Kf.new hD)) (td2.back k02 hD) af
    by_cases h1:up=1
    ·subst h1
     have eh:B_ h' 1 (Tide.height ls p (t + (i:Nat)))=decide (h'<=Tide.height ls p (t + (i:Nat))):=by unfold B_;rw [if_pos rfl]
     rw [eh] at go hit
     refine ⟨_,rfl,rfl,_,rfl,?_⟩
     rw [YQ (show V.int ((1:Nat):Int)=V.int 1 from rfl)]
     refine cC ⟨_,rfl,_,rfl,_,_,rfl,rfl,_,rfl,?_⟩
     cases hc:decide (h'<=Tide.height ls p (t + (i:Nat))) with
     | true=>exact cC (cC ⟨_,rfl,by show 2<=sizeLine;decide,fun D hD=>hit hc D hD⟩)
     | false=>
      refine cM ⟨_,rfl,rfl,_,rfl,?_⟩
      rw [YJ (show ¬V.int ((1:Nat):Int)=V.int 0 from fun z=>by have:=V.int.inj z;lia)]
      exact cM (cM (go hc))
    ·have h2:up=0:=by lia
     subst h2
     have eh:B_ h' 0 (Tide.height ls p (t + (i:Nat)))=decide (Tide.height ls p (t + (i:Nat))<=h'):=by unfold B_;rw [if_neg (by decide)]
     rw [eh] at go hit
     refine ⟨_,rfl,rfl,_,rfl,?_⟩
     rw [YJ (show ¬V.int ((0:Nat):Int)=V.int 1 from fun z=>by have:=V.int.inj z;lia)]
     refine cM (cM ⟨_,rfl,rfl,_,rfl,?_⟩)
     rw [YQ (show V.int ((0:Nat):Int)=V.int 0 from rfl)]
     refine cC ⟨_,rfl,_,rfl,_,_,rfl,rfl,_,rfl,?_⟩
     cases hc:decide (Tide.height ls p (t + (i:Nat))<=h') with
     | true=>exact cC ⟨_,rfl,by show 2<=sizeLine;decide,fun D hD=>hit hc D hD⟩
     | false=>exact cM (go hc)
   ·rintro σ H1 ⟨v1,v2,rfl,t1,k1,hno⟩
    rw [H_ hno] at q
    exact ⟨by show 1<=sizeLine;decide,fun D hD=>q D _ (k1.trans (Kf.new hD)) ((t1.td.more (by lia)).keep (Kf.new hD)) (t1.back k1 hD) af⟩
theorem M_{before:List Line}{l:Line}(h:PJ.bO before l=none):PJ.uR before l=false:=by
 unfold PJ.bO at h
 split at h
 ·cases h
 ·split at h
  ·cases h
  ·rename_i h3
   exact Bool.eq_false_iff.mpr h3
theorem IQ{ls:List Line}(g:Good ls): ∀i,i<=ls.length->(Tide.waves (ls.take i)).length<=128
 | 0,_=>by rw [List.take_zero];exact YW _
 | i + 1,hi=>by
  have ih:=IQ g i (by lia)
  obtain ⟨l,hl⟩: ∃l,ls[i]?=some l:=⟨ls[i]'(by lia),Y9 (by lia)⟩
  have hm:=M_ (nH (before:= []) g.ff hl)
  rw [List.nil_append] at hm
  rw [YX,hl]
  show (Tide.waves (ls.take i++ [l])).length<=128
  unfold Tide.waves at *
  rw [List.filter_append,YH]
  unfold PJ.uR at hm
  cases ha:l.isAngle with
  | true=>
   rw [List.filter_cons_of_neg (by rw [ha];decide)]
   exact ih
  | false=>
   rw [ha] at hm
   have hm:decide (128<=((ls.take i).filter fun x=>!x.isAngle).length)=false:=hm
   have:=of_decide_eq_false hm
   have h1:([l].filter fun x=>!x.isAngle).length<=1:=Zk _ _
   lia
theorem MW{α:Type}: ∀ {l m:List α},l.Nodup->(∀x ∈ l,x ∈ m)->l.length<=m.length
 | [],m,_,_=>YW _
 | a::t,m,hn,hs=>by
  obtain ⟨m1,m2,rfl⟩:=List.append_of_mem (hs a YN)
  rw [List.nodup_cons] at hn
  have:=MW (l:=t) (m:=m1++m2) hn.2 fun x hx=>by
   have h1:=hs x (YK _ hx)
   rcases Zb.mp h1 with h | h
   ·exact Zi _ h
   ·rcases YR.mp h with h | h
    ·exact absurd (h▸hx) hn.1
    ·exact Za _ h
  rw [YH] at this
  rw [YU,YH,YU]
  lia
theorem Oh{ls:List Line}{before:List Share}{x:Share}(h:PJ.cE ls before x=none):before.any (fun (y:Share)=>y.name == x.name)=false/\(Tide.waves ls).any (fun (w:Line)=>w.name == x.name)=true:=by
 unfold PJ.cE at h
 split at h
 ·cases h
 ·rename_i h1
  split at h
  ·rename_i h2
   exact ⟨Bool.eq_false_iff.mpr h1,h2⟩
  ·cases h
theorem IA{ls:List Line}: ∀ {shares before:List Share},PJ.eO ls before shares=none->(before.map fun x=>x.name).Nodup->((before++shares).map fun x=>x.name).Nodup/\ ∀x ∈ shares,∃y ∈ ls,y.isAngle=false/\y.name=x.name
 | [],before,_,hn=>⟨by rw [Y0];exact hn,(fun x hx=>by cases hx)⟩
 | x::r,before,h,hn=>by
  rw [PJ.eO] at h
  cases hf:PJ.cE ls before x with
  | some f=>rw [hf] at h;cases h
  | none=>
   rw [hf] at h
   obtain ⟨h1,h2⟩:=Oh hf
   have hn2:((before++ [x]).map fun x=>x.name).Nodup:=by
    rw [YT]
    refine List.nodup_append.mpr ⟨hn,by simp,fun a ha b hb=>?_⟩
    have hb':b=x.name:=by simpa using hb
    rw [hb']
    intro z
    subst z
    obtain ⟨y,hy,e⟩:=Zf.mp ha
    rw [List.any_eq_false] at h1
    exact h1 y hy (by rw [e];simp)
   obtain ⟨a1,a2⟩:=IA h hn2
   rw [Y3] at a1
   refine ⟨a1,fun y hy=>?_⟩
   rcases YR.mp hy with e | e
   ·rw [e]
    obtain ⟨w,hw,ew⟩:=List.any_eq_true.mp h2
    obtain ⟨hw1,hw2⟩:=Zp.mp hw
    exact ⟨w,hw1,by simpa using hw2,beq_iff_eq.mp ew⟩
   ·exact a2 y e
structure PG(ls:List Line)(p:Tide.Port):Prop where
 gd:Good ls
 nm:Nm ls p
 ln:p.shares.length<=128
theorem QC{ls:List Line}{p:Tide.Port}(g:Good ls)(h:PJ.eO ls [] p.shares=none):PG ls p:=by
 obtain ⟨h1,h2⟩:=IA h (by simp)
 refine ⟨g,h2,?_⟩
 rw [List.nil_append] at h1
 have h3:=MW (m:=(Tide.waves ls).map Line.name) h1 fun x hx=>by
  obtain ⟨s,hs,rfl⟩:=Zf.mp hx
  obtain ⟨y,hy,ya,yn⟩:=h2 s hs
  rw [<-yn]
  exact Ze (Zp.mpr ⟨hy,by rw [ya];rfl⟩)
 rw [YI,YI] at h3
 have h4:=IQ g ls.length (YM _)
 rw [Y8] at h4
 lia
theorem rq.good{A:Ad}{F:Addr->Prop}{H:Hp}{a:Addr}{ls:List Line}(h:rq A F H a ls)(ff:PJ.cH [] ls=none)(hl:ls.length<=30000):Good ls:=by
 obtain ⟨_,dx,la,na,_,⟨_,vs,_,pl⟩,_⟩:=h
 refine ⟨ff,fun l hm=>?_,hl⟩
 obtain ⟨i,hi⟩:=Zs.mp hm
 obtain ⟨v,_,hv⟩:=Paired.V5 pl hi
 exact hv.lb
theorem Dl{A:Ad}{F:Addr->Prop}{H:Hp}{a:Addr}{p:Tide.Port}(h:iO A F H a p):(Tide.printedPort p).length<=80 * p.shares.length + 80:=by
 obtain ⟨_,dxp,wa,vs,_,_,_,ps,hlv,hln⟩:=h
 rw [EH,YH]
 have hl1:(cA 4 p.level).length<=21:=GD (k:=3) (by lia)
 have hsum: ∀(l:List Share),(∀x ∈ l,(Tide.printShare x).length<=80)->(l.flatMap Tide.printShare).length<=80 * l.length:=by
  intro l
  induction l with
  | nil=>intro _;exact YM _
  | cons x r ih=>
   intro h
   have h1:=ih fun y hy=>h y (YK _ hy)
   have h2:=h x YN
   rw [List.flatMap_cons,YH,YU]
   lia
 have h1:=hsum p.shares fun x hx=>by
  obtain ⟨i,hi⟩:=Zs.mp hx
  obtain ⟨v,_,hv⟩:=Paired.V5 ps hi
  obtain ⟨_,_,_,_,_,z1,z2,z3⟩:=hv
  exact Ja z1 z2 z3
 unfold oM
 rw [YH,YH]
 have:xP.length=6:=rfl
 have:([10]:Bytes).length=1:=rfl
 lia
def SA(H:Hp)(Q:VK)(l:List Int):Prop:= ∀D H',aN H H'->H D=none->H' D=some (.lst (l.map V.int))->Q (.ref D) H'
theorem Ft:ay ["port"] ["port"] (aq ur):=jv rfl (by decide +kernel)
def F1(K:W.Frag)(A:Ad):Sp:=fun vs H Q _=> ∃F pa p,vs= [.ref pa]/\iO A F H pa p/\SA H Q [0,(p.shares.length:Int),p.level]
theorem GC(T:Txt K mg A):bw P w K mg base (lA) 1 A.iU A.kh ["port"] (F1 K A):=by
 refine oq T.mF Ft fun vs H Q E h Rz kz=>?_
 obtain ⟨F,pa,p,rfl,po,q⟩:=h
 refine kz rfl fun cdv Ar outer s hr=>?_
 refine ⟨_,(aj (aD (dJ (aa (aC rfl T.u6) (aa (bN jA (by rfl) T.xu PySem.boot_len (aa (au (pv 0) rfl) ai)) (aa (au (pv 0) rfl) ai)))))),?_⟩
 obtain ⟨fa,dxp,wa,ws,ep,fwa,ew,pw,hlv,hln⟩:=id po
 have lws:ws.length=p.shares.length:=Paired.length pw
 refine ⟨_,rfl,_,_,_,_,_,rfl,ep,T.oX,T.eW,rfl,wa,ws,rfl,.inl (b_.of ew),_,rfl,_,_,_,_,_,rfl,ep,T.oX,T.lR,rfl,by show 3<=sizeLine;decide,fun D hD=>?_⟩
 refine q D _ (aN.new hD) hD ?_
 rw [af,lws]
 rfl
theorem xx:ay ["port","codes"] ["port"] (aq sA):=jv rfl (by decide +kernel)
def DY(K:W.Frag)(A:Ad):Sp:=fun vs H Q _=> ∃F pa p,vs= [.ref pa]/\iO A F H pa p/\p.shares.length<=128/\SA H Q (0::((Tide.printedPort p).length:Int)::(Tide.printedPort p).map fun (c:UInt8)=>(c.toNat:Int))
theorem D_(T:Txt K mg A):bw P w K mg base (lA) 3 A.gP A.jk ["port"] (DY K A):=by
 refine oq T.kK xx fun vs H Q E h Rz kz=>?_
 obtain ⟨F,pa,p,rfl,po,h128,q⟩:=h
 refine kz rfl fun cdv Ar outer s hr=>?_
 refine ⟨_,(ah (aF (i:=1) xx.nd rfl (Or.inl rfl) (aB (LG T) (hr.mono (by decide)) rfl T.AU T.tH.kp T.Oq .nil aL (aa (aB (Ea T) (hr.mono (by decide)) rfl T.rY T.kT.kp T.Gj .nil aL (aa (pv 0) ai)) ai)))
   (aj (aD (aR NP (dJ (aa (aC rfl T.u6) (aa (bN jA (by rfl) T.xu PySem.boot_len (aa (pv 1) ai)) ai))) (pv 1))))),?_⟩
 have hpl:=Dl po
 refine ⟨_,rfl,F,pa,p,rfl,po,fun H1 s1=>⟨_,(Tide.printedPort p).map UInt8.toNat,rfl,kW _,by rw [YI];lia,fun D1 H2 s2 e2=>?_⟩⟩
 have eq1:((Tide.printedPort p).map UInt8.toNat).map (fun (c:Nat)=>V.int (c:Int))=((Tide.printedPort p).map fun (c:UInt8)=>(c.toNat:Int)).map V.int:=by rw [List.map_map,List.map_map];rfl
 rw [eq1] at e2
 refine ⟨_,rfl,D1,_,rfl,.inl (b_.of e2),by show 2<=sizeLine;decide,fun D2 hD2=>?_⟩
 have n12:D1≠D2:=ao e2 hD2
 refine ⟨_,rfl,D2,D1,[.int 0,.int _],_,rfl,rfl,af,by rw [ak n12];exact e2,?_,fun D hD=>?_⟩
 ·rw [YI,YI,sizeLine_eq]
  show 2 + _<=_
  lia
 ·have s4:aN H2 (upd H2 D2 (.lst [.int 0,.int ((((Tide.printedPort p).map fun (c:UInt8)=>(c.toNat:Int)).map V.int).length:Int)])):=aN.new hD2
  refine q D _ ((s1.trans s2).trans (s4.trans (aN.new hD))) ((s1.trans s2).free (s4.free hD)) ?_
  rw [af,YI,YI]
  rfl
def Bo(ls:List Line)(p:Tide.Port)(i:Nat):List Int:=match p.shares[i]? with
 | none=> [-4]
 | some x=> [0,((((Tide.waves ls).findIdx? fun (w:Line)=>w.name == x.name).getD 0:Nat):Int),(x.size:Int),(x.lag:Int)]
theorem yE:ay ["harbour","index","wave"] ["harbour","index"] (aq um):=jv rfl (by decide +kernel)
def Gi(K:W.Frag)(A:Ad):Sp:=fun vs H Q _=> ∃(F G:Addr->Prop) (hb dx sk pa:Addr) (vt:V) (ls:List Line) (p:Tide.Port) (i:Nat),vs= [.ref hb,.int (i:Int)]/\H hb=some (a_ A dx (.ref sk) (.ref pa) vt)/\rq A F H sk ls/\iO A G H pa p/\Nm ls p/\SA H Q (Bo ls p i)
theorem GL(T:Txt K mg A):bw P w K mg base (lA) 1 A.iM A.jU ["harbour","index"] (Gi K A):=by
 refine oq T.mE yE fun vs H Q E h Rz kz=>?_
 obtain ⟨F,G,hb,dx,sk,pa,vt,ls,p,i,rfl,eh,hsk,po,hn,q⟩:=h
 refine kz rfl fun cdv Ar outer s hr=>?_
 have hu:=tW hr
 refine ⟨_,(ah (b6 (aO EM (pv 1) (bN jA (by rfl) T.xu PySem.boot_len (aa (au (au (pv 0) rfl) rfl) ai)) (aT _)) (aj (aD (dJ (aa (aC rfl T.tu) ai)))) aU)
   (ah (aF (i:=2) yE.nd rfl (Or.inl rfl) (gj ku (au (au (pv 0) rfl) rfl) (pv 1) (fun _ _=>rfl)))
   (aj (aD (dJ (aa (aC rfl T.u6) (aa (ug hu (au (au (pv 0) rfl) rfl) (au (pv 2) rfl) (fun _ _=>rfl)) (aa (au (pv 2) rfl) (aa (au (pv 2) rfl) ai))))))))),?_⟩
 obtain ⟨fa,dxp,wa,ws,ep,fwa,ew,pw,hlv,hln⟩:=id po
 obtain ⟨fsk,dxs,la,na,esk,hl,fna,ena⟩:=id hsk
 have lws:ws.length=p.shares.length:=Paired.length pw
 unfold Bo at q
 refine ⟨_,rfl,_,rfl,_,_,_,_,_,rfl,eh,T.bF,T.cy,rfl,_,_,_,_,_,rfl,ep,T.oX,T.eW,rfl,wa,ws,rfl,.inl (b_.of ew),_,_,rfl,rfl,_,rfl,?_⟩
 cases hx:p.shares[i]? with
 | none=>
  rw [hx] at q
  have h1:=List.getElem?_eq_none_iff.mp hx
  rw [YQ (show (ws.length:Int)<=(i:Int) by lia)]
  exact cC ⟨by show 1<=sizeLine;decide,fun D hD=>q D _ (aN.new hD) hD af⟩
 | some x=>
  rw [hx] at q
  have h1:=(YL.mp hx).1
  rw [YJ (show ¬(ws.length:Int)<=(i:Int) by lia)]
  obtain ⟨v,hv,hxv⟩:=Paired.V5 pw hx
  obtain ⟨xa,dxa,rfl,fxa,ex,_⟩:=hxv
  obtain ⟨y,hy,ya,yn⟩:=hn x (Y7 hx)
  have hget:=Mp ls x.name
  have hsome: ∃j,((Tide.waves ls).findIdx? fun (w:Line)=>w.name == x.name)=some j:=by
   cases hf:(Tide.waves ls).findIdx? (fun (w:Line)=>w.name == x.name) with
   | some j=>exact ⟨j,rfl⟩
   | none=>
    have:=Zj.mp hf y (Zp.mpr ⟨hy,by rw [ya];rfl⟩)
    rw [yn] at this
    simp at this
  obtain ⟨j,hj⟩:=hsome
  dsimp only at q
  rw [hj] at hget q
  have hg:iY H na (.str (st x.name)) (some (.int (j:Int))):=by
   have h2:dg (nums ls) (.inr (st x.name))=some (.int (j:Int)):=hget
   exact h2▸iY.k (k:=Sum.inr (st x.name)) ena
  refine cM ⟨_,rfl,_,_,_,_,_,rfl,eh,T.bF,T.cy,rfl,_,_,_,_,_,rfl,ep,T.oX,T.eW,rfl,_,rfl,wa,_,_,_,rfl,rfl,b_.of ew,at_of (j:=i) rfl hv,_,rfl,_,_,_,_,_,rfl,eh,T.bF,T.eV,rfl,_,_,_,_,_,rfl,esk,T.zX,T.iH,rfl,_,rfl,_,_,_,_,_,rfl,ex,T.aZ,T.bV,rfl,na,_,rfl,hg,_,rfl,_,_,_,_,_,rfl,ex,T.aZ,T.gZ,rfl,_,rfl,_,_,_,_,_,rfl,ex,T.aZ,T.gG,rfl,by show 4<=sizeLine;decide,fun D hD=>?_⟩
  exact q D _ (aN.new hD) hD af
def Fm(Y:Addr->Prop)(hb sa ha:Addr)(c:Addr):Prop:= ¬Y c/\c≠hb/\c≠sa/\c≠ha
def Fo(Y:Addr->Prop)(hb:Addr)(c:Addr):Prop:= ¬Y c/\c≠hb
inductive iA (A:Ad) (Y:Addr->Prop) (H:Hp) (hb:Addr):TidePorts.State->Nat->Prop
 | no {n:Nat} {dx:Addr}: ¬Y hb->H hb=some (a_ A dx .dh .dh .dh)->iA A Y H hb ⟨none,none⟩ n
 | sky {n:Nat} {dx sk:Addr} {ls:List Line}: ¬Y hb->H hb=some (a_ A dx (.ref sk) .dh .dh)->rq A (Fo Y hb) H sk ls->Good ls->iA A Y H hb ⟨some ls,none⟩ n
 | port {n:Nat} {dx sk pa ta sa ha:Addr} {ls:List Line} {p:Tide.Port}: ¬Y hb->H hb=some (a_ A dx (.ref sk) (.ref pa) (.ref ta))-> ¬Y sa-> ¬Y ha->sa≠hb->ha≠hb->rq A (Fm Y hb sa ha) H sk ls->iO A (Fm Y hb sa ha) H pa p->PG ls p->dB A (Fm Y hb sa ha) H ta ls p n sa ha->iA A Y H hb ⟨some ls,some p⟩ n
theorem iA.nY{A:Ad}{Y:Addr->Prop}{H:Hp}{hb:Addr}{s:TidePorts.State}{n:Nat}(h:iA A Y H hb s n): ¬Y hb:=by
 cases h <;> assumption
theorem iA.keep{A:Ad}{Y:Addr->Prop}{H H':Hp}{hb:Addr}{s:TidePorts.State}{n m:Nat}(h:iA A Y H hb s n)(k:Kf (fun c=> ¬Y c) H H')(le:n<=m):iA A Y H' hb s m:=by
 cases h with
 | no h1 h2=>exact .no h1 (k _ _ h1 h2)
 | sky h1 h2 h3 h4=>exact .sky h1 (k _ _ h1 h2) (h3.keep (k.mono fun _ _ z _=>z.1)) h4
 | port h1 h2 h3 h4 h5 h6 h7 h8 h9 h10=>exact .port h1 (k _ _ h1 h2) h3 h4 h5 h6 (h7.keep (k.mono fun _ _ z _=>z.1)) (h8.keep (k.mono fun _ _ z _=>z.1)) h9 ((h10.more le).keep (k.mono fun c _ z _=>by
   rcases z with z | z | z
   ·exact z.1
   ·rw [z];exact h3
   ·rw [z];exact h4))
def AA(A:Ad)(Y:Addr->Prop)(H:Hp)(hb:Addr)(Q:VK)(n:Nat)(r:TidePorts.State×List Int):Prop:= ∀D H',Kf Y H H'->iA A Y H' hb r.1 n->H D=none->H' D=some (.lst (r.2.map V.int))->Q (.ref D) H'
def cD(s:TidePorts.State)(c:TidePorts.Call):TidePorts.State×List Int:=((TidePorts.step s c).1,(TidePorts.step s c).2.nums)
theorem IG{i:Nat}{σ:L2.St}{K:W.Frag}{mg:Str->Option Value}{A:Ad}(T:Txt K mg A){H H1:Hp}{a dx:Addr}{z:Int}{f:Nat×Nat}{Q:VK}(s1:aN H H1)(ha:H1 a=none)(hi:i < σ.length)(ed:H1 dx=some (KR dx [("kind",.int (f.1:Int)),("place",.int (f.2:Int))]))(q:SA H Q [z,(f.1:Int),(f.2:Int)]):
  Uk (bC (tC (.int z)) (bC (E1 K (cK i) "kind") (bC (E1 K (cK i) "place") mQ))) (σ.set i (some (.ref a))) (upd H1 a (Ve a A.aW dx)) Q:=by
 have hv:(σ.set i (some (V.ref a)))[i]?=some (some (V.ref a)):=by rw [List.getElem?_set_self hi]
 have ne:dx≠a:=ao ed ha
 have ed2:upd H1 a (Ve a A.aW dx) dx=some (KR dx [("kind",.int (f.1:Int)),("place",.int (f.2:Int))]):=by rw [ak ne];exact ed
 refine ⟨_,hv,a,_,_,_,dx,_,_,rfl,af,T.xc,T.xk,ed2,rfl,_,hv,a,_,_,_,dx,_,_,rfl,af,T.xc,T.xp,ed2,rfl,by show 3<=sizeLine;decide,fun D hD=>?_⟩
 have s2:aN H1 (upd H1 a (Ve a A.aW dx)):=aN.new ha
 exact q D _ (s1.trans (s2.trans (aN.new hD))) (s1.free (s2.free hD)) af
theorem Dz{s:TidePorts.State}{b:Bytes}{f:Nat×Nat}(h:Tide.judge b= .error f):cD s (.sky b)=(s,[-6,(f.1:Int),(f.2:Int)]):=by
 unfold cD TidePorts.step
 obtain ⟨k,p⟩:=f
 dsimp only
 rw [h]
 rfl
theorem DC{s:TidePorts.State}{b:Bytes}{ls:List Line}(h:Tide.judge b= .ok ls):cD s (.sky b)=(⟨some ls,none⟩,[0]):=by
 unfold cD TidePorts.step
 dsimp only
 rw [h]
 rfl
theorem iA.ob{A:Ad}{Y:Addr->Prop}{H:Hp}{hb:Addr}{s:TidePorts.State}{n:Nat}(h:iA A Y H hb s n): ∃dx v1 v2 v3,H hb=some (a_ A dx v1 v2 v3):=by
 cases h with
 | no h1 h2=>exact ⟨_,_,_,_,h2⟩
 | sky h1 h2=>exact ⟨_,_,_,_,h2⟩
 | port h1 h2=>exact ⟨_,_,_,_,h2⟩
theorem uS:ay ["harbour","text","sky","fault"] ["harbour","text"] (aq vK):=jv rfl (by decide +kernel)
def Ia(K:W.Frag)(A:Ad):Sp:=fun vs H Q _=> ∃(Y:Addr->Prop) (hb:Addr) (t:Str) (b:Bytes) (s:TidePorts.State) (n:Nat),vs= [.ref hb,.str t]/\Tx t b/\iA A Y H hb s n/\(∀c,H c=none-> ¬Y c)/\AA A Y H hb Q (n + 256) (cD s (.sky b))
theorem G2(T:Txt K mg A):bw P w K mg base (lA) 12 A.jG A.lO ["harbour","text"] (Ia K A):=by
 refine oq T.oJ uS fun vs H Q E h Rz kz=>?_
 obtain ⟨Y,hb,t,b,s0,n,rfl,tx,hh,hY,q⟩:=h
 refine kz rfl fun cdv Ar outer s hr=>?_
 let XE:XK:=fun c od H1=> ∃(dx:Addr) (f:Nat×Nat),Tide.judge b= .error f/\c= .ref A.aW/\od=some dx/\aN H H1/\H1 dx=some (KR dx [("kind",.int (f.1:Int)),("place",.int (f.2:Int))])
 have hXE: ∀(c:Value) (od:Option Addr) (H1:Hp) (a:Addr) (σ:L2.St),XE c od H1->H1 a=none->3 < σ.length-> ∃dx,c= .ref A.aW/\od=some dx/\Uk (bC (tC (.int (-6))) (bC (E1 K (cK 3) "kind") (bC (E1 K (cK 3) "place") mQ))) (σ.set 3 (some (.ref a))) (upd H1 a (Ve a A.aW dx)) Q:=by
  rintro c od H1 a σ ⟨dx,f,hj,rfl,rfl,s1,ed⟩ ha hi
  refine ⟨dx,rfl,rfl,IG T s1 ha hi ed fun D H' s' hD e'=>?_⟩
  rw [Dz hj] at q
  exact q D H' (Kf.of s') (hh.keep (Kf.of s') (by lia)) hD e'
 refine ⟨_,(ah (To (i:=3) (E:=XE) (Q0:=Q) T.xc rfl rfl rfl rfl T.cI uS.nd rfl rfl (fun _ _ hxp=>(aj (aF (i:=2) uS.nd rfl (Or.inl rfl) (aB (LO T) (hr.mono (by decide)) rfl T.An T.rX.kp T.M3 .nil hxp (aa (pv 1) ai))))) (fun _ _=>(dJ (aa (aC rfl T.yM) (aa (Ef (pv 3) rfl) (aa (Ef (pv 3) rfl) ai))))) hXE)
   (ah (bG (pv 0) (pv 2) rfl)
   (ah (bG (pv 0) Gw rfl)
   (ah (bG (pv 0) Gw rfl)
   (aj (aD (dJ (aa (aC rfl T.u6) ai)))))))),?_⟩
 refine ⟨fun _ _ z=>z,?_⟩
 refine ⟨_,rfl,t,b,rfl,tx,fun ls sk H1 hj s1 hsk ff hlen=>?_,fun f hj dx H1 k1 ed=>⟨dx,f,hj,rfl,rfl,fun c o hc=>k1 c o trivial hc,ed⟩⟩
 obtain ⟨dx,v1,v2,v3,eh⟩:=hh.ob
 have gd:=hsk.good ff hlen
 refine ⟨_,rfl,_,rfl,hb,_,dx,_,rfl,s1 _ _ eh,T.bF,T.eV,(by show 3 < 1000;decide),_,rfl,hb,_,dx,_,rfl,af,T.bF,T.cy,(by show 3 < 1000;decide),_,rfl,hb,_,dx,_,rfl,af,T.bF,T.cS,(by show 3 < 1000;decide),?_⟩
 simp only [b8]
 have e2:upd H1 hb (a_ A dx (.ref sk) .dh .dh) hb=some (a_ A dx (.ref sk) .dh .dh):=af
 have k2:Kf (· ≠hb) H (upd H1 hb (a_ A dx (.ref sk) .dh .dh)):=(Kf.of s1).trans (Kf.put (by simp))
 have hsk2:rq A (Fo Y hb) (upd H1 hb (a_ A dx (.ref sk) .dh .dh)) sk ls:=(hsk.wide fun c o hc _=>⟨hY c hc,fun z=>by have hc:H c=none:=hc;rw [z,eh] at hc;cases hc⟩).keep (Kf.put fun z=>z.2 rfl)
 refine ⟨by show 1<=sizeLine;decide,fun D hD=>?_⟩
 have hD:upd H1 hb (a_ A dx (.ref sk) .dh .dh) D=none:=hD
 rw [DC hj] at q
 refine q D _ ((k2.mono fun c _ hc _ z=>hh.nY (z▸hc)).trans (Kf.new hD)) ?_ ?_ af
 ·exact (iA.sky (n:=0) hh.nY e2 hsk2 gd).keep (Kf.new hD) (by lia)
 ·exact l9 k2 e2 hD
theorem iA.WL{A:Ad}{Y:Addr->Prop}{H:Hp}{hb:Addr}{s:TidePorts.State}{n:Nat}{ls:List Line}(h:iA A Y H hb s n)(e:s.sky=some ls): ∃dx sk v2 v3,H hb=some (a_ A dx (.ref sk) v2 v3)/\rq A (Fo Y hb) H sk ls/\Good ls:=by
 cases h with
 | no=>cases e
 | sky h1 h2 h3 h4=>cases e;exact ⟨_,_,_,_,h2,h3,h4⟩
 | port h1 h2 h3 h4 h5 h6 h7 h8 h9 h10=>cases e;exact ⟨_,_,_,_,h2,h7.wide (fun _ _ z _=>⟨z.1,z.2.1⟩),h9.gd⟩
theorem iA.XS{A:Ad}{Y:Addr->Prop}{H:Hp}{hb:Addr}{s:TidePorts.State}{n:Nat}(h:iA A Y H hb s n)(e:s.sky=none): ∃dx v2 v3,H hb=some (a_ A dx .dh v2 v3):=by
 cases h with
 | no h1 h2=>exact ⟨_,_,_,h2⟩
 | sky=>cases e
 | port=>cases e
theorem Bs{s:TidePorts.State}{b:Bytes}(h:s.sky=none):cD s (.port b)=(s,[-3]):=by
 unfold cD TidePorts.step
 dsimp only
 rw [h]
 rfl
theorem A7{s:TidePorts.State}{b:Bytes}{ls:List Line}{f:Nat×Nat}(hs:s.sky=some ls)(h:Tide.judgePort ls b= .error f):cD s (.port b)=(s,[-5,(f.1:Int),(f.2:Int)]):=by
 unfold cD TidePorts.step
 obtain ⟨k,p⟩:=f
 dsimp only
 rw [hs]
 dsimp only
 rw [h]
 rfl
theorem A_{s:TidePorts.State}{b:Bytes}{ls:List Line}{p:Tide.Port}(hs:s.sky=some ls)(h:Tide.judgePort ls b= .ok p):cD s (.port b)=(⟨some ls,some p⟩,[0]):=by
 unfold cD TidePorts.step
 dsimp only
 rw [hs]
 dsimp only
 rw [h]
 rfl
theorem sY:ay ["harbour","text","port","fault"] ["harbour","text"] (aq uv):=jv rfl (by decide +kernel)
def Fe(K:W.Frag)(A:Ad):Sp:=fun vs H Q _=> ∃(Y:Addr->Prop) (hb:Addr) (t:Str) (b:Bytes) (s:TidePorts.State) (n:Nat),vs= [.ref hb,.str t]/\Tx t b/\iA A Y H hb s n/\(∀c,H c=none-> ¬Y c)/\AA A Y H hb Q (n + 256) (cD s (.port b))
theorem E4(T:Txt K mg A):bw P w K mg base (lA) 8 A.iP A.j7 ["harbour","text"] (Fe K A):=by
 refine oq T.mS sY fun vs H Q E h Rz kz=>?_
 obtain ⟨Y,hb,t,b,s0,n,rfl,tx,hh,hY,q⟩:=h
 refine kz rfl fun cdv Ar outer s hr=>?_
 let XE:XK:=fun c od H1=> ∃(ls:List Line) (dx:Addr) (f:Nat×Nat),s0.sky=some ls/\Tide.judgePort ls b= .error f/\c= .ref A.aW/\od=some dx/\aN H H1/\H1 dx=some (KR dx [("kind",.int (f.1:Int)),("place",.int (f.2:Int))])
 have hXE: ∀(c:Value) (od:Option Addr) (H1:Hp) (a:Addr) (σ:L2.St),XE c od H1->H1 a=none->3 < σ.length-> ∃dx,c= .ref A.aW/\od=some dx/\Uk (bC (tC (.int (-5))) (bC (E1 K (cK 3) "kind") (bC (E1 K (cK 3) "place") mQ))) (σ.set 3 (some (.ref a))) (upd H1 a (Ve a A.aW dx)) Q:=by
  rintro c od H1 a σ ⟨ls,dx,f,hs,hj,rfl,rfl,s1,ed⟩ ha hi
  refine ⟨dx,rfl,rfl,IG T s1 ha hi ed fun D H' s' hD e'=>?_⟩
  rw [A7 hs hj] at q
  exact q D H' (Kf.of s') (hh.keep (Kf.of s') (by lia)) hD e'
 refine ⟨_,(ah (b6 (wH (Rq (au (pv 0) rfl))) (aj (aD (dJ (aa (aC rfl T.zE) ai)))) aU)
   (ah (To (i:=3) (E:=XE) (Q0:=Q) T.xc rfl rfl rfl rfl T.cI sY.nd rfl rfl (fun _ _ hxp=>(aj (aF (i:=2) sY.nd rfl (Or.inl rfl) (aB (JQ T) (hr.mono (by decide)) rfl T.yD T.qF.kp T.LK .nil hxp (aa (pv 1) (aa (ue (K:=K) rfl (ue (K:=K) rfl (pv 0) rfl) rfl) ai)))))) (fun _ _=>(dJ (aa (aC rfl T.wZ) (aa (Ef (pv 3) rfl) (aa (Ef (pv 3) rfl) ai))))) hXE)
   (ah (bG (pv 0) (pv 2) rfl)
   (ah (bG (pv 0) (jz T.Fl (Ic T) (hr.mono (by decide)) rfl T.Ks T.Jv .nil aL (aa (au (pv 0) rfl) (aa (pv 2) ai))) rfl)
   (aj (aD (dJ (aa (aC rfl T.u6) ai)))))))),?_⟩
 cases hs:s0.sky with
 | none=>
  obtain ⟨dx,v2,v3,eh⟩:=hh.XS hs
  rw [Bs hs] at q
  refine ⟨_,rfl,_,_,_,_,_,rfl,eh,T.bF,T.eV,rfl,_,rfl,?_⟩
  rw [YQ (rfl:V.dh=V.dh)]
  exact cC ⟨by show 1<=sizeLine;decide,fun D hD=>q D _ (Kf.new hD) (hh.keep (Kf.new hD) (by lia)) hD af⟩
 | some ls=>
  obtain ⟨dx,sk,v2,v3,eh,hsk,gd⟩:=hh.WL hs
  obtain ⟨fsk,dxs,la,na,esk,hl,fna,ena⟩:=id hsk
  refine ⟨_,rfl,_,_,_,_,_,rfl,eh,T.bF,T.eV,rfl,_,rfl,?_⟩
  rw [YJ (show ¬V.ref sk=V.dh from fun z=>nomatch z)]
  refine cM ⟨fun _ _ z=>z,?_⟩
  refine ⟨_,rfl,_,rfl,_,_,_,_,_,rfl,eh,T.bF,T.eV,rfl,_,_,_,_,_,rfl,esk,T.zX,T.iH,rfl,t,b,na,ls,rfl,tx,ena,fun p pa H1 hj s1 hpo ff=>?_,fun f hj dx H1 k1 ed=>⟨ls,dx,f,hs,hj,rfl,rfl,fun c o hc=>k1 c o trivial hc,ed⟩⟩
  have pg:=QC gd ff
  refine ⟨_,rfl,_,rfl,hb,_,dx,_,rfl,s1 _ _ eh,T.bF,T.cy,(by show 3 < 1000;decide),?_⟩
  have e2:upd H1 hb (a_ A dx (.ref sk) (.ref pa) v3) hb=some (a_ A dx (.ref sk) (.ref pa) v3):=af
  have k2:Kf (· ≠hb) H (upd H1 hb (a_ A dx (.ref sk) (.ref pa) v3)):=(Kf.of s1).trans (Kf.put (by simp))
  have sk2:rq A (Fo Y hb) (upd H1 hb (a_ A dx (.ref sk) (.ref pa) v3)) sk ls:=(hsk.keep (Kf.of s1)).keep (Kf.put fun z=>z.2 rfl)
  have po2:iO A (Fo Y hb) (upd H1 hb (a_ A dx (.ref sk) (.ref pa) v3)) pa p:=(hpo.wide fun c o hc _=>⟨hY c hc,fun z=>by have hc:H c=none:=hc;rw [z,eh] at hc;cases hc⟩).keep (Kf.put fun z=>z.2 rfl)
  refine ⟨_,rfl,_,_,_,_,_,rfl,e2,T.bF,T.eV,rfl,_,rfl,?_⟩
  intro x dy hx hdy ndy
  have hx:upd H1 hb (a_ A dx (.ref sk) (.ref pa) v3) x=none:=hx
  have hdy:upd H1 hb (a_ A dx (.ref sk) (.ref pa) v3) dy=none:=hdy
  have nxh:x≠hb:=fun z=>by rw [z,e2] at hx;cases hx
  generalize hg2:upd H1 hb (a_ A dx (.ref sk) (.ref pa) v3)=H2 at e2 k2 sk2 po2 hx hdy
  have s3:aN H2 (upd (upd H2 dy (.own x)) x (.ins A.aP dy [])):=bS hx hdy
  refine ⟨fun c=>Fo Y hb c/\c≠x/\c≠dy,x,dy,sk,pa,ls,p,rfl,?_,fun z=>z.2.1 rfl,?_,gd,?_,pg.nm,fun sa ha H4 k4 hsa hha td=>⟨rfl,?_⟩⟩
  ·first | exact af | (rw [<-hg2];exact af)
  ·have:=(sk2.wide (G:=fun c=>Fo Y hb c/\c≠x/\c≠dy) fun c o hc ho=>⟨hc,ao ho hx,ao ho hdy⟩).keep (Kf.of s3)
   first | exact this | (rw [<-hg2] at this;exact this)
  ·have:=(po2.wide (G:=fun c=>Fo Y hb c/\c≠x/\c≠dy) fun c o hc ho=>⟨hc,ao ho hx,ao ho hdy⟩).keep (Kf.of s3)
   first | exact this | (rw [<-hg2] at this;exact this)
  have hsa':upd (upd H2 dy (.own x)) x (.ins A.aP dy []) sa=none:=by first | exact hsa | (rw [<-hg2];exact hsa)
  have hha':upd (upd H2 dy (.own x)) x (.ins A.aP dy []) ha=none:=by first | exact hha | (rw [<-hg2];exact hha)
  have k4':Kf (· ≠x) (upd (upd H2 dy (.own x)) x (.ins A.aP dy [])) H4:=by first | exact k4 | (rw [<-hg2];exact k4)
  have td':dB A (fun c=>c≠sa/\c≠ha/\((Fo Y hb c/\c≠x/\c≠dy)\/c=x\/upd (upd H2 dy (.own x)) x (.ins A.aP dy []) c=none)) H4 x ls p 0 sa ha:=by first | exact td | (rw [<-hg2];exact td)
  clear hsa hha k4 td
  have bk2: ∀c,H2 c=none->H c=none/\c≠hb:=fun c hc=>⟨l9 k2 e2 hc,fun z=>by rw [z,e2] at hc;cases hc⟩
  have k24:aN H2 H4:=fun c o hc=>k4' c o (ao hc hx) (s3 c o hc)
  have sa2:=bk2 sa (s3.free hsa')
  have ha2:=bk2 ha (s3.free hha')
  have e4:H4 hb=some (a_ A dx (.ref sk) (.ref pa) v3):=k24 _ _ e2
  refine ⟨_,rfl,hb,_,dx,_,rfl,e4,T.bF,T.cS,(by show 3 < 1000;decide),?_⟩
  have e5:upd H4 hb (a_ A dx (.ref sk) (.ref pa) (.ref x)) hb=some (a_ A dx (.ref sk) (.ref pa) (.ref x)):=af
  have k5:Kf (· ≠hb) H (upd H4 hb (a_ A dx (.ref sk) (.ref pa) (.ref x))):=(k2.trans (Kf.of k24)).trans (Kf.put (by simp))
  have wF: ∀c o,Fo Y hb c->H2 c=some o->Fm Y hb sa ha c:=fun c o hc ho=>⟨hc.1,hc.2,ao ho (s3.free hsa'),ao ho (s3.free hha')⟩
  have nh: ¬Fm Y hb sa ha hb:=fun z=>z.2.1 rfl
  have har:iA A Y (upd H4 hb (a_ A dx (.ref sk) (.ref pa) (.ref x))) hb ⟨some ls,some p⟩ 0:=by
   refine .port hh.nY e5 (hY sa sa2.1) (hY ha ha2.1) sa2.2 ha2.2 (((sk2.wide wF).keep (Kf.of k24)).keep (Kf.put nh)) (((po2.wide wF).keep (Kf.of k24)).keep (Kf.put nh)) pg ((td'.wide (fun c o hc _=>?_) (fun z=>z.2.2.1 rfl) (fun z=>z.2.2.2 rfl)).keep (Kf.put ?_))
   ·obtain ⟨z1,z2,z3⟩:=hc
    rcases z3 with z | z | z
    ·exact ⟨z.1.1,z.1.2,z1,z2⟩
    ·rw [z] at z1 z2 ⊢
     have:=bk2 x hx
     exact ⟨hY x this.1,this.2,z1,z2⟩
    ·have:=bk2 c (s3.free z)
     exact ⟨hY c this.1,this.2,z1,z2⟩
   ·rintro (z | z | z)
    ·exact nh z
    ·exact sa2.2 z.symm
    ·exact ha2.2 z.symm
  refine ⟨by show 1<=sizeLine;decide,fun D hD=>?_⟩
  have hD:upd H4 hb (a_ A dx (.ref sk) (.ref pa) (.ref x)) D=none:=hD
  rw [A_ hs hj] at q
  exact q D _ ((k5.mono fun c _ hc _ z=>hh.nY (z▸hc)).trans (Kf.new hD)) (har.keep (Kf.new hD) (by lia)) (l9 k5 e5 hD) af
theorem kJ{a b:Int}{X Y:Prop}(h:a≠b)(y:Y):if decide (V.int a=V.int b)=true then X else Y:=by
 rw [YJ (fun z=>h (V.int.inj z))]
 exact cM y
theorem Dq{a b:Int}{X Y:Prop}(h:a=b)(x:X):if decide (V.int a=V.int b)=true then X else Y:=by
 rw [YQ (congrArg V.int h)]
 exact cC x
inductive sQ:Int->List Int->TidePorts.Call->Prop
 | print:sQ 2 [] .print
 | size:sQ 3 [] .size
 | wave (i:Nat):sQ 4 [(i:Int)] (.wave i)
 | height (t:Int):sQ 5 [t] (.height t)
 | row (t:Int) (k:Nat):sQ 6 [t,(k:Int)] (.row t k)
 | most (t:Int) (k:Nat):sQ 7 [t,(k:Int)] (.most t k)
 | first (t:Int) (k:Nat) (h:Int) (up:Nat):sQ 8 [t,(k:Int),h,(up:Int)] (.first t k h up)
section
variable {ls:List Line} {p:Tide.Port}
theorem Lk:cD ⟨some ls,some p⟩ .print=(⟨some ls,some p⟩,0::((Tide.printedPort p).length:Int)::(Tide.printedPort p).map fun (c:UInt8)=>(c.toNat:Int)):=by
 show ((⟨some ls,some p⟩:TidePorts.State),(0:Int)::((((Tide.printedPort p).length:Nat):Int)::((Tide.printedPort p).map fun (c:UInt8)=>(c.toNat:Int))++ []))=_
 rw [Y0]
theorem OL:cD ⟨some ls,some p⟩ .size=(⟨some ls,some p⟩,[0,(p.shares.length:Int),p.level]):=rfl
theorem OB(i:Nat):cD ⟨some ls,some p⟩ (.wave i)=(⟨some ls,some p⟩,Bo ls p i):=by
 unfold cD TidePorts.step TidePorts.ofPort Bo
 dsimp only
 cases p.shares[i]? <;> rfl
theorem IF(t:Int):cD ⟨some ls,some p⟩ (.height t)=(⟨some ls,some p⟩,if TidePorts.isMinute t=false then [-1] else [0,Tide.height ls p t]):=by
 unfold cD TidePorts.step TidePorts.ofPort
 dsimp only
 split <;> rfl
theorem SG(t:Int)(k:Nat):cD ⟨some ls,some p⟩ (.row t k)=(⟨some ls,some p⟩,if TidePorts.beyond t k=true then [-1] else 0::(k:Int)::Tide.heights ls p t k):=by
 unfold cD TidePorts.step TidePorts.ofPort
 dsimp only
 split
 ·rfl
 ·show (_,0::((((Tide.heights ls p t k).length:Nat):Int)::Tide.heights ls p t k++ []))=_
  rw [Y0,nS]
theorem Ph(t:Int)(k:Nat):cD ⟨some ls,some p⟩ (.most t k)=(⟨some ls,some p⟩,if TidePorts.beyond t k=true\/k=0 then [-1] else NK t (Tide.heights ls p t k)):=by
 unfold cD TidePorts.step TidePorts.ofPort
 dsimp only
 split <;> rfl
theorem L6(t:Int)(k:Nat)(h:Int)(up:Nat):cD ⟨some ls,some p⟩ (.first t k h up)=(⟨some ls,some p⟩,if TidePorts.beyond t k=true\/1 < up then [-1] else Mi t (Tide.firstOf (Tide.heights ls p t k) (B_ h up))):=by
 unfold cD TidePorts.step TidePorts.ofPort
 dsimp only
 split
 ·rfl
 ·have e:(fun (x:Int)=>if up=1 then decide (h<=x) else decide (x<=h))=B_ h up:=rfl
  rw [e]
  cases Tide.firstOf (Tide.heights ls p t k) (B_ h up) <;> rfl
end
theorem K2{s:TidePorts.State}(h:s.port=none){z:Int}{ns:List Int}{c:TidePorts.Call}(hc:sQ z ns c):cD s c=(s,[-3]):=by
 obtain ⟨sk,po⟩:=s
 cases h
 cases hc <;> cases sk <;> rfl
theorem AA.sa{A:Ad}{Y:Addr->Prop}{H:Hp}{hb:Addr}{Q:VK}{n:Nat}{s:TidePorts.State}{l:List Int}(hh:iA A Y H hb s n)(q:AA A Y H hb Q (n + 256) (s,l)):SA H Q l:=fun D H' s' hD e=>q D H' (Kf.of s') (hh.keep (Kf.of s') (by lia)) hD e
theorem BG:ay ["harbour","call","numbers"] ["harbour","call","numbers"] (aq pX):=jv rfl (by decide +kernel)
def Bc(K:W.Frag)(A:Ad):Sp:=fun vs H Q _=> ∃(Y:Addr->Prop) (hb nl:Addr) (s:TidePorts.State) (n:Nat) (z:Int) (ns:List Int) (c:TidePorts.Call),vs= [.ref hb,.int z,.ref nl]/\H nl=some (.lst (ns.map V.int))/\iA A Y H hb s n/\s.port≠none/\(∀c,H c=none-> ¬Y c)/\n < 900000/\sQ z ns c/\AA A Y H hb Q (n + 256) (cD s c)
theorem BE(T:Txt K mg A):bw P w K mg base (lA) 14 A.eG A.gu ["harbour","call","numbers"] (Bc K A):=by
 refine oq T.jb BG fun vs H Q E h Rz kz=>?_
 obtain ⟨Y,hb,nl,s0,n,z,ns,c,rfl,enl,hh,hsp,hY,hn6,hc,q⟩:=h
 refine kz rfl fun cdv Ar outer s hr=>?_
 refine ⟨_,(ah (b6 (aO fQ (pv 1) (aC rfl T.w_) (aT _)) (aj (aD (aB (D_ T) (hr.mono (by decide)) rfl T.r_ T.kK.kp T.E7 .nil aL (aa (au (pv 0) rfl) ai)))) aU)
   (ah (b6 (aO fQ (pv 1) (aC rfl T.x_) (aT _)) (aj (aD (aB (GC T) (hr.mono (by decide)) rfl T.uZ T.mF.kp T.Hz .nil aL (aa (au (pv 0) rfl) ai)))) aU)
   (ah (b6 (aO fQ (pv 1) (aC rfl T.xX) (aT _)) (aj (aD (aB (GL T) (hr.mono (by decide)) rfl T.uT T.mE.kp T.G0 .nil aL (aa (pv 0) (aa (gj ku (pv 2) aH (fun _ _=>rfl)) ai))))) aU)
   (ah (b6 (aO fQ (pv 1) (aC rfl T.uo) (aT _)) (aj (aD (aB (Ck T) (hr.mono (by decide)) rfl T.qM T.jP.kp T.DR .nil aL (aa (au (pv 0) rfl) (aa (gj ku (pv 2) aH (fun _ _=>rfl)) ai))))) aU)
   (ah (b6 (aO fQ (pv 1) (aC rfl T.AR) (aT _)) (aj (aD (aB (G5 T) (hr.mono (by decide)) rfl T.w9 T.o7.kp T.K0 .nil aL (aa (au (pv 0) rfl) (aa (gj ku (pv 2) aH (fun _ _=>rfl)) (aa (gj ku (pv 2) aH (fun _ _=>rfl)) ai)))))) aU)
   (ah (b6 (aO fQ (pv 1) (aC rfl T.yp) (aT _)) (aj (aD (aB (EC T) (hr.mono (by decide)) rfl T.uW T.mP.kp T.HS .nil aL (aa (au (pv 0) rfl) (aa (gj ku (pv 2) aH (fun _ _=>rfl)) (aa (gj ku (pv 2) aH (fun _ _=>rfl)) ai)))))) aU)
   (aj (aD (aB (DP T) (hr.mono (by decide)) rfl T.sF T.lz.kp T.Fz .nil aL (aa (au (pv 0) rfl) (aa (gj ku (pv 2) aH (fun _ _=>rfl)) (aa (gj ku (pv 2) aH (fun _ _=>rfl)) (aa (gj ku (pv 2) aH (fun _ _=>rfl)) (aa (gj ku (pv 2) aH (fun _ _=>rfl)) ai)))))))))))))),?_⟩
 have hh0:=hh
 cases hh with
 | no=>exact absurd rfl hsp
 | sky=>exact absurd rfl hsp
 | port h1 h2 h3 h4 h5 h6 h7 h8 h9 h10=>
  rename_i dx sk pa ta sa ha ls p
  obtain ⟨sd,es,_⟩:=h10.sw
  obtain ⟨hd,eh,_⟩:=h10.ht
  have td:TD A (Fm Y hb sa ha) H ta ls p n sa ha:=⟨h10,h9.gd,h9.nm,fun c hc=>⟨hY c hc,(fun z=>by rw [z,h2] at hc;cases hc),(fun z=>by rw [z,es] at hc;cases hc),(fun z=>by rw [z,eh] at hc;cases hc)⟩⟩
  have toHA: ∀ {l:List Int},AA A Y H hb Q (n + 256) (⟨some ls,some p⟩,l)->HA A (Fm Y hb sa ha) H ta ls p n sa ha Q l:=fun q D H' k t hD e=>
   q D H' (k.mono fun c _ hc _=>⟨fun z=>h3 (z▸hc),fun z=>h4 (z▸hc)⟩) (.port h1 (k _ _ ⟨Ne.symm h5,Ne.symm h6⟩ h2) h3 h4 h5 h6 (h7.keep (k.mono fun c _ hc _=>hc.2.2)) (h8.keep (k.mono fun c _ hc _=>hc.2.2)) h9 t) hD e
  cases hc with
  | print=>
   rw [Lk] at q
   exact ⟨_,rfl,rfl,_,rfl,Dq rfl ⟨_,rfl,_,_,_,_,_,rfl,h2,T.bF,T.cy,rfl,_,pa,p,rfl,h8,h9.ln,q.sa hh0⟩⟩
  | size=>
   rw [OL] at q
   exact ⟨_,rfl,rfl,_,rfl,kJ (by decide) ⟨_,rfl,rfl,_,rfl,Dq rfl ⟨_,rfl,_,_,_,_,_,rfl,h2,T.bF,T.cy,rfl,_,pa,p,rfl,h8,q.sa hh0⟩⟩⟩
  | wave i=>
   rw [OB] at q
   exact ⟨_,rfl,rfl,_,rfl,kJ (by decide) ⟨_,rfl,rfl,_,rfl,kJ (by decide) ⟨_,rfl,rfl,_,rfl,Dq rfl ⟨_,rfl,_,rfl,nl,_,_,_,rfl,rfl,b_.of enl,at_of (j:=0) (v:= .int (i:Int)) rfl rfl,_,_,hb,dx,sk,pa,_,ls,p,i,rfl,h2,h7,h8,h9.nm,q.sa hh0⟩⟩⟩⟩
  | height t=>
   rw [IF] at q
   exact ⟨_,rfl,rfl,_,rfl,kJ (by decide) ⟨_,rfl,rfl,_,rfl,kJ (by decide) ⟨_,rfl,rfl,_,rfl,kJ (by decide) ⟨_,rfl,rfl,_,rfl,Dq rfl ⟨_,rfl,_,_,_,_,_,rfl,h2,T.bF,T.cS,rfl,_,rfl,nl,_,_,_,rfl,rfl,b_.of enl,at_of (j:=0) (v:= .int t) rfl rfl,_,ta,ls,p,n,sa,ha,t,rfl,td,hn6,toHA q⟩⟩⟩⟩⟩
  | row t k=>
   rw [SG] at q
   exact ⟨_,rfl,rfl,_,rfl,kJ (by decide) ⟨_,rfl,rfl,_,rfl,kJ (by decide) ⟨_,rfl,rfl,_,rfl,kJ (by decide) ⟨_,rfl,rfl,_,rfl,kJ (by decide) ⟨_,rfl,rfl,_,rfl,Dq rfl ⟨_,rfl,_,_,_,_,_,rfl,h2,T.bF,T.cS,rfl,_,rfl,nl,_,_,_,rfl,rfl,b_.of enl,at_of (j:=0) (v:= .int t) rfl rfl,_,rfl,nl,_,_,_,rfl,rfl,b_.of enl,at_of (j:=1) (v:= .int (k:Int)) rfl rfl,_,ta,ls,p,n,sa,ha,t,k,rfl,td,hn6,toHA q⟩⟩⟩⟩⟩⟩
  | most t k=>
   rw [Ph] at q
   exact ⟨_,rfl,rfl,_,rfl,kJ (by decide) ⟨_,rfl,rfl,_,rfl,kJ (by decide) ⟨_,rfl,rfl,_,rfl,kJ (by decide) ⟨_,rfl,rfl,_,rfl,kJ (by decide) ⟨_,rfl,rfl,_,rfl,kJ (by decide) ⟨_,rfl,rfl,_,rfl,Dq rfl ⟨_,rfl,_,_,_,_,_,rfl,h2,T.bF,T.cS,rfl,_,rfl,nl,_,_,_,rfl,rfl,b_.of enl,at_of (j:=0) (v:= .int t) rfl rfl,_,rfl,nl,_,_,_,rfl,rfl,b_.of enl,at_of (j:=1) (v:= .int (k:Int)) rfl rfl,_,ta,ls,p,n,sa,ha,t,k,rfl,td,hn6,toHA q⟩⟩⟩⟩⟩⟩⟩
  | first t k h up=>
   rw [L6] at q
   exact ⟨_,rfl,rfl,_,rfl,kJ (by decide) ⟨_,rfl,rfl,_,rfl,kJ (by decide) ⟨_,rfl,rfl,_,rfl,kJ (by decide) ⟨_,rfl,rfl,_,rfl,kJ (by decide) ⟨_,rfl,rfl,_,rfl,kJ (by decide) ⟨_,rfl,rfl,_,rfl,kJ (by decide) ⟨_,rfl,_,_,_,_,_,rfl,h2,T.bF,T.cS,rfl,_,rfl,nl,_,_,_,rfl,rfl,b_.of enl,at_of (j:=0) (v:= .int t) rfl rfl,_,rfl,nl,_,_,_,rfl,rfl,b_.of enl,at_of (j:=1) (v:= .int (k:Int)) rfl rfl,_,rfl,nl,_,_,_,rfl,rfl,b_.of enl,at_of (j:=2) (v:= .int h) rfl rfl,_,rfl,nl,_,_,_,rfl,rfl,b_.of enl,at_of (j:=3) (v:= .int (up:Int)) rfl rfl,_,ta,ls,p,n,sa,ha,t,k,h,up,rfl,td,hn6,toHA q⟩⟩⟩⟩⟩⟩⟩
inductive Parsed (l:List Int) (i:Nat):TidePorts.Call->Nat->Prop
 | sky (b:Bytes):l[i]?=some 0->l[i + 1]?=some (b.length:Int)->i + 2 + b.length<=l.length->(l.drop (i + 2)).take b.length=bInts b->Parsed l i (.sky b) (i + 2 + b.length)
 | port (b:Bytes):l[i]?=some 1->l[i + 1]?=some (b.length:Int)->i + 2 + b.length<=l.length->(l.drop (i + 2)).take b.length=bInts b->Parsed l i (.port b) (i + 2 + b.length)
 | num {z:Int} {ns:List Int} {c:TidePorts.Call}:l[i]?=some z->sQ z ns c->i + 1 + ns.length<=l.length->(l.drop (i + 1)).take ns.length=ns->Parsed l i c (i + 1 + ns.length)
theorem Parsed.lt{l:List Int}{i j:Nat}{c:TidePorts.Call}(h:Parsed l i c j):i < j/\j<=l.length:=by
 cases h <;> lia
theorem drop_cons{l:List Int}{i:Nat}{z:Int}{r:List Int}(h:l.drop i=z::r):l[i]?=some z/\r=l.drop (i + 1)/\i < l.length:=by
 have hi:i < l.length:=by
  rcases Nat.lt_or_ge i l.length with h1 | h1
  ·exact h1
  ·rw [List.drop_eq_nil_of_le h1] at h
   cases h
 rw [Zo hi] at h
 refine ⟨?_,(List.cons.inj h).2.symm,hi⟩
 rw [Y9 hi,(List.cons.inj h).1]
theorem ER{t:List Int}(h:t.all (fun (z:Int)=>decide (0<=z) && decide (z<=255))=true):bInts (t.map fun (n:Int)=>UInt8.ofNat n.toNat)=t:=by
 unfold bInts
 rw [List.map_map]
 have: ∀z ∈ t,((fun (x:UInt8)=>(x.toNat:Int)) ∘ fun (n:Int)=>UInt8.ofNat n.toNat) z=z:=fun z hz=>by
  have h1:=List.all_eq_true.mp h z hz
  simp only [Y_,decide_eq_true_eq] at h1
  show ((UInt8.ofNat z.toNat).toNat:Int)=z
  rw [UInt8.toNat_ofNat_of_lt' (by show z.toNat < 256;lia)]
  lia
 rw [List.map_congr_left this,List.map_id']
theorem Iu{t:List Int}(h:t.all (fun (z:Int)=>decide (0<=z) && decide (z<=255))=true):Tide.text? t=some (t.map fun (n:Int)=>UInt8.ofNat n.toNat):=by
 unfold Tide.text?
 have e:NeutralIO.bytes t=true:=by
  first
   | exact h
   | (unfold NeutralIO.bytes;rw [List.all_eq_true] at h ⊢;intro z hz;have:=h z hz;simp only [Y_,decide_eq_true_eq] at this ⊢;omega)
 rw [if_pos e]
theorem rG{s:TidePorts.State}{c:List (List Int)}{x:TidePorts.Call}(h:TidePortsNeutral.callOf c=some x):TidePortsNeutral.step s c=cD s x:=by
 unfold TidePortsNeutral.step
 rw [h]
 rfl
theorem Qe{l:List Int}{i:Nat}{c:List (List Int)}{rest:List Int}(h:PyFlat.call PyWqacco.shape (l.drop i)=some (c,rest))(ha:TidePortsNeutral.asked1 (PyWqacco.whole c)=true): ∃x j,Parsed l i x j/\rest=l.drop j/\ ∀s,TidePortsNeutral.step s (PyWqacco.whole c)=cD s x:=by
 cases hd:l.drop i with
 | nil=>rw [hd] at h;cases h
 | cons z r=>
  rw [hd] at h
  obtain ⟨hz,hr,hil⟩:=drop_cons hd
  unfold PyFlat.call at h
  dsimp only at h
  cases hs:PyWqacco.shape z with
  | none=>rw [hs] at h;cases h
  | some nk=>
   obtain ⟨nn,k⟩:=nk
   rw [hs] at h
   dsimp only at h
   by_cases hlen:r.length < nn
   ·rw [if_pos hlen] at h;cases h
   rw [if_neg hlen] at h
   have hrl:r.length=l.length - (i + 1):=by rw [hr,List.length_drop]
   have text:nn=0->k=1-> ∃t,c= [[z],t]/\rest=l.drop (i + 2 + t.length)/\l[i + 1]?=some (t.length:Int)/\i + 2 + t.length<=l.length/\(l.drop (i + 2)).take t.length=t:=by
    rintro rfl rfl
    rw [List.drop_zero,List.take_zero] at h
    cases hrow:PyFlat.row r with
    | none=>
     rw [PyFlat.rows,hrow] at h
     cases h
    | some xs=>
     obtain ⟨x,s'⟩:=xs
     rw [PyFlat.rows,hrow] at h
     have h:some ((z:: []):: [x],s')=some (c,rest):=h
     cases h
     cases r with
     | nil=>cases hrow
     | cons m r'=>
      unfold PyFlat.row at hrow
      dsimp only at hrow
      by_cases hm:0<=m/\m.toNat<=r'.length
      ·rw [if_pos hm] at hrow
       have hrow:=Option.some.inj hrow
       have h1:r'.take m.toNat=x:=congrArg Prod.fst hrow
       have h2:r'.drop m.toNat=rest:=congrArg Prod.snd hrow
       have hd2:=drop_cons (l:=l) (i:=i + 1) hr.symm
       obtain ⟨e1,e2,e3⟩:=hd2
       have hl2:r'.length=l.length - (i + 2):=by rw [e2,List.length_drop]
       have hx:x.length=m.toNat:=by rw [<-h1,Zd];lia
       refine ⟨x,rfl,?_,?_,by lia,?_⟩
       ·rw [<-h2,e2,List.drop_drop,hx]
       ·rw [e1,hx]
        congr 1
        lia
       ·rw [hx,<-h1,e2]
      ·rw [if_neg hm] at hrow;cases hrow
   have nums':k=0->c= [z::r.take nn]/\rest=l.drop (i + 1 + nn)/\(l.drop (i + 1)).take nn=r.take nn/\(r.take nn).length=nn/\i + 1 + nn<=l.length:=by
    rintro rfl
    rw [PyFlat.rows] at h
    have h:some ([z::r.take nn],r.drop nn)=some (c,rest):=h
    cases h
    refine ⟨rfl,by rw [hr,List.drop_drop],by rw [hr],by rw [Zd];lia,by lia⟩
   unfold PyWqacco.shape at hs
   by_cases h0:z=0
   ·rw [if_pos h0] at hs;cases hs
    obtain ⟨t,rfl,e1,e2,e3,e4⟩:=text rfl rfl
    subst h0
    have ha:t.all _=true:=ha
    have hb:=ER ha
    have hbl:(t.map fun (n:Int)=>UInt8.ofNat n.toNat).length=t.length:=YI _
    refine ⟨_,_,.sky (t.map fun (n:Int)=>UInt8.ofNat n.toNat) hz (by rw [hbl];exact e2) (by rw [hbl];exact e3) (by rw [hbl,hb];exact e4),by rw [hbl];exact e1,fun s=>rG (x:= .sky _) ?_⟩
    show (Tide.text? t).map _=_
    rw [Iu ha]
    rfl
   rw [if_neg h0] at hs
   by_cases h1:z=1
   ·rw [if_pos h1] at hs;cases hs
    obtain ⟨t,rfl,e1,e2,e3,e4⟩:=text rfl rfl
    subst h1
    have ha:t.all _=true:=ha
    have hb:=ER ha
    have hbl:(t.map fun (n:Int)=>UInt8.ofNat n.toNat).length=t.length:=YI _
    refine ⟨_,_,.port (t.map fun (n:Int)=>UInt8.ofNat n.toNat) hz (by rw [hbl];exact e2) (by rw [hbl];exact e3) (by rw [hbl,hb];exact e4),by rw [hbl];exact e1,fun s=>rG (x:= .port _) ?_⟩
    show (Tide.text? t).map _=_
    rw [Iu ha]
    rfl
   rw [if_neg h1] at hs
   by_cases h2:z=2
   ·rw [if_pos h2] at hs;cases hs
    obtain ⟨rfl,e1,e2,e3,e4⟩:=nums' rfl
    subst h2
    exact ⟨_,_,.num hz .print e4 rfl,e1,fun s=>rG rfl⟩
   rw [if_neg h2] at hs
   by_cases h3:z=3
   ·rw [if_pos h3] at hs;cases hs
    obtain ⟨rfl,e1,e2,e3,e4⟩:=nums' rfl
    subst h3
    exact ⟨_,_,.num hz .size e4 rfl,e1,fun s=>rG rfl⟩
   rw [if_neg h3] at hs
   by_cases h4:z=4
   ·rw [if_pos h4] at hs;cases hs
    obtain ⟨rfl,e1,e2,e3,e4⟩:=nums' rfl
    subst h4
    generalize r.take 1=ns at *
    match ns,e3 with
    | [x],_=>
     have ha:decide (0<=x)=true:=ha
     have ha:=Zc ha
     have ex:x=((x.toNat:Nat):Int):=by lia
     refine ⟨_,_,.num hz (.wave x.toNat) e4 (by rw [<-ex];exact e2),e1,fun s=>rG ?_⟩
     show (Tide.nat? x).map _=_
     unfold Tide.nat?
     rw [if_pos ha]
     rfl
   rw [if_neg h4] at hs
   by_cases h5:z=5
   ·rw [if_pos h5] at hs;cases hs
    obtain ⟨rfl,e1,e2,e3,e4⟩:=nums' rfl
    subst h5
    generalize r.take 1=ns at *
    match ns,e3 with
    | [x],_=>exact ⟨_,_,.num hz (.height x) e4 e2,e1,fun s=>rG rfl⟩
   rw [if_neg h5] at hs
   by_cases h6:z=6
   ·rw [if_pos h6] at hs;cases hs
    obtain ⟨rfl,e1,e2,e3,e4⟩:=nums' rfl
    subst h6
    generalize r.take 2=ns at *
    match ns,e3 with
    | [x,y],_=>
     have ha:decide (0<=y)=true:=ha
     have ha:=Zc ha
     have ex:y=((y.toNat:Nat):Int):=by lia
     refine ⟨_,_,.num hz (.row x y.toNat) e4 (by rw [<-ex];exact e2),e1,fun s=>rG ?_⟩
     show (Tide.nat? y).map _=_
     unfold Tide.nat?
     rw [if_pos ha]
     rfl
   rw [if_neg h6] at hs
   by_cases h7:z=7
   ·rw [if_pos h7] at hs;cases hs
    obtain ⟨rfl,e1,e2,e3,e4⟩:=nums' rfl
    subst h7
    generalize r.take 2=ns at *
    match ns,e3 with
    | [x,y],_=>
     have ha:decide (0<=y)=true:=ha
     have ha:=Zc ha
     have ex:y=((y.toNat:Nat):Int):=by lia
     refine ⟨_,_,.num hz (.most x y.toNat) e4 (by rw [<-ex];exact e2),e1,fun s=>rG ?_⟩
     show (Tide.nat? y).map _=_
     unfold Tide.nat?
     rw [if_pos ha]
     rfl
   rw [if_neg h7] at hs
   by_cases h8:z=8
   ·rw [if_pos h8] at hs;cases hs
    obtain ⟨rfl,e1,e2,e3,e4⟩:=nums' rfl
    subst h8
    generalize r.take 4=ns at *
    match ns,e3 with
    | [x,y,w,u],_=>
     have ha:(decide (0<=y) && decide (0<=u))=true:=ha
     simp only [Y_,decide_eq_true_eq] at ha
     have ex:y=((y.toNat:Nat):Int):=by lia
     have eu:u=((u.toNat:Nat):Int):=by lia
     refine ⟨_,_,.num hz (.first x y.toNat w u.toNat) e4 (by rw [<-ex,<-eu];exact e2),e1,fun s=>rG ?_⟩
     show ((Tide.nat? y) >>= fun k=>(Tide.nat? u) >>= fun v=>_)=_
     unfold Tide.nat?
     rw [if_pos ha.1,if_pos ha.2]
     rfl
   rw [if_neg h8] at hs
   cases hs
theorem Tu{z:Int}{ns:List Int}{c:TidePorts.Call}(h:sQ z ns c):z≠0/\z≠1/\ ∃j:Nat,z=(j:Int)/\([.int 0,.int 0,.int 0,.int 0,.int 1,.int 1,.int 2,.int 2,.int 4]:List V)[j]?=some (.int (ns.length:Int)):=by
 cases h with
 | print=>exact ⟨by decide,by decide,2,rfl,rfl⟩
 | size=>exact ⟨by decide,by decide,3,rfl,rfl⟩
 | wave=>exact ⟨by decide,by decide,4,rfl,rfl⟩
 | height=>exact ⟨by decide,by decide,5,rfl,rfl⟩
 | row=>exact ⟨by decide,by decide,6,rfl,rfl⟩
 | most=>exact ⟨by decide,by decide,7,rfl,rfl⟩
 | first=>exact ⟨by decide,by decide,8,rfl,rfl⟩
theorem iA.VU{A:Ad}{Y:Addr->Prop}{H:Hp}{hb:Addr}{s:TidePorts.State}{n:Nat}(h:iA A Y H hb s n):(s.port=none/\ ∃dx v1 v3,H hb=some (a_ A dx v1 .dh v3))\/(s.port≠none/\ ∃dx v1 pa v3,H hb=some (a_ A dx v1 (.ref pa) v3)):=by
 cases h with
 | no h1 h2=>exact .inl ⟨rfl,_,_,_,h2⟩
 | sky h1 h2=>exact .inl ⟨rfl,_,_,_,h2⟩
 | port h1 h2=>exact .inr ⟨by simp,_,_,_,_,h2⟩
theorem sX:ay ["harbour","tape","call","numbers"] ["harbour","tape"] (aq uF):=jv rfl (by decide +kernel)
def FP(K:W.Frag)(A:Ad):Sp:=fun vs H Q _=> ∃(Y:Addr->Prop) (hb tp dx la:Addr) (s:TidePorts.State) (n:Nat) (l:List Int) (i j:Nat) (c:TidePorts.Call),vs= [.ref hb,.ref tp]/\H tp=some (kI A dx (.ref la) (.int (i:Int)))/\b_ K H la (l.map V.int)/\l.length<=30000/\iA A Y H hb s n/\Y tp/\(∀c,H c=none-> ¬Y c)/\n < 900000/\Parsed l i c j/\ ∀D H',Kf (fun a=>Y a/\a≠tp) H H'->H' tp=some (kI A dx (.ref la) (.int (j:Int)))->iA A Y H' hb (cD s c).1 (n + 256)->H D=none->H' D=some (.lst ((cD s c).2.map V.int))->Q (.ref D) H'
theorem Ga(T:Txt K mg A):bw P w K mg base (lA) 15 A.iR A.kg ["harbour","tape"] (FP K A):=by
 refine oq T.mL sX fun vs H Q E h Rz kz=>?_
 obtain ⟨Y,hb,tp,dx,la,s0,n,l,i,j,c,rfl,e,hla,hl3,hh,hyt,hY,hn6,hp,q⟩:=h
 refine kz rfl fun cdv Ar outer s hr=>?_
 refine ⟨_,(ah (aF (i:=2) sX.nd rfl (Or.inl rfl) (d8 (pv 1) T.jc T.Dj (BY T) (hr.mono (by decide)) T.Dh .nil aL))
   (ah (b6 (aO fQ (pv 2) (aC rfl T.Ac) (aT _)) (aj (aD (aB (G2 T) (hr.mono (by decide)) rfl T.wC T.oJ.kp T.KP .nil aL (aa (pv 0) (aa (aB (Gv T) (hr.mono (by decide)) rfl T.zo T.rW.kp T.Je .nil aL (aa (d8 (pv 1) T.jc T.xh (vg T) (hr.mono (by decide)) T.xq .nil aL) ai)) ai))))) aU)
   (ah (b6 (aO fQ (pv 2) (aC rfl T.yz) (aT _)) (aj (aD (aB (E4 T) (hr.mono (by decide)) rfl T.uD T.mS.kp T.Hw .nil aL (aa (pv 0) (aa (aB (Gv T) (hr.mono (by decide)) rfl T.zo T.rW.kp T.Je .nil aL (aa (d8 (pv 1) T.jc T.xh (vg T) (hr.mono (by decide)) T.xq .nil aL) ai)) ai))))) aU)
   (ah (aF (i:=3) sX.nd rfl (Or.inl rfl) (bM (pv 1) T.jc T.ve (tY T) (hr.mono (by decide)) T.vh .nil aL (aa (gj p_ (aC rfl T.o8) (pv 2) (fun _ _=>rfl)) ai)))
   (ah (b6 (wH (Rq (au (pv 0) rfl))) (aj (aD (dJ (aa (aC rfl T.zE) ai)))) aU)
   (aj (aD (aB (BE T) (hr.mono (by decide)) rfl T.pW T.jb.kp T.C2 .nil aL (aa (pv 0) (aa (pv 2) (aa (pv 3) ai))))))))))),?_⟩
 have back: ∀ {H3:Hp} {k:Nat},Kf (· ≠tp) H H3->H3 tp=some (kI A dx (.ref la) (.int (k:Int)))->k=j->AA A Y H3 hb Q (n + 256) (cD s0 c):=fun k3 e3 hk D H' ky har hD eD=>
  q D H' ((k3.mono fun _ _ h _=>h.2).trans (ky.mono fun _ _ h _=>h.1)) (by rw [<-hk];exact ky _ _ hyt e3) har (l9 k3 e3 hD) eD
 have har3: ∀ {H3:Hp},Kf (· ≠tp) H H3->iA A Y H3 hb s0 n:=fun k3=>hh.keep (k3.mono fun c _ hc _ z=>hc (z▸hyt)) (YM _)
 have hY3: ∀ {H3:Hp} {o:HO},Kf (· ≠tp) H H3->H3 tp=some o-> ∀c,H3 c=none-> ¬Y c:=fun k3 e3 c hc=>hY c (l9 k3 e3 hc)
 cases hp with
 | sky b hz h2 h3 h4=>
  refine ⟨_,rfl,tp,_,_,rfl,e,rfl,tp,dx,la,l,i,0,rfl,e,hla,hz,fun H1 k1 e1=>⟨_,rfl,rfl,_,rfl,Dq rfl ⟨_,rfl,_,rfl,tp,_,_,rfl,e1,rfl,tp,dx,la,l,i + 1,b.length,rfl,e1,b_.Wt hla k1 e,h2,by lia,fun D H2 k2 e2 hD eD=>?_⟩⟩⟩
  have k02:=k1.trans k2
  rw [show i + 1 + 1=i + 2 from rfl,h4] at eD
  refine ⟨D,b,rfl,b_.of eD,by lia,fun t H3 s3 tx=>?_⟩
  have k03:Kf (· ≠tp) H H3:=k02.trans (Kf.of s3)
  exact ⟨Y,hb,t,b,s0,n,rfl,tx,har3 k03,hY3 k03 (s3 _ _ e2),back k03 (s3 _ _ e2) (by lia)⟩
 | port b hz h2 h3 h4=>
  refine ⟨_,rfl,tp,_,_,rfl,e,rfl,tp,dx,la,l,i,1,rfl,e,hla,hz,fun H1 k1 e1=>⟨_,rfl,rfl,_,rfl,kJ (by decide) ⟨_,rfl,rfl,_,rfl,Dq rfl ⟨_,rfl,_,rfl,tp,_,_,rfl,e1,rfl,tp,dx,la,l,i + 1,b.length,rfl,e1,b_.Wt hla k1 e,h2,by lia,fun D H2 k2 e2 hD eD=>?_⟩⟩⟩⟩
  have k02:=k1.trans k2
  rw [show i + 1 + 1=i + 2 from rfl,h4] at eD
  refine ⟨D,b,rfl,b_.of eD,by lia,fun t H3 s3 tx=>?_⟩
  have k03:Kf (· ≠tp) H H3:=k02.trans (Kf.of s3)
  exact ⟨Y,hb,t,b,s0,n,rfl,tx,har3 k03,hY3 k03 (s3 _ _ e2),back k03 (s3 _ _ e2) (by lia)⟩
 | num hz hc h3 h4=>
  rename_i z ns
  obtain ⟨z0,z1,m,em,hm⟩:=Tu hc
  refine ⟨_,rfl,tp,_,_,rfl,e,rfl,tp,dx,la,l,i,z,rfl,e,hla,hz,fun H1 k1 e1=>⟨_,rfl,rfl,_,rfl,kJ z0 ⟨_,rfl,rfl,_,rfl,kJ z1 ⟨_,rfl,tp,_,_,rfl,e1,rfl,_,rfl,A.dD,_,_,_,rfl,rfl,T.BW.sq,at_of em hm,tp,dx,la,l,i + 1,ns.length,rfl,e1,b_.Wt hla k1 e,by lia,fun D H2 k2 e2 hD eD=>?_⟩⟩⟩⟩
  have k02:=k1.trans k2
  rw [h4] at eD
  have hh2:=har3 k02
  have q2:=back k02 e2 rfl
  rcases hh2.VU with ⟨hn,dx',v1,v3,eh⟩ | ⟨hn,dx',v1,pa,v3,eh⟩
  ·refine ⟨_,rfl,_,_,_,_,_,rfl,eh,T.bF,T.cy,rfl,_,rfl,?_⟩
   rw [YQ (rfl:V.dh=V.dh)]
   rw [K2 hn hc] at q2
   exact cC ⟨by show 1<=sizeLine;decide,fun D' hD'=>q2 D' _ (Kf.new hD') (hh2.keep (Kf.new hD') (by lia)) hD' af⟩
  ·refine ⟨_,rfl,_,_,_,_,_,rfl,eh,T.bF,T.cy,rfl,_,rfl,?_⟩
   rw [YJ (show ¬V.ref pa=V.dh from fun z=>nomatch z)]
   exact cM ⟨_,rfl,_,rfl,_,rfl,Y,hb,D,s0,n,z,ns,c,rfl,eD,hh2,hn,hY3 k02 e2,hn6,hc,q2⟩
theorem Uu{A:Ad}{Y:Addr->Prop}{H:Hp}{hb:Addr}{s:TidePorts.State}{n:Nat}(h:iA A Y H hb s n){l:List Int}{i j:Nat}{c:TidePorts.Call}(hp:Parsed l i c j):(cD s c).2.length<=11000:=by
 cases hp with
 | sky b=>
  cases hj:Tide.judge b with
  | error f=>rw [Dz hj];show 3<=11000;decide
  | ok ls=>rw [DC hj];show 1<=11000;decide
 | port b=>
  cases hs:s.sky with
  | none=>rw [Bs hs];show 1<=11000;decide
  | some ls=>
   cases hj:Tide.judgePort ls b with
   | error f=>rw [A7 hs hj];show 3<=11000;decide
   | ok ls=>rw [A_ hs hj];show 1<=11000;decide
 | num _ hc=>
  cases h with
  | no=>rw [K2 rfl hc];show 1<=11000;decide
  | sky=>rw [K2 rfl hc];show 1<=11000;decide
  | port h1 h2 h3 h4 h5 h6 h7 h8 h9 h10=>
   rename_i dx sk pa ta sa ha ls p
   cases hc with
   | print=>
    rw [Lk]
    have:=Dl h8
    have:=h9.ln
    show (List.length (List.map _ _)) + 1 + 1<=11000
    rw [YI]
    lia
   | size=>rw [OL];show 3<=11000;decide
   | wave i=>
    rw [OB]
    unfold Bo
    cases p.shares[i]? with
    | none=>show 1<=11000;decide
    | some x=>show 4<=11000;decide
   | height t=>
    rw [IF]
    dsimp only
    split
    ·show 1<=11000;decide
    ·show 2<=11000;decide
   | row t k=>
    rw [SG]
    dsimp only
    split
    ·show 1<=11000;decide
    ·rename_i hb
     have h3:=En t k
     rw [Bool.eq_false_iff.mpr hb] at h3
     have:=(Eh h3).2.2
     show (Tide.heights ls p t k).length + 1 + 1<=11000
     rw [nS]
     lia
   | most t k=>
    rw [Ph]
    dsimp only
    split
    ·show 1<=11000;decide
    ·show 5<=11000;decide
   | first t k h up=>
    rw [L6]
    dsimp only
    split
    ·show 1<=11000;decide
    ·cases Tide.firstOf (Tide.heights ls p t k) (B_ h up) with
     | none=>show 1<=11000;decide
     | some x=>show 2<=11000;decide
structure Ir(l:List Int)(i:Nat)(s:TidePorts.State)(n:Nat)(acc:List Int):Prop where
 ex: ∃(f:Nat) (cs:List (List (List Int))),PyFlat.calls PyWqacco.shape f (l.drop i)=some cs/\(∀c ∈ cs,TidePortsNeutral.asked1 (PyWqacco.whole c)=true)/\PyWqacco.answers l=acc++PyFlat.told (PyFlat.played TidePortsNeutral.step s (cs.map PyWqacco.whole))/\n + 256 * cs.length<=76800/\acc.length + 11001 * cs.length<=3300300
theorem NS{l:List Int}(h:PyWqacco.answers_asked l=true):Ir l 0 TidePorts.start 0 []:=by
 unfold PyWqacco.answers_asked at h
 cases hc:PyWqacco.calls l with
 | none=>rw [hc] at h;cases h
 | some cs=>
  rw [hc] at h
  have h:(PyFlat.atMost 300 cs && TidePortsNeutral.asked cs)=true:=h
  rw [Y_] at h
  have hc2:=hc
  unfold PyWqacco.calls at hc
  cases hf:PyFlat.calls PyWqacco.shape l.length l with
  | none=>rw [hf] at hc;cases hc
  | some cs0=>
   rw [hf] at hc
   have hc:some (cs0.map PyWqacco.whole)=some cs:=hc
   cases hc
   have h300:cs0.length<=300:=by
    have:=Zc h.1
    rw [YI] at this
    exact this
   have hall:(cs0.map PyWqacco.whole).all TidePortsNeutral.asked1=true:=(Bool.and_eq_true_iff.mp h.2).2
   refine ⟨⟨l.length,cs0,by rw [List.drop_zero];exact hf,fun c hcm=>List.all_eq_true.mp hall _ (Ze hcm),?_,by lia,by show 0 + 11001 * cs0.length<=_;lia⟩⟩
   unfold PyWqacco.answers
   rw [hc2]
   rfl
theorem Rf{l:List Int}{i:Nat}{s:TidePorts.State}{n:Nat}{acc:List Int}(h:Ir l i s n acc)(hi:l.length<=i):PyWqacco.answers l=acc:=by
 obtain ⟨f,cs,h1,h2,h3,h4,h5⟩:=h.ex
 rw [List.drop_eq_nil_of_le hi] at h1
 have:cs= []:=by
  cases f <;> exact (Option.some.inj h1).symm
 rw [this] at h3
 rw [h3]
 show acc++ []=acc
 rw [Y0]
theorem Qo{l:List Int}{i:Nat}{s:TidePorts.State}{n:Nat}{acc:List Int}(h:Ir l i s n acc)(hi:i < l.length):n<=76544/\acc.length + 11001<=3300300/\ ∃x j,Parsed l i x j/\((cD s x).2.length<=11000->Ir l j (cD s x).1 (n + 256) (acc++ [((cD s x).2.length:Int)]++(cD s x).2)):=by
 obtain ⟨f,cs,h1,h2,h3,h4,h5⟩:=h.ex
 obtain ⟨z,hz⟩: ∃z,l.drop i=z::l.drop (i + 1):=⟨l[i],Zo hi⟩
 rw [hz] at h1
 cases f with
 | zero=>cases h1
 | succ f=>
  rw [PyFlat.calls] at h1
  cases hc:PyFlat.call PyWqacco.shape (z::l.drop (i + 1)) with
  | none=>rw [hc] at h1;cases h1
  | some ct=>
   obtain ⟨c,t⟩:=ct
   rw [hc] at h1
   dsimp only at h1
   cases hc2:PyFlat.calls PyWqacco.shape f t with
   | none=>rw [hc2] at h1;cases h1
   | some cs2=>
    rw [hc2] at h1
    have h1:some (c::cs2)=some cs:=h1
    cases h1
    rw [<-hz] at hc
    obtain ⟨x,j,hp,hr,hst⟩:=Qe hc (h2 c YN)
    rw [YU] at h4 h5
    refine ⟨by lia,by lia,x,j,hp,fun hl=>⟨⟨f,cs2,by rw [<-hr];exact hc2,fun c' hc'=>h2 c' (YK _ hc'),?_,by lia,?_⟩⟩⟩
    ·rw [h3,YS]
     show acc++(((((TidePortsNeutral.step s (PyWqacco.whole c)).2.length:Nat):Int)::(TidePortsNeutral.step s (PyWqacco.whole c)).2)++PyFlat.told (PyFlat.played TidePortsNeutral.step (TidePortsNeutral.step s (PyWqacco.whole c)).1 (cs2.map PyWqacco.whole)))=_
     rw [hst s]
     simp only [Y3,List.cons_append,List.nil_append]
    ·rw [YH,YH]
     show acc.length + 1 + _ + _<=_
     lia
theorem rZ:ay ["calls","harbour","tape","told","answer"] ["calls"] (aq CM):=jv rfl (by decide +kernel)
def NU(K:W.Frag)(A:Ad):Sp:=fun vs H Q _=> ∃(la:Addr) (l:List Int),vs= [.ref la]/\b_ K H la (l.map V.int)/\l.length<=30000/\PyWqacco.answers_asked l=true/\ ∀D H',aN H H'->H' D=some (.lst ((PyWqacco.answers l).map V.int))->Q (.ref D) H'
theorem Nt(T:Txt K mg A):bw P w K mg base (lA) 16 A.l0 A.nU ["calls"] (NU K A):=by
 refine oq T.vG rZ fun vs H Q E h Rz kz=>?_
 obtain ⟨la,l,rfl,hla,hl3,hask,q⟩:=h
 refine kz rfl fun cdv Ar outer s hr=>?_
 refine ⟨_,(ah (aF (i:=1) rZ.nd rfl (Or.inl rfl) (SO T.AQ (DQ T) (hr.mono (by decide)) rfl T.C1 T.E2 .nil aL))
   (ah (aF (i:=2) rZ.nd rfl (Or.inl rfl) (jz T.JT (Km T) (hr.mono (by decide)) rfl T.NQ T.MS .nil aL (aa (pv 0) ai)))
   (ah (aF (i:=3) rZ.nd rfl (Or.inl rfl) (dJ ai))
   (ah (ow PassesOwn.never (Ak (oA (d8 (pv 2) T.jc T.Ie (GR T) (hr.mono (by decide)) T.Hj .nil aL))) (ah (aF (i:=4) rZ.nd rfl (Or.inl rfl) (aB (Ga T) (hr.mono (by decide)) rfl T.uO T.mL.kp T.HZ .nil aL (aa (pv 1) (aa (pv 2) ai))))
   (ah (cJ (qw PySem.F.plainAttrs_list PySem.F.slot_list_append PySem.F.type_list_append nZ (pv 3) (aa (bN jA (by rfl) T.xu PySem.boot_len (aa (pv 4) ai)) ai)))
   (aj (cJ (qw PySem.F.plainAttrs_list PySem.F.slot_list_extend PySem.F.type_list_extend QY (pv 3) (aa (pv 4) ai)))))))
   (aj (aD (pv 3))))))),?_⟩
 intro hb dxh hhb hdh ndh
 refine ⟨hb,dxh,rfl,af,rfl,?_⟩
 rw [b8]
 have s1:aN H (upd (upd H dxh (.own hb)) hb (a_ A dxh .dh .dh .dh)):=bS hhb hdh
 have e1:upd (upd H dxh (.own hb)) hb (a_ A dxh .dh .dh .dh) hb=some (a_ A dxh .dh .dh .dh):=af
 generalize upd (upd H dxh (.own hb)) hb (a_ A dxh .dh .dh .dh)=H1 at s1 e1
 refine ⟨_,rfl,fun tp dxt htp hdt ndt=>⟨tp,dxt,_,rfl,af,rfl,?_⟩⟩
 rw [b8]
 have s2:aN H1 (upd (upd H1 dxt (.own tp)) tp (kI A dxt (.ref la) (.int 0))):=bS htp hdt
 have e2:upd (upd H1 dxt (.own tp)) tp (kI A dxt (.ref la) (.int 0)) tp=some (kI A dxt (.ref la) (.int ((0:Nat):Int))):=af
 generalize upd (upd H1 dxt (.own tp)) tp (kI A dxt (.ref la) (.int 0))=H2 at s2 e2
 refine ⟨YW _,fun out hout=>?_⟩
 have s3:aN H2 (upd H2 out (.lst [])):=aN.new hout
 have e3:upd H2 out (.lst []) out=some (.lst (([]:List Int).map V.int)):=af
 generalize upd H2 out (.lst [])=H3 at s3 e3
 have n_ht:hb≠tp:=ao e1 htp
 have n_ho:hb≠out:=ao (s2 _ _ e1) hout
 have n_to:tp≠out:=ao e2 hout
 have ftp:H tp=none:=s1.free htp
 have fout:H out=none:=s1.free (s2.free hout)
 have s03:aN H H3:=s1.trans (s2.trans s3)
 have hY0: ¬(hb=tp\/hb=out\/H hb≠none):=by
  rintro (z | z | z)
  ·exact n_ht z
  ·exact n_ho z
  ·exact z hhb
 refine ⟨fun m σ H'=> ∃(i:Nat) (st':TidePorts.State) (n:Nat) (acc:List Int) (v:Option V),m=l.length - i/\σ= [some (.ref la),some (.ref hb),some (.ref tp),some (.ref out),v]/\aN H H'/\iA A (fun c=>c=tp\/c=out\/H c≠none) H' hb st' n/\H' tp=some (kI A dxt (.ref la) (.int (i:Int)))/\H' out=some (.lst (acc.map V.int))/\Ir l i st' n acc,
  ⟨_,0,TidePorts.start,0,[],none,rfl,rfl,s03,.no hY0 (s3 _ _ (s2 _ _ e1)),s3 _ _ e2,e3,NS hask⟩,?_⟩
 clear e3 s3 s03 H3 e2 s2 H2 e1 s1 H1 hout htp hdt
 rintro m σ H4 ⟨i,st',n,acc,v,rfl,rfl,s4,har,et,eo,lf⟩
 refine ⟨_,rfl,tp,_,_,rfl,et,rfl,tp,dxt,la,l,i,rfl,et,s4.seq hla,_,rfl,?_⟩
 by_cases hi:l.length<=i
 ·rw [YQ hi]
  refine cM ⟨_,rfl,q out H4 s4 ?_⟩
  rw [Rf lf hi]
  exact eo
 ·rw [YJ hi]
  obtain ⟨hn,hacc,x,j,hp,nx⟩:=Qo lf (by omega)
  have hln:=Uu har hp
  have hpl:=hp.lt
  refine cC ⟨fun σ' H'=> ∃(i':Nat) (st2:TidePorts.State) (n2:Nat) (acc2:List Int) (v:Option V),i < i'/\σ'= [some (.ref la),some (.ref hb),some (.ref tp),some (.ref out),v]/\aN H H'/\iA A (fun c=>c=tp\/c=out\/H c≠none) H' hb st2 n2/\H' tp=some (kI A dxt (.ref la) (.int (i':Int)))/\H' out=some (.lst (acc2.map V.int))/\Ir l i' st2 n2 acc2,
   fun σ' H' ⟨i',st2,n2,acc2,v,z1,z2,z3,z4,z5,z6,z7⟩=>⟨l.length - i',by omega,i',st2,n2,acc2,v,rfl,z2,z3,z4,z5,z6,z7⟩,?_⟩
  have hY4: ∀c,H4 c=none-> ¬(c=tp\/c=out\/H c≠none):=by
   rintro c hc (z | z | z)
   ·rw [z,et] at hc;cases hc
   ·rw [z,eo] at hc;cases hc
   ·exact z (s4.free hc)
  refine ⟨_,rfl,_,rfl,(fun c=>c=tp\/c=out\/H c≠none),hb,tp,dxt,la,st',n,l,i,j,x,rfl,et,s4.seq hla,hl3,har,.inl rfl,hY4,by omega,hp,fun D H5 k5 et5 har5 hD eD=>?_⟩
  have eo5:H5 out=some (.lst (acc.map V.int)):=k5 _ _ ⟨.inr (.inl rfl),Ne.symm n_to⟩ eo
  have s5:aN H H5:=fun c o hc=>k5 c o ⟨.inr (.inr (by rw [hc];simp)),fun z=>by rw [z,ftp] at hc;cases hc⟩ (s4 c o hc)
  have nDo:D≠out:=fun z=>by rw [z,eo] at hD;cases hD
  refine ⟨_,rfl,.inl ⟨rfl,_,b_.of eo5⟩,_,rfl,D,_,rfl,.inl (b_.of eD),out,_,_,rfl,rfl,eo5,by rw [YI,sizeLine_eq];omega,?_⟩
  rw [YI]
  have eo6:upd H5 out (.lst (acc.map V.int++ [.int ((cD st' x).2.length:Int)])) out=some (.lst (acc.map V.int++ [.int ((cD st' x).2.length:Int)])):=af
  have eD6:upd H5 out (.lst (acc.map V.int++ [.int ((cD st' x).2.length:Int)])) D=some (.lst ((cD st' x).2.map V.int)):=by rw [ak nDo];exact eD
  refine ⟨_,rfl,.inl ⟨rfl,_,b_.of eo6⟩,_,rfl,out,D,_,_,rfl,rfl,eo6,eD6,?_,?_⟩
  ·rw [YH,YI,YI,sizeLine_eq]
   show acc.length + 1 + _<=_
   omega
  ·rw [b8]
   have ko: ∀ {o:HO},Kf (fun c=> ¬(c=tp\/c=out\/H c≠none)) H5 (upd H5 out o):=Kf.put fun z=>z (.inr (.inl rfl))
   refine ⟨j,(cD st' x).1,n + 256,acc++ [((cD st' x).2.length:Int)]++(cD st' x).2,some (.ref D),by omega,rfl,fun c o hc=>?_,har5.keep ko (YM _),?_,?_,nx hln⟩
   ·rw [ak (ao hc fout)]
    exact s5 c o hc
   ·rw [ak n_to]
    exact et5
   ·rw [af,YT,YT]
    rfl
end Td
end
open PySem PySem.W PyProof.Rows
set_option maxRecDepth 100000 in
set_option maxHeartbeats 0 in
theorem PySem.Challenge.cw_tideports_s01_answers_holds : PySem.Challenge.rw_tideports_s01_answers.Holds := by
  refine tpH ⟨HB.left (K:=HB.K) (boot_open (by kernel_rfl) rfl (fun s=>by kernel_rfl)) HB.hr HB.ht HB.k0 HB.k1 HB.k2 HB.k3 HB.k4 HB.k5 HB.k6 HB.k8 HB.k9 HB.k10 HB.k11 HB.k12 (by as_aux_lemma=>intro g w os;kernel_rfl),?_⟩
  k_fillS
  refine L2.NT (r:=PySem.Challenge.rw_tideports_s01_answers) (k:=16) (CX:=L2.lA) (ps:= ["calls"]) (sp:=Td.XJ) (by decide +kernel) rfl rfl ⟨rfl,by decide,by decide⟩ (fun w h Y=>PySem.W.kIn_of Y) ?F ?S (fun _ _ _ _ z=>z)
  case F=>
    intro w mg fa h Y KX G hmg
    refine' Td.all_mk KX G hmg (fun T=>Td.Nt T) ?_ ?_ ?_ ?_ ?_ ?_ ?_ ?_ ?_ ?_ ?_ ?_ ?_ ?_ ?_ ?_ ?_ ?_ ?_ ?_ ?_ ?_ ?_ ?_ ?_ ?_ ?_ ?_ ?_ ?_ ?_ ?_ ?_ ?_ ?_ ?_ ?_ ?_ ?_ ?_ ?_ ?_ ?_ ?_ ?_ ?_ ?_ ?_ ?_ ?_ ?_ ?_ ?_ ?_ ?_ ?_ ?_ ?_ ?_ ?_ ?_ ?_ ?_ ?_ ?_ ?_ ?_ ?_ ?_ ?_ ?_ ?_ ?_ ?_ ?_ ?_ ?_ ?_ ?_ ?_ ?_ ?_ ?_ ?_ ?_ ?_ ?_ ?_ ?_ ?_ ?_ ?_ ?_ ?_ ?_ ?_ ?_ ?_ ?_ ?_ ?_ ?_ ?_ ?_ ?_ ?_ ?_ ?_ ?_ ?_ ?_ ?_ ?_ ?_ ?_ ?_ ?_ ?_ ?_ ?_ ?_ ?_ ?_ ?_ ?_ ?_ ?_ ?_ ?_ ?_ ?_ ?_ ?_ ?_ ?_ ?_ ?_ ?_ ?_ ?_ ?_ ?_ ?_ ?_ ?_ ?_ ?_ ?_ ?_ ?_ ?_ ?_ ?_ ?_ ?_ ?_ ?_ ?_ ?_ ?_ ?_ ?_ ?_ ?_ ?_ ?_ ?_ ?_ ?_ ?_ ?_ ?_ ?_ ?_ ?_ ?_ ?_ ?_ ?_ ?_ ?_ ?_ ?_ ?_ ?_ ?_ ?_ ?_ ?_ ?_ ?_ ?_ ?_ ?_ ?_ ?_ ?_ ?_ ?_ ?_ ?_ ?_ ?_ ?_ ?_ ?_ ?_ ?_ ?_ ?_ ?_ ?_ ?_ ?_ ?_ ?_ ?_ ?_ ?_ ?_ ?_ ?_ ?_ ?_ ?_ ?_ ?_ ?_ ?_ ?_ ?_ ?_ ?_ ?_ ?_ ?_ ?_ ?_ ?_ ?_ ?_ ?_ ?_ ?_ ?_ ?_ ?_ ?_ ?_ ?_ ?_ ?_ ?_ ?_ ?_ ?_ ?_ ?_ ?_ ?_ ?_ ?_ ?_ ?_ ?_ ?_ ?_ ?_ ?_ ?_ ?_ ?_ ?_ ?_ ?_ ?_ ?_ ?_ ?_ ?_ ?_ ?_ ?_ ?_ ?_ ?_ ?_ ?_ ?_ ?_ ?_ ?_ ?_ ?_ ?_ ?_ ?_ ?_ ?_ ?_ ?_ ?_ ?_ ?_ ?_ ?_ ?_ ?_ ?_ ?_ ?_ ?_ ?_ ?_ ?_ ?_ ?_ ?_ ?_ ?_ ?_ ?_ ?_ ?_ ?_ ?_ ?_ ?_ ?_ ?_ ?_ ?_ ?_ ?_ ?_ ?_ ?_ ?_ ?_ ?_ ?_ ?_ ?_ ?_ ?_ ?_ ?_ ?_ ?_ ?_ ?_ ?_ ?_ ?_ ?_ ?_ ?_ ?_ ?_ ?_ ?_ ?_ ?_ ?_ ?_ ?_ ?_
    all_goals try first | k_is | exact rfl | (refine' L2.Vx ?l ?c ?k;(case l=>k_is);(case c=>k_is);(case k=>k_is)) | (refine' L2.zy.mk ?_ ?_ ?_ ?_ <;> k_is) | exact ⟨_,_,rfl,rfl,by decide,by repeat (first | exact .nil | refine .cons ⟨_,rfl⟩ ?_)⟩ | kernel_rfl
  case S=>
    intro K H xs a hO hwi hask hx
    cases hx with
    | cons h1 h2=>
      cases h2
      cases h1 with
      | lst hs ha=>
        have e:=L2.Ov a.1 _ ha
        subst e
        have q:((Codec.inLen 0 30000 a.1 && a.1.all (Codec.inInt (-4294967296) 4294967295)) && true)=true:=hwi
        rw [Y_,Y_] at q
        exact ⟨_,a.1,rfl,hs,(Codec.inNat_iff.mp q.1.1).2,hask,fun D H' _ hp=> .lst (L2.b_.of hp) (L2.ON _)⟩
