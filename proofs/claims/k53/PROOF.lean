import PyProof.Rows.All
import Wide.All
import OpenK.AllK
import Wide.FinOn
import Lean
import PyProof.EqAt
import PyProof.EqKinds
import PyProof.TupleCall
import PyProof.NeKinds
import PyProof.DelItemList
import PyProof.StationsW
import PyProof.Rows.Own
import PyProof.RulesDel
import PyProof.RulesAs
import PyProof.ExcBaseAll.ValueError
import KE.KTryMore
import PyProof.ExcArgs
import KE.KIsAll
import PyProof.ListRange
import PyProof.Rows.RuleM_int
import PyProof.Draws
import PyProof.EnumMake
import KE.KDictSum
import KE.KItemsList
import KE.KSortTup
import PyProof.MinMaxWalk
import PyProof.WalkInts
import PyProof.CallTypeRange
import KE.KEqDict
import PyProof.FitsInt
import PyProof.Rows.StrNews
import KE.KIntText
import PyProof.StrWalks
import PyProof.Rows.StrRules
import KE.KUnpackStar
import PyProof.StrLawsTight
import PyProof.StrLawsChain
import PyProof.Rows.StrClose
import PyProof.SetRoads
import PyProof.DictCompW
import PyProof.ReprRoads
import PyProof.ReprLen
import PyProof.AttrMissHeap
import KE.KDictOf
import PyProof.DictWalks
import PyProof.SeqI3
import PyProof.StrBlockI
import PyProof.StrOps2
import PySem.Challenge.RW_chipbus_k53_bad_rows
set_option linter.all false
def O:=@rfl
local macro_rules(kind:=«term{_}»)|`({$xs,*})=>`(⟨$xs,*⟩)
set_option genSizeOf false
set_option bootstrap.genMatcherCode false
set_option tactic.hygienic false
section
open PySem PySem.W PySem.Spec PyProof.Rows
def Xaa:=@wpAny_bind
def Xab:=@Heap.get?_push_of_some
def Xac:=@wpAny_pure
def Xad:=@Nat.le_refl
def Xae:=@List.mem_singleton
def Xaf:=@List.length_map
def Xag:=@Heap.get?_push_size
def Xah:=@List.length_append
def Xai:=@Heap.lt_size
def Xaj:=@Bool.false_ne_true
def Xak:=@Nat.le_trans
def Xal:=@decide_eq_true
def Xam:=@decide_eq_false
def Xan:=@List.mem_cons
def Xao:=@Nat.lt_of_lt_of_le
def Xap:=@Int.toNat_natCast
def Xaq:=@List.size_toArray
def Xar:=@List.length_cons
def Xas:=@List.getElem?_eq_some_iff
def Xat:=@List.mem_cons_self
def Xau:=@List.mem_cons_of_mem
def Xav:=@wpAny_mono
def Xaw:=@List.map_append
def Xax:=@List.getElem?_map
def Xay:=@Nat.ne_of_lt
def Xaz:=@List.getElem?_eq_getElem
def XaA:=@of_decide_eq_true
def XaB:=@List.mem_append_right
def XaC:=@Heap.size_push
def XaD:=@Option.map_eq_some_iff
def XaE:=@wpAny_holding
def XaF:=@List.mem_of_getElem?
def XaG:=@wpAny_field
def XaH:=@List.mem_append
def XaI:=@Bool.and_eq_true_iff
def XaJ:=@Array.getElem?_eq_getElem
def XaK:=@Heap.get?_update_self
def XaL:=@List.getElem?_eq_none
def XaM:=@Heap.get?_update_other
def XaN:=@List.all_eq_true
def XaO:=@List.mem_append_left
def XaP:=@Nat.testBit_and
def XaQ:=@wpAny_call_entry
def XaR:=@List.map_cons
def XaS:=@wpAny_newObj_type
def XaT:=@List.nodup_append
def XaU:=@List.length_nil
def XaV:=@List.mem_nil_iff
def XaW:=@Nat.pow_le_pow_right
def XaX:=@wpAny_setField
def XaY:=@Nat.lt_irrefl
def XaZ:=@List.length_take
def Xa0:=@Bool.and_eq_true
def Xa1:=@List.mem_map
def Xa2:=@List.length_range
def Xa3:=@wpAny_truthy_bool
def Xa4:=@wpAny_seqItems
def Xa5:=@Nat.lt_of_le_of_lt
def Xa6:=@List.getElem_mem
def Xa7:=@wpAny_askSetting
def Xa8:=@List.replicate_succ
def Xa9:=@wpAny_standAt
def Xba:=@Bool.false_and
def Xbb:=@Nat.testBit_succ
def Xbc:=@wpAny_setState_of
def Xbd:=@Array.getElem?_toList
def Xbe:=@Nat.ne_of_gt
def Xbf:=@wpAny_Call_Name_kw
def Xbg:=@wpAny_setField_rec
def Xbh:=@wpAny_pyIter_list
def Xbi:=@Nat.testBit_two_pow
def Xbj:=@codeAny_mono
def Xbk:=@List.take_of_length_le
def Xbl:=@Array.getElem?_eq_some_iff
def Xbm:=@Nat.lt_succ_self
def Xbn:=@Nat.le_add_right
def Xbo:=@Bool.and_false
def Xbp:=@List.pairwise_iff_getElem
def Xbq:=@Array.mem_toList_iff
def Xbr:=@wpAny_call
def Xbs:=@codeAny_call_builtin
def Xbt:=@wpAny_attempt
def Xbu:=@List.length_drop
def Xbv:=@Nat.le_succ
def Xbw:=@wpAny_passesOwn
def Xbx:=@List.nodup_cons
def Xby:=@List.length_replicate
def Xbz:=@Heap.get?_none_of_le
def XbA:=@wpAny_rule
def XbB:=@wpAny_comprehension_free
def XbC:=@List.getElem_map
def XbD:=@List.mem_filterMap
def XbE:=@wpAny_pyIter_tuple
def XbF:=@List.append_nil
def XbG:=@Bool.or_eq_true
def XbH:=@List.getElem?_set_self
end
set_option Elab.async false
set_option linter.all false
set_option maxRecDepth 100000
set_option maxHeartbeats 4000000
local macro_rules|`(tactic| omega)=>`(tactic| lia)
section
set_option maxRecDepth 1000000
set_option maxHeartbeats 0
namespace Hd
open PySem PySem.W
noncomputable def runQ(p:Program)(w:World)(n₀:Nat)(ann:Option Value)(N:Nat):SharedT->Thread->Option SharedT:=
 @Nat.rec (λ_=>SharedT->Thread->Option SharedT) (λ_ _=>none) (λ_ ih s t=>match through t with
  | true=>some s
  | false=>match Fast.tw6613529449190102663 n₀ ann t with
   | false=>none
   | true=>match Fast.tw10156331382660048174 (Fast.tw11892475500146522536 Fast.tw14364793385576792824) p w s t with
    | some (s',t')=>ih s' t'
    | none=>none) N
def zk8{p:Program}{w:World}{n₀:Nat}{ann:Option Value}:∀{N:Nat} {s s':SharedT} {t:Thread},runQ p w n₀ ann N s t=some s'->topRun treeTable p w n₀ ann N s.abs t=some s'.abs
 | 0,s,s',t,h=>by cases h
 | N+1,s,s',t,h=>by
  have h:(match through t with
  | true=>some s
  | false=>match Fast.tw6613529449190102663 n₀ ann t with
   | false=>none
   | true=>match Fast.tw10156331382660048174 (Fast.tw11892475500146522536 Fast.tw14364793385576792824) p w s t with
    | some (s',t')=>runQ p w n₀ ann N s' t'
    | none=>none)=some s':=h
  rw[<- Fast.te6613529449190102663,<- Fast.te10156331382660048174,<- Fast.te11892475500146522536,<- Fast.te14364793385576792824] at h
  unfold topRun
  cases ht:through t with
  | true=>rw[ht] at h;cases h;rfl
  | false =>
   rw[ht] at h
   cases hk:stepOk n₀ ann t with
   | false=>rw[hk] at h;cases h
   | true =>
    rw[hk] at h
    cases hs:stepT (denote treeTable) p w s t with
    | none=>rw[hs] at h;cases h
    | some r=>obtain⟨s₂,t₂⟩:=r;rw[hs] at h;dsimp only;rw[stepT_spec hs];exact zk8 h
noncomputable def treeL:List Obj->Nat->BT->BT:=@List.rec Obj (λ_=>Nat->BT->BT) (λ_ t=>t) (λo _ ih n t=>ih (n+1) (t.ins n o))
noncomputable def zmB(P:Params):BT:=treeL (boot_heap P).objs.toList 0 .nil
def zk3(P:Params):absHeap (zmB P) 11 (boot_heap P).life=boot_heap P:=by kernel_rfl
def zjN(P:Params):((boot_heap P).isNs mainGlobals&&(Array.mk []:Array GenState).size==0,(boot_heap P).objs.size,(boot_heap P).nsMap mainGlobals "__annotations__")=(true,11,some (.ref 6)):=by kernel_rfl
noncomputable def zce(P:Params)(os:OsState):SharedT:={zmB P,11,(boot_heap P).life,Array.mk [],boot_drawn,boot_toks,os}
noncomputable def getT(s:SharedT)(a:Addr):Option Obj:=match Nat.blt a s.n with
 | true=>match s.tree.get a with
  | some o=>alive o
  | none=>none
 | false=>none
def zms{s:SharedT}{a:Addr}{o:Obj}(h:getT s a=some o):s.abs.heap.get? a=some o:=by
 unfold getT at h
 cases e:Nat.blt a s.n with
 | false=>rw[e] at h;cases h
 | true =>
  rw[e] at h
  cases g:s.tree.get a with
  | none=>rw[g] at h;cases h
  | some x=>rw[g] at h;exact(abs_get (Nat.le_of_ble_eq_true e) g).trans h
def zha{s:SharedT}:∀{as:List Addr} {L:List (Nat×Obj)},as.map (getT s)=L.map (λp=>some p.2)->as.map s.abs.heap.get?=L.map (λp=>some p.2)
 | [],[],_=>rfl
 | [],_::_,h=>by cases h
 | _::_,[],h=>by cases h
 | a::as,p::L,h=>by
  obtain⟨h1,h2⟩:=List.cons.inj h
  exact List.cons_eq_cons.mpr {zms h1,zha h2}
abbrev zf8(p q:Program)(loose:List Str)(Xt:Shared->Bool)(N:Nat)(g0:Bool)(w:World)(os:OsState):Prop:=(runQ p w 11 (some (.ref 6)) N (zce w.params os) (topStub p)).map (λs =>
   ((staticsOk (importedModules p.main.body) (boot_heap w.params) s.abs.heap&&namesBound p s.abs.heap&&gensDone s.abs&&laidKept (boot_heap w.params) s.abs.heap),openSeen q loose (importedModules p.main.body) Xt g0 s.abs))=some (true,openGood q loose)
def zly(p q:Program)(loose:List Str)(Xt:Shared->Bool)(N:Nat)(g0:Bool):Prop:=∀(w:World) (os:OsState),zf8 p q loose Xt N g0 w os
def SeenF(row:String)(b:Bool)(p q:Program)(loose:List Str)(Xt:Shared->Bool)(N:Nat)(g0:Bool):Prop:=∀(w:World) (os:OsState),zf8 p q loose Xt N g0 (w.withFollow row b) os
def zgD{p q:Program}{loose:List Str}{Xt:Shared->Bool}{K:Params->Frag}{as:List Addr}{ex:∀P,as=(K P).map (·.1)}{N:Nat}{g0:Bool}{w:World}(h:∀os,zf8 p q loose Xt N g0 w os)(e:opening p=plainProg p.main.scope.names)(f:∀s,fenceModules? p s=some s)(hN:Nat.ble 600 N=true)
  (hK:∀os:OsState,(runQ p w 11 (some (.ref 6)) N (zce w.params os) (topStub p)).map (λs=>as.map (getT s))=some ((K w.params).map λp=>some p.2)) :
  (openEnds treeTable p w N).map (λs=>(openSeen q loose (importedModules p.main.body) Xt g0 s,(kHook K as ex).obs s))=some (openGood q loose,(kHook K as ex).val w):=by
 have ho:=boot_open e hN f w
 obtain⟨⟨hh,gs,d,k,os⟩,e1,e2⟩:=XaD.mp ho
 obtain⟨rfl,rfl,rfl,rfl⟩:hh=boot_heap w.params/\gs=Array.mk []/\d=boot_drawn/\k=boot_toks:=by simpa using e2
 obtain⟨z1,z2,z3⟩:_/\_/\_:=by simpa only[Prod.mk.injEq] using zjN w.params
 obtain⟨s,r,l⟩:=XaD.mp (h os)
 obtain⟨s',r',l'⟩:=XaD.mp (hK os)
 rw[r] at r'
 cases r'
 have l3:=zha l'
 obtain⟨l1,l2⟩:_/\_:=by simpa only[Prod.mk.injEq] using l
 have r:=zk8 r
 have ea:(zce w.params os).abs=⟨boot_heap w.params,Array.mk [],boot_drawn,boot_toks,os⟩:=by
  show({absHeap (zmB w.params) 11 (boot_heap w.params).life,Array.mk [],boot_drawn,boot_toks,os}:Shared)=_
  rw[zk3]
 rw[ea] at r
 have t:topFrom treeTable p w N ⟨boot_heap w.params,Array.mk [],boot_drawn,boot_toks,os⟩=some s.abs:=by
  unfold topFrom
  dsimp only
  rw[z1,z2,z3,r]
  show(match staticsOk (importedModules p.main.body) (boot_heap w.params) s.abs.heap&&namesBound p s.abs.heap&&gensDone s.abs&&laidKept (boot_heap w.params) s.abs.heap with|true=>_|false=>_)=_
  rw[l1]
 unfold openEnds
 rw[e1]
 show(topFrom treeTable p w N _).map _=_
 rw[t]
 exact congrArg some (Prod.ext l2 l3)
open PySem.Calls PyProof.Rows in
abbrev G1(p q:Program)(N:Nat)(w:World)(os:OsState):Prop:=(runQ p w 11 (some (.ref 6)) N (zce w.params os) (topStub p)).map (λs =>
   ((staticsOk (importedModules p.main.body) (boot_heap w.params) s.abs.heap&&namesBound p s.abs.heap&&gensDone s.abs&&laidKept (boot_heap w.params) s.abs.heap),seen ((recsOf q).map (·.name)) (ownsOf q) [] {s.abs with gens:=#[]}))=some (true,expectedOf q)
open PySem.Calls PyProof.Rows in
abbrev G2(p q:Program)(loose:List Str)(Xt:Shared->Bool)(N:Nat)(g0:Bool)(w:World)(os:OsState):Prop:=(runQ p w 11 (some (.ref 6)) N (zce w.params os) (topStub p)).map (λs =>
   (s.abs.heap.bltView,s.abs.heap.keysOk (looseW q loose) ((recsOf q).map (·.name)) ((litsOf q).map (·.1)) ((clssOf q (looseW q loose)).map (·.name))&&s.abs.heap.accountedOkI (importedModules p.main.body)&&s.abs.heap.isNs mainGlobals&&s.abs.heap.isNs builtinsNs&&tablesOk q s.abs.heap&&Xt s.abs&&(if g0 then s.abs.gens.size==0 else !leftWithCleanup s.abs.gens),tabsOk q s.abs,pinSeenD q (drecsOf q) s.abs))=some (bltViewBooted,true,true,pinGoodD (drecsOf q))
open PySem.Calls PyProof.Rows in
abbrev G3(p q:Program)(loose:List Str)(N:Nat)(w:World)(os:OsState):Prop:=(runQ p w 11 (some (.ref 6)) N (zce w.params os) (topStub p)).map (λs =>
   (plainSeenE q (looseW q loose) s.abs,plainSeenD q loose s.abs,wideSeen q s.abs,clsSeenW q loose s.abs))=some (plainGoodE q (looseW q loose),plainGoodD q loose,wideGood q,clsGoodW q loose)
def nine{α A B C D E F G H I J:Type}{o:Option α}{f:α->A}{g:α->B}{f1:α->C}{f2:α->D}{f3:α->E}{f4:α->F}{f5:α->G}{f6:α->H}{f7:α->I}{f8:α->J}{a:A}{b:B}{c:C}{d:D}{e:E}{i:F}{j:G}{k:H}{l:I}{m:J}(h:o.map (λs=>(f s,g s))=some (a,b))(h':o.map (λs=>(f1 s,f2 s,f3 s,f4 s))=some (c,d,e,i))(h'':o.map (λs=>(f5 s,f6 s,f7 s,f8 s))=some (j,k,l,m)) :
  o.map (λs=>(f s,g s,f1 s,f2 s,f3 s,f4 s,f5 s,f6 s,f7 s,f8 s))=some (a,b,c,d,e,i,j,k,l,m):=by
 cases o with
 | none=>cases h
 | some s=>cases h;cases h';cases h'';rfl
def zlS{p q:Program}{loose:List Str}{Xt:Shared->Bool}{N:Nat}{g0:Bool}{w:World}{os:OsState}(h:G1 p q N w os)(h':G2 p q loose Xt N g0 w os)(h'':G3 p q loose N w os):zf8 p q loose Xt N g0 w os:=nine h h' h''
def left_of{p q:Program}{loose:List Str}{Xt:Shared->Bool}{K:Params->Frag}{as:List Addr}{ex:∀P,as=(K P).map (·.1)}{N:Nat}{g0:Bool}(h:zly p q loose Xt N g0)(e:opening p=plainProg p.main.scope.names)(f:∀s,fenceModules? p s=some s)(hN:Nat.ble 600 N=true)
  (hK:∀(w:World) (os:OsState),(runQ p w 11 (some (.ref 6)) N (zce w.params os) (topStub p)).map (λs=>as.map (getT s))=some ((K w.params).map λp=>some p.2)) :
  LeftO p q loose Xt (kHook K as ex).obs (kHook K as ex).val N g0:=λw=>zgD (h w) e f hN (hK w)
def left_split{p q:Program}{loose:List Str}{Xt:Shared->Bool}{K:Params->Frag}{as:List Addr}{ex:∀P,as=(K P).map (·.1)}{N:Nat}{g0:Bool}(row:String)(h:SeenF row false p q loose Xt N g0)(h':SeenF row true p q loose Xt N g0)(e:opening p=plainProg p.main.scope.names)(f:∀s,fenceModules? p s=some s)(hN:Nat.ble 600 N=true)
  (hK:∀(w:World) (os:OsState),(runQ p (w.withFollow row false) 11 (some (.ref 6)) N (zce (w.withFollow row false).params os) (topStub p)).map (λs=>as.map (getT s))=some ((K (w.withFollow row false).params).map λp=>some p.2))
  (hK':∀(w:World) (os:OsState),(runQ p (w.withFollow row true) 11 (some (.ref 6)) N (zce (w.withFollow row true).params os) (topStub p)).map (λs=>as.map (getT s))=some ((K (w.withFollow row true).params).map λp=>some p.2)) :
  LeftO p q loose Xt (kHook K as ex).obs (kHook K as ex).val N g0:=λw=>by
 have z:=World.withFollow_self w row
 cases hb:w.params.followText row<;>rw[hb] at z
 .have:=zgD (ex:=ex) (h w) e f hN (hK w)
  rw[z] at this;exact this
 .have:=zgD (ex:=ex) (h' w) e f hN (hK' w)
  rw[z] at this;exact this
end Hd
end
section
set_option maxRecDepth 1000000
set_option maxHeartbeats 0
namespace Hd
open PySem PySem.W
noncomputable def runK(p:Program)(w:World)(n₀:Nat)(ann:Option Value)(N:Nat):SharedT->Thread->Option (SharedT×Thread):=
 @Nat.rec (λ_=>SharedT->Thread->Option (SharedT×Thread)) (λs t=>some (s,t)) (λ_ ih s t=>match through t with
  | true=>none
  | false=>match Fast.tw6613529449190102663 n₀ ann t with
   | false=>none
   | true=>match Fast.tw10156331382660048174 (Fast.tw11892475500146522536 Fast.tw14364793385576792824) p w s t with
    | some (s',t')=>ih s' t'
    | none=>none) N
def zeN{p:Program}{w:World}{n₀:Nat}{ann:Option Value}:∀{M N:Nat} {s s':SharedT} {t t':Thread},runK p w n₀ ann M s t=some (s',t')->runQ p w n₀ ann (M+N) s t=runQ p w n₀ ann N s' t'
 | 0,N,s,s',t,t',h=>by cases h;rw[Nat.zero_add]
 | M+1,N,s,s',t,t',h=>by
  have h:(match through t with
  | true=>none
  | false=>match Fast.tw6613529449190102663 n₀ ann t with
   | false=>none
   | true=>match Fast.tw10156331382660048174 (Fast.tw11892475500146522536 Fast.tw14364793385576792824) p w s t with
    | some (s',t')=>runK p w n₀ ann M s' t'
    | none=>none)=some (s',t'):=h
  rw[show M+1+N=(M+N)+1 by omega]
  show(match through t with
  | true=>some s
  | false=>match Fast.tw6613529449190102663 n₀ ann t with
   | false=>none
   | true=>match Fast.tw10156331382660048174 (Fast.tw11892475500146522536 Fast.tw14364793385576792824) p w s t with
    | some (s',t')=>runQ p w n₀ ann (M+N) s' t'
    | none=>none)=_
  cases ht:through t with
  | true=>rw[ht] at h;cases h
  | false =>
   rw[ht] at h
   dsimp only at h ⊢
   cases hk:Fast.tw6613529449190102663 n₀ ann t with
   | false=>rw[hk] at h;cases h
   | true =>
    rw[hk] at h
    dsimp only at h ⊢
    cases hs:Fast.tw10156331382660048174 (Fast.tw11892475500146522536 Fast.tw14364793385576792824) p w s t with
    | none=>rw[hs] at h;cases h
    | some r=>obtain⟨s₂,t₂⟩:=r;rw[hs] at h;exact zeN h
noncomputable def fill(g:Nat->Obj)(N:Nat):Nat->Frag->List Obj:=
 @Nat.rec (λ_=>Nat->Frag->List Obj) (λ_ _=>[]) (λ_ ih i l=>match l with
  | []=>g i::ih (i+1) []
  | x::l'=>match Nat.beq x.1 i with
   | true=>x.2::ih (i+1) l'
   | false=>g i::ih (i+1) (x::l')) N
noncomputable def ziq(r:Option (SharedT×Thread)):BT:=match r with
 | some x=>x.1.tree
 | none=>.nil
noncomputable def getO(T:BT)(i:Nat):Obj:=match T.get i with
 | some o=>o
 | none=>{.none,none,.plain,#[]}
def cutN(n:Nat)(v:Value)(o:Obj):Obj:=match o with
 | ⟨c,d,.dict es _,s⟩=>match es.toList.take n with
  | ⟨h,k,_⟩::r=>{c,d,.dict (Array.mk (⟨h,k,v⟩::r)) n,s}
  | []=>o
 | o=>o
def lns(l:List (Int×Nat)):Obj:={.none,none,.fields (Array.mk (l.flatMap λx=>[.int x.1 0,.int 0 0,.ref x.2])),#[]}
noncomputable def pre(p:Program)(k:Nat)(w:World)(os:OsState):Option (SharedT×Thread):=runK p w 11 (some (.ref 6)) k (zce w.params os) (topStub p)
noncomputable def elN(i:Nat):List Nat->Bool:=@List.rec Nat (λ_=>Bool) false (λa _ ih=>match Nat.beq i a with
 | true=>true
 | false=>ih)
noncomputable def midS(K:Params->Frag)(P₀:BT)(n c:Nat)(v:Value)(l:List (Int×Nat))(em:List Nat)(toks:Nat)(T:BT)(w:World)(os:OsState):SharedT:=
 ⟨((treeL (fill (λi=>match Nat.blt i 15 with
  | true=>getO P₀ i
  | false=>match elN i em with
   | true=>lns []
   | false=>getO T i) n 0 (K w.params)) 0 .nil).set 3 (cutN c v)).set 12 (λ_=>lns l),n,(boot_heap w.params).life,Array.mk [],boot_drawn,toks,os⟩
noncomputable def midH(p:Program)(m:Nat)(pos:Pos)(r:Option (SharedT×Thread)):Thread:=match r with
 | some (_,⟨_,.body b env,_,st⟩)=>{Fast.tw11892475500146522536 Fast.tw14364793385576792824 (.body (b.drop m) env),.body b env,pos,st}
 | _=>topStub p
def zfn{p:Program}{w:World}{n₀:Nat}{ann:Option Value}(k:Nat):∀{N:Nat} {s r:SharedT} {t:Thread},runQ p w n₀ ann N s t=some r->runQ p w n₀ ann (k+N) s t=some r
 | 0,_,_,_,h=>by cases h
 | N+1,s,r,t,h=>by
  have h:(match through t with
  | true=>some s
  | false=>match Fast.tw6613529449190102663 n₀ ann t with
   | false=>none
   | true=>match Fast.tw10156331382660048174 (Fast.tw11892475500146522536 Fast.tw14364793385576792824) p w s t with
    | some (s',t')=>runQ p w n₀ ann N s' t'
    | none=>none)=some r:=h
  show(match through t with
  | true=>some s
  | false=>match Fast.tw6613529449190102663 n₀ ann t with
   | false=>none
   | true=>match Fast.tw10156331382660048174 (Fast.tw11892475500146522536 Fast.tw14364793385576792824) p w s t with
    | some (s',t')=>runQ p w n₀ ann (k+N) s' t'
    | none=>none)=some r
  cases ht:through t with
  | true=>rw[ht] at h;exact h
  | false =>
   rw[ht] at h
   dsimp only at h ⊢
   cases hk:Fast.tw6613529449190102663 n₀ ann t with
   | false=>rw[hk] at h;cases h
   | true =>
    rw[hk] at h
    dsimp only at h ⊢
    cases hs:Fast.tw10156331382660048174 (Fast.tw11892475500146522536 Fast.tw14364793385576792824) p w s t with
    | none=>rw[hs] at h;cases h
    | some r=>obtain⟨s₂,t₂⟩:=r;rw[hs] at h;exact zfn k h
section
variable{p:Program}{w:World}{c:Code}{B:List Frame}{lv:List Value->List Value}{α β:Type}
def Gs(p:Program)(w:World)(c:Code)(B:List Frame)(lv:List Value->List Value)(n:Nat){α:Type}(x:Sem α)(s:SharedT)(q:Pos)(a:α)(s':SharedT)(q':Pos):Prop:=
 ∀(K:α->Sem Fin) (H:Value->Sem Fin) (N:Nat) (r:SharedT),runQ p w 11 (some (.ref 6)) N s' {K a,c,q',B}=some r->runQ p w 11 (some (.ref 6)) (n+N) s {x.wrap K H id lv,c,q,B}=some r
variable{n m:Nat}{x:Sem α}{f:α->Sem β}{a:α}{b:β}{s s₁ s₂:SharedT}{q q₁ q₂:Pos}
def zaB:Gs p w c B lv 0 (pure a:Sem α) s q a s q:=λK H N r h=>by rw[Nat.zero_add];exact h
def zap(hx:Gs p w c B lv n x s q a s₁ q₁)(hf:Gs p w c B lv m (f a) s₁ q₁ b s₂ q₂):Gs p w c B lv (n+m) (x >>= f) s q b s₂ q₂:=λK H N r h=>by
 rw[Sem.bind_eq_wrap',Sem.wrap_wrap,Nat.add_assoc]
 exact hx _ _ _ _ (hf K H N r h)
def zec{vs:List Value}(hx:Gs p w c B (λl=>lv (vs++l)) n x s q a s₁ q₁):Gs p w c B lv n (x.keep vs) s q a s₁ q₁:=λK H N r h=>by
 rw[Sem.keep_eq_wrap,Sem.wrap_wrap]
 exact hx K H N r h
def zbc(hx:Gs p w c B lv n x s q a s₁ q₁)(h:n<=m):Gs p w c B lv m x s q a s₁ q₁:=λK H N r e=>by
 have:=zfn (m-n) (hx K H N r e)
 rw[show m-n+(n+N)=m+N by omega] at this
 exact this
def gs_k(h:∀(K:α->Sem Fin) (H:Value->Sem Fin),runK p w 11 (some (.ref 6)) n s {x.wrap K H id lv,c,q,B}=some (s₁,{K a,c,q₁,B})):Gs p w c B lv n x s q a s₁ q₁:=λK H N r e=>by
 rw[zeN (h K H)];exact e
end
section
variable{p:Program}{w:World}{c:Code}{B:List Frame}{lv:List Value->List Value}{s:SharedT}{q:Pos}{d:Addr}{es:Array DictEntry}{h:Int}{a:Addr}
def zhs{i:Int}(rl:∀z,Gs p w c B lv 1 (rule z) s q () s q):Gs p w c B lv 1 (pyHashByItsType.reduced i) s q (reduceHash i) s q:=by
 unfold pyHashByItsType.reduced reduceHash
 split
 .exact zbc zaB (by omega)
 .refine zap (n:=1) (m:=0) (rl _) ?_
  exact zaB
def zbH{n1 n2 n4 t:Nat}{f:String}{T:Int}{s':SharedT}(rl:∀z,Gs p w c B lv 1 (rule z) s' q () s' q)(x1:Gs p w c B lv n1 (cRoomFor "hash" [.ref a]) s q () s q)(x2:Gs p w c B lv n2 (specialOf (.ref a) (Str.ofString "__hash__")) s q (some (.builtin f)) s q)
  (x4:∀z,Gs p w c B lv n4 (callSpecialIfBoundUnlessNone? (.ref a) (Str.ofString "__hash__") z) s q (some (.int T t)) s' q):Gs p w c B lv (n1+(n2+(n2+(n4+1)))) (pyHash (.ref a)) s q (reduceHash T) s' q:=by
 unfold pyHash pyHashByItsType
 refine zap x1 (zap x2 ?_)
 exact zap x2 (zap (x4 _) (zhs rl))
def zlG{cq:Nat}{key:Value}(qk:Gs p w c B lv cq (eqIsQuiet 8 key) s q true s q):∀l:List Value,(∀k∈l,Gs p w c B lv cq (eqIsQuiet 8 k) s q true s q)->Gs p w c B lv (cq+l.length*cq) (tableMayTell key l) s q false s q:=by
 intro l hl
 unfold tableMayTell
 cases l with
 | nil=>exact zbc zaB (Nat.zero_le _)
 | cons k l =>
  refine zap qk ?_
  dsimp only
  refine zbc (n:=(k::l).length*cq+0) ?_ (by omega)
  refine zap (a:=(none,())) (s₁:=s) (q₁:=q) ?_ zaB
  generalize k::l=l at hl
  induction l with
  | nil=>exact zbc zaB (Nat.zero_le _)
  | cons k l ih =>
   rw[List.forIn_cons]
   have e:(k::l).length*cq=(cq+0)+l.length*cq:=by rw[Xar,Nat.add_mul];omega
   rw[e]
   refine zap (a:=ForInStep.yield (none,())) (s₁:=s) (q₁:=q) (zap (hl k (Xat ..)) zaB) ?_
   exact ih λk' hk'=>hl k' (Xau _ hk')
def zhb{γ:Type}{cs:Nat}{g:γ->Option (Option Nat)×Option Nat->Sem (ForInStep (Option (Option Nat)×Option Nat))}:∀l:List γ,(∀i∈l,Gs p w c B lv cs (g i (none,none)) s q (ForInStep.yield (none,none)) s q)->Gs p w c B lv (l.length*cs) (forIn l (none,none) g) s q (none,none) s q:=by
 intro l
 induction l with
 | nil=>intro _;exact zbc zaB (Nat.zero_le _)
 | cons k l ih =>
  intro hl
  rw[List.forIn_cons]
  have e:(k::l).length*cs=cs+l.length*cs:=by rw[Xar,Nat.add_mul];omega
  rw[e]
  exact zap (hl k (Xat ..)) (ih λk' hk'=>hl k' (Xau _ hk'))
def zhI{n:Nat}{f:Nat->Option Int}{h:Int}{i:Nat}(hi:i∈placesWithHash n f h):f i=some h:=by
 unfold placesWithHash at hi
 exact eq_of_beq (List.mem_filter.mp hi).2
def zhM{n:Nat}{f:Nat->Option Int}{h:Int}:(placesWithHash n f h).length<=n:=by
 unfold placesWithHash
 exact Xak (List.length_filter_le ..) (by rw[Xa2];exact Xad _)
def zdh{cq ce n k:Nat}(hn:es.size<=k)(e1:Gs p w c B (λl=>lv ([.ref a]++l)) 1 (dictEntries d none) s q es s q)(ha:(es.any λe=>e.key==.ref a&&e.hash != h)=false)
  (rl:∀z,Gs p w c B (λl=>lv ([.ref a]++l)) 1 (rule z) s q () s q)
  (qk:Gs p w c B (λl=>lv ([.ref a]++l)) cq (eqIsQuiet 8 (.ref a)) s q true s q) (qe:∀e∈es.toList,Gs p w c B (λl=>lv ([.ref a]++l)) cq (eqIsQuiet 8 e.key) s q true s q)
  (ep:Gs p w c B (λl=>lv ([.ref a]++l)) 1 (dictEpoch d none) s q n s q) (eb:∀e∈es.toList,Gs p w c B (λl=>lv ([.ref a]++l)) ce (eqBool e.key (.ref a)) s q false s q) :
  Gs p w c B lv (1+((cq+k*cq)+(k*(ce+3)+0))) (dictFind d (.ref a) h) s q none s q:=by
 unfold dictFind
 refine zec ?_
 refine zap e1 ?_
 dsimp only
 generalize hp:placesWithHash es.size (λi=>Option.map (λx=>x.hash) es[i]?) h=ps
 have hm:∀i∈ps,∃e,es[i]?=some e/\e.hash=h:=λi hi=>by
  rw[<- hp] at hi
  exact XaD.mp (zhI hi)
 have hl:ps.length<=k:=Xak (hp▸zhM) hn
 generalize hst:List.filterMap (λi=>Option.map (λx=>x.key) es[i]?) ps=st
 have hst1:∀k∈st,∃e∈es,e.key=k:=λk hk=>by
  rw[<- hst] at hk
  obtain⟨i,hi,e⟩:=XbD.mp hk
  obtain⟨e',he,rfl⟩:=XaD.mp e
  exact{e',Array.mem_of_getElem? he,O}
 have hst2:st.length<=k:=Xak (hst▸List.length_filterMap_le ..) hl
 rw[if_neg (by simp[carriedByValue]),ha]
 rw[if_neg (by decide)]
 have ht:Gs p w c B (λl=>lv ([.ref a]++l)) (cq+k*cq) (tableMayTell (.ref a) st) s q false s q:=zbc (zlG qk st λk' hk'=>by obtain⟨e,he,rfl⟩:=hst1 k' hk';exact qe e (Xbq.mpr he)) (Nat.add_le_add_left (Nat.mul_le_mul_right _ hst2) _)
 have hlp:ps.length*(ce+3)<=k*(ce+3):=Nat.mul_le_mul_right _ hl
 split
 .refine zap (a:=false) (s₁:=s) (q₁:=q) (zbc zaB (Nat.zero_le _)) ?_
  rw[if_neg (by rw[Xba];decide)]
  refine zap (zbc (zhb ps λi hi=>?_) hlp) zaB
  obtain⟨e,he,hh⟩:=hm i hi
  rw[he]
  dsimp only
  rw[if_pos (by rw[hh];exact beq_self_eq_true h)]
  rw[show ce+3=1+(ce+(1+(1+0))) by omega]
  refine zap ep (zap (eb e (Xbq.mpr (Array.mem_of_getElem? he))) (zap ep ?_))
  rw[if_neg (by simp),if_neg (by decide)]
  refine zap (rl _) ?_
  rw[if_neg (by rw[Xba];decide)]
  exact zaB
 .refine zap (s₁:=s) (q₁:=q) ht ?_
  rw[if_neg (by rw[Xba];decide)]
  refine zap (zbc (zhb ps λi hi=>?_) hlp) zaB
  obtain⟨e,he,hh⟩:=hm i hi
  rw[he]
  dsimp only
  rw[if_pos (by rw[hh];exact beq_self_eq_true h)]
  rw[show ce+3=1+(ce+(1+(1+0))) by omega]
  refine zap ep (zap (eb e (Xbq.mpr (Array.mem_of_getElem? he))) (zap ep ?_))
  rw[if_neg (by simp),if_neg (by decide)]
  refine zap (rl _) ?_
  rw[if_neg (by rw[Xba];decide)]
  exact zaB
def zbh{n1 n2 n3:Nat}{v:Value}{h:Int}{s₁ s₂:SharedT}(hv:(match v with|.ref _=>true|_=>false)=true)
  (x1:Gs p w c B (λl=>lv ([.ref a,v]++l)) n1 (pyHash (.ref a)) s q h s₁ q) (x2:Gs p w c B (λl=>lv ([.ref a,v]++([.ref a,v]++l))) n2 (dictFind d (.ref a) h) s₁ q none s₁ q)
  (rl:∀z,Gs p w c B (λl=>lv ([.ref a,v]++([.ref a,v]++l))) 1 (rule z) s₁ q () s₁ q)
  (x3:Gs p w c B (λl=>lv ([.ref a,v]++([.ref a,v]++l))) n3 (updateDictKeys d (λes=>es.push {h,.ref a,v}) none) s₁ q () s₂ q):Gs p w c B lv (n1+(n2+(1+n3))) (dictSet d (.ref a) v) s q () s₂ q:=by
 cases v with
 | ref b =>
  unfold dictSet dictSetHashed
  refine zec (zap x1 (zec (zap x2 (zap (rl _) x3))))
 | _=>cases hv
def all0{γ:Type}{P:γ->Prop}:∀e∈([]:List γ),P e:=λ_ h=>nomatch h
def all1{γ:Type}{P:γ->Prop}{e:γ}{l:List γ}(h:P e)(hl:∀e∈l,P e):∀x∈e::l,P x:=λx hx=>by
 rcases Xan.mp hx with rfl|hx
 .exact h
 .exact hl x hx
def zdd{n m:Nat}{k v:Value}{l:List (Value×Value)}{s₁ s₂:SharedT}{u:PUnit}{g:Value×Value->PUnit->Sem (ForInStep PUnit)}(h:Gs p w c B lv n (g (k,v) u) s q (.yield u) s₁ q)(hl:Gs p w c B lv m (forIn l u g) s₁ q u s₂ q) :
  Gs p w c B lv (n+m) (forIn ((k,v)::l) u g) s q u s₂ q:=by
 rw[List.forIn_cons]
 exact zap h hl
def st_gs{n N:Nat}{st:Stmt}{rest:List Stmt}{ev:Env}{s₁ r:SharedT}{q₁:Pos}(h:Gs p w c B id n (exec st ev) s q .next s₁ q₁)(k:runQ p w 11 (some (.ref 6)) N s₁ (restOf rest ev c q₁ B)=some r) :
  runQ p w 11 (some (.ref 6)) (n+N) s (restOf (st::rest) ev c q B)=some r:=by
 unfold restOf
 rw[execs_cons_wrap]
 exact h _ _ N r k
def glue{M N n:Nat}{s₀ sa sb r:SharedT}{t₀ ta tb:Thread}(h1:runK p w 11 (some (.ref 6)) M s₀ t₀=some (sa,ta))(h2:runQ p w 11 (some (.ref 6)) N sb tb=some r->runQ p w 11 (some (.ref 6)) (n+N) sa ta=some r)(h:runQ p w 11 (some (.ref 6)) N sb tb=some r) :
  runQ p w 11 (some (.ref 6)) (M+(n+N)) s₀ t₀=some r:=by
 rw[zeN h1];exact h2 h
def lk{α β:Type}{a b:Option α}{f:α->β}{v:β}(h:∀r,a=some r->b=some r)(e:a.map f=some v):b.map f=some v:=by
 cases a with
 | none=>cases e
 | some r=>rw[h r O];exact e
end
section
open PySem.Calls PyProof.Rows
noncomputable abbrev E1(p q:Program)(w:World)(s:SharedT):=((staticsOk (importedModules p.main.body) (boot_heap w.params) s.abs.heap&&namesBound p s.abs.heap&&gensDone s.abs&&laidKept (boot_heap w.params) s.abs.heap),seen ((recsOf q).map (·.name)) (ownsOf q) [] {s.abs with gens:=#[]})
noncomputable abbrev E2(q:Program)(loose:List Str)(s:SharedT):Bool:=s.abs.heap.keysOk (looseW q loose) ((recsOf q).map (·.name)) ((litsOf q).map (·.1)) ((clssOf q (looseW q loose)).map (·.name))
noncomputable abbrev E3(p q:Program)(Xt:Shared->Bool)(s:SharedT):=(s.abs.heap.bltView,s.abs.heap.accountedOkI (importedModules p.main.body),s.abs.heap.isNs mainGlobals,s.abs.heap.isNs builtinsNs,tablesOk q s.abs.heap,Xt s.abs,(s.abs.gens.size==0),tabsOk q s.abs,pinSeenD q (drecsOf q) s.abs)
noncomputable abbrev E4(q:Program)(loose:List Str)(s:SharedT):=(plainSeenE q (looseW q loose) s.abs,plainSeenD q loose s.abs,wideSeen q s.abs,clsSeenW q loose s.abs)
def zka{p q:Program}{loose:List Str}{Xt:Shared->Bool}{N:Nat}{w:World}{os:OsState}{a:Option SharedT}(h:∀r,a=some r->runQ p w 11 (some (.ref 6)) N (zce w.params os) (topStub p)=some r)
  (e1:a.map (E1 p q w)=some (true,expectedOf q)) (e2:a.map (E2 q loose)=some true) (e3:a.map (E3 p q Xt)=some (bltViewBooted,true,true,true,true,true,true,true,pinGoodD (drecsOf q)))
  (e4:a.map (E4 q loose)=some (plainGoodE q (looseW q loose),plainGoodD q loose,wideGood q,clsGoodW q loose)):zf8 p q loose Xt N true w os:=by
 cases a with
 | none=>cases e1
 | some s =>
  have hr:=h s O
  have e1:=Option.some.inj e1
  have e2:s.abs.heap.keysOk (looseW q loose) ((recsOf q).map (·.name)) ((litsOf q).map (·.1)) ((clssOf q (looseW q loose)).map (·.name))=true:=Option.some.inj e2
  have e3:=Option.some.inj e3
  have e4:=Option.some.inj e4
  simp only[Prod.mk.injEq] at e3
  obtain⟨x1,x2,x3,x4,x5,x6,x7,x8,x9⟩:=e3
  refine zlS ?_ ?_ ?_
  .show(runQ p w 11 (some (.ref 6)) N (zce w.params os) (topStub p)).map _=_
   rw[hr];exact congrArg some e1
  .show(runQ p w 11 (some (.ref 6)) N (zce w.params os) (topStub p)).map _=_
   rw[hr]
   refine congrArg some ?_
   dsimp only
   rw[x1,x2,x3,x4,x5,x6,x8,x9,e2,if_pos O,x7]
   rfl
  .show(runQ p w 11 (some (.ref 6)) N (zce w.params os) (topStub p)).map _=_
   rw[hr];exact congrArg some e4
end
end Hd
end
section
set_option maxRecDepth 1000000
set_option maxHeartbeats 0
open PySem PySem.W
set_option hygiene false in
local macro_rules|`(tactic| o_head $H)=>`(tactic| exact hX)
def Hd.fr(hX:OpenRow.Holds (OpenLaw.row PySem.Challenge.rw_chipbus_k53_bad_rows)):OpenRow.Holds (OpenLaw.row PySem.Challenge.rw_chipbus_k53_bad_rows):=by
 k_head
namespace Hd
open PySem PySem.W PySem.Calls PyProof.Rows
abbrev PP:=PySem.Challenge.rw_chipbus_k53_bad_rows.row.prog
def vw:Program:=PySem.W.view PySem.Challenge.pw_chipbus_k53_bad_rows [0,2,3,4,5,6,7,8,9,10,11,12,13,15,16,17,18,19,20,21,22,24,25,26,28,29,30,31,33,34,35,36,37,38,39,40,42,43,45,46,47,48,49,50,51,52,54,55,56,57,58,59,60,61,63,64,65,66,67,68,69,71,72,73,74,75,76,77,78,79,81,82,83,84,85,86,87,88,89,90,91,92,93,94,95,96,97,98]
def ls:List Str:=["PARTS","Store","Latch","Meter","Pipe","Board"]
def env:Env:={ scope:=PP.main.scope,locals:=mainNs,globals:=mainNs,cells:=[],code:=.ref 13,frame:=some 14 }
def cE:Code:=.body (behindTheImports PP) env
def BB:List Frame:=[topFrame ⟨0,0,0,0⟩]
noncomputable def thAt (m:Nat) (q:Pos):Thread:=⟨Fast.tw11892475500146522536 Fast.tw14364793385576792824 (.body ((behindTheImports PP).drop m) env),cE,q,BB⟩
def L45:List (Int×Nat):=[(1,20),(5,27),(7,40),(9,52),(11,64),(13,76),(15,88),(17,100),(19,112),(21,124),(26,143),(31,162),(39,181),(48,200),(53,207),(55,212),(57,219),(61,226),(65,233),(71,240),(78,247),(80,252),(84,259),(86,266),(88,273),(93,280),(95,287),(97,294),(102,301),(110,306),(112,313),(114,320),(117,327),(146,368)]
def em:List Nat:=[16,26,39,51,63,75,87,99,111,127,146,165,184,196,203,210,215,222,229,236,243,250,255,262,269,276,283,290,297,304,309,316,331,338,345,352,366]
def ents (P:Params):List DictEntry:=[
 ⟨reduceHash (Builtin.Tuple.tupleHashOf [PyData.keyHash P "r",hashInt 1]),.ref 371,.ref 372⟩,
 ⟨reduceHash (Builtin.Tuple.tupleHashOf [PyData.keyHash P "q",hashInt 1]),.ref 373,.ref 374⟩,
 ⟨reduceHash (Builtin.Tuple.tupleHashOf [PyData.keyHash P "w",hashInt 2]),.ref 375,.ref 376⟩,
 ⟨reduceHash (Builtin.Tuple.tupleHashOf [PyData.keyHash P "t",hashInt 1]),.ref 377,.ref 378⟩,
 ⟨reduceHash (Builtin.Tuple.tupleHashOf [PyData.keyHash P "m",hashInt 3]),.ref 379,.ref 380⟩,
 ⟨reduceHash (Builtin.Tuple.tupleHashOf [PyData.keyHash P "m",hashInt 5]),.ref 381,.ref 382⟩]
def dictJ (j:Nat) (P:Params):Obj:=⟨.type "dict",none,.dict (Array.mk ((ents P).take j)) j,#[]⟩
noncomputable def m0 (w:World) (os:OsState):=pre PP 12 w os
noncomputable def sN (n c t:Nat) (T:BT) (w:World) (os:OsState):SharedT:=midS fr.heap_1 (ziq (m0 w os)) n c (.str (Str.ofString "chipbus.runs") 678) L45 em t T w os
noncomputable def sA (T:BT) (w:World) (os:OsState):SharedT:=sN 370 47 680 T w os
noncomputable def sJ (c j t:Nat) (T:BT) (w:World) (os:OsState):SharedT:={ sN 383 c t T w os with tree:=(sN 383 c t T w os).tree.set 370 (fun _=>dictJ j w.params) }
noncomputable def m1 (w:World) (os:OsState):=pre PP 3729 w os
def qA:Pos:=⟨151,0,151,8⟩
def qS:Pos:=⟨152,0,152,211⟩
def qD:Pos:=⟨152,8,152,211⟩
def qB:Pos:=⟨152,0,152,5⟩
def half (w:World) (os:OsState):m1 w os=some (sA (ziq (m1 w os)) w os,thAt 45 qA):=by kernel_rfl
def st46:Stmt:=(((behindTheImports PP).drop 45).head?).getD (.Pass qA)
def dctK (s:Stmt):List (Option Expr):=match s with | .Assign _ (.Dict ks _ _) _=>ks | _=>[]
def dctV (s:Stmt):List Expr:=match s with | .Assign _ (.Dict _ vs _) _=>vs | _=>[]
def asT (s:Stmt):List Expr:=match s with | .Assign ts _ _=>ts | _=>[]
def dr46:(behindTheImports PP).drop 45=st46 :: (behindTheImports PP).drop 46:=by kernel_rfl
def prs (d:Pos):List (Option (Sem Value))→List (Sem Value)→List (Sem Value×Sem Value)
 | some k :: ks,v :: vs=>(k,v >>= fun x=>standAt d >>= fun _=>pure x) :: prs d ks vs
 | _,_=>[]
def ex46:exec st46 env=(standAt qS >>= fun _=>((standAt qD >>= fun _=>((subDict (prs qD (evalEachOpt (dctK st46) env) (evalEach (dctV st46) env)) >>= fun d=>pure (some d)) >>= fun m=>match m with | some d=>pure (.ref d) | none=>newDict)) >>= fun v=>assignAll v ((assignEach (asT st46) env).map (·.2)) >>= fun _=>pure Flow.next)):=by kernel_rfl
noncomputable def sX (T:BT) (w:World) (os:OsState):SharedT:={ sA T w os with tree:=(sA T w os).tree.ins 370 ⟨.type "dict",none,.dict #[] 0,#[]⟩,n:=371 }
abbrev wB (b:Bool) (w:World):World:=w.withFollow "special-get-raises" b
set_option hygiene false in
local macro_rules | `(tactic| walk_at "kb")=>`(tactic| (cases b <;> kernel_rfl))
def p46 (b:Bool) (T:BT) (w₀:World) (os:OsState):Gs PP (wB b w₀) cE BB id 2000 (exec st46 env) (sA T (wB b w₀) os) qA .next (sJ 48 6 724 T (wB b w₀) os) qB:=by
 rw [ex46]
 refine zbc (n:=1+((1+(((1+(637+0))+0)+0))+(7+0))) ?_ (by decide)
 refine zap (n:=1) (m:=(1+(((1+(637+0))+0)+0))+(7+0)) (a:=()) (s₁:=sA T (wB b w₀) os) (q₁:=qS) (gs_k (n:=1) fun _ _=>by walk_at "kb") ?_
 refine zap (n:=1+(((1+(637+0))+0)+0)) (m:=7+0) (a:=.ref 370) (s₁:=sJ 47 6 723 T (wB b w₀) os) (q₁:=qD) ?_ (zap (n:=7) (m:=0) (a:=()) (s₁:=sJ 48 6 724 T (wB b w₀) os) (q₁:=qB) (gs_k fun _ _=>by walk_at "kb") zaB)
 refine zap (n:=1) (m:=((1+(637+0))+0)+0) (a:=()) (s₁:=sA T (wB b w₀) os) (q₁:=qD) (gs_k (n:=1) fun _ _=>by walk_at "kb") ?_
 refine zap (n:=(1+(637+0))+0) (m:=0) (a:=some 370) (s₁:=sJ 47 6 723 T (wB b w₀) os) (q₁:=qD) (zap (n:=1+(637+0)) (m:=0) (a:=370) (s₁:=sJ 47 6 723 T (wB b w₀) os) (q₁:=qD) ?_ zaB) zaB
 unfold subDict
 refine zap (n:=1) (m:=637+0) (a:=370) (s₁:=sX T (wB b w₀) os) (q₁:=qD) (gs_k fun _ _=>by walk_at "kb") ?_
 refine zap (n:=637) (m:=0) (a:=()) (s₁:=sJ 47 6 723 T (wB b w₀) os) (q₁:=qD) (zec ?_) zaB
 rw [if_pos (by decide +kernel)]
 refine zap (n:=55) (m:=582) (a:=[(.ref 371,.ref 372),(.ref 373,.ref 374),(.ref 375,.ref 376),(.ref 377,.ref 378),(.ref 379,.ref 380),(.ref 381,.ref 382)]) (s₁:=sJ 47 0 705 T (wB b w₀) os) (q₁:=qD) (gs_k fun _ _=>by walk_at "kb") ?_
 refine zec (zap (n:=582) (m:=0) (a:=PUnit.unit) (s₁:=sJ 47 6 723 T (wB b w₀) os) (q₁:=qD) ?_ zaB)
 refine zdd (n:=32) (m:=550) (s₁:=sJ 47 1 708 T (wB b w₀) os) (zap (n:=32) (m:=0) (a:=()) (s₁:=sJ 47 1 708 T (wB b w₀) os) (q₁:=qD) ?_ zaB) ?_
 ·refine zbh (n1:=24) (n2:=4) (n3:=3) (h:=reduceHash (Builtin.Tuple.tupleHashOf [PyData.keyHash (wB b w₀).params "r",hashInt 1])) (s₁:=sJ 47 0 708 T (wB b w₀) os) rfl (zbH (n1:=1) (n2:=1) (n4:=20) (f := "tuple.__hash__") (t:=707) (fun z=>(gs_k fun _ _=>by walk_at "kb")) (gs_k fun _ _=>by walk_at "kb") (gs_k fun _ _=>by walk_at "kb") fun z=>(gs_k fun _ _=>by walk_at "kb")) ?_ (fun z=>(gs_k fun _ _=>by walk_at "kb")) (gs_k fun _ _=>by walk_at "kb")
  exact zdh (k:=0) (cq:=3) (ce:=20) (n:=0) (es:=Array.mk ((ents (wB b w₀).params).take 0)) (Nat.le_refl _) (gs_k fun _ _=>by walk_at "kb") (by kernel_rfl) (fun z=>(gs_k fun _ _=>by walk_at "kb")) (gs_k fun _ _=>by walk_at "kb") (all0) (gs_k fun _ _=>by walk_at "kb") (all0)
 refine zdd (n:=58) (m:=492) (s₁:=sJ 47 2 711 T (wB b w₀) os) (zap (n:=58) (m:=0) (a:=()) (s₁:=sJ 47 2 711 T (wB b w₀) os) (q₁:=qD) ?_ zaB) ?_
 ·refine zbh (n1:=24) (n2:=30) (n3:=3) (h:=reduceHash (Builtin.Tuple.tupleHashOf [PyData.keyHash (wB b w₀).params "q",hashInt 1])) (s₁:=sJ 47 1 711 T (wB b w₀) os) rfl (zbH (n1:=1) (n2:=1) (n4:=20) (f := "tuple.__hash__") (t:=710) (fun z=>(gs_k fun _ _=>by walk_at "kb")) (gs_k fun _ _=>by walk_at "kb") (gs_k fun _ _=>by walk_at "kb") fun z=>(gs_k fun _ _=>by walk_at "kb")) ?_ (fun z=>(gs_k fun _ _=>by walk_at "kb")) (gs_k fun _ _=>by walk_at "kb")
  exact zdh (k:=1) (cq:=3) (ce:=20) (n:=1) (es:=Array.mk ((ents (wB b w₀).params).take 1)) (Nat.le_refl _) (gs_k fun _ _=>by walk_at "kb") (by kernel_rfl) (fun z=>(gs_k fun _ _=>by walk_at "kb")) (gs_k fun _ _=>by walk_at "kb") (all1 (gs_k fun _ _=>by walk_at "kb") (all0)) (gs_k fun _ _=>by walk_at "kb") (all1 (zbc (gs_k (n:=16) fun _ _=>by walk_at "kb") (by decide)) (all0))
 refine zdd (n:=84) (m:=408) (s₁:=sJ 47 3 714 T (wB b w₀) os) (zap (n:=84) (m:=0) (a:=()) (s₁:=sJ 47 3 714 T (wB b w₀) os) (q₁:=qD) ?_ zaB) ?_
 ·refine zbh (n1:=24) (n2:=56) (n3:=3) (h:=reduceHash (Builtin.Tuple.tupleHashOf [PyData.keyHash (wB b w₀).params "w",hashInt 2])) (s₁:=sJ 47 2 714 T (wB b w₀) os) rfl (zbH (n1:=1) (n2:=1) (n4:=20) (f := "tuple.__hash__") (t:=713) (fun z=>(gs_k fun _ _=>by walk_at "kb")) (gs_k fun _ _=>by walk_at "kb") (gs_k fun _ _=>by walk_at "kb") fun z=>(gs_k fun _ _=>by walk_at "kb")) ?_ (fun z=>(gs_k fun _ _=>by walk_at "kb")) (gs_k fun _ _=>by walk_at "kb")
  exact zdh (k:=2) (cq:=3) (ce:=20) (n:=2) (es:=Array.mk ((ents (wB b w₀).params).take 2)) (Nat.le_refl _) (gs_k fun _ _=>by walk_at "kb") (by kernel_rfl) (fun z=>(gs_k fun _ _=>by walk_at "kb")) (gs_k fun _ _=>by walk_at "kb") (all1 (gs_k fun _ _=>by walk_at "kb") (all1 (gs_k fun _ _=>by walk_at "kb") (all0))) (gs_k fun _ _=>by walk_at "kb") (all1 (zbc (gs_k (n:=16) fun _ _=>by walk_at "kb") (by decide)) (all1 (zbc (gs_k (n:=16) fun _ _=>by walk_at "kb") (by decide)) (all0)))
 refine zdd (n:=110) (m:=298) (s₁:=sJ 47 4 717 T (wB b w₀) os) (zap (n:=110) (m:=0) (a:=()) (s₁:=sJ 47 4 717 T (wB b w₀) os) (q₁:=qD) ?_ zaB) ?_
 ·refine zbh (n1:=24) (n2:=82) (n3:=3) (h:=reduceHash (Builtin.Tuple.tupleHashOf [PyData.keyHash (wB b w₀).params "t",hashInt 1])) (s₁:=sJ 47 3 717 T (wB b w₀) os) rfl (zbH (n1:=1) (n2:=1) (n4:=20) (f := "tuple.__hash__") (t:=716) (fun z=>(gs_k fun _ _=>by walk_at "kb")) (gs_k fun _ _=>by walk_at "kb") (gs_k fun _ _=>by walk_at "kb") fun z=>(gs_k fun _ _=>by walk_at "kb")) ?_ (fun z=>(gs_k fun _ _=>by walk_at "kb")) (gs_k fun _ _=>by walk_at "kb")
  exact zdh (k:=3) (cq:=3) (ce:=20) (n:=3) (es:=Array.mk ((ents (wB b w₀).params).take 3)) (Nat.le_refl _) (gs_k fun _ _=>by walk_at "kb") (by kernel_rfl) (fun z=>(gs_k fun _ _=>by walk_at "kb")) (gs_k fun _ _=>by walk_at "kb") (all1 (gs_k fun _ _=>by walk_at "kb") (all1 (gs_k fun _ _=>by walk_at "kb") (all1 (gs_k fun _ _=>by walk_at "kb") (all0)))) (gs_k fun _ _=>by walk_at "kb") (all1 (zbc (gs_k (n:=16) fun _ _=>by walk_at "kb") (by decide)) (all1 (zbc (gs_k (n:=16) fun _ _=>by walk_at "kb") (by decide)) (all1 (zbc (gs_k (n:=16) fun _ _=>by walk_at "kb") (by decide)) (all0))))
 refine zdd (n:=136) (m:=162) (s₁:=sJ 47 5 720 T (wB b w₀) os) (zap (n:=136) (m:=0) (a:=()) (s₁:=sJ 47 5 720 T (wB b w₀) os) (q₁:=qD) ?_ zaB) ?_
 ·refine zbh (n1:=24) (n2:=108) (n3:=3) (h:=reduceHash (Builtin.Tuple.tupleHashOf [PyData.keyHash (wB b w₀).params "m",hashInt 3])) (s₁:=sJ 47 4 720 T (wB b w₀) os) rfl (zbH (n1:=1) (n2:=1) (n4:=20) (f := "tuple.__hash__") (t:=719) (fun z=>(gs_k fun _ _=>by walk_at "kb")) (gs_k fun _ _=>by walk_at "kb") (gs_k fun _ _=>by walk_at "kb") fun z=>(gs_k fun _ _=>by walk_at "kb")) ?_ (fun z=>(gs_k fun _ _=>by walk_at "kb")) (gs_k fun _ _=>by walk_at "kb")
  exact zdh (k:=4) (cq:=3) (ce:=20) (n:=4) (es:=Array.mk ((ents (wB b w₀).params).take 4)) (Nat.le_refl _) (gs_k fun _ _=>by walk_at "kb") (by kernel_rfl) (fun z=>(gs_k fun _ _=>by walk_at "kb")) (gs_k fun _ _=>by walk_at "kb") (all1 (gs_k fun _ _=>by walk_at "kb") (all1 (gs_k fun _ _=>by walk_at "kb") (all1 (gs_k fun _ _=>by walk_at "kb") (all1 (gs_k fun _ _=>by walk_at "kb") (all0))))) (gs_k fun _ _=>by walk_at "kb") (all1 (zbc (gs_k (n:=16) fun _ _=>by walk_at "kb") (by decide)) (all1 (zbc (gs_k (n:=16) fun _ _=>by walk_at "kb") (by decide)) (all1 (zbc (gs_k (n:=16) fun _ _=>by walk_at "kb") (by decide)) (all1 (zbc (gs_k (n:=16) fun _ _=>by walk_at "kb") (by decide)) (all0)))))
 refine zdd (n:=162) (m:=0) (s₁:=sJ 47 6 723 T (wB b w₀) os) (zap (n:=162) (m:=0) (a:=()) (s₁:=sJ 47 6 723 T (wB b w₀) os) (q₁:=qD) ?_ zaB) ?_
 ·refine zbh (n1:=24) (n2:=134) (n3:=3) (h:=reduceHash (Builtin.Tuple.tupleHashOf [PyData.keyHash (wB b w₀).params "m",hashInt 5])) (s₁:=sJ 47 5 723 T (wB b w₀) os) rfl (zbH (n1:=1) (n2:=1) (n4:=20) (f := "tuple.__hash__") (t:=722) (fun z=>(gs_k fun _ _=>by walk_at "kb")) (gs_k fun _ _=>by walk_at "kb") (gs_k fun _ _=>by walk_at "kb") fun z=>(gs_k fun _ _=>by walk_at "kb")) ?_ (fun z=>(gs_k fun _ _=>by walk_at "kb")) (gs_k fun _ _=>by walk_at "kb")
  exact zdh (k:=5) (cq:=3) (ce:=20) (n:=5) (es:=Array.mk ((ents (wB b w₀).params).take 5)) (Nat.le_refl _) (gs_k fun _ _=>by walk_at "kb") (by kernel_rfl) (fun z=>(gs_k fun _ _=>by walk_at "kb")) (gs_k fun _ _=>by walk_at "kb") (all1 (gs_k fun _ _=>by walk_at "kb") (all1 (gs_k fun _ _=>by walk_at "kb") (all1 (gs_k fun _ _=>by walk_at "kb") (all1 (gs_k fun _ _=>by walk_at "kb") (all1 (gs_k fun _ _=>by walk_at "kb") (all0)))))) (gs_k fun _ _=>by walk_at "kb") (all1 (zbc (gs_k (n:=16) fun _ _=>by walk_at "kb") (by decide)) (all1 (zbc (gs_k (n:=16) fun _ _=>by walk_at "kb") (by decide)) (all1 (zbc (gs_k (n:=16) fun _ _=>by walk_at "kb") (by decide)) (all1 (zbc (gs_k (n:=16) fun _ _=>by walk_at "kb") (by decide)) (all1 (zbc (gs_k (n:=20) fun _ _=>by walk_at "kb") (by decide)) (all0))))))
 exact zaB
noncomputable def KK:Params→Frag:=fun P=>(fun (l:Frag) (_:l=(nat_lit 370,dictJ 6 P) :: fr.heap_1 P)=>l) _ (by delta fr.heap_1;exact rfl)
noncomputable def r2 (T:BT) (w:World) (os:OsState):Option SharedT:=runQ PP w 11 (some (.ref 6)) 10453 (sJ 48 6 724 T w os) (thAt 46 qB)
def zfg {m:Nat} {q:Pos} (h:blockStart ((behindTheImports PP).drop m) env=pure ()):thAt m q=restOf ((behindTheImports PP).drop m) env cE q BB:=by
 unfold thAt
 rw [← Fast.te11892475500146522536,← Fast.te14364793385576792824,body_wrap,h]
 rfl
def b45:blockStart ((behindTheImports PP).drop 45) env=pure ():=by kernel_rfl
def b46:blockStart ((behindTheImports PP).drop 46) env=pure ():=by kernel_rfl
def mid_is (w:World) (os:OsState) (T:BT) {N:Nat} {r:SharedT} (h:runQ PP w 11 (some (.ref 6)) N (sJ 48 6 724 T w os) (thAt 46 qB)=some r):runQ PP w 11 (some (.ref 6)) (2000+N) (sA T w os) (thAt 45 qA)=some r:=by
 rw [zfg b46] at h
 rw [zfg b45,dr46]
 have z:=World.withFollow_self w "special-get-raises"
 cases hb:w.params.followText "special-get-raises" <;> rw [hb] at z
 ·have:=p46 false T w os
  unfold wB at this
  rw [z] at this
  exact st_gs this h
 ·have:=p46 true T w os
  unfold wB at this
  rw [z] at this
  exact st_gs this h
def zk9 (w:World) (os:OsState):∃ T,∀ r,r2 T w os=some r→runQ PP w 11 (some (.ref 6)) 16182 (zce w.params os) (topStub PP)=some r:=
 ⟨ziq (m1 w os),fun r h=>glue (M:=3729) (n:=2000) (N:=10453) (half w os) (fun h=>mid_is w os _ h) h⟩
def as:List Nat:=[370,2,3,15,17,18,20,21,22,29,30,31,32,35,42,43,44,47,54,55,56,59,66,67,68,71,78,79,80,83,90,91,92,95,102,103,104,107,114,115,116,119,126,128,129,131,132,133,134,135,138,145,147,148,150,151,152,153,154,157,164,166,167,169,170,171,172,173,176,183,185,186,188,189,190,191,192,195,197,198,200,201,202,204,205,207,208,209,212,213,214,216,217,219,220,221,223,224,226,227,228,230,231,233,234,235,237,238,240,241,242,244,245,247,248,249,252,253,254,256,257,259,260,261,263,264,266,267,268,270,271,273,274,275,277,278,280,281,282,284,285,287,288,289,291,292,294,295,296,298,299,301,302,303,306,307,308,310,311,313,314,315,317,318,320,321,329,330,332,333,335,336,337,339,340,342,343,344,346,347,349,350,351,353,354,356,357,358,359,360,361,362,365,368,369,371,372,373,374,375,376,377,378,379,380,381,382,383,385,386,388,389,390,393,394,395,397,398,400,401,402,404,405,407,408,409,411,412,414,415,416,419,420,428,430,431,433,434,435,437,438,440,441,442,444,445,447,448,449,452,453,454,456,457,459,460,461,463,464,466,467,468,470,471,473,474,475,477,478,480,481,482,484,485,487,488,489,491,492,494,495,496,497,498,499,500,503,510,511,513,514,516,517,518,519,520,523,530,533,534,535,537,538,540,541,542,543,544,547,554,555,557,558,560,561,562,563,564,567,574,575,577,578,580,581,582,584,585,587,588,589,590,591,594,601,602,604,605,607,608,609,611,612,614,615,616,618,619,621,622,623,625,626,628,629,630,632,633,635,636,637,638,639,642,644,645,647,648,649,651,652,654,655,656,658,659,661,662,663,665,666,668,669,670,672,673,675,676,677,679,680,682,683,684,686,687,689,690,691,693,694,696,697,698,700,701,703,704,705,707,708,710,711,719,721,722,724,725,726,728,729,731,732,733,734,735,736,737,747,748,751,752,753,756,757,758,759,761,762,764,765,766,768,769,771,772,773,775,776,778,779,780,782,783,785,786,787,789,790,792,793,794,796,797,799,800,801,803,804,806,807,808,810,811,813,814,815,817,818,820,821,822,824,825,827,828,829,830,832,833,835,836,837,839,840,842,843,844,846,847,849,850,851,853,854,856,857,858,859,860,861,862,865,867,868,870,871,872,874,875,877,878,879,882,883,884,887,888,889,891,892,894,895,917,919,920,922,923,924,926,927,929,930,931,934,935,936,939,940,941,943,944,946,947,948,950,951,953,954,955,957,958,960,961,962,964,965,967,968,969,972,973,974,976,977,979,980]
def l1 (T:BT) (w:World) (os:OsState):(r2 T w os).map (E1 PP vw w)=some (true,expectedOf vw):=by kernel_rfl
def l2 (T:BT) (w:World) (os:OsState):(r2 T w os).map (E2 vw ls)=some true:=by kernel_rfl
def l3 (T:BT) (w:World) (os:OsState):(r2 T w os).map (E3 PP vw (fun s=>xlAt vw [] s && recOk (RowW.records (OpenRow.toRowW (OpenLaw.row PySem.Challenge.rw_chipbus_k53_bad_rows))) s))=some (bltViewBooted,true,true,true,true,true,true,true,pinGoodD (drecsOf vw)):=by kernel_rfl
def l4 (T:BT) (w:World) (os:OsState):(r2 T w os).map (E4 vw ls)=some (plainGoodE vw (looseW vw ls),plainGoodD vw ls,wideGood vw,clsGoodW vw ls):=by kernel_rfl
def l5 (T:BT) (w:World) (os:OsState):(r2 T w os).map (fun s=>as.map (getT s))=some ((KK w.params).map fun p=>some p.2):=by kernel_rfl
def h1:zly PP vw ls (fun s=>xlAt vw [] s && recOk (RowW.records (OpenRow.toRowW (OpenLaw.row PySem.Challenge.rw_chipbus_k53_bad_rows))) s) 16182 true:=fun w os=>by
 obtain ⟨T,h⟩:=zk9 w os
 exact zka h (l1 T w os) (l2 T w os) (l3 T w os) (l4 T w os)
def h2 (w:World) (os:OsState):(runQ PP w 11 (some (.ref 6)) 16182 (zce w.params os) (topStub PP)).map (fun s=>as.map (getT s))=some ((KK w.params).map fun p=>some p.2):=by
 obtain ⟨T,h⟩:=zk9 w os
 exact lk h (l5 T w os)
end Hd
open PySem PySem.W in
local macro_rules | `(tactic| o_head $H)=>`(tactic| (
 refine holds_open (q:=Hd.vw) (loose:=Hd.ls) (Xt:=fun s=>xlAt Hd.vw [] s && recOk (RowW.records (OpenRow.toRowW (OpenLaw.row PySem.Challenge.rw_chipbus_k53_bad_rows))) s) (XP:=XL Hd.vw []) (Yf:=Hook.obs $H) (Ya:=Hook.val $H) (YP:=Hook.says $H) (N:=16182) ?hl (Hook.of $H) (Hook.keeps $H) (fun s e=>xl_of s (Bool.and_eq_true_iff.mp e).1) XL.keeps (by rfl) (by rfl) (by rfl) (fun s e=>recFacts_of (Bool.and_eq_true_iff.mp e).2) (by rfl) (by first | assumption | decide +kernel) (by decide +kernel) ⟨rfl,rfl,rfl,rfl,rfl,by decide +kernel⟩ ?hw ?hc
 (case hl=>refine Hd.left_of Hd.h1 (by kernel_rfl) (fun s=>by kernel_rfl) rfl ?h2;(case h2=>exact Hd.h2))))
open PySem PySem.W in
local macro_rules | `(tactic| k_head)=>`(tactic| o_head (kHook Hd.KK Hd.as (fun _=>by kernel_rfl)))
open_top Hd.top for PySem.Challenge.rw_chipbus_k53_bad_rows
end
section
namespace L2
open PySem PySem.Spec PyProof.Rows
abbrev Key:=Sum Int Str
def zhP:Key->Value->Bool
 | .inl k,v=>Value.isInt k v
 | .inr x,v=>Value.isStrOf x v
def keyH(w:World):Key->Int
 | .inl k=>hashInt k
 | .inr x=>hashStr w x
def zaL:∀{k:Key} {v:Value},zhP k v=true->(∃i t,k=Sum.inl i/\v=Value.int i t)\/(∃x t,k=Sum.inr x/\v=Value.str x t)
 | .inl i,v,h=>by
  obtain⟨t,e⟩:=Value.isInt_shape (k:=i) (v:=v) h
  exact .inl ⟨i,t,O,e⟩
 | .inr x,v,h=>by
  obtain⟨t,e⟩:=Value.isStrOf_shape (x:=x) (v:=v) h
  exact .inr ⟨x,t,O,e⟩
def zjk(i:Int)(t:Tok):zhP (.inl i) (.int i t)=true:=by simp[zhP,Value.isInt]
def zjj(x:Str)(t:Tok):zhP (.inr x) (.str x t)=true:=by simp[zhP,Value.isStrOf]
def key_ll(a b:Int):decide ((Sum.inl a:Key)=Sum.inl b)=(a==b):=by
 by_cases e:a=b
 .subst e;simp
 .have h:¬ (Sum.inl a:Key)=Sum.inl b:=λq=>e (Sum.inl.inj q)
  rw[Xam h]
  exact(beq_eq_false_iff_ne.mpr e).symm
def key_rr(a b:Str):decide ((Sum.inr a:Key)=Sum.inr b)=decide (a=b):=by
 by_cases e:a=b
 .subst e;simp
 .have h:¬ (Sum.inr a:Key)=Sum.inr b:=λq=>e (Sum.inr.inj q)
  rw[Xam h,Xam e]
def key_lr(a:Int)(b:Str):decide ((Sum.inl a:Key)=Sum.inr b)=false:=Xam (λq=>nomatch q)
def key_rl(a:Str)(b:Int):decide ((Sum.inr a:Key)=Sum.inl b)=false:=Xam (λq=>nomatch q)
def zaR(prog:Program)(w:World):PySem.KeyKind prog w Key where
 is:=zhP
 hash:=keyH w
 inj:=λv a b ha hb=>by
  rcases zaL ha with⟨i,t,rfl,rfl⟩|⟨x,t,rfl,rfl⟩
  .rcases zaL hb with⟨j,u,rfl,e⟩|⟨y,u,rfl,e⟩
   .injection e with e1 _;rw[e1]
   .exact nomatch e
  .rcases zaL hb with⟨j,u,rfl,e⟩|⟨y,u,rfl,e⟩
   .exact nomatch e
   .injection e with e1 _;rw[e1]
 byValue:=λk v h=>by
  rcases zaL h with⟨i,t,rfl,rfl⟩|⟨x,t,rfl,rfl⟩<;>rfl
 pyHash:=λhv h=>by
  rcases zaL hv with⟨i,t,rfl,rfl⟩|⟨x,t,rfl,rfl⟩
  .exact wpAny_pyHash_int h
  .exact wpAny_pyHash_str h
 eqBool:=λhu hv h=>by
  rcases zaL hu with⟨i,t,rfl,rfl⟩|⟨x,t,rfl,rfl⟩
  .rcases zaL hv with⟨j,u,rfl,rfl⟩|⟨y,u,rfl,rfl⟩
   .rw[key_ll] at h;exact wpAny_eqBool_int h
   .rw[key_lr] at h;exact SeqAt.EqAt.int_str i t y u _ _ _ _ h
  .rcases zaL hv with⟨j,u,rfl,rfl⟩|⟨y,u,rfl,rfl⟩
   .rw[key_rl] at h;exact SeqAt.EqAt.str_int x t j u _ _ _ _ h
   .rw[key_rr] at h;exact wpAny_eqBool_str h
 «strs»:=λk x t v h=>by
  rcases zaL h with⟨i,u,rfl,e⟩|⟨y,u,rfl,e⟩
  .exact nomatch e
  .injection e with e1 _
   subst e1
   cases v<;>rfl
def zaV(prog:Program)(w:World)(i:Int)(t:Tok):(zaR prog w).is (.inl i) (.int i t)=true:=zjk i t
def zaU(prog:Program)(w:World)(x:Str)(t:Tok):(zaR prog w).is (.inr x) (.str x t)=true:=zjj x t
inductive V where
 | non|bl (b:Bool)|int (i:Int)|str (x:Str)|byt (b:Array UInt8)|flt (b:UInt64)|ref (a:Addr)|ty (n:String)
 deriving DecidableEq
def RelV:V->Value->Prop
 | .non,u=>u=Value.none
 | .bl b,u=>u=Value.bool b
 | .int i,u=>∃t,u=Value.int i t
 | .str x,u=>∃t,u=Value.str x t
 | .byt b,u=>∃t,u=Value.bytes b t
 | .flt b,u=>∃t,u=Value.float b t
 | .ref a,u=>u=Value.ref a
 | .ty n,u=>u=Value.type n
abbrev Vals:List V->List Value->Prop:=Paired RelV
def Vals.length{xs:List V}{us:List Value}(r:Vals xs us):xs.length=us.length:=Paired.length r
def Vals.get:∀{xs:List V} {us:List Value} {i:Nat} {x:V},Vals xs us->xs[i]?=some x->∃u,us[i]?=some u/\RelV x u
 | _,_,_,_,.nil,e=>by simp at e
 | _,_,0,_,.cons r _,e=>by simp at e;subst e;exact{_,O,r}
 | _,_,i+1,x,.cons _ t,e=>by
  obtain⟨u,h1,h2⟩:=Vals.get (i:=i) (x:=x) t (by simpa using e)
  exact{u,by simpa using h1,h2}
def Vals.set{x:V}{u:Value}(r:RelV x u):∀{xs:List V} {us:List Value} (i:Nat),Vals xs us->Vals (xs.set i x) (us.set i u)
 | _,_,_,.nil=>.nil
 | _,_,0,.cons _ t=>.cons r t
 | _,_,i+1,.cons q t=>.cons q (Vals.set r i t)
def Vals.append:∀{xs ys:List V} {us ws:List Value},Vals xs us->Vals ys ws->Vals (xs++ys) (us++ws)
 | _,_,_,_,.nil,s=>s
 | _,_,_,_,.cons r t,s=>.cons r (Vals.append t s)
def Vals.take:∀{xs:List V} {us:List Value} (n:Nat),Vals xs us->Vals (xs.take n) (us.take n)
 | _,_,0,_=>.nil
 | _,_,_+1,.nil=>.nil
 | _,_,n+1,.cons r t=>.cons r (Vals.take n t)
def Vals.drop:∀{xs:List V} {us:List Value} (n:Nat),Vals xs us->Vals (xs.drop n) (us.drop n)
 | _,_,0,r=>r
 | _,_,_+1,.nil=>.nil
 | _,_,n+1,.cons _ t=>Vals.drop n t
def RelO:Option V->Option Value->Prop
 | some v,some u=>RelV v u
 | none,none=>True
 | _,_=>False
def KV{κ:Type}:List (κ×V)->List (κ×Value)->Prop:=Paired λ(p:κ×V) (q:κ×Value)=>p.1=q.1/\RelV p.2 q.2
def kV:Key->V
 | .inl i=>.int i
 | .inr x=>.str x
inductive HO where
 
 | lst (xs:List V)
 
 | tup (xs:List V)
 
 | dK (kvs:List (Key×V))|dT (kvs:List (List Key×V))
 
 | set (S:Int->Bool) (n:Nat)
 
 | ins (C dx:Addr) (fs:List (Str×V))
 
 | own (x:Addr)
 
 | xd (fs:List (Str×V))
 
 | met (f x:Addr)
 
 | rng (lo hi:Int)
 
 | frz (o:Obj) (u:HO)
 
 | tbl (ps:Array Value)
 
 | ext (φ:Heap->Prop)
abbrev Hp:=Addr->Option HO
def upd(H:Hp)(a:Addr)(o:HO):Hp:=λb=>if b=a then some o else H b
def zac{H:Hp}{a:Addr}{o:HO}:upd H a o a=some o:=by unfold upd;rw[if_pos O]
def zah{H:Hp}{a b:Addr}{o:HO}(h:b≠a):upd H a o b=H b:=by unfold upd;rw[if_neg h]
def zlE{H:Hp}{a:Addr}{o u:HO}:upd (upd H a o) a u=upd H a u:=by
 funext b;unfold upd;split<;>rfl
def ne_of{H:Hp}{a b:Addr}{o u:HO}(h:H a=some o)(h':H b=some u)(d:o≠u):a≠b:=by
 intro e;subst e;rw[h] at h';exact d (Option.some.inj h')
def zaj{H:Hp}{a b:Addr}{o:HO}(h:H a=some o)(h':H b=none):a≠b:=by
 intro e;subst e;rw[h] at h';cases h'
section
variable(P:Program)(w:World)
def ObjOk(H:Hp)(h:Heap)(a:Addr):HO->Prop
 | .lst xs=>xs.length<=sizeLine/\∃(its:List Value) (n:Nat),Vals xs its/\h.get? a=some {cls:=.type "list",data:=.seq its.toArray n}
 | .tup xs=>(xs.length<=sizeLine/\∃o,h.get? a=some o/\o.dict=none)/\∃its:List Value,Vals xs its/\IsTup h a its.toArray
 | .dK kvs=>kvs.length<=sizeLine/\(a==sysModules)=false/\∃vs,KV kvs vs/\h.DictOf (zaR P w) a vs
 | .dT kvs=>kvs.length<=sizeLine/\(a==sysModules)=false/\∃xs:List (List Key×Addr×Value),
   Paired (λ(p:List Key×V) (q:List Key×Addr×Value)=>p.1=q.1/\H q.2.1=some (.tup (p.1.map kV))/\RelV p.2 q.2.2) kvs xs /\
   ∃o es ep,h.get? a=some o/\o.ExactDict/\o.data=.dict es ep/\es.toList=xs.map (entryOfKey (tupleKind (zaR P w)))/\(xs.map (·.1)).Nodup
 | .set S n=>h.SetOf (intKind P w) a S n
 | .ins C dx fs=>H dx=some (.own a)/\fs.length<=1000/\dx≠a/\h.get? a=some (W.instObj C dx) /\
   ∃mA,h.Ns1 dx mA/\(∀f,RelO (fs.lookup f) (mA f))/\PySem.Within mA (fs.map (·.1))
 | .own _=>∃o,h.get? a=some o
 | .xd fs=>∃mA,h.Ns1 a mA/\∀f,RelO (fs.lookup f) (mA f)
 | .rng lo hi=>∃t u v,h.get? a=some {cls:=.type "range",data:=.fields #[.int lo t,.int hi u,.int 1 v]}
 | .frz o u=>h.get? a=some o/\ObjOk H h a u
 | .tbl ps=>h.get? a=some {cls:=.none,data:=.fields ps}
 | .met f x=>h.get? a=some (W.methodObj (.ref f) (.ref x))
 | .ext φ=>φ h/\(∃o,h.get? a=some o)/\∀h1 h2:Heap,φ h1->(∀o,h1.get? a=some o->h2.get? a=some o)->φ h2
def HOk(H:Hp)(h:Heap):Prop:=∀a o,H a=some o->ObjOk P w H h a o
end
section
variable{P:Program}{w:World}{H H':Hp}{h h':Heap}{a:Addr}{o:HO}
def ObjOk.lt(x:ObjOk P w H h a o):a<h.objs.size:=by
 cases o with
 | lst xs=>obtain⟨_,_,_,_,e⟩:=x;exact Xai e
 | tup xs=>obtain⟨_,_,_,p⟩:=x;exact p.lt
 | dK kvs=>obtain⟨_,_,_,_,o,_,_,e,_⟩:=x;exact Xai e
 | dT kvs=>obtain⟨_,_,_,_,o,_,_,e,_⟩:=x;exact Xai e
 | set S n=>obtain⟨o,_,_,_,e,_⟩:=x;exact Xai e
 | ins C dx fs=>obtain⟨_,_,_,e,_⟩:=x;exact Xai e
 | own y=>obtain⟨_,e⟩:=x;exact Xai e
 | xd fs=>obtain⟨_,⟨_,_,_,e,_⟩,_⟩:=x;exact Xai e
 | rng lo hi=>obtain⟨_,_,_,e⟩:=x;exact Xai e
 | frz ob u=>obtain⟨e,_⟩:=x;exact Xai e
 | tbl ps=>exact Xai (show h.get? a=some _ from x)
 | met f y=>exact Xai (show h.get? a=some _ from x)
 | ext φ=>obtain⟨_,⟨_,e⟩,_⟩:=x;exact Xai e
def Paired.mapP{α β:Type}{F G:α->β->Prop}:∀{l₁:List α} {l₂:List β},Paired F l₁ l₂->(∀a b,F a b->G a b)->Paired G l₁ l₂
 | _,_,.nil,_=>.nil
 | _,_,.cons r t,f=>.cons (f _ _ r) (Paired.mapP t f)
def ObjOk.stay(x:ObjOk P w H h a o)(k:∀b u,(b=a\/H b=some (.own a))->h.get? b=some u->h'.get? b=some u)
  (ho:∀b,H b=some (.own a)->H' b=some (.own a)) (ht:∀b xs,H b=some (.tup xs)->H' b=some (.tup xs)):ObjOk P w H' h' a o:=by
 induction o with
 | lst xs=>obtain⟨z,its,n,r,e⟩:=x;exact{z,its,n,r,k _ _ (.inl O) e}
 | tup xs=>obtain⟨⟨z,o,eo,dn⟩,its,r,ob,e,c⟩:=x;exact{{z,o,k _ _ (.inl O) eo,dn},its,r,ob,k _ _ (.inl O) e,c}
 | dK kvs=>obtain⟨z,y,vs,r,ob,es,ep,e,c⟩:=x;exact{z,y,vs,r,ob,es,ep,k _ _ (.inl O) e,c}
 | dT kvs =>
  obtain⟨z,y,xs,r,ob,es,ep,e,c⟩:=x
  exact{z,y,xs,Paired.mapP r λp q z=>{z.1,ht _ _ z.2.1,z.2.2},ob,es,ep,k _ _ (.inl O) e,c}
 | set S n=>obtain⟨ob,es,ep,t,e,c⟩:=x;exact{ob,es,ep,t,k _ _ (.inl O) e,c}
 | ins C dx fs =>
  obtain⟨d,z,ne,e,mA,⟨od,es,ep,e2,c⟩,r⟩:=x
  exact{ho _ d,z,ne,k _ _ (.inl O) e,mA,{od,es,ep,k _ _ (.inr d) e2,c},r}
 | own y=>obtain⟨ob,e⟩:=x;exact{ob,k _ _ (.inl O) e}
 | xd fs=>obtain⟨mA,⟨od,es,ep,e,c⟩,r⟩:=x;exact{mA,{od,es,ep,k _ _ (.inl O) e,c},r}
 | rng lo hi=>obtain⟨t,u,v,e⟩:=x;exact{t,u,v,k _ _ (.inl O) e}
 | frz ob u ih=>obtain⟨e,q⟩:=x;exact{k _ _ (.inl O) e,ih q}
 | tbl ps =>
  have e:h.get? a=some {cls:=.none,data:=.fields ps}:=x
  show h'.get? a=some {cls:=.none,data:=.fields ps}
  exact k a _ (.inl O) e
 | met f y =>
  have e:h.get? a=some (W.methodObj (.ref f) (.ref y)):=x
  show h'.get? a=some (W.methodObj (.ref f) (.ref y))
  exact k a _ (.inl O) e
 | ext φ=>obtain⟨p,⟨o,e⟩,st⟩:=x;exact{st _ _ p λo q=>k _ _ (.inl O) q,{o,k _ _ (.inl O) e},st}
def HOk.lt(x:HOk P w H h)(e:H a=some o):a<h.objs.size:=(x a o e).lt
def HOk.fresh(x:HOk P w H h)(e:h.objs.size<=a):H a=none:=by
 cases q:H a with
 | none=>rfl
 | some u=>exact absurd (Xao (x.lt q) e) (XaY _)
def HOk.kept(x:HOk P w H h)(k:∀b u,h.get? b=some u->h'.get? b=some u):HOk P w H h':=λa o e =>
 (x a o e).stay (λb u _ q=>k b u q) (λ_ q=>q) λ_ _ q=>q
def HOk.laid(x:HOk P w H h)(k:∀b u,h.get? b=some u->h'.get? b=some u)(hp:h.objs.size<=a)(new:ObjOk P w (upd H a o) h' a o):HOk P w (upd H a o) h':=λb u e=>by
 have hn:=x.fresh hp
 by_cases hb:b=a
 .subst hb;rw[zac] at e;cases e;exact new
 .rw[zah hb] at e
  exact(x b u e).stay (λc v _ q=>k c v q) (λc q=>by rw[zah (zaj q hn)];exact q) λc xs q=>by rw[zah (zaj q hn)];exact q
end
def Rd(H:Hp)(a:Addr)(u:HO):Prop:=H a=some u\/∃o,H a=some (.frz o u)
def Rd.ok{P:Program}{w:World}{H:Hp}{h:Heap}{a:Addr}{u:HO}(r:Rd H a u)(x:HOk P w H h):ObjOk P w H h a u:=by
 rcases r with r|⟨o,r⟩
 .exact x a u r
 .obtain⟨_,q⟩:=x a _ r
  exact q
def Mut:Option HO->Prop
 | some (.lst _)=>True
 | some (.dK _)=>True
 | some (.dT _)=>True
 | some (.set _ _)=>True
 | some (.ins _ _ _)=>True
 | some (.ext _)=>True
 | _=>False
section
variable{P:Program}{w:World}{H:Hp}{h h':Heap}{x e:Addr}{o':HO}
def HOk.write(ok:HOk P w H h)(mu:Mut (H x))(he:e=x\/H e=some (.own x))(k:∀b u,b≠e->h.get? b=some u->h'.get? b=some u)(heo:∃u,h'.get? e=some u)
  (new:ObjOk P w (upd H x o') h' x o'):HOk P w (upd H x o') h':=λb u q=>by
 have nown:∀c y,H c=some (.own y)->c≠x:=λc y r z=>by subst z;rw[r] at mu;exact mu
 have ntup:∀c xs,H c=some (.tup xs)->c≠x:=λc xs r z=>by subst z;rw[r] at mu;exact mu
 by_cases hb:b=x
 .subst hb;rw[zac] at q;cases q;exact new
 .rw[zah hb] at q
  by_cases hbe:b=e
  .have q':H b=some (.own x):=by
    rcases he with z|z
    .exact absurd (hbe.trans z) hb
    .rw[hbe];exact z
   rw[q] at q';cases q'
   obtain⟨v,hv⟩:=heo
   exact{v,by rw[hbe];exact hv}
  .refine(ok b u q).stay (λc v hc r=>k c v ?_ r) (λc r=>by rw[zah (nown c b r)];exact r) λc xs r=>by rw[zah (ntup c xs r)];exact r
   rcases hc with rfl|hc
   .exact hbe
   .rintro rfl
    rcases he with z|z
    .exact nown c b hc z
    .rw[hc] at z;cases z;exact hb O
end
structure Un(fs ex:List Addr)(H H':Hp)(h h':Heap):Prop where
 keep:∀b o,h.get? b=some o->H b=none->b∉fs->b∉ex->h'.get? b=some o
 slot:∀b o,h.get? b=some o->H b=none->b∈fs->b∉ex->∃sl,h'.get? b=some {o with slots:=sl}
 free:∀b o,h.get? b=some o->H b=none->b∉ex->H' b=none
 there:∀b o,h.get? b=some o->b∉ex->∃o',h'.get? b=some o'
 tups:∀b xs,H b=some (.tup xs)->H' b=some (.tup xs)
 frzs:∀b o u,H b=some (.frz o u)->H' b=some (.frz o u)
 tbls:∀b ps,H b=some (.tbl ps)->∃more,H' b=some (.tbl (ps++more))
section
variable{fs fs' ex ex':List Addr}{H H1 H2:Hp}{h h1 h2 h':Heap}{a x e:Addr}{o:HO}
def Un.any(u:Un fs ex H H1 h h1){b:Addr}{ob:Obj}(q:h.get? b=some ob)(n:H b=none)(hx:b∉ex):∃sl,h1.get? b=some {ob with slots:=sl}:=by
 by_cases hb:b∈fs
 .exact u.slot b ob q n hb hx
 .exact{ob.slots,u.keep b ob q n hb hx}
def Un.kept(k:∀b u,h.get? b=some u->h'.get? b=some u):Un fs ex H H h h':=
 {λb ob q _ _ _=>k b ob q,λb ob q _ _ _=>{ob.slots,k b ob q},λ_ _ _ n _=>n,λb ob q _=>{ob,k b ob q},λ_ _ q=>q,λ_ _ _ q=>q,λ_ ps q=>{#[],by rw[q];simp}}
def Un.refl:Un fs ex H H h h:=Un.kept λ_ _ q=>q
def Un.laid(k:∀b u,h.get? b=some u->h'.get? b=some u)(hp:h.objs.size<=a)(hn:H a=none):Un fs ex H (upd H a o) h h' where
 keep:=λb u q _ _ _=>k b u q
 slot:=λb u q _ _ _=>{u.slots,k b u q}
 free:=λb u q n _=>by rw[zah (Xay (Xao (Xai q) hp))];exact n
 there:=λb u q _=>{u,k b u q}
 tups:=λb xs q=>by rw[zah (zaj q hn)];exact q
 frzs:=λb u xs q=>by rw[zah (zaj q hn)];exact q
 tbls:=λb ps q=>{#[],by rw[zah (zaj q hn),q];simp}
def Un.write(mu:Mut (H x))(he:e=x\/H e=some (.own x))(k:∀b u,b≠e->h.get? b=some u->h'.get? b=some u)(heo:∃u,h'.get? e=some u):Un fs ex H (upd H x o) h h':=by
 have hx:∀b,H b=none->b≠x:=λb n z=>by subst z;rw[n] at mu;exact mu
 have hb:∀b,H b=none->b≠e:=λb n z=>by
  subst z
  rcases he with r|r
  .exact hx b n r
  .rw[n] at r;cases r
 have hm:∀b u,H b=some u->¬ Mut (some u)->b≠x:=λb u q nm z=>by subst z;rw[q] at mu;exact nm mu
 refine⟨λb u q n _ _=>k b u (hb b n) q,λb u q n _ _=>{u.slots,k b u (hb b n) q},λb u q n _=>by rw[zah (hx b n)];exact n,λb u q _=>?_,
  λb xs q=>by rw[zah (hm b _ q λz=>z)];exact q,λb u xs q=>by rw[zah (hm b _ q λz=>z)];exact q,λb ps q=>{#[],by rw[zah (hm b _ q λz=>z),q];simp}⟩
 by_cases hbe:b=e
 .subst hbe;exact heo
 .exact{u,k b u hbe q}
end
def trk(h:Heap)(H:Hp):List Addr:=(List.range h.objs.size).filter λa=>(H a).isSome
def hidT(h:Heap)(H:Hp):Heap:=W.hideAll h (trk h H)
def zjo(h:Heap)(H:Hp):(hidT h H).objs.size=h.objs.size:=W.hideAll_size _ _
def zkG{h:Heap}{H:Hp}{b:Addr}{o:Obj}(e:h.get? b=some o)(n:H b=none):(hidT h H).get? b=some o:=
 W.hideAll_get _ e λhm=>by
  have q:(H b).isSome=true:=(List.mem_filter.mp hm).2
  rw[n] at q;simp at q
def zmf{h:Heap}{H:Hp}{b:Addr}{o:Obj}(e:(hidT h H).get? b=some o):h.get? b=some o/\H b=none:=by
 have e':h.get? b=some o:=W.of_hideAll (trk h H) e
 refine{e',?_}
 cases q:H b with
 | none=>rfl
 | some x =>
  have hm:b∈trk h H:=List.mem_filter.mpr {List.mem_range.mpr (Xai e'),by simp[q]}
  have z:(hidT h H).get? b=none:=W.hideAll_none (trk h H) hm
  rw[z] at e;cases e
structure Mod(K:W.Frag)(mg:Str->Option Value)(base:Heap):Prop where
 kin:K.In base
 glob:base.Ns mainGlobals mg
 blt:∃mb,base.Ns builtinsNs mb/\∀x:Str,x ≠ "__name__" -> mb x=bootBuiltins x
 nolimit:base.NoLimit
structure Cx where
 prog:Program
 w:World
 K:W.Frag
 mg:Str->Option Value
 base:Heap
 A:Around
 N:List Str
 s₀:Shared
 H₀:Hp
 env:Env
 outer:List Env
 stack:List Env
 ex:List Addr
 fn:Str->Bool
 calm:Bool
 pn:List (Addr×Obj)
 xe:Value->Shared->Prop
def frs(l:List Env):List Addr:=l.filterMap (·.frame)
abbrev Cx.fs(X:Cx):List Addr:=frs X.outer
def Vis(sc:Scope)(x:Str):Prop:=sc.names.lookup x=some .local\/sc.names.lookup x=some .cell\/sc.names.lookup x=some .free
def Loc(sc:Scope)(x:Str):Prop:=sc.names.lookup x=some .local\/sc.names.lookup x=some .cell
def Look(env:Env)(h:Heap)(m:Str->Option Value)(x:Str)(u:Value):Prop:=
 (env.kindOf x=some .local/\m x=some u)\/((env.kindOf x=some .cell\/env.kindOf x=some .free)/\∃c,env.cells.lookup x=some c/\h.IsCell c (some u))
structure Cx.Ok(X:Cx):Prop where
 mod:Mod X.K X.mg X.base
 kind:X.env.scope.kind=.function
 glob:X.env.globals=mainGlobals
 blt:X.env.builtins=builtinsNs
 above:X.s₀.heap.objs.size<=X.env.locals
 inj:∀x y c,X.env.cells.lookup x=some c->X.env.cells.lookup y=some c->x=y
 has:∀x,(X.env.kindOf x=some .cell\/X.env.kindOf x=some .free)->∃c,X.env.cells.lookup x=some c
 cab:∀x c,X.fn x=true->X.env.cells.lookup x=some c->X.s₀.heap.objs.size<=c
 hd:X.calm=true->X.A.handled=none
 frames:X.A.frames=some X.stack
 stk:X.stack=X.outer\/(X.stack=X.env::X.outer/\X.env.frame=some X.env.locals)
 exf:∀b∈X.ex,b≠X.env.locals/\∀x c,X.env.cells.lookup x=some c->c≠b
 bs:∀b o,X.base.get? b=some o->X.s₀.heap.get? b=some o/\X.H₀ b=none
 bsz:X.base.objs.size<=X.s₀.heap.objs.size
 noex:∀b o,X.base.get? b=some o->b∉X.ex
 exfs:∀b∈X.ex,b∉X.fs
 funs:X.s₀.heap.FunFrames X.base X.outer
 frf:∀b∈X.fs,X.H₀ b=none
structure Inv(X:Cx)(pins:List (Addr×Obj))(U:List (Option V))(H:Hp)(s:Shared):Prop where
 ok:X.Ok
 os:s.os=X.s₀.os
 bare:AllBare s.gens
 base:Un X.fs X.ex X.H₀ H X.s₀.heap s.heap
 loc:∃m,s.heap.Ns X.env.locals m/\∀(i:Nat) (x:Str) (v:V),X.N[i]?=some x->U[i]?=some (some v)->Vis X.env.scope x->∃u,RelV v u/\Look X.env s.heap m x u
 cell:∀x c,X.env.cells.lookup x=some c->∃v,s.heap.IsCell c v
 free:H X.env.locals=none
 freeC:∀x c,X.env.cells.lookup x=some c->H c=none
 pin:∀p∈X.pn++pins,s.heap.get? p.1=some p.2/\H p.1=none/\p.1≠X.env.locals/\p.1∉X.fs/\∀v,p.2.data≠.cell v
 hok:HOk X.prog X.w H s.heap
 len:U.length=X.N.length
section
variable{X:Cx}{pins:List (Addr×Obj)}{U:List (Option V)}{H H':Hp}{s:Shared}{h':Heap}
def Cx.Ok.nofr(ok:X.Ok){b:Addr}{o:Obj}(e:X.base.get? b=some o):b∉X.fs:=λhb=>by
 have:=(ok.funs.mem hb).1
 rw[e] at this;cases this
def Inv.bs(I:Inv X pins U H s):∀b o,X.base.get? b=some o->s.heap.get? b=some o/\H b=none:=λb o e =>
 {I.base.keep b o (I.ok.bs b o e).1 (I.ok.bs b o e).2 (I.ok.nofr e) (I.ok.noex b o e),I.base.free b o (I.ok.bs b o e).1 (I.ok.bs b o e).2 (I.ok.noex b o e)}
def Inv.bk(I:Inv X pins U H s):∀b o,X.base.get? b=some o->s.heap.get? b=some o:=λb o e=>(I.bs b o e).1
def Inv.mod(I:Inv X pins U H s):Mod X.K X.mg X.base:=I.ok.mod
def Inv.kIn(I:Inv X pins U H s):X.K.In s.heap:=I.ok.mod.kin.keeps I.bk
def Inv.lt(I:Inv X pins U H s):X.env.locals<s.heap.objs.size:=let⟨_,hn,_⟩:=I.loc;hn.lt
def Inv.sz(I:Inv X pins U H s):X.s₀.heap.objs.size<=s.heap.objs.size:=Xak I.ok.above (Nat.le_of_lt I.lt)
def Inv.nofs(I:Inv X pins U H s){a:Addr}(h:s.heap.objs.size<=a):a∉X.fs:=λhb=>by
 obtain⟨_,o,ho,_⟩:=I.ok.funs.mem hb
 exact absurd (Xao (Xai ho) (Xak I.sz h)) (XaY _)
def Inv.cne(I:Inv X pins U H s):∀x c,X.env.cells.lookup x=some c->c≠X.env.locals:=λx c e z=>by
 obtain⟨v,o,ho,hd⟩:=I.cell x c e
 obtain⟨m,⟨o',es,ep,ho',hd',_⟩,_⟩:=I.loc
 rw[z,ho'] at ho;cases ho;rw[hd'] at hd;cases hd
def Inv.funs(I:Inv X pins U H s):s.heap.FunFrames X.base X.outer:=by
 have all:∀(l:List Env),(∀b∈frs l,b∈X.fs)->X.s₀.heap.FunFrames X.base l->s.heap.FunFrames X.base l:=by
  intro l
  induction l with
  | nil=>intro _ _;trivial
  | cons env r ih =>
   intro hs hl
   obtain⟨hk,⟨L,o,hf,hn,ho,hd⟩,hr⟩:=hl
   have hL:L∈X.fs:=hs L (by unfold frs;rw[List.filterMap_cons,hf];exact Xat)
   obtain⟨sl,e⟩:=I.base.slot L o ho (I.ok.frf L hL) hL λz=>I.ok.exfs L z hL
   exact{hk,{L,_,hf,hn,e,hd},ih (λb hb=>hs b (by unfold frs;rw[List.filterMap_cons,hf];exact Xau _ hb)) hr}
 exact all X.outer (λ_ hb=>hb) I.ok.funs
def Inv.stack(I:Inv X pins U H s):s.heap.FunFrames X.base X.stack:=by
 rcases I.ok.stk with e|⟨e,hf⟩
 .rw[e];exact I.funs
 .rw[e]
  obtain⟨m,hn,_⟩:=I.loc
  refine .cons (by rw[I.ok.kind];decide) hf hn ?_ I.funs
  exact Xbz (Xak I.ok.bsz I.ok.above)
def Inv.stkSub(I:Inv X pins U H s):∀b∈frs X.stack,b∈X.env.locals::X.fs:=λb hb=>by
 rcases I.ok.stk with e|⟨e,hf⟩
 .rw[e] at hb;exact Xau _ hb
 .rw[e] at hb
  unfold frs at hb
  rw[List.filterMap_cons,hf] at hb
  exact hb
def Inv.stkFree(I:Inv X pins U H s):∀b∈frs X.stack,H b=none:=λb hb=>by
 rcases Xan.mp (I.stkSub b hb) with e|hb
 .rw[e];exact I.free
 .obtain⟨_,o,ho,_⟩:=I.ok.funs.mem hb
  exact I.base.free b o ho (I.ok.frf b hb) λz=>I.ok.exfs b z hb
def Inv.step{g':Array GenState}{t':Nat}{d':Drawn}{ch:List Addr}(I:Inv X pins U H s)
  (hch:∀b∈ch,(b∈X.ex\/X.s₀.heap.objs.size<=b)/\b≠X.env.locals/\(∀x c,X.env.cells.lookup x=some c->c≠b)/\∀p∈X.pn++pins,p.1≠b)
  (keep:∀b o,b≠X.env.locals->b∉X.fs->b∉ch->s.heap.get? b=some o->H b=none->h'.get? b=some o)
  (slot:∀b o,b≠X.env.locals->b∈X.fs->b∉ch->s.heap.get? b=some o->H b=none->∃sl,h'.get? b=some {o with slots:=sl}) (free:∀b o,b∉ch->s.heap.get? b=some o->H b=none->H' b=none)
  (there:∀b o,b∉ch->s.heap.get? b=some o->∃o',h'.get? b=some o')
  (tups:∀b xs,H b=some (.tup xs)->H' b=some (.tup xs)) (frzs:∀b o u,H b=some (.frz o u)->H' b=some (.frz o u)) (tbls:∀b ps,H b=some (.tbl ps)->∃more,H' b=some (.tbl (ps++more)))
  (ns:∀m,s.heap.Ns X.env.locals m->h'.Ns X.env.locals m) (hok:HOk X.prog X.w H' h') (hg:AllBare g') :
  Inv X pins U H' {s with heap:=h',gens:=g',drawn:=d',toks:=t'}:=by
 have neL:∀b o,X.s₀.heap.get? b=some o->b≠X.env.locals:=λb o e=>Xay (Xao (Xai e) I.ok.above)
 have neC:∀b o,X.s₀.heap.get? b=some o->b∉X.ex->b∉ch:=λb o e hx hb=>by
  rcases(hch b hb).1 with z|z
  .exact hx z
  .exact absurd (Xao (Xai e) z) (XaY _)
 have cellK:∀x c,X.env.cells.lookup x=some c->∀v,s.heap.IsCell c v->h'.IsCell c v:=λx c e v ⟨o,ho,hd⟩=>by
  have nch:c∉ch:=λz=>(hch c z).2.2.1 x c e O
  by_cases hc:c∈X.fs
  .obtain⟨sl,q⟩:=slot c o (I.cne x c e) hc nch ho (I.freeC x c e)
   exact{_,q,hd}
  .exact{o,keep c o (I.cne x c e) hc nch ho (I.freeC x c e),hd}
 refine{I.ok,I.os,hg,{λb o e n hb hx=>?_,λb o e n hb hx=>?_,λb o e n hx=>?_,λb o e hx=>?_,λb xs e=>tups b xs (I.base.tups b xs e),λb o xs e=>frzs b o xs (I.base.frzs b o xs e),λb ps e=>?_},?_,λx c e=>?_,?_,λx c e=>?_,λp hp=>?_,hok,I.len}
 .exact keep b o (neL b o e) hb (neC b o e hx) (I.base.keep b o e n hb hx) (I.base.free b o e n hx)
 .obtain⟨sl,e1⟩:=I.base.slot b o e n hb hx
  obtain⟨sl',e2⟩:=slot b _ (neL b o e) hb (neC b o e hx) e1 (I.base.free b o e n hx)
  exact⟨sl',e2⟩
 .obtain⟨o',e1⟩:=I.base.there b o e hx
  exact free b o' (neC b o e hx) e1 (I.base.free b o e n hx)
 .obtain⟨o',e1⟩:=I.base.there b o e hx
  exact there b o' (neC b o e hx) e1
 .obtain⟨m1,e1⟩:=I.base.tbls b ps e
  obtain⟨m2,e2⟩:=tbls b _ e1
  exact{m1++m2,by rw[e2,Array.append_assoc]}
 .obtain⟨m,hn,hl⟩:=I.loc
  refine{m,ns m hn,λi x v e1 e2 e3=>?_}
  obtain⟨u,r,l⟩:=hl i x v e1 e2 e3
  refine{u,r,?_}
  rcases l with l|⟨k,c,e,z⟩
  .exact .inl l
  .exact .inr {k,c,e,cellK x c e _ z}
 .obtain⟨v,z⟩:=I.cell x c e
  exact{v,cellK x c e v z}
 .obtain⟨m,⟨o,_,_,ho,_⟩,_⟩:=I.loc
  exact free _ o (λz=>(hch _ z).2.1 O) ho I.free
 .obtain⟨v,o,ho,hd⟩:=I.cell x c e
  exact free c o (λz=>(hch c z).2.2.1 x c e O) ho (I.freeC x c e)
 .obtain⟨e,n,ne,nf,d⟩:=I.pin p hp
  have nch:p.1∉ch:=λz=>(hch p.1 z).2.2.2 p hp O
  exact{keep p.1 p.2 ne nf nch e n,free p.1 p.2 nch e n,ne,nf,d}
def Inv.un{t':Nat}(I:Inv X pins U H s)(u:Un X.fs [] H H' s.heap h')(hok:HOk X.prog X.w H' h'):Inv X pins U H' {s with heap:=h',toks:=t'}:=by
 obtain⟨m,⟨o,es,ep,ho,r⟩,_⟩:=id I.loc
 obtain⟨sl,hL⟩:=u.any ho I.free (by simp)
 exact I.step (g':=s.gens) (d':=s.drawn) (ch:=[]) (λ_ z=>nomatch z) (λb o _ hb _ e n=>u.keep b o e n hb (by simp)) (λb o _ hb _ e n=>u.slot b o e n hb (by simp)) (λb o _ e n=>u.free b o e n (by simp)) (λb o _ e=>u.there b o e (by simp)) u.tups u.frzs u.tbls (λm' hm=>by
  obtain⟨o',es',ep',ho',r'⟩:=hm
  rw[ho] at ho';cases ho'
  exact{_,es',ep',hL,r'}) hok I.bare
def Inv.call{g':Array GenState}{t':Nat}{d':Drawn}{ch:List Addr}(I:Inv X pins U H s)(u:Un (frs X.stack) ch H H' s.heap h')(hok:HOk X.prog X.w H' h')(hg:AllBare g')
  (hch:∀b∈ch,(b∈X.ex\/X.s₀.heap.objs.size<=b)/\b≠X.env.locals/\(∀x c,X.env.cells.lookup x=some c->c≠b)/\∀p∈X.pn++pins,p.1≠b) :
  Inv X pins U H' {s with heap:=h',gens:=g',drawn:=d',toks:=t'}:=by
 obtain⟨m,⟨o,es,ep,ho,r⟩,_⟩:=id I.loc
 obtain⟨sl,hL⟩:=u.any ho I.free λz=>(hch _ z).2.1 O
 exact I.step (ch:=ch) hch (λb o hL hb hc e n=>u.keep b o e n (λz=>(Xan.mp (I.stkSub b z)).elim hL hb) hc) (λb o _ _ hc e n=>u.any e n hc) (λb o hc e n=>u.free b o e n hc) (λb o hc e=>u.there b o e hc) u.tups u.frzs u.tbls (λm' hm=>by
  obtain⟨o',es',ep',ho',r'⟩:=hm
  rw[ho] at ho';cases ho'
  exact{_,es',ep',hL,r'}) hok hg
def Inv.turned{t':Nat}{it:Addr}(I:Inv X pins U H s)(k:∀b o,b≠it->s.heap.get? b=some o->h'.get? b=some o)(hn:H it=none)(hL:it≠X.env.locals)
  (h1:it∈X.ex\/X.s₀.heap.objs.size<=it) (h2:∀x c,X.env.cells.lookup x=some c->c≠it) (h3:∀p∈X.pn++pins,p.1≠it):Inv X pins U H {s with heap:=h',toks:=t'}:=by
 have nit:∀b u,H b=some u->b≠it:=λb u e z=>by rw[z,hn] at e;cases e
 refine I.step (g':=s.gens) (d':=s.drawn) (ch:=[it]) (λb hb=>?_) (λb o _ _ hc e _=>k b o (λz=>hc (by simp[z])) e) (λb o _ _ hc e _=>{o.slots,k b o (λz=>hc (by simp[z])) e}) (λ_ _ _ _ n=>n)
  (λb o hc e=>{o,k b o (λz=>hc (by simp[z])) e}) (λ_ _ e=>e) (λ_ _ _ e=>e) (λb ps e=>{#[],by rw[e];simp}) (λm hm=>?_) (λb u e=>?_) I.bare
 .have e:b=it:=by simpa using hb
  subst e
  exact⟨h1,hL,h2,h3⟩
 .obtain⟨o,es,ep,ho,r⟩:=hm
  exact{o,es,ep,k _ o (Ne.symm hL) ho,r}
 .refine(I.hok b u e).stay (λc v hc q=>k c v ?_ q) (λ_ q=>q) λ_ _ q=>q
  rcases hc with z|z
  .rw[z];exact nit b u e
  .exact nit c _ z
def Inv.tok(I:Inv X pins U H s)(t:Nat):Inv X pins U H {s with toks:=t}:=I.un (h':=s.heap) (t':=t) Un.refl I.hok
def Inv.kept{t':Nat}(I:Inv X pins U H s)(k:∀b u,s.heap.get? b=some u->h'.get? b=some u):Inv X pins U H {s with heap:=h',toks:=t'}:=I.un (Un.kept k) (I.hok.kept k)
def Inv.laid{a:Addr}{o:HO}{t':Nat}(I:Inv X pins U H s)(k:∀b u,s.heap.get? b=some u->h'.get? b=some u)(hp:s.heap.objs.size<=a)(new:ObjOk X.prog X.w (upd H a o) h' a o) :
  Inv X pins U (upd H a o) {s with heap:=h',toks:=t'}:=I.un (Un.laid k hp (I.hok.fresh hp)) (I.hok.laid k hp new)
def Inv.write{x e:Addr}{o:HO}{t':Nat}(I:Inv X pins U H s)(mu:Mut (H x))(he:e=x\/H e=some (.own x))(k:∀b u,b≠e->s.heap.get? b=some u->h'.get? b=some u)(heo:∃u,h'.get? e=some u)
  (new:ObjOk X.prog X.w (upd H x o) h' x o):Inv X pins U (upd H x o) {s with heap:=h',toks:=t'}:=I.un (Un.write mu he k heo) (I.hok.write mu he k heo new)
def Inv.pins_of{pins':List (Addr×Obj)}(I:Inv X pins U H s)(h:∀p∈pins',s.heap.get? p.1=some p.2/\H p.1=none/\p.1≠X.env.locals/\p.1∉X.fs/\∀v,p.2.data≠.cell v):Inv X pins' U H s:=
 {I.ok,I.os,I.bare,I.base,I.loc,I.cell,I.free,I.freeC,λp hp=>(XaH.mp hp).elim (λz=>I.pin p (XaO _ z)) (h p),I.hok,I.len}
def ze1{N:List Str}(hN:N.Nodup){i j:Nat}{x:Str}(a:N[i]?=some x)(b:N[j]?=some x):i=j:=by
 obtain⟨h1,e1⟩:=Xas.mp a
 obtain⟨h2,e2⟩:=Xas.mp b
 exact(List.getElem_inj hN).mp (e1.trans e2.symm)
def zfh{M:Model}{A:Around}{E:Value->Shared->Prop}{i:Nat}{x:Str}{v:V}{u:Value}{Q:Unit->Shared->Prop}(I:Inv X pins U H s)(hN:X.N.Nodup)(hi:X.N[i]?=some x)(hx:Loc X.env.scope x)(r:RelV v u)
  (h:∀s',Inv X pins (U.set i (some v)) H s'->(∃a,Heap.SameBut a s.heap s'.heap/\(a=X.env.locals\/X.env.cells.lookup x=some a))->Q () s') (hf:X.fn x=true\/X.env.scope.names.lookup x=some .local:=by first|exact .inl O|exact .inr O|assumption):wpAny M A (storeName X.env x u) Q E s:=by
 obtain⟨m,hn,hl⟩:=id I.loc
 have hcls:(X.env.scope.kind==.class || (X.env.scope.kind==.module&&X.env.locals != X.env.globals))=false:=by rw[I.ok.kind];rfl
 have hiU:i<U.length:=by rw[I.len];exact(Xas.mp hi).1
 have cne:=I.cne
 have tracked:∀{a:Addr} {h':Heap},(∃o,s.heap.get? a=some o/\H a=none)->Heap.SameBut a s.heap h'->HOk X.prog X.w H h':=λ{a h'} ha hs b ob e=>by
  obtain⟨_,_,hfree⟩:=ha
  refine(I.hok b ob e).stay (λc w' hc q=>(hs.2 c ?_).trans q) (λ_ q=>q) λ_ _ q=>q
  rintro rfl
  rcases hc with rfl|hc
  .rw[hfree] at e;cases e
  .rw[hfree] at hc;cases hc
 rcases hx with hk|hk
 .refine wpAny_storeName_local hk hn (λh' hn' hs=>?_) hcls
  obtain⟨oL,_,_,hoL,_⟩:=id hn
  refine h _ {I.ok,I.os,I.bare,{λb o e n hb hx=>?_,λb o e n hb hx=>?_,I.base.free,λb o e hx=>?_,I.base.tups,I.base.frzs,I.base.tbls},{_,hn',λj y v' e1 e2 e3=>?_},λy c e=>?_,I.free,I.freeC,λp hp=>?_,tracked ⟨oL,hoL,I.free⟩ hs,by simpa using I.len} {_,hs,.inl O}
  .exact(hs.2 b (Xay (Xao (Xai e) I.ok.above))).trans (I.base.keep b o e n hb hx)
  .obtain⟨sl,e1⟩:=I.base.slot b o e n hb hx
   exact{sl,(hs.2 b (Xay (Xao (Xai e) I.ok.above))).trans e1}
  .obtain⟨o',e1⟩:=I.base.there b o e hx
   exact{o',(hs.2 b (Xay (Xao (Xai e) I.ok.above))).trans e1}
  .by_cases hj:j=i
   .subst hj
    rw[hi] at e1;cases e1
    rw[XbH hiU] at e2
    cases e2
    exact{u,r,.inl {hk,by simp}}
   .rw[List.getElem?_set_ne (Ne.symm hj)] at e2
    obtain⟨u',r',q⟩:=hl j y v' e1 e2 e3
    refine{u',r',?_}
    rcases q with⟨k,e⟩|⟨k,c,e,z⟩
    .refine .inl {k,?_}
     have:y≠x:=λe=>hj (ze1 hN e1 (e▸hi))
     simp[this,e]
    .exact .inr {k,c,e,z.sameBut hs (cne y c e)}
  .obtain⟨w',z⟩:=I.cell y c e
   exact{w',z.sameBut hs (cne y c e)}
  .obtain⟨e,n,ne,nf,d⟩:=I.pin p hp
   exact{(hs.2 p.1 ne).trans e,n,ne,nf,d}
 .have hfn:X.fn x=true:=by
   rcases hf with z|z
   .exact z
   .rw[z] at hk;cases hk
  obtain⟨c,hc⟩:=I.ok.has x (.inl hk)
  obtain⟨w',z⟩:=I.cell x c hc
  refine wpAny_storeName_cell I.ok.kind hk hc z (λh' hc' hs=>?_)
  obtain⟨oc,hoc,hocd⟩:=id z
  refine h {s with heap:=h'} {I.ok,I.os,I.bare,{λb o e n hb hx=>?_,λb o e n hb hx=>?_,I.base.free,λb o e hx=>?_,I.base.tups,I.base.frzs,I.base.tbls},{m,hn.sameBut hs (Ne.symm (cne x c hc)),λj y v' e1 e2 e3=>?_},λy c' e=>?_,I.free,I.freeC,λp hp=>?_,tracked {oc,hoc,I.freeC x c hc} hs,by simpa using I.len} {c,hs,.inr hc}
  .exact(hs.2 b (Xay (Xao (Xai e) (I.ok.cab x c hfn hc)))).trans (I.base.keep b o e n hb hx)
  .obtain⟨sl,e1⟩:=I.base.slot b o e n hb hx
   exact{sl,(hs.2 b (Xay (Xao (Xai e) (I.ok.cab x c hfn hc)))).trans e1}
  .obtain⟨o',e1⟩:=I.base.there b o e hx
   exact{o',(hs.2 b (Xay (Xao (Xai e) (I.ok.cab x c hfn hc)))).trans e1}
  .by_cases hj:j=i
   .subst hj
    rw[hi] at e1;cases e1
    rw[XbH hiU] at e2
    cases e2
    exact{u,r,.inr {.inl hk,c,hc,hc'}}
   .rw[List.getElem?_set_ne (Ne.symm hj)] at e2
    obtain⟨u',r',q⟩:=hl j y v' e1 e2 e3
    refine{u',r',?_}
    rcases q with q|⟨k,c',e,z'⟩
    .exact .inl q
    .refine .inr {k,c',e,z'.sameBut hs ?_}
     rintro rfl
     exact hj (ze1 hN e1 (I.ok.inj _ _ _ e hc▸hi))
  .by_cases hcc:c'=c
   .subst hcc;exact{_,hc'}
   .obtain⟨w2,z2⟩:=I.cell y c' e
    exact{w2,z2.sameBut hs hcc}
  .obtain⟨e,n,ne,nf,d⟩:=I.pin p hp
   refine{(hs.2 p.1 ?_).trans e,n,ne,nf,d}
   intro q
   rw[q,hoc] at e
   have q':oc=p.2:=Option.some.inj e
   exact d w' (by rw[<- q'];exact hocd)
def zcA{M:Model}{A:Around}{E:Value->Shared->Prop}{i:Nat}{x:Str}{v:V}{u:Value}{Q:Unit->Shared->Prop}(I:Inv X pins U H s)(hN:X.N.Nodup)(hi:X.N[i]?=some x)(hx:Loc X.env.scope x)(r:RelV v u)
  (h:∀s',Inv X pins (U.set i (some v)) H s'->Q () s') (hf:X.fn x=true\/X.env.scope.names.lookup x=some .local:=by first|exact .inl O|exact .inr O|assumption):wpAny M A (storeName X.env x u) Q E s:=
 zfh I hN hi hx r (λs' I' _=>h s' I') hf
def Inv.call'{s':Shared}{ch:List Addr}(I:Inv X pins U H s)(ho:s'.os=s.os)(u:Un (frs X.stack) ch H H' s.heap s'.heap)(hok:HOk X.prog X.w H' s'.heap)(hg:AllBare s'.gens)
  (hch:∀b∈ch,(b∈X.ex\/X.s₀.heap.objs.size<=b)/\b≠X.env.locals/\(∀x c,X.env.cells.lookup x=some c->c≠b)/\∀p∈X.pn++pins,p.1≠b):Inv X pins U H' s':=by
 obtain⟨h',g',d',t',o'⟩:=s'
 have e:o'=s.os:=ho
 subst e
 exact I.call (g':=g') (t':=t') (d':=d') u hok hg hch
end
abbrev XK:=Value->Option Addr->Hp->Prop
abbrev St:=List (Option V)
abbrev VK:=V->Hp->Prop
abbrev TE:=St->Hp->VK->Prop
abbrev TT:=St->Hp->(Bool->Hp->Prop)->Prop
abbrev TA:=St->Hp->(List V->Hp->Prop)->Prop
structure Ends where
 nx:St->Hp->Prop
 rt:VK
 bk:St->Hp->Prop:=λ_ _=>False
 ct:St->Hp->Prop:=λ_ _=>False
abbrev TS:=Ends->St->Hp->Prop
inductive EP(X:Cx)(pins:List (Addr×Obj))(U:St)(Q:VK)(u:Value)(s':Shared):Prop
 | mk v H' (_:Inv X pins U H' s')(_:RelV v u)(_:Q v H')
inductive TP(X:Cx)(pins:List (Addr×Obj))(U:St)(Q:Bool->Hp->Prop)(b:Bool)(s':Shared):Prop
 | mk H' (_:Inv X pins U H' s')(_:Q b H')
inductive AP(X:Cx)(pins:List (Addr×Obj))(U:St)(Q:List V->Hp->Prop)(us:List Value)(s':Shared):Prop
 | mk vs H' (_:Inv X pins U H' s')(_:Vals vs us)(_:Q vs H')
def SP(X:Cx)(pins:List (Addr×Obj))(D:Ends)(f:Flow)(s':Shared):Prop:=
 match f with
 | .next=>∃U' H',Inv X pins U' H' s'/\D.nx U' H'
 | .brk=>∃U' H',Inv X pins U' H' s'/\D.bk U' H'
 | .cont=>∃U' H',Inv X pins U' H' s'/\D.ct U' H'
 | .ret u=>∃v U' H',Inv X pins U' H' s'/\RelV v u/\D.rt v H'
def PE(X:Cx)(e:Expr)(t:TE):Prop:=
 ∀(pins:List (Addr×Obj)) (s:Shared) (U:St) (H:Hp) (Q:VK),Inv X pins U H s->t U H Q->wpAny (model X.prog X.w) X.A (eval e X.env) (EP X pins U Q) X.xe s
def PT(X:Cx)(e:Expr)(t:TT):Prop:=
 ∀(pins:List (Addr×Obj)) (s:Shared) (U:St) (H:Hp) (Q:Bool->Hp->Prop),Inv X pins U H s->t U H Q->wpAny (model X.prog X.w) X.A (isTrue e X.env (eval e X.env)) (TP X pins U Q) X.xe s
def PW(X:Cx)(e:Expr)(t:TT):Prop:=
 ∀(whole:Sem Value) (pins:List (Addr×Obj)) (s:Shared) (U:St) (H:Hp) (Q:Bool->Hp->Prop),Inv X pins U H s->t U H Q->wpAny (model X.prog X.w) X.A (isTrue e X.env whole) (TP X pins U Q) X.xe s
def PW.pt{X:Cx}{e:Expr}{t:TT}(h:PW X e t):PT X e t:=h _
def PA(X:Cx)(es:List Expr)(t:TA):Prop:=
 ∀(pos:Pos) (pins:List (Addr×Obj)) (s:Shared) (U:St) (H:Hp) (Q:List V->Hp->Prop),Inv X pins U H s->t U H Q->wpAny (model X.prog X.w) X.A (spliced (backTo pos (starEach es X.env))) (AP X pins U Q) X.xe s
def PS(X:Cx)(st:Stmt)(t:TS):Prop:=
 ∀(pins:List (Addr×Obj)) (s:Shared) (U:St) (H:Hp) (D:Ends),Inv X pins U H s->t D U H->wpAny (model X.prog X.w) X.A (exec st X.env) (SP X pins D) X.xe s
def PSs(X:Cx)(st:List Stmt)(t:TS):Prop:=
 ∀(pins:List (Addr×Obj)) (s:Shared) (U:St) (H:Hp) (D:Ends),Inv X pins U H s->t D U H->wpAny (model X.prog X.w) X.A (execs st X.env) (SP X pins D) X.xe s
def thn{α:Type}{t:Sem α}{Q Q':α->Shared->Prop}{M:Model}{A:Around}{E:Value->Shared->Prop}{s:Shared}(h:wpAny M A t Q E s)(hQ:∀a s,Q a s->Q' a s):wpAny M A t Q' E s:=Xav h hQ λ_ _ x=>x
section
variable{X:Cx}
inductive tVar(i:Nat)(U:St)(H:Hp)(Q:VK):Prop
 | mk v(_:U[i]?=some (some v))(_:Q v H)
def tC(v:V):TE:=λ_ H Q=>Q v H
def pe_var{i:Nat}{x:Str}{pos:Pos}(hN:X.N[i]?=some x)(hv:Vis X.env.scope x)(hd:(x==("__debug__" : Str))=false:=by decide)(hcd:(x==("__classdict__" : Str))=false:=by decide):PE X (.Name x pos) (tVar i):=by
 intro pins s U H Q I h
 obtain⟨v,e,h⟩:=h
 obtain⟨m,hn,hl⟩:=I.loc
 obtain⟨u,r,l⟩:=hl i x v hN e hv
 have fin:EP X pins U Q u s:=⟨v,H,I,r,h⟩
 rcases l with⟨hk,hm⟩|⟨hk,c,hc,hcell⟩
 .exact wpAny_Name (wpAny_loadName_local I.ok.kind hk hn hm fin) hd
 .rcases hk with hk|hk
  .exact wpAny_Name (wpAny_loadName_cell I.ok.kind hk hc hcell fin) hd
  .exact wpAny_Name (wpAny_loadName_free I.ok.kind hk hc hcell fin hcd) hd
def zaf{i j pos}:PE X (.Constant (.int i) j pos) (tC (.int i)):=λ_ _ _ H _ I h=>wpAny_Constant_int {.int i,H,I.tok _,{_,O},h}
def zdt{b j pos}:PE X (.Constant (.bool b) j pos) (tC (.bl b)):=λ_ _ _ H _ I h=>Constant_bool {.bl b,H,I,O,h}
def zcH{j pos}:PE X (.Constant .none j pos) (tC .non):=λ_ _ _ H _ I h=>Constant_none {.non,H,I,O,h}
def zaD{x j pos}:PE X (.Constant (.str x) j pos) (tC (.str x)):=λ_ _ _ H _ I h=>Calls.Constant_str {.str x,H,I.tok _,{_,O},h}
def Gl(X:Cx)(x:Str):Prop:=X.env.kindOf x=some .globalImplicit
def zbF{E:Value->Shared->Prop}{pins:List (Addr×Obj)}{s:Shared}{U:St}{H:Hp}{x:Str}{u:Value}{pos:Pos}{Q:Value->Shared->Prop}(I:Inv X pins U H s)(hg:Gl X x)(hm:X.mg x=some u)(h:Q u s)
  (hd:(x==("__debug__" : Str))=false:=by decide):wpAny (model X.prog X.w) X.A (eval (.Name x pos) X.env) Q E s:=
 Calls.Name_function_global I.ok.kind hg (Calls.loadGlobal_global (by rw[I.ok.glob];exact I.mod.glob.keeps I.bk) hm h) hd
def zcP{E:Value->Shared->Prop}{pins:List (Addr×Obj)}{s:Shared}{U:St}{H:Hp}{x:Str}{u:Value}{pos:Pos}{Q:Value->Shared->Prop}(I:Inv X pins U H s)(hg:Gl X x)(hm:X.mg x=none)(hv:bootBuiltins x=some u)(h:Q u s)
  (hn:x ≠ "__name__" := by decide) (hd:(x==("__debug__" : Str))=false:=by decide):wpAny (model X.prog X.w) X.A (eval (.Name x pos) X.env) Q E s:=by
 obtain⟨mb,h1,h2⟩:=I.mod.blt
 exact Calls.Name_function_global I.ok.kind hg (Calls.loadGlobal_builtin (by rw[I.ok.glob];exact I.mod.glob.keeps I.bk) hm (by rw[I.ok.blt];exact h1.keeps I.bk) ((h2 x hn).trans hv) h) hd
def zeU{x:Str}{v:V}{u:Value}{pos:Pos}(hg:Gl X x)(hm:X.mg x=some u)(r:RelV v u)(hd:(x==("__debug__" : Str))=false:=by decide):PE X (.Name x pos) (tC v):=
 λ_ _ _ H _ I h=>zbF I hg hm ⟨v,H,I,r,h⟩ hd
def zaT{x:Str}{v:V}{u:Value}{pos:Pos}(hg:Gl X x)(hm:X.mg x=none)(hv:bootBuiltins x=some u)(r:RelV v u)(hn:x ≠ "__name__" := by decide)(hd:(x==("__debug__" : Str))=false:=by decide):PE X (.Name x pos) (tC v):=
 λ_ _ _ H _ I h=>zcP I hg hm hv ⟨v,H,I,r,h⟩ hn hd
variable{a b:Expr}{ta tb:TE}{pos:Pos}
def PC(X:Cx)(op:CmpOp)(a b:Expr)(t:TE):Prop:=
 ∀(pins:List (Addr×Obj)) (s:Shared) (U:St) (H:Hp) (Q:VK),Inv X pins U H s->t U H Q ->
  wpAny (model X.prog X.w) X.A (eval a X.env) (λv s₁=>wpAny (model X.prog X.w) X.A (eval b X.env) (λu s₂=>wpAny (model X.prog X.w) X.A (compareOp op v u) (EP X pins U Q) X.xe s₂) X.xe s₁) X.xe s
def zg1(b:Expr){op:CmpOp}(h:op≠.In)(h2:op≠.NotIn):behindInMarks op b=false:=by
 have e1:(op==CmpOp.In)=false:=by cases op<;>first|rfl|exact absurd O h
 have e2:(op==CmpOp.NotIn)=false:=by cases op<;>first|rfl|exact absurd O h2
 cases b<;>simp[behindInMarks,e1,e2]
def tIsN(ta:TE):TE:=λU H Q=>ta U H λx H1=>Q (.bl (decide (x=.non))) H1
def tNotN(ta:TE):TE:=λU H Q=>ta U H λx H1=>Q (.bl (!decide (x=.non))) H1
def RelV.none_iff{x:V}{v:Value}(r:RelV x v):(v==Value.none)=decide (x=.non):=by
 cases x with
 | non=>cases r;rfl
 | bl _=>cases r;rfl
 | int _=>obtain⟨t,rfl⟩:=r;rfl
 | str _=>obtain⟨t,rfl⟩:=r;rfl
 | byt _=>obtain⟨t,rfl⟩:=r;rfl
 | flt _=>obtain⟨t,rfl⟩:=r;rfl
 | ref _=>cases r;rfl
 | ty _=>cases r;rfl
def zcJ{j pos'}(ha:PE X a ta):PC X .Is a (.Constant .none j pos') (tIsN ta):=by
 intro pins s U H Q I h
 refine thn (ha pins s U H _ I h) λv s1 hh_=>?_
 obtain⟨x,H1,I1,r1,q1⟩:=hh_
 exact Constant_none (is_none_gen {.bl _,H1,I1,by rw[r1.none_iff];rfl,q1})
def ziY{j pos'}(ha:PE X a ta):PC X .IsNot a (.Constant .none j pos') (tNotN ta):=by
 intro pins s U H Q I h
 refine thn (ha pins s U H _ I h) λv s1 hh_=>?_
 obtain⟨x,H1,I1,r1,q1⟩:=hh_
 exact Constant_none (isnot_none_gen {.bl _,H1,I1,by rw[r1.none_iff];rfl,q1})
inductive tB_1(Q:Bool->Hp->Prop)(x:V)(H1:Hp):Prop
 | mk c(_:x=.bl c)(_:Q c H1)
def tB(t:TE):TT:=λU H Q=>t U H (tB_1 Q)
def ziW{op:CmpOp}{t:TE}(h:PC X op a b t)(h1:behindInMarks op b=false:=by first|exact zg1 _ (by decide) (by decide)|rfl):PE X (.Compare a [op] [b] pos) t:=λpins s U H Q I hw=>wpAny_Compare1 (h pins s U H Q I hw) h1
def zcE{op:CmpOp}{t:TE}(h:PC X op a b t)(h1:behindInMarks op b=false:=by first|exact zg1 _ (by decide) (by decide)|rfl):PT X (.Compare a [op] [b] pos) (tB t):=by
 intro pins s U H Q I hw
 refine wpAny_isTrue_Compare1 (thn (h pins s U H _ I hw) λv s1 h1=>thn h1 λu s2 h2=>thn h2 λc s3 hh_=>?_) h1
 obtain⟨x,H1,I1,r1,q1⟩:=hh_
 obtain⟨d,rfl,q⟩:=q1
 cases r1
 exact Xa3 ⟨H1,I1,q⟩
def zaF{e:Expr}{t:TE}(h:PE X e t)(he:∀whole,isTrue e X.env whole=(do let v <- whole;standAt e.pos;holding [v] (truthy v)):=by intro _;rfl):PT X e (tB t):=by
 intro pins s U H Q I hw
 refine isTrue_plain (thn (h pins s U H _ I hw) λv s1 hh_=>?_) (he _)
 obtain⟨x,H1,I1,r1,q1⟩:=hh_
 obtain⟨d,rfl,q⟩:=q1
 cases r1
 exact Xa3 ⟨H1,I1,q⟩
variable{tA tB':TT}{rest:List Expr}
def tAnd(t u:TT):TT:=λU H Q=>t U H λc H1=>if c=true then u U H1 Q else Q false H1
def tOr(t u:TT):TT:=λU H Q=>t U H λc H1=>if c=true then Q true H1 else u U H1 Q
def tNot(t:TT):TT:=λU H Q=>t U H λc H1=>Q (!c) H1
def ziL(ha:PT X a tA):PW X (.BoolOp .And [a] pos) tA:=by
 intro wh pins s U H Q I h
 refine isTrue_and (thn (ha pins s U H Q I h) λc s1 e=>?_)
 cases c with
 | true=>exact isTrue_and_nil e
 | false=>exact e
def zbd(ha:PT X a tA):PW X (.BoolOp .Or [a] pos) tA:=by
 intro wh pins s U H Q I h
 refine isTrue_or (thn (ha pins s U H Q I h) λc s1 e=>?_)
 cases c with
 | false=>exact isTrue_or_nil e
 | true=>exact e
def zld(ha:PT X a tA)(hb:PW X (.BoolOp .And (b::rest) pos) tB'):PW X (.BoolOp .And (a::b::rest) pos) (tAnd tA tB'):=by
 intro wh pins s U H Q I h
 refine isTrue_and (thn (ha pins s U H _ I h) λc s1 ⟨H1,I1,q1⟩=>?_)
 cases c with
 | true=>exact hb wh pins s1 U H1 Q I1 q1
 | false=>exact⟨H1,I1,q1⟩
def zbD(ha:PT X a tA)(hb:PW X (.BoolOp .Or (b::rest) pos) tB'):PW X (.BoolOp .Or (a::b::rest) pos) (tOr tA tB'):=by
 intro wh pins s U H Q I h
 refine isTrue_or (thn (ha pins s U H _ I h) λc s1 ⟨H1,I1,q1⟩=>?_)
 cases c with
 | true=>exact⟨H1,I1,q1⟩
 | false=>exact hb wh pins s1 U H1 Q I1 q1
def zaG(ha:PT X a tA):PT X (.UnaryOp .Not a pos) (tNot tA):=by
 intro pins s U H Q I h
 exact isTrue_not (thn (ha pins s U H (λc H1=>Q (!c) H1) I h) λc s1 ⟨H1,I1,q1⟩=>⟨H1,I1,q1⟩)
inductive tAndV_1(tb:TE)(U:St)(Q:VK)(x:V)(H1:Hp):Prop
 | mk c(_:x=.bl c)(_:if c=true then tb U H1 Q else Q (.bl false) H1)
def tAndV(ta tb:TE):TE:=λU H Q=>ta U H (tAndV_1 tb U Q)
inductive tOrV_1(tb:TE)(U:St)(Q:VK)(x:V)(H1:Hp):Prop
 | mk c(_:x=.bl c)(_:if c=true then Q (.bl true) H1 else tb U H1 Q)
def tOrV(ta tb:TE):TE:=λU H Q=>ta U H (tOrV_1 tb U Q)
inductive tNotV_1(Q:VK)(x:V)(H1:Hp):Prop
 | mk c(_:x=.bl c)(_:Q (.bl (!c)) H1)
def tNotV(ta:TE):TE:=λU H Q=>ta U H (tNotV_1 Q)
def zbv{op}{t:TE}(h:PE X a t):PE X (.BoolOp op [a] pos) t:=λpins s U H Q I hw=>BoolOp_one (h pins s U H Q I hw)
def zbq(ha:PE X a ta)(hb:PE X (.BoolOp .And (b::rest) pos) tb):PE X (.BoolOp .And (a::b::rest) pos) (tAndV ta tb):=by
 intro pins s U H Q I h
 refine BoolOp_and (thn (ha pins s U H _ I h) λv s1 hh_=>?_)
 obtain⟨x,H1,I1,r1,q1⟩:=hh_
 obtain⟨c,rfl,q1⟩:=q1
 cases r1
 refine Xa3 ?_
 cases c with
 | true=>exact hb pins s1 U H1 Q I1 q1
 | false=>exact{.bl false,H1,I1,O,q1}
def pe_or(ha:PE X a ta)(hb:PE X (.BoolOp .Or (b::rest) pos) tb):PE X (.BoolOp .Or (a::b::rest) pos) (tOrV ta tb):=by
 intro pins s U H Q I h
 refine BoolOp_or (thn (ha pins s U H _ I h) λv s1 hh_=>?_)
 obtain⟨x,H1,I1,r1,q1⟩:=hh_
 obtain⟨c,rfl,q1⟩:=q1
 cases r1
 refine Xa3 ?_
 cases c with
 | false=>exact hb pins s1 U H1 Q I1 q1
 | true=>exact{.bl true,H1,I1,O,q1}
def zli(ha:PE X a ta):PE X (.UnaryOp .Not a pos) (tNotV ta):=by
 intro pins s U H Q I h
 refine UnaryOp_ (thn (ha pins s U H _ I h) λv s1 hh_=>?_)
 obtain⟨x,H1,I1,r1,q1⟩:=hh_
 obtain⟨c,rfl,q1⟩:=q1
 cases r1
 exact not_of (Xa3 {.bl (!c),H1,I1,O,q1})
def tIf(t:TT)(ta tb:TE):TE:=λU H Q=>t U H λc H1=>if c=true then ta U H1 Q else tb U H1 Q
def zeT{c:Expr}(hc:PT X c tA)(ha:PE X a ta)(hb:PE X b tb):PE X (.IfExp c a b pos) (tIf tA ta tb):=by
 intro pins s U H Q I h
 refine wpAny_IfExp (thn (hc pins s U H _ I h) λd s1 ⟨H1,I1,q1⟩=>?_)
 cases d with
 | true=>exact ha pins s1 U H1 Q I1 q1
 | false=>exact hb pins s1 U H1 Q I1 q1
end
def SqL(K:W.Frag)(H:Hp)(a:Addr)(xs:List V):Prop:=
 Rd H a (.lst xs) \/
  ∃(o:Obj) (its:Array Value) (n:Nat),K.lookup a=some o/\o.cls=.type "list" /\ o.dict=none/\o.data=.seq its n/\its.size<=sizeLine/\Vals xs its.toList
def SqT(K:W.Frag)(H:Hp)(a:Addr)(xs:List V):Prop:=
 Rd H a (.tup xs) \/
  ∃(o:Obj) (its:Array Value) (n:Nat),K.lookup a=some o/\o.cls=.type "tuple" /\ o.data=.seq its n/\its.size<=sizeLine/\Vals xs its.toList
def absV:Value->Option V
 | .none=>some .non
 | .bool b=>some (.bl b)
 | .int i _=>some (.int i)
 | .str x _=>some (.str x)
 | .bytes b _=>some (.byt b)
 | .float b _=>some (.flt b)
 | .ref a=>some (.ref a)
 | .type n=>some (.ty n)
 | _=>none
def RelV.abs{x:V}{u:Value}(r:RelV x u):absV u=some x:=by
 cases x with
 | non=>cases r;rfl
 | bl _=>cases r;rfl
 | int _=>obtain⟨t,rfl⟩:=r;rfl
 | str _=>obtain⟨t,rfl⟩:=r;rfl
 | byt _=>obtain⟨t,rfl⟩:=r;rfl
 | flt _=>obtain⟨t,rfl⟩:=r;rfl
 | ref _=>cases r;rfl
 | ty _=>cases r;rfl
def RelV.inj{x y:V}{u:Value}(r:RelV x u)(q:RelV y u):x=y:=Option.some.inj (r.abs.symm.trans q.abs)
def Vals.inj:∀{xs ys:List V} {us:List Value},Vals xs us->Vals ys us->xs=ys
 | _,_,_,.nil,.nil=>rfl
 | _,_,_,.cons r t,.cons r' t'=>by rw[r.inj r',Vals.inj t t']
section
variable{X:Cx}{pins:List (Addr×Obj)}{U:St}{H:Hp}{s:Shared}{a:Addr}{xs ys:List V}
def SqL.of{K:W.Frag}(h:H a=some (.lst xs)):SqL K H a xs:=.inl (.inl h)
def SqT.of{K:W.Frag}(h:H a=some (.tup xs)):SqT K H a xs:=.inl (.inl h)
def Inv.list(I:Inv X pins U H s)(h:SqL X.K H a xs):∃its:List Value,Vals xs its/\PlainL s.heap a its.toArray/\xs.length<=sizeLine:=by
 rcases h with h|⟨o,its,n,hk,hc,hd,hs,hz,r⟩
 .obtain⟨z,its,n,r,e⟩:=h.ok I.hok
  exact{its,r,{_,n,e,O,O,O},z}
 .refine{its.toList,r,{o,n,I.kIn a o hk,hc,hd,by simpa using hs},?_}
  have e:=r.length
  simp only[Array.length_toList] at e
  omega
def Inv.tuple(I:Inv X pins U H s)(h:SqT X.K H a xs):∃its:List Value,Vals xs its/\IsTup s.heap a its.toArray/\xs.length<=sizeLine:=by
 rcases h with h|⟨o,its,n,hk,hc,hs,hz,r⟩
 .obtain⟨z,its,r,p⟩:=h.ok I.hok
  exact⟨its,r,p,z.1⟩
 .refine{its.toList,r,{o,I.kIn a o hk,hc,n,by simpa using hs},?_}
  have e:=r.length
  simp only[Array.length_toList] at e
  omega
def Inv.list_inj(I:Inv X pins U H s)(h:SqL X.K H a xs)(h':SqL X.K H a ys):xs=ys:=by
 obtain⟨its,r,⟨o,n,e,_,_,d⟩,_⟩:=I.list h
 obtain⟨its',r',⟨o',n',e',_,_,d'⟩,_⟩:=I.list h'
 rw[e] at e';cases e'
 rw[d] at d'
 injection d' with d1 _
 have:its=its':=by simpa using congrArg Array.toList d1
 subst this
 exact r.inj r'
def Inv.tuple_inj(I:Inv X pins U H s)(h:SqT X.K H a xs)(h':SqT X.K H a ys):xs=ys:=by
 obtain⟨its,r,⟨o,e,_,n,d⟩,_⟩:=I.tuple h
 obtain⟨its',r',⟨o',e',_,n',d'⟩,_⟩:=I.tuple h'
 rw[e] at e';cases e'
 rw[d] at d'
 injection d' with d1 _
 have:its=its':=by simpa using congrArg Array.toList d1
 subst this
 exact r.inj r'
end
abbrev Cx.wish(X:Cx)(E:Value->Shared->Prop):Cx:={X with xe:=E}
abbrev Cx.nox(X:Cx):Cx:=X.wish λ_ _=>False
def Cx.Ok.wish{X:Cx}(ok:X.Ok)(E:Value->Shared->Prop):(X.wish E).Ok:=
 ⟨ok.mod,ok.kind,ok.glob,ok.blt,ok.above,ok.inj,ok.has,ok.cab,ok.hd,ok.frames,ok.stk,ok.exf,ok.bs,ok.bsz,ok.noex,ok.exfs,ok.funs,ok.frf⟩
def Cx.Ok.unwish{X:Cx}{E:Value->Shared->Prop}(ok:(X.wish E).Ok):X.Ok:=
 ⟨ok.mod,ok.kind,ok.glob,ok.blt,ok.above,ok.inj,ok.has,ok.cab,ok.hd,ok.frames,ok.stk,ok.exf,ok.bs,ok.bsz,ok.noex,ok.exfs,ok.funs,ok.frf⟩
section
variable{X:Cx}{pins:List (Addr×Obj)}{U:St}{H:Hp}{s:Shared}{E:Value->Shared->Prop}
def Inv.wish(I:Inv X pins U H s)(E:Value->Shared->Prop):Inv (X.wish E) pins U H s:={I.ok.wish E,I.os,I.bare,I.base,I.loc,I.cell,I.free,I.freeC,I.pin,I.hok,I.len}
def Inv.unwish(I:Inv (X.wish E) pins U H s):Inv X pins U H s:=⟨I.ok.unwish,I.os,I.bare,I.base,I.loc,I.cell,I.free,I.freeC,I.pin,I.hok,I.len⟩
def SP.unwish{D:Ends}{f:Flow}{s':Shared}(h:SP (X.wish E) pins D f s'):SP X pins D f s':=by
 cases f with
 | next=>obtain⟨U',H',I,q⟩:=h;exact⟨U',H',I.unwish,q⟩
 | brk=>obtain⟨U',H',I,q⟩:=h;exact⟨U',H',I.unwish,q⟩
 | cont=>obtain⟨U',H',I,q⟩:=h;exact⟨U',H',I.unwish,q⟩
 | ret u=>obtain⟨v,U',H',I,r,q⟩:=h;exact⟨v,U',H',I.unwish,r,q⟩
def PT.nox{e:Expr}{t:TT}(h:PT X.nox e t):PT X e t:=λpins s U H Q I hw =>
 Xav (h pins s U H Q (I.wish _) hw) (λ_ _ ⟨H',I',q⟩=>⟨H',I'.unwish,q⟩) λ_ _ z=>False.elim z
def PSs.nox{st:List Stmt}{t:TS}(h:PSs X.nox st t):PSs X st t:=λpins s U H D I hw =>
 Xav (h pins s U H D (I.wish _) hw) (λ_ _ q=>q.unwish) λ_ _ z=>False.elim z
end
section
variable{X:Cx}{st:Stmt}{rest:List Stmt}{t u:TS}{e:Expr}{te:TE}{pos:Pos}
def tNext:TS:=λD U H=>D.nx U H
def tSeq(t u:TS):TS:=λD U H=>t {D with nx:=u D} U H
def zan:PSs X [] tNext:=λ_ _ U H _ I h=>wpAny_execs_nil ⟨U,H,I,h⟩
def zad(h1:PS X st t)(h2:PSs X rest u):PSs X (st::rest) (tSeq t u):=by
 intro pins s U H D I h
 refine wpAny_execs_cons (thn (h1 pins s U H {D with nx:=u D} I h) λf s1 q=>?_)
 cases f with
 | next =>
  obtain⟨U',H',I',q⟩:=q
  exact h2 pins s1 U' H' D I' q
 | ret v=>exact q
 | brk=>exact q
 | cont=>exact q
def zag(h1:PS X st t):PSs X [st] t:=by
 intro pins s U H D I h
 refine wpAny_execs_cons (thn (h1 pins s U H D I h) λf s1 q=>?_)
 cases f with
 | next=>exact wpAny_execs_nil q
 | ret v=>exact q
 | brk=>exact q
 | cont=>exact q
def Inv.quiet{pins:List (Addr×Obj)}{U:St}{H:Hp}{s:Shared}(I:Inv X pins U H s):interactive X.env=false:=by simp[interactive,I.ok.kind]
def tDrop(te:TE):TS:=λD U H=>te U H λ_ H1=>D.nx U H1
def zaJ(he:PE X e te)(hs:swapsWith e none pos.line X.env=pure false:=by rfl):PS X (.Expr e pos) (tDrop te):=by
 intro pins s U H D I h
 exact wpAny_Expr_any (thn (he pins s U H _ I h) λv s1 ⟨x,H1,I1,r1,q1⟩=>⟨U,H1,I1,q1⟩) I.quiet hs
def tRet(te:TE):TS:=λD U H=>te U H D.rt
def zal(he:PE X e te):PS X (.Return (some e) pos) (tRet te):=by
 intro pins s U H D I h
 exact wpAny_Return_some (thn (he pins s U H _ I h) λv s1 ⟨x,H1,I1,r1,q1⟩=>⟨x,U,H1,I1,r1,q1⟩)
def tIfS(c:TT)(t u:TS):TS:=λD U H=>c U H λb H1=>if b=true then t D U H1 else u D U H1
def zaA{c:Expr}{a b:List Stmt}{tc:TT}(hc:PT X c tc)(ha:PSs X a t)(hb:PSs X b u):PS X (.If c a b pos) (tIfS tc t u):=by
 intro pins s U H D I h
 refine wpAny_If (thn (hc pins s U H _ I h) λd s1 ⟨H1,I1,q1⟩=>?_)
 cases d with
 | true=>exact ha pins s1 U H1 D I1 q1
 | false=>exact hb pins s1 U H1 D I1 q1
def tNever:TS:=λ_ _ _=>False
def zaI:PS X st tNever:=λ_ _ _ _ _ _ h=>h.elim
end
abbrev TG:=V->St->Hp->(St->Hp->Prop)->Prop
abbrev TGs:=List V->St->Hp->(St->Hp->Prop)->Prop
def PG(X:Cx)(target:Expr)(t:TG):Prop:=
 ∀(pins:List (Addr×Obj)) (s:Shared) (U:St) (H:Hp) (v:V) (u:Value) (Q:St->Hp->Prop),Inv X pins U H s->RelV v u->t v U H Q ->
  wpAny (model X.prog X.w) X.A (assign target X.env u) (λ_ s'=>∃U' H',Inv X pins U' H' s'/\Q U' H') X.xe s
def PGs(X:Cx)(ts:List Expr)(t:TGs):Prop:=
 ∀(pins:List (Addr×Obj)) (s:Shared) (U:St) (H:Hp) (vs:List V) (us:List Value) (Q:St->Hp->Prop),Inv X pins U H s->Vals vs us->t vs U H Q ->
  wpAny (model X.prog X.w) X.A (assignInOrder ((assignEach ts X.env).map (·.2)) us) (λ_ s'=>∃U' H',Inv X pins U' H' s'/\Q U' H') X.xe s
abbrev TSet:=V->V->V->Hp->(Hp->Prop)->Prop
def PSet(X:Cx)(t:TSet):Prop:=
 ∀(pins:List (Addr×Obj)) (s:Shared) (U:St) (H:Hp) (o i v:V) (ov iv u:Value) (Q:Hp->Prop),Inv X pins U H s->RelV o ov->RelV i iv->RelV v u->t o i v H Q ->
  wpAny (model X.prog X.w) X.A (setItem ov iv u) (λ_ s'=>∃H',Inv X pins U H' s'/\Q H') X.xe s
abbrev TIp:=V->V->Hp->VK->Prop
def PIp(X:Cx)(op:Operator)(t:TIp):Prop:=
 ∀(pins:List (Addr×Obj)) (s:Shared) (U:St) (H:Hp) (x y:V) (v u:Value) (Q:VK),Inv X pins U H s->RelV x v->RelV y u->t x y H Q ->
  wpAny (model X.prog X.w) X.A (inplaceOp op v u) (EP X pins U Q) X.xe s
section
variable{X:Cx}{pos:Pos}
def zay(i:Nat):TG:=λv U H Q=>Q (U.set i (some v)) H
def zl3{i:Nat}{x:Str}(hN:X.N.Nodup)(hi:X.N[i]?=some x)(hx:Loc X.env.scope x)(hf:X.fn x=true\/X.env.scope.names.lookup x=some .local:=by first|exact .inl O|exact .inr O|assumption):PG X (.Name x pos) (zay i):=by
 intro pins s U H v u Q I r h
 exact wpAny_assign_Name (zcA I hN hi hx r (λs' I'=>{_,H,I',h}) hf)
def gNil:TGs:=λvs U H Q=>vs=[]/\Q U H
inductive gCons(t:TG)(u:TGs)(vs:List V)(U:St)(H:Hp)(Q:St->Hp->Prop):Prop
 | mk v r(_:vs=v::r)(_:t v U H λU' H'=>u r U' H' Q)
def zaS:PGs X [] gNil:=by
 intro pins s U H vs us Q I r h
 obtain⟨e,h⟩:=h
 subst e
 cases r
 exact assignInOrder_nil ⟨U,H,I,h⟩
def zao{e:Expr}{es:List Expr}{t:TG}{u:TGs}(h1:PG X e t)(h2:PGs X es u)
  (hs:(assignEach (e::es) X.env).map (·.2)=assign e X.env::(assignEach es X.env).map (·.2):=by rfl):PGs X (e::es) (gCons t u):=by
 intro pins s U H vs us Q I r h
 obtain⟨v,vr,e1,h⟩:=h
 subst e1
 cases r with
 | cons r rr =>
  rw[hs]
  refine assignInOrder_cons (thn (h1 pins s U H _ _ _ I r h) λ_ s1 ⟨U1,H1,I1,q1⟩=>?_)
  exact h2 pins s1 U1 H1 _ _ Q I1 rr q1
inductive gTup(K:W.Frag)(n:Nat)(t:TGs)(v:V)(U:St)(H:Hp)(Q:St->Hp->Prop):Prop
 | mk a xs(_:v=.ref a)(_:SqT K H a xs)(_:xs.length=n)(_:t xs U H Q)
def zbI{es:List Expr}{k:Nat}{t:TGs}{n:Nat}(hc:X.calm=true)(h:PGs X es t)
  (hn:(assignEach es X.env).length=n:=by rfl) (hst:(assignEach es X.env).findIdx? (·.1)=none:=by rfl):PG X (.Tuple es k pos) (gTup X.K n t):=by
 intro pins s U H v u Q I r hw
 obtain⟨a,xs,e1,hq,hl,hw⟩:=hw
 subst e1
 cases r
 obtain⟨its,rv,ht,hz⟩:=I.tuple hq
 refine assign_Tuple_tuple (I.ok.hd hc) ht (by simp[hn,<- hl,rv.length]) hst λh' hx=>?_
 have I1:Inv X pins U H {s with heap:=h'}:=I.kept (t':=s.toks) λb o e=>hx b o (Xay (Xai e)) e
 exact h pins _ U H xs _ Q I1 (by simpa using rv) hw
def gSub(to ti:TE)(t:TSet):TG:=λv U H Q=>to U H λo H1=>ti U H1 λi H2=>t o i v H2 λH3=>Q U H3
def pg_sub{o i:Expr}{to ti:TE}{t:TSet}(ho:PE X o to)(hi:PE X i ti)(hs:PSet X t)
  (ha:∀v,assign (.Subscript o i pos) X.env v=(do
   let ov <- holding [v] (eval o X.env)
   let iv <- holding [v,ov] (eval i X.env)
   standAt pos
   holding [v,ov,iv] (setItem ov iv v)
   release [v,ov,iv] []):=by intro _;rfl):PG X (.Subscript o i pos) (gSub to ti t):=by
 intro pins s U H v u Q I r h
 rw[ha]
 refine Xaa (XaE (thn (ho pins s U H _ I h) λov s1 hh_=>?_))
 obtain⟨x,H1,I1,r1,q1⟩:=hh_
 refine Xaa (XaE (thn (hi pins s1 U H1 _ I1 q1) λiv s2 hh_=>?_))
 obtain⟨y,H2,I2,r2,q2⟩:=hh_
 refine Xaa (Xa9 (Xaa (XaE (thn (hs pins s2 U H2 x y v ov iv u _ I2 r1 r2 r q2) λ_ s3 ⟨H3,I3,q3⟩=>?_))))
 exact wpAny_release ⟨U,H3,I3,q3⟩
def tAsg(te:TE)(g:TG):TS:=λD U H=>te U H λx H1=>g x U H1 D.nx
def zcF{tg e:Expr}{te:TE}{g:TG}(he:PE X e te)(hg:PG X tg g)(hs:swapsWithSole [tg] e pos.line X.env=pure false:=by rfl)(hw:swappedStores [tg] e X.env=pure none:=by rfl)
  (h1:(assignEach [tg] X.env).map (·.2)=[assign tg X.env]:=by rfl):PS X (.Assign [tg] e pos) (tAsg te g):=by
 intro pins s U H D I h
 refine wpAny_Assign_stores (thn (he pins s U H _ I h) λv s1 hh_=>?_) hs hw
 obtain⟨x,H1,I1,r1,q1⟩:=hh_
 rw[h1]
 exact thn (hg pins s1 U H1 x v _ I1 r1 q1) λ_ s2 q=>q
def zev{i:Nat}{x:Str}{e:Expr}{te:TE}{pos':Pos}(hN:X.N.Nodup)(hi:X.N[i]?=some x)(hx:Loc X.env.scope x)(he:PE X e te)(hs:swapsWith e (some (.Name x pos')) pos.line X.env=pure false:=by rfl)(hf:X.fn x=true\/X.env.scope.names.lookup x=some .local:=by first|exact .inl O|exact .inr O|assumption) :
  PS X (.Assign [.Name x pos'] e pos) (tAsg te (zay i)):=by
 intro pins s U H D I h
 refine wpAny_Assign_Name (thn (he pins s U H _ I h) λv s1 hh_=>?_) hs
 obtain⟨y,H1,I1,r1,q1⟩:=hh_
 exact zcA I1 hN hi hx r1 (λs2 I2=>{_,H1,I2,q1}) hf
inductive tAug(i:Nat)(te:TE)(ti:TIp)(D:Ends)(U:St)(H:Hp):Prop
 | mk x(_:U[i]?=some (some x))(_:te U H λy H1=>ti x y H1 λz H2=>D.nx (U.set i (some z)) H2)
def zfo{i:Nat}{x:Str}{e:Expr}{te:TE}{op:Operator}{ti:TIp}{pos':Pos}(hN:X.N.Nodup)(hi:X.N[i]?=some x)(hx:Loc X.env.scope x)(he:PE X e te)(ho:PIp X op ti)(hf:X.fn x=true\/X.env.scope.names.lookup x=some .local:=by first|exact .inl O|exact .inr O|assumption) :
  PS X (.AugAssign (.Name x pos') op e pos) (tAug i te ti):=by
 intro pins s U H D I h
 obtain⟨v,e1,h⟩:=h
 obtain⟨m,hn,hl⟩:=I.loc
 have vis:Vis X.env.scope x:=by rcases hx with k|k;exact .inl k;exact .inr (.inl k)
 obtain⟨u,r,l⟩:=hl i x v hi e1 vis
 refine wpAny_AugAssign_Name ?_
 have go:wpAny (model X.prog X.w) X.A (eval e X.env) (λw s₂=>wpAny (model X.prog X.w) X.A (inplaceOp op u w) (λr s₃=>wpAny (model X.prog X.w) X.A (storeName X.env x r) (λ_=>SP X pins D .next) X.xe s₃) X.xe s₂) X.xe s:=by
  refine thn (he pins s U H _ I h) λw s1 hh_=>?_
  obtain⟨y,H1,I1,r1,q1⟩:=hh_
  refine thn (ho pins s1 U H1 v y u w _ I1 r r1 q1) λz s2 hh_=>?_
  obtain⟨zv,H2,I2,r2,q2⟩:=hh_
  exact zcA I2 hN hi hx r2 (λs3 I3=>{_,H2,I3,q2}) hf
 rcases l with⟨hk,hm⟩|⟨hk,c,hc,hcell⟩
 .exact wpAny_loadName_local I.ok.kind hk hn hm go
 .rcases hk with hk|hk
  .exact wpAny_loadName_cell I.ok.kind hk hc hcell go
  .rcases hx with k|k
   .have:X.env.scope.names.lookup x=some .free:=hk
    rw[k] at this;cases this
   .have:X.env.scope.names.lookup x=some .free:=hk
    rw[k] at this;cases this
def tAugS(to ti te:TE)(tget:V->V->Hp->VK->Prop)(tip:TIp)(tset:TSet):TS:=λD U H=>to U H λo H1=>ti U H1 λi H2=>tget o i H2 λx H3=>te U H3 λy H4=>tip x y H4 λz H5=>tset o i z H5 λH6=>D.nx U H6
def PGet(X:Cx)(t:V->V->Hp->VK->Prop):Prop:=
 ∀(pins:List (Addr×Obj)) (s:Shared) (U:St) (H:Hp) (o i:V) (ov iv:Value) (Q:VK),Inv X pins U H s->RelV o ov->RelV i iv->t o i H Q ->
  wpAny (model X.prog X.w) X.A (getItem ov iv) (EP X pins U Q) X.xe s
def zlW{o i e:Expr}{to ti te:TE}{tget:V->V->Hp->VK->Prop}{tip:TIp}{tset:TSet}{op:Operator}{tpos:Pos}(ho:PE X o to)(hi:PE X i ti)(hg:PGet X tget)(he:PE X e te)(hp:PIp X op tip)(hs:PSet X tset)
  (ha:∀ov iv new,augStore i ov iv new=(do holding [new,ov,iv] (setItem ov iv new);release [new,ov,iv] [];pure .next):=by intros;rfl):PS X (.AugAssign (.Subscript o i tpos) op e pos) (tAugS to ti te tget tip tset):=by
 intro pins s U H D I h
 refine wpAny_AugAssign_SubscriptAny (thn (ho pins s U H _ I h) λov s1 hh_=>?_) ha
 obtain⟨x1,H1,I1,r1,q1⟩:=hh_
 refine thn (hi pins s1 U H1 _ I1 q1) λiv s2 hh_=>?_
 obtain⟨x2,H2,I2,r2,q2⟩:=hh_
 refine thn (hg pins s2 U H2 x1 x2 ov iv _ I2 r1 r2 q2) λold s3 hh_=>?_
 obtain⟨x3,H3,I3,r3,q3⟩:=hh_
 refine thn (he pins s3 U H3 _ I3 q3) λv s4 hh_=>?_
 obtain⟨x4,H4,I4,r4,q4⟩:=hh_
 refine thn (hp pins s4 U H4 x3 x4 old v _ I4 r3 r4 q4) λnew s5 hh_=>?_
 obtain⟨x5,H5,I5,r5,q5⟩:=hh_
 exact thn (hs pins s5 U H5 x1 x2 x5 ov iv new _ I5 r1 r2 r5 q5) λ_ s6 ⟨H6,I6,q6⟩=>⟨U,H6,I6,q6⟩
inductive ipI(f:Int->Int->Int)(x:V)(y:V)(H:Hp)(Q:VK):Prop
 | mk i j(_:x=.int i)(_:y=.int j)(_:Q (.int (f i j)) H)
def ip_add:PIp X .Add (ipI λi j=>i+j):=by
 intro pins s U H x y v u Q I r1 r2 h
 obtain⟨i,j,e1,e2,q⟩:=h
 subst e1;subst e2
 obtain⟨t,rfl⟩:=r1
 obtain⟨t',rfl⟩:=r2
 exact iadd_int {.int _,H,I.tok _,{_,O},q}
end
section
variable{X:Cx}{pos:Pos}
def zk5(c:TT)(tb:TS):TS:=λD U H=>∃W:Nat->St->Hp->Prop,(∃m,W m U H)/\∀m U H,W m U H ->
 c U H λb H1=>if b=true then∃N:St->Hp->Prop,(∀U' H',N U' H'->∃m',m'<m/\W m' U' H')/\tb {D with nx:=N,ct:=N,bk:=D.nx} U H1 else D.nx U H1
def zgY{c:Expr}{body:List Stmt}{tc:TT}{tb:TS}(hp:PassesOwn (model X.prog X.w) X.A X.env X.xe)(hc:PT X c tc)(hb:PSs X body tb):PS X (.While c body [] pos) (zk5 tc tb):=by
 intro pins s U H D I h
 obtain⟨W,⟨m0,w0⟩,turn⟩:=h
 refine wpAny_While (codeAny_whileLoop (λn s'=>∃U' H',Inv X pins U' H' s'/\W n U' H') ?_ m0 ⟨U,H,I,w0⟩)
 rintro n s1 ⟨U1,H1,I1,w1⟩
 refine Xbw hp (thn (hc pins s1 U1 H1 _ I1 (turn n U1 H1 w1)) λb s2 ⟨H2,I2,q2⟩=>?_)
 cases b with
 | true =>
  obtain⟨N,hN,q2⟩:=q2
  rw[if_pos O]
  refine Xbw hp (thn (hb pins s2 U1 H2 _ I2 q2) λf s3 q3=>?_)
  cases f with
  | next =>
   obtain⟨U3,H3,I3,n3⟩:=q3
   obtain⟨m',hm,w3⟩:=hN U3 H3 n3
   exact⟨m',hm,U3,H3,I3,w3⟩
  | cont =>
   obtain⟨U3,H3,I3,n3⟩:=q3
   obtain⟨m',hm,w3⟩:=hN U3 H3 n3
   exact⟨m',hm,U3,H3,I3,w3⟩
  | brk=>exact q3
  | ret v=>exact q3
 | false =>
  rw[if_neg Xaj]
  exact wpAny_execs_nil ⟨U1,H2,I2,q2⟩
end
structure It where
 go:Nat->Hp->Prop
 yld:Nat->Hp->V->Hp->Prop
 stop:Nat->Hp->Prop
def FpOk(X:Cx)(pins:List (Addr×Obj))(H:Hp)(b:Addr):Prop:=
 H b=none/\b≠X.env.locals/\b∉X.fs/\(b∈X.ex\/X.s₀.heap.objs.size<=b)/\(∀x c,X.env.cells.lookup x=some c->c≠b)/\∀p∈X.pn++pins,p.1≠b
def Inv.fpOk{X:Cx}{pins:List (Addr×Obj)}{U:St}{H H':Hp}{s:Shared}{b:Addr}(I:Inv X pins U H s)(hb:s.heap.objs.size<=b)(hn:H' b=none):FpOk X pins H' b:=by
 refine{hn,Xbe (Xao I.lt hb),I.nofs hb,.inr (Xak I.sz hb),λx c e z=>?_,λp hp z=>?_}
 .obtain⟨v,q⟩:=I.cell x c e
  exact absurd (Xao q.lt (by rw[z];exact hb)) (XaY _)
 .exact absurd (Xao (Xai (I.pin p hp).1) (by rw[z];exact hb)) (XaY _)
structure Turn(P:Program)(w:World)(K:W.Frag)(tg:Expr)(J:It)(fp:List Addr)(it:Addr)(tn:Nat->Heap->Prop):Prop where
 mem:it∈fp
 obj:∀i h,tn i h->∀b∈fp,∃o,h.get? b=some o/\∀v,o.data≠.cell v
 keep:∀i h h',tn i h->(∀b∈fp,∀o,h.get? b=some o->h'.get? b=some o)->tn i h'
 item:∀(X:Cx),X.prog=P->X.w=w->X.K=K->X.calm=true->∀(i:Nat) (pins:List (Addr×Obj)) (s:Shared) (U:St) (H:Hp) (E:Value->Shared->Prop),Inv X pins U H s->(∀b∈fp,FpOk X pins H b)->tn i s.heap->J.go i H ->
  wpAny (model P w) X.A (pyNext (.ref it)) (λr s1=>∃u,r=some u /\
   wpAny (model P w) X.A (letOwnedTupleGo tg (.ref it) u) (λ_ s2=>∃x H',Inv X pins U H' s2/\RelV x u/\J.yld i H x H'/\tn (i+1) s2.heap/\∀b∈fp,H' b=none) E s1) E s
 done:∀(X:Cx),X.prog=P->X.w=w->X.K=K->X.calm=true->∀(i:Nat) (pins:List (Addr×Obj)) (s:Shared) (U:St) (H:Hp) (E:Value->Shared->Prop),Inv X pins U H s->(∀b∈fp,FpOk X pins H b)->tn i s.heap->J.stop i H ->
  wpAny (model P w) X.A (pyNext (.ref it)) (λr s1=>r=none/\Inv X pins U H s1) E s
 self:∀(A:Around) (i:Nat) (s:Shared) (Q:Value->Shared->Prop) (E:Value->Shared->Prop),tn i s.heap->Q (.ref it) s->wpAny (model P w) A (pyIter (.ref it)) Q E s
abbrev TI:=St->Hp->(It->Hp->Prop)->Prop
def PIE(X:Cx)(pins:List (Addr×Obj))(U:St)(tg:Expr)(R:It->Hp->Prop)(itv:Value)(s2:Shared):Prop:=
 ∃(it:Addr) (fp:List Addr) (tn:Nat->Heap->Prop) (J:It) (H':Hp),itv=.ref it/\Inv X pins U H' s2/\Turn X.prog X.w X.K tg J fp it tn/\tn 0 s2.heap/\(∀b∈fp,FpOk X pins H' b)/\R J H'
def PI(X:Cx)(tg iter:Expr)(wi:TI):Prop:=
 ∀(pins:List (Addr×Obj)) (s:Shared) (U:St) (H:Hp) (R:It->Hp->Prop),Inv X pins U H s->wi U H R ->
  wpAny (model X.prog X.w) X.A (eval iter X.env) (λv s1=>wpAny (model X.prog X.w) X.A (pyIter v) (PIE X pins U tg R) X.xe s1) X.xe s
def zkL{M:Model}{A:Around}{E:Value->Shared->Prop}{s:Shared}{tg:Expr}{it:Addr}{u:Value}{o:Obj}{n:String}{vs:Array Value}{Q:Unit->Shared->Prop}(ho:s.heap.get? it=some o)(hc:o.cls=.type n)(hd:o.data=.fields vs)
    (hn:["enumerate","zip","dict_itemiterator","dict_reverseitemiterator","odict_iterator","itertools.zip_longest","itertools.pairwise"].contains n=false) (hQ:Q () s):wpAny M A (letOwnedTupleGo tg (.ref it) u) Q E s:=by
  unfold letOwnedTupleGo
  cases tg<;>first
    | exact Xac hQ
    | (cases u<;>first
        | exact Xac hQ
        | (refine Xaa (wpAny_load ho ?_)
           rw[hc,hd]
           show wpAny M A (if(["enumerate","zip","dict_itemiterator","dict_reverseitemiterator","odict_iterator","itertools.zip_longest","itertools.pairwise"].contains n&&vs[0]?==some (rawInt _))=true then _ else _) Q E s
           rw[if_neg (by intro h;rw[hn,Xba] at h;cases h)]
           exact Xac hQ))
def Itl(K:W.Frag)(a:Addr):It:=
 {λi H=>∃xs x,SqL K H a xs/\xs[i]?=some x,λi H x H'=>H'=H/\∀xs,SqL K H a xs->xs[i]?=some x,λi H=>∃xs,SqL K H a xs/\xs.length<=i}
def Itt(K:W.Frag)(a:Addr):It:=
 {λi H=>∃xs x,SqT K H a xs/\xs[i]?=some x,λi H x H'=>H'=H/\∀xs,SqT K H a xs->xs[i]?=some x,λi H=>∃xs,SqT K H a xs/\xs.length<=i}
def Itr(lo:Int)(n:Nat):It:={λi _=>i<n,λi H x H'=>H'=H/\x=.int (lo+i),λi _=>n<=i}
def zio{P:Program}{w:World}{K:W.Frag}{tg:Expr}(a it:Addr):Turn P w K tg (Itl K a) [it] it (λi h=>h.IsListIter it a i) where
 mem:=by simp
 obj:=λi h st b hb=>by
  have e:b=it:=by simpa using hb
  subst e
  obtain⟨o,e,c,d⟩:=st
  exact{o,e,λv z=>by rw[d] at z;cases z}
 keep:=λi h h' st k=>st.at λo e=>k it (by simp) o e
 item:=by
  intro X hP hw hK hc i pins s U H E I hf st hg
  subst hP hw hK
  obtain⟨xs,x,hq,hx⟩:=hg
  obtain⟨its,rv,p,hz⟩:=I.list hq
  obtain⟨u,hu,ru⟩:=rv.get hx
  obtain⟨f0,f1,f2,f3,f4,f5⟩:=hf it (by simp)
  refine wpAny_pyNext_list_item st p.isList (x:=u) (by simpa using hu) λh' st' sb=>?_
  have I1:Inv X pins U H {s with heap:=h'}:=I.turned (t':=s.toks) (λb o hb e=>(sb.2 b hb).trans e) f0 f1 f3 f4 f5
  obtain⟨o,e,c,d⟩:=id st'
  exact{u,O,zkL (s:={s with heap:=h'}) e c d (by decide) {x,H,I1,ru,{O,λys hy=>by rw[I.list_inj hy hq];exact hx},st',λb hb=>(hf b hb).1}}
 done:=by
  intro X hP hw hK hc i pins s U H E I hf st hg
  subst hP hw hK
  obtain⟨xs,hq,hx⟩:=hg
  obtain⟨its,rv,p,hz⟩:=I.list hq
  obtain⟨f0,f1,f2,f3,f4,f5⟩:=hf it (by simp)
  have hl:=rv.length
  exact wpAny_pyNext_list_end (I.ok.hd hc) st p.isList (by simp;omega) λh' eb=>{O,I.turned (t':=s.toks) (λb o hb e=>eb b o hb e) f0 f1 f3 f4 f5}
 self:=λ_ _ _ _ _ st h=>wpAny_pyIter_listiter st h
def zhm{P:Program}{w:World}{K:W.Frag}{tg:Expr}(a it:Addr):Turn P w K tg (Itt K a) [it] it (λi h=>h.IsTupleIter it a i) where
 mem:=by simp
 obj:=λi h st b hb=>by
  have e:b=it:=by simpa using hb
  subst e
  obtain⟨o,e,c,d⟩:=st
  exact{o,e,λv z=>by rw[d] at z;cases z}
 keep:=λi h h' st k=>st.at λo e=>k it (by simp) o e
 item:=by
  intro X hP hw hK hc i pins s U H E I hf st hg
  subst hP hw hK
  obtain⟨xs,x,hq,hx⟩:=hg
  obtain⟨its,rv,p,hz⟩:=I.tuple hq
  obtain⟨u,hu,ru⟩:=rv.get hx
  obtain⟨f0,f1,f2,f3,f4,f5⟩:=hf it (by simp)
  refine wpAny_pyNext_tuple_item st (show s.heap.IsTuple a its.toArray from p) (x:=u) (by simpa using hu) λh' st' sb=>?_
  have I1:Inv X pins U H {s with heap:=h'}:=I.turned (t':=s.toks) (λb o hb e=>(sb.2 b hb).trans e) f0 f1 f3 f4 f5
  obtain⟨o,e,c,d⟩:=id st'
  exact{u,O,zkL (s:={s with heap:=h'}) e c d (by decide) {x,H,I1,ru,{O,λys hy=>by rw[I.tuple_inj hy hq];exact hx},st',λb hb=>(hf b hb).1}}
 done:=by
  intro X hP hw hK hc i pins s U H E I hf st hg
  subst hP hw hK
  obtain⟨xs,hq,hx⟩:=hg
  obtain⟨its,rv,p,hz⟩:=I.tuple hq
  obtain⟨f0,f1,f2,f3,f4,f5⟩:=hf it (by simp)
  have hl:=rv.length
  exact wpAny_pyNext_tuple_end (I.ok.hd hc) st (show s.heap.IsTuple a its.toArray from p) (by simp;omega) λh' eb=>{O,I.turned (t':=s.toks) (λb o hb e=>eb b o hb e) f0 f1 f3 f4 f5}
 self:=λ_ _ _ _ _ st h=>wpAny_pyIter_tupleiter st h
def zhn{P:Program}{w:World}{K:PySem.W.Frag}{tg:Expr}(it:Addr)(lo:Int)(n:Nat):Turn P w K tg (Itr lo n) [it] it (λi h=>IsRangeIter h it (lo+(i:Nat)*1) ((n:Int)-(i:Nat)) 1) where
 mem:=by simp
 obj:=λi h st b hb=>by
  have e:b=it:=by simpa using hb
  subst e
  exact⟨_,st,λv z=>by
   have z':Data.fields _=Data.cell v:=z
   cases z'⟩
 keep:=λi h h' st k=>k it (by simp) _ st
 item:=by
  intro X hP hw hK hc i pins s U H E I hf st hg
  subst hP hw hK
  obtain⟨f0,f1,f2,f3,f4,f5⟩:=hf it (by simp)
  have W:=Walks.range (prog:=X.prog) (w:=X.w) (I.ok.hd hc) it lo 1 n
  refine W.item i s _ _ hg st λv h' tk hv st' kk=>?_
  obtain⟨t,rfl⟩:=hv
  have I1:Inv X pins U H {s with heap:=h',toks:=tk}:=I.turned (λb o hb e=>kk b o (by simpa using hb) e) f0 f1 f3 f4 f5
  refine{_,O,zkL (s:={s with heap:=h',toks:=tk}) (n := "range_iterator") st' O O (by decide) {.int (lo+i),H,I1,{t,?_},⟨O,O⟩,st',λb hb=>(hf b hb).1}}
  rw[Int.mul_one]
 done:=by
  intro X hP hw hK hc i pins s U H E I hf st hg
  subst hP hw hK
  obtain⟨f0,f1,f2,f3,f4,f5⟩:=hf it (by simp)
  exact wpAny_pyNext_range_end (I.ok.hd hc) st (by have:n<=i:=hg;omega) λh' eb=>{O,I.turned (t':=s.toks) (λb o hb e=>eb b o hb e) f0 f1 f3 f4 f5}
 self:=λ_ _ _ _ _ st h=>wpAny_pyIter_rangeiter st h
section
variable{X:Cx}{tg:Expr}
inductive iList_1(K:W.Frag)(R:It->Hp->Prop)(x:V)(H1:Hp):Prop
 | mk a(_:x=.ref a)(_:(∃xs,SqL K H1 a xs))(_:R (Itl K a) H1)
def iList(K:W.Frag)(tl:TE):TI:=λU H R=>tl U H (iList_1 K R)
inductive iTup_1(K:W.Frag)(R:It->Hp->Prop)(x:V)(H1:Hp):Prop
 | mk a(_:x=.ref a)(_:(∃xs,SqT K H1 a xs))(_:R (Itt K a) H1)
def iTup(K:W.Frag)(tl:TE):TI:=λU H R=>tl U H (iTup_1 K R)
def zeR{l:Expr}{tl:TE}(hl:PE X l tl):PI X tg l (iList X.K tl):=by
 intro pins s U H R I h
 refine thn (hl pins s U H _ I h) λv s1 hh_=>?_
 obtain⟨x,H1,I1,r1,q1⟩:=hh_
 obtain⟨a,e,⟨xs,hq⟩,q⟩:=q1
 subst e
 cases r1
 obtain⟨its,rv,p,hz⟩:=I1.list hq
 refine Xbh p.isList ?_
 refine{s1.heap.objs.size,[s1.heap.objs.size],_,_,H1,O,I1.kept (t':=s1.toks) λb o e=>Xab _ e,zio a _,{_,Xag _ O,O,O},λb hb=>?_,q}
 have e:b=s1.heap.objs.size:=by simpa using hb
 subst e
 exact I1.fpOk (Xad _) (I1.hok.fresh (Xad _))
def zlg{l:Expr}{tl:TE}(hl:PE X l tl):PI X tg l (iTup X.K tl):=by
 intro pins s U H R I h
 refine thn (hl pins s U H _ I h) λv s1 hh_=>?_
 obtain⟨x,H1,I1,r1,q1⟩:=hh_
 obtain⟨a,e,⟨xs,hq⟩,q⟩:=q1
 subst e
 cases r1
 obtain⟨its,rv,p,hz⟩:=I1.tuple hq
 refine XbE (show s1.heap.IsTuple a its.toArray from p) ?_
 refine{s1.heap.objs.size,[s1.heap.objs.size],_,_,H1,O,I1.kept (t':=s1.toks) λb o e=>Xab _ e,zhm a _,{_,Xag _ O,O,O},λb hb=>?_,q}
 have e:b=s1.heap.objs.size:=by simpa using hb
 subst e
 exact I1.fpOk (Xad _) (I1.hok.fresh (Xad _))
def zke{pins:List (Addr×Obj)}{U:St}{H:Hp}{s:Shared}{R:It->Hp->Prop}{E:Value->Shared->Prop}{lo hi:Int}{t u v:Tok}{tk:Nat}(I:Inv X pins U H s)(h1:-(2 ^ 62)<=lo)(h2:lo<2 ^ 62)(h3:-(2 ^ 62)<=hi)(h4:hi<2 ^ 62)
  (q:R (Itr lo (hi-lo).toNat) H):wpAny (model X.prog X.w) X.A (pyIter (.ref s.heap.objs.size)) (PIE X pins U tg R) E {s with heap:=s.heap.push {cls:=.type "range",data:=.fields #[.int lo t,.int hi u,.int 1 v]},toks:=tk}:=by
 refine wpAny_pyIter_range (IsRange.new ..) (small_one h1 h2 h3 h4) ?_
 have I1:Inv X pins U H {s with heap:=s.heap.push {cls:=.type "range",data:=.fields #[.int lo t,.int hi u,.int 1 v]},toks:=tk}:=I.kept λb o e=>Xab _ e
 refine⟨(s.heap.push {cls:=.type "range",data:=.fields #[.int lo t,.int hi u,.int 1 v]}).objs.size,[(s.heap.push {cls:=.type "range",data:=.fields #[.int lo t,.int hi u,.int 1 v]}).objs.size],_,_,H,O,
  I1.kept (t':=tk) λb o e=>Xab _ e,zhn _ lo (hi-lo).toNat,?_,λb hb=>?_,q⟩
 .have e1:lo+((0:Nat):Int)*1=lo:=by simp
  have e2:(((hi-lo).toNat:Nat):Int)-((0:Nat):Int)=Builtin.Range.rangeSize lo hi 1:=by rw[rangeSize_one];split<;>omega
  show IsRangeIter _ _ (lo+((0:Nat):Int)*1) ((((hi-lo).toNat:Nat):Int)-((0:Nat):Int)) 1
  rw[e1,e2]
  exact Xag _ O
 .have e:b=(s.heap.push {cls:=.type "range",data:=.fields #[.int lo t,.int hi u,.int 1 v]}).objs.size:=by simpa using hb
  subst e
  exact I1.fpOk (Xad _) (I1.hok.fresh (Xad _))
inductive iRng1_1(R:It->Hp->Prop)(vs:List V)(H1:Hp):Prop
 | mk (j:Int)(_:vs=[.int j])(_:-(2 ^ 62)<=j)(_:j<2 ^ 62)(_:R (Itr 0 j.toNat) H1)
def iRng1(ta:TA):TI:=λU H R=>ta U H (iRng1_1 R)
def za0{a:Expr}{ta:TA}{p pos:Pos}(hg:Gl X "range")(hm:X.mg "range"=none)(ha:PA X [a] ta)(hs:starEach [a] X.env=[(false,eval a X.env)]:=by rfl):PI X tg (.Call (.Name "range" p) [a] [] pos) (iRng1 ta):=by
 intro pins s U H R I h
 refine Call_ (zcP I hg hm boot_range (PyProof.Rows.callWith_type1 (thn (ha pos pins s U H _ I h) λus s1 hh_=>?_) hs O))
 obtain⟨vs,H1,I1,r1,q1⟩:=hh_
 obtain⟨j,e,q1,q2,q⟩:=q1
 subst e
 cases r1 with
 | cons r rr =>
  cases rr
  obtain⟨t,rfl⟩:=r
  exact call_range_1 (zke I1 (by omega) (by omega) q1 q2 (by simpa using q))
def tFor(wi:TI)(g:TG)(tb:TS):TS:=λD U H=>wi U H λJ H1=>∃W:Nat->Nat->St->Hp->Prop,(∃m,W 0 m U H1)/\∀i m U H,W i m U H ->
 (J.stop i H/\D.nx U H)\/(J.go i H/\∃N:St->Hp->Prop,(∀U' H',N U' H'->∃m',m'<m/\W (i+1) m' U' H')/\∀x H',J.yld i H x H'->g x U H' λU2 H2=>tb {D with nx:=N,ct:=N,bk:=D.nx} U2 H2)
def zfp(fp:List Addr)(h:Heap):List (Addr×Obj):=fp.filterMap λb=>(h.get? b).map λo=>(b,o)
def zca{fp:List Addr}{h:Heap}{b:Addr}{o:Obj}(hb:b∈fp)(e:h.get? b=some o):(b,o)∈zfp fp h:=XbD.mpr {b,hb,by rw[e];rfl}
def zja{fp:List Addr}{h:Heap}{p:Addr×Obj}(hp:p∈zfp fp h):p.1∈fp/\h.get? p.1=some p.2:=by
 obtain⟨b,hb,e⟩:=XbD.mp hp
 cases q:h.get? b with
 | none=>rw[q] at e;cases e
 | some o =>
  rw[q] at e
  have e':(b,o)=p:=Option.some.inj e
  subst e'
  exact⟨hb,q⟩
def Inv.pinned{pins:List (Addr×Obj)}{U:St}{H:Hp}{s:Shared}{fp:List Addr}(I:Inv X pins U H s)(hf:∀b∈fp,FpOk X pins H b)(ho:∀b∈fp,∃o,s.heap.get? b=some o/\∀v,o.data≠.cell v):Inv X (pins++zfp fp s.heap) U H s:=
 I.pins_of λp hp=>(XaH.mp hp).elim (λz=>I.pin p (XaB _ z)) λz=>by
  obtain⟨hb,e⟩:=zja z
  obtain⟨f0,f1,f2,_⟩:=hf p.1 hb
  obtain⟨o,e',d⟩:=ho p.1 hb
  rw[e] at e';cases e'
  exact⟨e,f0,f1,f2,d⟩
def Inv.unpinned{pins pl:List (Addr×Obj)}{U:St}{H:Hp}{s:Shared}(I:Inv X (pins++pl) U H s):Inv X pins U H s:=I.pins_of λp hp=>I.pin p (XaB _ (XaO _ hp))
def zb2{iter:Expr}{body:List Stmt}{wi:TI}{g:TG}{tb:TS}{pos:Pos}(hp:PassesOwn (model X.prog X.w) X.A X.env X.xe)(hc:X.calm=true)(hi:PI X tg iter wi)(hg:PG X tg g)(hb:PSs X body tb)
  (hs:∀x,foldedSetIterable iter X.env x=pure x:=by intro _;rfl):PS X (.For tg iter body [] pos) (tFor wi g tb):=by
 intro pins s U H D I h
 refine wpAny_For (thn (hi pins s U H _ I h) λv s1 h1=>thn h1 λitv s2 h2=>?_) hs
 obtain⟨it,fp,tn,J,H2,e,I2,T,st2,f2,W,⟨m0,w0⟩,turn⟩:=h2
 subst e
 
 have stat:∀{H':Hp},(∀b∈fp,H' b=none)->∀b∈fp,FpOk X pins H' b:=λhn b hb=>{hn b hb,(f2 b hb).2}
 refine codeAny_forLoop_any (λn s'=>∃i U' H',Inv X pins U' H' s'/\tn i s'.heap/\(∀b∈fp,H' b=none)/\W i n U' H') ?_ m0 {0,U,H2,I2,st2,λb hb=>(f2 b hb).1,w0}
 rintro n s3 ⟨i,U3,H3,I3,st3,fr3,w3⟩
 rcases turn i n U3 H3 w3 with⟨stop,qn⟩|⟨go,N,hN,step⟩
 .refine Xbw hp (thn (T.done X O O O hc i pins s3 U3 H3 X.xe I3 (stat fr3) st3 stop) λr s4 ⟨hr,I4⟩=>?_)
  subst hr
  exact wpAny_execs_nil ⟨U3,H3,I4,qn⟩
 .refine Xbw hp (thn (T.item X O O O hc i pins s3 U3 H3 X.xe I3 (stat fr3) st3 go) λr s4 ⟨u,hr,h4⟩=>?_)
  subst hr
  refine Xbw hp (thn h4 λ_ s5 hh_=>?_)
  obtain⟨x,H5,I5,r5,y5,st5,fr5⟩:=hh_
  have I5':=I5.pinned (stat fr5) (T.obj _ _ st5)
  refine Xbw hp (thn (hg _ s5 U3 H5 x u _ I5' r5 (step x H5 y5)) λ_ s6 ⟨U6,H6,I6,q6⟩=>?_)
  refine Xbw hp (thn (hb _ s6 U6 H6 _ I6 q6) λf s7 q7=>?_)
  have again:∀{U7:St} {H7:Hp},Inv X (pins++zfp fp s5.heap) U7 H7 s7->N U7 H7->∃m,m<n/\∃i U' H',Inv X pins U' H' s7/\tn i s7.heap/\(∀b∈fp,H' b=none)/\W i m U' H':=λ{U7 H7} I7 n7=>by
   obtain⟨m',hm,w7⟩:=hN U7 H7 n7
   refine{m',hm,i+1,U7,H7,I7.unpinned,T.keep _ _ _ st5 λb hb o e=>(I7.pin (b,o) (XaB _ (XaB _ (zca hb e)))).1,λb hb=>?_,w7}
   obtain⟨o,e,d⟩:=T.obj _ _ st5 b hb
   exact(I7.pin (b,o) (XaB _ (XaB _ (zca hb e)))).2.1
  cases f with
  | next=>obtain⟨U7,H7,I7,n7⟩:=q7;exact again I7 n7
  | cont=>obtain⟨U7,H7,I7,n7⟩:=q7;exact again I7 n7
  | brk=>obtain⟨U7,H7,I7,q7⟩:=q7;exact⟨U7,H7,I7.unpinned,q7⟩
  | ret v=>obtain⟨x7,U7,H7,I7,r7,q7⟩:=q7;exact⟨x7,U7,H7,I7.unpinned,r7,q7⟩
end
def zkO{K:PySem.W.Frag}{a:Addr}{xs:List V}{g:TG}{tb:TS}{D:Ends}{U:St}{H:Hp}(Pv:Nat->St->Hp->Prop)(h0:Pv 0 U H)(hl:∀i U H,i<=xs.length->Pv i U H->SqL K H a xs)
  (hs:∀i x U H,xs[i]?=some x->Pv i U H->g x U H λU2 H2=>tb {D with nx:=Pv (i+1),ct:=Pv (i+1),bk:=D.nx} U2 H2) (hd:∀U H,Pv xs.length U H->D.nx U H) :
  ∃W:Nat->Nat->St->Hp->Prop,(∃m,W 0 m U H)/\∀i m U H,W i m U H ->
   ((Itl K a).stop i H/\D.nx U H)\/((Itl K a).go i H/\∃N:St->Hp->Prop,(∀U' H',N U' H'->∃m',m'<m/\W (i+1) m' U' H')/\∀x H',(Itl K a).yld i H x H'->g x U H' λU2 H2=>tb {D with nx:=N,ct:=N,bk:=D.nx} U2 H2):=by
 refine{λi m U H=>m=xs.length-i/\i<=xs.length/\Pv i U H,{xs.length,by simp,Nat.zero_le _,h0},?_}
 rintro i m U H ⟨rfl,hi,p⟩
 have q:=hl i U H hi p
 by_cases hlt:i<xs.length
 .refine .inr {{xs,xs[i],q,by simp[hlt]},Pv (i+1),λU' H' p'=>{xs.length-(i+1),by omega,O,hlt,p'},λx H' y=>?_}
  obtain⟨e,y⟩:=y
  subst e
  exact hs i x U _ (y xs q) p
 .have e:i=xs.length:=by omega
  subst e
  exact .inl {{xs,q,Xad _},hd U H p}
def zb5{lo:Int}{n:Nat}{g:TG}{tb:TS}{D:Ends}{U:St}{H:Hp}(Pv:Nat->St->Hp->Prop)(h0:Pv 0 U H)
  (hs:∀i U H,i<n->Pv i U H->g (.int (lo+i)) U H λU2 H2=>tb {D with nx:=Pv (i+1),ct:=Pv (i+1),bk:=D.nx} U2 H2) (hd:∀U H,Pv n U H->D.nx U H) :
  ∃W:Nat->Nat->St->Hp->Prop,(∃m,W 0 m U H)/\∀i m U H,W i m U H ->
   ((Itr lo n).stop i H/\D.nx U H)\/((Itr lo n).go i H/\∃N:St->Hp->Prop,(∀U' H',N U' H'->∃m',m'<m/\W (i+1) m' U' H')/\∀x H',(Itr lo n).yld i H x H'->g x U H' λU2 H2=>tb {D with nx:=N,ct:=N,bk:=D.nx} U2 H2):=by
 refine{λi m U H=>m=n-i/\i<=n/\Pv i U H,{n,by simp,Nat.zero_le _,h0},?_}
 rintro i m U H ⟨rfl,hi,p⟩
 by_cases hlt:i<n
 .refine .inr {hlt,Pv (i+1),λU' H' p'=>{n-(i+1),by omega,O,hlt,p'},λx H' y=>?_}
  obtain⟨e,y⟩:=y
  subst e y
  exact hs i U _ hlt p
 .have e:i=n:=by omega
  subst e
  exact .inl {Xad _,hd U H p}
def zgS{c:TT}{tb:TS}{D:Ends}{U:St}{H:Hp}(Pv:St->Hp->Prop)(μ:St->Hp->Nat)(h0:Pv U H)
  (hs:∀U H,Pv U H->c U H λb H1=>if b=true then tb {D with nx:=λU' H'=>Pv U' H'/\μ U' H'<μ U H,ct:=λU' H'=>Pv U' H'/\μ U' H'<μ U H,bk:=D.nx} U H1 else D.nx U H1)
  (mono:∀U H Q Q',(∀b H1,Q b H1->Q' b H1)->c U H Q->c U H Q'):zk5 c tb D U H:=by
 refine{λm U H=>m=μ U H/\Pv U H,{_,O,h0},?_}
 rintro m U H ⟨rfl,p⟩
 refine mono U H _ _ (λb H1 q=>?_) (hs U H p)
 cases b with
 | true=>exact{_,λU' H' ⟨p',l⟩=>{_,l,O,p'},q}
 | false=>exact q
abbrev R2:=V->V->Hp->VK->Prop
def OpR(X:Cx)(f:Value->Value->Sem Value)(r:R2):Prop:=
 ∀(pins:List (Addr×Obj)) (s:Shared) (U:St) (H:Hp) (x y:V) (v u:Value) (Q:VK),Inv X pins U H s->RelV x v->RelV y u->r x y H Q ->
  wpAny (model X.prog X.w) X.A (f v u) (EP X pins U Q) X.xe s
def UnR(X:Cx)(f:Value->Sem Value)(r:V->Hp->VK->Prop):Prop:=
 ∀(pins:List (Addr×Obj)) (s:Shared) (U:St) (H:Hp) (x:V) (v:Value) (Q:VK),Inv X pins U H s->RelV x v->r x H Q ->
  wpAny (model X.prog X.w) X.A (f v) (EP X pins U Q) X.xe s
def zbL(X:Cx)(f:Value)(r:List V->Hp->VK->Prop):Prop:=
 ∀(pins:List (Addr×Obj)) (s:Shared) (U:St) (H:Hp) (xs:List V) (us:List Value) (Q:VK),Inv X pins U H s->Vals xs us->r xs H Q ->
  wpAny (model X.prog X.w) X.A (call f us) (EP X pins U Q) X.xe s
def TruR(X:Cx)(r:V->Hp->(Bool->Hp->Prop)->Prop):Prop:=
 ∀(pins:List (Addr×Obj)) (s:Shared) (U:St) (H:Hp) (x:V) (v:Value) (Q:Bool->Hp->Prop),Inv X pins U H s->RelV x v->r x H Q ->
  wpAny (model X.prog X.w) X.A (truthy v) (TP X pins U Q) X.xe s
def tOp(r:R2)(ta tb:TE):TE:=λU H Q=>ta U H λx H1=>tb U H1 λy H2=>r x y H2 Q
def tUn(r:V->Hp->VK->Prop)(ta:TE):TE:=λU H Q=>ta U H λx H1=>r x H1 Q
inductive rI(C:Int->Int->Prop)(g:Int->Int->V)(x:V)(y:V)(H:Hp)(Q:VK):Prop
 | mk i j(_:x=.int i)(_:y=.int j)(_:C i j)(_:Q (g i j) H)
inductive rI0(g:Int->Int->V)(x:V)(y:V)(H:Hp)(Q:VK):Prop
 | mk i j(_:x=.int i)(_:y=.int j)(_:Q (g i j) H)
inductive rU(g:Int->V)(x:V)(H:Hp)(Q:VK):Prop
 | mk i(_:x=.int i)(_:Q (g i) H)
section
variable{X:Cx}{a b c:Expr}{ta tb tc:TE}{pos:Pos}
def binT(ha:PE X a ta)(hb:PE X b tb){pins:List (Addr×Obj)}{s:Shared}{U:St}{H:Hp}{R:V->V->Hp->Prop}(I:Inv X pins U H s)
  (h:ta U H λx H1=>tb U H1 λy H2=>R x y H2) {Q:Value->Shared->Prop} {f:Value->Value->Sem Value}
  (hf:∀v u s2 x y H2,Inv X pins U H2 s2->RelV x v->RelV y u->R x y H2->wpAny (model X.prog X.w) X.A (f v u) Q X.xe s2) :
  wpAny (model X.prog X.w) X.A (eval a X.env) (λv s₁=>wpAny (model X.prog X.w) X.A (eval b X.env) (λu s₂=>wpAny (model X.prog X.w) X.A (f v u) Q X.xe s₂) X.xe s₁) X.xe s:=by
 refine thn (ha pins s U H _ I h) λv s1 hh_=>?_
 obtain⟨x,H1,I1,r1,q1⟩:=hh_
 refine thn (hb pins s1 U H1 _ I1 q1) λu s2 hh_=>?_
 obtain⟨y,H2,I2,r2,q2⟩:=hh_
 exact hf v u s2 x y H2 I2 r1 r2 q2
def zat{op:Operator}{r:R2}(ho:OpR X (binaryOp op) r)(ha:PE X a ta)(hb:PE X b tb):PE X (.BinOp a op b pos) (tOp r ta tb):=by
 intro pins s U H Q I h
 exact wpAny_BinOp (binT ha hb I h λv u s2 x y H2 I2 rx ry q=>ho pins s2 U H2 x y v u Q I2 rx ry q)
def zl6{op:UnaryOp}{r:V->Hp->VK->Prop}(ho:UnR X (unaryOp op) r)(ha:PE X a ta):PE X (.UnaryOp op a pos) (tUn r ta):=by
 intro pins s U H Q I h
 exact UnaryOp_ (thn (ha pins s U H _ I h) λv s1 ⟨x,H1,I1,r1,q1⟩=>ho pins s1 U H1 x v Q I1 r1 q1)
def opI{f:Value->Value->Sem Value}{C:Int->Int->Prop}{g:Int->Int->Int}
  (rule:∀(i j:Int) (t u:Tok) (s:Shared) (Q:Value->Shared->Prop) (E:Value->Shared->Prop),C i j->Q (.int (g i j) s.toks) {s with toks:=s.toks+1}->wpAny (model X.prog X.w) X.A (f (.int i t) (.int j u)) Q E s) :
  OpR X f (rI C λi j=>.int (g i j)):=by
 intro pins s U H x y v u Q I rx ry h
 obtain⟨i,j,rfl,rfl,hc,q⟩:=h
 obtain⟨t,rfl⟩:=rx
 obtain⟨t',rfl⟩:=ry
 exact rule i j t t' s _ _ hc {.int (g i j),H,I.tok _,{_,O},q}
def opI0{f:Value->Value->Sem Value}{g:Int->Int->Int}
  (rule:∀(i j:Int) (t u:Tok) (s:Shared) (Q:Value->Shared->Prop) (E:Value->Shared->Prop),Q (.int (g i j) s.toks) {s with toks:=s.toks+1}->wpAny (model X.prog X.w) X.A (f (.int i t) (.int j u)) Q E s) :
  OpR X f (rI0 λi j=>.int (g i j)):=by
 intro pins s U H x y v u Q I rx ry h
 obtain⟨i,j,rfl,rfl,q⟩:=h
 obtain⟨t,rfl⟩:=rx
 obtain⟨t',rfl⟩:=ry
 exact rule i j t t' s _ _ {.int (g i j),H,I.tok _,{_,O},q}
def opB0{f:Value->Value->Sem Value}{g:Int->Int->Bool}
  (rule:∀(i j:Int) (t u:Tok) (s:Shared) (Q:Value->Shared->Prop) (E:Value->Shared->Prop),Q (.bool (g i j)) s->wpAny (model X.prog X.w) X.A (f (.int i t) (.int j u)) Q E s) :
  OpR X f (rI0 λi j=>.bl (g i j)):=by
 intro pins s U H x y v u Q I rx ry h
 obtain⟨i,j,rfl,rfl,q⟩:=h
 obtain⟨t,rfl⟩:=rx
 obtain⟨t',rfl⟩:=ry
 exact rule i j t t' s _ _ {.bl (g i j),H,I,O,q}
def CPow(i j:Int):Prop:=0<=j/\j<=1000000/\i.natAbs<2 ^ 64
def zhl(k:Nat):(0:Int)<=2 ^ k:=by
 rw[two_pow_cast]
 exact Int.natCast_nonneg _
def za8:OpR X (binaryOp .Add) (rI0 λi j=>.int (i+j)):=opI0 λ_ _ _ _ _ _ _ q=>add_int q
def zg0:OpR X (binaryOp .Sub) (rI0 λi j=>.int (i-j)):=opI0 λ_ _ _ _ _ _ _ q=>sub_int q
def zdj:OpR X (binaryOp .Mod) (rI (λ_ j=>0<j) λi j=>.int (i % j)):=opI λi j _ _ _ _ _ hc q=>by
 have h1:(0:Int)<j:=hc
 exact mod_int' (by omega) (by rw[Int.fmod_eq_emod_of_nonneg i (by omega)];exact q)
def op_pow:OpR X (binaryOp .Pow) (rI CPow λi j=>.int (i ^ j.toNat)):=opI λ_ _ _ _ _ _ _ hc q=>pow_int_small hc.1 hc.2.1 hc.2.2 q
def zch:OpR X (binaryOp .LShift) (rI CPow λi j=>.int (i*2 ^ j.toNat)):=opI λ_ _ _ _ _ _ _ hc q=>lshift_int_small hc.1 hc.2.1 hc.2.2 q
def zlk:OpR X (binaryOp .RShift) (rI (λ_ j=>0<=j) λi j=>.int (i / 2 ^ j.toNat)):=opI λi j _ _ _ _ _ hc q =>
 rshift_int hc (by rw[Int.fdiv_eq_ediv_of_nonneg i (zhl _)];exact q)
def zcK:OpR X (binaryOp .BitAnd) (rI0 λi j=>.int (Builtin.bitAnd i j)):=opI0 λ_ _ _ _ _ _ _ q=>and_int q
def zlj:OpR X (binaryOp .BitXor) (rI0 λi j=>.int (Builtin.bitXor i j)):=opI0 λ_ _ _ _ _ _ _ q=>xor_int q
def zmo:OpR X (inplaceOp .Add) (rI0 λi j=>.int (i+j)):=opI0 λ_ _ _ _ _ _ _ q=>iadd_int q
def zmn:OpR X (inplaceOp .Sub) (rI0 λi j=>.int (i-j)):=opI0 λ_ _ _ _ _ _ _ q=>isub_int q
def zjm:OpR X (inplaceOp .BitOr) (rI0 λi j=>.int (Builtin.bitOr i j)):=opI0 λ_ _ _ _ _ _ _ q=>ior_int q
def unI{f:Value->Sem Value}{g:Int->Int}
  (rule:∀(i:Int) (t:Tok) (s:Shared) (Q:Value->Shared->Prop) (E:Value->Shared->Prop),Q (.int (g i) s.toks) {s with toks:=s.toks+1}->wpAny (model X.prog X.w) X.A (f (.int i t)) Q E s) :
  UnR X f (rU λi=>.int (g i)):=by
 intro pins s U H x v Q I rx h
 obtain⟨i,rfl,q⟩:=h
 obtain⟨t,rfl⟩:=rx
 exact rule i t s _ _ {.int (g i),H,I.tok _,{_,O},q}
def zil:UnR X (unaryOp .USub) (rU λi=>.int (-i)):=unI λ_ _ _ _ _ q=>neg_int q
end
def scal:V->V->Bool
 | .non,.non=>true|.non,.int _=>true|.int _,.non=>true|.non,.bl _=>true|.bl _,.non=>true|.non,.str _=>true|.str _,.non=>true
 | .int _,.int _=>true|.bl _,.bl _=>true|.str _,.str _=>true|.byt _,.byt _=>true
 | .int _,.str _=>true|.str _,.int _=>true|.bl _,.str _=>true|.str _,.bl _=>true
 | _,_=>false
def rEq:R2:=λx y H Q=>scal x y=true/\Q (.bl (decide (x=y))) H
def rNe:R2:=λx y H Q=>scal x y=true/\Q (.bl (!decide (x=y))) H
def zjx{i j:Int}:decide (V.int i=V.int j)=(i==j):=by
 rw[Bool.eq_iff_iff]
 simp
def zlv{i j:Bool}:decide (V.bl i=V.bl j)=(i==j):=by
 rw[Bool.eq_iff_iff]
 simp
def zjw{i j:Str}:decide (V.str i=V.str j)=(i==j):=by
 rw[Bool.eq_iff_iff]
 simp
def zjy{i j:Array UInt8}:decide (V.byt i=V.byt j)=(i.toList==j.toList):=by
 rw[Bool.eq_iff_iff]
 cases i
 cases j
 simp
section
variable{X:Cx}{a b c:Expr}{ta tb tc:TE}{pos:Pos}
def zaE{pins:List (Addr×Obj)}{U:St}{H:Hp}{s:Shared}{Q:VK}{k k':Bool}(I:Inv X pins U H s)(q:Q (.bl k) H)(e:k=k'):EP X pins U Q (.bool k') s:=by
 subst e
 exact{.bl k,H,I,O,q}
def zbS:OpR X (compareOp .Eq) rEq:=by
 intro pins s U H x y v u Q I rx ry h
 obtain⟨hs,q⟩:=h
 cases x with
 | non =>
  cases rx
  cases y with
  | non=>cases ry;exact PySem.EqNone.eq_none_none (zaE I q (by simp))
  | bl j=>cases ry;exact PySem.EqNone.eq_none_bool (zaE I q (by simp))
  | int j=>obtain⟨t',rfl⟩:=ry;exact PySem.EqNone.eq_none_int (zaE I q (by simp))
  | str j=>obtain⟨t',rfl⟩:=ry;exact PySem.EqNone.eq_none_str (zaE I q (by simp))
  | _=>exact absurd (show false=true from hs) Xaj
 | bl i =>
  cases rx
  cases y with
  | non=>cases ry;exact PySem.EqNone.eq_bool_none (zaE I q (by simp))
  | bl j=>cases ry;exact eq_bool (zaE I q zlv)
  | str j=>obtain⟨t',rfl⟩:=ry;exact PySem.EqMixed.eq_bool_str (zaE I q (by simp))
  | _=>exact absurd (show false=true from hs) Xaj
 | int i =>
  obtain⟨t,rfl⟩:=rx
  cases y with
  | non=>cases ry;exact PySem.EqNone.eq_int_none (zaE I q (by simp))
  | int j=>obtain⟨t',rfl⟩:=ry;exact eq_int (zaE I q zjx)
  | str j=>obtain⟨t',rfl⟩:=ry;exact PySem.EqMixed.eq_int_str (zaE I q (by simp))
  | _=>exact absurd (show false=true from hs) Xaj
 | str i =>
  obtain⟨t,rfl⟩:=rx
  cases y with
  | non=>cases ry;exact PySem.EqNone.eq_str_none (zaE I q (by simp))
  | bl j=>cases ry;exact PySem.EqMixed.eq_str_bool (zaE I q (by simp))
  | int j=>obtain⟨t',rfl⟩:=ry;exact PySem.EqMixed.eq_str_int (zaE I q (by simp))
  | str j=>obtain⟨t',rfl⟩:=ry;exact eq_str (zaE I q zjw)
  | _=>exact absurd (show false=true from hs) Xaj
 | byt i =>
  obtain⟨t,rfl⟩:=rx
  cases y with
  | byt j=>obtain⟨t',rfl⟩:=ry;exact W.eq_bytes (zaE I q zjy)
  | _=>exact absurd (show false=true from hs) Xaj
 | _=>cases y<;>exact absurd (show false=true from hs) Xaj
def zft:OpR X (compareOp .NotEq) rNe:=by
 intro pins s U H x y v u Q I rx ry h
 obtain⟨hs,q⟩:=h
 cases x with
 | non =>
  cases rx
  cases y with
  | non=>cases ry;exact PySem.EqNone.ne_none_none (zaE I q (by simp))
  | bl j=>cases ry;exact PySem.EqNone.ne_none_bool (zaE I q (by simp))
  | int j=>obtain⟨t',rfl⟩:=ry;exact PySem.EqNone.ne_none_int (zaE I q (by simp))
  | str j=>obtain⟨t',rfl⟩:=ry;exact PySem.EqNone.ne_none_str (zaE I q (by simp))
  | _=>exact absurd (show false=true from hs) Xaj
 | bl i =>
  cases rx
  cases y with
  | non=>cases ry;exact PySem.EqNone.ne_bool_none (zaE I q (by simp))
  | bl j=>cases ry;exact ne_bool (zaE I q (congrArg not zlv))
  | str j=>obtain⟨t',rfl⟩:=ry;exact PySem.EqMixed.ne_bool_str (zaE I q (by simp))
  | _=>exact absurd (show false=true from hs) Xaj
 | int i =>
  obtain⟨t,rfl⟩:=rx
  cases y with
  | non=>cases ry;exact PySem.EqNone.ne_int_none (zaE I q (by simp))
  | int j=>obtain⟨t',rfl⟩:=ry;exact ne_int (zaE I q (congrArg not zjx))
  | str j=>obtain⟨t',rfl⟩:=ry;exact PySem.EqMixed.ne_int_str (zaE I q (by simp))
  | _=>exact absurd (show false=true from hs) Xaj
 | str i =>
  obtain⟨t,rfl⟩:=rx
  cases y with
  | non=>cases ry;exact PySem.EqNone.ne_str_none (zaE I q (by simp))
  | bl j=>cases ry;exact PySem.EqMixed.ne_str_bool (zaE I q (by simp))
  | int j=>obtain⟨t',rfl⟩:=ry;exact PySem.EqMixed.ne_str_int (zaE I q (by simp))
  | str j=>obtain⟨t',rfl⟩:=ry;exact ne_str (zaE I q (congrArg not zjw))
  | _=>exact absurd (show false=true from hs) Xaj
 | byt i =>
  obtain⟨t,rfl⟩:=rx
  cases y with
  | byt j=>obtain⟨t',rfl⟩:=ry;exact W.ne_bytes (zaE I q (congrArg not zjy))
  | _=>exact absurd (show false=true from hs) Xaj
 | _=>cases y<;>exact absurd (show false=true from hs) Xaj
def zgo:OpR X (compareOp .Lt) (rI0 λi j=>.bl (decide (i<j))):=opB0 λ_ _ _ _ _ _ _ q=>lt_int q
def zgp:OpR X (compareOp .LtE) (rI0 λi j=>.bl (decide (i<=j))):=opB0 λ_ _ _ _ _ _ _ q=>le_int q
def zhz:OpR X (compareOp .Gt) (rI0 λi j=>.bl (decide (j<i))):=opB0 λ_ _ _ _ _ _ _ q=>gt_int q
def zmb:OpR X (compareOp .GtE) (rI0 λi j=>.bl (decide (j<=i))):=opB0 λ_ _ _ _ _ _ _ q=>ge_int q
def zaw(b:Expr){op:CmpOp}(h:op≠.In:=by decide)(h2:op≠.NotIn:=by decide):behindInMarks op b=false:=by
 have e1:(op==CmpOp.In)=false:=by cases op<;>first|rfl|exact absurd O h
 have e2:(op==CmpOp.NotIn)=false:=by cases op<;>first|rfl|exact absurd O h2
 cases b<;>simp[behindInMarks,e1,e2]
def zbE{op:CmpOp}{r:R2}(ho:OpR X (compareOp op) r)(ha:PE X a ta)(hb:PE X b tb)(hm:behindInMarks op b=false):PE X (.Compare a [op] [b] pos) (tOp r ta tb):=by
 intro pins s U H Q I h
 exact wpAny_Compare1 (binT ha hb I h λv u s2 x y H2 I2 rx ry q=>ho pins s2 U H2 x y v u Q I2 rx ry q) hm
inductive tTest_1(Q:Bool->Hp->Prop)(x:V)(H':Hp):Prop
 | mk k(_:x=.bl k)(_:Q k H')
def tTest(t:TE):TT:=λU H Q=>t U H (tTest_1 Q)
def zas{op:CmpOp}{r:R2}(ho:OpR X (compareOp op) r)(ha:PE X a ta)(hb:PE X b tb)(hm:behindInMarks op b=false):PT X (.Compare a [op] [b] pos) (tTest (tOp r ta tb)):=by
 intro pins s U H Q I h
 refine wpAny_isTrue_Compare1 (thn (ha pins s U H _ I h) λv s1 ⟨x,H1,I1,r1,q1⟩=>thn (hb pins s1 U H1 _ I1 q1) λu s2 ⟨y,H2,I2,r2,q2⟩ =>
  thn (ho pins s2 U H2 x y v u _ I2 r1 r2 q2) λc s3 ⟨z,H3,I3,r3,k,e,q3⟩=>?_) hm
 subst e
 cases r3
 exact Xa3 ⟨H3,I3,q3⟩
inductive tChain_1(r':R2)(tc:TE)(U:St)(Q:VK)(y:V)(z:V)(H3:Hp):Prop
 | mk k(_:z=.bl k)(_:(if k=true then tc U H3 λw' H4=>r' y w' H4 Q else Q (.bl false) H3))
def zk6(r r':R2)(ta tb tc:TE):TE:=λU H Q=>ta U H λx H1=>tb U H1 λy H2=>r x y H2 (tChain_1 r' tc U Q y)
def zkr{op op':CmpOp}{r r':R2}(ho:OpR X (compareOp op) r)(ho':OpR X (compareOp op') r')(ha:PE X a ta)(hb:PE X b tb)(hc:PE X c tc)
  (hm:lastMarks [op,op'] [b,c]=false:=by with_unfolding_all rfl):PE X (.Compare a [op,op'] [b,c] pos) (zk6 r r' ta tb tc):=by
 intro pins s U H Q I h
 refine Compare_chain (thn (ha pins s U H _ I h) λv s1 ⟨x,H1,I1,r1,q1⟩=>chain_link (thn (hb pins s1 U H1 _ I1 q1) λu s2 ⟨y,H2,I2,r2,q2⟩ =>
  thn (ho pins s2 U H2 x y v u _ I2 r1 r2 q2) λd s3 ⟨z,H3,I3,r3,k,e,q3⟩=>?_)) hm
 subst e
 cases r3
 refine Xa3 ?_
 cases k with
 | false=>exact ite_ff {.bl false,H3,I3,O,q3}
 | true=>exact ite_tt (chain_last (thn (hc pins s3 U H3 _ I3 q3) λw' s4 ⟨z',H4,I4,r4,q4⟩=>ho' pins s4 U H4 y z' u w' Q I4 r2 r4 q4))
def zgX{op op':CmpOp}{r r':R2}(ho:OpR X (compareOp op) r)(ho':OpR X (compareOp op') r')(ha:PE X a ta)(hb:PE X b tb)(hc:PE X c tc)
  (hm:lastMarks [op,op'] [b,c]=false:=by with_unfolding_all rfl):PT X (.Compare a [op,op'] [b,c] pos) (tTest (zk6 r r' ta tb tc)):=by
 intro pins s U H Q I h
 refine isTrue_chain (thn (ha pins s U H _ I h) λv s1 ⟨x,H1,I1,r1,q1⟩=>test_link (thn (hb pins s1 U H1 _ I1 q1) λu s2 ⟨y,H2,I2,r2,q2⟩ =>
  thn (ho pins s2 U H2 x y v u _ I2 r1 r2 q2) λd s3 ⟨z,H3,I3,r3,k,e,q3⟩=>?_)) hm
 subst e
 cases r3
 refine Xa3 ?_
 cases k with
 | false =>
  obtain⟨k',e',q'⟩:=q3
  cases e'
  exact ite_ff ⟨H3,I3,q'⟩
 | true =>
  refine ite_tt (test_last (thn (hc pins s3 U H3 _ I3 q3) λw' s4 ⟨z',H4,I4,r4,q4⟩=>thn (ho' pins s4 U H4 y z' u w' _ I4 r2 r4 q4) λd' s5 hh_=>?_))
  obtain⟨z2,H5,I5,r5,k2,e2,q5⟩:=hh_
  subst e2
  cases r5
  exact Xa3 ⟨H5,I5,q5⟩
def TruV(K:W.Frag)(x:V)(H:Hp)(k:Bool):Prop:=
 match x with
 | .non=>k=false
 | .bl b=>k=b
 | .int i=>k=(i != 0)
 | .str y=>y.length<=sizeLine/\k=((y.length:Int) != 0)
 | .byt y=>y.size<=sizeLine/\k=((y.size:Int) != 0)
 | .ref p=>(∃xs,SqL K H p xs/\k=!xs.isEmpty)\/(∃xs,SqT K H p xs/\k=!xs.isEmpty)\/∃kvs,H p=some (.dK kvs)/\k=!kvs.isEmpty
 | _=>False
def zhR{κ:Type}{kvs:List (κ×V)}{vs:List (κ×Value)}(r:KV kvs vs):(!vs.isEmpty)=!kvs.isEmpty:=by
 cases r<;>rfl
def zex{xs:List V}{its:List Value}(r:Vals xs its):(!its.toArray.isEmpty)=!xs.isEmpty:=by
 cases r<;>simp
def zdk:(sizeLine:Nat)<2 ^ 63:=by rw[sizeLine_eq];decide
def tru_ok:TruR X (λx H Q=>∃k,TruV X.K x H k/\Q k H):=by
 intro pins s U H x v Q I rx h
 obtain⟨k,e,q⟩:=h
 have hl:=zdk
 have hs:sizeLine=16777216:=sizeLine_eq
 cases x with
 | non =>
  cases rx
  have e':k=false:=e
  subst e'
  exact truthy_none ⟨H,I,q⟩
 | bl b =>
  cases rx
  have e':k=b:=e
  subst e'
  exact Xa3 ⟨H,I,q⟩
 | int i =>
  obtain⟨t,rfl⟩:=rx
  have e':k=(i != 0):=e
  subst e'
  exact PySem.P.truthy_int ⟨H,I,q⟩
 | str y =>
  obtain⟨t,rfl⟩:=rx
  obtain⟨hy,e'⟩:y.length<=sizeLine/\k=((y.length:Int) != 0):=e
  subst e'
  exact PySem.P.truthy_str (by omega) {H,I.tok _,q}
 | byt y =>
  obtain⟨t,rfl⟩:=rx
  obtain⟨hy,e'⟩:y.size<=sizeLine/\k=((y.size:Int) != 0):=e
  subst e'
  exact W.truthy_bytes (by omega) {H,I.tok _,q}
 | ref p =>
  cases rx
  have e':(∃xs,SqL X.K H p xs/\k=!xs.isEmpty)\/(∃xs,SqT X.K H p xs/\k=!xs.isEmpty)\/∃kvs,H p=some (.dK kvs)/\k=!kvs.isEmpty:=e
  rcases e' with⟨xs,hx,e'⟩|⟨xs,hx,e'⟩|⟨kvs,hx,e'⟩
  .subst e'
   obtain⟨its,r,pl,hz⟩:=I.list hx
   have hlen:=r.length
   exact wpAny_truthy_list pl.isList (by simp only[Xaq];omega) {H,I.tok _,by rw[zex r];exact q}
  .subst e'
   obtain⟨its,r,pl,hz⟩:=I.tuple hx
   have hlen:=r.length
   exact truthy_tuple pl (by simp only[Xaq];omega) {H,I.tok _,by rw[zex r];exact q}
  .subst e'
   obtain⟨hz,hS,vs,r,m⟩:kvs.length<=sizeLine/\(p==sysModules)=false/\∃vs,KV kvs vs/\s.heap.DictOf (zaR X.prog X.w) p vs:=I.hok p _ hx
   have hlen:kvs.length=vs.length:=Paired.length r
   exact wpAny_truthy_dict hS m (by omega) {H,I.tok _,by rw[zhR r];exact q}
 | _=>exact(show False from e).elim
def zeQ(ha:PE X a ta)(he:∀whole,isTrue a X.env whole=(do let v <- whole;standAt a.pos;holding [v] (truthy v))) :
  PT X a (λU H Q=>ta U H λx H'=>∃k,TruV X.K x H' k/\Q k H'):=by
 intro pins s U H Q I h
 exact isTrue_plain (thn (ha pins s U H _ I h) λv s1 ⟨x,H1,I1,r1,q1⟩=>tru_ok pins s1 U H1 x v Q I1 r1 q1) (he _)
def zhA:OpR X (binaryOp .Add) (λx y H Q=>∃i j,x=.str i/\y=.str j/\i.length+j.length<=sizeLine/\Q (.str (i++j)) H):=by
 intro pins s U H x y v u Q I rx ry h
 obtain⟨i,j,rfl,rfl,hz,q⟩:=h
 obtain⟨t,rfl⟩:=rx
 obtain⟨t',rfl⟩:=ry
 exact add_str (λt' tk=>{.str (i++j),H,I.tok _,{_,O},q}) hz
def zbW{x:V}{us:List Value}(r:Vals [x] us):∃u,us=[u]/\RelV x u:=by
 cases r with
 | cons r1 r2=>cases r2;exact{_,O,r1}
def zff{x y:V}{us:List Value}(r:Vals [x,y] us):∃u w',us=[u,w']/\RelV x u/\RelV y w':=by
 cases r with
 | cons r1 r2 =>
  cases r2 with
  | cons r3 r4=>cases r4;exact{_,_,O,r1,r3}
def zjK(hc:X.calm=true):zbL X (.builtin "max") (λxs H Q=>∃i j,xs=[.int i,.int j]/\Q (.int (if j>i then j else i)) H):=by
 intro pins s U H xs us Q I r h
 obtain⟨i,j,rfl,q⟩:=h
 obtain⟨u,w',rfl,⟨t,rfl⟩,⟨t',rfl⟩⟩:=zff r
 refine max_two_ints (I.ok.hd hc) λh' tk k=>{_,H,I.kept k,?_,q}
 by_cases hj:j>i
 .rw[if_pos hj,if_pos hj];exact{_,O}
 .rw[if_neg hj,if_neg hj];exact{_,O}
def zjJ(hc:X.calm=true):zbL X (.builtin "min") (λxs H Q=>∃i j,xs=[.int i,.int j]/\Q (.int (if j<i then j else i)) H):=by
 intro pins s U H xs us Q I r h
 obtain⟨i,j,rfl,q⟩:=h
 obtain⟨u,w',rfl,⟨t,rfl⟩,⟨t',rfl⟩⟩:=zff r
 refine min_two_ints (I.ok.hd hc) λh' tk k=>{_,H,I.kept k,?_,q}
 by_cases hj:j<i
 .rw[if_pos hj,if_pos hj];exact{_,O}
 .rw[if_neg hj,if_neg hj];exact{_,O}
def zf0:zbL X (.type "int") (λxs H Q=>(∃i,xs=[.int i]/\Q (.int i) H)\/∃k,xs=[.bl k]/\Q (.int (if k then 1 else 0)) H):=by
 intro pins s U H xs us Q I r h
 rcases h with⟨i,rfl,q⟩|⟨k,rfl,q⟩
 .obtain⟨u,rfl,t,rfl⟩:=zbW r
  exact call_int_int {.int i,H,I,{_,O},q}
 .obtain⟨u,rfl,r1⟩:=zbW r
  cases r1
  exact call_int_bool {.int (if k then 1 else 0),H,I.tok _,{_,O},q}
end
structure ObjM(h:Heap)(x dx C:Addr)(mA:Str->Option Value):Prop where
 obj:h.get? x=some (W.instObj C dx)
 ns:h.Ns1 dx mA
 ne:dx≠x
set_option tactic.hygienic true in
def zcO{h:Heap}{dx:Addr}{mA:Str->Option Value}(n:h.Ns1 dx mA):∃od,h.get? dx=some od/\∀name,W.lookIn name od=some (mA name):=by
 obtain⟨o,es,ep,ho,hd,hk,_,hm⟩:=n
 refine{o,ho,λname=>?_}
 have e:=hm name
 unfold nsFind findBy at e
 rw[<- Array.find?_toList] at e
 unfold W.lookIn
 rw[hd]
 dsimp only
 split
 .rename_i y q
  rw[q] at e
  exact congrArg some e
 .rename_i q
  rw[q] at e
  have a:es.toList.any (·.refKey)=false:=by
   rw[List.any_eq_false]
   intro y hy
   obtain⟨z,t,hkey⟩:=hk y (Xbq.mp hy)
   simp[DictEntry.refKey,hkey]
  have a':¬ es.toList.any (·.refKey)=true:=by rw[a];exact Xaj
  rw[if_neg a']
  exact congrArg some e
def ObjM.look{h:Heap}{x dx C:Addr}{mA:Str->Option Value}(I:ObjM h x dx C mA):∃od,W.InstAt h x (W.instObj C dx) C (some od)/\∀name,W.lookIn name od=some (mA name):=
 let⟨od,ho,hl⟩:=zcO I.ns
 {od,⟨I.obj,O,O,ho⟩,hl}
section
variable{prog:Program}{w:World}{A:Around}{E:Value->Shared->Prop}{s:Shared}{K:W.Frag}{x dx C f:Addr}{mA:Str->Option Value}{name:Str}{v:Value}
def zmr{expr:Bool}{Q:Value->Shared->Prop}(X:K.In s.heap)(I:ObjM s.heap x dx C mA)(hg:W.plainGet K C name=true)(hh:W.hasDictIn K C=true)
  (ha:W.findIn K (.ref C) name=some none) (hv:mA name=some v) (hv':W.handedIn v=true) (h:Q v {s with toks:=s.toks+1}) :
  wpAny (model prog w) A (getAttr (.ref x) name expr) Q E s:=by
 obtain⟨od,J,hl⟩:=I.look
 exact W.get_value X J (W.plainGet_of hg).1 (W.findObj_own hh ha O (by rw[hl,hv])) hv' h
def zkM{pl:Sem Bool}{Q:Value×List Value->Shared->Prop}(X:K.In s.heap)(I:ObjM s.heap x dx C mA)(hg:W.plainGet K C name=true)
  (hf:W.findIn K (.ref C) name=some (some (.ref f))) (ht:W.isFn K (.ref f)=true) (hv:mA name=none) (h:Q (.ref f,[.ref x]) s) :
  wpAny (model prog w) A (getMethod (.ref x) name pl) Q E s:=by
 obtain⟨od,J,hl⟩:=I.look
 exact W.method_fn X J (W.plainGet_of hg).1 (W.plainGet_of hg).2 hf (beq_iff_eq.mp ht) (by show(W.lookIn name od).map (·.isSome)=some false;rw[hl,hv];rfl) h
def zlQ{ns:List Str}{Q:Unit->Shared->Prop}(X:K.In s.heap)(I:ObjM s.heap x dx C mA)
  (hs:W.findIn K (.ref C) "__setattr__"=some (some (.builtin "object.__setattr__"))) (hp:W.plainOver K C=true) (ht:W.takerIn K C name=some none) (hh:W.hasDictIn K C=true)
  (hw:PySem.Within mA ns) (hsz:ns.length<=sizeLine)
  (h:∀h',ObjM h' x dx C (λy=>if y=name then some v else mA y)->Heap.SameBut dx s.heap h'->Q () {s with heap:=h',toks:=s.toks+2}) :
  wpAny (model prog w) A (setAttr (.ref x) name v) Q E s:=by
 obtain⟨od,J,hl⟩:=I.look
 refine W.set_plain X J hs (W.osa_open (s:={s with toks:=s.toks+1}) (r:=none) X J hp ht λb=>?_)
 obtain⟨cd,hc,hd'⟩:=W.any_some hh
 have hx:s.heap.get? x=some ⟨.ref C,some dx,.plain,#[]⟩:=I.obj
 refine Xaa (Xac (Xaa (Xaa (wpAny_loadPart hx (Xaa (W.Looks.here (s:={s with toks:=s.toks+1}) (W.looks_clsIn X hc) ?_))))))
 rw[hd']
 refine Xac (a:=some dx) (Xaa (Xac (Xaa ?_)))
 refine wpAny_nsSet1 (s:={s with toks:=s.toks+1}) I.ns λh' hn2 hs2=>?_
 obtain⟨oD,esD,epD,hoD,hdD,hcD⟩:=hn2.count (PySem.Within.cons name v hw)
 refine Xaa (wpAny_lookBehind hoD (by rw[hdD];exact pastItsLine_dict (Xak hcD (by rw[Xar];omega))) ?_)
 exact Xac (h _ {(hs2.2 _ (Ne.symm I.ne)).trans I.obj,hn2,I.ne} hs2)
def zkz{R:Result->Shared->Prop}{vs:List Value}{kw:List (Str×Value)}(X:K.In s.heap)(hm:W.makesIn K C=true)
  (hi:W.findIn K (.ref C) "__init__"=some (some (.ref f))) (hf:W.typeIn K (.ref f)=some (.type "function"))
  (h:codeAny (model prog w) (A.under (.builtin "type.__call__" {.ref C::vs,kw})) (.call (.ref f) {.ref (s.heap.objs.size+1)::vs,kw}) (W.InitBack (s.heap.objs.size+1) R)
   {s with heap:=(s.heap.push W.emptyDict).push (W.instObj C s.heap.objs.size)}) :
  codeAny (model prog w) A (.call (.ref C) ⟨vs,kw⟩) R s:=by
 obtain⟨hh,g,d,t,os⟩:=s
 exact W.make_core (W.makes_of X hm) (W.looks_findIn X hi) (λself=>W.bind_fn X self hf) (.inl O) h
end
def putF(f:Str)(v:V):List (Str×V)->List (Str×V)
 | []=>[(f,v)]
 | (g,x)::r=>if g=f then(g,v)::r else(g,x)::putF f v r
def zcw(f g:Str)(v:V):∀fs:List (Str×V),(putF f v fs).lookup g=if g=f then some v else fs.lookup g
 | []=>by
  show List.lookup g [(f,v)]=_
  by_cases h:g=f
  .have hb:(g==f)=true:=beq_iff_eq.mpr h
   simp only[List.lookup,hb,if_pos h]
  .have hb:(g==f)=false:=beq_eq_false_iff_ne.mpr h
   simp only[List.lookup,hb,if_neg h]
 | (k,x)::r=>by
  have ih:=zcw f g v r
  rw[show putF f v ((k,x)::r)=(if k=f then(k,v)::r else(k,x)::putF f v r) from O]
  by_cases hk:k=f
  .rw[if_pos hk]
   by_cases h:g=k
   .have hb:(g==k)=true:=beq_iff_eq.mpr h
    simp only[List.lookup,hb,if_pos (h.trans hk)]
   .have hb:(g==k)=false:=beq_eq_false_iff_ne.mpr h
    simp only[List.lookup,hb,if_neg (λe:g=f=>h (e.trans hk.symm))]
  .rw[if_neg hk]
   by_cases h:g=k
   .have hb:(g==k)=true:=beq_iff_eq.mpr h
    simp only[List.lookup,hb,if_neg (λe:g=f=>hk (h.symm.trans e))]
   .have hb:(g==k)=false:=beq_eq_false_iff_ne.mpr h
    simp only[List.lookup,hb]
    exact ih
def zb4(f:Str)(v:V):∀fs:List (Str×V),f∈(putF f v fs).map (·.1)/\∀g,g∈fs.map (·.1)->g∈(putF f v fs).map (·.1)
 | []=>{by simp[putF],λg h=>by simp at h}
 | (k,x)::r=>by
  obtain⟨i1,i2⟩:=zb4 f v r
  rw[show putF f v ((k,x)::r)=(if k=f then(k,v)::r else(k,x)::putF f v r) from O]
  by_cases hk:k=f
  .rw[if_pos hk]
   subst hk
   exact{by simp,λg h=>by simpa using h}
  .rw[if_neg hk]
   refine{?_,λg h=>?_}
   .rw[XaR]
    exact Xau _ i1
   .rw[XaR] at h ⊢
    rcases Xan.mp h with e|e
    .exact Xan.mpr (.inl e)
    .exact Xau _ (i2 g e)
def zcx(f:Str)(v:V):∀fs:List (Str×V),(putF f v fs).length<=fs.length+1
 | []=>by simp[putF]
 | (k,x)::r=>by
  have ih:=zcx f v r
  rw[show putF f v ((k,x)::r)=(if k=f then(k,v)::r else(k,x)::putF f v r) from O]
  by_cases hk:k=f
  .rw[if_pos hk,Xar,Xar];omega
  .rw[if_neg hk,Xar,Xar];omega
def RelO.some_of{v:V}{o:Option Value}(r:RelO (some v) o):∃u,o=some u/\RelV v u:=by
 cases o with
 | none=>exact(show False from r).elim
 | some u=>exact⟨u,O,r⟩
def RelO.none_of{o:Option Value}(r:RelO none o):o=none:=by
 cases o with
 | none=>rfl
 | some u=>exact(show False from r).elim
def zfK{v:V}{u:Value}(r:RelV v u):W.handedIn u=true:=by
 cases v with
 | non=>cases(show u=Value.none from r);rfl
 | bl b=>cases(show u=Value.bool b from r);rfl
 | int i=>obtain⟨t,e⟩:=(show∃t,u=Value.int i t from r);cases e;rfl
 | str x=>obtain⟨t,e⟩:=(show∃t,u=Value.str x t from r);cases e;rfl
 | byt b=>obtain⟨t,e⟩:=(show∃t,u=Value.bytes b t from r);cases e;rfl
 | flt b=>obtain⟨t,e⟩:=(show∃t,u=Value.float b t from r);cases e;rfl
 | ref a=>cases(show u=Value.ref a from r);rfl
 | ty n=>cases(show u=Value.type n from r);rfl
section
variable{P:Program}{w:World}{H H':Hp}{h h':Heap}{a C dx:Addr}{fs fs':List (Str×V)}
def zeb(hok:HOk P w H h)(e:H a=some (.ins C dx fs)):∃mA,ObjM h a dx C mA/\(∀f,RelO (fs.lookup f) (mA f))/\PySem.Within mA (fs.map (·.1))/\fs.length<=1000/\H dx=some (.own a):=by
 obtain⟨d,z,ne,ob,mA,n,r,q⟩:=(show ObjOk P w H h a (.ins C dx fs) from hok a _ e)
 exact{mA,⟨ob,n,ne⟩,r,q,z,d}
end
structure Cls(K:W.Frag)(C:Addr):Prop where
 pg:W.plainGet K C Str.empty=true
 hd:W.hasDictIn K C=true
 po:W.plainOver K C=true
 sa:W.findIn K (.ref C) "__setattr__"=some (some (.builtin "object.__setattr__"))
def Cls.get{K:W.Frag}{C:Addr}(c:Cls K C)(f:Str):W.plainGet K C f=true:=c.pg
def NoAttr(K:W.Frag)(C:Addr)(f:Str):Prop:=W.findIn K (.ref C) f=some none
def NoAttr.taker{K:W.Frag}{C:Addr}{f:Str}(n:NoAttr K C f):W.takerIn K C f=some none:=by
 unfold W.takerIn
 rw[show W.findIn K (.ref C) f=some none from n]
 rfl
structure Meth(K:W.Frag)(C:Addr)(m:Str)(f:Addr):Prop where
 at_:W.findIn K (.ref C) m=some (some (.ref f))
 fn:W.isFn K (.ref f)=true
 kp:W.keepIn K (.ref f)=true
section
variable{X:Cx}{pins:List (Addr×Obj)}{U:St}{H:Hp}{s:Shared}{a C dx:Addr}{fs:List (Str×V)}{f:Str}{v:V}{A:Around}{E:Value->Shared->Prop}
def zez{b:Bool}{Q:Value->Shared->Prop}(I:Inv X pins U H s)(e:H a=some (.ins C dx fs))(c:Cls X.K C)(n:NoAttr X.K C f)(l:fs.lookup f=some v)
  (h:∀u s',Inv X pins U H s'->RelV v u->Q u s'):wpAny (model X.prog X.w) A (getAttr (.ref a) f b) Q E s:=by
 obtain⟨mA,O9,r,_,_,_⟩:=zeb I.hok e
 obtain⟨u,hu,ru⟩:=RelO.some_of (v:=v) (o:=mA f) (by rw[<- l];exact r f)
 exact zmr I.kIn O9 (c.get f) c.hd n hu (zfK ru) (h u _ (I.tok _) ru)
def zey{m:Str}{g:Addr}{pl:Sem Bool}{Q:Value×List Value->Shared->Prop}(I:Inv X pins U H s)(e:H a=some (.ins C dx fs))(c:Cls X.K C)(k:Meth X.K C m g)(l:fs.lookup m=none)
  (h:Q (.ref g,[.ref a]) s):wpAny (model X.prog X.w) A (getMethod (.ref a) m pl) Q E s:=by
 obtain⟨mA,O9,r,_,_,_⟩:=zeb I.hok e
 have hn:mA m=none:=RelO.none_of (by rw[<- l];exact r m)
 exact zkM I.kIn O9 (c.get m) k.at_ k.fn hn h
def zeu{y:V}{u:Value}{Q:Unit->Shared->Prop}(I:Inv X pins U H s)(e:H a=some (.ins C dx fs))(c:Cls X.K C)(n:NoAttr X.K C f)(hl:fs.length<1000)(ry:RelV y u)
  (h:∀s',Inv X pins U (upd H a (.ins C dx (putF f y fs))) s'->Q () s'):wpAny (model X.prog X.w) A (setAttr (.ref a) f u) Q E s:=by
 obtain⟨mA,O9,r,wi,_,ho⟩:=zeb I.hok e
 have hz:(fs.map (·.1)).length<=sizeLine:=by rw[Xaf,sizeLine_eq];omega
 refine zlQ I.kIn O9 c.sa c.po n.taker c.hd wi hz λh' O' sb=>h _ ?_
 have hd:∃o,h'.get? dx=some o:=let⟨o,_,_,e',_⟩:=O'.ns;⟨o,e'⟩
 refine I.write (x:=a) (e:=dx) (by rw[e];exact True.intro) (.inr ho) (λb q hb z=>(sb.2 b hb).trans z) hd ?_
 refine{by rw[zah O9.ne];exact ho,?_,O9.ne,O'.obj,_,O'.ns,λg=>?_,λg hg=>?_}
 .have:=zcx f y fs;omega
 .show RelO ((putF f y fs).lookup g) (if g=f then some u else mA g)
  rw[zcw]
  by_cases q:g=f
  .rw[if_pos q,if_pos q];exact ry
  .rw[if_neg q,if_neg q];exact r g
 .by_cases q:g=f
  .rw[q];exact(zb4 f y fs).1
  .refine(zb4 f y fs).2 g (wi g λz=>hg ?_)
   show(if g=f then some u else mA g)=none
   rw[if_neg q];exact z
def Inv.made(I:Inv X pins U H s):Inv X pins U (upd (upd H s.heap.objs.size (.own (s.heap.objs.size+1))) (s.heap.objs.size+1) (.ins C s.heap.objs.size []))
  {s with heap:=(s.heap.push W.emptyDict).push (W.instObj C s.heap.objs.size)}:=by
 have e1:(s.heap.push W.emptyDict).get? s.heap.objs.size=some W.emptyDict:=Xag s.heap O
 have e2:((s.heap.push W.emptyDict).push (W.instObj C s.heap.objs.size)).get? (s.heap.objs.size+1)=some (W.instObj C s.heap.objs.size):=by
  have:=Xag (s.heap.push W.emptyDict) (o:=W.instObj C s.heap.objs.size) O
  rwa [XaC] at this
 have e3:(s.heap.push W.emptyDict).Ns s.heap.objs.size (λ_=>none):={W.emptyDict,#[],_,e1,O,(λe he=>absurd he (by simp)),λ_=>O}
 have I1:=I.laid (a:=s.heap.objs.size) (o:=.own (s.heap.objs.size+1)) (h':=s.heap.push W.emptyDict) (t':=s.toks) (λb u q=>Xab _ q) (Xad _) {_,e1}
 refine I1.laid (a:=s.heap.objs.size+1) (o:=.ins C s.heap.objs.size []) (t':=s.toks) (λb u q=>Xab _ q) (Nat.le_of_eq (XaC _ _)) ?_
 have ne:s.heap.objs.size≠s.heap.objs.size+1:=Xay (Xbm _)
 refine{by rw[zah ne,zac],Nat.zero_le _,ne,e2,λ_=>none,(Heap.Ns1.of_empty e3).at λo q=>Xab _ q,λ_=>True.intro,λy hy=>absurd O hy}
def zjQ{prog:Program}{w:World}{env:Env}{e:Expr}{f:Str}{pos:Pos}{s:Shared}{Q:Value->Shared->Prop}(hb:attributeBase e f env (eval e env)=eval e env)
  (h:wpAny (model prog w) A (eval e env) (λo s₁=>wpAny (model prog w) A (getAttr o f true) Q E s₁) E s):wpAny (model prog w) A (eval (.Attribute e f pos) env) Q E s:=
 Attribute_any_ h (by rw[arm_eval_Attribute,hb])
end
inductive tFld_1(K:W.Frag)(f:Str)(Q:VK)(x:V)(H1:Hp):Prop
 | mk a C dx fs v(_:x=.ref a)(_:H1 a=some (.ins C dx fs))(_:Cls K C)(_:NoAttr K C f)(_:fs.lookup f=some v)(_:Q v H1)
def tFld(K:W.Frag)(ta:TE)(f:Str):TE:=λU H Q=>ta U H (tFld_1 K f Q)
inductive sFld_1(K:W.Frag)(f:Str)(D:Ends)(U:St)(y:V)(x:V)(H2:Hp):Prop
 | mk a C dx fs(_:x=.ref a)(_:H2 a=some (.ins C dx fs))(_:Cls K C)(_:NoAttr K C f)(_:fs.length<1000)(_:D.nx U (upd H2 a (.ins C dx (putF f y fs))))
def sFld(K:W.Frag)(ta tv:TE)(f:Str):TS:=λD U H=>tv U H λy H1=>ta U H1 (sFld_1 K f D U y)
def InOp(X:Cx)(op:Operator)(rd:V->V->Hp->VK->Prop):Prop:=
 ∀(pins:List (Addr×Obj)) (s:Shared) (U:St) (H:Hp) (x y:V) (u v:Value) (Q:VK),Inv X pins U H s->RelV x u->RelV y v->rd x y H Q->wpAny (model X.prog X.w) X.A (inplaceOp op u v) (EP X pins U Q) X.xe s
def zlT(K:W.Frag)(ta tv:TE)(rd:V->V->Hp->VK->Prop)(f:Str):TS:=λD U H=>ta U H λx H1=>∃a C dx fs v,x=.ref a/\H1 a=some (.ins C dx fs)/\Cls K C/\NoAttr K C f/\fs.lookup f=some v /\
 tv U H1 λy H2=>rd v y H2 λz H3=>∃dx' fs',H3 a=some (.ins C dx' fs')/\fs'.length<1000/\D.nx U (upd H3 a (.ins C dx' (putF f z fs')))
section
variable{X:Cx}{o e value:Expr}{f:Str}{pos pos' tpos:Pos}{ta tv:TE}
def zcg(he:PE X e ta)(hb:attributeBase e f X.env (eval e X.env)=eval e X.env):PE X (.Attribute e f pos) (tFld X.K ta f):=by
 intro pins s U H Q I h
 refine zjQ hb (thn (he pins s U H _ I h) λu s1 hh_=>?_)
 obtain⟨x,H1,I1,rx,a,C,dx,fs,v,ex,ea,c,n,l,q⟩:=hh_
 subst ex
 obtain rfl:u=Value.ref a:=rx
 exact zez I1 ea c n l λu' s2 I2 ru=>⟨v,H1,I2,ru,q⟩
def zbp(ha:PE X o ta)(hv:PE X value tv)(hs:swapsWith value (some (.Attribute o f pos')) pos.line X.env=pure false):PS X (.Assign [.Attribute o f pos'] value pos) (sFld X.K ta tv f):=by
 intro pins s U H D I h
 refine plainObj_wpAny_Assign_Attribute (thn (hv pins s U H _ I h) λu s1 ⟨y,H1,I1,ry,q⟩=>thn (ha pins s1 U H1 _ I1 q) λov s2 hh_=>?_) hs
 obtain⟨x,H2,I2,rx,a,C,dx,fs,ex,ea,c,n,l,q2⟩:=hh_
 subst ex
 obtain rfl:ov=Value.ref a:=rx
 exact zeu I2 ea c n l ry λs3 I3=>{U,_,I3,q2}
def ziO{op:Operator}{rd:V->V->Hp->VK->Prop}(ha:PE X o ta)(hv:PE X value tv)(hop:InOp X op rd):PS X (.AugAssign (.Attribute o f tpos) op value pos) (zlT X.K ta tv rd f):=by
 intro pins s U H D I h
 refine wpAny_AugAssign_AttributeAny (thn (ha pins s U H _ I h) λov s1 hh_=>?_)
 obtain⟨x,H1,I1,rx,a,C,dx,fs,v,ex,ea,c,n,l,q⟩:=hh_
 subst ex
 obtain rfl:ov=Value.ref a:=rx
 refine zez I1 ea c n l λu s2 I2 ru=>thn (hv pins s2 U H1 _ I2 q) λw3 s3 ⟨y,H2,I3,ry,q3⟩=>thn (hop pins s3 U H2 v y u w3 _ I3 ru ry q3) λw4 s4 hh_=>?_
 obtain⟨z,H3,I4,rz,dx',fs',ea',l',q4⟩:=hh_
 exact zeu I4 ea' c n l' rz λs5 I5=>{U,_,I5,q4}
inductive rAdd(x:V)(y:V)(H:Hp)(Q:VK):Prop
 | mk i j(_:x=.int i)(_:y=.int j)(_:Q (.int (i+j)) H)
def in_add:InOp X .Add rAdd:=by
 rintro pins s U H x y u v Q I rx ry ⟨i,j,rfl,rfl,q⟩
 obtain⟨t,rfl⟩:=(show∃t,u=Value.int i t from rx)
 obtain⟨t',rfl⟩:=(show∃t',v=Value.int j t' from ry)
 exact PyProof.Rows.iadd_int {.int (i+j),H,I.tok _,{_,O},q}
end
section
variable{X:Cx}{pins:List (Addr×Obj)}{U:St}{H:Hp}{s:Shared}{A:Around}{E:Value->Shared->Prop}{Q:Value->Shared->Prop}{c:Value}{b:Bool}
inductive TyOf(K:W.Frag)(H:Hp):V->Value->Prop where
 | non:TyOf K H .non (.type "NoneType")
 | bl (x:Bool):TyOf K H (.bl x) (.type "bool")
 | int (i:Int):TyOf K H (.int i) (.type "int")
 | str (x:Str):TyOf K H (.str x) (.type "str")
 | flt (x:UInt64):TyOf K H (.flt x) (.type "float")
 | lst {a:Addr} {xs:List V} (e:H a=some (.lst xs)):TyOf K H (.ref a) (.type "list")
 | frz {a:Addr} {o:Obj} {xs:List V} (e:H a=some (.frz o (.lst xs))):TyOf K H (.ref a) (.type "list")
 | tup {a:Addr} {xs:List V} (e:H a=some (.tup xs)):TyOf K H (.ref a) (.type "tuple")
 | dK {a:Addr} {kvs:List (Key×V)} (e:H a=some (.dK kvs)):TyOf K H (.ref a) (.type "dict")
 | dT {a:Addr} {kvs:List (List Key×V)} (e:H a=some (.dT kvs)):TyOf K H (.ref a) (.type "dict")
 | ins {a C dx:Addr} {fs:List (Str×V)} (e:H a=some (.ins C dx fs)) (cl:Cls K C) (ha:W.findIn K (.ref C) "__class__"=some (some (.builtin "object.__class__")))
   (hn:W.specialIn K (.builtin "object.__class__") "__get__"=some (some (.builtin "getset_descriptor.__get__"))) (htk:W.takesIn K (.builtin "object.__class__")=some true)
   (hm:W.mroIn K C (.type "object")=some true):TyOf K H (.ref a) (.ref C)
def zfI{x:V}{u t:Value}(I:Inv X pins U H s)(rx:RelV x u)(ty:TyOf X.K H x t)(e:W.kitOne X.K t c=some b)(h:∀tk,Q (.bool b) {s with toks:=tk}) :
  wpAny (model X.prog X.w) A (call (.builtin "isinstance") [u,c]) Q E s:=by
 cases ty with
 | non=>cases(show u=Value.none from rx);exact W.kia_one W.kitx_none I.kIn True.intro e (λz=>nomatch z) h
 | bl y=>cases(show u=Value.bool y from rx);exact W.kia_one W.kitx_bool I.kIn True.intro e (λz=>nomatch z) h
 | int i=>obtain⟨t,q⟩:=(show∃t,u=Value.int i t from rx);cases q;exact W.kia_one W.kitx_int I.kIn True.intro e (λz=>nomatch z) h
 | str y=>obtain⟨t,q⟩:=(show∃t,u=Value.str y t from rx);cases q;exact W.kia_one W.kitx_str I.kIn True.intro e (λz=>nomatch z) h
 | flt y=>obtain⟨t,q⟩:=(show∃t,u=Value.float y t from rx);cases q;exact W.kia_one W.kitx_float I.kIn True.intro e (λz=>nomatch z) h
 | @lst a xs ea =>
  cases(show u=Value.ref a from rx)
  obtain⟨_,_,n,_,h1⟩:=(show ObjOk X.prog X.w H s.heap a (.lst xs) from I.hok a _ ea)
  exact W.kia_one W.kitx_list I.kIn {_,h1,O} e (λz=>nomatch z) h
 | @frz a ob xs ea =>
  cases(show u=Value.ref a from rx)
  obtain⟨_,_,_,n,_,h1⟩:=(show ObjOk X.prog X.w H s.heap a (.frz ob (.lst xs)) from I.hok a _ ea)
  exact W.kia_one W.kitx_list I.kIn {_,h1,O} e (λz=>nomatch z) h
 | @tup a xs ea =>
  cases(show u=Value.ref a from rx)
  obtain⟨_,_,_,p⟩:=(show ObjOk X.prog X.w H s.heap a (.tup xs) from I.hok a _ ea)
  obtain⟨o,h1,h2,_⟩:=p
  exact W.kia_one W.kitx_tuple I.kIn ⟨o,h1,h2⟩ e (λz=>nomatch z) h
 | @dK a kvs ea =>
  cases(show u=Value.ref a from rx)
  obtain⟨_,_,vs,_,p⟩:=(show ObjOk X.prog X.w H s.heap a (.dK kvs) from I.hok a _ ea)
  obtain⟨o,es,ep,h1,h2,_⟩:=p
  exact W.kia_one W.kitx_dict I.kIn ⟨o,h1,h2.1⟩ e (λz=>nomatch z) h
 | @dT a kvs ea =>
  cases(show u=Value.ref a from rx)
  obtain⟨_,_,xs,_,o,es,ep,h1,h2,_⟩:=(show ObjOk X.prog X.w H s.heap a (.dT kvs) from I.hok a _ ea)
  exact W.kia_one W.kitx_dict I.kIn ⟨o,h1,h2.1⟩ e (λz=>nomatch z) h
 | @ins a C dx fs ea cl ha hn htk hm =>
  cases(show u=Value.ref a from rx)
  obtain⟨mA,O9,_⟩:=zeb I.hok ea
  obtain⟨od,J,_⟩:=O9.look
  exact W.kia_one (W.kitx_own (cl.get _) cl.hd ha hn htk hm) I.kIn J e (λz=>nomatch z) h
end
structure Room(k:Nat)(A:Around):Prop where
 hd:A.handled=none
 dp:A.depth+3*k+5<recursionLimit
 un:A.units+16*k+200<cLine
 gd:A.guards=some []
def Room.mono{j k:Nat}{A:Around}(r:Room k A)(h:j<=k):Room j A:={r.hd,by have:=r.dp;omega,by have:=r.un;omega,r.gd}
def Room.deeper{k:Nat}{A:Around}(r:Room (k+1) A)(env:Env):Room k (A.deeper env):=
 {r.hd,by have:=r.dp;show A.depth+1+3*k+5<_;omega,by have:=r.un;show A.units+3+16*k+200<_;omega,r.gd}
def Room.in1{k:Nat}{A:Around}(r:Room (k+1) A):Room k A.in1:=
 {r.hd,by have:=r.dp;show A.depth+3*k+5<_;omega,by have:=r.un;show A.units+1+16*k+200<_;omega,r.gd}
def zhL{A:Around}{C:Addr}{us:List Value}{kw:List (Str×Value)}:(A.under (.builtin "type.__call__" {.ref C::us,kw})).depth=A.depth+1:=by
 first|rfl|simp[Around.under,Code.weight,Code.isCreation,Code.isGuard,Code.isCaller,Code.frames,Code.isFrame,guardIds]
def zhK{A:Around}{C:Addr}{us:List Value}{kw:List (Str×Value)}:(A.under (.builtin "type.__call__" {.ref C::us,kw})).units=A.units+1:=by
 first|rfl|simp[Around.under,Code.cUnits,Code.frames,Code.isFrame]
def zgC{A:Around}{C:Addr}{us:List Value}{kw:List (Str×Value)}(h:A.guards=some []):(A.under (.builtin "type.__call__" {.ref C::us,kw})).guards=some []:=by
 have hc:(Code.builtin "type.__call__" ⟨Value.ref C::us,kw⟩).guards=[]:=by
  first|rfl|(simp[Code.guards,Code.isGuard,guardIds];done)|(unfold Code.guards;rw[if_neg];decide +kernel)|skip
 simp only[Around.under,h,hc]
 rfl
def Room.make{k:Nat}{A:Around}(r:Room (k+1) A)(C:Addr)(us:List Value)(kw:List (Str×Value)):Room k (A.under (.builtin "type.__call__" {.ref C::us,kw})):=
 {r.hd,by have:=r.dp;rw[zhL];omega,by have:=r.un;rw[zhK];omega,zgC r.gd}
def Room.depth{k:Nat}{A:Around}(r:Room k A):A.depth<recursionLimit:=by have:=r.dp;omega
def Room.units{k:Nat}{A:Around}(r:Room k A):A.units+64<cLine:=by have:=r.un;omega
def tNil:TA:=λ_ H Q=>Q [] H
def tCons(ta:TE)(tr:TA):TA:=λU H Q=>ta U H λx H1=>tr U H1 λxs H2=>Q (x::xs) H2
section
variable{X:Cx}{e:Expr}{es:List Expr}{te:TE}{t:TA}{pos:Pos}
def zab:PA X [] tNil:=λ_ _ _ _ H Q I h=>Calls.spliced_nil {[],H,I,.nil,h}
def zaa(ha:PE X e te)(hr:PA X es t)(hs:starEach (e::es) X.env=(false,eval e X.env)::starEach es X.env:=by rfl):PA X (e::es) (tCons te t):=by
 intro pos pins s U H Q I h
 rw[hs]
 show wpAny _ _ (spliced ((false,eval e X.env)::backTo pos (starEach es X.env))) _ _ s
 refine Calls.spliced_cons (thn (ha pins s U H _ I h) λu s1 hh_=>?_)
 obtain⟨x,H1,I1,r1,q1⟩:=hh_
 exact thn (hr pos pins s1 U H1 _ I1 q1) λus s2 ⟨xs,H2,I2,r2,q2⟩=>{x::xs,H2,I2,.cons r1 r2,q2}
def tTup(t:TA):TE:=λU H Q=>t U H λxs H1=>xs.length<=sizeLine/\∀p,H1 p=none->Q (.ref p) (upd H1 p (.tup xs))
def tLst(t:TA):TE:=λU H Q=>t U H λxs H1=>xs.length<=sizeLine/\∀p,H1 p=none->Q (.ref p) (upd H1 p (.lst xs))
def zaX{x1}(h:PA X es t):PE X (.Tuple es x1 pos) (tTup t):=by
 intro pins s U H Q I hq
 refine wpAny_Tuple_spliced (thn (h pos pins s U H _ I hq) λus s1 ⟨xs,H1,I1,r,z,q⟩=>{by rw[<- r.length];exact z,?_})
 have hf:H1 s1.heap.objs.size=none:=I1.hok.fresh (Xad _)
 refine{.ref s1.heap.objs.size,upd H1 s1.heap.objs.size (.tup xs),I1.laid (t':=s1.toks) (λb u e=>Xab _ e) (Xad _) ?_,O,q _ hf}
 exact{{z,_,Xag _ O,O},us,r,{_,Xag _ O,O,_,O}}
def zax(h:PA X es t):PE X (.List es pos) (tLst t):=by
 intro pins s U H Q I hq
 refine wpAny_List_spliced (thn (h pos pins s U H _ I hq) λus s1 ⟨xs,H1,I1,r,z,q⟩=>{by rw[<- r.length];exact z,?_})
 have hf:H1 s1.heap.objs.size=none:=I1.hok.fresh (Xad _)
 refine{.ref s1.heap.objs.size,upd H1 s1.heap.objs.size (.lst xs),I1.laid (t':=s1.toks) (λb u e=>Xab _ e) (Xad _) ?_,O,q _ hf}
 exact{z,us,0,r,Xag _ O}
end
abbrev Sp:=List V->Hp->VK->XK->Prop
abbrev CXT:=List Env->Hp->Shared->XK->Value->Shared->Prop
structure Env0(P:Program)(w:World)(K:W.Frag)(mg:Str->Option Value)(base:Heap)(A:Around)(outer:List Env)(s:Shared)(H:Hp):Prop where
 frames:A.frames=some outer
 mod:Mod K mg base
 bs:∀b o,base.get? b=some o->s.heap.get? b=some o/\H b=none
 bsz:base.objs.size<=s.heap.objs.size
 funs:s.heap.FunFrames base outer
 frf:∀b∈frs outer,H b=none
 hok:HOk P w H s.heap
 bare:AllBare s.gens
def CE(outer:List Env)(P:Program)(w:World)(H:Hp)(s:Shared)(Q:VK)(u:Value)(s':Shared):Prop:=
 ∃v H',s'.os=s.os/\AllBare s'.gens/\Un (frs outer) [] H H' s.heap s'.heap/\HOk P w H' s'.heap/\RelV v u/\Q v H'
def CR(CX:CXT)(outer:List Env)(P:Program)(w:World)(H:Hp)(s:Shared)(Q:VK)(E:XK)(r:Result)(s':Shared):Prop:=
 match r with
 | .ok (.ret u)=>CE outer P w H s Q u s'
 | .ok _=>False
 | .error e=>CX outer H s E e s'
structure FnOk(P:Program)(w:World)(K:W.Frag)(mg:Str->Option Value)(base:Heap)(CX:CXT)(k:Nat)(f:Addr)(fd:FuncData)(ps:List Str)(sp:Sp):Prop where
 len:∀vs H Q E,sp vs H Q E->vs.length=ps.length
 run:∀(A:Around) (outer:List Env) (s:Shared) (H:Hp) (args:Args) (us:List Value) (vs:List V) (Q:VK) (E:XK),Room k A->Env0 P w K mg base A outer s H->BindsTo s fd args (ps.zip us)->Vals vs us->sp vs H Q E ->
  codeAny (model P w) A (.call (.ref f) args) (CR CX outer P w H s Q E) s
def Env0.make{P:Program}{w:World}{K:W.Frag}{mg:Str->Option Value}{base:Heap}{A:Around}{outer:List Env}{s:Shared}{H:Hp}(e:Env0 P w K mg base A outer s H)(C:Addr)(us:List Value)(kw:List (Str×Value)) :
  Env0 P w K mg base (A.under (.builtin "type.__call__" {.ref C::us,kw})) outer s H:={by first|exact e.frames|(simpa[Around.under,Code.envs,Code.isFrame,pushEnvs] using e.frames),e.mod,e.bs,e.bsz,e.funs,e.frf,e.hok,e.bare}
def Env0.in1{P:Program}{w:World}{K:W.Frag}{mg:Str->Option Value}{base:Heap}{A:Around}{outer:List Env}{s:Shared}{H:Hp}(e:Env0 P w K mg base A outer s H) :
  Env0 P w K mg base A.in1 outer s H:=⟨e.frames,e.mod,e.bs,e.bsz,e.funs,e.frf,e.hok,e.bare⟩
section
variable{X:Cx}{pins:List (Addr×Obj)}{U:St}{H:Hp}{s s':Shared}
def Inv.env0(I:Inv X pins U H s):Env0 X.prog X.w X.K X.mg X.base X.A X.stack s H:=
 {I.ok.frames,I.ok.mod,I.bs,Xak I.ok.bsz I.sz,I.stack,I.stkFree,I.hok,I.bare}
def Inv.after{Q:VK}{u:Value}(I:Inv X pins U H s)(h:CE X.stack X.prog X.w H s Q u s'):EP X pins U Q u s':=by
 obtain⟨v,H',os,bare,un,hok,r,q⟩:=h
 obtain⟨hh,g,d,t,os'⟩:=s'
 obtain rfl:os'=s.os:=os
 exact{v,H',I.call (h':=hh) (g':=g) (d':=d) (t':=t) (ch:=[]) un hok bare (λb z=>absurd z (by simp)),r,q}
end
def zj2(sp:Sp)(dvs:List V)(E:XK)(t:TA):TE:=λU H Q=>t U H λvs H1=>sp (vs++dvs) H1 Q E
def Binds(K:W.Frag)(fd:FuncData)(ps:List Str)(ds:List Value):Prop:=
 ∀(s:Shared) (us:List Value),K.In s.heap->(us++ds).length=ps.length->BindsTo s fd {us,[]} (ps.zip (us++ds))
def Binds.all{K:W.Frag}{fd:FuncData}{ps:List Str}(h:∀us:List Value,us.length=ps.length->bindArgs fd {us,[]}=pure (ps.zip us)):Binds K fd ps []:=λs us _ hl=>by
 rw[XbF] at hl ⊢
 exact .of_eq (h us hl)
def Passes(CX:CXT)(X:Cx)(E:XK):Prop:=∀(pins:List (Addr×Obj)) (U:St) (H:Hp) (s:Shared) (e:Value) (s':Shared),Inv X pins U H s->CX X.stack H s E e s'->X.xe e s'
section
variable{X:Cx}{CX:CXT}{k:Nat}{f C:Addr}{fd:FuncData}{ps:List Str}{sp:Sp}{dvs:List V}{ds:List Value}{E:XK}{x m:Str}{p pos apos:Pos}{e o:Expr}{es:List Expr}{ta:TE}{t:TA}
def zlb{pins:List (Addr×Obj)}{U:St}{H:Hp}{s:Shared}{Q:VK}{us:List Value}{vs:List V}(F:FnOk X.prog X.w X.K X.mg X.base CX k f fd ps sp)(hr:Room k X.A)(hb:Binds X.K fd ps ds)(hd:Vals dvs ds)(hx:Passes CX X E)
  (I:Inv X pins U H s) (r:Vals vs us) (h:sp (vs++dvs) H Q E):wpAny (model X.prog X.w) X.A (call (.ref f) us) (EP X pins U Q) X.xe s:=by
 have r2:Vals (vs++dvs) (us++ds):=r.append hd
 have hl:(us++ds).length=ps.length:=by rw[<- r2.length];exact F.len _ _ _ _ h
 refine Xbr (Xbj (F.run X.A X.stack s H {us,[]} (us++ds) (vs++dvs) Q E hr I.env0 (hb s us I.kIn hl) r2 h) λr s' hq=>?_)
 cases r with
 | error e=>exact hx pins U H s e s' I hq
 | ok fl =>
  cases fl with
  | ret u=>exact I.after hq
  | next=>exact False.elim hq
  | brk=>exact False.elim hq
  | cont=>exact False.elim hq
def zma(F:FnOk X.prog X.w X.K X.mg X.base CX k f fd ps sp)(hr:Room k X.A)(hg:Gl X x)(hm:X.mg x=some (.ref f))(hk:W.keepIn X.K (.ref f)=true)(hb:Binds X.K fd ps ds)(hd:Vals dvs ds)(hx:Passes CX X E)
  (ha:PA X (e::es) t) (hdb:(x==("__debug__" : Str))=false:=by decide) (he:starEach (e::es) X.env=(false,eval e X.env)::starEach es X.env:=by rfl) (hpl:(backTo pos (starEach es X.env)).any (·.1)=false:=by rfl) :
  PE X (.Call (.Name x p) (e::es) [] pos) (zj2 sp dvs E t):=by
 intro pins s U H Q I h
 refine Xbf (zbF I hg hm ?_ hdb)
 refine W.callWith_K (h₀:=X.base) I.ok.mod.kin hk (thn (ha pos pins s U H _ I h) λus s1 ⟨vs,H1,I1,r,q⟩=>{I1.kIn,?_}) he hpl
 exact zlb F hr hb hd hx I1 r q
structure Mk(K:W.Frag)(C f:Addr):Prop where
 makes:W.makesIn K C=true
 init:W.findIn K (.ref C) "__init__"=some (some (.ref f))
 fn:W.isFn K (.ref f)=true
 kp:W.keepIn K (.ref C)=true
end
def PK(X:Cx)(kws:List Keyword)(t:TA):Prop:=
 ∀(pos:Pos) (pins:List (Addr×Obj)) (s:Shared) (U:St) (H:Hp) (Q:List V->Hp->Prop),Inv X pins U H s->t U H Q->wpAny (model X.prog X.w) X.A (evalAll ((backToKw pos (keywordEach kws X.env)).map (·.2))) (AP X pins U Q) X.xe s
section
variable{X:Cx}{CX:CXT}{k:Nat}{f C:Addr}{fd:FuncData}{ps ks:List Str}{sp:Sp}{E:XK}{x m:Str}{p pos apos kpos:Pos}{e o:Expr}{es:List Expr}{kws:List Keyword}{te ta:TE}{t tk:TA}{nm:Option Str}
def pk_nil:PK X [] tNil:=λ_ _ _ _ H Q I h=>wpAny_evalAll_nil {[],H,I,.nil,h}
def zl0(ha:PE X e te)(hr:PK X kws t):PK X (⟨nm,e,kpos⟩::kws) (tCons te t):=by
 intro pos pins s U H Q I h
 show wpAny _ _ (evalAll ((do let v <- eval e X.env;standAt pos;pure v)::(backToKw pos (keywordEach kws X.env)).map (·.2))) _ _ s
 refine wpAny_evalAll_cons (Xaa (thn (ha pins s U H _ I h) λu s1 ⟨x,H1,I1,r1,q1⟩=>Xaa (Xa9 (Xac ?_))))
 exact thn (hr pos pins s1 U H1 _ I1 q1) λus s2 ⟨xs,H2,I2,r2,q2⟩=>{x::xs,H2,I2,.cons r1 r2,q2}
structure KBinds(K:W.Frag)(fd:FuncData)(ps ks:List Str)(g:List Value->List Value->List Value)(gV:List V->List V->List V):Prop where
 to:∀(s:Shared) (us ws:List Value),K.In s.heap->(g us ws).length=ps.length->BindsTo s fd {us,ks.zip ws} (ps.zip (g us ws))
 rel:∀{vs:List V} {us:List Value} {zs:List V} {ws:List Value},Vals vs us->Vals zs ws->Vals (gV vs zs) (g us ws)
variable{g:List Value->List Value->List Value}{gV:List V->List V->List V}
def ziD{pins:List (Addr×Obj)}{U:St}{H:Hp}{s:Shared}{Q:VK}{us ws:List Value}{vs zs:List V}(F:FnOk X.prog X.w X.K X.mg X.base CX k f fd ps sp)(hr:Room k X.A)(hb:KBinds X.K fd ps ks g gV)(hx:Passes CX X E)
  (I:Inv X pins U H s) (r:Vals vs us) (rz:Vals zs ws) (h:sp (gV vs zs) H Q E):wpAny (model X.prog X.w) X.A (call (.ref f) us (ks.zip ws)) (EP X pins U Q) X.xe s:=by
 have r2:=hb.rel r rz
 have hl:(g us ws).length=ps.length:=by rw[<- r2.length];exact F.len _ _ _ _ h
 refine Xbr (Xbj (F.run X.A X.stack s H {us,ks.zip ws} (g us ws) (gV vs zs) Q E hr I.env0 (hb.to s us ws I.kIn hl) r2 h) λr s' hq=>?_)
 cases r with
 | error e=>exact hx pins U H s e s' I hq
 | ok fl =>
  cases fl with
  | ret u=>exact I.after hq
  | next=>exact False.elim hq
  | brk=>exact False.elim hq
  | cont=>exact False.elim hq
end
structure FnScope(N P:List Str)(sc:Scope):Prop where
 kind:sc.kind=.function
 co:sc.isCoroutine=false
 gen:sc.isGenerator=false
 nd:N.Nodup
 pre:N.take P.length=P
 par:∀x∈P,sc.names.lookup x=some .local\/sc.names.lookup x=some .cell
 nofree:∀y∈sc.names,y.2≠.free
def zf3{kindOf:Str->Option NameKind}{x:Str}:∀{binds:List (Str×Value)} {m:Str->Option Value},(∀v,(x,v)∉binds)->bindL kindOf binds m x=m x
 | [],_,_=>rfl
 | (n,v)::r,m,h=>by
  unfold bindL
  rw[zf3 λw hw=>h w (Xau _ hw)]
  split
  .have:x≠n:=by rintro rfl;exact h v Xat
   simp[this]
  .rfl
def zf5{kindOf:Str->Option NameKind}{x:Str}:∀{binds:List (Str×Value)} {m:Str->Option Value},(∀v,(x,v)∉binds)->bindC kindOf binds m x=m x
 | [],_,_=>rfl
 | (n,v)::r,m,h=>by
  unfold bindC
  rw[zf5 λw hw=>h w (Xau _ hw)]
  split
  .rfl
  .have:x≠n:=by rintro rfl;exact h v Xat
   simp[this]
def zf4{kindOf:Str->Option NameKind}{x:Str}{v:Value}:∀{P:List Str} {vs:List Value} {i:Nat} {m:Str->Option Value},P.Nodup->P[i]?=some x->vs[i]?=some v->kindOf x=some .local ->
  bindL kindOf (P.zip vs) m x=some v
 | [],_,_,_,_,h,_,_=>by simp at h
 | _::_,[],_,_,_,_,h,_=>by simp at h
 | p::P,w::vs,0,m,nd,h1,h2,hk=>by
  simp at h1 h2;subst h1;subst h2
  show bindL kindOf ((p,w)::P.zip vs) m p=_
  unfold bindL
  rw[zf3 λv hv=>(Xbx.mp nd).1 (List.of_mem_zip hv).1,if_pos hk]
  simp
 | p::P,w::vs,i+1,m,nd,h1,h2,hk=>by
  show bindL kindOf ((p,w)::P.zip vs) m x=_
  unfold bindL
  exact zf4 (i:=i) (Xbx.mp nd).2 (by simpa using h1) (by simpa using h2) hk
def zf6{kindOf:Str->Option NameKind}{x:Str}{v:Value}:∀{P:List Str} {vs:List Value} {i:Nat} {m:Str->Option Value},P.Nodup->P[i]?=some x->vs[i]?=some v->kindOf x≠some .local ->
  bindC kindOf (P.zip vs) m x=some v
 | [],_,_,_,_,h,_,_=>by simp at h
 | _::_,[],_,_,_,_,h,_=>by simp at h
 | p::P,w::vs,0,m,nd,h1,h2,hk=>by
  simp at h1 h2;subst h1;subst h2
  show bindC kindOf ((p,w)::P.zip vs) m p=_
  unfold bindC
  rw[zf5 λv hv=>(Xbx.mp nd).1 (List.of_mem_zip hv).1,if_neg hk]
  simp
 | p::P,w::vs,i+1,m,nd,h1,h2,hk=>by
  show bindC kindOf ((p,w)::P.zip vs) m x=_
  unfold bindC
  exact zf6 (i:=i) (Xbx.mp nd).2 (by simpa using h1) (by simpa using h2) hk
def start(N:List Str)(vs:List V):St:=vs.map some++List.replicate (N.length-vs.length) none
def cxOf(CX:CXT)(P:Program)(w:World)(K:W.Frag)(mg:Str->Option Value)(base:Heap)(N:List Str)(qual:Str)(scope:Scope)(f:Addr)(cd:Value)(A:Around)(outer:List Env)(s:Shared)(H:Hp)(E:XK):Cx where
 prog:=P
 w:=w
 K:=K
 mg:=mg
 base:=base
 A:=A.deeper (envOfC qual scope s.heap.objs.size f cd)
 N:=N
 s₀:=s
 H₀:=H
 env:=envOfC qual scope s.heap.objs.size f cd
 outer:=outer
 stack:=envOfC qual scope s.heap.objs.size f cd::outer
 ex:=[]
 calm:=true
 fn:=λ_=>true
 pn:=[]
 xe:=λe s'=>wpAny (model P w) (A.deeper (envOfC qual scope s.heap.objs.size f cd)) (leaving (envOfC qual scope s.heap.objs.size f cd) e) (λ_ s''=>CX outer H s E e s'') (λe' s''=>CX outer H s E e' s'') s'
def zhd{sc:Scope}{n:Nat}{x:Str}(h:sc.names.lookup x=some .cell):∃c,(cellsFrom n sc.names []).lookup x=some c:=by
 have q:=W.cellsFrom_some sc.names n [] (.inl h)
 exact Option.isSome_iff_exists.mp q
def zjn{CX:CXT}{P:Program}{w:World}{K:W.Frag}{mg:Str->Option Value}{base:Heap}{N ps:List Str}{qual:Str}{scope:Scope}{f:Addr}{cd:Value}{A:Around}{outer:List Env}{s s1:Shared}{H:Hp}{E:XK}{us:List Value}{vs:List V}
  (S:FnScope N ps scope) (hd:A.handled=none) (e0:Env0 P w K mg base A outer s H) (hl:vs.length=ps.length) (r:Vals vs us)
  (x:InCallC s s.heap.objs.size (bindL (envOfC qual scope s.heap.objs.size f cd).kindOf (ps.zip us) λ_=>none) (cellsFrom (s.heap.objs.size+1) scope.names []) (bindC (envOfC qual scope s.heap.objs.size f cd).kindOf (ps.zip us) λ_=>none) s1) :
  Inv (cxOf CX P w K mg base N qual scope f cd A outer s H E) [] (start N vs) H s1:=by
 have hpl:ps.length<=N.length:=by have:=congrArg List.length S.pre;rw[XaZ] at this;omega
 obtain⟨h1,tk,rfl,hk⟩:=x.done
 have noA:∀b:Addr,b∉(cxOf CX P w K mg base N qual scope f cd A outer s H E).ex:=λb z=>absurd (show b∈([]:List Addr) from z) (by simp)
 refine⟨{e0.mod,S.kind,O,O,Xad _,λy z c h1 h2=>?_,λy hy=>?_,λy c _ h=>?_,λ_=>hd,Around.frames_deeper e0.frames,.inr ⟨O,O⟩,λb z=>absurd z (noA b),e0.bs,e0.bsz,λb _ _=>noA b,λb z=>absurd z (noA b),e0.funs,e0.frf},
  rfl,e0.bare,Un.kept hk,{_,x.toInCall.ns,λi y v h1 h2 h3=>?_},λy c h=>{_,x.cell y c h},e0.hok.fresh (Xad _),λy c h=>?_,λp hp=>absurd (show p∈([]:List (Addr×Obj)) from hp) (by simp),e0.hok.kept hk,?_⟩
 .exact name_of_addr x.apart (PySem.mem_of_lookup h1) (PySem.mem_of_lookup h2)
 .have hy:scope.names.lookup y=some .cell\/scope.names.lookup y=some .free:=hy
  rcases hy with hy|hy
  .exact zhd hy
  .exact absurd O (S.nofree _ (PySem.mem_of_lookup hy))
 .exact Nat.le_of_lt (x.above y c (PySem.mem_of_lookup h))
 .have hi:i<vs.length:=by
   unfold start at h2
   by_cases hi:i<vs.length
   .exact hi
   .rw[List.getElem?_append_right (by simpa using hi)] at h2
    rw[List.getElem?_replicate] at h2
    split at h2<;>cases h2
  have ha:vs[i]?=some v:=by
   unfold start at h2
   rw[List.getElem?_append_left (by simpa using hi),Xax] at h2
   cases e:vs[i]? with
   | none=>rw[e] at h2;cases h2
   | some a=>rw[e] at h2;cases h2;rfl
  obtain⟨u,hu,rv⟩:=r.get ha
  have hp:ps[i]?=some y:=by
   rw[<- S.pre,List.getElem?_take_of_lt (by omega)];exact h1
  have ndP:ps.Nodup:=by rw[<- S.pre];exact S.nd.sublist (List.take_sublist _ _)
  refine{u,rv,?_}
  rcases S.par y (XaF hp) with k|k
  .exact .inl {k,zf4 ndP hp hu k}
  .obtain⟨c,e⟩:=zhd (n:=s.heap.objs.size+1) k
   refine .inr {.inl k,c,e,?_}
   have q:=x.cell y c e
   rw[zf6 ndP hp hu (by show scope.names.lookup y≠_;rw[k];decide)] at q
   exact q
 .exact e0.hok.fresh (Nat.le_of_lt (x.above y c (PySem.mem_of_lookup h)))
 .unfold start
  show _=N.length
  rw[Xah,Xaf,Xby]
  omega
def zmv{CX:CXT}{P:Program}{w:World}{K:W.Frag}{mg:Str->Option Value}{base:Heap}{k:Nat}{f:Addr}{name qual:Str}{params:Arguments}{body:List Stmt}{scope:Scope}{dV kV doc pm cdv ct oc:Value}{an od:Option Addr}
  {osl:Array (Option Value)} {N ps:List Str} {sp:Sp} (lk:K.lookup f=some {oc,od,.func (W.fnOf name qual params body scope dV kV doc pm an cdv ct),osl}) (hcd:W.codeIn K cdv qual=true) (S:FnScope N ps scope)
  (len:∀vs H Q E,sp vs H Q E->vs.length=ps.length)
  (hbody:∀(A:Around) (outer:List Env) (s:Shared) (H:Hp) (vs:List V) (Q:VK) (E:XK),Room k (A.deeper (envOfC qual scope s.heap.objs.size f cdv))->sp vs H Q E ->
   ∃t,PSs (cxOf CX P w K mg base N qual scope f cdv A outer s H E) body t/\t {nx:=λ_ H'=>Q .non H',rt:=Q} (start N vs) H) :
  FnOk P w K mg base CX (k+1) f (W.fnOf name qual params body scope dV kV doc pm an cdv ct) ps sp:=by
 refine{len,λA outer s H args us vs Q E hr e0 hb r hsp=>?_}
 have hl:=len _ _ _ _ hsp
 have KX:K.In s.heap:=e0.mod.kin.keeps λb o e=>(e0.bs b o e).1
 have lim:s.heap.NoLimit:=e0.mod.nolimit.keeps λb o e=>(e0.bs b o e).1
 have hkind:∀y∈ps.zip us,scope.names.lookup y.1=some .local\/(scope.names.lookup y.1=some .cell/\((cellsFrom (s.heap.objs.size+1) scope.names []).lookup y.1).isSome=true):=λ⟨n,v⟩ hy=>by
  rcases S.par n (List.of_mem_zip hy).1 with q|q
  .exact .inl q
  .exact .inr {q,W.cellsFrom_some _ _ _ (.inl q)}
 refine codeAny_call_function hr.depth (KX _ _ lk) O S.co S.gen O (W.codeRec_of KX hcd) (hb _ _ _ _ ?_)
 refine wpAny_newFunctionEnv_cells S.kind hkind λenv he s1 x=>?_
 subst he
 refine{lim.keeps x.toInCall.keep,codeAny_func ?_}
 obtain⟨t,ht,hq⟩:=hbody A outer s H vs Q E (hr.deeper _) hsp
 have I:Inv (cxOf CX P w K mg base N qual scope f cdv A outer s H E) [] (start N vs) H s1:=zjn S hr.hd e0 hl r x
 refine Xav (ht [] s1 (start N vs) H _ I hq) (λfl s' hs=>?_) λe s' hs=>hs
 have fin:∀{U':St} {H':Hp} {v:V} {u:Value},Inv (cxOf CX P w K mg base N qual scope f cdv A outer s H E) [] U' H' s'->RelV v u->Q v H'->CE outer P w H s Q u s':=
  λ{U' H' v u} J rv q=>⟨v,H',J.os,J.bare,J.base,J.hok,rv,q⟩
 cases fl with
 | ret u =>
  obtain⟨v,U',H',J,rv,q⟩:=hs
  exact fin J rv q
 | next =>
  obtain⟨U',H',J,q⟩:=hs
  exact fin (v:=V.non) (u:=Value.none) J O q
 | brk =>
  obtain⟨_,_,_,q⟩:=hs
  exact False.elim q
 | cont =>
  obtain⟨_,_,_,q⟩:=hs
  exact False.elim q
section
variable{X:Cx}{x:Str}{p pos:Pos}{e:Expr}{es:List Expr}{t:TA}{id T:String}{r:List V->Hp->VK->Prop}
def tCB(r:List V->Hp->VK->Prop)(t:TA):TE:=λU H Q=>t U H λvs H1=>r vs H1 Q
def zak(hc:zbL X (.builtin id) r)(hg:Gl X x)(hm:X.mg x=none)(hv:bootBuiltins x=some (.builtin id))(ha:PA X (e::es) t)(hn:x ≠ "__name__" := by decide)(hdb:(x==("__debug__" : Str))=false:=by decide)
  (he:starEach (e::es) X.env=(false,eval e X.env)::starEach es X.env:=by rfl) (hpl:(backTo pos (starEach es X.env)).any (·.1)=false:=by rfl):PE X (.Call (.Name x p) (e::es) [] pos) (tCB r t):=by
 intro pins s U H Q I h
 refine Xbf (zcP I hg hm hv ?_ hn hdb)
 exact PyProof.Rows.callWith_builtin1 (thn (ha pos pins s U H _ I h) λus s1 ⟨vs,H1,I1,r1,q1⟩=>hc pins s1 U H1 vs us Q I1 r1 q1) he hpl
def zaH(hc:zbL X (.type T) r)(hg:Gl X x)(hm:X.mg x=none)(hv:bootBuiltins x=some (.type T))(ha:PA X (e::es) t)(hn:x ≠ "__name__" := by decide)(hdb:(x==("__debug__" : Str))=false:=by decide)
  (he:starEach (e::es) X.env=(false,eval e X.env)::starEach es X.env:=by rfl) (hpl:(backTo pos (starEach es X.env)).any (·.1)=false:=by rfl):PE X (.Call (.Name x p) (e::es) [] pos) (tCB r t):=by
 intro pins s U H Q I h
 refine Xbf (zcP I hg hm hv ?_ hn hdb)
 exact PyProof.Rows.callWith_type1 (thn (ha pos pins s U H _ I h) λus s1 ⟨vs,H1,I1,r1,q1⟩=>hc pins s1 U H1 vs us Q I1 r1 q1) he hpl
end
end L2
namespace HT
open PySem PyProof.Rows
section
open PySem.SeqAt
open PySem.AutoSeq1 (wpAny_loadPart')
open PySem.MeetsSeq PySem.MeetsSeq2 PySem.MeetsSeq3
end
section
variable{prog:Program}{w:World}{A:Around}{E:Value->Shared->Prop}{s:Shared}
def cat_tup{t b:Addr}{vs ws:List Value}{Q:Value->Shared->Prop}(ht:IsTup s.heap t vs.toArray)(hb:IsTup s.heap b ws.toArray)(hv:vs≠[])
  (h1:ws=[]->Q (.ref t) s) (h2:ws≠[]->Q (.ref s.heap.objs.size) {s with heap:=s.heap.push {cls:=.type "tuple",data:=.seq (vs++ws).toArray}})
  (hsz:vs.length+ws.length<=sizeLine):wpAny (model prog w) A (binaryOp .Add (.ref t) (.ref b)) Q E s:=by
 obtain⟨⟨cls,dd,data,sl⟩,ho,hc,n,hd⟩:=id ht
 obtain⟨⟨cls2,dd2,data2,sl2⟩,ho2,hc2,n2,hd2⟩:=id hb
 simp only at hc hd hc2 hd2
 subst hc hd hc2 hd2
 have e:vs.toArray++ws.toArray=(vs++ws).toArray:=by simp
 by_cases hw:ws=[]
 .exact concat_meets {_,ho,O} {_,ho2,O} noFill_tuple_add seq_tuple_add PySem.F.slot_tuple_add PySem.F.entry_tuple_add (PySem.F.args_tuple_add_2 _ _)
   (tuple_addW1 t b vs.toArray ws.toArray n n2 dd dd2 sl sl2 (by simpa using hv) (by simp[hw])) {ho,ho2,h1 hw}
 .refine concat_meets {_,ho,O} {_,ho2,O} noFill_tuple_add seq_tuple_add PySem.F.slot_tuple_add PySem.F.entry_tuple_add (PySem.F.args_tuple_add_2 _ _)
   (tuple_addW2 t b vs.toArray ws.toArray n n2 dd dd2 sl sl2 (by simpa using hv) (by simpa using hw) (by rw[Xaq,Xaq];exact hsz)) {ho,ho2,?_}
  rw[e]
  exact h2 hw
def sIx(n d:Nat):Option Int->Nat
 | none=>d
 | some v=>if v<0 then(v+(n:Int)).toNat else min v.toNat n
def sIx_none(n d:Nat):sIx n d none=d:=rfl
def sIx_nat(n d k:Nat):sIx n d (some (k:Int))=min k n:=by
 show(if(k:Int)<0 then((k:Int)+(n:Int)).toNat else min (k:Int).toNat n)=min k n
 rw[if_neg (by omega),Xap]
def sIx_le(n d:Nat)(hd:d<=n)(o:Option Int):sIx n d o<=n:=by
 cases o with
 | none=>exact hd
 | some v =>
  show(if v<0 then(v+(n:Int)).toNat else min v.toNat n)<=n
  by_cases hv:v<0
  .rw[if_pos hv];omega
  .rw[if_neg hv];exact Nat.min_le_right _ _
def zjF(v:Int)(n d:Nat):(if v<0 then max (v+(n:Int)) 0 else min v (n:Int))=((sIx n d (some v):Nat):Int):=by
 show(if v<0 then max (v+(n:Int)) 0 else min v (n:Int))=(((if v<0 then(v+(n:Int)).toNat else min v.toNat n):Nat):Int)
 by_cases hv:v<0
 .simp only[if_pos hv];omega
 .simp only[if_neg hv];omega
def zh7(lo hi:Option Int)(n:Nat):Builtin.Slice.sliceAdjust lo hi 1 (n:Int)=(((sIx n 0 lo:Nat):Int),((sIx n n hi:Nat):Int)):=by
 have h1:¬ ((1:Int)<0):=by omega
 unfold Builtin.Slice.sliceAdjust
 simp only[h1,if_false]
 refine Prod.ext ?_ ?_
 .cases lo with
  | none=>rfl
  | some v=>exact zjF v n 0
 .cases hi with
  | none=>rfl
  | some v=>exact zjF v n n
def zhu(i j:Nat):Builtin.Slice.slicePlaces (i:Int) (j:Int) 1=j-i:=by
 unfold Builtin.Slice.slicePlaces
 have h1:(1:Int)>0:=by omega
 simp only[h1,if_true,Int.ediv_one]
 split<;>omega
def zes{v:Value}{o:Option Int}{Q:Option Int->Shared->Prop}(p:IsPart v o)(h:Q o s):wpAny (model prog w) A (Builtin.Slice.slicePartIndex v) Q E s:=by
 cases p with
 | none=>exact slicePart_none h
 | int i t=>exact slicePart_int h
def zbV{sl:Addr}{vl vu:Value}{lo hi:Option Int}{n:Nat}{Q:Int×Int×Nat->Shared->Prop}(hs:s.heap.IsSliceOf sl vl vu .none)(pl:IsPart vl lo)(pu:IsPart vu hi)
  (h:Q (((sIx n 0 lo:Nat):Int),1,sIx n n hi-sIx n 0 lo) s):wpAny (model prog w) A (Builtin.Slice.sliceApplied (.ref sl) (pure (n:Int))) Q E s:=by
 obtain⟨os,hos,hcs,hds⟩:=id hs
 unfold Builtin.Slice.sliceApplied Builtin.Slice.sliceFields
 refine Xaa (Xaa (XaG hos hds (x:=vl) O (Xaa (XaG hos hds (x:=vu) O (Xaa (XaG hos hds (x:=.none) O (Xac ?_)))))))
 refine Xaa (slicePart_none ?_)
 show wpAny _ _ (if((1:Int)==0)=true then _ else _) _ _ s
 rw[if_neg (by decide)]
 refine Xaa (zes pl (Xaa (zes pu (Xaa (Xac ?_)))))
 show wpAny _ _ (match Builtin.Slice.sliceAdjust lo hi 1 (n:Int) with|(lo,hi)=>pure (lo,(1:Int),Builtin.Slice.slicePlaces lo hi 1)) _ _ s
 rw[zh7 lo hi n]
 show wpAny _ _ (pure (((sIx n 0 lo:Nat):Int),(1:Int),Builtin.Slice.slicePlaces ((sIx n 0 lo:Nat):Int) ((sIx n n hi:Nat):Int) 1)) _ _ s
 rw[zhu]
 exact Xac h
def zkj(xs:Array Value)(i k:Nat):((List.range k).filterMap λ(m:Nat)=>xs[((i:Int)+(m:Int)*1).toNat]?).toArray=((xs.toList.drop i).take k).toArray:=by
 have e:(λ(m:Nat)=>xs[((i:Int)+(m:Int)*1).toNat]?)=λm=>xs[i+m]?:=by
  funext m
  have:((i:Int)+(m:Int)*1).toNat=i+m:=by omega
  rw[this]
 rw[e]
 have:=pick_run xs i k
 rw[List.filterMap_map] at this
 have e2:((λx=>xs[x]?)∘λx=>i+x)=λm=>xs[i+m]?:=rfl
 rw[e2] at this
 rw[this]
def getItem_tuple_cut{t sl:Addr}{items:Array Value}{vl vu:Value}{lo hi:Option Int}{Q:Value->Shared->Prop}(ht:IsTup s.heap t items)(hs:s.heap.IsSliceOf sl vl vu .none)(pl:IsPart vl lo)(pu:IsPart vu hi)
  (hw:¬ (sIx items.size 0 lo=0/\sIx items.size items.size hi=items.size))
  (h:Q (.ref s.heap.objs.size) {s with heap:=s.heap.push {cls:=.type "tuple",data:=.seq ((items.toList.drop (sIx items.size 0 lo)).take (sIx items.size items.size hi-sIx items.size 0 lo)).toArray}})
  (hsz:items.size<=sizeLine):wpAny (model prog w) A (getItem (.ref t) (.ref sl)) Q E s:=by
 have htake:sizeOk (.seq ((items.toList.drop (sIx items.size 0 lo)).take (sIx items.size items.size hi-sIx items.size 0 lo)).toArray):=by
  show((items.toList.drop (sIx items.size 0 lo)).take (sIx items.size items.size hi-sIx items.size 0 lo)).toArray.size<=sizeLine
  rw[Xaq,XaZ,Xbu,Array.length_toList]
  omega
 have hj:sIx items.size items.size hi<=items.size:=sIx_le _ _ (Xad _) hi
 obtain⟨os,hos,hcs,hds⟩:=id hs
 have hTs:s.TypeIs (.ref sl) "slice" := ⟨os,hos,hcs⟩
 unfold getItem
 try with_reducible refine XaE ?_
 first|refine Xaa (Xac ?_)|skip
 refine Xaa (wpAny_sequenceKey ht.typeIs (by decide) ?_)
 refine Xaa (wpAny_callSpecial?_slot (name:=Str.ofString "__getitem__") ht.typeIs PyProof.Rows.slot_tuple_getitem
  (XaQ PyProof.Rows.slot_tuple_getitem ht.typeIs entry_tuple_getitem ?_ (args_tuple_getitem _ _)))
 show wpAny _ _ (Builtin.Tuple.tupleItemsOf (.ref t) >>= _) _ _ s
 refine Xaa (tupleItemsOf_ ht ?_)
 refine Xaa (wpAny_typeOf hTs ?_)
 rw[if_pos (by decide)]
 refine Xaa (zbV hs pl pu ?_)
 have hno:¬ ((((sIx items.size 0 lo:Nat):Int)==0&&(1:Int)==1&&(sIx items.size items.size hi-sIx items.size 0 lo)==items.size)=true):=by
  intro q
  rw[Xa0,Xa0] at q
  have q1:((sIx items.size 0 lo:Nat):Int)=0:=eq_of_beq q.1.1
  have q2:sIx items.size items.size hi-sIx items.size 0 lo=items.size:=eq_of_beq q.2
  exact hw {by omega,by omega}
 show wpAny _ _ (if(((sIx items.size 0 lo:Nat):Int)==0&&(1:Int)==1&&(sIx items.size items.size hi-sIx items.size 0 lo)==items.size)=true then _ else _) _ _ s
 rw[if_neg hno,zkj]
 first
  | exact Xaa (m:=Builtin.Tuple.tupleExact _) (XaS (Xac {_,O,Xac h}) htake)
  | exact Xaa (m:=Builtin.Tuple.tupleExact _) (XaS (Xaa (Xac (Xac {_,O,Xac h}))) htake)
  | exact Xaa (Xaa (m:=Builtin.Tuple.tupleExact _) (XaS (Xac (Xac {_,O,Xac h})) htake))
  | exact Xaa (Xaa (m:=Builtin.Tuple.tupleExact _) (XaS (Xac {_,O,Xac h}) htake))
end
end HT
namespace L2
open PySem PySem.Spec PyProof.Rows
abbrev TO:=St->Hp->(Option Int->Hp->Prop)->Prop
def PO(X:Cx)(e:Option Expr)(t:TO):Prop:=
 ∀(pins:List (Addr×Obj)) (s:Shared) (U:St) (H:Hp) (Q:Option Int->Hp->Prop),Inv X pins U H s->t U H Q ->
  wpAny (model X.prog X.w) X.A (evalPart e X.env) (λu s'=>∃o H',Inv X pins U H' s'/\IsPart u o/\Q o H') X.xe s
def zlK:TO:=λ_ H Q=>Q none H
inductive tPart_1(Q:Option Int->Hp->Prop)(x:V)(H1:Hp):Prop
 | mk i(_:x=.int i)(_:Q (some i) H1)
def tPart(t:TE):TO:=λU H Q=>t U H (tPart_1 Q)
def zhS{ns:List Int}:∀{us:List Value},Vals (ns.map V.int) us->IntsAre us ns:=by
 induction ns with
 | nil=>intro us r;rw[List.map_nil] at r;cases r;exact .nil
 | cons n ns ih =>
  intro us r
  rw[XaR] at r
  cases r with
  | cons r1 r2 =>
   obtain⟨t,e⟩:=r1
   subst e
   exact .cons n t (ih r2)
section
variable{X:Cx}{e:Expr}{te:TE}{lo hi:Option Expr}{tl th:TO}{pos p2:Pos}
def zc8:PO X none zlK:=by
 intro pins s U H Q I h
 rw[evalPart_none]
 exact Xac {none,H,I,.none,h}
def zc7(h:PE X e te):PO X (some e) (tPart te):=by
 intro pins s U H Q I hw
 rw[evalPart_some]
 refine thn (h pins s U H _ I hw) λu s1 hh_=>?_
 obtain⟨x,H1,I1,r1,q1⟩:=hh_
 obtain⟨i,rfl,q⟩:=q1
 obtain⟨t,rfl⟩:=r1
 exact{some i,H1,I1,.int i t,q}
def SlR(X:Cx)(r:V->Option Int->Option Int->Hp->VK->Prop):Prop:=
 ∀(pins:List (Addr×Obj)) (s:Shared) (U:St) (H:Hp) (x:V) (v vl vu:Value) (lo hi:Option Int) (sl:Addr) (Q:VK),Inv X pins U H s->RelV x v->s.heap.IsSliceOf sl vl vu .none->IsPart vl lo->IsPart vu hi->r x lo hi H Q ->
  ∃T id,typeLookup (.type T) "__getitem__"=pure (some (.builtin id))/\s.TypeIs v T/\wpAny (model X.prog X.w) X.A (getItem v (.ref sl)) (EP X pins U Q) X.xe s
def tSl(r:V->Option Int->Option Int->Hp->VK->Prop)(te:TE)(tl th:TO):TE:=λU H Q=>te U H λx H1=>tl U H1 λl H2=>th U H2 λu H3=>r x l u H3 Q
def zb7{r:V->Option Int->Option Int->Hp->VK->Prop}(hr:SlR X r)(he:PE X e te)(hl:PO X lo tl)(hu:PO X hi th):PE X (.Subscript e (.Slice lo hi none p2) pos) (tSl r te tl th):=by
 intro pins s U H Q I h
 refine Subscript_ (thn (he pins s U H _ I h) λv s1 hh_=>?_)
 obtain⟨x,H1,I1,r1,q1⟩:=hh_
 refine wpAny_Slice (thn (hl pins s1 U H1 _ I1 q1) λvl s2 ⟨l,H2,I2,pl,q2⟩=>thn (hu pins s2 U H2 _ I2 q2) λvu s3 hh_=>?_)
 obtain⟨u,H3,I3,pu,q3⟩:=hh_
 rw[evalPart_none]
 refine Xac ?_
 have I4:Inv X pins U H3 {s3 with heap:=s3.heap.push {cls:=.type "slice",data:=.fields #[vl,vu,.none]}}:=I3.kept (t':=s3.toks) λb ob q=>Xab _ q
 obtain⟨T,id,hT,ht,hg⟩:=hr pins {s3 with heap:=s3.heap.push {cls:=.type "slice",data:=.fields #[vl,vu,.none]}} U H3 x v vl vu l u s3.heap.objs.size Q I4 r1 (Heap.IsSliceOf.new ..) pl pu q3
 show wpAny (model X.prog X.w) X.A (subscriptTail e (.Slice lo hi none p2) v (.ref s3.heap.objs.size)) (EP X pins U Q) X.xe {s3 with heap:=s3.heap.push {cls:=.type "slice",data:=.fields #[vl,vu,.none]}}
 exact tail_any (ops:=[.ref s3.heap.objs.size,v]) ht hT hg (by with_unfolding_all rfl)
def cutV(xs:List V)(lo hi:Option Int):List V:=(xs.drop (HT.sIx xs.length 0 lo)).take (HT.sIx xs.length xs.length hi-HT.sIx xs.length 0 lo)
def zee(xs:List V)(lo hi:Option Int):(cutV xs lo hi).length<=xs.length:=by
 unfold cutV
 rw[XaZ,Xbu]
 omega
inductive rSlT(K:W.Frag)(x:V)(lo:Option Int)(hi:Option Int)(H:Hp)(Q:VK):Prop
 | mk a xs(_:x=.ref a)(_:SqT K H a xs)(_:¬ (HT.sIx xs.length 0 lo=0/\HT.sIx xs.length xs.length hi=xs.length))(_:∀p,H p=none->Q (.ref p) (upd H p (.tup (cutV xs lo hi))))
def sl_tup:SlR X (rSlT X.K):=by
 intro pins s U H x v vl vu lo hi sl Q I rx hs pl pu h
 obtain⟨a,xs,rfl,hx,hw,q⟩:=h
 cases rx
 obtain⟨its,r,ht,hz⟩:=I.tuple hx
 have hlen:its.toArray.size=xs.length:=by rw[Xaq];exact r.length.symm
 refine{"tuple",_,PyProof.Rows.slot_tuple_getitem.lookup,ht.typeIs,?_}
 refine HT.getItem_tuple_cut ht hs pl pu (by rw[hlen];exact hw) ?_ (by rw[hlen];exact hz)
 rw[hlen]
 refine{.ref s.heap.objs.size,_,I.laid (t':=s.toks) (o:=.tup (cutV xs lo hi)) (λb ob q=>Xab _ q) (Xad _) ?_,O,q _ (I.hok.fresh (Xad _))}
 exact{{Xak (zee xs lo hi) hz,_,Xag _ O,O},_,(r.drop (HT.sIx xs.length 0 lo)).take (HT.sIx xs.length xs.length hi-HT.sIx xs.length 0 lo),IsTup.new _ _}
inductive rCatT(K:W.Frag)(x:V)(y:V)(H:Hp)(Q:VK):Prop
 | mk a b xs ys(_:x=.ref a)(_:y=.ref b)(_:SqT K H a xs)(_:SqT K H b ys)(_:xs≠[])(_:xs.length+ys.length<=sizeLine)(_:(ys=[]->Q (.ref a) H))(_:(ys≠[]->∀p,H p=none->Q (.ref p) (upd H p (.tup (xs++ys)))))
def Vals.nil_iff{xs:List V}{us:List Value}(r:Vals xs us):us=[]↔xs=[]:=by
 cases r with
 | nil=>simp
 | cons _ _=>simp
def zmd:OpR X (binaryOp .Add) (rCatT X.K):=by
 intro pins s U H x y v u Q I rx ry h
 obtain⟨a,b,xs,ys,rfl,rfl,ha,hb,hx,hz,q1,q2⟩:=h
 cases rx
 cases ry
 obtain⟨its,r1,p1,_⟩:=I.tuple ha
 obtain⟨its2,r2,p2,_⟩:=I.tuple hb
 refine HT.cat_tup p1 p2 (λz=>hx (r1.nil_iff.mp z)) (λz=>{.ref a,H,I,O,q1 (r2.nil_iff.mp z)}) (λz=>?_) (by rw[<- r1.length,<- r2.length];exact hz)
 refine{.ref s.heap.objs.size,_,I.laid (t':=s.toks) (o:=.tup (xs++ys)) (λb ob q=>Xab _ q) (Xad _) ?_,O,q2 (λw=>z (r2.nil_iff.mpr w)) _ (I.hok.fresh (Xad _))}
 exact{{by rw[Xah];exact hz,_,Xag _ O,O},_,r1.append r2,IsTup.new _ _}
end
def ixN(n:Nat)(i:Int):Option Nat:=if 0<=i then(if i<n then some i.toNat else none) else if -(n:Int)<=i then some (i+n).toNat else none
def atI{α:Type}(xs:List α)(i:Int):Option α:=(ixN xs.length i).bind λj=>xs[j]?
def zjl{n:Nat}{i:Int}{j:Nat}(h:ixN n i=some j):seqIndex? i n=some j/\j<n/\-(n:Int)<=i/\i<n:=by
 unfold ixN at h
 by_cases h0:0<=i
 .rw[if_pos h0] at h
  by_cases h1:i<n
  .rw[if_pos h1] at h
   have e:i.toNat=j:=Option.some.inj h
   exact{by rw[seqIndex_of h0 h1,e],by omega,by omega,h1}
  .rw[if_neg h1] at h;cases h
 .rw[if_neg h0] at h
  by_cases h1:-(n:Int)<=i
  .rw[if_pos h1] at h
   have e:(i+n).toNat=j:=Option.some.inj h
   exact{by rw[seqIndex_neg (by omega) h1,e],by omega,h1,by omega}
  .rw[if_neg h1] at h;cases h
def zfa{α:Type}{xs:List α}{i:Int}{v:α}(h:atI xs i=some v):∃j,seqIndex? i xs.length=some j/\xs[j]?=some v/\j<xs.length/\-(xs.length:Int)<=i/\i<xs.length:=by
 unfold atI at h
 cases e:ixN xs.length i with
 | none=>rw[e] at h;cases h
 | some j =>
  rw[e] at h
  obtain⟨h1,h2,h3,h4⟩:=zjl e
  exact⟨j,h1,h,h2,h3,h4⟩
def zaQ{α:Type}{xs:List α}{j:Nat}{v:α}(h:xs[j]?=some v):atI xs (j:Int)=some v:=by
 have hj:j<xs.length:=(Xas.mp h).1
 have e:ixN xs.length (j:Int)=some j:=by
  unfold ixN
  rw[if_pos (by omega),if_pos (by omega)];simp
 unfold atI;rw[e];exact h
def zjT(b:Expr):Prop:=∀o i,subscripted b false o i=operate [o,i] (getItem o i)
def IxR(X:Cx)(r:R2):Prop:=
 ∀(value slice:Expr) (pins:List (Addr×Obj)) (s:Shared) (U:St) (H:Hp) (x y:V) (v u:Value) (Q:VK),Inv X pins U H s->RelV x v->RelV y u->r x y H Q ->
  subscripted slice false v u=operate [v,u] (getItem v u)->wpAny (model X.prog X.w) X.A (subscriptTail value slice v u) (EP X pins U Q) X.xe s
def MtR(X:Cx)(id:String)(r:V->List V->Hp->VK->Prop):Prop:=
 ∀(pins:List (Addr×Obj)) (s:Shared) (U:St) (H:Hp) (x:V) (xs:List V) (v:Value) (us:List Value) (Q:VK),Inv X pins U H s->RelV x v->Vals xs us->r x xs H Q ->
  wpAny (model X.prog X.w) X.A (call (.builtin id) (v::us)) (EP X pins U Q) X.xe s
section
variable{X:Cx}{a b:Expr}{ta tb:TE}{pos:Pos}
def pe_ix{r:R2}(hr:IxR X r)(ha:PE X a ta)(hb:PE X b tb)(hs:zjT b):PE X (.Subscript a b pos) (tOp r ta tb):=by
 intro pins s U H Q I h
 exact Subscript_ (binT ha hb I h λv u s2 x y H2 I2 rx ry q=>hr a b pins s2 U H2 x y v u Q I2 rx ry q (hs _ _))
inductive rIxL(K:W.Frag)(x:V)(y:V)(H:Hp)(Q:VK):Prop
 | mk p xs i v(_:x=.ref p)(_:y=.int i)(_:SqL K H p xs)(_:atI xs i=some v)(_:Q v H)
inductive rIxT(K:W.Frag)(x:V)(y:V)(H:Hp)(Q:VK):Prop
 | mk p xs i v(_:x=.ref p)(_:y=.int i)(_:SqT K H p xs)(_:atI xs i=some v)(_:Q v H)
inductive rIxS(x:V)(y:V)(H:Hp)(Q:VK):Prop
 | mk z i c(_:x=.str z)(_:y=.int i)(_:z.length<=sizeLine)(_:atI z.cps.toList i=some c)(_:Q (.str {#[c]}) H)
def zaz:IxR X (rIxL X.K):=by
 intro value slice pins s U H x y v u Q I rx ry h hs
 obtain⟨p,xs,i,z,rfl,rfl,hq,he,q⟩:=h
 cases rx
 obtain⟨t,rfl⟩:=ry
 obtain⟨its,r,pl,hz⟩:=I.list hq
 obtain⟨j,h1,h2,h3,h4,h5⟩:=zfa he
 obtain⟨w,ew,rw'⟩:=r.get h2
 have hl:=r.length
 have hn:=zdk
 have fin:EP X pins U Q w s:=⟨z,H,I,rw',q⟩
 by_cases h0:0<=i
 .have hj:i.toNat=j:=by
   rw[seqIndex_of h0 h5] at h1
   exact Option.some.inj h1
  exact item_listR pl.isList h0 (by omega) (by rw[hj];simpa using ew) fin hs
 .have hj:(i+(its.toArray.size:Int)).toNat=j:=by
   rw[seqIndex_neg (by omega) h4] at h1
   rw[Xaq,<- hl]
   exact Option.some.inj h1
  exact subscriptTail_builtinR (x:=w) pl.isList.typeIs slot_list_getitem.lookup
   (wpAny_getItem_list_neg (Q:=λr s'=>r=w/\EP X pins U Q r s') pl.isList (by omega) (by rw[Xaq]<;>omega) (by omega) (by rw[hj];simpa using ew) ⟨O,fin⟩) hs
def za3:IxR X (rIxT X.K):=by
 intro value slice pins s U H x y v u Q I rx ry h hs
 obtain⟨p,xs,i,z,rfl,rfl,hq,he,q⟩:=h
 cases rx
 obtain⟨t,rfl⟩:=ry
 obtain⟨its,r,pl,hz⟩:=I.tuple hq
 obtain⟨j,h1,h2,h3,h4,h5⟩:=zfa he
 obtain⟨w,ew,rw'⟩:=r.get h2
 have hl:=r.length
 have hn:=zdk
 have fin:EP X pins U Q w s:=⟨z,H,I,rw',q⟩
 exact subscriptTail_builtinR (x:=w) pl.typeIs slot_tuple_getitem.lookup
  (getItem_tuple (j:=j) (Q:=λr s'=>r=w/\EP X pins U Q r s') pl (by omega) (by omega) (by rw[Xaq,<- hl];exact h1) (by simpa using ew) ⟨O,fin⟩) hs
def zlo:IxR X rIxS:=by
 intro value slice pins s U H x y v u Q I rx ry h hs
 obtain⟨z,i,c,rfl,rfl,hz,he,q⟩:=h
 obtain⟨t,rfl⟩:=rx
 obtain⟨t',rfl⟩:=ry
 obtain⟨j,h1,h2,h3,h4,h5⟩:=zfa he
 have hl:z.cps.toList.length=z.length:=by simp[Str.length]
 rw[hl] at h1 h4 h5
 have hn:=zdk
 exact tail_any (typeIs_str s z t) slot_str_getitem.lookup (getItem_str (c:=c) (by
  have e1:decide (i < -(2 ^ 63:Int))=false:=Xam (by omega)
  have e2:decide (i>=2 ^ 63)=false:=Xam (by omega)
  rw[e1,e2,Bool.or_false]) (by rw[h1];simpa using h2) {.str {#[c]},H,I.tok _,{_,O},q}) hs
def zhJ(its:List Value)(n j:Nat)(u:Value):Obj.mapSeq (·.setIfInBounds j u) {cls:=.type "list",data:=.seq its.toArray n}={cls:=.type "list",data:=.seq (its.set j u).toArray n}:=by
 simp[Obj.mapSeq]
def Inv.lst{pins:List (Addr×Obj)}{U:St}{H:Hp}{s:Shared}{p:Addr}{xs:List V}(I:Inv X pins U H s)(h:H p=some (.lst xs)) :
  ∃(its:List Value) (n:Nat),Vals xs its/\s.heap.get? p=some {cls:=.type "list",data:=.seq its.toArray n}/\xs.length<=sizeLine:=by
 obtain⟨z,its,n,r,e⟩:=I.hok p _ h
 exact⟨its,n,r,e,z⟩
def Inv.lstUpd{pins:List (Addr×Obj)}{U:St}{H:Hp}{s:Shared}{p:Addr}{xs ys:List V}{its its':List Value}{n n':Nat}{f:Obj->Obj}(I:Inv X pins U H s)(h:H p=some (.lst xs))
  (ho:s.heap.get? p=some {cls:=.type "list",data:=.seq its.toArray n}) (hf:f {cls:=.type "list",data:=.seq its.toArray n}={cls:=.type "list",data:=.seq its'.toArray n'}) (r:Vals ys its') (hz:ys.length<=sizeLine) (t:Nat) :
  Inv X pins U (upd H p (.lst ys)) {s with heap:=s.heap.update p f,toks:=t}:=by
 have e:(s.heap.update p f).get? p=some {cls:=.type "list",data:=.seq its'.toArray n'}:=by
  rw[XaK f ho (by rw[hf]<;>rfl),hf]
 refine I.write (x:=p) (e:=p) (by rw[h];trivial) (.inl O) (λb u hb q=>(XaM _ _ (Ne.symm hb)).trans q) {_,e} ?_
 exact⟨hz,its',n',r,e⟩
inductive rSetL(o:V)(i:V)(v:V)(H:Hp)(Q:(Hp->Prop)):Prop
 | mk p xs k j(_:o=.ref p)(_:i=.int k)(_:H p=some (.lst xs))(_:ixN xs.length k=some j)(_:Q (upd H p (.lst (xs.set j v))))
def zgV:PSet X rSetL:=by
 intro pins s U H o i v ov iv u Q I ro ri rv h
 obtain⟨p,xs,k,j,rfl,rfl,hp,hj,q⟩:=h
 cases ro
 obtain⟨t,rfl⟩:=ri
 obtain⟨its,n,r,ho,hz⟩:=I.lst hp
 obtain⟨h1,h2,h3,h4⟩:=zjl hj
 have hl:=r.length
 have hn:=zdk
 have I':Inv X pins U (upd H p (.lst (xs.set j v))) {s with heap:=s.heap.update p (Obj.mapSeq (·.setIfInBounds j u))}:=
  I.lstUpd hp ho (zhJ its n j u) (r.set rv j) (by rw[List.length_set];exact hz) s.toks
 by_cases h0:0<=k
 .have hk:k.toNat=j:=by
   rw[seqIndex_of h0 h4] at h1
   exact Option.some.inj h1
  exact W.ki_setAt ho h0 (by omega) (by rw[Xaq,<- hl];exact h4) (by rw[hk];exact{_,I',q})
 .have hk:(k+(its.toArray.size:Int)).toNat=j:=by
   rw[seqIndex_neg (by omega) h3] at h1
   rw[Xaq,<- hl]
   exact Option.some.inj h1
  exact W.ki_setBack ho (by omega) (by rw[Xaq,<- hl];exact h3) (by omega) (by rw[hk];exact{_,I',q})
def zfi(lo hi:Option Int)(n:Nat):(sliceBounds lo hi none n).1=((HT.sIx n 0 lo:Nat):Int)/\(sliceBounds lo hi none n).2.1=((HT.sIx n n hi:Nat):Int)/\(sliceBounds lo hi none n).2.2=1:=by
 refine{?_,?_,O}
 .cases lo with
  | none=>simp[sliceBounds,HT.sIx]
  | some i =>
   simp only[sliceBounds,HT.sIx,Option.getD_none,show(1:Int)>0 by decide,if_true]
   by_cases h:i<0
   .simp only[h,if_true]<;>omega
   .simp only[h,if_false]<;>omega
 .cases hi with
  | none=>simp[sliceBounds,HT.sIx]
  | some i =>
   simp only[sliceBounds,HT.sIx,Option.getD_none,show(1:Int)>0 by decide,if_true]
   by_cases h:i<0
   .simp only[h,if_true]<;>omega
   .simp only[h,if_false]<;>omega
def zeI(its:List Value)(lo hi:Option Int):slicePick its.toArray lo hi none=((its.drop (HT.sIx its.length 0 lo)).take (HT.sIx its.length its.length hi-HT.sIx its.length 0 lo)).toArray:=by
 obtain⟨h1,h2,h3⟩:=zfi lo hi its.toArray.size
 unfold slicePick
 rw[h1,h2,h3]
 simp only[sliceRange_one,pick_run,Xaq]<;>rfl
inductive rSlL(K:W.Frag)(x:V)(lo:Option Int)(hi:Option Int)(H:Hp)(Q:VK):Prop
 | mk a xs(_:x=.ref a)(_:SqL K H a xs)(_:∀p,H p=none->Q (.ref p) (upd H p (.lst (cutV xs lo hi))))
def zix:SlR X (rSlL X.K):=by
 intro pins s U H x v vl vu lo hi sl Q I rx hs pl pu h
 obtain⟨a,xs,rfl,hx,q⟩:=h
 cases rx
 obtain⟨its,r,ht,hz⟩:=I.list hx
 have hlen:=r.length
 refine{"list",_,slot_list_getitem.lookup,ht.isList.typeIs,?_}
 refine wpAny_getItem_list_slice ht.isList hs pl pu .none (by simp) ?_ (by rw[Xaq]<;>omega)
 rw[zeI,<- hlen]
 refine{.ref s.heap.objs.size,_,I.laid (t':=s.toks) (o:=.lst (cutV xs lo hi)) (λb ob q=>Xab _ q) (Xad _) ?_,O,q _ (I.hok.fresh (Xad _))}
 exact{Xak (zee xs lo hi) hz,_,0,(r.drop (HT.sIx xs.length 0 lo)).take (HT.sIx xs.length xs.length hi-HT.sIx xs.length 0 lo),Xag _ O}
def ze4:V->Bool
 | .non=>true
 | .bl _=>true
 | .int _=>true
 | .str _=>true
 | _=>false
def eqV:V->V->Bool
 | .non,.non=>true
 | .bl a,.bl b=>a==b
 | .bl a,.int b=>(if a then 1 else 0)==b
 | .int a,.bl b=>a==(if b then 1 else 0)
 | .int a,.int b=>a==b
 | .str a,.str b=>a==b
 | _,_=>false
def zlu{A:Around}{s:Shared}{y x:V}{u v:Value}(ry:RelV y u)(rx:RelV x v)(fy:ze4 y=true)(fx:ze4 x=true):SeqAt.EqAt A s u v (eqV y x):=by
 cases y with
 | non =>
  cases ry
  cases x with
  | non=>cases rx;exact SeqAt.EqAt.same _
  | bl b=>cases rx;exact SeqAt.EqAt.none_bool b
  | int b=>obtain⟨t,rfl⟩:=rx;exact SeqAt.EqAt.none_int b t
  | str b=>obtain⟨t,rfl⟩:=rx;exact SeqAt.EqAt.none_str b t
  | _=>exact absurd (show false=true from fx) Xaj
 | bl a =>
  cases ry
  cases x with
  | non=>cases rx;exact SeqAt.EqAt.bool_none a
  | bl b=>cases rx;exact SeqAt.EqAt.bool_bool a b
  | int b=>obtain⟨t,rfl⟩:=rx;exact SeqAt.EqAt.bool_int a b t
  | str b=>obtain⟨t,rfl⟩:=rx;exact SeqAt.EqAt.bool_str a b t
  | _=>exact absurd (show false=true from fx) Xaj
 | int a =>
  obtain⟨t',rfl⟩:=ry
  cases x with
  | non=>cases rx;exact SeqAt.EqAt.int_none a t'
  | bl b=>cases rx;exact SeqAt.EqAt.int_bool a t' b
  | int b=>obtain⟨t,rfl⟩:=rx;exact SeqAt.EqAt.int_int a t' b t
  | str b=>obtain⟨t,rfl⟩:=rx;exact SeqAt.EqAt.int_str a t' b t
  | _=>exact absurd (show false=true from fx) Xaj
 | str a =>
  obtain⟨t',rfl⟩:=ry
  cases x with
  | non=>cases rx;exact SeqAt.EqAt.str_none a t'
  | bl b=>cases rx;exact SeqAt.EqAt.str_bool a t' b
  | int b=>obtain⟨t,rfl⟩:=rx;exact SeqAt.EqAt.str_int a t' b t
  | str b=>obtain⟨t,rfl⟩:=rx;exact SeqAt.EqAt.str_str a t' b t
  | _=>exact absurd (show false=true from fx) Xaj
 | _=>exact absurd (show false=true from fy) Xaj
def eqU(x:V)(u:Value):Bool:=match u with
 | .none=>eqV .non x
 | .bool b=>eqV (.bl b) x
 | .int i _=>eqV (.int i) x
 | .str z _=>eqV (.str z) x
 | _=>false
def zlt{x y:V}{u:Value}(r:RelV y u)(f:ze4 y=true):eqU x u=eqV y x:=by
 cases y with
 | non=>cases r;rfl
 | bl b=>cases r;rfl
 | int i=>obtain⟨t,rfl⟩:=r;rfl
 | str z=>obtain⟨t,rfl⟩:=r;rfl
 | _=>exact absurd (show false=true from f) Xaj
def zei{x:V}:∀{xs:List V} {us:List Value},Vals xs us->xs.all ze4=true->us.any (eqU x)=xs.any λy=>eqV y x
 | _,_,.nil,_=>rfl
 | y::xs,u::us,.cons r t,f=>by
  rw[List.all_cons,Xa0] at f
  rw[List.any_cons,List.any_cons,zlt r f.1,zei t f.2]
def zcM{A:Around}{s:Shared}{x:V}{v:Value}(rx:RelV x v)(fx:ze4 x=true):∀{xs:List V} {us:List Value},Vals xs us->xs.all ze4=true->∀u∈us,SeqAt.EqAt A s u v (eqU x u)
 | _,_,.nil,_=>λu hu=>by cases hu
 | y::xs,u::us,.cons r t,f=>λu' hu=>by
  rw[List.all_cons,Xa0] at f
  rcases Xan.mp hu with rfl|hu
  .rw[zlt r f.1];exact zlu r rx f.1 fx
  .exact zcM rx fx t f.2 u' hu
def inV(x:V)(xs:List V):Bool:=xs.any λy=>eqV y x
inductive rIn(K:W.Frag)(neg:Bool)(x:V)(y:V)(H:Hp)(Q:VK):Prop
 | mk p xs(_:y=.ref p)(_:(SqL K H p xs\/SqT K H p xs))(_:ze4 x=true)(_:xs.all ze4=true)(_:Q (.bl (if neg then !inV x xs else inV x xs)) H)
def zi2:OpR X (compareOp .In) (rIn X.K false):=by
 intro pins s U H x y v u Q I rx ry h
 obtain⟨p,xs,rfl,hq,fx,fs,q⟩:=h
 cases ry
 rcases hq with hq|hq
 .obtain⟨its,r,pl,hz⟩:=I.list hq
  refine SeqAt.in_listAt (eqU x) pl.isList (λw hw=>zcM rx fx r fs w (by simpa using hw)) {.bl _,H,I,O,?_}
  rw[show its.toArray.any (eqU x)=its.any (eqU x) by simp,zei r fs]
  exact q
 .obtain⟨its,r,pl,hz⟩:=I.tuple hq
  refine SeqAt.in_tupleAt (eqU x) pl (λw hw=>zcM rx fx r fs w (by simpa using hw)) {.bl _,H,I,O,?_}
  rw[show its.toArray.any (eqU x)=its.any (eqU x) by simp,zei r fs]
  exact q
def zfs:OpR X (compareOp .NotIn) (rIn X.K true):=by
 intro pins s U H x y v u Q I rx ry h
 obtain⟨p,xs,rfl,hq,fx,fs,q⟩:=h
 cases ry
 rcases hq with hq|hq
 .obtain⟨its,r,pl,hz⟩:=I.list hq
  refine SeqAt.notIn_listAt (eqU x) pl.isList (λw hw=>zcM rx fx r fs w (by simpa using hw)) {.bl _,H,I,O,?_}
  rw[show its.toArray.any (eqU x)=its.any (eqU x) by simp,zei r fs]
  exact q
 .obtain⟨its,r,pl,hz⟩:=I.tuple hq
  refine SeqAt.notIn_tupleAt (eqU x) pl (λw hw=>zcM rx fx r fs w (by simpa using hw)) {.bl _,H,I,O,?_}
  rw[show its.toArray.any (eqU x)=its.any (eqU x) by simp,zei r fs]
  exact q
def zam:zbL X (.builtin "len") (λxs H Q=>∃p ys,xs=[.ref p]/\(SqL X.K H p ys\/SqT X.K H p ys)/\Q (.int ys.length) H):=by
 intro pins s U H xs us Q I r h
 obtain⟨p,ys,rfl,hq,q⟩:=h
 obtain⟨u,rfl,rx⟩:=zbW r
 cases rx
 have hn:=zdk
 rcases hq with hq|hq
 .obtain⟨its,r',pl,hz⟩:=I.list hq
  have hlen:=r'.length
  exact Calls.call_len_list pl.isList (by simp only[Xaq]<;>omega) {.int ys.length,H,I.tok _,{s.toks+1,by rw[Xaq,hlen]},q}
 .obtain⟨its,r',pl,hz⟩:=I.tuple hq
  have hlen:=r'.length
  exact len_tuple pl (by simp only[Xaq]<;>omega) {.int ys.length,H,I.tok _,{s.toks+1,by rw[Xaq,hlen]},q}
def zdl:zbL X (.builtin "len") (λxs H Q=>∃z,xs=[.str z]/\z.length<=sizeLine/\Q (.int z.length) H):=by
 intro pins s U H xs us Q I r h
 obtain⟨z,rfl,hz,q⟩:=h
 obtain⟨u,rfl,t,rfl⟩:=zbW r
 have hn:=zdk
 exact len_str (by omega) {.int z.length,H,I.tok _,{_,O},q}
def zbw:zbL X (.type "list") (λxs H Q=>∃p ys,xs=[.ref p]/\(SqL X.K H p ys\/SqT X.K H p ys)/\∀l,H l=none->Q (.ref l) (upd H l (.lst ys))):=by
 intro pins s U H xs us Q I r h
 obtain⟨p,ys,rfl,hq,q⟩:=h
 obtain⟨u,rfl,rx⟩:=zbW r
 cases rx
 have fin:∀(its:List Value),Vals ys its->ys.length<=sizeLine->∀(h':Heap) (c':Nat),(∀b o',s.heap.get? b=some o'->h'.get? b=some o') ->
   h'.get? s.heap.objs.size=some {cls:=.type "list",dict:=none,data:=.seq its.toArray c',slots:=#[]}->EP X pins U Q (.ref s.heap.objs.size) {s with heap:=h'}:=λits r' hz h' c' kp e =>
  {.ref s.heap.objs.size,_,I.laid (t':=s.toks) kp (Xad _) (show ObjOk X.prog X.w _ h' _ (.lst ys) from⟨hz,its,c',r',e⟩),O,q _ (I.hok.fresh (Xad _))}
 rcases hq with hq|hq
 .obtain⟨its,r',pl,hz⟩:=I.list hq
  have hlen:=r'.length
  obtain⟨o,ho,hc,n,hd⟩:=pl.isList
  exact call_list_seq p (.inl O) ho hc hd (λh' c' kp e=>fin its r' hz h' c' kp e) (by simp only[Xaq]<;>omega)
 .obtain⟨its,r',pl,hz⟩:=I.tuple hq
  have hlen:=r'.length
  obtain⟨o,ho,hc,n,hd⟩:=pl
  exact call_list_seq p (.inr O) ho hc hd (λh' c' kp e=>fin its r' hz h' c' kp e) (by simp only[Xaq]<;>omega)
def zbT:zbL X (.type "tuple") (λxs H Q=>∃p ys,xs=[.ref p]/\((SqL X.K H p ys/\∀l,H l=none->Q (.ref l) (upd H l (.tup ys)))\/(SqT X.K H p ys/\Q (.ref p) H))):=by
 intro pins s U H xs us Q I r h
 obtain⟨p,ys,rfl,h⟩:=h
 obtain⟨u,rfl,rx⟩:=zbW r
 cases rx
 rcases h with⟨hq,q⟩|⟨hq,q⟩
 .obtain⟨its,r',pl,hz⟩:=I.list hq
  have hlen:=r'.length
  refine call_tuple_list pl.isList (λh' kp=>?_) (by simp only[Xaq]<;>omega)
  have I1:Inv X pins U H {s with heap:=h'}:=I.kept (t':=s.toks) kp
  have I2:Inv X pins U (upd H h'.objs.size (.tup ys)) {s with heap:=h'.push {cls:=.type "tuple",data:=.seq its.toArray}}:=
   I1.laid (t':=s.toks) (λb o e=>Xab _ e) (Xad _) (show ObjOk X.prog X.w _ _ _ (.tup ys) from{{hz,_,Xag _ O,O},its,r',IsTup.new _ _})
  exact{.ref h'.objs.size,_,I2,O,q _ (I1.hok.fresh (Xad _))}
 .obtain⟨its,r',pl,hz⟩:=I.tuple hq
  exact call_tuple_same pl {.ref p,H,I,O,q}
def tyV(K:W.Frag)(T:String)(x:V)(H:Hp):Prop:=match x with
 | .str _=>T="str"
 | .int _=>T="int"
 | .ref p=>(T="list" /\ ∃xs,SqL K H p xs)\/(T="tuple" /\ ∃o,K.lookup p=some o/\o.cls=.type "tuple" /\ o.dict=none) \/
   (T="dict" /\ ((∃kvs,H p=some (.dK kvs))\/∃kvs,H p=some (.dT kvs)))\/(T="set" /\ ∃S n,H p=some (.set S n))
 | _=>False
def tyV_is{pins:List (Addr×Obj)}{U:St}{H:Hp}{s:Shared}{T:String}{x:V}{v:Value}(I:Inv X pins U H s)(r:RelV x v)(ty:tyV X.K T x H) :
  s.TypeIs v T/\∀a,v=.ref a->∃ob,s.heap.get? a=some ob/\ob.dict=none:=by
 cases x with
 | str z =>
  obtain⟨t,rfl⟩:=r
  cases(show T="str" from ty)
  exact{typeIs_str s z t,λ_ e=>nomatch e}
 | int i =>
  obtain⟨t,rfl⟩:=r
  cases(show T="int" from ty)
  exact{typeIs_int s i t,λ_ e=>nomatch e}
 | ref p =>
  cases r
  rcases ty with⟨rfl,xs,hq⟩|⟨rfl,o,hk,hc,hd⟩|⟨rfl,hk⟩|⟨rfl,S,n,hk⟩
  .obtain⟨its,_,pl,_⟩:=I.list hq
   refine{pl.isList.typeIs,λa e=>?_}
   cases e
   obtain⟨o,n,e,c,hd,_⟩:=pl
   exact⟨o,e,hd⟩
  .refine{{o,I.kIn p o hk,hc},λa e=>?_}
   cases e
   exact{o,I.kIn _ o hk,hd}
  .have z:∃o,s.heap.get? p=some o/\o.ExactDict:=by
    rcases hk with⟨kvs,hk⟩|⟨kvs,hk⟩
    .obtain⟨_,_,_,_,o,_,_,e,ex,_⟩:=I.hok p _ hk
     exact⟨o,e,ex⟩
    .obtain⟨_,_,_,_,o,_,_,e,ex,_⟩:=I.hok p _ hk
     exact⟨o,e,ex⟩
   obtain⟨o,e,ex⟩:=z
   refine{⟨o,e,ex.1⟩,λa e2=>?_}
   cases e2
   exact⟨o,e,ex.2.1⟩
  .obtain⟨o,_,_,_,e,ex,_⟩:=I.hok p _ hk
   refine{⟨o,e,ex.1⟩,λa e2=>?_}
   cases e2
   exact⟨o,e,ex.2.1⟩
 | _=>exact False.elim ty
def tBM(K:W.Frag)(T:String)(r:V->List V->Hp->VK->Prop)(to:TE)(t:TA):TE:=λU H Q=>to U H λx H1=>tyV K T x H1/\t U H1 λxs H2=>r x xs H2 Q
variable{o e:Expr}{es:List Expr}{to:TE}{t:TA}{name:Str}{apos cpos:Pos}{T id:String}{r:V->List V->Hp->VK->Prop}
def zda(pa:PlainAttrs T)(slot:Slot T name id)(hty:typeOf (.builtin id)=pure (.type "method_descriptor"))(hm:MtR X id r)(ho:PE X o to)(ha:PA X (e::es) t)
  (hbase:attributeBase o name X.env (eval o X.env)=eval o X.env:=by rfl)
  (hfew:((backTo cpos (starEach (e::es) X.env)).all (λx=>!x.1)&&(backToKw cpos (keywordEach [] X.env)).all (λx=>x.1.isSome)
   && decide ((e::es).length+([]:List Keyword).length+(if([]:List Keyword).isEmpty then 0 else 1)<30))=true:=by rfl)
  (hline:(apos.endLine==cpos.line)=true:=by rfl) (hs:starEach (e::es) X.env=(false,eval e X.env)::starEach es X.env:=by rfl) (hplain:(backTo cpos (starEach es X.env)).any (·.1)=false:=by rfl) :
  PE X (.Call (.Attribute o name apos) (e::es) [] cpos) (tBM X.K T r to t):=by
 intro pins s U H Q I h
 refine wpAny_Call_method_late hbase hfew hline O (thn (ho pins s U H _ I h) λv s1 hh_=>?_)
 obtain⟨x,H1,I1,r1,ty,q1⟩:=hh_
 obtain⟨h1,h2⟩:=tyV_is I1 r1 ty
 refine{T,id,pa,slot,hty,h1,h2,?_}
 have hA:=ha cpos pins s1 U H1 _ I1 q1
 rw[hs] at hA ⊢
 refine Calls.callWith_builtin (by show(false || (backTo cpos (starEach es X.env)).any (·.1))=false;rw[hplain]<;>rfl) (Calls.evalArgs_plain ?_)
 exact thn hA λus s2 ⟨vs,H2,I2,r2,q2⟩=>hm pins s2 U H2 x vs v us Q I2 r1 r2 q2
end
def MtM(X:Cx)(id:String)(r:V->List V->Hp->VK->Prop):Prop:=
 ∀(pins:List (Addr×Obj)) (s:Shared) (U:St) (H:Hp) (x:V) (xs:List V) (v:Value) (us:List Value) (Q:VK),Inv X pins U H s->RelV x v->Vals xs us->r x xs H Q ->
  wpAny (model X.prog X.w) X.A (call (.builtin id) (v::us)) (EP X pins U Q) X.xe s
def Vals.one:∀{x:V} {us:List Value},Vals [x] us->∃u,us=[u]/\RelV x u
 | _,_,.cons r .nil=>{_,O,r}
def Vals.two:∀{x y:V} {us:List Value},Vals [x,y] us->∃u v,us=[u,v]/\RelV x u/\RelV y v
 | _,_,_,.cons r (.cons q .nil)=>{_,_,O,r,q}
def Vals.eraseIdx:∀{xs:List V} {us:List Value} (i:Nat),Vals xs us->Vals (xs.eraseIdx i) (us.eraseIdx i)
 | _,_,_,.nil=>.nil
 | _,_,0,.cons _ t=>t
 | _,_,i+1,.cons r t=>.cons r (Vals.eraseIdx i t)
def Vals.rep{xs:List V}{us:List Value}(h:Vals xs us):∀k:Nat,Vals (List.replicate k xs).flatten (List.replicate k us).flatten
 | 0=>.nil
 | k+1=>by
  rw[Xa8,Xa8,List.flatten_cons,List.flatten_cons]
  exact Vals.append h (Vals.rep h k)
def zfD{α:Type}:∀(l:List α) (i:Nat),(l.eraseIdx i).length<=l.length
 | [],_=>Xad _
 | _::_,0=>Xbv _
 | _::r,i+1=>Nat.succ_le_succ (zfD r i)
def zfP(its:List Value):∀(k:Nat) (acc:List Value),
  List.foldl (λx1 x2=>x1++x2) acc.toArray (List.replicate k its.toArray)=(acc++(List.replicate k its).flatten).toArray
 | 0,acc=>by simp
 | k+1,acc=>by
  have e:acc.toArray++its.toArray=(acc++its).toArray:=by simp
  have e2:(acc++its)++(List.replicate k its).flatten=acc++(List.replicate (k+1) its).flatten:=by
   rw[Xa8,List.flatten_cons,List.append_assoc]
  rw[<- e2,<- zfP its k (acc++its),<- e,Xa8,List.foldl_cons]
section
variable{X:Cx}{pins:List (Addr×Obj)}{U:St}{H:Hp}{s:Shared}{l b:Addr}{xs ys zs:List V}
def Inv.lset{its its':List Value}{n:Nat}{f:Array Value->Array Value}{t':Nat}(I:Inv X pins U H s)(hH:H l=some (.lst xs))
  (e:s.heap.get? l=some {cls:=.type "list",data:=.seq its.toArray n}) (hf:f its.toArray=its'.toArray) (hv:Vals ys its') (hz:ys.length<=sizeLine) :
  Inv X pins U (upd H l (.lst ys)) {s with heap:=s.heap.update l (Obj.mapSeq f),toks:=t'}:=by
 have q:=PySem.IsL.update e f
 rw[hf] at q
 refine I.write (x:=l) (e:=l) (by rw[hH];exact trivial) (.inl O) (λb' u hb hu=>(XaM s.heap (Obj.mapSeq f) (Ne.symm hb)).trans hu) {_,q} ?_
 exact{hz,its',_,hv,q}
def Inv.lnew{its:List Value}{t':Nat}(I:Inv X pins U H s)(hv:Vals ys its)(hz:ys.length<=sizeLine) :
  Inv X pins U (upd H s.heap.objs.size (.lst ys)) {s with heap:=s.heap.push {cls:=.type "list",data:=.seq its.toArray},toks:=t'}:=
 I.laid (λ_ _ q=>Xab _ q) (Xad _) {hz,its,0,hv,Xag _ O}
def Inv.fresh(I:Inv X pins U H s):H s.heap.objs.size=none:=I.hok.fresh (Xad _)
def Inv.lstM(I:Inv X pins U H s)(hH:H l=some (.lst xs)):xs.length<=sizeLine/\∃(its:List Value) (n:Nat),Vals xs its/\xs.length=its.length/\s.heap.get? l=some {cls:=.type "list",data:=.seq its.toArray n}:=by
 obtain⟨z,its,n,r,e⟩:=I.hok l _ hH
 exact⟨z,its,n,r,r.length,e⟩
def zkx{n:Nat}(h:n<=sizeLine):Builtin.List.listTooLong n=false:=by
 unfold Builtin.List.listTooLong
 exact Xam (by omega)
end
section
variable{X:Cx}
inductive rAppend(x:V)(vs:List V)(H:Hp)(Q:VK):Prop
 | mk l xs y(_:x=.ref l)(_:vs=[y])(_:H l=some (.lst xs))(_:xs.length<sizeLine)(_:Q .non (upd H l (.lst (xs++[y]))))
def zbr:MtM X "list.append" rAppend:=by
 intro pins s U H x vs v us Q I rx rv h
 obtain⟨l,xs,y,rfl,rfl,hH,hz,q⟩:=h
 cases rx
 obtain⟨u,rfl,ru⟩:=rv.one
 obtain⟨z,its,n,r,hl,e⟩:=I.lstM hH
 refine call_meets F.slot_list_append {_,e,O} F.entry_list_append (F.args_list_append_2 _ _) (PySem.list_append l its.toArray n u (by rw[Xaq];omega)) {e,?_}
 refine{.non,_,I.lset (its':=its++[u]) hH e (by simp) (r.append (.cons ru .nil)) ?_,O,q}
 rw[Xah,List.length_singleton]
 omega
inductive rPopAt(x:V)(vs:List V)(H:Hp)(Q:VK):Prop
 | mk l xs i k y(_:x=.ref l)(_:vs=[.int i])(_:H l=some (.lst xs))(_:-(2 ^ 63)<=i)(_:i<2 ^ 63)(_:seqIndex? i xs.length=some k)(_:xs[k]?=some y)(_:Q y (upd H l (.lst (xs.eraseIdx k))))
def zky:MtM X "list.pop" rPopAt:=by
 intro pins s U H x vs v us Q I rx rv h
 obtain⟨l,xs,i,k,y,rfl,rfl,hH,h1,h2,hk,hy,q⟩:=h
 cases rx
 obtain⟨u,rfl,ru⟩:=rv.one
 obtain⟨t,rfl⟩:=ru
 obtain⟨z,its,n,r,hl,e⟩:=I.lstM hH
 obtain⟨w,hw,rw'⟩:=r.get hy
 refine call_meets F.slot_list_pop {_,e,O} F.entry_list_pop (F.args_list_pop_2 _ _)
  (MeetsSeq.list_pop_at l its.toArray n i t k w (fitsIndex_both h1 h2) (by rw[Xaq,<- hl];exact hk) (by rw[<- Xbd];exact hw) (by rw[Xaq];omega)) {e,?_}
 refine{y,_,I.lset (its':=its.eraseIdx k) hH e ?_ (r.eraseIdx k) ?_,rw',q}
 .show its.toArray.eraseIdxIfInBounds k=(its.eraseIdx k).toArray
  rw[List.eraseIdxIfInBounds_toArray]
 .have:=zfD xs k
  omega
inductive rRep(x:V)(y:V)(H:Hp)(Q:VK):Prop
 | mk l k xs(_:x=.ref l)(_:y=.int k)(_:H l=some (.lst xs))(_:-(2 ^ 63)<=k)(_:k<2 ^ 63)(_:xs.length*k.toNat<=sizeLine)(_:∀p,H p=none->Q (.ref p) (upd H p (.lst (List.replicate k.toNat xs).flatten)))
def zml{α:Type}(xs:List α)(k:Nat):(List.replicate k xs).flatten.length=k*xs.length:=by
 induction k with
 | zero=>simp
 | succ k ih=>rw[Xa8,List.flatten_cons,Xah,ih,Nat.succ_mul,Nat.add_comm]
def zi1:OpR X (binaryOp .Mult) rRep:=by
 intro pins s U H x y v u Q I rx ry h
 obtain⟨l,k,xs,rfl,rfl,hH,h1,h2,hz,q⟩:=h
 cases rx
 obtain⟨t,rfl⟩:=ry
 obtain⟨z,its,n,r,hl,e⟩:=I.lstM hH
 have hlen:its.toArray.size*k.toNat<=sizeLine:=by rw[Xaq,<- hl];exact hz
 have hcap:¬ its.toArray.size*k.toNat>(2 ^ 63-1) / 8:=by
  have:(sizeLine:Nat)<=(2 ^ 63-1) / 8:=by decide
  omega
 have hfit:¬ (!Builtin.List.listFitsIndex k)=true:=by
  rw[fitsIndex_both h1 h2]
  exact Xaj
 have hlong:¬ Builtin.List.listTooLong (its.toArray.size*k.toNat)=true:=by
  rw[zkx hlen]
  exact Xaj
 have hnew:List.foldl (λx1 x2=>x1++x2) #[] (List.replicate (if its.toArray.isEmpty=true then 0 else k.toNat) its.toArray)=(List.replicate k.toNat its).flatten.toArray:=by
  have f0:∀m:Nat,List.foldl (λx1 x2=>x1++x2) #[] (List.replicate m its.toArray)=(List.replicate m its).flatten.toArray:=λm=>by
   have:=zfP its m []
   rw[List.nil_append] at this
   exact this
  rw[f0]
  cases its with
  | nil=>simp
  | cons a r'=>rw[if_neg (by simp)]
 refine wpAny_binaryOp_repeat_ref (T := "list") (U := "int") (by decide) {_,e,O} (λs'=>typeIs_int s' k t) noFill_list_mul F.fills_int_mul F.slot_int_rmul repeat_list F.slot_int_index.lookup
  (call_meets F.slot_int_rmul (typeIs_int s k t) F.entry_int_rmul (F.args_int_rmul_2 _ _) (int___rmul___int_list k t l its.toArray n)
   {e,O,{_,e,O},call_meets F.slot_list_mul {_,e,O} F.entry_list_mul (F.args_list_mul_2 _ _) (AutoListH.list___mul___list_int_3 l its.toArray n k t hfit hcap hlong) {e,?_}})
 rw[hnew]
 exact{.ref _,_,I.lnew (t':=s.toks) (r.rep k.toNat) (by rw[zml,Nat.mul_comm];exact hz),O,q _ I.fresh}
end
section
variable{prog:Program}{w:World}{A:Around}{E:Value->Shared->Prop}{s:Shared}
end
section
variable{X:Cx}
end
section
variable{κ:Type}[DecidableEq κ]
def valV(kvs:List (κ×V))(k:κ):Option V:=(kvs.find? λkv=>decide (kv.1=k)).map (·.2)
def putK(kvs:List (κ×V))(k:κ)(v:V):List (κ×V):=
 if(kvs.any λkv=>decide (kv.1=k))=true then kvs.map (λkv=>if kv.1=k then(kv.1,v) else kv) else kvs++[(k,v)]
def za5{p:κ×V}{r:List (κ×V)}{k:κ}(e:p.1=k):valV (p::r) k=some p.2:=by simp[valV,List.find?_cons,e]
def za6{p:κ×V}{r:List (κ×V)}{k:κ}(e:¬ p.1=k):valV (p::r) k=valV r k:=by simp[valV,List.find?_cons,e]
def zeC(k:κ):∀kvs:List (κ×V),(kvs.any λkv=>decide (kv.1=k))=(valV kvs k).isSome
 | []=>rfl
 | p::r=>by
  rw[List.any_cons]
  by_cases e:p.1=k
  .simp only[za5 e,Xal e,Bool.true_or,Option.isSome_some]
  .rw[za6 e,Xam e,Bool.false_or];exact zeC k r
def zd8(kvs:List (κ×V))(k:κ)(v:V):(putK kvs k v).length<=kvs.length+1:=by
 unfold putK
 split
 .rw[Xaf];omega
 .rw[Xah,Xar,XaU];omega
def zkg{kvs:List (κ×V)}{k:κ}(v:V)(h:valV kvs k=none):putK kvs k v=kvs++[(k,v)]:=by
 unfold putK
 rw[zeC,h]
 exact if_neg (by decide)
def RelO.isSome_eq{o:Option V}{u:Option Value}(r:RelO o u):o.isSome=u.isSome:=by
 cases o with
 | none=>cases u with
  | none=>rfl
  | some _=>exact(show False from r).elim
 | some _=>cases u with
  | none=>exact(show False from r).elim
  | some _=>rfl
def RelO.getD{o:Option V}{u:Option Value}{d:V}{d':Value}(r:RelO o u)(rd:RelV d d'):RelV (o.getD d) (u.getD d'):=by
 cases o with
 | none=>cases u with
  | none=>exact rd
  | some _=>exact(show False from r).elim
 | some _=>cases u with
  | none=>exact(show False from r).elim
  | some _=>exact r
def KV.val{kvs:List (κ×V)}{vs:List (κ×Value)}(r:KV kvs vs)(k:κ):RelO (valV kvs k) (valueAt vs k):=by
 unfold KV at r
 induction r with
 | nil=>exact True.intro
 | @cons p q ps qs h t ih =>
  obtain⟨h1,h2⟩:=h
  by_cases e:p.1=k
  .have e':q.1=k:=h1.symm.trans e
   have b:valueAt (q::qs) k=some q.2:=by simp[valueAt,List.find?_cons,e']
   rw[za5 e,b];exact h2
  .have e':¬ q.1=k:=λz=>e (h1.trans z)
   have b:valueAt (q::qs) k=valueAt qs k:=by simp[valueAt,List.find?_cons,e']
   rw[za6 e,b];exact ih
def KV.any{kvs:List (κ×V)}{vs:List (κ×Value)}(r:KV kvs vs)(k:κ):(kvs.any λkv=>decide (kv.1=k))=vs.any λkv=>decide (kv.1=k):=by
 unfold KV at r
 induction r with
 | nil=>rfl
 | cons h t ih=>rw[List.any_cons,List.any_cons,ih,h.1]
def KV.repl{kvs:List (κ×V)}{vs:List (κ×Value)}(r:KV kvs vs)(k:κ){y:V}{u:Value}(ry:RelV y u) :
  KV (kvs.map λkv=>if kv.1=k then(kv.1,y) else kv) (vs.map λkv=>if kv.1=k then(kv.1,u) else kv):=by
 unfold KV at r ⊢
 induction r with
 | nil=>exact .nil
 | @cons p q ps qs h t ih =>
  rw[XaR,XaR]
  refine .cons ?_ ih
  obtain⟨h1,h2⟩:=h
  by_cases e:p.1=k
  .rw[if_pos e,if_pos (h1.symm.trans e)];exact⟨h1,ry⟩
  .rw[if_neg e,if_neg (λz=>e (h1.trans z))];exact⟨h1,h2⟩
def KV.put{kvs:List (κ×V)}{vs:List (κ×Value)}(r:KV kvs vs)(k:κ){y:V}{u:Value}(ry:RelV y u):KV (putK kvs k y) (stored vs k u):=by
 unfold putK stored
 rw[r.any k]
 by_cases e:(vs.any λkv=>decide (kv.1=k))=true
 .rw[if_pos e,if_pos e];exact r.repl k ry
 .rw[if_neg e,if_neg e];exact Paired.snoc r ⟨O,ry⟩
def KV.length{kvs:List (κ×V)}{vs:List (κ×Value)}(r:KV kvs vs):kvs.length=vs.length:=Paired.length r
end
def zkF{P:Program}{w:World}{k:Key}{u:Value}(r:RelV (kV k) u):(zaR P w).is k u=true:=by
 cases k with
 | inl i=>obtain⟨t,e⟩:=(show∃t,u=Value.int i t from r);subst e;exact zaV P w i t
 | inr x=>obtain⟨t,e⟩:=(show∃t,u=Value.str x t from r);subst e;exact zaU P w x t
def zfH{P:Program}{w:World}:∀{ks:List Key} {us:List Value},Vals (ks.map kV) us->ItemsAre (zaR P w) ks us
 | [],_,r=>by rw[List.map_nil] at r;cases r;exact .nil
 | k::ks,_,r=>by
  rw[XaR] at r
  cases r with
  | cons h t=>exact .cons (zkF h) (zfH t)
abbrev KT(H:Hp):List (List Key×V)->List (List Key×Addr×Value)->Prop:=Paired λp q=>p.1=q.1/\H q.2.1=some (.tup (p.1.map kV))/\RelV p.2 q.2.2
def KT.val{H:Hp}{kvs:List (List Key×V)}{xs:List (List Key×Addr×Value)}(r:KT H kvs xs)(k:List Key):RelO (valV kvs k) ((atKey xs k).map (·.2)):=by
 induction r with
 | nil=>exact True.intro
 | @cons p q ps qs h t ih =>
  obtain⟨h1,_,h2⟩:=h
  by_cases e:p.1=k
  .have e':q.1=k:=h1.symm.trans e
   have b:atKey (q::qs) k=some q.2:=by simp[atKey,List.find?_cons,e']
   rw[za5 e,b];exact h2
  .have e':¬ q.1=k:=λz=>e (h1.trans z)
   have b:atKey (q::qs) k=atKey qs k:=by simp[atKey,List.find?_cons,e']
   rw[za6 e,b];exact ih
def KT.repl{H:Hp}{kvs:List (List Key×V)}{xs:List (List Key×Addr×Value)}(r:KT H kvs xs)(k:List Key){y:V}{u:Value}(ry:RelV y u) :
  KT H (kvs.map λkv=>if kv.1=k then(kv.1,y) else kv) (xs.map (putAt k u)):=by
 induction r with
 | nil=>exact .nil
 | @cons p q ps qs h t ih =>
  rw[XaR,XaR]
  refine .cons ?_ ih
  obtain⟨h1,h2,h3⟩:=h
  unfold putAt
  by_cases e:p.1=k
  .rw[if_pos e,if_pos (h1.symm.trans e)];exact⟨h1,h2,ry⟩
  .rw[if_neg e,if_neg (λz=>e (h1.trans z))];exact⟨h1,h2,h3⟩
def KT.put{H:Hp}{kvs:List (List Key×V)}{xs:List (List Key×Addr×Value)}(r:KT H kvs xs)(k:List Key){b:Addr}{y:V}{u:Value}(hb:H b=some (.tup (k.map kV)))(ry:RelV y u) :
  KT H (putK kvs k y) (storedH xs k b u):=by
 have e:(kvs.any λkv=>decide (kv.1=k))=(atKey xs k).isSome:=by
  rw[zeC,(r.val k).isSome_eq,Option.isSome_map]
 unfold putK storedH
 rw[e]
 by_cases q:(atKey xs k).isSome=true
 .rw[if_pos q,if_pos q];exact r.repl k ry
 .rw[if_neg q,if_neg q];exact Paired.snoc r ⟨O,hb,ry⟩
def KT.keeps{H H':Hp}{kvs:List (List Key×V)}{xs:List (List Key×Addr×Value)}(r:KT H kvs xs)(ht:∀b ys,H b=some (.tup ys)->H' b=some (.tup ys)):KT H' kvs xs:=
 Paired.mapP r λ_ _ z=>{z.1,ht _ _ z.2.1,z.2.2}
section
variable{P:Program}{w:World}{H:Hp}{h:Heap}{a:Addr}
def rd_of{u:HO}(ok:HOk P w H h)(e:Rd H a u):ObjOk P w H h a u:=e.ok ok
def zkU{kvs:List (Key×V)}(ok:HOk P w H h)(e:Rd H a (.dK kvs)):kvs.length<=sizeLine/\(a==sysModules)=false/\∃vs,KV kvs vs/\h.DictOf (zaR P w) a vs:=
 show ObjOk P w H h a (.dK kvs) from rd_of ok e
def dk_of{kvs:List (Key×V)}(ok:HOk P w H h)(e:H a=some (.dK kvs)):kvs.length<=sizeLine/\(a==sysModules)=false/\∃vs,KV kvs vs/\h.DictOf (zaR P w) a vs:=zkU ok (.inl e)
def zfF{ks:List Key}(ok:HOk P w H h)(e:H a=some (.tup (ks.map kV))):(tupleKind (zaR P w)).is h ks a:=by
 obtain⟨_,its,r,o,h1,h2,n,h3⟩:=(show ObjOk P w H h a (.tup (ks.map kV)) from ok a _ e)
 exact{o,its.toArray,n,h1,h2,h3,by simpa using zfH r}
def zkS{kvs:List (List Key×V)}(ok:HOk P w H h)(e:Rd H a (.dT kvs)):kvs.length<=sizeLine/\(a==sysModules)=false /\
  ∃xs,KT H kvs xs/\h.DictOfH (tupleKind (zaR P w)) a xs:=by
 obtain⟨z,y,xs,r,o,es,ep,h1,h2,h3,h4,h5⟩:=(show ObjOk P w H h a (.dT kvs) from rd_of ok e)
 refine{z,y,xs,r,o,es,ep,h1,h2,h3,h4,λx hx=>?_,h5}
 have all:∀{l:List (List Key×V)} {m:List (List Key×Addr×Value)},KT H l m->∀x∈m,(tupleKind (zaR P w)).is h x.1 x.2.1:=by
  intro l m q
  induction q with
  | nil=>intro x hx;exact nomatch hx
  | @cons p q ps qs hq t ih =>
   intro x hx
   rcases Xan.mp hx with e|hx
   .subst e
    exact zfF ok (by rw[<- hq.1];exact hq.2.1)
   .exact ih x hx
 exact all r x hx
def dt_of{kvs:List (List Key×V)}(ok:HOk P w H h)(e:H a=some (.dT kvs)):kvs.length<=sizeLine/\(a==sysModules)=false /\
  ∃xs,KT H kvs xs/\h.DictOfH (tupleKind (zaR P w)) a xs:=zkS ok (.inl e)
end
def DGet(H:Hp)(a:Addr)(y:V)(r:Option V):Prop:=
 (∃kvs k,Rd H a (.dK kvs)/\y=kV k/\r=valV kvs k)\/∃kvs k b,Rd H a (.dT kvs)/\y=.ref b/\H b=some (.tup (k.map kV))/\r=valV kvs k
def DPut(H:Hp)(a:Addr)(y v:V)(H':Hp):Prop:=
 (∃kvs k,H a=some (.dK kvs)/\y=kV k/\kvs.length<sizeLine/\H'=upd H a (.dK (putK kvs k v))) \/
 ∃kvs k b,H a=some (.dT kvs)/\y=.ref b/\H b=some (.tup (k.map kV))/\kvs.length<sizeLine/\H'=upd H a (.dT (putK kvs k v))
def DGet.k{H:Hp}{a:Addr}{kvs:List (Key×V)}{k:Key}(e:H a=some (.dK kvs)):DGet H a (kV k) (valV kvs k):=.inl {kvs,k,.inl e,O,O}
def DPut.k{H:Hp}{a:Addr}{kvs:List (Key×V)}{k:Key}{v:V}(e:H a=some (.dK kvs))(hl:kvs.length<sizeLine):DPut H a (kV k) v (upd H a (.dK (putK kvs k v))):=.inl ⟨kvs,k,e,O,hl,O⟩
section
variable{X:Cx}{pins:List (Addr×Obj)}{U:St}{H:Hp}{s:Shared}{a:Addr}{y v:V}{u r:Value}{o:Option V}{A:Around}{E:Value->Shared->Prop}
def Inv.big(I:Inv X pins U H s):sysModules<s.heap.objs.size:=by
 have h:mainGlobals<s.heap.objs.size:=(I.mod.glob.keeps I.bk).lt
 exact Nat.lt_trans (by decide) h
def zjB{Q:Value->Shared->Prop}(hu:A.units+1<cLine)(I:Inv X pins U H s)(g:DGet H a y (some v))(ry:RelV y u)(h:∀w' s',Inv X pins U H s'->RelV v w'->Q w' s') :
  wpAny (model X.prog X.w) A (getItem (.ref a) u) Q E s:=by
 rcases g with⟨kvs,k,e,ey,l⟩|⟨kvs,k,b,e,ey,eb,l⟩
 .subst ey
  obtain⟨z,hd,vs,rel,dd⟩:=zkU I.hok e
  obtain⟨w',hw,rw'⟩:=RelO.some_of (v:=v) (o:=valueAt vs k) (by rw[l];exact rel.val k)
  exact wpAny_getItem_of (zkF ry) dd.mapOf hw (h w' _ (I.tok _) rw')
 .subst ey
  cases(show u=Value.ref b from ry)
  obtain⟨z,hd,xs,rel,dd⟩:=zkS I.hok e
  obtain⟨w',hw,rw'⟩:=RelO.some_of (v:=v) (o:=(atKey xs k).map (·.2)) (by rw[l];exact rel.val k)
  obtain⟨p,hp,hp2⟩:=XaD.mp hw
  refine wpAny_getItem_heap (tupleKind_room_in1 hu) (zfF I.hok eb) dd hp ?_
  rw[hp2]
  exact h w' _ (I.tok _) rw'
def zmA{Q:Value->Shared->Prop}(hu:A.units+1<cLine)(I:Inv X pins U H s)(g:DGet H a y o)(ry:RelV y u)(h:∀s',Inv X pins U H s'->Q (.bool (!o.isSome)) s') :
  wpAny (model X.prog X.w) A (compareOp .NotIn u (.ref a)) Q E s:=by
 rcases g with⟨kvs,k,e,ey,l⟩|⟨kvs,k,b,e,ey,eb,l⟩
 .subst ey
  obtain⟨z,hd,vs,rel,dd⟩:=zkU I.hok e
  refine wpAny_notIn_of (zkF ry) hd dd.mapOf ?_
  rw[<- (rel.val k).isSome_eq,<- l]
  exact h _ (I.tok _)
 .subst ey
  cases(show u=Value.ref b from ry)
  obtain⟨z,hd,xs,rel,dd⟩:=zkS I.hok e
  refine wpAny_notIn_heap (tupleKind_room_in1 hu) (zfF I.hok eb) hd dd ?_
  have q:=(rel.val k).isSome_eq
  rw[Option.isSome_map] at q
  rw[<- q,<- l]
  exact h _ (I.tok _)
def zjz{h':Heap}{t':Nat}{ob:HO}(I:Inv X pins U H s)(mu:Mut (H a))(hs:Heap.SameBut a s.heap h')(he:∃q,h'.get? a=some q)(new:ObjOk X.prog X.w (upd H a ob) h' a ob) :
  Inv X pins U (upd H a ob) {s with heap:=h',toks:=t'}:=
 I.write (x:=a) (e:=a) mu (.inl O) (λb q hb z=>(hs.2 b hb).trans z) he new
def dk_new{P:Program}{w:World}{H':Hp}{h':Heap}{kvs:List (Key×V)}{vs:List (Key×Value)}(z:kvs.length<=sizeLine)(hd:(a==sysModules)=false)(rel:KV kvs vs)(dd:h'.DictOf (zaR P w) a vs) :
  ObjOk P w H' h' a (.dK kvs):=⟨z,hd,vs,rel,dd⟩
def zjA{H':Hp}{Q:Unit->Shared->Prop}(hu:A.units+1<cLine)(I:Inv X pins U H s)(g:DPut H a y v H')(ry:RelV y u)(rv:RelV v r)(h:∀s',Inv X pins U H' s'->Q () s') :
  wpAny (model X.prog X.w) A (setItem (.ref a) u r) Q E s:=by
 rcases g with⟨kvs,k,e,ey,l,eH⟩|⟨kvs,k,b,e,ey,eb,l,eH⟩
 .subst ey eH
  obtain⟨z,hd,vs,rel,dd⟩:=dk_of I.hok e
  have hz:vs.length<=sizeLine:=by rw[<- rel.length];exact z
  have hl:(putK kvs k v).length<=sizeLine:=by have:=zd8 kvs k v;omega
  refine wpAny_setItem_pairs (hsz:=hz) (zkF ry) dd λh' dd' hs=>h _ ?_
  have he:∃q,h'.get? a=some q:=let⟨q,_,_,hq,_⟩:=dd';⟨q,hq⟩
  exact zjz I (by rw[e];exact True.intro) hs he (dk_new hl hd (rel.put k rv) dd')
 .subst ey eH
  cases(show u=Value.ref b from ry)
  obtain⟨z,hd,xs,rel,dd⟩:=dt_of I.hok e
  have hz:xs.length<=sizeLine:=by rw[<- Paired.length rel];exact z
  have hl:(putK kvs k v).length<=sizeLine:=by have:=zd8 kvs k v;omega
  refine wpAny_setItem_heap (hsz:=hz) (tupleKind_room_in1 hu) (zfF I.hok eb) dd λh' dd' hs=>h _ ?_
  obtain⟨q,es,ep,hq,h2,h3,h4,_,h5⟩:=dd'
  refine zjz I (by rw[e];exact True.intro) hs ⟨q,hq⟩ {hl,hd,_,(rel.put k eb rv).keeps λc ys ec=>?_,q,es,ep,hq,h2,h3,h4,h5}
  rw[zah (ne_of ec e (λz=>nomatch z))]
  exact ec
end
section
variable{X:Cx}{pins:List (Addr×Obj)}{U:St}{H:Hp}{s:Shared}{a:Addr}{kvs:List (Key×V)}{k:Key}{u:Value}{A:Around}{E:Value->Shared->Prop}
end
def NoSl(i:Expr):Prop:=∀ov iv,subscripted i false ov iv=operate [ov,iv] (getItem ov iv)
def zlM{prog:Program}{w:World}{A:Around}{E:Value->Shared->Prop}{s:Shared}{env:Env}{value slice:Expr}{pos:Pos}{T id:String}{Q:Value->Shared->Prop}
  (hl:typeLookup (.type T) "__getitem__"=pure (some (.builtin id))) (hs:NoSl slice)
  (h:wpAny (model prog w) A (eval value env) (λo s₁=>wpAny (model prog w) A (eval slice env) (λi s₂=>s₂.TypeIs o T/\wpAny (model prog w) A (getItem o i) Q E s₂) E s₁) E s) :
  wpAny (model prog w) A (eval (.Subscript value slice pos) env) Q E s:=by
 refine Subscript_ (Xav h (λo s₁ h₁=>Xav h₁ (λi s₂ h₂=>?_) λ_ _ x=>x) λ_ _ x=>x)
 obtain⟨hT,h₂⟩:=h₂
 unfold subscriptTail
 refine Xaa ?_
 rw[getitemInPython_of_ne hT.not_modules]
 refine Xaa (wpAny_specialOf hT hl ?_)
 have fin:wpAny (model prog w) A (subscripted slice false o i) (λr s₃=>wpAny (model prog w) A (letTemporaryGo value o r >>= λ_=>pure r) Q E s₃) E s₂:=by
  rw[hs o i]
  exact wpAny_operating (Xav h₂ (λr s₃ h₃=>Xaa (wpAny_letTemporaryGo (Xac h₃))) λ_ _ x=>x)
 first
  | exact Xac (Xaa fin)
  | exact Xaa (Xac (Xaa fin))
  | exact Xaa fin
def zgL{X:Cx}{pins:List (Addr×Obj)}{U:St}{H:Hp}{s:Shared}{a:Addr}{y:V}{o:Option V}(I:Inv X pins U H s)(g:DGet H a y o):s.TypeIs (.ref a) "dict" := by
 rcases g with⟨kvs,k,e,_,_⟩|⟨kvs,k,b,e,_,_,_⟩
 .obtain⟨_,_,vs,_,dd⟩:=zkU I.hok e
  exact dd.typeIs
 .obtain⟨_,_,xs,_,dd⟩:=zkS I.hok e
  exact dd.typeIs
inductive tDGet_1(Q:VK)(x:V)(y:V)(H2:Hp):Prop
 | mk a v(_:x=.ref a)(_:DGet H2 a y (some v))(_:Q v H2)
def tDGet(td ty:TE):TE:=λU H Q=>td U H λx H1=>ty U H1 (tDGet_1 Q x)
inductive tDNotIn_1(Q:VK)(y:V)(x:V)(H2:Hp):Prop
 | mk a o(_:x=.ref a)(_:DGet H2 a y o)(_:Q (.bl (!o.isSome)) H2)
def zlL(ty td:TE):TE:=λU H Q=>ty U H λy H1=>td U H1 (tDNotIn_1 Q y)
inductive sDPut_1(D:Ends)(U:St)(v:V)(x:V)(y:V)(H3:Hp):Prop
 | mk a H4(_:x=.ref a)(_:DPut H3 a y v H4)(_:D.nx U H4)
def sDPut(td ty tv:TE):TS:=λD U H=>tv U H λv H1=>td U H1 λx H2=>ty U H2 (sDPut_1 D U v x)
section
variable{X:Cx}{o i e value:Expr}{pos pos' tpos:Pos}{td ty tv:TE}
def zl9(hu:X.A.units+1<cLine)(ho:PE X o td)(hi:PE X i ty)(hs:NoSl i):PE X (.Subscript o i pos) (tDGet td ty):=by
 intro pins s U H Q I h
 refine zlM PySem.F.slot_dict_getitem.lookup hs (thn (ho pins s U H _ I h) λu s1 ⟨x,H1,I1,rx,q1⟩=>thn (hi pins s1 U H1 _ I1 q1) λiv s2 hh_=>?_)
 obtain⟨y,H2,I2,ry,a,v,ex,g,q2⟩:=hh_
 subst ex
 obtain rfl:u=Value.ref a:=rx
 exact{zgL I2 g,zjB hu I2 g ry λw' s3 I3 rw'=>⟨v,H2,I3,rw',q2⟩}
def ziZ(hu:X.A.units+1<cLine)(hi:PE X i ty)(ho:PE X o td):PC X .NotIn i o (zlL ty td):=by
 intro pins s U H Q I h
 refine thn (hi pins s U H _ I h) λiv s1 ⟨y,H1,I1,ry,q1⟩=>thn (ho pins s1 U H1 _ I1 q1) λu s2 hh_=>?_
 obtain⟨x,H2,I2,rx,a,ov,ex,g,q2⟩:=hh_
 subst ex
 obtain rfl:u=Value.ref a:=rx
 exact zmA hu I2 g ry λs3 I3=>{.bl (!ov.isSome),H2,I3,O,q2}
def zlV(hu:X.A.units+1<cLine)(ho:PE X o td)(hi:PE X i ty)(hv:PE X value tv)(hs:swapsWith value (some (.Subscript o i pos')) pos.line X.env=pure false) :
  PS X (.Assign [.Subscript o i pos'] value pos) (sDPut td ty tv):=by
 intro pins s U H D I h
 refine wpAny_Assign_Subscript (thn (hv pins s U H _ I h) λr s1 ⟨v,H1,I1,rv,q1⟩=>thn (ho pins s1 U H1 _ I1 q1) λu s2 ⟨x,H2,I2,rx,q2⟩=>thn (hi pins s2 U H2 _ I2 q2) λiv s3 hh_=>?_) hs
 obtain⟨y,H3,I3,ry,a,H4,ex,g,q3⟩:=hh_
 subst ex
 obtain rfl:u=Value.ref a:=rx
 exact zjA hu I3 g ry rv λs4 I4=>⟨U,H4,I4,q3⟩
end
def zkV{P:Program}{w:World}{H:Hp}(h:Heap)(hb:sysModules<h.objs.size):ObjOk P w H (h.push {cls:=.type "dict",data:=.dict #[]}) h.objs.size (.dK []):=
 {Nat.zero_le _,beq_eq_false_iff_ne.mpr (Ne.symm (Xay hb)),[],.nil,Heap.DictOf.new h}
def tDNewK:TE:=λ_ H Q=>∀p,H p=none->Q (.ref p) (upd H p (.dK []))
section
variable{X:Cx}{pos:Pos}
def zkp:PE X (.Dict [] [] pos) tDNewK:=λpins s U H Q I h =>
 wpAny_Dict_empty {.ref s.heap.objs.size,_,I.laid (a:=s.heap.objs.size) (o:=.dK []) (t':=s.toks) (λ_ _ q=>Xab _ q) (Xad _) (zkV s.heap I.big),O,h _ (I.hok.fresh (Xad _))}
end
structure M1(X:Cx)(o:Expr)(m:Str)(apos:Pos)(e:Expr)(cpos:Pos):Prop where
 base:attributeBase o m X.env (eval o X.env)=eval o X.env
 few:((backTo cpos (starEach [e] X.env)).all (λx=>!x.1)&&(backToKw cpos (keywordEach [] X.env)).all (λx=>x.1.isSome)
  && decide (([e]:List Expr).length+([]:List Keyword).length+(if([]:List Keyword).isEmpty then 0 else 1)<30))=true
 line:(apos.endLine==cpos.line)=true
 trees:backTo cpos (starEach [e] X.env)=[(false,eval e X.env)]
section
variable{X:Cx}{pins:List (Addr×Obj)}{U:St}{H:Hp}{s:Shared}{a:Addr}{y d:V}{u r:Value}{o:Option V}{A:Around}{E:Value->Shared->Prop}
end
section
variable{X:Cx}{o e f:Expr}{apos cpos:Pos}{td ty tx:TE}
end
section
variable{X:Cx}{pins:List (Addr×Obj)}{U:St}{H:Hp}{s:Shared}{a:Addr}{kvs:List (Key×V)}{A:Around}{E:Value->Shared->Prop}
end
section
variable{X:Cx}{pins:List (Addr×Obj)}{U:St}{H:Hp}{s:Shared}{a:Addr}{y:V}{u:Value}{A:Around}{E:Value->Shared->Prop}
end
end L2
namespace Att
open PySem PySem.W PySem.Calls PyProof.Rows
def zea{P:Params}{h:Heap}:∀(ns:List Int) (vs:List Value),WellAll P h vs (ns.map WData.int)->IntsAre vs ns:=by
 intro ns
 induction ns with
 | nil =>
  intro vs w
  rw[List.map_nil] at w
  cases w
  exact .nil
 | cons n ns ih =>
  intro vs w
  rw[XaR] at w
  cases w with
  | cons a b =>
   cases a
   exact .cons _ _ (ih _ b)
def ziA{l:OpenLaw}{n:Nat}(hn:l.most=some n){P:Params}{h:Heap}{args:List WData}{vals:List Value}
  (hpre:l.row.toRowW.claim.pre args=true) (hwl:WellAll P h vals args) :
  ∃a vs ns,vals=[Value.ref a]/\args=[WData.list (ns.map WData.int)]/\h.get? a=some {cls:=.type "list",data:=.seq vs.toArray}/\IntsAre vs ns/\ns.length<=n:=by
 have hsh:WShape.hasAll [] args [.list .int]=true:=(pre_splitW hpre).1
 have hc:l.pre.holds [] {args:=args}=true:=(pre_splitW hpre).2
 obtain⟨d,r,rfl,h1,h2⟩:=hasAllW_cons hsh
 obtain rfl:=hasAllW_nil h2
 obtain⟨xs,rfl,h3⟩:=hasW_list h1
 obtain⟨ns,rfl⟩:=items_int h3
 have hlen:ns.length<=n:=by
  unfold OpenLaw.pre at hc
  have h4:(WTm.not (.lt (.lit (.int (n:Int))) (.len (.arg 0)))).holds [] {args:=[.list (ns.map .int)]}=true:=by
   have h4:=(holds_andW hc).1
   rw[hn] at h4
   exact h4
  have h5:=condW_of h4 (w_not (w_lt w_lit (w_len_list (w_arg O))))
  rw[Xaf] at h5
  refine Nat.le_of_not_lt λq=>?_
  have q':(n:Int)<((ns.length:Nat):Int):=by omega
  first
   | (rw[Xal q'] at h5;exact absurd h5 (by decide))
   | (simp at h5;omega)
 cases hwl with
 | cons w1 w2 =>
  cases w2
  cases w1 with
  | list ho hall=>exact{_,_,ns,O,O,ho,zea ns _ hall,hlen}
def ziP(l:OpenLaw)(args:List WData):l.row.toRowW.claim.post args (.bool true) args=true:=
 postW_of (r:=l.row.toRowW) (X:=(true==true))
  (show WShape.has [] (.bool true) .bool=true by first|rfl|decide|simp[WShape.has,WShape.arms,WShape.armsAll])
  (show(WTm.eq .res (.lit (.bool true))).value [] {args:=args,res:=some (.bool true),after:=args}=some (.bool (true==true)) from w_eq_bool (w_res O) w_lit) O
section
variable{prog:Program}{w:World}{A:Around}{E:Value->Shared->Prop}{s:Shared}{K:Frag}
end
end Att
namespace L2
open PySem PySem.Spec PyProof.Rows
def zdJ:∀{vs:List Value} {ns:List Int},IntsAre vs ns->Vals (ns.map V.int) vs
 | _,_,.nil=>.nil
 | _,_,.cons n t h=>.cons ⟨t,O⟩ (zdJ h)
def Only(H:Hp):Prop:=∀b,H b=none\/∃o xs,H b=some (.frz o (.lst xs))
def zkC{P:Program}{w:World}{K:W.Frag}{mg mb:Str->Option Value}{CX:CXT}{k:Nat}{fa a:Addr}{fd:FuncData}{x:Str}{sp:Sp}{s₁:Shared}{vs:List Value}{ns:List Int}
  (KX:K.In s₁.heap) (hns:s₁.heap.Ns mainGlobals mg) (hb:s₁.heap.Ns builtinsNs mb) (hbb:∀x:Str,x ≠ "__name__" -> mb x=bootBuiltins x) (hlim:s₁.heap.NoLimit) (hg:s₁.gens=#[])
  (ha:s₁.heap.get? a=some {cls:=.type "list",data:=.seq vs.toArray}) (hi:IntsAre vs ns) (hl:ns.length<=sizeLine) (hr:Room k callerA)
  (F:∀base:Heap,K.In base->base.Ns mainGlobals mg->FnOk P w K mg base CX k fa fd [x] sp) (hbind:∀(s:Shared) (u:Value),BindsTo s fd {[u],[]} [(x,u)])
  (hsp:∀H:Hp,Only H->SqL K H a (ns.map V.int)->sp [.ref a] H (λv _=>v=.bl true) λ_ _ _=>False)
  (hCX:∀H e s',CX [] H s₁ (λ_ _ _=>False) e s'->False) :
  codeAny (model P w) callerA (.call (.ref fa) {[.ref a],[]}) (λr s'=>r=.ok (.ret (.bool true))/\OldK s₁.heap s'.heap/\s'.os=s₁.os/\AllBare s'.gens) s₁:=by
 have rv:=zdJ hi
 have lenV:=hi.length
 
 have core:∀H:Hp,Only H->SqL K H a (ns.map V.int)->HOk P w H s₁.heap->(∀b,H b≠none->b=a)->(H a≠none->K.lookup a=none) ->
   codeAny (model P w) callerA (.call (.ref fa) {[.ref a],[]}) (λr s'=>r=.ok (.ret (.bool true))/\OldK s₁.heap s'.heap/\s'.os=s₁.os/\AllBare s'.gens) s₁:=by
  intro H hO hS hok hA hK
  have base_of:∀{b:Addr} {o:Obj},s₁.heap.get? b=some o->H b=none->(hidT s₁.heap H).get? b=some o:=λe n=>zkG e n
  have noA:∀{b:Addr} {o:Obj} {es:Array DictEntry} {ep:Nat},s₁.heap.get? b=some o->o.data=.dict es ep->H b=none:=λ{b o es ep} e d=>by
   cases q:H b with
   | none=>rfl
   | some u =>
    have e':b=a:=hA b (by rw[q];simp)
    subst e'
    rw[ha] at e;cases e
    have d':Data.seq vs.toArray _=Data.dict es ep:=d
    cases d'
  have nsK:∀{b:Addr} {m:Str->Option Value},s₁.heap.Ns b m->(hidT s₁.heap H).Ns b m:=λ{b m} ⟨o,es,ep,e,d,r⟩=>{o,es,ep,base_of e (noA e d),d,r}
  have hKb:K.In (hidT s₁.heap H):=λb o e=>base_of (KX b o e) (by
   cases q:H b with
   | none=>rfl
   | some u =>
    have e':b=a:=hA b (by rw[q];simp)
    subst e'
    rw[hK (by rw[q];simp)] at e;cases e)
  have hM:Mod K mg (hidT s₁.heap H):={hKb,nsK hns,{mb,nsK hb,hbb},let⟨mc,h1,h2⟩:=hlim;{mc,nsK h1,h2}}
  have e0:Env0 P w K mg (hidT s₁.heap H) callerA [] s₁ H:={O,hM,λb o e=>zmf e,Nat.le_of_eq (zjo _ _),trivial,λb hb=>absurd (show b∈([]:List Addr) from hb) (by simp),hok,.of_eq hg}
  refine Xbj ((F _ hKb (nsK hns)).run callerA [] s₁ H {[.ref a],[]} [.ref a] [.ref a] _ _ hr e0 (hbind s₁ (.ref a)) (.cons O .nil) (hsp H hO hS)) λr s' h=>?_
  cases r with
  | error e=>exact(hCX H e s' h).elim
  | ok fl =>
   cases fl with
   | next=>exact False.elim h
   | brk=>exact False.elim h
   | cont=>exact False.elim h
   | ret u =>
    obtain⟨v,H',os,bare,un,hok',r',q⟩:=h
    have q':v=.bl true:=q
    subst q'
    obtain rfl:u=Value.bool true:=r'
    refine{O,OldK.of_keep λb o e=>?_,os,bare}
    cases q:H b with
    | none=>exact un.keep b o e q (by intro z;exact absurd (show b∈([]:List Addr) from z) (by simp)) (by simp)
    | some u =>
     rcases hO b with z|⟨ob,xs,z⟩
     .rw[q] at z;cases z
     .have z2:=un.frzs b ob _ z
      obtain⟨e1,_⟩:=hok b _ z
      obtain⟨e2,_⟩:=hok' b _ z2
      rw[e] at e1;cases e1
      exact e2
 cases hk:K.lookup a with
 | some o =>
  
  have e:=KX a o hk
  rw[ha] at e
  cases e
  refine core (λ_=>none) (λ_=>.inl O) (.inr {_,vs.toArray,_,hk,O,O,O,by rw[Xaq,lenV];exact hl,by simpa using rv}) (λb u z=>by have z':(none:Option HO)=some u:=z;cases z') (λb z=>absurd O z) λz=>absurd O z
 | none =>
  refine core (λb=>if b=a then some (.frz {cls:=.type "list",data:=.seq vs.toArray} (.lst (ns.map V.int))) else none) (λb=>?_) (.inl (.inr {{cls:=.type "list",data:=.seq vs.toArray},if_pos O})) (λb u z=>?_) (λb z=>?_) λ_=>hk
  .by_cases hb:b=a
   .exact .inr {_,_,if_pos hb}
   .exact .inl (if_neg hb)
  .by_cases hb:b=a
   .have z':=(if_pos hb).symm.trans z
    cases z'
    subst hb
    exact{ha,by rw[Xaf];exact hl,vs,_,rv,ha}
   .have z':=(if_neg hb).symm.trans z
    cases z'
  .by_cases hb:b=a
   .exact hb
   .exact absurd (if_neg hb) z
def zaO(s:Stmt)(j:Nat):Stmt:=match s with
 | .ClassDef _ _ _ body _ _ _ _ _ _ _=>body.getD j (.Pass {0,0,0,0})
 | _=>.Pass {0,0,0,0}
def zbs(s:Stmt):Arguments:=match s with
 | .FunctionDef _ a _ _ _ _ _ _ _ _=>a
 | _=>{posonlyargs:=[],args:=[],vararg:=none,kwonlyargs:=[],kw_defaults:=[],kwarg:=none,defaults:=[]}
def zaM(s:Stmt):List Stmt:=match s with
 | .FunctionDef _ _ b _ _ _ _ _ _ _=>b
 | _=>[]
def zai(s:Stmt):Scope:=match s with
 | .FunctionDef _ _ _ _ _ _ sc _ _ _=>sc
 | _=>{kind:=.function,names:=[],isGenerator:=false,isCoroutine:=false}
abbrev CX0:CXT:=λ_ _ _ _ _ _=>False
abbrev E0:XK:=λ_ _ _=>False
def zhx{X:Cx}:Passes CX0 X E0:=λ_ _ _ _ _ _ _ h=>h.elim
structure Fun(K:W.Frag)(x qual:Str)(st:Stmt)(f:Addr)(fd:FuncData):Prop where
 ex:∃(oc:Value) (od:Option Addr) (kV doc pm:Value) (an:Option Addr) (cdv ct:Value) (osl:Array (Option Value)),
  fd=W.fnOf x qual (zbs st) (zaM st) (zai st) .none kV doc pm an cdv ct/\K.lookup f=some {oc,od,.func fd,osl}/\W.codeIn K cdv qual=true
 kp:W.keepIn K (.ref f)=true
section
variable{P:Program}{w:World}{K:W.Frag}{mg:Str->Option Value}{base:Heap}
def Fun.ok{x qual:Str}{st:Stmt}{f:Addr}{fd:FuncData}{N ps:List Str}{k:Nat}{sp:Sp}(F:Fun K x qual st f fd)(S:FnScope N ps (zai st))(len:∀vs H Q E,sp vs H Q E->vs.length=ps.length)
  (hbody:∀(cdv:Value) (A:Around) (outer:List Env) (s:Shared) (H:Hp) (vs:List V) (Q:VK) (E:XK),Room k (A.deeper (envOfC qual (zai st) s.heap.objs.size f cdv))->sp vs H Q E ->
   ∃t,PSs (cxOf CX0 P w K mg base N qual (zai st) f cdv A outer s H E).nox (zaM st) t/\t {nx:=λ_ H'=>Q .non H',rt:=Q} (start N vs) H):FnOk P w K mg base CX0 (k+1) f fd ps sp:=by
 obtain⟨oc,od,kV,doc,pm,an,cdv,ct,osl,rfl,lk,hcd⟩:=F.ex
 refine zmv lk hcd S len λA outer s H vs Q E hr hsp=>?_
 obtain⟨t,h,q⟩:=hbody cdv A outer s H vs Q E hr hsp
 exact⟨t,h.nox,q⟩
def Fun.binds{x qual:Str}{st:Stmt}{f:Addr}{fd:FuncData}{ps:List Str}(F:Fun K x qual st f fd)
  (h:∀(kV doc pm:Value) (an:Option Addr) (cdv ct:Value) (us:List Value),us.length=ps.length->bindArgs (W.fnOf x qual (zbs st) (zaM st) (zai st) .none kV doc pm an cdv ct) {us,[]}=pure (ps.zip us)):Binds K fd ps []:=by
 obtain⟨oc,od,kV,doc,pm,an,cdv,ct,osl,rfl,lk,hcd⟩:=F.ex
 exact .all (h kV doc pm an cdv ct)
def zlr{x qual:Str}{st:Stmt}{f:Addr}{oc:Value}{od an:Option Addr}{osl:Array (Option Value)}{kV doc pm cdv ct:Value}(l:K.lookup f=some {oc,od,.func (W.fnOf x qual (zbs st) (zaM st) (zai st) .none kV doc pm an cdv ct),osl})
  (c:W.codeIn K cdv qual=true) (k:W.keepIn K (.ref f)=true):Fun K x qual st f (W.fnOf x qual (zbs st) (zaM st) (zai st) .none kV doc pm an cdv ct):={⟨oc,od,kV,doc,pm,an,cdv,ct,osl,O,l,c⟩,k}
end
def zhU{A:Around}{k:Nat}(hr:Room k A):A.units+1<cLine:=Xa5 (Nat.add_le_add_left (by decide:1<=64) _) hr.units
def zdN{n:Nat}(h:n<=1000):n<sizeLine:=Xa5 h (by decide)
section
variable{X:Cx}
def pv(i:Nat){x:Str}{pos:Pos}(hN:X.N[i]?=some x:=by rfl)(hv:Vis X.env.scope x:=by first|exact Or.inl O|exact Or.inr (Or.inl O)|exact Or.inr (Or.inr O))(hd:(x==("__debug__" : Str))=false:=by decide)
  (hcd:(x==("__classdict__" : Str))=false:=by decide):PE X (.Name x pos) (tVar i):=pe_var hN hv hd hcd
end
def iteF{A B:Prop}(h:B):if false=true then A else B:=by
 rw[if_neg Xaj]
 exact h
def iteT{A B:Prop}(h:A):if true=true then A else B:=by
 rw[if_pos O]
 exact h
def ite2{c A B:Prop}[Decidable c](h1:c->A)(h2:¬ c->B):if c then A else B:=by
 by_cases h:c
 .rw[if_pos h]
  exact h1 h
 .rw[if_neg h]
  exact h2 h
def zhQ{c A B:Prop}[Decidable c](hc:c)(h:B):if(!decide c)=true then A else B:=by
 rw[Xal hc]
 exact iteF h
def Same(H H':Hp):Prop:=∀b o,H b=some o->H' b=some o
def Same.refl(H:Hp):Same H H:=λ_ _ h=>h
def Same.trans{H H1 H2:Hp}(a:Same H H1)(b:Same H1 H2):Same H H2:=λc o h=>b c o (a c o h)
def Same.free{H H':Hp}(e:Same H H'){l:Addr}(h:H' l=Option.none):H l=Option.none:=by
 cases q:H l with
 | none=>rfl
 | some o =>
  rw[e l o q] at h
  cases h
def Same.seq{K:W.Frag}{H H':Hp}{a:Addr}{xs:List V}(e:Same H H')(h:SqL K H a xs):SqL K H' a xs:=by
 rcases h with(h|⟨o,h⟩)|h
 .exact .inl (.inl (e _ _ h))
 .exact .inl (.inr {o,e _ _ h})
 .exact .inr h
section
variable{X:Cx}
end
section
variable{κ:Type}[DecidableEq κ]
end
def zmk{prog:Program}{w:World}{A:Around}{R:Result->Shared->Prop}{s:Shared}{elt target iter:Expr}{ifs:List Expr}{scope:Scope}{pos:Pos}{it acc:Value}{env:Env}(I:Nat->Shared->Prop)
  (turn:∀n s,I n s->wpAny (model prog w) A (pyNext it) (λr s1=>match r with
   | none=>R (.ok .next) s1
   | some v=>wpAny (model prog w) A (letOwnedTupleGo target it v) (λ_ s2=>wpAny (model prog w) A (assign target env v) (λ_ s3 =>
     wpAny (model prog w) A (forIn ifs true λc r=>if r=true then do let ok <- isTrue c env (eval c env);pure (ForInStep.yield ok) else pure (ForInStep.yield r)) (λok s4 =>
      if ok=true then wpAny (model prog w) A (eval elt env) (λx s5 =>
       wpAny (model prog w) A (call (.builtin "list.append") [acc,x]) (λ_ s6=>∃m,m<n/\I m s6) (λ_ _=>False) s5) (λ_ _=>False) s4
      else∃m,m<n/\I m s4) (λ_ _=>False) s3) (λ_ _=>False) s2) (λ_ _=>False) s1) (λ_ _=>False) s)
  (n:Nat) (h:I n s) :
  codeAny (model prog w) A (.compLoop (.ListComp elt [{target,iter,ifs,0}] scope pos) 0 it acc env) R s:=by
 refine codeAny_loop O I (λn s hI=>?_) n h
 show wpAny _ A ((compTurn (.ListComp elt [{target,iter,ifs,0}] scope pos) 0 it acc env).onRaise (λx=>do noteFrame x env;theTreesLotGoes x)) _ _ s
 refine wpAny_noted ?_
 rw[compTurn_list]
 refine Xaa (Xa9 (Xaa (Xav (turn n s hI) (λr s1 h1=>?_) λ_ _ h'=>h'.elim)))
 cases r with
 | none=>exact Xac h1
 | some v =>
  refine Xaa (Xav h1 (λ_ s2 h2=>?_) λ_ _ h'=>h'.elim)
  refine Xaa (Xav h2 (λ_ s3 h3=>Xaa (Xav h3 (λok s4 h4=>?_) λ_ _ h'=>h'.elim)) λ_ _ h'=>h'.elim)
  cases ok with
  | false=>exact Xac ⟨O,h4⟩
  | true =>
   exact Xaa (Xaa (Xav h4 (λx s5 h5=>Xaa (Xav h5 (λ_ s6 h6=>Xac (Xac ⟨O,h6⟩)) λ_ _ h'=>h'.elim)) λ_ _ h'=>h'.elim))
def PF(X:Cx)(ifs:List Expr)(t:TT):Prop:=
 ∀(pins:List (Addr×Obj)) (s:Shared) (U:St) (H:Hp) (Q:Bool->Hp->Prop),Inv X pins U H s->t U H Q ->
  wpAny (model X.prog X.w) X.A (forIn ifs true λc r=>if r=true then do let ok <- isTrue c X.env (eval c X.env);pure (ForInStep.yield ok) else pure (ForInStep.yield r)) (TP X pins U Q) X.xe s
def tYes:TT:=λ_ H Q=>Q true H
def zcG{X:Cx}:PF X [] tYes:=λpins s U H Q I h=>wpAny_tests_nil ⟨H,I,h⟩
def zlh{X:Cx}{c:Expr}{t:TT}(hc:PT X c t):PF X [c] t:=λpins s U H Q I h=>wpAny_tests_one (hc pins s U H Q I h)
def cxC(X:Cx)(Nc:List Str)(scope:Scope)(cl:List (Str×Addr))(C:Addr)(fp:List Addr)(s2:Shared)(H2:Hp):Cx where
 prog:=X.prog
 w:=X.w
 K:=X.K
 mg:=X.mg
 base:=X.base
 A:=X.A
 N:=Nc
 s₀:=s2
 H₀:=H2
 env:=compEnvC scope cl C X.env
 outer:=X.stack
 stack:=X.stack
 ex:=fp
 fn:=λ_=>false
 calm:=X.calm
 pn:=[]
 xe:=λ_ _=>False
def zck(src:List (Option Nat))(U:St):St:=src.map λo=>match o with
 | none=>none
 | some i=>(U[i]?).getD none
structure CompOk(N:List Str)(osc:Scope)(Nc:List Str)(src:List (Option Nat))(scope:Scope):Prop where
 kind:scope.kind=.function
 nocell:∀x∈scope.names,x.2≠.cell
 nodup:scope.names.Pairwise λx y=>x.1≠y.1
 free:∀x∈scope.names,x.2=.free->osc.names.lookup x.1=some .cell\/osc.names.lookup x.1=some .free
 len:src.length=Nc.length
 src:∀(j i:Nat),src[j]?=some (some i)->∃x,Nc[j]?=some x/\N[i]?=some x/\scope.names.lookup x=some .free
set_option tactic.hygienic true in
def zde{α:Type}{l:List (Str×α)}{x:Str}{k:α}(h:l.lookup x=some k):(x,k)∈l:=by
 induction l with
 | nil=>cases h
 | cons p r ih =>
  obtain⟨y,j⟩:=p
  rw[List.lookup_cons] at h
  split at h
  .rename_i hb
   have e:=eq_of_beq hb
   cases h;subst e;exact Xat
  .exact Xau _ (ih h)
def zbe{α:Type}{l:List (Str×α)}(nd:l.Pairwise λx y=>x.1≠y.1){x:Str}{k:α}(h:(x,k)∈l):l.lookup x=some k:=by
 induction l with
 | nil=>cases h
 | cons p r ih =>
  obtain⟨y,j⟩:=p
  rw[List.pairwise_cons] at nd
  rw[List.lookup_cons]
  rcases Xan.mp h with e|h
  .cases e;simp
  .have ne:=nd.1 _ h
   have:(x==y)=false:=beq_eq_false_iff_ne.mpr (Ne.symm ne)
   rw[this];exact ih nd.2 h
def zhZ{X:Cx}(ok:X.Ok){scope:Scope}:∀(names:List (Str×NameKind)) (acc:List (Str×Addr)),(∀x∈names,x.2=.free->∃c,X.env.cells.lookup x.1=some c) ->
  (∀x c,(x,c)∈acc->X.env.cells.lookup x=some c) ->
  ∃cl,(forIn names acc (λ(p:Str×NameKind) (cs:List (Str×Addr))=>(do
   if p.2==NameKind.free then
    let c <- cellOf X.env p.1
    pure (ForInStep.yield ((p.1,c)::cs))
   else pure (ForInStep.yield cs):Sem (ForInStep (List (Str×Addr))))))=pure cl/\(∀x c,(x,c)∈cl->X.env.cells.lookup x=some c)/\(∀x∈names,x.2=.free->∃c,(x.1,c)∈cl)/\(∀p∈acc,p∈cl):=by
 intro names
 induction names with
 | nil=>intro acc _ ha;exact{acc,(by rw[List.forIn_nil]),ha,(λ_ h=>nomatch h),λ_ h=>h}
 | cons p r ih =>
  intro acc hf ha
  obtain⟨x,k⟩:=p
  rw[List.forIn_cons]
  by_cases hk:k=.free
  .subst hk
   obtain⟨c,hc⟩:=hf _ Xat O
   obtain⟨cl,e,h1,h2,h3⟩:=ih ((x,c)::acc) (λy hy=>hf y (Xau _ hy)) (λy d hy=>by
    rcases Xan.mp hy with e|hy
    .cases e;exact hc
    .exact ha y d hy)
   have hcell:cellOf X.env x=pure c:=by unfold cellOf;rw[show X.env.cells.lookup x=some c from hc]
   refine{cl,?_,h1,λy hy hk=>?_,λq hq=>h3 q (Xau _ hq)}
   .simp only[beq_self_eq_true,if_true,hcell,pure_bind];exact e
   .rcases Xan.mp hy with e|hy
    .cases e;exact{c,h3 _ Xat}
    .exact h2 y hy hk
  .obtain⟨cl,e,h1,h2,h3⟩:=ih acc (λy hy=>hf y (Xau _ hy)) ha
   have hb:(k==NameKind.free)=false:=by simpa using hk
   refine{cl,?_,h1,λy hy hk'=>?_,h3}
   .simp only[hb,Bool.false_eq_true,if_false,pure_bind];exact e
   .rcases Xan.mp hy with e|hy
    .cases e;exact absurd hk' hk
    .exact h2 y hy hk'
def zbf{X:Cx}(ok:X.Ok){scope:Scope}(hf:∀x∈scope.names,x.2=.free->X.env.scope.names.lookup x.1=some .cell\/X.env.scope.names.lookup x.1=some .free) :
  ∃cl:List (Str×Addr),closureFor scope X.env=pure cl/\(∀(x:Str) (c:Addr),cl.lookup x=some c->X.env.cells.lookup x=some c)/\(∀x∈scope.names,x.2=.free->∃c,cl.lookup x.1=some c):=by
 obtain⟨cl,e,h1,h2,_⟩:=zhZ ok (scope:=scope) scope.names [] (λx hx hk=>ok.has x.1 (hf x hx hk)) (λ_ _ h=>nomatch h)
 refine{cl,?_,λx c h=>h1 x c (zde h),λx hx hk=>?_}
 .unfold closureFor
  exact(bind_pure _).trans e
 .obtain⟨c,hc⟩:=h2 x hx hk
  have:∀l:List (Str×Addr),(x.1,c)∈l->∃d,l.lookup x.1=some d:=by
   intro l
   induction l with
   | nil=>intro h;cases h
   | cons p r ih =>
    intro h
    obtain⟨y,d⟩:=p
    rw[List.lookup_cons]
    cases hb:x.1==y with
    | true=>exact⟨d,O⟩
    | false =>
     rcases Xan.mp h with e|h
     .cases e;simp at hb
     .exact ih h
  exact this cl hc
def zcj{scope:Scope}{env:Env}(x:Str):(relabel scope env).names.lookup x=(scope.names.lookup x).map λk=>if(k==.free&&env.scope.kind==.function&&env.kindOf x==some .cell) then .cell else k:=by
 unfold relabel
 show List.lookup x (scope.names.map _)=_
 induction scope.names with
 | nil=>rfl
 | cons p r ih =>
  obtain⟨n,k⟩:=p
  rw[XaR]
  cases hb:x==n with
  | true =>
   have e:=eq_of_beq hb
   subst e
   show List.lookup x ((if(k==NameKind.free&&env.scope.kind==.function&&env.kindOf x==some .cell)=true then(x,NameKind.cell) else(x,k))::_)=_
   by_cases hc:(k==NameKind.free&&env.scope.kind==.function&&env.kindOf x==some .cell)=true
   .rw[if_pos hc,List.lookup_cons,List.lookup_cons]
    simp only[beq_self_eq_true,Option.map_some]
    rw[if_pos hc]
   .rw[if_neg hc,List.lookup_cons,List.lookup_cons]
    simp only[beq_self_eq_true,Option.map_some]
    rw[if_neg hc]
  | false =>
   show List.lookup x ((if(k==NameKind.free&&env.scope.kind==.function&&env.kindOf n==some .cell)=true then(n,NameKind.cell) else(n,k))::_)=_
   by_cases hc:(k==NameKind.free&&env.scope.kind==.function&&env.kindOf n==some .cell)=true
   .rw[if_pos hc,List.lookup_cons,List.lookup_cons,hb];exact ih
   .rw[if_neg hc,List.lookup_cons,List.lookup_cons,hb];exact ih
def HOk.track{P:Program}{w:World}{H:Hp}{h:Heap}{a:Addr}{o:HO}(x:HOk P w H h)(hn:H a=none)(new:ObjOk P w (upd H a o) h a o):HOk P w (upd H a o) h:=λb u e=>by
 by_cases hb:b=a
 .subst hb;rw[zac] at e;cases e;exact new
 .rw[zah hb] at e
  exact(x b u e).stay (λc v _ q=>q) (λc q=>by rw[zah (zaj q hn)];exact q) λc xs q=>by rw[zah (zaj q hn)];exact q
def Un.track{fs ex:List Addr}{H H':Hp}{h h':Heap}{a:Addr}{o:HO}(u:Un fs ex H H' h h')(hp:h.objs.size<=a)(hl:∀b v,H b=some v->b<h.objs.size):Un fs ex H (upd H' a o) h h' where
 keep:=u.keep
 slot:=u.slot
 free:=λb v q n x=>by rw[zah (Xay (Xao (Xai q) hp))];exact u.free b v q n x
 there:=u.there
 tups:=λb xs q=>by rw[zah (Xay (Xao (hl b _ q) hp))];exact u.tups b xs q
 frzs:=λb v xs q=>by rw[zah (Xay (Xao (hl b _ q) hp))];exact u.frzs b v xs q
 tbls:=λb ps q=>by rw[zah (Xay (Xao (hl b _ q) hp))];exact u.tbls b ps q
def cxC_ok{X:Cx}{pins:List (Addr×Obj)}{U:St}{H2:Hp}{s2:Shared}{Nc:List Str}{src:List (Option Nat)}{scope:Scope}{cl:List (Str×Addr)}{C:Addr}{fp:List Addr}(I2:Inv X pins U H2 s2)(S:CompOk X.N X.env.scope Nc src scope)
  (hcl1:∀(x:Str) (c:Addr),cl.lookup x=some c->X.env.cells.lookup x=some c) (hcl2:∀x∈scope.names,x.2=.free->∃c,cl.lookup x.1=some c) (hC:s2.heap.objs.size<=C)
  (hfp:∀b∈fp,b<s2.heap.objs.size) (f2:∀b∈fp,FpOk X pins H2 b):(cxC X Nc scope cl C fp s2 H2).Ok where
 mod:=I2.ok.mod
 kind:=S.kind
 glob:=I2.ok.glob
 blt:=I2.ok.blt
 above:=hC
 inj:=λx y c h1 h2=>I2.ok.inj x y c (hcl1 _ _ h1) (hcl1 _ _ h2)
 has:=λx h=>by
  have h':(relabel scope X.env).names.lookup x=some .cell\/(relabel scope X.env).names.lookup x=some .free:=h
  rw[zcj] at h'
  cases hk:scope.names.lookup x with
  | none=>rw[hk] at h';rcases h' with h'|h'<;>cases h'
  | some k =>
   have hm:=zde hk
   have hkf:k=.free:=by
    rw[hk] at h'
    simp only[Option.map_some] at h'
    cases k with
    | free=>rfl
    | cell=>exact absurd O (S.nocell _ hm)
    | _=>exfalso;revert h';simp
   subst hkf
   exact hcl2 _ hm O
 cab:=λx c h=>nomatch h
 hd:=I2.ok.hd
 frames:=I2.ok.frames
 stk:=.inl O
 exf:=λb hb=>{Xay (Xao (hfp b hb) hC),λx c e=>(f2 b hb).2.2.2.2.1 x c (hcl1 _ _ e)}
 bs:=I2.bs
 bsz:=Xak I2.ok.bsz I2.sz
 noex:=λb o e hb=>by
  rcases(f2 b hb).2.2.2.1 with z|z
  .exact I2.ok.noex b o e z
  .exact absurd (Xao (Xai e) (Xak I2.ok.bsz z)) (XaY _)
 exfs:=λb hb hs=>by
  obtain⟨_,f1,f3,_⟩:=f2 b hb
  rcases Xan.mp (I2.stkSub b hs) with z|z
  .exact f1 z
  .exact f3 z
 funs:=I2.stack
 frf:=I2.stkFree
abbrev TEm(α:Type):=St->Hp->(α->Hp->Prop)->Prop
def PEm{α:Type}(B:Nat)(Y:Cx)(EM:Env->Addr->(Shared->Prop)->Shared->Prop)(AO:List α->Obj->Prop)(em:TEm α):Prop:=
 ∀(D:Addr) (pins:List (Addr×Obj)) (s:Shared) (U:St) (H:Hp) (Q:α->Hp->Prop) (ys:List α) (o:Obj),Inv Y pins U H s->(D,o)∈pins->AO ys o->ys.length<B->em U H Q ->
  EM Y.env D (λs'=>∃y H8 s8 h' o' tk,Inv Y pins U H8 s8/\AO (ys++[y]) o'/\Heap.SameBut D s8.heap h'/\h'.get? D=some o'/\s'={s8 with heap:=h',toks:=tk}/\Q y H8) s
def zhi{α:Type}(B:Nat)(J:It)(g:TG)(tf:TT)(em:TEm α)(Q:List α->Hp->Prop)(U0:St)(H1:Hp):Prop:=
 ∃W:Nat->Nat->List α->St->Hp->Prop,(∃m,W 0 m [] U0 H1)/\∀i m ys Uc Hc,W i m ys Uc Hc ->
  (J.stop i Hc/\ys.length<=B/\Q ys Hc) \/
  (J.go i Hc/\ys.length<B/\∃N:List α->St->Hp->Prop,(∀ys' U' H',N ys' U' H'->∃m',m'<m/\W (i+1) m' ys' U' H') /\
   ∀x H',J.yld i Hc x H'->g x Uc H' λU2 H2=>tf U2 H2 λb H3=>if b=true then em U2 H3 λy H4=>N (ys++[y]) U2 H4 else N ys U2 H3)
structure CLoop(prog:Program)(w:World)(A:Around)(tg:Expr)(ifs:List Expr)(ce:Expr)(it:Value)(EM:Env->Addr->(Shared->Prop)->Shared->Prop):Prop where
 mono:∀(env:Env) (D:Addr) (p q:Shared->Prop) (s:Shared),EM env D p s->(∀s',p s'->q s')->EM env D q s
 loop:∀(env:Env) (D:Addr) (I:Nat->Shared->Prop) {R:Result->Shared->Prop} (turn:∀n s,I n s->wpAny (model prog w) A (pyNext it) (λr s1=>match r with
   | none=>R (.ok .next) s1
   | some v=>wpAny (model prog w) A (letOwnedTupleGo tg it v) (λ_ s2=>wpAny (model prog w) A (assign tg env v) (λ_ s3 =>
     wpAny (model prog w) A (forIn ifs true λc r=>if r=true then do let ok <- isTrue c env (eval c env);pure (ForInStep.yield ok) else pure (ForInStep.yield r)) (λok s4 =>
      if ok=true then EM env D (λs6=>∃m,m<n/\I m s6) s4 else∃m,m<n/\I m s4) (λ_ _=>False) s3) (λ_ _=>False) s2) (λ_ _=>False) s1) (λ_ _=>False) s)
  (n:Nat) (s:Shared) (h:I n s),codeAny (model prog w) A (.compLoop ce 0 it (.ref D) env) R s
 start:∀(env:Env) (D:Addr) (R:Result->Shared->Prop) (s:Shared),codeAny (model prog w) A (.compLoop ce 0 it (.ref D) env) R s ->
  wpAny (model prog w) A (pyIter it) (λit' s'=>codeAny (model prog w) A (.compLoop ce 0 it' (.ref D) env) R s') (notedBy (model prog w) A env λx s'=>R (.error x) s') s->codeAny (model prog w) A (.compStart ce 0 it (.ref D) env) R s
def zeB{α:Type}{X:Cx}{pins:List (Addr×Obj)}{U:St}{H2:Hp}{s2:Shared}{Nc:List Str}{src:List (Option Nat)}{scope:Scope}{cl:List (Str×Addr)}{fp:List Addr}{tg ce:Expr}{ifs:List Expr}
  {it:Addr} {tn:Nat->Heap->Prop} {J:It} {g:TG} {tf:TT} {em:TEm α} {Qf:List α->Hp->Prop} {E:Value->Shared->Prop} {RR:Value->Addr->Result->Shared->Prop} {mk:Sem Value} {o0:Obj} {AO:List α->Obj->Prop} {ho:Addr->List α->HO} {B:Nat} {EM:Env->Addr->(Shared->Prop)->Shared->Prop}
  (hc:X.calm=true) (I2:Inv X pins U H2 s2) (S:CompOk X.N X.env.scope Nc src scope)
  (hcl1:∀(x:Str) (c:Addr),cl.lookup x=some c->X.env.cells.lookup x=some c) (hcl2:∀x∈scope.names,x.2=.free->∃c,cl.lookup x.1=some c)
  (T:Turn X.prog X.w X.K tg J fp it tn) (st2:tn 0 s2.heap) (f2:∀b∈fp,FpOk X pins H2 b)
  (hg:∀cl C fp s2 H2,PG (cxC X Nc scope cl C fp s2 H2) tg g) (hf:∀cl C fp s2 H2,PF (cxC X Nc scope cl C fp s2 H2) ifs tf) (he:∀cl C fp s2 H2,PEm B (cxC X Nc scope cl C fp s2 H2) EM AO em)
  (hmk:∀(Q:Value->Shared->Prop) (s:Shared),Q (.ref s.heap.objs.size) {s with heap:=s.heap.push o0}->wpAny (model X.prog X.w) X.A mk Q E s) (hfr:o0.isFreed=false) (h0:AO [] o0) (hcell:∀ys o v,AO ys o->o.data≠.cell v)
  (hho:∀ys o H h D,AO ys o->ys.length<=B->s2.heap.objs.size<=D->h.get? D=some o->ObjOk X.prog X.w (upd H D (ho D ys)) h D (ho D ys))
  (hlp:CLoop X.prog X.w X.A tg ifs ce (.ref it) EM)
  (hw:zhi B J g tf em Qf (zck src U) H2)
  (fin:∀(H4:Hp) (s4:Shared) (ys:List α) (m:Str->Option Value) (C:Addr),s2.heap.objs.size<=C->H4 s2.heap.objs.size=none->Inv X pins U (upd H4 s2.heap.objs.size (ho s2.heap.objs.size ys)) s4->s4.heap.Ns C m->upd H4 s2.heap.objs.size (ho s2.heap.objs.size ys) C=none->Qf ys H4->RR (.ref s2.heap.objs.size) C (.ok .next) s4) :
  wpAny (model X.prog X.w) X.A mk (λacc s3=>wpAny (model X.prog X.w) X.A (newFunctionEnv scope X.env.globals cl [] X.env.qual none .none (some X.env)) (λcenv s4 =>
   codeAny (model X.prog X.w) X.A (.compStart ce 0 (.ref it) acc {cenv with scope:=relabel scope X.env}) (RR acc cenv.locals) s4) E s3) E s2:=by
 refine hmk _ s2 (wpAny_newFunctionEnv S.nocell (by intro y hy;simp at hy) (λh1 hns1 hsb1=>?_) S.kind)
 dsimp only at hns1 hsb1 ⊢
 generalize hH2:s2.heap.push o0=G2 at hns1 hsb1 ⊢
 have hCz:G2.objs.size=s2.heap.objs.size+1:=by rw[<- hH2,XaC]
 generalize hCe:G2.objs.size=C at hns1 hsb1 hCz ⊢
 generalize hDe:s2.heap.objs.size=D at fin hCz ⊢
 have hDC:D≠C:=by omega
 have hCle:s2.heap.objs.size<=C:=by omega
 have hDle:s2.heap.objs.size<=D:=by omega
 have old:∀b o,s2.heap.get? b=some o->h1.get? b=some o:=λb o e=>hsb1.extBut b o (Xay (Xao (Xai e) hCle)) (Xab _ (hH2▸Xab _ e))
 have hacc:h1.get? D=some o0:=by
  refine hsb1.extBut _ _ hDC (Xab _ ?_)
  rw[<- hH2,<- hDe]
  exact Xag _ hfr
 have hfp:∀b∈fp,b<s2.heap.objs.size:=λb hb=>by
  obtain⟨o,e,_⟩:=T.obj 0 _ st2 b hb
  exact Xai e
 have ok:=cxC_ok (Nc:=Nc) (src:=src) (scope:=scope) (cl:=cl) (C:=C) (fp:=fp) I2 S hcl1 hcl2 hCle hfp f2
 generalize hXC:cxC X Nc scope cl C fp s2 H2=Y at ok
 have hYN:Y.N=Nc:=by rw[<- hXC];rfl
 
 have I0:Inv (cxC X Nc scope cl C fp s2 H2) [] (zck src U) H2 {s2 with heap:=h1,toks:=s2.toks+([]:List (Str×Value)).length}:=by
  rw[<- hXC] at ok
  refine{ok,O,I2.bare,Un.kept old,{_,hns1,λj x v e1 e2 _=>?_},λx c e=>?_,I2.hok.fresh hCle,λx c e=>I2.freeC x c (hcl1 _ _ e),(λp hp=>nomatch hp),I2.hok.kept old,?_}
  .
   have e2':(zck src U)[j]?=some (some v):=e2
   have e1':Nc[j]?=some x:=e1
   unfold zck at e2'
   rw[Xax] at e2'
   cases hs:src[j]? with
   | none=>rw[hs] at e2';cases e2'
   | some o =>
    rw[hs] at e2'
    cases o with
    | none=>cases e2'
    | some i =>
     simp only[Option.map_some,Option.some.injEq] at e2'
     obtain⟨y,hy1,hy2,hy3⟩:=S.src j i hs
     rw[e1'] at hy1;cases hy1
     have hU9:U[i]?=some (some v):=by
      cases hq:U[i]? with
      | none=>rw[hq] at e2';cases e2'
      | some z=>rw[hq] at e2';simp only[Option.getD_some] at e2';rw[e2']
     have hm:=zde hy3
     have hfr:=S.free _ hm O
     obtain⟨m0,hn0,hl0⟩:=I2.loc
     obtain⟨u,r,l⟩:=hl0 i x v hy2 hU9 (Or.inr hfr)
     refine{u,r,.inr {?_,?_}}
     .show(relabel scope X.env).names.lookup x=some .cell\/(relabel scope X.env).names.lookup x=some .free
      rw[zcj,hy3]
      simp only[Option.map_some]
      split
      .exact .inl O
      .exact .inr O
     .rcases l with⟨k,_⟩|⟨_,c,hc1,hc2⟩
      .have k':X.env.scope.names.lookup x=some .local:=k
       rw[k'] at hfr;rcases hfr with z|z<;>cases z
      .obtain⟨c',hc'⟩:=hcl2 _ hm O
       have:=hcl1 _ _ hc'
       rw[hc1] at this;cases this
       exact{c,hc',hc2.keeps old}
  .obtain⟨v,z⟩:=I2.cell x c (hcl1 _ _ e)
   exact{v,z.keeps old}
  .show(zck src U).length=Nc.length
   unfold zck;rw[Xaf];exact S.len
 obtain⟨W,⟨m0,w0⟩,turn⟩:=hw
 have loop:codeAny (model X.prog X.w) X.A (.compLoop ce 0 (.ref it) (.ref D) (compEnvC scope cl C X.env)) (RR (.ref D) C) {s2 with heap:=h1,toks:=s2.toks+([]:List (Str×Value)).length}:=by
  have fpk:∀{H':Hp} {ob:Obj},(∀b∈fp,H' b=none)->∀b∈fp,FpOk (cxC X Nc scope cl C fp s2 H2) [(D,ob)] H' b:=λ{H' ob} hn b hb =>
   ⟨hn b hb,(I0.ok.exf b hb).1,I0.ok.exfs b hb,.inl hb,(I0.ok.exf b hb).2,λp hp=>by
    have e:p=(D,ob):=Xae.mp hp
    subst e
    exact Xbe (Xao (hfp b hb) hDle)⟩
  have hDfs:D∉frs X.stack:=λhs=>by
   rcases Xan.mp (I2.stkSub D hs) with z|z
   .exact absurd (Xao I2.lt hDle) (by rw[z];exact XaY _)
   .exact I2.nofs hDle z
  refine hlp.loop (compEnvC scope cl C X.env) D (λn s'=>∃i ys U' H' ob,Inv (cxC X Nc scope cl C fp s2 H2) [] U' H' s'/\tn i s'.heap/\(∀b∈fp,H' b=none)/\H' D=none/\s'.heap.get? D=some ob/\AO ys ob/\W i n ys U' H') ?_ m0 _
   {0,[],zck src U,H2,o0,I0,T.keep _ _ _ st2 λb hb o e=>old b o e,λb hb=>(f2 b hb).1,I2.hok.fresh hDle,hacc,h0,w0}
  rintro n s3 ⟨i,ys,U3,H3,ob,I3,st3,fr3,hD3,hO3,vs3,w3⟩
  have I3':Inv (cxC X Nc scope cl C fp s2 H2) [(D,ob)] U3 H3 s3:=I3.pins_of λp hp=>by
   have e:=Xae.mp hp
   subst e
   exact{hO3,hD3,hDC,hDfs,λv z=>hcell ys ob v vs3 z}
  rcases turn i n ys U3 H3 w3 with⟨stop,hlen,qn⟩|⟨go,hlen,N,hN,step⟩
  .refine thn (T.done (cxC X Nc scope cl C fp s2 H2) O O O hc i _ s3 U3 H3 _ I3' (fpk fr3) st3 stop) λr s4 ⟨hr,I4⟩=>?_
   subst hr
   have hO4:=(I4.pin (D,_) (XaB _ (Xae.mpr O))).1
   obtain⟨m4,hn4,_⟩:=I4.loc
   have fC:H3 C=none:=I4.free
   have uD:upd H3 D (ho D ys) C=none:=by rw[zah hDC.symm];exact fC
   have hl2:∀b v,H2 b=some v->b<s2.heap.objs.size:=λb v e=>I2.hok.lt e
   have Iout:Inv X pins U (upd H3 D (ho D ys)) s4:=by
    refine I2.call' (ch:=fp) I4.os (Un.track I4.base hDle hl2) (HOk.track I4.hok hD3 (hho ys ob H3 s4.heap D vs3 hlen hDle hO4)) I4.bare λb hb=>?_
    obtain⟨_,a1,_,a3,a4,a5⟩:=f2 b hb
    exact⟨a3,a1,a4,a5⟩
   exact fin H3 s4 ys m4 C (by omega) hD3 Iout hn4 uD qn
  .refine thn (T.item (cxC X Nc scope cl C fp s2 H2) O O O hc i _ s3 U3 H3 _ I3' (fpk fr3) st3 go) λr s4 ⟨u,hr,h4⟩=>?_
   subst hr
   refine thn h4 λ_ s5 hh_=>?_
   obtain⟨x,H5,I5,r5,y5,st5,fr5⟩:=hh_
   have I5':=I5.pinned (fpk fr5) (T.obj _ _ st5)
   refine thn (hg cl C fp s2 H2 _ s5 U3 H5 x u _ I5' r5 (step x H5 y5)) λ_ s6 ⟨U6,H6,I6,q6⟩=>?_
   refine thn (hf cl C fp s2 H2 _ s6 U6 H6 _ I6 q6) λok s7 ⟨H7,I7,q7⟩=>?_
   have back:∀{s8:Shared} {U8:St} {H8:Hp},Inv (cxC X Nc scope cl C fp s2 H2) ([(D,ob)]++zfp fp s5.heap) U8 H8 s8 ->
     tn (i+1) s8.heap/\(∀b∈fp,H8 b=none)/\H8 D=none/\s8.heap.get? D=some ob:=λ{s8 U8 H8} I8=>by
    refine{T.keep _ _ _ st5 λb hb o e=>(I8.pin (b,o) (XaB _ (XaB _ (zca hb e)))).1,λb hb=>?_,?_,?_}
    .obtain⟨o,e,d⟩:=T.obj _ _ st5 b hb
     exact(I8.pin (b,o) (XaB _ (XaB _ (zca hb e)))).2.1
    .exact(I8.pin (D,_) (XaB _ (XaO _ (Xae.mpr O)))).2.1
    .exact(I8.pin (D,_) (XaB _ (XaO _ (Xae.mpr O)))).1
   cases ok with
   | false =>
    obtain⟨m',hm',w7⟩:=hN _ _ _ q7
    obtain⟨b1,b2,b3,b4⟩:=back I7
    exact{m',hm',i+1,ys,U6,H7,ob,I7.pins_of (λp hp=>nomatch hp),b1,b2,b3,b4,vs3,w7}
   | true =>
    refine hlp.mono _ _ _ _ _ (he cl C fp s2 H2 D _ s7 U6 H7 _ ys ob I7 (XaO _ (Xae.mpr O)) vs3 hlen q7) λs9 hh_=>?_
    obtain⟨y,H8,s8,h9,o9,tk9,I8,a9,sb9,g9,e9,q8⟩:=hh_
    subst e9
    obtain⟨m',hm',w8⟩:=hN _ _ _ q8
    obtain⟨b1,b2,b3,b4⟩:=back I8
    have I8n:Inv (cxC X Nc scope cl C fp s2 H2) [] U6 H8 s8:=I8.pins_of λp hp=>nomatch hp
    have I9:Inv (cxC X Nc scope cl C fp s2 H2) [] U6 H8 {s8 with heap:=h9,toks:=tk9}:=
     I8n.turned (it:=D) (λb o hb e=>sb9.extBut b o hb e) b3 hDC (.inr hDle) (λx c e z=>by
      obtain⟨w',z'⟩:=I2.cell x c (hcl1 _ _ e)
      exact absurd (Xao z'.lt hDle) (by rw[z];exact XaY _)) (λp hp=>nomatch hp)
    refine{m',hm',i+1,ys++[y],U6,H8,o9,I9,T.keep _ _ _ b1 λb hb o e=>sb9.extBut b o (Xay (Xao (hfp b hb) hDle)) e,b2,b3,g9,a9,w8}
 exact hlp.start _ D _ _ loop (T.self X.A 0 _ _ _ (T.keep _ _ _ st2 λb hb o e=>old b o e) loop)
def zf9(J:It)(g:TG)(tf:TT)(te:TE)(Q:List V->Hp->Prop)(U0:St)(H1:Hp):Prop:=zhi (α:=V) sizeLine J g tf te Q U0 H1
def tComp(src:List (Option Nat))(wi:TI)(g:TG)(tf:TT)(te:TE):TE:=λU H Q=>wi U H λJ H1 =>
 zf9 J g tf te (λys H2=>∀D,H2 D=none->Q (.ref D) (upd H2 D (.lst ys))) (zck src U) H1
def EMl(prog:Program)(w:World)(A:Around)(elt:Expr)(env:Env)(D:Addr)(p:Shared->Prop)(s:Shared):Prop:=
 wpAny (model prog w) A (eval elt env) (λv s5=>wpAny (model prog w) A (call (.builtin "list.append") [.ref D,v]) (λ_ s6=>p s6) (λ_ _=>False) s5) (λ_ _=>False) s
def zjg{prog:Program}{w:World}{A:Around}{elt target iter:Expr}{ifs:List Expr}{scope:Scope}{pos:Pos}{it:Value}:CLoop prog w A target ifs (.ListComp elt [{target,iter,ifs,0}] scope pos) it (EMl prog w A elt) where
 mono:=λenv D p q s h k=>Xav h (λv s5 h5=>Xav h5 (λ_ s6 h6=>k s6 h6) λ_ _ e=>e) λ_ _ e=>e
 loop:=λenv D I {R} turn n s h=>zmk I turn n h
 start:=λenv D R s h0 h=>codeAny_compStart_list h0 h
inductive AOl(ys:List V):Obj->Prop
 | mk (its:List Value) (k:Nat):Vals ys its->AOl ys {cls:=.type "list",data:=.seq its.toArray k}
def zkm{Y:Cx}{elt:Expr}{te:TE}(he:PE Y elt te)(hxe:Y.xe=λ_ _=>False):PEm sizeLine Y (EMl Y.prog Y.w Y.A elt) AOl te:=by
 intro D pins s U H Q ys o I hp ao hl h
 refine Xav (he pins s U H _ I h) (λv s8 hh_=>?_) λe s' z=>by rw[hxe] at z;exact z
 obtain⟨y,H8,I8,r8,q8⟩:=hh_
 have g8:=(I8.pin (D,o) (XaB _ hp)).1
 obtain⟨its,k,vs3⟩:=ao
 have hl8:=vs3.length
 refine call_meets F.slot_list_append {_,g8,O} F.entry_list_append (F.args_list_append_2 _ _) (PySem.list_append D its.toArray k v (by rw[Xaq];omega)) {g8,?_}
 have qn:=PySem.IsL.update g8 (·.push v)
 rw[show its.toArray.push v=(its++[v]).toArray by simp] at qn
 exact{y,H8,s8,_,_,_,I8,.mk (its++[v]) _ (vs3.append (.cons r8 .nil)),Heap.SameBut.update _ _ _,qn,O,q8}
def zfT{X:Cx}{pins:List (Addr×Obj)}{U:St}{H2:Hp}{s2:Shared}{Nc:List Str}{src:List (Option Nat)}{scope:Scope}{cl:List (Str×Addr)}{fp:List Addr}{elt tg iter:Expr}{ifs:List Expr}{pos:Pos}
  {it:Addr} {tn:Nat->Heap->Prop} {J:It} {g:TG} {tf:TT} {te:TE} {Qf:List V->Hp->Prop} {E:Value->Shared->Prop} {RR:Value->Addr->Result->Shared->Prop}
  (hc:X.calm=true) (I2:Inv X pins U H2 s2) (S:CompOk X.N X.env.scope Nc src scope)
  (hcl1:∀(x:Str) (c:Addr),cl.lookup x=some c->X.env.cells.lookup x=some c) (hcl2:∀x∈scope.names,x.2=.free->∃c,cl.lookup x.1=some c)
  (T:Turn X.prog X.w X.K tg J fp it tn) (st2:tn 0 s2.heap) (f2:∀b∈fp,FpOk X pins H2 b)
  (hg:∀cl C fp s2 H2,PG (cxC X Nc scope cl C fp s2 H2) tg g) (hf:∀cl C fp s2 H2,PF (cxC X Nc scope cl C fp s2 H2) ifs tf) (he:∀cl C fp s2 H2,PE (cxC X Nc scope cl C fp s2 H2) elt te)
  (hw:zf9 J g tf te Qf (zck src U) H2)
  (fin:∀(H4:Hp) (s4:Shared) (ys:List V) (m:Str->Option Value) (C:Addr),s2.heap.objs.size<=C->H4 s2.heap.objs.size=none->Inv X pins U (upd H4 s2.heap.objs.size (.lst ys)) s4->s4.heap.Ns C m->upd H4 s2.heap.objs.size (.lst ys) C=none->Qf ys H4->RR (.ref s2.heap.objs.size) C (.ok .next) s4) :
  wpAny (model X.prog X.w) X.A (newList []) (λacc s3=>wpAny (model X.prog X.w) X.A (newFunctionEnv scope X.env.globals cl [] X.env.qual none .none (some X.env)) (λcenv s4 =>
   codeAny (model X.prog X.w) X.A (.compStart (.ListComp elt [{tg,iter,ifs,0}] scope pos) 0 (.ref it) acc {cenv with scope:=relabel scope X.env}) (RR acc cenv.locals) s4) E s3) E s2:=zeB (α:=V) (B:=sizeLine) (ho:=λ_ ys=>.lst ys) (AO:=AOl) hc I2 S hcl1 hcl2 T st2 f2 hg hf (λcl C fp s2 H2=>zkm (he cl C fp s2 H2) O) (λ_ _ q=>XaS q) O (.mk [] 0 .nil) (λ_ _ _ x z=>by cases x;cases z)
  (λ_ _ _ _ _ x hl _ e=>by obtain⟨its,k,v⟩:=x;exact⟨hl,its,k,v,e⟩) zjg hw fin
section
variable{X:Cx}{Nc:List Str}{src:List (Option Nat)}{scope:Scope}{elt tg iter:Expr}{ifs:List Expr}{pos:Pos}{wi:TI}{g:TG}{tf:TT}{te:TE}
def zc9(src:List (Option Nat))(hc:X.calm=true)(S:CompOk X.N X.env.scope Nc src scope)(hi:PI X tg iter wi)
  (hg:∀cl C fp s2 H2,PG (cxC X Nc scope cl C fp s2 H2) tg g) (hf:∀cl C fp s2 H2,PF (cxC X Nc scope cl C fp s2 H2) ifs tf) (he:∀cl C fp s2 H2,PE (cxC X Nc scope cl C fp s2 H2) elt te)
  (hs:∀x,foldedSetIterable iter X.env x=pure x:=by intro _;rfl):PE X (.ListComp elt [{tg,iter,ifs,0}] scope pos) (tComp src wi g tf te):=by
 intro pins s U H Q I h
 obtain⟨cl,hclos,hcl1,hcl2⟩:=zbf I.ok (scope:=scope) S.free
 rw[eval_ListComp]
 refine XbB (use:=none) O hs hclos S.kind (λx hx hl=>by obtain⟨n,k⟩:=x;cases hl;exact zbe S.nodup hx) (thn (hi pins s U H _ I h) λxv s1 h1=>thn h1 λitv s2 h2=>?_)
 obtain⟨it,fp,tn,J,H2,e,I2,T,st2,f2,hw⟩:=h2
 subst e
 refine zfT (RR:=λacc C=>compPost (model X.prog X.w) X.A X.xe none (EP X pins U Q) acc C) hc I2 S hcl1 hcl2 T st2 f2 hg hf he hw ?_
 intro H4 s4 ys m C hC hD Iout hn hCn q
 refine{m,hn,λh' sb=>{.ref s2.heap.objs.size,_,?_,O,q _ hD}}
 obtain⟨f0,f1,f3,f4,f5,f6⟩:=I2.fpOk (H':=upd H4 s2.heap.objs.size (.lst ys)) hC hCn
 exact Iout.turned (t':=s4.toks) (it:=C) (λb o hb e=>(sb.2 b hb).trans e) f0 f1 f4 f5 f6
def zb6{i:Nat}{y:Str}{pos' spos:Pos}(src:List (Option Nat))(hN:X.N.Nodup)(hi':X.N[i]?=some y)(hy:X.env.scope.names.lookup y=some .local)
  (hc:X.calm=true) (S:CompOk X.N X.env.scope Nc src scope) (hi:PI X tg iter wi)
  (hg:∀cl C fp s2 H2,PG (cxC X Nc scope cl C fp s2 H2) tg g) (hf:∀cl C fp s2 H2,PF (cxC X Nc scope cl C fp s2 H2) ifs tf) (he:∀cl C fp s2 H2,PE (cxC X Nc scope cl C fp s2 H2) elt te)
  (hsw:swapsWith (.ListComp elt [{tg,iter,ifs,0}] scope pos) (some (.Name y pos')) spos.line X.env=pure true:=by rfl)
  (hs:∀x,foldedSetIterable iter X.env x=pure x:=by intro _;rfl):PS X (.Assign [.Name y pos'] (.ListComp elt [{tg,iter,ifs,0}] scope pos) spos) (tAsg (tComp src wi g tf te) (zay i)):=by
 intro pins s U H D I h
 obtain⟨cl,hclos,hcl1,hcl2⟩:=zbf I.ok (scope:=scope) S.free
 rw[exec_Assign_Name_used _ _ _ _ hsw]
 refine Xaa (Xa9 (Xaa ?_))
 show wpAny _ X.A (do let _ <- comprehension (.ListComp elt [⟨tg,iter,ifs,0⟩] scope pos) scope X.env _ (newList []) false (eval iter X.env) (some (assign (.Name y pos') X.env))) _ _ s
 refine Xaa (Xav (XbB (use:=some (assign (.Name y pos') X.env)) (Q:=λ_ s'=>SP X pins D .next s') O hs hclos S.kind (λx hx hl=>by obtain⟨n,k⟩:=x;cases hl;exact zbe S.nodup hx)
  (thn (hi pins s U H _ I h) λxv s1 h1=>thn h1 λitv s2 h2=>?_)) (λ_ s' hq=>Xac (Xac hq)) λ_ _ e=>e)
 obtain⟨it,fp,tn,J,H2,e,I2,T,st2,f2,hw⟩:=h2
 subst e
 refine zfT (RR:=λacc C=>compPost (model X.prog X.w) X.A X.xe (some (assign (.Name y pos') X.env)) (λ_ s'=>SP X pins D .next s') acc C) hc I2 S hcl1 hcl2 T st2 f2 hg hf he hw ?_
 intro H4 s4 ys m C hC hD Iout hn hCn q
 show wpAny _ X.A (assign (.Name y pos') X.env (.ref s2.heap.objs.size)) _ _ _
 refine wpAny_assign_Name (zfh (i:=i) Iout hN hi' (.inl hy) (v:=.ref s2.heap.objs.size) O (λs5 I5 ch=>?_) (.inr hy))
 obtain⟨f0,f1,f3,f4,f5,f6⟩:=I2.fpOk (H':=upd H4 s2.heap.objs.size (.lst ys)) hC hCn
 obtain⟨a,sb,ha⟩:=ch
 have hCa:C≠a:=by
  rcases ha with ha|ha
  .rw[ha];exact f1
  .exactλz=>f5 _ _ ha z.symm
 refine{m,hn.sameBut sb hCa,λh' sb'=>{_,_,I5.turned (t':=s5.toks) (it:=C) (λb o hb e=>(sb'.2 b hb).trans e) f0 f1 f4 f5 f6,q _ hD}}
end
section
variable{X:Cx}{pins:List (Addr×Obj)}{U:St}{H:Hp}{s:Shared}
def Inv.turnedL{h':Heap}{t':Nat}{ch:List Addr}(I:Inv X pins U H s)(k:∀b o,b∉ch->s.heap.get? b=some o->h'.get? b=some o)(hf:∀b∈ch,FpOk X pins H b):Inv X pins U H {s with heap:=h',toks:=t'}:=by
 have nit:∀b u,H b=some u->b∉ch:=λb u e z=>by rw[(hf b z).1] at e;cases e
 refine I.step (g':=s.gens) (d':=s.drawn) (ch:=ch) (λb hb=>?_) (λb o _ _ hc e _=>k b o hc e) (λb o _ _ hc e _=>{o.slots,k b o hc e}) (λ_ _ _ _ n=>n)
  (λb o hc e=>{o,k b o hc e}) (λ_ _ e=>e) (λ_ _ _ e=>e) (λb ps e=>{#[],by rw[e];simp}) (λm hm=>?_) (λb u e=>?_) I.bare
 .obtain⟨_,a1,_,a3,a4,a5⟩:=hf b hb
  exact⟨a3,a1,a4,a5⟩
 .obtain⟨o,es,ep,ho,r⟩:=hm
  exact{o,es,ep,k _ o (λz=>(hf _ z).2.1 O) ho,r}
 .refine(I.hok b u e).stay (λc v hc q=>k c v ?_ q) (λ_ q=>q) λ_ _ q=>q
  rcases hc with z|z
  .rw[z];exact nit b u e
  .exact nit c _ z
def Un.track'{fs ex:List Addr}{H H':Hp}{h h':Heap}{a:Addr}{o:HO}(u:Un fs ex H H' h h')(hp:h.objs.size<=a)(hn:H' a=none):Un fs ex H (upd H' a o) h h' where
 keep:=u.keep
 slot:=u.slot
 free:=λb v q n x=>by rw[zah (Xay (Xao (Xai q) hp))];exact u.free b v q n x
 there:=u.there
 tups:=λb xs q=>by rw[zah (zaj (u.tups b xs q) hn)];exact u.tups b xs q
 frzs:=λb v xs q=>by rw[zah (zaj (u.frzs b v xs q) hn)];exact u.frzs b v xs q
 tbls:=λb ps q=>by
  obtain⟨m,e⟩:=u.tbls b ps q
  exact{m,by rw[zah (zaj e hn)];exact e}
def Inv.track{a:Addr}{o:HO}(I:Inv X pins U H s)(f:FpOk X pins H a)(hs:X.s₀.heap.objs.size<=a)(new:ObjOk X.prog X.w (upd H a o) s.heap a o):Inv X pins U (upd H a o) s:=by
 obtain⟨hn,h1,_,_,h4,h5⟩:=f
 refine{I.ok,I.os,I.bare,Un.track' I.base hs hn,I.loc,I.cell,by rw[zah (Ne.symm h1)];exact I.free,λx c e=>by rw[zah (h4 x c e)];exact I.freeC x c e,λp hp=>?_,HOk.track I.hok hn new,I.len}
 obtain⟨a1,a2,a3⟩:=I.pin p hp
 exact{a1,by rw[zah (h5 p hp)];exact a2,a3}
end
def zeE{P:Program}{w:World}{H:Hp}{h:Heap}{T:Addr}{x y:V}{u v:Value}(r:RelV x u)(q:RelV y v)(e:h.get? T=some {cls:=.type "tuple",data:=.seq #[u,v]}):ObjOk P w H h T (.tup [x,y]):=
 {{by show 2<=sizeLine;decide,_,e,O},[u,v],.cons r (.cons q .nil),{_,e,O,_,O}}
def zhf:bootBuiltins "zip"=some (.type "zip"):=by decide +kernel
section
variable{X:Cx}{CX:CXT}{k:Nat}{f:Addr}{fd:FuncData}{ps ks:List Str}{sp:Sp}{E:XK}{x:Str}{p pos:Pos}{kws:List Keyword}{tk:TA}{g:List Value->List Value->List Value}{gV:List V->List V->List V}
def Fun.kbinds{K:W.Frag}{x qual:Str}{st:Stmt}{f:Addr}{fd:FuncData}{ps ks:List Str}{g:List Value->List Value->List Value}{gV:List V->List V->List V}(F:Fun K x qual st f fd)
  (h:∀(kV doc pm:Value) (an:Option Addr) (cdv ct:Value) (us ws:List Value),(g us ws).length=ps.length->bindArgs (W.fnOf x qual (zbs st) (zaM st) (zai st) .none kV doc pm an cdv ct) {us,ks.zip ws}=pure (ps.zip (g us ws)))
  (rel:∀{vs:List V} {us:List Value} {zs:List V} {ws:List Value},Vals vs us->Vals zs ws->Vals (gV vs zs) (g us ws)):KBinds K fd ps ks g gV:=by
 obtain⟨oc,od,kV,doc,pm,an,cdv,ct,osl,rfl,lk,hcd⟩:=F.ex
 exact{λs us ws _ hl=>.of_eq (h kV doc pm an cdv ct us ws hl),rel}
end
section
variable{X:Cx}
def zgl(val:Nat->Int)(ns:List Int)(h:∀i n,ns[i]?=some n->val i=n):∀j,j<=ns.length->preSum val j=(ns.take j).sum:=by
 intro j
 induction j with
 | zero=>intro _;rfl
 | succ j ih =>
  intro hj
  have hlt:j<ns.length:=hj
  show preSum val j+val j=_
  rw[ih (Nat.le_of_lt hlt),h j ns[j] (by simp[hlt]),List.take_succ,List.sum_append]
  simp[hlt]
def zfV(hc:X.calm=true):zbL X (.builtin "sum") (λxs H Q=>∃(a:Addr) (ns:List Int),xs=[.ref a]/\SqL X.K H a (ns.map V.int)/\Q (.int ns.sum) H):=by
 intro pins s U H xs us Q I r h
 obtain⟨a,ns,rfl,hq,q⟩:=h
 obtain⟨u,rfl,ru⟩:=zbW r
 cases ru
 obtain⟨its,rv,p,hz⟩:=I.list hq
 have hi:=zhS rv
 have hl:=hi.length
 refine call_sum_walkG (Xbh p.isList ?_)
 have hne:a≠s.heap.objs.size:=by
  obtain⟨o,ho,_⟩:=p.isList
  exact Xay (Xai ho)
 refine{s.heap.objs.size,_,_,_,_,_,λi=>(ns[i]?).getD 0,O,Walks.list (A:=X.A.in1) (I.ok.hd hc) s.heap.objs.size a hne its.toArray,{{_,Xag _ O,O,O},p.isList.push _},?_,?_,λh' tk t' kk=>?_}
 .intro b hb
  simp only[Xan,XaV,or_false] at hb
  rw[show({s with heap:=s.heap.push _}:Shared).heap.objs.size=s.heap.objs.size+1 from XaC ..]
  rcases hb with rfl|rfl
  .exact Xbm _
  .obtain⟨o,ho,_⟩:=p.isList
   exact Nat.lt_succ_of_lt (Xai ho)
 .intro i v hv
  have hv':its[i]?=some v:=by simpa using hv
  cases hn:ns[i]? with
  | none =>
   exfalso
   rw[List.getElem?_eq_none_iff,<- hl] at hn
   rw[XaL hn] at hv'
   cases hv'
  | some n =>
   obtain⟨t,ht⟩:=hi.get i n hn
   rw[ht] at hv';cases hv'
   exact{t,by show Value.int n t=Value.int ((ns[i]?).getD 0) t;rw[hn];rfl}
 .have e:preSum (λi=>(ns[i]?).getD 0) its.toArray.size=ns.sum:=by
   rw[zgl _ ns (λi n h=>by rw[h];rfl) _ (by simp;omega),Xbk (by simp;omega)]
  rw[e]
  refine{.int ns.sum,H,I.kept (t':=tk) λb o e1=>kk b o (λhb=>?_) (Xab _ e1),⟨t',O⟩,q}
  have hb:=Xae.mp hb
  exact absurd (Xai e1) (by rw[hb];exact XaY _)
def zjS(bs:List Bool)(tr:Nat->Bool)(h:∀i b,bs[i]?=some b->tr i=b):(List.range bs.length).all tr=bs.all id:=by
 induction bs generalizing tr with
 | nil=>rfl
 | cons b r ih =>
  rw[Xar,List.range_succ_eq_map,List.all_cons,List.all_map,List.all_cons,h 0 b O]
  have:=ih (tr∘Nat.succ) (λi c hi=>h (i+1) c (by simpa using hi))
  rw[this];rfl
def zcT(hc:X.calm=true):zbL X (.builtin "all") (λxs H Q=>∃(a:Addr) (bs:List Bool),xs=[.ref a]/\SqL X.K H a (bs.map V.bl)/\Q (.bl (bs.all id)) H):=by
 intro pins s U H xs us Q I r h
 obtain⟨a,bs,rfl,hq,q⟩:=h
 obtain⟨u,rfl,ru⟩:=zbW r
 cases ru
 obtain⟨its,rv,p,hz⟩:=I.list hq
 have hl:=rv.length
 rw[Xaf] at hl
 refine call_all_walk (Xbh p.isList ?_)
 have hne:a≠s.heap.objs.size:=by
  obtain⟨o,ho,_⟩:=p.isList
  exact Xay (Xai ho)
 refine{s.heap.objs.size,_,_,_,_,_,λi=>(bs[i]?).getD true,O,Walks.list (A:=X.A.in1) (I.ok.hd hc) s.heap.objs.size a hne its.toArray,{{_,Xag _ O,O,O},p.isList.push _},?_,λh' tk kk=>?_}
 .intro i v s' Q' E' hv hq'
  have hv':its[i]?=some v:=by simpa using hv
  cases hn:bs[i]? with
  | none =>
   exfalso
   rw[List.getElem?_eq_none_iff,hl] at hn
   rw[XaL hn] at hv'
   cases hv'
  | some b =>
   obtain⟨u',hu',ru'⟩:=rv.get (i:=i) (x:=V.bl b) (by simp[hn])
   obtain rfl:u'=Value.bool b:=ru'
   rw[hu'] at hv';cases hv'
   have hq2:Q' ((bs[i]?).getD true) s':=hq'
   rw[hn] at hq2
   exact Xa3 hq2
 .have e:(List.range its.toArray.size).all (λi=>(bs[i]?).getD true)=bs.all id:=by
   rw[show its.toArray.size=bs.length by simp;omega]
   exact zjS bs _ λi b h=>by rw[h];rfl
  rw[e]
  refine{.bl _,H,I.kept (t':=tk) λb o e1=>kk b o (λhb=>?_) (Xab _ e1),O,q}
  have hb:=Xae.mp hb
  exact absurd (Xai e1) (by rw[hb];exact XaY _)
def ziF:RelV (.ty "int") (.type "int"):=rfl
def ziG:RelV (.ty "bool") (.type "bool"):=rfl
def zeh:bootBuiltins "int"=some (.type "int"):=by decide +kernel
def zjM:bootBuiltins "bool"=some (.type "bool"):=by decide +kernel
def za4:bootBuiltins "isinstance"=some (.builtin "isinstance"):=by decide +kernel
def zhe:bootBuiltins "all"=some (.builtin "all"):=by decide +kernel
inductive rCatS(K:W.Frag)(x:V)(y:V)(H:Hp)(Q:VK):Prop
 | mk a b xs ys(_:x=.ref a)(_:y=.ref b)(_:SqL K H a xs)(_:SqL K H b ys)(_:xs.length+ys.length<=sizeLine)(_:∀p,H p=none->Q (.ref p) (upd H p (.lst (xs++ys))))
def zgq:OpR X (binaryOp .Add) (rCatS X.K):=by
 intro pins s U H x y v u Q I rx ry h
 obtain⟨a,b,xs,ys,rfl,rfl,hq,hq2,hz,q⟩:=h
 cases rx
 cases ry
 obtain⟨its,rv,p,_⟩:=I.list hq
 obtain⟨its2,rv2,p2,_⟩:=I.list hq2
 have e1:=rv.length
 have e2:=rv2.length
 obtain⟨⟨cls,dd,data,sl⟩,ho,hc,n,hd⟩:=id p.isList
 obtain⟨⟨cls2,dd2,data2,sl2⟩,ho2,hc2,n2,hd2⟩:=id p2.isList
 simp only at hc hd hc2 hd2
 subst hc hd hc2 hd2
 have ea:its.toArray++its2.toArray=(its++its2).toArray:=by simp
 refine concat_meets {_,ho,O} {_,ho2,O} noFill_list_add seq_list_add PySem.F.slot_list_add PySem.F.entry_list_add (PySem.F.args_list_add_2 _ _) (list_addW a b its.toArray its2.toArray n n2 dd dd2 sl sl2 (by rw[Xaq,Xaq];omega)) {ho,ho2,?_}
 rw[ea]
 exact{.ref _,_,I.lnew (t':=s.toks) (rv.append rv2) (by rw[Xah];omega),O,q _ I.fresh}
def zbR:OpR X (binaryOp .Mult) (rI IntMulOk λi j=>.int (i*j)):=opI λ_ _ _ _ _ _ _ hc q=>mul_int q hc
def zb9:OpR X (binaryOp .FloorDiv) (rI (λ_ j=>0<j/\j.natAbs.log2<9000) λi j=>.int (i / j)):=opI λi j _ _ _ _ _ hc q=>by
 have e:i.fdiv j=i / j:=Int.fdiv_eq_ediv_of_nonneg _ (Int.le_of_lt hc.1)
 exact floordiv_int (by have:=hc.1;omega) (by rw[e];exact q) (.inl (PyProof.noPylong_of_log2 hc.2))
end
def bits_script{ns:List Int}(h:W.WData.layableAll [W.WData.list (ns.map W.WData.int)]=true):∀n∈ns,Builtin.Int.intBits n<=2 ^ 20:=by
 intro n hn
 have h1:(W.WData.list (ns.map W.WData.int)).layable=true:=by
  have:=XaN.mp h _ Xat
  exact this
 have hw:=(W.layableW_iff.mp h1).2.2
 have key:∀l:List Int,n∈l->Builtin.Int.intBits n<=W.WData.weightAll (l.map W.WData.int):=by
  intro l
  induction l with
  | nil=>intro h;cases h
  | cons m r ih =>
   intro hm
   rw[XaR,W.WData.weightAll]
   rcases Xan.mp hm with e|hm
   .subst e
    have:Builtin.Int.intBits n<=(W.WData.int n).weight:=by
     simp only[W.WData.weight,Builtin.Int.intBits]
     omega
    omega
   .have:=ih hm
    omega
 have h2:=key ns hn
 rw[W.WData.weight] at hw
 omega
end L2
namespace Att
open PySem PySem.W PyProof.Rows PySem.Calls
def attach_callB{l:OpenLaw}{n:Nat}{q:Program}{loose:List Str}{XP:(Str->Option Value)->Heap->Prop}{YP:World->Heap->Prop}{d:DefRec}
  (hn:l.most=some n) (hdf:d.params.defaults=[])
  (call:∀(w:World) (s₀ s₁:Shared) (mg mb:Str->Option Value) (fa:Addr) (o:Obj) (pm cd doc:Value) (a:Addr) (vs:List Value) (ns:List Int),
   Ground q loose [] XP w s₀ mg mb s₁.heap->YP w s₁.heap ->
   s₁.heap.get? fa=some o->o.data=.func (docDef d.name d.params d.body d.scope pm cd doc)->s₁.heap.CodeRec cd d.name->mg d.name=some (.ref fa) ->
   s₁.heap.get? a=some {cls:=.type "list",data:=.seq vs.toArray}->IntsAre vs ns->ns.length<=n->(∀m∈ns,Builtin.Int.intBits m<=2 ^ 20)->s₁.gens=#[] ->
   codeAny (model l.prog w) callerA (.call (.ref fa) {[.ref a],[]}) (λr s'=>r=.ok (.ret (.bool true))/\OldK s₁.heap s'.heap/\s'.os=s₁.os/\AllBare s'.gens) s₁) :
  WalkO q loose XP YP l.row.toRowW d [] (λf vs=>PySem.call f vs):=by
 intro w s₀ s₁ mg mb G Y fa o pm cd doc dV kV ho hd hcd hD hmg hg args vals as hpre hlay hrd hwl hlo
 obtain rfl:dV=.none:=Dflts.none hD hdf
 obtain rfl:kV=.none:=Dflts.noKw hD
 obtain⟨a,vs,ns,rfl,rfl,hobj,hints,hlen⟩:=ziA hn hpre hwl
 refine enter_call (Xbj (call w s₀ s₁ mg mb fa o pm cd doc a vs ns G Y ho (fd_plain hd) hcd hmg hobj hints hlen (L2.bits_script hlay) hg) λr s' hq=>?_)
 obtain⟨rfl,h2,h3,h4⟩:=hq
 exact{.inl {.bool true,.bool true,[],O,λ_=>O,.bool true,ziP l _,λ_=>{List.Pairwise.nil,λ_ hm=>(nomatch hm)}},h2,h3,h4}
end Att
namespace L2
open PySem PySem.Spec PyProof.Rows
def walk_ofB{l:W.OpenLaw}{n k:Nat}{q:Program}{loose:List Str}{XP:(Str->Option Value)->Heap->Prop}{YP:World->Heap->Prop}{d:DefRec}{K:Params->W.Frag}{CX:World->CXT}{sp:World->Sp}{x:Str}
  (hn:l.most=some n) (hn2:n<=sizeLine) (hdf:d.params.defaults=[]) (hr:Room k callerA)
  (hY:∀(w:World) (h:Heap),YP w h->(K w.params).In h)
  (F:∀(w:World) (mg:Str->Option Value) (fa:Addr) (h:Heap),(K w.params).In h->h.Ns mainGlobals mg->mg d.name=some (.ref fa) ->
   ∃fd:FuncData,(∀(s:Shared) (u:Value),BindsTo s fd {[u],[]} [(x,u)]) /\
    ∀base:Heap,(K w.params).In base->base.Ns mainGlobals mg->FnOk l.prog w (K w.params) mg base (CX w) k fa fd [x] (sp w))
  (hsp:∀(w:World) (H:Hp) (a:Addr) (ns:List Int),ns.length<=n->(∀m∈ns,Builtin.Int.intBits m<=2 ^ 20)->Only H->SqL (K w.params) H a (ns.map V.int)->sp w [.ref a] H (λv _=>v=.bl true) λ_ _ _=>False)
  (hCX:∀(w:World) (H:Hp) (s:Shared) (e:Value) (s':Shared),CX w [] H s (λ_ _ _=>False) e s'->False) :
  W.WalkO q loose XP YP l.row.toRowW d [] (λf vs=>PySem.call f vs):=by
 refine Att.attach_callB hn hdf λw s₀ s₁ mg mb fa o pm cd doc a vs ns G Y ho hd hcd hmg hobj hints hlen hbits hg=>?_
 have KX:=hY w _ Y
 obtain⟨fd,hb,hF⟩:=F w mg fa _ KX G.T.g hmg
 exact zkC KX G.T.g G.T.b G.T.builtins G.T.nolimit hg hobj hints (Xak hlen hn2) hr hF hb (λH hO hS=>hsp w H a ns hlen hbits hO hS) λH e s'=>hCX w H s₁ e s'
section
variable{K:W.Frag}{g:TG}{tf:TT}{te:TE}{Q:List V->Hp->Prop}{U:St}{H:Hp}
def zcc{lo:Int}{n:Nat}(Pv:Nat->List V->St->Hp->Prop)(hn:n<=sizeLine)(h0:Pv 0 [] U H)(hz:∀i ys U H,Pv i ys U H->ys.length<=i)
  (hs:∀i ys U H,i<n->Pv i ys U H->g (.int (lo+i)) U H λU2 H2=>tf U2 H2 λb H3=>if b=true then te U2 H3 λy H4=>Pv (i+1) (ys++[y]) U2 H4 else Pv (i+1) ys U2 H3)
  (hd:∀ys U H,Pv n ys U H->Q ys H):zf9 (Itr lo n) g tf te Q U H:=by
 refine{λi m ys U H=>m=n-i/\i<=n/\Pv i ys U H,{n,by simp,Nat.zero_le _,h0},?_}
 rintro i m ys U H ⟨rfl,hi,p⟩
 have hl:=hz i ys U H p
 by_cases hlt:i<n
 .refine .inr {hlt,by omega,Pv (i+1),λys' U' H' p'=>{n-(i+1),by omega,O,hlt,p'},λx H' y=>?_}
  obtain⟨e,y⟩:=y
  subst e y
  exact hs i ys U _ hlt p
 .have e:i=n:=by omega
  subst e
  exact .inl {Xad _,by omega,hd ys U H p}
def zfS{a:Addr}{xs:List V}(Pv:Nat->List V->St->Hp->Prop)(hn:xs.length<=sizeLine)(h0:Pv 0 [] U H)(hl:∀i ys U H,i<=xs.length->Pv i ys U H->SqL K H a xs/\ys.length<=i)
  (hs:∀i x ys U H,xs[i]?=some x->Pv i ys U H->g x U H λU2 H2=>tf U2 H2 λb H3=>if b=true then te U2 H3 λy H4=>Pv (i+1) (ys++[y]) U2 H4 else Pv (i+1) ys U2 H3)
  (hd:∀ys U H,Pv xs.length ys U H->Q ys H):zf9 (Itl K a) g tf te Q U H:=by
 refine{λi m ys U H=>m=xs.length-i/\i<=xs.length/\Pv i ys U H,{xs.length,by simp,Nat.zero_le _,h0},?_}
 rintro i m ys U H ⟨rfl,hi,p⟩
 obtain⟨q,hz⟩:=hl i ys U H hi p
 by_cases hlt:i<xs.length
 .refine .inr {{xs,xs[i],q,by simp[hlt]},by omega,Pv (i+1),λys' U' H' p'=>{xs.length-(i+1),by omega,O,hlt,p'},λx H' y=>?_}
  obtain⟨e,y⟩:=y
  subst e
  exact hs i x ys U _ (y xs q) p
 .have e:i=xs.length:=by omega
  subst e
  exact .inl {{xs,q,Xad _},by omega,hd ys U H p}
end
def zfN{K:W.Frag}{i j:Nat}{T:Addr}{x y:V}{U:St}{H:Hp}{Q:St->Hp->Prop}(h:Q ((U.set i (some x)).set j (some y)) (upd H T (.tup [x,y]))) :
  gTup K 2 (gCons (zay i) (gCons (zay j) gNil)) (.ref T) U (upd H T (.tup [x,y])) Q:=
 {T,[x,y],O,SqT.of zac,O,x,[y],O,y,[],O,O,h}
end L2
end
section
namespace Cb
open PySem
abbrev FunN(K:PySem.W.Frag)(x:Str):=L2.Fun K x x
def ones:Nat->Nat
 | 0=>0
 | n+1=>(n+1) % 2+ones ((n+1) / 2)
decreasing_by omega
def zd0(n:Nat):ones n=n % 2+ones (n / 2):=by
 cases n with
 | zero=>simp[ones]
 | succ n=>rw[ones]
def sgl:Nat->List Nat
 | 0=>[]
 | n+1=>if(n+1) % 2=1 then 1::(sgl ((n+1) / 2)).map (2*·) else(sgl ((n+1) / 2)).map (2*·)
decreasing_by all_goals omega
def zj5:sgl 0=[]:=by simp[sgl]
def ziy(n:Nat):sgl (2*n+1)=1::(sgl n).map (2*·):=by
 rw[sgl,if_pos (by omega),show(2*n+1) / 2=n by omega]
def zdE(n:Nat):sgl (2*n)=(sgl n).map (2*·):=by
 cases n with
 | zero=>simp[sgl]
 | succ n =>
  rw[show 2*(n+1)=(2*n+1)+1 by omega,sgl,if_neg (by omega),show(2*n+1+1) / 2=n+1 by omega]
def zcY:∀n,(sgl n).length=ones n:=by
 intro n
 induction n using Nat.strongRecOn with
 | _ n ih =>
  rcases Nat.mod_two_eq_zero_or_one n with h|h
  .by_cases h0:n=0
   .subst h0;simp[sgl,ones]
   .have e:n=2*(n / 2):=by omega
    rw[zd0,h]
    conv=>lhs;rw[e]
    rw[zdE,Xaf,ih _ (by omega)];omega
  .have e:n=2*(n / 2)+1:=by omega
   rw[zd0,h]
   conv=>lhs;rw[e]
   rw[ziy,Xar,Xaf,ih _ (by omega)];omega
def zjh(a b:Nat):(2*a) &&& (2*b)=2*(a &&& b):=by
 apply Nat.eq_of_testBit_eq;intro i
 cases i with
 | zero=>simp[XaP]
 | succ i =>
  rw[XaP,Xbb,Xbb,Xbb,show(2*a) / 2=a by omega,show(2*b) / 2=b by omega,show(2*(a &&& b)) / 2=(a &&& b) by omega,XaP]
def zkD(a b:Nat):(2*a+1) &&& (2*b+1)=2*(a &&& b)+1:=by
 apply Nat.eq_of_testBit_eq;intro i
 cases i with
 | zero=>simp[XaP]
 | succ i =>
  rw[XaP,Xbb,Xbb,Xbb,show(2*a+1) / 2=a by omega,show(2*b+1) / 2=b by omega,show(2*(a &&& b)+1) / 2=(a &&& b) by omega,XaP]
def zgE(a b:Nat):(2*a+1) &&& (2*b)=2*(a &&& b):=by
 apply Nat.eq_of_testBit_eq;intro i
 cases i with
 | zero=>simp[XaP]
 | succ i =>
  rw[XaP,Xbb,Xbb,Xbb,show(2*a+1) / 2=a by omega,show(2*b) / 2=b by omega,show(2*(a &&& b)) / 2=(a &&& b) by omega,XaP]
def zji(a b:Nat):(2*a) &&& (2*b+1)=2*(a &&& b):=by rw[Nat.and_comm,zgE,Nat.and_comm]
def zj6:∀n,0<n->(n &&& (n-1))<n/\sgl n=(n-(n &&& (n-1)))::sgl (n &&& (n-1)):=by
 intro n
 induction n using Nat.strongRecOn with
 | _ n ih =>
  intro hn
  rcases Nat.mod_two_eq_zero_or_one n with h|h
  .have e:n=2*(n / 2):=by omega
   obtain⟨h1,h2⟩:=ih (n / 2) (by omega) (by omega)
   generalize n / 2=m at *
   subst e
   have e2:2*m-1=2*(m-1)+1:=by omega
   rw[e2,zji]
   refine{by omega,?_}
   rw[zdE,zdE,h2,XaR]
   congr 1
   omega
  .have e:n=2*(n / 2)+1:=by omega
   generalize n / 2=m at *
   subst e
   have e2:2*m+1-1=2*m:=by omega
   rw[e2,zgE,Nat.and_self]
   exact{by omega,by rw[ziy,zdE];congr 1;omega}
def zi5:∀m n,n<2 ^ m->ones n<=m
 | 0,n,h=>by simp at h;subst h;simp[ones]
 | m+1,n,h=>by
  have:=zi5 m (n / 2) (by rw[Nat.pow_succ] at h;omega)
  rw[zd0];omega
def band(a b:Nat):Builtin.bitAnd (a:Int) (b:Int)=((a &&& b:Nat):Int):=by
 unfold Builtin.bitAnd
 simp
end Cb
end
section
namespace L2
open PySem PySem.Spec PyProof.Rows
def zcB(N:List Str)(names:List (Str×NameKind)):List (Option Nat)->List Str->Bool
 | [],[]=>true
 | none::r,_::s=>zcB N names r s
 | some i::r,x::s=>(N[i]?==some x)&&(names.lookup x==some .free)&&zcB N names r s
 | _,_=>false
def ndOk:List (Str×NameKind)->Bool
 | []=>true
 | x::r=>(r.all λy=>x.1 != y.1)&&ndOk r
def zfU(N:List Str)(osc:Scope)(Nc:List Str)(src:List (Option Nat))(scope:Scope):Bool:=
 scope.kind==.function&&(scope.names.all λx=>x.2 != .cell)&&ndOk scope.names &&
 (scope.names.all λx=>x.2 != .free || osc.names.lookup x.1==some .cell || osc.names.lookup x.1==some .free)&&zcB N scope.names src Nc
def zdM{N:List Str}{names:List (Str×NameKind)}:∀{src:List (Option Nat)} {Nc:List Str},zcB N names src Nc=true->src.length=Nc.length
 | [],[],_=>rfl
 | none::r,_::s,h=>by simp only[Xar];rw[zdM (src:=r) (Nc:=s) h]
 | some i::r,x::s,h=>by
  simp only[zcB,Xa0] at h
  simp only[Xar];rw[zdM h.2]
 | [],_::_,h=>by simp[zcB] at h
 | none::_,[],h=>by simp[zcB] at h
 | some _::_,[],h=>by simp[zcB] at h
def zdL{N:List Str}{names:List (Str×NameKind)}:∀{src:List (Option Nat)} {Nc:List Str},zcB N names src Nc=true->∀(j i:Nat),src[j]?=some (some i)->∃x,Nc[j]?=some x/\N[i]?=some x/\names.lookup x=some .free
 | [],[],_,j,i,e=>by simp at e
 | none::r,y::s,h,0,i,e=>by simp at e
 | none::r,y::s,h,j+1,i,e=>by
  have:=zdL (src:=r) (Nc:=s) h j i (by simpa using e)
  simpa using this
 | some k::r,x::s,h,0,i,e=>by
  simp only[zcB,Xa0,beq_iff_eq] at h
  simp only[List.getElem?_cons_zero,Option.some.injEq] at e
  subst e
  exact⟨x,O,h.1.1,h.1.2⟩
 | some k::r,x::s,h,j+1,i,e=>by
  simp only[zcB,Xa0] at h
  have:=zdL (src:=r) (Nc:=s) h.2 j i (by simpa using e)
  simpa using this
 | [],_::_,h,_,_,_=>by simp[zcB] at h
 | none::_,[],h,_,_,_=>by simp[zcB] at h
 | some _::_,[],h,_,_,_=>by simp[zcB] at h
def zjc:∀{l:List (Str×NameKind)},ndOk l=true->l.Pairwise λx y=>x.1≠y.1
 | [],_=>.nil
 | x::r,h=>by
  simp only[ndOk,Xa0,XaN,bne_iff_ne] at h
  exact .cons h.1 (zjc h.2)
def zaN{N:List Str}{osc:Scope}{Nc:List Str}{src:List (Option Nat)}{scope:Scope}(h:zfU N osc Nc src scope=true):CompOk N osc Nc src scope:=by
 simp only[zfU,Xa0,beq_iff_eq,XaN,bne_iff_ne] at h
 obtain⟨⟨⟨⟨h1,h2⟩,h3⟩,h4⟩,h5⟩:=h
 refine{h1,h2,zjc h3,λx hx hf=>?_,zdM h5,zdL h5}
 have:=h4 x hx
 simp only[XbG,bne_iff_ne,beq_iff_eq] at this
 rcases this with(z|z)|z
 .exact absurd hf z
 .exact .inl z
 .exact .inr z
structure Cal(P:Program)(w:World)(K:W.Frag)(mg:Str->Option Value)(base:Heap)(k:Nat)(x:Str)(ps:List Str)(sp:Sp):Prop where
 ex:∃f fd,FnOk P w K mg base CX0 k f fd ps sp/\mg x=some (.ref f)/\W.keepIn K (.ref f)=true/\Binds K fd ps []
section
variable{X:Cx}{k:Nat}{ps ks:List Str}{sp:Sp}{x:Str}{p pos:Pos}{e:Expr}{es:List Expr}{t tk:TA}{kws:List Keyword}{gV:List V->List V->List V}
def pe_cal(C:Cal X.prog X.w X.K X.mg X.base k x ps sp)(hr:Room k X.A)(hg:Gl X x)(ha:PA X (e::es) t)(hdb:(x==("__debug__" : Str))=false:=by decide)
  (he:starEach (e::es) X.env=(false,eval e X.env)::starEach es X.env:=by rfl) (hpl:(backTo pos (starEach es X.env)).any (·.1)=false:=by rfl):PE X (.Call (.Name x p) (e::es) [] pos) (zj2 sp [] E0 t):=by
 obtain⟨f,fd,F,hm,hk,hb⟩:=C.ex
 exact zma F hr hg hm hk hb .nil zhx ha hdb he hpl
end
end L2
namespace Cb
open PySem L2
def KeepP(p:Addr)(H H':Hp):Prop:=∀b o,b≠p->H b=some o->H' b=some o
def KeepP.trans{p:Addr}{H H1 H2:Hp}(a:KeepP p H H1)(b:KeepP p H1 H2):KeepP p H H2:=λc o n h=>b c o n (a c o n h)
def KeepP.of{p:Addr}{H H':Hp}(h:Same H H'):KeepP p H H':=λb o _ e=>h b o e
def zae{H:Hp}{p:Addr}{o:HO}(h:H p=none):Same H (upd H p o):=λb u e=>by rw[zah (zaj e h)];exact e
def vN(l:List Nat):List V:=l.map λ(b:Nat)=>V.int (b:Int)
def zaq(l:List Nat):(vN l).length=l.length:=Xaf ..
def zeD(l:List Nat)(b:Nat):vN (l++[b])=vN l++[V.int (b:Int)]:=by simp[vN]
def zij{l:List Nat}{i:Nat}{x:V}(h:(vN l)[i]?=some x):∃b,l[i]?=some b/\x=V.int (b:Int):=by
 unfold vN at h
 rw[Xax] at h
 cases e:l[i]? with
 | none=>rw[e] at h;cases h
 | some b=>rw[e] at h;exact{b,O,(Option.some.inj h).symm}
inductive spLaw(K:W.Frag)(vs:List V)(H:Hp)(Q:VK)(u3_:XK):Prop
 | mk (a:Addr) (ns:List Int)(_:vs=[.ref a])(_:SqL K H a (ns.map V.int))(_:ns.length<=63)(_:(∀m∈ns,Builtin.Int.intBits m<=2 ^ 20))(_:∀H',Q (.bl true) H')
inductive spSingles(vs:List V)(H:Hp)(Q:VK)(u3_:XK):Prop
 | mk (n:Nat)(_:vs=[.int (n:Int)])(_:n<2 ^ 64)(_:∀(p:Addr) (H':Hp),H p=none->H' p=some (.lst (vN (sgl n)))->Same H H'->Q (.ref p) H')
inductive spOnes(vs:List V)(H:Hp)(Q:VK)(u3_:XK):Prop
 | mk (n:Nat)(_:vs=[.int (n:Int)])(_:n<2 ^ 64)(_:∀H',Same H H'->Q (.int (ones n:Int)) H')
end Cb
end
section
namespace L2
open PySem PySem.Spec PyProof.Rows
section
variable{X:Cx}{K:W.Frag}
def ziU(n:Nat)(hK:X.K=K){es:List Expr}{k:Nat}{t:TGs}{pos:Pos}(hc:X.calm=true)(h:PGs X es t)
  (hn:(assignEach es X.env).length=n:=by rfl) (hst:(assignEach es X.env).findIdx? (·.1)=none:=by rfl):PG X (.Tuple es k pos) (gTup K n t):=by
 subst hK;exact zbI hc h hn hst
def ze3(hK:X.K=K):IxR X (rIxL K):=by subst hK;exact zaz
def zgH(hK:X.K=K):IxR X (rIxT K):=by subst hK;exact za3
end
section
variable{prog:Program}{w:World}{A:Around}{E:Value->Shared->Prop}{s:Shared}
end
end L2
end
section
namespace L2
open PySem PySem.Spec PyProof.Rows Builtin
structure FunD(K:W.Frag)(x qual:Str)(st:Stmt)(dV:Value)(f:Addr)(fd:FuncData):Prop where
 ex:∃(oc:Value) (od:Option Addr) (kV doc pm:Value) (an:Option Addr) (cdv ct:Value) (osl:Array (Option Value)),
  fd=W.fnOf x qual (zbs st) (zaM st) (zai st) dV kV doc pm an cdv ct/\K.lookup f=some {oc,od,.func fd,osl}/\W.codeIn K cdv qual=true
 kp:W.keepIn K (.ref f)=true
section
variable{P:Program}{w:World}{K:W.Frag}{mg:Str->Option Value}{base:Heap}
def FunD.ok{x qual:Str}{st:Stmt}{dV:Value}{f:Addr}{fd:FuncData}{N ps:List Str}{k:Nat}{sp:Sp}(F:FunD K x qual st dV f fd)(S:FnScope N ps (zai st))(len:∀vs H Q E,sp vs H Q E->vs.length=ps.length)
  (hbody:∀(cdv:Value) (A:Around) (outer:List Env) (s:Shared) (H:Hp) (vs:List V) (Q:VK) (E:XK),Room k (A.deeper (envOfC qual (zai st) s.heap.objs.size f cdv))->sp vs H Q E ->
   ∃t,PSs (cxOf CX0 P w K mg base N qual (zai st) f cdv A outer s H E).nox (zaM st) t/\t {nx:=λ_ H'=>Q .non H',rt:=Q} (start N vs) H):FnOk P w K mg base CX0 (k+1) f fd ps sp:=by
 obtain⟨oc,od,kV,doc,pm,an,cdv,ct,osl,rfl,lk,hcd⟩:=F.ex
 refine zmv lk hcd S len λA outer s H vs Q E hr hsp=>?_
 obtain⟨t,h,q⟩:=hbody cdv A outer s H vs Q E hr hsp
 exact⟨t,h.nox,q⟩
def zmu{x qual:Str}{st:Stmt}{dV:Value}{f:Addr}{oc:Value}{od an:Option Addr}{osl:Array (Option Value)}{kV doc pm cdv ct:Value}(l:K.lookup f=some {oc,od,.func (W.fnOf x qual (zbs st) (zaM st) (zai st) dV kV doc pm an cdv ct),osl})
  (c:W.codeIn K cdv qual=true) (k:W.keepIn K (.ref f)=true):FunD K x qual st dV f (W.fnOf x qual (zbs st) (zaM st) (zai st) dV kV doc pm an cdv ct):={⟨oc,od,kV,doc,pm,an,cdv,ct,osl,O,l,c⟩,k}
def FunD.kbinds{x qual:Str}{st:Stmt}{T:Addr}{o:Obj}{items:Array Value}{n:Nat}{f:Addr}{fd:FuncData}{ps ks:List Str}{g:List Value->List Value->List Value}{gV:List V->List V->List V}(F:FunD K x qual st (.ref T) f fd)
  (ho:K.lookup T=some o) (hs:o.data=.seq items n)
  (h:∀(kV doc pm:Value) (an:Option Addr) (cdv ct:Value) (us ws:List Value),(g us ws).length=ps.length->∃q,bindArgs (W.fnOf x qual (zbs st) (zaM st) (zai st) (.ref T) kV doc pm an cdv ct) {us,ks.zip ws}=seqItems? (.ref T) >>= q/\q (some items)=pure (ps.zip (g us ws)))
  (rel:∀{vs:List V} {us:List Value} {zs:List V} {ws:List Value},Vals vs us->Vals zs ws->Vals (gV vs zs) (g us ws)):KBinds K fd ps ks g gV:=by
 obtain⟨oc,od,kV,doc,pm,an,cdv,ct,osl,rfl,lk,hcd⟩:=F.ex
 refine{λs us ws X hl=>?_,rel}
 obtain⟨q,h1,h2⟩:=h kV doc pm an cdv ct us ws hl
 exact W.binds_K X O ho hs h1 h2
def KBinds.pos{fd:FuncData}{ps:List Str}(b:Binds K fd ps []):KBinds K fd ps [] (λus _=>us) (λvs _=>vs):=
 {λs us ws X hl=>by have:=b s us X (by rw[XbF];exact hl);rw[XbF] at this;exact this,λr _=>r}
end
def swS{α:Type}(us zs:List α):List α:=match zs with
 | [a,b]=>us++[b,a]
 | _=>[]
structure Mth(P:Program)(w:World)(K:W.Frag)(mg:Str->Option Value)(base:Heap)(k:Nat)(C:Addr)(m:Str)(ks:List Str)(gV:List V->List V->List V)(sp:Sp):Prop where
 cls:Cls K C
 ex:∃f fd ps g,Meth K C m f/\FnOk P w K mg base CX0 k f fd ps sp/\KBinds K fd ps ks g gV
inductive tMth_1(P:Program)(w:World)(K:W.Frag)(mg:Str->Option Value)(base:Heap)(k:Nat)(m:Str)(ks:List Str)(t:TA)(tk:TA)(U:St)(Q:VK)(x:V)(H1:Hp):Prop
 | mk a C dx fs gV sp(_:x=.ref a)(_:H1 a=some (.ins C dx fs))(_:Mth P w K mg base k C m ks gV sp)(_:fs.lookup m=none)(_:t U H1 λvs H2=>tk U H2 λzs H3=>sp (gV (x::vs) zs) H3 Q E0)
def tMth(P:Program)(w:World)(K:W.Frag)(mg:Str->Option Value)(base:Heap)(k:Nat)(m:Str)(ks:List Str)(ta:TE)(t tk:TA):TE:=λU H Q=>ta U H (tMth_1 P w K mg base k m ks t tk U Q)
section
variable{X:Cx}{k:Nat}{C:Addr}{ks:List Str}{x m:Str}{p pos apos:Pos}{e o:Expr}{es:List Expr}{kws:List Keyword}{ta:TE}{t tk:TA}
def zfq{P:Program}{w:World}{K:W.Frag}{mg:Str->Option Value}{base:Heap}(k:Nat)(hX:X.prog=P/\X.w=w/\X.K=K/\X.mg=mg/\X.base=base)(hr:Room k X.A){pl:Sem Bool}(he:PE X o ta)(ha:PA X (e::es) t)
  (hst:starEach (e::es) X.env=(false,eval e X.env)::starEach es X.env:=by rfl) (hpl:(backTo pos (starEach es X.env)).any (·.1)=false:=by rfl)
  (ht:eval (.Call (.Attribute o m apos) (e::es) [] pos) X.env=(do
   let ov <- eval o X.env
   standAt apos.atName
   let(f,first) <- holding [ov] (getMethod ov m pl)
   callWith pos f first (backTo pos (starEach (e::es) X.env)) (backToKw pos (keywordEach [] X.env))):=by rfl) :
  PE X (.Call (.Attribute o m apos) (e::es) [] pos) (tMth P w K mg base k m [] ta t tNil):=by
 obtain⟨rfl,rfl,rfl,rfl,rfl⟩:=hX
 intro pins s U H Q I h
 refine W.methodCall_KW (pl:=pl) (thn (he pins s U H _ I h) λu s1 hh_=>?_) ht
 obtain⟨x,H1,I1,rx,a,C,dx,fs,gV,sp,ex,ea,M,l,q⟩:=hh_
 obtain⟨c,f,fd,ps,g,hm,F,hb⟩:=M
 subst ex
 obtain rfl:u=Value.ref a:=rx
 refine zey I1 ea c hm l ?_
 refine W.callWith_K (first:=[.ref a]) (h₀:=X.base) I.ok.mod.kin hm.kp (thn (ha pos pins s1 U H1 _ I1 q) λus s2 ⟨vs,H2,I2,r,q2⟩=>{I2.kIn,?_}) hst hpl
 exact ziD (us:=.ref a::us) (vs:=.ref a::vs) (ws:=[]) (zs:=[]) F hr hb zhx I2 (.cons O r) .nil q2
def zgm{P:Program}{w:World}{K:W.Frag}{mg:Str->Option Value}{base:Heap}(k:Nat)(hX:X.prog=P/\X.w=w/\X.K=K/\X.mg=mg/\X.base=base)(hr:Room k X.A){pl:Sem Bool}(he:PE X o ta)
  (ht:eval (.Call (.Attribute o m apos) [] [] pos) X.env=(do
   let ov <- eval o X.env
   standAt apos.atName
   let(f,first) <- holding [ov] (getMethod ov m pl)
   callWith pos f first (backTo pos (starEach [] X.env)) (backToKw pos (keywordEach [] X.env))):=by rfl) :
  PE X (.Call (.Attribute o m apos) [] [] pos) (tMth P w K mg base k m [] ta tNil tNil):=by
 obtain⟨rfl,rfl,rfl,rfl,rfl⟩:=hX
 intro pins s U H Q I h
 refine W.methodCall_KW (pl:=pl) (thn (he pins s U H _ I h) λu s1 hh_=>?_) ht
 obtain⟨x,H1,I1,rx,a,C,dx,fs,gV,sp,ex,ea,M,l,q⟩:=hh_
 obtain⟨c,f,fd,ps,g,hm,F,hb⟩:=M
 subst ex
 obtain rfl:u=Value.ref a:=rx
 refine zey I1 ea c hm l ?_
 exact W.callWith_K0 (first:=[.ref a]) I1.kIn hm.kp (ziD (us:=[.ref a]) (vs:=[.ref a]) (ws:=[]) (zs:=[]) F hr hb zhx I1 (.cons O .nil) .nil q)
end
def tLenO(P:Program)(w:World)(K:W.Frag)(mg:Str->Option Value)(base:Heap)(k:Nat)(ta:TE):TE:=λU H Q=>ta U H λx H1=>∃a C dx fs gV sp,x=.ref a/\H1 a=some (.ins C dx fs)/\Mth P w K mg base k C "__len__" [] gV sp /\
 sp (gV [x] []) H1 (λv H2=>∃n:Int,v=.int n/\0<=n/\n<2 ^ 63/\Q (.int n) H2) E0
section
variable{X:Cx}{e:Expr}{p pos:Pos}{ta:TE}
def lenQ(X:Cx)(k:Nat)(Q:VK)(vs:List V)(H1:Hp):Prop:=match vs with
 | [x]=>∃a C dx fs gV sp,x=.ref a/\H1 a=some (.ins C dx fs)/\Mth X.prog X.w X.K X.mg X.base k C "__len__" [] gV sp/\sp (gV [x] []) H1 (λv H2=>∃n:Int,v=.int n/\0<=n/\n<2 ^ 63/\Q (.int n) H2) E0
 | _=>False
def LenIs(Q:Value->Shared->Prop):Value->Shared->Prop
 | .int n _,s'=>0<=n/\n<2 ^ 63/\Q (.int n s'.toks) {s' with toks:=s'.toks+1}
 | _,_=>False
def lenOwn{prog:Program}{w:World}{A:Around}{E:Value->Shared->Prop}{s:Shared}{K:W.Frag}{a C f:Addr}{ob:Obj}{od:Option Obj}{Q:Value->Shared->Prop}(X:K.In s.heap)(I:W.InstAt s.heap a ob C od)
  (hs:W.findIn K (.ref C) "__len__"=some (some (.ref f))) (ht:W.typeIn K (.ref f)=some (.type "function"))
  (h:wpAny (model prog w) A.in1 (call (.ref f) [.ref a]) (LenIs Q) E s):wpAny (model prog w) A (call (.builtin "len") [.ref a]) Q E s:=by
 refine Calls.call_function_entry kind_len plain_len entry_len (args_len1 _) ?_
 delta Builtin.«len»
 refine Xaa (m:=oneArg "len" _) (Xac (Xaa (m:=callSpecial? (.ref a) (Str.ofString "__len__")) (W.special_fn X I hs ht (Xav h (λr s' hr=>?_) (λ_ _ z=>z)))))
 cases r with
 | int n t =>
  obtain⟨h0,h1,hq⟩:=hr
  refine Xaa (XaE (Xac (Xaa (wpAny_letGo ?_))))
  have e1:¬ n<0:=by omega
  have e2:¬ n>=2 ^ 63:=by omega
  dsimp only
  rw[if_neg e1,if_neg e2]
  exact Xaa (wpAny_mkInt (Xac {_,O,hq}))
 | _=>exact hr.elim
def mtyp{K:W.Frag}{C f:Addr}{m:Str}(h:Meth K C m f):W.typeIn K (.ref f)=some (.type "function"):=beq_iff_eq.mp h.fn
def zl8{P:Program}{w:World}{K:PySem.W.Frag}{mg:Str->Option Value}{base:Heap}(k:Nat)(hX:X.prog=P/\X.w=w/\X.K=K/\X.mg=mg/\X.base=base)(hr:Room (k+1) X.A)(hg:Gl X "len")(hm:X.mg "len"=none)(he:PE X e ta)
  (hst:starEach [e] X.env=(false,eval e X.env)::starEach [] X.env:=by rfl):PE X (.Call (.Name "len" p) [e] [] pos) (tLenO P w K mg base k ta):=by
 obtain⟨rfl,rfl,rfl,rfl,rfl⟩:=hX
 intro pins s U H Q I h
 refine Xbf (zcP I hg hm PySem.boot_len ?_ (by decide) (by decide))
 refine PyProof.Rows.callWith_builtin1 (thn (zaa (t:=tNil) he zab hst pos pins s U H (lenQ X k Q) I h) λus s1 hh_=>?_) hst O
 obtain⟨vs,H1,I1,r1,q1⟩:=hh_
 cases r1 with
 | nil=>exact q1.elim
 | cons ra rr=>cases rr with
  | cons _ _=>exact q1.elim
  | nil =>
   obtain⟨a,C,dx,fs,gV,sp,ex,ea,M,q⟩:=q1
   obtain⟨c,f,fd,ps,g,hm,F,hb⟩:=M
   subst ex
   cases ra
   obtain⟨mA,O9,_⟩:=zeb I1.hok ea
   obtain⟨od,J,_⟩:=O9.look
   refine lenOwn I1.kIn J hm.at_ (mtyp hm) ?_
   have rv:Vals (gV [V.ref a] []) (g [Value.ref a] []):=hb.rel (vs:=[V.ref a]) (us:=[Value.ref a]) (zs:=[]) (ws:=[]) (.cons O .nil) .nil
   have hl:(g [Value.ref a] []).length=ps.length:=by rw[<- rv.length];exact F.len _ _ _ _ q
   have W:wpAny (model X.prog X.w) X.A.in1 (call (.ref f) [.ref a]) (EP X pins U (λv H2=>∃n:Int,v=.int n/\0<=n/\n<2 ^ 63/\Q (.int n) H2)) X.xe s1:=by
    refine Xbr (Xbj (F.run X.A.in1 X.stack s1 H1 {[.ref a],[]} (g [.ref a] []) (gV [.ref a] []) _ E0 hr.in1 I1.env0.in1 (hb.to s1 [.ref a] [] I1.kIn hl) rv q) λr s' hq=>?_)
    cases r with
    | error e=>exact zhx pins U H1 s1 e s' I1 hq
    | ok fl =>
     cases fl with
     | ret u=>exact I1.after hq
     | next=>exact False.elim hq
     | brk=>exact False.elim hq
     | cont=>exact False.elim hq
   refine Xav W (λu s' hu=>?_) λ_ _ z=>z
   .obtain⟨v,H2,I2,rv,n,rfl,h0,h1,qn⟩:=hu
    obtain⟨t,rfl⟩:=(show∃t,u=Value.int n t from rv)
    exact{h0,h1,{.int n,H2,I2.tok _,{_,O},qn}}
end
structure Mak(P:Program)(w:World)(K:W.Frag)(mg:Str->Option Value)(base:Heap)(k:Nat)(x:Str)(C:Addr)(ks:List Str)(gV:List V->List V->List V)(sp:Sp):Prop where
 at_:mg x=some (.ref C)
 ex:∃f fd ps g,Mk K C f/\FnOk P w K mg base CX0 k f fd ps sp/\KBinds K fd ps ks g gV
def tMak(C:Addr)(gV:List V->List V->List V)(sp:Sp)(t tk:TA):TE:=λU H Q=>t U H λvs H1=>tk U H1 λzs H2=>∀x dx,H2 x=none->H2 dx=none->dx≠x ->
 sp (gV (.ref x::vs) zs) (upd (upd H2 dx (.own x)) x (.ins C dx [])) (λv H3=>v=.non/\Q (.ref x) H3) E0
section
variable{X:Cx}{k:Nat}{C:Addr}{ks:List Str}{gV:List V->List V->List V}{sp:Sp}{x:Str}{p pos:Pos}{e:Expr}{es:List Expr}{kws:List Keyword}{t tk:TA}
def zgW{pins:List (Addr×Obj)}{U:St}{H:Hp}{s:Shared}{Q:VK}{us ws:List Value}{vs zs:List V}(M:Mak X.prog X.w X.K X.mg X.base k x C ks gV sp)(hr:Room (k+1) X.A)(I:Inv X pins U H s)(r:Vals vs us)(rz:Vals zs ws)
  (h:∀y dy,H y=none->H dy=none->dy≠y->sp (gV (.ref y::vs) zs) (upd (upd H dy (.own y)) y (.ins C dy [])) (λv H2=>v=.non/\Q (.ref y) H2) E0) :
  wpAny (model X.prog X.w) X.A (call (.ref C) us (ks.zip ws)) (EP X pins U Q) X.xe s:=by
 obtain⟨hm,f,fd,ps,g,M,F,hb⟩:=M
 have hq:=h (s.heap.objs.size+1) s.heap.objs.size (I.hok.fresh (Xbv _)) (I.hok.fresh (Xad _)) (Xay (Xbm _))
 have I2:=Inv.made (C:=C) I
 have r2:Vals (gV (V.ref (s.heap.objs.size+1)::vs) zs) (g (Value.ref (s.heap.objs.size+1)::us) ws):=hb.rel (.cons O r) rz
 have hl:(g (Value.ref (s.heap.objs.size+1)::us) ws).length=ps.length:=by rw[<- r2.length];exact F.len _ _ _ _ hq
 refine Xbr (zkz (f:=f) I.kIn M.makes M.init (beq_iff_eq.mp M.fn) (Xbj (F.run _ X.stack _ _ {Value.ref (s.heap.objs.size+1)::us,ks.zip ws} _ _ _ E0 (hr.make C us (ks.zip ws))
  (I2.env0.make C us (ks.zip ws)) (hb.to _ (Value.ref (s.heap.objs.size+1)::us) ws I2.kIn hl) r2 hq) λr s' hq'=>?_))
 cases r with
 | error e=>exact zhx pins U _ _ e s' I2 hq'
 | ok fl =>
  cases fl with
  | ret u =>
   obtain⟨v,H',I3,rv,ev,q3⟩:=I2.after hq'
   subst ev
   exact{rv,{V.ref (s.heap.objs.size+1),H',I3,O,q3}}
  | next=>exact False.elim hq'
  | brk=>exact False.elim hq'
  | cont=>exact False.elim hq'
def Mak.kp{P:Program}{w:World}{K:W.Frag}{mg:Str->Option Value}{base:Heap}(M:Mak P w K mg base k x C ks gV sp):W.keepIn K (.ref C)=true:=by
 obtain⟨_,_,_,_,_,M,_⟩:=M
 exact M.kp
def zcI(M:Mak X.prog X.w X.K X.mg X.base k x C [] gV sp)(hr:Room (k+1) X.A)(hg:Gl X x)(ha:PA X (e::es) t)(hdb:(x==("__debug__" : Str))=false:=by decide)
  (he:starEach (e::es) X.env=(false,eval e X.env)::starEach es X.env:=by rfl) (hpl:(backTo pos (starEach es X.env)).any (·.1)=false:=by rfl):PE X (.Call (.Name x p) (e::es) [] pos) (tMak C gV sp t tNil):=by
 intro pins s U H Q I h
 refine Xbf (zbF I hg M.at_ ?_ hdb)
 refine W.callWith_K (h₀:=X.base) I.ok.mod.kin M.kp (thn (ha pos pins s U H _ I h) λus s1 ⟨vs,H1,I1,r,q⟩=>{I1.kIn,?_}) he hpl
 exact zgW (ws:=[]) (zs:=[]) M hr I1 r .nil q
def zl7(M:Mak X.prog X.w X.K X.mg X.base k x C [] gV sp)(hr:Room (k+1) X.A)(hg:Gl X x)(hdb:(x==("__debug__" : Str))=false:=by decide):PE X (.Call (.Name x p) [] [] pos) (tMak C gV sp tNil tNil):=by
 intro pins s U H Q I h
 refine Xbf (zbF I hg M.at_ ?_ hdb)
 exact W.callWith_K0 I.kIn M.kp (zgW (us:=[]) (vs:=[]) (ws:=[]) (zs:=[]) M hr I .nil .nil h)
end
structure Clm(P:Program)(w:World)(K:W.Frag)(mg:Str->Option Value)(base:Heap)(k:Nat)(x m:Str)(sp:Sp):Prop where
 ex:∃C f fd ps mc,mg x=some (.ref C)/\W.specialIn K (.ref C) "__getattribute__"=some (some (.builtin "type.__getattribute__"))/\W.readsIn K C mc=true/\W.findCls K (.ref C) mc m=some (.val (.ref f)) /\
  W.keepIn K (.ref f)=true/\FnOk P w K mg base CX0 k f fd ps sp/\Binds K fd ps []
section
variable{X:Cx}{k:Nat}{sp:Sp}{x m:Str}{p pos apos:Pos}{e:Expr}{es:List Expr}{t:TA}
def zfr(M:Clm X.prog X.w X.K X.mg X.base k x m sp)(hr:Room k X.A)(hg:Gl X x){pl:Sem Bool}(ha:PA X (e::es) t)(hdb:(x==("__debug__" : Str))=false:=by decide)
  (hst:starEach (e::es) X.env=(false,eval e X.env)::starEach es X.env:=by rfl) (hpl:(backTo pos (starEach es X.env)).any (·.1)=false:=by rfl)
  (ht:eval (.Call (.Attribute (.Name x p) m apos) (e::es) [] pos) X.env=(do
   let ov <- eval (.Name x p) X.env
   standAt apos.atName
   let(f,first) <- holding [ov] (getMethod ov m pl)
   callWith pos f first (backTo pos (starEach (e::es) X.env)) (backToKw pos (keywordEach [] X.env))):=by rfl) :
  PE X (.Call (.Attribute (.Name x p) m apos) (e::es) [] pos) (zj2 sp [] E0 t):=by
 obtain⟨C,f,fd,ps,mc,hm,hs,hrd,hf,hk,F,hb⟩:=M
 intro pins s U H Q I h
 refine W.methodCall_KW (pl:=pl) ?_ ht
 refine zbF I hg hm ?_ hdb
 refine W.method_cls I.kIn hs (W.cls_value I.kIn hrd hf O ?_)
 have I0:=I.tok (s.toks+1)
 refine W.callWith_K (first:=[]) (h₀:=X.base) I.ok.mod.kin hk (thn (ha pos pins _ U H _ I0 h) λus s2 ⟨vs,H2,I2,r,q2⟩=>{I2.kIn,?_}) hst hpl
 exact zlb F hr hb .nil zhx I2 r q2
end
def itC(t:Bool):String:=if t then "tuple_iterator" else "list_iterator"
def sqC(t:Bool):String:=if t then "tuple" else "list"
def IsIt(t:Bool)(h:Heap)(a l:Addr)(i:Nat):Prop:=∃o,h.get? a=some o/\o.cls=.type (itC t)/\o.data=.fields #[.ref l,.int i 0]
def IsSq(t:Bool)(h:Heap)(a:Addr)(xs:Array Value):Prop:=∃o,h.get? a=some o/\o.cls=.type (sqC t)/\∃n,o.data=.seq xs n
def IsIt.at{t:Bool}{h h':Heap}{a l:Addr}{i:Nat}(x:IsIt t h a l i)(e:∀o,h.get? a=some o->h'.get? a=some o):IsIt t h' a l i:=let⟨o,ho,r⟩:=x;{o,e _ ho,r}
def IsSq.at{t:Bool}{h h':Heap}{a:Addr}{xs:Array Value}(x:IsSq t h a xs)(e:∀o,h.get? a=some o->h'.get? a=some o):IsSq t h' a xs:=let⟨o,ho,r⟩:=x;{o,e _ ho,r}
section
variable{prog:Program}{w:World}{A:Around}{E:Value->Shared->Prop}{s:Shared}
def zd7{t:Bool}{it l:Addr}{i:Nat}{xs:Array Value}{x:Value}{Q:Value->Shared->Prop}(hi:IsIt t s.heap it l i)(hl:IsSq t s.heap l xs)(hx:xs[i]?=some x)
  (q:∀h',IsIt t h' it l (i+1)->Heap.SameBut it s.heap h'->Q x {s with heap:=h'}):wpAny (model prog w) A (Builtin.SmallTypes.nextOf (.ref it)) Q E s:=by
 cases t with
 | false=>exact wpAny_nextOf_list_item hi hl hx q
 | true =>
  have ht:s.TypeIs (.ref it) "tuple_iterator" := let⟨o,ho,hc,_⟩:=hi;⟨o,ho,hc⟩
  obtain⟨o,ho,hc,hd⟩:=id hi;obtain⟨ol,hol,_,nl,hdl⟩:=hl
  delta Builtin.SmallTypes.nextOf
  refine Xaa (wpAny_callSpecial?_slot (name:=Str.ofString "__next__") ht F.slot_tuple_iterator_next (XaQ F.slot_tuple_iterator_next ht F.entry_tuple_iterator_next ?_ (F.args_tuple_iterator_next_1 _)))
  show wpAny _ _ (field (.ref it) 0 >>= _) _ _ s;refine Xaa (XaG ho hd (x:=.ref l) O ?_)
  show wpAny _ _ (if(Value.ref l==Value.none)=true then _ else _) _ _ s;rw[if_neg (show¬ ((Value.ref l==Value.none)=true) from Xaj)]
  show wpAny _ _ (field (.ref it) 1 >>= _) _ _ s;refine Xaa (XaG ho hd (x:=.int i 0) O ?_)
  show wpAny _ _ (seqItems? (.ref l) >>= _) _ _ s;refine Xaa (Xa4 hol hdl ?_);simp only[Xap,hx]
  refine Xaa (XaX ho hd (by simp) (Xac {x,O,Xac (q _ {_,XaK _ ho (Obj.isFreed_of_fields (Obj.data_mapFields hd _)),(Obj.cls_mapFields ..).trans hc,by rw[Obj.data_mapFields hd];simp[rawInt]} (Heap.SameBut.update ..))}))
def zll{t:Bool}{it l:Addr}{i:Nat}{xs:Array Value}{Q:Value->Shared->Prop}(hh:A.handled=none)(hi:IsIt t s.heap it l i)(hl:IsSq t s.heap l xs)(hx:xs[i]?=none)
  (q:∀h' e,Heap.ExtBut it s.heap h'->(∃o,h'.get? e=some o/\o.cls=.type "StopIteration")->E (.ref e) {s with heap:=h'}):wpAny (model prog w) A (Builtin.SmallTypes.nextOf (.ref it)) Q E s:=by
 cases t with
 | false=>exact wpAny_nextOf_list_end hh hi hl hx q
 | true =>
  have ht:s.TypeIs (.ref it) "tuple_iterator" := let⟨o,ho,hc,_⟩:=hi;⟨o,ho,hc⟩
  obtain⟨o,ho,hc,hd⟩:=id hi;obtain⟨ol,hol,_,nl,hdl⟩:=hl
  delta Builtin.SmallTypes.nextOf
  refine Xaa (wpAny_callSpecial?_slot (name:=Str.ofString "__next__") ht F.slot_tuple_iterator_next (XaQ F.slot_tuple_iterator_next ht F.entry_tuple_iterator_next ?_ (F.args_tuple_iterator_next_1 _)))
  show wpAny _ _ (field (.ref it) 0 >>= _) _ _ s;refine Xaa (XaG ho hd (x:=.ref l) O ?_)
  show wpAny _ _ (if(Value.ref l==Value.none)=true then _ else _) _ _ s;rw[if_neg (show¬ ((Value.ref l==Value.none)=true) from Xaj)]
  show wpAny _ _ (field (.ref it) 1 >>= _) _ _ s;refine Xaa (XaG ho hd (x:=.int i 0) O ?_)
  show wpAny _ _ (seqItems? (.ref l) >>= _) _ _ s;refine Xaa (Xa4 hol hdl ?_);simp only[Xap,hx]
  refine Xaa (XbA (Xaa (XaX ho hd (by simp) ?_)));show wpAny _ _ (newExc (.type "StopIteration") [] >>= _) _ _ _
  refine Xaa ?_;simp only[newExc,newTuple];refine Xaa (XaS ?_ (by size_fits))
  refine Xaa (m:=firstArgMember _ _) (wpAny_of_eq (a:=Value.none) (by first|rfl|(simp only[firstArgMember];rfl)) ?_);refine XaS ?_ (by size_fits)
  simp only[raiseNew];refine Xaa (wpAny_handled ?_);rw[show A.in1.handled=none from hh];refine Xaa (Xac (wpAny_throw ?_))
  exact q _ _ (((Heap.SameBut.update ..).extBut.push _).push _) {_,Xag _ O,O}
def zg6{t:Bool}{l:Addr}{xs:Array Value}{Q:Value->Shared->Prop}(hl:IsSq t s.heap l xs)(q:Q (.ref s.heap.objs.size) {s with heap:=s.heap.push {cls:=.type (itC t),data:=.fields #[.ref l,.int 0 0]}}):wpAny (model prog w) A (pyIter (.ref l)) Q E s:=by
 cases t with
 | false=>exact Xbh hl q
 | true=>exact XbE hl q
structure Far2(z TO i1 i2:Addr):Prop where
 oz:TO≠z
 az:i1≠z
 bz:i2≠z
 oa:TO≠i1
 ob:TO≠i2
 ab:i1≠i2
structure FarM(z TO i1 i2 l:Addr):Prop where
 z:l≠z
 o:l≠TO
 a:l≠i1
 b:l≠i2
def zdD{T:Addr}{a b x:Value}{k:Nat}{Q:Unit->Shared->Prop}(hT:IsPair s.heap T a b)
  (q:∀h',h'.get? T=some {cls:=.type "tuple",data:=.seq ((#[a,b]:Array Value).setIfInBounds k x)}->Heap.SameBut T s.heap h'->Q () {s with heap:=h'}):wpAny (model prog w) A (updateSeq T (·.setIfInBounds k x)) Q E s:=
 wpAny_updateSeq hT O (q _ ((XaK _ hT O).trans (by simp[Obj.mapSeq])) (Heap.SameBut.update ..))
def zia{t:Bool}{z TI TO i1 i2 l1 l2:Addr}{k:Nat}{xs ys:Array Value}{x y a b:Value}{Q:Value->Shared->Prop}(D:Far2 z TO i1 i2)(L1:FarM z TO i1 i2 l1)(L2':FarM z TO i1 i2 l2)
  (hz:IsZip s.heap z TI TO .none) (hI:IsPair s.heap TI (.ref i1) (.ref i2)) (hO:IsPair s.heap TO a b)
  (h1:IsIt t s.heap i1 l1 k) (h2:IsIt t s.heap i2 l2 k) (g1:IsSq t s.heap l1 xs) (g2:IsSq t s.heap l2 ys) (ex:xs[k]?=some x) (ey:ys[k]?=some y)
  (q:∀h',IsZip h' z TI TO (rawInt s.heap.objs.size)->IsPair h' TO x y->IsIt t h' i1 l1 (k+1)->IsIt t h' i2 l2 (k+1)->IsPair h' s.heap.objs.size x y->h'.objs.size=s.heap.objs.size+1 ->
   (∀d o,d≠z->d≠TO->d≠i1->d≠i2->s.heap.get? d=some o->h'.get? d=some o)->Q (.ref s.heap.objs.size) {s with heap:=h'}) :
  wpAny (model prog w) A (Builtin.«zip.__next__» {[.ref z],[]}) (λfin s'=>∃v,fin=.done (.ret v)/\Q v s') E s:=by
 show wpAny _ _ (field (.ref z) 2 >>= _) _ _ _
 refine Xaa (XaG hz O (x:=.bool false) O ?_);show wpAny _ _ (field (.ref z) 3 >>= _) _ _ _
 refine Xaa (XaG hz O (x:=.ref TI) O (Xaa (Xa4 hI O ?_)));show wpAny _ _ (Builtin.SmallTypes.ownedTupleIsFree (.ref z) >>= _) _ _ _
 refine Xaa ?_;unfold Builtin.SmallTypes.ownedTupleIsFree
 refine Xaa (XaG hz O (x:=.none) O (Xac ?_));simp only[if_true]
 refine Xaa (XbA (Xaa (XaG hz O (x:=.ref TO) O ?_)))
 refine Xaa (Xbg hz (by simp) λe1 z1 b1=>?_)
 replace z1:IsZip e1 z TI TO .ellipsis:=z1
 refine Xaa ?_;simp only[List.zipIdx_cons,List.zipIdx_nil,List.forIn_cons,List.forIn_nil]
 refine Xaa (Xaa (wpAny_onRaise ?_));show wpAny _ _ (Builtin.SmallTypes.nextOf (.ref i1) >>= _) _ _ _
 refine Xaa (zd7 (h1.at λo e=>b1.extBut _ _ D.az e) (g1.at λo e=>b1.extBut _ _ L1.z e) ex λe2 n1 b2=>Xac ?_)
 have O2:IsPair e2 TO a b:=b2.extBut _ _ D.oa (b1.extBut _ _ D.oz hO)
 refine Xaa (Xa4 O2 O (Xaa (zdD O2 λe3 O3 b3=>Xaa (wpAny_letGo (Xac ?_)))))
 replace O3:IsPair e3 TO x b:=O3
 have up3:∀d o,d≠z->d≠TO->d≠i1->s.heap.get? d=some o->e3.get? d=some o:=λd o q1 q2 q3 e=>b3.extBut _ _ q2 (b2.extBut _ _ q3 (b1.extBut _ _ q1 e))
 refine Xaa (Xaa (wpAny_onRaise ?_));show wpAny _ _ (Builtin.SmallTypes.nextOf (.ref i2) >>= _) _ _ _
 refine Xaa (zd7 (h2.at λo e=>up3 _ o D.bz D.ob.symm D.ab.symm e) (g2.at λo e=>up3 _ o L2'.z L2'.o L2'.a e) ey λe4 n2 b4=>Xac ?_)
 have O4:IsPair e4 TO x b:=b4.extBut _ _ D.ob O3
 refine Xaa (Xa4 O4 O (Xaa (zdD O4 λe5 O5 b5=>Xaa (wpAny_letGo (Xac (Xac ?_))))))
 replace O5:IsPair e5 TO x y:=O5
 have up5:∀d o,d≠z->d≠TO->d≠i1->d≠i2->s.heap.get? d=some o->e5.get? d=some o:=λd o q1 q2 q3 q4 e=>b5.extBut _ _ q2 (b4.extBut _ _ q4 (up3 d o q1 q2 q3 e))
 have sz:e5.objs.size=s.heap.objs.size:=by rw[b5.1,b4.1,b3.1,b2.1,b1.1]
 have z7:IsZip e5 z TI TO .ellipsis:=b5.extBut _ _ D.oz.symm (b4.extBut _ _ D.bz.symm (b3.extBut _ _ D.oz.symm (b2.extBut _ _ D.az.symm z1)))
 have m1:IsIt t e5 i1 l1 (k+1):=n1.at λo e=>b5.extBut _ _ D.oa.symm (b4.extBut _ _ D.ab (b3.extBut _ _ D.oa.symm e))
 have m2:IsIt t e5 i2 l2 (k+1):=n2.at λo e=>b5.extBut _ _ D.ob.symm e
 have zl:z<e5.objs.size:=Xai z7
 refine Xaa (Xa4 O5 O (Xaa (wpAny_newTuple ?_)));show wpAny _ _ (Builtin.SmallTypes.ownedTupleHandOut (.ref z) (.ref e5.objs.size) >>= _) _ _ _
 refine Xaa ?_;unfold Builtin.SmallTypes.ownedTupleHandOut
 have z8:IsZip (e5.push {cls:=.type "tuple",data:=.seq #[x,y]}) z TI TO .ellipsis:=Xab _ z7
 refine Xaa (Xbg z8 (by simp) λe9 z9 b9=>?_)
 replace z9:IsZip e9 z TI TO (rawInt e5.objs.size):=z9
 refine Xbg z9 (by simp) λe0 z0 b0=>?_
 replace z0:IsZip e0 z TI TO (rawInt e5.objs.size):=z0
 have up:∀d o,d≠z->e5.get? d=some o->e0.get? d=some o:=λd o q1 e=>b0.extBut _ _ q1 (b9.extBut _ _ q1 (Xab _ e))
 have T0:IsPair e0 e5.objs.size x y:=b0.extBut _ _ (Xbe zl) (b9.extBut _ _ (Xbe zl) (Xag _ O))
 have s0:e0.objs.size=e5.objs.size+1:=by rw[b0.1,b9.1,XaC]
 rw[sz] at z0 T0 s0
 refine Xac {_,O,?_};show Q (.ref e5.objs.size) _;rw[sz]
 exact q e0 z0 (up _ _ D.oz O5) (m1.at λo e=>up _ o D.az e) (m2.at λo e=>up _ o D.bz e) T0 s0 λd o q1 q2 q3 q4 e=>up d o q1 (up5 d o q1 q2 q3 q4 e)
def zgR{t:Bool}{z TI TO i1 i2 l1:Addr}{k:Nat}{xs:Array Value}{Q:Fin->Shared->Prop}(hh:A.handled=none)(D:Far2 z TO i1 i2)(L1:FarM z TO i1 i2 l1)
  (hz:IsZip s.heap z TI TO .none) (hI:IsPair s.heap TI (.ref i1) (.ref i2)) (h1:IsIt t s.heap i1 l1 k) (g1:IsSq t s.heap l1 xs) (ex:xs[k]?=none)
  (q:∀h' e,(∀d o,d≠z->d≠i1->s.heap.get? d=some o->h'.get? d=some o)->(∃o,h'.get? e=some o/\o.cls=.type "StopIteration")->E (.ref e) {s with heap:=h'}) :
  wpAny (model prog w) A (Builtin.«zip.__next__» {[.ref z],[]}) Q E s:=by
 show wpAny _ _ (field (.ref z) 2 >>= _) _ _ _
 refine Xaa (XaG hz O (x:=.bool false) O ?_);show wpAny _ _ (field (.ref z) 3 >>= _) _ _ _
 refine Xaa (XaG hz O (x:=.ref TI) O (Xaa (Xa4 hI O ?_)));show wpAny _ _ (Builtin.SmallTypes.ownedTupleIsFree (.ref z) >>= _) _ _ _
 refine Xaa ?_;unfold Builtin.SmallTypes.ownedTupleIsFree
 refine Xaa (XaG hz O (x:=.none) O (Xac ?_));simp only[if_true]
 refine Xaa (XbA (Xaa (XaG hz O (x:=.ref TO) O ?_)))
 refine Xaa (Xbg hz (by simp) λe1 z1 b1=>?_)
 replace z1:IsZip e1 z TI TO .ellipsis:=z1
 refine Xaa ?_;simp only[List.zipIdx_cons,List.zipIdx_nil,List.forIn_cons,List.forIn_nil]
 refine Xaa (Xaa (wpAny_onRaise ?_));show wpAny _ _ (Builtin.SmallTypes.nextOf (.ref i1) >>= _) _ _ _
 refine Xaa (zll hh (h1.at λo e=>b1.extBut _ _ D.az e) (g1.at λo e=>b1.extBut _ _ L1.z e) ex λe2 e b2 he=>?_)
 obtain⟨oe,hoe,hce⟩:=he
 have z2:IsZip e2 z TI TO .ellipsis:=b2 _ _ D.az.symm z1
 have ne:e≠z:=λy=>by subst y;rw[z2] at hoe;cases hoe;simp at hce
 exact Xbg z2 (by simp) λe3 _ b3=>q e3 e (λd o q1 q2 y=>b3.extBut _ _ q1 (b2 _ _ q2 (b1.extBut _ _ q1 y))) {oe,b3.extBut _ _ ne hoe,hce}
end
abbrev yA(t:Bool)(h:Heap)(l:Addr):Heap:=h.push {cls:=.type (itC t),data:=.fields #[.ref l,.int 0 0]}
abbrev yB(t:Bool)(h:Heap)(l1 l2:Addr):Heap:=(yA t (yA t h l1) l2).push {cls:=.type "tuple",data:=.seq #[.ref h.objs.size,.ref (yA t h l1).objs.size]}
abbrev yC(t:Bool)(h:Heap)(l1 l2:Addr):Heap:=(yB t h l1 l2).push {cls:=.type "tuple",data:=.seq #[.none,.none]}
abbrev yD(t:Bool)(h:Heap)(l1 l2:Addr):Heap:=(yC t h l1 l2).push {cls:=.type "zip",data:=.fields #[.none,.bool false,.bool false,.ref (yA t (yA t h l1) l2).objs.size,.ref (yB t h l1 l2).objs.size]}
def zjW(t:Bool)(l1 l2:Addr)(xs ys:Array Value) :
  Meets (Builtin.«zip.__new__» {[.type "zip",.ref l1,.ref l2],[]}) (λ_ R s=>IsSq t s.heap l1 xs/\IsSq t s.heap l2 ys/\R (.ok (.ret (.ref (yC t s.heap l1 l2).objs.size))) {s with heap:=yD t s.heap l1 l2}):=
 .of_wp λprog w A R s h=>by
  obtain⟨hp,g,d,tk,os⟩:=s;obtain⟨hl1,hl2,h⟩:=h
  have hsub:=sub_zip
  have hA:IsSq t (Shared.heap ⟨hp,g,d,tk,os⟩) l1 xs:=hl1
  have hB:IsSq t (Shared.heap ⟨yA t hp l1,g,d,tk,os⟩) l2 ys:=hl2.at λo e=>Xab _ e
  wp_walk using zg6 hA,zg6 hB
  exact{_,O,h}
def hoX(t:Bool)(xs:List V):HO:=if t then .tup xs else .lst xs
def SqX(t:Bool)(H:Hp)(a:Addr)(xs:List V):Prop:=H a=some (hoX t xs)
def Inv.sqx{X:Cx}{pins:List (Addr×Obj)}{U:St}{H:Hp}{s:Shared}(I:Inv X pins U H s){t:Bool}{a:Addr}{xs:List V}(h:SqX t H a xs):∃its:List Value,Vals xs its/\IsSq t s.heap a its.toArray:=by
 cases t with
 | false =>
  obtain⟨its,r,p,_⟩:=I.list (SqL.of (xs:=xs) h)
  exact⟨its,r,p.isList⟩
 | true =>
  obtain⟨its,r,p,_⟩:=I.tuple (SqT.of (xs:=xs) h)
  exact⟨its,r,p⟩
def zjI{prog:Program}{w:World}{A:Around}{E:Value->Shared->Prop}{s:Shared}{t:Bool}{l1 l2:Addr}{xs ys:Array Value}{Q:Value->Shared->Prop}(g1:IsSq t s.heap l1 xs)(g2:IsSq t s.heap l2 ys)
  (q:∀h' n,n=s.heap.objs.size->IsZip h' (n+4) (n+2) (n+3) .none->IsPair h' (n+2) (.ref n) (.ref (n+1))->IsPair h' (n+3) .none .none->IsIt t h' n l1 0->IsIt t h' (n+1) l2 0 ->
   (∀d o,s.heap.get? d=some o->h'.get? d=some o)->Q (.ref (n+4)) {s with heap:=h'}) :
  wpAny (model prog w) A (call (.type "zip") [.ref l1,.ref l2]) Q E s:=by
 refine callType_new F.called_zip (by decide) (F.typeCall_zip_2 _ _) (F.newCall_zip_2 _ _) (λobj=>F.args_object_init_3 obj _ _) F.entry_zip_new (zjW t l1 l2 xs ys) {g1,g2,?_}
 have n1:(yA t s.heap l1).objs.size=s.heap.objs.size+1:=XaC ..
 have n2:(yA t (yA t s.heap l1) l2).objs.size=s.heap.objs.size+2:=by rw[XaC,n1]
 have n3:(yB t s.heap l1 l2).objs.size=s.heap.objs.size+3:=by rw[XaC,n2]
 have n4:(yC t s.heap l1 l2).objs.size=s.heap.objs.size+4:=by rw[XaC,n3]
 have a4:(yD t s.heap l1 l2).get? (yC t s.heap l1 l2).objs.size=some _:=Xag _ O
 have a3:(yD t s.heap l1 l2).get? (yB t s.heap l1 l2).objs.size=some _:=Xab _ (Xag _ O)
 have a2:(yD t s.heap l1 l2).get? (yA t (yA t s.heap l1) l2).objs.size=some _:=Xab _ (Xab _ (Xag _ O))
 have a1:(yD t s.heap l1 l2).get? (yA t s.heap l1).objs.size=some _:=Xab _ (Xab _ (Xab _ (Xag _ O)))
 have a0:(yD t s.heap l1 l2).get? s.heap.objs.size=some _:=Xab _ (Xab _ (Xab _ (Xab _ (Xag _ O))))
 show _/\_
 rw[n2,n3,n4] at a4
 rw[n3] at a3
 rw[n1,n2] at a2
 rw[n1] at a1
 rw[n4]
 exact⟨{_,a4,O},q _ _ O a4 a2 a3 {_,a0,O,O} {_,a1,O,O} λd o e =>
  Xab _ (Xab _ (Xab _ (Xab _ (Xab _ e))))⟩
def Ity(t:Bool)(a b:Addr):It:=
 ⟨λi H=>∃xs x ys y,SqX t H a xs/\SqX t H b ys/\xs[i]?=some x/\ys[i]?=some y,
  λi H v H'=>∃T x y,H T=none/\v=.ref T/\H'=upd H T (.tup [x,y])/\(∀xs,SqX t H a xs->xs[i]?=some x)/\∀ys,SqX t H b ys->ys[i]?=some y,
  λi H=>∃xs,SqX t H a xs/\xs.length<=i⟩
def zgK{t:Bool}{h:Heap}{z TI TO i1 i2 l k1 k2:Addr}{it:Array Value}{f0:Value}{n1 n2:Nat}(g:IsSq t h l it)(hz:IsZip h z TI TO f0)(lo:l≠TO)(h1:IsIt t h i1 k1 n1)(h2:IsIt t h i2 k2 n2):FarM z TO i1 i2 l:=by
 have ap:∀{d:Addr} {o:Obj},h.get? d=some o->o.cls≠.type (sqC t)->l≠d:=λ{d o} e nc y=>by
  obtain⟨o',e',c',_⟩:=g
  rw[y,e] at e';cases e';exact nc c'
 obtain⟨_,e1,c1,_⟩:=h1
 obtain⟨_,e2,c2,_⟩:=h2
 have ne:(Value.type (itC t))≠.type (sqC t):=by cases t<;>simp[itC,sqC]
 exact{ap hz (by cases t<;>simp[sqC]),lo,ap e1 (by rw[c1];exact ne),ap e2 (by rw[c2];exact ne)}
def ziv{H:Hp}{t:Bool}{a:Addr}{xs ys:List V}(h:SqX t H a xs)(h2:SqX t H a ys):xs=ys:=by
 have e:=Option.some.inj (h.symm.trans h2)
 cases t with
 | false=>exact HO.lst.inj e
 | true=>exact HO.tup.inj e
def zin{P:Program}{w:World}{K:W.Frag}{elts:List Expr}{kt:Nat}{tp:Pos}(t:Bool)(l1 l2 z TI TO i1 i2:Addr)(D:Far2 z TO i1 i2)(TIz:TI≠z)(TITO:TI≠TO)(TI1:TI≠i1)(TI2:TI≠i2) :
  Turn P w K (.Tuple elts kt tp) (Ity t l1 l2) [z,TI,TO,i1,i2] z (λi h=>IsZip h z TI TO .none/\IsPair h TI (.ref i1) (.ref i2)/\(∃a b,IsPair h TO a b)/\IsIt t h i1 l1 i/\IsIt t h i2 l2 i) where
 mem:=by simp
 obj:=λi h st b hb=>by
  obtain⟨hz,hI,⟨_,_,hO⟩,⟨o1,e1,_,d1⟩,⟨o2,e2,_,d2⟩⟩:=st
  simp only[Xan,XaV,or_false] at hb
  rcases hb with rfl|rfl|rfl|rfl|rfl
  .exact{_,hz,λv y=>by have y':Data.fields _=Data.cell v:=y;cases y'}
  .exact{_,hI,λv y=>by have y':Data.seq _ _=Data.cell v:=y;cases y'}
  .exact{_,hO,λv y=>by have y':Data.seq _ _=Data.cell v:=y;cases y'}
  .exact{_,e1,λv y=>by rw[d1] at y;cases y}
  .exact{_,e2,λv y=>by rw[d2] at y;cases y}
 keep:=λi h h' st k=>by
  obtain⟨hz,hI,⟨a,b,hO⟩,h1,h2⟩:=st
  exact{k z (by simp) _ hz,k TI (by simp) _ hI,{a,b,k TO (by simp) _ hO},h1.at λo e=>k i1 (by simp) o e,h2.at λo e=>k i2 (by simp) o e}
 item:=by
  intro X hP hw hK hc i pins s U H E I hf st hg
  subst hP hw hK
  obtain⟨xs,x,ys,y,p1,p2,e1,e2⟩:=hg
  obtain⟨t1,r1,f1⟩:=I.sqx p1
  obtain⟨t2,r2,f2⟩:=I.sqx p2
  obtain⟨v1,w1,rx⟩:=r1.get e1
  obtain⟨v2,w2,ry⟩:=r2.get e2
  obtain⟨hz,hI,⟨a,b,hO⟩,h1,h2⟩:=st
  have nO:H TO=none:=(hf TO (by simp)).1
  have far:∀{l:Addr} {zs:List V},SqX t H l zs->l≠TO:=λ{l zs} p e=>by rw[SqX,e,nO] at p;cases p
  have hT:s.TypeIs (.ref z) "zip" := {_,hz,O}
  unfold pyNext
  refine Xaa (Xbt (wpAny_callSpecial?_slot (name:=Str.ofString "__next__") hT F.slot_zip_next (XaQ F.slot_zip_next hT F.entry_zip_next
   (zia D (zgK f1 hz (far p1) h1 h2) (zgK f2 hz (far p2) h1 h2) hz hI hO h1 h2 f1 f2 (x:=v1) (y:=v2) (by simpa using w1) (by simpa using w2)
    λh' z1 O1 m1 m2 T1 s1 kk=>Xac {_,O,?_}) (F.args_zip_next_1 _))))
  refine wpAny_letOwnedTupleGo_zip z1 λh4 z4 sb=>?_
  have fT:FpOk X pins H s.heap.objs.size:=I.fpOk (Xad _) (I.hok.fresh (Xad _))
  have k2:∀d o,d∉[z,TI,TO,i1,i2]->s.heap.get? d=some o->h4.get? d=some o:=λd o hb e=>by
   simp only[Xan,XaV,or_false,not_or] at hb
   obtain⟨q1,q2,q3,q4,q5⟩:=hb
   exact(sb.2 d q1).trans (kk d o q1 q3 q4 q5 e)
  have I1:Inv X pins U H {s with heap:=h4,toks:=s.toks}:=I.turnedL (ch:=[z,TI,TO,i1,i2]) k2 hf
  have eT:h4.get? s.heap.objs.size=some {cls:=.type "tuple",data:=.seq #[v1,v2]}:=(sb.2 _ (Xbe (Xai hz))).trans T1
  have I2:=I1.track (o:=.tup [x,y]) fT (Xak I.sz (Xad _)) (zeE rx ry eT)
  refine⟨.ref s.heap.objs.size,_,I2,O,{_,x,y,fT.1,O,O,λys hy=>by rw[ziv hy p1];exact e1,λys hy=>by rw[ziv hy p2];exact e2},
   {z4,(sb.2 _ TIz).trans (kk _ _ TIz TITO TI1 TI2 hI),{_,_,sb.extBut _ _ D.oz O1},m1.at λo e=>sb.extBut _ _ D.az e,m2.at λo e=>sb.extBut _ _ D.bz e},λd hb=>?_⟩
  have hlt:d<s.heap.objs.size:=by
   obtain⟨_,g1,_⟩:=h1
   obtain⟨_,g2,_⟩:=h2
   simp only[Xan,XaV,or_false] at hb
   rcases hb with rfl|rfl|rfl|rfl|rfl
   .exact Xai hz
   .exact Xai hI
   .exact Xai hO
   .exact Xai g1
   .exact Xai g2
  rw[zah (Xay hlt)]
  exact(hf d hb).1
 done:=by
  intro X hP hw hK hc i pins s U H E I hf st hg
  subst hP hw hK
  obtain⟨xs,p1,hx⟩:=hg
  obtain⟨t1,r1,f1⟩:=I.sqx p1
  obtain⟨hz,hI,⟨a,b,hO⟩,h1,h2⟩:=st
  have nO:H TO=none:=(hf TO (by simp)).1
  have far:l1≠TO:=λe=>by rw[SqX,e,nO] at p1;cases p1
  have hT:s.TypeIs (.ref z) "zip" := {_,hz,O}
  have e1:=r1.length
  unfold pyNext
  refine Xaa (Xbt (wpAny_callSpecial?_slot (name:=Str.ofString "__next__") hT F.slot_zip_next (XaQ F.slot_zip_next hT F.entry_zip_next
   (zgR (I.ok.hd hc) D (zgK f1 hz far h1 h2) hz hI h1 f1 (by simp;omega) λh' e kk he=>?_) (F.args_zip_next_1 _))))
  obtain⟨o,ho,hcl⟩:=he
  refine Xaa (wpAny_isInstance (T := "StopIteration") (b:=true) ⟨o,ho,hcl⟩ isSubtype_stop ?_)
  refine Xac {O,I.turnedL (t':=s.toks) (ch:=[z,TI,TO,i1,i2]) (λd o hb e=>?_) hf}
  simp only[Xan,XaV,or_false,not_or] at hb
  exact kk d o hb.1 hb.2.2.2.1 e
 self:=λ_ _ _ _ _ st h=>wpAny_pyIter_zip st.1 h
inductive iZipX_1(R:It->Hp->Prop)(vs:List V)(H1:Hp):Prop
 | mk t a b xs ys(_:vs=[.ref a,.ref b])(_:SqX t H1 a xs)(_:SqX t H1 b ys)(_:R (Ity t a b) H1)
def iZipX(ta:TA):TI:=λU H R=>ta U H (iZipX_1 R)
def ziS{X:Cx}{a b:Expr}{ta:TA}{p pos:Pos}{elts:List Expr}{kt:Nat}{tp:Pos}(hg:Gl X "zip")(hm:X.mg "zip"=none)(ha:PA X [a,b] ta)(hs:starEach [a,b] X.env=(false,eval a X.env)::starEach [b] X.env:=by rfl)(hs2:(backTo pos (starEach [b] X.env)).any (·.1)=false:=by rfl) :
  PI X (.Tuple elts kt tp) (.Call (.Name "zip" p) [a,b] [] pos) (iZipX ta):=by
 intro pins s U H R I h
 refine Call_ (zcP I hg hm zhf (PyProof.Rows.callWith_type1 (thn (ha pos pins s U H _ I h) λus s1 hh_=>?_) hs hs2))
 obtain⟨vs,H1,I1,r1,q1⟩:=hh_
 obtain⟨t,l1,l2,xs,ys,e,p1,p2,q⟩:=q1
 subst e
 cases r1 with
 | cons ra rr=>cases rr with
  | cons rb rr =>
   cases rr
   cases ra;cases rb
   obtain⟨t1,v1,f1⟩:=I1.sqx p1
   obtain⟨t2,v2,f2⟩:=I1.sqx p2
   refine zjI f1 f2 λh' n hn hz hI hO h1 h2 kk=>?_
   refine wpAny_pyIter_zip hz ?_
   have I2:Inv X pins U H1 {s1 with heap:=h',toks:=s1.toks}:=I1.kept kk
   have ge:∀b,n<=b->FpOk X pins H1 b:=λb hb=>I1.fpOk (by rw[<- hn];exact hb) (I1.hok.fresh (by rw[<- hn];exact hb))
   have ne:∀i j:Nat,i≠j->(n+i:Nat)≠n+j:=λi j h=>by omega
   refine⟨n+4,[n+4,n+2,n+3,n,n+1],_,_,H1,O,I2,zin t l1 l2 (n+4) (n+2) (n+3) n (n+1) {ne 3 4 (by decide),ne 0 4 (by decide),ne 1 4 (by decide),ne 3 0 (by decide),ne 3 1 (by decide),ne 0 1 (by decide)}
    (ne 2 4 (by decide)) (ne 2 3 (by decide)) (ne 2 0 (by decide)) (ne 2 1 (by decide)),{hz,hI,{_,_,hO},h1,h2},λb hb=>ge b ?_,q⟩
   simp only[Xan,XaV,or_false] at hb
   rcases hb with rfl|rfl|rfl|rfl|rfl
   .exact Xbn _ _
   .exact Xbn _ _
   .exact Xbn _ _
   .exact Xad _
   .exact Xbn _ _
def zjC{t:Bool}{g:TG}{tf:TT}{te:TE}{Q:List V->Hp->Prop}{U:St}{H:Hp}{a b:Addr}{xs ys:List V}(Pv:Nat->List V->St->Hp->Prop)(he:xs.length=ys.length)(hn:xs.length<=sizeLine)(h0:Pv 0 [] U H)(hl:∀i rs U H,i<=xs.length->Pv i rs U H->SqX t H a xs/\SqX t H b ys/\rs.length<=i)
  (hs:∀i x y T rs U H,xs[i]?=some x->ys[i]?=some y->H T=none->Pv i rs U H->g (.ref T) U (upd H T (.tup [x,y])) λU2 H2=>tf U2 H2 λb H3=>if b=true then te U2 H3 λy H4=>Pv (i+1) (rs++[y]) U2 H4 else Pv (i+1) rs U2 H3)
  (hd:∀rs U H,Pv xs.length rs U H->Q rs H):zf9 (Ity t a b) g tf te Q U H:=by
 refine{λi m rs U H=>m=xs.length-i/\i<=xs.length/\Pv i rs U H,{xs.length,by simp,Nat.zero_le _,h0},?_}
 rintro i m rs U H ⟨rfl,hi,p⟩
 obtain⟨q,q2,hz⟩:=hl i rs U H hi p
 by_cases hlt:i<xs.length
 .refine .inr {{xs,xs[i],ys,ys[i]'(by omega),q,q2,by simp[hlt],by simp[he▸hlt]},by omega,Pv (i+1),λys' U' H' p'=>{xs.length-(i+1),by omega,O,hlt,p'},λv H' y=>?_}
  obtain⟨T,x,y',hT,rfl,rfl,y1,y2⟩:=y
  exact hs i x y' T rs U _ (y1 xs q) (y2 ys q2) hT p
 .have e:i=xs.length:=by omega
  exact .inl {{xs,q,by omega},by omega,hd rs U H (e▸p)}
def zaP(T:String){X:Cx}{K:W.Frag}(hK:X.K=K):zbL X (.builtin "isinstance") (λxs H Q=>∃x t b,xs=[x,.ty T]/\TyOf K H x t/\W.kitOne K t (.type T)=some b/\Q (.bl b) H):=by
 subst hK
 intro pins s U H xs us Q I r h
 obtain⟨x,t,b,rfl,ty,e,q⟩:=h
 obtain⟨u,u2,rfl,rx,r2⟩:=zff r
 obtain rfl:u2=Value.type T:=r2
 exact zfI I rx ty e λtk=>{.bl b,H,I.tok _,O,q}
section
variable{X:Cx}{K:W.Frag}
def za2{x:Str}{n:Int}{pos:Pos}(hg:Gl X x)(h:∃t,X.mg x=some (.int n t))(hd:(x==("__debug__" : Str))=false:=by decide):PE X (.Name x pos) (tC (.int n)):=by
 obtain⟨t,h⟩:=h
 exact zeU hg h {_,O} hd
end
def dP{α:Type}(ds us zs:List α):List α:=us++ds
def Vals.dP{ds:List V}{es:List Value}(d:Vals ds es){vs zs:List V}{us ws:List Value}(g:Vals vs us)(h:Vals zs ws):Vals (dP ds vs zs) (dP es us ws):=g.append d
def zlc:RelV (.ty "str") (.type "str"):=rfl
def zcC:RelV (.ty "tuple") (.type "tuple"):=rfl
def ziE:RelV (.ty "list") (.type "list"):=rfl
def zlx:bootBuiltins "str"=some (.type "str"):=by decide +kernel
def zbx:bootBuiltins "tuple"=some (.type "tuple"):=by decide +kernel
def zcz:bootBuiltins "list"=some (.type "list"):=by decide +kernel
end L2
namespace Cb
open PySem L2
structure Blt(mg:Str->Option Value):Prop where
 len:mg "len"=none
 sum:mg "sum"=none
 all:mg "all"=none
 max:mg "max"=none
 min:mg "min"=none
 int:mg "int"=none
 bool:mg "bool"=none
 isinstance:mg "isinstance"=none
 range:mg "range"=none
 enumerate:mg "enumerate"=none
 zip:mg "zip"=none
 str:mg "str"=none
 tuple:mg "tuple"=none
 list:mg "list"=none
def NN(ext:List (Str×V)):Prop:=ext=[]\/∃r:Int,ext=[(("room" : Str),V.int r)]
structure Ob(C:Addr)(H:Hp)(a p:Addr)(ws:List V)(ext:List (Str×V)):Prop where
 ex:∃dx hd,H a=some (.ins C dx (("head",.str hd)::("held",.ref p)::ext))
 ls:H p=some (.lst ws)
 nn:NN ext
structure ClsOk(K:W.Frag)(C:Addr):Prop where
 cl:Cls K C
 head:NoAttr K C "head"
 held:NoAttr K C "held"
 room:NoAttr K C "room"
inductive spIsNum(vs:List V)(H:Hp)(Q:VK)(u3_:XK):Prop
 | mk (a b:Int)(_:vs=[.int a,.int b])(_:Q (.bl (decide (0<=a/\a<=b))) H)
inductive spIsWord(vs:List V)(H:Hp)(Q:VK)(u3_:XK):Prop
 | mk (a:Int)(_:vs=[.int a])(_:Q (.bl (decide (0<=a/\a<=255))) H)
inductive spChkWord(vs:List V)(H:Hp)(Q:VK)(u3_:XK):Prop
 | mk (a:Int)(_:vs=[.int a])(_:0<=a)(_:a<=255)(_:Q .non H)
inductive spLen(C:Addr)(L:List V->Nat)(vs:List V)(H:Hp)(Q:VK)(u3_:XK):Prop
 | mk a p ws ext(_:vs=[.ref a])(_:Ob C H a p ws ext)(_:Q (.int (L ws:Int)) H)
inductive spState(C:Addr)(vs:List V)(H:Hp)(Q:VK)(u3_:XK):Prop
 | mk a p ws ext(_:vs=[.ref a])(_:Ob C H a p ws ext)(_:∀q,H q=none->Q (.ref q) (upd H q (.tup ws)))
inductive spInit(K:W.Frag)(vs:List V)(H:Hp)(Q:VK)(u3_:XK):Prop
 | mk a C dx p hd(_:vs=[.ref a,.str hd,.ref p])(_:H a=some (.ins C dx []))(_:ClsOk K C)(_:∀H',H' a=some (.ins C dx [("head",.str hd),("held",.ref p)])->(∀b,b≠a->H' b=H b)->Q .non H')
end Cb
end
section
namespace L2
open PySem PySem.Spec PyProof.Rows PySem.SeqAt
section
variable{X:Cx}{K:W.Frag}
inductive tFs2_1(Q:VK)(a:Str)(y:V)(H2:Hp):Prop
 | mk (b:Str)(_:y=.str b)(_:b.length<=1000)(_:Q (.str (Str.empty++a++b)) H2)
inductive tFs2_2(tb:TE)(U:St)(Q:VK)(x:V)(H1:Hp):Prop
 | mk (a:Str)(_:x=.str a)(_:a.length<=1000)(_:tb U H1 (tFs2_1 Q a))
def tFs2(ta tb:TE):TE:=λU H Q=>ta U H (tFs2_2 tb U Q)
def pe_fs2{e v:Expr}{pos p2:Pos}{ta tb:TE}(he:PE X e ta)(hv:PE X v tb)(hE:evalEach [] X.env=[]:=by rfl):PE X (.JoinedStr [e,.FormattedValue v (-1) none p2] pos) (tFs2 ta tb):=by
 intro pins s U H Q I h
 refine JoinedStr_many ?_
 rw[hE]
 have l0:Str.empty.length=0:=rfl
 have hz:(3000:Nat)<=sizeLine:=by decide
 refine joinParts_cons (thn (he pins s U H _ I h) λu s1 hh_=>?_)
 obtain⟨x,H1,I1,rx,a,ex,la,q⟩:=hh_
 subst ex
 obtain⟨t,rfl⟩:=(show∃t,u=Value.str a t from rx)
 refine{by rw[strLen_append];omega,?_}
 refine joinParts_cons (FormattedValue_plain (thn (hv pins s1 U H1 _ I1 q) λu2 s2 hh_=>?_))
 obtain⟨y,H2,I2,ry,b,ey,lb,q2⟩:=hh_
 subst ey
 obtain⟨t2,rfl⟩:=(show∃t,u2=Value.str b t from ry)
 refine formatField_str (λt' tk=>{by rw[strLen_append,strLen_append];omega,?_}) (by omega)
 exact joinParts_nil {.str (Str.empty++a++b),H2,(I2.tok _).tok _,{_,O},q2} (by rw[strLen_append,strLen_append];omega)
end
end L2
end
section
namespace L2
open PySem PySem.Spec PyProof.Rows Builtin
section
variable{prog:Program}{w:World}{A:Around}{E:Value->Shared->Prop}{s:Shared}{K:W.Frag}{x y C f:Addr}{ox oy:Obj}{od oe:Option Obj}
end
section
variable{X:Cx}
end
section
variable{prog:Program}{w:World}{A:Around}{E:Value->Shared->Prop}{s:Shared}
end
section
variable{X:Cx}{o:Expr}{td:TE}{pos p1 p2 p3:Pos}{k0:Nat}
end
section
variable{X:Cx}{K:W.Frag}
def zb8{x:Str}{z:Str}{pos:Pos}(hg:Gl X x)(h:∃t,X.mg x=some (.str z t))(hd:(x==("__debug__" : Str))=false:=by decide):PE X (.Name x pos) (tC (.str z)):=by
 obtain⟨t,h⟩:=h
 exact zeU hg h {_,O} hd
def zko{x:Str}{a:Addr}{pos:Pos}(hg:Gl X x)(h:X.mg x=some (.ref a))(hd:(x==("__debug__" : Str))=false:=by decide):PE X (.Name x pos) (tC (.ref a)):=zeU hg h O hd
def zk2(hK:X.K=K):zbL X (.builtin "isinstance") (λxs H Q=>∃x t D b,xs=[x,.ref D]/\TyOf K H x t/\W.kitOne K t (.ref D)=some b/\Q (.bl b) H):=by
 subst hK
 intro pins s U H xs us Q I r h
 obtain⟨x,t,D,b,rfl,ty,e,q⟩:=h
 obtain⟨u,u2,rfl,rx,r2⟩:=zff r
 obtain rfl:u2=Value.ref D:=r2
 exact zfI I rx ty e λtk=>{.bl b,H,I.tok _,O,q}
end
def zkE{K:W.Frag}{t:Value}{D:Addr}(h:W.isIn K t D=true):W.kitOne K t (.ref D)=some true:=by
 unfold W.isIn at h
 unfold W.kitOne W.kitCls
 by_cases e:(t==Value.ref D)=true
 .rw[if_pos e]
 .rw[if_neg e]
  simp only[XbG,Xa0,beq_iff_eq] at h
  rcases h with h|h
  .exact absurd (beq_iff_eq.mpr h) e
  .dsimp only
   rw[if_pos (by simp only[Xa0,beq_iff_eq];exact h.1.1)]
   exact h.2
section
variable{X:Cx}{e:Expr}{p pos:Pos}{ta:TE}
def zfd:∀{ys:List Str} {us:List Value},Vals (ys.map V.str) us->StrsAre us ys
 | [],_,r=>by cases r;exact .nil
 | y::ys,us,r=>by
  cases r with
  | cons r1 r2 =>
   obtain⟨t,rfl⟩:=(show∃t,_=Value.str y t from r1)
   exact .cons y t (zfd r2)
inductive rJoin(K:W.Frag)(x:V)(vs:List V)(H:Hp)(Q:VK):Prop
 | mk (z:Str) (l:Addr) (ys:List Str)(_:x=.str z)(_:vs=[.ref l])(_:SqL K H l (ys.map V.str))(_:(ys.map (·.length)).sum+ys.length*z.length<=16777216)(_:Q (.str (Txt.join z ys)) H)
def zmj{K:W.Frag}(hK:X.K=K):MtR X "str.join" (rJoin K):=by
 subst hK
 rintro pins s U H x vs v us Q I rx rv ⟨z,l,ys,rfl,rfl,hl,hz,q⟩
 obtain⟨t,rfl⟩:=(show∃t,v=Value.str z t from rx)
 obtain⟨u,rfl,ru⟩:=zbW rv
 cases ru
 obtain⟨its,r,p,_⟩:=I.list hl
 exact join_list p.isList (by simpa using zfd r) hz λt' k=>{.str (Txt.join z ys),H,I.tok _,{_,O},q}
end
section
variable{prog:Program}{w:World}{A:Around}{E:Value->Shared->Prop}{s:Shared}
end
section
variable{X:Cx}{o:Expr}{td tv:TE}{pos p1 p2 p3:Pos}{k0:Nat}
end
end L2
end
section
namespace L2
open PySem PySem.Spec PyProof.Rows HT PySem.SeqAt
section
section
variable{prog:Program}{w:World}{A:Around}{E:Value->Shared->Prop}{s:Shared}
def zk0{t b:Addr}{ws:List Value}{Q:Value->Shared->Prop}(ht:IsTup s.heap t #[])(hb:IsTup s.heap b ws.toArray)(h:Q (.ref b) s):wpAny (model prog w) A (binaryOp .Add (.ref t) (.ref b)) Q E s:=by
 obtain⟨⟨cls,dd,data,sl⟩,ho,hc,n,hd⟩:=id ht
 obtain⟨⟨cls2,dd2,data2,sl2⟩,ho2,hc2,n2,hd2⟩:=id hb
 simp only at hc hd hc2 hd2
 subst hc hd hc2 hd2
 exact concat_meets {_,ho,O} {_,ho2,O} noFill_tuple_add seq_tuple_add PySem.F.slot_tuple_add PySem.F.entry_tuple_add (PySem.F.args_tuple_add_2 _ _)
   (tuple_addW0 t b #[] ws.toArray n n2 dd dd2 sl sl2 O) ⟨ho,ho2,h⟩
def zdg{t sl:Addr}{items:Array Value}{vl vu:Value}{lo hi:Option Int}{Q:Value->Shared->Prop}(ht:IsTup s.heap t items)(hs:s.heap.IsSliceOf sl vl vu .none)(pl:IsPart vl lo)(pu:IsPart vu hi)
  (hw:sIx items.size 0 lo=0/\sIx items.size items.size hi=items.size) (h:Q (.ref t) s):wpAny (model prog w) A (getItem (.ref t) (.ref sl)) Q E s:=by
 obtain⟨os,hos,hcs,hds⟩:=id hs
 have hTs:s.TypeIs (.ref sl) "slice" := ⟨os,hos,hcs⟩
 unfold getItem
 try with_reducible refine XaE ?_
 first|refine Xaa (Xac ?_)|skip
 refine Xaa (wpAny_sequenceKey ht.typeIs (by decide) ?_)
 refine Xaa (wpAny_callSpecial?_slot (name:=Str.ofString "__getitem__") ht.typeIs PyProof.Rows.slot_tuple_getitem
  (XaQ PyProof.Rows.slot_tuple_getitem ht.typeIs entry_tuple_getitem ?_ (args_tuple_getitem _ _)))
 show wpAny _ _ (Builtin.Tuple.tupleItemsOf (.ref t) >>= _) _ _ s
 refine Xaa (tupleItemsOf_ ht ?_)
 refine Xaa (wpAny_typeOf hTs ?_)
 rw[if_pos (by decide)]
 refine Xaa (zbV hs pl pu ?_)
 rw[hw.1,hw.2,Nat.sub_zero]
 have hyes:((((0:Nat):Int)==0&&(1:Int)==1&&items.size==items.size)=true):=by simp
 show wpAny _ _ (if(((0:Nat):Int)==0&&(1:Int)==1&&items.size==items.size)=true then _ else _) _ _ s
 rw[if_pos hyes]
 refine Xaa (m:=Builtin.Tuple.tupleIsExact _) ?_
 unfold Builtin.Tuple.tupleIsExact
 refine Xaa (wpAny_typeOf ht.typeIs (Xac ?_))
 rw[if_pos (by decide)]
 refine Xaa (XbA ?_)
 exact Xac {_,O,Xac h}
end
end
section
variable{X:Cx}{K:W.Frag}
inductive rSlT2(K:W.Frag)(x:V)(lo:Option Int)(hi:Option Int)(H:Hp)(Q:VK):Prop
 | mk a xs(_:x=.ref a)(_:SqT K H a xs)(_:(cutV xs lo hi=xs->Q (.ref a) H))(_:∀p,H p=none->Q (.ref p) (upd H p (.tup (cutV xs lo hi))))
def zgd(hK:X.K=K):SlR X (rSlT2 K):=by
 subst hK
 intro pins s U H x v vl vu lo hi sl Q I rx hs pl pu h
 obtain⟨a,xs,rfl,hx,q0,q⟩:=h
 by_cases hw:sIx xs.length 0 lo=0/\sIx xs.length xs.length hi=xs.length
 .cases rx
  obtain⟨its,r,ht,hz⟩:=I.tuple hx
  have hlen:its.toArray.size=xs.length:=by rw[Xaq];exact r.length.symm
  refine{"tuple",_,PyProof.Rows.slot_tuple_getitem.lookup,ht.typeIs,?_}
  refine zdg ht hs pl pu (by rw[hlen];exact hw) ?_
  exact{.ref a,H,I,O,q0 (by unfold cutV;rw[hw.1,hw.2];simp)}
 .exact sl_tup pins s U H _ v vl vu lo hi sl Q I rx hs pl pu ⟨a,xs,O,hx,hw,q⟩
inductive rCatT2(K:W.Frag)(x:V)(y:V)(H:Hp)(Q:VK):Prop
 | mk a b xs ys(_:x=.ref a)(_:y=.ref b)(_:SqT K H a xs)(_:SqT K H b ys)(_:xs.length+ys.length<=sizeLine)(_:(xs=[]->Q (.ref b) H))(_:(ys=[]->Q (.ref a) H))(_:(∀p,H p=none->Q (.ref p) (upd H p (.tup (xs++ys)))))
def zks(hK:X.K=K):OpR X (binaryOp .Add) (rCatT2 K):=by
 subst hK
 intro pins s U H x y v u Q I rx ry h
 obtain⟨a,b,xs,ys,rfl,rfl,ha,hb,hz,q0,q1,q2⟩:=h
 by_cases hx:xs=[]
 .cases rx
  cases ry
  obtain⟨its,r1,p1,_⟩:=I.tuple ha
  obtain⟨its2,r2,p2,_⟩:=I.tuple hb
  rw[r1.nil_iff.mpr hx] at p1
  exact zk0 p1 p2 {.ref b,H,I,O,q0 hx}
 .exact zmd pins s U H _ _ v u Q I rx ry {a,b,xs,ys,O,O,ha,hb,hx,hz,q1,λ_=>q2}
def zkY{g:TG}{tf:TT}{te:TE}{Q:List V->Hp->Prop}{U:St}{H:Hp}{a:Addr}{xs:List V}(Pv:Nat->List V->St->Hp->Prop)(hn:xs.length<=sizeLine)(h0:Pv 0 [] U H)(hl:∀i ys U H,i<=xs.length->Pv i ys U H->SqT K H a xs/\ys.length<=i)
  (hs:∀i x ys U H,xs[i]?=some x->Pv i ys U H->g x U H λU2 H2=>tf U2 H2 λb H3=>if b=true then te U2 H3 λy H4=>Pv (i+1) (ys++[y]) U2 H4 else Pv (i+1) ys U2 H3)
  (hd:∀ys U H,Pv xs.length ys U H->Q ys H):zf9 (Itt K a) g tf te Q U H:=by
 refine{λi m ys U H=>m=xs.length-i/\i<=xs.length/\Pv i ys U H,{xs.length,by simp,Nat.zero_le _,h0},?_}
 rintro i m ys U H ⟨rfl,hi,p⟩
 obtain⟨q,hz⟩:=hl i ys U H hi p
 by_cases hlt:i<xs.length
 .refine .inr {{xs,xs[i],q,by simp[hlt]},by omega,Pv (i+1),λys' U' H' p'=>{xs.length-(i+1),by omega,O,hlt,p'},λx H' y=>?_}
  obtain⟨e,y⟩:=y
  subst e
  exact hs i x ys U _ (y xs q) p
 .have e:i=xs.length:=by omega
  subst e
  exact .inl {{xs,q,Xad _},by omega,hd ys U H p}
end
end L2
end
section
namespace L2
open PySem PySem.Spec PyProof.Rows HT
def Slid(fs ch:List Addr)(h h':Heap):Prop:=∀b o,h.get? b=some o->b∉ch->(b∉fs->h'.get? b=some o)/\∃sl,h'.get? b=some {o with slots:=sl}
def Slid.of{fs ch:List Addr}{h h':Heap}(k:∀b o,h.get? b=some o->b∉ch->h'.get? b=some o):Slid fs ch h h':=λb o e hc=>{λ_=>k b o e hc,o.slots,k b o e hc}
def Slid.trans{fs ch:List Addr}{h1 h2 h3:Heap}(x:Slid fs ch h1 h2)(y:Slid fs ch h2 h3):Slid fs ch h1 h3:=λb o e hc=>by
 obtain⟨x1,sl,x2⟩:=x b o e hc
 refine{λhf=>(y b o (x1 hf) hc).1 hf,?_}
 obtain⟨_,sl2,y2⟩:=y b _ x2 hc
 exact⟨sl2,y2⟩
def Slid.mono{fs fs' ch ch':List Addr}{h h':Heap}(x:Slid fs ch h h')(hf:∀b∈fs,b∈fs')(hc:∀b∈ch,b∈ch'):Slid fs' ch' h h':=λb o e n=>{λz=>(x b o e λq=>n (hc b q)).1 λq=>z (hf b q),(x b o e λq=>n (hc b q)).2}
def XAt(h:Heap)(e T:Addr)(cls fl:Value)(od:Option Addr):Prop:=∃oe vs oT ts,h.get? e=some oe/\(oe.cls=cls/\oe.dict=od)/\oe.data=.fields vs/\vs[1]?=some (.ref T)/\T≠e/\h.get? T=some oT/\oT.data=.fields ts/\ts[3]?=some fl
section
variable{M:Model}{A:Around}{E:Value->Shared->Prop}{s:Shared}
def zer(f:Array Value->Array Value)(o:Obj):(Obj.mapFields f o).dict=o.dict:=by
 obtain⟨c,d,dt,sl⟩:=o
 cases dt<;>rfl
def zid{base:Heap}{env:Env}{outer:List Env}{L e:Addr}{oe:Obj}{vs:Array Value}{head:Value}{hadNext:Bool}{Q:Unit->Shared->Prop}
  (hfr:A.frames=some (env::outer)) (hl:s.heap.FunFrames base (env::outer)) (hf:env.frame=some L)
  (he:s.heap.get? e=some oe) (hd:oe.data=.fields vs) (hsz:1<vs.size)
  (h:∀h' T,s.heap.get? T=none->Slid ((env::outer).filterMap (·.frame)) [e] s.heap h'->XAt h' e T oe.cls (rawInt L) oe.dict->Q () {s with heap:=h'}) :
  wpAny M A (do let a <- frameOf env;let pl <- entryPlaceOf L hadNext;let b <- EntryCells.newEntry head a .none (rawInt L) .none pl;setField (.ref e) 1 b) Q E s:=by
 have hene:e∉(env::outer).filterMap (·.frame):=λhm=>by
  obtain⟨_,o,ho,hnf⟩:=hl.mem hm
  rw[he] at ho;injection ho with ho;subst ho;exact hnf vs hd
 refine Xaa (wpAny_frameOf_fun hfr hl hf λh₁ hs₁=>?_)
 refine Xaa (wpAny_entryPlaceOf λpl hpl=>?_)
 unfold EntryCells.newEntry newFields
 refine Xaa (XaS ?_ (hpl.sizeOk5 _ _ _ _ _))
 have he₁:h₁.get? e=some oe:=(hs₁.2.1 e hene).trans he
 have he₂:=Xab (h:=h₁) {cls:=.type "traceback",dict:=none,data:=.fields ([head,.ref L,.none,rawInt L,.none]++(if pl.isEmpty then List.replicate 6 Value.none else pl)).toArray} he₁
 refine XaX he₂ hd hsz (h _ h₁.objs.size ?_ ?_ ?_)
 .rw[hs₁.1];exact Xbz (Xad _)
 .intro b o hb hc
  have hbe:b≠e:=λz=>hc (by rw[z];exact List.mem_singleton_self _)
  have keep:∀o',h₁.get? b=some o' ->
    ((h₁.push {cls:=.type "traceback",dict:=none,data:=.fields ([head,.ref L,.none,rawInt L,.none]++(if pl.isEmpty then List.replicate 6 Value.none else pl)).toArray}).update e (Obj.mapFields (·.setIfInBounds 1 (Value.ref h₁.objs.size)))).get? b=some o':=λo' hb=>by
   rw[XaM _ _ (Ne.symm hbe)]
   exact Xab _ hb
  refine{λhn=>keep o ((hs₁.2.1 b hn).trans hb),?_}
  obtain⟨sl,hs⟩:=hs₁.2.2 b o hb
  exact{sl,keep _ hs}
 .have hTe:h₁.objs.size≠e:=Xbe (Xai he₁)
  have hd₃:=Obj.data_mapFields hd (·.setIfInBounds 1 (Value.ref h₁.objs.size))
  have he₃:=XaK (Obj.mapFields (·.setIfInBounds 1 (Value.ref h₁.objs.size))) he₂ (Obj.isFreed_of_fields hd₃)
  have hT₃:=(XaM (h₁.push {cls:=.type "traceback",dict:=none,data:=.fields ([head,.ref L,.none,rawInt L,.none]++(if pl.isEmpty then List.replicate 6 Value.none else pl)).toArray})
   (Obj.mapFields (·.setIfInBounds 1 (Value.ref h₁.objs.size))) (Ne.symm hTe)).trans (Xag h₁ O)
  exact{_,_,_,_,he₃,{Obj.cls_mapFields _ _,zer _ _},hd₃,by simp[hsz],hTe,hT₃,O,by first|(simp;done)|(rcases hpl with rfl|⟨_,_,_,_,_,_,_,rfl⟩<;>simp)}
def zfc{base:Heap}{env:Env}{outer:List Env}{L e:Addr}{oe:Obj}{vs:Array Value}{Q:Unit->Shared->Prop}(hfr:A.frames=some (env::outer))(hl:s.heap.FunFrames base (env::outer))(hf:env.frame=some L)
  (he:s.heap.get? e=some oe) (hd:oe.data=.fields vs) (h1:vs[1]?=some .none)
  (h:∀h' T,s.heap.get? T=none->Slid ((env::outer).filterMap (·.frame)) [e] s.heap h'->XAt h' e T oe.cls (rawInt L) oe.dict->Q () {s with heap:=h'}):wpAny M A (noteFrame (.ref e) env) Q E s:=by
 unfold noteFrame
 simp only[hf]
 refine Xaa (XaG he hd h1 ?_)
 rw[if_neg (by decide)]
 exact zid hfr hl hf he hd (Xbl.mp h1).1 h
def zdH{base:Heap}{env:Env}{outer:List Env}{L e T:Addr}{cls:Value}{od:Option Addr}{Q:Unit->Shared->Prop}(hfr:A.frames=some (env::outer))(hl:s.heap.FunFrames base (env::outer))(hf:env.frame=some L)
  (x:XAt s.heap e T cls .none od)
  (h:∀h' T',s.heap.get? T'=none->Slid ((env::outer).filterMap (·.frame)) [e,T] s.heap h'->XAt h' e T' cls (rawInt L) od->Q () {s with heap:=h'}):wpAny M A (noteFrame (.ref e) env) Q E s:=by
 obtain⟨oe,vs,oT,ts,he,⟨hcls,hdn⟩,hd,h1,hTe,hT,hdT,h3⟩:=x
 subst hcls hdn
 unfold noteFrame
 simp only[hf]
 refine Xaa (XaG he hd h1 ?_)
 rw[if_pos (show(Value.ref T != Value.none)=true from by simp)]
 refine Xaa (XaG hT hdT h3 ?_)
 rw[if_neg (show¬ ((Value.none==rawInt L)=true) from by simp[rawInt])]
 refine Xaa (XaX hT hdT (Xbl.mp h3).1 ?_)
 have other:∀b,b≠T->(s.heap.update T (Obj.mapFields (·.setIfInBounds 3 Value.none))).get? b=s.heap.get? b:=λb hb=>XaM _ _ (Ne.symm hb)
 have noRecord:∀b o,s.heap.get? b=some o->(∀vs,o.data≠.fields vs)->b≠T:=λb o hb hnf q=>by
  rw[q,hT] at hb;injection hb with hb;subst hb;exact hnf ts hdT
 refine zid hfr (hl.of_keeps λb o hb hnf=>{o,(other b (noRecord b o hb hnf)).trans hb,O}) hf ((other e (Ne.symm hTe)).trans he) hd (Xbl.mp h1).1 λh' T' fT sl x'=>h h' T' ?_ ?_ x'
 .by_cases z:T'=T
  .have hd':=Obj.data_mapFields hdT (·.setIfInBounds 3 Value.none)
   have q:=XaK (Obj.mapFields (·.setIfInBounds 3 Value.none)) hT (Obj.isFreed_of_fields hd')
   rw[z,q] at fT;cases fT
  .exact(other T' z).symm.trans fT
 .refine Slid.trans (Slid.of λb o e hc=>(other b λz=>hc (by rw[z];simp)).trans e) (sl.mono (λ_ z=>z) λb z=>by rw[Xae.mp z];simp)
def zdC{e T:Addr}{cls fl:Value}{od:Option Addr}{Q:Unit->Shared->Prop}(x:XAt s.heap e T cls fl od)(h:∀h',Slid [] [T] s.heap h'->XAt h' e T cls .none od->Q () {s with heap:=h'}):wpAny M A (setFlight (.ref e) none) Q E s:=by
 obtain⟨oe,vs,oT,ts,he,hcls,hd,h1,hTe,hT,hdT,h3⟩:=x
 have hsz:=(Xbl.mp h3).1
 refine wpAny_setFlight_none he hd h1 hT hdT hsz (h _ ?_ ?_)
 .exact Slid.of λb o e hc=>(XaM _ _ λz=>hc (by rw[z];exact List.mem_singleton_self _)).trans e
 .have hd':=Obj.data_mapFields hdT (·.setIfInBounds 3 Value.none)
  have q:=XaK (Obj.mapFields (·.setIfInBounds 3 Value.none)) hT (Obj.isFreed_of_fields hd')
  exact{oe,vs,_,_,(XaM _ _ hTe).trans he,hcls,hd,h1,hTe,q,hd',by simp[hsz]}
end
end L2
end
section
namespace L2
open PySem PySem.Spec PyProof.Rows HT
section
variable{P:Program}{w:World}{H H':Hp}{h h':Heap}{fs ch:List Addr}
def ObjOk.there{a:Addr}{o:HO}(x:ObjOk P w H h a o):∃u,h.get? a=some u:=by
 cases o with
 | lst xs=>obtain⟨_,_,_,_,e⟩:=x;exact{_,e}
 | tup xs=>obtain⟨_,_,_,p⟩:=x;obtain⟨o,e,_⟩:=p;exact{_,e}
 | dK kvs=>obtain⟨_,_,_,_,o,_,_,e,_⟩:=x;exact{_,e}
 | dT kvs=>obtain⟨_,_,_,_,o,_,_,e,_⟩:=x;exact{_,e}
 | set S n=>obtain⟨o,_,_,_,e,_⟩:=x;exact{_,e}
 | ins C dx fs=>obtain⟨_,_,_,e,_⟩:=x;exact{_,e}
 | own y=>obtain⟨_,e⟩:=x;exact{_,e}
 | xd fs=>obtain⟨_,⟨_,_,_,e,_⟩,_⟩:=x;exact{_,e}
 | rng lo hi=>obtain⟨_,_,_,e⟩:=x;exact{_,e}
 | frz ob u=>obtain⟨e,_⟩:=x;exact{_,e}
 | tbl ps=>exact{_,x}
 | met f y=>exact{_,x}
 | ext φ=>obtain⟨_,⟨_,e⟩,_⟩:=x;exact{_,e}
def HOk.none_of{a:Addr}(x:HOk P w H h)(e:h.get? a=none):H a=none:=by
 cases q:H a with
 | none=>rfl
 | some o=>obtain⟨u,z⟩:=(x a o q).there;rw[e] at z;cases z
def HOk.slid(x:HOk P w H h)(sl:Slid fs ch h h')(hf:∀b∈fs,H b=none)(hc:∀b∈ch,H b=none):HOk P w H h':=λa o e=>by
 refine(x a o e).stay (λb u hb q=>?_) (λ_ z=>z) (λ_ _ z=>z)
 have hs:∃o',H b=some o':=by
  rcases hb with rfl|z
  .exact{_,e}
  .exact{_,z}
 obtain⟨o',hs⟩:=hs
 exact(sl b u q λz=>by rw[hc b z] at hs;cases hs).1 λz=>by rw[hf b z] at hs;cases hs
end
section
variable{X:Cx}{pins:List (Addr×Obj)}{U:St}{H:Hp}{s:Shared}{h':Heap}{ch:List Addr}
def Inv.slid(I:Inv X pins U H s)(sl:Slid (frs X.stack) ch s.heap h')
  (hc:∀b∈ch,H b=none/\X.s₀.heap.get? b=none/\b≠X.env.locals/\(∀x c,X.env.cells.lookup x=some c->c≠b)/\∀p∈X.pn++pins,p.1≠b):Inv X pins U H {s with heap:=h'}:=by
 have nch:∀b o,X.s₀.heap.get? b=some o->b∉ch:=λb o e z=>by rw[(hc b z).2.1] at e;cases e
 have nst:∀b o,X.s₀.heap.get? b=some o->b∉X.fs->b∉frs X.stack:=λb o e hb z=>by
  rcases Xan.mp (I.stkSub b z) with q|q
  .exact absurd q (Xay (Xao (Xai e) I.ok.above))
  .exact hb q
 have slot:∀b o,s.heap.get? b=some o->b∉ch->∃sl,h'.get? b=some {o with slots:=sl}:=λb o e n=>(sl b o e n).2
 refine{I.ok,I.os,I.bare,{λb o e n hb hx=>?_,λb o e n hb hx=>?_,I.base.free,λb o e hx=>?_,I.base.tups,I.base.frzs,I.base.tbls},?_,λy c e=>?_,I.free,I.freeC,λp hp=>?_,I.hok.slid sl (λb hb=>I.stkFree b hb) (λb hb=>(hc b hb).1),I.len}
 .exact(sl b o (I.base.keep b o e n hb hx) (nch b o e)).1 (nst b o e hb)
 .obtain⟨t,e1⟩:=I.base.slot b o e n hb hx
  obtain⟨t2,e2⟩:=slot b _ e1 (nch b o e)
  exact⟨t2,e2⟩
 .obtain⟨o',e1⟩:=I.base.there b o e hx
  obtain⟨t2,e2⟩:=slot b _ e1 (nch b o e)
  exact{_,e2}
 .obtain⟨m,⟨o,es,ep,ho,hd,r⟩,hl⟩:=I.loc
  obtain⟨t,e1⟩:=slot _ _ ho λz=>(hc _ z).2.2.1 O
  refine{m,{_,es,ep,e1,hd,r},λi x v e2 e3 e4=>?_}
  obtain⟨u,ru,q⟩:=hl i x v e2 e3 e4
  refine{u,ru,?_}
  rcases q with q|⟨k,c,e,oc,hoc,hod⟩
  .exact .inl q
  .obtain⟨t2,e5⟩:=slot _ _ hoc λz=>(hc _ z).2.2.2.1 x c e O
   exact .inr {k,c,e,_,e5,hod}
 .obtain⟨v,oc,hoc,hod⟩:=I.cell y c e
  obtain⟨t2,e5⟩:=slot _ _ hoc λz=>(hc _ z).2.2.2.1 y c e O
  exact{v,_,e5,hod}
 .obtain⟨e,n,ne,nf,d⟩:=I.pin p hp
  refine{(sl p.1 p.2 e λz=>(hc _ z).2.2.2.2 p hp O).1 λz=>?_,n,ne,nf,d}
  rcases Xan.mp (I.stkSub _ z) with q|q
  .exact ne q
  .exact nf q
def Inv.none_ours(I:Inv X pins U H s){b:Addr}(hb:s.heap.get? b=none)(hx:b∉X.ex):X.s₀.heap.get? b=none/\b≠X.env.locals/\(∀x c,X.env.cells.lookup x=some c->c≠b)/\∀p∈X.pn++pins,p.1≠b:=by
 refine{?_,λz=>?_,λx c e z=>?_,λp hp z=>?_}
 .cases q:X.s₀.heap.get? b with
  | none=>rfl
  | some o=>obtain⟨o',e⟩:=I.base.there b o q hx;rw[e] at hb;cases hb
 .obtain⟨m,⟨o,es,ep,ho,_⟩,_⟩:=I.loc
  rw[<- z,hb] at ho;cases ho
 .obtain⟨v,oc,hoc,_⟩:=I.cell x c e
  rw[z,hb] at hoc;cases hoc
 .obtain⟨e,_⟩:=I.pin p hp
  rw[z,hb] at e;cases e
end
inductive CX1(P:Program)(w:World)(outer:List Env)(H:Hp)(s:Shared)(E:XK)(e:Value)(s':Shared):Prop
 | mk ea T H' C od(_:e=.ref ea)(_:s'.os=s.os)(_:AllBare s'.gens)(_:Un (frs outer) [] H H' s.heap s'.heap)(_:HOk P w H' s'.heap)(_:XAt s'.heap ea T (.ref C) .none od)(_:s.heap.get? ea=none)(_:s.heap.get? T=none)(_:H' ea=none)(_:H' T=none)(_:E (.ref C) od H')
end L2
end
section
namespace L2
open PySem PySem.Spec PyProof.Rows HT
def NsK(K:W.Frag)(N:Addr):Prop:=∃c d es ep sl,K.lookup N=some {c,d,.dict es ep,sl}/\StrKeys es/\nsFind es "__init__"=none
def bmV:List Value:=[.type "ValueError",.type "Exception",.type "BaseException",.type "object"]
inductive TailK(K:W.Frag):List Value->Prop
 | base:TailK K bmV
 | own {A:Addr} {c0:Value} {dd:Option Addr} {cd:ClassData} {sl:Array (Option Value)} {tl:List Value}:K.lookup A=some {c0,dd,.cls cd,sl}->NsK K cd.ns->TailK K tl->TailK K (.ref A::tl)
def NsK.ns{K:W.Frag}{N:Addr}{h:Heap}(x:NsK K N)(k:K.In h):∃m,h.Ns N m/\m "__init__"=none:=by
 obtain⟨c,d,es,ep,sl,e,hs,hi⟩:=x
 exact{nsFind es,{_,es,ep,k _ _ e,O,hs,λ_=>O},hi}
def TailK.tail{K:W.Frag}{bm:List Value}{h:Heap}(x:TailK K bm)(k:K.In h):OwnTail h bmV bm:=by
 induction x with
 | base=>exact .base
 | own e n _ ih =>
  obtain⟨m,hn,hi⟩:=n.ns k
  exact .own (k _ _ e) hn hi ih
section
variable{X:Cx}{x:Str}{C:Addr}{e:Expr}{te:TE}{np cpos pos:Pos}{R:Hp->Prop}
end
end L2
end
section
namespace L2
open PySem PySem.Spec PyProof.Rows HT
def PS.nox{X:Cx}{st:Stmt}{t:TS}(h:PS X.nox st t):PS X st t:=λpins s U H D I hw =>
 Xav (h pins s U H D (I.wish _) hw) (λ_ _ q=>q.unwish) λ_ _ z=>False.elim z
def Fun.okX{P:Program}{w:World}{K:W.Frag}{mg:Str->Option Value}{base:Heap}{x qual:Str}{st:Stmt}{f:Addr}{fd:FuncData}{N ps:List Str}{k:Nat}{sp:Sp}(F:Fun K x qual st f fd)(S:FnScope N ps (zai st))(len:∀vs H Q E,sp vs H Q E->vs.length=ps.length)
  (hbody:∀(cdv:Value) (A:Around) (outer:List Env) (s:Shared) (H:Hp) (vs:List V) (Q:VK) (E:XK),Room k (A.deeper (envOfC qual (zai st) s.heap.objs.size f cdv))->sp vs H Q E ->
   ∃t,PSs (cxOf (CX1 P w) P w K mg base N qual (zai st) f cdv A outer s H E) (zaM st) t/\t {nx:=λ_ H'=>Q .non H',rt:=Q} (start N vs) H):FnOk P w K mg base (CX1 P w) (k+1) f fd ps sp:=by
 obtain⟨oc,od,kV,doc,pm,an,cdv,ct,osl,rfl,lk,hcd⟩:=F.ex
 exact zmv lk hcd S len λA outer s H vs Q E hr hsp=>hbody cdv A outer s H vs Q E hr hsp
structure CalX(P:Program)(w:World)(K:W.Frag)(mg:Str->Option Value)(base:Heap)(k:Nat)(x:Str)(ps:List Str)(sp:Sp):Prop where
 ex:∃f fd,FnOk P w K mg base (CX1 P w) k f fd ps sp/\mg x=some (.ref f)/\W.keepIn K (.ref f)=true/\Binds K fd ps []
abbrev Cx.marked(X:Cx)(e:Value):Cx:={X with A:=X.A.mark (some e),calm:=false}
def Inv.marked{X:Cx}{pins:List (Addr×Obj)}{U:St}{H:Hp}{s:Shared}(I:Inv X pins U H s)(e:Value):Inv (X.marked e) pins U H s:=
 {{I.ok.mod,I.ok.kind,I.ok.glob,I.ok.blt,I.ok.above,I.ok.inj,I.ok.has,I.ok.cab,(λz=>nomatch z),I.ok.frames,I.ok.stk,I.ok.exf,I.ok.bs,I.ok.bsz,I.ok.noex,I.ok.exfs,I.ok.funs,I.ok.frf},I.os,I.bare,I.base,I.loc,I.cell,I.free,I.freeC,I.pin,I.hok,I.len}
def Inv.unmarked{X:Cx}{pins:List (Addr×Obj)}{U:St}{H:Hp}{s:Shared}{e:Value}(hd:X.calm=true->X.A.handled=none)(I:Inv (X.marked e) pins U H s):Inv X pins U H s:=
 {⟨I.ok.mod,I.ok.kind,I.ok.glob,I.ok.blt,I.ok.above,I.ok.inj,I.ok.has,I.ok.cab,hd,I.ok.frames,I.ok.stk,I.ok.exf,I.ok.bs,I.ok.bsz,I.ok.noex,I.ok.exfs,I.ok.funs,I.ok.frf⟩,I.os,I.bare,I.base,I.loc,I.cell,I.free,I.freeC,I.pin,I.hok,I.len}
def xIs(ea:Addr)(cls:Value)(od:Option Addr):Heap->Prop:=λh=>∃o vs,h.get? ea=some o/\(o.cls=cls/\o.dict=od)/\o.data=.fields vs
section
variable{X:Cx}{pins:List (Addr×Obj)}{U:St}{H:Hp}{s:Shared}
def Inv.trackX{ea:Addr}{cls:Value}{od:Option Addr}(I:Inv X pins U H s)(hn:H ea=none)(ho:xIs ea cls od s.heap)(h:X.s₀.heap.get? ea=none/\ea≠X.env.locals/\(∀x c,X.env.cells.lookup x=some c->c≠ea)/\∀p∈X.pn++pins,p.1≠ea):Inv X pins U (upd H ea (.ext (xIs ea cls od))) s:=by
 have up:∀b o,H b=some o->upd H ea (.ext (xIs ea cls od)) b=some o:=λb o e=>by rw[zah (λz=>by rw[z,hn] at e;cases e)];exact e
 refine{I.ok,I.os,I.bare,{I.base.keep,I.base.slot,λb o e n hx=>?_,I.base.there,λb xs e=>up _ _ (I.base.tups b xs e),λb o u e=>up _ _ (I.base.frzs b o u e),λb ps e=>?_},I.loc,I.cell,?_,λx c e=>?_,λp hp=>?_,λa o e=>?_,I.len}
 .rw[zah (λz=>by rw[z,h.1] at e;cases e)];exact I.base.free b o e n hx
 .obtain⟨more,q⟩:=I.base.tbls b ps e
  exact{more,up _ _ q}
 .rw[zah (Ne.symm h.2.1)];exact I.free
 .rw[zah (h.2.2.1 x c e)];exact I.freeC x c e
 .obtain⟨e,n,r⟩:=I.pin p hp
  exact{e,by rw[zah (h.2.2.2 p hp)];exact n,r}
 .by_cases z:a=ea
  .subst z
   rw[zac] at e
   cases e
   obtain⟨oo,vs,e1,e2,e3⟩:=id ho
   refine{ho,⟨oo,e1⟩,λh1 h2 ⟨o1,v1,q1,q2,q3⟩ k=>{o1,v1,k _ q1,q2,q3}}
  .rw[zah z] at e
   exact(I.hok a o e).stay (λ_ _ _ q=>q) (λb q=>up _ _ q) λb xs q=>up _ _ q
def Inv.unname{h':Heap}{m:Str->Option Value}{j:Nat}{n:Str}{u:Option Value}{t':Nat}(I:Inv X pins U H s)(hN:X.N.Nodup)(hj:X.N[j]?=some n)(hk:X.env.scope.names.lookup n=some .local)
  (hm:s.heap.Ns X.env.locals m) (hn':h'.Ns X.env.locals (λx=>if x=n then u else m x)) (hs:Heap.SameBut X.env.locals s.heap h'):Inv X pins (U.set j none) H {s with heap:=h',toks:=t'}:=by
 have hjU:j<U.length:=by rw[I.len];exact(Xas.mp hj).1
 have nl:∀b o,X.s₀.heap.get? b=some o->b≠X.env.locals:=λb o e=>Xay (Xao (Xai e) I.ok.above)
 have cne:=I.cne
 refine{I.ok,I.os,I.bare,{λb o e n hb hx=>(hs.2 b (nl b o e)).trans (I.base.keep b o e n hb hx),λb o e n hb hx=>?_,I.base.free,λb o e hx=>?_,I.base.tups,I.base.frzs,I.base.tbls},{_,hn',λi y v' e1 e2 e3=>?_},λy c e=>?_,I.free,I.freeC,λp hp=>?_,λb ob e=>?_,by simpa using I.len}
 .obtain⟨sl,e1⟩:=I.base.slot b o e n hb hx
  exact{sl,(hs.2 b (nl b o e)).trans e1}
 .obtain⟨o',e1⟩:=I.base.there b o e hx
  exact{o',(hs.2 b (nl b o e)).trans e1}
 .have hi:i≠j:=λz=>by rw[z,XbH hjU] at e2;cases e2
  rw[List.getElem?_set_ne (Ne.symm hi)] at e2
  obtain⟨m0,hn0,hl⟩:=I.loc
  obtain⟨u',r',q⟩:=hl i y v' e1 e2 e3
  refine{u',r',?_}
  rcases q with⟨k,e⟩|⟨k,c,e,z⟩
  .refine .inl {k,?_}
   have ny:y≠n:=λe=>hi (ze1 hN e1 (e▸hj))
   have em:m0=m:=by
    obtain⟨o1,es1,ep1,g1,d1,_,f1⟩:=hn0
    obtain⟨o2,es2,ep2,g2,d2,_,f2⟩:=hm
    rw[g1] at g2;cases g2
    rw[d1] at d2;cases d2
    funext x;rw[<- f1,<- f2]
   show(if y=n then u else m y)=_
   rw[if_neg ny,<- em];exact e
  .exact .inr {k,c,e,z.sameBut hs (cne y c e)}
 .obtain⟨w',z⟩:=I.cell y c e
  exact{w',z.sameBut hs (cne y c e)}
 .obtain⟨e,n,ne,nf,d⟩:=I.pin p hp
  exact{(hs.2 p.1 ne).trans e,n,ne,nf,d}
 .refine(I.hok b ob e).stay (λc w' hc q=>(hs.2 c ?_).trans q) (λ_ q=>q) λ_ _ q=>q
  rintro rfl
  have hf:=I.free
  rcases hc with z|hc
  .rw[z] at hf;rw[hf] at e;cases e
  .rw[hf] at hc;cases hc
end
end L2
end
section
namespace L2
open PySem PySem.Spec PyProof.Rows HT
section
variable{X:Cx}{k:Nat}{ps:List Str}{sp:Sp}{x fn cn n y:Str}{i j l:Nat}{Cb:Addr}{e:Expr}{t:TA}{px p1 p2 p3 p4 p5 p6 p7 p8 p9:Pos}
end
end L2
end
section
namespace L2
open PySem PySem.Spec PyProof.Rows HT PySem.W PySem.Calls
section
variable{prog:Program}{w:World}{A:Around}{E:Value->Shared->Prop}{s:Shared}{K:Frag}{x C:Addr}{ox:Obj}{oD:Option Obj}
def zlB{Q:Option Value->Shared->Prop}(X:K.In s.heap)(I:InstAt s.heap x ox C oD)(hga:findIn K (.ref C) "__getattribute__"=some (some (.builtin "BaseException.__getattribute__")))(hgr:findIn K (.ref C) "__getattr__"=some none)
  (hf:findObj K C oD "__class__"=some (.bind (.builtin "getset_descriptor.__get__") (.builtin "object.__class__"))) (hsub:subIn K (.ref C) (.type "BaseException")=some true) (hm:mroIn K C (.type "object")=some true)
  (h:Q (some (.ref C)) {s with toks:=s.toks+1}):wpAny (model prog w) A (getAttr? (.ref x) "__class__") Q E s:=by
 obtain⟨hh,g,d,t,os⟩:=s
 have L0:=I.type (M:=model prog w)
 have L1:=looks_findIn (M:=model prog w) X hga
 have L2:=looks_findIn (M:=model prog w) X hgr
 unfold getAttr? getAttrBy? getAttrBy
 refine Xaa (wpAny_mkText (Xaa (Xbt (XaE (Xaa (L0.at (Xaa (L1.at ?_))))))))
 have hx2:(Value.builtin "BaseException.__getattribute__" == Value.builtin "object.__getattribute__")=false:=by decide +kernel
 have hx:(onTheHeap (Value.ref C)&&Value.builtin "BaseException.__getattribute__" == Value.builtin "object.__getattribute__")=false:=by rw[hx2];rfl
 show wpAny _ _ (if(onTheHeap (Value.ref C)&&Value.builtin "BaseException.__getattribute__" == Value.builtin "object.__getattribute__")=true then _ else _) _ _ _
 rw[hx,if_neg Xaj]
 unfold getAttrByItsOwn
 have hb:hookBefore (Value.ref C)=typeLookup (Value.ref C) "__getattr__" := rfl
 rw[hb]
 refine Xaa (L2.at ?_)
 refine Xaa (Xbt (XaE ?_))
 have hc:callGetattribute (Value.ref x) (Value.str "__class__" t) (Value.builtin "BaseException.__getattribute__") false=boundAndCalled (Value.builtin "BaseException.__getattribute__") (Value.ref x) (Value.str "__class__" t):=rfl
 rw[hc]
 unfold boundAndCalled
 rw[PySem.F.excAttr_ValueError.ga.bind (.ref x)]
 refine Xaa (Xac ?_)
 show wpAny _ _ (call (.builtin "BaseException.__getattribute__") [.ref x,.str "__class__" t]) _ _ _
 refine Xbr ?_
 have hk:builtinKind "BaseException.__getattribute__"=some .slot:=by decide +kernel
 have hs:splitId "BaseException.__getattribute__"=some ("BaseException","__getattribute__"):=by decide +kernel
 refine Xbs PySem.F.excAttr_ValueError.ga.plain PySem.F.entry_bexc_ga ?_
 have hi:Looks (model prog w) hh (isInstance (.ref x) (.type "BaseException")) true:=L0.andThen (looks_subIn X hsub)
 have ha:=PySem.F.args_bexc_ga (.ref x) (.str "__class__" t)
 have LF:=looks_find (M:=model prog w) X I hf
 refine@check_slot _ _ _ _ _ _ _ _ _ _ _ hk hs hi ha ?_
 unfold Builtin.«object.__getattribute__»
 refine Xaa (wpAny_of_eq (a:=(Value.ref x,[Value.str (Str.ofString "__class__") t])) O ?_)
 dsimp only
 refine Xaa (Xac (Xaa (L0.at (Xaa (LF.at ?_)))))
 show wpAny _ _ (holding [Value.builtin "object.__class__"] (call (.builtin "getset_descriptor.__get__") [.builtin "object.__class__",.ref x,.ref C]) >>= ret) _ _ _
 refine Xaa (XaE (Xbr (class_get (s:={heap:=hh,gens:=g,drawn:=d,toks:=t+1,os:=os}) X I hm ?_)))
 exact Xac (handed_on O (Xac h))
structure XCls(K:Frag)(C:Addr):Prop where
 look:∃c d cd sl,K.lookup C=some {c,d,.cls cd,sl}
 ga:findIn K (.ref C) "__getattribute__"=some (some (.builtin "BaseException.__getattribute__"))
 gr:findIn K (.ref C) "__getattr__"=some none
 cf:∀oD:Option Obj,findObj K C oD "__class__"=some (.bind (.builtin "getset_descriptor.__get__") (.builtin "object.__class__"))
 sub:subIn K (.ref C) (.type "BaseException")=some true
 mro:mroIn K C (.type "object")=some true
end
section
variable{X:Cx}{K:Frag}
def ziK:∀{Ds:List Addr} {its:List Value},Vals (Ds.map V.ref) its->its=Ds.map Value.ref
 | [],_,r=>by cases r;rfl
 | D::Ds,_,r=>by
  cases r with
  | cons a b=>rw[ziK b];rw[show _=Value.ref D from a];rfl
end
end L2
end
section
namespace L2
open PySem PySem.Spec PyProof.Rows HT
def FnOk.calm{P:Program}{w:World}{K:W.Frag}{mg:Str->Option Value}{base:Heap}{k:Nat}{f:Addr}{fd:FuncData}{ps:List Str}{sp:Sp}(F:FnOk P w K mg base (CX1 P w) k f fd ps sp) :
  FnOk P w K mg base CX0 k f fd ps (λvs H Q _=>sp vs H Q λ_ _ _=>False):=
 ⟨λvs H Q E h=>F.len vs H Q _ h,λA outer s H args us vs Q E hr he hb hv hs=>Xbj (F.run A outer s H args us vs Q _ hr he hb hv hs) λr s' h=>by
  cases r with
  | ok fl=>cases fl<;>exact h
  | error e=>obtain⟨_,_,_,_,_,_,_,_,_,_,_,_,_,_,_,z⟩:=h;exact z.elim⟩
section
variable{X:Cx}{K:W.Frag}
def zdI:∀{xs:List V} {us:List Value},xs.length=us.length->(∀(j:Nat) (v:Value),us[j]?=some v->∃x,xs[j]?=some x/\RelV x v)->Vals xs us
 | [],[],_,_=>.nil
 | x::xs,u::us,hl,h=>by
  obtain⟨x',e,r⟩:=h 0 u O
  cases e
  exact .cons r (zdI (by simpa using hl) λj v hv=>h (j+1) v (by simpa using hv))
 | [],_::_,hl,_=>by simp at hl
 | _::_,[],hl,_=>by simp at hl
def zfY:zbL X (.type "range") (λxs H Q=>∃n:Nat,xs=[.int (n:Int)]/\∀p,H p=none->Q (.ref p) (upd H p (.rng 0 (n:Int)))):=by
 intro pins s U H xs us Q I r h
 obtain⟨n,rfl,q⟩:=h
 obtain⟨u,rfl,t,rfl⟩:=zbW r
 refine call_range_1 {.ref _,_,I.laid (t':=s.toks+1+1) (o:=.rng 0 (n:Int)) (λb ob q=>Xab _ q) (Xad _) ?_,O,q _ (I.hok.fresh (Xad _))}
 exact{_,_,_,Xag _ O}
def zh1(hc:X.calm=true):zbL X (.type "list") (λxs H Q=>∃(p:Addr) (n:Nat),xs=[.ref p]/\H p=some (.rng 0 (n:Int))/\n<=1000/\∀l,H l=none->Q (.ref l) (upd H l (.lst ((List.range n).map λ(b:Nat)=>V.int (b:Int))))):=by
 intro pins s U H xs us Q I r h
 obtain⟨p,n,rfl,e,hn,q⟩:=h
 obtain⟨u,rfl,r1⟩:=zbW r
 obtain rfl:u=Value.ref p:=r1
 obtain⟨t,u,v,g⟩:=(show ObjOk X.prog X.w H s.heap p (.rng 0 (n:Int)) from I.hok p _ e)
 have rs:Builtin.Range.rangeSize 0 (n:Int) 1=(n:Int):=by unfold Builtin.Range.rangeSize;simp;omega
 have fits:∀k:Int,0<=k->k<=1000->Builtin.Range.rangeFitsLong k=true:=λk h1 h2=>by unfold Builtin.Range.rangeFitsLong;simp;omega
 refine call_list_range (n:=n) (I.ok.hd hc) g ?_ ?_ (Xak hn (by decide)) λh' tk acc c kp gl it=>?_
 .unfold Builtin.Range.small;simp[rs,fits 0 (by omega) (by omega),fits 1 (by omega) (by omega),fits (n:Int) (by omega) (by omega)]
 .exact rs
 refine{.ref _,_,I.laid (t':=tk) (o:=.lst ((List.range n).map λ(b:Nat)=>V.int (b:Int))) kp (Xad _) ?_,O,q _ (I.hok.fresh (Xad _))}
 refine{?_,acc.toList,c,?_,by simpa using gl}
 .rw[Xaf,Xa2];exact Xak hn (by decide)
 .refine zdI ?_ λj v hv=>?_
  .rw[Xaf,Xa2,Array.length_toList];exact it.1.symm
  .have hj:j<n:=by rw[<- it.1];simpa using(Xas.mp hv).1
   obtain⟨t,e⟩:=it.2 j v (by simpa using hv)
   refine{V.int (j:Int),by simp[hj],t,?_}
   rw[e]
   congr 1
   omega
def za1{x:Str}{a:Addr}{pos:Pos}(hg:Gl X x)(h:X.mg x=some (.ref a))(hd:(x==("__debug__" : Str))=false:=by decide):PE X (.Name x pos) (tC (.ref a)):=zeU hg h O hd
def zhy(hK:X.K=K):OpR X (compareOp .In) (rIn K false):=by subst hK;exact zi2
def zeP:RelV (.ty "ValueError") (.type "ValueError"):=rfl
def ze7:bootBuiltins "ValueError"=some (.type "ValueError"):=by decide +kernel
end
end L2
end
section
namespace L2
open PySem PySem.Spec PyProof.Rows HT
def zjY{P:Program}{w:World}{K:W.Frag}{mg:Str->Option Value}{base:Heap}{N:List Str}{qual:Str}{scope:Scope}{f:Addr}{cd:Value}{A:Around}{outer:List Env}{s:Shared}{H:Hp}{E:XK} :
  Passes (CX1 P w) (cxOf (CX1 P w) P w K mg base N qual scope f cd A outer s H E) E:=by
 intro pins U H1 s1 ev s' I hq
 obtain⟨ea,T,H',C,od,rfl,os,bare,un,hok,xa,f1,f2,n1,n2,hE⟩:=hq
 have J:Inv (cxOf (CX1 P w) P w K mg base N qual scope f cd A outer s H E) pins U H' s':=I.call' (ch:=[]) os un hok bare (λb z=>absurd z (by simp))
 have b1:=J.base
 have o1:=I.none_ours f1 (show ea∉([]:List Addr) by simp)
 have o2:=I.none_ours f2 (show T∉([]:List Addr) by simp)
 show wpAny _ _ (leaving _ (.ref ea)) _ _ s'
 unfold leaving
 refine Xaa (zdH J.ok.frames J.stack (L:=s.heap.objs.size) O xa λh1 T2 fT2 sl x2=>zdC x2 λh2 sl2 x3=>?_)
 have oT:s.heap.get? T2=none:=(J.none_ours fT2 (show T2∉([]:List Addr) by simp)).1
 have o1':s.heap.get? ea=none:=o1.1
 have o2':s.heap.get? T=none:=o2.1
 have nT2:∀b o,s.heap.get? b=some o->b∉[T2]:=λb o q z=>by rw[Xae.mp z,oT] at q;cases q
 have ne:∀b o,s.heap.get? b=some o->b∉[ea,T]:=λb o q z=>by
  rcases Xan.mp z with r|r
  .rw[r,o1'] at q;cases q
  .rw[Xae.mp r,o2'] at q;cases q
 have nL:∀b o,s.heap.get? b=some o->b∉frs outer->b∉((envOfC qual scope s.heap.objs.size f cd)::outer).filterMap (·.frame):=λb o q hb z=>by
  rcases Xan.mp (show b∈s.heap.objs.size::outer.filterMap (·.frame) from z) with r|r
  .exact absurd r (Xay (Xai q))
  .exact hb r
 have J1:HOk P w H' h1:=J.hok.slid sl (λb hb=>J.stkFree b hb) λb hb=>by
  rcases Xan.mp hb with rfl|hb
  .exact n1
  .rw[Xae.mp hb];exact n2
 have n3:H' T2=none:=J.hok.none_of fT2
 refine{ea,T2,H',C,od,O,J.os,J.bare,{λb o q n hb _=>?_,λb o q n hb _=>?_,λb o q n _=>b1.free b o q n (by show b∉([]:List Addr);simp),λb o q _=>?_,b1.tups,b1.frzs,b1.tbls},?_,x3,o1',oT,n1,n3,hE}
 .have q1:=(sl b o (b1.keep b o q n hb (by show b∉([]:List Addr);simp)) (ne b o q)).1 (nL b o q hb)
  exact(sl2 b o q1 (nT2 b o q)).1 (by simp)
 .obtain⟨t1,e1⟩:=b1.slot b o q n hb (by show b∉([]:List Addr);simp)
  obtain⟨t2,e2⟩:=(sl b _ e1 (ne b o q)).2
  exact(sl2 b _ e2 (nT2 b o q)).2.elim λt3 e3=>⟨t3,e3⟩
 .obtain⟨o',e1⟩:=b1.there b o q (by show b∉([]:List Addr);simp)
  obtain⟨t2,e2⟩:=(sl b _ e1 (ne b o q)).2
  obtain⟨t3,e3⟩:=(sl2 b _ e2 (nT2 b o q)).2
  exact{_,e3}
 .exact J1.slid sl2 (λb hb=>nomatch hb) λb hb=>by rw[Xae.mp hb];exact n3
section
variable{P:Program}{w:World}{K:W.Frag}{mg:Str->Option Value}{base:Heap}{N:List Str}{qual:Str}{scope:Scope}{f:Addr}{cd:Value}{A:Around}{outer:List Env}{s:Shared}{H:Hp}{E:XK}
variable{k:Nat}{ps:List Str}{sp:Sp}{x:Str}{p pos:Pos}{e:Expr}{es:List Expr}{t:TA}
end
end L2
end
section
namespace L2
open PySem PySem.Spec PyProof.Rows HT
section
variable{X:Cx}{k:Nat}{ps:List Str}{sp:Sp}{x fn cn n y:Str}{i j l:Nat}{Cb:Addr}{e:Expr}{es:List Expr}{t:TA}{px p1 p2 p3 p4 p5 p6 p7 p8 p9:Pos}
end
end L2
end
section
namespace L2
open PySem PySem.Spec PyProof.Rows HT
def zfR{prog:Program}{w:World}{A:Around}(hh:A.handled=none)(it l:Addr)(hne:l≠it)(items:Array Value) :
  Draws prog w A it [it,l] items.size (λi v=>items[i]?=some v) (λi h=>IsIt true h it l i/\IsSq true h l items) where
 live:=λ_ _ st=>let⟨o,ho,_⟩:=st.1;⟨o,ho⟩
 frame:=λ_ _ _ st hk=>{st.1.at λo e=>hk it (by simp) o e,st.2.at λo e=>hk l (by simp) o e}
 item:=λi s Q E hi st hQ=>by
  refine zd7 st.1 st.2 (x:=items[i]) (by simp[hi]) λh' hit' hs'=>?_
  exact hQ _ h' s.toks (by simp[hi]) {hit',st.2.at λo e=>hs'.extBut l o hne e} hs'
 done:=λs Q E st hE=>zll hh st.1 st.2 (by simp) hE
set_option tactic.hygienic true in
def zcd(l:Addr)(items:Array Value)(n:Nat)(dct:Option Addr)(sl:Array (Option Value)) :
  Meets (Builtin.«enumerate.__new__» {[.type "enumerate",.ref l],[]}) (λ_ R s=>s.heap.get? l=some {cls:=.type "tuple",dict:=dct,data:=.seq items n,slots:=sl} /\
   R (.ok (.ret (.ref (s.heap.push {cls:=.type "tuple_iterator",data:=.fields #[.ref l,.int 0 0]}).objs.size)))
    {s with heap:=(s.heap.push {cls:=.type "tuple_iterator",data:=.fields #[.ref l,.int 0 0]}).push {cls:=.type "enumerate",data:=.fields #[.none,.bool false,.ref s.heap.objs.size,rawInt 0,.none,.none]}}):=
 .of_wp λprog w A R s h=>by
  obtain⟨hp,g,d,tk,os⟩:=s;obtain⟨hl,h⟩:=h
  have hsub:=sub_enumerate
  have hL:Heap.IsTuple (Shared.heap ⟨hp,g,d,tk,os⟩) l items:={_,hl,O,n,O}
  wp_walk using wpAny_loadPart' hl
  refine wpAny_stack_any λst=>Xac ?_
  split
  .rename_i c _ _ _ _ _
   cases(c==Value.type "enumerate")
   .wp_walk using wpAny_loadPart' hl,XbE hL
    exact{_,O,h}
   .wp_walk using wpAny_loadPart' hl,XbE hL
    exact{_,O,h}
  .wp_walk using wpAny_loadPart' hl,XbE hL
   exact{_,O,h}
def zcS{prog:Program}{w:World}{A:Around}{E:Value->Shared->Prop}{s:Shared}{l:Addr}{items:Array Value}{Q:Value->Shared->Prop}(hL:IsSq true s.heap l items)
  (h:∀h',IsEnum h' (s.heap.objs.size+1) s.heap.objs.size 0 .none->IsIt true h' s.heap.objs.size l 0->h'.objs.size=s.heap.objs.size+2 ->
   (∀b o,s.heap.get? b=some o->h'.get? b=some o)->Q (.ref (s.heap.objs.size+1)) {s with heap:=h'}) :
  wpAny (model prog w) A (call (.type "enumerate") [.ref l]) Q E s:=by
 obtain⟨⟨c,dct,dt,sl⟩,hl,hc,n,hd⟩:=hL
 replace hc:c=.type "tuple" := hc
 replace hd:dt=.seq items n:=hd
 subst hc hd
 refine callType_new F.called_enumerate (by decide) (F.typeCall_enumerate_1 _) (F.newCall_enumerate_1 _) (λobj=>F.args_object_init_2 obj _) F.entry_enumerate_new
  (zcd l items n dct sl) {hl,?_}
 have hz:(s.heap.push {cls:=.type "tuple_iterator",data:=.fields #[.ref l,.int 0 0]}).objs.size=s.heap.objs.size+1:=XaC ..
 show _/\_
 rw[hz]
 have he:IsEnum ((s.heap.push {cls:=.type "tuple_iterator",data:=.fields #[.ref l,.int 0 0]}).push
   {cls:=.type "enumerate",data:=.fields #[.none,.bool false,.ref s.heap.objs.size,rawInt 0,.none,.none]}) (s.heap.objs.size+1) s.heap.objs.size 0 .none:=by
  have:=Xag (s.heap.push {cls:=.type "tuple_iterator",data:=.fields #[.ref l,.int 0 0]})
   (o:={cls:=.type "enumerate",data:=.fields #[.none,.bool false,.ref s.heap.objs.size,rawInt 0,.none,.none]}) O
  rw[hz] at this;exact this
 refine{{_,he,O},h _ he {_,Xab _ (Xag _ O),O,O} (by rw[XaC,hz]) λb o x=>Xab _ (Xab _ x)}
def IteT(K:W.Frag)(a:Addr):It:=
 ⟨λi H=>∃xs x,SqT K H a xs/\xs[i]?=some x,
  λi H v H'=>∃T x,H T=none/\v=.ref T/\H'=upd H T (.tup [.int i,x])/\∀xs,SqT K H a xs->xs[i]?=some x,
  λi H=>∃xs,SqT K H a xs/\xs.length=i⟩
def zhp{P:Program}{w:World}{K:W.Frag}{elts:List Expr}{kt:Nat}{tp:Pos}(a e it:Addr)(hne:e≠it) :
  Turn P w K (.Tuple elts kt tp) (IteT K a) [e,it] e (λi h=>(∃old,IsEnum h e it i old)/\IsIt true h it a i) where
 mem:=by simp
 obj:=λi h st b hb=>by
  obtain⟨⟨old,he⟩,hi⟩:=st
  rcases Xan.mp hb with z|z
  .subst z
   exact⟨_,he,λv z=>by
    have z':Data.fields _=Data.cell v:=z
    cases z'⟩
  .have z:=Xae.mp z
   subst z
   obtain⟨o,e1,c,d⟩:=hi
   exact{o,e1,λv z=>by rw[d] at z;cases z}
 keep:=λi h h' st k=>by
  obtain⟨⟨old,he⟩,hi⟩:=st
  exact{{old,k e (by simp) _ he},hi.at λo e1=>k it (by simp) o e1}
 item:=by
  intro X hP hw hK hc i pins s U H E I hf st hg
  subst hP hw hK
  obtain⟨xs,x,hq,hx⟩:=hg
  obtain⟨its,rv,p,hz⟩:=I.tuple hq
  obtain⟨u,hu,ru⟩:=rv.get hx
  obtain⟨⟨old,he⟩,hi⟩:=st
  have hsq:IsSq true s.heap a its.toArray:=p
  have cls:∀b o,s.heap.get? b=some o->o.cls≠.type "tuple" -> a≠b:=λb o e nc z=>by
   obtain⟨oa,ea,ca,_⟩:=hsq
   rw[z,e] at ea;cases ea;exact nc ca
  have hai:a≠it:=by
   obtain⟨o,e1,c,_⟩:=id hi
   exact cls it o e1 (by rw[c];decide)
  have hae:a≠e:=cls e _ he (by show Value.type "enumerate" ≠ Value.type "tuple"; decide)
  have hlt:i<its.toArray.size:=by
   have:=(Xas.mp hu).1
   simpa using this
  refine wpAny_pyNext_enum_itemD (zfR (prog:=X.prog) (w:=X.w) (A:=X.A.in1) (show X.A.in1.handled=none from I.ok.hd hc) it a hai its.toArray) he ⟨hi,hsq⟩ hlt hne (by simp[hne,Ne.symm hae]) λx' h' tk hx' ho st' ht hsz kk=>{_,O,?_}
  have ex:x'=u:=by
   have e1:its[i]?=some x':=by simpa using hx'
   rw[hu] at e1;cases e1;rfl
  subst ex
  refine wpAny_letOwnedTupleGo_enum ho λh2 he2 sb=>?_
  have fT:FpOk X pins H s.heap.objs.size:=I.fpOk (Xad _) (I.hok.fresh (Xad _))
  have k2:∀b o,b∉[e,it]->s.heap.get? b=some o->h2.get? b=some o:=λb o hb e1=>by
   simp only[Xan,XaV,or_false,not_or] at hb
   exact(sb.2 b hb.1).trans (kk b o hb.1 hb.2 e1)
  have I1:Inv X pins U H {s with heap:=h2,toks:=tk+1}:=I.turnedL (ch:=[e,it]) k2 hf
  have eT:h2.get? s.heap.objs.size=some {cls:=.type "tuple",data:=.seq #[.int i tk,x']}:=(sb.2 _ (Xbe (Xai he))).trans ht
  have I2:=I1.track (o:=.tup [.int i,x]) fT (Xak I.sz (Xad _)) (zeE {_,O} ru eT)
  refine{.ref s.heap.objs.size,_,I2,O,{_,x,fT.1,O,O,λys hy=>by rw[I.tuple_inj hy hq];exact hx},{{x',by exact_mod_cast he2},st'.1.at λo e1=>sb.extBut it o (Ne.symm hne) e1},λb hb=>?_}
  obtain⟨o,eb⟩:∃o,s.heap.get? b=some o:=by
   rcases Xan.mp hb with z|z
   .subst z;exact{_,he}
   .have z:=Xae.mp z
    subst z
    obtain⟨o,e1,_⟩:=hi
    exact⟨o,e1⟩
  rw[zah (Xay (Xai eb))]
  exact(hf b hb).1
 done:=by
  intro X hP hw hK hc i pins s U H E I hf st hg
  subst hP hw hK
  obtain⟨xs,hq,hx⟩:=hg
  obtain⟨its,rv,p,hz⟩:=I.tuple hq
  obtain⟨⟨old,he⟩,hi⟩:=st
  have hl:=rv.length
  have hsq:IsSq true s.heap a its.toArray:=p
  have hai:a≠it:=λz=>by
   obtain⟨oa,ea,ca,_⟩:=id hsq
   obtain⟨o,e1,c,_⟩:=id hi
   rw[z,e1] at ea;cases ea
   rw[c] at ca;exact absurd ca (by decide)
  have en:its.toArray.size=i:=by rw[Xaq];omega
  refine wpAny_pyNext_enum_endD (zfR (prog:=X.prog) (w:=X.w) (A:=X.A.in1) (show X.A.in1.handled=none from I.ok.hd hc) it a hai its.toArray) he (by rw[en];exact⟨hi,hsq⟩) λh' eb=>{O,I.turnedL (t':=s.toks) (ch:=[e,it]) (λb o hb e1=>eb b o (λz=>hb (by simp[z])) e1) hf}
 self:=λ_ _ _ _ _ st h=>by
  obtain⟨⟨old,he⟩,hi⟩:=st
  exact wpAny_pyIter_enum he h
inductive iEnumT_1(K:W.Frag)(R:It->Hp->Prop)(vs:List V)(H1:Hp):Prop
 | mk a(_:vs=[.ref a])(_:(∃xs,SqT K H1 a xs))(_:R (IteT K a) H1)
def iEnumT(K:W.Frag)(ta:TA):TI:=λU H R=>ta U H (iEnumT_1 K R)
def zeS{X:Cx}{a:Expr}{ta:TA}{p pos:Pos}{elts:List Expr}{kt:Nat}{tp:Pos}(hg:Gl X "enumerate")(hm:X.mg "enumerate"=none)(ha:PA X [a] ta)(hs:starEach [a] X.env=[(false,eval a X.env)]:=by rfl) :
  PI X (.Tuple elts kt tp) (.Call (.Name "enumerate" p) [a] [] pos) (iEnumT X.K ta):=by
 intro pins s U H R I h
 refine Call_ (zcP I hg hm boot_enumerate (PyProof.Rows.callWith_type1 (thn (ha pos pins s U H _ I h) λus s1 hh_=>?_) hs O))
 obtain⟨vs,H1,I1,r1,q1⟩:=hh_
 obtain⟨l,e,⟨xs,hq⟩,q⟩:=q1
 subst e
 obtain⟨u,rfl,ru⟩:=zbW r1
 cases ru
 obtain⟨its,rv,pl,hz⟩:=I1.tuple hq
 refine zcS (items:=its.toArray) pl λh' he hi hsz kk=>?_
 refine wpAny_pyIter_enum he ?_
 have I2:Inv X pins U H1 {s1 with heap:=h',toks:=s1.toks}:=I1.kept kk
 refine{s1.heap.objs.size+1,[s1.heap.objs.size+1,s1.heap.objs.size],_,_,H1,O,I2,zhp l _ _ (Nat.succ_ne_self _),{{_,he},hi},λb hb=>?_,q}
 rcases Xan.mp hb with z|z
 .subst z;exact I1.fpOk (Xbv _) (I1.hok.fresh (Xbv _))
 .have z:=Xae.mp z
  subst z;exact I1.fpOk (Xad _) (I1.hok.fresh (Xad _))
def zed{K:PySem.W.Frag}{a:Addr}{xs:List V}{g:TG}{tb:TS}{D:Ends}{U:St}{H:Hp}(Pv:Nat->St->Hp->Prop)(h0:Pv 0 U H)(hl:∀i U H,i<=xs.length->Pv i U H->SqT K H a xs)
  (hs:∀i x T U H,xs[i]?=some x->H T=none->Pv i U H->g (.ref T) U (upd H T (.tup [.int i,x])) λU2 H2=>tb {D with nx:=Pv (i+1),ct:=Pv (i+1),bk:=D.nx} U2 H2) (hd:∀U H,Pv xs.length U H->D.nx U H) :
  ∃W:Nat->Nat->St->Hp->Prop,(∃m,W 0 m U H)/\∀i m U H,W i m U H ->
   ((IteT K a).stop i H/\D.nx U H)\/((IteT K a).go i H/\∃N:St->Hp->Prop,(∀U' H',N U' H'->∃m',m'<m/\W (i+1) m' U' H')/\∀x H',(IteT K a).yld i H x H'->g x U H' λU2 H2=>tb {D with nx:=N,ct:=N,bk:=D.nx} U2 H2):=by
 refine{λi m U H=>m=xs.length-i/\i<=xs.length/\Pv i U H,{xs.length,by simp,Nat.zero_le _,h0},?_}
 rintro i m U H ⟨rfl,hi,p⟩
 have q:=hl i U H hi p
 by_cases hlt:i<xs.length
 .refine .inr {{xs,xs[i],q,by simp[hlt]},Pv (i+1),λU' H' p'=>{xs.length-(i+1),by omega,O,hlt,p'},λv H' y=>?_}
  obtain⟨T,x,hT,rfl,rfl,y⟩:=y
  exact hs i x T U _ (y xs q) hT p
 .have e:i=xs.length:=by omega
  subst e
  exact .inl {⟨xs,q,O⟩,hd U H p}
end L2
end
section
namespace L2
open PySem PySem.Spec PyProof.Rows HT
section
variable{prog:Program}{w:World}{A:Around}{E:Value->Shared->Prop}{s:Shared}
def ziw{r:Addr}{Q:Value->Shared->Prop}(h:wpAny (model prog w) A.in1 (collect (.ref r)) (λvs s1=>vs.length<=sizeLine/\wpAny (model prog w) A.in1.in1 (Builtin.«list.sort» {[.ref s1.heap.objs.size],[]})
   (λfin s2=>fin=.done (.ret .none)/\Q (.ref s1.heap.objs.size) s2) E {s1 with heap:=s1.heap.push (seqObj "list" vs.toArray 0)}) E s) :
  wpAny (model prog w) A (call (.builtin "sorted") [.ref r]) Q E s:=by
 refine Calls.call_function_entry kind_sorted plain_sorted entry_sorted (args_sorted1 _) ?_
 unfold Builtin.«sorted»
 refine Xaa (m:=checkCount "sorted" 1 1 _) (Xac ?_)
 refine Xaa (Xav h (λvs s1 ⟨hz,h⟩=>?_) λ_ _ e=>e)
 refine Xaa (wpAny_newList ?_ hz)
 refine Xaa (XaE (XaQ slot_list_sort {_,Xag _ O,O} entry_list_sort (Xav h (λfin s2 ⟨e,q⟩=>?_) λ_ _ e=>e) (args_list_sort _)))
 subst e
 exact{_,O,Xac {_,O,q}}
end
section
variable{X:Cx}
end
end L2
end
section
namespace L2
open PySem PySem.Spec PyProof.Rows HT
section
variable{prog:Program}{w:World}{A:Around}{E:Value->Shared->Prop}{s:Shared}
end
end L2
end
section
set_option autoImplicit false
namespace L2
open PySem PySem.Spec PyProof.Rows HT Cb
section
variable{prog:Program}{w:World}{A:Around}{E:Value->Shared->Prop}{s:Shared}
end
section
variable{X:Cx}
end
end L2
end
section
set_option autoImplicit false
namespace L2
open PySem PySem.Spec PyProof.Rows HT Cb
section
variable{prog:Program}{w:World}{A:Around}{E:Value->Shared->Prop}
end
section
variable{X:Cx}
end
section
variable{prog:Program}{w:World}{A:Around}{E:Value->Shared->Prop}{s:Shared}
end
end L2
end
section
namespace L2
open PySem PySem.Spec PyProof.Rows PySem.SeqAt
section
variable{X:Cx}{tg:Expr}
end
end L2
end
section
namespace L2
open PySem PySem.Spec PyProof.Rows PySem.SeqAt
section
variable{X:Cx}{K:W.Frag}
inductive rInsert(x:V)(vs:List V)(H:Hp)(Q:VK):Prop
 | mk (l:Addr) (xs:List V) (k:Nat) (y:V)(_:x=.ref l)(_:vs=[.int (k:Int),y])(_:H l=some (.lst xs))(_:k<=xs.length)(_:xs.length<sizeLine)(_:Q .non (upd H l (.lst (xs.take k++y::xs.drop k))))
def zih{vs:List V}{us:List Value}(r:Vals vs us):∀n,Vals (vs.take n) (us.take n):=by
 induction r with
 | nil=>intro n;simp;exact .nil
 | cons h t ih =>
  intro n
  cases n with
  | zero=>exact .nil
  | succ n=>exact .cons h (ih n)
def zii{vs:List V}{us:List Value}(r:Vals vs us):∀n,Vals (vs.drop n) (us.drop n):=by
 induction r with
 | nil=>intro n;simp;exact .nil
 | cons h t ih =>
  intro n
  cases n with
  | zero=>exact .cons h t
  | succ n=>exact ih n
def zjf:MtM X "list.insert" rInsert:=by
 intro pins s U H x vs v us Q I rx rv h
 obtain⟨l,xs,k,y,rfl,rfl,hH,hk,hz,q⟩:=h
 cases rx
 obtain⟨v1,u,rfl,ri,ry⟩:=rv.two
 obtain⟨t,rfl⟩:=ri
 obtain⟨z,its,n,r,hl,e⟩:=I.lstM hH
 have hs:(sizeLine:Nat)<=2 ^ 60:=by decide
 have fits:¬ (!Builtin.List.listFitsIndex (k:Int))=true:=by
  rw[fitsIndex_both (k:=(k:Int)) (by omega) (by omega)];exact Xaj
 have hsz:its.toArray.size<=sizeLine:=by rw[Xaq];omega
 obtain⟨S,hS⟩:∃S,S=(λ(A:Around) (R:Result->Shared->Prop) (s:Shared)=>s.heap.get? l=some {cls:=Value.type "list",data:=Data.seq its.toArray n} /\
     R (Except.ok (Flow.ret Value.none))
      {heap:=s.heap.update l (Obj.mapSeq λxs=>(xs.extract 0 (if(k:Int)<0 then((k:Int)+(xs.size:Int)).toNat else min (k:Int).toNat xs.size)).push u++xs.extract (if(k:Int)<0 then((k:Int)+(xs.size:Int)).toNat else min (k:Int).toNat xs.size)),gens:=s.gens,drawn:=s.drawn,toks:=s.toks,os:=s.os}):={_,O}
 have M:Meets (Builtin.«list.insert» {pos:=[Value.ref l,Value.int (k:Int) t,u]}) S:=by
  rw[hS]
  exact@AutoSeq1.list_insert_list_int_val_1 l its.toArray n (k:Int) t u fits hsz
 refine call_meets F.slot_list_insert {_,e,O} F.entry_list_insert (F.args_list_insert_3 _ _ _) @M ?_
 rw[hS]
 refine{e,?_}
 refine{.non,_,I.lset (its':=its.take k++u::its.drop k) hH e ?_ ((zih r k).append (.cons ry (zii r k))) ?_,O,q}
 .have hk2:k<=its.length:=by omega
  show((its.toArray.extract 0 (if(k:Int)<0 then((k:Int)+(its.toArray.size:Int)).toNat else min (k:Int).toNat its.toArray.size)).push u++its.toArray.extract (if(k:Int)<0 then((k:Int)+(its.toArray.size:Int)).toNat else min (k:Int).toNat its.toArray.size))=(its.take k++u::its.drop k).toArray
  rw[if_neg (by omega),Xaq,Xap,Nat.min_eq_left hk2]
  apply Array.toList_inj.mp
  simp only[Array.toList_append,Array.toList_push,List.extract_toArray,List.extract_eq_drop_take,List.drop_zero,Nat.sub_zero,List.append_assoc,List.singleton_append,Xaq]
  rw[Xbk (l:=its.drop k) (by rw[Xbu];exact Xad _)]
 .rw[Xah,Xar,XaZ,Xbu];omega
inductive rEqL0(K:W.Frag)(x:V)(y:V)(H:Hp)(Q:VK):Prop
 | mk a b xs(_:x=.ref a)(_:y=.ref b)(_:SqL K H a xs)(_:SqL K H b [])(_:Q (.bl xs.isEmpty) H)
def zmc(hu:X.A.units<cLine)(hK:X.K=K):OpR X (compareOp .Eq) (rEqL0 K):=by
 subst hK
 rintro pins s U H x y v u Q I rx ry ⟨a,b,xs,rfl,rfl,ha,hb,q⟩
 cases rx;cases ry
 obtain⟨its,r1,p1,_⟩:=I.list ha
 obtain⟨its2,r2,p2,_⟩:=I.list hb
 obtain rfl:=r2.nil_iff.mpr O
 have e:its.toArray.size=xs.length:=by rw[Xaq];exact r1.length.symm
 cases xs with
 | nil =>
  refine RcAt.lists (e:=λ_=>true) p1.isList p2.isList (by rw[e];rfl) hu (λj h1 h2=>absurd h2 (by simp)) _ _ _ _ {.bl true,H,I,?_,q}
  rw[e];rfl
 | cons z zs=>exact RcAt.lists_lengths p1.isList p2.isList (by rw[e];simp) hu _ _ _ _ {.bl false,H,I,O,q}
end
end L2
end
section
namespace L2
open PySem PySem.Spec PyProof.Rows PySem.SeqAt
section
variable{X:Cx}
end
end L2
end
section
namespace L2
open PySem PySem.Spec PyProof.Rows PySem.SeqAt
end L2
end
section
namespace L2
open PySem PySem.Spec PyProof.Rows PySem.SeqAt
section
variable{X:Cx}{K:W.Frag}
end
section
variable{X:Cx}{Nc:List Str}{src:List (Option Nat)}{scope:Scope}{elt tg iter:Expr}{ifs:List Expr}{pos:Pos}{wi:TI}{g:TG}{tf:TT}{te:TE}
end
section
variable{X:Cx}{K:W.Frag}{tg l:Expr}{tl:TE}
end
end L2
end
section
namespace L2
open PySem PySem.Spec PyProof.Rows HT
section
variable{X:Cx}{o e:Expr}{es:List Expr}{to:TE}{t:TA}{T:String}{id:String}{name:Str}{apos cpos:Pos}{r:V->List V->Hp->VK->Prop}
end
end L2
end
section
namespace L2
open PySem PySem.Spec PyProof.Rows HT
def zmF(CX:CXT)(X:Cx)(E:St->XK):Prop:=∀(pins:List (Addr×Obj)) (U:St) (H:Hp) (s:Shared) (e:Value) (s':Shared),Inv X pins U H s->CX X.stack H s (E U) e s'->X.xe e s'
def Passes.s{CX:CXT}{X:Cx}{E:XK}(h:Passes CX X E):zmF CX X λ_=>E:=λpins U H s e s'=>h pins U H s e s'
def tCallS(sp:Sp)(E:St->XK)(t:TA):TE:=λU H Q=>t U H λvs H1=>sp (vs++[]) H1 Q (E U)
section
variable{X:Cx}{CX:CXT}{k:Nat}{f C:Addr}{fd:FuncData}{ps ks:List Str}{sp:Sp}{E:St->XK}{x m:Str}{p pos apos:Pos}{e o:Expr}{es:List Expr}{kws:List Keyword}{ta:TE}{t tk:TA}{g:List Value->List Value->List Value}{gV:List V->List V->List V}
def ziX(Cl:CalX X.prog X.w X.K X.mg X.base k x ps sp)(hr:Room k X.A)(hg:Gl X x)(hx:zmF (CX1 X.prog X.w) X E)(ha:PA X (e::es) t)(hdb:(x==("__debug__" : Str))=false:=by decide)
  (he:starEach (e::es) X.env=(false,eval e X.env)::starEach es X.env:=by rfl) (hpl:(backTo pos (starEach es X.env)).any (·.1)=false:=by rfl):PE X (.Call (.Name x p) (e::es) [] pos) (tCallS sp E t):=by
 obtain⟨f,fd,F,hm,hk,hb⟩:=Cl.ex
 intro pins s U H Q I h
 refine Xbf (zbF I hg hm ?_ hdb)
 refine W.callWith_K (h₀:=X.base) I.ok.mod.kin hk (thn (ha pos pins s U H _ I h) λus s1 ⟨vs,H1,I1,r,q⟩=>{I1.kIn,?_}) he hpl
 have r2:Vals (vs++[]) (us++[]):=r.append .nil
 have hl:(us++[]).length=ps.length:=by rw[<- r2.length];exact F.len _ _ _ _ q
 refine Xbr (Xbj (F.run X.A X.stack s1 H1 {us,[]} (us++[]) (vs++[]) Q (E U) hr I1.env0 (hb s1 us I1.kIn hl) r2 q) λr s' hq=>?_)
 cases r with
 | error e=>exact hx pins U H1 s1 e s' I1 hq
 | ok fl =>
  cases fl with
  | ret u=>exact I1.after hq
  | next=>exact False.elim hq
  | brk=>exact False.elim hq
  | cont=>exact False.elim hq
end
section
variable{X:Cx}{k:Nat}{C:Addr}{ks:List Str}{gV:List V->List V->List V}{sp:Sp}{E:St->XK}{x:Str}{p pos:Pos}{e:Expr}{es:List Expr}{kws:List Keyword}{t tk:TA}
end
section
variable{X:Cx}{k:Nat}{C:Addr}{ks:List Str}{E:St->XK}{x m:Str}{p pos apos:Pos}{e o:Expr}{es:List Expr}{kws:List Keyword}{ta:TE}{t tk:TA}
end
abbrev zgQ(X:Cx)(pins:List (Addr×Obj))(b:Addr):Prop:=X.s₀.heap.get? b=none/\b≠X.env.locals/\(∀x c,X.env.cells.lookup x=some c->c≠b)/\∀p∈X.pn++pins,p.1≠b
abbrev Cx.tried(X:Cx)(pins:List (Addr×Obj))(E:St->XK):Cx:={X with pn:=X.pn++pins,xe:=λe s'=>∃U ea T H' C od,e=.ref ea/\Inv X pins U H' s'/\XAt s'.heap ea T (.ref C) .none od/\H' ea=none/\H' T=none/\zgQ X pins ea/\zgQ X pins T/\E U (.ref C) od H'}
section
variable{X:Cx}{pins pins2:List (Addr×Obj)}{U:St}{H:Hp}{s:Shared}{E:St->XK}
def Cx.Ok.tried(ok:X.Ok):(X.tried pins E).Ok:=⟨ok.mod,ok.kind,ok.glob,ok.blt,ok.above,ok.inj,ok.has,ok.cab,ok.hd,ok.frames,ok.stk,ok.exf,ok.bs,ok.bsz,ok.noex,ok.exfs,ok.funs,ok.frf⟩
def Cx.Ok.untried(ok:(X.tried pins E).Ok):X.Ok:=⟨ok.mod,ok.kind,ok.glob,ok.blt,ok.above,ok.inj,ok.has,ok.cab,ok.hd,ok.frames,ok.stk,ok.exf,ok.bs,ok.bsz,ok.noex,ok.exfs,ok.funs,ok.frf⟩
def Inv.tried(I:Inv X pins U H s)(E:St->XK):Inv (X.tried pins E) [] U H s:=⟨I.ok.tried,I.os,I.bare,I.base,I.loc,I.cell,I.free,I.freeC,by
 intro p hp
 rw[XbF] at hp
 exact I.pin p hp,I.hok,I.len⟩
def Inv.untried(I:Inv (X.tried pins E) pins2 U H s):Inv X pins U H s:={I.ok.untried,I.os,I.bare,I.base,I.loc,I.cell,I.free,I.freeC,λp hp=>I.pin p (XaO _ hp),I.hok,I.len}
def SP.untried{D:Ends}{f:Flow}{s':Shared}(h:SP (X.tried pins E) pins2 D f s'):SP X pins D f s':=by
 cases f with
 | next=>obtain⟨U',H',I,q⟩:=h;exact⟨U',H',I.untried,q⟩
 | brk=>obtain⟨U',H',I,q⟩:=h;exact⟨U',H',I.untried,q⟩
 | cont=>obtain⟨U',H',I,q⟩:=h;exact⟨U',H',I.untried,q⟩
 | ret u=>obtain⟨v,U',H',I,r,q⟩:=h;exact⟨v,U',H',I.untried,r,q⟩
def zhw(hex:X.ex=[]):zmF (CX1 X.prog X.w) (X.tried pins E) E:=by
 intro pins2 U H1 s1 ev s' I hq
 obtain⟨ea,T,H',C',od',rfl,os,bare,un,hok,xa,f1,f2,n1,n2,hE⟩:=hq
 have J:Inv (X.tried pins E) pins2 U H' s':=I.call' (ch:=[]) os un hok bare (λb z=>absurd z (by simp))
 have nex:∀b:Addr,b∉(X.tried pins E).ex:=λb z=>by
  have z:b∈X.ex:=z
  rw[hex] at z;cases z
 have o1:=I.untried.none_ours f1 (nex ea)
 have o2:=I.untried.none_ours f2 (nex T)
 exact⟨U,ea,T,H',C',od',O,J.untried,xa,n1,n2,o1,o2,hE⟩
end
def tTry1(K:W.Frag)(tb:(St->XK)->TS)(j:Nat)(Cb:Addr)(th:TS):TS:=λD U H =>
 tb (λU' cls od H2=>W.exmOne K cls (.ref Cb)=some true/\∀ea,H2 ea=none->th {nx:=λU2 H3=>D.nx ((U2.set j (some .non)).set j none) H3,rt:=λ_ _=>False} (U'.set j (some (.ref ea))) (upd H2 ea (.ext (xIs ea cls od)))) D U H
section
variable{X:Cx}{cn n:Str}{j:Nat}{Cb:Addr}{body hbody:List Stmt}{b₀:Stmt}{tb:(St->XK)->TS}{th:TS}{p4 p8 p9:Pos}
def zlU(hb:∀(pins:List (Addr×Obj)) (E:St->XK),PSs (X.tried pins E) body (tb E))(hD:∀ea,PSs (X.marked (.ref ea)).nox (b₀::hbody) th)(hc:X.calm=true)(hN:X.N.Nodup)(hj:X.N[j]?=some n)(kn:X.env.scope.names.lookup n=some .local)
  (hmc:X.mg cn=some (.ref Cb)) (hst:X.stack=X.env::X.outer/\X.env.frame=some X.env.locals) (hex:X.ex=[]) (hgm:∀ea,Gl (X.marked (.ref ea)) cn) (hdc:(cn==("__debug__" : Str))=false:=by decide) :
  PS X (.Try body [.ExceptHandler (some (.Name cn p4)) (some n) (b₀::hbody) p8] [] [] p9) (tTry1 X.K tb j Cb th):=by
 intro pins s U H D I h
 refine wpAny_Try_except (Xav (hb pins _ [] s U H D (I.tried _) h) (λfl s' q=>?_) λe s' q=>?_)
 .have q:=q.untried
  cases fl with
  | next=>exact wpAny_execs_nil q
  | brk=>exact q
  | cont=>exact q
  | ret u=>exact q
 .obtain⟨U',ea,T,H',C',od',rfl,J,xa,n1,n2,o1,o2,hm2,k2⟩:=q
  have fr:X.A.frames=some (X.env::X.outer):=by rw[<- hst.1];exact J.ok.frames
  have fl:s'.heap.FunFrames X.base (X.env::X.outer):=by rw[<- hst.1];exact J.stack
  refine zdH fr fl hst.2 xa λh1 T2 fT2 sl x2=>?_
  have sl':Slid (frs X.stack) [ea,T] s'.heap h1:=by rw[hst.1];exact sl
  have J1:Inv X pins U' H' {s' with heap:=h1}:=J.slid sl' λb hb=>by
   rcases Xan.mp hb with rfl|hb
   .exact⟨n1,o1⟩
   .rw[Xae.mp hb];exact⟨n2,o2⟩
  have n3:H' T2=none:=J.hok.none_of fT2
  have nex:∀b:Addr,b∉X.ex:=λb z=>by rw[hex] at z;cases z
  have o3:=J.none_ours fT2 (nex T2)
  have cT2:∀b∈[T2],H' b=none/\X.s₀.heap.get? b=none/\b≠X.env.locals/\(∀x c,X.env.cells.lookup x=some c->c≠b)/\∀p∈X.pn++pins,p.1≠b:=λb hb=>by rw[Xae.mp hb];exact⟨n3,o3⟩
  refine zdC x2 λh2 sl2 x3=>?_
  have J2:Inv X pins U' H' {s' with heap:=h2}:=J1.slid (sl2.mono (λb z=>nomatch z) λ_ z=>z) cT2
  have ty:W.Looks (model X.prog X.w) h2 (typeOf (.ref ea)) (.ref C'):=by
   obtain⟨oe,vs,oT,ts,g1,⟨g2,_⟩,_⟩:=x3
   rw[<- g2]
   exact(W.Looks.ld g1).andThen .now
  have Jm:=J2.marked (.ref ea)
  refine wpAny_handleBy_cons (codeAny_handlers_test (zbF Jm (hgm ea) hmc ?_ hdc)) (by intro z;cases z)
  refine(W.exm_one Jm.kIn ty hm2).here ?_
  refine codeAny_handlers_suite_as (zdC x3 λh3 sl3 x4=>?_)
  have J3:Inv X pins U' H' {s' with heap:=h3}:=J2.slid (sl3.mono (λb z=>nomatch z) λ_ z=>z) cT2
  have xo:xIs ea (.ref C') od' h3:=by
   obtain⟨oe,vs,oT,ts,g1,g2,g3,_⟩:=x4
   exact⟨oe,vs,g1,g2,g3⟩
  have J4:Inv X pins U' (upd H' ea (.ext (xIs ea (.ref C') od'))) {s' with heap:=h3}:=J3.trackX n1 xo o1
  have k3:=k2 ea n1
  clear k2
  generalize upd H' ea (.ext (xIs ea (.ref C') od'))=H3 at J4 k3
  refine zcA (v:=.ref ea) J4 hN hj (.inl kn) O (λs4 J5=>?_) (.inr kn)
  refine Xav (hD ea pins s4 _ H3 _ ((J5.marked (.ref ea)).wish _) k3) (λfl s5 hq=>?_) λ_ _ z=>False.elim z
  cases fl with
  | ret u=>obtain⟨_,_,_,_,_,z⟩:=hq;exact False.elim z
  | brk=>obtain⟨_,_,_,z⟩:=hq;exact False.elim z
  | cont=>obtain⟨_,_,_,z⟩:=hq;exact False.elim z
  | next =>
   obtain⟨U6,H6,J6,q6⟩:=hq
   have J7:Inv X pins U6 H6 s5:=J6.unwish.unmarked I.ok.hd
   have hjU:j<U6.length:=by rw[J7.len];exact(Xas.mp hj).1
   show wpAny (model X.prog X.w) X.A (do bindName X.env n .none;unbindBehindTheSuite X.env n p8) (λ_ s₃=>SP X pins D .next s₃) X.xe s5
   refine Xaa (wpAny_bindName (zcA (v:=.non) J7 hN hj (.inl kn) O (λs8 J8=>?_) (.inr kn)))
   unfold unbindBehindTheSuite
   refine wpAny_onRaise ?_
   obtain⟨m,hm8,hl8⟩:=id J8.loc
   have hb8:∃v,m n=some v:=by
    obtain⟨u,ru,q⟩:=hl8 j n .non hj (by rw[XbH hjU]) (.inl kn)
    rcases q with⟨_,q⟩|⟨z,_⟩
    .exact{_,q}
    .rcases z with z|z
     .have z:X.env.scope.names.lookup n=some .cell:=z
      rw[kn] at z;cases z
     .have z:X.env.scope.names.lookup n=some .free:=z
      rw[kn] at z;cases z
   obtain⟨vn,hvn8⟩:=hb8
   refine wpAny_unbindName_local kn hm8 hvn8 (by rw[J8.ok.kind];rfl) λh9 u9 hn9 hs9=>?_
   exact{_,H6,J8.unname (t':=s8.toks) hN hj kn hm8 hn9 hs9,q6}
end
end L2
end
section
namespace L2
open PySem PySem.Spec PyProof.Rows HT
abbrev TJ:=St->Hp->(Hp->Prop)->Prop
def PJ(X:Cx)(es:List Expr)(t:TJ):Prop:=∀(out:Str) (pins:List (Addr×Obj)) (s:Shared) (U:St) (H:Hp) (R:Hp->Prop),out.length+2000*es.length<=100000->Inv X pins U H s->t U H R ->
 wpAny (model X.prog X.w) X.A (joinParts out (evalEach es X.env)) (λu s'=>∃(z:Str) (tk:Tok) (H':Hp),u=.str z tk/\Inv X pins U H' s'/\R H') X.xe s
def jNil:TJ:=λ_ H R=>R H
inductive jStr_1(t:TJ)(U:St)(R:Hp->Prop)(x:V)(H1:Hp):Prop
 | mk (a:Str)(_:x=.str a)(_:a.length<=1000)(_:t U H1 R)
def jStr(ta:TE)(t:TJ):TJ:=λU H R=>ta U H (jStr_1 t U R)
inductive jInt_1(t:TJ)(U:St)(R:Hp->Prop)(x:V)(H1:Hp):Prop
 | mk (i:Int)(_:x=.int i)(_:i.natAbs<2 ^ 1000)(_:t U H1 R)
def jInt(ta:TE)(t:TJ):TJ:=λU H R=>ta U H (jInt_1 t U R)
def tFsN(t:TJ):TE:=λU H Q=>t U H λH1=>∀z:Str,Q (.str z) H1
section
variable{X:Cx}{e v:Expr}{es:List Expr}{pos p2:Pos}{ta:TE}{t:TJ}
def pj_nil:PJ X [] jNil:=λout pins s U H R hl I h=>by
 refine joinParts_nilE (joinParts_nil {out,_,H,O,I.tok _,h} ?_)
 have hz:(100000:Nat)<=sizeLine:=by decide
 simp only[XaU] at hl
 omega
def zlf(he:PE X e ta)(hs:PJ X es t):PJ X (e::es) (jStr ta t):=λout pins s U H R hl I h=>by
 refine joinParts_consE (joinParts_cons (thn (he pins s U H _ I h) λu s1 hh_=>?_))
 obtain⟨x,H1,I1,rx,a,ex,la,q⟩:=hh_
 subst ex
 obtain⟨t,rfl⟩:=(show∃t,u=Value.str a t from rx)
 have hz:(100000:Nat)<=sizeLine:=by decide
 simp only[Xar] at hl
 exact{by rw[strLen_append];omega,hs _ pins s1 U H1 R (by rw[strLen_append];omega) I1 q}
def pj_int(hv:PE X v ta)(hs:PJ X es t):PJ X (.FormattedValue v (-1) none p2::es) (jInt ta t):=λout pins s U H R hl I h=>by
 refine joinParts_consE (joinParts_cons (FormattedValue_plain (thn (hv pins s U H _ I h) λu s1 hh_=>?_)))
 obtain⟨x,H1,I1,rx,i,ex,hi,q⟩:=hh_
 subst ex
 obtain⟨t,rfl⟩:=(show∃t,u=Value.int i t from rx)
 have hz:(100000:Nat)<=sizeLine:=by decide
 simp only[Xar] at hl
 have hlog:i.natAbs.log2<1000:=by
  by_cases z:i.natAbs=0
  .rw[z];decide
  .exact(Nat.log2_lt z).mpr hi
 have hlen:(Str.ofString (toString i)).length<=1001:=by
  rw[PySem.ofString_length]
  exact int_text_length_le (by decide) hlog
 refine formatField_int_small (Nat.lt_trans hlog (by decide)) {by rw[strLen_append];omega,?_}
 exact hs _ pins _ U H1 R (by rw[strLen_append];omega) ((I1.tok _).tok _) q
def pj_txt(hv:PE X v ta)(hs:PJ X es t):PJ X (.FormattedValue v (-1) none p2::es) (jStr ta t):=λout pins s U H R hl I h=>by
 refine joinParts_consE (joinParts_cons (FormattedValue_plain (thn (hv pins s U H _ I h) λu s1 hh_=>?_)))
 obtain⟨x,H1,I1,rx,a,ex,la,q⟩:=hh_
 subst ex
 obtain⟨t,rfl⟩:=(show∃t,u=Value.str a t from rx)
 have hz:(100000:Nat)<=sizeLine:=by decide
 simp only[Xar] at hl
 refine formatField_str (λt' tk=>{by rw[strLen_append];omega,?_}) (by omega)
 exact hs _ pins _ U H1 R (by rw[strLen_append];omega) (I1.tok _) q
def pe_fsN(h2:∃a b r,es=a::b::r)(hs:PJ X es t)(hz:es.length<=40:=by decide):PE X (.JoinedStr es pos) (tFsN t):=by
 obtain⟨a,b,r,rfl⟩:=h2
 intro pins s U H Q I h
 refine JoinedStr_many ?_
 refine thn (hs Str.empty pins s U H _ ?_ I h) λu s' ⟨z,tk,H',eu,I',q⟩=>{.str z,H',I',⟨tk,eu⟩,q z}
 have l0:Str.empty.length=0:=rfl
 omega
end
end L2
end
section
namespace L2
open PySem PySem.Spec PyProof.Rows HT
section
variable{prog:Program}{w:World}{A:Around}{E:Value->Shared->Prop}{h:Heap}{g:Array GenState}{d:Drawn}{t:Nat}{os:OsState}
variable{nm q:Str}{C N:Addr}{bs bm:List Value}{hdct:Bool}{sn:List Str}{sub:List Value}{ab:Bool}{col:Option Bool}{dd:Option Addr}{k0 k1 k2 k3 k5:Option Value}{mN:Str->Option Value}{rest:List Value}{fI:Addr}{oI:Obj}
def zga{Q:Fin->Shared->Prop}(T:OwnTail h bmV bm)(hC:h.get? C=some (excClassObj nm q C N bs bm hdct sn sub ab col dd k0 k1 k2 k3 k5 "ValueError.__new__"))(hn:h.Ns N mN)(hi:mN "__init__"=some (.ref fI))
  (hfI:h.get? fI=some oI) (hfc:oI.cls=.type "function") (hrest:rest.length<=sizeLine)
  (hq:∀h' e,Heap.MadeExcOf h h' e (.ref C) rest->wpAny (model prog w) A (call (.ref fI) (.ref e::rest)) (λr s'=>r=.none/\Q (.done (.ret (.ref e))) s') E ⟨h',g,d,t,os⟩) :
  wpAny (model prog w) A (Builtin.«type.__call__» {.ref C::rest,[]}) Q E ⟨h,g,d,t,os⟩:=by
 have F:=PySem.F.excBase_ValueError
 repeat(first|with_reducible refine wpAny_loadPart_at hC ?_|with_reducible refine wpAny_madeBy_exc hC ?_|wp_step)
 refine codeAny_call_builtin_code (Code.quiet_builtin _ F.quiet) (wpAny_check_new_subT F T hC ?_)
 refine codeAny_exc_new_subT F T hC ?_ hrest
 show wpAny _ _ _ _ _ _
 have kp:∀b o,h.get? b=some o->((h.push {cls:=.type "tuple",data:=.seq rest.toArray}).push {cls:=.ref C,data:=.fields #[.ref h.objs.size,.none,.none,.none,.bool false,.none]}).get? b=some o:=
  λb o e=>Xab _ (Xab _ e)
 have hC₁:=kp _ _ hC
 have hf₁:=kp _ _ hfI
 have hn₁:((h.push {cls:=.type "tuple",data:=.seq rest.toArray}).push {cls:=.ref C,data:=.fields #[.ref h.objs.size,.none,.none,.none,.bool false,.none]}).Ns N mN:=
  let⟨o,es,ep,e,r⟩:=hn;{o,es,ep,kp _ _ e,r}
 have hget:((h.push {cls:=.type "tuple",data:=.seq rest.toArray}).push {cls:=.ref C,data:=.fields #[.ref h.objs.size,.none,.none,.none,.bool false,.none]}).get? (h.objs.size+1)=some
   {cls:=.ref C,data:=.fields #[.ref h.objs.size,.none,.none,.none,.bool false,.none]}:=by heap_get
 have hcC:(Value.ref C::bm).contains (.ref C)=true:=by simp
 have T₁:=T.keeps kp
 unfold isInstance
 repeat(first|with_reducible refine wpAny_loadPart_at hget ?_|(with_reducible refine wpAny_isSubtype_exc hC₁ ?_;rw[hcC])|wp_step)
 show wpAny _ _ (typeLookup (.ref C) _) _ _ _
 refine wpAny_typeLookup_tail hC₁ hn₁ T₁ F.mroIs F.init.lookup ?_
 rw[hi]
 refine XaE (Xaa ?_)
 unfold bindSpecial
 refine Xaa (wpAny_typeOf (T := "function") {_,hf₁,hfc} ?_)
 rw[if_pos (by decide)]
 refine Xac (Xaa (Xav (hq _ (h.objs.size+1) {kp,Xbz (Xbv _),h.objs.size,hget,Xbz (Xad _),Xab _ (Heap.get?_push_at O O)}) (λr s' hr=>?_) λ_ _ x=>x))
 obtain⟨rfl,hQ⟩:=hr
 wp_walk
 exact hQ
def zlA{Q:Value->Shared->Prop}(T:OwnTail h bmV bm)(hC:h.get? C=some (excClassObj nm q C N bs bm hdct sn sub ab col dd k0 k1 k2 k3 k5 "ValueError.__new__"))(hn:h.Ns N mN)(hi:mN "__init__"=some (.ref fI))
  (hfI:h.get? fI=some oI) (hfc:oI.cls=.type "function") (hrest:rest.length<=sizeLine)
  (hq:∀h' e,Heap.MadeExcOf h h' e (.ref C) rest->wpAny (model prog w) (A.under (.builtin "type.__call__" {.ref C::rest,[]})) (call (.ref fI) (.ref e::rest)) (λr s'=>r=.none/\Q (.ref e) s') E ⟨h',g,d,t,os⟩) :
  wpAny (model prog w) A (call (.ref C) rest) Q E ⟨h,g,d,t,os⟩:=by
 have f1:=tc_lookup
 have f2:=tc_bind (.ref C)
 have hT:(⟨h,g,d,t,os⟩:Shared).TypeIs (.ref C) "type" := {_,hC,O}
 refine Xbr (codeAny_of_tree ?_)
 show wpAny _ _ (callAny (.ref C) _) _ _ _
 repeat(any_goals (first|assumption|with_reducible refine wpAny_loadPart_at hC ?_|wp_step))
 refine{O,?_}
 exact codeAny_call_builtin_at (Code.quiet_builtin _ (by decide +kernel)) entry_typeCall (wpAny_check_type_call_sub hC (zga T hC hn hi hfI hfc hrest λh' e hm=>hq h' e hm))
end
section
variable{M:Model}{A:Around}{E:Value->Shared->Prop}{s:Shared}{env:Env}
variable{nm q:Str}{C N:Addr}{bs bm:List Value}{hdct:Bool}{sn:List Str}{sub:List Value}{ab:Bool}{col:Option Bool}{dd:Option Addr}{k0 k1 k2 k3 k5:Option Value}
def zjX{x:Sem Value}{Q:Flow->Shared->Prop}(hbase:bm.contains (.type "BaseException")=true)(hh:A.handled=none)
  (h:wpAny M A x (λv s₁=>∃e t od,v=.ref e/\s₁.heap.get? C=some (excClassObj nm q C N bs bm hdct sn sub ab col dd k0 k1 k2 k3 k5 "ValueError.__new__") /\
   s₁.heap.get? e=some {cls:=.ref C,dict:=od,data:=.fields #[.ref t,.none,.none,.none,.bool false,.none]}/\E (.ref e) s₁) E s) :
  wpAny M A (raiseStmt env (some x) none) Q E s:=by
 have hcB:(Value.ref C::bm).contains (.type "BaseException")=true:=by rw[List.contains_cons,hbase,Bool.or_true]
 unfold raiseStmt
 refine Xaa (Xav h (λv s₁ h₁=>?_) λ_ _ x=>x)
 obtain⟨e,t,od,rfl,hC,he,hE⟩:=h₁
 obtain⟨hp,g,d,tk,os⟩:=s₁
 repeat(first|with_reducible refine wpAny_loadPart_at he ?_|with_reducible refine wpAny_loadPart_at hC ?_|(with_reducible refine wpAny_isSubtype_exc hC ?_;rw[hcB])|wp_step)
 exact wpAny_raiseNew_none hh hE
end
section
variable{prog:Program}{w:World}{A:Around}{E:Value->Shared->Prop}{s:Shared}{env:Env}
variable{nm q:Str}{C N:Addr}{bs bm:List Value}{hdct:Bool}{sn:List Str}{sub:List Value}{ab:Bool}{col:Option Bool}{dd:Option Addr}{k0 k1 k2 k3 k5:Option Value}{mN:Str->Option Value}{fI:Addr}{oI:Obj}
def zlz{x:Str}{np cpos pos:Pos}{args:List Expr}{Q:Flow->Shared->Prop}(hbase:bm.contains (.type "BaseException")=true)(hh:A.handled=none)(hplain:(backTo cpos (starEach args env)).any (·.1)=false)(hi:mN "__init__"=some (.ref fI))(hfc:oI.cls=.type "function")
  (h:wpAny (model prog w) A (eval (.Name x np) env) (λf s₁=>f=.ref C/\wpAny (model prog w) A (evalArgs (.ref C) true (backTo cpos (starEach args env)) [])
   (λa s₂=>a.kw=[]/\a.pos.length<=sizeLine/\s₂.heap.get? C=some (excClassObj nm q C N bs bm hdct sn sub ab col dd k0 k1 k2 k3 k5 "ValueError.__new__")/\s₂.heap.Ns N mN/\OwnTail s₂.heap bmV bm/\s₂.heap.get? fI=some oI /\
    ∀h' e,Heap.MadeExcOf s₂.heap h' e (.ref C) a.pos->wpAny (model prog w) (A.under (.builtin "type.__call__" {.ref C::a.pos,[]})) (call (.ref fI) (.ref e::a.pos))
     (λr s'=>r=.none/\∃t od,s'.heap.get? C=some (excClassObj nm q C N bs bm hdct sn sub ab col dd k0 k1 k2 k3 k5 "ValueError.__new__")/\s'.heap.get? e=some {cls:=.ref C,dict:=od,data:=.fields #[.ref t,.none,.none,.none,.bool false,.none]}/\E (.ref e) s') E {s₂ with heap:=h'}) E s₁) E s) :
  wpAny (model prog w) A (exec (.Raise (some (.Call (.Name x np) args [] cpos)) none pos) env) Q E s:=by
 rw[arm_exec_Raise]
 simp only[evalOpt,Option.map]
 refine Xaa (Xa9 (zjX (C:=C) (nm:=nm) (q:=q) (N:=N) (bs:=bs) (bm:=bm) (hdct:=hdct) (sn:=sn) (sub:=sub) (ab:=ab) (col:=col) (dd:=dd) (k0:=k0) (k1:=k1) (k2:=k2) (k3:=k3) (k5:=k5) hbase hh (Xaa (Xav (wpAny_Call_ofName (Xav h (λf s₁ h₁=>?_) λ_ _ x=>x)) (λv s₃ h₃=>Xaa (Xa9 (Xac h₃))) λ_ _ x=>x))))
 obtain⟨rfl,h₁⟩:=h₁
 unfold callWith
 refine Xaa (XaE (Xav h₁ (λa s₂ h₂=>Xaa (Xa9 ?_)) λ_ _ x=>x))
 obtain⟨apos,akw⟩:=a
 obtain⟨hkw,hlen,hC,hn,T,hfI,h₂⟩:=h₂
 obtain rfl:akw=[]:=hkw
 obtain⟨hp,g,d,tk,os⟩:=s₂
 simp only[hplain]
 refine Xaa (wpAny_keeperOf_exc hC ?_)
 refine Xaa (zlA T hC hn hi hfI hfc hlen λh' e hm=>Xav (h₂ h' e hm) (λr s' hr=>?_) λ_ _ x=>x)
 obtain⟨rfl,t,od,hC',he,hE⟩:=hr
 exact{O,Xaa (XaE (wpAny_point (Xac ⟨e,t,od,O,hC',he,hE⟩)))}
end
end L2
end
section
namespace L2
open PySem PySem.Spec PyProof.Rows HT
def zfe:∀l:List (Str×Tok),Vals ((l.map (·.1)).map V.str) (strValues l)
 | []=>.nil
 | p::l=>.cons {_,O} (zfe l)
inductive rSplit(x:V)(vs:List V)(H:Hp)(Q:VK):Prop
 | mk (a b:Str)(_:x=.str a)(_:vs=[.str b])(_:(b.length==0)=false)(_:a.length+2<=sizeLine)(_:∀D,H D=none->Q (.ref D) (upd H D (.lst ((Txt.split a b).map V.str))))
open PySem.Builtin PySem.Builtin.Str in
def zg3{X:Cx}:MtR X "str.split" rSplit:=by
 rintro pins s U H x vs v us Q I rx rv ⟨a,b,rfl,rfl,hy,hz,q⟩
 obtain⟨t,rfl⟩:=(show∃t,v=Value.str a t from rx)
 obtain⟨u1,rfl,ru⟩:=zbW rv
 obtain⟨u,rfl⟩:=(show∃t,u1=Value.str b t from ru)
 have hn:(partsBetween a (occurrences a b 0 a.length (a.length+1)) b.length).length<=sizeLine:=by
  have e1:=StrLaws.occ_length_le a b 0 a.length (a.length+1)
  rw[length_partsBetween];omega
 have fin:∀(l:List (Str×Tok)) (k:Nat),l.map (·.1)=Txt.split a b->l.length<=sizeLine->EP X pins U Q (.ref s.heap.objs.size) {s with heap:=s.heap.push {cls:=.type "list",data:=.seq (strValues l).toArray},toks:=k}:=by
  intro l k e hl
  refine{.ref s.heap.objs.size,_,I.laid (t':=k) (o:=.lst ((Txt.split a b).map V.str)) (λb ob q=>Xab _ q) (Xad _) ?_,O,q _ (I.hok.fresh (Xad _))}
  refine{by rw[<- e,Xaf,Xaf];exact hl,strValues l,0,by rw[<- e];exact zfe l,Xag _ O}
 cases h1:(decide (a.length<b.length) || decide (PySem.Builtin.Str.strKind a<PySem.Builtin.Str.strKind b))
 .cases hf:(occurrences a b 0 a.length (a.length+1)).isEmpty
  .refine call_meets F.slot_str_split (typeIs_str _ _ _) F.entry_str_split (F.args_str_split_2 _ _) (meets_str_split_sep a b t u h1 hy hf (by omega) hn) ?_
   show wants _ _ _ {s with toks:=_,heap:=s.heap.push {cls:=.type "list",data:=.seq (strsFrom s.toks (partsBetween a (occurrences a b 0 a.length (a.length+1)) b.length)).toArray}}
   rw[strsFrom_eq]
   refine fin (numbered s.toks _) _ ((numbered_texts _ _).trans ((if_neg (ne_true_of_eq_false h1)).trans (if_neg (ne_true_of_eq_false hf))).symm) ?_
   have:=congrArg List.length (numbered_texts s.toks (partsBetween a (occurrences a b 0 a.length (a.length+1)) b.length))
   rw[Xaf] at this
   rw[this];exact hn
  .exact call_meets F.slot_str_split (typeIs_str _ _ _) F.entry_str_split (F.args_str_split_2 _ _) (meets_str_split_not_found a b t u h1 hy hf)
    (fin [(a,t)] s.toks ((if_neg (ne_true_of_eq_false h1)).trans (if_pos hf)).symm (show 1<=sizeLine by decide))
 .exact call_meets F.slot_str_split (typeIs_str _ _ _) F.entry_str_split (F.args_str_split_2 _ _) (meets_str_split_cannot_occur a b t u h1)
   (fin [(a,t)] s.toks (if_pos h1).symm (show 1<=sizeLine by decide))
end L2
end
section
namespace L2
open PySem PySem.Spec PyProof.Rows HT PySem.W PySem.Calls PySem.NumText
def zlH(a b:Value):checkTypeCall "int" {[a,b],[]}=pure ():=by kernel_rfl
def zmg(a b:Value):checkBuiltinCall "int.__new__" {[.type "int",a,b],[]}=pure ():=by kernel_rfl
def zmD(a b c:Value):argsOk "object.__init__" {[a,b,c],[]}:=by unfold argsOk;kernel_rfl
def zig{M:Model}{A:Around}{E:Value->Shared->Prop}{s:Shared}{Q:Value->Shared->Prop}{v:Value}{text:List Nat}{n:Int}
  (hs:(text.takeWhile (· != 0)).length<=640) (hr:(int_private% "readNumeral") 0 16 (text.takeWhile (· != 0))=(int_private% "Numeral.value") n)
  (ha:((text.takeWhile (· != 0)).length==text.length)=true) (h:Q (.int n s.toks) {s with toks:=s.toks+1}) :
  wpAny M A ((int_private% "intFromText") v text 16) Q E s:=by
 obtain⟨hp,g,d,tk,os⟩:=s
 repeat(any_goals (first
  | assumption
  | (with_reducible refine wpAny_ite_true (Xal hs) ?_)
  | (with_reducible refine wpAny_ite_true (Xal ha) ?_)
  | wp_step))
 all_goals(try rw[hr])
 all_goals(try dsimp only)
 repeat(any_goals (first
  | assumption
  | (with_reducible refine wpAny_ite_true (Xal hs) ?_)
  | (with_reducible refine wpAny_ite_true (Xal ha) ?_)
  | wp_step))
def zfL{x:PySem.Str}{u t:Tok}{n:Int}(hs:(numSeenOf x).length<=640)(hr:(int_private% "readNumeral") 0 16 (numSeenOf x)=(int_private% "Numeral.value") n)
  (ha:((numSeenOf x).length==(numTextOf x).length)=true):Gives (Builtin.«int.__new__» {[.type "int",.str x u,.int 16 t],[]}) (.int n):=
 .of_wp λM A E s Q h=>by
  obtain⟨hp,g,d,tk,os⟩:=s
  have f1:=F.conv_sub_int
  have f2:=F.madeHere_int
  have f6:typeOf (.str x u)=pure (.type "str"):=rfl
  have hk:=KIN.Hid.mk (And.intro hs (And.intro hr ha))
  clear hs hr ha
  repeat(any_goals (first
   | assumption
   | ((with_reducible show wpAny _ _ ((int_private% "intFromText") _ _ _) _ _ _);refine zig hk.out.1 hk.out.2.1 hk.out.2.2 ?_)
   | wp_step))
  all_goals first|exact{_,O,h}|trace_state
def zh3{prog:Program}{w:World}{A:Around}{E:Value->Shared->Prop}{s:Shared}{Q:Value->Shared->Prop}{x:PySem.Str}{u t:Tok}{n:Int}(hs:(numSeenOf x).length<=640)(hr:(int_private% "readNumeral") 0 16 (numSeenOf x)=(int_private% "Numeral.value") n)
  (ha:((numSeenOf x).length==(numTextOf x).length)=true) (h:Q (.int n s.toks) {s with toks:=s.toks+1}):wpAny (model prog w) A (call (.type "int") [.str x u,.int 16 t]) Q E s:=
 callType_new F.called_int F.newNe_int (zlH _ _) (zmg _ _) (λobj=>zmD obj _ _) F.entry_int_new (zfL hs hr ha).meets (show(Made.int n).post _ s from⟨O,h⟩)
def N16(x:PySem.Str)(n:Int):Prop:=(numSeenOf x).length<=640/\(int_private% "readNumeral") 0 16 (numSeenOf x)=(int_private% "Numeral.value") n/\((numSeenOf x).length==(numTextOf x).length)=true
def zfX{X:Cx}:zbL X (.type "int") (λxs H Q=>∃(x:PySem.Str) (n:Int),xs=[.str x,.int 16]/\N16 x n/\Q (.int n) H):=by
 intro pins s U H xs us Q I r h
 obtain⟨x,n,rfl,⟨h1,h2,h3⟩,q⟩:=h
 obtain⟨v1,v2,rfl,r1,r2⟩:=zff r
 obtain⟨t1,rfl⟩:=(show∃t,v1=Value.str x t from r1)
 obtain⟨t2,rfl⟩:=(show∃t,v2=Value.int 16 t from r2)
 exact zh3 h1 h2 h3 {.int n,H,I.tok _,{_,O},q}
def SIX:PySem.Str := "0123456789abcdef"
end L2
end
section
namespace L2
open PySem PySem.Spec PyProof.Rows HT
def Its(x:PySem.Str):It:={λi _=>i<x.cps.size,λi H v H'=>H'=H/\∃c,x.cps[i]?=some c/\v=.str {#[c]},λi _=>x.cps.size<=i}
def zj0{P:Program}{w:World}{K:W.Frag}{tg:Expr}(it:Addr)(x:PySem.Str)(t:Tok):Turn P w K tg (Its x) [it] it (λi h=>h.IsStrIter it "str_ascii_iterator" x t i) where
 mem:=by simp
 obj:=λi h st b hb=>by
  have e:b=it:=by simpa using hb
  subst e
  obtain⟨o,e,c,d⟩:=st
  exact{o,e,λv z=>by rw[d] at z;cases z}
 keep:=λi h h' st k=>by
  obtain⟨o,e,r⟩:=st
  exact{o,k it (by simp) o e,r}
 item:=by
  intro X hP hw hK hc i pins s U H E I hf st hg
  subst hP hw hK
  obtain⟨f0,f1,f2,f3,f4,f5⟩:=hf it (by simp)
  obtain⟨c0,hx⟩:∃c,x.cps[i]?=some c:={_,XaJ (show i<x.cps.size from hg)}
  refine wpAny_pyNext_ascii_item st hx λh' st' sb=>?_
  have I1:Inv X pins U H {s with heap:=h',toks:=s.toks+1}:=I.turned (λb o hb e=>(sb.2 b hb).trans e) f0 f1 f3 f4 f5
  obtain⟨o,e,c,d⟩:=id st'
  exact{_,O,zkL (s:={s with heap:=h',toks:=s.toks+1}) e c d (by decide) {.str {#[c0]},H,I1,{_,O},{O,_,hx,O},st',λb hb=>(hf b hb).1}}
 done:=by
  intro X hP hw hK hc i pins s U H E I hf st hg
  subst hP hw hK
  obtain⟨f0,f1,f2,f3,f4,f5⟩:=hf it (by simp)
  exact wpAny_pyNext_ascii_end (I.ok.hd hc) st (by simp;exact hg) λh' eb=>{O,I.turned (t':=s.toks) (λb o hb e=>eb b o hb e) f0 f1 f3 f4 f5}
 self:=λ_ _ _ _ _ st h=>wpAny_pyIter_striter_ascii st h
inductive iStr_1(R:It->Hp->Prop)(v:V)(H1:Hp):Prop
 | mk (x:PySem.Str)(_:v=.str x)(_:x.cps.all (· < 128)=true)(_:R (Its x) H1)
def iStr(tl:TE):TI:=λU H R=>tl U H (iStr_1 R)
def pi_str{X:Cx}{tg l:Expr}{tl:TE}(hl:PE X l tl):PI X tg l (iStr tl):=by
 intro pins s U H R I h
 refine thn (hl pins s U H _ I h) λv s1 hh_=>?_
 obtain⟨y,H1,I1,r1,q1⟩:=hh_
 obtain⟨x,e,ha,q⟩:=q1
 subst e
 obtain⟨t,rfl⟩:=(show∃t,v=Value.str x t from r1)
 refine wpAny_pyIter_ascii ha ?_
 refine{s1.heap.objs.size,[s1.heap.objs.size],_,_,H1,O,I1.kept (t':=s1.toks) λb o e=>Xab _ e,zj0 _ x t,{_,Xag _ O,O,O},λb hb=>?_,q}
 have e:b=s1.heap.objs.size:=by simpa using hb
 subst e
 exact I1.fpOk (Xad _) (I1.hok.fresh (Xad _))
def zkZ{g:TG}{tf:TT}{te:TE}{Q:List V->Hp->Prop}{U:St}{H:Hp}{x:PySem.Str}(Pv:Nat->List V->St->Hp->Prop)(hn:x.cps.size<=sizeLine)(h0:Pv 0 [] U H)(hz:∀i ys U H,Pv i ys U H->ys.length<=i)
  (hs:∀i c ys U H,x.cps[i]?=some c->Pv i ys U H->g (.str {#[c]}) U H λU2 H2=>tf U2 H2 λb H3=>if b=true then te U2 H3 λy H4=>Pv (i+1) (ys++[y]) U2 H4 else Pv (i+1) ys U2 H3)
  (hd:∀ys U H,Pv x.cps.size ys U H->Q ys H):zf9 (Its x) g tf te Q U H:=by
 refine{λi m ys U H=>m=x.cps.size-i/\i<=x.cps.size/\Pv i ys U H,{x.cps.size,by simp,Nat.zero_le _,h0},?_}
 rintro i m ys U H ⟨rfl,hi,p⟩
 have hl:=hz i ys U H p
 by_cases hlt:i<x.cps.size
 .refine .inr {hlt,by omega,Pv (i+1),λys' U' H' p'=>{x.cps.size-(i+1),by omega,O,hlt,p'},λv H' y=>?_}
  obtain⟨e,c,hc,rfl⟩:=y
  subst e
  exact hs i c ys U _ hc p
 .have e:i=x.cps.size:=by omega
  exact .inl {by show x.cps.size<=i;omega,by omega,by subst e;exact hd ys U H p}
end L2
end
section
namespace L2
open PySem PySem.Spec PyProof.Rows HT
inductive rInS(x:V)(y:V)(H:Hp)(Q:VK):Prop
 | mk (a b:PySem.Str)(_:x=.str a)(_:y=.str b)(_:Q (.bl (!(Builtin.Str.occurrences b a 0 b.length 1).isEmpty)) H)
def op_inS{X:Cx}:OpR X (compareOp .In) rInS:=by
 rintro pins s U H x y v u Q I rx ry ⟨a,b,rfl,rfl,q⟩
 obtain⟨t,rfl⟩:=(show∃t,v=Value.str a t from rx)
 obtain⟨t',rfl⟩:=(show∃t',u=Value.str b t' from ry)
 exact PyProof.Rows.in_str {.bl _,H,I,O,q}
section
variable{X:Cx}{x:Str}{p pos:Pos}{e:Expr}{es:List Expr}{tv:TE}{t:TA}
end
end L2
end
section
namespace L2
open PySem PySem.Spec PyProof.Rows HT PySem.W PySem.Calls
inductive gStar(K:W.Frag)(t:TGs)(v:V)(U:St)(H:Hp)(Q:St->Hp->Prop):Prop
 | mk a x xs(_:v=.ref a)(_:SqL K H a (x::xs))(_:xs.length<=16000)(_:∀D,H D=none->t [x,.ref D] U (upd H D (.lst xs)) Q)
def zl2{X:Cx}{es:List Expr}{k:Nat}{pos:Pos}{t:TGs}(hc:X.calm=true)(h:PGs X es t)(hn:(assignEach es X.env).length=2:=by rfl)(hst:(assignEach es X.env).findIdx? (·.1)=some 1:=by rfl):PG X (.Tuple es k pos) (gStar X.K t):=by
 intro pins s U H v u Q I r hw
 obtain⟨a,x,xs,e1,hq,hl,hw⟩:=hw
 subst e1
 cases r
 obtain⟨its,rv,p,hz⟩:=I.list hq
 obtain⟨u0,us,rfl,r0,rs⟩:∃u0 us,its=u0::us/\RelV x u0/\Vals xs us:=by
  cases rv with
  | cons r0 rs=>exact{_,_,O,r0,rs}
 have li:s.heap.IsList a (u0::us).toArray:=p.isList
 have ll:=rs.length
 rw[assign_Tuple]
 refine Xaa (Xa9 ?_)
 unfold unpack
 rw[hn,hst]
 refine Xaa (XaE ?_)
 have hlt:a≠s.heap.objs.size:=by obtain⟨o,ho,_⟩:=li;exact Xay (Xai ho)
 unfold unpackItems
 refine Xaa ?_
 unfold notIterableAtAll
 refine Xaa (wpAny_specialOf li.typeIs slot_list_iter.lookup ?_)
 refine Xac ?_
 simp only[Bool.false_eq_true,if_false]
 refine Xaa (XaE (Xbh li ?_))
 have sz:(u0::us).toArray.size=us.length+1:=by simp
 refine Xaa (XaE (kun_draw hlt 1 0 _ _ {_,Xag _ O,O,O} (li.push _) (by rw[sz];omega) λh₁ hit₁ hs₁=>?_))
 have hl₁:h₁.IsList a (u0::us).toArray:=(li.push _).extBut hs₁.extBut hlt
 obtain⟨oi,hoi,_⟩:=id hit₁
 obtain⟨ol,hol,_⟩:=id hl₁
 rw[List.drop_zero]
 have tk1:(u0::us).toArray.toList.take 1=[u0]:=by simp
 rw[tk1]
 refine Xaa (XaE (kun_collect (s:={s with heap:=h₁}) (T := "list_iterator") (.inr (.inr (.inl O))) (Walks.list (A:=X.A.in1) (I.ok.hd hc) s.heap.objs.size a hlt (u0::us).toArray) (λj u st=>st.1.typeIs) (k:=1) (by rw[sz];omega) ⟨hit₁,hl₁⟩ (Xai hoi) (Xai hol) (λh₂ tk hk=>?_) (by rw[sz,sizeLine_eq];omega)))
 have dr1:(u0::us).toArray.toList.drop 1=us:=by simp
 rw[dr1]
 have he:Heap.ExtBut s.heap.objs.size s.heap h₂:=λb o hb e=>hk b o hb (hs₁.extBut b o hb (Xab _ e))
 have I1:Inv X pins U H {s with heap:=h₂,toks:=tk}:=I.kept (t':=tk) λb o e=>he b o (Xay (Xai e)) e
 rw[if_neg (by omega)]
 have tk2:us.take (us.length-(2-1-1))=us:=Xbk (by omega)
 have dr2:us.drop (us.length-(2-1-1))=[]:=List.drop_eq_nil_of_le (by omega)
 rw[tk2,dr2]
 have e2:us.length<=sizeLine:=by rw[sizeLine_eq];omega
 refine Xaa (wpAny_newList (Xac ?_) e2)
 refine h pins _ U _ [x,.ref h₂.objs.size] _ Q (I1.laid (t':=tk) (o:=.lst xs) (λb ob q=>Xab _ q) (Xad _) {by omega,us,0,rs,Xag _ O}) (.cons r0 (.cons O .nil)) (hw _ (I1.hok.fresh (Xad _)))
end L2
end
section
namespace L2
open PySem PySem.Spec PyProof.Rows HT
section
variable{X:Cx}{x:Str}{a:Addr}{e:Expr}{p apos cpos:Pos}{ty:TE}{kvs:List (Key×V)}
end
end L2
end
section
namespace L2
open PySem PySem.Spec PyProof.Rows HT
def zjR{c:Nat}:∀{a b r s:List Nat},c∉a->c∉b->a++c::r=b++c::s->a=b/\r=s
 | [],[],r,s,_,_,e=>{O,(List.cons.inj e).2}
 | [],y::b,r,s,_,hb,e=>absurd (show c∈y::b by rw[<- (List.cons.inj e).1];exact Xat ..) hb
 | x::a,[],r,s,ha,_,e=>absurd (show c∈x::a by rw[(List.cons.inj e).1];exact Xat ..) ha
 | x::a,y::b,r,s,ha,hb,e=>by
  obtain⟨e1,e2⟩:=List.cons.inj e
  obtain⟨q1,q2⟩:=zjR (λz=>ha (Xau _ z)) (λz=>hb (Xau _ z)) e2
  exact{by rw[e1,q1],q2}
def zit(x y:PySem.Str):(x++y).cps.toList=x.cps.toList++y.cps.toList:=by
 show(x.cps++y.cps).toList=_
 exact Array.toList_append ..
def zis{x y:PySem.Str}(h:x.cps.toList=y.cps.toList):x=y:=by
 obtain⟨a⟩:=x
 obtain⟨b⟩:=y
 exact congrArg PySem.Str.mk (Array.toList_inj.mp h)
def zcQ(c:Nat)(x y:PySem.Str)(r:List PySem.Str):(PySem.Str.join {#[c]} (x::y::r)).cps.toList=x.cps.toList++c::(PySem.Str.join {#[c]} (y::r)).cps.toList:=by
 show(x++{#[c]}++PySem.Str.join {#[c]} (y::r)).cps.toList=_
 rw[zit,zit,List.append_assoc];rfl
def zg5(c:Nat):∀ps qs:List PySem.Str,ps≠[]->qs≠[]->(∀p∈ps,c∉p.cps.toList)->(∀p∈qs,c∉p.cps.toList)->(PySem.Str.join {#[c]} ps).cps.toList=(PySem.Str.join {#[c]} qs).cps.toList->ps=qs
 | [],_,h,_,_,_,_=>absurd O h
 | _,[],_,h,_,_,_=>absurd O h
 | [x],[y],_,_,_,_,e=>by rw[zis (x:=x) (y:=y) e]
 | [x],y::z::r,_,_,hp,_,e=>by
  rw[zcQ] at e
  have e:x.cps.toList=_:=e
  exact absurd (show c∈x.cps.toList by rw[e];exact XaB _ (Xat ..)) (hp x (Xat ..))
 | x::z::r,[y],_,_,_,hq,e=>by
  rw[zcQ] at e
  have e:_=y.cps.toList:=e
  exact absurd (show c∈y.cps.toList by rw[<- e];exact XaB _ (Xat ..)) (hq y (Xat ..))
 | x::z::r,y::u::t,_,_,hp,hq,e=>by
  rw[zcQ,zcQ] at e
  obtain⟨e1,e2⟩:=zjR (hp x (Xat ..)) (hq y (Xat ..)) e
  have ih:=zg5 c (z::r) (u::t) (by simp) (by simp) (λp h=>hp p (Xau _ h)) (λp h=>hq p (Xau _ h)) e2
  rw[zis e1,ih]
def zcf(x y:PySem.Str):Txt.split x y≠[]:=by
 unfold Txt.split
 split
 .simp
 .split
  .simp
  .intro h
   have:=congrArg List.length h
   rw[length_partsBetween] at this
   simp at this
def zhq(c:Nat)(ps:List PySem.Str)(h0:ps≠[])(hf:∀p∈ps,c∉p.cps.toList):Txt.split (PySem.Str.join {#[c]} ps) {#[c]}=ps:=
 zg5 c _ _ (zcf _ _) h0 (StrLaws.split_free _ c) hf (by rw[StrLaws.join_split])
def zjZ(sep:PySem.Str)(ys:List PySem.Str):Txt.join sep ys=PySem.Str.join sep ys:=eq_of_beq (PyProof.Rows.join_closes (sep:=sep) (sep':=sep) (ys:=ys) O)
def zkl{X:Cx}{e:Expr}{sp:Pos}{es:List Expr}{t:TG}{u:TGs}(h1:PG X e t)(h2:PGs X es u)
  (hs:(assignEach (.Starred e sp::es) X.env).map (·.2)=assign e X.env::(assignEach es X.env).map (·.2):=by rfl):PGs X (.Starred e sp::es) (gCons t u):=by
 intro pins s U H vs us Q I r h
 obtain⟨v,vr,e1,h⟩:=h
 subst e1
 cases r with
 | cons r rr =>
  rw[hs]
  refine assignInOrder_cons (thn (h1 pins s U H _ _ _ I r h) λ_ s1 ⟨U1,H1,I1,q1⟩=>?_)
  exact h2 pins s1 U1 H1 _ _ Q I1 rr q1
end L2
end
section
namespace L2
open PySem PySem.Spec PyProof.Rows PySem.SeqAt
section
variable{X:Cx}{K:W.Frag}
end
section
variable{X:Cx}
end
end L2
end
section
namespace L2
open PySem PySem.Spec PyProof.Rows Builtin
section
variable{prog:Program}{w:World}{A:Around}{E:Value->Shared->Prop}{s:Shared}{K:W.Frag}{x y C D f:Addr}{ox oy:Obj}{od oe:Option Obj}
end
section
variable{X:Cx}
end
section
variable{prog:Program}{w:World}{A:Around}{E:Value->Shared->Prop}{s:Shared}
end
structure Tab(L:Bool)(t:SetTable)(n:Nat):Prop where
 fits:t.fits n=true
 ris:t.place.toList.Pairwise (· < ·)
 led:t.led=L
def zmt{xs:Array Nat}{i j:Nat}(h:i<xs.size):xs.getD i j=xs.toList[i]'(by simpa using h):=by
 rw[Array.getD_eq_getD_getElem?,XaJ h];simp
def zkf{l:List Nat}(h:l.Pairwise (· < ·)){i k:Nat}(hk:k<l.length)(hik:i<k):l[i]'(by omega)<l[k]:=(Xbp.mp h) i k (by omega) hk hik
def ze9{xs:Array Nat}{j:Nat}(hr:xs.toList.Pairwise (· < ·)):∀(fuel lo hi:Nat),hi<=xs.size->lo<=hi->hi-lo<=fuel->(∀i (h:i<xs.toList.length),i<lo->xs.toList[i]<j)->(∀i (h:i<xs.toList.length),hi<=i->j<=xs.toList[i]) ->
  SetTable.below.go xs j fuel lo hi<=xs.size/\(∀i (h:i<xs.toList.length),i<SetTable.below.go xs j fuel lo hi->xs.toList[i]<j)/\∀i (h:i<xs.toList.length),SetTable.below.go xs j fuel lo hi<=i->j<=xs.toList[i]
 | 0,lo,hi,h1,h2,h3,a,b=>by
  obtain rfl:lo=hi:=by omega
  exact⟨h1,a,b⟩
 | fuel+1,lo,hi,h1,h2,h3,a,b=>by
  unfold SetTable.below.go
  by_cases hlt:lo<hi
  .rw[if_pos hlt]
   have hm:(lo+hi) / 2<xs.size:=by omega
   have hml:(lo+hi) / 2<xs.toList.length:=by simpa using hm
   dsimp only
   rw[zmt hm]
   by_cases hc:xs.toList[(lo+hi) / 2]<j
   .rw[if_pos hc]
    refine ze9 hr fuel _ hi h1 (by omega) (by omega) (λi h hi'=>?_) b
    rcases(show i<(lo+hi) / 2\/i=(lo+hi) / 2 by omega) with e|e
    .exact Nat.lt_trans (zkf hr hml e) hc
    .subst e;exact hc
   .rw[if_neg hc]
    refine ze9 hr fuel lo _ (by omega) (by omega) (by omega) a (λi h hi'=>?_)
    rcases(show(lo+hi) / 2<i\/i=(lo+hi) / 2 by omega) with e|e
    .exact Nat.le_of_lt (Xa5 (Nat.not_lt.mp hc) (zkf hr h e))
    .subst e;exact Nat.not_lt.mp hc
  .rw[if_neg hlt]
   obtain rfl:lo=hi:=by omega
   exact⟨h1,a,b⟩
def zdG{xs:Array Nat}{j:Nat}(hr:xs.toList.Pairwise (· < ·)):SetTable.below xs j<=xs.size/\(∀i (h:i<xs.toList.length),i<SetTable.below xs j->xs.toList[i]<j)/\∀i (h:i<xs.toList.length),SetTable.below xs j<=i->j<=xs.toList[i]:=
 ze9 hr xs.size 0 xs.size (Xad _) (Nat.zero_le _) (Xad _) (λi h z=>absurd z (Nat.not_lt_zero _)) λi h z=>absurd (show i<xs.size by simpa using h) (Nat.not_lt.mpr z)
def zk4{xs:Array Nat}(hr:xs.toList.Pairwise (· < ·)){i:Nat}(h:i<xs.size):SetTable.below xs xs[i]=i:=by
 obtain⟨b1,b2,b3⟩:=zdG (j:=xs[i]) hr
 have hl:i<xs.toList.length:=by simpa using h
 have e:xs.toList[i]=xs[i]:=by simp
 rcases Nat.lt_trichotomy (SetTable.below xs xs[i]) i with z|z|z
 .have h2:SetTable.below xs xs[i]<xs.toList.length:=by omega
  have q1:=b3 _ h2 (Xad _)
  have q2:=zkf hr hl z
  rw[e] at q2
  exact absurd q1 (Nat.not_le.mpr q2)
 .exact z
 .have q1:=b2 i hl z
  rw[e] at q1
  exact absurd q1 (XaY _)
def zh5{xs:Array Nat}(hr:xs.toList.Pairwise (· < ·)){i:Nat}(h:i<xs.size):SetTable.below xs (xs[i]+1)=i+1:=by
 obtain⟨b1,b2,b3⟩:=zdG (j:=xs[i]+1) hr
 have hl:i<xs.toList.length:=by simpa using h
 have e:xs.toList[i]=xs[i]:=by simp
 rcases Nat.lt_trichotomy (SetTable.below xs (xs[i]+1)) (i+1) with z|z|z
 .have q1:=b3 i hl (by omega)
  rw[e] at q1;omega
 .exact z
 .have hls:xs.toList.length=xs.size:=by simp
  have h2:i+1<xs.toList.length:=by omega
  have q1:=b2 (i+1) h2 z
  have q2:=zkf hr h2 (Xbm i)
  rw[e] at q2;omega
def zh4{xs:Array Nat}(hr:xs.toList.Pairwise (· < ·)):SetTable.below xs 0=0:=by
 obtain⟨b1,b2,b3⟩:=zdG (j:=0) hr
 rcases Nat.eq_zero_or_pos (SetTable.below xs 0) with z|z
 .exact z
 .have hls:xs.toList.length=xs.size:=by simp
  have h2:0<xs.toList.length:=by omega
  exact absurd (b2 0 h2 z) (Nat.not_lt_zero _)
def zlm{t:SetTable}(hr:t.place.toList.Pairwise (· < ·)){j:Nat}(h:∀i,t.slot j≠.live i):j∉t.place.toList:=λhm=>by
 obtain⟨i,hi,e⟩:=List.getElem_of_mem hm
 have hi':i<t.place.size:=by simpa using hi
 have e':t.place[i]=j:=by simpa using e
 refine h (SetTable.below t.place j) ?_
 unfold SetTable.slot
 dsimp only
 rw[if_pos]
 rw[<- e',zk4 hr hi',XaJ hi',beq_self_eq_true]
def zc6{t:SetTable}{hs:Nat->Int}{h:Int}:∀(fuel:Nat) (p:SetTable.Probe) (j:Nat) (d:Option Nat),(∀x,p.dummy=some x->∀i,t.slot x≠.live i)->SetTable.probe.go t hs h fuel p=some (.empty j d)->(∀i,t.slot j≠.live i)/\∀x,d=some x->∀i,t.slot x≠.live i
 | 0,p,j,d,_,e=>by cases e
 | fuel+1,p,j,d,hd,e=>by
  have adv:∀q:SetTable.Probe,(t.advance q).dummy=q.dummy:=λq=>by unfold SetTable.advance;split<;>rfl
  unfold SetTable.probe.go at e
  cases hq:t.slot p.j with
  | empty =>
   rw[hq] at e
   have e:=Option.some.inj e
   injection e with e1 e2
   subst e1 e2
   exact{λi z=>(by rw[hq] at z;cases z),hd}
  | dummy =>
   rw[hq] at e
   refine zc6 fuel _ j d (λx hx i z=>?_) e
   rw[adv] at hx
   have hx:p.j=x:=Option.some.inj hx
   subst hx
   rw[hq] at z;cases z
  | live i =>
   rw[hq] at e
   dsimp only at e
   split at e
   .cases e
   .exact zc6 fuel _ j d (λx hx=>hd x (by rw[adv] at hx;exact hx)) e
set_option tactic.hygienic true in
def zfO{t:SetTable}(hr:t.place.toList.Pairwise (· < ·)){h:Int}{j:Nat}{b:Bool}(e:t.freeSlot h=some (j,b)):j∉t.place.toList:=by
 unfold SetTable.freeSlot at e
 split at e
 .rename_i j' d hp
  have e:=Option.some.inj e
  injection e with e1 _
  obtain⟨a1,a2⟩:=zc6 _ _ _ _ (λx hx=>by cases hx) hp
  cases d with
  | none=>rw[<- e1];exact zlm hr a1
  | some x=>rw[<- e1];exact zlm hr (a2 x O)
 .cases e
def zhT{xs:Array Nat}(hr:xs.toList.Pairwise (· < ·)){j:Nat}(hj:j∉xs.toList):(SetTable.insertAt xs (SetTable.below xs j) j).toList.Pairwise (· < ·):=by
 obtain⟨b1,b2,b3⟩:=zdG (j:=j) hr
 rw[SetTable.toList_insertAt,List.pairwise_append]
 refine{hr.sublist (List.take_sublist _ _),List.pairwise_cons.mpr {λx hx=>?_,hr.sublist (List.drop_sublist _ _)},λx hx y hy=>?_}
 .obtain⟨i,hi,rfl⟩:=List.getElem_of_mem hx
  rw[List.getElem_drop]
  rw[Xbu] at hi
  have q:=b3 (SetTable.below xs j+i) (by omega) (by omega)
  exact Nat.lt_of_le_of_ne q λz=>hj (by rw[z];exact Xa6 _)
 .obtain⟨i,hi,rfl⟩:=List.getElem_of_mem hx
  rw[List.getElem_take]
  rw[XaZ] at hi
  have q:=b2 i (by omega) (by omega)
  rcases Xan.mp hy with rfl|hy
  .exact q
  .obtain⟨k,hk,rfl⟩:=List.getElem_of_mem hy
   rw[List.getElem_drop]
   rw[Xbu] at hk
   exact Xao q (b3 _ (by omega) (by omega))
def zbu(n:Nat):(Array.range n).toList.Pairwise (· < ·):=by
 rw[Array.toList_range]
 exact List.pairwise_lt_range
def or_tab{L:Bool}{t:SetTable}(hr:t.place.toList.Pairwise (· < ·))(hl:t.led=L)(n:Nat):(t.orStandIn n).place.toList.Pairwise (· < ·)/\(t.orStandIn n).led=L:=by
 unfold SetTable.orStandIn
 by_cases h:t.fits n=true
 .rw[if_pos h];exact⟨hr,hl⟩
 .rw[if_neg h];exact{zbu n,hl}
set_option tactic.hygienic true in
def zhN{L:Bool}{t:SetTable}{es:Array (Int×Value)}(T:Tab L t es.size)(h:Int)(x:Value):Tab L (layNew t es h x).2.1 (layNew t es h x).1.size:=by
 have ft:=layNew_fits t es h x
 have q:(layNew t es h x).2.1.place.toList.Pairwise (· < ·)/\(layNew t es h x).2.1.led=L:=by
  unfold layNew
  split
  .rename_i j b e
   exact or_tab (t:=(t.put j).1) (zhT T.ris (zfO T.ris e)) T.led _
  .exact{zbu _,T.led}
 exact⟨ft,q.1,q.2⟩
def zd9{mask finger moves:Nat}{led plain:Bool}{hashes:Array Int}{t:SetTable}{o:Array Nat}(e:SetTable.laid mask finger moves led plain hashes=some (t,o)):t.place.toList.Pairwise (· < ·)/\t.led=led:=by
 unfold SetTable.laid at e
 obtain⟨owner,_,e⟩:=Option.bind_eq_some_iff.mp e
 have e:=Option.some.inj e
 injection e with e1 _
 subst e1
 refine{?_,O}
 show((((List.range (mask+1)).filterMap λj=>(owner.getD j none).map (j,·)).map (·.1)).toArray).toList.Pairwise (· < ·)
 rw[List.map_filterMap,List.toList_toArray]
 refine List.Pairwise.filterMap _ (R:=(· < ·)) (S:=(· < ·)) (λa a' hl b hb b' hb'=>?_) List.pairwise_lt_range
 .cases h1:owner.getD a none with
  | none=>rw[h1] at hb;cases hb
  | some u =>
   rw[h1] at hb
   cases h2:owner.getD a' none with
   | none=>rw[h2] at hb';cases hb'
   | some v =>
    rw[h2] at hb'
    have q1:a=b:=Option.some.inj hb
    have q2:a'=b':=Option.some.inj hb'
    omega
set_option tactic.hygienic true in
def ziI{L:Bool}{t:SetTable}{es:Array (Int×Value)}(T:t.led=L)(n:Nat):Tab L (relayAll t es n).2.1 (relayAll t es n).1.size:=by
 refine{relayAll_fits t es n,?_,?_}
 .unfold relayAll
  split
  .rename_i t' o e
   dsimp only
   split
   .exact(zd9 e).1
   .exact zbu _
  .exact zbu _
 .unfold relayAll
  split
  .rename_i t' o e
   dsimp only
   split
   .exact(zd9 e).2.trans T
   .exact T
  .exact T
def sObj(es:Array (Int×Value))(ep:Nat)(t:SetTable):Obj:={cls:=.type "set",data:=.set es ep t}
def EOk(e:Int×Value):Prop:=∃(n:Int) (t:Tok),e=(hashInt n,.int n t)
def eInt(e:Int×Value):Int:=match e.2 with
 | .int n _=>n
 | _=>0
def zjv(l:List (Int×Value)):List Int:=l.map eInt
def SetI(L:Bool)(h:Heap)(a:Addr)(S:List Int):Prop:=∃es ep t,h.get? a=some (sObj es ep t)/\(∀e∈es.toList,EOk e)/\(zjv es.toList).Perm S/\S.Nodup/\Tab L t es.size
def SetI.at{L:Bool}{h h':Heap}{a:Addr}{S:List Int}(x:SetI L h a S)(e:∀o,h.get? a=some o->h'.get? a=some o):SetI L h' a S:=by
 obtain⟨es,ep,t,g,r⟩:=x
 exact{es,ep,t,e _ g,r}
def zju{prog:Program}{w:World}{l:List (Int×Value)}(h:∀e∈l,EOk e):ElemsOf (intKind prog w) l:=λe he=>by
 obtain⟨n,t,rfl⟩:=h e he
 exact{{n,intKind_is _ _ _ _,O},O}
def zlp{prog:Program}{w:World}{e:Int×Value}(h:EOk e)(n:Int):(intKind prog w).is n e.2=decide (n=eInt e):=by
 obtain⟨m,t,rfl⟩:=h
 show Value.isInt n (.int m t)=decide (n=m)
 unfold Value.isInt
 by_cases e:n=m
 .subst e;simp
 .rw[Xam e];simpa usingλz=>e z.symm
section
variable{prog:Program}{w:World}{A:Around}{E:Value->Shared->Prop}{s:Shared}
def zle{h:Heap}{a:Addr}{es es':Array (Int×Value)}{ep:Nat}{t t':SetTable}(g:h.get? a=some (sObj es ep t)):(h.update a (Obj.putSet es' t')).get? a=some (sObj es' (ep+1) t'):=by
 have e:=putSet_of es' t' (show(sObj es ep t).data=.set es ep t from O)
 have:=XaK (Obj.putSet es' t') g (by rw[e];rfl)
 rw[e] at this;exact this
def zhh{L:Bool}{g:Bool->Sem Unit}(hg:∀(b:Bool) (s₁:Shared) (Q':Unit->Shared->Prop),Q' () s₁->wpAny (model prog w) A (g b) Q' E s₁){a:Addr}{es es1:Array (Int×Value)}{ep:Nat}{t t2:SetTable}(ho:s.heap.get? a=some (sObj es ep t))
  (hz:es1.size<scanBound) (T2:Tab L t2 es1.size) {wd:Bool} {R:Option Bool->Shared->Prop}
  (h:∀h' es' ep' t',Heap.SameBut a s.heap h'->h'.get? a=some (sObj es' ep' t')->es'.toList.Perm es1.toList->Tab L t' es'.size->R (some true) {s with heap:=h'}) :
  wpAny (model prog w) A (do
   storeSet a es1 t2
   if(!wd&&t2.tooFull)=true then do
    g (relayAll t2 es1 (SetTable.grown es1.size)).2.2
    storeSet a (relayAll t2 es1 (SetTable.grown es1.size)).1 (relayAll t2 es1 (SetTable.grown es1.size)).2.1
    pure (some true)
   else pure (some true)) R E s:=by
 refine Xaa (wpAny_storeSet_of ho O ?_ (fits_of_scanBound hz))
 have g1:=zle (es':=es1) (t':=t2) ho
 have b1:=Heap.SameBut.update s.heap a (Obj.putSet es1 t2)
 split
 .have pm:=relayAll_perm t2 es1 (SetTable.grown es1.size)
  have T3:=ziI (es:=es1) T2.led (SetTable.grown es1.size)
  generalize relayAll t2 es1 (SetTable.grown es1.size)=Y at pm T3 ⊢
  obtain⟨es2,t3,gv⟩:=Y
  have sz:es2.size=es1.size:=by rw[<- Array.length_toList,pm.length_eq,Array.length_toList]
  refine Xaa (hg _ _ _ (Xaa (wpAny_storeSet_of g1 O ?_ (fits_of_scanBound (by rw[sz];exact hz)))))
  exact Xac (h _ es2 _ t3 (b1.trans (Heap.SameBut.update _ a _)) (zle g1) pm T3)
 .exact Xac (h _ es1 _ t2 b1 g1 .rfl T2)
def zlR{L:Bool}{a:Addr}{S:List Int}{n:Int}{tok:Tok}{Q:Value->Shared->Prop}(hS:SetI L s.heap a S)(hz:S.length<1000)
  (h:∀h',Heap.SameBut a s.heap h'->SetI L h' a (if n∈S then S else S++[n])->Q .none {s with heap:=h',toks:=s.toks+1}) :
  wpAny (model prog w) A (call (.builtin "set.add") [.ref a,.int n tok]) Q E s:=by
 obtain⟨es,ep,t,ho,hE,hP,hN,T⟩:=hS
 have hel:=zju (prog:=prog) (w:=w) hE
 have hsz:es.size=S.length:=by rw[<- Array.length_toList,<- hP.length_eq];unfold zjv;rw[Xaf]
 have hb:es.size<scanBound:=Nat.lt_trans (show es.size<1000 by omega) (by decide)
 have hk:(intKind prog w).is n (.int n tok)=true:=intKind_is _ _ _ _
 have hsc:(Value.int n tok).scannable=true:=rfl
 refine XaQ F.slot_set_add (show s.TypeIs (.ref a) "set" from{_,ho,O}) F.entry_set_add ?_ (F.args_set_add_2 _ _)
 unfold Builtin.«set.add» Builtin.Frozenset.oneOther;simp only[List.isEmpty_nil,bind_assoc]
 unfold Builtin.Frozenset.addrOf setAdd;refine Xaa (Xac ?_)
 try dsimp only
 refine Xaa (Xac (Xaa (XaE (Xaa ((intKind prog w).pyHash hk ?_)))))
 generalize hs1:({s with toks:=s.toks+1}:Shared)=s1
 have ho1:s1.heap.get? a=some (sObj es ep t):=by rw[<- hs1];exact ho
 have fin:∀(b:Bool) h',Heap.SameBut a s.heap h'->SetI L h' a (if n∈S then S else S++[n])->(λ(_:Bool) s'=>wpAny (model prog w) A.in1 (ret Value.none) (λfin s'=>∃v,fin=.done (.ret v)/\Q v s') E s') b {s1 with heap:=h'}:=λb h' hb' x=>by
  have:=h h' hb' x
  rw[<- hs1]
  exact Xac {_,O,this}
 show wpAny (model prog w) A.in1 (setAddHashed a (.int n tok) ((intKind prog w).hash n)) (λ_ s'=>wpAny (model prog w) A.in1 (ret Value.none) (λfin s'=>∃v,fin=.done (.ret v)/\Q v s') E s') E s1
 unfold setAddHashed setAddHashedIn;refine XaE (Xaa (Xbc ho1 O T.fits ?_))
 dsimp only
 rw[byScan_of hsc hb hel,if_pos O]
 unfold setAddByScan;refine Xaa (Xaa (XbA (Xaa (wpAny_setScan_of hk ho1 O T.fits hel ?_))))
 have s1h:s1.heap=s.heap:=by rw[<- hs1]
 have mem:n∈S↔∃e∈es.toList,(intKind prog w).is n e.2=true:=by
  rw[<- hP.mem_iff]
  constructor
  .intro hm
   obtain⟨e,he,z⟩:=Xa1.mp hm
   exact{e,he,by rw[zlp (hE e he)];exact Xal z.symm}
  .rintro⟨e,he,z⟩
   rw[zlp (hE e he)] at z
   rw[XaA z]
   exact Xa1.mpr ⟨e,he,O⟩
 cases hr:List.findIdx? (λe=>(intKind prog w).is n e.2) es.toList with
 | some j =>
  obtain⟨hj,pj,_⟩:=List.findIdx?_eq_some_iff_getElem.mp hr
  have hm:n∈S:=mem.mpr {_,Xa6 hj,pj}
  refine Xac (Xac ?_)
  have:=fin false s.heap (Heap.SameBut.refl a s.heap) (by rw[if_pos hm];exact⟨es,ep,t,ho,hE,hP,hN,T⟩)
  rw[<- hs1] at this ⊢
  exact this
 | none =>
  have hm:n∉S:=λz=>by
   obtain⟨e,he,p⟩:=mem.mp z
   have:=List.findIdx?_eq_none_iff.mp hr e he
   rw[p] at this;cases this
  rw[if_neg hm] at fin
  have pm:=layNew_perm t es ((intKind prog w).hash n) (.int n tok)
  have T1:=zhN T ((intKind prog w).hash n) (.int n tok)
  generalize layNew t es ((intKind prog w).hash n) (.int n tok)=Y at pm T1 ⊢
  obtain⟨es1,t1,wd,gv⟩:=Y
  dsimp only at pm T1 ⊢
  rw[Array.toList_push] at pm
  have sz1:es1.size=es.size+1:=by rw[<- Array.length_toList,pm.length_eq,Xah,Array.length_toList];rfl
  have hz1:es1.size<scanBound:=Nat.lt_trans (show es1.size<1001 by omega) (by decide)
  have last:∀h' es' ep' t',Heap.SameBut a s1.heap h'->h'.get? a=some (sObj es' ep' t')->es'.toList.Perm es1.toList->Tab L t' es'.size->SetI L h' a (S++[n]):=λh' es' ep' t' hb' g' p' T'=>by
   have p2:=p'.trans pm
   refine{es',ep',t',g',λe he=>?_,?_,?_,T'}
   .rcases XaH.mp (p2.mem_iff.mp he) with z|z
    .exact hE e z
    .rw[Xae.mp z];exact⟨n,tok,O⟩
   .have q:=p2.map eInt
    rw[Xaw] at q
    exact q.trans (hP.append_right _)
   .exact XaT.mpr {hN,Xbx.mpr {(λz=>nomatch z),List.nodup_nil},λx hx y hy z=>hm (by rw[<- Xae.mp hy,<- z];exact hx)}
  refine Xaa (m:=(match gv with|true=>rule "set.scan.the-table-gave-way" | false=>pure ())) ?_
  have hgw:∀(b:Bool) (s₁:Shared) (Q':Unit->Shared->Prop),Q' () s₁->wpAny (model prog w) A.in1 (match b with|true=>rule "set.scan.the-table-gave-way" | false=>pure ()) Q' E s₁:=λb s₁ Q' q=>by
   cases b
   .exact Xac q
   .exact XbA q
  refine hgw gv _ _ ?_
  have off:Tab L {t1 with plain:=false} es1.size:={SetTable.fits_plain_off T1.fits,T1.ris,T1.led}
  split
  .refine Xaa ?_
   rw[hashByValue_scannable 8 hsc]
   refine Xac (zhh (L:=L) hgw ho1 hz1 ?_ λh' es' ep' t' hb' g' p' T'=>Xac (fin true h' (by rw[<- s1h];exact hb') (last h' es' ep' t' hb' g' p' T')))
   split
   .exact T1
   .exact off
  .refine Xaa (Xac ?_)
   rw[if_pos O]
   exact zhh (L:=L) hgw ho1 hz1 T1 λh' es' ep' t' hb' g' p' T'=>Xac (fin true h' (by rw[<- s1h];exact hb') (last h' es' ep' t' hb' g' p' T'))
end
def slot_si_next:Slot "set_iterator" "__next__" "set_iterator.__next__" :=
 .of (owner := "set_iterator") (n := "__next__") (by rw[typeLookup_type,builtinLookup_eq_fast];kernel_rfl) (by decide +kernel) (by decide +kernel) (by decide +kernel) (by first|exact .inl (by decide +kernel)|exact .inr (by decide +kernel)) (by rw[isSubtype_type];kernel_rfl)
def zcR:entryFor table "set_iterator.__next__"=some Builtin.«set_iterator.__next__»:=entryFor_of_tree (by kernel_rfl)
def zgZ:Manifest.owners.lookup (String.ofList ['r','o','t','a','r','e','t','i','_','t','e','s'].reverse)=some Manifest.sig_set_iterator:=by kernel_rfl
def zdm(a:Value):argsOk "set_iterator.__next__" {[a],[]}:=by
 unfold argsOk;rw[signature?_of (id := "set_iterator.__next__") (n:=['_','_','t','x','e','n','_','_']) (o:=['r','o','t','a','r','e','t','i','_','t','e','s']) (by kernel_rfl) zgZ];kernel_rfl
def zfQ:entryFor table "set.__iter__"=some Builtin.«frozenset.__iter__»:=entryFor_alias (id' := "frozenset.__iter__") (by kernel_rfl) O (by decide +kernel) (by kernel_rfl)
def erase_perm{α:Type}:∀{l:List α} {i:Nat} (h:i<l.length),(l[i]::l.eraseIdx i).Perm l
 | a::l,0,h=>.rfl
 | a::l,i+1,h=>(List.Perm.swap _ _ _).trans ((erase_perm (l:=l) (i:=i) (by simpa using h)).cons a)
def ziR{α:Type}(next:Nat->Nat):∀(fuel k:Nat) (left:List α) (out:Array α),left.length=fuel->(pickOrder.go next fuel k left out).toList.Perm (out.toList++left)
 | 0,k,left,out,h=>by rw[List.eq_nil_of_length_eq_zero h,XbF];exact .rfl
 | fuel+1,k,left,out,h=>by
  have hl:next k % left.length<left.length:=Nat.mod_lt _ (by omega)
  unfold pickOrder.go
  rw[Xaz hl]
  dsimp only
  refine(ziR next fuel (k+1) _ _ (by rw[List.length_eraseIdx_of_lt hl];omega)).trans ?_
  rw[Array.toList_push,List.append_assoc]
  exact(List.Perm.refl _).append (erase_perm hl)
def ziQ{α:Type}(next:Nat->Nat)(xs:Array α):(pickOrder next xs).toList.Perm xs.toList:=by
 have:=ziR next xs.size 0 xs.toList #[] (by simp)
 simpa[pickOrder] using this
section
variable{prog:Program}{w:World}{A:Around}{E:Value->Shared->Prop}{s:Shared}
def zh6{src:Source}{n:Nat}{Q:Nat->Shared->Prop}(hn:n≠0)(h:∀i d,i<n->Q i {s with drawn:=d}):wpAny (model prog w) A (choose src n) Q E s:=λΓ p _ =>
 {hn,h _ _ (Nat.mod_lt _ (Nat.pos_of_ne_zero hn))}
def zeA{α:Type}:∀(n:Nat) (xs:List α) (s:Shared) (Q:List α->Shared->Prop),xs.length=n->(∀ys d,ys.Perm xs->Q ys {s with drawn:=d})->wpAny (model prog w) A (drawOrder n xs) Q E s
 | 0,xs,s,Q,h,q=>by
  unfold drawOrder
  exact Xac (by have:=q [] s.drawn (by rw[List.eq_nil_of_length_eq_zero h]);exact this)
 | n+1,[],s,Q,h,q=>by cases h
 | n+1,x::xs,s,Q,h,q=>by
  unfold drawOrder
  refine Xaa (zh6 (by simp) λi d hi=>?_)
  rw[Xaz hi]
  dsimp only
  refine Xaa (zeA n _ _ _ (by rw[List.length_eraseIdx_of_lt hi];simp at h ⊢;exact h) λys d' p=>Xac (q _ d' ?_))
  exact(List.Perm.cons _ p).trans (erase_perm hi)
def zh8(w:World)(a:Addr)(es:Array (Int×Value))(ep:Nat)(t:SetTable)(vs:List Value)(h:Heap)(i:Nat)(first:Value):Prop:=
 (w.params.followText "set-order"=true/\(∃k:Nat,first=.int (k:Int) 0)/\vs=(pickOrder (w.params.setOrder a ep) es).toList.map (·.2)) \/
 (w.params.followText "set-order"=false/\(!t.plain&&decide (es.size>1))=false/\t.led=true/\(∃k:Nat,first=.int (k:Int) 0/\SetTable.below t.place k=i)/\vs=es.toList.map (·.2)) \/
 (w.params.followText "set-order"=false/\∃(T:Addr) (ps:List Nat),first=.ref T/\h.get? T=some {cls:=.type "tuple",data:=.seq (ps.map λ(p:Nat)=>Value.int (p:Int) 0).toArray}/\ps.length=es.size/\(∀p∈ps,p<es.size)/\vs=ps.map λp=>((es[p]?).getD (0,.none)).2)
end
def siO(first:Value)(i:Int)(a:Value)(n:Int)(ep:Int):Obj:={cls:=.type "set_iterator",data:=.fields #[first,.int i 0,a,.int n 0,.int ep 0]}
section
variable{prog:Program}{w:World}{A:Around}{E:Value->Shared->Prop}{s:Shared}
def zet{h:Heap}{I:Addr}{vs:Array Value}{j:Nat}{x:Value}(hI:h.get? I=some {cls:=.type "set_iterator",data:=.fields vs}):(h.update I (Obj.mapFields (·.setIfInBounds j x))).get? I=some {cls:=.type "set_iterator",data:=.fields (vs.setIfInBounds j x)}:=by
 have:=XaK (Obj.mapFields (·.setIfInBounds j x)) hI O
 exact this
def zlN{I a:Addr}{es:Array (Int×Value)}{ep i:Nat}{t:SetTable}{vs:List Value}{first x:Value}{Q:Option Value->Shared->Prop}(hI:s.heap.get? I=some (siO first (i:Int) (.ref a) (es.size:Int) (ep:Int)))(ha:s.heap.get? a=some (sObj es ep t))(hf:t.fits es.size=true)(hr:t.place.toList.Pairwise (· < ·))
  (m:zh8 w a es ep t vs s.heap i first) (hx:vs[i]?=some x)
  (hq:∀h' first',Heap.SameBut I s.heap h'->h'.get? I=some (siO first' ((i+1:Nat):Int) (.ref a) (es.size:Int) (ep:Int))->zh8 w a es ep t vs h' (i+1) first'->(∀T:Addr,first'=.ref T->first=.ref T)->Q (some x) {s with heap:=h'}):wpAny (model prog w) A (pyNext (.ref I)) Q E s:=by
 have hT:s.TypeIs (.ref I) "set_iterator" := {_,hI,O}
 have ps:t.place.size=es.size:=by
  have:=hf;unfold SetTable.fits at this
  exact beq_iff_eq.mp (XaI.mp this).1
 unfold pyNext
 refine Xaa (Xbt (wpAny_callSpecial?_slot (name:=Str.ofString "__next__") hT slot_si_next (XaQ slot_si_next hT zcR ?_ (zdm _))))
 delta Builtin.«set_iterator.__next__»
 refine Xaa (m:=slotArgs "__next__" 0 _) (Xac ?_)
 dsimp only
 refine Xaa (wpAny_fieldsOf hI O ?_)
 show wpAny _ _ (setEntries a >>= _) _ _ s
 refine Xaa (wpAny_setEntries_of ha O hf ?_)
 rw[if_neg (by simp)]
 have far:∀{T:Addr} {o:Obj},s.heap.get? T=some o->o.cls=.type "tuple" -> T≠I:=λ{T o} e c z=>by rw[z,hI] at e;cases e;exact absurd (show("set_iterator" : String)="tuple" by injection c) (by decide)
 rcases m with⟨bt,⟨k,rfl⟩,ev⟩|⟨bt,dr,led,⟨k,rfl,bk⟩,ev⟩|⟨bt,T,pl,rfl,eT,hl,hp,ev⟩
 .
  show wpAny _ _ (setNext a (k:Int).toNat (i:Int).toNat (ep:Int).toNat >>= _) _ _ s
  rw[Xap,Xap,Xap]
  unfold setNext setsByText setWalk
  refine Xaa (Xaa (Xbc ha O hf ?_))
  refine Xaa (Xaa (Xa7 (Xac ?_)))
  rw[show(model prog w).w.params.followText "set-order"=true from bt,if_pos O,show(ep != ep)=false by simp,if_neg Xaj]
  refine Xaa (Xaa (Xbc ha O hf ?_))
  unfold setsByText
  refine Xaa (Xaa (Xa7 (Xac ?_)))
  rw[show(model prog w).w.params.followText "set-order"=true from bt,if_pos O]
  refine Xaa (Xa7 (Xac (Xac ?_)))
  have e1:(pickOrder ((model prog w).w.params.setOrder a ep) es)[i]?.map (λe=>(e.2,k))=some (x,k):=by
   rw[ev,Xax,Xbd] at hx
   obtain⟨e,h1,h2⟩:=XaD.mp hx
   show(pickOrder (w.params.setOrder a ep) es)[i]?.map _=_
   rw[h1,<- h2];rfl
  rw[e1]
  refine Xaa (XaX hI O (by simp) ?_)
  have h1:=zet (j:=0) (x:=.int (k:Int) 0) hI
  refine Xaa (XaX h1 O (by simp) ?_)
  have h2:=zet (j:=1) (x:=.int ((i:Int)+1) 0) h1
  refine Xac {_,O,?_}
  refine Xac (hq _ (.int (k:Int) 0) ((Heap.SameBut.update _ _ _).trans (Heap.SameBut.update _ _ _)) h2 (.inl {bt,⟨k,O⟩,ev}) λT z=>by cases z)
 .
  have hi:i<es.size:=by
   have:=(Xas.mp hx).1
   rw[ev,Xaf] at this;simpa using this
  have hip:i<t.place.size:=by omega
  show wpAny _ _ (setNext a (k:Int).toNat (i:Int).toNat (ep:Int).toNat >>= _) _ _ s
  rw[Xap,Xap,Xap]
  unfold setNext setsByText
  refine Xaa (Xaa (Xbc ha O hf ?_))
  refine Xaa (Xaa (Xa7 (Xac ?_)))
  rw[show(model prog w).w.params.followText "set-order"=false from bt,if_neg Xaj]
  rw (transparency:=.default) [if_neg (λz=>Xaj (dr.symm.trans z))]
  refine Xaa ?_
  show wpAny _ _ (if(!t.led&&!es.isEmpty)=true then(unsupported "set:maker-not-led" : Sem Unit) else pure ()) _ _ s
  rw[if_neg (by rw[led];exact Xaj)]
  refine Xac (Xac ?_)
  have e1:es[i]?=some (es[i].1,x):=by
   rw[ev,Xax,Xbd,XaJ hi] at hx
   rw[XaJ hi,<- Option.some.inj hx]
  rw[bk,e1,XaJ hip]
  refine Xaa (XaX hI O (by simp) ?_)
  have h1:=zet (j:=0) (x:=.int ((t.place[i]+1:Nat):Int) 0) hI
  refine Xaa (XaX h1 O (by simp) ?_)
  have h2:=zet (j:=1) (x:=.int ((i:Int)+1) 0) h1
  refine Xac {_,O,?_}
  refine Xac (hq _ (.int ((t.place[i]+1:Nat):Int) 0) ((Heap.SameBut.update _ _ _).trans (Heap.SameBut.update _ _ _)) h2 (.inr (.inl {bt,dr,led,{t.place[i]+1,O,zh5 hr hip},ev})) λT z=>by cases z)
 .
  have hip:i<pl.length:=by
   have:=(Xas.mp hx).1
   rw[ev,Xaf] at this;exact this
  have hpi:pl[i]<es.size:=hp _ (Xa6 hip)
  show wpAny _ _ (seqItems? (.ref T) >>= _) _ _ s
  refine Xaa (Xa4 eT O ?_)
  dsimp only
  rw[Xap,List.getElem?_toArray,Xax,Xaz hip]
  show wpAny _ _ (setNextDrawn a ((pl[i]:Nat):Int).toNat (ep:Int).toNat >>= _) _ _ s
  rw[Xap,Xap]
  unfold setNextDrawn
  refine Xaa (Xaa (Xbc ha O hf ?_))
  dsimp only
  rw[show(ep != ep)=false by simp,if_neg Xaj]
  have e1:es[pl[i]]?=some (es[pl[i]].1,x):=by
   rw[ev,Xax,Xaz hip,Option.map_some,XaJ hpi] at hx
   rw[XaJ hpi,<- Option.some.inj hx];rfl
  rw[e1]
  refine Xac ?_
  refine Xaa (XaX hI O (by simp) ?_)
  have h1:=zet (j:=1) (x:=.int ((i:Int)+1) 0) hI
  refine Xac {_,O,?_}
  refine Xac (hq _ (.ref T) (Heap.SameBut.update _ _ _) h1 (.inr (.inr {bt,T,pl,O,?_,hl,hp,ev})) λT' z=>z)
  exact(Heap.SameBut.update s.heap I _).extBut T _ (far eT O) eT
end
def zdi:Slot "set_iterator" "__iter__" "set_iterator.__iter__" :=
 .of (owner := "set_iterator") (n := "__iter__") (by rw[typeLookup_type,builtinLookup_eq_fast];kernel_rfl) (by decide +kernel) (by decide +kernel) (by decide +kernel) (by first|exact .inl (by decide +kernel)|exact .inr (by decide +kernel)) (by rw[isSubtype_type];kernel_rfl)
def ze5:entryFor table "set_iterator.__iter__"=some Builtin.«dict_keyiterator.__iter__»:=entryFor_alias (id' := "dict_keyiterator.__iter__") (by kernel_rfl) O (by decide +kernel) (by kernel_rfl)
def zf7(a:Value):argsOk "set_iterator.__iter__" {[a],[]}:=by
 unfold argsOk;rw[signature?_of (id := "set_iterator.__iter__") (n:=['_','_','r','e','t','i','_','_']) (o:=['r','o','t','a','r','e','t','i','_','t','e','s']) (by kernel_rfl) zgZ];kernel_rfl
section
variable{prog:Program}{w:World}{A:Around}{E:Value->Shared->Prop}{s:Shared}
def zgb{α:Type}{Q:α->Shared->Prop}(hh:A.handled=none)(q:∀e,(∃o,(s.heap.push (seqObj "tuple" #[] 0)).push o=(s.heap.push (seqObj "tuple" #[] 0)).push o)->∀h',Heap.ExtBut s.heap.objs.size s.heap h'->(∀b o,s.heap.get? b=some o->h'.get? b=some o)->(∃o,h'.get? e=some o/\o.cls=.type "StopIteration")->E (.ref e) {s with heap:=h'}) :
  wpAny (model prog w) A (do raiseNew (<- newExc (.type "StopIteration") [])) Q E s:=by
 refine Xaa ?_;simp only[newExc,newTuple];refine Xaa (XaS ?_ (by size_fits))
 refine Xaa (m:=firstArgMember _ _) (wpAny_of_eq (a:=Value.none) (by first|rfl|(simp only[firstArgMember];rfl)) ?_);refine XaS ?_ (by size_fits)
 simp only[raiseNew];refine Xaa (wpAny_handled ?_);rw[hh];refine Xaa (Xac (wpAny_throw ?_))
 refine q _ ⟨default,O⟩ _ (λb o _ e=>Xab _ (Xab _ e)) (λb o e=>Xab _ (Xab _ e)) {_,Xag _ O,O}
def zlO{I a:Addr}{es:Array (Int×Value)}{ep:Nat}{t:SetTable}{vs:List Value}{first:Value}{Q:Option Value->Shared->Prop}(hh:A.handled=none)(hI:s.heap.get? I=some (siO first (vs.length:Int) (.ref a) (es.size:Int) (ep:Int)))(ha:s.heap.get? a=some (sObj es ep t))(hf:t.fits es.size=true)(hr:t.place.toList.Pairwise (· < ·))
  (m:zh8 w a es ep t vs s.heap vs.length first)
  (hq:∀h',Heap.ExtBut I s.heap h'->Q none {s with heap:=h'}):wpAny (model prog w) A (pyNext (.ref I)) Q E s:=by
 have hT:s.TypeIs (.ref I) "set_iterator" := {_,hI,O}
 unfold pyNext
 refine Xaa (Xbt (wpAny_callSpecial?_slot (name:=Str.ofString "__next__") hT slot_si_next (XaQ slot_si_next hT zcR ?_ (zdm _))))
 delta Builtin.«set_iterator.__next__»
 refine Xaa (m:=slotArgs "__next__" 0 _) (Xac ?_)
 dsimp only
 refine Xaa (wpAny_fieldsOf hI O ?_)
 show wpAny _ _ (setEntries a >>= _) _ _ s
 refine Xaa (wpAny_setEntries_of ha O hf ?_)
 rw[if_neg (by simp)]
 
 have last:∀{Q':PySem.Fin->Shared->Prop} (h1:Heap),Heap.SameBut I s.heap h1->wpAny (model prog w) A.in1 (do raiseNew (<- newExc (.type "StopIteration") [])) Q' (λe s'=>wpAny (model prog w) A (do let __do_lift <- isInstance e (Value.type "StopIteration");if __do_lift=true then pure none else throw e) Q E s') {s with heap:=h1}:=λ{Q'} h1 b1=>by
  refine zgb hh λe _ h' _ k he=>?_
  obtain⟨o,ho,hcl⟩:=he
  refine Xaa (wpAny_isInstance (T := "StopIteration") (b:=true) ⟨o,ho,hcl⟩ isSubtype_stop ?_)
  exact Xac (hq h' λb o hb e=>k b o (b1.extBut b o hb e))
 rcases m with⟨bt,⟨k,rfl⟩,ev⟩|⟨bt,dr,led,⟨k,rfl,bk⟩,ev⟩|⟨bt,T,pl,rfl,eT,hl,hp,ev⟩
 .show wpAny _ _ (setNext a (k:Int).toNat (vs.length:Int).toNat (ep:Int).toNat >>= _) _ _ s
  rw[Xap,Xap,Xap]
  unfold setNext setsByText setWalk
  refine Xaa (Xaa (Xbc ha O hf ?_))
  refine Xaa (Xaa (Xa7 (Xac ?_)))
  rw[show(model prog w).w.params.followText "set-order"=true from bt,if_pos O,show(ep != ep)=false by simp,if_neg Xaj]
  refine Xaa (Xaa (Xbc ha O hf ?_))
  unfold setsByText
  refine Xaa (Xaa (Xa7 (Xac ?_)))
  rw[show(model prog w).w.params.followText "set-order"=true from bt,if_pos O]
  refine Xaa (Xa7 (Xac (Xac ?_)))
  have e1:(pickOrder ((model prog w).w.params.setOrder a ep) es)[vs.length]?=none:=by
   rw[<- Xbd,XaL]
   rw[ev,Xaf];exact Xad _
  rw[e1]
  refine Xaa (XaX hI O (by simp) ?_)
  exact last _ (Heap.SameBut.update _ _ _)
 .show wpAny _ _ (setNext a (k:Int).toNat (vs.length:Int).toNat (ep:Int).toNat >>= _) _ _ s
  rw[Xap,Xap,Xap]
  unfold setNext setsByText
  refine Xaa (Xaa (Xbc ha O hf ?_))
  refine Xaa (Xaa (Xa7 (Xac ?_)))
  rw[show(model prog w).w.params.followText "set-order"=false from bt,if_neg Xaj]
  rw (transparency:=.default) [if_neg (λz=>Xaj (dr.symm.trans z))]
  refine Xaa ?_
  show wpAny _ _ (if(!t.led&&!es.isEmpty)=true then(unsupported "set:maker-not-led" : Sem Unit) else pure ()) _ _ s
  rw[if_neg (by rw[led];exact Xaj)]
  refine Xac (Xac ?_)
  have e1:es[vs.length]?=none:=by
   rw[<- Xbd,XaL]
   rw[ev,Xaf];exact Xad _
  rw[bk,e1]
  refine Xaa (XaX hI O (by simp) ?_)
  exact last _ (Heap.SameBut.update _ _ _)
 .show wpAny _ _ (seqItems? (.ref T) >>= _) _ _ s
  refine Xaa (Xa4 eT O ?_)
  dsimp only
  have e1:(pl.map λ(p:Nat)=>Value.int (p:Int) 0).toArray[vs.length]?=none:=by
   rw[List.getElem?_toArray,XaL]
   rw[ev,Xaf,Xaf];exact Xad _
  rw[Xap,e1]
  refine Xaa (XaX hI O (by simp) ?_)
  have h1:=zet (j:=0) (x:=.int 0 0) hI
  refine Xaa (XaX h1 O (by simp) ?_)
  exact last _ ((Heap.SameBut.update _ _ _).trans (Heap.SameBut.update _ _ _))
def zj4{I a:Addr}{es:Array (Int×Value)}{ep:Nat}{t:SetTable}{vs:List Value}{fp:List Addr}(hh:A.handled=none)(hf:t.fits es.size=true)(hr:t.place.toList.Pairwise (· < ·))(hIa:I≠a)(hI:I∈fp)(ha:a∈fp) :
  Walks prog w A I fp [I] vs.length (λi v=>vs[i]?=some v) (λi h=>∃first,h.get? I=some (siO first (i:Int) (.ref a) (es.size:Int) (ep:Int))/\h.get? a=some (sObj es ep t)/\zh8 w a es ep t vs h i first/\∀T:Addr,first=.ref T->T∈fp) where
 sub:=λb hb=>by rw[Xae.mp hb];exact hI
 frame:=λi h h' ⟨first,e1,e2,m,m2⟩ k=>by
  refine{first,k I hI _ e1,k a ha _ e2,?_,m2}
  rcases m with z|z|⟨bt,T,pl,ef,eT,r⟩
  .exact .inl z
  .exact .inr (.inl z)
  .exact .inr (.inr {bt,T,pl,ef,k T (m2 T ef) _ eT,r})
 item:=λi s Q E hi ⟨first,e1,e2,m,m2⟩ q=>by
  have hx:vs[i]?=some vs[i]:=Xaz hi
  refine zlN e1 e2 hf hr m hx λh' first' b g m' mt=>?_
  have:=q vs[i] h' s.toks hx {first',g,b.extBut a _ (Ne.symm hIa) e2,m',?_} λb' o hb' e=>b.extBut b' o (λz=>hb' (by rw[z];exact Xae.mpr O)) e
  .exact this
  .exactλT z=>m2 T (mt T z)
 done:=λs Q E ⟨first,e1,e2,m,m2⟩ q=>zlO hh e1 e2 hf hr m λh' k=>q h' s.toks λb o hb e=>k b o (λz=>hb (by rw[z];exact Xae.mpr O)) e
 self:=λi s Q E ⟨first,e1,e2,m,m2⟩ q=>by
  have hT:s.TypeIs (.ref I) "set_iterator" := {_,e1,O}
  refine wpAny_pyIter_slot hT zdi (XaQ zdi hT ze5 ?_ (zf7 _))
  delta Builtin.«dict_keyiterator.__iter__»
  refine Xaa (m:=slotArgs "__iter__" 0 _) (Xac ?_)
  exact Xac {_,O,"set_iterator",_,hT,slot_si_next.lookup,q}
end
section
variable{prog:Program}{w:World}{A:Around}{E:Value->Shared->Prop}{s:Shared}
def zht(es:Array (Int×Value)):(List.range es.size).map (λp=>((es[p]?).getD (0,.none)).2)=es.toList.map (·.2):=by
 apply List.ext_getElem
 .simp
 .intro i h1 h2
  have hi:i<es.size:=by simpa using h1
  simp[XaJ hi]
def zj7{a:Addr}{es:Array (Int×Value)}{ep:Nat}{t:SetTable}{Q:Value->Shared->Prop}(ha:s.heap.get? a=some (sObj es ep t))(Tb:Tab (!w.params.followText "set-order") t es.size)(hz:es.size<=sizeLine)
  (q:∀(h':Heap) (d:Drawn) (I:Addr) (first:Value) (vs:List Value),(∀b o,s.heap.get? b=some o->h'.get? b=some o)->h'.get? I=some (siO first 0 (.ref a) (es.size:Int) (ep:Int))->zh8 w a es ep t vs h' 0 first->vs.Perm (es.toList.map (·.2))->s.heap.objs.size<=I->I<h'.objs.size->(∀T:Addr,first=.ref T->s.heap.objs.size<=T/\T<h'.objs.size)->Q (.ref I) {s with heap:=h',drawn:=d}) :
  wpAny (model prog w) A (pyIter (.ref a)) Q E s:=by
 have hT:s.TypeIs (.ref a) "set" := {_,ha,O}
 refine wpAny_pyIter_slot hT F.slot_set_iter (XaQ F.slot_set_iter hT zfQ ?_ (F.args_set_iter_1 _))
 delta Builtin.«frozenset.__iter__»
 unfold Builtin.Frozenset.slot0
 refine Xaa (Xaa (m:=slotArgs "__iter__" 0 _) (Xac ?_))
 unfold Builtin.Frozenset.addrOf
 refine Xac ?_
 dsimp only
 unfold Builtin.Frozenset.sizeOf
 refine Xaa (Xaa (wpAny_setEntries_of ha O Tb.fits (Xac ?_)))
 unfold setDrawn setsByText
 refine Xaa (Xaa (Xbc ha O Tb.fits ?_))
 refine Xaa (Xaa (Xa7 (Xac (Xac ?_))))
 rw[show(model prog w).w.params.followText "set-order"=w.params.followText "set-order" from O]
 have fin:∀(s1:Shared) (first:Value),s1.heap.get? a=some (sObj es ep t)->(Q (.ref s1.heap.objs.size) {s1 with heap:=s1.heap.push (siO first 0 (.ref a) (es.size:Int) (ep:Int))}) ->
   wpAny (model prog w) A.in1 (do let __do_lift <- setEpoch a;let __do_lift <- newFields "set_iterator" [first,rawInt 0,.ref a,rawInt (es.size:Int),rawInt (__do_lift:Int)];ret __do_lift) (λfin s'=>∃v,fin=.done (.ret v)/\∃T' r,s'.TypeIs v T'/\typeLookup (.type T') (Str.ofString "__next__")=pure (some r)/\Q v s') E s1:=λs1 first h1 hq=>by
  refine Xaa (wpAny_setEpoch_of h1 O Tb.fits ?_)
  refine Xaa (XaS ?_)
  exact Xac {_,O,"set_iterator",_,{_,Xag _ O,O},slot_si_next.lookup,hq}
 have plain:∀vs:List Value,zh8 w a es ep t vs (s.heap.push (siO (.int 0 0) 0 (.ref a) (es.size:Int) (ep:Int))) 0 (.int 0 0)->vs.Perm (es.toList.map (·.2))->Q (.ref s.heap.objs.size) {s with heap:=s.heap.push (siO (.int 0 0) 0 (.ref a) (es.size:Int) (ep:Int))}:=λvs m p =>
  q _ s.drawn s.heap.objs.size (.int 0 0) vs (λb o e=>Xab _ e) (Xag _ O) m p (Xad _) (by rw[XaC];exact Xbm _) (λT z=>by cases z)
 cases bt:w.params.followText "set-order" with
 | true =>
  rw (transparency:=.default) [if_neg (show¬ (!true&&(!t.plain&&decide (es.size>1)))=true from Xaj)]
  refine Xaa (Xac (fin s (rawInt 0) ha (plain _ (.inl {bt,{0,O},O}) ((ziQ _ es).map _))))
 | false =>
  have led:t.led=true:=by have:=Tb.led;rw[bt] at this;exact this
  cases hd:(!t.plain&&decide (es.size>1)) with
  | false =>
   rw (transparency:=.default) [if_neg (show¬ (!false&&(!t.plain&&decide (es.size>1)))=true by rw[hd];exact Xaj)]
   refine Xaa (Xac (fin s (rawInt 0) ha (plain _ (.inr (.inl {bt,hd,led,{0,O,zh4 Tb.ris},O})) .rfl)))
  | true =>
   rw (transparency:=.default) [if_pos (show(!false&&(!t.plain&&decide (es.size>1)))=true by rw[hd];rfl)]
   refine Xaa (zeA es.size (List.range es.size) s _ (by simp) λps d pp=>?_)
   refine Xaa (wpAny_newTuple ?_ ?_)
   .refine fin {s with heap:=s.heap.push {cls:=.type "tuple",data:=.seq (ps.map λ(i:Nat)=>rawInt (i:Int)).toArray},drawn:=d} (.ref s.heap.objs.size) (Xab _ ha) ?_
    have hps:∀p∈ps,p<es.size:=λp hp=>List.mem_range.mp (pp.mem_iff.mp hp)
    refine q _ d _ (.ref s.heap.objs.size) (ps.map λp=>((es[p]?).getD (0,.none)).2) (λb o e=>Xab _ (Xab _ e)) (Xag _ O) (.inr (.inr {bt,s.heap.objs.size,ps,O,Xab _ (Xag _ O),by rw[pp.length_eq,Xa2],hps,O})) ?_ ?_ ?_ ?_
    .rw[<- zht];exact pp.map _
    .show s.heap.objs.size<=(s.heap.push _).objs.size
     rw[XaC];exact Xbv _
    .show(s.heap.push _).objs.size<((s.heap.push _).push _).objs.size
     simp only[XaC];exact Xbm _
    .intro T z
     cases z
     refine{Xad _,?_}
     show s.heap.objs.size<((s.heap.push _).push _).objs.size
     simp only[XaC];exact Nat.lt_succ_of_lt (Xbm _)
   .rw[Xaf,pp.length_eq,Xa2];exact hz
def fpOf:Value->List Addr
 | .ref T=>[T]
 | _=>[]
def zeH:typeLookup (.type "set") (Str.ofString "__len__")=pure (some (.builtin "set.__len__")):=F.slot_set_len.lookup
def zj8{a:Addr}(hT:s.TypeIs (.ref a) "set"){Q:Bool->Shared->Prop}(h:Q false s):wpAny (model prog w) A (Builtin.List.listLengthHint (.ref a)) Q E s:=by
 unfold Builtin.List.listLengthHint;refine Xaa (wpAny_specialOf hT zeH ?_)
 generalize hid:("set.__len__" : String)=id1;wp_delta
 rw[show splitId id1=some ("set","__len__") from by subst hid;decide +kernel];subst hid
 refine Xaa (wpAny_isInstance (T := "set") (b:=true) hT (by rw[isSubtype_type];kernel_rfl) ?_);refine wpAny_ite_split (λz=>absurd z (by decide)) (λ_=>?_)
 refine wpAny_ite_split (λ_=>?_) (λz=>absurd (by decide +kernel) z);exact Xaa (wpAny_typeOf hT (Xac h))
def zlC{es:List (Int×Value)}(h:∀e∈es,EOk e):∀{vs:List Value},vs.Perm (es.map (·.2))->∃ns,IntsAre vs ns/\ns.Perm (zjv es):=λ{vs} p=>by
 have vI:∀v∈vs,∃n t,v=Value.int n t:=λv hv=>by
  obtain⟨e,he,rfl⟩:=Xa1.mp (p.mem_iff.mp hv)
  obtain⟨n,t,rfl⟩:=h e he
  exact⟨n,t,O⟩
 have g:∀l:List Value,(∀v∈l,∃n t,v=Value.int n t)->IntsAre l (l.map λv=>eInt (0,v)):=λl=>by
  induction l with
  | nil=>exactλ_=>.nil
  | cons v l ih =>
   intro hl
   obtain⟨n,t,rfl⟩:=hl v (Xat ..)
   exact .cons _ _ (ih λv hv=>hl v (Xau _ hv))
 refine{vs.map λv=>eInt (0,v),g vs vI,?_}
 have q:=p.map λv=>eInt (0,v)
 rw[List.map_map] at q
 exact q
def zgg{a:Addr}{S:List Int}{R:List Value->Shared->Prop}(hh:A.handled=none)(hS:SetI (!w.params.followText "set-order") s.heap a S)(hz:S.length<1000)
  (h:∀(h':Heap) (tk:Nat) (d:Drawn) (ns:List Int) (vs:List Value),(∀b o,s.heap.get? b=some o->h'.get? b=some o)->IntsAre vs ns->ns.Perm S->R vs {s with heap:=h',toks:=tk,drawn:=d}) :
  wpAny (model prog w) A (collect (.ref a)) R E s:=by
 obtain⟨es,ep,t,ha,hE,hP,hN,Tb⟩:=hS
 have hsz:es.size=S.length:=by rw[<- Array.length_toList,<- hP.length_eq];unfold zjv;rw[Xaf]
 have hzl:es.size<=sizeLine:=Xak (show es.size<=1000 by omega) (by decide)
 have hal:a<s.heap.objs.size:=Xai ha
 unfold collect
 refine Xaa (wpAny_runValue (codeAny_builtin F.entry_proto_collect ?_));rw[Around.under_plainId F.plain_proto_collect _]
 show wpAny _ A.in1 (newList [] >>= λl=>again (.builtin "list.__iadd__" {[l,.ref a],[]})) _ _ s;refine Xaa (XaS ?_)
 refine Xac {plainId_quiet F.plain_list_iadd _,codeAny_builtin F.entry_list_iadd ?_};rw[Around.under_plainId F.plain_list_iadd _]
 generalize hD:s.heap.objs.size=D
 have hg:s.heap.push {cls:=.type "list",data:=.seq ([]:List Value).toArray}=s.heap.push (seqObj "list" #[] 0):=rfl
 generalize hh1:s.heap.push {cls:=.type "list",dict:=none,data:=.seq ([]:List Value).toArray}=h1
 have k1:∀b o,s.heap.get? b=some o->h1.get? b=some o:=λb o e=>by rw[<- hh1];exact Xab _ e
 have eD:h1.get? D=some {cls:=.type "list",data:=.seq #[]}:=by rw[<- hh1,<- hD];exact Xag _ O
 have sz1:h1.objs.size=D+1:=by rw[<- hh1,XaC,hD]
 have ha1:=k1 _ _ ha
 show wpAny _ A.in1 (Builtin.List.listExtendWith (.ref D) (.ref a) (.ref D)) _ _ {s with heap:=h1}
 unfold Builtin.List.listExtendWith
 refine Xaa (wpAny_typeOf (show Shared.TypeIs {s with heap:=h1} (.ref a) "set" from{_,ha1,O}) ?_)
 have ns:Builtin.List.listSameRef (.ref D) (.ref a)=false:=by
  have hne:D≠a:=by rw[<- hD];exact Xbe hal
  simp[Builtin.List.listSameRef,hne]
 rw[if_neg (by rw[ns];decide)]
 refine Xaa (zj7 (s:={s with heap:=h1}) ha1 Tb hzl λh2 d I first vs k2 eI m pv hI hI2 hT=>?_)
 have k12:∀b o,s.heap.get? b=some o->h2.get? b=some o:=λb o e=>k2 b o (k1 b o e)
 have ha2:=k12 _ _ ha
 refine Xaa (XaE ?_)
 refine zj8 (show Shared.TypeIs {s with heap:=h2,drawn:=d} (.ref a) "set" from{_,ha2,O}) ?_
 have eD2:=k2 _ _ eD
 refine wpAny_ite_split (λ_=>?_) (λz=>absurd (by decide +kernel) z)
 refine Xaa (XbA (Xaa ?_))
 show wpAny _ A.in1 (updateSeq D (·.push .none) >>= λ_=>updateSeq D (·.pop)) _ _ {s with heap:=h2,drawn:=d}
 refine Xaa (wpAny_updateSeq eD2 O ?_)
 have eD3:=XaK (Obj.mapSeq (·.push Value.none)) eD2 O
 refine wpAny_updateSeq eD3 O ?_
 have eD4:=XaK (Obj.mapSeq (·.pop)) eD3 O
 generalize hh4:(h2.update D (Obj.mapSeq (·.push Value.none))).update D (Obj.mapSeq (·.pop))=h4 at eD4
 have k24:∀b o,b≠D->h2.get? b=some o->h4.get? b=some o:=λb o hb e=>by
  rw[<- hh4]
  exact(XaM _ _ (Ne.symm hb)).trans ((XaM _ _ (Ne.symm hb)).trans e)
 have naD:a≠D:=by rw[<- hD];exact Xay hal
 have hI':h1.objs.size<=I:=hI
 have hT':∀T:Addr,first=.ref T->h1.objs.size<=T:=λT z=>(hT T z).1
 have nID:I≠D:=λz=>by rw[z,sz1] at hI';exact absurd hI' (Nat.not_succ_le_self D)
 have nTD:∀T:Addr,first=.ref T->T≠D:=λT z z2=>by have q:=hT' T z;rw[z2,sz1] at q;exact absurd q (Nat.not_succ_le_self D)
 have hIa:I≠a:=λz=>by rw[z,sz1,<- hD] at hI';exact absurd (Xao hal (Xak (Xbv _) hI')) (XaY _)
 have W:Walks prog w A.in1 I (I::a::fpOf first) [I] vs.length (λi v=>vs[i]?=some v) _:=zj4 (es:=es) (ep:=ep) (t:=t) (vs:=vs) hh Tb.fits Tb.ris hIa (Xat ..) (Xau _ (Xat ..))
 have hSf:D∉I::a::fpOf first:=λz=>by
  rcases Xan.mp z with z|z
  .exact nID z.symm
  .rcases Xan.mp z with z|z
   .exact naD z.symm
   .cases first with
    | ref T=>exact nTD T O (Xae.mp z).symm
    | _=>cases z
 refine Xac {plainId_quiet F.plain_extend_loop _,codeAny_extend_loopS W.toS (by rw[pv.length_eq,Xaf,Array.length_toList];exact hzl) D hSf (.ref D) vs.length 0 {s with heap:=h4,drawn:=d} _ _ O (Nat.zero_le _) ?_ eD4 (ItemsOf.nil _) λs' acc' c' hm hS' hacc=>?_}
 .refine{first,k24 _ _ nID eI,k24 _ _ naD ha2,?_,λT z=>?_}
  .rcases m with z|z|⟨bt,T,pl,ef,eT,r⟩
   .exact .inl z
   .exact .inr (.inl z)
   .exact .inr (.inr {bt,T,pl,ef,k24 _ _ (nTD T ef) eT,r})
  .subst z;exact Xau _ (Xau _ (Xae.mpr O))
 .show wpAny _ A (load D >>= _) _ _ s'
  refine Xaa (wpAny_load hS' (Xac ?_))
  have ev:acc'.toList=vs:=by
   obtain⟨z1,z2⟩:=hacc
   apply List.ext_getElem?
   intro j
   by_cases hj:j<acc'.size
   .have e1:acc'.toList[j]?=some acc'[j]:=by rw[Xbd,XaJ hj]
    rw[e1,z2 j acc'[j] (XaJ hj)]
   .rw[XaL (by rw[Array.length_toList];exact Nat.not_lt.mp hj),XaL (by rw[<- z1];exact Nat.not_lt.mp hj)]
  rw[ev]
  obtain⟨nn,hi,hp⟩:=zlC (es:=es.toList) hE pv
  have kk:∀b o,s.heap.get? b=some o->s'.heap.get? b=some o:=λb o e=>by
   have hb:=Xai e
   have nb:b≠D:=λz=>by rw[z,hD] at hb;exact absurd hb (XaY _)
   refine hm.heap b o (λz=>?_) (k24 b o nb (k12 b o e))
   rcases Xan.mp z with z|z
   .exact nb z
   .rw[Xae.mp z] at hb
    rw[sz1,<- hD] at hI'
    exact absurd (Xao hb (Xak (Xbv _) hI')) (XaY _)
  have fin:=h s'.heap s'.toks d nn vs kk hi (hp.trans hP)
  have g:s'.gens=s.gens:=hm.gens
  have dd:s'.drawn=d:=hm.drawn
  have oo:s'.os=s.os:=hm.os
  have e':s'={s with heap:=s'.heap,toks:=s'.toks,drawn:=d}:=by
   rw[<- g,<- dd,<- oo]
  rw[e'];exact fin
end
end L2
end
section
namespace L2
open PySem PySem.Spec PyProof.Rows HT
def Inv.draw{X:Cx}{pins:List (Addr×Obj)}{U:St}{H:Hp}{s:Shared}(I:Inv X pins U H s)(d:Drawn):Inv X pins U H {s with drawn:=d}:=⟨I.ok,I.os,I.bare,I.base,I.loc,I.cell,I.free,I.freeC,I.pin,I.hok,I.len⟩
def stI(w:World)(a:Addr)(S:List Int):Heap->Prop:=λh=>SetI (!w.params.followText "set-order") h a S
def stI_ok{P:Program}{w:World}{H:Hp}{h:Heap}{a:Addr}{S:List Int}(x:stI w a S h):ObjOk P w H h a (.ext (stI w a S)):=by
 refine{x,?_,λh1 h2 y k=>y.at k}
 obtain⟨es,ep,t,g,_⟩:=x
 exact{_,g}
def zfW{X:Cx}(hc:X.calm=true):zbL X (.builtin "sorted") (λxs H Q=>∃(a:Addr) (S:List Int),xs=[.ref a]/\H a=some (.ext (stI X.w a S))/\S.length<64 /\
  ∀(l:Addr) (ns:List Int),H l=none->ns.Perm S->ns.Pairwise (·<=·)->Q (.ref l) (upd H l (.lst (ns.map V.int)))):=by
 intro pins s U H xs us Q I r h
 obtain⟨a,S,rfl,ea,h64,q⟩:=h
 obtain⟨u,rfl,r1⟩:=zbW r
 obtain rfl:u=Value.ref a:=r1
 obtain⟨hS,_,_⟩:=(show ObjOk X.prog X.w H s.heap a (.ext (stI X.w a S)) from I.hok a _ ea)
 refine ziw (zgg (I.ok.hd hc) hS (by omega) λh' tk d ks vs kp hI hP=>?_)
 have hl:vs.length=ks.length:=hI.length
 have hk:ks.length<64:=by rw[hP.length_eq];exact h64
 refine{Xak (show vs.length<=64 by omega) (by decide),?_}
 refine list_sort_tree (s:={s with heap:=h'.push (seqObj "list" vs.toArray 0),toks:=tk,drawn:=d}) (Xag _ O) hI (by omega) λout ns a1 a2 a3=>{O,?_}
 have hsz:h'.objs.size<(h'.push (seqObj "list" vs.toArray 0)).objs.size:=by rw[XaC];exact Xbm _
 have I2:Inv X pins U H {s with heap:=h',toks:=tk,drawn:=d}:=(I.kept (t':=tk) kp).draw d
 obtain⟨c,hc'⟩:=sortedHeap_at (a:=h'.objs.size) (vs:=vs) (out:=out) (Xag (h:=h') (o:=seqObj "list" vs.toArray 0) O)
 refine{.ref _,_,I2.laid (t':=tk) (o:=.lst (ns.map V.int)) (λb o eb=>?_) (Xad _) ?_,O,q _ ns (I2.hok.fresh (Xad _)) (a2.trans hP) a3}
 .have hb:=Xai eb
  rw[sortedHeap_old (Xay hb) (Nat.lt_trans hb hsz)];exact Xab _ eb
 .refine{?_,out.toList,_,zdJ a1,by simpa[seqObj] using hc'}
  rw[Xaf,a2.length_eq];exact Xak (Nat.le_of_lt hk) (by decide)
def zj1(elt target iter:Expr)(ifs:List Expr)(scope:Scope)(pos:Pos)(it acc:Value)(env:Env):compTurn (.SetComp elt [{target,iter,ifs,0}] scope pos) 0 it acc env=(do
   standAt iter.pos;match <- pyNext it with
   | none=>pure (.done .next)
   | some v=>do
    letOwnedTupleGo target it v;assign target env v;let mut ok:=true
    for c in ifs do if ok then ok <- isTrue c env (eval c env)
    if ok then(do let v <- eval elt env;standAt elt.pos;let _ <- call (.builtin "set.add") [acc,v])
    again (.compLoop (.SetComp elt [{target,iter,ifs,0}] scope pos) 0 it acc env)):=by rfl
section
variable{prog:Program}{w:World}{A:Around}{E:Value->Shared->Prop}{R:Result->Shared->Prop}{s:Shared}
def ziu{elt target iter ifs rest scope pos it acc env}
  (h0:codeAny (model prog w) A (.compLoop (.SetComp elt ({target,iter,ifs,0}::rest) scope pos) 0 it acc env) R s)
  (h:wpAny (model prog w) A (pyIter it) (λit' s'=>codeAny (model prog w) A (.compLoop (.SetComp elt ({target,iter,ifs,0}::rest) scope pos) 0 it' acc env) R s') (notedBy (model prog w) A env λx s'=>R (.error x) s') s) :
  codeAny (model prog w) A (.compStart (.SetComp elt ({target,iter,ifs,0}::rest) scope pos) 0 it acc env) R s:=by
 refine codeAny_of_tree ?_
 show wpAny _ A ((compStart (.SetComp elt ({target,iter,ifs,0}::rest) scope pos) 0 it acc env).onRaise (λx=>do noteFrame x env;standAt theWindowsPlace)) _ _ s
 refine wpAny_notedAt ?_;unfold compStart;show wpAny _ A (ask >>= _) _ _ s;refine Xaa (Xa7 (wpAny_ite ?_))
 split
 .first|exact Xaa (Xac (Xac (And.intro O h0)))|exact Xac (And.intro O h0)
 .first|exact Xaa (XbA (Xaa (Xa9 (Xaa (Xav h (λit' s' h'=>Xac (And.intro O h')) λ_ _ x=>x)))))|(refine Xaa (XbA ?_);show wpAny _ _ (standAt iter.pos >>= _) _ _ s;exact Xaa (Xa9 (Xaa (Xav h (λit' s' h'=>Xac (And.intro O h')) λ_ _ x=>x))))
def EMs(prog:Program)(w:World)(A:Around)(elt:Expr)(env:Env)(D:Addr)(p:Shared->Prop)(s:Shared):Prop:=
 wpAny (model prog w) A (eval elt env) (λv s5=>wpAny (model prog w) A (call (.builtin "set.add") [.ref D,v]) (λ_ s6=>p s6) (λ_ _=>False) s5) (λ_ _=>False) s
def zkA{elt target iter:Expr}{ifs:List Expr}{scope:Scope}{pos:Pos}{it:Value}:CLoop prog w A target ifs (.SetComp elt [{target,iter,ifs,0}] scope pos) it (EMs prog w A elt) where
 mono:=λenv D p q s h k=>Xav h (λv s5 h5=>Xav h5 (λ_ s6 h6=>k s6 h6) λ_ _ e=>e) λ_ _ e=>e
 loop:=λenv D I {R} turn n s h=>by
  refine codeAny_loop O I (λn s hI=>?_) n h
  show wpAny _ A ((compTurn (.SetComp elt [{target,iter,ifs,0}] scope pos) 0 it (.ref D) env).onRaise (λx=>do noteFrame x env;theTreesLotGoes x)) _ _ s
  refine wpAny_noted ?_
  rw[zj1]
  refine Xaa (Xa9 (Xaa (Xav (turn n s hI) (λr s1 h1=>?_) λ_ _ h'=>h'.elim)))
  cases r with
  | none=>exact Xac h1
  | some v =>
   refine Xaa (Xav h1 (λ_ s2 h2=>?_) λ_ _ h'=>h'.elim)
   refine Xaa (Xav h2 (λ_ s3 h3=>Xaa (Xav h3 (λok s4 h4=>?_) λ_ _ h'=>h'.elim)) λ_ _ h'=>h'.elim)
   cases ok with
   | false=>exact Xac ⟨O,h4⟩
   | true =>
    exact Xaa (Xaa (Xav h4 (λx s5 h5=>Xaa (Xa9 (Xaa (Xav h5 (λ_ s6 h6=>Xac (Xac ⟨O,h6⟩)) λ_ _ h'=>h'.elim)))) λ_ _ h'=>h'.elim))
 start:=λenv D R s h0 h=>ziu h0 h
end
def dd(ys:List Int):List Int:=ys.foldl (λS n=>if n∈S then S else S++[n]) []
def zmz(ys:List Int)(n:Int):dd (ys++[n])=if n∈dd ys then dd ys else dd ys++[n]:=by unfold dd;rw[List.foldl_append];rfl
def zlw(ys:List Int):(dd ys).length<=ys.length:=by
 have g:∀(l:List Int) (S:List Int),(l.foldl (λS n=>if n∈S then S else S++[n]) S).length<=S.length+l.length:=by
  intro l
  induction l with
  | nil=>intro S;exact Xad _
  | cons a l ih =>
   intro S
   refine Xak (ih _) ?_
   dsimp only
   split
   .rw[Xar];omega
   .have e1:(S++[a]).length=S.length+1:=by rw[Xah];rfl
    have e2:(a::l).length=l.length+1:=rfl
    omega
 have:=g ys []
 simpa[dd] using this
def mem_dd{ys:List Int}{n:Int}:n∈dd ys↔n∈ys:=by
 have g:∀(l:List Int) (S:List Int),n∈(l.foldl (λS n=>if n∈S then S else S++[n]) S)↔n∈S\/n∈l:=by
  intro l
  induction l with
  | nil=>intro S;simp
  | cons a l ih =>
   intro S
   rw[List.foldl_cons,ih]
   by_cases h:a∈S
   .rw[if_pos h]
    constructor
    .rintro(z|z)
     .exact .inl z
     .exact .inr (Xau _ z)
    .rintro(z|z)
     .exact .inl z
     .rcases Xan.mp z with rfl|z
      .exact .inl h
      .exact .inr z
   .rw[if_neg h];simp[or_assoc]
 have:=g ys []
 simpa[dd] using this
def AOs(w:World)(ys:List Int)(o:Obj):Prop:=∃es ep t,o=sObj es ep t/\(∀e∈es.toList,EOk e)/\(zjv es.toList).Perm (dd ys)/\(dd ys).Nodup/\Tab (!w.params.followText "set-order") t es.size
def AOs.at{w:World}{ys:List Int}{o:Obj}(x:AOs w ys o){h:Heap}{a:Addr}(e:h.get? a=some o):SetI (!w.params.followText "set-order") h a (dd ys):=by
 obtain⟨es,ep,t,rfl,r⟩:=x
 exact⟨es,ep,t,e,r⟩
def emS(te:TE):TEm Int:=λU H Q=>te U H λv H1=>∃i,v=.int i/\Q i H1
def zl4{Y:Cx}{elt:Expr}{te:TE}(he:PE Y elt te)(hxe:Y.xe=λ_ _=>False):PEm 500 Y (EMs Y.prog Y.w Y.A elt) (AOs Y.w) (emS te):=by
 intro D pins s U H Q ys o I hp ao hl h
 refine Xav (he pins s U H _ I h) (λv s5 hh_=>?_) λe s' z=>by rw[hxe] at z;exact z
 obtain⟨x,H5,I5,rx,i,ex,q⟩:=hh_
 subst ex
 obtain⟨t,rfl⟩:=(show∃t,v=Value.int i t from rx)
 have g5:=(I5.pin (D,o) (XaB _ hp)).1
 refine zlR (ao.at g5) (Xa5 (zlw ys) (by omega)) λh' sb x=>?_
 rw[<- zmz] at x
 obtain⟨es,ep,t',g',r'⟩:=x
 exact{i,H5,s5,h',_,_,I5,⟨es,ep,t',O,r'⟩,sb,g',O,q}
section
variable{X:Cx}{Nc:List Str}{src:List (Option Nat)}{scope:Scope}{elt tg iter:Expr}{ifs:List Expr}{pos:Pos}{wi:TI}{g:TG}{tf:TT}{te:TE}
def cxC_xe(cl:List (Str×Addr))(C:Addr)(fp:List Addr)(s2:Shared)(H2:Hp):(cxC X Nc scope cl C fp s2 H2).xe=λ_ _=>False:=rfl
def tSetC(w:World)(src:List (Option Nat))(wi:TI)(g:TG)(tf:TT)(te:TE):TE:=λU H Q=>wi U H λJ H1 =>
 zhi 500 J g tf (emS te) (λys H2=>∀D,H2 D=none->Q (.ref D) (upd H2 D (.ext (stI w D (dd ys))))) (zck src U) H1
def mk_set{prog:Program}{w:World}{A:Around}{E:Value->Shared->Prop}(Q:Value->Shared->Prop)(s:Shared)(q:Q (.ref s.heap.objs.size) {s with heap:=s.heap.push (sObj #[] 0 (.fresh 0 0 (!w.params.followText "set-order")))}):wpAny (model prog w) A (newSet (.type "set")) Q E s:=by
 unfold newSet setsByText
 exact Xaa (Xaa (Xa7 (Xac (XaS q))))
def ev_set(elt:Expr)(gens:List Comprehension)(scope:Scope)(pos:Pos)(env:Env):eval (.SetComp elt gens scope pos) env=comprehension (.SetComp elt gens scope pos) scope env (firstIterPos gens pos) (newSet (.type "set")) (firstAsync gens) (firstIter gens env):=rfl
def zhv(src:List (Option Nat))(hc:X.calm=true)(S:CompOk X.N X.env.scope Nc src scope)(hi:PI X tg iter wi)
  (hg:∀cl C fp s2 H2,PG (cxC X Nc scope cl C fp s2 H2) tg g) (hf:∀cl C fp s2 H2,PF (cxC X Nc scope cl C fp s2 H2) ifs tf) (he:∀cl C fp s2 H2,PE (cxC X Nc scope cl C fp s2 H2) elt te)
  (hs:∀x,foldedSetIterable iter X.env x=pure x:=by intro _;rfl):PE X (.SetComp elt [{tg,iter,ifs,0}] scope pos) (tSetC X.w src wi g tf te):=by
 intro pins s U H Q I h
 obtain⟨cl,hclos,hcl1,hcl2⟩:=zbf I.ok (scope:=scope) S.free
 rw[ev_set]
 refine XbB (use:=none) O hs hclos S.kind (λx hx hl=>by obtain⟨n,k⟩:=x;cases hl;exact zbe S.nodup hx) (thn (hi pins s U H _ I h) λxv s1 h1=>thn h1 λitv s2 h2=>?_)
 obtain⟨it,fp,tn,J,H2,e,I2,T,st2,f2,hw⟩:=h2
 subst e
 refine zeB (α:=Int) (B:=500) (ho:=λD ys=>.ext (stI X.w D (dd ys))) (AO:=AOs X.w) (RR:=λacc C=>compPost (model X.prog X.w) X.A X.xe none (EP X pins U Q) acc C) hc I2 S hcl1 hcl2 T st2 f2 hg hf (λcl C fp s2 H2=>zl4 (he cl C fp s2 H2) (cxC_xe cl C fp s2 H2)) mk_set O ?_ ?_ ?_ zkA hw ?_
 .exact{#[],0,_,O,(λe he=>nomatch he),.rfl,List.nodup_nil,⟨O,List.Pairwise.nil,O⟩}
 .rintro ys o v ⟨es,ep,t,rfl,_⟩ z
  have z':Data.set es ep t=Data.cell v:=z
  cases z'
 .intro ys o H h D ao _ _ g'
  exact stI_ok (ao.at g')
 intro H4 s4 ys m C hC hD Iout hn hCn q
 refine{m,hn,λh' sb=>{.ref s2.heap.objs.size,_,?_,O,q _ hD}}
 obtain⟨f0,f1,f3,f4,f5,f6⟩:=I2.fpOk (H':=upd H4 s2.heap.objs.size (.ext (stI X.w s2.heap.objs.size (dd ys)))) hC hCn
 exact Iout.turned (t':=s4.toks) (it:=C) (λb o hb e=>(sb.2 b hb).trans e) f0 f1 f4 f5 f6
end
section
variable{prog:Program}{w:World}{A:Around}{E:Value->Shared->Prop}{R:Result->Shared->Prop}{s:Shared}
end
section
variable{X:Cx}{Nc:List Str}{src:List (Option Nat)}{scope:Scope}{kx vx tg iter:Expr}{ifs:List Expr}{pos:Pos}{wi:TI}{g:TG}{tf:TT}{tk tv:TE}
end
section
variable{X:Cx}{Nc:List Str}{src:List (Option Nat)}{scope:Scope}{kx vx tg iter:Expr}{ifs:List Expr}{pos:Pos}{wi:TI}{g:TG}{tf:TT}{tk tv:TE}
end
section
variable{X:Cx}
end
section
variable{K:W.Frag}{α:Type}{B:Nat}{g:TG}{tf:TT}{em:TEm α}{Q:List α->Hp->Prop}{U:St}{H:Hp}
def zjE{a:Addr}{xs:List V}(Pv:Nat->List α->St->Hp->Prop)(hn:xs.length<=B)(h0:Pv 0 [] U H)(hl:∀i ys U H,i<=xs.length->Pv i ys U H->SqT K H a xs/\ys.length<=i)
  (hs:∀i x ys U H,xs[i]?=some x->Pv i ys U H->g x U H λU2 H2=>tf U2 H2 λb H3=>if b=true then em U2 H3 λy H4=>Pv (i+1) (ys++[y]) U2 H4 else Pv (i+1) ys U2 H3)
  (hd:∀ys U H,Pv xs.length ys U H->Q ys H):zhi B (Itt K a) g tf em Q U H:=by
 refine{λi m ys U H=>m=xs.length-i/\i<=xs.length/\Pv i ys U H,{xs.length,by simp,Nat.zero_le _,h0},?_}
 rintro i m ys U H ⟨rfl,hi,p⟩
 obtain⟨q,hz⟩:=hl i ys U H hi p
 by_cases hlt:i<xs.length
 .refine .inr {{xs,xs[i],q,by simp[hlt]},by omega,Pv (i+1),λys' U' H' p'=>{xs.length-(i+1),by omega,O,hlt,p'},λx H' y=>?_}
  obtain⟨e,y⟩:=y
  subst e
  exact hs i x ys U _ (y xs q) p
 .have e:i=xs.length:=by omega
  subst e
  exact .inl {{xs,q,Xad _},by omega,hd ys U H p}
end
def zkN{t:Bool}{a b:Addr}{xs ys:List V}{g:TG}{tb:TS}{D:Ends}{U:St}{H:Hp}(Pv:Nat->St->Hp->Prop)(he:xs.length=ys.length)(h0:Pv 0 U H)(hl:∀i U H,i<=xs.length->Pv i U H->SqX t H a xs/\SqX t H b ys)
  (hs:∀i x y T U H,xs[i]?=some x->ys[i]?=some y->H T=none->Pv i U H->g (.ref T) U (upd H T (.tup [x,y])) λU2 H2=>tb {D with nx:=Pv (i+1),ct:=Pv (i+1),bk:=D.nx} U2 H2) (hd:∀U H,Pv xs.length U H->D.nx U H) :
  ∃W:Nat->Nat->St->Hp->Prop,(∃m,W 0 m U H)/\∀i m U H,W i m U H ->
   ((Ity t a b).stop i H/\D.nx U H)\/((Ity t a b).go i H/\∃N:St->Hp->Prop,(∀U' H',N U' H'->∃m',m'<m/\W (i+1) m' U' H')/\∀x H',(Ity t a b).yld i H x H'->g x U H' λU2 H2=>tb {D with nx:=N,ct:=N,bk:=D.nx} U2 H2):=by
 refine{λi m U H=>m=xs.length-i/\i<=xs.length/\Pv i U H,{xs.length,by simp,Nat.zero_le _,h0},?_}
 rintro i m U H ⟨rfl,hi,p⟩
 obtain⟨q,q2⟩:=hl i U H hi p
 by_cases hlt:i<xs.length
 .refine .inr {{xs,xs[i],ys,ys[i]'(by omega),q,q2,by simp[hlt],by simp[he▸hlt]},Pv (i+1),λU' H' p'=>{xs.length-(i+1),by omega,O,hlt,p'},λv H' y=>?_}
  obtain⟨T,x,y',hT,rfl,rfl,y1,y2⟩:=y
  exact hs i x y' T U _ (y1 xs q) (y2 ys q2) hT p
 .have e:i=xs.length:=by omega
  exact .inl {{xs,q,by omega},hd U H (e▸p)}
section
variable{X:Cx}{k:Nat}{ks:List Str}{m:Str}{pos apos:Pos}{e o:Expr}{es:List Expr}{kws:List Keyword}{ta:TE}{t tk:TA}
end
section
variable{X:Cx}
inductive rIxN(K:W.Frag)(x:V)(y:V)(H:Hp)(Q:VK):Prop
 | mk p xs i v(_:x=.ref p)(_:y=.int i)(_:0<=i)(_:SqL K H p xs)(_:atI xs i=some v)(_:Q v H)
def ziT:PGet X (rIxN X.K):=by
 intro pins s U H x y v u Q I rx ry h
 obtain⟨p,xs,i,z,rfl,rfl,h0,hq,he,q⟩:=h
 cases rx
 obtain⟨t,rfl⟩:=ry
 obtain⟨its,r,pl,hz⟩:=I.list hq
 obtain⟨j,h1,h2,h3,h4,h5⟩:=zfa he
 obtain⟨w,ew,rw'⟩:=r.get h2
 have hl:=r.length
 have hn:=zdk
 have hj:i.toNat=j:=by
  rw[seqIndex_of h0 h5] at h1
  exact Option.some.inj h1
 exact wpAny_getItem_list pl.isList h0 (by omega) (by rw[hj];simpa using ew) ⟨z,H,I,rw',q⟩
end
end L2
end
section
namespace L2
open PySem PySem.Spec PyProof.Rows PySem.SeqAt
section
variable{X:Cx}{K:W.Frag}
end
end L2
end
section
namespace L2
open PySem PySem.Spec PyProof.Rows HT PySem.W PySem.Calls
def xFr(e C:Addr)(od:Option Addr):Heap->Prop:=λh=>∃t,h.get? e=some {cls:=.ref C,dict:=od,data:=.fields #[.ref t,.none,.none,.none,.bool false,.none]}
def xDc(dx:Addr)(fs:List (Str×V)):Heap->Prop:=λh=>fs.length<=100/\∃mA,h.Ns1 dx mA/\(∀f,RelO (fs.lookup f) (mA f))/\PySem.Within mA (fs.map (·.1))
section
variable{P:Program}{w:World}{H:Hp}{h:Heap}{e C dx:Addr}{od:Option Addr}{fs:List (Str×V)}
def zme(x:xFr e C od h):ObjOk P w H h e (.ext (xFr e C od)):=by
 obtain⟨t,g⟩:=id x
 exact{x,{_,g},λh1 h2 ⟨t1,q⟩ k=>{t1,k _ q}}
def ok_dc(x:xDc dx fs h):ObjOk P w H h dx (.ext (xDc dx fs)):=by
 obtain⟨l,mA,⟨o,es,ep,e,r⟩,r1,r2⟩:=id x
 exact{x,{_,e},λh1 h2 ⟨l,mA,⟨o,es,ep,e,r⟩,r1,r2⟩ k=>{l,mA,{o,es,ep,k _ e,r},r1,r2}}
end
def NsKI(K:W.Frag)(N fI:Addr):Prop:=∃c d es ep sl,K.lookup N=some {c,d,.dict es ep,sl}/\StrKeys es/\nsFind es "__init__"=some (.ref fI)
structure ExcI(K:W.Frag)(C fI:Addr):Prop where
 ex:∃nm q N bs bm sn sub ab col dd k0 k1 k2 k3 k5,K.lookup C=some (excClassObj nm q C N bs bm true sn sub ab col dd k0 k1 k2 k3 k5 "ValueError.__new__")/\NsKI K N fI/\TailK K bm
 sa:findIn K (.ref C) "__setattr__"=some (some (.builtin "object.__setattr__"))
def TailK.pass{K:W.Frag}{bm:List Value}(x:TailK K bm)(self:Value):refuseLoop self "__setattr__" bm=pure ():=by
 induction x with
 | base=>exact PySem.F.store_ValueError.passes self
 | own e n _ ih=>rw[refuseLoop_ref];exact ih
def TailK.has{K:W.Frag}{bm:List Value}(x:TailK K bm):bm.contains (.type "object")=true:=by
 induction x with
 | base=>decide +kernel
 | own e n _ ih=>rw[List.contains_cons,ih,Bool.or_true]
section
variable{prog:Program}{w:World}{A:Around}{E:Value->Shared->Prop}{s:Shared}{K:W.Frag}{x dx C fI:Addr}{mA:Str->Option Value}{name:Str}{v:Value}{ox:Obj}{od:Option Obj}
def zfb{tk:Tok}{R:Result->Shared->Prop}(X:K.In s.heap)(I:InstAt s.heap x ox C od)(c:ExcI K C fI)(ht:takerIn K C name=some none)
  (h:∀b,wpAny (model prog w) A.in1 (Builtin.ObjectAttr.storeInOwnDict (.ref x) (.ref C) (.str name tk) name v b)
   (λfin s'=>match fin with|.done f=>R (.ok f) s'|.again c'=>c'.quiet=true/\codeAny (model prog w) A c' R s') (λe s'=>R (.error e) s') s) :
  codeAny (model prog w) A (.call (.builtin "object.__setattr__") {[.ref x,.str name tk,v],[]}) R s:=by
 have SF:=PySem.F.store_object
 obtain⟨nm,q,N,bs,bm,sn,sub,ab,col,dd,k0,k1,k2,k3,k5,hC,hN,hT⟩:=c.ex
 have hc:∃cd,clsIn K C=some cd/\cd.mro=.ref C::bm:={_,by unfold clsIn;rw[hC],O}
 obtain⟨cd,hc,hmr⟩:=hc
 have hcon:cd.mro.contains (.type "object")=true:=by rw[hmr,List.contains_cons,hT.has,Bool.or_true]
 have ne:cd.mro.isEmpty=false:=by rw[hmr];rfl
 have sub:Looks (model prog w) s.heap (isInstance (.ref x) (.type "object")) true:=I.type.andThen (looks_mroIn X (by unfold mroIn;rw[hc,Option.bind_some,if_neg (by rw[ne];decide),hcon]))
 refine Xbs SF.slot.plain SF.entry (@check_slot (model prog w) _ _ s "object.__setattr__" "object" "__setattr__" (.ref x) [.str name tk,v] [] _ SF.kind SF.split sub (SF.args (.ref x) (.str name tk) v) ?_)
 obtain⟨attr,ha,hr⟩:=Option.bind_eq_some_iff.mp ht
 have hm:Looks (model prog w) s.heap (mroOf (.ref C)) cd.mro:=(looks_clsIn X hc).andThen .now
 have L3:Looks (model prog w) s.heap (Builtin.ObjectAttr.storeTaker? attr) none:=by
  cases attr with
  | none=>exact .now
  | some a =>
   obtain⟨b,hb,hb2⟩:=XaD.mp hr
   refine(looks_takesIn X hb).andThen ?_
   cases b with
   | true=>cases hb2
   | false=>exact .now
 rw[osa_eq,refuse_eq]
 refine Xaa (Xaa (I.type.here (Xaa (hm.here ?_))))
 rw[hmr,refuseLoop_ref,hT.pass]
 refine Xac (Xaa (I.type.here (Xaa ((looks_findIn X ha).here (Xaa (L3.here ?_))))))
 exact h _
def zhj{vs:Array Value}{Q:Unit->Shared->Prop}(X:K.In s.heap)(hx:s.heap.get? x=some {cls:=.ref C,dict:=none,data:=.fields vs})(c:ExcI K C fI)(ht:takerIn K C name=some none)
  (h:∀h',(∀b o,b≠x->s.heap.get? b=some o->h'.get? b=some o)->h'.get? x=some {cls:=.ref C,dict:=some s.heap.objs.size,data:=.fields vs}->h'.Ns1 s.heap.objs.size (λy=>if y=name then some v else none)->Q () {s with heap:=h',toks:=s.toks+2}) :
  wpAny (model prog w) A (setAttr (.ref x) name v) Q E s:=by
 have J:InstAt s.heap x {cls:=.ref C,dict:=none,data:=.fields vs} C none:=⟨hx,O,O,trivial⟩
 refine set_plain X J c.sa (zfb (s:={s with toks:=s.toks+1}) X J c ht λb=>?_)
 obtain⟨nm,q,N,bs,bm,sn,sub,ab,col,dd,k0,k1,k2,k3,k5,hC,hN,hT⟩:=c.ex
 have hc:∃cd,clsIn K C=some cd/\cd.hasDict=true:={_,by unfold clsIn;rw[hC],O}
 obtain⟨cd,hc,hd'⟩:=hc
 have hxs:x≠s.heap.objs.size:=Xay (Xai hx)
 refine Xaa (Xac (Xaa (Xaa (wpAny_loadPart hx (Xaa (Looks.here (s:={s with toks:=s.toks+1}) (looks_clsIn X hc) ?_))))))
 rw[hd']
 have hx₁:(s.heap.push {cls:=.type "dict",data:=.dict #[]}).get? x=some {cls:=.ref C,dict:=none,data:=.fields vs}:=Xab _ hx
 obtain⟨hp,g,d,t,os⟩:=s
 refine Xaa (wpAny_alloc' ?_)
 refine Xaa (wpAny_update' hx₁ ?_)
 refine Xac ?_
 have hgd:((hp.push {cls:=.type "dict",data:=.dict #[]}).update x λo=>{cls:=o.cls,dict:=some hp.objs.size,data:=o.data,slots:=o.slots}).get? hp.objs.size=some {cls:=.type "dict",data:=.dict #[]}:=
  (Heap.get?_update_ne _ _ _ _ hxs.symm).trans (Heap.get?_push_at O O)
 have hnd:((hp.push {cls:=.type "dict",data:=.dict #[]}).update x λo=>{cls:=o.cls,dict:=some hp.objs.size,data:=o.data,slots:=o.slots}).Ns hp.objs.size (λ_=>none):=
  {_,#[],_,hgd,O,λe he=>absurd he (by simp),λ_=>O}
 show wpAny _ _ (Builtin.ObjectAttr.storeInDict hp.objs.size (.str name t) name v) _ _ _
 unfold Builtin.ObjectAttr.storeInDict Builtin.ObjectAttr.newKeyGuard
 refine Xaa (Xac (Xaa (wpAny_nsSet1 (Heap.Ns1.of_empty hnd) λh' hn' hs=>?_)))
 obtain⟨oD,esD,epD,hoD,hdD,hcD⟩:=hn'.count (Within.cons name v Within.nil)
 refine Xaa (wpAny_lookBehind hoD (by rw[hdD];exact pastItsLine_dict (Xak hcD (by rw[Xar,XaU,sizeLine_eq];omega))) ?_)
 refine Xac (h h' (λb o hb e=>?_) ?_ ?_)
 .exact(hs.2 b (Xay (Xai e))).trans ((Heap.get?_update_ne _ _ _ _ hb).trans (Xab _ e))
 .exact(hs.2 x hxs).trans (XaK _ hx₁ O)
 .exact hn'
def zib{vs:Array Value}{ns:List Str}{Q:Unit->Shared->Prop}(X:K.In s.heap)(hx:s.heap.get? x=some {cls:=.ref C,dict:=some dx,data:=.fields vs})(hne:dx≠x)(hn:s.heap.Ns1 dx mA)(c:ExcI K C fI)(ht:takerIn K C name=some none)
  (hw:PySem.Within mA ns) (hsz:ns.length<=1000)
  (h:∀h',h'.Ns1 dx (λy=>if y=name then some v else mA y)->Heap.SameBut dx s.heap h'->Q () {s with heap:=h',toks:=s.toks+2}) :
  wpAny (model prog w) A (setAttr (.ref x) name v) Q E s:=by
 obtain⟨oD0,hoD0,hl⟩:=zcO hn
 have J:InstAt s.heap x {cls:=.ref C,dict:=some dx,data:=.fields vs} C (some oD0):=⟨hx,O,O,hoD0⟩
 refine set_plain X J c.sa (zfb (s:={s with toks:=s.toks+1}) X J c ht λb=>?_)
 obtain⟨nm,q,N,bs,bm,sn,sub,ab,col,dd,k0,k1,k2,k3,k5,hC,hN,hT⟩:=c.ex
 have hc:∃cd,clsIn K C=some cd/\cd.hasDict=true:={_,by unfold clsIn;rw[hC],O}
 obtain⟨cd,hc,hd'⟩:=hc
 refine Xaa (Xac (Xaa (Xaa (wpAny_loadPart hx (Xaa (Looks.here (s:={s with toks:=s.toks+1}) (looks_clsIn X hc) ?_))))))
 rw[hd']
 refine Xac (a:=some dx) (Xaa (Xac (Xaa ?_)))
 refine wpAny_nsSet1 (s:={s with toks:=s.toks+1}) hn λh' hn2 hs2=>?_
 obtain⟨oD,esD,epD,hoD,hdD,hcD⟩:=hn2.count (PySem.Within.cons name v hw)
 refine Xaa (wpAny_lookBehind hoD (by rw[hdD];exact pastItsLine_dict (Xak hcD (by rw[Xar,sizeLine_eq];omega))) ?_)
 exact Xac (h _ hn2 hs2)
def xget{Q:Value->Shared->Prop}{expr:Bool}(X:K.In s.heap)(I:InstAt s.heap x ox C od)(hga:findIn K (.ref C) "__getattribute__"=some (some (.builtin "BaseException.__getattribute__")))(hgr:findIn K (.ref C) "__getattr__"=some none)
  (hf:findObj K C od name=some (.value v)) (hsub:subIn K (.ref C) (.type "BaseException")=some true) (hv:handedIn v=true)
  (h:Q v {s with toks:=s.toks+1}):wpAny (model prog w) A (getAttr (.ref x) name expr) Q E s:=by
 obtain⟨hh,g,d,t,os⟩:=s
 have L0:=I.type (M:=model prog w)
 have L1:=looks_findIn (M:=model prog w) X hga
 have L2:=looks_findIn (M:=model prog w) X hgr
 unfold getAttr getAttrBy
 refine Xaa (wpAny_mkText (XaE (Xaa (L0.at (Xaa (L1.at ?_))))))
 have hx2:(Value.builtin "BaseException.__getattribute__" == Value.builtin "object.__getattribute__")=false:=by decide +kernel
 have hx:(onTheHeap (Value.ref C)&&Value.builtin "BaseException.__getattribute__" == Value.builtin "object.__getattribute__")=false:=by rw[hx2];rfl
 show wpAny _ _ (if(onTheHeap (Value.ref C)&&Value.builtin "BaseException.__getattribute__" == Value.builtin "object.__getattribute__")=true then _ else _) _ _ _
 rw[hx,if_neg Xaj]
 unfold getAttrByItsOwn
 have hb:hookBefore (Value.ref C)=typeLookup (Value.ref C) "__getattr__" := rfl
 rw[hb]
 refine Xaa (L2.at ?_)
 refine Xaa (Xbt (XaE ?_))
 have hc:callGetattribute (Value.ref x) (Value.str name t) (Value.builtin "BaseException.__getattribute__") expr=boundAndCalled (Value.builtin "BaseException.__getattribute__") (Value.ref x) (Value.str name t):=by
  unfold callGetattribute
  rw[if_neg (by cases expr<;>decide +kernel)]
 rw[hc]
 unfold boundAndCalled
 rw[PySem.F.excAttr_ValueError.ga.bind (.ref x)]
 refine Xaa (Xac ?_)
 show wpAny _ _ (call (.builtin "BaseException.__getattribute__") [.ref x,.str name t]) _ _ _
 refine Xbr ?_
 have hk:builtinKind "BaseException.__getattribute__"=some .slot:=by decide +kernel
 have hs:splitId "BaseException.__getattribute__"=some ("BaseException","__getattribute__"):=by decide +kernel
 refine Xbs PySem.F.excAttr_ValueError.ga.plain PySem.F.entry_bexc_ga ?_
 have hi:Looks (model prog w) hh (isInstance (.ref x) (.type "BaseException")) true:=L0.andThen (looks_subIn X hsub)
 have ha:=PySem.F.args_bexc_ga (.ref x) (.str name t)
 have LF:=looks_find (M:=model prog w) X I hf
 refine@check_slot _ _ _ _ _ _ _ _ _ _ _ hk hs hi ha ?_
 unfold Builtin.«object.__getattribute__»
 refine Xaa (wpAny_of_eq (a:=(Value.ref x,[Value.str name t])) O ?_)
 dsimp only
 refine Xaa (Xac (Xaa (L0.at (Xaa (LF.at ?_)))))
 refine Xac ?_
 show wpAny _ _ (handedOut v) _ _ _
 rw[handedOut_of hv]
 exact Xac h
end
end L2
end
section
namespace L2
open PySem PySem.Spec PyProof.Rows HT PySem.W PySem.Calls
section
variable{X:Cx}{pins:List (Addr×Obj)}{U:St}{H:Hp}{s:Shared}
def Inv.trackE{ea:Addr}{φ:Heap->Prop}(I:Inv X pins U H s)(hn:H ea=none)(ho:∀H',ObjOk X.prog X.w H' s.heap ea (.ext φ))(h:zgQ X pins ea):Inv X pins U (upd H ea (.ext φ)) s:=by
 have up:∀b o,H b=some o->upd H ea (.ext φ) b=some o:=λb o e=>by rw[zah (λz=>by rw[z,hn] at e;cases e)];exact e
 refine{I.ok,I.os,I.bare,{I.base.keep,I.base.slot,λb o e n hx=>?_,I.base.there,λb xs e=>up _ _ (I.base.tups b xs e),λb o u e=>up _ _ (I.base.frzs b o u e),λb ps e=>?_},I.loc,I.cell,?_,λx c e=>?_,λp hp=>?_,λa o e=>?_,I.len}
 .rw[zah (λz=>by rw[z,h.1] at e;cases e)];exact I.base.free b o e n hx
 .obtain⟨more,q⟩:=I.base.tbls b ps e
  exact{more,up _ _ q}
 .rw[zah (Ne.symm h.2.1)];exact I.free
 .rw[zah (h.2.2.1 x c e)];exact I.freeC x c e
 .obtain⟨e,n,r⟩:=I.pin p hp
  exact{e,by rw[zah (h.2.2.2 p hp)];exact n,r}
 .by_cases z:a=ea
  .subst z
   rw[zac] at e
   cases e
   exact ho _
  .rw[zah z] at e
   exact(I.hok a o e).stay (λ_ _ _ q=>q) (λb q=>up _ _ q) λb xs q=>up _ _ q
end
inductive sFldX0_1(K:W.Frag)(f:Str)(D:Ends)(U:St)(y:V)(x:V)(H2:Hp):Prop
 | mk a C fI(_:x=.ref a)(_:H2 a=some (.ext (xFr a C none)))(_:ExcI K C fI)(_:takerIn K C f=some none)(_:∀dx,H2 dx=none->dx≠a->D.nx U (upd (upd H2 a (.ext (xFr a C (some dx)))) dx (.ext (xDc dx [(f,y)]))))
def sFldX0(K:W.Frag)(ta tv:TE)(f:Str):TS:=λD U H=>tv U H λy H1=>ta U H1 (sFldX0_1 K f D U y)
inductive sFldX1_1(K:W.Frag)(f:Str)(D:Ends)(U:St)(y:V)(x:V)(H2:Hp):Prop
 | mk a C fI dx fs(_:x=.ref a)(_:H2 a=some (.ext (xFr a C (some dx))))(_:dx≠a)(_:H2 dx=some (.ext (xDc dx fs)))(_:fs.length<100)(_:ExcI K C fI)(_:takerIn K C f=some none)(_:D.nx U (upd H2 dx (.ext (xDc dx (putF f y fs)))))
def sFldX1(K:W.Frag)(ta tv:TE)(f:Str):TS:=λD U H=>tv U H λy H1=>ta U H1 (sFldX1_1 K f D U y)
inductive tFldX_1(K:W.Frag)(f:Str)(Q:VK)(x:V)(H1:Hp):Prop
 | mk a C dx fs v(_:x=.ref a)(_:H1 a=some (.ext (xIs a (.ref C) (some dx))))(_:H1 dx=some (.ext (xDc dx fs)))(_:XCls K C)(_:hasDictIn K C=true)(_:findIn K (.ref C) f=some none)(_:fs.lookup f=some v)(_:Q v H1)
def tFldX(K:W.Frag)(ta:TE)(f:Str):TE:=λU H Q=>ta U H (tFldX_1 K f Q)
section
variable{X:Cx}{o e value:Expr}{f:Str}{pos pos':Pos}{ta tv:TE}
def zki(hex:X.ex=[])(ha:PE X o ta)(hv:PE X value tv)(hs:swapsWith value (some (.Attribute o f pos')) pos.line X.env=pure false):PS X (.Assign [.Attribute o f pos'] value pos) (sFldX0 X.K ta tv f):=by
 intro pins s U H D I h
 refine plainObj_wpAny_Assign_Attribute (thn (hv pins s U H _ I h) λu s1 ⟨y,H1,I1,ry,q⟩=>thn (ha pins s1 U H1 _ I1 q) λov s2 hh_=>?_) hs
 obtain⟨x,H2,I2,rx,a,C,fI,ex,ea,c,ht,q2⟩:=hh_
 subst ex
 obtain rfl:ov=Value.ref a:=rx
 obtain⟨t,g⟩:=(show xFr a C none s2.heap from(I2.hok a _ ea).1)
 have hnew:s2.heap.get? s2.heap.objs.size=none:=Xbz (Xad _)
 have ne:s2.heap.objs.size≠a:=λz=>by rw[z,g] at hnew;cases hnew
 refine zhj I2.kIn g c ht λh' k1 k2 k3=>{U,_,?_,q2 s2.heap.objs.size (I2.hok.fresh (Xad _)) ne}
 have J:Inv X pins U (upd H2 a (.ext (xFr a C (some s2.heap.objs.size)))) {s2 with heap:=h',toks:=s2.toks+2}:=
  I2.write (x:=a) (e:=a) (by rw[ea];exact True.intro) (.inl O) k1 {_,k2} (zme ⟨t,k2⟩)
 refine J.trackE (by rw[zah ne];exact I2.hok.fresh (Xad _)) (λH'=>ok_dc {by show 1<=100;decide,_,k3,λg=>?_,λg hg=>?_}) (I2.none_ours hnew (by rw[hex];simp))
 .show RelO (List.lookup g [(f,y)]) (if g=f then some u else none)
  by_cases q:g=f
  .subst q
   rw[if_pos O]
   simp only[List.lookup,beq_self_eq_true]
   exact ry
  .rw[if_neg q]
   have:(g==f)=false:=by simpa using q
   simp only[List.lookup,this]
   exact True.intro
 .by_cases q:g=f
  .rw[q];simp
  .exact absurd (show(if g=f then some u else none)=none by rw[if_neg q]) hg
def zkh(ha:PE X o ta)(hv:PE X value tv)(hs:swapsWith value (some (.Attribute o f pos')) pos.line X.env=pure false):PS X (.Assign [.Attribute o f pos'] value pos) (sFldX1 X.K ta tv f):=by
 intro pins s U H D I h
 refine plainObj_wpAny_Assign_Attribute (thn (hv pins s U H _ I h) λu s1 ⟨y,H1,I1,ry,q⟩=>thn (ha pins s1 U H1 _ I1 q) λov s2 hh_=>?_) hs
 obtain⟨x,H2,I2,rx,a,C,fI,dx,fs,ex,ea,ne,ed,hl,c,ht,q2⟩:=hh_
 subst ex
 obtain rfl:ov=Value.ref a:=rx
 obtain⟨t,g⟩:=(show xFr a C (some dx) s2.heap from(I2.hok a _ ea).1)
 obtain⟨_,mA,hn,r,wi⟩:=(show xDc dx fs s2.heap from(I2.hok dx _ ed).1)
 refine zib I2.kIn g ne hn c ht wi (by rw[Xaf];omega) λh' n' sb=>{U,_,?_,q2}
 have hd:∃o,h'.get? dx=some o:=let⟨o,_,_,e',_⟩:=n';⟨o,e'⟩
 refine I2.write (x:=dx) (e:=dx) (by rw[ed];exact True.intro) (.inl O) (λb u hb z=>(sb.2 b hb).trans z) hd (ok_dc {?_,_,n',λg=>?_,λg hg=>?_})
 .have:=zcx f y fs;omega
 .show RelO ((putF f y fs).lookup g) (if g=f then some u else mA g)
  rw[zcw]
  by_cases q:g=f
  .rw[if_pos q,if_pos q];exact ry
  .rw[if_neg q,if_neg q];exact r g
 .by_cases q:g=f
  .rw[q];exact(zb4 f y fs).1
  .refine(zb4 f y fs).2 g (wi g λz=>hg ?_)
   show(if g=f then some u else mA g)=none
   rw[if_neg q];exact z
def ziV(he:PE X e ta)(hb:attributeBase e f X.env (eval e X.env)=eval e X.env):PE X (.Attribute e f pos) (tFldX X.K ta f):=by
 intro pins s U H Q I h
 refine zjQ hb (thn (he pins s U H _ I h) λu s1 hh_=>?_)
 obtain⟨x,H1,I1,rx,a,C,dx,fs,v,ex,ea,ed,c,hh,ha,l,q⟩:=hh_
 subst ex
 obtain rfl:u=Value.ref a:=rx
 obtain⟨oe,vs,g1,⟨g2,g3⟩,g4⟩:=(show xIs a (.ref C) (some dx) s1.heap from(I1.hok a _ ea).1)
 obtain⟨_,mA,hn,r,wi⟩:=(show xDc dx fs s1.heap from(I1.hok dx _ ed).1)
 obtain⟨oD,hoD,hl⟩:=zcO hn
 have J:InstAt s1.heap a oe C (some oD):={g1,g2,by unfold notCls;rw[g4],by rw[g3];exact hoD}
 obtain⟨u',hu,ru⟩:=RelO.some_of (v:=v) (o:=mA f) (by rw[<- l];exact r f)
 exact xget I1.kIn J c.ga c.gr (findObj_own hh ha O (by rw[hl,hu])) c.sub (zfK ru) {v,H1,I1.tok _,ru,q}
end
structure SupI(K:W.Frag)(mg:Str->Option Value)(x:Str):Prop where
 ex:∃B,mg x=some (.ref B)/\specialIn K (.ref B) "__getattribute__"=some (some (.builtin "type.__getattribute__"))/\readsIn K B (.type "type")=true/\findCls K (.ref B) (.type "type") "__init__"=some (.val (.builtin "ValueError.__init__"))
inductive tXini_1(K:W.Frag)(Q:VK)(vs:List V)(H1:Hp):Prop
 | mk a C fI od z(_:vs=[.ref a,z])(_:H1 a=some (.ext (xFr a C od)))(_:ExcI K C fI)(_:Q .non H1)
def tXini(K:W.Frag)(t:TA):TE:=λU H Q=>t U H (tXini_1 K Q)
section
variable{X:Cx}{x:Str}{p pos apos:Pos}{e e2:Expr}{t:TA}
def zl5(M:SupI X.K X.mg x)(hg:Gl X x){pl:Sem Bool}(ha:PA X [e,e2] t)(hdb:(x==("__debug__" : Str))=false:=by decide)
  (hst:starEach [e,e2] X.env=(false,eval e X.env)::starEach [e2] X.env:=by rfl) (hpl:(backTo pos (starEach [e2] X.env)).any (·.1)=false:=by rfl)
  (ht:eval (.Call (.Attribute (.Name x p) "__init__" apos) [e,e2] [] pos) X.env=(do
   let ov <- eval (.Name x p) X.env
   standAt apos.atName
   let(f,first) <- holding [ov] (getMethod ov "__init__" pl)
   callWith pos f first (backTo pos (starEach [e,e2] X.env)) (backToKw pos (keywordEach [] X.env))):=by rfl) :
  PE X (.Call (.Attribute (.Name x p) "__init__" apos) [e,e2] [] pos) (tXini X.K t):=by
 obtain⟨B,hm,hs,hrd,hf⟩:=M.ex
 intro pins s U H Q I h
 refine W.methodCall_KW (pl:=pl) ?_ ht
 refine zbF I hg hm ?_ hdb
 refine W.method_cls I.kIn hs (W.cls_value I.kIn hrd hf O ?_)
 have I0:=I.tok (s.toks+1)
 have h2:=ha pos pins _ U H _ I0 h
 rw[hst] at h2 ⊢
 refine Calls.callWith_builtin (by show(false || (backTo pos (starEach [e2] X.env)).any (·.1))=false;rw[hpl];rfl) (Calls.evalArgs_plain (thn h2 λus s2 hh_=>?_))
 obtain⟨vs,H2,I2,r,a,C,fI,od,z,ev,ea,c,q2⟩:=hh_
 subst ev
 obtain⟨v1,v2,rfl,r1,r2⟩:=zff r
 obtain rfl:v1=Value.ref a:=r1
 obtain⟨t,g⟩:=(show xFr a C od s2.heap from(I2.hok a _ ea).1)
 obtain⟨nm,q,N,bs,bm,sn,sub,ab,col,dd,k0,k1,k2,k3,k5,hC,hN,hT⟩:=c.ex
 have F:=PySem.F.excBase_ValueError
 have T:=hT.tail I2.kIn
 have hC':=I2.kIn _ _ hC
 have I3:=I2
 obtain⟨hp,gg,dr,tk,os⟩:=s2
 show wpAny _ _ (call (.builtin "ValueError.__init__") [.ref a,v2]) _ _ _
 refine Xbr (Xbs F.init.plain F.initEntry (wpAny_check_init_subT F T hC' g O ?_))
 wp_walk
 have g1:(hp.push {cls:=.type "tuple",data:=.seq #[v2]}).get? a=some {cls:=.ref C,dict:=od,data:=.fields #[.ref t,.none,.none,.none,.bool false,.none]}:=Xab _ g
 have g2:=XaK (Obj.mapFields λx=>x.setIfInBounds 0 (Value.ref hp.objs.size)) g1 O
 refine{.non,H2,?_,O,q2}
 have hu:upd H2 a (.ext (xFr a C od))=H2:=by
  funext b
  by_cases hb:b=a
  .rw[hb,zac,ea]
  .rw[zah hb]
 have J:=I2.write (x:=a) (e:=a) (o:=.ext (xFr a C od)) (t':=tk) (h':=(hp.push {cls:=.type "tuple",data:=.seq #[v2]}).update a (Obj.mapFields λx=>x.setIfInBounds 0 (Value.ref hp.objs.size))) (by rw[ea];exact True.intro) (.inl O)
  (λb u hb z=>(XaM _ _ (Ne.symm hb)).trans (Xab _ z)) {_,g2} (zme ⟨hp.objs.size,g2⟩)
 rw[hu] at J
 exact J
end
def PA.nox{X:Cx}{es:List Expr}{t:TA}(h:PA X.nox es t):PA X es t:=λp pins s U H Q I hw =>
 Xav (h p pins s U H Q (I.wish _) hw) (λ_ _ ⟨vs,H',I',r,q⟩=>⟨vs,H',I'.unwish,r,q⟩) λ_ _ z=>False.elim z
def unt(H:Hp)(e:Addr):Hp:=λb=>if b=e then none else H b
def zgT{H:Hp}{e:Addr}:unt H e e=none:=by unfold unt;rw[if_pos O]
def zgU{H:Hp}{e b:Addr}(h:b≠e):unt H e b=H b:=by unfold unt;rw[if_neg h]
structure XIni(P:Program)(w:World)(K:W.Frag)(mg:Str->Option Value)(base:Heap)(k:Nat)(x:Str)(C:Addr)(sp:Sp):Prop where
 at_:mg x=some (.ref C)
 ex:∃fI fd ps oI,ExcI K C fI/\(K.lookup fI=some oI/\oI.cls=.type "function")/\FnOk P w K mg base CX0 k fI fd ps sp/\Binds K fd ps []
def zlJ(C:Addr)(sp:Sp)(E:XK)(t:TA):TS:=λ_ U H=>t U H λvs H1=>vs.length<=1000/\∀e,H1 e=none->sp ((.ref e::vs)++[]) (upd H1 e (.ext (xFr e C none))) (λv H2=>v=.non/\∃od,H2 e=some (.ext (xFr e C od))/\E (.ref C) od (unt H2 e)) E0
section
variable{X:Cx}{x:Str}{C:Addr}{e:Expr}{es:List Expr}{t:TA}{np cpos pos:Pos}{k:Nat}{sp:Sp}{E:XK}
def ziN(M:XIni X.prog X.w X.K X.mg X.base k x C sp)(hr:Room (k+1) X.A)(hg:Gl X x)(hc:X.calm=true)(hex:X.ex=[])(ha:PA X (e::es) t)
  (hx:∀(pins:List (Addr×Obj)) (U:St) (H2:Hp) (s2:Shared) (ea:Addr) (od:Option Addr),Inv X pins U H2 s2->H2 ea=some (.ext (xFr ea C od))->X.s₀.heap.get? ea=none->E (.ref C) od (unt H2 ea)->X.xe (.ref ea) s2)
  (hd:(x==("__debug__" : Str))=false:=by decide) (hst:starEach (e::es) X.env=(false,eval e X.env)::starEach es X.env:=by rfl) (hpl:(backTo cpos (starEach es X.env)).any (·.1)=false:=by rfl) :
  PS X (.Raise (some (.Call (.Name x np) (e::es) [] cpos)) none pos) (zlJ C sp E t):=by
 intro pins s U H D I h
 obtain⟨hm,fI,fd,ps,oI,c,⟨hfI,hfc⟩,F,hb⟩:=M
 obtain⟨nm,q,N,bs,bm,sn,sub,ab,col,dd,k0,k1,k2,k3,k5,hC,hN,hT⟩:=id c.ex
 obtain⟨cN,d,es',ep,sl,hNl,hNs,hi⟩:=hN
 have T:=hT.tail I.kIn
 have hbase:bm.contains (.type "BaseException")=true:=T.hasType PySem.F.excBase_ValueError.hasBase
 refine zlz (C:=C) (nm:=nm) (q:=q) (N:=N) (bs:=bs) (bm:=bm) (hdct:=true) (sn:=sn) (sub:=sub) (ab:=ab) (col:=col) (dd:=dd) (k0:=k0) (k1:=k1) (k2:=k2) (k3:=k3) (k5:=k5) (mN:=nsFind es') (fI:=fI) (oI:=oI)
  hbase (I.ok.hd hc) (by rw[hst];show(false || (backTo cpos (starEach es X.env)).any (·.1))=false;rw[hpl];rfl) hi hfc (zbF I hg hm {O,?_} hd)
 have h2:=ha cpos pins s U H _ I h
 rw[hst] at h2 ⊢
 refine Calls.evalArgs_plain (thn h2 λus s2 h3=>?_)
 obtain⟨vs,H1,I2,r,hl,q1⟩:=h3
 have hlen:us.length=vs.length:=r.length.symm
 refine{O,by show us.length<=sizeLine;rw[hlen,sizeLine_eq];omega,I2.kIn _ _ hC,{_,es',ep,I2.kIn _ _ hNl,O,hNs,λ_=>O},hT.tail I2.kIn,I2.kIn _ _ hfI,λh' ea hm'=>?_}
 have hnone:H1 ea=none:=I2.hok.none_of hm'.new
 have ours:=I2.none_ours hm'.new (by rw[hex];simp)
 have J:Inv X pins U H1 {s2 with heap:=h'}:=I2.kept (t':=s2.toks) hm'.keeps
 obtain⟨tt,ht,_⟩:=hm'.there
 have J2:Inv X pins U (upd H1 ea (.ext (xFr ea C none))) {s2 with heap:=h'}:=J.trackE hnone (λH'=>zme ⟨tt,ht⟩) ours
 have q2:=q1 ea hnone
 have r2:Vals ((V.ref ea::vs)++[]) ((Value.ref ea::us)++[]):=(show Vals (V.ref ea::vs) (Value.ref ea::us) from .cons O r).append .nil
 have hl2:((Value.ref ea::us)++[]).length=ps.length:=by rw[<- r2.length];exact F.len _ _ _ _ q2
 refine Xbr (Xbj (F.run _ X.stack _ _ {Value.ref ea::us,[]} _ _ _ E0 (hr.make C us []) (J2.env0.make C us []) (hb _ (Value.ref ea::us) J2.kIn hl2) r2 q2) λrr s' hq=>?_)
 cases rr with
 | error ex=>exact False.elim hq
 | ok fl =>
  cases fl with
  | ret u =>
   obtain⟨v,H',J3,rv,ev,od,e2,hE⟩:=J2.after hq
   subst ev
   obtain⟨t3,g3⟩:=(show xFr ea C od s'.heap from(J3.hok ea _ e2).1)
   exact{rv,t3,od,J3.kIn _ _ hC,g3,hx pins U H' s' ea od J3 e2 ours.1 hE}
  | next=>exact False.elim hq
  | brk=>exact False.elim hq
  | cont=>exact False.elim hq
end
section
variable{X:Cx}{v:Expr}{es:List Expr}{p2:Pos}{ta:TE}{t:TJ}
end
end L2
end
section
namespace L2
open PySem PySem.Spec PyProof.Rows HT PySem.W PySem.Calls
section
variable{prog:Program}{w:World}{A:Around}
end
section
variable{X:Cx}
end
end L2
end
section
namespace L2
open PySem PySem.Spec PyProof.Rows PySem.SeqAt
section
variable{X:Cx}{tg:Expr}
end
end L2
end
section
namespace L2
open PySem
section
variable{X:Cx}
end
section
variable{P:Program}{w:World}{K:W.Frag}{mg:Str->Option Value}{base:Heap}{k:Nat}{C f:Addr}{fd:FuncData}{m:Str}{ps ks:List Str}{gV:List V->List V->List V}{sp:Sp}
end
end L2
end
section
namespace L2
open PySem
section
variable{P:Program}{w:World}{K:W.Frag}{mg:Str->Option Value}{base:Heap}{k:Nat}{C f:Addr}{fd:FuncData}{m:Str}{ps ks:List Str}{g:List Value->List Value->List Value}{gV:List V->List V->List V}{sp:Sp}
end
section
variable{X:Cx}{cn n:Str}{j:Nat}{Cb:Addr}{body hbody:List Stmt}{b₀:Stmt}{tb:(St->XK)->TS}{th:TS}{tr t:THd}{p4 p8 p9:Pos}{hs:List ExceptHandler}{h0:ExceptHandler}
end
section
variable{X:Cx}{k:Nat}{ks:List Str}{x:Str}{C:Addr}{gV:List V->List V->List V}{sp:Sp}{p pos:Pos}{e:Expr}{es:List Expr}{kws:List Keyword}{t tk:TA}
end
section
variable{X:Cx}{pins:List (Addr×Obj)}{U:St}{H:Hp}{s:Shared}{a:Addr}
end
section
variable{X:Cx}{tg:Expr}
end
section
variable{X:Cx}{K:W.Frag}
def zeV(hK:X.K=K):OpR X (compareOp .NotIn) (rIn K true):=by subst hK;exact zfs
end
section
variable{X:Cx}{a b e:Expr}{ta tb te:TE}{pos pos':Pos}{x:Str}
def pe_x{r:R2}(hr:IxR X r)(ha:PE X a ta)(hb:PE X b tb)(hs:zjT b:=by exactλ_ _=>O):PE X (.Subscript a b pos) (tOp r ta tb):=pe_ix hr ha hb hs
def ps_L(i:Nat)(hN:X.N.Nodup)(he:PE X e te)(hi:X.N[i]?=some x:=by rfl)(hx:Loc X.env.scope x:=by exact Or.inl O)(hs:swapsWith e (some (.Name x pos')) pos.line X.env=pure false:=by rfl)(hf:X.fn x=true\/X.env.scope.names.lookup x=some .local:=by first|exact .inl O|exact .inr O|assumption):PS X (.Assign [.Name x pos'] e pos) (tAsg te (zay i)):=zev hN hi hx he hs hf
def pg_L(i:Nat)(hN:X.N.Nodup)(hi:X.N[i]?=some x:=by rfl)(hx:Loc X.env.scope x:=by exact Or.inl O)(hf:X.fn x=true\/X.env.scope.names.lookup x=some .local:=by first|exact .inl O|exact .inr O|assumption):PG X (.Name x pos) (zay i):=zl3 hN hi hx hf
def hrm{j k:Nat}{A:Around}(r:Room k A)(h:j<=k:=by first|exact Nat.le_of_ble_eq_true O|omega):Room j A:=r.mono h
def pe_c{k:Nat}{ps:List Str}{sp:Sp}{p:Pos}{e:Expr}{es:List Expr}{t:TA}(C:Cal X.prog X.w X.K X.mg X.base k x ps sp)(ha:PA X (e::es) t)(hr:Room k X.A:=by exact hrm (by assumption))(hg:Gl X x:=by rfl)(hdb:(x==("__debug__" : Str))=false:=by decide)
  (he:starEach (e::es) X.env=(false,eval e X.env)::starEach es X.env:=by rfl) (hpl:(backTo pos (starEach es X.env)).any (·.1)=false:=by rfl):PE X (.Call (.Name x p) (e::es) [] pos) (zj2 sp [] E0 t):=pe_cal C hr hg ha hdb he hpl
def sck{N P:List Str}{sc:Scope}(h1:sc.kind=.function)(h2:sc.isCoroutine=false)(h3:sc.isGenerator=false)(h:N.Nodup/\N.take P.length=P/\(∀x∈P,sc.names.lookup x=some .local\/sc.names.lookup x=some .cell)/\∀y∈sc.names,y.2≠.free):FnScope N P sc:=⟨h1,h2,h3,h.1,h.2.1,h.2.2.1,h.2.2.2⟩
end
end L2
end
section
namespace L2
open PySem PySem.Spec PyProof.Rows PySem.SeqAt
section
variable{X:Cx}{K:W.Frag}
end
section
open PySem.W PySem.Calls
variable{K:Frag}{x C:Addr}
def xIsD(x C:Addr)(h:Heap):Prop:=∃oe vs dx oD,h.get? x=some oe/\(oe.cls=.ref C/\oe.dict=some dx)/\oe.data=.fields vs/\h.get? dx=some oD
def zfE(c:XCls K C):KitX K (.ref x) (.ref C) (xIsD x C) where
 ty:=λM h _ p=>by
  obtain⟨o,vs,_,_,h1,⟨h2,_⟩,_⟩:=p
  rw[<- h2]
  exact(Looks.ld h1).andThen .now
 it:=λ_ _ X _=>by
  obtain⟨c',d',cd',sl',ho⟩:=c.look
  intro A' Q' E' s' k q
  unfold isType loadHead
  exact Xaa (wpAny_loadPart (k _ _ (X _ _ ho)) (Xac q))
 ne:=λh tp dd its n sl X htp=>by
  obtain⟨c',d',cd',sl',ho⟩:=c.look
  refine Bool.eq_false_iff.mpr λq=>?_
  have e:C=tp:=Value.ref.inj (beq_iff_eq.mp q)
  subst e
  have z:=(X _ _ ho).symm.trans htp
  cases z
 ca:=λ{prog w A E Q s} X p k=>by
  obtain⟨o,vs,dx,oD,h1,⟨h2,h3⟩,h4,h5⟩:=p
  have I:InstAt s.heap x o C (some oD):={h1,h2,by unfold notCls;rw[h4],by rw[h3];exact h5}
  exact zlB X I c.ga c.gr (c.cf _) c.sub c.mro k
variable{X:Cx}
def zlq{pins:List (Addr×Obj)}{s:Shared}{U:St}{H:Hp}{ea dx:Addr}{fs:List (Str×V)}(I:Inv X pins U H s)(e:H ea=some (.ext (xIs ea (.ref C) (some dx))))(ed:H dx=some (.ext (xDc dx fs))):xIsD ea C s.heap:=by
 obtain⟨oe,vs,g1,g2,g4⟩:=(show xIs ea (.ref C) (some dx) s.heap from(I.hok ea _ e).1)
 obtain⟨_,mA,hn,r,wi⟩:=(show xDc dx fs s.heap from(I.hok dx _ ed).1)
 obtain⟨oD,hoD,hl⟩:=zcO hn
 exact⟨oe,vs,dx,oD,g1,g2,g4,hoD⟩
def zfZ(hK:X.K=K):zbL X (.builtin "isinstance") (λxs H Q=>∃(ea C dx:Addr) (fs:List (Str×V)) (c:V) (u:Value) (b:Bool),xs=[.ref ea,c]/\H ea=some (.ext (xIs ea (.ref C) (some dx)))/\H dx=some (.ext (xDc dx fs))/\XCls K C/\((∃D,c=.ref D/\u=Value.ref D)\/∃T,c=.ty T/\u=Value.type T)/\kitOne K (.ref C) u=some b/\Q (.bl b) H):=by
 subst hK
 intro pins s U H xs us Q I r h
 obtain⟨ea,C,dx,fs,c,u,b,rfl,e,ed,xc,hc,hk,q⟩:=h
 obtain⟨v1,v2,rfl,r1,r2⟩:=zff r
 obtain rfl:v1=Value.ref ea:=r1
 obtain rfl:v2=u:=by
  rcases hc with⟨D,rfl,rfl⟩|⟨T,rfl,rfl⟩
  .exact r2
  .exact r2
 exact kia_one (zfE xc) I.kIn (zlq I e ed) hk (λz=>nomatch z) λtk=>{.bl b,H,I.tok _,O,q}
def zh2(hK:X.K=K):zbL X (.builtin "isinstance") (λxs H Q=>∃(ea C dx tp:Addr) (fs:List (Str×V)) (Ds:List Addr) (b:Bool),xs=[.ref ea,.ref tp]/\H ea=some (.ext (xIs ea (.ref C) (some dx)))/\H dx=some (.ext (xDc dx fs))/\XCls K C/\H tp=some (.tup (Ds.map V.ref))/\kitAny K (.ref C) (Ds.map Value.ref)=some b/\Q (.bl b) H):=by
 subst hK
 intro pins s U H xs us Q I r h
 obtain⟨ea,C,dx,tp,fs,Ds,b,rfl,e,ed,xc,ht,hk,q⟩:=h
 obtain⟨v1,v2,rfl,r1,r2⟩:=zff r
 obtain rfl:v1=Value.ref ea:=r1
 obtain rfl:v2=Value.ref tp:=r2
 obtain⟨_,its,rv,⟨c0,d0,dt0,sl0⟩,g1,g2,n,g3⟩:=(show ObjOk X.prog X.w H s.heap tp (.tup (Ds.map V.ref)) from I.hok tp _ ht)
 simp only at g2 g3
 subst g2 g3
 have ei:its=Ds.map Value.ref:=ziK rv
 subst ei
 exact kia_tup (zfE xc) I.kIn (zlq I e ed) g1 hk (λz=>nomatch z) λtk=>{.bl b,H,I.tok _,O,q}
end
section
variable{P:Program}{w:World}{K:W.Frag}{mg:Str->Option Value}{base:Heap}{k:Nat}{x:Str}{C:Addr}{ks:List Str}{gV:List V->List V->List V}{sp:Sp}
end
section
variable{prog:Program}{w:World}{A:Around}{E:Value->Shared->Prop}{s:Shared}
end
section
variable{X:Cx}{o:Expr}{td tv:TE}{pos p1 p2 p3:Pos}{k0:Nat}
end
end L2
end
section
namespace L2
open PySem PySem.Spec PyProof.Rows HT
section
variable{M:Model}{A:Around}{E:Value->Shared->Prop}{s:Shared}
def zhk{env:Env}{L e T:Addr}{cls:Value}{od:Option Addr}{Q:Unit->Shared->Prop}(hf:env.frame=some L)(x:XAt s.heap e T cls (rawInt L) od)(h:Q () s):wpAny M A (noteFrame (.ref e) env) Q E s:=by
 obtain⟨oe,vs,oT,ts,he,hcls,hd,h1,hTe,hT,hdT,h3⟩:=x
 unfold noteFrame
 simp only[hf]
 refine Xaa (XaG he hd h1 ?_)
 rw[if_pos (show(Value.ref T != Value.none)=true from by simp)]
 refine Xaa (XaG hT hdT h3 ?_)
 rw[if_pos (show(rawInt L==rawInt L)=true from by simp)]
 exact Xac h
def zic{L e T:Addr}{cls fl:Value}{od:Option Addr}{Q:Unit->Shared->Prop}(x:XAt s.heap e T cls fl od)(h:∀h',Slid [] [T] s.heap h'->XAt h' e T cls (rawInt L) od->Q () {s with heap:=h'}):wpAny M A (setFlight (.ref e) (some L)) Q E s:=by
 obtain⟨oe,vs,oT,ts,he,hcls,hd,h1,hTe,hT,hdT,h3⟩:=x
 have hsz:=(Xbl.mp h3).1
 unfold setFlight
 refine Xaa (XaG he hd h1 ?_)
 rw[if_pos (show(Value.ref T != Value.none)=true from by simp)]
 refine XaX hT hdT hsz (h _ ?_ ?_)
 .exact Slid.of λb o e hc=>(XaM _ _ λz=>hc (by rw[z];exact List.mem_singleton_self _)).trans e
 .have hd':=Obj.data_mapFields hdT (·.setIfInBounds 3 (rawInt L))
  have q:=XaK (Obj.mapFields (·.setIfInBounds 3 (rawInt L))) hT (Obj.isFreed_of_fields hd')
  exact{oe,vs,_,_,(XaM _ _ hTe).trans he,hcls,hd,h1,hTe,q,hd',by simp[hsz]}
end
inductive Nt1(P:Program)(w:World)(outer:List Env)(L:Addr)(H:Hp)(s:Shared)(E:XK)(e:Value)(s':Shared):Prop
 | mk (ea T:Addr) (H':Hp) (C:Addr) (od:Option Addr)(_:e=.ref ea)(_:s'.os=s.os)(_:AllBare s'.gens)(_:Un (frs outer) [] H H' s.heap s'.heap)(_:HOk P w H' s'.heap)(_:XAt s'.heap ea T (.ref C) (rawInt L) od)(_:s.heap.get? ea=none)(_:s.heap.get? T=none)(_:H' ea=none)(_:H' T=none)(_:E (.ref C) od H')
def Un.flight{outer:List Env}{H H':Hp}{h0 h1 h2:Heap}{T:Addr}(u:Un (frs outer) [] H H' h0 h1)(sl:Slid [] [T] h1 h2)(hT:h0.get? T=none):Un (frs outer) [] H H' h0 h2:=by
 have nT:∀b o,h0.get? b=some o->b∉[T]:=λb o q z=>by
  rw[Xae.mp z,hT] at q
  cases q
 refine{λb o q n hb z=>(sl b o (u.keep b o q n hb z) (nT b o q)).1 (by simp),λb o q n hb z=>?_,u.free,λb o q z=>?_,u.tups,u.frzs,u.tbls}
 .obtain⟨t1,e1⟩:=u.slot b o q n hb z
  exact(sl b _ e1 (nT b o q)).2.elim λt3 e3=>⟨t3,e3⟩
 .obtain⟨o',e1⟩:=u.there b o q z
  obtain⟨t3,e3⟩:=(sl b _ e1 (nT b o q)).2
  exact{_,e3}
section
variable{P:Program}{w:World}{K:W.Frag}{mg:Str->Option Value}{base:Heap}{N:List Str}{qual:Str}{scope:Scope}{f:Addr}{cd:Value}{A:Around}{outer:List Env}{s:Shared}{H:Hp}{E:XK}
def flyE(P:Program)(w:World)(qual:Str)(scope:Scope)(f:Addr)(cd:Value)(A:Around)(outer:List Env)(s:Shared)(H:Hp)(E:XK):Value->Shared->Prop:=λe s' =>
 wpAny (model P w) (A.deeper (envOfC qual scope s.heap.objs.size f cd)) (noteFrame e (envOfC qual scope s.heap.objs.size f cd)) (λ_ s''=>Nt1 P w outer s.heap.objs.size H s E e s'') (λ_ _=>False) s'
def Nt1.fly{e:Value}{s':Shared}(h:Nt1 P w outer s.heap.objs.size H s E e s'):flyE P w qual scope f cd A outer s H E e s':=by
 obtain⟨ea,T,H',C,od,rfl,z1,z2,z3,z4,z5,z6,z7,z8,z9,z10⟩:=h
 exact zhk O z5 ⟨ea,T,H',C,od,O,z1,z2,z3,z4,z5,z6,z7,z8,z9,z10⟩
def zmw:PassesOwn (model P w) (A.deeper (envOfC qual scope s.heap.objs.size f cd)) (envOfC qual scope s.heap.objs.size f cd) (flyE P w qual scope f cd A outer s H E):=by
 intro e s' h
 refine Xav h (λ_ s'' q=>?_) λ_ _ z=>False.elim z
 obtain⟨ea,T,H',C,od,rfl,z1,z2,z3,z4,z5,z6,z7,z8,z9,z10⟩:=q
 obtain⟨oe,vs,oT,ts,he,hcls,hd,h1,hTe,hT,hdT,h3⟩:=id z5
 unfold cameBackBy
 refine Xaa (XaG he hd h1 ?_)
 rw[if_neg (show¬ (Value.ref T==Value.none)=true from by simp)]
 refine zic (L:=s.heap.objs.size) z5 λh' sl x=>Nt1.fly {ea,T,H',C,od,O,z1,z2,z3.flight sl z7,?_,x,z6,z7,z8,z9,z10}
 exact z4.slid sl (λb hb=>nomatch hb) λb hb=>by rw[Xae.mp hb];exact z9
def zhX{e:Value}{s':Shared}(h:flyE P w qual scope f cd A outer s H E e s'):(cxOf (CX1 P w) P w K mg base N qual scope f cd A outer s H E).xe e s':=by
 show wpAny _ _ (leaving _ e) _ _ s'
 unfold leaving
 refine Xaa (Xav h (λ_ s'' q=>?_) λ_ _ z=>False.elim z)
 obtain⟨ea,T,H',C,od,rfl,z1,z2,z3,z4,z5,z6,z7,z8,z9,z10⟩:=q
 refine zdC z5 λh' sl x=>{ea,T,H',C,od,O,z1,z2,z3.flight sl z7,?_,x,z6,z7,z8,z9,z10}
 exact z4.slid sl (λb hb=>nomatch hb) λb hb=>by rw[Xae.mp hb];exact z9
def PS.fly{st:Stmt}{t:TS}(h:PS ((cxOf (CX1 P w) P w K mg base N qual scope f cd A outer s H E).wish (flyE P w qual scope f cd A outer s H E)) st t):PS (cxOf (CX1 P w) P w K mg base N qual scope f cd A outer s H E) st t:=λpins s U H D I hw =>
 Xav (h pins s U H D (I.wish _) hw) (λ_ _ q=>q.unwish) λ_ _ z=>zhX z
end
section
variable{X:Cx}{tg:Expr}
end
end L2
end
section
namespace L2
open PySem PySem.Spec PyProof.Rows PySem.SeqAt
section
variable{X:Cx}
end
end L2
end
section
namespace L2
open PySem PySem.Spec PyProof.Rows PySem.SeqAt
section
variable{X:Cx}
end
end L2
end
section
namespace L2
open PySem PySem.Spec PyProof.Rows PySem.SeqAt
section
variable{X:Cx}
end
end L2
end
section
namespace L2
open PySem PySem.Spec PyProof.Rows PySem.SeqAt
section
variable{X:Cx}
end
end L2
end
section
namespace L2
open PySem PySem.Spec PyProof.Rows PySem.SeqAt PySem.W
section
variable{X:Cx}{K:W.Frag}
end
end L2
end
section
namespace L2
open PySem PySem.Spec PyProof.Rows PySem.SeqAt PySem.W
section
variable{X:Cx}
end
end L2
end
section
namespace L2
open PySem PySem.Spec PyProof.Rows PySem.SeqAt
section
variable{prog:Program}{w:World}{κ:Type}[DecidableEq κ]{knd:HeapKind prog w κ}{A:Around}{E:Value->Shared->Prop}{s:Shared}
end
section
variable{X:Cx}
end
end L2
end
section
namespace L2
open PySem PySem.Spec PyProof.Rows PySem.Builtin PySem.Builtin.Str
def zfJ{v:Value}{p:Option Int}(h:IsPart v p):∃q:Option (Int×Tok),v=partValue q/\q.map (·.1)=p:=by
 cases h with
 | none=>exact⟨none,O,O⟩
 | int i t=>exact{some (i,t),O,O}
inductive rSlS(x:V)(lo hi:Option Int)(H:Hp)(Q:VK):Prop
 | mk (z:Str)(_:x=.str z)(_:z.length<=sizeLine)(_:Q (.str (Txt.slice z lo hi)) H)
set_option tactic.hygienic true in
def sl_str{X:Cx}:SlR X rSlS:=by
 rintro pins s U H x v vl vu lo hi sl Q I rx hs pl pu ⟨z,rfl,hz,q⟩
 obtain⟨t,rfl⟩:=(show∃t,v=Value.str z t from rx)
 obtain⟨l,rfl,rfl⟩:=zfJ pl
 obtain⟨u,rfl,rfl⟩:=zfJ pu
 refine{"str",_,F.slot_str_getitem.lookup,typeIs_str _ _ _,wpAny_getItem_str_slice (l:=l) (u:=u) (st:=none) hs O ?_}
 unfold sliceMade
 split
 .rename_i h
  rw[show Txt.slice z (l.map (·.1)) (u.map (·.1))=z from if_pos h] at q
  exact{.str z,H,I,⟨t,O⟩,q}
 .rename_i h
  rw[show Txt.slice z (l.map (·.1)) (u.map (·.1))={((strSliceIndices (l.map (·.1)) (u.map (·.1)) 1 z.length).filterMap (z.cps[·]?)).toArray} from if_neg h] at q
  refine{?_,.str _,H,I.tok _,{_,O},q}
  have h1:=List.length_filterMap_le (z.cps[·]?) (strSliceIndices (l.map (·.1)) (u.map (·.1)) 1 z.length)
  have h2:=sliceIndices_le (l.map (·.1)) (u.map (·.1)) z.length
  show((strSliceIndices (l.map (·.1)) (u.map (·.1)) 1 z.length).filterMap (z.cps[·]?)).toArray.size<=_
  rw[Xaq]
  omega
inductive rStarts(x:V)(vs:List V)(H:Hp)(Q:VK):Prop
 | mk (a b:Str)(_:x=.str a)(_:vs=[.str b])(_:Q (.bl (0+b.length<=a.length&&Builtin.Str.subAt a b 0)) H)
def zje{X:Cx}:MtR X "str.startswith" rStarts:=by
 rintro pins s U H x vs v us Q I rx rv ⟨a,b,rfl,rfl,q⟩
 obtain⟨t,rfl⟩:=(show∃t,v=Value.str a t from rx)
 obtain⟨u1,rfl,ru⟩:=zbW rv
 obtain⟨u,rfl⟩:=(show∃t,u1=Value.str b t from ru)
 exact call_gives F.slot_str_startswith (typeIs_str _ _ _) F.entry_str_startswith (F.args_str_startswith_2 _ _) (gives_str_startswith a b t u) {.bl _,H,I,O,q}
def zk1{X:Cx}:zbL X (.type "int") (λxs H Q=>∃(x:Str) (n:Int),xs=[.str x]/\intText? x=some n/\x.length<=640/\Q (.int n) H):=by
 intro pins s U H xs us Q I r h
 obtain⟨x,n,rfl,h1,h2,q⟩:=h
 obtain⟨u1,rfl,ru⟩:=zbW r
 obtain⟨t,rfl⟩:=(show∃t,u1=Value.str x t from ru)
 exact W.KIN.call_text h1 h2 {.int n,H,I.tok _,{_,O},q}
end L2
end
section
namespace L2
open PySem PySem.Spec PyProof.Rows HT
structure DicT(P:Program)(w:World)(K:W.Frag)(a:Addr)(kvs:List (List Key×V)):Prop where
 ns:(a==sysModules)=false
 ex:∃xs:List (List Key×Addr×Value),Paired (λ(p:List Key×V) (q:List Key×Addr×Value)=>p.1=q.1/\RelV p.2 q.2.2) kvs xs/\∀h:Heap,K.In h->h.DictOfH (tupleKind (zaR P w)) a xs
def zmm{kvs:List (List Key×V)}{xs:List (List Key×Addr×Value)}(r:Paired (λ(p:List Key×V) (q:List Key×Addr×Value)=>p.1=q.1/\RelV p.2 q.2.2) kvs xs)(k:List Key):RelO (valV kvs k) ((atKey xs k).map (·.2)):=by
 induction r with
 | nil=>exact True.intro
 | @cons p q ps qs h t ih =>
  obtain⟨h1,h2⟩:=h
  by_cases e:p.1=k
  .have e':q.1=k:=h1.symm.trans e
   have b:atKey (q::qs) k=some q.2:=by simp[atKey,List.find?_cons,e']
   rw[za5 e,b];exact h2
  .have e':¬ q.1=k:=λz=>e (h1.trans z)
   have b:atKey (q::qs) k=atKey qs k:=by simp[atKey,List.find?_cons,e']
   rw[za6 e,b];exact ih
inductive tKGetT_1(kvs:List (List Key×V))(Q:VK)(y:V)(H1:Hp):Prop
 | mk k b(_:y=.ref b)(_:H1 b=some (.tup (k.map kV)))(_:Q ((valV kvs k).getD .non) H1)
def tKGetT(kvs:List (List Key×V))(ty:TE):TE:=λU H Q=>ty U H (tKGetT_1 kvs Q)
section
variable{X:Cx}{x:Str}{a:Addr}{e:Expr}{p apos cpos:Pos}{ty:TE}{kvs:List (List Key×V)}
def zkn(hu:X.A.units+1<cLine)(hg:Gl X x)(hm:X.mg x=some (.ref a))(D:DicT X.prog X.w X.K a kvs)(he:PE X e ty)(m:M1 X (.Name x p) "get" apos e cpos)(hdb:(x==("__debug__" : Str))=false:=by decide):PE X (.Call (.Attribute (.Name x p) "get" apos) [e] [] cpos) (tKGetT kvs ty):=by
 obtain⟨hd,vs,rel,dof⟩:=D
 intro pins s U H Q I h
 refine wpAny_Call_method m.base m.few m.line PySem.F.plainAttrs_dict PySem.F.slot_dict_get PySem.F.type_dict_get (zbF I hg hm ?_ hdb)
 have dd:=dof _ I.kIn
 refine{dd.typeIs,λb q=>?_,?_}
 .cases q
  obtain⟨ob,_,_,h1,h2,_⟩:=dd
  exact⟨ob,h1,h2.2.1⟩
 rw[m.trees]
 refine Calls.callWith_builtin O (Calls.evalArgs_plain (Calls.spliced_cons (thn (he pins _ U H _ I h) λiv s2 ⟨y,H2,I2,ry,k,b,ey,eb,q2⟩=>Calls.spliced_nil ?_)))
 subst ey
 cases ry
 have dd2:=dof _ I2.kIn
 refine call_meetsIn PySem.F.slot_dict_get dd2.typeIs PySem.F.entry_dict_get (PySem.F.args_dict_get_2 _ _) (meetsH_dict_get (tupleKind (zaR X.prog X.w)) a b hd) {tupleKind_room_in1 hu,k,_,zfF I2.hok eb,dd2,?_}
 have rr:=(zmm rel k).getD (d:=V.non) (d':=Value.none) O
 exact{_,H2,I2.tok _,rr,q2}
end
end L2
end
section
namespace L2
open PySem PySem.Spec PyProof.Rows PySem.NumText
def hexC(c:Nat):Bool:=(decide (48<=c)&&decide (c<=57)) || (decide (97<=c)&&decide (c<=102))
def hexD(c:Nat):Nat:=if c<=57 then c-48 else c-87
def hexV(l:List Nat):Nat:=l.foldl (λa c=>a*16+hexD c) 0
def zbg{c:Nat}(h:hexC c=true):(48<=c/\c<=57)\/(97<=c/\c<=102):=by
 unfold hexC at h
 rcases Bool.or_eq_true_iff.mp h with h|h
 .have:=XaI.mp h;exact .inl {XaA this.1,XaA this.2}
 .have:=XaI.mp h;exact .inr {XaA this.1,XaA this.2}
def zkH{c:Nat}(h:hexC c=true)(p:Array Nat)(b:Bool):NumText.step 16 (p,b) c=some (p.push (hexD c),true):=by
 have hc:=zbg h
 unfold NumText.step digit? hexD
 rw[if_neg (by rw[beq_iff_eq];omega)]
 rcases hc with hc|hc
 .have e1:(decide (48<=c)&&decide (c<=57))=true:=by rw[Xal hc.1,Xal hc.2];rfl
  rw[if_pos e1]
  dsimp only
  rw[if_pos (by omega),if_pos hc.2]
 .have e1:¬ (decide (48<=c)&&decide (c<=57))=true:=by rw[Xam (show¬ c<=57 by omega),Xbo];exact Xaj
  have e2:(decide (97<=c)&&decide (c<=122))=true:=by rw[Xal hc.1,Xal (show c<=122 by omega)];rfl
  rw[if_neg e1,if_pos e2]
  dsimp only
  rw[if_pos (by omega),if_neg (by omega)]
def zg8:∀(l:List Nat),(∀c∈l,hexC c=true)->∀(p:Array Nat) (b:Bool),l.foldlM (NumText.step 16) (p,b)=some (p++(l.map hexD).toArray,b || !l.isEmpty)
 | [],_,p,b=>by simp
 | c::l,h,p,b=>by
  rw[List.foldlM_cons,zkH (h c Xat)]
  show l.foldlM (NumText.step 16) (p.push (hexD c),true)=_
  rw[zg8 l (λx hx=>h x (Xau _ hx))]
  simp
def zhV{l:List Nat}(h:∀c∈l,hexC c=true)(hn:l≠[]):digits? 16 l=some (l.map hexD).toArray:=by
 unfold digits?
 rw[zg8 l h]
 cases l with
 | nil=>exact absurd O hn
 | cons c l=>simp
def zjp{c:Nat}(h:hexC c=true):blank c=false:=by
 have hc:=zbg h
 unfold blank
 rw[Bool.or_eq_false_iff,Bool.and_eq_false_iff]
 refine{beq_eq_false_iff_ne.mpr (by omega),.inr (Xam (by omega))}
def zg9:∀{l:List Nat},(∀c∈l,hexC c=true)->l.dropWhile blank=l
 | [],_=>rfl
 | c::l,h=>by rw[List.dropWhile_cons_of_neg (by rw[zjp (h c Xat)];exact Xaj)]
def zg7:∀{l:List Nat},(∀c∈l,hexC c=true)->l.takeWhile (· != 0)=l
 | [],_=>rfl
 | c::l,h=>by
  have hc:=zbg (h c Xat)
  rw[List.takeWhile_cons_of_pos (by rw[bne_iff_ne];omega),zg7 λx hx=>h x (Xau _ hx)]
set_option tactic.hygienic true in
def zkI{l:List Nat}(h:∀c∈l,hexC c=true):sign l=(false,l):=by
 cases l with
 | nil=>rfl
 | cons c l =>
  have hc:=zbg (h c Xat)
  unfold sign
  split
  .rename_i e;cases e;omega
  .rename_i e;cases e;omega
  .rfl
set_option tactic.hygienic true in
def zjq{l:List Nat}(h:∀c∈l,hexC c=true):based 16 l=(16,false,l):=by
 unfold based
 split
 .rename_i p hp
  have hne:p≠16:=by
   rintro rfl
   have hp:(match l with|48::c::_=>if c==120 || c==88 then some 16 else if c==111 || c==79 then some 8 else if c==98 || c==66 then some 2 else none|_=>none)=some 16:=hp
   split at hp
   .rename_i c r _
    have hc:=zbg (h c (Xau _ Xat))
    split at hp
    .rename_i e
     rcases Bool.or_eq_true_iff.mp e with e|e
     .have:=beq_iff_eq.mp e;omega
     .have:=beq_iff_eq.mp e;omega
    .split at hp
     .cases hp
     .split at hp<;>cases hp
   .cases hp
  rw[if_neg (by rw[show((16:Nat)==0 || (16:Nat)==p)=false from Bool.or_eq_false_iff.mpr {O,beq_eq_false_iff_ne.mpr (Ne.symm hne)}];exact Xaj)]
 .rfl
def zmi{x:PySem.Str}(h:∀c∈x.cps.toList,hexC c=true)(h1:x.cps.toList≠[])(h2:x.cps.toList.length<=640):N16 x ((hexV x.cps.toList:Nat):Int):=by
 have hall:x.cps.all (· < 128)=true:=by
  rw[<- Array.all_toList]
  exact XaN.mpr λc hc=>by have:=zbg (h c hc);exact Xal (by omega)
 have e1:numTextOf x=x.cps.toList:=if_pos hall
 have e2:numSeenOf x=x.cps.toList:=by show(numTextOf x).takeWhile (· != 0)=_;rw[e1];exact zg7 h
 refine{by rw[e2];exact h2,?_,by rw[e1,e2];exact beq_self_eq_true _}
 rw[e2]
 refine(readNumeral_eq 0 16 _).trans ?_
 rw[zg9 h,zkI h]
 dsimp only
 rw[zjq h]
 dsimp only
 rw[zg9 (l:=x.cps.toList.reverse) (λc hc=>h c (List.mem_reverse.mp hc)),List.reverse_reverse,zhV h h1]
 have key:∀ds:Array Nat,judge 0 false 16 false (some ds)=(int_private% "Numeral.value") ((ds.foldl (λacc d=>acc*16+d) 0:Nat):Int):=λds=>O
 rw[key]
 unfold hexV
 rw[<- Array.foldl_toList,List.foldl_map]
section
variable{prog:Program}{w:World}{A:Around}{E:Value->Shared->Prop}{s:Shared}
def zh9{t u:Bool}{z TI TO i1 i2 l1 l2:Addr}{k:Nat}{xs ys:Array Value}{x y a b:Value}{Q:Value->Shared->Prop}(D:Far2 z TO i1 i2)(L1:FarM z TO i1 i2 l1)(L2':FarM z TO i1 i2 l2)
  (hz:IsZip s.heap z TI TO .none) (hI:IsPair s.heap TI (.ref i1) (.ref i2)) (hO:IsPair s.heap TO a b)
  (h1:IsIt t s.heap i1 l1 k) (h2:IsIt u s.heap i2 l2 k) (g1:IsSq t s.heap l1 xs) (g2:IsSq u s.heap l2 ys) (ex:xs[k]?=some x) (ey:ys[k]?=some y)
  (q:∀h',IsZip h' z TI TO (rawInt s.heap.objs.size)->IsPair h' TO x y->IsIt t h' i1 l1 (k+1)->IsIt u h' i2 l2 (k+1)->IsPair h' s.heap.objs.size x y->h'.objs.size=s.heap.objs.size+1 ->
   (∀d o,d≠z->d≠TO->d≠i1->d≠i2->s.heap.get? d=some o->h'.get? d=some o)->Q (.ref s.heap.objs.size) {s with heap:=h'}) :
  wpAny (model prog w) A (Builtin.«zip.__next__» {[.ref z],[]}) (λfin s'=>∃v,fin=.done (.ret v)/\Q v s') E s:=by
 show wpAny _ _ (field (.ref z) 2 >>= _) _ _ _
 refine Xaa (XaG hz O (x:=.bool false) O ?_);show wpAny _ _ (field (.ref z) 3 >>= _) _ _ _
 refine Xaa (XaG hz O (x:=.ref TI) O (Xaa (Xa4 hI O ?_)));show wpAny _ _ (Builtin.SmallTypes.ownedTupleIsFree (.ref z) >>= _) _ _ _
 refine Xaa ?_;unfold Builtin.SmallTypes.ownedTupleIsFree
 refine Xaa (XaG hz O (x:=.none) O (Xac ?_));simp only[if_true]
 refine Xaa (XbA (Xaa (XaG hz O (x:=.ref TO) O ?_)))
 refine Xaa (Xbg hz (by simp) λe1 z1 b1=>?_)
 replace z1:IsZip e1 z TI TO .ellipsis:=z1
 refine Xaa ?_;simp only[List.zipIdx_cons,List.zipIdx_nil,List.forIn_cons,List.forIn_nil]
 refine Xaa (Xaa (wpAny_onRaise ?_));show wpAny _ _ (Builtin.SmallTypes.nextOf (.ref i1) >>= _) _ _ _
 refine Xaa (zd7 (h1.at λo e=>b1.extBut _ _ D.az e) (g1.at λo e=>b1.extBut _ _ L1.z e) ex λe2 n1 b2=>Xac ?_)
 have O2:IsPair e2 TO a b:=b2.extBut _ _ D.oa (b1.extBut _ _ D.oz hO)
 refine Xaa (Xa4 O2 O (Xaa (zdD O2 λe3 O3 b3=>Xaa (wpAny_letGo (Xac ?_)))))
 replace O3:IsPair e3 TO x b:=O3
 have up3:∀d o,d≠z->d≠TO->d≠i1->s.heap.get? d=some o->e3.get? d=some o:=λd o q1 q2 q3 e=>b3.extBut _ _ q2 (b2.extBut _ _ q3 (b1.extBut _ _ q1 e))
 refine Xaa (Xaa (wpAny_onRaise ?_));show wpAny _ _ (Builtin.SmallTypes.nextOf (.ref i2) >>= _) _ _ _
 refine Xaa (zd7 (h2.at λo e=>up3 _ o D.bz D.ob.symm D.ab.symm e) (g2.at λo e=>up3 _ o L2'.z L2'.o L2'.a e) ey λe4 n2 b4=>Xac ?_)
 have O4:IsPair e4 TO x b:=b4.extBut _ _ D.ob O3
 refine Xaa (Xa4 O4 O (Xaa (zdD O4 λe5 O5 b5=>Xaa (wpAny_letGo (Xac (Xac ?_))))))
 replace O5:IsPair e5 TO x y:=O5
 have up5:∀d o,d≠z->d≠TO->d≠i1->d≠i2->s.heap.get? d=some o->e5.get? d=some o:=λd o q1 q2 q3 q4 e=>b5.extBut _ _ q2 (b4.extBut _ _ q4 (up3 d o q1 q2 q3 e))
 have sz:e5.objs.size=s.heap.objs.size:=by rw[b5.1,b4.1,b3.1,b2.1,b1.1]
 have z7:IsZip e5 z TI TO .ellipsis:=b5.extBut _ _ D.oz.symm (b4.extBut _ _ D.bz.symm (b3.extBut _ _ D.oz.symm (b2.extBut _ _ D.az.symm z1)))
 have m1:IsIt t e5 i1 l1 (k+1):=n1.at λo e=>b5.extBut _ _ D.oa.symm (b4.extBut _ _ D.ab (b3.extBut _ _ D.oa.symm e))
 have m2:IsIt u e5 i2 l2 (k+1):=n2.at λo e=>b5.extBut _ _ D.ob.symm e
 have zl:z<e5.objs.size:=Xai z7
 refine Xaa (Xa4 O5 O (Xaa (wpAny_newTuple ?_)));show wpAny _ _ (Builtin.SmallTypes.ownedTupleHandOut (.ref z) (.ref e5.objs.size) >>= _) _ _ _
 refine Xaa ?_;unfold Builtin.SmallTypes.ownedTupleHandOut
 have z8:IsZip (e5.push {cls:=.type "tuple",data:=.seq #[x,y]}) z TI TO .ellipsis:=Xab _ z7
 refine Xaa (Xbg z8 (by simp) λe9 z9 b9=>?_)
 replace z9:IsZip e9 z TI TO (rawInt e5.objs.size):=z9
 refine Xbg z9 (by simp) λe0 z0 b0=>?_
 replace z0:IsZip e0 z TI TO (rawInt e5.objs.size):=z0
 have up:∀d o,d≠z->e5.get? d=some o->e0.get? d=some o:=λd o q1 e=>b0.extBut _ _ q1 (b9.extBut _ _ q1 (Xab _ e))
 have T0:IsPair e0 e5.objs.size x y:=b0.extBut _ _ (Xbe zl) (b9.extBut _ _ (Xbe zl) (Xag _ O))
 have s0:e0.objs.size=e5.objs.size+1:=by rw[b0.1,b9.1,XaC]
 rw[sz] at z0 T0 s0
 refine Xac {_,O,?_};show Q (.ref e5.objs.size) _;rw[sz]
 exact q e0 z0 (up _ _ D.oz O5) (m1.at λo e=>up _ o D.az e) (m2.at λo e=>up _ o D.bz e) T0 s0 λd o q1 q2 q3 q4 e=>up d o q1 (up5 d o q1 q2 q3 q4 e)
end
abbrev yBq(t u:Bool)(h:Heap)(l1 l2:Addr):Heap:=(yA u (yA t h l1) l2).push {cls:=.type "tuple",data:=.seq #[.ref h.objs.size,.ref (yA t h l1).objs.size]}
abbrev yCq(t u:Bool)(h:Heap)(l1 l2:Addr):Heap:=(yBq t u h l1 l2).push {cls:=.type "tuple",data:=.seq #[.none,.none]}
abbrev yDq(t u:Bool)(h:Heap)(l1 l2:Addr):Heap:=(yCq t u h l1 l2).push {cls:=.type "zip",data:=.fields #[.none,.bool false,.bool false,.ref (yA u (yA t h l1) l2).objs.size,.ref (yBq t u h l1 l2).objs.size]}
def zjV(t u:Bool)(l1 l2:Addr)(xs ys:Array Value) :
  Meets (Builtin.«zip.__new__» {[.type "zip",.ref l1,.ref l2],[]}) (λ_ R s=>IsSq t s.heap l1 xs/\IsSq u s.heap l2 ys/\R (.ok (.ret (.ref (yCq t u s.heap l1 l2).objs.size))) {s with heap:=yDq t u s.heap l1 l2}):=
 .of_wp λprog w A R s h=>by
  obtain⟨hp,g,d,tk,os⟩:=s;obtain⟨hl1,hl2,h⟩:=h
  have hsub:=sub_zip
  have hA:IsSq t (Shared.heap ⟨hp,g,d,tk,os⟩) l1 xs:=hl1
  have hB:IsSq u (Shared.heap ⟨yA t hp l1,g,d,tk,os⟩) l2 ys:=hl2.at λo e=>Xab _ e
  wp_walk using zg6 hA,zg6 hB
  exact{_,O,h}
def SqQ(K:W.Frag)(t:Bool)(H:Hp)(a:Addr)(xs:List V):Prop:=match t with|true=>SqT K H a xs|false=>SqL K H a xs
def Inv.sqq{X:Cx}{pins:List (Addr×Obj)}{U:St}{H:Hp}{s:Shared}(I:Inv X pins U H s){t:Bool}{a:Addr}{xs:List V}(h:SqQ X.K t H a xs):∃its:List Value,Vals xs its/\IsSq t s.heap a its.toArray:=by
 cases t with
 | false =>
  obtain⟨its,r,p,_⟩:=I.list h
  exact⟨its,r,p.isList⟩
 | true =>
  obtain⟨its,r,p,_⟩:=I.tuple h
  exact⟨its,r,p⟩
def Inv.sqq_inj{X:Cx}{pins:List (Addr×Obj)}{U:St}{H:Hp}{s:Shared}(I:Inv X pins U H s){t:Bool}{a:Addr}{xs ys:List V}(h:SqQ X.K t H a xs)(h2:SqQ X.K t H a ys):xs=ys:=by
 cases t with
 | false=>exact I.list_inj h h2
 | true=>exact I.tuple_inj h h2
def Inv.sqq_ne{X:Cx}{pins:List (Addr×Obj)}{U:St}{H:Hp}{s:Shared}(I:Inv X pins U H s){t:Bool}{a TO:Addr}{xs:List V}(h:SqQ X.K t H a xs)(f:FpOk X pins H TO):a≠TO:=by
 have rd:∀{u:HO},Rd H a u->a≠TO:=λ{u} r z=>by
  rcases r with r|⟨o,r⟩<;>(rw[z,f.1] at r;cases r)
 have kn:∀{o:Obj},X.K.lookup a=some o->a≠TO:=λ{o} e z=>by
  have eb:=I.mod.kin a o e
  rcases f.2.2.2.1 with h1|h1
  .exact I.ok.noex a o eb (z▸h1)
  .have:=Xai (I.ok.bs a o eb).1
   rw[z] at this
   exact absurd (Xao this h1) (XaY _)
 cases t with
 | true =>
  rcases h with h|⟨o,_,_,e,_⟩
  .exact rd h
  .exact kn e
 | false =>
  rcases h with h|⟨o,_,_,e,_⟩
  .exact rd h
  .exact kn e
def zjH{prog:Program}{w:World}{A:Around}{E:Value->Shared->Prop}{s:Shared}{t u:Bool}{l1 l2:Addr}{xs ys:Array Value}{Q:Value->Shared->Prop}(g1:IsSq t s.heap l1 xs)(g2:IsSq u s.heap l2 ys)
  (q:∀h' n,n=s.heap.objs.size->IsZip h' (n+4) (n+2) (n+3) .none->IsPair h' (n+2) (.ref n) (.ref (n+1))->IsPair h' (n+3) .none .none->IsIt t h' n l1 0->IsIt u h' (n+1) l2 0 ->
   (∀d o,s.heap.get? d=some o->h'.get? d=some o)->Q (.ref (n+4)) {s with heap:=h'}) :
  wpAny (model prog w) A (call (.type "zip") [.ref l1,.ref l2]) Q E s:=by
 refine callType_new F.called_zip (by decide) (F.typeCall_zip_2 _ _) (F.newCall_zip_2 _ _) (λobj=>F.args_object_init_3 obj _ _) F.entry_zip_new (zjV t u l1 l2 xs ys) {g1,g2,?_}
 have n1:(yA t s.heap l1).objs.size=s.heap.objs.size+1:=XaC ..
 have n2:(yA u (yA t s.heap l1) l2).objs.size=s.heap.objs.size+2:=by rw[XaC,n1]
 have n3:(yBq t u s.heap l1 l2).objs.size=s.heap.objs.size+3:=by rw[XaC,n2]
 have n4:(yCq t u s.heap l1 l2).objs.size=s.heap.objs.size+4:=by rw[XaC,n3]
 have a4:(yDq t u s.heap l1 l2).get? (yCq t u s.heap l1 l2).objs.size=some _:=Xag _ O
 have a3:(yDq t u s.heap l1 l2).get? (yBq t u s.heap l1 l2).objs.size=some _:=Xab _ (Xag _ O)
 have a2:(yDq t u s.heap l1 l2).get? (yA u (yA t s.heap l1) l2).objs.size=some _:=Xab _ (Xab _ (Xag _ O))
 have a1:(yDq t u s.heap l1 l2).get? (yA t s.heap l1).objs.size=some _:=Xab _ (Xab _ (Xab _ (Xag _ O)))
 have a0:(yDq t u s.heap l1 l2).get? s.heap.objs.size=some _:=Xab _ (Xab _ (Xab _ (Xab _ (Xag _ O))))
 show _/\_
 rw[n2,n3,n4] at a4
 rw[n3] at a3
 rw[n1,n2] at a2
 rw[n1] at a1
 rw[n4]
 exact⟨{_,a4,O},q _ _ O a4 a2 a3 {_,a0,O,O} {_,a1,O,O} λd o e =>
  Xab _ (Xab _ (Xab _ (Xab _ (Xab _ e))))⟩
def ItQ(K:W.Frag)(t u:Bool)(a b:Addr):It:=
 ⟨λi H=>∃xs x ys y,SqQ K t H a xs/\SqQ K u H b ys/\xs[i]?=some x/\ys[i]?=some y,
  λi H v H'=>∃T x y,H T=none/\v=.ref T/\H'=upd H T (.tup [x,y])/\(∀xs,SqQ K t H a xs->xs[i]?=some x)/\∀ys,SqQ K u H b ys->ys[i]?=some y,
  λi H=>∃xs,SqQ K t H a xs/\xs.length<=i⟩
def zgJ{t t1 t2:Bool}{h:Heap}{z TI TO i1 i2 l k1 k2:Addr}{it:Array Value}{f0:Value}{n1 n2:Nat}(g:IsSq t h l it)(hz:IsZip h z TI TO f0)(lo:l≠TO)(h1:IsIt t1 h i1 k1 n1)(h2:IsIt t2 h i2 k2 n2):FarM z TO i1 i2 l:=by
 have ap:∀{d:Addr} {o:Obj},h.get? d=some o->o.cls≠.type (sqC t)->l≠d:=λ{d o} e nc y=>by
  obtain⟨o',e',c',_⟩:=g
  rw[y,e] at e';cases e';exact nc c'
 obtain⟨_,e1,c1,_⟩:=h1
 obtain⟨_,e2,c2,_⟩:=h2
 have ne:∀r:Bool,(Value.type (itC r))≠.type (sqC t):=λr=>by cases t<;>cases r<;>simp[itC,sqC]
 exact{ap hz (by cases t<;>simp[sqC]),lo,ap e1 (by rw[c1];exact ne _),ap e2 (by rw[c2];exact ne _)}
def zim{P:Program}{w:World}{K:W.Frag}{elts:List Expr}{kt:Nat}{tp:Pos}(t u:Bool)(l1 l2 z TI TO i1 i2:Addr)(D:Far2 z TO i1 i2)(TIz:TI≠z)(TITO:TI≠TO)(TI1:TI≠i1)(TI2:TI≠i2) :
  Turn P w K (.Tuple elts kt tp) (ItQ K t u l1 l2) [z,TI,TO,i1,i2] z (λi h=>IsZip h z TI TO .none/\IsPair h TI (.ref i1) (.ref i2)/\(∃a b,IsPair h TO a b)/\IsIt t h i1 l1 i/\IsIt u h i2 l2 i) where
 mem:=by simp
 obj:=λi h st b hb=>by
  obtain⟨hz,hI,⟨_,_,hO⟩,⟨o1,e1,_,d1⟩,⟨o2,e2,_,d2⟩⟩:=st
  simp only[Xan,XaV,or_false] at hb
  rcases hb with rfl|rfl|rfl|rfl|rfl
  .exact{_,hz,λv y=>by have y':Data.fields _=Data.cell v:=y;cases y'}
  .exact{_,hI,λv y=>by have y':Data.seq _ _=Data.cell v:=y;cases y'}
  .exact{_,hO,λv y=>by have y':Data.seq _ _=Data.cell v:=y;cases y'}
  .exact{_,e1,λv y=>by rw[d1] at y;cases y}
  .exact{_,e2,λv y=>by rw[d2] at y;cases y}
 keep:=λi h h' st k=>by
  obtain⟨hz,hI,⟨a,b,hO⟩,h1,h2⟩:=st
  exact{k z (by simp) _ hz,k TI (by simp) _ hI,{a,b,k TO (by simp) _ hO},h1.at λo e=>k i1 (by simp) o e,h2.at λo e=>k i2 (by simp) o e}
 item:=by
  intro X hP hw hK hc i pins s U H E I hf st hg
  subst hP hw hK
  obtain⟨xs,x,ys,y,p1,p2,e1,e2⟩:=hg
  obtain⟨t1,r1,f1⟩:=I.sqq p1
  obtain⟨t2,r2,f2⟩:=I.sqq p2
  obtain⟨v1,w1,rx⟩:=r1.get e1
  obtain⟨v2,w2,ry⟩:=r2.get e2
  obtain⟨hz,hI,⟨a,b,hO⟩,h1,h2⟩:=st
  have fO:FpOk X pins H TO:=hf TO (by simp)
  have hT:s.TypeIs (.ref z) "zip" := {_,hz,O}
  unfold pyNext
  refine Xaa (Xbt (wpAny_callSpecial?_slot (name:=Str.ofString "__next__") hT F.slot_zip_next (XaQ F.slot_zip_next hT F.entry_zip_next
   (zh9 D (zgJ f1 hz (I.sqq_ne p1 fO) h1 h2) (zgJ f2 hz (I.sqq_ne p2 fO) h1 h2) hz hI hO h1 h2 f1 f2 (x:=v1) (y:=v2) (by simpa using w1) (by simpa using w2)
    λh' z1 O1 m1 m2 T1 s1 kk=>Xac {_,O,?_}) (F.args_zip_next_1 _))))
  refine wpAny_letOwnedTupleGo_zip z1 λh4 z4 sb=>?_
  have fT:FpOk X pins H s.heap.objs.size:=I.fpOk (Xad _) (I.hok.fresh (Xad _))
  have k2:∀d o,d∉[z,TI,TO,i1,i2]->s.heap.get? d=some o->h4.get? d=some o:=λd o hb e=>by
   simp only[Xan,XaV,or_false,not_or] at hb
   obtain⟨q1,q2,q3,q4,q5⟩:=hb
   exact(sb.2 d q1).trans (kk d o q1 q3 q4 q5 e)
  have I1:Inv X pins U H {s with heap:=h4,toks:=s.toks}:=I.turnedL (ch:=[z,TI,TO,i1,i2]) k2 hf
  have eT:h4.get? s.heap.objs.size=some {cls:=.type "tuple",data:=.seq #[v1,v2]}:=(sb.2 _ (Xbe (Xai hz))).trans T1
  have I2:=I1.track (o:=.tup [x,y]) fT (Xak I.sz (Xad _)) (zeE rx ry eT)
  refine⟨.ref s.heap.objs.size,_,I2,O,{_,x,y,fT.1,O,O,λys hy=>by rw[I.sqq_inj hy p1];exact e1,λys hy=>by rw[I.sqq_inj hy p2];exact e2},
   {z4,(sb.2 _ TIz).trans (kk _ _ TIz TITO TI1 TI2 hI),{_,_,sb.extBut _ _ D.oz O1},m1.at λo e=>sb.extBut _ _ D.az e,m2.at λo e=>sb.extBut _ _ D.bz e},λd hb=>?_⟩
  have hlt:d<s.heap.objs.size:=by
   obtain⟨_,g1,_⟩:=h1
   obtain⟨_,g2,_⟩:=h2
   simp only[Xan,XaV,or_false] at hb
   rcases hb with rfl|rfl|rfl|rfl|rfl
   .exact Xai hz
   .exact Xai hI
   .exact Xai hO
   .exact Xai g1
   .exact Xai g2
  rw[zah (Xay hlt)]
  exact(hf d hb).1
 done:=by
  intro X hP hw hK hc i pins s U H E I hf st hg
  subst hP hw hK
  obtain⟨xs,p1,hx⟩:=hg
  obtain⟨t1,r1,f1⟩:=I.sqq p1
  obtain⟨hz,hI,⟨a,b,hO⟩,h1,h2⟩:=st
  have far:l1≠TO:=I.sqq_ne p1 (hf TO (by simp))
  have hT:s.TypeIs (.ref z) "zip" := {_,hz,O}
  have e1:=r1.length
  unfold pyNext
  refine Xaa (Xbt (wpAny_callSpecial?_slot (name:=Str.ofString "__next__") hT F.slot_zip_next (XaQ F.slot_zip_next hT F.entry_zip_next
   (zgR (I.ok.hd hc) D (zgJ f1 hz far h1 h2) hz hI h1 f1 (by simp;omega) λh' e kk he=>?_) (F.args_zip_next_1 _))))
  obtain⟨o,ho,hcl⟩:=he
  refine Xaa (wpAny_isInstance (T := "StopIteration") (b:=true) ⟨o,ho,hcl⟩ isSubtype_stop ?_)
  refine Xac {O,I.turnedL (t':=s.toks) (ch:=[z,TI,TO,i1,i2]) (λd o hb e=>?_) hf}
  simp only[Xan,XaV,or_false,not_or] at hb
  exact kk d o hb.1 hb.2.2.2.1 e
 self:=λ_ _ _ _ _ st h=>wpAny_pyIter_zip st.1 h
inductive iZipQ_1(K:W.Frag)(R:It->Hp->Prop)(vs:List V)(H1:Hp):Prop
 | mk t u a b xs ys(_:vs=[.ref a,.ref b])(_:SqQ K t H1 a xs)(_:SqQ K u H1 b ys)(_:R (ItQ K t u a b) H1)
def iZipQ(K:W.Frag)(ta:TA):TI:=λU H R=>ta U H (iZipQ_1 K R)
def zl1{X:Cx}{K:W.Frag}{a b:Expr}{ta:TA}{p pos:Pos}{elts:List Expr}{kt:Nat}{tp:Pos}(hK:X.K=K)(hg:Gl X "zip")(hm:X.mg "zip"=none)(ha:PA X [a,b] ta)(hs:starEach [a,b] X.env=(false,eval a X.env)::starEach [b] X.env:=by rfl)(hs2:(backTo pos (starEach [b] X.env)).any (·.1)=false:=by rfl) :
  PI X (.Tuple elts kt tp) (.Call (.Name "zip" p) [a,b] [] pos) (iZipQ K ta):=by
 subst hK
 intro pins s U H R I h
 refine Call_ (zcP I hg hm zhf (PyProof.Rows.callWith_type1 (thn (ha pos pins s U H _ I h) λus s1 hh_=>?_) hs hs2))
 obtain⟨vs,H1,I1,r1,q1⟩:=hh_
 obtain⟨t,u,l1,l2,xs,ys,e,p1,p2,q⟩:=q1
 subst e
 cases r1 with
 | cons ra rr=>cases rr with
  | cons rb rr =>
   cases rr
   cases ra;cases rb
   obtain⟨t1,v1,f1⟩:=I1.sqq p1
   obtain⟨t2,v2,f2⟩:=I1.sqq p2
   refine zjH f1 f2 λh' n hn hz hI hO h1 h2 kk=>?_
   refine wpAny_pyIter_zip hz ?_
   have I2:Inv X pins U H1 {s1 with heap:=h',toks:=s1.toks}:=I1.kept kk
   have ge:∀b,n<=b->FpOk X pins H1 b:=λb hb=>I1.fpOk (by rw[<- hn];exact hb) (I1.hok.fresh (by rw[<- hn];exact hb))
   have ne:∀i j:Nat,i≠j->(n+i:Nat)≠n+j:=λi j h=>by omega
   refine⟨n+4,[n+4,n+2,n+3,n,n+1],_,_,H1,O,I2,zim t u l1 l2 (n+4) (n+2) (n+3) n (n+1) {ne 3 4 (by decide),ne 0 4 (by decide),ne 1 4 (by decide),ne 3 0 (by decide),ne 3 1 (by decide),ne 0 1 (by decide)}
    (ne 2 4 (by decide)) (ne 2 3 (by decide)) (ne 2 0 (by decide)) (ne 2 1 (by decide)),{hz,hI,{_,_,hO},h1,h2},λb hb=>ge b ?_,q⟩
   simp only[Xan,XaV,or_false] at hb
   rcases hb with rfl|rfl|rfl|rfl|rfl
   .exact Xbn _ _
   .exact Xbn _ _
   .exact Xbn _ _
   .exact Xad _
   .exact Xbn _ _
def zjD{K:W.Frag}{t u:Bool}{g:TG}{tf:TT}{te:TE}{Q:List V->Hp->Prop}{U:St}{H:Hp}{a b:Addr}{xs ys:List V}(Pv:Nat->List V->St->Hp->Prop)(he:xs.length=ys.length)(hn:xs.length<=sizeLine)(h0:Pv 0 [] U H)
  (hl:∀i rs U H,i<=xs.length->Pv i rs U H->SqQ K t H a xs/\SqQ K u H b ys/\rs.length<=i)
  (hs:∀i x y T rs U H,xs[i]?=some x->ys[i]?=some y->H T=none->Pv i rs U H->g (.ref T) U (upd H T (.tup [x,y])) λU2 H2=>tf U2 H2 λb H3=>if b=true then te U2 H3 λy H4=>Pv (i+1) (rs++[y]) U2 H4 else Pv (i+1) rs U2 H3)
  (hd:∀rs U H,Pv xs.length rs U H->Q rs H):zf9 (ItQ K t u a b) g tf te Q U H:=by
 refine{λi m rs U H=>m=xs.length-i/\i<=xs.length/\Pv i rs U H,{xs.length,by simp,Nat.zero_le _,h0},?_}
 rintro i m rs U H ⟨rfl,hi,p⟩
 obtain⟨q,q2,hz⟩:=hl i rs U H hi p
 by_cases hlt:i<xs.length
 .refine .inr {{xs,xs[i],ys,ys[i]'(by omega),q,q2,by simp[hlt],by simp[he▸hlt]},by omega,Pv (i+1),λys' U' H' p'=>{xs.length-(i+1),by omega,O,hlt,p'},λv H' y=>?_}
  obtain⟨T,x,y',hT,rfl,rfl,y1,y2⟩:=y
  exact hs i x y' T rs U _ (y1 xs q) (y2 ys q2) hT p
 .have e:i=xs.length:=by omega
  exact .inl {{xs,q,by omega},by omega,hd rs U H (e▸p)}
end L2
end
section
namespace L2
open PySem PySem.Spec PyProof.Rows Builtin
open AutoSeq1 (wpAny_loadPart')
def zkT{prog:Program}{w:World}{A:Around}(hh:A.handled=none)(it l:Addr)(hne:l≠it)(items:Array Value) :
  Draws prog w A it [it,l] (items.size+1) (λi v=>∃k,i=k+1/\items[k]?=some v) (λi h=>∃k,i=k+1/\h.IsListIter it l k/\h.IsList l items) where
 live:=λ_ _ st=>let⟨_,_,st,_⟩:=st;let⟨o,ho,_⟩:=st;⟨o,ho⟩
 frame:=λi h h' st hk=>let⟨k,e,st⟩:=st;{k,e,(Draws.list (prog:=prog) (w:=w) hh it l hne items).frame k h h' st hk}
 item:=λi s Q E hi st hQ=>by
  obtain⟨k,rfl,st⟩:=st
  exact(Draws.list hh it l hne items).item k s Q E (by omega) st λx h' tk p st' sb=>hQ x h' tk ⟨k,O,p⟩ {k+1,O,st'} sb
 done:=λs Q E st hE=>by
  obtain⟨k,e,st⟩:=st
  obtain rfl:items.size=k:=by omega
  exact(Draws.list hh it l hne items).done s Q E st hE
def zhY{prog:Program}{w:World}{A:Around}(hh:A.handled=none)(it l:Addr)(items:Array Value)(n k:Nat)(hk:items.size<=k) :
  Draws prog w A it [it,l] n (λ_ _=>False) (λj h=>j=n/\h.IsListIter it l k/\h.IsList l items) where
 live:=λ_ _ st=>let⟨_,st,_⟩:=st;let⟨o,ho,_⟩:=st;⟨o,ho⟩
 frame:=λi h h' st hk=>{st.1,st.2.1.at λo e=>hk it (by simp) o e,st.2.2.at λo e=>hk l (by simp) o e}
 item:=λi s Q E hi st hQ=>by
  have:=st.1
  omega
 done:=λs Q E st hE=>wpAny_nextOf_list_end hh st.2.1 st.2.2 (by simp;exact hk) hE
def zeq{T newId:String}{self a:Value}{rest:List Value}{kw:List (Str×Value)}(hl:typeLookup (.type T) "__init__"=pure (some (.builtin "object.__init__")))
  (hm:Bind.madeBy (.type T)=pure (some newId)) (hne:(some newId != some "object.__new__")=true) :
  Meets (Builtin.«object.__init__» {self::a::rest,kw}) (λ_ R s=>s.TypeIs self T/\R (.ok (.ret .none)) s):=by
 refine Meets.of_wp λprog w A R s hs=>?_
 obtain⟨hT,hq⟩:=hs
 repeat(any_goals (first|assumption|wp_step))
 exact{_,O,hq}
section
variable{prog:Program}{w:World}{A:Around}{E:Value->Shared->Prop}{s:Shared}
def zgM{T newId:String}{Bn:Builtin}{a:Value}{args:List Value}{kw:List (Str×Value)}{S:PySem.Spec}{Q:Value->Shared->Prop}(ft:TypeCalled T newId "object.__init__")
  (hne:(some newId != some "object.__new__")=true) (hct:checkTypeCall T {a::args,kw}=pure ()) (hcn:checkBuiltinCall newId {.type T::a::args,kw}=pure ())
  (hok:∀obj,argsOk "object.__init__" {obj::a::args,kw}) (entryN:entryFor table newId=some Bn) (g:Meets (Bn {.type T::a::args,kw}) S)
  (h:S A.in1 (wants (λobj s₁=>s₁.TypeIs obj T/\Q obj s₁) E) s):wpAny (model prog w) A (call (.type T) (a::args) kw) Q E s:=by
 obtain⟨c,tl,hmro⟩:=ft.mro
 have hmade:=ft.made
 have hsub:=ft.sub
 refine Xbr (codeAny_of_tree ?_)
 show wpAny _ _ (callAny (.type T) _) _ _ _
 refine Xac {Code.quiet_builtin _ (by decide +kernel),codeAny_builtin F.entry_type_call ?_}
 rw[Around.under_plain (weight_type_call_type T (a::args) kw) (units_type_call_type T (a::args) kw)]
 have h1:=ft.notType
 have h2:=ft.canCreate
 repeat(any_goals (first|assumption|wp_step))
 refine Xbj (Xbs ft.plain entryN (wpAny_of_eq hcn (g prog w A.in1 _ s h))) λr s₁ hr=>?_
 cases r with
 | error e=>exact hr
 | ok fl =>
  cases fl with
  | ret obj =>
   obtain⟨hT,hq⟩:=hr
   have hli:=ft.init.lookup
   have hbi:=ft.init.bind obj
   repeat(any_goals (first|assumption|wp_step))
   refine Xbj (Xbs ft.init.plain F.entry_object_init (ft.init.check _ _ _ _ _ _ _ _ hT (hok obj) (zeq ft.init.lookup ft.made hne prog w A.in1 (wants (λr s₂=>r=.none/\Q obj s₂) E) s₁ ⟨hT,O,hq⟩))) λr₂ s₂ hr₂=>?_
   cases r₂ with
   | error e=>exact hr₂
   | ok fl₂ =>
    cases fl₂ with
    | ret r =>
     obtain⟨rfl,hq⟩:=hr₂
     repeat(any_goals (first|assumption|wp_step))
    | _=>exact hr₂.elim
  | _=>exact hr.elim
end
def upKw(t:Tok):List (Str×Value):=[("start",.int 1 t)]
set_option tactic.hygienic true in
def ze2(l:Addr)(items:Array Value)(n:Nat)(dct:Option Addr)(sl:Array (Option Value))(t:Tok) :
  Meets (Builtin.«enumerate.__new__» {[.type "enumerate",.ref l],upKw t}) (λ_ R s=>s.heap.get? l=some {cls:=.type "list",dict:=dct,data:=.seq items n,slots:=sl} /\
   R (.ok (.ret (.ref (s.heap.push {cls:=.type "list_iterator",data:=.fields #[.ref l,.int 0 0]}).objs.size)))
    {s with heap:=(s.heap.push {cls:=.type "list_iterator",data:=.fields #[.ref l,.int 0 0]}).push {cls:=.type "enumerate",data:=.fields #[.none,.bool false,.ref s.heap.objs.size,rawInt 1,.none,.none]}}):=
 .of_wp λprog w A R s h=>by
  obtain⟨hp,g,d,tk,os⟩:=s;obtain⟨hl,h⟩:=h
  have hsub:=sub_enumerate
  have hL:Heap.IsList (Shared.heap ⟨hp,g,d,tk,os⟩) l items:={_,hl,O,n,O}
  unfold upKw
  wp_walk using wpAny_loadPart' hl
  refine wpAny_stack_any λst=>Xac ?_
  split
  .rename_i c _ _ _ _ _
   cases(c==Value.type "enumerate")
   .wp_walk using wpAny_loadPart' hl,Xbh hL
    exact{_,O,h}
   .wp_walk using wpAny_loadPart' hl,Xbh hL
    exact{_,O,h}
  .wp_walk using wpAny_loadPart' hl,Xbh hL
   exact{_,O,h}
section
variable{prog:Program}{w:World}{A:Around}{E:Value->Shared->Prop}{s:Shared}
def zgF(a:Value)(t:Tok):checkTypeCall "enumerate" {[a],upKw t}=pure ():=by kernel_rfl
def zhO(a:Value)(t:Tok):checkBuiltinCall "enumerate.__new__" {[.type "enumerate",a],upKw t}=pure ():=by kernel_rfl
def zgG(o a:Value)(t:Tok):argsOk "object.__init__" {[o,a],upKw t}:=by
 unfold argsOk;rw[signature?_of (id := "object.__init__") (n:=['_','_','t','i','n','i','_','_']) (o:=['t','c','e','j','b','o']) (by kernel_rfl) F.owner_object];kernel_rfl
def zf1{l:Addr}{items:Array Value}{t:Tok}{Q:Value->Shared->Prop}(hL:s.heap.IsList l items)
  (h:∀h',IsEnum h' (s.heap.objs.size+1) s.heap.objs.size 1 .none->h'.IsListIter s.heap.objs.size l 0->h'.objs.size=s.heap.objs.size+2 ->
   (∀b o,s.heap.get? b=some o->h'.get? b=some o)->Q (.ref (s.heap.objs.size+1)) {s with heap:=h'}) :
  wpAny (model prog w) A (call (.type "enumerate") [.ref l] (upKw t)) Q E s:=by
 obtain⟨⟨c,dct,dt,sl⟩,hl,hc,n,hd⟩:=hL
 replace hc:c=.type "list" := hc
 replace hd:dt=.seq items n:=hd
 subst hc hd
 refine zgM F.called_enumerate (by decide) (zgF _ t) (zhO _ t) (λobj=>zgG obj _ t) F.entry_enumerate_new
  (ze2 l items n dct sl t) {hl,?_}
 have hz:(s.heap.push {cls:=.type "list_iterator",data:=.fields #[.ref l,.int 0 0]}).objs.size=s.heap.objs.size+1:=XaC ..
 show _/\_
 rw[hz]
 have he:IsEnum ((s.heap.push {cls:=.type "list_iterator",data:=.fields #[.ref l,.int 0 0]}).push
   {cls:=.type "enumerate",data:=.fields #[.none,.bool false,.ref s.heap.objs.size,rawInt 1,.none,.none]}) (s.heap.objs.size+1) s.heap.objs.size 1 .none:=by
  have:=Xag (s.heap.push {cls:=.type "list_iterator",data:=.fields #[.ref l,.int 0 0]})
   (o:={cls:=.type "enumerate",data:=.fields #[.none,.bool false,.ref s.heap.objs.size,rawInt 1,.none,.none]}) O
  rw[hz] at this;exact this
 refine{{_,he,O},h _ he {_,Xab _ (Xag _ O),O,O} (by rw[XaC,hz]) λb o x=>Xab _ (Xab _ x)}
end
def ItUp(K:W.Frag)(a:Addr):It:=
 ⟨λi H=>∃xs x,SqL K H a xs/\xs[i]?=some x,
  λi H v H'=>∃T x,H T=none/\v=.ref T/\H'=upd H T (.tup [.int ((i:Int)+1),x])/\∀xs,SqL K H a xs->xs[i]?=some x,
  λi H=>∃xs,SqL K H a xs/\xs.length<=i⟩
def zho{P:Program}{w:World}{K:W.Frag}{elts:List Expr}{kt:Nat}{tp:Pos}(a e it:Addr)(hne:e≠it) :
  Turn P w K (.Tuple elts kt tp) (ItUp K a) [e,it] e (λi h=>(∃old,IsEnum h e it ((i:Int)+1) old)/\h.IsListIter it a i) where
 mem:=by simp
 obj:=λi h st b hb=>by
  obtain⟨⟨old,he⟩,hi⟩:=st
  rcases Xan.mp hb with z|z
  .subst z
   exact⟨_,he,λv z=>by
    have z':Data.fields _=Data.cell v:=z
    cases z'⟩
  .have z:=Xae.mp z
   subst z
   obtain⟨o,e1,c,d⟩:=hi
   exact{o,e1,λv z=>by rw[d] at z;cases z}
 keep:=λi h h' st k=>by
  obtain⟨⟨old,he⟩,hi⟩:=st
  exact{{old,k e (by simp) _ he},hi.at λo e1=>k it (by simp) o e1}
 item:=by
  intro X hP hw hK hc i pins s U H E I hf st hg
  subst hP hw hK
  obtain⟨xs,x,hq,hx⟩:=hg
  obtain⟨its,rv,p,hz⟩:=I.list hq
  obtain⟨u,hu,ru⟩:=rv.get hx
  obtain⟨⟨old,he⟩,hi⟩:=st
  have hai:a≠it:=λz=>by
   obtain⟨o,e1,c1,_⟩:=p.isList
   obtain⟨o2,e2,c2,_⟩:=hi
   rw[z,e2] at e1;cases e1
   rw[c2] at c1;exact absurd c1 (by simp)
  have hea:e≠a:=λz=>by
   obtain⟨o,e1,c1,_⟩:=p.isList
   rw[<- z,he] at e1;cases e1
   exact absurd c1 (by simp)
  have D:=zkT (prog:=X.prog) (w:=X.w) (A:=X.A.in1) (show X.A.in1.handled=none from I.ok.hd hc) it a hai its.toArray
  have hil:i<its.length:=by have:=(Xas.mp hu).1;exact this
  refine wpAny_pyNext_enum_itemD (i:=i+1) D (by exact_mod_cast he) ⟨i,O,hi,p.isList⟩ (by simp;omega) hne (by simp[hne,hea]) λu' h' tk hP ho st' ht hsz kk=>{_,O,?_}
  obtain⟨k,ek,hu'⟩:=hP
  obtain rfl:i=k:=by omega
  obtain rfl:u'=u:=by
   have:its.toArray[i]?=some u:=by simpa using hu
   rw[this] at hu';exact(Option.some.inj hu').symm
  obtain⟨k2,ek2,hi',_⟩:=st'
  obtain rfl:i+1=k2:=by omega
  refine wpAny_letOwnedTupleGo_enum ho λh2 he2 sb=>?_
  have fT:FpOk X pins H s.heap.objs.size:=I.fpOk (Xad _) (I.hok.fresh (Xad _))
  have k2:∀b o,b∉[e,it]->s.heap.get? b=some o->h2.get? b=some o:=λb o hb e1=>by
   simp only[Xan,XaV,or_false,not_or] at hb
   exact(sb.2 b hb.1).trans (kk b o hb.1 hb.2 e1)
  have I1:Inv X pins U H {s with heap:=h2,toks:=tk+1}:=I.turnedL (ch:=[e,it]) k2 hf
  have eT:h2.get? s.heap.objs.size=some {cls:=.type "tuple",data:=.seq #[.int ((i:Int)+1) tk,u']}:=by
   have:=(sb.2 _ (Xbe (Xai he))).trans ht
   exact_mod_cast this
  have I2:=I1.track (o:=.tup [.int ((i:Int)+1),x]) fT (Xak I.sz (Xad _)) (zeE {_,O} ru eT)
  refine{.ref s.heap.objs.size,_,I2,O,{_,x,fT.1,O,O,λys hy=>by rw[I.list_inj hy hq];exact hx},{{u',by exact_mod_cast he2},hi'.extBut sb.extBut (Ne.symm hne)},λb hb=>?_}
  obtain⟨o,eb⟩:∃o,s.heap.get? b=some o:=by
   rcases Xan.mp hb with z|z
   .subst z;exact{_,he}
   .have z:=Xae.mp z
    subst z
    obtain⟨o,e1,_⟩:=hi
    exact⟨o,e1⟩
  rw[zah (Xay (Xai eb))]
  exact(hf b hb).1
 done:=by
  intro X hP hw hK hc i pins s U H E I hf st hg
  subst hP hw hK
  obtain⟨xs,hq,hx⟩:=hg
  obtain⟨its,rv,p,hz⟩:=I.list hq
  obtain⟨⟨old,he⟩,hi⟩:=st
  have hl:=rv.length
  have D:=zhY (prog:=X.prog) (w:=X.w) (A:=X.A.in1) (show X.A.in1.handled=none from I.ok.hd hc) it a its.toArray 0 i (by simp;omega)
  exact wpAny_pyNext_enum_endD D he ⟨O,hi,p.isList⟩ λh' eb=>{O,I.turnedL (t':=s.toks) (ch:=[e,it]) (λb o hb e1=>eb b o (λz=>hb (by simp[z])) e1) hf}
 self:=λ_ _ _ _ _ st h=>by
  obtain⟨⟨old,he⟩,hi⟩:=st
  exact wpAny_pyIter_enum he h
section
variable{M:Model}{A:Around}{E:Value->Shared->Prop}{s:Shared}{env:Env}
def zeg{pos:Pos}{T:String}{args:List (Bool×Sem Value)}{keywords:List (Option Str×Sem Value)}{Q:Value->Shared->Prop}(hplain:(args.any (·.1) || keywords.any (·.1.isNone))=false)
  (h:wpAny M A (evalArgs (.type T) true args keywords) (λa s₁=>wpAny M A (call (.type T) a.pos a.kw) Q E s₁) E s) :
  wpAny M A (callWith pos (.type T) [] args keywords) Q E s:=by
 unfold callWith
 refine Xaa (XaE (Xav h (λa s₁ h₁=>Xaa (Xa9 ?_)) λ_ _ x=>x))
 simp only[hplain]
 refine Xaa (Xac ?_)
 exact Xaa (Xav h₁ (λr s₂ hr=>Xaa (XaE (wpAny_point (Xac hr)))) λ_ _ x=>x)
end
inductive iEnumU_2(K:W.Frag)(R:It->Hp->Prop)(vs:List V)(ks:List V)(H1:Hp):Prop
 | mk a(_:vs=[.ref a])(_:ks=[.int 1])(_:(∃xs,SqL K H1 a xs))(_:R (ItUp K a) H1)
def iEnumU(K:W.Frag)(ta tk:TA):TI:=λU H R=>ta U H λvs H1=>tk U H1 λks H2=>iEnumU_2 K R vs ks H2
def zkk{X:Cx}{a:Expr}{kws:List Keyword}{ta tk:TA}{p pos:Pos}{elts:List Expr}{kt:Nat}{tp:Pos}(hg:Gl X "enumerate")(hm:X.mg "enumerate"=none)(ha:PA X [a] ta)(hkw:PK X kws tk)(hs:starEach [a] X.env=[(false,eval a X.env)]:=by rfl)
  (hall:(backToKw pos (keywordEach kws X.env)).all (·.1.isSome)=true:=by rfl) (hks:(backToKw pos (keywordEach kws X.env)).filterMap (·.1)=[("start" : Str)]:=by rfl)
  (hpl:((backTo pos (starEach [a] X.env)).any (·.1) || (backToKw pos (keywordEach kws X.env)).any (·.1.isNone))=false:=by rfl) :
  PI X (.Tuple elts kt tp) (.Call (.Name "enumerate" p) [a] kws pos) (iEnumU X.K ta tk):=by
 intro pins s U H R I h
 have he:starEach [a] X.env=(false,eval a X.env)::starEach [] X.env:=hs
 refine Xbf (zcP I hg hm boot_enumerate (zeg hpl (evalArgs_kw2 hall (thn (ha pos pins s U H _ I h) λus s1 ⟨vs,H1,I1,r1,q1⟩=>thn (hkw pos pins s1 U H1 _ I1 q1) λws s2 hh_=>?_) he)))
 obtain⟨ks,H2,I2,r2,q2⟩:=hh_
 obtain⟨l,e,e2,⟨xs,hq⟩,q⟩:=q2
 subst e e2
 obtain⟨u,rfl,ru⟩:=zbW r1
 obtain⟨u2,rfl,ru2⟩:=zbW r2
 cases ru
 obtain⟨t,rfl⟩:=(show∃t,u2=Value.int 1 t from ru2)
 rw[hks]
 obtain⟨its,rv,pl,hz⟩:=I2.list hq
 refine zf1 (t:=t) pl.isList λh' he hi hsz kk=>?_
 refine wpAny_pyIter_enum he ?_
 have I3:Inv X pins U H2 {s2 with heap:=h',toks:=s2.toks}:=I2.kept kk
 refine{s2.heap.objs.size+1,[s2.heap.objs.size+1,s2.heap.objs.size],_,_,H2,O,I3,zho l _ _ (Nat.succ_ne_self _),{{_,by exact_mod_cast he},hi},λb hb=>?_,q}
 rcases Xan.mp hb with z|z
 .subst z;exact I2.fpOk (Xbv _) (I2.hok.fresh (Xbv _))
 .have z:=Xae.mp z
  subst z;exact I2.fpOk (Xad _) (I2.hok.fresh (Xad _))
def zjr{K:PySem.W.Frag}{a:Addr}{xs:List V}{g:TG}{tb:TS}{D:Ends}{U:St}{H:Hp}(Pv:Nat->St->Hp->Prop)(h0:Pv 0 U H)(hl:∀i U H,i<=xs.length->Pv i U H->SqL K H a xs)
  (hs:∀i x T U H,xs[i]?=some x->H T=none->Pv i U H->g (.ref T) U (upd H T (.tup [.int ((i:Int)+1),x])) λU2 H2=>tb {D with nx:=Pv (i+1),ct:=Pv (i+1),bk:=D.nx} U2 H2) (hd:∀U H,Pv xs.length U H->D.nx U H) :
  ∃W:Nat->Nat->St->Hp->Prop,(∃m,W 0 m U H)/\∀i m U H,W i m U H ->
   ((ItUp K a).stop i H/\D.nx U H)\/((ItUp K a).go i H/\∃N:St->Hp->Prop,(∀U' H',N U' H'->∃m',m'<m/\W (i+1) m' U' H')/\∀x H',(ItUp K a).yld i H x H'->g x U H' λU2 H2=>tb {D with nx:=N,ct:=N,bk:=D.nx} U2 H2):=by
 refine{λi m U H=>m=xs.length-i/\i<=xs.length/\Pv i U H,{xs.length,by simp,Nat.zero_le _,h0},?_}
 rintro i m U H ⟨rfl,hi,p⟩
 have q:=hl i U H hi p
 by_cases hlt:i<xs.length
 .refine .inr {{xs,xs[i],q,by simp[hlt]},Pv (i+1),λU' H' p'=>{xs.length-(i+1),by omega,O,hlt,p'},λv H' y=>?_}
  obtain⟨T,x,hT,rfl,rfl,y⟩:=y
  exact hs i x T U _ (y xs q) hT p
 .have e:i=xs.length:=by omega
  subst e
  exact .inl {{xs,q,Xad _},hd U H p}
end L2
end
section
namespace L2
open PySem PySem.Spec PyProof.Rows HT
def zhW{P:Program}{w:World}{K:W.Frag}{mg:Str->Option Value}{base:Heap}{N:List Str}{qual:Str}{scope:Scope}{f:Addr}{cd:Value}{A:Around}{outer:List Env}{s:Shared}{H:Hp}{E:XK}
  {pins:List (Addr×Obj)} {U:St} {H2:Hp} {s2:Shared} {e C:Addr} {od:Option Addr} (I:Inv ((cxOf (CX1 P w) P w K mg base N qual scope f cd A outer s H E).wish (flyE P w qual scope f cd A outer s H E)) pins U H2 s2) (ee:H2 e=some (.ext (xFr e C od))) (hn:s.heap.get? e=none) (hE:E (.ref C) od (unt H2 e)) :
  flyE P w qual scope f cd A outer s H E (.ref e) s2:=by
 have I:=I.unwish
 obtain⟨t,he⟩:=(show xFr e C od s2.heap from(I.hok e _ ee).1)
 have b1:=I.base
 refine zfc I.ok.frames I.stack (L:=s.heap.objs.size) O he O O λh'' T fT sl x=>?_
 have ne:∀b o,s.heap.get? b=some o->b∉[e]:=λb o q z=>by rw[Xae.mp z,hn] at q;cases q
 have nL:∀b o,s.heap.get? b=some o->b∉frs outer->b∉((envOfC qual scope s.heap.objs.size f cd)::outer).filterMap (·.frame):=λb o q hb z=>by
  rcases Xan.mp (show b∈s.heap.objs.size::outer.filterMap (·.frame) from z) with r|r
  .exact absurd r (Xay (Xai q))
  .exact hb r
 have nex:∀b,b∉(cxOf (CX1 P w) P w K mg base N qual scope f cd A outer s H E).ex:=λb=>by show b∉([]:List Addr);simp
 have dif:∀b o,H2 b=some o->o≠.ext (xFr e C od)->unt H2 e b=some o:=λb o q hne=>by
  rw[zgU λz=>hne (by rw[z,ee] at q;exact(Option.some.inj q).symm)];exact q
 refine{e,T,unt H2 e,C,od,O,I.os,I.bare,{λb o q n hb _=>?_,λb o q n hb _=>?_,λb o q n _=>?_,λb o q _=>?_,λb xs q=>dif _ _ (b1.tups b xs q) (λz=>nomatch z),λb o u q=>dif _ _ (b1.frzs b o u q) (λz=>nomatch z),λb ps q=>?_},?_,x,hn,?_,zgT,?_,hE}
 .exact(sl b o (b1.keep b o q n hb (nex b)) (ne b o q)).1 (nL b o q hb)
 .obtain⟨t1,e1⟩:=b1.slot b o q n hb (nex b)
  obtain⟨t2,e2⟩:=(sl b _ e1 (ne b o q)).2
  exact⟨t2,e2⟩
 .have:=b1.free b o q n (nex b)
  unfold unt
  split
  .rfl
  .exact this
 .obtain⟨o',e1⟩:=b1.there b o q (nex b)
  obtain⟨t2,e2⟩:=(sl b _ e1 (ne b o q)).2
  exact{_,e2}
 .obtain⟨more,q'⟩:=b1.tbls b ps q
  exact{more,dif _ _ q' (λz=>nomatch z)}
 .intro a o q
  have hae:a≠e:=λz=>by rw[z,zgT] at q;cases q
  rw[zgU hae] at q
  refine(I.hok a o q).stay (λb u hb hu=>?_) (λb z=>dif _ _ z (λz=>nomatch z)) λb xs z=>dif _ _ z (λz=>nomatch z)
  have hbe:b≠e:=by
   rcases hb with rfl|hb
   .exact hae
   .exactλz=>by rw[z,ee] at hb;cases hb
  refine(sl b u hu λz=>hbe (Xae.mp z)).1 λz=>?_
  have hf:H2 b=none:=I.stkFree b z
  rcases hb with rfl|hb
  .rw[hf] at q;cases q
  .rw[hf] at hb;cases hb
 .cases q:s.heap.get? T with
  | none=>rfl
  | some o =>
   obtain⟨o',q'⟩:=b1.there T o q (nex T)
   rw[fT] at q';cases q'
 .have:=I.hok.none_of fT
  unfold unt
  split
  .rfl
  .exact this
end L2
end
section
namespace L2
open PySem PySem.Spec PyProof.Rows HT
def tCompN(wi:TI):TE:=λU H _=>wi U H λ_ _=>False
section
variable{X:Cx}{Nc:List Str}{scope:Scope}{elt tg iter:Expr}{ifs:List Expr}{pos:Pos}{wi:TI}
def zkq(src:List (Option Nat))(S:CompOk X.N X.env.scope Nc src scope)(hi:PI X tg iter wi)
  (hs:∀x,foldedSetIterable iter X.env x=pure x:=by intro _;rfl):PE X (.ListComp elt [{tg,iter,ifs,0}] scope pos) (tCompN wi):=by
 intro pins s U H Q I h
 obtain⟨cl,hclos,hcl1,hcl2⟩:=zbf I.ok (scope:=scope) S.free
 rw[eval_ListComp]
 refine XbB (use:=none) O hs hclos S.kind (λx hx hl=>by obtain⟨n,k⟩:=x;cases hl;exact zbe S.nodup hx) (thn (hi pins s U H _ I h) λxv s1 h1=>thn h1 λitv s2 h2=>?_)
 obtain⟨it,fp,tn,J,H2,e,I2,T,st2,f2,hw⟩:=h2
 exact hw.elim
end
end L2
end
section
namespace L2
open PySem PySem.Spec PyProof.Rows HT
def zbU:List Expr->Option (List PySem.Str)
 | []=>some []
 | .Constant (.str x) _ _::es=>(zbU es).map (x::·)
 | _::_=>none
def zlI(xs:List PySem.Str):TA:=λ_ H Q=>Q (xs.map V.str) H
def zgn{X:Cx}:∀{es:List Expr} {xs:List PySem.Str},zbU es=some xs->PA X es (zlI xs)
 | [],xs,h=>by cases h;exact zab
 | e::es,xs,h=>by
  cases e with
  | Constant c j pos =>
   cases c with
   | str x =>
    obtain⟨ys,hy,rfl⟩:=XaD.mp (show(zbU es).map (x::·)=some xs from h)
    have:=zaa (X:=X) (zaD (x:=x) (j:=j) (pos:=pos)) (zgn hy)
    exact this
   | _=>cases h
  | _=>cases h
def ziM{X:Cx}{x:PySem.Str}{es:List Expr}{pos pos' lp:Pos}(xs:List PySem.Str)(i:Nat)(hN:X.N.Nodup)(hi:X.N[i]?=some x)(hx:Loc X.env.scope x)(hf:X.fn x=true\/X.env.scope.names.lookup x=some .local)(h:zbU es=some xs) :
  PS X (.Assign [.Name x pos'] (.List es lp) pos) (tAsg (tLst (zlI xs)) (zay i)):=zev hN hi hx (zax (zgn h)) O hf
def zdZ{X:Cx}{x y:PySem.Str}{es:List Expr}{pos pos' lp p1 p2:Pos}{te:TE}(xs:List PySem.Str)(i:Nat)(hN:X.N.Nodup)(hi:X.N[i]?=some x)(hx:Loc X.env.scope x)(hf:X.fn x=true\/X.env.scope.names.lookup x=some .local)(ha:PE X (.Name y p1) te)(h:zbU es=some xs) :
  PS X (.Assign [.Name x pos'] (.BinOp (.Name y p1) .Add (.List es lp) p2) pos) (tAsg (tOp (rCatS X.K) te (tLst (zlI xs))) (zay i)):=zev hN hi hx (zat zgq ha (zax (zgn h))) O hf
def esAt(st:Stmt)(i:Nat):List Expr:=match(zaM st)[i]? with
 | some (.Assign _ (.List es _) _)=>es
 | some (.Assign _ (.BinOp _ _ (.List es _) _) _)=>es
 | _=>[]
end L2
end
section
namespace L2
open PySem PySem.Spec PyProof.Rows HT SeqAt
inductive rEqLstS(K:W.Frag)(x:V)(y:V)(H:Hp)(Q:VK):Prop
 | mk a b (ns ms:List PySem.Str)(_:x=.ref a)(_:y=.ref b)(_:SqL K H a (ns.map V.str))(_:SqL K H b (ms.map V.str))(_:Q (.bl (decide (ns=ms))) H)
def zmE{ns ms:List PySem.Str}(hl:ns.length=ms.length):(List.range ns.length).all (λj=>decide (ns[j]?=ms[j]?))=decide (ns=ms):=by
 rw[Bool.eq_iff_iff,XaN,decide_eq_true_iff]
 constructor
 .intro h
  apply List.ext_getElem?
  intro i
  by_cases hi:i<ns.length
  .exact XaA (h i (List.mem_range.mpr hi))
  .rw[XaL (by omega),XaL (by omega)]
 .intro h i _
  rw[h];exact Xal O
section
variable{X:Cx}{K:W.Frag}
def zi3(hu:X.A.units<cLine)(hK:X.K=K):OpR X (compareOp .Eq) (rEqLstS K):=by
 subst hK
 rintro pins s U H x y v u Q I rx ry ⟨a,b,ns,ms,rfl,rfl,ha,hb,q⟩
 cases rx;cases ry
 obtain⟨t1,r1,p1,_⟩:=I.list ha
 obtain⟨t2,r2,p2,_⟩:=I.list hb
 have l1:=r1.length
 have l2:=r2.length
 rw[Xaf] at l1 l2
 have he:∀(A:Around) j (h1:j<t1.toArray.size) (h2:j<t2.toArray.size),EqAt A s t1.toArray[j] t2.toArray[j] (decide (ns[j]?=ms[j]?)):=λA j h1 h2=>by
  have g1:j<ns.length:=by simp at h1;omega
  have g2:j<ms.length:=by simp at h2;omega
  obtain⟨u1,e1,q1⟩:=r1.get (i:=j) (x:=.str ns[j]) (by rw[Xax,Xaz g1];rfl)
  obtain⟨u2,e2,q2⟩:=r2.get (i:=j) (x:=.str ms[j]) (by rw[Xax,Xaz g2];rfl)
  have f1:t1.toArray[j]=u1:=by have:=(Xas.mp e1).2;simpa using this
  have f2:t2.toArray[j]=u2:=by have:=(Xas.mp e2).2;simpa using this
  rw[f1,f2]
  have e:=zlu (A:=A) (s:=s) q1 q2 O O
  have d:decide (ns[j]?=ms[j]?)=eqV (.str ns[j]) (.str ms[j]):=by
   rw[Xaz g1,Xaz g2]
   by_cases h:ns[j]=ms[j]
   .rw[h,Xal O];simp[eqV]
   .rw[Xam (λz=>h (Option.some.inj z))];simp[eqV,h]
  rw[d];exact e
 by_cases hl:ns.length=ms.length
 .refine RcAt.lists (e:=λj=>decide (ns[j]?=ms[j]?)) p1.isList p2.isList (by simp;omega) hu (λj h1 h2=>he _ j h1 h2) _ _ _ _ {.bl (decide (ns=ms)),H,I,?_,q}
  rw[show t1.toArray.size=ns.length by simp;omega,zmE hl];rfl
 .rw[Xam (λe=>hl (by rw[e]))] at q
  exact RcAt.lists_lengths p1.isList p2.isList (bne_iff_ne.mpr (by simp;omega)) hu _ _ _ _ {.bl false,H,I,O,q}
end
end L2
end
local macro_rules|`(tactic| omega)=>`(tactic| lia)
set_option maxHeartbeats 8000000
namespace Cb
open PySem L2
def top(i:Nat):Stmt:=PySem.Challenge.pw_chipbus_k53_bad_rows.main.body.getD i (.Pass {0,0,0,0})
set_option tactic.hygienic true in
def zjO{b:Int}{k:Nat}(h:b.natAbs<2 ^ k):Builtin.Int.intBits b<=k:=by
 unfold Builtin.Int.intBits
 split
 .omega
 .rename_i h0
  have h1:b.natAbs≠0:=by first|omega|(intro z;simp_all)
  have:=(Nat.log2_lt h1).mpr h
  omega
def zci{a b:Int}(ha:a.natAbs<2 ^ 200)(hb:b.natAbs<2 ^ 200):IntMulOk a b:=IntMulOk.of_bits (Xak (zjO ha) (by decide)) (Xak (zjO hb) (by decide))
def log_ok{m:Int}(h:0<m)(h2:m<=2 ^ 64):m.natAbs.log2<9000:=by
 have h1:m.natAbs≠0:=by omega
 exact Xao ((Nat.log2_lt h1).mpr (show m.natAbs<2 ^ 65 by omega)) (by decide)
local macro_rules|`(tactic| walk_at"l")=>`(tactic| (rintro _ _ _ _ ⟨⟩;subst_vars;rfl))
local macro_rules|`(tactic| walk_at"sd")=>`(tactic| first|assumption|(exact{by decide,by decide,by decide})|(exact{by assumption,by assumption})|(exact{by decide,by decide +kernel})|(show(0:Int)<_;decide))
local macro_rules|`(tactic| walk_at"hp")=>`(tactic| first|assumption|exact zac)
local macro_rules|`(tactic| walk_at"vc")=>`(tactic| repeat(first|refine{_,O,?_}|refine{_,_,O,O,?_}|refine{_,_,O,?_}|refine{_,_,_,_,O,O,SqL.of (by walk_at"hp"),O,?_}|refine{_,_,_,_,O,O,(by walk_at"hp"),O,?_}|refine And.intro (by walk_at"sd") ?_))
def zj9{t u:TS}{D:Ends}(S S':St->Hp->Prop)(h1:∀U H,S U H->∀N:St->Hp->Prop,(∀U' H',S' U' H'->N U' H')->t {D with nx:=N} U H)(h2:∀U' H',S' U' H'->u D U' H'):∀U H,S U H->tSeq t u D U H:=
 λU H s=>h1 U H s _ h2
def zbt{t u:TS}{D:Ends}{U:St}{H:Hp}(S':St->Hp->Prop)(h1:∀N:St->Hp->Prop,(∀U' H',S' U' H'->N U' H')->t {D with nx:=N} U H)(h2:∀U' H',S' U' H'->u D U' H'):tSeq t u D U H:=h1 _ h2
def zkd(m:Nat)(x:Nat):((List.replicate m [V.int (x:Int)]).flatten:List V)=vN (List.replicate m x):=by
 unfold vN
 rw[List.map_replicate]
 induction m with
 | zero=>rfl
 | succ m ih=>rw[Xa8,List.flatten_cons,ih,Xa8];rfl
def ln0{α:Type}{P:List α->Prop}(us:List α)(h:us.length=0)(k:P []):P us:=by
 rw[List.eq_nil_of_length_eq_zero h];exact k
def lnS{α:Type}{P:List α->Prop}{n:Nat}(us:List α)(h:us.length=n+1)(k:∀a (r:List α),r.length=n->P (a::r)):P us:=by
 cases us with
 | nil=>cases h
 | cons a r=>exact k a r (Nat.succ.inj h)
def ln1{α:Type}{P:List α->Prop}(us:List α)(h:us.length=1)(k:∀a,P [a]):P us:=lnS us h λa r h=>ln0 (P:=λr=>P (a::r)) r h (k a)
def ln2{α:Type}{P:List α->Prop}(us:List α)(h:us.length=2)(k:∀a b,P [a,b]):P us:=lnS us h λa r h=>ln1 (P:=λr=>P (a::r)) r h (k a)
def ln3{α:Type}{P:List α->Prop}(us:List α)(h:us.length=3)(k:∀a b c,P [a,b,c]):P us:=lnS us h λa r h=>ln2 (P:=λr=>P (a::r)) r h (k a)
def ln4{α:Type}{P:List α->Prop}(us:List α)(h:us.length=4)(k:∀a b c d,P [a,b,c,d]):P us:=lnS us h λa r h=>ln3 (P:=λr=>P (a::r)) r h (k a)
def ln5{α:Type}{P:List α->Prop}(us:List α)(h:us.length=5)(k:∀a b c d e,P [a,b,c,d,e]):P us:=lnS us h λa r h=>ln4 (P:=λr=>P (a::r)) r h (k a)
local macro_rules|`(tactic| walk_at"o")=>`(tactic| first|exact Or.inl O|exact Or.inr (Or.inl O)|exact Or.inr (Or.inr O))
local macro_rules|`(tactic| walk_at"p")=>`(tactic| first|exact .inl O|exact .inr O|assumption)
local macro_rules|`(tactic| walk_at"m")=>`(tactic| first|decide|omega)
def ziH{α:Type}(n:Nat)(x:α):(List.replicate n [x]).flatten=List.replicate n x:=by
 induction n with
 | zero=>rfl
 | succ n ih=>rw[Xa8,List.flatten_cons,ih,Xa8];rfl
def ty_seq{K:W.Frag}{H:Hp}{t:Bool}{a:Addr}{xs:List V}(h:SqX t H a xs):TyOf K H (.ref a) (.type (sqC t)):=by
 cases t with
 | true=>exact .tup (xs:=xs) h
 | false=>exact .lst (xs:=xs) h
def zhc{xs:List V}{m:Nat}(h:m<=xs.length):cutV xs none (some (m:Int))=xs.take m:=by
 unfold cutV HT.sIx
 have e:((m:Int)).toNat=m:=by omega
 simp only[List.drop_zero,Nat.sub_zero]
 split
 .omega
 .rw[e,Nat.min_eq_left h]
def zba{H:Hp}{x dx:Addr}{o1 o2:HO}(hx:H x=none)(hdx:H dx=none):Same H (upd (upd H dx o1) x o2):=λb u e=>by
 rw[zah (zaj e hx),zah (zaj e hdx)];exact e
def zgN{P:Hp->Prop}{Hr:Hp}(R:Hp->Prop)(hr:R Hr)(h:∀H',R H'->P H'):P Hr:=h _ hr
def zar{D:Ends}{U:St}{H:Hp}(h:D.nx U H):tNext D U H:=h
def zik{l:List Nat}{i v:Nat}(h:l[i]?=some v):(vN l)[i]?=some (V.int (v:Int)):=by unfold vN;rw[Xax,h];rfl
def mulL:List Nat->List Nat->List Nat
 | a::r,b::s=>(a*b)::mulL r s
 | _,_=>[]
inductive spSize(vs:List V)(H:Hp)(Q:VK)(u3_:XK):Prop
 | mk (n:Nat)(_:vs=[.int (n:Int)])(_:n<=16)(_:Q (.int (2 ^ n)) H)
def strKey{v:Value}(h:(match v with|.str _ _=>true|_=>false)=true):∃n t,v=.str n t:=by
 cases v with
 | str n t=>exact⟨n,t,O⟩
 | _=>cases h
def zbJ(m:Nat):ones (2*m)=ones m:=by rw[zd0,show 2*m % 2=0 by omega,show 2*m / 2=m by omega];omega
def zdF(m:Nat):ones (2*m+1)=ones m+1:=by rw[zd0,show(2*m+1) % 2=1 by omega,show(2*m+1) / 2=m by omega];omega
def zi4:ones 0=0:=by simp[ones]
def zmy{P:Nat->Nat->Prop}(h0:P 0 0)(hee:∀m o,P m o->P (2*m) (2*o))(hoe:∀m o,P m o->P (2*m+1) (2*o))(heo:∀m o,P m o->P (2*m) (2*o+1)):∀m o,m &&& o=0->P m o:=by
 have key:∀k m o,m+o<=k->m &&& o=0->P m o:=by
  intro k
  induction k with
  | zero =>
   intro m o h _
   obtain⟨rfl,rfl⟩:m=0/\o=0:=by omega
   exact h0
  | succ k ih =>
   intro m o hk hd
   by_cases hz:m+o=0
   .obtain⟨rfl,rfl⟩:m=0/\o=0:=by omega
    exact h0
   obtain⟨x,hx⟩:∃x,m=2*x\/m=2*x+1:={m / 2,by omega}
   obtain⟨y,hy⟩:∃y,o=2*y\/o=2*y+1:={o / 2,by omega}
   rcases hx with rfl|rfl<;>rcases hy with rfl|rfl
   .rw[zjh] at hd;exact hee x y (ih x y (by omega) (by omega))
   .rw[zji] at hd;exact heo x y (ih x y (by omega) (by omega))
   .rw[zgE] at hd;exact hoe x y (ih x y (by omega) (by omega))
   .rw[zkD] at hd;omega
 exactλm o h=>key _ m o (Xad _) h
def zkW:∀m o,m &&& o=0->ones (m+o)=ones m+ones o:=by
 refine zmy ?_ ?_ ?_ ?_
 .rw[zi4]
 .intro m o ih;rw[show 2*m+2*o=2*(m+o) by omega,zbJ,zbJ,zbJ,ih]
 .intro m o ih;rw[show 2*m+1+2*o=2*(m+o)+1 by omega,zdF,zdF,zbJ,ih];omega
 .intro m o ih;rw[show 2*m+(2*o+1)=2*(m+o)+1 by omega,zdF,zdF,zbJ,ih];omega
def bor(a b:Nat):Builtin.bitOr (a:Int) (b:Int)=((a ||| b:Nat):Int):=by
 unfold Builtin.bitOr Builtin.bitAnd Builtin.bitNot
 rw[Xam (show¬ (0:Int)<=-(a:Int)-1 by omega),Xam (show¬ (0:Int)<=-(b:Int)-1 by omega)]
 show -(-((((-(-(a:Int)-1)-1).toNat ||| (-(-(b:Int)-1)-1).toNat:Nat)):Int)-1)-1=_
 rw[show -(-(a:Int)-1)-1=(a:Int) by omega,show -(-(b:Int)-1)-1=(b:Int) by omega,Xap,Xap]
 omega
def zdW{H H':Hp}{p:Addr}(s:Same H H')(h:H' p=none):H p=none:=by
 cases e:H p with
 | none=>rfl
 | some o=>rw[s _ _ e] at h;cases h
def ze8(op:Nat->Nat->Nat)(f:Bool->Bool->Bool)(hop:∀a b i,(op a b).testBit i=f (a.testBit i) (b.testBit i))(hf:f false false=false)(x y:Nat) :
  op x y=(f (x % 2==1) (y % 2==1)).toNat+2*op (x / 2) (y / 2):=by
 apply Nat.eq_of_testBit_eq
 intro i
 cases i with
 | zero =>
  rw[hop]
  simp only[Nat.testBit_zero]
  cases h:f (x % 2==1) (y % 2==1)<;>simp_all [Nat.add_mod]
 | succ i =>
  rw[hop]
  simp only[Xbb]
  rw[show((f (x % 2==1) (y % 2==1)).toNat+2*op (x / 2) (y / 2)) / 2=op (x / 2) (y / 2) by cases f (x % 2==1) (y % 2==1)<;>simp<;>omega,hop]
def or_is:∀a b:Nat,a ||| b=(a ^^^ b)+(a &&& b):=by
 intro a
 induction a using Nat.strongRecOn with
 | _ a ih =>
  intro b
  by_cases h0:a=0
  .subst h0;simp
  have e1:a ||| b=((a % 2==1) || (b % 2==1)).toNat+2*(a / 2 ||| b / 2):=ze8 (· ||| ·) (· || ·) Nat.testBit_or O a b
  have e2:a ^^^ b=(Bool.xor (a % 2==1) (b % 2==1)).toNat+2*(a / 2 ^^^ b / 2):=ze8 (· ^^^ ·) Bool.xor Nat.testBit_xor O a b
  have e3:a &&& b=((a % 2==1)&&(b % 2==1)).toNat+2*(a / 2 &&& b / 2):=ze8 (· &&& ·) (·&&·) XaP O a b
  have e4:=ih (a / 2) (by omega) (b / 2)
  rw[e1,e2,e3,e4]
  cases(a % 2==1)<;>cases(b % 2==1)<;>simp<;>omega
def bxor(a b:Nat):Builtin.bitXor (a:Int) (b:Int)=((a ^^^ b:Nat):Int):=by
 unfold Builtin.bitXor
 rw[bor,band,or_is]
 omega
def agr(m w n v:Nat):Bool:=decide ((w ^^^ v) &&& m &&& n=0)
inductive spAgr(vs:List V)(H:Hp)(Q:VK)(u3_:XK):Prop
 | mk (m w n v:Nat)(_:vs=[.int (m:Int),.int (w:Int),.int (n:Int),.int (v:Int)])(_:Q (.bl (agr m w n v)) H)
def LatV(H:Hp)(v:V):Option (Nat×Nat×Nat)->Prop
 | none=>v=.non
 | some (c,a,b)=>∃u:Addr,v=.ref u/\H u=some (.tup [.int (c:Int),.int (a:Int),.int (b:Int)])
def latA:Option (Nat×Nat×Nat)->Option (Nat×Nat×Nat)->Bool
 | some (c,a,b),some (d,x,y)=>if c=d then agr a b x y else true
 | _,_=>true
inductive spLatA(vs:List V)(H:Hp)(Q:VK)(u3_:XK):Prop
 | mk x y o p(_:vs=[x,y])(_:LatV H x o)(_:LatV H y p)(_:Q (.bl (latA o p)) H)
structure Rw where
 m:Nat
 w:Nat
 i:Nat
 c:Nat
 l:Option (Nat×Nat×Nat)
def RwAt(H:Hp)(t:Addr)(r:Rw):Prop:=∃lt:V,H t=some (.tup [.int (r.m:Int),.int (r.w:Int),.int (r.i:Int),.int (r.c:Int),lt])/\LatV H lt r.l
def zef(r q:Rw):Bool:=agr r.m r.w q.m q.w&&latA r.l q.l
inductive spClash(vs:List V)(H:Hp)(Q:VK)(u3_:XK):Prop
 | mk t u r q(_:vs=[.ref t,.ref u])(_:RwAt H t r)(_:RwAt H u q)(_:Q (.bl (zef r q)) H)
def zjL:bootBuiltins "sorted"=some (.builtin "sorted"):=by decide +kernel
def LatV.same{H H':Hp}{v:V}{o:Option (Nat×Nat×Nat)}(h:LatV H v o)(s:Same H H'):LatV H' v o:=by
 match o,h with
 | none,h=>exact h
 | some (c,a,b),⟨u,e,eu⟩=>exact{u,e,s _ _ eu}
def RwAt.same{H H':Hp}{t:Addr}{r:Rw}(h:RwAt H t r)(s:Same H H'):RwAt H' t r:=by
 obtain⟨lt,e,hl⟩:=h
 exact{lt,s _ _ e,hl.same s}
def zmG:Option (Nat×Nat×Nat)->Prop
 | none=>True
 | some (c,a,b)=>c<100/\a<256/\b &&& a=b
structure RwOk(m:Nat)(r:Rw):Prop where
 m0:r.m<2 ^ m
 w0:r.w<2 ^ m
 wm:r.w &&& r.m=r.w
 i0:r.i<2 ^ m
 im:r.i &&& r.m=0
 c0:r.c<100
 l0:zmG r.l
def NC(r q:Rw):Prop:=zef r q=false/\zef q r=false
def NC.of_lat{r q:Rw}(h1:latA r.l q.l=false)(h2:latA q.l r.l=false):NC r q:=by
 unfold NC zef
 rw[h1,h2,Xbo,Xbo]
 exact⟨O,O⟩
def RwsAt2(m:Nat)(X:Hp)(ws:List (Addr×Rw)):Prop:=∀z∈ws,RwAt X z.1 z.2/\RwOk m z.2
def RwsAt2.same{m:Nat}{X Y:Hp}{ws:List (Addr×Rw)}(h:RwsAt2 m X ws)(s:Same X Y):RwsAt2 m Y ws:=λz hz=>{(h z hz).1.same s,(h z hz).2}
def refs{α:Type}(ws:List (Addr×α)):List V:=ws.map λz=>.ref z.1
def zaC{α:Type}(ws:List (Addr×α)):(refs ws).length=ws.length:=Xaf ..
def zfM{K:W.Frag}{i j:Nat}{T:Addr}{x y:V}{U:St}{H:Hp}{Q:St->Hp->Prop}(e:H T=some (.tup [x,y]))(h:Q ((U.set i (some x)).set j (some y)) H) :
  gTup K 2 (gCons (zay i) (gCons (zay j) gNil)) (.ref T) U H Q:=
 {T,[x,y],O,SqT.of e,O,x,[y],O,y,[],O,O,h}
def LatV.updL{X:Hp}{l:Addr}{v:V}{o:Option (Nat×Nat×Nat)}{xs ys:List V}(h:LatV X v o)(hl:X l=some (.lst xs)):LatV (upd X l (.lst ys)) v o:=by
 match o,h with
 | none,h=>exact h
 | some (c,a,b),⟨u,e,eu⟩=>exact{u,e,by rw[zah (λz=>by rw[z,hl] at eu;cases eu)];exact eu}
def RwAt.updL{X:Hp}{l t:Addr}{r:Rw}{xs ys:List V}(h:RwAt X t r)(hl:X l=some (.lst xs)):RwAt (upd X l (.lst ys)) t r:=by
 obtain⟨lt,e,hlt⟩:=h
 exact{lt,by rw[zah (λz=>by rw[z,hl] at e;cases e)];exact e,hlt.updL hl}
def RwsAt2.updL{m:Nat}{X:Hp}{l:Addr}{ws:List (Addr×Rw)}{xs ys:List V}(h:RwsAt2 m X ws)(hl:X l=some (.lst xs)):RwsAt2 m (upd X l (.lst ys)) ws:=λz hz=>{(h z hz).1.updL hl,(h z hz).2}
def ziJ{α:Type}(ws:List (Addr×α))(z:Addr×α):refs (ws++[z])=refs ws++[.ref z.1]:=by unfold refs;rw[Xaw];rfl
def zcD{α:Type}{ws:List (Addr×α)}{k:Nat}{x:V}(h:(refs ws)[k]?=some x):∃z,ws[k]?=some z/\x=.ref z.1:=by
 unfold refs at h
 rw[Xax] at h
 obtain⟨z,h1,h2⟩:=XaD.mp h
 exact⟨z,h1,h2.symm⟩
def hdN(l:List Nat):V:=match l with
 | []=>.non
 | i::_=>.int (i:Int)
def lnB1{α:Type}{P:List α->Prop}(k:∀a,P [a]):∀us:List α,us.length=1->P us:=λus h=>ln1 us h k
def lnB2{α:Type}{P:List α->Prop}(k:∀a b,P [a,b]):∀us:List α,us.length=2->P us:=λus h=>ln2 us h k
def lnB3{α:Type}{P:List α->Prop}(k:∀a b c,P [a,b,c]):∀us:List α,us.length=3->P us:=λus h=>ln3 us h k
def lnB4{α:Type}{P:List α->Prop}(k:∀a b c d,P [a,b,c,d]):∀us:List α,us.length=4->P us:=λus h=>ln4 us h k
def lnB5{α:Type}{P:List α->Prop}(k:∀a b c d e,P [a,b,c,d,e]):∀us:List α,us.length=5->P us:=λus h=>ln5 us h k
section
variable{P:Program}{w:World}{K:W.Frag}{mg:Str->Option Value}{base:Heap}{k:Nat}{f C:Addr}{fd:FuncData}{ps ks:List Str}{sp:Sp}{x m:Str}{g:List Value->List Value->List Value}{gV:List V->List V->List V}
def zf2(G:FnOk P w K mg base CX0 k f fd ps sp)(a:mg x=some (.ref f))(kp:W.keepIn K (.ref f)=true)(b:Binds K fd ps []):Cal P w K mg base k x ps sp:=⟨f,fd,G,a,kp,b⟩
def zjd(c:Cls K C)(a:W.findIn K (.ref C) m=some (some (.ref f)))(fn:W.isFn K (.ref f)=true)(kp:W.keepIn K (.ref f)=true)(G:FnOk P w K mg base CX0 k f fd ps sp)(b:KBinds K fd ps ks g gV):Mth P w K mg base k C m ks gV sp:={c,f,fd,ps,g,⟨a,fn,kp⟩,G,b}
def mth_mk(c:Cls K C)(a:W.findIn K (.ref C) m=some (some (.ref f)))(fn:W.isFn K (.ref f)=true)(kp:W.keepIn K (.ref f)=true)(G:FnOk P w K mg base CX0 k f fd ps sp)(b:Binds K fd ps []):Mth P w K mg base k C m [] (λvs _=>vs) sp:=zjd c a fn kp G (.pos b)
def zcN(a:mg x=some (.ref C))(mk:W.makesIn K C=true)(at_:W.findIn K (.ref C) "__init__"=some (some (.ref f)))(fn:W.isFn K (.ref f)=true)(kc:W.keepIn K (.ref C)=true)(G:FnOk P w K mg base CX0 k f fd ps sp)(b:KBinds K fd ps ks g gV):Mak P w K mg base k x C ks gV sp:={a,f,fd,ps,g,⟨mk,at_,fn,kc⟩,G,b}
end
local macro_rules|`(tactic| walk_at"bd")=>`(tactic| (refine Fun.binds (by assumption) ?_;intro _ _ _ _ _ _;first|exact lnB1 λ_=>O|exact lnB2 λ_ _=>O|exact lnB3 λ_ _ _=>O|exact lnB4 λ_ _ _ _=>O|exact lnB5 λ_ _ _ _ _=>O|exact lnB6 λ_ _ _ _ _ _=>O|exact lnB7 λ_ _ _ _ _ _ _=>O|exact lnB0 O))
structure Nums(mg:Str->Option Value):Prop where
 MOST_BITS:∃t,mg "MOST_BITS"=some (.int 16 t)
 LAST_CHIP:∃t,mg "LAST_CHIP"=some (.int 99 t)
 LAST_WORD:∃t,mg "LAST_WORD"=some (.int 255 t)
 MOST_CELLS:∃t,mg "MOST_CELLS"=some (.int 4096 t)
 MOST_ROOM:∃t,mg "MOST_ROOM"=some (.int 255 t)
 MOST_FIGURES:∃t,mg "MOST_FIGURES"=some (.int 4 t)
 SIXTEEN:∃t,mg "SIXTEEN"=some (.str "0123456789abcdef" t)
 READ:∃t,mg "READ"=some (.str "read" t)
 WRITE:∃t,mg "WRITE"=some (.str "write" t)
 BOTH:∃t,mg "BOTH"=some (.str "both" t)
 TEN:∃t,mg "TEN"=some (.str "0123456789" t)
abbrev zbY:Stmt:=top 24
def scsingle_ones:FnScope ["mask","singles","rest"] ["mask"] (zai zbY):=sck O O O (by decide +kernel)
section
variable{P:Program}{w:World}{K:W.Frag}{mg:Str->Option Value}{base:Heap}
def zeX{f:Addr}{fd:FuncData}(F:FunN K "single_ones" zbY f fd)(T:Blt mg):FnOk P w K mg base CX0 1 f fd ["mask"] spSingles:=by
 refine F.ok scsingle_ones (by walk_at"l") (λcdv A outer s H vs Q E hr h=>?_)
 .obtain⟨n,rfl,hn,k⟩:=h
  refine⟨_,(zad (ps_L 1 scsingle_ones.nd (zax zab))
   (zad (zgY PassesOwn.never (zas zhz (pv 0) zaf (zaw _)) (zad (ps_L 2 scsingle_ones.nd (zat zcK (pv 0) (zat zg0 (pv 0) zaf)))
   (zad (zaJ (zda PySem.F.plainAttrs_list PySem.F.slot_list_append PySem.F.type_list_append zbr (pv 1) (zaa (zat zg0 (pv 0) (pv 2)) zab)))
   (zag (ps_L 0 scsingle_ones.nd (pv 2))))))
   (zag (zal (pv 1))))),?rd⟩
  refine{by show 0<=sizeLine;decide,λl hl=>?_}
  refine zgS (λU H2=>∃(m:Nat) (r:Option V) (d:List Nat),U=[some (.int (m:Int)),some (.ref l),r]/\m<2 ^ 64/\Same H H2/\H2 l=some (.lst (vN d))/\d++sgl m=sgl n) (λU _=>match U with|some (.int i)::_=>i.toNat|_=>0)
   {n,none,[],O,hn,zae hl,zac,O} ?_ ?_
  .rintro U H2 ⟨m,r,d,rfl,hm,hs,hL,hd⟩
   walk_at"vc"
   refine ite2 (λh1=>?_) (λh1=>?_)
   .have h1:0<m:=by have:=XaA h1;omega
    obtain⟨s1,s2⟩:=zj6 m h1
    have e1:((m:Int)-1)=((m-1:Nat):Int):=by omega
    walk_at"vc"
    have hlen:(vN d).length<sizeLine:=by
     have h2:=congrArg List.length hd
     rw[Xah,zcY,zcY] at h2
     have h3:=zi5 64 n hn
     rw[zaq];exact zdN (by omega)
    refine{.inl {O,_,SqL.of hL},?_}
    walk_at"vc"
    refine{l,_,_,O,O,hL,hlen,?_}
    walk_at"vc"
    have e2:Builtin.bitAnd (m:Int) ((m:Int)-1)=((m &&& (m-1):Nat):Int):=by rw[e1,band]
    have e3:(m:Int)-Builtin.bitAnd (m:Int) ((m:Int)-1)=((m-(m &&& (m-1)):Nat):Int):=by rw[e2];omega
    refine{{m &&& (m-1),some (.int ((m &&& (m-1):Nat):Int)),d++[m-(m &&& (m-1))],?_,by omega,λb o e=>?_,?_,?_},?_}
    .show List.set (List.set _ _ _) _ _=_
     simp only[List.set]
     rw[e2]
    .rw[zah (zaj e hl)];exact hs b o e
    .rw[zac,zeD,<- e3]
    .rw[<- hd,s2];simp
    .show(Builtin.bitAnd (m:Int) ((m:Int)-1)).toNat<((m:Nat):Int).toNat
     rw[e2];simpa using s1
   .have h1:m=0:=by have:=h1;simp at this;omega
    subst h1
    walk_at"vc"
    rw[zj5,XbF] at hd
    subst hd
    exact k l H2 hl hL hs
  .rintro U H2 Q1 Q2 hq h
   obtain⟨v,e,i,j,e1,e2,c,e3,h⟩:=h
   exact{v,e,i,j,e1,e2,c,e3,hq _ _ h}
abbrev zeG:Stmt:=top 25
def ziB:FnScope ["mask"] ["mask"] (zai zeG):=sck O O O (by decide +kernel)
def zi7{f:Addr}{fd:FuncData}(F:FunN K "ones_of" zeG f fd)(T:Blt mg)(Gsingle_ones:Cal P w K mg base 1 "single_ones" ["mask"] spSingles):FnOk P w K mg base CX0 2 f fd ["mask"] spOnes:=by
 refine F.ok ziB (by walk_at"l") (λcdv A outer s H vs Q E hr h=>?_)
 .obtain⟨n,rfl,hn,k⟩:=h
  refine{_,(zag (zal (zak zam (by rfl) T.len PySem.boot_len (zaa (pe_c Gsingle_ones (zaa (pv 0) zab)) zab)))),?rd}
  refine{_,O,n,O,hn,λp H' hp hL hs=>?_}
  refine{p,_,O,.inl (SqL.of hL),?_}
  rw[zaq,zcY]
  exact k H' hs
abbrev zcW:Stmt:=top 29
def zgi:FnScope ["thing","last"] ["thing","last"] (zai zcW):=sck O O O (by decide +kernel)
def zgu{f:Addr}{fd:FuncData}(F:FunN K "is_number" zcW f fd)(T:Blt mg):FnOk P w K mg base CX0 1 f fd ["thing","last"] spIsNum:=by
 refine F.ok zgi (by walk_at"l") (λcdv A outer s H vs Q E hr h=>?_)
 .obtain⟨a,b,rfl,k⟩:=h
  refine{_,(zag (zal (zbq (zak (zaP "int" (K:=K) O) (by rfl) T.isinstance za4 (zaa (pv 0) (zaa (zaT O T.int zeh ziF) zab))) (zbq (zli (zak (zaP "bool" (K:=K) O) (by rfl) T.isinstance za4 (zaa (pv 0) (zaa (zaT O T.bool zjM ziG) zab)))) (zbv (zkr zgp zgp zaf (pv 0) (pv 1))))))),?rd}
  refine{_,O,_,_,_,O,.int a,O,true,O,iteT ?_}
  refine{_,O,_,_,_,O,.int a,O,false,O,true,O,iteT ?_}
  refine{_,O,_,_,O,O,_,O,ite2 (λh=>?_) (λh=>?_)}
  .have h:=XaA h
   refine{_,O,_,_,O,O,?_}
   rw[show decide (0<=a/\a<=b)=decide (a<=b) from decide_eq_decide.mpr {λz=>z.2,λz=>⟨h,z⟩}] at k
   exact k
  .have h:¬ 0<=a:=λz=>h (Xal z)
   rw[show decide (0<=a/\a<=b)=false from Xam λz=>h z.1] at k
   exact k
abbrev zeF:Stmt:=top 34
def ziz:FnScope ["bits"] ["bits"] (zai zeF):=sck O O O (by decide +kernel)
def zi6{f:Addr}{fd:FuncData}(F:FunN K "size_of" zeF f fd)(T:Blt mg):FnOk P w K mg base CX0 1 f fd ["bits"] spSize:=by
 refine F.ok ziz (by walk_at"l") (λcdv A outer s H vs Q E hr h=>?_)
 .obtain⟨n,rfl,hn,k⟩:=h
  refine{_,(zag (zal (zat zch zaf (zak (zjK O) (by rfl) T.max PyProof.Rows.boot_max (zaa (pv 0) (zaa zaf zab)))))),?rd}
  refine{_,O,_,_,O,?_}
  refine{_,_,O,O,?_,?_}
  .rw[if_neg (by omega)]
   exact{by omega,by omega,by decide}
  .have e:(1:Int)*2 ^ (if(0:Int)>(n:Int) then 0 else(n:Int)).toNat=2 ^ n:=by
    rw[if_neg (by omega),Int.one_mul,Xap]
   show Q (V.int ((1:Int)*2 ^ (if(0:Int)>(n:Int) then 0 else(n:Int)).toNat)) H
   rw[e]
   exact k
abbrev zcX:Stmt:=top 35
def zgj:FnScope ["mask","want","last"] ["mask","want","last"] (zai zcX):=sck O O O (by decide +kernel)
inductive spChoiceV(vs:List V)(H:Hp)(Q:VK)(u3_:XK):Prop
 | mk (m v:Nat) (l:Int)(_:vs=[.int (m:Int),.int (v:Int),.int l])(_:(m:Int)<=l)(_:(v:Int)<=l)(_:v &&& m=v)(_:Q (.bl true) H)
def zgv{f:Addr}{fd:FuncData}(F:FunN K "is_choice" zcX f fd)(T:Blt mg)(Gis_number:Cal P w K mg base 1 "is_number" ["thing","last"] spIsNum):FnOk P w K mg base CX0 2 f fd ["mask","want","last"] spChoiceV:=by
 refine F.ok zgj (by walk_at"l") (λcdv A outer s H vs Q E hr h=>?_)
 .obtain⟨m,v,l,rfl,hm,hv,hw,k⟩:=h
  refine{_,(zag (zal (zbq (pe_c Gis_number (zaa (pv 0) (zaa (pv 2) zab))) (zbq (pe_c Gis_number (zaa (pv 1) (zaa (pv 2) zab))) (zbv (zbE zbS (zat zcK (pv 1) (pv 0)) (pv 1) (zaw _))))))),?rd}
  refine{_,O,_,O,_,_,O,_,O,?_}
  rw[Xal (show 0<=(m:Int)/\(m:Int)<=l from{Int.natCast_nonneg m,hm})]
  refine iteT {_,O,_,O,_,_,O,_,O,?_}
  rw[Xal (show 0<=(v:Int)/\(v:Int)<=l from{Int.natCast_nonneg v,hv})]
  refine iteT {_,O,_,O,_,_,O,O,_,O,O,?_}
  show Q (.bl (decide (V.int (Builtin.bitAnd (v:Int) (m:Int))=V.int (v:Int)))) H
  rw[band,hw,Xal O]
  exact k
abbrev zdO:Stmt:=top 36
def scis_latch:FnScope ["thing","chip","mask","want"] ["thing"] (zai zdO):=sck O O O (by decide +kernel)
inductive spLatchV(vs:List V)(H:Hp)(Q:VK)(u3_:XK):Prop
 | mk (t:Addr) (c a b:Nat)(_:vs=[.ref t])(_:H t=some (.tup [.int (c:Int),.int (a:Int),.int (b:Int)]))(_:c<=99)(_:a<=255)(_:b<=255)(_:b &&& a=b)(_:Q (.bl true) H)
def zhC{f:Addr}{fd:FuncData}(F:FunN K "is_latch" zdO f fd)(T:Blt mg)(N:Nums mg)(Gis_number:Cal P w K mg base 1 "is_number" ["thing","last"] spIsNum)(Gis_choice:Cal P w K mg base 2 "is_choice" ["mask","want","last"] spChoiceV):FnOk P w K mg base CX0 3 f fd ["thing"] spLatchV:=by
 refine F.ok scis_latch (by walk_at"l") (λcdv A outer s H vs Q E hr h=>?_)
 .obtain⟨t,c,a,b,rfl,e,hc,ha,hb,hw,k⟩:=h
  refine⟨_,(zad (zaA (PW.pt (zbD (zaG (zaF (zak (zaP "tuple" (K:=K) O) (by rfl) T.isinstance za4 (zaa (pv 0) (zaa (zaT O T.tuple zbx zcC) zab))))) (zbd (zas zft (zak zam (by rfl) T.len PySem.boot_len (zaa (pv 0) zab)) zaf (zaw _))))) (zag (zal zdt)) zan)
   (zad (zcF (pv 0) (zbI O (zao (pg_L 1 scis_latch.nd) (zao (pg_L 2 scis_latch.nd) (zao (pg_L 3 scis_latch.nd) zaS)))))
   (zag (zal (zbq (pe_c Gis_number (zaa (pv 1) (zaa (za2 O N.LAST_CHIP) zab))) (zbv (pe_c Gis_choice (zaa (pv 2) (zaa (pv 3) (zaa (za2 O N.LAST_WORD) zab)))))))))),?rd⟩
  refine{_,O,_,_,_,O,.tup e,O,_,O,iteF {_,O,t,_,O,.inr (SqT.of e),O,_,O,iteF ?_}}
  refine{_,O,t,_,O,SqT.of e,O,_,_,O,_,_,O,_,_,O,O,?_}
  refine{_,O,_,_,O,_,O,?_}
  rw[Xal (show 0<=(c:Int)/\(c:Int)<=99 by omega)]
  exact iteT {_,O,_,O,a,b,255,O,by omega,by omega,hw,k}
abbrev zge:Stmt:=top 37
def scis_row:FnScope ["bits","thing","mask","want","inner","chip","latch","last"] ["bits","thing"] (zai zge):=sck O O O (by decide +kernel)
inductive spRowV(vs:List V)(H:Hp)(Q:VK)(u3_:XK):Prop
 | mk (t:Addr) (r:Rw) (n:Nat)(_:vs=[.int (n:Int),.ref t])(_:RwAt H t r)(_:RwOk n r)(_:n<=16)(_:Q (.bl true) H)
def zkv{f:Addr}{fd:FuncData}(F:FunN K "is_row" zge f fd)(T:Blt mg)(N:Nums mg)(Gis_number:Cal P w K mg base 1 "is_number" ["thing","last"] spIsNum)(Gsize_of:Cal P w K mg base 1 "size_of" ["bits"] spSize)(Gis_choice:Cal P w K mg base 2 "is_choice" ["mask","want","last"] spChoiceV)(Gis_latch:Cal P w K mg base 3 "is_latch" ["thing"] spLatchV):FnOk P w K mg base CX0 4 f fd ["bits","thing"] spRowV:=by
 refine F.ok scis_row (by walk_at"l") (λcdv A outer s H vs Q E hr h=>?_)
 .obtain⟨t,r,n,rfl,⟨lt,e,hl⟩,o,hn,k⟩:=h
  have h1:∀z:Nat,z<2 ^ n->(z:Int)<=2 ^ n-1:=λz hz=>by
   have:((2 ^ n:Nat):Int)=(2:Int) ^ n:=by norm_cast
   omega
  refine⟨_,(zad (zaA (PW.pt (zbD (zaG (zaF (zak (zaP "tuple" (K:=K) O) (by rfl) T.isinstance za4 (zaa (pv 1) (zaa (zaT O T.tuple zbx zcC) zab))))) (zbd (zas zft (zak zam (by rfl) T.len PySem.boot_len (zaa (pv 1) zab)) zaf (zaw _))))) (zag (zal zdt)) zan)
   (zad (zcF (pv 1) (zbI O (zao (pg_L 2 scis_row.nd) (zao (pg_L 3 scis_row.nd) (zao (pg_L 4 scis_row.nd) (zao (pg_L 5 scis_row.nd) (zao (pg_L 6 scis_row.nd) zaS)))))))
   (zad (ps_L 7 scis_row.nd (zat zg0 (pe_c Gsize_of (zaa (pv 0) zab)) zaf))
   (zad (zaA (PW.pt (zbD (zaG (zaF (pe_c Gis_choice (zaa (pv 2) (zaa (pv 3) (zaa (pv 7) zab)))))) (zbD (zaG (zaF (pe_c Gis_number (zaa (pv 4) (zaa (pv 7) zab))))) (zbd (zas zft (zat zcK (pv 4) (pv 2)) zaf (zaw _)))))) (zag (zal zdt)) zan)
   (zag (zal (zbq (pe_c Gis_number (zaa (pv 5) (zaa (za2 O N.LAST_CHIP) zab))) (zbv (pe_or (ziW (zcJ (pv 6))) (zbv (pe_c Gis_latch (zaa (pv 6) zab)))))))))))),?rd⟩
  refine{_,O,_,_,_,O,.tup e,O,_,O,iteF {_,O,t,_,O,.inr (SqT.of e),O,_,O,iteF ?_}}
  refine{_,O,t,_,O,SqT.of e,O,_,_,O,_,_,O,_,_,O,_,_,O,_,_,O,O,?_}
  refine{_,O,n,O,hn,_,_,O,O,?_}
  refine{_,O,_,O,_,O,r.m,r.w,_,O,h1 _ o.m0,h1 _ o.w0,o.wm,_,O,iteF {_,O,_,O,_,_,O,_,O,?_}}
  rw[Xal (show 0<=(r.i:Int)/\(r.i:Int)<=2 ^ n-1 from{Int.natCast_nonneg _,h1 _ o.i0})]
  refine iteF {_,O,_,O,_,_,O,O,O,_,O,?_}
  refine ite2 (λz=>?_) (λ_=>zar ?_)
  .exfalso
   have z:(!decide (V.int (Builtin.bitAnd (r.i:Int) (r.m:Int))=V.int 0))=true:=z
   rw[band,o.im] at z
   cases z
  try dsimp only
  refine{_,O,_,_,O,_,O,?_}
  rw[Xal (show 0<=(r.c:Int)/\(r.c:Int)<=99 by have:=o.c0;omega)]
  refine iteT ?_
  have ol:=o.l0
  cases hr':r.l with
  | none =>
   rw[hr'] at hl
   rw[show lt=.non from hl]
   exact{_,O,_,O,iteT k}
  | some z =>
   rw[hr'] at hl ol
   obtain⟨c,a,b⟩:=z
   obtain⟨u,rfl,eu⟩:=hl
   exact{_,O,_,O,iteF {_,O,u,c,a,b,O,eu,Nat.le_of_lt_succ ol.1,Nat.le_of_lt_succ ol.2.1,Nat.le_of_lt_succ (Xa5 (ol.2.2▸Nat.and_le_right) ol.2.1),ol.2.2,k}}
abbrev zgf:Stmt:=top 38
def zkc:FnScope ["bits","thing"] ["bits","thing"] (zai zgf):=sck O O O (by decide +kernel)
inductive spMapV(vs:List V)(H:Hp)(Q:VK)(u3_:XK):Prop
 | mk (m:Nat) (R:Addr) (ws:List (Addr×Rw))(_:vs=[.int (m:Int),.ref R])(_:H R=some (.tup (refs ws)))(_:RwsAt2 m H ws)(_:ws.length<=300)(_:m<=16)(_:∀H',Same H H'->Q (.bl true) H')
def zkw{f:Addr}{fd:FuncData}(F:FunN K "is_map" zgf f fd)(T:Blt mg)(Gis_row:Cal P w K mg base 4 "is_row" ["bits","thing"] spRowV):FnOk P w K mg base CX0 5 f fd ["bits","thing"] spMapV:=by
 refine F.ok zkc (by walk_at"l") (λcdv A outer s H vs Q E hr h=>?_)
 .obtain⟨m,R,ws,rfl,e,hw,hl,hm,k⟩:=h
  refine'{_,(zag (zal (zbq (zak (zaP "tuple" (K:=K) O) (by rfl) T.isinstance za4 (zaa (pv 1) (zaa (zaT O T.tuple zbx zcC) zab))) (zbv (zak (zcT O) (by rfl) T.all zhe (zaa ?c1 zab)))))),?rd}
  (case c1=>exact(zc9 (Nc:=["row","bits"]) [none,some 0] O (zaN (by rfl)) (zlg (pv 1)) (λ_ _ _ _ _=>(pg_L 0 (show(["row","bits"]:List Str).Nodup by decide +kernel))) (λ_ _ _ _ _=>zcG) (λ_ _ _ _ _=>(pe_c Gis_row (zaa (pv 1) (zaa (pv 0) zab))))))
  refine{_,O,_,_,_,O,.tup e,O,_,O,iteT {_,O,R,O,{_,SqT.of e},?_}}
  refine zkY (K:=K) (xs:=refs ws) (λj rs U H1=>∃v0,U=[v0,some (.int (m:Int))]/\rs=(ws.take j).map (λ_=>V.bl true)/\Same H H1) (Xak (show _<=300 by rw[zaC];exact hl) (by decide)) {none,O,O,Same.refl _} ?_ ?_ ?_
  .rintro j rs U H1 hj ⟨v0,rfl,rfl,s1⟩
   exact{SqT.of (s1 _ _ e),by rw[Xaf,XaZ];exact Nat.min_le_left _ _}
  .rintro j x rs U H1 hx ⟨v0,rfl,rfl,s1⟩
   obtain⟨z,hz,rfl⟩:=zcD hx
   obtain⟨z1,z2⟩:=hw z (XaF hz)
   refine{_,O,_,O,z.1,z.2,m,O,z1.same s1,z2,hm,{_,O,?_,s1}}
   rw[List.take_succ,hz,Xaw]
   rfl
  .rintro rs U H1 ⟨v0,rfl,rfl,s1⟩ Dd hD
   refine{Dd,ws.map (λ_=>true),O,SqL.of (by rw[zaC,Xbk (Xad _),List.map_map];exact zac),?_}
   have e2:(ws.map (λ_=>true)).all id=true:=by rw[List.all_map];exact XaN.mpr λ_ _=>O
   rw[e2]
   exact k _ (s1.trans (zae hD))
abbrev zbz:Stmt:=top 63
def zdS:FnScope ["mask","want","other_mask","other_want"] ["mask","want","other_mask","other_want"] (zai zbz):=sck O O O (by decide +kernel)
def zd2{f:Addr}{fd:FuncData}(F:FunN K "choices_agree" zbz f fd)(T:Blt mg):FnOk P w K mg base CX0 1 f fd ["mask","want","other_mask","other_want"] spAgr:=by
 refine F.ok zdS (by walk_at"l") (λcdv A outer s H vs Q E hr h=>?_)
 .obtain⟨m,x,n,v,rfl,k⟩:=h
  refine{_,(zag (zal (zbE zbS (zat zcK (zat zcK (zat zlj (pv 1) (pv 3)) (pv 0)) (pv 2)) zaf (zaw _)))),?rd}
  refine{_,O,_,O,_,_,O,O,_,O,_,_,O,O,_,O,_,_,O,O,O,?_}
  have e:decide (V.int (Builtin.bitAnd (Builtin.bitAnd (Builtin.bitXor (x:Int) (v:Int)) (m:Int)) (n:Int))=V.int 0)=agr m x n v:=by
   rw[bxor,band,band]
   unfold agr
   exact decide_eq_decide.mpr {λh=>by have:=V.int.inj h;omega,λh=>by rw[h];rfl}
  exact Eq.mpr (congrArg (λb=>Q (V.bl b) H) e) k
abbrev zby:Stmt:=top 64
def zdQ:FnScope ["latch","other"] ["latch","other"] (zai zby):=sck O O O (by decide +kernel)
def zd1{f:Addr}{fd:FuncData}(F:FunN K "latches_agree" zby f fd)(T:Blt mg)(Gchoices_agree:Cal P w K mg base 1 "choices_agree" ["mask","want","other_mask","other_want"] spAgr):FnOk P w K mg base CX0 2 f fd ["latch","other"] spLatA:=by
 refine F.ok zdQ (by walk_at"l") (λcdv A outer s H vs Q E hr h=>?_)
 .obtain⟨x,y,o,p,rfl,hx,hy,k⟩:=h
  refine⟨_,(zad (zaA (PW.pt (zbD (zcE (zcJ (pv 0))) (zbD (zcE (zcJ (pv 1))) (zbd (zas zft (pe_x za3 (pv 0) zaf) (pe_x za3 (pv 1) zaf) (zaw _)))))) (zag (zal zdt)) zan)
   (zag (zal (pe_c Gchoices_agree (zaa (pe_x za3 (pv 0) zaf) (zaa (pe_x za3 (pv 0) zaf) (zaa (pe_x za3 (pv 1) zaf) (zaa (pe_x za3 (pv 1) zaf) zab)))))))),?rd⟩
  cases o with
  | none =>
   obtain rfl:x=.non:=hx
   exact{_,O,_,O,iteT (iteT k)}
  | some o =>
   obtain⟨c,a,b⟩:=o
   obtain⟨u,rfl,eu⟩:=hx
   refine{_,O,_,O,iteF ?_}
   cases p with
   | none =>
    obtain rfl:y=.non:=hy
    exact{_,O,_,O,iteT (iteT k)}
   | some p =>
    obtain⟨d,x',y'⟩:=p
    obtain⟨u',rfl,eu'⟩:=hy
    refine{_,O,_,O,iteF ?_}
    refine{_,O,u,_,_,_,O,O,SqT.of eu,O,_,O,u',_,_,_,O,O,SqT.of eu',O,O,_,O,?_}
    by_cases h:c=d
    .subst h
     rw[show(!decide (V.int (c:Int)=V.int (c:Int)))=false by simp]
     refine iteF ?_
     refine{_,O,u,_,_,_,O,O,SqT.of eu,O,_,O,u,_,_,_,O,O,SqT.of eu,O,_,O,u',_,_,_,O,O,SqT.of eu',O,_,O,u',_,_,_,O,O,SqT.of eu',O,a,b,x',y',O,?_}
     rw[show latA (some (c,a,b)) (some (c,x',y'))=agr a b x' y' from if_pos O] at k
     exact k
    .rw[show(!decide (V.int (c:Int)=V.int (d:Int)))=true by simp;omega]
     rw[show latA (some (c,a,b)) (some (d,x',y'))=true from if_neg h] at k
     exact iteT k
abbrev zcm:Stmt:=top 65
def zfk:FnScope ["row","other"] ["row","other"] (zai zcm):=sck O O O (by decide +kernel)
def zfv{f:Addr}{fd:FuncData}(F:FunN K "rows_clash" zcm f fd)(T:Blt mg)(Gchoices_agree:Cal P w K mg base 1 "choices_agree" ["mask","want","other_mask","other_want"] spAgr)(Glatches_agree:Cal P w K mg base 2 "latches_agree" ["latch","other"] spLatA):FnOk P w K mg base CX0 3 f fd ["row","other"] spClash:=by
 refine F.ok zfk (by walk_at"l") (λcdv A outer s H vs Q E hr h=>?_)
 .obtain⟨t,u,r,q,rfl,⟨lt,et,hl⟩,⟨lu,eu,hk⟩,k⟩:=h
  refine{_,(zag (zal (zbq (pe_c Gchoices_agree (zaa (pe_x za3 (pv 0) zaf) (zaa (pe_x za3 (pv 0) zaf) (zaa (pe_x za3 (pv 1) zaf) (zaa (pe_x za3 (pv 1) zaf) zab))))) (zbv (pe_c Glatches_agree (zaa (pe_x za3 (pv 0) zaf) (zaa (pe_x za3 (pv 1) zaf) zab))))))),?rd}
  refine{_,O,t,_,_,_,O,O,SqT.of et,O,_,O,t,_,_,_,O,O,SqT.of et,O,_,O,u,_,_,_,O,O,SqT.of eu,O,_,O,u,_,_,_,O,O,SqT.of eu,O,r.m,r.w,q.m,q.w,O,_,O,?_}
  unfold zef at k
  cases h:agr r.m r.w q.m q.w with
  | false =>
   rw[h] at k
   exact iteF k
  | true =>
   rw[h] at k
   exact iteT {_,O,t,_,_,_,O,O,SqT.of et,O,_,O,u,_,_,_,O,O,SqT.of eu,O,lt,lu,r.l,q.l,O,hl,hk,k}
abbrev zdR:Stmt:=top 67
def scclash_of:FnScope ["rows","found","second","other","first","row","address"] ["rows"] (zai zdR):=sck O O O (by decide +kernel)
inductive spClashV(vs:List V)(H:Hp)(Q:VK)(u3_:XK):Prop
 | mk (m:Nat) (R:Addr) (ws:List (Addr×Rw))(_:vs=[.ref R])(_:H R=some (.tup (refs ws)))(_:RwsAt2 m H ws)(_:(ws.Pairwise λa b=>NC a.2 b.2))(_:ws.length<=300)(_:∀H',Same H H'->Q .non H')
set_option tactic.hygienic true in
def zhE{f:Addr}{fd:FuncData}(F:FunN K "clash_of" zdR f fd)(T:Blt mg)(Grows_clash:Cal P w K mg base 3 "rows_clash" ["row","other"] spClash):FnOk P w K mg base CX0 4 f fd ["rows"] spClashV:=by
 refine F.ok scclash_of (by walk_at"l") (λcdv A outer s H vs Q E hr h=>?_)
 .obtain⟨m,p,ws,rfl,hp,hw,nc,hl,k⟩:=h
  refine⟨_,(zad (ps_L 1 scclash_of.nd (zax zab))
   (zad (zb2 PassesOwn.never O (zeS O T.enumerate (zaa (pv 0) zab)) (zbI O (zao (pg_L 2 scclash_of.nd) (zao (pg_L 3 scclash_of.nd) zaS)))
   (zag (zb2 PassesOwn.never O (zeS O T.enumerate (zaa (zb7 (zgd (K:=K) O) (pv 0) zc8 (zc7 (pv 2))) zab)) (zbI O (zao (pg_L 4 scclash_of.nd) (zao (pg_L 5 scclash_of.nd) zaS)))
   (zag (zaA (zaF (pe_c Grows_clash (zaa (pv 5) (zaa (pv 3) zab)))) (zag zaI) zan)))))
   (zad (zaA (zaG (zeQ (pv 1) (λ_=>O))) (zag (zal zcH)) zan)
   (zad zaI
   (zag zaI))))),?rd⟩
  refine{by show 0<=sizeLine;decide,λfa hfa=>?_}
  refine{_,O,p,O,{_,SqT.of (zae hfa _ _ hp)},?_}
  refine zed (K:=K) (a:=p) (xs:=refs ws) (λj U X=>∃(v2 v3 v4 v5:Option V),U=[some (.ref p),some (.ref fa),v2,v3,v4,v5,none]/\X fa=some (.lst [])/\Same H X)
   {none,none,none,none,O,zac,zae hfa} (λi U X hi ⟨_,_,_,_,_,_,s⟩=>SqT.of (s _ _ hp)) ?_ ?_
  .rintro j x T0 U X hx hT0 ⟨v2,v3,v4,v5,rfl,efa,sX⟩
   obtain⟨q,hq,rfl⟩:=zcD hx
   obtain⟨hj,ej⟩:=Xas.mp hq
   refine zfN ?_
   have sT:Same H (upd X T0 (.tup [.int (j:Int),.ref q.1])):=sX.trans (zae hT0)
   refine{_,O,_,O,_,O,p,_,O,SqT.of (sT _ _ hp),λz=>?_,λu hu=>?_}
   .exfalso
    rw[zhc (by rw[zaC];omega)] at z
    have:=congrArg List.length z
    rw[XaZ,zaC] at this
    omega
   have ecut:cutV (refs ws) none (some (j:Int))=refs (ws.take j):=by rw[zhc (by rw[zaC];omega)];exact(List.map_take ..).symm
   refine{u,O,{_,SqT.of zac},?_}
   rw[ecut] at *
   have sU:Same X (upd (upd X T0 (.tup [.int (j:Int),.ref q.1])) u (.tup (refs (ws.take j)))):=(zae hT0).trans (zae hu)
   refine zed (K:=K) (a:=u) (xs:=refs (ws.take j)) (λi U Y=>∃(v4 v5:Option V),U=[some (.ref p),some (.ref fa),some (.int (j:Int)),some (.ref q.1),v4,v5,none]/\Y fa=some (.lst [])/\Y u=some (.tup (refs (ws.take j)))/\Same H Y)
    {v4,v5,O,sU _ _ efa,zac,sX.trans sU} (λi U Y hi ⟨_,_,_,_,e,_⟩=>SqT.of e) ?_ ?_
   .rintro i y T1 U Y hy hT1 ⟨v4,v5,rfl,efa,eu,sY⟩
    obtain⟨r,hr',rfl⟩:=zcD hy
    rw[List.getElem?_take] at hr'
    split at hr'
    .rename_i hij
     obtain⟨hi,ei⟩:=Xas.mp hr'
     have c:zef r.2 q.2=false:=by
      have:=(Xbp.mp nc i j hi hj hij).1
      rw[ei,ej] at this
      exact this
     refine zfN ?_
     have s1:Same Y (upd Y T1 (.tup [.int (i:Int),.ref r.1])):=zae hT1
     have s2:=sY.trans s1
     refine{_,O,_,O,r.1,q.1,r.2,q.2,O,(hw r (XaF hr')).1.same s2,(hw q (XaF hq)).1.same s2,_,O,?_}
     rw[c]
     exact iteF {_,_,O,s1 _ _ efa,s1 _ _ eu,s2}
    .cases hr'
   .rintro U Y ⟨v4,v5,rfl,efa,eu,sY⟩
    exact{_,_,_,_,O,efa,sY}
  .rintro U X ⟨v2,v3,v4,v5,rfl,efa,sX⟩
   exact{_,O,_,.inl {_,SqL.of efa,O},iteT (k X sX)}
abbrev zeJ:Stmt:=top 30
def ziC:FnScope ["thing"] ["thing"] (zai zeJ):=sck O O O (by decide +kernel)
def zi8{f:Addr}{fd:FuncData}(F:FunN K "is_word" zeJ f fd)(T:Blt mg)(N:Nums mg)(Gis_number:Cal P w K mg base 1 "is_number" ["thing","last"] spIsNum):FnOk P w K mg base CX0 2 f fd ["thing"] spIsWord:=by
 refine F.ok ziC (by walk_at"l") (λcdv A outer s H vs Q E hr h=>?_)
 .obtain⟨a,rfl,k⟩:=h
  refine{_,(zag (zal (pe_c Gis_number (zaa (pv 0) (zaa (za2 O N.LAST_WORD) zab))))),?rd}
  exact{_,O,a,255,O,k}
abbrev zcn:Stmt:=top 31
def zfl:FnScope ["word"] ["word"] (zai zcn):=sck O O O (by decide +kernel)
def zfw{f:Addr}{fd:FuncData}(F:FunN K "check_word" zcn f fd)(T:Blt mg)(Gis_word:Cal P w K mg base 2 "is_word" ["thing"] spIsWord):FnOk P w K mg base CX0 3 f fd ["word"] spChkWord:=by
 refine F.ok zfl (by walk_at"l") (λcdv A outer s H vs Q E hr h=>?_)
 .obtain⟨a,rfl,h0,h1,k⟩:=h
  refine{_,(zag (zaA (zaG (zaF (pe_c Gis_word (zaa (pv 0) zab)))) (zag zaI) zan)),?rd}
  refine{_,O,a,O,_,O,zhQ ⟨h0,h1⟩ k}
abbrev zbB:Stmt:=zaO (top 56) 0
def zdU:FnScope ["self","head","held"] ["self","head","held"] (zai zbB):=sck O O O (by decide +kernel)
def zd5{f:Addr}{fd:FuncData}(F:Fun K "__init__" "Chip.__init__" zbB f fd)(T:Blt mg):FnOk P w K mg base CX0 1 f fd ["self","head","held"] (spInit K):=by
 refine F.ok zdU (by walk_at"l") (λcdv A outer s H vs Q E hr h=>?_)
 .obtain⟨a,C,dx,p,hd,rfl,ha,c,k⟩:=h
  refine⟨_,(zad (zbp (pv 0) (pv 1) O)
   (zag (zbp (pv 0) (pv 2) O))),?rd⟩
  refine{_,O,_,O,a,C,dx,_,O,ha,c.cl,c.head,by show 0<1000;decide,?_}
  refine{_,O,_,O,a,C,dx,_,O,zac,c.cl,c.held,by show 1<1000;decide,?_}
  exact k _ zac λb hb=>by rw[zah hb,zah hb]
abbrev zcp:Stmt:=top 17
def scby_figures:FnScope ["number","many","text","place"] ["number","many"] (zai zcp):=sck O O O (by decide +kernel)
def FIG:Str := "0123456789abcdef"
def figc(k:Nat):Nat:=(FIG.cps.toList[k]?).getD 0
def fig2(n:Nat):Str:=({#[figc (n / 16)]}:Str)++({#[figc (n % 16)]}:Str)
def phead(r:Nat):Str:=Str.empty++("pipe " : Str)++fig2 r
def zls{k:Nat}(h:k<16):atI FIG.cps.toList (k:Int)=some (figc k):=by
 have e:FIG.cps.toList.length=16:=by decide
 refine zaQ ?_
 unfold figc
 rw[Xaz (by omega)]
 rfl
structure ObP(C:Addr)(H:Hp)(a p:Addr)(r:Nat)(ws:List Nat):Prop where
 ex:∃dx,H a=some (.ins C dx [("head",.str (phead r)),("held",.ref p),("room",.int (r:Int))])
 ls:H p=some (.lst (vN ws))
def two(_:List V):Nat:=2
inductive sp2fig(vs:List V)(H:Hp)(Q:VK)(u3_:XK):Prop
 | mk (n:Nat)(_:vs=[.int (n:Int)])(_:n<=255)(_:Q (.str (fig2 n)) H)
inductive spMkP(C:Addr)(vs:List V)(H:Hp)(Q:VK)(u3_:XK):Prop
 | mk a dx (r:Nat)(_:vs=[.ref a,.int (r:Int)])(_:1<=r)(_:r<=255)(_:H a=some (.ins C dx []))(_:∀(p:Addr) (H':Hp),H p=none->ObP C H' a p r []->KeepP a H H'->Q .non H')
inductive spByFig(vs:List V)(H:Hp)(Q:VK)(u3_:XK):Prop
 | mk (n:Nat)(_:vs=[.int (n:Int),.int 2])(_:n<=255)(_:Q (.str (fig2 n)) H)
def figs(n:Nat):Nat->Str
 | 0=>("" : Str)
 | 1=>({#[figc (n % 16)]}:Str)++("" : Str)
 | _=>({#[figc (n / 16)]}:Str)++(({#[figc (n % 16)]}:Str)++("" : Str))
def and15(n:Nat):n &&& 15=n % 16:=Nat.and_two_pow_sub_one_eq_mod n 4
def zfx{f:Addr}{fd:FuncData}(F:FunN K "by_figures" zcp f fd)(T:Blt mg)(N:Nums mg):FnOk P w K mg base CX0 1 f fd ["number","many"] spByFig:=by
 refine F.ok scby_figures (by walk_at"l") (λcdv A outer s H vs Q E hr h=>?_)
 .obtain⟨n,rfl,hn,k⟩:=h
  refine⟨_,(zad (ps_L 2 scby_figures.nd zaD)
   (zad (zb2 PassesOwn.never O (za0 O T.range (zaa (pv 1) zab)) (pg_L 3 scby_figures.nd)
   (zag (ps_L 2 scby_figures.nd (zat zhA (pe_x zlo (zb8 O N.SIXTEEN) (zat zcK (zat zlk (pv 0) (zat zbR zaf (pv 3))) zaf)) (pv 2)))))
   (zag (zal (pv 2))))),?rd⟩
  refine{_,O,2,O,by decide,by decide,?_}
  refine zb5 (n:=2) (λi U H2=>∃v3,U=[some (.int (n:Int)),some (.int 2),some (.str (figs n i)),v3]/\H2=H) ⟨none,O,O⟩ ?_ ?_
  .rintro i U H2 hi ⟨v3,rfl,rfl⟩
   rcases(show i=0\/i=1 by omega) with rfl|rfl
   .refine{_,O,_,O,_,_,O,O,zci (by decide) (by decide),_,_,O,O,(show(0:Int)<=4*(0+((0:Nat):Int)) by decide),_,_,O,O,FIG,((n % 16:Nat):Int),_,O,congrArg V.int ?_,by decide,zls (by omega),?_}
    .show Builtin.bitAnd ((n:Int) / 1) ((15:Nat):Int)=_
     rw[Int.ediv_one,band,and15]
    .exact{_,O,_,_,O,O,by show 1+0<=sizeLine;decide,{_,O,O}}
   .refine{_,O,_,O,_,_,O,O,zci (by decide) (by decide),_,_,O,O,(show(0:Int)<=4*(0+((1:Nat):Int)) by decide),_,_,O,O,FIG,((n / 16:Nat):Int),_,O,congrArg V.int ?_,by decide,zls (by omega),?_}
    .have e:(n:Int) / 2 ^ (4*(0+((1:Nat):Int))).toNat=((n / 16:Nat):Int):=by
      show(n:Int) / 16=_
      omega
     show Builtin.bitAnd ((n:Int) / 2 ^ (4*(0+((1:Nat):Int))).toNat) ((15:Nat):Int)=_
     rw[e,band,and15,Nat.mod_eq_of_lt (by omega)]
    .exact{_,O,_,_,O,O,by show 1+1<=sizeLine;decide,{_,O,O}}
  .rintro U H2 ⟨v3,rfl,rfl⟩
   exact{_,O,k}
abbrev zbX:Stmt:=top 18
def zeL:FnScope ["word"] ["word"] (zai zbX):=sck O O O (by decide +kernel)
def zeW{f:Addr}{fd:FuncData}(F:FunN K "two_figures" zbX f fd)(T:Blt mg)(Gby_figures:Cal P w K mg base 1 "by_figures" ["number","many"] spByFig):FnOk P w K mg base CX0 2 f fd ["word"] sp2fig:=by
 refine F.ok zeL (by walk_at"l") (λcdv A outer s H vs Q E hr h=>?_)
 .obtain⟨n,rfl,hn,k⟩:=h
  refine{_,(zag (zal (pe_c Gby_figures (zaa (pv 0) (zaa zaf zab))))),?rd}
  exact{_,O,n,O,hn,k}
def zjU(C:Addr)(H:Hp)(a:Addr)(ws:List V)(hd:Str)(Q:VK):Prop:=∀(p:Addr) (H':Hp),H p=none->(∃dx,H' a=some (.ins C dx [("head",.str hd),("held",.ref p)]))->H' p=some (.lst ws)->KeepP a H H'->Q .non H'
inductive spMk1H(C:Addr)(hd:Str)(vs:List V)(H:Hp)(Q:VK)(u3_:XK):Prop
 | mk a dx (v:Int)(_:vs=[.ref a,.int v])(_:0<=v)(_:v<=255)(_:H a=some (.ins C dx []))(_:zjU C H a [.int v] hd Q)
inductive spMkSH(C:Addr)(vs:List V)(H:Hp)(Q:VK)(u3_:XK):Prop
 | mk a dx (n:Nat) (v:Int)(_:vs=[.ref a,.int (n:Int),.int v])(_:1<=n)(_:n<=4096)(_:0<=v)(_:v<=255)(_:H a=some (.ins C dx []))(_:zjU C H a (List.replicate n (.int v)) "store" Q)
inductive spMkFH(C:Addr)(vs:List V)(H:Hp)(Q:VK)(u3_:XK):Prop
 | mk a dx l (ws:List Nat)(_:vs=[.ref a,.ref l])(_:H l=some (.lst (vN ws)))(_:1<=ws.length)(_:ws.length<=4096)(_:(∀w∈ws,w<=255))(_:H a=some (.ins C dx []))(_:zjU C H a (vN ws) "fixed" Q)
def zdB:Nat->Str
 | 0 => "store"
 | 1 => "fixed"
 | 2 => "latch"
 | 3 => "meter"
 | _ => "pipe"
def khead(kd n:Nat):Str:=if kd=4 then phead n else zdB kd
def kext(kd n:Nat):List (Str×V):=if kd=4 then[("room",.int (n:Int))] else[]
def zdf(kd:Nat)(ws:List Nat):Nat:=if kd=4 then 2 else ws.length
structure Kd(kd n:Nat)(ws:List Nat):Prop where
 k5:kd<5
 w5:∀v∈ws,v<=255
 ln:ws.length<=4096
 l1:kd≠4->1<=ws.length
 l3:kd=3->ws.length=1
 pi:kd=4->ws.length<=n/\1<=n
 n2:n<=255
structure Chp(cs:Nat->Addr)(H:Hp)(x p:Addr)(kd n:Nat)(ws:List Nat):Prop where
 ex:∃dx,H x=some (.ins (cs kd) dx (("head",.str (khead kd n))::("held",.ref p)::kext kd n))
 ls:H p=some (.lst (vN ws))
def Chp.same{cs:Nat->Addr}{H H':Hp}{x p:Addr}{kd n:Nat}{ws:List Nat}(o:Chp cs H x p kd n ws)(s:Same H H'):Chp cs H' x p kd n ws:=by
 obtain⟨⟨dx,e⟩,l⟩:=o
 exact{{dx,s _ _ e},s _ _ l}
def zg4{kd j:Nat}(h:kd<5)(hj:j<5):decide (V.str (zdB kd)=V.str (zdB j))=decide (kd=j):=by
 rcases(show kd=0\/kd=1\/kd=2\/kd=3\/kd=4 by omega) with rfl|rfl|rfl|rfl|rfl<;>rcases(show j=0\/j=1\/j=2\/j=3\/j=4 by omega) with rfl|rfl|rfl|rfl|rfl<;>decide
def csOf(a b c d e:Addr):Nat->Addr
 | 0=>a
 | 1=>b
 | 2=>c
 | 3=>d
 | _=>e
abbrev zbP:Stmt:=zaO (top 56) 1
def zek:FnScope ["self"] ["self"] (zai zbP):=sck O O O (by decide +kernel)
def za7{f C:Addr}{fd:FuncData}(F:Fun K "__len__" "Chip.__len__" zbP f fd)(T:Blt mg)(c:ClsOk K C):FnOk P w K mg base CX0 1 f fd ["self"] (spLen C List.length):=by
 refine F.ok zek (by walk_at"l") (λcdv A outer s H vs Q E hr h=>?_)
 .obtain⟨a,p,ws,ext,rfl,o,k⟩:=h
  refine{_,(zag (zal (zak zam (by rfl) T.len PySem.boot_len (zaa (zcg (pv 0) O) zab)))),?rd}
  obtain⟨⟨dx,hd,e⟩,l,nn⟩:=o
  exact{_,O,a,C,dx,_,_,O,e,c.cl,c.held,O,p,ws,O,.inl (SqL.of l),k}
abbrev zct:Stmt:=zaO (top 56) 4
def zfm:FnScope ["self"] ["self"] (zai zct):=sck O O O (by decide +kernel)
def za9{f C:Addr}{fd:FuncData}(F:Fun K "state" "Chip.state" zct f fd)(T:Blt mg)(c:ClsOk K C):FnOk P w K mg base CX0 1 f fd ["self"] (spState C):=by
 refine F.ok zfm (by walk_at"l") (λcdv A outer s H vs Q E hr h=>?_)
 .obtain⟨a,p,ws,ext,rfl,o,k⟩:=h
  refine{_,(zag (zal (zaH zbT (by rfl) T.tuple zbx (zaa (zcg (pv 0) O) zab)))),?rd}
  obtain⟨⟨dx,hd,e⟩,l,nn⟩:=o
  exact{_,O,a,C,dx,_,_,O,e,c.cl,c.held,O,p,ws,O,.inl {SqL.of l,k}}
abbrev zbO:Stmt:=zaO (top 61) 1
def zej:FnScope ["self"] ["self"] (zai zbO):=sck O O O (by decide +kernel)
def zeo{f C:Addr}{fd:FuncData}(F:Fun K "__len__" "Pipe.__len__" zbO f fd)(T:Blt mg)(c:ClsOk K C):FnOk P w K mg base CX0 1 f fd ["self"] (spLen C two):=by
 refine F.ok zej (by walk_at"l") (λcdv A outer s H vs Q E hr h=>?_)
 .obtain⟨a,p,ws,ext,rfl,o,k⟩:=h
  refine{_,(zag (zal zaf)),?rd}
  exact k
abbrev zbj:Stmt:=zaO (top 57) 0
def zdo:FnScope ["self","cells","word"] ["self","cells","word"] (zai zbj):=sck O O O (by decide +kernel)
def zdv{f C:Addr}{fd:FuncData}{dV:Value}(F:FunD K "__init__" "Store.__init__" zbj dV f fd)(T:Blt mg)(N:Nums mg)(c:ClsOk K C)(Gis_number:Cal P w K mg base 1 "is_number" ["thing","last"] spIsNum)(Gis_word:Cal P w K mg base 2 "is_word" ["thing"] spIsWord)(GCChip___init__:Clm P w K mg base 1 "Chip" "__init__" (spInit K)):FnOk P w K mg base CX0 3 f fd ["self","cells","word"] (spMkSH C):=by
 refine F.ok zdo (by walk_at"l") (λcdv A outer s H vs Q E hr h=>?_)
 .obtain⟨a,dx,n,v,rfl,h0,h1,h2,h3,ha,k⟩:=h
  refine⟨_,(zad (zaA (PW.pt (zbD (zaG (zaF (pe_c Gis_number (zaa (pv 1) (zaa (za2 O N.MOST_CELLS) zab))))) (zbD (zas zgo (pv 1) zaf (zaw _)) (zbd (zaG (zaF (pe_c Gis_word (zaa (pv 2) zab)))))))) (zag zaI) zan)
   (zag (zaJ (zfr GCChip___init__ (hrm hr) O (zaa (pv 0) (zaa zaD (zaa (zat zi1 (zax (zaa (pv 2) zab)) (pv 1)) zab))))))),?rd⟩
  refine{_,O,(n:Int),4096,O,_,O,?_}
  rw[Xal (show(0:Int)<=(n:Int)/\(n:Int)<=4096 by omega)]
  refine iteF {_,O,_,_,O,O,_,O,?_}
  rw[Xam (show¬ (n:Int)<1 by omega)]
  refine iteF {_,O,v,O,_,O,zhQ ⟨h2,h3⟩ ?_}
  refine{_,O,_,O,by show 1<=sizeLine;decide,λl hl=>?_}
  have en:((n:Int)).toNat=n:=by omega
  refine{_,O,l,_,_,O,O,zac,by omega,by omega,?_,λp hp=>?_}
  .rw[en];show 1*n<=sizeLine;exact Xak (by omega) (show 4096<=sizeLine by decide)
  rw[en,show(List.replicate n [V.int v]).flatten=List.replicate n (V.int v) from ziH n _]
  have nl:l≠a:=λz=>by rw[z,ha] at hl;cases hl
  have hpl:p≠l:=λz=>by rw[z,zac] at hp;cases hp
  have hp0:H p=none:=by rw[zah hpl] at hp;exact hp
  have ne:p≠a:=λz=>by rw[z,ha] at hp0;cases hp0
  refine{a,C,dx,p,_,O,by rw[zah (Ne.symm ne),zah (Ne.symm nl)];exact ha,c,λH' e1 e2=>?_}
  refine k p H' hp0 ⟨dx,e1⟩ (by rw[e2 p ne];exact zac) λb o hb e=>?_
  rw[e2 b hb,zah (zaj e hp0),zah (zaj e hl)];exact e
abbrev zbm:Stmt:=zaO (top 58) 0
def scFixed___init__:FnScope ["self","words","held"] ["self","words"] (zai zbm):=sck O O O (by decide +kernel)
def zdy{f C:Addr}{fd:FuncData}(F:Fun K "__init__" "Fixed.__init__" zbm f fd)(T:Blt mg)(N:Nums mg)(c:ClsOk K C)(Gis_word:Cal P w K mg base 2 "is_word" ["thing"] spIsWord)(GCChip___init__:Clm P w K mg base 1 "Chip" "__init__" (spInit K)):FnOk P w K mg base CX0 3 f fd ["self","words"] (spMkFH C):=by
 refine F.ok scFixed___init__ (by walk_at"l") (λcdv A outer s H vs Q E hr h=>?_)
 .obtain⟨a,dx,l,ws,rfl,hl,h1,h2,h3,ha,k⟩:=h
  refine'⟨_,(zad (ps_L 2 scFixed___init__.nd (zaH zbw (by rfl) T.list zcz (zaa (pv 1) zab)))
   (zad (zaA (PW.pt (zbD (zaG (zgX zgp zgp zaf (zak zam (by rfl) T.len PySem.boot_len (zaa (pv 2) zab)) (za2 O N.MOST_CELLS))) (zbd (zaG (zaF (zak (zcT O) (by rfl) T.all zhe (zaa ?c1 zab))))))) (zag zaI) zan)
   (zag (zaJ (zfr GCChip___init__ (hrm hr) O (zaa (pv 0) (zaa zaD (zaa (pv 2) zab)))))))),?rd⟩
  (case c1=>exact(zc9 (Nc:=["word"]) [none] O (zaN (by rfl)) (zeR (pv 2)) (λ_ _ _ _ _=>(pg_L 0 (show(["word"]:List Str).Nodup by decide +kernel))) (λ_ _ _ _ _=>zcG) (λ_ _ _ _ _=>(pe_c Gis_word (zaa (pv 0) zab)))))
  refine{_,O,l,_,O,.inl (SqL.of hl),λp hp=>?_}
  have nl:p≠a:=λz=>by rw[z,ha] at hp;cases hp
  refine{_,O,p,_,O,.inl (SqL.of zac),_,_,O,O,_,O,?_}
  rw[zaq,Xal (show(1:Int)<=(ws.length:Int) by omega)]
  refine iteT {_,_,O,O,_,O,?_}
  rw[Xal (show(ws.length:Int)<=4096 by omega)]
  refine iteF {_,O,p,O,{_,SqL.of zac},?_}
  refine zfS (K:=K) (a:=p) (xs:=vN ws) (λj rs U H1=>∃v1,U=[v1]/\rs=List.replicate j (V.bl true)/\H1=upd H p (.lst (vN ws))) (by rw[zaq];exact Xak h2 (by decide)) ⟨none,O,O,O⟩ ?_ ?_ ?_
  .rintro j rs U H1 hj ⟨v1,rfl,rfl,rfl⟩
   exact{SqL.of zac,by rw[Xby];exact Xad _}
  .rintro j x rs U H1 ex ⟨v1,rfl,rfl,rfl⟩
   obtain⟨b,hb,rfl⟩:=zij ex
   have:=h3 b (XaF hb)
   refine{_,O,(b:Int),O,?_}
   rw[Xal (show(0:Int)<=(b:Int)/\(b:Int)<=255 by omega)]
   exact{_,O,List.replicate_succ'.symm,O}
  .rintro rs U H1 ⟨v1,rfl,rfl,rfl⟩ D hD
   refine{D,List.replicate (vN ws).length true,O,SqL.of (by rw[List.map_replicate];exact zac),_,O,?_}
   rw[show(List.replicate (vN ws).length true).all id=true by simp]
   refine iteF {_,O,_,O,a,C,dx,p,_,O,?_,c,λH' e1 e2=>?_}
   .exact zae hD _ _ (zae hp _ _ ha)
   .refine k p H' hp ⟨dx,e1⟩ (by rw[e2 p nl];exact zae hD _ _ zac) λb o hb e=>?_
    rw[e2 b hb];exact zae hD _ _ (zae hp _ _ e)
abbrev zbl:Stmt:=zaO (top 59) 0
def zdq:FnScope ["self","word"] ["self","word"] (zai zbl):=sck O O O (by decide +kernel)
def zdx{f C:Addr}{fd:FuncData}{dV:Value}(F:FunD K "__init__" "Latch.__init__" zbl dV f fd)(T:Blt mg)(c:ClsOk K C)(Gis_word:Cal P w K mg base 2 "is_word" ["thing"] spIsWord)(GCChip___init__:Clm P w K mg base 1 "Chip" "__init__" (spInit K)):FnOk P w K mg base CX0 3 f fd ["self","word"] (spMk1H C "latch"):=by
 refine F.ok zdq (by walk_at"l") (λcdv A outer s H vs Q E hr h=>?_)
 .obtain⟨a,dx,v,rfl,h0,h1,ha,k⟩:=h
  refine⟨_,(zad (zaA (zaG (zaF (pe_c Gis_word (zaa (pv 1) zab)))) (zag zaI) zan)
   (zag (zaJ (zfr GCChip___init__ (hrm hr) O (zaa (pv 0) (zaa zaD (zaa (zax (zaa (pv 1) zab)) zab))))))),?rd⟩
  refine{_,O,v,O,_,O,zhQ ⟨h0,h1⟩ ?_}
  refine{_,O,_,O,by show 1<=sizeLine;decide,λp hp=>?_}
  have ne:p≠a:=λz=>by rw[z,ha] at hp;cases hp
  refine{a,C,dx,p,_,O,by rw[zah (Ne.symm ne)];exact ha,c,λH' e1 e2=>?_}
  refine k p H' hp ⟨dx,e1⟩ (by rw[e2 p ne];exact zac) λb o hb e=>?_
  rw[e2 b hb,zah (zaj e hp)];exact e
abbrev zbk:Stmt:=zaO (top 60) 0
def zdp:FnScope ["self","word"] ["self","word"] (zai zbk):=sck O O O (by decide +kernel)
def zdw{f C:Addr}{fd:FuncData}{dV:Value}(F:FunD K "__init__" "Meter.__init__" zbk dV f fd)(T:Blt mg)(c:ClsOk K C)(Gis_word:Cal P w K mg base 2 "is_word" ["thing"] spIsWord)(GCChip___init__:Clm P w K mg base 1 "Chip" "__init__" (spInit K)):FnOk P w K mg base CX0 3 f fd ["self","word"] (spMk1H C "meter"):=by
 refine F.ok zdp (by walk_at"l") (λcdv A outer s H vs Q E hr h=>?_)
 .obtain⟨a,dx,v,rfl,h0,h1,ha,k⟩:=h
  refine⟨_,(zad (zaA (zaG (zaF (pe_c Gis_word (zaa (pv 1) zab)))) (zag zaI) zan)
   (zag (zaJ (zfr GCChip___init__ (hrm hr) O (zaa (pv 0) (zaa zaD (zaa (zax (zaa (pv 1) zab)) zab))))))),?rd⟩
  refine{_,O,v,O,_,O,zhQ ⟨h0,h1⟩ ?_}
  refine{_,O,_,O,by show 1<=sizeLine;decide,λp hp=>?_}
  have ne:p≠a:=λz=>by rw[z,ha] at hp;cases hp
  refine{a,C,dx,p,_,O,by rw[zah (Ne.symm ne)];exact ha,c,λH' e1 e2=>?_}
  refine k p H' hp ⟨dx,e1⟩ (by rw[e2 p ne];exact zac) λb o hb e=>?_
  rw[e2 b hb,zah (zaj e hp)];exact e
abbrev zbA:Stmt:=zaO (top 61) 0
def zdT:FnScope ["self","room"] ["self","room"] (zai zbA):=sck O O O (by decide +kernel)
def zd4{f C:Addr}{fd:FuncData}{dV:Value}(F:FunD K "__init__" "Pipe.__init__" zbA dV f fd)(T:Blt mg)(N:Nums mg)(c:ClsOk K C)(Gis_number:Cal P w K mg base 1 "is_number" ["thing","last"] spIsNum)(Gtwo_figures:Cal P w K mg base 2 "two_figures" ["word"] sp2fig)(GCChip___init__:Clm P w K mg base 1 "Chip" "__init__" (spInit K)):FnOk P w K mg base CX0 3 f fd ["self","room"] (spMkP C):=by
 refine F.ok zdT (by walk_at"l") (λcdv A outer s H vs Q E hr h=>?_)
 .obtain⟨a,dx,r,rfl,h0,h1,ha,k⟩:=h
  refine⟨_,(zad (zaA (PW.pt (zbD (zaG (zaF (pe_c Gis_number (zaa (pv 1) (zaa (za2 O N.MOST_ROOM) zab))))) (zbd (zas zgo (pv 1) zaf (zaw _))))) (zag zaI) zan)
   (zad (zaJ (zfr GCChip___init__ (hrm hr) O (zaa (pv 0) (zaa (pe_fs2 zaD (pe_c Gtwo_figures (zaa (pv 1) zab))) (zaa (zax zab) zab)))))
   (zag (zbp (pv 0) (pv 1) O)))),?rd⟩
  refine{_,O,(r:Int),255,O,_,O,?_}
  rw[Xal (show(0:Int)<=(r:Int)/\(r:Int)<=255 by omega)]
  refine iteF {_,O,_,_,O,O,_,O,?_}
  rw[Xam (show¬ (r:Int)<1 by omega)]
  refine iteF {_,O,_,O,by show 5<=1000;decide,_,O,r,O,h1,_,O,by show 1+1<=1000;decide,?_}
  refine{by show 0<=sizeLine;decide,λp hp=>?_}
  have ne:p≠a:=λz=>by rw[z,ha] at hp;cases hp
  refine{a,C,dx,p,_,O,by rw[zah (Ne.symm ne)];exact ha,c,λH' e1 e2=>?_}
  refine{_,O,_,O,a,C,dx,_,O,e1,c.cl,c.room,by show 2<1000;decide,?_}
  refine k p _ hp {⟨dx,zac⟩,by rw[zah ne,e2 p ne];exact zac} λb o hb e=>?_
  rw[zah hb,e2 b hb,zah (zaj e hp)];exact e
abbrev zdK:Stmt:=top 75
def scrow_fits:FnScope ["row","chips","inner","chip","latch"] ["row","chips"] (zai zdK):=sck O O O (by decide +kernel)
def lenK(kd:Nat):List V->Nat:=if kd=4 then two else List.length
def Chp.ob{cs:Nat->Addr}{H:Hp}{x p:Addr}{kd n:Nat}{ws:List Nat}(o:Chp cs H x p kd n ws):Ob (cs kd) H x p (vN ws) (kext kd n):=by
 obtain⟨dx,e⟩:=o.ex
 refine{{dx,_,e},o.ls,?_}
 unfold kext
 split
 .exact .inr {_,O}
 .exact .inl O
structure Dt where
 m:Nat
 x:Nat->Addr
 p:Nat->Addr
 kd:Nat->Nat
 n:Nat->Nat
 sz:Nat->Nat
structure Chs(cs:Nat->Addr)(D:Dt)(Y:Hp)(us:Nat->List Nat):Prop where
 o:∀i,i<D.m->Chp cs Y (D.x i) (D.p i) (D.kd i) (D.n i) (us i)
 k:∀i,i<D.m->Kd (D.kd i) (D.n i) (us i)
 h1:∀i,i<D.m->D.kd i=2\/D.kd i=3->(us i).length=1
 z:∀i,i<D.m->zdf (D.kd i) (us i)=D.sz i
 inj:∀i j,i<D.m->j<D.m->D.p i=D.p j->i=j
 m1:D.m<=200
def Chs.same{cs:Nat->Addr}{D:Dt}{Y Z:Hp}{us:Nat->List Nat}(S:Chs cs D Y us)(s:Same Y Z):Chs cs D Z us:={λi h=>(S.o i h).same s,S.k,S.h1,S.z,S.inj,S.m1}
def chL(D:Dt):List V:=(List.range D.m).map λi=>.ref (D.x i)
def ze6(D:Dt):(chL D).length=D.m:=by unfold chL;rw[Xaf,Xa2]
def zjG{D:Dt}{i:Nat}(h:i<D.m):(chL D)[i]?=some (.ref (D.x i)):=by unfold chL;rw[Xax,List.getElem?_range h];rfl
def Fit(D:Dt)(r:Rw):Prop:=r.c<D.m/\2 ^ ones r.i<=D.sz r.c/\∀c a b,r.l=some (c,a,b)->c<D.m/\D.kd c=2
inductive spFits(cs:Nat->Addr)(vs:List V)(H:Hp)(Q:VK)(u3_:XK):Prop
 | mk (t L:Addr) (r:Rw) (D:Dt) (us:Nat->List Nat)(_:vs=[.ref t,.ref L])(_:RwAt H t r)(_:r.i<2 ^ 16)(_:H L=some (.lst (chL D)))(_:Chs cs D H us)(_:Fit D r)(_:∀H',Same H H'->Q (.bl true) H')
def lkn{p:Addr}{kd n:Nat}{z:Str}(nm:Str)(h1:nm ≠ "head" := by decide)(h2:nm ≠ "held" := by decide)(h3:nm ≠ "room" := by decide):(("head",V.str z)::("held",V.ref p)::kext kd n:List (Str×V)).lookup nm=none:=by
 unfold kext
 have e1:(nm == "head")=false:=beq_eq_false_iff_ne.mpr h1
 have e2:(nm == "held")=false:=beq_eq_false_iff_ne.mpr h2
 have e3:(nm == "room")=false:=beq_eq_false_iff_ne.mpr h3
 split<;>simp[List.lookup_cons,e1,e2,e3]
def zhB{f:Addr}{cs:Nat->Addr}{fd:FuncData}(F:FunN K "row_fits" zdK f fd)(T:Blt mg)(Gones_of:Cal P w K mg base 2 "ones_of" ["mask"] spOnes)(GLatch:mg "Latch"=some (.ref (cs 2)))(kk:W.kitOne K (.ref (cs 2)) (.ref (cs 2))=some true)(TL:∀{H:Hp} {a dx:Addr} {fs:List (Str×V)},H a=some (.ins (cs 2) dx fs)->TyOf K H (.ref a) (.ref (cs 2)))
  (ML:∀kd,kd<5->Mth P w K mg base 1 (cs kd) "__len__" [] (λvs _=>vs) (spLen (cs kd) (lenK kd))):FnOk P w K mg base CX0 3 f fd ["row","chips"] (spFits cs):=by
 refine F.ok scrow_fits (by walk_at"l") (λcdv A outer s H vs Q E hr h=>?_)
 .obtain⟨t,L,r,D,us,rfl,⟨lt,et,hlt⟩,hi,eL,S,⟨f1,f2,f3⟩,k⟩:=h
  refine⟨_,(zad (zcF (zb7 (zgd (K:=K) O) (pv 0) (zc7 zaf) zc8) (zbI O (zao (pg_L 2 scrow_fits.nd) (zao (pg_L 3 scrow_fits.nd) (zao (pg_L 4 scrow_fits.nd) zaS)))))
   (zad (zaA (PW.pt (zbD (zas zmb (pv 3) (zak zam (by rfl) T.len PySem.boot_len (zaa (pv 1) zab)) (zaw _)) (zbd (zas zhz (zat zch zaf (pe_c Gones_of (zaa (pv 2) zab))) (zl8 1 ⟨O,O,O,O,O⟩ (hrm hr) O T.len (pe_x zaz (pv 1) (pv 3))) (zaw _))))) (zag (zal zdt)) zan)
   (zag (zal (pe_or (ziW (zcJ (pv 4))) (zbv (zbq (zbE zgo (pe_x za3 (pv 4) zaf) (zak zam (by rfl) T.len PySem.boot_len (zaa (pv 1) zab)) (zaw _)) (zbv (zak (zk2 (K:=K) O) (by rfl) T.isinstance za4 (zaa (pe_x zaz (pv 1) (pe_x za3 (pv 4) zaf)) (zaa (zko O GLatch) zab))))))))))),?rd⟩
  have ec:cutV [V.int (r.m:Int),.int (r.w:Int),.int (r.i:Int),.int (r.c:Int),lt] (some 2) none=[.int (r.i:Int),.int (r.c:Int),lt]:=rfl
  have hsz:∀i,i<D.m->D.sz i<=5000:=λi h=>by
   rw[<- S.z i h]
   unfold zdf
   split
   .decide
   .have:=(S.k i h).ln;omega
  refine{_,O,2,O,t,_,O,SqT.of et,(λe=>absurd (congrArg List.length e) (by rw[ec];simp)),λtp htp=>?_}
  rw[ec]
  have s1:=zae (H:=H) (o:=HO.tup [.int (r.i:Int),.int (r.c:Int),lt]) htp
  refine{tp,_,O,SqT.of zac,O,_,_,O,_,_,O,_,_,O,O,?_}
  refine{_,O,_,O,L,_,O,.inl (SqL.of (s1 _ _ eL)),_,_,O,O,_,O,?_}
  rw[ze6,Xam (show¬ (D.m:Int)<=(r.c:Int) by omega)]
  refine iteF {_,O,r.i,O,Xao hi (by decide),λH2 s2=>?_}
  have S2:=S.same (s1.trans s2)
  have h64:ones r.i<=64:=by
   have:=hsz _ f1
   by_cases hc:ones r.i<=64
   .exact hc
   .have:2 ^ 64<=2 ^ ones r.i:=XaW (by decide) (by omega)
    have:(5000:Nat)<2 ^ 64:=by decide
    omega
  obtain⟨dx,ex⟩:=(S2.o _ f1).ex
  have k5:=(S2.k _ f1).k5
  have hlen:lenK (D.kd r.c) (vN (us r.c))=D.sz r.c:=by
   rw[<- S.z _ f1]
   unfold lenK zdf
   split
   .rfl
   .exact zaq _
  refine{_,_,O,O,{by omega,by omega,by decide},_,O,_,O,L,_,_,_,O,O,SqL.of (s2 _ _ (s1 _ _ eL)),zaQ (zjG f1),?_}
  refine{_,cs (D.kd r.c),dx,_,_,_,O,ex,ML _ k5,_,_,_,_,O,(S2.o _ f1).ob,?_}
  rw[hlen]
  have hz:=hsz _ f1
  refine{_,O,by omega,by omega,_,_,O,O,_,O,?_}
  have e1:(1:Int)*2 ^ ((ones r.i:Nat):Int).toNat=((2 ^ ones r.i:Nat):Int):=by rw[Int.one_mul,Xap];norm_cast
  rw[Xam (show¬ ((D.sz r.c:Nat):Int)<(1:Int)*2 ^ ((ones r.i:Nat):Int).toNat by rw[e1];omega)]
  refine iteF ?_
  refine zar ?_
  try dsimp only
  have k:=k H2 (s1.trans s2)
  cases hl:r.l with
  | none =>
   rw[hl] at hlt
   obtain rfl:lt=.non:=hlt
   exact{_,O,_,O,iteT k}
  | some o =>
   obtain⟨c,a,b⟩:=o
   rw[hl] at hlt
   obtain⟨u,rfl,eu⟩:=hlt
   obtain⟨g1,g2⟩:=f3 c a b hl
   have eu2:=s2 _ _ (s1 _ _ eu)
   have eL2:=s2 _ _ (s1 _ _ eL)
   obtain⟨dy,ey⟩:=(S2.o _ g1).ex
   rw[g2] at ey
   refine{_,O,_,O,iteF {_,O,u,_,_,_,O,O,SqT.of eu2,O,_,O,L,_,O,.inl (SqL.of eL2),_,_,O,O,_,O,?_}}
   rw[ze6,Xal (show(c:Int)<(D.m:Int) by omega)]
   refine iteT {_,O,_,O,u,_,_,_,O,O,SqT.of eu2,O,L,_,_,_,O,O,SqL.of eL2,zaQ (zjG g1),_,_,_,true,O,TL ey,kk,k}
structure Bd where
 b:Addr
 bits:Nat
 R:Addr
 ws:List (Addr×Rw)
 L:Addr
 la:Addr
 keys:List Nat
 W:Addr
 nw:Nat
def bdF(B:Bd)(f:Nat):List (Str×V):=[("bits",.int (B.bits:Int)),("rows",.ref B.R),("chips",.ref B.L),("floating",.int (f:Int)),("latches",.ref B.la),("watches",.ref B.W),("next_watch",.int (B.nw:Int))]
structure RwsFor(D:Dt)(m:Nat)(Y:Hp)(R:Addr)(ws:List (Addr×Rw)):Prop where
 e:Y R=some (.tup (refs ws))
 r:RwsAt2 m Y ws
 f:∀z∈ws,Fit D z.2
 nc:ws.Pairwise λa b=>NC a.2 b.2
 ln:ws.length<=60
def RwsFor.same{D:Dt}{m:Nat}{Y Z:Hp}{R:Addr}{ws:List (Addr×Rw)}(h:RwsFor D m Y R ws)(s:Same Y Z):RwsFor D m Z R ws:={s _ _ h.e,h.r.same s,h.f,h.nc,h.ln}
structure BdAt(C:Addr)(B:Bd)(D:Dt)(Y:Hp)(f:Nat):Prop where
 e:∃db,Y B.b=some (.ins C db (bdF B f))
 b1:1<=B.bits
 b2:B.bits<=16
 rf:RwsFor D B.bits Y B.R B.ws
 ch:Y B.L=some (.lst (chL D))
 la:Y B.la=some (.lst (vN B.keys))
 kl:∀z∈B.ws,∀c a b,z.2.l=some (c,a,b)->c∈B.keys
 ks:∀k∈B.keys,k<D.m/\D.kd k=2
 kn:B.keys.Nodup
 f0:f<=255
 nl:∀i,i<D.m->B.L≠D.p i/\B.la≠D.p i
def BdAt.same{C:Addr}{B:Bd}{D:Dt}{Y Z:Hp}{f:Nat}(h:BdAt C B D Y f)(s:Same Y Z):BdAt C B D Z f:=by
 obtain⟨db,e⟩:=h.e
 exact{{db,s _ _ e},h.b1,h.b2,h.rf.same s,s _ _ h.ch,s _ _ h.la,h.kl,h.ks,h.kn,h.f0,h.nl}
structure ClsBd(K:W.Frag)(C:Addr):Prop where
 cls:Cls K C
 bits:NoAttr K C "bits"
 rows:NoAttr K C "rows"
 chips:NoAttr K C "chips"
 floating:NoAttr K C "floating"
 latches:NoAttr K C "latches"
 watches:NoAttr K C "watches"
 next_watch:NoAttr K C "next_watch"
structure Wa where
 x:Addr
 h:Addr
 m:Nat
 w:Nat
 k:Str
 hs:List (Str×Nat×Nat)
def hrV(d:Str×Nat×Nat):List V:=[.str d.1,.int (d.2.1:Int),.int (d.2.2:Int)]
def waF(z:Wa):List (Str×V):=[("mask",.int (z.m:Int)),("want",.int (z.w:Int)),("kind",.str z.k),("heard",.ref z.h)]
structure WaAt(C:Addr)(Y:Hp)(z:Wa):Prop where
 e:∃dx,Y z.x=some (.ins C dx (waF z))
 l:∃ts:List Addr,Y z.h=some (.lst (ts.map V.ref))/\ts.length=z.hs.length/\∀(i:Nat) (t:Addr) (d:Str×Nat×Nat),ts[i]?=some t->z.hs[i]?=some d->Y t=some (.tup (hrV d))
 n:z.hs.length<=1000000
def NoBd(o:HO):Prop:=(∀l,o≠.lst l)/\(∀q u,o≠.frz q u)/\∀c d B f,o≠.ins c d (bdF B f)
def wa_bd{z:Wa}{B:Bd}{f:Nat}(h:waF z=bdF B f):False:=by
 have h4:=(List.cons.inj h).1
 exact absurd (congrArg Prod.fst h4) (by show("mask" : Str) ≠ "bits"; decide)
def WaAt.keep{C:Addr}{Y Z:Hp}{z:Wa}(h:WaAt C Y z)(k:∀a o,NoBd o->(∀m,o≠.dK m)->Y a=some o->Z a=some o)(e:∀o,Y z.h=some o->Z z.h=some o):WaAt C Z z:=by
 obtain⟨dx,e1⟩:=h.e
 obtain⟨ts,e2,e3,e4⟩:=h.l
 exact{{dx,k _ _ {(λl q=>by cases q),(λ_ _ q=>by cases q),λc d B f q=>wa_bd (HO.ins.inj q).2.2} (λm q=>by cases q) e1},{ts,e _ e2,e3,λi t d h1 h2=>k _ _ {(λl q=>by cases q),(λ_ _ q=>by cases q),λc d B f q=>by cases q} (λm q=>by cases q) (e4 i t d h1 h2)},h.n}
structure WsAt(W C:Addr)(Y:Hp)(wl:List (Nat×Wa)):Prop where
 d:Y W=some (.dK (wl.map λz=>(Sum.inl (z.1:Int),V.ref z.2.x)))
 o:∀z∈wl,WaAt C Y z.2
 i:(wl.map λz=>z.2.h).Nodup
 x:(wl.map λz=>z.2.x).Nodup
 m:wl.length<=1000
def WsAt.keep{W C:Addr}{Y Z:Hp}{wl:List (Nat×Wa)}(h:WsAt W C Y wl)(k:∀a o,NoBd o->Y a=some o->Z a=some o)(e:∀z∈wl,∀o,Y z.2.h=some o->Z z.2.h=some o):WsAt W C Z wl:=
 {k _ _ {(λl q=>by cases q),(λ_ _ q=>by cases q),λc d B f q=>by cases q} h.d,λz hz=>(h.o z hz).keep (λa o h _=>k a o h) (e z hz),h.i,h.x,h.m}
def WsAt.same{W C:Addr}{Y Z:Hp}{wl:List (Nat×Wa)}(h:WsAt W C Y wl)(s:Same Y Z):WsAt W C Z wl:=h.keep (λa o _ e=>s _ _ e) λz hz o e=>s _ _ e
structure ClsWt(K:W.Frag)(C:Addr):Prop where
 cls:Cls K C
 mask:NoAttr K C "mask"
 want:NoAttr K C "want"
 kind:NoAttr K C "kind"
 heard:NoAttr K C "heard"
structure BW(C CW:Addr)(B:Bd)(D:Dt)(Y:Hp)(f:Nat)(wl:List (Nat×Wa)):Prop where
 b:BdAt C B D Y f
 w:WsAt B.W CW Y wl
 nh:∀z∈wl,z.2.h≠B.L/\z.2.h≠B.la/\∀i,i<D.m->z.2.h≠D.p i
def BW.same{C CW:Addr}{B:Bd}{D:Dt}{Y Z:Hp}{f:Nat}{wl:List (Nat×Wa)}(h:BW C CW B D Y f wl)(s:Same Y Z):BW C CW B D Z f wl:={h.b.same s,h.w.same s,h.nh}
abbrev zcZ:Stmt:=top 76
def sccheck_map:FnScope ["bits","rows","chips","number","row"] ["bits","rows","chips"] (zai zcZ):=sck O O O (by decide +kernel)
inductive spChkMap(cs:Nat->Addr)(vs:List V)(H:Hp)(Q:VK)(u3_:XK):Prop
 | mk (m:Nat) (R L:Addr) (D:Dt) (us:Nat->List Nat) (ws:List (Addr×Rw))(_:vs=[.int (m:Int),.ref R,.ref L])(_:1<=m)(_:m<=16)(_:RwsFor D m H R ws)(_:H L=some (.lst (chL D)))(_:Chs cs D H us)(_:∀H',Same H H'->Q .non H')
def zgw{f:Addr}{cs:Nat->Addr}{fd:FuncData}(F:FunN K "check_map" zcZ f fd)(T:Blt mg)(N:Nums mg)(Gis_number:Cal P w K mg base 1 "is_number" ["thing","last"] spIsNum)(Gis_map:Cal P w K mg base 5 "is_map" ["bits","thing"] spMapV)(Grow_fits:Cal P w K mg base 3 "row_fits" ["row","chips"] (spFits cs)):FnOk P w K mg base CX0 6 f fd ["bits","rows","chips"] (spChkMap cs):=by
 refine F.ok sccheck_map (by walk_at"l") (λcdv A outer s H vs Q E hr h=>?_)
 .obtain⟨m,R,L,D,us,ws,rfl,h1,h2,hR,eL,S,k⟩:=h
  refine⟨_,(zad (zaA (PW.pt (zbD (zaG (zaF (pe_c Gis_number (zaa (pv 0) (zaa (za2 O N.MOST_BITS) zab))))) (zbd (zas zgo (pv 0) zaf (zaw _))))) (zag zaI) zan)
   (zad (zaA (zaG (zaF (pe_c Gis_map (zaa (pv 0) (zaa (pv 1) zab))))) (zag zaI) zan)
   (zag (zb2 PassesOwn.never O (zeS O T.enumerate (zaa (pv 1) zab)) (zbI O (zao (pg_L 3 sccheck_map.nd) (zao (pg_L 4 sccheck_map.nd) zaS)))
   (zag (zaA (zaG (zaF (pe_c Grow_fits (zaa (pv 4) (zaa (pv 2) zab))))) (zag zaI) zan)))))),?rd⟩
  refine{_,O,_,_,O,_,O,?_}
  rw[Xal (show 0<=(m:Int)/\(m:Int)<=16 by omega)]
  refine iteF {_,O,_,_,O,O,_,O,?_}
  rw[Xam (show¬ (m:Int)<1 by omega)]
  refine iteF (zar ?_)
  try dsimp only
  refine{_,O,_,O,m,R,ws,O,hR.e,hR.r,Xak hR.ln (by decide),h2,λH1 s1=>{_,O,iteF (zar ?_)}}
  try dsimp only
  refine{_,O,R,O,{_,SqT.of (s1 _ _ hR.e)},?_}
  refine zed (K:=K) (a:=R) (xs:=refs ws) (λi U X=>∃(v3 v4:Option V),U=[some (.int (m:Int)),some (.ref R),some (.ref L),v3,v4]/\Same H X) {_,_,O,s1} ?_ ?_ ?_
  .rintro i U X _ ⟨_,_,_,sX⟩
   exact SqT.of (sX _ _ hR.e)
  .rintro i y U9 U X hy hU ⟨v3,v4,rfl,sX⟩
   obtain⟨z,hz,rfl⟩:=zcD hy
   have hm:=XaF hz
   have sU:=sX.trans (zae (o:=.tup [.int (i:Int),.ref z.1]) hU)
   refine zfN ?_
   refine{_,O,_,O,z.1,L,z.2,D,us,O,(hR.r z hm).1.same sU,Xao (hR.r z hm).2.i0 (XaW (by decide) h2),sU _ _ eL,S.same sU,hR.f z hm,λH2 s2=>{_,O,iteF {_,_,O,sU.trans s2}}}
  .rintro U X ⟨_,_,_,sX⟩
   exact k X sX
abbrev zbZ:Stmt:=top 77
def sccheck_clash:FnScope ["rows","clash","address","first","second","words"] ["rows"] (zai zbZ):=sck O O O (by decide +kernel)
inductive spChkCl(vs:List V)(H:Hp)(Q:VK)(u3_:XK):Prop
 | mk (m:Nat) (R:Addr) (D:Dt) (ws:List (Addr×Rw))(_:vs=[.ref R])(_:RwsFor D m H R ws)(_:∀H',Same H H'->Q .non H')
def zeY{f:Addr}{fd:FuncData}(F:FunN K "check_clash" zbZ f fd)(T:Blt mg)(Gclash_of:Cal P w K mg base 4 "clash_of" ["rows"] spClashV):FnOk P w K mg base CX0 5 f fd ["rows"] spChkCl:=by
 refine F.ok sccheck_clash (by walk_at"l") (λcdv A outer s H vs Q E hr h=>?_)
 .obtain⟨m,R,D,ws,rfl,hR,k⟩:=h
  refine⟨_,(zad (ps_L 1 sccheck_clash.nd (pe_c Gclash_of (zaa (pv 0) zab)))
   (zag (zaA (zcE (ziY (pv 1))) (zad (zcF (pv 1) (zbI O (zao (pg_L 2 sccheck_clash.nd) (zao (pg_L 3 sccheck_clash.nd) (zao (pg_L 4 sccheck_clash.nd) (zao (pg_L 5 sccheck_clash.nd) zaS))))))
   (zag zaI)) zan))),?rd⟩
  exact{_,O,m,R,ws,O,hR.e,hR.r,hR.nc,Xak hR.ln (by decide),λH1 s1=>{_,O,_,O,iteF (k H1 s1)}}
abbrev zbo:Stmt:=zaO (top 79) 0
def zds:FnScope ["self","bits","rows","chips","floating"] ["self","bits","rows","chips","floating"] (zai zbo):=sck O O O (by decide +kernel)
def lcs(ws:List (Addr×Rw)):List Nat:=ws.filterMap λz=>z.2.l.map (·.1)
set_option tactic.hygienic true in
def zkX(ys:List Int):(dd ys).Nodup:=by
 have g:∀(l S:List Int),S.Nodup->(l.foldl (λS n=>if n∈S then S else S++[n]) S).Nodup:=by
  intro l
  induction l with
  | nil=>intro S h;exact h
  | cons a l ih =>
   intro S h
   rw[List.foldl_cons]
   refine ih _ ?_
   split
   .exact h
   .rename_i ha
    rw[XaT]
    exact{h,by simp,λx hx y hy=>by rw[Xae] at hy;subst hy;exactλz=>ha (z▸hx)}
 exact g ys [] List.nodup_nil
def zkB{ws:List (Addr×Rw)}{j:Nat}{z:Addr×Rw}(h:ws[j]?=some z):lcs (ws.take (j+1))=lcs (ws.take j)++(z.2.l.map (·.1)).toList:=by
 unfold lcs
 rw[List.take_succ,h,List.filterMap_append]
 congr 1
def lcs_mem{ws:List (Addr×Rw)}{c:Nat}:c∈lcs ws↔∃z∈ws,∃a b,z.2.l=some (c,a,b):=by
 unfold lcs
 rw[XbD]
 constructor
 .rintro⟨z,hz,e⟩
  obtain⟨o,ho,rfl⟩:=XaD.mp e
  exact⟨z,hz,o.2.1,o.2.2,ho⟩
 .rintro⟨z,hz,a,b,e⟩
  exact{z,hz,by rw[e];rfl}
inductive spInitB(C:Addr)(cs:Nat->Addr)(vs:List V)(H:Hp)(Q:VK)(u3_:XK):Prop
 | mk (b db R L:Addr) (m fl:Nat) (D:Dt) (us:Nat->List Nat) (ws:List (Addr×Rw))(_:vs=[.ref b,.int (m:Int),.ref R,.ref L,.int (fl:Int)])(_:H b=some (.ins C db []))(_:1<=m)(_:m<=16)(_:fl<=255)(_:RwsFor D m H R ws)(_:H L=some (.lst (chL D)))(_:Chs cs D H us)(_:∀(B:Bd) (H':Hp),B.b=b->B.bits=m->B.R=R->B.ws=ws->H B.L=none->H B.la=none->H B.W=none->B.nw=0->H' B.W=some (.dK [])->BdAt C B D H' fl->(∀a o,a≠b->H a=some o->H' a=some o)->Q .non H')
def zdA{f:Addr}{C:Addr}{cs:Nat->Addr}{fd:FuncData}{dV:Value}(F:FunD K "__init__" "Board.__init__" zbo dV f fd)(T:Blt mg)(GBsorted:mg "sorted"=none)(cl:ClsBd K C)(Gcheck_map:Cal P w K mg base 6 "check_map" ["bits","rows","chips"] (spChkMap cs))(Gcheck_clash:Cal P w K mg base 5 "check_clash" ["rows"] spChkCl)(Gcheck_word:Cal P w K mg base 3 "check_word" ["word"] spChkWord):FnOk P w K mg base CX0 7 f fd ["self","bits","rows","chips","floating"] (spInitB C cs):=by
 refine F.ok zds (by walk_at"l") (λcdv A outer s H vs Q E hr h=>?_)
 .obtain⟨b,db,R,L,m,fl,D,us,ws,rfl,eb,h1,h2,hf,hR,eL,S,k⟩:=h
  refine'⟨_,(zad (zaJ (pe_c Gcheck_map (zaa (pv 1) (zaa (pv 2) (zaa (pv 3) zab)))))
   (zad (zaJ (pe_c Gcheck_clash (zaa (pv 2) zab)))
   (zad (zaJ (pe_c Gcheck_word (zaa (pv 4) zab)))
   (zad (zbp (pv 0) (pv 1) O)
   (zad (zbp (pv 0) (pv 2) O)
   (zad (zbp (pv 0) (zaH zbw (by rfl) T.list zcz (zaa (pv 3) zab)) O)
   (zad (zbp (pv 0) (pv 4) O)
   (zad (zbp (pv 0) (zak (zfW O) (by rfl) GBsorted zjL (zaa ?c1 zab)) O)
   (zad (zbp (pv 0) zkp O)
   (zag (zbp (pv 0) zaf O))))))))))),?rd⟩
  (case c1=>exact(zhv (Nc:=["row"]) [none] O (zaN (by rfl)) (zlg (pv 2)) (λ_ _ _ _ _=>(pg_L 0 (show(["row"]:List Str).Nodup by decide +kernel))) (λ_ _ _ _ _=>(zlh (zcE (ziY (pe_x (zgH (K:=K) O) (pv 0) zaf))))) (λ_ _ _ _ _=>(pe_x (zgH (K:=K) O) (pe_x (zgH (K:=K) O) (pv 0) zaf) zaf))))
  refine{_,O,_,O,_,O,m,R,L,D,us,ws,O,h1,h2,hR,eL,S,λH1 s1=>?_}
  refine{_,O,m,R,D,ws,O,hR.same s1,λH2 s2=>?_}
  have s12:=s1.trans s2
  refine{_,O,(fl:Int),O,by omega,by omega,?_}
  refine{_,O,_,O,b,C,db,_,O,s12 _ _ eb,cl.cls,cl.bits,by show 0<1000;decide,?_}
  refine{_,O,_,O,b,C,db,_,O,zac,cl.cls,cl.rows,by show 1<1000;decide,?_}
  have nLb:L≠b:=λz=>by rw[z,eb] at eL;cases eL
  refine{_,O,L,chL D,O,.inl (SqL.of (by rw[zah nLb,zah nLb];exact s12 _ _ eL)),λl hl=>?_}
  have nlb:l≠b:=λz=>by rw[z,zac] at hl;cases hl
  refine{_,O,b,C,db,_,O,by rw[zah (Ne.symm nlb)];exact zac,cl.cls,cl.chips,by show 2<1000;decide,?_}
  refine{_,O,_,O,b,C,db,_,O,zac,cl.cls,cl.floating,by show 3<1000;decide,?_}
  have hl2:H2 l=none:=by rw[zah nlb,zah nlb] at hl;exact hl
  refine zgN (λY=>Y b=some (.ins C db [("bits",.int (m:Int)),("rows",.ref R),("chips",.ref l),("floating",.int (fl:Int))])/\Y l=some (.lst (chL D))/\∀a o,a≠b->H2 a=some o->Y a=some o) {zac,by rw[zah nlb,zah nlb];exact zac,λa o ha ea=>by rw[zah ha,zah ha,zah (zaj ea hl2),zah ha,zah ha];exact ea} ?_
  rintro Y ⟨yb,yl,fr⟩
  have nRb:R≠b:=λz=>by have:=hR.e;rw[z,eb] at this;cases this
  have yR:=fr _ _ nRb (s12 _ _ hR.e)
  refine{_,O,R,O,{_,SqT.of yR},?_}
  refine zjE (K:=K) (xs:=refs ws) (λj ys U H1=>∃v0,U=[v0]/\ys=(lcs (ws.take j)).map (λ(n:Nat)=>(n:Int))/\ys.length<=j/\H1=Y) (by rw[zaC];have:=hR.ln;omega) {none,O,O,Xad _,O} ?_ ?_ ?_
  .rintro j ys U H1 hj ⟨v0,rfl,_,hl',rfl⟩
   exact{SqT.of yR,hl'}
  .rintro j y ys U H1 hy ⟨v0,rfl,hys,hl',rfl⟩
   obtain⟨z,hz,rfl⟩:=zcD hy
   have hm:=XaF hz
   obtain⟨lt,et,hlt⟩:=(hR.r z hm).1
   have yt:=fr _ _ (λe=>by rw[e,eb] at et;cases et) (s12 _ _ et)
   rw[zkB hz]
   cases hl:z.2.l with
   | none =>
    rw[hl] at hlt
    obtain rfl:lt=.non:=hlt
    exact{_,O,z.1,_,_,_,O,O,SqT.of yt,O,_,O,iteF {_,O,by rw[hys];simp,by omega,O}}
   | some o =>
    obtain⟨c,a,b'⟩:=o
    rw[hl] at hlt
    obtain⟨u,rfl,eu⟩:=hlt
    have yu:=fr _ _ (λe=>by rw[e,eb] at eu;cases eu) (s12 _ _ eu)
    refine{_,O,z.1,_,_,_,O,O,SqT.of yt,O,_,O,iteT {_,O,z.1,_,_,_,O,O,SqT.of yt,O,u,_,_,_,O,O,SqT.of yu,O,(c:Int),O,_,O,by rw[hys];simp,by rw[Xah];simp;omega,O}}
  .rintro ys U H1 ⟨v0,rfl,hys,hl',rfl⟩ d hd
   rw[zaC,Xbk (Xad _)] at hys
   have hln:=hR.ln
   have hdl:=zlw ys
   rw[zaC] at hl'
   have ndb:d≠b:=λe=>by rw[e,yb] at hd;cases hd
   refine{d,dd ys,O,zac,by omega,λla ns hla pm _=>?_}
   have hns:∀n∈ns,∃c:Nat,n=(c:Int)/\c∈lcs ws:=λn hn=>by
    have:=mem_dd.mp (pm.mem_iff.mp hn)
    rw[hys,Xa1] at this
    obtain⟨c,hc,e⟩:=this
    exact⟨c,e.symm,hc⟩
   obtain⟨keys,hk⟩:∃keys:List Nat,ns=keys.map λ(n:Nat)=>(n:Int):=⟨ns.map Int.toNat,by
    rw[List.map_map]
    conv=>lhs;rw[<- List.map_id ns]
    refine List.map_congr_left λn hn=>?_
    obtain⟨c,e,_⟩:=hns n hn
    show n=((n.toNat:Nat):Int)
    omega⟩
   have knd:keys.Nodup:=by
    have h1:ns.Nodup:=pm.nodup_iff.mpr (zkX ys)
    rw[hk] at h1
    exact(List.pairwise_map.mp h1).imp λh e=>h (by rw[e])
   have kmem:∀c,c∈keys↔c∈lcs ws:=λc=>by
    constructor
    .intro hc
     obtain⟨c',e,hc'⟩:=hns (c:Int) (by rw[hk];exact List.mem_map_of_mem hc)
     rw[show c=c' by omega];exact hc'
    .intro hc
     have:(c:Int)∈ns:=pm.mem_iff.mpr (mem_dd.mpr (by rw[hys];exact List.mem_map_of_mem hc))
     rw[hk,Xa1] at this
     obtain⟨c',hc',e⟩:=this
     rw[show c=c' by omega];exact hc'
   have nlab:la≠b:=λe=>by rw[e,zah (Ne.symm ndb),yb] at hla;cases hla
   have nlad:la≠d:=λe=>by rw[e,zac] at hla;cases hla
   have yla:H1 la=none:=by rw[zah nlad] at hla;exact hla
   have eV:ns.map V.int=vN keys:=by rw[hk,List.map_map];rfl
   rw[eV]
   refine{_,O,b,C,db,_,O,by rw[zah (Ne.symm nlab),zah (Ne.symm ndb)];exact yb,cl.cls,cl.latches,by show 4<1000;decide,?_}
   refine zgN (λZ=>Z b=some (.ins C db [("bits",.int (m:Int)),("rows",.ref R),("chips",.ref l),("floating",.int (fl:Int)),("latches",.ref la)])/\Z la=some (.lst (vN keys))/\∀a o,a≠b->H1 a=some o->Z a=some o) {zac,by rw[zah nlab];exact zac,λa o ha ea=>by rw[zah ha,zah (zaj ea yla),zah (zaj ea hd)];exact ea} ?_
   rintro Z ⟨zb,zla,frZ⟩ wd hwd
   have nwb:wd≠b:=λe=>by rw[e,zb] at hwd;cases hwd
   refine{_,O,b,C,db,_,O,by rw[zah (Ne.symm nwb)];exact zb,cl.cls,cl.watches,by show 5<1000;decide,?_}
   refine{_,O,b,C,db,_,O,zac,cl.cls,cl.next_watch,by show 6<1000;decide,?_}
   have frV:∀a o,a≠b->Z a=some o->upd (upd (upd Z wd (.dK [])) b (.ins C db [("bits",.int (m:Int)),("rows",.ref R),("chips",.ref l),("floating",.int (fl:Int)),("latches",.ref la),("watches",.ref wd)])) b (.ins C db (bdF ⟨b,m,R,ws,l,la,keys,wd,0⟩ fl)) a=some o:=λa o ha ea=>by rw[zah ha,zah ha,zah (zaj ea hwd)];exact ea
   have frH:∀a o,a≠b->H a=some o->upd (upd (upd Z wd (.dK [])) b (.ins C db [("bits",.int (m:Int)),("rows",.ref R),("chips",.ref l),("floating",.int (fl:Int)),("latches",.ref la),("watches",.ref wd)])) b (.ins C db (bdF ⟨b,m,R,ws,l,la,keys,wd,0⟩ fl)) a=some o:=λa o ha ea=>frV a o ha (frZ a o ha (fr a o ha (s12 _ _ ea)))
   have hlaH:H la=none:=by
    cases h:H la with
    | none=>rfl
    | some o=>have:=fr la o nlab (s12 _ _ h);rw[yla] at this;cases this
   have hwdH:H wd=none:=by
    cases h:H wd with
    | none=>rfl
    | some o=>have:=frZ wd o nwb (fr wd o nwb (s12 _ _ h));rw[hwd] at this;cases this
   refine k {b,m,R,ws,l,la,keys,wd,0} _ O O O O (s12.free hl2) hlaH hwdH O (by rw[zah nwb,zah nwb];exact zac) {⟨db,zac⟩,h1,h2,{frH _ _ nRb hR.e,λz hz=>?_,hR.f,hR.nc,hR.ln},frV _ _ nlb (frZ _ _ nlb yl),frV _ _ nlab zla,λz hz c a b' e=>(kmem c).mpr (lcs_mem.mpr ⟨z,hz,a,b',e⟩),λc hc=>?_,knd,hf,λi hi=>{λe=>?_,λe=>?_}} frH
   .obtain⟨⟨lt,et,hlt⟩,ok⟩:=hR.r z hz
    refine{{lt,frH _ _ (λe=>by rw[e,eb] at et;cases et) et,?_},ok}
    cases hl:z.2.l with
    | none=>rw[hl] at hlt;exact hlt
    | some o =>
     rw[hl] at hlt
     obtain⟨u,eu,hu⟩:=hlt
     exact{u,eu,frH _ _ (λe=>by rw[e,eb] at hu;cases hu) hu}
   .obtain⟨z,hz,a,b',e⟩:=lcs_mem.mp ((kmem c).mp hc)
    exact(hR.f z hz).2.2 c a b' e
   .have:=s12 _ _ (S.o i hi).ls
    rw[<- show l=D.p i from e,hl2] at this
    cases this
   .have hls:=(S.o i hi).ls
    have:=fr _ _ (λe=>by rw[e,eb] at hls;cases hls) (s12 _ _ hls)
    rw[<- show la=D.p i from e,yla] at this
    cases this
abbrev zbi:Stmt:=zaO (top 78) 0
def zdn:FnScope ["self","mask","want","kind"] ["self","mask","want","kind"] (zai zbi):=sck O O O (by decide +kernel)
inductive spWtI(K:W.Frag)(C:Addr)(vs:List V)(H:Hp)(Q:VK)(u3_:XK):Prop
 | mk (a dx:Addr) (m u:Nat) (k:Str)(_:vs=[.ref a,.int (m:Int),.int (u:Int),.str k])(_:H a=some (.ins C dx []))(_:∀(h:Addr) (H':Hp),H h=none->WaAt C H' {a,h,m,u,k,[]}->(∀b o,b≠a->H b=some o->H' b=some o)->Q .non H')
def zdu{f:Addr}{C:Addr}{fd:FuncData}(F:Fun K "__init__" "Watch.__init__" zbi f fd)(T:Blt mg)(cl:ClsWt K C):FnOk P w K mg base CX0 1 f fd ["self","mask","want","kind"] (spWtI K C):=by
 refine F.ok zdn (by walk_at"l") (λcdv A outer s H vs Q E hr h=>?_)
 .obtain⟨a,dx,m,u,kd,rfl,ha,k⟩:=h
  refine⟨_,(zad (zbp (pv 0) (pv 1) O)
   (zad (zbp (pv 0) (pv 2) O)
   (zad (zbp (pv 0) (pv 3) O)
   (zag (zbp (pv 0) (zax zab) O))))),?rd⟩
  refine{_,O,_,O,a,C,dx,_,O,ha,cl.cls,cl.mask,by show 0<1000;decide,?_}
  refine{_,O,_,O,a,C,dx,_,O,zac,cl.cls,cl.want,by show 1<1000;decide,?_}
  refine{_,O,_,O,a,C,dx,_,O,zac,cl.cls,cl.kind,by show 2<1000;decide,?_}
  refine{by show 0<=sizeLine;decide,λh hh=>?_}
  have nha:h≠a:=λz=>by rw[z,zac] at hh;cases hh
  refine{_,O,a,C,dx,_,O,by rw[zah (Ne.symm nha)];exact zac,cl.cls,cl.heard,by show 3<1000;decide,?_}
  rw[zah nha,zah nha,zah nha] at hh
  refine k h _ hh {⟨dx,zac⟩,{[],by rw[zah nha];exact zac,O,λi t d e=>by cases e},Nat.zero_le _} λb o hb e=>?_
  rw[zah hb,zah (zaj e hh),zah hb,zah hb,zah hb]
  exact e
abbrev zbC:Stmt:=zaO (top 79) 5
def zdV:FnScope ["self","number"] ["self","number"] (zai zbC):=sck O O O (by decide +kernel)
inductive spInBitsI(C:Addr)(vs:List V)(H:Hp)(Q:VK)(u3_:XK):Prop
 | mk (B:Bd) (D:Dt) (f:Nat) (x:Int)(_:vs=[.ref B.b,.int x])(_:BdAt C B D H f)(_:Q (.bl (decide (0<=x/\x<((2 ^ B.bits:Nat):Int)))) H)
def zd6{f:Addr}{C:Addr}{fd:FuncData}(F:Fun K "in_bits" "Board.in_bits" zbC f fd)(T:Blt mg)(cl:ClsBd K C)(Gis_number:Cal P w K mg base 1 "is_number" ["thing","last"] spIsNum)(Gsize_of:Cal P w K mg base 1 "size_of" ["bits"] spSize):FnOk P w K mg base CX0 2 f fd ["self","number"] (spInBitsI C):=by
 refine F.ok zdV (by walk_at"l") (λcdv A outer s H vs Q E hr h=>?_)
 .obtain⟨B,D,f0,x,rfl,hB,k⟩:=h
  refine{_,(zag (zal (pe_c Gis_number (zaa (pv 1) (zaa (zat zg0 (pe_c Gsize_of (zaa (zcg (pv 0) O) zab)) zaf) zab))))),?rd}
  obtain⟨db,e⟩:=hB.e
  refine{_,O,_,O,B.b,C,db,_,_,O,e,cl.cls,cl.bits,O,B.bits,O,hB.b2,_,_,O,O,_,_,O,?_}
  have e2:((2 ^ B.bits:Nat):Int)=(2:Int) ^ B.bits:=by norm_cast
  rw[show decide (0<=x/\x<((2 ^ B.bits:Nat):Int))=decide (0<=x/\x<=(2:Int) ^ B.bits-1) from decide_eq_decide.mpr {λz=>{by omega,by omega},λz=>by omega}] at k
  exact k
abbrev zb1:Stmt:=zaO (top 79) 12
def scBoard_watch:FnScope ["self","mask","want","kind","number"] ["self","mask","want","kind"] (zai zb1):=sck O O O (by decide +kernel)
def Bd.next(B:Bd):Bd:={B with nw:=B.nw+1}
inductive spWatchC(C CW:Addr)(vs:List V)(H:Hp)(Q:VK)(u3_:XK):Prop
 | mk (B:Bd) (D:Dt) (f m u:Nat) (k:Str) (wl:List (Nat×Wa))(_:vs=[.ref B.b,.int (m:Int),.int (u:Int),.str k])(_:BW C CW B D H f wl)(_:m<2 ^ B.bits)(_:u<2 ^ B.bits)(_:(k="read" \/ k="write" \/ k="both"))(_:(∀z∈wl,z.1<B.nw))(_:wl.length<900)(_:(∀i,i<D.m->H (D.p i)≠none))(_:∀(x h:Addr) (H':Hp),H x=none->H h=none->BW C CW B.next D H' f (wl++[(B.nw,{x,h,m,u,k,[]})])->(∀a o,a≠B.b->a≠B.W->H a=some o->H' a=some o)->Q (.int (B.nw:Int)) H')
def BdAt.nxt{C:Addr}{B:Bd}{D:Dt}{Y Z:Hp}{f:Nat}{db:Addr}(h:BdAt C B D Y f)(e:Z B.b=some (.ins C db (bdF B.next f)))(k:∀a o,a≠B.b->(∀m,o≠.dK m)->Y a=some o->Z a=some o):BdAt C B.next D Z f:=by
 obtain⟨d0,e0⟩:=h.e
 have ne:∀{a:Addr} {o:HO},Y a=some o->(∀x y z,o≠.ins x y z)->(∀m,o≠.dK m)->Z a=some o:=λ{a o} ea ho hd=>k _ _ (λz=>by rw[z,e0] at ea;exact ho _ _ _ (Option.some.inj ea).symm) hd ea
 refine{⟨db,e⟩,h.b1,h.b2,{ne h.rf.e (λ_ _ _ z=>by cases z) (λ_ z=>by cases z),(λz hz=>?_),h.rf.f,h.rf.nc,h.rf.ln},ne h.ch (λ_ _ _ z=>by cases z) (λ_ z=>by cases z),ne h.la (λ_ _ _ z=>by cases z) (λ_ z=>by cases z),h.kl,h.ks,h.kn,h.f0,h.nl}
 obtain⟨⟨lt,et,hlt⟩,ok⟩:=h.rf.r z hz
 refine{{lt,ne et (λ_ _ _ z=>by cases z) (λ_ z=>by cases z),?_},ok}
 cases hl:z.2.l with
 | none=>rw[hl] at hlt;exact hlt
 | some o =>
  rw[hl] at hlt
  obtain⟨u,eu,hu⟩:=hlt
  exact{u,eu,ne hu (λ_ _ _ z=>by cases z) (λ_ z=>by cases z)}
def zlD{wl:List (Nat×Wa)}{n:Nat}(h:∀z∈wl,z.1<n):valV (wl.map λz=>((Sum.inl (z.1:Int):Key),V.ref z.2.x)) (Sum.inl (n:Int))=none:=by
 unfold valV
 rw[List.find?_eq_none.mpr,Option.map_none]
 intro q hq
 obtain⟨z,hz,rfl⟩:=Xa1.mp hq
 have:=h z hz
 rw[decide_eq_true_eq]
 intro e
 have:=Sum.inl.inj e
 omega
def ze0{f:Addr}{C CW:Addr}{fd:FuncData}{dV:Value}(F:FunD K "watch" "Board.watch" zb1 dV f fd)(T:Blt mg)(N:Nums mg)(cl:ClsBd K C)(M_in_bits:Mth P w K mg base 2 C "in_bits" [] (λvs _=>vs) (spInBitsI C))(GMWatch_3:Mak P w K mg base 1 "Watch" CW [] (dP []) (spWtI K CW)):FnOk P w K mg base CX0 4 f fd ["self","mask","want","kind"] (spWatchC C CW):=by
 refine F.ok scBoard_watch (by walk_at"l") (λcdv A outer s H vs Q E hr h=>?_)
 .obtain⟨B,D,f0,m,u,kd,wl,rfl,hW,hm,hu,hk,hlt,hl,hpi,k⟩:=h
  refine⟨_,(zad (zaA (PW.pt (zbD (zaG (zaF (zfq 2 ⟨O,O,O,O,O⟩ (hrm hr) (pv 0) (zaa (pv 1) zab)))) (zbD (zaG (zaF (zfq 2 ⟨O,O,O,O,O⟩ (hrm hr) (pv 0) (zaa (pv 2) zab)))) (zbd (zas (zeV (K:=K) O) (pv 3) (zaX (zaa (zb8 O N.READ) (zaa (zb8 O N.WRITE) (zaa (zb8 O N.BOTH) zab)))) (by with_unfolding_all rfl)))))) (zag zaI) zan)
   (zad (ps_L 4 scBoard_watch.nd (zcg (pv 0) O))
   (zad (zlV (zhU hr) (zcg (pv 0) O) (pv 4) (zcI GMWatch_3 (hrm hr) O (zaa (pv 1) (zaa (pv 2) (zaa (pv 3) zab)))) O)
   (zad (ziO (pv 0) zaf in_add)
   (zag (zal (pv 4))))))),?rd⟩
  obtain⟨db,e⟩:=hW.b.e
  refine{_,O,B.b,C,db,_,_,_,O,e,M_in_bits,O,_,O,B,D,f0,(m:Int),O,hW.b,_,O,?_}
  rw[Xal (show 0<=(m:Int)/\(m:Int)<((2 ^ B.bits:Nat):Int) by omega)]
  refine iteF ?_
  refine{_,O,B.b,C,db,_,_,_,O,e,M_in_bits,O,_,O,B,D,f0,(u:Int),O,hW.b,_,O,?_}
  rw[Xal (show 0<=(u:Int)/\(u:Int)<((2 ^ B.bits:Nat):Int) by omega)]
  refine iteF ?_
  refine{_,O,by show 3<=sizeLine;decide,λt ht=>{t,_,O,.inr (SqT.of zac),O,O,_,O,?_}}
  have hi:inV (V.str kd) [.str "read",.str "write",.str "both"]=true:=by rcases hk with rfl|rfl|rfl<;>rfl
  refine ite2 (λh1=>?_) (λ_=>zar ?_)
  .exfalso
   rw[if_pos O,hi] at h1
   cases h1
  try dsimp only
  have s1:=zae (o:=.tup [.str "read",.str "write",.str "both"]) ht
  have W1:=hW.same s1
  refine{_,O,B.b,C,db,_,_,O,s1 _ _ e,cl.cls,cl.next_watch,O,?_}
  refine zgN (λY=>BW C CW B D Y f0 wl/\Same H Y/\Y B.b=some (.ins C db (bdF B f0))) {W1,s1,s1 _ _ e} λY ⟨W1,s1,e1⟩=>?_
  refine{_,O,_,O,_,O,λx dx hx hdx _=>{x,dx,m,u,kd,O,zac,λh Z hh hz fr=>{O,?_}}}
  have sB:Same Y (upd (upd Y dx (.own x)) x (.ins CW dx [])):=zba hx hdx
  have hY:Y h=none:=sB.free hh
  have s2:Same Y Z:=λb o q=>fr _ _ (zaj q hx) (sB _ _ q)
  have e2:=s2 _ _ e1
  have W2:=W1.same s2
  refine{_,O,B.b,C,db,_,_,O,e2,cl.cls,cl.watches,O,_,O,B.W,_,O,DPut.k (k:=Sum.inl (B.nw:Int)) W2.w.d (by rw[Xaf,sizeLine_eq];omega),?_}
  rw[zkg _ (zlD hlt)]
  have nbW:B.b≠B.W:=λz=>by have:=W2.w.d;rw[<- z,e2] at this;cases this
  refine{_,O,B.b,C,db,_,_,O,by rw[zah nbW];exact e2,cl.cls,cl.next_watch,O,_,_,O,O,db,_,by rw[zah nbW];exact e2,by show 7<1000;decide,?_}
  have kz:∀a o,NoBd o->(∀m,o≠.dK m)->Z a=some o->upd (upd Z B.W (.dK ((wl.map λz=>(Sum.inl (z.1:Int),V.ref z.2.x))++[(Sum.inl (B.nw:Int),V.ref x)]))) B.b (.ins C db (putF "next_watch" (.int ((B.nw:Int)+1)) (bdF B f0))) a=some o:=λa o ho hd q=>by
   rw[zah (λg=>by rw[g,e2] at q;exact ho.2.2 _ _ _ _ (Option.some.inj q).symm),zah (λg=>by rw[g,W2.w.d] at q;exact hd _ (Option.some.inj q).symm)];exact q
  have kl:∀a l,Z a=some (.lst l)->upd (upd Z B.W (.dK ((wl.map λz=>(Sum.inl (z.1:Int),V.ref z.2.x))++[(Sum.inl (B.nw:Int),V.ref x)]))) B.b (.ins C db (putF "next_watch" (.int ((B.nw:Int)+1)) (bdF B f0))) a=some (.lst l):=λa l q=>by
   rw[zah (λg=>by rw[g,e2] at q;cases q),zah (λg=>by rw[g,W2.w.d] at q;cases q)];exact q
  refine{_,O,k x h _ (s1.free hx) (s1.free hY) {W2.b.nxt zac λa o h1 h2 q=>?_,{?_,λz hz1=>?_,?_,?_,?_},λz hz1=>?_} λa o h1 h2 q=>?_}
  .rw[zah h1,zah (λg=>by rw[g,W2.w.d] at q;exact h2 _ (Option.some.inj q).symm)];exact q
  .show upd (upd Z B.W _) B.b _ B.W=_
   rw[zah (Ne.symm nbW),zac,Xaw]
   rfl
  .rcases XaH.mp hz1 with q|q
   .exact(W2.w.o z q).keep kz λo r=>by obtain⟨ts,el,_⟩:=(W2.w.o z q).l;rw[kl _ _ el,<- el];exact r
   .rw[Xae.mp q]
    exact hz.keep kz λo r=>by obtain⟨ts,el,_⟩:=hz.l;rw[kl _ _ el,<- el];exact r
  .rw[Xaw,XaT]
   refine{W2.w.i,by simp,λa ha b hb=>?_}
   obtain⟨z,q,rfl⟩:=Xa1.mp ha
   rw[Xae.mp hb]
   obtain⟨ts,el,_⟩:=(W1.w.o z q).l
   exact zaj el hY
  .rw[Xaw,XaT]
   refine{W2.w.x,by simp,λa ha b hb=>?_}
   obtain⟨z,q,rfl⟩:=Xa1.mp ha
   rw[Xae.mp hb]
   obtain⟨dz,ez⟩:=(W1.w.o z q).e
   exact zaj ez hx
  .rw[Xah];show wl.length+1<=1000;omega
  .rcases XaH.mp hz1 with q|q
   .exact hW.nh z q
   .rw[Xae.mp q]
    exact{Ne.symm (zaj W1.b.ch hY),Ne.symm (zaj W1.b.la hY),λi hi g=>hpi i hi (s1.free (g▸hY))}
  .rw[zah h1,zah h2];exact s2 _ _ (s1 _ _ q)
abbrev zaZ:Stmt:=zaO (top 79) 13
def zco:FnScope ["self","number"] ["self","number"] (zai zaZ):=sck O O O (by decide +kernel)
def WNo(wl:List (Nat×Wa))(n:Nat)(z:Nat×Wa):Prop:=valV (wl.map λz=>((Sum.inl (z.1:Int):Key),V.ref z.2.x)) (Sum.inl (n:Int))=some (.ref z.2.x)/\z∈wl
inductive spChkWt(C CW:Addr)(vs:List V)(H:Hp)(Q:VK)(u3_:XK):Prop
 | mk (B:Bd) (D:Dt) (f n:Nat) (wl:List (Nat×Wa)) (z:Nat×Wa)(_:vs=[.ref B.b,.int (n:Int)])(_:BW C CW B D H f wl)(_:WNo wl n z)(_:Q .non H)
def zcv{f:Addr}{C CW:Addr}{fd:FuncData}(F:Fun K "check_watch" "Board.check_watch" zaZ f fd)(T:Blt mg)(cl:ClsBd K C):FnOk P w K mg base CX0 1 f fd ["self","number"] (spChkWt C CW):=by
 refine F.ok zco (by walk_at"l") (λcdv A outer s H vs Q E hr h=>?_)
 .obtain⟨B,D,f0,n,wl,z,rfl,hW,hn,k⟩:=h
  refine{_,(zag (zaA (zcE (ziZ (zhU hr) (pv 1) (zcg (pv 0) O))) (zag zaI) zan)),?rd}
  obtain⟨db,e⟩:=hW.b.e
  refine{_,O,_,O,B.b,C,db,_,_,O,e,cl.cls,cl.watches,O,B.W,_,O,DGet.k (k:=Sum.inl (n:Int)) hW.w.d,_,O,?_}
  rw[hn.1]
  exact iteF (zar k)
abbrev zcu:Stmt:=zaO (top 79) 14
def scBoard_news:FnScope ["self","number","watch","heard"] ["self","number"] (zai zcu):=sck O O O (by decide +kernel)
def wsN(x h:Addr)(wl:List (Nat×Wa)):List (Nat×Wa):=wl.map λy=>if y.2.x=x then(y.1,{y.2 with h:=h,hs:=[]}) else y
def zif{α:Type}(g:Nat->Addr->α)(x h:Addr)(wl:List (Nat×Wa)):(wsN x h wl).map (λz=>g z.1 z.2.x)=wl.map λz=>g z.1 z.2.x:=by
 unfold wsN
 rw[List.map_map]
 refine List.map_congr_left λz _=>?_
 show g (if z.2.x=x then(z.1,{z.2 with h:=h,hs:=[]}) else z).1 (if z.2.x=x then(z.1,{z.2 with h:=h,hs:=[]}) else z).2.x=_
 split<;>rfl
def BdAt.kw{C:Addr}{B:Bd}{D:Dt}{Y Z:Hp}{f:Nat}(h:BdAt C B D Y f)(k:∀a o,(∀c d y,o≠.ins c d (waF y))->Y a=some o->Z a=some o):BdAt C B D Z f:=by
 obtain⟨db,e⟩:=h.e
 refine{{db,k _ _ (λc d y g=>wa_bd (HO.ins.inj g).2.2.symm) e},h.b1,h.b2,{k _ _ (λ_ _ _ z=>by cases z) h.rf.e,(λz hz=>?_),h.rf.f,h.rf.nc,h.rf.ln},k _ _ (λ_ _ _ z=>by cases z) h.ch,k _ _ (λ_ _ _ z=>by cases z) h.la,h.kl,h.ks,h.kn,h.f0,h.nl}
 obtain⟨⟨lt,et,hlt⟩,ok⟩:=h.rf.r z hz
 refine{{lt,k _ _ (λ_ _ _ z=>by cases z) et,?_},ok}
 cases hl:z.2.l with
 | none=>rw[hl] at hlt;exact hlt
 | some o =>
  rw[hl] at hlt
  obtain⟨u,eu,hu⟩:=hlt
  exact{u,eu,k _ _ (λ_ _ _ z=>by cases z) hu}
inductive spNews(C CW:Addr)(vs:List V)(H:Hp)(Q:VK)(u3_:XK):Prop
 | mk (B:Bd) (D:Dt) (f n:Nat) (wl:List (Nat×Wa)) (z:Nat×Wa)(_:vs=[.ref B.b,.int (n:Int)])(_:BW C CW B D H f wl)(_:WNo wl n z)(_:(∀i,i<D.m->H (D.p i)≠none))(_:∀(h:Addr) (H':Hp),H h=none->BW C CW B D H' f (wsN z.2.x h wl)->(∀a o,a≠z.2.x->H a=some o->H' a=some o)->Q (.ref z.2.h) H')
def zfB{f:Addr}{C CW:Addr}{fd:FuncData}(F:Fun K "news" "Board.news" zcu f fd)(T:Blt mg)(cl:ClsBd K C)(cw:ClsWt K CW)(M_check_watch:Mth P w K mg base 1 C "check_watch" [] (λvs _=>vs) (spChkWt C CW)):FnOk P w K mg base CX0 2 f fd ["self","number"] (spNews C CW):=by
 refine F.ok scBoard_news (by walk_at"l") (λcdv A outer s H vs Q E hr h=>?_)
 .obtain⟨B,D,f0,n,wl,z,rfl,hW,hn,hpi,k⟩:=h
  refine⟨_,(zad (zaJ (zfq 1 ⟨O,O,O,O,O⟩ (hrm hr) (pv 0) (zaa (pv 1) zab)))
   (zad (ps_L 2 scBoard_news.nd (zl9 (zhU hr) (zcg (pv 0) O) (pv 1) (λ_ _=>O)))
   (zad (ps_L 3 scBoard_news.nd (zcg (pv 2) O))
   (zad (zbp (pv 2) (zax zab) O)
   (zag (zal (pv 3))))))),?rd⟩
  obtain⟨db,e⟩:=hW.b.e
  have wz:=hW.w.o z hn.2
  obtain⟨dx,ez⟩:=wz.e
  refine{_,O,B.b,C,db,_,_,_,O,e,M_check_watch,O,_,O,B,D,f0,n,wl,z,O,hW,hn,?_}
  refine{_,O,B.b,C,db,_,_,O,e,cl.cls,cl.watches,O,_,O,B.W,_,O,hn.1▸DGet.k (k:=Sum.inl (n:Int)) hW.w.d,?_}
  refine{_,O,z.2.x,CW,dx,_,_,O,ez,cw.cls,cw.heard,O,?_}
  refine{by show 0<=sizeLine;decide,λh hh=>?_}
  have s1:=zae (o:=.lst []) hh
  have ex1:=s1 _ _ ez
  refine{_,O,z.2.x,CW,dx,_,O,ex1,cw.cls,cw.heard,by show 4<1000;decide,?_}
  have nhx:h≠z.2.x:=λg=>by rw[g,ez] at hh;cases hh
  have kz:∀a o,a≠z.2.x->H a=some o->upd (upd H h (.lst [])) z.2.x (.ins CW dx (putF "heard" (.ref h) (waF z.2))) a=some o:=λa o ha q=>by rw[zah ha];exact s1 _ _ q
  have nx:∀(a:Addr) (o:HO),(∀c d y,o≠.ins c d (waF y))->H a=some o->a≠z.2.x:=λa o ho q g=>by rw[g,ez] at q;exact ho _ _ _ (Option.some.inj q).symm
  have uniq:∀y∈wl,y.2.x=z.2.x->y=z:=λy hy g=>by
   obtain⟨i,hi,ei⟩:=List.mem_iff_getElem.mp hy
   obtain⟨j,hj,ej⟩:=List.mem_iff_getElem.mp hn.2
   have:=(List.getElem_inj (xs:=wl.map λz=>z.2.x) (h₀:=by rw[Xaf];exact hi) (h₁:=by rw[Xaf];exact hj) hW.w.x).mp (by rw[XbC,XbC,ei,ej];exact g)
   subst this
   rw[<- ei,<- ej]
  refine{_,O,k h _ hh {?_,{?_,λy hy=>?_,?_,?_,?_},λy hy=>?_} kz}
  .refine hW.b.kw λa o ho q=>kz a o (nx a o ho q) q
  .rw[zif (λn x=>((Sum.inl (n:Int):Key),V.ref x))]
   exact kz _ _ (nx _ _ (λc d y g=>by cases g) hW.w.d) hW.w.d
  .unfold wsN at hy
   obtain⟨y0,h0,rfl⟩:=Xa1.mp hy
   by_cases g:y0.2.x=z.2.x
   .rw[if_pos g,uniq y0 h0 g]
    exact{⟨dx,zac⟩,{[],by show upd _ _ _ h=_;rw[zah nhx];exact zac,O,λi t d e=>by cases e},Nat.zero_le _}
   .rw[if_neg g]
    obtain⟨dy,ey⟩:=(hW.w.o y0 h0).e
    obtain⟨ts,el,et,ed⟩:=(hW.w.o y0 h0).l
    exact{{dy,kz _ _ g ey},{ts,kz _ _ (nx _ _ (λc d y g=>by cases g) el) el,et,λi t d h1 h2=>kz _ _ (nx _ _ (λc d y g=>by cases g) (ed i t d h1 h2)) (ed i t d h1 h2)},(hW.w.o y0 h0).n}
  .unfold wsN
   rw[List.map_map]
   refine Xbp.mpr λi j hi hj hij=>?_
   rw[Xaf] at hi hj
   rw[XbC,XbC]
   have ni:=Xbp.mp hW.w.i i j (by rw[Xaf];exact hi) (by rw[Xaf];exact hj) hij
   have nx':=Xbp.mp hW.w.x i j (by rw[Xaf];exact hi) (by rw[Xaf];exact hj) hij
   rw[XbC,XbC] at ni nx'
   have fr:∀y∈wl,y.2.h≠h:=λy hy=>by obtain⟨ts,el,_⟩:=(hW.w.o y hy).l;exact zaj el hh
   show(if wl[i].2.x=z.2.x then(wl[i].1,{wl[i].2 with h:=h,hs:=[]}) else wl[i]).2.h≠(if wl[j].2.x=z.2.x then(wl[j].1,{wl[j].2 with h:=h,hs:=[]}) else wl[j]).2.h
   by_cases g:wl[i].2.x=z.2.x
   .rw[if_pos g,if_neg (λg'=>nx' (g.trans g'.symm))]
    exact Ne.symm (fr _ (Xa6 hj))
   .rw[if_neg g]
    by_cases g':wl[j].2.x=z.2.x
    .rw[if_pos g']
     exact fr _ (Xa6 hi)
    .rw[if_neg g']
     exact ni
  .have:=zif (λ_ x=>x) z.2.x h wl
   rw[this]
   exact hW.w.x
  .unfold wsN;rw[Xaf];exact hW.w.m
  .unfold wsN at hy
   obtain⟨y0,h0,rfl⟩:=Xa1.mp hy
   by_cases g:y0.2.x=z.2.x
   .rw[if_pos g]
    exact{Ne.symm (zaj hW.b.ch hh),Ne.symm (zaj hW.b.la hh),λi hi q=>hpi i hi (q▸hh)}
   .rw[if_neg g]
    exact hW.nh y0 h0
abbrev zbQ:Stmt:=zaO (top 79) 8
def zel:FnScope ["self"] ["self"] (zai zbQ):=sck O O O (by decide +kernel)
inductive spFloats(C:Addr)(vs:List V)(H:Hp)(Q:VK)(u3_:XK):Prop
 | mk (B:Bd) (D:Dt) (f:Nat)(_:vs=[.ref B.b])(_:BdAt C B D H f)(_:Q (.int (f:Int)) H)
def zep{f:Addr}{C:Addr}{fd:FuncData}(F:Fun K "floats" "Board.floats" zbQ f fd)(T:Blt mg)(cl:ClsBd K C):FnOk P w K mg base CX0 1 f fd ["self"] (spFloats C):=by
 refine F.ok zel (by walk_at"l") (λcdv A outer s H vs Q E hr h=>?_)
 .obtain⟨B,D,f0,rfl,hB,k⟩:=h
  refine{_,(zag (zal (zcg (pv 0) O))),?rd}
  obtain⟨db,e⟩:=hB.e
  exact{_,O,B.b,C,db,_,_,O,e,cl.cls,cl.floating,O,k}
abbrev zbn:Stmt:=zaO (top 79) 11
def zdr:FnScope ["self"] ["self"] (zai zbn):=sck O O O (by decide +kernel)
inductive spChipsOf(C:Addr)(vs:List V)(H:Hp)(Q:VK)(u3_:XK):Prop
 | mk (B:Bd) (D:Dt) (f:Nat)(_:vs=[.ref B.b])(_:BdAt C B D H f)(_:∀l,H l=none->Q (.ref l) (upd H l (.lst (chL D))))
def zdz{f:Addr}{C:Addr}{fd:FuncData}(F:Fun K "chips_of" "Board.chips_of" zbn f fd)(T:Blt mg)(cl:ClsBd K C):FnOk P w K mg base CX0 1 f fd ["self"] (spChipsOf C):=by
 refine F.ok zdr (by walk_at"l") (λcdv A outer s H vs Q E hr h=>?_)
 .obtain⟨B,D,f0,rfl,hB,k⟩:=h
  refine{_,(zag (zal (zaH zbw (by rfl) T.list zcz (zaa (zcg (pv 0) O) zab)))),?rd}
  obtain⟨db,e⟩:=hB.e
  exact{_,O,B.b,C,db,_,_,O,e,cl.cls,cl.chips,O,B.L,_,O,.inl (SqL.of hB.ch),k}
abbrev zb0:Stmt:=top 19
def zeM:FnScope ["text","figures"] ["text","figures"] (zai zb0):=sck O O O (by decide +kernel)
def iteD1{b:Bool}{A B:Prop}(e:b=true)(h:A):if b=true then A else B:=by rw[if_pos e];exact h
def iteD0{b:Bool}{A B:Prop}(e:b=false)(h:B):if b=true then A else B:=by subst e;exact iteF h
structure Asc(x:Str):Prop where
 a:x.cps.all (· < 128)=true
 l:x.length<=640
def TEN:Str := "0123456789"
def inF(F:Str)(c:Nat):Bool:=!(Builtin.Str.occurrences F {#[c]} 0 F.length 1).isEmpty
def figB(F x:Str):Bool:=!(decide (x=""))&&x.cps.toList.all (inF F)
inductive spFigs(vs:List V)(H:Hp)(Q:VK)(u3_:XK):Prop
 | mk (x F:Str)(_:vs=[.str x,.str F])(_:(F=SIX\/F=TEN))(_:Asc x)(_:∀H',Same H H'->Q (.bl (figB F x)) H')
def zeZ{f:Addr}{fd:FuncData}(F:FunN K "are_figures" zb0 f fd)(T:Blt mg):FnOk P w K mg base CX0 1 f fd ["text","figures"] spFigs:=by
 refine F.ok zeM (by walk_at"l") (λcdv A outer s H vs Q E hr h=>?_)
 .obtain⟨x,F,rfl,hF,hx,k⟩:=h
  refine'{_,(zag (zal (zbq (zbE zft (pv 0) zaD (zaw _)) (zbv (zak (zcT O) (by rfl) T.all zhe (zaa ?c1 zab)))))),?rd}
  (case c1=>exact(zc9 (Nc:=["sign","figures"]) [none,some 1] O (zaN (by rfl)) (pi_str (pv 0)) (λ_ _ _ _ _=>(pg_L 0 (show(["sign","figures"]:List Str).Nodup by decide +kernel))) (λ_ _ _ _ _=>zcG) (λ_ _ _ _ _=>(zbE op_inS (pv 0) (pv 1) (by with_unfolding_all rfl)))))
  by_cases h0:x=""
  .subst h0
   refine{_,O,O,_,O,iteD0 (by rw[Xal O];rfl) ?_}
   exact k _ (Same.refl _)
  have n0:decide (V.str x=V.str "")=false:=Xam λz=>h0 (V.str.inj z)
  refine{_,O,O,_,O,iteD1 (by rw[n0];rfl) ?_}
  refine{_,O,x,O,hx.a,?_}
  refine zkZ (λi ys U Y=>(∃v0:Option V,U=[v0,some (.str F)])/\ys=((x.cps.toList.take i).map (inF F)).map V.bl/\Y=H) (Xak hx.l (by decide)) {⟨none,O⟩,O,O} ?_ ?_ ?_
  .rintro i ys U Y ⟨_,rfl,_⟩
   rw[Xaf,Xaf,XaZ];omega
  .rintro i c ys U Y hc ⟨⟨v0,rfl⟩,rfl,rfl⟩
   refine{_,O,_,O,_,_,O,O,{_,O},?_,O}
   have e:x.cps.toList[i]?=some c:=by rw[Xbd];exact hc
   rw[List.take_succ,e,Xaw,Xaw];rfl
  rintro ys U Y ⟨_,rfl,rfl⟩ D hD
  refine{D,x.cps.toList.map (inF F),O,SqL.of (by rw[show x.cps.size=x.cps.toList.length from Array.length_toList.symm,List.take_length];exact zac),?_}
  have e:(x.cps.toList.map (inF F)).all id=figB F x:=by
   unfold figB
   rw[Xam h0,List.all_map];rfl
  rw[e]
  exact k _ (zae hD)
abbrev zcl:Stmt:=top 20
def zfj:FnScope ["text","fewest","most"] ["text","fewest","most"] (zai zcl):=sck O O O (by decide +kernel)
def oV:Option Int->V
 | none=>.non
 | some n=>.int n
def zmq:∀c:Fin 128,inF SIX c.val=hexC c.val:=by decide +kernel
def zmp:∀c:Fin 128,inF TEN c.val=(decide (48<=c.val)&&decide (c.val<=57)):=by decide +kernel
def Asc.lt{x:Str}(h:Asc x){c:Nat}(hc:c∈x.cps.toList):c<128:=by
 have:=h.a
 rw[<- Array.all_toList] at this
 exact XaA (XaN.mp this c hc)
def zir{x:Str}(h:x.cps.toList=[]):x="" := by
 cases x with
 | mk a=>cases a with|mk l=>cases h;rfl
def zgI{F x:Str}(h:figB F x=true):x.cps.toList≠[]:=λz=>by
 unfold figB at h
 rw[zir z,Xal O] at h
 cases h
def zkR{x:Str}(hx:Asc x)(h:figB SIX x=true):∀c∈x.cps.toList,hexC c=true:=λc hc=>by
 have h2:=XaN.mp (XaI.mp h).2 c hc
 rw[<- h2]
 exact(zmq {c,hx.lt hc}).symm
def zkQ{x:Str}(hx:Asc x)(h:figB TEN x=true):NumText.AllDigits x.cps.toList:=λc hc=>by
 have h2:=XaN.mp (XaI.mp h).2 c hc
 rw[show inF TEN c=_ from zmp {c,hx.lt hc}] at h2
 have:=XaI.mp h2
 exact{XaA this.1,XaA this.2}
def sixO(x:Str)(a b:Nat):Option Int:=if(decide (a<=x.length)&&decide (x.length<=b)&&figB SIX x)=true then some ((hexV x.cps.toList:Nat):Int) else none
inductive spSix53(vs:List V)(H:Hp)(Q:VK)(u3_:XK):Prop
 | mk (x:Str) (a b:Nat)(_:vs=[.str x,.int (a:Int),.int (b:Int)])(_:Asc x)(_:∀H',Same H H'->Q (oV (sixO x a b)) H')
def zfu{f:Addr}{fd:FuncData}(F:FunN K "sixteen_of" zcl f fd)(T:Blt mg)(N:Nums mg)(Gare_figures:Cal P w K mg base 1 "are_figures" ["text","figures"] spFigs):FnOk P w K mg base CX0 2 f fd ["text","fewest","most"] spSix53:=by
 refine F.ok zfj (by walk_at"l") (λcdv A outer s H vs Q E hr h=>?_)
 .obtain⟨x,a,b,rfl,hx,k⟩:=h
  refine⟨_,(zad (zaA (PW.pt (zbD (zaG (zgX zgp zgp (pv 1) (zak zdl (by rfl) T.len PySem.boot_len (zaa (pv 0) zab)) (pv 2))) (zbd (zaG (zaF (pe_c Gare_figures (zaa (pv 0) (zaa (zb8 O N.SIXTEEN) zab)))))))) (zag (zal zcH)) zan)
   (zag (zal (zaH zfX (by rfl) T.int zeh (zaa (pv 0) (zaa zaf zab)))))),?rd⟩
  have hz:x.length<=sizeLine:=Xak hx.l (by decide)
  refine{_,O,_,O,_,O,hz,_,_,O,O,_,O,?_}
  by_cases d1:a<=x.length
  .rw[show decide ((a:Int)<=(x.length:Int))=true from Xal (by omega)]
   refine iteT {_,O,_,_,O,O,_,O,?_}
   by_cases d2:x.length<=b
   .rw[show decide ((x.length:Int)<=(b:Int))=true from Xal (by omega)]
    refine iteF {_,O,x,SIX,O,.inl O,hx,λH1 s1=>{_,O,?_}}
    cases hf:figB SIX x with
    | true =>
     refine iteF (zar {_,O,x,_,O,zmi (zkR hx hf) (zgI hf) (by rw[Array.length_toList];exact hx.l),?_})
     have:=k H1 s1
     unfold sixO at this
     rw[hf,Xal d1,Xal d2] at this
     exact this
    | false =>
     refine iteT ?_
     have:=k H1 s1
     unfold sixO at this
     rw[hf,Xbo] at this
     exact this
   .rw[show decide ((x.length:Int)<=(b:Int))=false from Xam (by omega)]
    refine iteT ?_
    have:=k H (Same.refl _)
    unfold sixO at this
    rw[Xam d2,Xbo,Xba] at this
    exact this
  .rw[show decide ((a:Int)<=(x.length:Int))=false from Xam (by omega)]
   refine iteF {_,O,iteT ?_}
   have:=k H (Same.refl _)
   unfold sixO at this
   rw[Xam d1,Xba,Xba] at this
   exact this
abbrev zgc:Stmt:=top 21
def zkb:FnScope ["text","most"] ["text","most"] (zai zgc):=sck O O O (by decide +kernel)
def led0(x:Str):Bool:=decide (x.cps.toList.head?=some 48)&&!(decide (x="0"))
def tenO(x:Str)(m:Nat):Option Int:=if(decide (x.length<=m)&&figB TEN x&&!(led0 x))=true then some ((NumText.digitsVal x.cps.toList:Nat):Int) else none
inductive spTen53(vs:List V)(H:Hp)(Q:VK)(u3_:XK):Prop
 | mk (x:Str) (m:Nat)(_:vs=[.str x,.int (m:Int)])(_:Asc x)(_:∀H',Same H H'->Q (oV (tenO x m)) H')
def zku{f:Addr}{fd:FuncData}(F:FunN K "ten_of" zgc f fd)(T:Blt mg)(N:Nums mg)(Gare_figures:Cal P w K mg base 1 "are_figures" ["text","figures"] spFigs):FnOk P w K mg base CX0 2 f fd ["text","most"] spTen53:=by
 refine F.ok zkb (by walk_at"l") (λcdv A outer s H vs Q E hr h=>?_)
 .obtain⟨x,m,rfl,hx,k⟩:=h
  refine⟨_,(zad (zaA (PW.pt (zbD (zas zhz (zak zdl (by rfl) T.len PySem.boot_len (zaa (pv 0) zab)) (pv 1) (zaw _)) (zbD (zaG (zaF (pe_c Gare_figures (zaa (pv 0) (zaa (zb8 O N.TEN) zab))))) (zbd (PW.pt (zld (zas zbS (pe_x zlo (pv 0) zaf) zaD (zaw _)) (ziL (zas zft (pv 0) zaD (zaw _))))))))) (zag (zal zcH)) zan)
   (zag (zal (zaH zk1 (by rfl) T.int zeh (zaa (pv 0) zab))))),?rd⟩
  have hz:x.length<=sizeLine:=Xak hx.l (by decide)
  by_cases d1:x.length<=m
  case neg =>
   have:=k H (Same.refl _)
   unfold tenO at this
   rw[Xam d1,Xba,Xba] at this
   refine{_,O,_,O,hz,?_}
   refine{_,O,_,_,O,O,?_}
   rw[show decide ((x.length:Int)>(m:Int))=true from Xal (by omega)]
   exact{_,O,iteT this}
  refine{_,O,_,O,hz,?_}
  refine{_,O,_,_,O,O,?_}
  rw[show decide ((x.length:Int)>(m:Int))=false from Xam (by omega)]
  refine{_,O,iteF ?_}
  refine{_,O,x,TEN,O,.inr O,hx,λH1 s1=>{_,O,?_}}
  have kk:=k H1 s1
  unfold tenO at kk
  rw[Xal d1,Bool.true_and] at kk
  cases hf:figB TEN x with
  | false =>
   rw[hf] at kk
   exact iteT kk
  | true =>
   rw[hf,Bool.true_and] at kk
   refine iteF ?_
   obtain⟨c,l,ec⟩:∃c l,x.cps.toList=c::l:=by
    cases e:x.cps.toList with
    | nil=>exact absurd e (zgI hf)
    | cons c l=>exact⟨c,l,O⟩
   have rest:led0 x=false->(∃(x_:Str) (n:Int),[V.str x]=[.str x_]/\intText? x_=some n/\x_.length<=640/\Q (.int n) H1):=λe=>by
    rw[e] at kk
    exact{x,_,O,intText_digits (zkQ hx hf) (zgI hf) (Xak hx.l (by decide)),hx.l,kk}
   refine{_,O,x,0,c,O,O,hz,zaQ (j:=0) (by rw[ec];rfl),O,_,O,?_}
   by_cases h2:c=48
   .subst h2
    refine ite2 (λ_=>?_) (λg=>absurd (Xal O) g)
    refine{_,O,O,_,O,?_}
    by_cases h3:x="0"
    .subst h3
     exact ite2 (λg=>absurd g (by decide)) (λ_=>zar {_,O,rest (by decide)})
    .refine ite2 (λ_=>?_) (λg=>absurd (by rw[Xam (λz=>h3 (V.str.inj z))];rfl) g)
     unfold led0 at kk
     rw[ec,Xam h3] at kk
     exact kk
   .refine ite2 (λg=>absurd g ?_) (λ_=>zar {_,O,rest ?_})
    .rw[Xam (λz=>h2 (by have:=V.str.inj z;have:=congrArg (λs:Str=>s.cps.toList) this;exact(List.cons.inj this).1))];exact Xaj
    .unfold led0
     rw[ec,Xam (show¬ (c::l).head?=some 48 fromλz=>h2 (Option.some.inj z))];rfl
abbrev zcU:Stmt:=top 22
def scsigned_of:FnScope ["text","most","number"] ["text","most"] (zai zcU):=sck O O O (by decide +kernel)
def neg0(x:Str):Bool:=0+("-" : Str).length<=x.length&&Builtin.Str.subAt x ("-" : Str) 0
def sgnO(x:Str)(m:Nat):Option Int:=if neg0 x=true then(match tenO (Txt.slice x (some 1) none) m with|none=>none|some n=>if n=0 then none else some (-n)) else tenO x m
def Asc.slice{x:Str}(h:Asc x)(l u:Option Int):Asc (Txt.slice x l u):=by
 unfold Txt.slice
 split
 .exact h
 .refine{?_,?_}
  .rw[<- Array.all_toList]
   refine XaN.mpr λc hc=>?_
   have hc:c∈(Builtin.Str.strSliceIndices l u 1 x.length).filterMap (x.cps[·]?):=hc
   obtain⟨i,_,e⟩:=XbD.mp hc
   exact Xal (h.lt (Xbq.mpr (Array.mem_of_getElem? e)))
  .show((Builtin.Str.strSliceIndices l u 1 x.length).filterMap (x.cps[·]?)).toArray.size<=_
   rw[Xaq]
   exact Xak (List.length_filterMap_le _ _) (Xak (PySem.sliceIndices_le l u x.length) h.l)
inductive spSigned53(vs:List V)(H:Hp)(Q:VK)(u3_:XK):Prop
 | mk (x:Str) (m:Nat)(_:vs=[.str x,.int (m:Int)])(_:Asc x)(_:∀H',Same H H'->Q (oV (sgnO x m)) H')
def zgs{f:Addr}{fd:FuncData}(F:FunN K "signed_of" zcU f fd)(T:Blt mg)(Gten_of:Cal P w K mg base 2 "ten_of" ["text","most"] spTen53):FnOk P w K mg base CX0 3 f fd ["text","most"] spSigned53:=by
 refine F.ok scsigned_of (by walk_at"l") (λcdv A outer s H vs Q E hr h=>?_)
 .obtain⟨x,m,rfl,hx,k⟩:=h
  refine⟨_,(zad (zaA (zaG (zeQ (zda PySem.F.plainAttrs_str PySem.F.slot_str_startswith PySem.F.type_str_startswith zje (pv 0) (zaa zaD zab)) (λ_=>O))) (zag (zal (pe_c Gten_of (zaa (pv 0) (zaa (pv 1) zab))))) zan)
   (zad (ps_L 2 scsigned_of.nd (pe_c Gten_of (zaa (zb7 sl_str (pv 0) (zc7 zaf) zc8) (zaa (pv 1) zab))))
   (zag (zal (zeT (PW.pt (zbD (zcE (zcJ (pv 2))) (zbd (zas zbS (pv 2) zaf (zaw _))))) zcH (zl6 zil (pv 2))))))),?rd⟩
  have hz:x.length<=sizeLine:=Xak hx.l (by decide)
  unfold sgnO at k
  refine{_,O,O,x,"-",O,O,neg0 x,O,?_}
  cases hn:neg0 x with
  | false =>
   rw[hn] at k
   exact{_,O,_,O,x,m,O,hx,k}
  | true =>
   rw[hn] at k
   refine iteF (zar ?_)
   refine{_,O,_,O,x,O,hz,_,O,_,m,O,hx.slice _ _,λH1 s1=>?_}
   have kk:=k H1 s1
   cases ht:tenO (Txt.slice x (some 1) none) m with
   | none =>
    rw[ht] at kk
    exact{_,O,_,O,iteT kk}
   | some n =>
    rw[ht] at kk
    refine{_,O,_,O,iteF {_,O,O,_,O,?_}}
    by_cases h0:n=0
    .subst h0
     exact iteT kk
    .dsimp only at kk
     rw[if_neg h0] at kk
     refine ite2 (λg=>absurd (V.int.inj (XaA g)) h0) (λ_=>{_,O,_,O,kk})
abbrev zcV:Stmt:=top 47
def zgh:FnScope ["part","word"] ["part","word"] (zai zcV):=sck O O O (by decide +kernel)
def oN(part x:Str):Option Int:=if part="address" then sixO x 1 4 else if part="word" then sixO x 1 2 else if part="step" then sgnO x 4 else tenO x 4
inductive spNum53(vs:List V)(H:Hp)(Q:VK)(u3_:XK):Prop
 | mk (q x:Str)(_:vs=[.str q,.str x])(_:Asc x)(_:∀H',Same H H'->Q (oV (oN q x)) H')
def zgt{f:Addr}{fd:FuncData}(F:FunN K "number_of" zcV f fd)(T:Blt mg)(N:Nums mg)(Gsixteen_of:Cal P w K mg base 2 "sixteen_of" ["text","fewest","most"] spSix53)(Gsigned_of:Cal P w K mg base 3 "signed_of" ["text","most"] spSigned53)(Gten_of:Cal P w K mg base 2 "ten_of" ["text","most"] spTen53):FnOk P w K mg base CX0 4 f fd ["part","word"] spNum53:=by
 refine F.ok zgh (by walk_at"l") (λcdv A outer s H vs Q E hr h=>?_)
 .obtain⟨q,x,rfl,hx,k⟩:=h
  refine⟨_,(zad (zaA (zas zbS (pv 0) zaD (zaw _)) (zag (zal (pe_c Gsixteen_of (zaa (pv 1) (zaa zaf (zaa (za2 O N.MOST_FIGURES) zab)))))) zan)
   (zad (zaA (zas zbS (pv 0) zaD (zaw _)) (zag (zal (pe_c Gsixteen_of (zaa (pv 1) (zaa zaf (zaa zaf zab)))))) zan)
   (zad (zaA (zas zbS (pv 0) zaD (zaw _)) (zag (zal (pe_c Gsigned_of (zaa (pv 1) (zaa (za2 O N.MOST_FIGURES) zab))))) zan)
   (zag (zal (pe_c Gten_of (zaa (pv 1) (zaa (za2 O N.MOST_FIGURES) zab)))))))),?rd⟩
  have nq:∀{z:Str},q≠z->decide (V.str q=V.str z)≠true:=λ{z} h g=>h (V.str.inj (XaA g))
  unfold oN at k
  by_cases h1:q="address"
  .subst h1
   exact{_,O,O,_,O,iteT {_,O,x,1,4,O,hx,k}}
  rw[if_neg h1] at k
  refine{_,O,O,_,O,ite2 (λg=>absurd g (nq h1)) (λ_=>zar ?_)}
  by_cases h2:q="word"
  .subst h2
   exact{_,O,O,_,O,iteT {_,O,x,1,2,O,hx,k}}
  rw[if_neg h2] at k
  refine{_,O,O,_,O,ite2 (λg=>absurd g (nq h2)) (λ_=>zar ?_)}
  by_cases h3:q="step"
  .subst h3
   exact{_,O,O,_,O,iteT {_,O,x,4,O,hx,k}}
  rw[if_neg h3] at k
  refine{_,O,O,_,O,ite2 (λg=>absurd g (nq h3)) (λ_=>zar ?_)}
  exact{_,O,x,4,O,hx,k}
abbrev zbb:Stmt:=zaO (top 13) 0
def zc0:FnScope ["self","number","row"] ["self","number","row"] (zai zbb):=sck O O O (by decide +kernel)
def brF(n:Int)(r:Str):List (Str×V):=[("number",.int n),("row",.str r)]
inductive spBrI(C:Addr)(vs:List V)(H:Hp)(Q:VK)(u3_:XK):Prop
 | mk (e:Addr) (n:Int) (r:Str)(_:vs=[.ref e,.int n,.str r])(_:n.natAbs<2 ^ 100)(_:r.length<=100)(_:H e=some (.ext (xFr e C none)))(_:∀(dx:Addr) (H':Hp),H dx=none->dx≠e->H' e=some (.ext (xFr e C (some dx)))->H' dx=some (.ext (xDc dx (brF n r)))->(∀b o,b≠e->H b=some o->H' b=some o)->Q .non H')
def zdb{f C fI:Addr}{fd:FuncData}(F:Fun K "__init__" "BadRow.__init__" zbb f fd)(T:Blt mg)(GSBusError:SupI K mg "BusError")(c:ExcI K C fI)(t1:W.takerIn K C "number"=some none)(t2:W.takerIn K C "row"=some none):FnOk P w K mg base CX0 1 f fd ["self","number","row"] (spBrI C):=by
 refine F.ok zc0 (by walk_at"l") (λcdv A outer s H vs Q E hr h=>?_)
 .obtain⟨e,n,r,rfl,hn,hl,ee,k⟩:=h
  refine⟨_,(zad (zaJ (zl5 GSBusError O (zaa (pv 0) (zaa (pe_fsN {_,_,_,O} (zlf zaD (pj_int (pv 1) (zlf zaD (pj_txt (pv 2) pj_nil))))) zab))))
   (zad (zki O (pv 0) (pv 1) O)
   (zag (zkh (pv 0) (pv 2) O)))),?rd⟩
  refine{_,O,_,O,(by decide:(4:Nat)<=1000),_,O,n,O,Xao hn (XaW (by decide) (by decide)),_,O,(by decide:(16:Nat)<=1000),_,O,r,O,Xak hl (by decide),λz=>?_}
  refine{e,C,fI,none,_,O,ee,c,?_}
  refine{_,O,_,O,e,C,fI,O,ee,c,t1,λdx hdx ne=>?_}
  have e1:upd (upd H e (.ext (xFr e C (some dx)))) dx (.ext (xDc dx [("number",.int n)])) e=some (.ext (xFr e C (some dx))):=by rw[zah (Ne.symm ne)];exact zac
  refine{_,O,_,O,e,C,fI,dx,_,O,e1,ne,zac,(by decide:(1:Nat)<100),c,t2,?_}
  rw[zlE]
  refine k dx _ hdx ne (by rw[zah (Ne.symm ne)];exact zac) zac λb o hb eb=>?_
  rw[zah (zaj eb hdx),zah hb]
  exact eb
def zjs{f:Addr}(h:W.isFn K (.ref f)=true):∃oI,K.lookup f=some oI/\oI.cls=.type "function" := by
 have h:W.typeIn K (.ref f)=some (.type "function"):=beq_iff_eq.mp h
 unfold W.typeIn at h
 obtain⟨oI,h1,h2⟩:=XaD.mp h
 exact⟨oI,h1,h2⟩
abbrev zeK:Stmt:=top 48
def scdeed_of:FnScope ["row","letter","words","parts","numbers"] ["row"] (zai zeK):=sck O O O (by decide +kernel)
def prtK:Nat->List Key
 | 0=>[.inr "r",.inl 1]
 | 1=>[.inr "q",.inl 1]
 | 2=>[.inr "w",.inl 2]
 | 3=>[.inr "t",.inl 1]
 | 4=>[.inr "m",.inl 3]
 | _=>[.inr "m",.inl 5]
def prtN:Nat->List Str
 | 0=>["address"]
 | 1=>["address"]
 | 2=>["address","word"]
 | 3=>["count"]
 | 4=>["address","address","count"]
 | _=>["address","address","count","step","step"]
def kvsP(q:Nat->Addr):List (List Key×V):=[(prtK 0,.ref (q 0)),(prtK 1,.ref (q 1)),(prtK 2,.ref (q 2)),(prtK 3,.ref (q 3)),(prtK 4,.ref (q 4)),(prtK 5,.ref (q 5))]
def prtI(k:List Key):Option Nat:=if prtK 0=k then some 0 else if prtK 1=k then some 1 else if prtK 2=k then some 2 else if prtK 3=k then some 3 else if prtK 4=k then some 4 else if prtK 5=k then some 5 else none
def zlY(q:Nat->Addr)(k:List Key):valV (kvsP q) k=(prtI k).map λi=>V.ref (q i):=by
 unfold kvsP prtI
 by_cases h0:prtK 0=k
 .rw[za5 h0,if_pos h0];rfl
 rw[za6 h0,if_neg h0]
 by_cases h1:prtK 1=k
 .rw[za5 h1,if_pos h1];rfl
 rw[za6 h1,if_neg h1]
 by_cases h2:prtK 2=k
 .rw[za5 h2,if_pos h2];rfl
 rw[za6 h2,if_neg h2]
 by_cases h3:prtK 3=k
 .rw[za5 h3,if_pos h3];rfl
 rw[za6 h3,if_neg h3]
 by_cases h4:prtK 4=k
 .rw[za5 h4,if_pos h4];rfl
 rw[za6 h4,if_neg h4]
 by_cases h5:prtK 5=k
 .rw[za5 h5,if_pos h5];rfl
 rw[za6 h5,if_neg h5]
 rfl
def zlZ{a:Str}{n i:Nat}(h:prtI [.inr a,.inl (n:Int)]=some i):i<6/\(prtN i).length=n:=by
 have g:∀j,prtK j=[.inr a,.inl (n:Int)]->(prtN j).length=n:=λj e=>by
  match j,e with
  | 0,e|1,e|2,e|3,e|4,e|j+5,e =>
   have:=Sum.inl.inj (List.cons.inj (List.cons.inj e).2).1
   show _=n
   unfold prtN
   simp only[Xar,XaU]
   omega
 unfold prtI at h
 repeat' split at h
 all_goals first|cases h|skip
 all_goals exact{by decide,g _ (by assumption)}
def zcy(row:Str):Bool:=match Txt.split row " " with
 | []=>false
 | a::ws=>match prtI [.inr a,.inl (ws.length:Int)] with
  | none=>false
  | some i=>((prtN i).zip ws).all λz=>(oN z.1 z.2).isSome
structure RowOk(row:Str):Prop where
 l:row.length<=100
 p:∀z∈Txt.split row " ",Asc z
 n:(Txt.split row " ").length<=100
def zmx(o:Option Int):ze4 (oV o)=true:=by cases o<;>rfl
def in_oV:∀l:List (Option Int),inV .non (l.map oV)=!(l.all Option.isSome)
 | []=>rfl
 | o::l=>by
  have ih:=in_oV l
  unfold inV at ih ⊢
  rw[XaR,List.any_cons,ih,List.all_cons]
  cases o<;>rfl
inductive spDeed53(vs:List V)(H:Hp)(Q:VK)(u3_:XK):Prop
 | mk (row:Str)(_:vs=[.str row])(_:RowOk row)(_:∀(t:Addr) (H':Hp),Same H H'->Q (if zcy row=true then .ref t else .non) H')
def zi9{f a_P:Addr}{q_P:Nat->Addr}{fd:FuncData}(F:FunN K "deed_of" zeK f fd)(T:Blt mg)(Gnumber_of:Cal P w K mg base 4 "number_of" ["part","word"] spNum53)(GPARTS:mg "PARTS"=some (.ref a_P))(DPARTS:DicT P w K a_P (kvsP q_P))(hq:∀i,i<6->∀H,SqT K H (q_P i) ((prtN i).map V.str)):FnOk P w K mg base CX0 5 f fd ["row"] spDeed53:=by
 refine F.ok scdeed_of (by walk_at"l") (λcdv A outer s H vs Q E hr h=>?_)
 .obtain⟨row,rfl,hw,k⟩:=h
  refine⟨_,(zad (zcF (zda PySem.F.plainAttrs_str PySem.F.slot_str_split PySem.F.type_str_split zg3 (pv 0) (zaa zaD zab)) (zl2 O (zao (pg_L 1 scdeed_of.nd) (zkl (pg_L 2 scdeed_of.nd) zaS))))
   (zad (ps_L 3 scdeed_of.nd (zkn (zhU hr) O GPARTS DPARTS (zaX (zaa (pv 1) (zaa (zak zam (by rfl) T.len PySem.boot_len (zaa (pv 2) zab)) zab))) ⟨O,O,O,O⟩))
   (zad (zaA (zcE (zcJ (pv 3))) (zag (zal zcH)) zan)
   (zad (zb6 (i:=4) (Nc:=["part","word"]) [none,none] scdeed_of.nd O O O (zaN (by rfl)) (zl1 O O T.zip (zaa (pv 3) (zaa (pv 2) zab))) (λ_ _ _ _ _=>(ziU 2 (K:=K) O O (zao (pg_L 0 (show(["part","word"]:List Str).Nodup by decide +kernel)) (zao (pg_L 1 (show(["part","word"]:List Str).Nodup by decide +kernel)) zaS)))) (λ_ _ _ _ _=>zcG) (λ_ _ _ _ _=>(pe_c Gnumber_of (zaa (pv 0) (zaa (pv 1) zab)))))
   (zag (zal (zeT (zas (zhy (K:=K) O) zcH (pv 4) (by with_unfolding_all rfl)) zcH (zaX (zaa (pv 1) (zaa (pv 4) zab)))))))))),?rd⟩
  obtain⟨a,ws,es⟩:∃a ws,Txt.split row " "=a::ws:=by
   cases e:Txt.split row " " with
   | nil=>exact absurd e (zcf _ _)
   | cons a ws=>exact⟨a,ws,O⟩
  have hn:=hw.n
  have hp:=hw.p
  have ed:zcy row=(match prtI [.inr a,.inl (ws.length:Int)] with
   | none=>false
   | some i=>((prtN i).zip ws).all λz=>(oN z.1 z.2).isSome):=by unfold zcy;rw[es]
  rw[es] at hn hp
  refine{_,O,O,row," ",O,O,O,Xak (Nat.add_le_add_right hw.l 2) (by decide),λD hD=>?_}
  rw[es]
  have sD:=zae (o:=.lst ((a::ws).map V.str)) hD
  refine{D,.str a,ws.map V.str,O,SqL.of zac,by rw[Xaf];rw[Xar] at hn;omega,λD2 hD2=>?_}
  have s2:=sD.trans (zae (o:=.lst (ws.map V.str)) hD2)
  have e2:upd (upd H D (.lst ((a::ws).map V.str))) D2 (.lst (ws.map V.str)) D2=some (.lst (ws.map V.str)):=zac
  generalize upd (upd H D (.lst ((a::ws).map V.str))) D2 (.lst (ws.map V.str))=X at *
  refine{_,_,O,_,_,O,O,?_}
  try dsimp(proj:=false) only[zay,List.set]
  refine{_,O,_,O,D2,_,O,.inl (SqL.of e2),by show 2<=sizeLine;decide,λb hb=>{[.inr a,.inl (ws.length:Int)],b,O,?_,?_}}
  .rw[Xaf];exact zac
  rw[zlY]
  have s3:=s2.trans (zae (o:=.tup [.str a,.int ((ws.map V.str).length:Int)]) hb)
  have e3:=zae (o:=.tup [.str a,.int ((ws.map V.str).length:Int)]) hb _ _ e2
  generalize upd X b (.tup [.str a,.int ((ws.map V.str).length:Int)])=Y at *
  cases hi:prtI [.inr a,.inl (ws.length:Int)] with
  | none =>
   rw[ed,hi] at k
   exact{_,O,_,O,iteT (k 0 Y s3)}
  | some i =>
   obtain⟨h6,hl⟩:=zlZ hi
   have ed2:zcy row=((prtN i).zip ws).all λz=>(oN z.1 z.2).isSome:=by rw[ed,hi]
   refine{_,O,_,O,iteF (zar ?_)}
   refine{_,O,_,O,true,false,q_P i,D2,_,_,O,hq i h6 _,SqL.of e3,?_}
   have hll:((prtN i).map V.str).length=(ws.map V.str).length:=by rw[Xaf,Xaf,hl]
   have hws:ws.length<=100:=by rw[Xar] at hn;omega
   refine zjD (xs:=(prtN i).map V.str) (ys:=ws.map V.str) (λj rs U Z=>∃v1 v2,U=[v1,v2]/\rs=((((prtN i).zip ws).take j).map λz=>oN z.1 z.2).map oV/\Same Y Z) hll (by rw[hll,Xaf];exact Xak hws (by decide)) {none,none,O,O,λ_ _ z=>z} ?_ ?_ ?_
   .rintro j rs U Z hj ⟨v1,v2,rfl,rfl,sZ⟩
    refine{hq i h6 _,SqL.of (sZ _ _ e3),?_}
    rw[Xaf,Xaf,XaZ];omega
   .rintro j x y U9 rs U Z hx hy hU ⟨v1,v2,rfl,rfl,sZ⟩
    refine zfN ?_
    rw[Xax] at hx hy
    obtain⟨n1,hn1,rfl⟩:=XaD.mp hx
    obtain⟨w1,hw1,rfl⟩:=XaD.mp hy
    refine{_,O,_,O,n1,w1,O,hp w1 (Xau _ (XaF hw1)),λW sW=>?_}
    refine{_,_,O,?_,sZ.trans ((zae hU).trans sW)}
    rw[List.take_succ,(show((prtN i).zip ws)[j]?=some (n1,w1) from List.getElem?_zip_eq_some.mpr ⟨hn1,hw1⟩),Xaw,Xaw];rfl
   .rintro rs U Z ⟨v1,v2,rfl,rfl,sZ⟩ R hR
    have et:(((prtN i).zip ws).take ((prtN i).map V.str).length)=(prtN i).zip ws:=by
     rw[Xbk]
     rw[List.length_zip,Xaf];omega
    rw[et]
    have eR:upd Z R (.lst ((((prtN i).zip ws).map λz=>oN z.1 z.2).map oV)) R=some (.lst ((((prtN i).zip ws).map λz=>oN z.1 z.2).map oV)):=zac
    refine{_,O,R,_,O,.inl (SqL.of eR),O,XaN.mpr λv hv=>?_,_,O,?_}
    .obtain⟨o,_,rfl⟩:=Xa1.mp hv
     exact zmx o
    rw[in_oV,List.all_map]
    have sR:=s3.trans (sZ.trans (zae (o:=.lst ((((prtN i).zip ws).map λz=>oN z.1 z.2).map oV)) hR))
    show if(!(((prtN i).zip ws).all λz=>(oN z.1 z.2).isSome))=true then _ else _
    cases hd:((prtN i).zip ws).all λz=>(oN z.1 z.2).isSome with
    | false =>
     have:=k 0 _ sR
     rw[ed2,hd] at this
     refine iteT ?_
     exact this
    | true =>
     refine iteF {_,O,_,O,by show 2<=sizeLine;decide,λt ht=>?_}
     have:=k t _ (sR.trans (zae (o:=.tup [.str a,.ref R]) ht))
     rw[ed2,hd] at this
     exact this
def zlX{P:Program}{w:World}{K:W.Frag}{a k0 k1 k2 k3 k4 k5:Addr}{q:Nat->Addr}{ep:Nat}{g0 g1 g2 g3 g4 g5:Int}(ns:(a==sysModules)=false)
  (l:K.lookup a=some {.type "dict",none,.dict #[{g0,.ref k0,.ref (q 0)},{g1,.ref k1,.ref (q 1)},{g2,.ref k2,.ref (q 2)},{g3,.ref k3,.ref (q 3)},{g4,.ref k4,.ref (q 4)},{g5,.ref k5,.ref (q 5)}] ep,#[]})
  {d0:Option Addr} {n0:Nat} {s0:Array (Option Value)} {t0 u0:Tok} (l0:K.lookup k0=some {.type "tuple",d0,.seq #[.str "r" t0,.int 1 u0] n0,s0}) (e0:reduceHash (Builtin.Tuple.tupleHashOf [hashStr w "r",hashInt 1])=g0)
  {d1:Option Addr} {n1:Nat} {s1:Array (Option Value)} {t1 u1:Tok} (l1:K.lookup k1=some {.type "tuple",d1,.seq #[.str "q" t1,.int 1 u1] n1,s1}) (e1:reduceHash (Builtin.Tuple.tupleHashOf [hashStr w "q",hashInt 1])=g1)
  {d2:Option Addr} {n2:Nat} {s2:Array (Option Value)} {t2 u2:Tok} (l2:K.lookup k2=some {.type "tuple",d2,.seq #[.str "w" t2,.int 2 u2] n2,s2}) (e2:reduceHash (Builtin.Tuple.tupleHashOf [hashStr w "w",hashInt 2])=g2)
  {d3:Option Addr} {n3:Nat} {s3:Array (Option Value)} {t3 u3:Tok} (l3:K.lookup k3=some {.type "tuple",d3,.seq #[.str "t" t3,.int 1 u3] n3,s3}) (e3:reduceHash (Builtin.Tuple.tupleHashOf [hashStr w "t",hashInt 1])=g3)
  {d4:Option Addr} {n4:Nat} {s4:Array (Option Value)} {t4 u4:Tok} (l4:K.lookup k4=some {.type "tuple",d4,.seq #[.str "m" t4,.int 3 u4] n4,s4}) (e4:reduceHash (Builtin.Tuple.tupleHashOf [hashStr w "m",hashInt 3])=g4)
  {d5:Option Addr} {n5:Nat} {s5:Array (Option Value)} {t5 u5:Tok} (l5:K.lookup k5=some {.type "tuple",d5,.seq #[.str "m" t5,.int 5 u5] n5,s5}) (e5:reduceHash (Builtin.Tuple.tupleHashOf [hashStr w "m",hashInt 5])=g5):DicT P w K a (kvsP q):=by
 refine{ns,[(prtK 0,k0,.ref (q 0)),(prtK 1,k1,.ref (q 1)),(prtK 2,k2,.ref (q 2)),(prtK 3,k3,.ref (q 3)),(prtK 4,k4,.ref (q 4)),(prtK 5,k5,.ref (q 5))],?_,λh hIn=>{_,_,_,hIn a _ l,⟨O,O,O⟩,O,?_,?_,?_}}
 .exact .cons ⟨O,O⟩ (.cons ⟨O,O⟩ (.cons ⟨O,O⟩ (.cons ⟨O,O⟩ (.cons ⟨O,O⟩ (.cons ⟨O,O⟩ .nil)))))
 .subst e0 e1 e2 e3 e4 e5
  rfl
 .intro x hx
  rcases Xan.mp hx with rfl|hx
  .exact{_,_,_,hIn k0 _ l0,O,O,.cons (zaU _ _ _ _) (.cons (zaV _ _ _ _) .nil)}
  rcases Xan.mp hx with rfl|hx
  .exact{_,_,_,hIn k1 _ l1,O,O,.cons (zaU _ _ _ _) (.cons (zaV _ _ _ _) .nil)}
  rcases Xan.mp hx with rfl|hx
  .exact{_,_,_,hIn k2 _ l2,O,O,.cons (zaU _ _ _ _) (.cons (zaV _ _ _ _) .nil)}
  rcases Xan.mp hx with rfl|hx
  .exact{_,_,_,hIn k3 _ l3,O,O,.cons (zaU _ _ _ _) (.cons (zaV _ _ _ _) .nil)}
  rcases Xan.mp hx with rfl|hx
  .exact{_,_,_,hIn k4 _ l4,O,O,.cons (zaU _ _ _ _) (.cons (zaV _ _ _ _) .nil)}
  rw[Xae.mp hx];exact{_,_,_,hIn k5 _ l5,O,O,.cons (zaU _ _ _ _) (.cons (zaV _ _ _ _) .nil)}
 .show([prtK 0,prtK 1,prtK 2,prtK 3,prtK 4,prtK 5]:List (List Key)).Nodup
  decide +kernel
def prtQ(q0 q1 q2 q3 q4 q5:Addr):Nat->Addr
 | 0=>q0
 | 1=>q1
 | 2=>q2
 | 3=>q3
 | 4=>q4
 | _=>q5
def prts_q{K:W.Frag}{q0 q1 q2 q3 q4 q5:Addr}
  {d0:Option Addr} {n0:Nat} {s0:Array (Option Value)} {t00:Tok} (l0:K.lookup q0=some {.type "tuple",d0,.seq #[.str "address" t00] n0,s0})
  {d1:Option Addr} {n1:Nat} {s1:Array (Option Value)} {t10:Tok} (l1:K.lookup q1=some {.type "tuple",d1,.seq #[.str "address" t10] n1,s1})
  {d2:Option Addr} {n2:Nat} {s2:Array (Option Value)} {t20 t21:Tok} (l2:K.lookup q2=some {.type "tuple",d2,.seq #[.str "address" t20,.str "word" t21] n2,s2})
  {d3:Option Addr} {n3:Nat} {s3:Array (Option Value)} {t30:Tok} (l3:K.lookup q3=some {.type "tuple",d3,.seq #[.str "count" t30] n3,s3})
  {d4:Option Addr} {n4:Nat} {s4:Array (Option Value)} {t40 t41 t42:Tok} (l4:K.lookup q4=some {.type "tuple",d4,.seq #[.str "address" t40,.str "address" t41,.str "count" t42] n4,s4})
  {d5:Option Addr} {n5:Nat} {s5:Array (Option Value)} {t50 t51 t52 t53 t54:Tok} (l5:K.lookup q5=some {.type "tuple",d5,.seq #[.str "address" t50,.str "address" t51,.str "count" t52,.str "step" t53,.str "step" t54] n5,s5}):∀i,i<6->∀H,SqT K H (prtQ q0 q1 q2 q3 q4 q5 i) ((prtN i).map V.str):=by
 intro i hi H
 match i,hi with
 | 0,_=>exact .inr {_,_,_,l0,O,O,by show 1<=sizeLine;decide,.cons {_,O} .nil}
 | 1,_=>exact .inr {_,_,_,l1,O,O,by show 1<=sizeLine;decide,.cons {_,O} .nil}
 | 2,_=>exact .inr {_,_,_,l2,O,O,by show 2<=sizeLine;decide,.cons {_,O} (.cons {_,O} .nil)}
 | 3,_=>exact .inr {_,_,_,l3,O,O,by show 1<=sizeLine;decide,.cons {_,O} .nil}
 | 4,_=>exact .inr {_,_,_,l4,O,O,by show 3<=sizeLine;decide,.cons {_,O} (.cons {_,O} (.cons {_,O} .nil))}
 | 5,_=>exact .inr {_,_,_,l5,O,O,by show 5<=sizeLine;decide,.cons {_,O} (.cons {_,O} (.cons {_,O} (.cons {_,O} (.cons {_,O} .nil))))}
 | n+6,h=>exact absurd h (by omega)
abbrev zdP:Stmt:=top 49
def scdeeds_of:FnScope ["text","deeds","rows","number","row","deed"] ["text"] (zai zdP):=sck O O O (by decide +kernel)
structure TxtBad(text:Str)(rows:List Str)(n:Nat)(bad:Str):Prop where
 ne:text ≠ ""
 l:text.length<=5000
 sp:Txt.split text "\n"=rows
 at_:rows[n]?=some bad
 nl:n<100
 ok:∀j r,j<=n->rows[j]?=some r->RowOk r
 good:∀j r,j<n->rows[j]?=some r->zcy r=true
 bad:zcy bad=false
inductive spDeeds53(CB:Addr)(vs:List V)(H:Hp)(u2_:VK)(E:XK):Prop
 | mk (text bad:Str) (rows:List Str) (n:Nat)(_:vs=[.str text])(_:TxtBad text rows n bad)(_:∀(dx:Addr) (H':Hp),H' dx=some (.ext (xDc dx (brF ((n:Int)+1) bad)))->Same H H'->E (.ref CB) (some dx) H')
def zhD{f CB:Addr}{fd:FuncData}(F:FunN K "deeds_of" zdP f fd)(T:Blt mg)(Gdeed_of:Cal P w K mg base 5 "deed_of" ["row"] spDeed53)(GI_BadRow:XIni P w K mg base 1 "BadRow" CB (spBrI CB)):FnOk P w K mg base (CX1 P w) 6 f fd ["text"] (spDeeds53 CB):=by
 refine F.okX scdeeds_of (by walk_at"l") (λcdv A outer s H vs Q E hr h=>?_)
 .obtain⟨text,bad,rows,n,rfl,hT,k⟩:=h
  refine⟨_,(zad (PS.nox (ps_L 1 scdeeds_of.nd (zax zab)))
   (zad (PS.nox (ps_L 2 scdeeds_of.nd (zeT (zeQ (pv 0) (λ_=>O)) (zda PySem.F.plainAttrs_str PySem.F.slot_str_split PySem.F.type_str_split zg3 (pv 0) (zaa zaD zab)) (zax zab))))
   (zad (PS.fly (zb2 zmw O (zkk O T.enumerate (zaa (pv 2) zab) (zl0 zaf pk_nil)) (zbI O (zao (pg_L 3 scdeeds_of.nd) (zao (pg_L 4 scdeeds_of.nd) zaS)))
   (zad (PS.nox (ps_L 5 scdeeds_of.nd (pe_c Gdeed_of (zaa (pv 4) zab))))
   (zad (zaA (PT.nox (zcE (zcJ (pv 5)))) (zag (ziN (E:=E) GI_BadRow (hrm hr) O O O (PA.nox (zaa (pv 3) (zaa (pv 4) zab))) (λpins U H2 s2 ea od I e n hE=>zhW I e n hE))) zan)
   (zag (PS.nox (zaJ (zda PySem.F.plainAttrs_list PySem.F.slot_list_append PySem.F.type_list_append zbr (pv 1) (zaa (pv 5) zab)))))))))
   (zag (PS.nox (zal (pv 1))))))),?rd⟩
  have e0:rows≠[]:=λz=>by have:=hT.at_;rw[z] at this;cases this
  refine{by show 0<=sizeLine;decide,λL hL=>?_}
  have sL:=zae (o:=.lst []) hL
  have eL:upd H L (.lst []) L=some (.lst []):=zac
  generalize upd H L (.lst [])=X at *
  refine{_,O,true,?_,iteT ?_}
  .refine{Xak hT.l (by decide),(bne_iff_ne.mpr λz=>hT.ne ?_).symm}
   exact zir (List.length_eq_zero_iff.mp (by rw[Array.length_toList];exact_mod_cast z))
  refine{_,O,O,text,"\n",O,O,O,Xak (Nat.add_le_add_right hT.l 2) (by decide),λR hR=>?_}
  rw[hT.sp]
  have sR:=zae (o:=.lst (rows.map V.str)) hR
  have eR:upd X R (.lst (rows.map V.str)) R=some (.lst (rows.map V.str)):=zac
  have eL2:=sR _ _ eL
  have nLR:R≠L:=Ne.symm (zaj eL hR)
  have s2:=sL.trans sR
  generalize upd X R (.lst (rows.map V.str))=Y at *
  try dsimp(proj:=false) only[zay,List.set]
  refine{_,O,R,O,O,{_,SqL.of eR},?_}
  refine zjr (xs:=rows.map V.str) (λi U Z=>∃v3 v4 v5 ds,U=[some (.str text),some (.ref L),some (.ref R),v3,v4,v5]/\i<=n/\Z L=some (.lst ds)/\ds.length=i/\(∀a o,a≠L->Y a=some o->Z a=some o)) {_,_,_,[],O,Nat.zero_le _,eL2,O,λ_ _ _ z=>z} ?_ ?_ ?_
  .rintro i U Z _ ⟨_,_,_,ds,rfl,_,_,_,fr⟩
   exact SqL.of (fr _ _ nLR eR)
  .rintro i x T U Z hx hTn ⟨v3,v4,v5,ds,rfl,hi,hL2,hdl,fr⟩
   rw[Xax] at hx
   obtain⟨row,hr1,rfl⟩:=XaD.mp hx
   have sT:=zae (o:=.tup [.int ((i:Int)+1),.str row]) hTn
   have hLT:=sT _ _ hL2
   refine zfM zac ?_
   try dsimp(proj:=false) only[zay,List.set]
   generalize upd Z T (.tup [.int ((i:Int)+1),.str row])=Z1 at *
   refine{_,O,row,O,hT.ok i row hi hr1,λt Z2 s2'=>?_}
   try dsimp(proj:=false) only[zay,List.set]
   by_cases hin:i=n
   .subst hin
    rw[hT.at_] at hr1
    obtain rfl:=Option.some.inj hr1
    rw[hT.bad]
    refine{_,O,_,O,iteT ?_}
    refine{_,O,_,O,(by decide:(2:Nat)<=1000),λe he=>?_}
    have nl:=hT.nl
    refine{e,_,_,O,by omega,(hT.ok _ _ (Xad _) hT.at_).l,zac,λdx H2 hdx ne e1 e2 fr2=>{O,some dx,e1,?_}}
    refine k dx _ (by rw[zgU ne];exact e2) λb o eb=>?_
    have e3:=s2' _ _ (sT _ _ (fr _ _ (zaj eb hL) (sR _ _ (sL _ _ eb))))
    have hb:b≠e:=zaj e3 he
    rw[zgU hb]
    exact fr2 b o hb (by rw[zah hb];exact e3)
   .rw[hT.good i row (by omega) hr1]
    refine{_,O,_,O,iteF (zar ?_)}
    have hL3:=s2' _ _ hLT
    have h5:=hT.nl
    refine{_,O,?_,_,O,L,ds,_,O,O,hL3,Xa5 (show ds.length<=100 by omega) (by decide),?_}
    .exact .inl {O,_,SqL.of hL3}
    refine{_,_,_,ds++[_],O,by omega,zac,by rw[Xah,hdl];rfl,λa o ha e=>?_}
    rw[zah ha]
    exact s2' _ _ (sT _ _ (fr _ _ ha e))
  .rintro U Z ⟨v3,v4,v5,ds,rfl,hi,_⟩
   have:=(Xas.mp hT.at_).1
   rw[Xaf] at hi
   omega
abbrev srun:Stmt:=top 52
def scrun:FnScope ["board","text","movers"] ["board","text"] (zai srun):=sck O O O (by decide +kernel)
inductive spRun53(CB:Addr)(vs:List V)(H:Hp)(u2_:VK)(E:XK):Prop
 | mk (v:V) (text bad:Str) (rows:List Str) (n:Nat)(_:vs=[v,.str text])(_:TxtBad text rows n bad)(_:∀(dx:Addr) (H':Hp),H' dx=some (.ext (xDc dx (brF ((n:Int)+1) bad)))->Same H H'->E (.ref CB) (some dx) H')
def okrun{f CB:Addr}{fd:FuncData}(F:FunN K "run" srun f fd)(T:Blt mg)(GXdeeds_of:CalX P w K mg base 6 "deeds_of" ["text"] (spDeeds53 CB)):FnOk P w K mg base (CX1 P w) 7 f fd ["board","text"] (spRun53 CB):=by
 refine F.okX scrun (by walk_at"l") (λcdv A outer s H vs Q E hr h=>?_)
 .obtain⟨v,text,bad,rows,n,rfl,hT,k⟩:=h
  refine⟨_,(zad (PS.nox (zev (i:=2) scrun.nd O (Or.inr O) (zax zab)))
   (zag (zal (zkq (Nc:=["letter","numbers","board","movers"]) [none,none,some 0,some 2] (zaN (by rfl)) (zeR (ziX GXdeeds_of (hrm hr) O (Passes.s zjY) (zaa (pv 1) zab))))))),?rd⟩
  refine{by show 0<=sizeLine;decide,λL hL=>?_}
  refine{_,O,text,bad,rows,n,O,hT,λdx H' e s1=>?_}
  exact k dx H' e ((zae hL).trans s1)
abbrev zdY:Stmt:=top 81
def zhr:FnScope ["cell","k"] ["cell","k"] (zai zdY):=sck O O O (by decide +kernel)
def Bg(H:Hp)(p:Addr)(n:Nat):Prop:=∃a c:Int,H p=some (.lst [.int a,.int c])/\0<=a/\0<=c/\c<=n
def Bg.mono{H:Hp}{p:Addr}{n m:Nat}(h:Bg H p n)(hm:n<=m):Bg H p m:=by
 obtain⟨a,c,e,h1,h2,h3⟩:=h
 exact{a,c,e,h1,h2,by omega}
def Bg.same{H H':Hp}{p:Addr}{n:Nat}(h:Bg H p n)(s:Same H H'):Bg H' p n:=by
 obtain⟨a,c,e,r⟩:=h
 exact{a,c,s _ _ e,r}
def Bg.ne{H:Hp}{p q:Addr}{n:Nat}(h:Bg H p n)(hq:H q=none):q≠p:=λz=>by
 obtain⟨a,c,e,_⟩:=h
 rw[<- z,hq] at e;cases e
inductive spBg(vs:List V)(H:Hp)(Q:VK)(u3_:XK):Prop
 | mk (z:Int) (n:Nat)(_:vs=[.int z,.int (n:Int)])(_:n<=100)(_:∀(p:Addr) (H':Hp),H p=none->Bg H' p 4000->Same H H'->Q (.ref p) H')
inductive spDw(vs:List V)(H:Hp)(Q:VK)(u3_:XK):Prop
 | mk (p:Addr) (m:Int) (n:Nat)(_:vs=[.ref p,.int m])(_:Bg H p n)(_:n<2 ^ 40)(_:0<m)(_:m<=2 ^ 40)(_:∀(r:Nat) (H':Hp),(r:Int)<m->Bg H' p (n+1)->(∀b,b≠p->H' b=H b)->Q (.int (r:Int)) H')
def zhG{f:Addr}{fd:FuncData}(F:FunN K "_law_bag" zdY f fd)(T:Blt mg):FnOk P w K mg base CX0 1 f fd ["cell","k"] spBg:=by
 refine F.ok zhr (by walk_at"l") (λcdv A outer s H vs Q E hr h=>?_)
 .obtain⟨z,n,rfl,hn,k⟩:=h
  refine⟨_,(zad (zaA (zas zgo (pv 0) zaf (zaw _)) (zag (zal (zax (zaa (zl6 zil (pv 0)) (zaa (zat za8 (zat zbR zaf (pv 1)) zaf) zab))))) zan)
   (zag (zal (zax (zaa (pv 0) (zaa (zat zbR zaf (pv 1)) zab)))))),?rd⟩
  refine{_,O,_,_,O,O,_,O,ite2 (λhz=>?_) (λhz=>zar ?_)}
  .have hz:=XaA hz
   refine{_,O,_,O,_,O,_,_,O,O,zci (by decide) (by omega),_,_,O,O,by show 2<=sizeLine;decide,λp hp=>?_}
   exact k p _ hp {_,_,zac,by omega,by omega,by omega} (zae hp)
  .have hz:¬ z<0:=λq=>hz (Xal q)
   try dsimp only
   refine{_,O,_,O,_,_,O,O,zci (by decide) (by omega),by show 2<=sizeLine;decide,λp hp=>?_}
   exact k p _ hp {_,_,zac,by omega,by omega,by omega} (zae hp)
abbrev zc4:Stmt:=top 82
def sc_law_draw:FnScope ["bag","many","digit","one"] ["bag","many"] (zai zc4):=sck O O O (by decide +kernel)
def zgA{f:Addr}{fd:FuncData}(F:FunN K "_law_draw" zc4 f fd)(T:Blt mg):FnOk P w K mg base CX0 1 f fd ["bag","many"] spDw:=by
 refine F.ok sc_law_draw (by walk_at"l") (λcdv A outer s H vs Q E hr h=>?_)
 .obtain⟨p,m,n,rfl,⟨a,c,hp,ha,hc0,hc⟩,hn,hm,hm2,k⟩:=h
  refine⟨_,(zad (zlW (pv 0) zaf ziT zaf ip_add zgV)
   (zad (zaA (zas zmb (pe_x zaz (pv 0) zaf) (zat op_pow zaf zaf) (zaw _)) (zad (ps_L 2 sc_law_draw.nd (zat zdj (pe_x zaz (pv 0) zaf) (pv 1)))
   (zad (zcF (zat zb9 (pe_x zaz (pv 0) zaf) (pv 1)) (pg_sub (pv 0) zaf zgV))
   (zag (zal (pv 2))))) zan)
   (zad (ps_L 3 sc_law_draw.nd (zat zdj (zat za8 (zat za8 (zat zdj (pe_x zaz (pv 0) zaf) zaf) (zat zbR zaf (pe_x zaz (pv 0) zaf))) zaf) zaf))
   (zad (ps_L 3 sc_law_draw.nd (zat zdj (zat zbR (pv 3) (pv 3)) zaf))
   (zad (ps_L 3 sc_law_draw.nd (zat zdj (zat za8 (pv 3) (zat zbR zaf (pe_x zaz (pv 0) zaf))) zaf))
   (zad (ps_L 3 sc_law_draw.nd (zat zdj (zat zbR (pv 3) (pv 3)) zaf))
   (zag (zal (zat zdj (zat zb9 (pv 3) zaf) (pv 1)))))))))),?rd⟩
  have lm:=log_ok hm (by omega)
  refine{_,O,p,_,_,_,O,O,by decide,SqL.of hp,O,_,_,O,O,p,_,_,1,O,O,hp,O,?_}
  have h1:upd H p (.lst ([V.int a,V.int c].set 1 (V.int (c+1)))) p=some (.lst [.int a,.int (c+1)]):=zac
  have k1:∀b,b≠p->upd H p (.lst ([V.int a,V.int c].set 1 (V.int (c+1)))) b=H b:=λb hb=>zah hb
  generalize upd H p (.lst ([V.int a,V.int c].set 1 (V.int (c+1))))=H1 at *
  refine{_,O,p,_,_,_,O,O,SqL.of h1,O,_,_,O,O,{by decide,by decide,by decide},_,_,O,O,_,O,ite2 (λ_=>?_) (λ_=>zar ?_)}
  .refine{_,O,p,_,_,_,O,O,SqL.of h1,O,_,O,_,_,O,O,hm,?_}
   refine{_,O,p,_,_,_,O,O,SqL.of h1,O,_,O,_,_,O,O,⟨hm,lm⟩,_,O,p,_,_,0,O,O,h1,O,?_}
   have h0:=Int.emod_nonneg a (Int.ne_of_gt hm)
   have e:((a % m).toNat:Int)=a % m:=Int.toNat_of_nonneg h0
   have:=k (a % m).toNat (upd H1 p (.lst [.int (a / m),.int (c+1)])) (by rw[e];exact Int.emod_lt_of_pos _ hm) {_,_,zac,Int.ediv_nonneg ha (Int.le_of_lt hm),by omega,by omega} (λb hb=>by rw[zah hb];exact k1 b hb)
   rw[e] at this
   exact{_,O,this}
  .dsimp only
   refine{_,O,p,_,_,_,O,O,SqL.of h1,O,_,_,O,O,(show(0:Int)<2147483629 by decide),_,O,p,_,_,_,O,O,SqL.of h1,O,_,_,O,O,zci (by decide) (by omega),_,_,O,O,_,_,O,O,_,_,O,O,(show(0:Int)<2147483587 by decide),?_}
   have mo:∀(z d:Int),0<d->0<=z % d/\z % d<d:=λz d h=>{Int.emod_nonneg _ (Int.ne_of_gt h),Int.emod_lt_of_pos _ h}
   try dsimp only[zay,List.set]
   obtain⟨o1,e1⟩:∃o1,(a % 2147483629+104729*(c+1)+1) % 2147483587=o1:={_,O}
   have b1:=mo (a % 2147483629+104729*(c+1)+1) 2147483587 (by decide)
   rw[e1] at b1
   rw[e1]
   refine{_,O,_,O,_,_,O,O,zci (by omega) (by omega),_,_,O,O,(show(0:Int)<2147483587 by decide),?_}
   try dsimp only[zay,List.set]
   obtain⟨o2,e2⟩:∃o2,o1*o1 % 2147483587=o2:={_,O}
   have b2:=mo (o1*o1) 2147483587 (by decide)
   rw[e2] at b2
   rw[e2]
   refine{_,O,_,O,p,_,_,_,O,O,SqL.of h1,O,_,_,O,O,zci (by decide) (by omega),_,_,O,O,_,_,O,O,(show(0:Int)<2147483563 by decide),?_}
   try dsimp only[zay,List.set]
   obtain⟨o3,e3⟩:∃o3,(o2+40692*(c+1)) % 2147483563=o3:={_,O}
   have b3:=mo (o2+40692*(c+1)) 2147483563 (by decide)
   rw[e3] at b3
   rw[e3]
   refine{_,O,_,O,_,_,O,O,zci (by omega) (by omega),_,_,O,O,(show(0:Int)<2147483563 by decide),?_}
   try dsimp only[zay,List.set]
   obtain⟨o4,e4⟩:∃o4,o3*o3 % 2147483563=o4:={_,O}
   have b4:=mo (o3*o3) 2147483563 (by decide)
   rw[e4] at b4
   rw[e4]
   refine{_,O,_,_,O,O,{by decide,by decide +kernel},_,O,_,_,O,O,hm,?_}
   have h0:=Int.emod_nonneg (o4 / 8) (Int.ne_of_gt hm)
   have e:((o4 / 8 % m).toNat:Int)=o4 / 8 % m:=Int.toNat_of_nonneg h0
   have:=k (o4 / 8 % m).toNat H1 (by rw[e];exact Int.emod_lt_of_pos _ hm) {_,_,h1,ha,by omega,by omega} k1
   rw[e] at this
   exact this
abbrev zc1:Stmt:=top 83
def zgk:FnScope ["found","due"] ["found","due"] (zai zc1):=sck O O O (by decide +kernel)
inductive LkS(H:Hp):Nat->V->V->Prop where
 | int {n:Nat} (i:Int):LkS H n (.int i) (.int i)
 | str {n:Nat} (x:Str):LkS H n (.str x) (.str x)
 | seq {n:Nat} {t:Bool} {a b:Addr} {xs ys:List V} (ha:SqX t H a xs) (hb:SqX t H b ys) (hl:xs.length=ys.length) (hz:xs.length<=sizeLine) (h:∀(i:Nat) (x y:V),xs[i]?=some x->ys[i]?=some y->LkS H n x y):LkS H (n+1) (.ref a) (.ref b)
def LkS.same{H H':Hp}{n:Nat}{v w:V}(h:LkS H n v w)(s:Same H H'):LkS H' n v w:=by
 induction h with
 | int i=>exact .int i
 | str x=>exact .str x
 | seq ha hb hl hz _ ih=>exact .seq (s _ _ ha) (s _ _ hb) hl hz ih
inductive spSameL(n:Nat)(vs:List V)(H:Hp)(Q:VK)(u3_:XK):Prop
 | mk v w(_:vs=[v,w])(_:((v=.non/\w=.non)\/LkS H n v w))(_:∀H',Same H H'->Q (.bl true) H')
def zd3{f:Addr}{fd:FuncData}{m n:Nat}{sp:Sp}(F:FunN K "_law_same" zc1 f fd)(T:Blt mg)(G_law_same:Cal P w K mg base n "_law_same" ["found","due"] sp)(hsp:∀k,m=k+1->sp=spSameL k):FnOk P w K mg base CX0 (n+1) f fd ["found","due"] (spSameL m):=by
 refine F.ok zgk (by walk_at"l") (λcdv A outer s H vs Q E hr h=>?_)
 .obtain⟨v,w,rfl,hL,k⟩:=h
  refine'⟨_,(zad (zaA (zcE (zcJ (pv 1))) (zag (zal (ziW (zcJ (pv 0))))) zan)
   (zad (zaA (zaF (zak (zaP "int" (K:=K) O) (by rfl) T.isinstance za4 (zaa (pv 1) (zaa (zaT O T.int zeh ziF) zab)))) (zag (zal (zbq (zak (zaP "int" (K:=K) O) (by rfl) T.isinstance za4 (zaa (pv 0) (zaa (zaT O T.int zeh ziF) zab))) (zbq (zli (zak (zaP "bool" (K:=K) O) (by rfl) T.isinstance za4 (zaa (pv 0) (zaa (zaT O T.bool zjM ziG) zab)))) (zbv (zbE zbS (pv 0) (pv 1) (zaw _))))))) zan)
   (zad (zaA (zaF (zak (zaP "str" (K:=K) O) (by rfl) T.isinstance za4 (zaa (pv 1) (zaa (zaT O T.str zlx zlc) zab)))) (zag (zal (zbq (zak (zaP "str" (K:=K) O) (by rfl) T.isinstance za4 (zaa (pv 0) (zaa (zaT O T.str zlx zlc) zab))) (zbv (zbE zbS (pv 0) (pv 1) (zaw _)))))) zan)
   (zad (zaA (PW.pt (zbD (zas zft (zak (zaP "tuple" (K:=K) O) (by rfl) T.isinstance za4 (zaa (pv 1) (zaa (zaT O T.tuple zbx zcC) zab))) (zak (zaP "tuple" (K:=K) O) (by rfl) T.isinstance za4 (zaa (pv 0) (zaa (zaT O T.tuple zbx zcC) zab))) (zaw _)) (zbd (zas zft (zak (zaP "list" (K:=K) O) (by rfl) T.isinstance za4 (zaa (pv 1) (zaa (zaT O T.list zcz ziE) zab))) (zak (zaP "list" (K:=K) O) (by rfl) T.isinstance za4 (zaa (pv 0) (zaa (zaT O T.list zcz ziE) zab))) (zaw _))))) (zag (zal zdt)) zan)
   (zag (zal (zbq (zbE zbS (zak zam (by rfl) T.len PySem.boot_len (zaa (pv 0) zab)) (zak zam (by rfl) T.len PySem.boot_len (zaa (pv 1) zab)) (zaw _)) (zbv (zak (zcT O) (by rfl) T.all zhe (zaa ?c1 zab)))))))))),?rd⟩
  (case c1=>exact(zc9 (Nc:=["one","other"]) [none,none] O (zaN (by rfl)) (ziS O T.zip (zaa (pv 0) (zaa (pv 1) zab))) (λ_ _ _ _ _=>(ziU 2 (K:=K) O O (zao (pg_L 0 (show(["one","other"]:List Str).Nodup by decide +kernel)) (zao (pg_L 1 (show(["one","other"]:List Str).Nodup by decide +kernel)) zaS)))) (λ_ _ _ _ _=>zcG) (λ_ _ _ _ _=>(pe_c G_law_same (zaa (pv 0) (zaa (pv 1) zab))))))
  rcases hL with⟨rfl,rfl⟩|hL
  .exact{_,O,_,O,iteT {_,O,k H (Same.refl _)}}
  cases hL with
  | int i =>
   refine{_,O,_,O,iteF (zar ?_)}
   try dsimp only
   refine{_,O,_,_,_,O,.int i,O,true,O,iteT {_,O,_,_,_,O,.int i,O,true,O,iteT {_,O,_,_,_,O,.int i,O,false,O,true,O,iteT {_,O,_,O,O,?_}}}}
   rw[Xal O]
   exact k H (Same.refl _)
  | str x =>
   refine{_,O,_,O,iteF (zar ?_)}
   try dsimp only
   refine{_,O,_,_,_,O,.str x,O,false,O,iteF (zar ?_)}
   try dsimp only
   refine{_,O,_,_,_,O,.str x,O,true,O,iteT {_,O,_,_,_,O,.str x,O,true,O,iteT {_,O,_,O,O,?_}}}
   rw[Xal O]
   exact k H (Same.refl _)
  | @seq m' t a b xs ys ha hb hl hz h =>
   have ty:∀{q:Addr} {us:List V},SqX t H q us->TyOf K H (.ref q) (.type (sqC t)):=λ{q us} e=>ty_seq e
   have ki:W.kitOne K (.type (sqC t)) (.type "int")=some false:=by cases t<;>rfl
   have ks:W.kitOne K (.type (sqC t)) (.type "str")=some false:=by cases t<;>rfl
   have kt:W.kitOne K (.type (sqC t)) (.type "tuple")=some t:=by cases t<;>rfl
   have kl:W.kitOne K (.type (sqC t)) (.type "list")=some (!t):=by cases t<;>rfl
   refine{_,O,_,O,iteF (zar ?_)}
   try dsimp only
   refine{_,O,_,_,_,O,ty hb,ki,false,O,iteF (zar ?_)}
   try dsimp only
   refine{_,O,_,_,_,O,ty hb,ks,false,O,iteF (zar ?_)}
   try dsimp only
   have sq:∀{q:Addr} {us:List V},SqX t H q us->SqL K H q us\/SqT K H q us:=λ{q us} e=>by
    cases t with
    | true=>exact .inr (SqT.of e)
    | false=>exact .inl (SqL.of e)
   refine{_,O,_,_,_,O,ty hb,kt,_,O,_,_,_,O,ty ha,kt,O,_,O,zhQ O ?_}
   refine{_,O,_,_,_,O,ty hb,kl,_,O,_,_,_,O,ty ha,kl,O,_,O,zhQ O (zar ?_)}
   try dsimp only
   refine{_,O,a,xs,O,sq ha,_,O,b,ys,O,sq hb,O,_,O,?_}
   rw[Xal (show V.int (xs.length:Int)=V.int (ys.length:Int) by rw[hl])]
   refine iteT ?_
   obtain rfl:=hsp m' O
   refine{_,O,_,O,_,a,b,xs,ys,O,ha,hb,?_}
   refine zjC (xs:=xs) (ys:=ys) (λj rs U H1=>∃v1 v2,U=[v1,v2]/\rs=List.replicate j (V.bl true)/\Same H H1) hl hz {none,none,O,O,λ_ _ z=>z} ?_ ?_ ?_
   .rintro j rs U H1 hj ⟨v1,v2,rfl,rfl,s1⟩
    have e1:SqX t H1 a xs:=by cases t<;>exact s1 _ _ ha
    have e2:SqX t H1 b ys:=by cases t<;>exact s1 _ _ hb
    exact{e1,e2,by rw[Xby];exact Xad _}
   .rintro j x y U9 rs U H1 ex ey hU ⟨v1,v2,rfl,rfl,s1⟩
    refine zfN ?_
    have s2:=s1.trans (zae (o:=.tup [x,y]) hU)
    refine{_,O,_,O,x,y,O,.inr ((h j x y ex ey).same s2),λH3 s3=>?_}
    exact{_,_,O,List.replicate_succ'.symm,s2.trans s3}
   .rintro rs U H1 ⟨v1,v2,rfl,rfl,s1⟩ D hD
    refine{D,List.replicate xs.length true,O,SqL.of (by rw[List.map_replicate];exact zac),?_}
    rw[show(List.replicate xs.length true).all id=true by simp]
    exact k _ (s1.trans (zae hD))
structure MdB(H:Hp)(m row:Addr)(kd n:Nat)(ws:List Nat):Prop where
 at_:H m=some (.lst [.str (zdB kd),.ref row,.int (n:Int)])
 ls:H row=some (.lst (vN ws))
def MdB.same{H H':Hp}{m row:Addr}{kd n:Nat}{ws:List Nat}(d:MdB H m row kd n ws)(s:Same H H'):MdB H' m row kd n ws:={s _ _ d.at_,s _ _ d.ls}
structure Mod(D:Dt)(md rw:Nat->Addr)(Y:Hp)(us:Nat->List Nat):Prop where
 o:∀i,i<D.m->MdB Y (md i) (rw i) (D.kd i) (D.n i) (us i)
 k:∀i,i<D.m->Kd (D.kd i) (D.n i) (us i)
 h1:∀i,i<D.m->D.kd i=2\/D.kd i=3->(us i).length=1
 z:∀i,i<D.m->zdf (D.kd i) (us i)=D.sz i
 inj:∀i j,i<D.m->j<D.m->rw i=rw j->i=j
def Mod.same{D:Dt}{md rw:Nat->Addr}{Y Z:Hp}{us:Nat->List Nat}(M:Mod D md rw Y us)(s:Same Y Z):Mod D md rw Z us:={λi h=>(M.o i h).same s,M.k,M.h1,M.z,M.inj}
def mdL(D:Dt)(md:Nat->Addr):List V:=(List.range D.m).map λi=>.ref (md i)
def zfC{D:Dt}{md:Nat->Addr}{i:Nat}(h:i<D.m):(mdL D md)[i]?=some (.ref (md i)):=by unfold mdL;rw[Xax,List.getElem?_range h];rfl
def zdc(D:Dt)(md:Nat->Addr):(mdL D md).length=D.m:=by unfold mdL;rw[Xaf,Xa2]
def ones0:ones 0=0:=by simp[ones]
def ones1:ones 1=1:=by simp[ones]
def zhg(m w n v:Nat):agr m w n v=agr n v m w:=by unfold agr;rw[Nat.xor_comm,Nat.and_assoc,Nat.and_comm m n,<- Nat.and_assoc]
def zh0(r q:Rw):zef r q=zef q r:=by
 unfold zef
 rw[zhg]
 congr 1
 cases r.l with
 | none=>cases q.l<;>rfl
 | some o =>
  cases q.l with
  | none=>rfl
  | some o2 =>
   show(if o.1=o2.1 then agr o.2.1 o.2.2 o2.2.1 o2.2.2 else true)=if o2.1=o.1 then agr o2.2.1 o2.2.2 o.2.1 o.2.2 else true
   by_cases e:o.1=o2.1
   .rw[if_pos e,if_pos e.symm,zhg]
   .rw[if_neg e,if_neg (Ne.symm e)]
def zi0:∀a b:Nat,a &&& b=0->a ||| b=a+b:=by
 intro a
 induction a using Nat.strongRecOn with
 | _ a ih =>
  intro b h
  by_cases ha:a=0
  .subst ha;simp
  .have h2:(a / 2) &&& (b / 2)=0:=by rw[<- Nat.and_div_two,h]
   have e1:(a ||| b) / 2=a / 2+b / 2:=(Nat.or_div_two (a:=a) (b:=b)).trans (ih (a / 2) (by omega) (b / 2) h2)
   have e2:(a ||| b) % 2=(a % 2 ||| b % 2):=Nat.or_mod_two_pow (n:=1)
   have e3:(a &&& b) % 2=(a % 2 &&& b % 2):=Nat.and_mod_two_pow (n:=1)
   rw[h] at e3
   have e4:a % 2 ||| b % 2=a % 2+b % 2:=by
    rcases(show a % 2=0\/a % 2=1 by omega) with x|x<;>rcases(show b % 2=0\/b % 2=1 by omega) with y|y<;>rw[x,y] at e3 ⊢<;>first|rfl|(exact absurd e3 (by decide))
   omega
def zkt(i:Nat):ones (2 ^ i)=1:=by
 induction i with
 | zero=>exact ones1
 | succ i ih=>rw[Nat.pow_succ,Nat.mul_comm,zbJ,ih]
def zbG(m p j:Nat):(m ||| 2 ^ p).testBit j=(m.testBit j || decide (p=j)):=by rw[Nat.testBit_or,Xbi]
def zgr{i p:Nat}(h:i.testBit p=false):ones (i ||| 2 ^ p)=ones i+1:=by
 have hd:i &&& 2 ^ p=0:=Nat.eq_of_testBit_eq λj=>by
  rw[XaP,Xbi,Nat.zero_testBit]
  by_cases e:p=j
  .subst e;rw[h];rfl
  .rw[Xam e,Xbo]
 rw[zi0 _ _ hd,zkW _ _ hd,zkt]
structure Rp(bs wt:Nat)(seen:List Nat)(m w i:Nat):Prop where
 mb:∀j,bs.testBit j=true->m.testBit j=true
 ms:∀j,m.testBit j=true->bs.testBit j=true\/j∈seen
 wm:∀j,w.testBit j=true->m.testBit j=true
 wb:∀j,bs.testBit j=true->w.testBit j=wt.testBit j
 is_:∀j,i.testBit j=true->j∈seen/\m.testBit j=false
def Rp.skip{bs wt p m w i:Nat}{seen:List Nat}(r:Rp bs wt seen m w i):Rp bs wt (seen++[p]) m w i:=
 {r.mb,λj h=>(r.ms j h).imp id (XaO _),r.wm,r.wb,λj h=>{XaO _ (r.is_ j h).1,(r.is_ j h).2}}
def Rp.ask{bs wt p m w i d:Nat}{seen:List Nat}(r:Rp bs wt seen m w i)(hp:p∉seen)(hb:bs.testBit p=false)(hd:d<2):Rp bs wt (seen++[p]) (m ||| 2 ^ p) (w ||| d*2 ^ p) i:=by
 have hi:i.testBit p=false:=by
  cases h:i.testBit p with
  | false=>rfl
  | true=>exact absurd (r.is_ p h).1 hp
 have dw:∀j,(w ||| d*2 ^ p).testBit j=(w.testBit j || (decide (d=1)&&decide (p=j))):=λj=>by
  rcases(show d=0\/d=1 by omega) with rfl|rfl
  .rw[Nat.zero_mul,Nat.or_zero];simp
  .rw[Nat.one_mul,zbG];simp
 refine{λj h=>?_,λj h=>?_,λj h=>?_,λj h=>?_,λj h=>?_}
 .rw[zbG,r.mb j h];rfl
 .rw[zbG,XbG] at h
  rcases h with h|h
  .exact(r.ms j h).imp id (XaO _)
  .exact .inr (by rw[<- XaA h];exact XaB _ (Xae.mpr O))
 .rw[dw,XbG] at h
  rw[zbG]
  rcases h with h|h
  .rw[r.wm j h];rfl
  .rw[Xa0] at h;rw[h.2,Bool.or_true]
 .rw[dw,r.wb j h]
  by_cases e:p=j
  .subst e;rw[hb] at h;cases h
  .rw[Xam e,Xbo,Bool.or_false]
 .refine{XaO _ (r.is_ j h).1,?_}
  rw[zbG,(r.is_ j h).2]
  by_cases e:p=j
  .subst e;rw[hi] at h;cases h
  .rw[Xam e];rfl
def Rp.show_{bs wt p m w i:Nat}{seen:List Nat}(r:Rp bs wt seen m w i)(hp:p∉seen)(hb:bs.testBit p=false):Rp bs wt (seen++[p]) m w (i ||| 2 ^ p)/\ones (i ||| 2 ^ p)=ones i+1:=by
 have hi:i.testBit p=false:=by
  cases h:i.testBit p with
  | false=>rfl
  | true=>exact absurd (r.is_ p h).1 hp
 have hm:m.testBit p=false:=by
  cases h:m.testBit p with
  | false=>rfl
  | true =>
   rcases r.ms p h with h|h
   .rw[hb] at h;cases h
   .exact absurd h hp
 refine{{r.mb,λj h=>(r.ms j h).imp id (XaO _),r.wm,r.wb,λj h=>?_},zgr hi}
 rw[zbG,XbG] at h
 rcases h with h|h
 .exact{XaO _ (r.is_ j h).1,(r.is_ j h).2}
 .rw[<- XaA h]
  exact{XaB _ (Xae.mpr O),hm}
def zgP{w m:Nat}(h:∀j,w.testBit j=true->m.testBit j=true):w &&& m=w:=Nat.eq_of_testBit_eq λj=>by
 rw[XaP]
 cases hw:w.testBit j with
 | false=>rfl
 | true=>rw[h j hw];rfl
def zgO{i m:Nat}(h:∀j,i.testBit j=true->m.testBit j=false):i &&& m=0:=Nat.eq_of_testBit_eq λj=>by
 rw[XaP,Nat.zero_testBit]
 cases hi:i.testBit j with
 | false=>rfl
 | true=>rw[h j hi];rfl
def zcb{m n:Nat}(h:∀j,m.testBit j=true->j<n):m<2 ^ n:=by
 refine Nat.lt_pow_two_of_testBit m λj hj=>?_
 cases hm:m.testBit j with
 | false=>rfl
 | true=>have:=h j hm;omega
def Rp.ok{bs wt n m w i c:Nat}{seen:List Nat}{l:Option (Nat×Nat×Nat)}(r:Rp bs wt seen m w i)(hb:bs<2 ^ n)(hs:∀p∈seen,p<n)(hc:c<100)(hl:zmG l):RwOk n ⟨m,w,i,c,l⟩:=by
 have bm:∀j,m.testBit j=true->j<n:=λj h=>by
  rcases r.ms j h with h|h
  .by_cases e:j<n
   .exact e
   .rw[Nat.testBit_lt_two_pow (Xao hb (XaW (by decide) (by omega)))] at h;cases h
  .exact hs j h
 exact{zcb bm,zcb λj h=>bm j (r.wm j h),zgP r.wm,zcb λj h=>hs j (r.is_ j h).1,zgO λj h=>(r.is_ j h).2,hc,hl}
def zmh{a b:Rw}{p:Nat}(h1:a.m.testBit p=true)(h2:b.m.testBit p=true)(h:a.w.testBit p≠b.w.testBit p):NC a b:=by
 have e:agr a.m a.w b.m b.w=false:=Xam λz=>by
  have:=congrArg (λx=>x.testBit p) z
  simp only[XaP,Nat.testBit_xor,h1,h2,Nat.zero_testBit,Bool.and_true] at this
  cases ha:a.w.testBit p<;>cases hb:b.w.testBit p<;>rw[ha,hb] at this h<;>simp_all
 have e':zef a b=false:=by unfold zef;rw[e];rfl
 exact{e',by rw[zh0];exact e'}
abbrev zc3:Stmt:=top 89
def sc_law_room:FnScope ["model","cells","room"] ["model"] (zai zc3):=sck O O O (by decide +kernel)
inductive spRoom(vs:List V)(H:Hp)(Q:VK)(u3_:XK):Prop
 | mk (m row:Addr) (kd n:Nat) (ws:List Nat)(_:vs=[.ref m])(_:MdB H m row kd n ws)(_:Kd kd n ws)(_:∀r:Nat,r<=12->2 ^ r<=zdf kd ws->zdf kd ws<2 ^ (r+1)->Q (.int (r:Int)) H)
set_option tactic.hygienic true in
def zgy{f:Addr}{fd:FuncData}(F:FunN K "_law_room" zc3 f fd)(T:Blt mg):FnOk P w K mg base CX0 1 f fd ["model"] spRoom:=by
 refine F.ok sc_law_room (by walk_at"l") (λcdv A outer s H vs Q E hr h=>?_)
 .obtain⟨m,row,kd,n,ws,rfl,d,kk,k⟩:=h
  refine⟨_,(zad (ps_L 1 sc_law_room.nd (zak zam (by rfl) T.len PySem.boot_len (zaa (pe_x zaz (pv 0) zaf) zab)))
   (zad (zaA (zas zbS (pe_x zaz (pv 0) zaf) zaD (zaw _)) (zag (ps_L 1 sc_law_room.nd zaf)) zan)
   (zad (ps_L 2 sc_law_room.nd zaf)
   (zad (zgY PassesOwn.never (zas zgp (zat zch zaf (pv 2)) (pv 1) (zaw _)) (zag (zfo (i:=2) sc_law_room.nd O (Or.inl O) zaf zmo)))
   (zag (zal (pv 2))))))),?rd⟩
  have kn4:decide (V.str (zdB kd)=V.str "pipe")=decide (kd=4):=zg4 (j:=4) kk.k5 (by decide)
  obtain⟨sz,hsz⟩:∃sz,sz=zdf kd ws:={_,O}
  have hs1:1<=sz/\sz<=4096:=by
   rw[hsz]
   unfold zdf
   split
   .decide
   .rename_i h;have:=kk.l1 h;have:=kk.ln;omega
  refine{_,O,m,_,_,_,O,O,SqL.of d.at_,O,row,_,O,.inl (SqL.of d.ls),?_}
  rw[zaq]
  try dsimp only[zay,List.set]
  refine zj9 (λU H'=>U=[some (.ref m),some (.int (ws.length:Int)),none]/\H=H') (λU H'=>U=[some (.ref m),some (.int (sz:Int)),none]/\H=H') ?_ ?_ _ _ ⟨O,O⟩
  .rintro _ _ ⟨rfl,rfl⟩ N hN
   refine{_,O,m,_,_,_,O,O,SqL.of d.at_,O,O,_,O,?_}
   rw[kn4]
   by_cases h4:kd=4
   .rw[Xal h4]
    refine iteT (hN _ _ {?_,O})
    rw[hsz];unfold zdf;rw[if_pos h4];rfl
   .rw[Xam h4]
    refine iteF (zar (hN _ _ {?_,O}))
    rw[hsz];unfold zdf;rw[if_neg h4]
  .rintro _ _ ⟨rfl,rfl⟩
   refine zgS (λU X=>∃r:Nat,U=[some (.ref m),some (.int (sz:Int)),some (.int (r:Int))]/\2 ^ r<=sz/\X=H) (λU _=>match U with|[_,_,some (.int r)]=>20-r.toNat|_=>0) {0,O,hs1.1,O} ?_ ?_
   .rintro U X ⟨r,rfl,h2,rfl⟩
    have hr12:r<=12:=by
     by_cases h:r<=12
     .exact h
     .have:2 ^ 13<=2 ^ r:=XaW (by decide) (by omega)
      omega
    have e2:(2:Int)*2 ^ ((r:Nat):Int).toNat=((2 ^ (r+1):Nat):Int):=by rw[Xap,Nat.pow_succ,Nat.mul_comm];norm_cast
    refine{_,O,_,_,O,O,{by omega,by omega,by decide},_,O,_,_,O,O,_,O,?_}
    rw[e2]
    refine ite2 (λhb=>?_) (λhb=>?_)
    .have hb:2 ^ (r+1)<=sz:=by have:=XaA hb;omega
     refine{_,O,_,_,O,O,{r+1,O,hb,O},?_}
     show 20-((r:Int)+1).toNat<20-((r:Nat):Int).toNat
     omega
    .have hb:sz<2 ^ (r+1):=by
      by_cases h:sz<2 ^ (r+1)
      .exact h
      .exact absurd (Xal (show((2 ^ (r+1):Nat):Int)<=(sz:Int) by omega)) hb
     exact{_,O,k r hr12 (by rw[<- hsz];exact h2) (by rw[<- hsz];exact hb)}
   .rintro U X Q1 Q2 hq h
    obtain⟨v,e,i,j,e1,e2,c,v2,e3,i2,j2,e4,e5,b,e6,h⟩:=h
    exact{v,e,i,j,e1,e2,c,v2,e3,i2,j2,e4,e5,b,e6,hq _ _ h}
abbrev zdX:Stmt:=top 90
def sc_law_row:FnScope ["bag","models","places","mask","want","inner","chip","left","place","which"] ["bag","models","places","mask","want"] (zai zdX):=sck O O O (by decide +kernel)
structure En5(D:Dt)(md rw:Nat->Addr)(ML p:Addr)(H:Hp)(us:Nat->List Nat):Prop where
 M:Mod D md rw H us
 eM:H ML=some (.lst (mdL D md))
 np:p≠ML/\∀i,i<D.m->p≠md i/\p≠rw i
 m1:1<=D.m
 m5:D.m<=50
def En5.keep{D:Dt}{md rw:Nat->Addr}{ML p:Addr}{H H':Hp}{us:Nat->List Nat}(e:En5 D md rw ML p H us)(k:KeepP p H H'):En5 D md rw ML p H' us:=
 {{λi h=>{k _ _ (Ne.symm (e.np.2 i h).1) (e.M.o i h).at_,k _ _ (Ne.symm (e.np.2 i h).2) (e.M.o i h).ls},e.M.k,e.M.h1,e.M.z,e.M.inj},k _ _ (Ne.symm e.np.1) e.eM,e.np,e.m1,e.m5}
def zau{p:Addr}{H H':Hp}(k:∀b,b≠p->H' b=H b):KeepP p H H':=λb o hb e=>by rw[k b hb];exact e
inductive spRow5(vs:List V)(H:Hp)(Q:VK)(u3_:XK):Prop
 | mk (p ML PL:Addr) (D:Dt) (md rw:Nat->Addr) (us:Nat->List Nat) (pls:List Nat) (bs wt n nb:Nat)(_:vs=[.ref p,.ref ML,.ref PL,.int (bs:Int),.int (wt:Int)])(_:Bg H p n)(_:n<2 ^ 30)(_:En5 D md rw ML p H us)(_:H PL=some (.lst (vN pls)))(_:p≠PL)(_:pls.Nodup)(_:nb<=16)(_:(∀q∈pls,q<nb/\bs.testBit q=false))(_:pls.length<=16)(_:(∀j,wt.testBit j=true->bs.testBit j=true))(_:∀(t:Addr) (m w i c:Nat) (H':Hp),H t=none->Rp bs wt pls m w i->c<D.m->2 ^ ones i<=D.sz c->H' t=some (.tup [.int (m:Int),.int (w:Int),.int (i:Int),.int (c:Int),.non])->Bg H' p (n+40)->KeepP p H H'->Q (.ref t) H')
def zhF{f:Addr}{fd:FuncData}(F:FunN K "_law_row" zdX f fd)(T:Blt mg)(G_law_draw:Cal P w K mg base 1 "_law_draw" ["bag","many"] spDw)(G_law_room:Cal P w K mg base 1 "_law_room" ["model"] spRoom):FnOk P w K mg base CX0 2 f fd ["bag","models","places","mask","want"] spRow5:=by
 refine F.ok sc_law_row (by walk_at"l") (λcdv A outer s H vs Q E hr h=>?_)
 .obtain⟨p,ML,PL,D,md,rw_,us,pls,bs,wt,n,nb,rfl,bg,hn,en,eP,npP,nd,hnb,hpl,hp16,hwt,k⟩:=h
  refine⟨_,(zad (ps_L 5 sc_law_row.nd zaf)
   (zad (ps_L 6 sc_law_row.nd (pe_c G_law_draw (zaa (pv 0) (zaa (zak zam (by rfl) T.len PySem.boot_len (zaa (pv 1) zab)) zab))))
   (zad (ps_L 7 sc_law_row.nd (pe_c G_law_room (zaa (pe_x zaz (pv 1) (pv 6)) zab)))
   (zad (zb2 PassesOwn.never O (zeR (pv 2)) (pg_L 8 sc_law_row.nd)
   (zad (ps_L 9 sc_law_row.nd (pe_c G_law_draw (zaa (pv 0) (zaa zaf zab))))
   (zag (zaA (zas zbS (pv 9) zaf (zaw _)) (zad (zfo (i:=3) sc_law_row.nd O (Or.inl O) (zat zch zaf (pv 8)) zjm)
   (zag (zfo (i:=4) sc_law_row.nd O (Or.inl O) (zat zch (pe_c G_law_draw (zaa (pv 0) (zaa zaf zab))) (pv 8)) zjm))) (zag (zaA (PW.pt (zld (zas zgo (pv 9) zaf (zaw _)) (ziL (zas zhz (pv 7) zaf (zaw _))))) (zad (zfo (i:=5) sc_law_row.nd O (Or.inl O) (zat zch zaf (pv 8)) zjm)
   (zag (zfo (i:=7) sc_law_row.nd O (Or.inl O) zaf zmn))) zan))))))
   (zag (zal (zaX (zaa (pv 3) (zaa (pv 4) (zaa (pv 5) (zaa (pv 6) (zaa zcH zab)))))))))))),?rd⟩
  have m1:=en.m1
  have m5:=en.m5
  refine{_,O,_,O,ML,_,O,.inl (SqL.of en.eM),?_}
  rw[zdc]
  refine{p,(D.m:Int),n,O,bg,by omega,by omega,by omega,λc H1 hc bg1 k1=>?_}
  have hc:c<D.m:=by omega
  have kp1:=zau k1
  have en1:=en.keep kp1
  have dc:=en1.M.o c hc
  refine{_,O,_,O,ML,_,_,_,O,O,SqL.of en1.eM,zaQ (zfC hc),md c,rw_ c,_,_,_,O,dc,en1.M.k c hc,λr hr12 hr1 _=>?_}
  rw[en1.M.z c hc] at hr1
  have eP1:=kp1 _ _ (Ne.symm npP) eP
  try dsimp only[zay,List.set]
  refine{_,O,PL,O,{_,SqL.of eP1},?_}
  refine zkO (K:=K) (a:=PL) (xs:=vN pls) (λj U X=>∃(v8 v9:Option V) (m w i l:Nat),U=[some (.ref p),some (.ref ML),some (.ref PL),some (.int (m:Int)),some (.int (w:Int)),some (.int (i:Int)),some (.int (c:Int)),some (.int (l:Int)),v8,v9]/\Rp bs wt (pls.take j) m w i/\ones i+l=r/\Bg X p (n+1+2*j)/\KeepP p H X) {_,_,bs,wt,0,r,O,{λ_ h=>h,λ_ h=>.inl h,hwt,λ_ _=>O,λj h=>by rw[Nat.zero_testBit] at h;cases h},by rw[ones0];omega,bg1,kp1} ?_ ?_ ?_
  .rintro j U X _ ⟨_,_,_,_,_,_,_,_,_,_,kX⟩
   exact SqL.of (kX _ _ (Ne.symm npP) eP)
  .rintro j y U X hy ⟨v8,v9,m,w,i,l,rfl,rp,hl,bgX,kX⟩
   obtain⟨q,hq,rfl⟩:=zij hy
   have hj:j<pls.length:=(Xas.mp hq).1
   obtain⟨q1,q2⟩:=hpl q (XaF hq)
   have et:pls.take (j+1)=pls.take j++[q]:=by rw[List.take_succ,hq];rfl
   have nq:q∉pls.take j:=λh=>by
    have h2:=nd
    rw[<- List.take_append_drop (j+1) pls,et] at h2
    have:=(XaT.mp (XaT.mp h2).1).2.2
    exact this q h q (Xae.mpr O) O
   have s1:(1:Int)*2 ^ ((q:Nat):Int).toNat=((2 ^ q:Nat):Int):=by rw[Int.one_mul,Xap];norm_cast
   refine{_,O,p,4,_,O,bgX,by omega,by decide,by decide,λwh X1 hwh bg2 k2=>?_}
   have kp2:=zau k2
   try dsimp only[zay,List.set]
   refine{_,O,O,_,O,ite2 (λ_=>?_) (λ_=>?_)}
   .refine{_,O,_,O,_,_,O,O,{by omega,by omega,by decide},_,_,O,O,?_}
    refine{_,O,_,O,p,2,_,O,bg2,by omega,by decide,by decide,λd X2 hd bg3 k3=>?_}
    refine{_,O,_,_,O,O,{by omega,by omega,by omega},_,_,O,O,?_}
    dsimp only[List.set]
    rw[s1,bor,show(d:Int)*2 ^ ((q:Nat):Int).toNat=((d*2 ^ q:Nat):Int) by rw[Xap];norm_cast,bor]
    exact{_,_,_,_,i,l,O,by rw[et];exact rp.ask nq q2 (by omega),hl,bg3.mono (by omega),kX.trans (kp2.trans (zau k3))}
   .refine{_,O,_,_,O,O,_,O,ite2 (λ_=>?_) (λ_=>zar {_,_,m,w,i,l,O,by rw[et];exact rp.skip,hl,bg2.mono (by omega),kX.trans kp2})}
    refine{_,O,_,_,O,O,_,O,ite2 (λhb=>?_) (λ_=>zar {_,_,m,w,i,l,O,by rw[et];exact rp.skip,hl,bg2.mono (by omega),kX.trans kp2})}
    have hb:0<l:=by have:=XaA hb;omega
    refine{_,O,_,O,_,_,O,O,{by omega,by omega,by decide},_,_,O,O,?_}
    refine{_,O,_,_,O,O,?_}
    dsimp only[List.set]
    rw[s1,bor,show(l:Int)-1=((l-1:Nat):Int) by omega]
    obtain⟨rp',ho⟩:=rp.show_ nq q2
    exact{_,_,m,w,_,l-1,O,by rw[et];exact rp',by rw[ho];omega,bg2.mono (by omega),kX.trans kp2}
  .rintro U X ⟨v8,v9,m,w,i,l,rfl,rp,hl,bgX,kX⟩
   rw[zaq,List.take_length] at rp
   rw[zaq] at bgX
   refine{_,O,_,O,_,O,_,O,by show 5<=sizeLine;decide,λt ht=>?_}
   refine k t m w i c _ ?_ rp hc ?_ zac ((bgX.same (zae ht)).mono (by omega)) (kX.trans (.of (zae ht)))
   .cases e:H t with
    | none=>rfl
    | some u =>
     rw[kX _ _ (bgX.ne ht) e] at ht;cases ht
   .exact Xak (XaW (by decide) (by omega)) hr1
abbrev zbN:Stmt:=top 91
def sc_law_latched:FnScope ["bag","models","row","latches","latch","mask","want","low","other","inner","second"] ["bag","models","row"] (zai zbN):=sck O O O (by decide +kernel)
def low_is:∀m:Nat,1<=m->m<=255->∃l:Nat,Builtin.bitAnd (m:Int) (-(m:Int))=(l:Int)/\l &&& m=l/\l≠0:=by
 have h:∀m:Nat,m<256->1<=m->(Builtin.bitAnd (m:Int) (-(m:Int))=((Builtin.bitAnd (m:Int) (-(m:Int))).toNat:Int)/\(Builtin.bitAnd (m:Int) (-(m:Int))).toNat &&& m=(Builtin.bitAnd (m:Int) (-(m:Int))).toNat/\(Builtin.bitAnd (m:Int) (-(m:Int))).toNat≠0):=by decide +kernel
 exactλm h1 h2=>{_,(h m (by omega) h1).1,(h m (by omega) h1).2.1,(h m (by omega) h1).2.2}
structure Lr(D:Dt)(m w i:Nat)(r:Rw):Prop where
 em:r.m=m/\r.w=w/\(r.i=i\/r.i=0)
 c:r.c<D.m/\2 ^ ones r.i<=D.sz r.c
 l:∃x a b,r.l=some (x,a,b)/\x<D.m/\D.kd x=2/\a<256/\b &&& a=b
inductive spLatd(vs:List V)(H:Hp)(Q:VK)(u3_:XK):Prop
 | mk (p ML t:Addr) (D:Dt) (md rw:Nat->Addr) (us:Nat->List Nat) (m w i c n:Nat)(_:vs=[.ref p,.ref ML,.ref t])(_:Bg H p n)(_:n<2 ^ 30)(_:En5 D md rw ML p H us)(_:H t=some (.tup [.int (m:Int),.int (w:Int),.int (i:Int),.int (c:Int),.non]))(_:c<D.m)(_:2 ^ ones i<=D.sz c)(_:i<2 ^ 16)(_:D.kd 0=2)(_:(∀i,i<D.m->1<=D.sz i))(_:∀(L:Addr) (rs:List (Addr×Rw)) (H':Hp),H L=none->H' L=some (.lst (refs rs))->rs.length<=2->(∀z∈rs,RwAt H' z.1 z.2/\Lr D m w i z.2)->rs.Pairwise (λa b=>NC a.2 b.2)->Bg H' p (n+40)->KeepP p H H'->Q (.ref L) H')
def zen{f:Addr}{fd:FuncData}(F:FunN K "_law_latched" zbN f fd)(T:Blt mg)(G_law_draw:Cal P w K mg base 1 "_law_draw" ["bag","many"] spDw)(G_law_room:Cal P w K mg base 1 "_law_room" ["model"] spRoom):FnOk P w K mg base CX0 2 f fd ["bag","models","row"] spLatd:=by
 refine F.ok sc_law_latched (by walk_at"l") (λcdv A outer s H vs Q E hr h=>?_)
 .obtain⟨p,ML,t,D,md,rw_,us,m,w,i,c,n,rfl,bg,hn,en,et,hc,hic,hi16,h02,hsz1,k⟩:=h
  refine⟨_,(zad (zb6 (i:=3) (Nc:=["k","models"]) [none,some 1] sc_law_latched.nd O O O (zaN (by rfl)) (za0 O T.range (zaa (zak zam (by rfl) T.len PySem.boot_len (zaa (pv 1) zab)) zab)) (λ_ _ _ _ _=>(pg_L 0 (show(["k","models"]:List Str).Nodup by decide +kernel))) (λ_ _ _ _ _=>(zlh (zas zbS (pe_x (ze3 (K:=K) O) (pe_x (ze3 (K:=K) O) (pv 1) (pv 0)) zaf) zaD (zaw _)))) (λ_ _ _ _ _=>(pv 0)))
   (zad (ps_L 4 sc_law_latched.nd (pe_x zaz (pv 3) (pe_c G_law_draw (zaa (pv 0) (zaa (zak zam (by rfl) T.len PySem.boot_len (zaa (pv 3) zab)) zab)))))
   (zad (ps_L 5 sc_law_latched.nd (zat za8 zaf (pe_c G_law_draw (zaa (pv 0) (zaa zaf zab)))))
   (zad (ps_L 6 sc_law_latched.nd (zat zcK (pe_c G_law_draw (zaa (pv 0) (zaa zaf zab))) (pv 5)))
   (zad (ps_L 7 sc_law_latched.nd (zat zcK (pv 5) (zl6 zil (pv 5))))
   (zad (ps_L 8 sc_law_latched.nd (pe_c G_law_draw (zaa (pv 0) (zaa (zak zam (by rfl) T.len PySem.boot_len (zaa (pv 1) zab)) zab))))
   (zad (ps_L 9 sc_law_latched.nd (zat zbR (pe_x za3 (pv 2) zaf) (zaH zf0 (by rfl) T.int zeh (zaa (zbE zmb (pe_c G_law_room (zaa (pe_x zaz (pv 1) (pv 8)) zab)) (pe_c G_law_room (zaa (pe_x zaz (pv 1) (pe_x za3 (pv 2) zaf)) zab)) (zaw _)) zab))))
   (zad (ps_L 10 sc_law_latched.nd (zaX (zaa (pe_x za3 (pv 2) zaf) (zaa (pe_x za3 (pv 2) zaf) (zaa (pv 9) (zaa (pv 8) (zaa (zaX (zaa (pv 4) (zaa (pv 5) (zaa (zat zlj (pv 6) (pv 7)) zab)))) zab)))))))
   (zag (zal (zb7 zix (zax (zaa (zat (zks (K:=K) O) (zb7 (zgd (K:=K) O) (pv 2) zc8 (zc7 zaf)) (zaX (zaa (zaX (zaa (pv 4) (zaa (pv 5) (zaa (pv 6) zab)))) zab))) (zaa (pv 10) zab))) zc8 (zc7 (zat za8 zaf (pe_c G_law_draw (zaa (pv 0) (zaa zaf zab)))))))))))))))),?rd⟩
  have m1:=en.m1
  have m5:=en.m5
  have ntp:t≠p:=λz=>by obtain⟨a,b,e,_⟩:=bg;rw[z,e] at et;cases et
  refine{_,O,ML,_,O,.inl (SqL.of en.eM),_,O,by rw[zdc];omega,by rw[zdc];omega,?_}
  rw[zdc,Xap]
  refine zcc (n:=D.m) (λj ys U Y=>∃(v0:Option V) (l:List Nat),U=[v0,some (.ref ML)]/\ys=vN l/\l.length<=j/\(∀x∈l,x<D.m/\D.kd x=2)/\(1<=j->l≠[])/\Y=H) (Xak m5 (by decide)) {none,[],O,O,Xad _,(λx h=>nomatch h),(λh=>absurd h (by decide)),O} ?_ ?_ ?_
  .rintro j ys U Y ⟨_,l,_,rfl,hl,_⟩
   rw[zaq];exact hl
  .rintro j ys U Y hj ⟨v0,l,rfl,rfl,hl,hx,hne,rfl⟩
   rw[Int.zero_add]
   have dj:=en.M.o j hj
   have kn:decide (V.str (zdB (D.kd j))=V.str "latch")=decide (D.kd j=2):=zg4 (j:=2) (en.M.k j hj).k5 (by decide)
   refine{_,O,_,O,ML,_,_,_,O,O,SqL.of en.eM,zaQ (zfC hj),md j,_,_,_,O,O,SqL.of dj.at_,O,O,_,O,?_}
   rw[kn]
   by_cases h2:D.kd j=2
   .rw[Xal h2]
    refine iteT {_,O,_,l++[j],O,by rw[zeD],by rw[Xah];simp;omega,λx h=>?_,λ_=>by simp,O}
    rcases XaH.mp h with h|h
    .exact hx x h
    .obtain rfl:=Xae.mp h;exact⟨hj,h2⟩
   .rw[Xam h2]
    refine iteF {_,l,O,O,by omega,hx,λ_=>hne ?_,O}
    by_cases e:j=0
    .subst e;exact absurd h02 h2
    .omega
  .rintro ys U Y ⟨v0,l,rfl,rfl,hl,hx,hne,rfl⟩ LL hLL
   have hne:=hne m1
   have l1:1<=l.length:=by cases l with|nil=>exact absurd rfl hne|cons _ _=>simp
   have sL:=zae (H:=Y) (o:=.lst (vN l)) hLL
   have npL:LL≠p:=bg.ne hLL
   have eLL:upd Y LL (.lst (vN l)) LL=some (.lst (vN l)):=zac
   have bgL:=bg.same sL
   have kL:KeepP p Y (upd Y LL (.lst (vN l))):=.of sL
   have enL:=en.keep kL
   have etL:=sL _ _ et
   generalize upd Y LL (.lst (vN l))=X0 at *
   refine{_,O,_,O,_,O,LL,_,O,.inl (SqL.of eLL),p,_,_,O,bgL,by omega,by rw[zaq];omega,by rw[zaq];omega,λr X1 hr1 bg1 k1=>?_}
   rw[zaq] at hr1
   have hr1:r<l.length:=by omega
   have hxr:=hx _ (Xa6 hr1)
   have hat:atI (vN l) (r:Int)=some (.int (l[r]:Int)):=zaQ (zik (Xaz hr1))
   generalize l[r]=lc at hxr hat
   refine{LL,_,_,_,O,O,SqL.of (by rw[k1 _ npL];exact eLL),hat,?_}
   refine{_,O,p,255,_,O,bg1,by omega,by decide,by decide,λa0 X2 ha0 bg2 k2=>{_,_,O,O,?_}}
   try dsimp only[zay,List.set]
   rw[show(1:Int)+(a0:Int)=((1+a0:Nat):Int) by omega]
   obtain⟨low,elow,lm,l0⟩:=low_is (1+a0) (by omega) (by omega)
   generalize hma:1+a0=ma at *
   refine{_,O,p,256,_,O,bg2,by omega,by decide,by decide,λb0 X3 hb0 bg3 k3=>{_,O,_,_,O,O,?_}}
   try dsimp only[zay,List.set]
   rw[band]
   refine{_,O,_,O,_,O,_,_,O,O,?_}
   try dsimp only[zay,List.set]
   rw[elow]
   have k03:KeepP p X0 X3:=(zau k1).trans ((zau k2).trans (zau k3))
   have en3:=enL.keep k03
   refine{_,O,_,O,ML,_,O,.inl (SqL.of en3.eM),?_}
   rw[zdc]
   refine{p,(D.m:Int),_,O,bg3,by omega,by omega,by omega,λot X4 hot bg4 k4=>?_}
   have hot:ot<D.m:=by omega
   have k04:=k03.trans (zau k4)
   have en4:=enL.keep k04
   have et4:=k04 _ _ ntp etL
   refine{_,O,t,_,_,_,O,O,SqT.of et4,O,_,O,_,O,ML,_,_,_,O,O,SqL.of en4.eM,zaQ (zfC hot),md ot,rw_ ot,_,_,_,O,en4.M.o ot hot,en4.M.k ot hot,λro ro12 ro1 ro2=>?_}
   refine{_,O,_,O,t,_,_,_,O,O,SqT.of et4,O,ML,_,_,_,O,O,SqL.of en4.eM,zaQ (zfC hc),md c,rw_ c,_,_,_,O,en4.M.o c hc,en4.M.k c hc,λrc rc12 rc1 rc2=>{_,_,O,O,.inr {_,O,?_}}}
   rw[en4.M.z ot hot] at ro1
   rw[en4.M.z c hc] at rc2
   obtain⟨i2,hi2,hi2f,ei2⟩:∃i2:Nat,(i2=i\/i2=0)/\2 ^ ones i2<=D.sz ot/\(i:Int)*(if decide ((rc:Int)<=(ro:Int))=true then 1 else 0)=(i2:Int):=by
    by_cases h:(rc:Int)<=(ro:Int)
    .refine{i,.inl O,?_,by rw[Xal h];simp}
     have h1:2 ^ ones i<2 ^ (rc+1):=by omega
     have h2:ones i<rc+1:=(Nat.pow_lt_pow_iff_right (by decide)).mp h1
     exact Xak (XaW (by decide) (by omega)) ro1
    .exact{0,.inr O,by rw[ones0];exact hsz1 ot hot,by rw[Xam h];simp}
   refine{_,_,O,O,zci (by omega) (by split<;>decide),?_}
   try dsimp only[zay,List.set]
   rw[ei2]
   obtain⟨wa,hwa⟩:∃wa,wa=b0 &&& ma:={_,O}
   rw[<- hwa]
   have wam:wa &&& ma=wa:=by rw[hwa,Nat.and_assoc,Nat.and_self]
   have wlm:(wa ^^^ low) &&& ma=wa ^^^ low:=by rw[Nat.and_xor_distrib_right,wam,lm]
   have ma1:ma<256:=by omega
   refine{_,O,t,_,_,_,O,O,SqT.of et4,O,_,O,t,_,_,_,O,O,SqT.of et4,O,_,O,_,O,_,O,_,O,_,O,_,O,_,_,O,O,by show 3<=sizeLine;decide,λu2 hu2=>{by show 5<=sizeLine;decide,λt2 ht2=>?_}}
   dsimp only at ht2 ⊢
   rw[bxor] at ht2 ⊢
   have s5:=(zae (H:=X4) (o:=.tup [.int (lc:Int),.int (ma:Int),.int ((wa ^^^ low:Nat):Int)]) hu2).trans (zae (o:=.tup [.int (m:Int),.int (w:Int),.int (i2:Int),.int (ot:Int),.ref u2]) ht2)
   have ra2:RwAt (upd (upd X4 u2 (.tup [.int (lc:Int),.int (ma:Int),.int ((wa ^^^ low:Nat):Int)])) t2 (.tup [.int (m:Int),.int (w:Int),.int (i2:Int),.int (ot:Int),.ref u2])) t2 ⟨m,w,i2,ot,some (lc,ma,wa ^^^ low)⟩:={.ref u2,zac,u2,O,zae ht2 _ _ zac}
   generalize upd (upd X4 u2 (.tup [.int (lc:Int),.int (ma:Int),.int ((wa ^^^ low:Nat):Int)])) t2 (.tup [.int (m:Int),.int (w:Int),.int (i2:Int),.int (ot:Int),.ref u2])=X5 at *
   have et5:=s5 _ _ et4
   have ec:cutV [V.int (m:Int),.int (w:Int),.int (i:Int),.int (c:Int),.non] none (some 4)=[.int (m:Int),.int (w:Int),.int (i:Int),.int (c:Int)]:=rfl
   refine{_,O,4,O,t,_,O,SqT.of et5,(λe=>by rw[ec] at e;exact absurd (congrArg List.length e) (by simp)),λq4 hq4=>?_}
   rw[ec]
   have s6:=zae (H:=X5) (o:=.tup [.int (m:Int),.int (w:Int),.int (i:Int),.int (c:Int)]) hq4
   refine{_,O,_,O,_,O,by show 3<=sizeLine;decide,λu1 hu1=>{by show 1<=sizeLine;decide,λs1 hs1=>?_}}
   have s7:=s6.trans ((zae (o:=.tup [.int (lc:Int),.int (ma:Int),.int (wa:Int)]) hu1).trans (zae (o:=.tup [V.ref u1]) hs1))
   refine{q4,s1,_,_,O,O,SqT.of (zae hs1 _ _ (zae hu1 _ _ zac)),SqT.of zac,by show 5<=sizeLine;decide,(λe=>nomatch e),(λe=>nomatch e),λt1 ht1=>?_}
   rw[show([V.int (m:Int),.int (w:Int),.int (i:Int),.int (c:Int)]++[V.ref u1]:List V)=[.int (m:Int),.int (w:Int),.int (i:Int),.int (c:Int),.ref u1] from O]
   have s8:=s7.trans (zae (o:=.tup [.int (m:Int),.int (w:Int),.int (i:Int),.int (c:Int),.ref u1]) ht1)
   have ra1:RwAt (upd (upd (upd (upd X5 q4 (.tup [.int (m:Int),.int (w:Int),.int (i:Int),.int (c:Int)])) u1 (.tup [.int (lc:Int),.int (ma:Int),.int (wa:Int)])) s1 (.tup [V.ref u1])) t1 (.tup [.int (m:Int),.int (w:Int),.int (i:Int),.int (c:Int),.ref u1])) t1 ⟨m,w,i,c,some (lc,ma,wa)⟩:={.ref u1,zac,u1,O,zae ht1 _ _ (zae hs1 _ _ zac)}
   refine{_,O,by show 2<=sizeLine;decide,λL0 hL0=>?_}
   have sZ:=s8.trans (zae (o:=.lst [V.ref t1,.ref t2]) hL0)
   have raZ1:=ra1.same (zae (o:=.lst [V.ref t1,.ref t2]) hL0)
   have eL0:upd (upd (upd (upd (upd X5 q4 (.tup [.int (m:Int),.int (w:Int),.int (i:Int),.int (c:Int)])) u1 (.tup [.int (lc:Int),.int (ma:Int),.int (wa:Int)])) s1 (.tup [V.ref u1])) t1 (.tup [.int (m:Int),.int (w:Int),.int (i:Int),.int (c:Int),.ref u1])) L0 (.lst [V.ref t1,.ref t2]) L0=some (.lst [V.ref t1,.ref t2]):=zac
   generalize upd (upd (upd (upd (upd X5 q4 (.tup [.int (m:Int),.int (w:Int),.int (i:Int),.int (c:Int)])) u1 (.tup [.int (lc:Int),.int (ma:Int),.int (wa:Int)])) s1 (.tup [V.ref u1])) t1 (.tup [.int (m:Int),.int (w:Int),.int (i:Int),.int (c:Int),.ref u1])) L0 (.lst [V.ref t1,.ref t2])=Z at *
   have bgZ:=(bg4.same s5).same sZ
   refine{_,O,p,2,_,O,bgZ,by omega,by decide,by decide,λd Z1 hd bg5 k5=>{_,_,O,O,_,O,?_}}
   have ktup:∀{x:Addr} {r:Rw},RwAt Z x r->RwAt Z1 x r:=λ{x r} ⟨lt,e1,e2⟩=>by
    have nt:∀{y:Addr} {v:List V},Z y=some (.tup v)->Z1 y=some (.tup v):=λ{y v} e=>by
     rw[k5 y (λq=>by obtain⟨a',b',e',_⟩:=bgZ;rw[q,e'] at e;cases e)];exact e
    refine{lt,nt e1,?_}
    cases hl':r.l with
    | none=>rw[hl'] at e2;exact e2
    | some q =>
     rw[hl'] at e2
     obtain⟨u,eu,hu⟩:=e2
     exact{u,eu,nt hu}
   have nL0:L0≠p:=λq=>by obtain⟨a',b',e',_⟩:=bgZ;rw[q,e'] at eL0;cases eL0
   have eL1:Z1 L0=some (.lst [.ref t1,.ref t2]):=by rw[k5 _ nL0];exact eL0
   refine{L0,_,O,SqL.of eL1,λL hL=>?_}
   have kAll:KeepP p Y Z1:=kL.trans (k04.trans ((KeepP.of s5).trans ((KeepP.of sZ).trans (zau k5))))
   have hLY:Y L=none:=by
    cases e:Y L with
    | none=>rfl
    | some u =>
     rw[kAll _ _ (bg5.ne hL) e] at hL;cases hL
   have g1:Lr D m w i ⟨m,w,i,c,some (lc,ma,wa)⟩:={{O,O,.inl O},⟨hc,hic⟩,_,_,_,O,hxr.1,hxr.2,ma1,wam}
   have g2:Lr D m w i ⟨m,w,i2,ot,some (lc,ma,wa ^^^ low)⟩:={⟨O,O,hi2⟩,⟨hot,hi2f⟩,_,_,_,O,hxr.1,hxr.2,ma1,wlm}
   have nc:NC ⟨m,w,i,c,some (lc,ma,wa)⟩ ⟨m,w,i2,ot,some (lc,ma,wa ^^^ low)⟩:=by
    refine NC.of_lat ?_ ?_
    .show(if lc=lc then agr ma wa ma (wa ^^^ low) else true)=false
     rw[if_pos O]
     refine Xam λq=>l0 ?_
     rw[<- Nat.xor_assoc,Nat.xor_self,Nat.zero_xor,lm,lm] at q;exact q
    .show(if lc=lc then agr ma (wa ^^^ low) ma wa else true)=false
     rw[if_pos O]
     refine Xam λq=>l0 ?_
     rw[Nat.xor_comm,<- Nat.xor_assoc,Nat.xor_self,Nat.zero_xor,lm,lm] at q;exact q
   rcases(show d=0\/d=1 by omega) with rfl|rfl
   .refine k L [(t1,{m,w,i,c,some (lc,ma,wa)})] _ hLY zac (by simp) (λz hz=>?_) (List.pairwise_singleton _ _) ((bg5.same (zae hL)).mono (by omega)) (kAll.trans (.of (zae hL)))
    obtain rfl:=Xae.mp hz
    exact{(ktup raZ1).same (zae hL),g1}
   .refine k L [(t1,{m,w,i,c,some (lc,ma,wa)}),(t2,{m,w,i2,ot,some (lc,ma,wa ^^^ low)})] _ hLY zac (by simp) (λz hz=>?_) (List.pairwise_cons.mpr {λb hb=>by rw[Xae.mp hb];exact nc,List.pairwise_singleton _ _}) ((bg5.same (zae hL)).mono (by omega)) (kAll.trans (.of (zae hL)))
    rcases Xan.mp hz with rfl|hz
    .exact{(ktup raZ1).same (zae hL),g1}
    .obtain rfl:=Xae.mp hz
     exact{(ktup (ra2.same sZ)).same (zae hL),g2}
def smP:List Nat->Nat
 | []=>0
 | i::l=>2 ^ i+smP l
def zjt{α β:Type}(f:α->β):∀(l:List α) (k:Nat),(l.map f).eraseIdx k=(l.eraseIdx k).map f
 | [],_=>rfl
 | a::l,0=>rfl
 | a::l,k+1=>by rw[XaR,List.eraseIdx_cons_succ,List.eraseIdx_cons_succ,XaR,zjt f l k]
def zk7:∀(l:List Nat),l.Nodup->∀j,(smP l).testBit j=decide (j∈l)
 | [],_,j=>by simp[smP]
 | i::l,h,j=>by
  obtain⟨h1,h2⟩:=Xbx.mp h
  have ih:=zk7 l h2
  have hd:2 ^ i &&& smP l=0:=Nat.eq_of_testBit_eq λq=>by
   rw[XaP,Xbi,Nat.zero_testBit,ih q]
   by_cases e:i=q
   .subst e;rw[Xam h1,Xbo]
   .rw[Xam e,Xba]
  show(2 ^ i+smP l).testBit j=_
  rw[<- zi0 _ _ hd,Nat.testBit_or,Xbi,ih j]
  by_cases e:j=i
  .subst e;simp
  .rw[Xam (Ne.symm e),Bool.false_or];simp[e]
def wtS:List Nat->Nat->Nat->Nat
 | [],_,_=>0
 | b::l,k,v=>(v / 2 ^ k % 2)*2 ^ b+wtS l (k+1) v
def zie:∀(l:List Nat),l.Nodup->∀(k v j:Nat),(wtS l k v).testBit j=true↔∃q,l[q]?=some j/\v.testBit (k+q)=true
 | [],_,k,v,j=>by simp[wtS]
 | b::l,h,k,v,j=>by
  obtain⟨h1,h2⟩:=Xbx.mp h
  have ih:=zie l h2 (k+1) v
  have hv:v / 2 ^ k % 2=if v.testBit k then 1 else 0:=by
   rw[Nat.testBit_eq_decide_div_mod_eq]
   by_cases e:v / 2 ^ k % 2=1
   .rw[Xal e,e];rfl
   .rw[Xam e];show _=0;omega
  have hnb:(wtS l (k+1) v).testBit b=false:=by
   cases e:(wtS l (k+1) v).testBit b with
   | false=>rfl
   | true =>
    obtain⟨q,hq,_⟩:=(ih b).mp e
    exact absurd (XaF hq) h1
  have hd:(v / 2 ^ k % 2)*2 ^ b &&& wtS l (k+1) v=0:=Nat.eq_of_testBit_eq λq=>by
   rw[XaP,Nat.zero_testBit]
   by_cases e:q=b
   .subst e;rw[hnb,Xbo]
   .rw[hv]
    cases v.testBit k with
    | false=>simp
    | true=>rw[if_pos O,Nat.one_mul,Xbi,Xam (Ne.symm e),Xba]
  show((v / 2 ^ k % 2)*2 ^ b+wtS l (k+1) v).testBit j=true↔_
  rw[<- zi0 _ _ hd,Nat.testBit_or,XbG,ih j,hv]
  constructor
  .rintro(h|⟨q,h,e⟩)
   .cases hk:v.testBit k with
    | false=>rw[hk] at h;simp at h
    | true =>
     rw[hk,if_pos O,Nat.one_mul,Xbi] at h
     exact{0,by rw[<- XaA h];rfl,hk}
   .exact{q+1,h,by rw[show k+(q+1)=k+1+q by omega];exact e}
  .rintro⟨q,h,e⟩
   cases q with
   | zero =>
    left
    rw[Nat.add_zero] at e
    rw[e,if_pos O,Nat.one_mul,Xbi]
    exact Xal (Option.some.inj h)
   | succ q=>exact .inr {q,h,by rw[show k+1+q=k+(q+1) by omega];exact e}
def wtS_ne{l:List Nat}(h:l.Nodup){v u:Nat}(hv:v<2 ^ l.length)(hu:u<2 ^ l.length)(e:v≠u):∃b∈l,(wtS l 0 v).testBit b≠(wtS l 0 u).testBit b:=by
 obtain⟨q,hq⟩:∃q,v.testBit q≠u.testBit q:=by
  by_cases h:∃q,v.testBit q≠u.testBit q
  .exact h
  .exact absurd (Nat.eq_of_testBit_eq λq=>by by_cases x:v.testBit q=u.testBit q;exact x;exact absurd ⟨q,x⟩ h) e
 have hql:q<l.length:=by
  by_cases x:q<l.length
  .exact x
  .have p:∀z,z<2 ^ l.length->z.testBit q=false:=λz hz=>Nat.testBit_lt_two_pow (Xao hz (XaW (by decide) (by omega)))
   rw[p v hv,p u hu] at hq;exact absurd O hq
 have tb:∀z:Nat,(wtS l 0 z).testBit l[q]=z.testBit q:=λz=>by
  have:=zie l h 0 z l[q]
  cases x:z.testBit q with
  | true=>exact this.mpr {q,Xaz hql,by rw[Nat.zero_add];exact x}
  | false =>
   cases y:(wtS l 0 z).testBit l[q] with
   | false=>rfl
   | true =>
    obtain⟨q',h1,h2⟩:=this.mp y
    obtain⟨a1,a2⟩:=Xas.mp h1
    have:q'=q:=(List.getElem_inj h).mp a2
    rw[this,Nat.zero_add,x] at h2;cases h2
 exact{l[q],Xa6 hql,by rw[tb,tb];exact hq}
def zkP{n a b s:Nat}(hn:n<=3)(ha:a<2 ^ n)(hb:b<2 ^ n)(h:(a*5+s) % 2 ^ n=(b*5+s) % 2 ^ n):a=b:=by
 rcases(show n=0\/n=1\/n=2\/n=3 by omega) with rfl|rfl|rfl|rfl<;>simp at ha hb h<;>omega
def zlP(n p:Nat):Builtin.bitAnd ((n:Int) / 2 ^ ((p:Nat):Int).toNat) 1=((n / 2 ^ p % 2:Nat):Int):=by
 rw[Xap,show(n:Int) / 2 ^ p=((n / 2 ^ p:Nat):Int) by norm_cast,show(1:Int)=((1:Nat):Int) from O,band,Nat.and_one_is_mod]
abbrev zc2:Stmt:=top 92
def sc_law_rows:FnScope ["bag","bits","models","places","base","k","mask","rows","start","value","want","way","row"] ["bag","bits","models"] (zai zc2):=sck O O O (by decide +kernel)
inductive spRows5(vs:List V)(H:Hp)(Q:VK)(u3_:XK):Prop
 | mk (p ML:Addr) (D:Dt) (md rw:Nat->Addr) (us:Nat->List Nat) (n nb:Nat)(_:vs=[.ref p,.int (nb:Int),.ref ML])(_:Bg H p n)(_:n<2 ^ 29)(_:En5 D md rw ML p H us)(_:1<=nb)(_:nb<=16)(_:D.kd 0=2)(_:(∀i,i<D.m->1<=D.sz i))(_:∀(R:Addr) (ws:List (Addr×Rw)) (H':Hp),H R=none->H' R=some (.tup (refs ws))->RwsAt2 nb H' ws->(∀z∈ws,Fit D z.2)->ws.Pairwise (λa b=>NC a.2 b.2)->ws.length<=16->Bg H' p (n+3000)->KeepP p H H'->Q (.ref R) H')
def RwAt.keepP{p:Addr}{H H':Hp}{t:Addr}{r:Rw}{n:Nat}(h:RwAt H t r)(b:Bg H p n)(k:KeepP p H H'):RwAt H' t r:=by
 obtain⟨a,c,e,_⟩:=b
 have nt:∀{y:Addr} {v:List V},H y=some (.tup v)->H' y=some (.tup v):=λ{y v} e'=>k _ _ (λq=>by rw[q,e] at e';cases e') e'
 obtain⟨lt,e1,e2⟩:=h
 refine{lt,nt e1,?_}
 cases hl:r.l with
 | none=>rw[hl] at e2;exact e2
 | some q =>
  rw[hl] at e2
  obtain⟨u,eu,hu⟩:=e2
  exact{u,eu,nt hu}
structure RsG(D:Dt)(nb:Nat)(bas:List Nat)(st i:Nat)(Y:Hp)(ws:List (Addr×Rw)):Prop where
 at_:RwsAt2 nb Y ws
 fit:∀z∈ws,Fit D z.2
 pw:ws.Pairwise (λa b=>NC a.2 b.2)
 ln:ws.length<=2*i
 bs:∀z∈ws,∃j,j<i/\∀b∈bas,z.2.m.testBit b=true/\z.2.w.testBit b=(wtS bas 0 ((j*5+st) % 2 ^ bas.length)).testBit b
def RsG.add{D:Dt}{nb:Nat}{bas:List Nat}{st i:Nat}{Y:Hp}{ws rs:List (Addr×Rw)}(g:RsG D nb bas st i Y ws)(nd:bas.Nodup)(h3:bas.length<=3)(hi:i<2 ^ bas.length)(ra:RwsAt2 nb Y rs)(f:∀z∈rs,Fit D z.2)(pw:rs.Pairwise (λa b=>NC a.2 b.2))(ln:rs.length<=2)
  (hb:∀z∈rs,∀b∈bas,z.2.m.testBit b=true/\z.2.w.testBit b=(wtS bas 0 ((i*5+st) % 2 ^ bas.length)).testBit b):RsG D nb bas st (i+1) Y (ws++rs):=by
 refine{λz hz=>(XaH.mp hz).elim (g.at_ z) (ra z),λz hz=>(XaH.mp hz).elim (g.fit z) (f z),List.pairwise_append.mpr {g.pw,pw,λa ha b hb'=>?_},by have:=g.ln;rw[Xah];omega,λz hz=>?_}
 .obtain⟨j,hj,e⟩:=g.bs a ha
  have e2:=hb b hb'
  have p0:0<2 ^ bas.length:=Nat.two_pow_pos _
  obtain⟨q,hq,ne⟩:=wtS_ne nd (Nat.mod_lt (j*5+st) p0) (Nat.mod_lt (i*5+st) p0) (λh=>by have:=zkP h3 (by omega) hi h;omega)
  exact zmh (e q hq).1 (e2 q hq).1 (by rw[(e q hq).2,(e2 q hq).2];exact ne)
 .rcases XaH.mp hz with hz|hz
  .obtain⟨j,hj,e⟩:=g.bs z hz;exact{j,by omega,e}
  .exact{i,by omega,hb z hz}
def RsG.keepP{D:Dt}{nb:Nat}{bas:List Nat}{st i n:Nat}{p:Addr}{Y Z:Hp}{ws:List (Addr×Rw)}(g:RsG D nb bas st i Y ws)(b:Bg Y p n)(k:KeepP p Y Z):RsG D nb bas st i Z ws:={λz hz=>{(g.at_ z hz).1.keepP b k,(g.at_ z hz).2},g.fit,g.pw,g.ln,g.bs}
def zgx{f:Addr}{fd:FuncData}(F:FunN K "_law_rows" zc2 f fd)(T:Blt mg)(G_law_draw:Cal P w K mg base 1 "_law_draw" ["bag","many"] spDw)(G_law_row:Cal P w K mg base 2 "_law_row" ["bag","models","places","mask","want"] spRow5)(G_law_latched:Cal P w K mg base 2 "_law_latched" ["bag","models","row"] spLatd):FnOk P w K mg base CX0 3 f fd ["bag","bits","models"] spRows5:=by
 refine F.ok sc_law_rows (by walk_at"l") (λcdv A outer s H vs Q E hr h=>?_)
 .obtain⟨p,ML,D,md,rw_,us,n,nb,rfl,bg,hn,en,hb1,hb16,h02,hsz1,k⟩:=h
  refine'⟨_,(zad (@ps_L _ _ _ _ _ _ 3 sc_law_rows.nd (@zaH _ _ _ _ _ _ _ _ _ (zh1 O) (by rfl) T.list zcz (@zaa _ _ _ _ _ (@zaH _ _ _ _ _ _ _ _ _ zfY (by rfl) T.range PyProof.Rows.boot_range (@zaa _ _ _ _ _ (@pv _ 1 _ _ (by rfl) (by walk_at"o") (by decide) (by decide)) (@zab _) (by rfl)) (by decide) (by decide) (by rfl) (by rfl)) (@zab _) (by rfl)) (by decide) (by decide) (by rfl) (by rfl)) (by rfl) (by exact Or.inl O) (by rfl) (by walk_at"p"))
   (zad (@zev _ _ (4) _ _ _ _ sc_law_rows.nd O (Or.inr O) (@zax _ _ _ _ (@zab _)) (by rfl) (by walk_at"p"))
   (zad (@zb2 _ _ _ _ _ _ _ _ PassesOwn.never O (@za0 _ _ _ _ _ _ O T.range (@zaa _ _ _ _ _ (@zat _ _ _ _ _ _ _ _ za8 (@zaf _ _ _ _) (@pe_c _ _ _ _ _ _ _ _ _ _ G_law_draw (@zaa _ _ _ _ _ (@pv _ 0 _ _ (by rfl) (by walk_at"o") (by decide) (by decide)) (@zaa _ _ _ _ _ (@zak _ _ _ _ _ _ _ _ _ (zjJ O) (by rfl) T.min PyProof.Rows.boot_min (@zaa _ _ _ _ _ (@zaf _ _ _ _) (@zaa _ _ _ _ _ (@pv _ 1 _ _ (by rfl) (by walk_at"o") (by decide) (by decide)) (@zab _) (by rfl)) (by rfl)) (by decide) (by decide) (by rfl) (by rfl)) (@zab _) (by rfl)) (by rfl)) (by exact hrm (by assumption)) (by rfl) (by decide) (by rfl) (by rfl))) (@zab _) (by rfl)) (by rfl)) (@pg_L _ _ _ 5 sc_law_rows.nd (by rfl) (by exact Or.inl O) (by walk_at"p")) (@zag _ _ _ (@zaJ _ _ _ _ (@zda _ _ _ _ _ _ _ _ _ _ _ _ PySem.F.plainAttrs_list PySem.F.slot_list_append PySem.F.type_list_append zbr (@pv _ 4 _ _ (by rfl) (by walk_at"o") (by decide) (by decide)) (@zaa _ _ _ _ _ (@zda _ _ _ _ _ _ _ _ _ _ _ _ PySem.F.plainAttrs_list PySem.F.slot_list_pop PySem.F.type_list_pop zky (@pv _ 3 _ _ (by rfl) (by walk_at"o") (by decide) (by decide)) (@zaa _ _ _ _ _ (@pe_c _ _ _ _ _ _ _ _ _ _ G_law_draw (@zaa _ _ _ _ _ (@pv _ 0 _ _ (by rfl) (by walk_at"o") (by decide) (by decide)) (@zaa _ _ _ _ _ (@zak _ _ _ _ _ _ _ _ _ zam (by rfl) T.len PySem.boot_len (@zaa _ _ _ _ _ (@pv _ 3 _ _ (by rfl) (by walk_at"o") (by decide) (by decide)) (@zab _) (by rfl)) (by decide) (by decide) (by rfl) (by rfl)) (@zab _) (by rfl)) (by rfl)) (by exact hrm (by assumption)) (by rfl) (by decide) (by rfl) (by rfl)) (@zab _) (by rfl)) (by rfl) (by rfl) (by rfl) (by rfl) (by rfl)) (@zab _) (by rfl)) (by rfl) (by rfl) (by rfl) (by rfl) (by rfl)) (by rfl))) (by intro _;rfl))
   (zad (ps_L 6 sc_law_rows.nd (zak (zfV O) (by rfl) T.sum PyProof.Rows.boot_sum (zaa ?c2 zab)))
   (zad (@ps_L _ _ _ _ _ _ 7 sc_law_rows.nd (@zax _ _ _ _ (@zab _)) (by rfl) (by exact Or.inl O) (by rfl) (by walk_at"p"))
   (zad (@ps_L _ _ _ _ _ _ 8 sc_law_rows.nd (@pe_c _ _ _ _ _ _ _ _ _ _ G_law_draw (@zaa _ _ _ _ _ (@pv _ 0 _ _ (by rfl) (by walk_at"o") (by decide) (by decide)) (@zaa _ _ _ _ _ (@zaf _ _ _ _) (@zab _) (by rfl)) (by rfl)) (by exact hrm (by assumption)) (by rfl) (by decide) (by rfl) (by rfl)) (by rfl) (by exact Or.inl O) (by rfl) (by walk_at"p"))
   (zad (zb2 PassesOwn.never O (za0 O T.range (zaa (zat zch zaf (zak zam (by rfl) T.len PySem.boot_len (zaa (pv 4) zab))) zab)) (pg_L 5 sc_law_rows.nd)
   (zad (@zev _ _ (9) _ _ _ _ sc_law_rows.nd O (Or.inr O) (@zat _ _ _ _ _ _ _ _ zdj (@zat _ _ _ _ _ _ _ _ za8 (@zat _ _ _ _ _ _ _ _ zbR (@pv _ 5 _ _ (by rfl) (by walk_at"o") (by decide) (by decide)) (@zaf _ _ _ _)) (@pv _ 8 _ _ (by rfl) (by walk_at"o") (by decide) (by decide))) (@zat _ _ _ _ _ _ _ _ zch (@zaf _ _ _ _) (@zak _ _ _ _ _ _ _ _ _ zam (by rfl) T.len PySem.boot_len (@zaa _ _ _ _ _ (@pv _ 4 _ _ (by rfl) (by walk_at"o") (by decide) (by decide)) (@zab _) (by rfl)) (by decide) (by decide) (by rfl) (by rfl)))) (by rfl) (by walk_at"p"))
   (zad (ps_L 10 sc_law_rows.nd (zak (zfV O) (by rfl) T.sum PyProof.Rows.boot_sum (zaa ?c1 zab)))
   (zad (@ps_L _ _ _ _ _ _ 11 sc_law_rows.nd (@pe_c _ _ _ _ _ _ _ _ _ _ G_law_draw (@zaa _ _ _ _ _ (@pv _ 0 _ _ (by rfl) (by walk_at"o") (by decide) (by decide)) (@zaa _ _ _ _ _ (@zaf _ _ _ _) (@zab _) (by rfl)) (by rfl)) (by exact hrm (by assumption)) (by rfl) (by decide) (by rfl) (by rfl)) (by rfl) (by exact Or.inl O) (by rfl) (by walk_at"p"))
   (zad (@ps_L _ _ _ _ _ _ 12 sc_law_rows.nd (@pe_c _ _ _ _ _ _ _ _ _ _ G_law_row (@zaa _ _ _ _ _ (@pv _ 0 _ _ (by rfl) (by walk_at"o") (by decide) (by decide)) (@zaa _ _ _ _ _ (@pv _ 2 _ _ (by rfl) (by walk_at"o") (by decide) (by decide)) (@zaa _ _ _ _ _ (@pv _ 3 _ _ (by rfl) (by walk_at"o") (by decide) (by decide)) (@zaa _ _ _ _ _ (@pv _ 6 _ _ (by rfl) (by walk_at"o") (by decide) (by decide)) (@zaa _ _ _ _ _ (@pv _ 10 _ _ (by rfl) (by walk_at"o") (by decide) (by decide)) (@zab _) (by rfl)) (by rfl)) (by rfl)) (by rfl)) (by rfl)) (by exact hrm (by assumption)) (by rfl) (by decide) (by rfl) (by rfl)) (by rfl) (by exact Or.inl O) (by rfl) (by walk_at"p"))
   (zag (@zaA _ _ _ _ _ _ _ _ (@zas _ _ _ _ _ _ _ _ zhz (@pv _ 11 _ _ (by rfl) (by walk_at"o") (by decide) (by decide)) (@zaf _ _ _ _) (zaw _)) (@zag _ _ _ (@ps_L _ _ _ _ _ _ 7 sc_law_rows.nd (@zat _ _ _ _ _ _ _ _ zgq (@pv _ 7 _ _ (by rfl) (by walk_at"o") (by decide) (by decide)) (@pe_c _ _ _ _ _ _ _ _ _ _ G_law_latched (@zaa _ _ _ _ _ (@pv _ 0 _ _ (by rfl) (by walk_at"o") (by decide) (by decide)) (@zaa _ _ _ _ _ (@pv _ 2 _ _ (by rfl) (by walk_at"o") (by decide) (by decide)) (@zaa _ _ _ _ _ (@pv _ 12 _ _ (by rfl) (by walk_at"o") (by decide) (by decide)) (@zab _) (by rfl)) (by rfl)) (by rfl)) (by exact hrm (by assumption)) (by rfl) (by decide) (by rfl) (by rfl))) (by rfl) (by exact Or.inl O) (by rfl) (by walk_at"p"))) (@zag _ _ _ (@zaA _ _ _ _ _ _ _ _ (@zas _ _ _ _ _ _ _ _ zhz (@pv _ 11 _ _ (by rfl) (by walk_at"o") (by decide) (by decide)) (@zaf _ _ _ _) (zaw _)) (@zag _ _ _ (@zaJ _ _ _ _ (@zda _ _ _ _ _ _ _ _ _ _ _ _ PySem.F.plainAttrs_list PySem.F.slot_list_append PySem.F.type_list_append zbr (@pv _ 7 _ _ (by rfl) (by walk_at"o") (by decide) (by decide)) (@zaa _ _ _ _ _ (@pv _ 12 _ _ (by rfl) (by walk_at"o") (by decide) (by decide)) (@zab _) (by rfl)) (by rfl) (by rfl) (by rfl) (by rfl) (by rfl)) (by rfl))) (@zan _))))))))))
   (zag (@zal _ _ _ _ (@zaH _ _ _ _ _ _ _ _ _ zbT (by rfl) T.tuple zbx (@zaa _ _ _ _ _ (@pv _ 7 _ _ (by rfl) (by walk_at"o") (by decide) (by decide)) (@zab _) (by rfl)) (by decide) (by decide) (by rfl) (by rfl))))))))))),?rd⟩
  (case c1=>exact(zc9 (Nc:=["j","value","base"]) [none,some 9,some 4] O (zaN (by rfl)) (za0 O T.range (zaa (zak zam (by rfl) T.len PySem.boot_len (zaa (pv 4) zab)) zab)) (λ_ _ _ _ _=>(pg_L 0 (show(["j","value","base"]:List Str).Nodup by decide +kernel))) (λ_ _ _ _ _=>zcG) (λ_ _ _ _ _=>(zat zch (zat zcK (zat zlk (pv 1) (pv 0)) zaf) (pe_x (ze3 (K:=K) O) (pv 2) (pv 0))))))
  (case c2=>exact(zc9 (Nc:=["place"]) [none] O (zaN (by rfl)) (zeR (pv 4)) (λ_ _ _ _ _=>(pg_L 0 (show(["place"]:List Str).Nodup by decide +kernel))) (λ_ _ _ _ _=>zcG) (λ_ _ _ _ _=>(zat zch zaf (pv 0)))))
  have m1:=en.m1
  have m5:=en.m5
  refine{_,O,nb,O,λr0 hr0=>{r0,nb,O,zac,by omega,λPL hPL=>?_}}
  refine{by show 0<=sizeLine;decide,λBL hBL=>?_}
  have s0:=((zae (H:=H) (o:=.rng 0 (nb:Int)) hr0).trans (zae (o:=.lst ((List.range nb).map λ(b:Nat)=>V.int (b:Int))) hPL)).trans (zae (o:=.lst []) hBL)
  have npP:PL≠p:=(bg.same (zae hr0)).ne hPL
  have npB:BL≠p:=(bg.same ((zae hr0).trans (zae hPL))).ne hBL
  have nPB:PL≠BL:=λq=>by rw[<- q,zac] at hBL;cases hBL
  have ePL:upd (upd (upd H r0 (.rng 0 (nb:Int))) PL (.lst ((List.range nb).map λ(b:Nat)=>V.int (b:Int)))) BL (.lst []) PL=some (.lst (vN (List.range nb))):=zae hBL _ _ zac
  have eBL:upd (upd (upd H r0 (.rng 0 (nb:Int))) PL (.lst ((List.range nb).map λ(b:Nat)=>V.int (b:Int)))) BL (.lst []) BL=some (.lst (vN [])):=zac
  have hPH:H PL=none:=(zae hr0).free hPL
  have hBH:H BL=none:=((zae hr0).trans (zae hPL)).free hBL
  have kp0:KeepP p H (upd (upd (upd H r0 (.rng 0 (nb:Int))) PL (.lst ((List.range nb).map λ(b:Nat)=>V.int (b:Int)))) BL (.lst [])):=.of s0
  have bg0:=bg.same s0
  generalize upd (upd (upd H r0 (.rng 0 (nb:Int))) PL (.lst ((List.range nb).map λ(b:Nat)=>V.int (b:Int)))) BL (.lst [])=X0 at *
  obtain⟨mx,hmx,emx⟩:∃mx:Nat,(1<=mx/\mx<=3/\mx<=nb)/\(if(nb:Int)<3 then(nb:Int) else 3)=(mx:Int):=by
   by_cases h:(nb:Int)<3
   .exact{nb,{by omega,by omega,by omega},if_pos h}
   .exact{3,{by omega,by omega,by omega},if_neg h}
  refine{_,O,_,O,_,_,O,?_}
  rw[emx]
  refine{p,(mx:Int),n,O,bg0,by omega,by omega,by omega,λd X1 hd bg1 k1=>{_,_,O,O,_,O,by omega,by omega,?_}}
  rw[show(1:Int)+(d:Int)=((1+d:Nat):Int) by omega]
  rw[Xap]
  have kp1:=kp0.trans (zau k1)
  have keepH:∀{Y:Hp} {a:Addr} {u:HO},KeepP p H Y->H a=some u->a≠p->Y a=some u:=λ{Y a u} k e h=>k _ _ h e
  refine zb5 (n:=1+d) (λi U Y=>∃(v5:Option V) (pls bas:List Nat),U=[some (.ref p),some (.int (nb:Int)),some (.ref ML),some (.ref PL),some (.ref BL),v5,none,none,none,none,none,none,none]/\Y PL=some (.lst (vN pls))/\Y BL=some (.lst (vN bas))/\(bas++pls).Perm (List.range nb)/\bas.length=i/\Bg Y p (n+1+i)/\KeepP p H Y) {_,List.range nb,[],O,by rw[k1 _ npP];exact ePL,by rw[k1 _ npB];exact eBL,.rfl,O,bg1,kp1} ?_ ?_
  .rintro i U Y hi ⟨v5,pls,bas,rfl,eP,eB,pm,hbl,bgY,kY⟩
   have hlen:bas.length+pls.length=nb:=by have:=pm.length_eq;rw[Xah,Xa2] at this;exact this
   have hpl:1<=pls.length:=by omega
   refine{_,O,.inl {O,_,SqL.of eB},_,O,.inl {O,_,SqL.of eP},_,O,_,O,PL,_,O,.inl (SqL.of eP),p,_,_,O,bgY,by omega,by rw[zaq];omega,by rw[zaq];omega,λr Y1 hr1 bg2 k2=>?_}
   rw[zaq] at hr1
   have hr1:r<pls.length:=by omega
   have eP1:Y1 PL=some (.lst (vN pls)):=by rw[k2 _ npP];exact eP
   have eB1:Y1 BL=some (.lst (vN bas)):=by rw[k2 _ npB];exact eB
   refine{PL,_,_,r,_,O,O,eP1,by omega,by omega,(by rw[zaq];unfold seqIndex?;simp;omega),zik (Xaz hr1),?_}
   have ev:(vN pls).eraseIdx r=vN (pls.eraseIdx r):=zjt _ pls r
   rw[ev]
   refine{BL,_,_,O,O,by rw[zah (Ne.symm nPB)];exact eB1,zdN (by rw[zaq];omega),?_}
   refine{_,pls.eraseIdx r,bas++[pls[r]],O,by rw[zah nPB];exact zac,by rw[zac,zeD],?_,by rw[Xah,hbl];rfl,?_,λb o hb e=>?_}
   .rw[List.append_assoc]
    exact((L2.erase_perm hr1).append_left bas).trans pm
   .refine Bg.mono (n:=n+1+i+1) ?_ (by omega)
    obtain⟨a',c',e',z⟩:=bg2
    exact{a',c',by rw[zah (Ne.symm npB),zah (Ne.symm npP)];exact e',z}
   .rw[zah (λq=>by rw[q,hBH] at e;cases e),zah (λq=>by rw[q,hPH] at e;cases e),k2 b hb];exact kY b o hb e
  .rintro U Y ⟨v5,pls,bas,rfl,eP,eB,pm,hbl,bgY,kY⟩
   have nd:(bas++pls).Nodup:=pm.nodup_iff.mpr List.nodup_range
   obtain⟨nd1,nd2,nd3⟩:=XaT.mp nd
   have hmem:∀x,x∈bas\/x∈pls->x<nb:=λx hx=>List.mem_range.mp (pm.mem_iff.mp (XaH.mpr hx))
   have hlen:bas.length+pls.length=nb:=by have:=pm.length_eq;rw[Xah,Xa2] at this;exact this
   have hlb:1<=bas.length/\bas.length<=3:=by omega
   have tbM:=zk7 bas nd1
   try dsimp only
   refine{_,O,BL,O,{_,SqL.of eB},?_}
   refine zfS (K:=K) (a:=BL) (xs:=vN bas) (λj ys U X=>∃(v0:Option V) (ns:List Int),U=[v0]/\ys=ns.map V.int/\ns.length=j/\ns.sum+(smP (bas.drop j):Int)=(smP bas:Int)/\X=Y) (by rw[zaq];exact Xak hlb.2 (by decide)) {none,[],O,O,O,by simp,O} ?_ ?_ ?_
   .rintro j ys U X _ ⟨v0,ns,rfl,rfl,hl,_,rfl⟩
    exact{SqL.of eB,by rw[Xaf];omega}
   .rintro j x ys U X hx ⟨v0,ns,rfl,rfl,hl,hs,rfl⟩
    obtain⟨q,hq,rfl⟩:=zij hx
    obtain⟨hjl,hq'⟩:=Xas.mp hq
    have hqn:=hmem q (.inl (XaF hq))
    refine{_,O,_,_,O,O,{by omega,by omega,by decide},?_}
    try dsimp only
    rw[show(1:Int)*2 ^ ((q:Nat):Int).toNat=((2 ^ q:Nat):Int) by rw[Int.one_mul,Xap];norm_cast]
    refine{_,ns++[((2 ^ q:Nat):Int)],O,by rw[Xaw];rfl,by rw[Xah,hl];rfl,?_,O}
    rw[List.drop_eq_getElem_cons hjl,hq'] at hs
    have e:smP (q::bas.drop (j+1))=2 ^ q+smP (bas.drop (j+1)):=rfl
    rw[e] at hs
    rw[List.sum_append,List.sum_singleton,<- hs];omega
   .rintro ys U X ⟨v0,ns,rfl,rfl,hl,hs,rfl⟩ D0 hD0
    rw[zaq,List.drop_length] at hs
    have hs:ns.sum=(smP bas:Int):=by rw[<- hs];show _=_+((0:Nat):Int);omega
    refine{D0,ns,O,SqL.of zac,?_}
    rw[hs]
    try dsimp only[zay,List.set]
    refine{by show 0<=sizeLine;decide,λRL hRL=>?_}
    have kA:KeepP p X (upd (upd X D0 (.lst (ns.map V.int))) RL (.lst [])):=.of ((zae hD0).trans (zae hRL))
    have bgA:=bgY.same ((zae (o:=.lst (ns.map V.int)) hD0).trans (zae (o:=.lst []) hRL))
    have eRL:upd (upd X D0 (.lst (ns.map V.int))) RL (.lst []) RL=some (.lst (refs ([]:List (Addr×Rw)))):=zac
    have hRX:X RL=none:=(zae hD0).free hRL
    generalize upd (upd X D0 (.lst (ns.map V.int))) RL (.lst [])=XA at *
    try dsimp only[zay,List.set]
    refine{_,O,p,8,_,O,bgA,by omega,by decide,by decide,λst XB hst bgB kB=>?_}
    have hst:st<8:=by omega
    try dsimp only[zay,List.set]
    have c2:(1:Int)*2 ^ ((bas.length:Nat):Int).toNat=((2 ^ bas.length:Nat):Int):=by rw[Int.one_mul,Xap];norm_cast
    have kpB:=kA.trans (zau kB)
    refine{_,O,BL,_,O,.inl (SqL.of (kpB _ _ npB eB)),_,_,O,O,?_,?_}
    .rw[zaq];exact{by omega,by omega,by decide}
    try dsimp(proj:=false) only
    rw[zaq,c2]
    have hp8:2 ^ bas.length<=8:=XaW (n:=2) (by decide) hlb.2
    have npR:RL≠p:=λq=>by obtain⟨a',b',e',_⟩:=bgY;rw[q,e'] at hRX;cases hRX
    obtain⟨P2,hP2⟩:∃P2:Nat,P2=2 ^ bas.length:={_,O}
    rw[<- hP2] at hp8 ⊢
    refine{_,O,by omega,by omega,?_}
    rw[Xap]
    refine zb5 (n:=P2) (λi U Z=>∃(v5 v9 v10 v11 v12:Option V) (RL:Addr) (ws:List (Addr×Rw)),U=[some (.ref p),some (.int (nb:Int)),some (.ref ML),some (.ref PL),some (.ref BL),v5,some (.int (smP bas:Int)),some (.ref RL),some (.int (st:Int)),v9,v10,v11,v12]/\Z RL=some (.lst (refs ws))/\X RL=none/\RsG D nb bas st i Z ws/\Bg Z p (n+5+90*i)/\KeepP p X Z) {_,_,_,_,_,RL,[],O,by rw[kB _ npR];exact eRL,hRX,{(λ_ h=>nomatch h),(λ_ h=>nomatch h),.nil,Nat.zero_le _,(λ_ h=>nomatch h)},bgB.mono (by omega),kpB} ?_ ?_
    .rintro i U Z hi ⟨v5,v9,v10,v11,v12,RL,ws,rfl,eR,hRX,g,bgZ,kZ⟩
     try dsimp only[zay,List.set]
     have eBZ:=kZ _ _ npB eB
     have ePZ:=kZ _ _ npP eP
     have enZ:=en.keep (kY.trans kZ)
     refine{_,O,_,_,O,O,zci (by omega) (by decide),_,O,_,_,O,O,_,O,BL,_,O,.inl (SqL.of eBZ),_,_,O,O,?_,?_}
     .rw[zaq];exact{by omega,by omega,by decide}
     try dsimp(proj:=false) only
     rw[zaq,c2,<- hP2]
     refine{_,_,O,O,by omega,?_}
     try dsimp(proj:=false) only[zay,List.set]
     obtain⟨val,hval⟩:∃val:Nat,val=(i*5+st) % 2 ^ bas.length:={_,O}
     rw[show((0+(i:Int))*5+(st:Int)) % (P2:Int)=(val:Int) by rw[Int.zero_add,hval,<- hP2];norm_cast]
     refine{_,O,BL,_,O,.inl (SqL.of eBZ),_,O,by omega,by rw[zaq];omega,?_}
     rw[zaq,Xap]
     refine zcc (n:=bas.length) (λj ys U W=>∃(v0:Option V) (ns:List Int),U=[v0,some (.int (val:Int)),some (.ref BL)]/\ys=ns.map V.int/\ns.length=j/\ns.sum+(wtS (bas.drop j) j val:Int)=(wtS bas 0 val:Int)/\W=Z) (Xak hlb.2 (by decide)) {none,[],O,O,O,by simp,O} ?_ ?_ ?_
     .rintro j ys U W ⟨v0,ns,rfl,rfl,hl,_,rfl⟩
      rw[Xaf];omega
     .rintro j ys U W hj ⟨v0,ns,rfl,rfl,hl,hs,rfl⟩
      have hqn:=hmem bas[j] (.inl (Xa6 hj))
      rw[show(0:Int)+(j:Int)=(j:Int) by omega]
      refine{_,O,_,O,_,_,O,O,by omega,?_}
      refine{_,_,O,O,?_}
      try dsimp only
      rw[zlP]
      refine{_,O,_,O,BL,_,_,_,O,O,SqL.of eBZ,zaQ (zik (Xaz hj)),?_}
      refine{_,_,O,O,{by omega,by omega,by omega},?_}
      try dsimp only
      rw[show((val / 2 ^ j % 2:Nat):Int)*2 ^ ((bas[j]:Nat):Int).toNat=((val / 2 ^ j % 2*2 ^ bas[j]:Nat):Int) by rw[Xap];norm_cast]
      refine{_,ns++[((val / 2 ^ j % 2*2 ^ bas[j]:Nat):Int)],O,by rw[Xaw];rfl,by rw[Xah,hl];rfl,?_,O}
      rw[List.drop_eq_getElem_cons hj] at hs
      have e:wtS (bas[j]::bas.drop (j+1)) j val=val / 2 ^ j % 2*2 ^ bas[j]+wtS (bas.drop (j+1)) (j+1) val:=rfl
      rw[e] at hs
      rw[List.sum_append,List.sum_singleton,<- hs];omega
     .rintro ys U W ⟨v0,ns,rfl,rfl,hl,hs,rfl⟩ D1 hD1
      rw[List.drop_length] at hs
      have hs:ns.sum=(wtS bas 0 val:Int):=by rw[<- hs];show _=_+((0:Nat):Int);omega
      refine{D1,ns,O,SqL.of zac,?_}
      rw[hs]
      try dsimp(proj:=false) only[zay,List.set]
      have sC:=zae (o:=.lst (ns.map V.int)) hD1
      have bgC:=bgZ.same sC
      have kC:=kZ.trans (.of sC)
      have gC:=g.keepP bgZ (.of sC)
      have eRC:=sC _ _ eR
      generalize upd W D1 (.lst (ns.map V.int))=ZC at *
      refine{_,O,p,7,_,O,bgC,by omega,by decide,by decide,λway ZD hway bgD kD=>?_}
      have npR:RL≠p:=λq=>by obtain⟨a',b',e',_⟩:=bgY;rw[q,e'] at hRX;cases hRX
      have kpD:=kC.trans (zau kD)
      have gD:=gC.keepP bgC (zau kD)
      have eRD:=zau kD _ _ npR eRC
      try dsimp(proj:=false) only[zay,List.set]
      refine{_,O,_,O,_,O,_,O,_,O,p,ML,PL,D,md,rw_,us,pls,smP bas,wtS bas 0 val,_,nb,O,bgD,by omega,en.keep (kY.trans kpD),kpD _ _ npP eP,Ne.symm npP,nd2,hb16,λq hq=>{hmem q (.inr hq),?_},by omega,λj hj=>?_,λt m w i' c ZE ht rp hc hic et bgE kE=>?_}
      .rw[tbM q];exact Xam λh=>nd3 q h q hq O
      .obtain⟨q,hq,_⟩:=(zie bas nd1 0 val j).mp hj
       rw[tbM j];exact Xal (XaF hq)
      have gE:=gD.keepP bgD kE
      have kpE:=kpD.trans kE
      have eRE:=kE _ _ npR eRD
      have hbN:smP bas<2 ^ nb:=zcb λj hj=>by rw[tbM j] at hj;exact hmem j (.inl (XaA hj))
      have rok:∀c l,c<100->zmG l->RwOk nb ⟨m,w,i',c,l⟩:=λc l hc hl=>rp.ok hbN (λq hq=>hmem q (.inr hq)) hc hl
      have r0:=rok c none (by omega) trivial
      have hbs:∀b∈bas,m.testBit b=true/\w.testBit b=(wtS bas 0 ((i*5+st) % 2 ^ bas.length)).testBit b:=λb hb=>by
       have e:(smP bas).testBit b=true:=by rw[tbM b];exact Xal hb
       exact{rp.mb b e,by rw[<- hval];exact rp.wb b e}
      have hi2:i<2 ^ bas.length:=by rw[<- hP2];exact hi
      refine{_,O,_,_,O,O,_,O,ite2 (λ_=>?_) (λ_=>?_)}
      .refine{_,O,_,O,_,O,_,O,p,ML,t,D,md,rw_,us,m,w,i',c,_,O,bgE,by omega,en.keep (kY.trans kpE),et,hc,hic,Xao r0.i0 (XaW (by decide) hb16),h02,hsz1,λL rs ZF hL eL hr2 hrs pwr bgF kF=>?_}
       have gF:=gE.keepP bgE kF
       refine{RL,L,_,_,O,O,SqL.of (kF _ _ npR eRE),SqL.of eL,?_,λRN hRN=>?_}
       .rw[zaC,zaC]
        have:=g.ln
        exact Xak (show ws.length+rs.length<=100 by omega) (by decide)
       have kpF:=kpE.trans kF
       have hRNX:X RN=none:=by
        cases e:X RN with
        | none=>rfl
        | some u=>rw[kpF _ _ (bgF.ne hRN) e] at hRN;cases hRN
       refine{_,_,_,_,_,RN,ws++rs,O,by rw[zac];unfold refs;rw[Xaw],hRNX,RsG.keepP (gF.add nd1 hlb.2 hi2 (λz hz=>{(hrs z hz).1,?_}) (λz hz=>?_) pwr hr2 (λz hz b hb=>?_)) bgF (.of (zae hRN)),(bgF.same (zae hRN)).mono (by omega),kpF.trans (.of (zae hRN))}
       .obtain⟨⟨e1,e2,e3⟩,⟨f1,f2⟩,x,a,b,el,x1,x2,a1,ba⟩:=(hrs z hz).2
        obtain⟨z0,⟨zm,zw,zi,zc,zl⟩⟩:=z
        dsimp only at e1 e2 e3 f1 f2 el
        subst e1 e2 el
        rcases e3 with e3|e3
        .subst e3;exact rok zc _ (by omega) {by omega,a1,ba}
        .subst e3;exact{r0.m0,r0.w0,r0.wm,Nat.two_pow_pos _,Nat.zero_and _,(by show zc<100;omega),{by omega,a1,ba}}
       .obtain⟨_,⟨f1,f2⟩,x,a,b,el,x1,x2,a1,ba⟩:=(hrs z hz).2
        exact{f1,f2,λc' a' b' e=>by rw[el] at e;cases e;exact⟨x1,x2⟩}
       .obtain⟨⟨e1,e2,_⟩,_⟩:=(hrs z hz).2
        rw[e1,e2];exact hbs b hb
      .refine{_,O,_,_,O,O,_,O,ite2 (λ_=>?_) (λ_=>zar ?_)}
       .refine{_,O,.inl {O,_,SqL.of eRE},_,O,RL,_,_,O,O,eRE,zdN (by rw[zaC];have:=g.ln;omega),?_}
        have gN:=gE.add (rs:=[(t,⟨m,w,i',c,none⟩)]) nd1 hlb.2 hi2 (λz hz=>by obtain rfl:=Xae.mp hz;exact{{.non,et,O},r0}) (λz hz=>by obtain rfl:=Xae.mp hz;exact{hc,hic,λ_ _ _ e=>nomatch e}) (List.pairwise_singleton _ _) (by simp) (λz hz=>by obtain rfl:=Xae.mp hz;exact hbs)
        refine{_,_,_,_,_,RL,ws++[(t,⟨m,w,i',c,none⟩)],O,by rw[zac,ziJ],hRX,{gN.at_.updL eRE,gN.fit,gN.pw,gN.ln,gN.bs},?_,λb o hb e=>?_}
        .refine Bg.mono (n:=n+5+90*i+1+40) ?_ (by omega)
         obtain⟨a',c',e',z⟩:=bgE
         exact{a',c',by rw[zah (Ne.symm npR)];exact e',z}
        .rw[zah (λq=>by rw[q,hRX] at e;cases e)];exact kpE b o hb e
       .refine{_,_,_,_,_,RL,ws,O,eRE,hRX,{gE.at_,gE.fit,gE.pw,by have:=gE.ln;omega,λz hz=>?_},bgE.mono (by omega),kpE}
        obtain⟨j,hj,e⟩:=gE.bs z hz
        exact{j,by omega,e}
    .rintro U Z ⟨v5,v9,v10,v11,v12,RL,ws,rfl,eR,hRX,g,bgZ,kZ⟩
     refine{_,O,RL,_,O,.inl {SqL.of eR,λl hl=>?_}}
     have kHZ:=kY.trans kZ
     refine k l ws _ ?_ zac (g.at_.same (zae hl)) g.fit g.pw (by have:=g.ln;omega) ((bgZ.same (zae hl)).mono (by omega)) (kHZ.trans (.of (zae hl)))
     cases e:H l with
     | none=>rfl
     | some u=>rw[kHZ _ _ (bgZ.ne hl) e] at hl;cases hl
abbrev zc5:Stmt:=top 84
def sc_law_chip:FnScope ["bag","which","word","cells","words","room"] ["bag"] (zai zc5):=sck O O O (by decide +kernel)
def noB(p:Addr)(H:Hp):Hp:=λa=>if a=p then none else H a
def zew{p a:Addr}{H:Hp}(h:a≠p):noB p H a=H a:=if_neg h
def zg2{p:Addr}{H:Hp}:noB p H p=none:=if_pos O
def zaK{p a:Addr}{H:Hp}{o:HO}(e:noB p H a=some o):a≠p/\H a=some o:=by
 by_cases h:a=p
 .rw[h,zg2] at e;cases e
 .rw[zew h] at e;exact⟨h,e⟩
def zcL{p:Addr}{H:Hp}:Same (noB p H) H:=λ_ _ e=>(zaK e).2
def zaY{p a:Addr}{H:Hp}{o:HO}(h:a≠p)(e:H a=some o):noB p H a=some o:=by rw[zew h];exact e
def KeepP.nob{p:Addr}{X Y:Hp}(k:KeepP p X Y):Same (noB p X) (noB p Y):=λa o e=>by
 obtain⟨h,e⟩:=zaK e
 exact zaY h (k a o h e)
def zjb{p a:Addr}{X:Hp}{o:HO}(h:a≠p):noB p (upd X a o)=upd (noB p X) a o:=by
 funext b
 by_cases hb:b=a
 .rw[hb,zew h,zac,zac]
 .rw[zah hb]
  unfold noB
  rw[zah hb]
def KeepP.free{p a:Addr}{H X:Hp}{n:Nat}(k:KeepP p H X)(g:Bg X p n)(h:X a=none):H a=none/\a≠p:=by
 have ne:=g.ne h
 refine{?_,ne}
 cases e:H a with
 | none=>rfl
 | some o=>rw[k a o ne e] at h;cases h
structure Cm where
 x:Addr
 p:Addr
 m:Addr
 r:Addr
 kd:Nat
 n:Nat
 us:List Nat
structure CmOk(cs:Nat->Addr)(X:Hp)(c:Cm):Prop where
 ch:Chp cs X c.x c.p c.kd c.n c.us
 md:MdB X c.m c.r c.kd c.n c.us
 k:Kd c.kd c.n c.us
 h1:c.kd=2\/c.kd=3->c.us.length=1
 ne:c.p≠c.r
def CmOk.same{cs:Nat->Addr}{X Y:Hp}{c:Cm}(h:CmOk cs X c)(s:Same X Y):CmOk cs Y c:={h.ch.same s,h.md.same s,h.k,h.h1,h.ne}
structure CMs(cs:Nat->Addr)(X:Hp)(cl:List Cm):Prop where
 o:∀c∈cl,CmOk cs X c
 nd:((cl.map (·.p))++(cl.map (·.r))).Nodup
def CMs.same{cs:Nat->Addr}{X Y:Hp}{cl:List Cm}(h:CMs cs X cl)(s:Same X Y):CMs cs Y cl:={λc hc=>(h.o c hc).same s,h.nd}
def CMs.add{cs:Nat->Addr}{X Y:Hp}{cl:List Cm}{c:Cm}(h:CMs cs X cl)(s:Same X Y)(hp:X c.p=none)(hr:X c.r=none)(ho:CmOk cs Y c):CMs cs Y (cl++[c]):=by
 have fp:∀d∈cl,d.p≠c.p/\d.p≠c.r/\d.r≠c.p/\d.r≠c.r:=λd hd=>by
  have e1:=(h.o d hd).ch.ls
  have e2:=(h.o d hd).md.ls
  exact{(λz=>by rw[z,hp] at e1;cases e1),(λz=>by rw[z,hr] at e1;cases e1),(λz=>by rw[z,hp] at e2;cases e2),(λz=>by rw[z,hr] at e2;cases e2)}
 refine{λd hd=>?_,?_}
 .rcases XaH.mp hd with hd|hd
  .exact(h.same s).o d hd
  .rw[Xae.mp hd];exact ho
 .obtain⟨n1,n2,n3⟩:=XaT.mp h.nd
  rw[Xaw,Xaw]
  refine XaT.mpr {XaT.mpr {n1,by simp,λa ha b hb=>?_},XaT.mpr {n2,by simp,λa ha b hb=>?_},λa ha b hb=>?_}
  .obtain⟨d,hd,rfl⟩:=Xa1.mp ha
   have hb:b=c.p:=by simpa using hb
   rw[hb];exact(fp d hd).1
  .obtain⟨d,hd,rfl⟩:=Xa1.mp ha
   have hb:b=c.r:=by simpa using hb
   rw[hb];exact(fp d hd).2.2.2
  .rcases XaH.mp ha with ha|ha<;>rcases XaH.mp hb with hb|hb
   .exact n3 a ha b hb
   .obtain⟨d,hd,rfl⟩:=Xa1.mp ha
    have hb:b=c.r:=by simpa using hb
    rw[hb];exact(fp d hd).2.1
   .obtain⟨d,hd,rfl⟩:=Xa1.mp hb
    have ha:a=c.p:=by simpa using ha
    rw[ha];exact Ne.symm (fp d hd).2.2.1
   .have ha:a=c.p:=by simpa using ha
    have hb:b=c.r:=by simpa using hb
    rw[ha,hb];exact ho.ne
def CMs.updL{cs:Nat->Addr}{X:Hp}{cl:List Cm}{L:Addr}{o:HO}(h:CMs cs X cl)(hL:∀c∈cl,c.x≠L/\c.p≠L/\c.m≠L/\c.r≠L):CMs cs (upd X L o) cl:=by
 refine{λc hc=>?_,h.nd}
 obtain⟨a1,a2,a3,a4⟩:=hL c hc
 have ok:=h.o c hc
 obtain⟨dx,e⟩:=ok.ch.ex
 exact{{{dx,by rw[zah a1];exact e},by rw[zah a2];exact ok.ch.ls},{by rw[zah a3];exact ok.md.at_,by rw[zah a4];exact ok.md.ls},ok.k,ok.h1,ok.ne}
def dfCm:Cm:={0,0,0,0,0,0,[]}
def dtC(cl:List Cm):Dt:={cl.length,λi=>(cl.getD i dfCm).x,λi=>(cl.getD i dfCm).p,λi=>(cl.getD i dfCm).kd,λi=>(cl.getD i dfCm).n,λi=>zdf (cl.getD i dfCm).kd (cl.getD i dfCm).us}
def usC(cl:List Cm)(i:Nat):List Nat:=(cl.getD i dfCm).us
def zbK{cl:List Cm}{i:Nat}(h:i<cl.length):cl.getD i dfCm∈cl/\cl[i]?=some (cl.getD i dfCm):=by
 rw[List.getD_eq_getElem?_getD,Xaz h]
 exact{Xa6 _,O}
def nd_at{l:List Addr}(h:l.Nodup){i j:Nat}{a:Addr}(h1:l[i]?=some a)(h2:l[j]?=some a):i=j:=by
 obtain⟨l1,e1⟩:=Xas.mp h1
 obtain⟨l2,e2⟩:=Xas.mp h2
 exact(List.getElem_inj h).mp (e1.trans e2.symm)
def CMs.chs{cs:Nat->Addr}{X:Hp}{cl:List Cm}(h:CMs cs X cl)(hl:cl.length<=200):Chs cs (dtC cl) X (usC cl):=by
 refine{λi hi=>(h.o _ (zbK hi).1).ch,λi hi=>(h.o _ (zbK hi).1).k,λi hi=>(h.o _ (zbK hi).1).h1,λi hi=>O,λi j hi hj e=>?_,hl}
 have h1:(cl.map (·.p))[i]?=some (cl.getD i dfCm).p:=by rw[Xax,(zbK hi).2];rfl
 have h2:(cl.map (·.p))[j]?=some (cl.getD j dfCm).p:=by rw[Xax,(zbK hj).2];rfl
 rw[<- show(cl.getD i dfCm).p=(cl.getD j dfCm).p from e] at h2
 exact nd_at (XaT.mp h.nd).1 h1 h2
def CMs.mod{cs:Nat->Addr}{X:Hp}{cl:List Cm}(h:CMs cs X cl):Mod (dtC cl) (λi=>(cl.getD i dfCm).m) (λi=>(cl.getD i dfCm).r) X (usC cl):=by
 refine{λi hi=>(h.o _ (zbK hi).1).md,λi hi=>(h.o _ (zbK hi).1).k,λi hi=>(h.o _ (zbK hi).1).h1,λi hi=>O,λi j hi hj e=>?_}
 have h1:(cl.map (·.r))[i]?=some (cl.getD i dfCm).r:=by rw[Xax,(zbK hi).2];rfl
 have h2:(cl.map (·.r))[j]?=some (cl.getD j dfCm).r:=by rw[Xax,(zbK hj).2];rfl
 rw[<- show(cl.getD i dfCm).r=(cl.getD j dfCm).r from e] at h2
 exact nd_at (XaT.mp h.nd).2.1 h1 h2
def chL_cm(cl:List Cm):chL (dtC cl)=cl.map λc=>V.ref c.x:=by
 unfold chL
 apply List.ext_getElem?
 intro i
 rw[Xax,Xax]
 by_cases h:i<cl.length
 .rw[(zbK h).2,List.getElem?_range (show i<(dtC cl).m from h)]
  rfl
 .rw[XaL (Nat.le_of_not_lt h),XaL (show(List.range (dtC cl).m).length<=i by rw[Xa2];exact Nat.le_of_not_lt h)]
  rfl
def zln(cl:List Cm):mdL (dtC cl) (λi=>(cl.getD i dfCm).m)=cl.map λc=>V.ref c.m:=by
 unfold mdL
 apply List.ext_getElem?
 intro i
 rw[Xax,Xax]
 by_cases h:i<cl.length
 .rw[(zbK h).2,List.getElem?_range (show i<(dtC cl).m from h)]
  rfl
 .rw[XaL (Nat.le_of_not_lt h),XaL (show(List.range (dtC cl).m).length<=i by rw[Xa2];exact Nat.le_of_not_lt h)]
  rfl
def zb3{H2 H':Hp}{x dx:Addr}{C:Addr}(hx:H2 x=none)(hdx:H2 dx=none)(ne:dx≠x)(k:KeepP x (upd (upd H2 dx (.own x)) x (.ins C dx [])) H'):Same H2 H':=λa o e=>by
 have na:a≠x:=zaj e hx
 exact k a o na (by rw[zah na,zah (zaj e hdx)];exact e)
inductive spChip48(cs:Nat->Addr)(vs:List V)(H:Hp)(Q:VK)(u3_:XK):Prop
 | mk (p:Addr) (n:Nat)(_:vs=[.ref p])(_:Bg H p n)(_:n<2 ^ 29)(_:∀(t:Addr) (c:Cm) (H':Hp),H' t=some (.tup [.ref c.x,.ref c.m])->H c.p=none->H c.r=none->H c.m=none->CmOk cs (noB p H') c->Bg H' p (n+20)->KeepP p H H'->Q (.ref t) H')
def zgB{f:Addr}{cs:Nat->Addr}{fd:FuncData}(F:FunN K "_law_chip" zc5 f fd)(T:Blt mg)(G_law_draw:Cal P w K mg base 1 "_law_draw" ["bag","many"] spDw)
  (GMFixed_1:Mak P w K mg base 3 "Fixed" (cs 1) [] (dP []) (spMkFH (cs 1))) (GMPipe_1:Mak P w K mg base 3 "Pipe" (cs 4) [] (dP []) (spMkP (cs 4))) (GMLatch_1:Mak P w K mg base 3 "Latch" (cs 2) [] (dP []) (spMk1H (cs 2) "latch")) (GMMeter_1:Mak P w K mg base 3 "Meter" (cs 3) [] (dP []) (spMk1H (cs 3) "meter")) (GMStore_2:Mak P w K mg base 3 "Store" (cs 0) [] (dP []) (spMkSH (cs 0))):FnOk P w K mg base CX0 5 f fd ["bag"] (spChip48 cs):=by
 refine F.ok sc_law_chip (by walk_at"l") (λcdv A outer s H vs Q E hr h=>?_)
 .obtain⟨p,n,rfl,bg,hn,k⟩:=h
  refine⟨_,(zad (@ps_L _ _ _ _ _ _ 1 sc_law_chip.nd (@pe_c _ _ _ _ _ _ _ _ _ _ G_law_draw (@zaa _ _ _ _ _ (@pv _ 0 _ _ (by rfl) (by walk_at"o") (by decide) (by decide)) (@zaa _ _ _ _ _ (@zaf _ _ _ _) (@zab _) (by rfl)) (by rfl)) (by exact hrm (by assumption)) (by rfl) (by decide) (by rfl) (by rfl)) (by rfl) (by exact Or.inl O) (by rfl) (by walk_at"p"))
   (zad (@ps_L _ _ _ _ _ _ 2 sc_law_chip.nd (@pe_c _ _ _ _ _ _ _ _ _ _ G_law_draw (@zaa _ _ _ _ _ (@pv _ 0 _ _ (by rfl) (by walk_at"o") (by decide) (by decide)) (@zaa _ _ _ _ _ (@zaf _ _ _ _) (@zab _) (by rfl)) (by rfl)) (by exact hrm (by assumption)) (by rfl) (by decide) (by rfl) (by rfl)) (by rfl) (by exact Or.inl O) (by rfl) (by walk_at"p"))
   (zad (@zaA _ _ _ _ _ _ _ _ (@zas _ _ _ _ _ _ _ _ zgo (@pv _ 1 _ _ (by rfl) (by walk_at"o") (by decide) (by decide)) (@zaf _ _ _ _) (zaw _)) (@zad _ _ _ _ _ (@ps_L _ _ _ _ _ _ 3 sc_law_chip.nd (@pe_x _ _ _ _ _ _ _ zaz (@zax _ _ _ _ (@zaa _ _ _ _ _ (@zaf _ _ _ _) (@zaa _ _ _ _ _ (@zaf _ _ _ _) (@zaa _ _ _ _ _ (@zaf _ _ _ _) (@zaa _ _ _ _ _ (@zaf _ _ _ _) (@zaa _ _ _ _ _ (@zaf _ _ _ _) (@zaa _ _ _ _ _ (@zaf _ _ _ _) (@zaa _ _ _ _ _ (@zaf _ _ _ _) (@zaa _ _ _ _ _ (@zaf _ _ _ _) (@zab _) (by rfl)) (by rfl)) (by rfl)) (by rfl)) (by rfl)) (by rfl)) (by rfl)) (by rfl))) (@pe_c _ _ _ _ _ _ _ _ _ _ G_law_draw (@zaa _ _ _ _ _ (@pv _ 0 _ _ (by rfl) (by walk_at"o") (by decide) (by decide)) (@zaa _ _ _ _ _ (@zaf _ _ _ _) (@zab _) (by rfl)) (by rfl)) (by exact hrm (by assumption)) (by rfl) (by decide) (by rfl) (by rfl)) (by exactλ_ _=>O)) (by rfl) (by exact Or.inl O) (by rfl) (by walk_at"p")) (@zag _ _ _ (@zal _ _ _ _ (@zaX _ _ _ _ _ (@zaa _ _ _ _ _ (@zcI _ _ _ _ _ _ _ _ _ _ _ GMStore_2 (hrm hr) O (@zaa _ _ _ _ _ (@pv _ 3 _ _ (by rfl) (by walk_at"o") (by decide) (by decide)) (@zaa _ _ _ _ _ (@pv _ 2 _ _ (by rfl) (by walk_at"o") (by decide) (by decide)) (@zab _) (by rfl)) (by rfl)) (by decide) (by rfl) (by rfl)) (@zaa _ _ _ _ _ (@zax _ _ _ _ (@zaa _ _ _ _ _ (@zaD _ _ _ _) (@zaa _ _ _ _ _ (@zat _ _ _ _ _ _ _ _ zi1 (@zax _ _ _ _ (@zaa _ _ _ _ _ (@pv _ 2 _ _ (by rfl) (by walk_at"o") (by decide) (by decide)) (@zab _) (by rfl))) (@pv _ 3 _ _ (by rfl) (by walk_at"o") (by decide) (by decide))) (@zaa _ _ _ _ _ (@zaf _ _ _ _) (@zab _) (by rfl)) (by rfl)) (by rfl))) (@zab _) (by rfl)) (by rfl)))))) (@zan _))
   (zad (@zaA _ _ _ _ _ _ _ _ (@zas _ _ _ _ _ _ _ _ zbS (@pv _ 1 _ _ (by rfl) (by walk_at"o") (by decide) (by decide)) (@zaf _ _ _ _) (zaw _)) (@zad _ _ _ _ _ (@zb6 _ (["k","bag"]) _ _ _ _ _ _ _ _ _ _ (4) _ _ _ [none,some 0] sc_law_chip.nd O O O (zaN (by rfl)) (@za0 _ _ _ _ _ _ O T.range (@zaa _ _ _ _ _ (@zat _ _ _ _ _ _ _ _ za8 (@zaf _ _ _ _) (@pe_c _ _ _ _ _ _ _ _ _ _ G_law_draw (@zaa _ _ _ _ _ (@pv _ 0 _ _ (by rfl) (by walk_at"o") (by decide) (by decide)) (@zaa _ _ _ _ _ (@zaf _ _ _ _) (@zab _) (by rfl)) (by rfl)) (by exact hrm (by assumption)) (by rfl) (by decide) (by rfl) (by rfl))) (@zab _) (by rfl)) (by rfl)) (λ_ _ _ _ _=>(@pg_L _ _ _ 0 (show(["k","bag"]:List Str).Nodup by decide +kernel) (by rfl) (by exact Or.inl O) (by walk_at"p"))) (λ_ _ _ _ _=>(@zcG _)) (λ_ _ _ _ _=>(@pe_c _ _ _ _ _ _ _ _ _ _ G_law_draw (@zaa _ _ _ _ _ (@pv _ 1 _ _ (by rfl) (by walk_at"o") (by decide) (by decide)) (@zaa _ _ _ _ _ (@zaf _ _ _ _) (@zab _) (by rfl)) (by rfl)) (by exact hrm (by assumption)) (by rfl) (by decide) (by rfl) (by rfl))) (by rfl) (by intro _;rfl)) (@zag _ _ _ (@zal _ _ _ _ (@zaX _ _ _ _ _ (@zaa _ _ _ _ _ (@zcI _ _ _ _ _ _ _ _ _ _ _ GMFixed_1 (hrm hr) O (@zaa _ _ _ _ _ (@pv _ 4 _ _ (by rfl) (by walk_at"o") (by decide) (by decide)) (@zab _) (by rfl)) (by decide) (by rfl) (by rfl)) (@zaa _ _ _ _ _ (@zax _ _ _ _ (@zaa _ _ _ _ _ (@zaD _ _ _ _) (@zaa _ _ _ _ _ (@zaH _ _ _ _ _ _ _ _ _ zbw (by rfl) T.list zcz (@zaa _ _ _ _ _ (@pv _ 4 _ _ (by rfl) (by walk_at"o") (by decide) (by decide)) (@zab _) (by rfl)) (by decide) (by decide) (by rfl) (by rfl)) (@zaa _ _ _ _ _ (@zaf _ _ _ _) (@zab _) (by rfl)) (by rfl)) (by rfl))) (@zab _) (by rfl)) (by rfl)))))) (@zan _))
   (zad (@zaA _ _ _ _ _ _ _ _ (@zas _ _ _ _ _ _ _ _ zbS (@pv _ 1 _ _ (by rfl) (by walk_at"o") (by decide) (by decide)) (@zaf _ _ _ _) (zaw _)) (@zag _ _ _ (@zal _ _ _ _ (@zaX _ _ _ _ _ (@zaa _ _ _ _ _ (@zcI _ _ _ _ _ _ _ _ _ _ _ GMLatch_1 (hrm hr) O (@zaa _ _ _ _ _ (@pv _ 2 _ _ (by rfl) (by walk_at"o") (by decide) (by decide)) (@zab _) (by rfl)) (by decide) (by rfl) (by rfl)) (@zaa _ _ _ _ _ (@zax _ _ _ _ (@zaa _ _ _ _ _ (@zaD _ _ _ _) (@zaa _ _ _ _ _ (@zax _ _ _ _ (@zaa _ _ _ _ _ (@pv _ 2 _ _ (by rfl) (by walk_at"o") (by decide) (by decide)) (@zab _) (by rfl))) (@zaa _ _ _ _ _ (@zaf _ _ _ _) (@zab _) (by rfl)) (by rfl)) (by rfl))) (@zab _) (by rfl)) (by rfl))))) (@zan _))
   (zad (@zaA _ _ _ _ _ _ _ _ (@zas _ _ _ _ _ _ _ _ zbS (@pv _ 1 _ _ (by rfl) (by walk_at"o") (by decide) (by decide)) (@zaf _ _ _ _) (zaw _)) (@zag _ _ _ (@zal _ _ _ _ (@zaX _ _ _ _ _ (@zaa _ _ _ _ _ (@zcI _ _ _ _ _ _ _ _ _ _ _ GMMeter_1 (hrm hr) O (@zaa _ _ _ _ _ (@pv _ 2 _ _ (by rfl) (by walk_at"o") (by decide) (by decide)) (@zab _) (by rfl)) (by decide) (by rfl) (by rfl)) (@zaa _ _ _ _ _ (@zax _ _ _ _ (@zaa _ _ _ _ _ (@zaD _ _ _ _) (@zaa _ _ _ _ _ (@zax _ _ _ _ (@zaa _ _ _ _ _ (@pv _ 2 _ _ (by rfl) (by walk_at"o") (by decide) (by decide)) (@zab _) (by rfl))) (@zaa _ _ _ _ _ (@zaf _ _ _ _) (@zab _) (by rfl)) (by rfl)) (by rfl))) (@zab _) (by rfl)) (by rfl))))) (@zan _))
   (zad (@ps_L _ _ _ _ _ _ 5 sc_law_chip.nd (@pe_x _ _ _ _ _ _ _ zaz (@zax _ _ _ _ (@zaa _ _ _ _ _ (@zat _ _ _ _ _ _ _ _ za8 (@zaf _ _ _ _) (@pe_c _ _ _ _ _ _ _ _ _ _ G_law_draw (@zaa _ _ _ _ _ (@pv _ 0 _ _ (by rfl) (by walk_at"o") (by decide) (by decide)) (@zaa _ _ _ _ _ (@zaf _ _ _ _) (@zab _) (by rfl)) (by rfl)) (by exact hrm (by assumption)) (by rfl) (by decide) (by rfl) (by rfl))) (@zaa _ _ _ _ _ (@zaf _ _ _ _) (@zab _) (by rfl)) (by rfl))) (@zat _ _ _ _ _ _ _ _ zb9 (@pe_c _ _ _ _ _ _ _ _ _ _ G_law_draw (@zaa _ _ _ _ _ (@pv _ 0 _ _ (by rfl) (by walk_at"o") (by decide) (by decide)) (@zaa _ _ _ _ _ (@zaf _ _ _ _) (@zab _) (by rfl)) (by rfl)) (by exact hrm (by assumption)) (by rfl) (by decide) (by rfl) (by rfl)) (@zaf _ _ _ _)) (by exactλ_ _=>O)) (by rfl) (by exact Or.inl O) (by rfl) (by walk_at"p"))
   (zag (@zal _ _ _ _ (@zaX _ _ _ _ _ (@zaa _ _ _ _ _ (@zcI _ _ _ _ _ _ _ _ _ _ _ GMPipe_1 (hrm hr) O (@zaa _ _ _ _ _ (@pv _ 5 _ _ (by rfl) (by walk_at"o") (by decide) (by decide)) (@zab _) (by rfl)) (by decide) (by rfl) (by rfl)) (@zaa _ _ _ _ _ (@zax _ _ _ _ (@zaa _ _ _ _ _ (@zaD _ _ _ _) (@zaa _ _ _ _ _ (@zax _ _ _ _ (@zab _)) (@zaa _ _ _ _ _ (@pv _ 5 _ _ (by rfl) (by walk_at"o") (by decide) (by decide)) (@zab _) (by rfl)) (by rfl)) (by rfl))) (@zab _) (by rfl)) (by rfl)))))))))))),?rd⟩
  have same_p:∀{Z:Hp} {x dx p:Addr} {C:Addr},Z x=none->Z dx=none->dx≠x->upd (upd Z dx (.own x)) x (.ins C dx []) p=none->Z p=none:=λ{Z x dx p C} hx hdx ne h=>zdW ((zae (o:=.own x) hdx).trans (zae (o:=.ins C dx []) (by rw[zah (Ne.symm ne)];exact hx))) h
  have fin:∀(x p' r:Addr) (kd n':Nat) (us:List Nat) (Y Z:Hp) (q:Nat),KeepP p H Y->Bg Y p q->q<=n+20->Same Y Z->Y p'=none->Y r=none->Chp cs Z x p' kd n' us->Z r=some (.lst (vN us))->Kd kd n' us->(kd=2\/kd=3->us.length=1)->p'≠r->3<=sizeLine/\∀a,Z a=none->2<=sizeLine/\∀t,upd Z a (.lst [.str (zdB kd),.ref r,.int (n':Int)]) t=none->Q (.ref t) (upd (upd Z a (.lst [.str (zdB kd),.ref r,.int (n':Int)])) t (.tup [.ref x,.ref a])):=λx p' r kd n' us Y Z q kY gY hq sZ hp hr' hc er hk h1' hne=>by
   refine{by decide,λa ha=>{by decide,λt ht=>?_}}
   have sa:=zae (o:=.lst [V.str (zdB kd),.ref r,.int (n':Int)]) ha
   have st:=zae (o:=.tup [.ref x,.ref a]) ht
   obtain⟨f1,g1⟩:=kY.free gY hp
   obtain⟨f2,g2⟩:=kY.free gY hr'
   obtain⟨f3,g3⟩:=kY.free gY (sZ.free ha)
   have gZ:=gY.same sZ
   have gx:x≠p:=λz=>by
    obtain⟨dx,e⟩:=hc.ex
    obtain⟨a',c',e',_⟩:=gZ
    rw[z,e'] at e;cases e
   have hc':=hc.same (sa.trans st)
   refine k t ⟨x,p',a,r,kd,n',us⟩ _ zac f1 f2 f3 {?_,{zaY g3 (st _ _ zac),zaY g2 (st _ _ (sa _ _ er))},hk,h1',hne} ((gZ.same (sa.trans st)).mono hq) (kY.trans (.of (sZ.trans (sa.trans st))))
   obtain⟨dx,e⟩:=hc'.ex
   exact{{dx,zaY gx e},zaY g1 hc'.ls}
  
  refine zbt (λU X=>∃d:Nat,d<6/\U=[some (.ref p),some (.int (d:Int)),none,none,none,none]/\Bg X p (n+1)/\KeepP p H X) (λN hN=>?_) ?_
  .exact{_,O,p,6,n,O,bg,by omega,by decide,by decide,λd X1 h1 bg1 k1=>hN _ _ {d,by omega,O,bg1,zau k1}}
  rintro U X ⟨d,hd,rfl,bgX,kX⟩
  refine zbt (λU Y=>∃v:Nat,v<=255/\U=[some (.ref p),some (.int (d:Int)),some (.int (v:Int)),none,none,none]/\Bg Y p (n+2)/\KeepP p H Y) (λN hN=>?_) ?_
  .exact{_,O,p,256,n+1,O,bgX,by omega,by decide,by decide,λv X1 h1 bg1 k1=>hN _ _ {v,by omega,O,bg1,kX.trans (zau k1)}}
  rintro U Y ⟨v,hv,rfl,bgY,kY⟩
  clear bgX kX
  
  refine zbt (λU Z=>U=[some (.ref p),some (.int (d:Int)),some (.int (v:Int)),none,none,none]/\Z=Y/\2<=d) (λN hN=>?_) ?_
  .refine{_,O,_,_,O,O,_,O,ite2 (λh1=>?_) (λh1=>zar (hN _ _ {O,O,?_}))}
   .refine{by show 8<=sizeLine;decide,λl hl=>{_,O,p,8,n+2,O,bgY.same (zae hl),by omega,by decide,by decide,λi X1 hi bg1 k1=>?_}}
    have nl:=bgY.ne hl
    have el:X1 l=some (.lst [V.int 1,V.int 2,V.int 4,V.int 8,V.int 16,V.int 5,V.int 2,V.int 600]):=by rw[k1 l nl];exact zac
    have k2:=kY.trans ((KeepP.of (zae (o:=.lst [V.int 1,V.int 2,V.int 4,V.int 8,V.int 16,V.int 5,V.int 2,V.int 600]) hl)).trans (zau k1))
    obtain⟨cn,c1,c2,ec⟩:∃cn:Nat,1<=cn/\cn<=600/\atI [V.int 1,V.int 2,V.int 4,V.int 8,V.int 16,V.int 5,V.int 2,V.int 600] (i:Int)=some (.int (cn:Int)):=by
     rcases(show i=0\/i=1\/i=2\/i=3\/i=4\/i=5\/i=6\/i=7 by omega) with rfl|rfl|rfl|rfl|rfl|rfl|rfl|rfl
     .exact{1,by decide,by decide,O}
     .exact{2,by decide,by decide,O}
     .exact{4,by decide,by decide,O}
     .exact{8,by decide,by decide,O}
     .exact{16,by decide,by decide,O}
     .exact{5,by decide,by decide,O}
     .exact{2,by decide,by decide,O}
     .exact{600,by decide,by decide,O}
    refine{l,_,_,_,O,O,SqL.of el,ec,?_}
    refine{_,O,_,O,λx dx hx hdx ne=>{x,dx,cn,(v:Int),O,c1,by omega,by omega,by omega,zac,λp' Z1 hp ex el kp=>{O,?_}}}
    have sm:=zb3 hx hdx ne kp
    have hp1:=same_p hx hdx ne hp
    refine{_,O,by show 1<=sizeLine;decide,λg hg=>{_,O,g,_,_,O,O,zac,by omega,by omega,?_,λr hr'=>?_}}
    .rw[Xap];exact Xak (show 1*cn<=600 by omega) (by decide)
    have sg:=zae (o:=.lst [V.int (v:Int)]) hg
    have er:(List.replicate ((cn:Int)).toNat [V.int (v:Int)]).flatten=vN (List.replicate cn v):=by rw[Xap];exact zkd cn v
    rw[er]
    have sr:=zae (o:=.lst (vN (List.replicate cn v))) hr'
    have elv:Z1 p'=some (.lst (vN (List.replicate cn v))):=by rw[el];unfold vN;rw[List.map_replicate]
    refine fin x p' r 0 0 (List.replicate cn v) X1 _ (n+3) k2 bg1 (by omega) (sm.trans sg |>.trans sr) hp1 ((sm.trans sg).free hr') {?_,(sg.trans sr) _ _ elv} zac {by decide,λw hw=>by rw[List.eq_of_mem_replicate hw];exact hv,by rw[Xby];omega,λ_=>by rw[Xby];exact c1,(λh=>absurd h (by decide)),(λh=>absurd h (by decide)),by decide} (λh=>by rcases h with h|h<;>cases h) ?_
    .obtain⟨d0,e0⟩:=ex
     exact{d0,(sg.trans sr) _ _ e0}
    .intro z
     have:=sg _ _ elv
     rw[z,hr'] at this;cases this
   .have:=of_decide_eq_false (Bool.eq_false_iff.mpr h1);omega
  rintro U Z ⟨rfl,rfl,d2⟩
  
  refine zbt (λU Y=>U=[some (.ref p),some (.int (d:Int)),some (.int (v:Int)),none,none,none]/\Y=Z) (λN hN=>?_) ?_
  .refine{_,O,O,_,O,ite2 (λ_=>?_) (λ_=>zar (hN _ _ ⟨O,O⟩))}
   refine{_,O,p,8,n+2,O,bgY,by omega,by decide,by decide,λi X1 hi bg1 k1=>{_,_,O,O,_,O,by omega,by omega,?_}}
   rw[show((1:Int)+(i:Int)).toNat=1+i by omega]
   have k2:=kY.trans (zau k1)
   have i8:i<8:=by omega
   refine zcc (n:=1+i) (λj ys U W=>∃(v0:Option V) (l:List Nat),U=[v0,some (.ref p)]/\ys=vN l/\l.length=j/\(∀w∈l,w<=255)/\Bg W p (n+3+j)/\KeepP p X1 W) (Xak (show 1+i<=8 by omega) (by decide)) {none,[],O,O,O,(λ_ h=>nomatch h),bg1,λ_ _ _ e=>e} ?_ ?_ ?_
   .rintro j ys U W ⟨v0,l,rfl,rfl,hl,_⟩
    rw[zaq,hl];exact Xad _
   .rintro j ys U W hj ⟨v0,l,rfl,rfl,hl,hw,bgW,kW⟩
    refine{_,O,p,256,n+3+j,O,bgW,by omega,by decide,by decide,λu W1 hu bg2 k3=>?_}
    refine{_,l++[u],O,(zeD _ _).symm,by simp[hl],λw hw'=>?_,bg2,kW.trans (zau k3)}
    rcases XaH.mp hw' with h|h
    .exact hw w h
    .rw[Xae.mp h];omega
   .rintro ys U W ⟨v0,l,rfl,rfl,hl,hw,bgW,kW⟩ g hg
    have sg:=zae (o:=.lst (vN l)) hg
    refine{_,O,λx dx hx hdx ne=>{x,dx,g,l,O,?_,by omega,by omega,hw,zac,λp' Z1 hp ex el kp=>{O,?_}}}
    .rw[zah (λz=>by rw[<- z,zac] at hx;cases hx),zah (λz=>by rw[<- z,zac] at hdx;cases hdx)];exact zac
    have sm:=zb3 hx hdx ne kp
    have hp1:=same_p hx hdx ne hp
    have eg:=sm _ _ (zac (H:=W) (a:=g) (o:=.lst (vN l)))
    refine{_,O,g,_,O,.inl (SqL.of eg),λr hr'=>?_}
    have sr:=zae (o:=.lst (vN l)) hr'
    refine fin x p' r 1 0 l _ _ (n+3+(1+i)) ((k2.trans kW).trans (.of sg)) (bgW.same sg) (by omega) (sm.trans sr) hp1 (sm.free hr') {?_,sr _ _ el} zac {by decide,hw,by omega,λ_=>by omega,(λh=>absurd h (by decide)),(λh=>absurd h (by decide)),by decide} (λh=>by rcases h with h|h<;>cases h) ?_
    .obtain⟨d0,e0⟩:=ex
     exact{d0,sr _ _ e0}
    .intro z
     rw[z,hr'] at el;cases el
  rintro U Y ⟨rfl,rfl⟩
  have one:∀(x dx p':Addr) (kd:Nat) (Z1:Hp),kd=2\/kd=3->Y x=none->Y dx=none->dx≠x->upd (upd Y dx (.own x)) x (.ins (cs kd) dx []) p'=none->(∃dx,Z1 x=some (.ins (cs kd) dx [("head",.str (zdB kd)),("held",.ref p')]))->Z1 p'=some (.lst [.int (v:Int)])->KeepP x (upd (upd Y dx (.own x)) x (.ins (cs kd) dx [])) Z1->∀r,Z1 r=none->3<=sizeLine/\∀a,upd Z1 r (.lst [.int (v:Int)]) a=none->2<=sizeLine/\∀t,upd (upd Z1 r (.lst [.int (v:Int)])) a (.lst [.str (zdB kd),.ref r,.int ((0:Nat):Int)]) t=none->Q (.ref t) (upd (upd (upd Z1 r (.lst [.int (v:Int)])) a (.lst [.str (zdB kd),.ref r,.int ((0:Nat):Int)])) t (.tup [.ref x,.ref a])):=λx dx p' kd Z1 hkd hx hdx ne hp ex el kp r hr'=>by
   have sm:=zb3 hx hdx ne kp
   have hp1:=same_p hx hdx ne hp
   have sr:=zae (o:=.lst [V.int (v:Int)]) hr'
   refine fin x p' r kd 0 [v] Y _ (n+2) kY bgY (by omega) (sm.trans sr) hp1 (sm.free hr') {?_,sr _ _ el} zac {by omega,λw hw=>by rw[Xae] at hw;omega,by show 1<=4096;decide,λ_=>Xad _,λ_=>O,(λh=>by omega),by decide} (λ_=>O) ?_
   .obtain⟨d0,e0⟩:=ex
    refine{d0,sr _ _ ?_}
    rw[e0]
    rcases hkd with rfl|rfl<;>rfl
   .intro z
    rw[z,hr'] at el;cases el
  refine zbt (λU Z=>U=[some (.ref p),some (.int (d:Int)),some (.int (v:Int)),none,none,none]/\Z=Y) (λN hN=>?_) ?_
  .refine{_,O,O,_,O,ite2 (λ_=>?_) (λ_=>zar (hN _ _ ⟨O,O⟩))}
   refine{_,O,λx dx hx hdx ne=>{x,dx,(v:Int),O,by omega,by omega,zac,λp' Z1 hp ex el kp=>{O,?_}}}
   exact{_,O,by show 1<=sizeLine;decide,one x dx p' 2 Z1 (.inl O) hx hdx ne hp ex el kp}
  rintro U Z ⟨rfl,rfl⟩
  refine zbt (λU Y=>U=[some (.ref p),some (.int (d:Int)),some (.int (v:Int)),none,none,none]/\Y=Z) (λN hN=>?_) ?_
  .refine{_,O,O,_,O,ite2 (λ_=>?_) (λ_=>zar (hN _ _ ⟨O,O⟩))}
   refine{_,O,λx dx hx hdx ne=>{x,dx,(v:Int),O,by omega,by omega,zac,λp' Z1 hp ex el kp=>{O,?_}}}
   exact{_,O,by show 1<=sizeLine;decide,one x dx p' 3 Z1 (.inr O) hx hdx ne hp ex el kp}
  rintro U Y ⟨rfl,rfl⟩
  
  refine zbt (λU Z=>∃rm:Nat,1<=rm/\rm<=20/\U=[some (.ref p),some (.int (d:Int)),some (.int (v:Int)),none,none,some (.int (rm:Int))]/\Bg Z p (n+4)/\KeepP p H Z) (λN hN=>?_) ?_
  .refine{_,O,p,5,n+2,O,bgY,by omega,by decide,by decide,λi X1 hi bg1 k1=>{_,_,O,O,by show 2<=sizeLine;decide,λl hl=>?_}}
   refine{_,O,p,6,n+3,O,bg1.same (zae hl),by omega,by decide,by decide,λj X2 hj bg2 k2=>{_,_,O,O,{by decide,by decide +kernel},?_}}
   have el:X2 l=some (.lst [V.int ((1:Int)+(i:Int)),V.int 20]):=by rw[k2 l (bg1.ne hl)];exact zac
   obtain⟨rm,c1,c2,ec⟩:∃rm:Nat,1<=rm/\rm<=20/\atI [V.int ((1:Int)+(i:Int)),V.int 20] ((j:Int) / 5)=some (.int (rm:Int)):=by
    by_cases h5:j<5
    .exact{1+i,by omega,by omega,by rw[show(j:Int) / 5=((0:Nat):Int) by omega,show(1:Int)+(i:Int)=((1+i:Nat):Int) by omega];rfl}
    .exact{20,by decide,by decide,by rw[show(j:Int) / 5=((1:Nat):Int) by omega];rfl}
   exact{l,_,_,_,O,O,SqL.of el,ec,hN _ _ {rm,c1,c2,O,bg2,kY.trans ((zau k1).trans ((KeepP.of (zae hl)).trans (zau k2)))}}
  rintro U Z ⟨rm,c1,c2,rfl,bgZ,kZ⟩
  refine{_,O,λx dx hx hdx ne=>{x,dx,rm,O,c1,by omega,zac,λp' Z1 hp ob kp=>{O,?_}}}
  have sm:=zb3 hx hdx ne kp
  have hp1:=same_p hx hdx ne hp
  refine{by show 0<=sizeLine;decide,λr hr'=>{_,O,?_}}
  have sr:=zae (o:=.lst []) hr'
  refine fin x p' r 4 rm [] Z _ (n+4) kZ bgZ (by omega) (sm.trans sr) hp1 (sm.free hr') {?_,sr _ _ ob.ls} zac {by decide,(λw hw=>nomatch hw),by decide,(λh=>absurd O h),(λh=>absurd h (by decide)),λ_=>{Nat.zero_le _,c1},by omega} (λh=>by rcases h with h|h<;>cases h) ?_
  .obtain⟨d0,e0⟩:=ob.ex
   exact{d0,sr _ _ e0}
  .intro z
   have:=ob.ls
   rw[z,hr'] at this;cases this
abbrev zcr:Stmt:=top 85
def sc_law_chips:FnScope ["bag","chips","models","k","chip","model"] ["bag"] (zai zcr):=sck O O O (by decide +kernel)
structure Cb8(cs:Nat->Addr)(p:Addr)(X:Hp)(CL ML:Addr)(cl:List Cm):Prop where
 eC:noB p X CL=some (.lst (cl.map λc=>.ref c.x))
 eM:noB p X ML=some (.lst (cl.map λc=>.ref c.m))
 C:CMs cs (noB p X) cl
 nCM:CL≠ML
 f:∀c∈cl,c.x≠CL/\c.x≠ML/\c.p≠CL/\c.p≠ML/\c.m≠CL/\c.m≠ML/\c.r≠CL/\c.r≠ML
 k0:∃c r,cl=c::r/\c.kd=2
def Cb8.keep{cs:Nat->Addr}{p:Addr}{X Y:Hp}{CL ML:Addr}{cl:List Cm}(h:Cb8 cs p X CL ML cl)(k:KeepP p X Y):Cb8 cs p Y CL ML cl:={k.nob _ _ h.eC,k.nob _ _ h.eM,h.C.same k.nob,h.nCM,h.f,h.k0}
inductive spChips48(cs:Nat->Addr)(vs:List V)(H:Hp)(Q:VK)(u3_:XK):Prop
 | mk (p:Addr) (n:Nat)(_:vs=[.ref p])(_:Bg H p n)(_:n<2 ^ 28)(_:∀(t CL ML:Addr) (cl:List Cm) (H':Hp),H' t=some (.tup [.ref CL,.ref ML])->Cb8 cs p H' CL ML cl->cl.length<=13->Bg H' p (n+300)->KeepP p H H'->Q (.ref t) H')
def zfz{f:Addr}{cs:Nat->Addr}{fd:FuncData}(F:FunN K "_law_chips" zcr f fd)(T:Blt mg)(G_law_draw:Cal P w K mg base 1 "_law_draw" ["bag","many"] spDw)(G_law_chip:Cal P w K mg base 5 "_law_chip" ["bag"] (spChip48 cs))(GMLatch_0:Mak P w K mg base 3 "Latch" (cs 2) [] (dP [.int 0]) (spMk1H (cs 2) "latch")):FnOk P w K mg base CX0 6 f fd ["bag"] (spChips48 cs):=by
 refine F.ok sc_law_chips (by walk_at"l") (λcdv A outer s H vs Q E hr h=>?_)
 .obtain⟨p,n,rfl,bg,hn,k⟩:=h
  refine⟨_,(zad (@ps_L _ _ _ _ _ _ 1 sc_law_chips.nd (@zax _ _ _ _ (@zaa _ _ _ _ _ (@zl7 _ _ _ _ _ _ _ _ GMLatch_0 (hrm hr) O (by decide)) (@zab _) (by rfl))) (by rfl) (by exact Or.inl O) (by rfl) (by walk_at"p"))
   (zad (@ps_L _ _ _ _ _ _ 2 sc_law_chips.nd (@zax _ _ _ _ (@zaa _ _ _ _ _ (@zax _ _ _ _ (@zaa _ _ _ _ _ (@zaD _ _ _ _) (@zaa _ _ _ _ _ (@zax _ _ _ _ (@zaa _ _ _ _ _ (@zaf _ _ _ _) (@zab _) (by rfl))) (@zaa _ _ _ _ _ (@zaf _ _ _ _) (@zab _) (by rfl)) (by rfl)) (by rfl))) (@zab _) (by rfl))) (by rfl) (by exact Or.inl O) (by rfl) (by walk_at"p"))
   (zad (@zb2 _ _ _ _ _ _ _ _ PassesOwn.never O (@za0 _ _ _ _ _ _ O T.range (@zaa _ _ _ _ _ (@pe_x _ _ _ _ _ _ _ zaz (@zax _ _ _ _ (@zaa _ _ _ _ _ (@zat _ _ _ _ _ _ _ _ za8 (@zaf _ _ _ _) (@pe_c _ _ _ _ _ _ _ _ _ _ G_law_draw (@zaa _ _ _ _ _ (@pv _ 0 _ _ (by rfl) (by walk_at"o") (by decide) (by decide)) (@zaa _ _ _ _ _ (@zaf _ _ _ _) (@zab _) (by rfl)) (by rfl)) (by exact hrm (by assumption)) (by rfl) (by decide) (by rfl) (by rfl))) (@zaa _ _ _ _ _ (@zat _ _ _ _ _ _ _ _ za8 (@zaf _ _ _ _) (@pe_c _ _ _ _ _ _ _ _ _ _ G_law_draw (@zaa _ _ _ _ _ (@pv _ 0 _ _ (by rfl) (by walk_at"o") (by decide) (by decide)) (@zaa _ _ _ _ _ (@zaf _ _ _ _) (@zab _) (by rfl)) (by rfl)) (by exact hrm (by assumption)) (by rfl) (by decide) (by rfl) (by rfl))) (@zab _) (by rfl)) (by rfl))) (@zat _ _ _ _ _ _ _ _ zb9 (@pe_c _ _ _ _ _ _ _ _ _ _ G_law_draw (@zaa _ _ _ _ _ (@pv _ 0 _ _ (by rfl) (by walk_at"o") (by decide) (by decide)) (@zaa _ _ _ _ _ (@zaf _ _ _ _) (@zab _) (by rfl)) (by rfl)) (by exact hrm (by assumption)) (by rfl) (by decide) (by rfl) (by rfl)) (@zaf _ _ _ _)) (by exactλ_ _=>O)) (@zab _) (by rfl)) (by rfl)) (@pg_L _ _ _ 3 sc_law_chips.nd (by rfl) (by exact Or.inl O) (by walk_at"p")) (@zad _ _ _ _ _ (@zcF _ _ _ _ _ _ (@pe_c _ _ _ _ _ _ _ _ _ _ G_law_chip (@zaa _ _ _ _ _ (@pv _ 0 _ _ (by rfl) (by walk_at"o") (by decide) (by decide)) (@zab _) (by rfl)) (by exact hrm (by assumption)) (by rfl) (by decide) (by rfl) (by rfl)) (@zbI _ _ _ _ _ _ O (@zao _ _ _ _ _ (@pg_L _ _ _ 4 sc_law_chips.nd (by rfl) (by exact Or.inl O) (by walk_at"p")) (@zao _ _ _ _ _ (@pg_L _ _ _ 5 sc_law_chips.nd (by rfl) (by exact Or.inl O) (by walk_at"p")) (@zaS _) (by rfl)) (by rfl)) (by rfl) (by rfl)) (by rfl) (by rfl) (by rfl)) (@zad _ _ _ _ _ (@zaJ _ _ _ _ (@zda _ _ _ _ _ _ _ _ _ _ _ _ PySem.F.plainAttrs_list PySem.F.slot_list_append PySem.F.type_list_append zbr (@pv _ 1 _ _ (by rfl) (by walk_at"o") (by decide) (by decide)) (@zaa _ _ _ _ _ (@pv _ 4 _ _ (by rfl) (by walk_at"o") (by decide) (by decide)) (@zab _) (by rfl)) (by rfl) (by rfl) (by rfl) (by rfl) (by rfl)) (by rfl)) (@zag _ _ _ (@zaJ _ _ _ _ (@zda _ _ _ _ _ _ _ _ _ _ _ _ PySem.F.plainAttrs_list PySem.F.slot_list_append PySem.F.type_list_append zbr (@pv _ 2 _ _ (by rfl) (by walk_at"o") (by decide) (by decide)) (@zaa _ _ _ _ _ (@pv _ 5 _ _ (by rfl) (by walk_at"o") (by decide) (by decide)) (@zab _) (by rfl)) (by rfl) (by rfl) (by rfl) (by rfl) (by rfl)) (by rfl))))) (by intro _;rfl))
   (zag (@zal _ _ _ _ (@zaX _ _ _ _ _ (@zaa _ _ _ _ _ (@pv _ 1 _ _ (by rfl) (by walk_at"o") (by decide) (by decide)) (@zaa _ _ _ _ _ (@pv _ 2 _ _ (by rfl) (by walk_at"o") (by decide) (by decide)) (@zab _) (by rfl)) (by rfl)))))))),?rd⟩
  have K0:Kd 2 0 [0]:={by decide,(λw hw=>by rw[Xae] at hw;omega),by show 1<=4096;decide,λ_=>Xad _,λ_=>O,λh=>absurd h (by decide),by decide}
  
  refine zbt (λU X=>∃(CL x p0:Addr),U=[some (.ref p),some (.ref CL),none,none,none,none]/\X CL=some (.lst [.ref x])/\H CL=none/\H p0=none/\H x=none/\CL≠p0/\Chp cs X x p0 2 0 [0]/\Same H X) (λN hN=>?_) ?_
  .refineλx dx hx hdx ne=>{x,dx,0,O,by decide,by decide,zac,λp0 Z1 hp ex el kp=>{O,by show 1<=sizeLine;decide,λCL hCL=>?_}}
   have sm:=zb3 hx hdx ne kp
   have hp1:H p0=none:=zdW ((zae (o:=.own x) hdx).trans (zae (o:=.ins (cs 2) dx []) (by rw[zah (Ne.symm ne)];exact hx))) hp
   have sC:=zae (o:=.lst [V.ref x]) hCL
   refine hN _ _ {CL,x,p0,O,zac,sm.free hCL,hp1,hx,(λz=>by rw[z,el] at hCL;cases hCL),{?_,sC _ _ el},sm.trans sC}
   obtain⟨d0,e0⟩:=ex
   exact{d0,sC _ _ e0}
  rintro U X ⟨CL,x,p0,rfl,eC,hC,hp0,hx0,nC0,ch,sX⟩
  refine zbt (λU Y=>∃ML cl,U=[some (.ref p),some (.ref CL),some (.ref ML),none,none,none]/\Cb8 cs p Y CL ML cl/\cl.length=1/\Bg Y p n/\H ML=none/\KeepP p H Y) (λN hN=>?_) ?_
  .refine{by show 1<=sizeLine;decide,λr hr'=>{by show 3<=sizeLine;decide,λa ha=>{by show 1<=sizeLine;decide,λML hML=>?_}}}
   have s1:=zae (o:=.lst [V.int 0]) hr'
   have s2:=zae (o:=.lst [V.str "latch",.ref r,.int 0]) ha
   have s3:=zae (o:=.lst [V.ref a]) hML
   have bgY:=bg.same sX
   have er:upd (upd (upd X r (.lst [V.int 0])) a (.lst [V.str "latch",.ref r,.int 0])) ML (.lst [V.ref a]) r=some (.lst [V.int 0]):=s3 _ _ (s2 _ _ zac)
   have ea:upd (upd (upd X r (.lst [V.int 0])) a (.lst [V.str "latch",.ref r,.int 0])) ML (.lst [V.ref a]) a=some (.lst [V.str "latch",.ref r,.int 0]):=s3 _ _ zac
   have eMl:upd (upd (upd X r (.lst [V.int 0])) a (.lst [V.str "latch",.ref r,.int 0])) ML (.lst [V.ref a]) ML=some (.lst [V.ref a]):=zac
   have sA:=(s1.trans s2).trans s3
   have e1:=sA _ _ eC
   have ch1:=ch.same sA
   have gA:=bgY.same sA
   have hr0:X r=none:=hr'
   have ha0:X a=none:=s1.free ha
   have hM0:X ML=none:=(s1.trans s2).free hML
   have nar:r≠ML:=zaj (s2 _ _ zac) hML
   have naM:a≠ML:=zaj zac hML
   generalize upd (upd (upd X r (.lst [V.int 0])) a (.lst [V.str "latch",.ref r,.int 0])) ML (.lst [V.ref a])=Z at *
   have np:∀{q:Addr},X q=none->q≠p:=λ{q} h=>bgY.ne h
   have nq:∀{q:Addr},H q=none->q≠p:=λ{q} h=>bg.ne h
   obtain⟨d0,e0⟩:=ch1.ex
   obtain⟨d1,e1x⟩:=ch.ex
   have nnY:∀{q z:Addr} {o:HO},X q=some o->X z=none->q≠z:=λ{q z o} h1 h2 e=>by rw[e,h2] at h1;cases h1
   refine hN _ _ {ML,[{x,p0,a,r,2,0,[0]}],O,{zaY (nq hC) e1,zaY (np hM0) eMl,{λc hc=>?_,?_},nnY eC hM0,λc hc=>?_,_,_,O,O},O,gA,sX.free hM0,.of (sX.trans sA)}
   .rw[Xae.mp hc]
    exact{{{d0,zaY (nq hx0) e0},zaY (nq hp0) ch1.ls},{zaY (np ha0) ea,zaY (np hr0) er},K0,λ_=>O,nnY ch.ls hr0}
   .show[p0,r].Nodup
    have:=nnY ch.ls hr0
    simp[this]
   .rw[Xae.mp hc]
    exact{(λz=>by have z:x=CL:=z;rw[z,eC] at e1x;cases e1x),nnY e1x hM0,Ne.symm nC0,nnY ch.ls hM0,Ne.symm (nnY eC ha0),naM,Ne.symm (nnY eC hr0),nar}
  rintro U Y ⟨ML,cl0,rfl,hB,hl0,bgY,hML,kY⟩
  
  refine{_,O,p,5,n,O,bgY,by omega,by decide,by decide,λi1 X1 hi1 bg1 k1=>{_,_,O,O,?_}}
  refine{_,O,p,4,n+1,O,bg1,by omega,by decide,by decide,λi2 X2 hi2 bg2 k2=>{_,_,O,O,by show 2<=sizeLine;decide,λl hl=>?_}}
  refine{_,O,p,8,n+2,O,bg2.same (zae hl),by omega,by decide,by decide,λi3 X3 hi3 bg3 k3=>{_,_,O,O,{by decide,by decide +kernel},?_}}
  have el:X3 l=some (.lst [V.int ((1:Int)+(i1:Int)),V.int ((9:Int)+(i2:Int))]):=by rw[k3 l (bg2.ne hl)];exact zac
  obtain⟨cn,c2,ec⟩:∃cn:Nat,cn<=12/\atI [V.int ((1:Int)+(i1:Int)),V.int ((9:Int)+(i2:Int))] ((i3:Int) / 7)=some (.int (cn:Int)):=by
   by_cases h7:i3<7
   .exact{1+i1,by omega,by rw[show(i3:Int) / 7=((0:Nat):Int) by omega,show(1:Int)+(i1:Int)=((1+i1:Nat):Int) by omega];rfl}
   .exact{9+i2,by omega,by rw[show(i3:Int) / 7=((1:Nat):Int) by omega,show(9:Int)+(i2:Int)=((9+i2:Nat):Int) by omega];rfl}
  have kY3:KeepP p Y X3:=(zau k1).trans ((zau k2).trans ((KeepP.of (zae hl)).trans (zau k3)))
  refine{l,_,_,_,O,O,SqL.of el,ec,_,O,by omega,by omega,?_}
  rw[Xap]
  refine zb5 (n:=cn) (λi U X=>∃(v3 v4 v5:Option V) (cl:List Cm),U=[some (.ref p),some (.ref CL),some (.ref ML),v3,v4,v5]/\Cb8 cs p X CL ML cl/\cl.length=i+1/\Bg X p (n+3+20*i)/\KeepP p H X) {_,_,_,cl0,O,hB.keep kY3,by omega,bg3,kY.trans kY3} ?_ ?_
  .rintro i U X hi ⟨v3,v4,v5,cl,rfl,hB,hl1,bgX,kX⟩
   refine{_,O,p,_,O,bgX,by omega,λt c X1 et hp hr' hm ok bg1 k1=>zfM et ?_}
   have h1:=hB.keep k1
   obtain⟨nC,eC1⟩:=zaK h1.eC
   obtain⟨nM,eM1⟩:=zaK h1.eM
   obtain⟨_,eC0⟩:=zaK hB.eC
   obtain⟨_,eM0⟩:=zaK hB.eM
   have nn:∀{q z:Addr} {o:HO},X q=some o->X z=none->z≠q:=λ{q z o} h1 h2 e=>by rw[e,h1] at h2;cases h2
   have fN:∀{a:Addr},X a=none->noB p X a=none:=λ{a} h=>by
    by_cases e:a=p
    .rw[e];exact zg2
    .rw[zew e];exact h
   have hC1:=hB.C.add k1.nob (fN hp) (fN hr') ok
   have nx:∀{q:Addr} {l:List V},X1 q=some (.lst l)->c.x≠q:=λ{q l} h z=>by
    obtain⟨dx,e⟩:=ok.ch.ex
    have e:=(zaK e).2
    rw[z,h] at e;cases e
   have hF1:∀d∈cl++[c],d.x≠CL/\d.x≠ML/\d.p≠CL/\d.p≠ML/\d.m≠CL/\d.m≠ML/\d.r≠CL/\d.r≠ML:=λd hd=>by
    rcases XaH.mp hd with hd|hd
    .exact hB.f d hd
    .rw[Xae.mp hd]
     exact{nx eC1,nx eM1,nn eC0 hp,nn eM0 hp,nn eC0 hm,nn eM0 hm,nn eC0 hr',nn eM0 hr'}
   try dsimp only[zay,List.set]
   refine{_,O,.inl {O,_,SqL.of eC1},_,O,CL,_,_,O,O,eC1,?_,?_}
   .rw[Xaf];exact Xa5 (show cl.length<=13 by omega) (by decide)
   have eM2:upd X1 CL (.lst ((cl.map λc=>V.ref c.x)++[.ref c.x])) ML=some (.lst (cl.map λc=>.ref c.m)):=by rw[zah (Ne.symm hB.nCM)];exact eM1
   refine{_,O,.inl {O,_,SqL.of eM2},_,O,ML,_,_,O,O,eM2,?_,?_}
   .rw[Xaf];exact Xa5 (show cl.length<=13 by omega) (by decide)
   have hCx:H CL=none:=hC
   refine{_,_,_,cl++[c],O,{?_,?_,?_,hB.nCM,hF1,?_},by simp[hl1],?_,λz o hz ez=>?_}
   .rw[zew nC,zah hB.nCM,zac,Xaw];rfl
   .rw[zew nM,zac,Xaw];rfl
   .rw[zjb nM,zjb nC]
    exact(hC1.updL λc hc=>let f:=hF1 c hc;⟨f.1,f.2.2.1,f.2.2.2.2.1,f.2.2.2.2.2.2.1⟩).updL λc hc=>let f:=hF1 c hc;⟨f.2.1,f.2.2.2.1,f.2.2.2.2.2.1,f.2.2.2.2.2.2.2⟩
   .obtain⟨c',r',rfl,hk⟩:=hB.k0
    exact{c',r'++[c],O,hk}
   .obtain⟨a',c',e',q⟩:=bg1
    exact{a',c',by rw[zah (Ne.symm nM),zah (Ne.symm nC)];exact e',q.1,q.2.1,by omega}
   .rw[zah (zaj ez hML),zah (zaj ez hCx)];exact k1 _ _ hz (kX _ _ hz ez)
  .rintro U X ⟨v3,v4,v5,cl,rfl,hB,hl1,bgX,kX⟩
   refine{_,O,_,O,by show 2<=sizeLine;decide,λt ht=>?_}
   have st:=zae (o:=.tup [.ref CL,.ref ML]) ht
   exact k t CL ML cl _ zac (hB.keep (.of st)) (by omega) ((bgX.same st).mono (by omega)) (kX.trans (.of st))
abbrev zcs:Stmt:=top 93
def sc_law_begun:FnScope ["bag","bits","chips","models","rows","first"] ["bag"] (zai zcs):=sck O O O (by decide +kernel)
def BdAt.nob{C:Addr}{B:Bd}{D:Dt}{Y:Hp}{f n:Nat}{p:Addr}(h:BdAt C B D Y f)(g:Bg Y p n)(n1:B.L≠p)(n2:B.la≠p):BdAt C B D (noB p Y) f:=by
 obtain⟨a,c,ep,_⟩:=g
 obtain⟨db,e⟩:=h.e
 have nt:∀{q:Addr} {l:List V},Y q=some (.tup l)->q≠p:=λ{q l} e z=>by rw[z,ep] at e;cases e
 refine{{db,zaY (λz=>by rw[z,ep] at e;cases e) e},h.b1,h.b2,{zaY (nt h.rf.e) h.rf.e,λz hz=>{?_,(h.rf.r z hz).2},h.rf.f,h.rf.nc,h.rf.ln},zaY n1 h.ch,zaY n2 h.la,h.kl,h.ks,h.kn,h.f0,h.nl}
 obtain⟨lt,et,hlt⟩:=(h.rf.r z hz).1
 refine{lt,zaY (nt et) et,?_}
 match hl:z.2.l,hlt with
 | none,hlt=>exact hlt
 | some (c',a',b'),⟨u,e1,eu⟩=>exact{u,e1,zaY (nt eu) eu}
structure Be3(C:Addr)(cs:Nat->Addr)(p:Addr)(X:Hp)(B:Bd)(MA ML:Addr)(cl:List Cm)(fl:Nat):Prop where
 b:BdAt C B (dtC cl) (noB p X) fl
 eA:∃RM:Addr,noB p X MA=some (.lst [.int (B.bits:Int),.ref RM,.ref ML,.int (fl:Int)])
 eM:noB p X ML=some (.lst (cl.map λc=>.ref c.m))
 C:CMs cs (noB p X) cl
 l:cl.length<=13
 eW:noB p X B.W=some (.dK [])
 nw:B.nw=0
inductive spBegun53(C:Addr)(cs:Nat->Addr)(vs:List V)(H:Hp)(Q:VK)(u3_:XK):Prop
 | mk (p:Addr) (n:Nat)(_:vs=[.ref p])(_:Bg H p n)(_:n<2 ^ 27)(_:∀(t MA ML:Addr) (B:Bd) (cl:List Cm) (fl:Nat) (H':Hp),H' t=some (.tup [.ref B.b,.ref MA])->Be3 C cs p H' B MA ML cl fl->Bg H' p (n+4000)->KeepP p H H'->Q (.ref t) H')
set_option tactic.hygienic true in
def zfA{f C:Addr}{cs:Nat->Addr}{fd:FuncData}(F:FunN K "_law_begun" zcs f fd)(T:Blt mg)(G_law_draw:Cal P w K mg base 1 "_law_draw" ["bag","many"] spDw)(G_law_chips:Cal P w K mg base 6 "_law_chips" ["bag"] (spChips48 cs))(G_law_rows:Cal P w K mg base 3 "_law_rows" ["bag","bits","models"] spRows5)
  (GMBoard_3:Mak P w K mg base 7 "Board" C [] (dP [.int 0]) (spInitB C cs)) (GMBoard_4:Mak P w K mg base 7 "Board" C [] (dP []) (spInitB C cs)):FnOk P w K mg base CX0 9 f fd ["bag"] (spBegun53 C cs):=by
 refine F.ok sc_law_begun (by walk_at"l") (λcdv A outer s H vs Q E hr h=>?_)
 .obtain⟨p,n,rfl,bg,hn,k⟩:=h
  refine⟨_,(zad (@zaA _ _ _ _ _ _ _ _ (@zas _ _ _ _ _ _ _ _ zbS (@pe_c _ _ _ _ _ _ _ _ _ _ G_law_draw (@zaa _ _ _ _ _ (@pv _ 0 _ _ (by rfl) (by walk_at"o") (by decide) (by decide)) (@zaa _ _ _ _ _ (@zaf _ _ _ _) (@zab _) (by rfl)) (by rfl)) (by exact hrm (by assumption)) (by rfl) (by decide) (by rfl) (by rfl)) (@zaf _ _ _ _) (zaw _)) (@zad _ _ _ _ _ (@ps_L _ _ _ _ _ _ 1 sc_law_begun.nd (@zat _ _ _ _ _ _ _ _ za8 (@zaf _ _ _ _) (@pe_c _ _ _ _ _ _ _ _ _ _ G_law_draw (@zaa _ _ _ _ _ (@pv _ 0 _ _ (by rfl) (by walk_at"o") (by decide) (by decide)) (@zaa _ _ _ _ _ (@zaf _ _ _ _) (@zab _) (by rfl)) (by rfl)) (by exact hrm (by assumption)) (by rfl) (by decide) (by rfl) (by rfl))) (by rfl) (by exact Or.inl O) (by rfl) (by walk_at"p")) (@zag _ _ _ (@zal _ _ _ _ (@zaX _ _ _ _ _ (@zaa _ _ _ _ _ (@zcI _ _ _ _ _ _ _ _ _ _ _ GMBoard_3 (hrm hr) O (@zaa _ _ _ _ _ (@pv _ 1 _ _ (by rfl) (by walk_at"o") (by decide) (by decide)) (@zaa _ _ _ _ _ (@zaX _ _ _ _ _ (@zab _)) (@zaa _ _ _ _ _ (@zax _ _ _ _ (@zab _)) (@zab _) (by rfl)) (by rfl)) (by rfl)) (by decide) (by rfl) (by rfl)) (@zaa _ _ _ _ _ (@zax _ _ _ _ (@zaa _ _ _ _ _ (@pv _ 1 _ _ (by rfl) (by walk_at"o") (by decide) (by decide)) (@zaa _ _ _ _ _ (@zaX _ _ _ _ _ (@zab _)) (@zaa _ _ _ _ _ (@zax _ _ _ _ (@zab _)) (@zaa _ _ _ _ _ (@zaf _ _ _ _) (@zab _) (by rfl)) (by rfl)) (by rfl)) (by rfl))) (@zab _) (by rfl)) (by rfl)))))) (@zan _))
   (zad (@ps_L _ _ _ _ _ _ 1 sc_law_begun.nd (@pe_x _ _ _ _ _ _ _ zaz (@zax _ _ _ _ (@zaa _ _ _ _ _ (@zat _ _ _ _ _ _ _ _ za8 (@zaf _ _ _ _) (@pe_c _ _ _ _ _ _ _ _ _ _ G_law_draw (@zaa _ _ _ _ _ (@pv _ 0 _ _ (by rfl) (by walk_at"o") (by decide) (by decide)) (@zaa _ _ _ _ _ (@zaf _ _ _ _) (@zab _) (by rfl)) (by rfl)) (by exact hrm (by assumption)) (by rfl) (by decide) (by rfl) (by rfl))) (@zaa _ _ _ _ _ (@zat _ _ _ _ _ _ _ _ za8 (@zaf _ _ _ _) (@pe_c _ _ _ _ _ _ _ _ _ _ G_law_draw (@zaa _ _ _ _ _ (@pv _ 0 _ _ (by rfl) (by walk_at"o") (by decide) (by decide)) (@zaa _ _ _ _ _ (@zaf _ _ _ _) (@zab _) (by rfl)) (by rfl)) (by exact hrm (by assumption)) (by rfl) (by decide) (by rfl) (by rfl))) (@zab _) (by rfl)) (by rfl))) (@zat _ _ _ _ _ _ _ _ zb9 (@pe_c _ _ _ _ _ _ _ _ _ _ G_law_draw (@zaa _ _ _ _ _ (@pv _ 0 _ _ (by rfl) (by walk_at"o") (by decide) (by decide)) (@zaa _ _ _ _ _ (@zaf _ _ _ _) (@zab _) (by rfl)) (by rfl)) (by exact hrm (by assumption)) (by rfl) (by decide) (by rfl) (by rfl)) (@zaf _ _ _ _)) (by exactλ_ _=>O)) (by rfl) (by exact Or.inl O) (by rfl) (by walk_at"p"))
   (zad (@zcF _ _ _ _ _ _ (@pe_c _ _ _ _ _ _ _ _ _ _ G_law_chips (@zaa _ _ _ _ _ (@pv _ 0 _ _ (by rfl) (by walk_at"o") (by decide) (by decide)) (@zab _) (by rfl)) (by exact hrm (by assumption)) (by rfl) (by decide) (by rfl) (by rfl)) (@zbI _ _ _ _ _ _ O (@zao _ _ _ _ _ (@pg_L _ _ _ 2 sc_law_begun.nd (by rfl) (by exact Or.inl O) (by walk_at"p")) (@zao _ _ _ _ _ (@pg_L _ _ _ 3 sc_law_begun.nd (by rfl) (by exact Or.inl O) (by walk_at"p")) (@zaS _) (by rfl)) (by rfl)) (by rfl) (by rfl)) (by rfl) (by rfl) (by rfl))
   (zad (@ps_L _ _ _ _ _ _ 4 sc_law_begun.nd (@pe_c _ _ _ _ _ _ _ _ _ _ G_law_rows (@zaa _ _ _ _ _ (@pv _ 0 _ _ (by rfl) (by walk_at"o") (by decide) (by decide)) (@zaa _ _ _ _ _ (@pv _ 1 _ _ (by rfl) (by walk_at"o") (by decide) (by decide)) (@zaa _ _ _ _ _ (@pv _ 3 _ _ (by rfl) (by walk_at"o") (by decide) (by decide)) (@zab _) (by rfl)) (by rfl)) (by rfl)) (by exact hrm (by assumption)) (by rfl) (by decide) (by rfl) (by rfl)) (by rfl) (by exact Or.inl O) (by rfl) (by walk_at"p"))
   (zad (@ps_L _ _ _ _ _ _ 5 sc_law_begun.nd (@pe_c _ _ _ _ _ _ _ _ _ _ G_law_draw (@zaa _ _ _ _ _ (@pv _ 0 _ _ (by rfl) (by walk_at"o") (by decide) (by decide)) (@zaa _ _ _ _ _ (@zaf _ _ _ _) (@zab _) (by rfl)) (by rfl)) (by exact hrm (by assumption)) (by rfl) (by decide) (by rfl) (by rfl)) (by rfl) (by exact Or.inl O) (by rfl) (by walk_at"p"))
   (zad (@zaA _ _ _ _ _ _ _ _ (@zas _ _ _ _ _ _ _ _ zbS (@pe_c _ _ _ _ _ _ _ _ _ _ G_law_draw (@zaa _ _ _ _ _ (@pv _ 0 _ _ (by rfl) (by walk_at"o") (by decide) (by decide)) (@zaa _ _ _ _ _ (@zaf _ _ _ _) (@zab _) (by rfl)) (by rfl)) (by exact hrm (by assumption)) (by rfl) (by decide) (by rfl) (by rfl)) (@zaf _ _ _ _) (zaw _)) (@zag _ _ _ (@zal _ _ _ _ (@zaX _ _ _ _ _ (@zaa _ _ _ _ _ (@zcI _ _ _ _ _ _ _ _ _ _ _ GMBoard_3 (hrm hr) O (@zaa _ _ _ _ _ (@pv _ 1 _ _ (by rfl) (by walk_at"o") (by decide) (by decide)) (@zaa _ _ _ _ _ (@pv _ 4 _ _ (by rfl) (by walk_at"o") (by decide) (by decide)) (@zaa _ _ _ _ _ (@pv _ 2 _ _ (by rfl) (by walk_at"o") (by decide) (by decide)) (@zab _) (by rfl)) (by rfl)) (by rfl)) (by decide) (by rfl) (by rfl)) (@zaa _ _ _ _ _ (@zax _ _ _ _ (@zaa _ _ _ _ _ (@pv _ 1 _ _ (by rfl) (by walk_at"o") (by decide) (by decide)) (@zaa _ _ _ _ _ (@pv _ 4 _ _ (by rfl) (by walk_at"o") (by decide) (by decide)) (@zaa _ _ _ _ _ (@pv _ 3 _ _ (by rfl) (by walk_at"o") (by decide) (by decide)) (@zaa _ _ _ _ _ (@zaf _ _ _ _) (@zab _) (by rfl)) (by rfl)) (by rfl)) (by rfl))) (@zab _) (by rfl)) (by rfl))))) (@zan _))
   (zag (@zal _ _ _ _ (@zaX _ _ _ _ _ (@zaa _ _ _ _ _ (@zcI _ _ _ _ _ _ _ _ _ _ _ GMBoard_4 (hrm hr) O (@zaa _ _ _ _ _ (@pv _ 1 _ _ (by rfl) (by walk_at"o") (by decide) (by decide)) (@zaa _ _ _ _ _ (@pv _ 4 _ _ (by rfl) (by walk_at"o") (by decide) (by decide)) (@zaa _ _ _ _ _ (@pv _ 2 _ _ (by rfl) (by walk_at"o") (by decide) (by decide)) (@zaa _ _ _ _ _ (@pv _ 5 _ _ (by rfl) (by walk_at"o") (by decide) (by decide)) (@zab _) (by rfl)) (by rfl)) (by rfl)) (by rfl)) (by decide) (by rfl) (by rfl)) (@zaa _ _ _ _ _ (@zax _ _ _ _ (@zaa _ _ _ _ _ (@pv _ 1 _ _ (by rfl) (by walk_at"o") (by decide) (by decide)) (@zaa _ _ _ _ _ (@pv _ 4 _ _ (by rfl) (by walk_at"o") (by decide) (by decide)) (@zaa _ _ _ _ _ (@pv _ 3 _ _ (by rfl) (by walk_at"o") (by decide) (by decide)) (@zaa _ _ _ _ _ (@pv _ 5 _ _ (by rfl) (by walk_at"o") (by decide) (by decide)) (@zab _) (by rfl)) (by rfl)) (by rfl)) (by rfl))) (@zab _) (by rfl)) (by rfl))))))))))),?rd⟩
  have fin:∀(cl:List Cm) (m fl q:Nat) (B:Bd) (X4 Z W:Hp) (RM ML:Addr),KeepP p H X4->Bg X4 p q->q<=n+4000->B.bits=m->X4 B.b=none->X4 B.L=none->X4 B.la=none->X4 B.W=none->B.nw=0->Z B.W=some (.dK [])->BdAt C B (dtC cl) Z fl->Same X4 Z->Same Z W->noB p W ML=some (.lst (cl.map λc=>.ref c.m))->CMs cs (noB p W) cl->cl.length<=13->∀MA,W MA=none->∀t,upd W MA (.lst [.int (m:Int),.ref RM,.ref ML,.int (fl:Int)]) t=none->Q (.ref t) (upd (upd W MA (.lst [.int (m:Int),.ref RM,.ref ML,.int (fl:Int)])) t (.tup [.ref B.b,.ref MA])):=by
   intro cl m fl q B X4 Z W RM ML kall bg4 hq em hb hL hla hWn hnw eW hBd s4 sZW eML hC hl13 MA hMA t ht
   subst em
   have sM:=zae (o:=.lst [.int (B.bits:Int),.ref RM,.ref ML,.int (fl:Int)]) hMA
   have sT:=sM.trans (zae (o:=.tup [.ref B.b,.ref MA]) ht)
   have s4W:=s4.trans sZW
   have gW:=bg4.same s4W
   have sN:Same (noB p W) (noB p (upd (upd W MA (.lst [.int (B.bits:Int),.ref RM,.ref ML,.int (fl:Int)])) t (.tup [.ref B.b,.ref MA]))):=(KeepP.of sT).nob
   exact k t MA ML B cl fl _ zac {((hBd.same sZW).same sT).nob (gW.same sT) (bg4.ne hL) (bg4.ne hla),{RM,zaY (gW.ne hMA) (zae ht _ _ zac)},sN _ _ eML,hC.same sN,hl13,zaY (bg4.ne hWn) (sT _ _ (sZW _ _ eW)),hnw} ((gW.same sT).mono hq) (kall.trans (.of (s4W.trans sT)))
  
  refine zbt (λU X=>U=[some (.ref p),none,none,none,none,none]/\Bg X p (n+1)/\KeepP p H X) (λN hN=>?_) ?_
  .refine{_,O,p,12,n,O,bg,by omega,by decide,by decide,λi0 X0 hi0 bg0 k0=>{O,_,O,ite2 (λ_=>?_) (λ_=>zar (hN _ _ {O,bg0,zau k0}))}}
   refine{_,O,p,3,n+1,O,bg0,by omega,by decide,by decide,λd X1 hd bg1 k1=>{_,_,O,O,?_}}
   try dsimp only[zay,List.set]
   obtain⟨m,hm,em⟩:∃m:Nat,(1<=m/\m<=16)/\(1:Int)+(d:Int)=(m:Int):={1+d,by omega,by omega}
   rw[em]
   refine{_,O,by show 0<=sizeLine;decide,λR hR=>{by show 0<=sizeLine;decide,λCL hCL b db hb hdb _=>?_}}
   have s1:=zae (o:=.tup []) hR
   have s2:=s1.trans (zae (o:=.lst []) hCL)
   have k2:KeepP p _ (upd (upd X1 R (.tup [])) CL (.lst [])):=(zau k0).trans ((zau k1).trans (.of s2))
   have bg2:=bg1.same s2
   have eR:upd (upd X1 R (.tup [])) CL (.lst []) R=some (.tup []):=zae hCL _ _ zac
   have eCL:upd (upd X1 R (.tup [])) CL (.lst []) CL=some (.lst []):=zac
   generalize upd (upd X1 R (.tup [])) CL (.lst [])=X4 at *
   have rf0:∀{Y:Hp} {q:Addr},Y q=some (.tup [])->RwsFor (dtC []) m Y q []:=λ{Y q} e=>{e,(λ_ h=>nomatch h),(λ_ h=>nomatch h),List.Pairwise.nil,by decide}
   have C0:∀{Y:Hp},CMs cs Y []:=λ{Y}=>{(λ_ h=>nomatch h),List.nodup_nil}
   refine{b,db,R,CL,m,0,dtC [],usC [],[],O,zac,hm.1,hm.2,by decide,(rf0 eR).same (zba hb hdb),zba hb hdb _ _ eCL,(C0.chs (by decide)).same (zba hb hdb),λB Z e1 e2 e3 e4 hBL hBla hBW enw eW hBd fr=>{O,?_}}
   have sB:Same X4 (upd (upd X4 db (.own b)) b (.ins C db [])):=λx u e=>zba hb hdb x u e
   have s4:Same X4 Z:=λx u e=>fr x u (zaj e hb) (sB _ _ e)
   subst e1 e2
   refine{_,O,by show 0<=sizeLine;decide,λRM hRM=>{by show 0<=sizeLine;decide,λML hML=>{by show 4<=sizeLine;decide,λMA hMA=>{by show 2<=sizeLine;decide,λt ht=>?_}}}}
   have w1:=zae (o:=.tup []) hRM
   have w2:=zae (o:=.lst []) hML
   have gZ:=bg2.same s4
   exact fin [] _ 0 (n+2) B X4 Z _ RM ML k2 bg2 (by omega) O hb (sB.free hBL) (sB.free hBla) (sB.free hBW) enw eW hBd s4 (w1.trans w2) (zaY ((gZ.same w1).ne hML) zac) C0 (by decide) MA hMA t ht
  rintro U H0 ⟨rfl,bgH,kH⟩
  
  refine zbt (λU X=>∃m:Nat,1<=m/\m<=16/\U=[some (.ref p),some (.int (m:Int)),none,none,none,none]/\Bg X p (n+4)/\KeepP p H X) (λN hN=>?_) ?_
  .refine{_,O,p,7,n+1,O,bgH,by omega,by decide,by decide,λi1 X1 hi1 bg1 k1=>{_,_,O,O,?_}}
   refine{_,O,p,9,n+2,O,bg1,by omega,by decide,by decide,λi2 X2 hi2 bg2 k2=>{_,_,O,O,by show 2<=sizeLine;decide,λl hl=>?_}}
   refine{_,O,p,4,n+3,O,bg2.same (zae hl),by omega,by decide,by decide,λi3 X3 hi3 bg3 k3=>{_,_,O,O,{by decide,by decide +kernel},?_}}
   have el:X3 l=some (.lst [V.int ((1:Int)+(i1:Int)),V.int ((8:Int)+(i2:Int))]):=by rw[k3 l (bg2.ne hl)];exact zac
   obtain⟨m,c1,c2,ec⟩:∃m:Nat,1<=m/\m<=16/\atI [V.int ((1:Int)+(i1:Int)),V.int ((8:Int)+(i2:Int))] ((i3:Int) / 3)=some (.int (m:Int)):=by
    by_cases h3:i3<3
    .exact{1+i1,by omega,by omega,by rw[show(i3:Int) / 3=((0:Nat):Int) by omega,show(1:Int)+(i1:Int)=((1+i1:Nat):Int) by omega];rfl}
    .exact{8+i2,by omega,by omega,by rw[show(i3:Int) / 3=((1:Nat):Int) by omega,show(8:Int)+(i2:Int)=((8+i2:Nat):Int) by omega];rfl}
   exact{l,_,_,_,O,O,SqL.of el,ec,hN _ _ {m,c1,c2,O,bg3,kH.trans ((zau k1).trans ((zau k2).trans ((KeepP.of (zae hl)).trans (zau k3))))}}
  rintro U X ⟨m,m1,m2,rfl,bgX,kX⟩
  
  refine{_,O,p,n+4,O,bgX,by omega,λt CL ML cl X1 et hB hl13 bg1 k1=>zfM et ?_}
  try dsimp only[zay,List.set]
  obtain⟨c0,r0,hcl,hk0⟩:=hB.k0
  have c1:1<=cl.length:=by rw[hcl];simp
  have szs:∀i,i<cl.length->1<=(dtC cl).sz i:=λi hi=>by
   have kk:=(hB.C.o _ (zbK hi).1).k
   show 1<=zdf _ _
   unfold zdf
   split
   .decide
   .rename_i h;exact kk.l1 h
  have en:En5 (dtC cl) (λi=>(cl.getD i dfCm).m) (λi=>(cl.getD i dfCm).r) ML p X1 (usC cl):=by
   have M:=hB.C.mod
   refine{M.same zcL,by rw[zln];exact(zaK hB.eM).2,{Ne.symm (zaK hB.eM).1,λi hi=>{Ne.symm (zaK (M.o i hi).at_).1,Ne.symm (zaK (M.o i hi).ls).1}},c1,Xak hl13 (by decide)}
  refine{_,O,_,O,_,O,p,ML,dtC cl,_,_,usC cl,n+304,m,O,bg1,by omega,en,m1,m2,?_,szs,λR ws X2 hR0 eR raw fit nc hl16 bg2 k2=>?_}
  .show(cl.getD 0 dfCm).kd=2
   rw[hcl];exact hk0
  try dsimp only[zay,List.set]
  refine{_,O,p,256,n+3304,O,bg2,by omega,by decide,by decide,λfi X3 hfi bg3 k3=>?_}
  try dsimp only[zay,List.set]
  refine{_,O,p,3,n+3305,O,bg3,by omega,by decide,by decide,λwy X4 hwy bg4 k4=>{O,_,O,?_}}
  have k24:KeepP p X2 X4:=(zau k3).trans (zau k4)
  have kall:KeepP p H X4:=kX.trans (k1.trans (k2.trans k24))
  have hB4:=hB.keep (k2.trans k24)
  have rf4:RwsFor (dtC cl) m X4 R ws:=by
   have np:∀{a:Addr} {o:List V},X2 a=some (.tup o)->a≠p:=λ{a o} e z=>by obtain⟨a',c',e',_⟩:=bg2;rw[z,e'] at e;cases e
   exact{k24 _ _ (np eR) eR,λz hz=>{(raw z hz).1.keepP bg2 k24,(raw z hz).2},fit,nc,by omega}
  have eL4:X4 CL=some (.lst (chL (dtC cl))):=by rw[chL_cm];exact(zaK hB4.eC).2
  have S4:Chs cs (dtC cl) X4 (usC cl):=(hB4.C.chs (Xak hl13 (by decide))).same zcL
  have fin2:∀(fl:Nat) (b db:Addr) (B:Bd) (Z:Hp),X4 b=none->X4 db=none->B.b=b->B.bits=m->B.R=R->upd (upd X4 db (.own b)) b (.ins C db []) B.L=none->upd (upd X4 db (.own b)) b (.ins C db []) B.la=none->upd (upd X4 db (.own b)) b (.ins C db []) B.W=none->B.nw=0->Z B.W=some (.dK [])->BdAt C B (dtC cl) Z fl->(∀a o,a≠b->upd (upd X4 db (.own b)) b (.ins C db []) a=some o->Z a=some o)->∀MA,Z MA=none->∀t,upd Z MA (.lst [.int (m:Int),.ref R,.ref ML,.int (fl:Int)]) t=none->Q (.ref t) (upd (upd Z MA (.lst [.int (m:Int),.ref R,.ref ML,.int (fl:Int)])) t (.tup [.ref b,.ref MA])):=by
   intro fl b db B Z hb hdb e1 e2 e3 hBL hBla hBW enw eW hBd fr MA hMA t ht
   subst e1 e2 e3
   have sB:Same X4 (upd (upd X4 db (.own B.b)) B.b (.ins C db [])):=λx u e=>zba hb hdb x u e
   have s4:Same X4 Z:=λx u e=>fr x u (zaj e hb) (sB _ _ e)
   have hB5:=hB4.keep (.of s4)
   exact fin cl _ fl (n+3306) B X4 Z Z B.R ML kall bg4 (by omega) O hb (sB.free hBL) (sB.free hBla) (sB.free hBW) enw eW hBd s4 (Same.refl _) hB5.eM hB5.C hl13 MA hMA t ht
  refine ite2 (λ_=>?_) (λ_=>?_)
  .refine{_,O,_,O,_,O,λb db hb hdb _=>{b,db,R,CL,m,0,dtC cl,usC cl,ws,O,zac,m1,m2,by decide,rf4.same (zba hb hdb),zba hb hdb _ _ eL4,S4.same (zba hb hdb),λB Z e1 e2 e3 e4 hBL hBla hBW enw eW hBd fr=>{O,?_}}}
   refine{_,O,_,O,_,O,by show 4<=sizeLine;decide,λMA hMA=>{by show 2<=sizeLine;decide,λt ht=>?_}}
   exact fin2 0 b db B Z hb hdb e1 e2 e3 hBL hBla hBW enw eW hBd fr MA hMA t ht
  .refine zar ?_
   try dsimp only
   refine{_,O,_,O,_,O,_,O,λb db hb hdb _=>{b,db,R,CL,m,fi,dtC cl,usC cl,ws,O,zac,m1,m2,by omega,rf4.same (zba hb hdb),zba hb hdb _ _ eL4,S4.same (zba hb hdb),λB Z e1 e2 e3 e4 hBL hBla hBW enw eW hBd fr=>{O,?_}}}
   refine{_,O,_,O,_,O,_,O,by show 4<=sizeLine;decide,λMA hMA=>{by show 2<=sizeLine;decide,λt ht=>?_}}
   exact fin2 fi b db B Z hb hdb e1 e2 e3 hBL hBla hBW enw eW hBd fr MA hMA t ht
abbrev zbM:Stmt:=top 94
def sc_law_refusal:FnScope ["board","text","caught","e"] ["board","text"] (zai zbM):=sck O O O (by decide +kernel)
inductive spRefu53(CB:Addr)(vs:List V)(H:Hp)(Q:VK)(u3_:XK):Prop
 | mk (v:V) (text bad:Str) (rows:List Str) (n:Nat)(_:vs=[v,.str text])(_:TxtBad text rows n bad)(_:∀(ea dx:Addr) (H':Hp),H' ea=some (.ext (xIs ea (.ref CB) (some dx)))->H' dx=some (.ext (xDc dx (brF ((n:Int)+1) bad)))->Same H H'->Q (.ref ea) H')
def zem{f CB CE:Addr}{fd:FuncData}(F:FunN K "_law_refusal" zbM f fd)(T:Blt mg)(GXrun:CalX P w K mg base 7 "run" ["board","text"] (spRun53 CB))(GEBusError:mg "BusError"=some (.ref CE))(xb:W.exmOne K (.ref CB) (.ref CE)=some true):FnOk P w K mg base CX0 8 f fd ["board","text"] (spRefu53 CB):=by
 refine F.ok sc_law_refusal (by walk_at"l") (λcdv A outer s H vs Q E hr h=>?_)
 .obtain⟨v,text,bad,rows,n,rfl,hT,k⟩:=h
  refine⟨_,(zad (ps_L 2 sc_law_refusal.nd zcH)
   (zad (zlU (j:=3) (λpins E=>(zag (zaJ (ziX GXrun (hrm hr) O (zhw O) (zaa (pv 0) (zaa (pv 1) zab)))))) (λea=>(zag (ps_L 2 sc_law_refusal.nd (pv 3)))) O sc_law_refusal.nd O O GEBusError ⟨O,O⟩ O (λea=>O))
   (zag (zal (pv 2))))),?rd⟩
  refine{_,O,_,O,v,text,bad,rows,n,O,hT,λdx H' e s1=>{xb,λea hea=>?_}}
  exact{_,O,_,O,k ea dx _ zac (zae hea _ _ e) (s1.trans (zae hea))}
abbrev zav:Stmt:=top 95
def sc_law_bad:FnScope ["bag","some"] ["bag"] (zai zav):=sck O O O (by decide +kernel)
def rowB(r:Str):Bool:=decide (r.length<=20)&&(Txt.split r " ").all (λz=>z.cps.all (· < 128)&&decide (z.length<=640))&&decide ((Txt.split r " ").length<=100)&&r.cps.toList.all (λc=>decide (c≠10))
def zeO{r:Str}(h:rowB r=true):RowOk r/\r.length<=20/\10∉r.cps.toList:=by
 unfold rowB at h
 obtain⟨h,h4⟩:=XaI.mp h
 obtain⟨h,h3⟩:=XaI.mp h
 obtain⟨h1,h2⟩:=XaI.mp h
 have h1:=XaA h1
 refine{{by omega,λz hz=>?_,XaA h3},h1,λm=>?_}
 .have:=XaI.mp (XaN.mp h2 z hz)
  exact{this.1,XaA this.2}
 .exact XaA (XaN.mp h4 10 m) O
def bads0:List Str:=[""," ","r","r ","r 1 2","r  1"," r 1","r 1 ","r g","r A","r -1","r +1","r 00001","r 1_1"]
def bads1:List Str:=["q","q 12345","q 1 1","w 1","w 1 100","w 1 -1","w 1 1 1","w 1 0x","w x 1","w 1 F","t"]
def bads2:List Str:=["t 00","t 10000","t a","t 1 1","m 1 2","m 1 2 3 4","m 1 2 3 4 5 6","m 1 2 -3","t -1"]
def bads3:List Str:=["m 1 2 3 1 +1","m 1 2 3 1 --1","m 1 2 3 01 1","m 1 2 3 10000 1","m 1 2 3 1 -10000","x 1"]
def bads4:List Str:=["R 1","m 1 2 3 -0 1","m 1 2 a","w 1 001","m 1 2 3 -01 1","m 1 2 3 1 -0","m 1 2 10000"]
def bads5:List Str:=["mm 1 2 3 4 5","r\t1","r 1\t","rr 1","w 1 1 ","t 1.0","m 1 2 03","m 1 2 3 - 1","m 1 2 3 1 -"]
def BADS:List Str:=((((bads0++bads1)++bads2)++bads3)++bads4)++bads5
def zmC:BADS.all (λr=>rowB r&&!(zcy r))=true:=by decide +kernel
inductive spBad53(vs:List V)(H:Hp)(Q:VK)(u3_:XK):Prop
 | mk (p:Addr) (n:Nat)(_:vs=[.ref p])(_:Bg H p n)(_:n<2 ^ 29)(_:∀(r:Str) (H':Hp),r∈BADS->Bg H' p (n+1)->KeepP p H H'->Q (.str r) H')
def zhH{f:Addr}{fd:FuncData}(F:FunN K "_law_bad" zav f fd)(T:Blt mg)(G_law_draw:Cal P w K mg base 1 "_law_draw" ["bag","many"] spDw):FnOk P w K mg base CX0 2 f fd ["bag"] spBad53:=by
 refine F.ok sc_law_bad (by walk_at"l") (λcdv A outer s H vs Q E hr h=>?_)
 .obtain⟨p,n,rfl,bg,hn,k⟩:=h
  have e:zaM zav=.Assign [.Name "some" ⟨591,4,591,8⟩] (.List (esAt zav 0) ⟨591,11,591,114⟩) ⟨591,4,591,114⟩::.Assign [.Name "some" ⟨592,4,592,8⟩] (.BinOp (.Name "some" ⟨592,11,592,15⟩) .Add (.List (esAt zav 1) ⟨592,18,592,115⟩) ⟨592,11,592,115⟩) ⟨592,4,592,115⟩::.Assign [.Name "some" ⟨593,4,593,8⟩] (.BinOp (.Name "some" ⟨593,11,593,15⟩) .Add (.List (esAt zav 2) ⟨593,18,593,112⟩) ⟨593,11,593,112⟩) ⟨593,4,593,112⟩::.Assign [.Name "some" ⟨594,4,594,8⟩] (.BinOp (.Name "some" ⟨594,11,594,15⟩) .Add (.List (esAt zav 3) ⟨594,18,594,113⟩) ⟨594,11,594,113⟩) ⟨594,4,594,113⟩::.Assign [.Name "some" ⟨595,4,595,8⟩] (.BinOp (.Name "some" ⟨595,11,595,15⟩) .Add (.List (esAt zav 4) ⟨595,18,595,111⟩) ⟨595,11,595,111⟩) ⟨595,4,595,111⟩::.Assign [.Name "some" ⟨596,4,596,8⟩] (.BinOp (.Name "some" ⟨596,11,596,15⟩) .Add (.List (esAt zav 5) ⟨596,18,596,120⟩) ⟨596,11,596,120⟩) ⟨596,4,596,120⟩::(zaM zav).drop 6:=rfl
  have hs0:zbU (esAt zav 0)=some bads0:=rfl
  have hs1:zbU (esAt zav 1)=some bads1:=rfl
  have hs2:zbU (esAt zav 2)=some bads2:=rfl
  have hs3:zbU (esAt zav 3)=some bads3:=rfl
  have hs4:zbU (esAt zav 4)=some bads4:=rfl
  have hs5:zbU (esAt zav 5)=some bads5:=rfl
  rw[e]
  generalize esAt zav 0=es0 at *
  generalize esAt zav 1=es1 at *
  generalize esAt zav 2=es2 at *
  generalize esAt zav 3=es3 at *
  generalize esAt zav 4=es4 at *
  generalize esAt zav 5=es5 at *
  clear e
  refine⟨_,(zad (ziM bads0 1 sc_law_bad.nd O (Or.inl O) (.inl O) hs0)
   (zad (zdZ bads1 1 sc_law_bad.nd O (Or.inl O) (.inl O) (pv 1) hs1)
   (zad (zdZ bads2 1 sc_law_bad.nd O (Or.inl O) (.inl O) (pv 1) hs2)
   (zad (zdZ bads3 1 sc_law_bad.nd O (Or.inl O) (.inl O) (pv 1) hs3)
   (zad (zdZ bads4 1 sc_law_bad.nd O (Or.inl O) (.inl O) (pv 1) hs4)
   (zad (zdZ bads5 1 sc_law_bad.nd O (Or.inl O) (.inl O) (pv 1) hs5)
   (zag (zal (pe_x zaz (pv 1) (pe_c G_law_draw (zaa (pv 0) (zaa (zak zam (by rfl) T.len PySem.boot_len (zaa (pv 1) zab)) zab)))))))))))),?_⟩
  have z:∀{l:List Str},l.length<=60->(l.map V.str).length<=sizeLine:=λ{l} h=>by rw[Xaf];exact Xak h (by decide)
  have l0:bads0.length=14:=rfl
  have l1:bads1.length=11:=rfl
  have l2:bads2.length=9:=rfl
  have l3:bads3.length=6:=rfl
  have l4:bads4.length=7:=rfl
  have l5:bads5.length=9:=rfl
  unfold BADS at k
  generalize bads0=b0 at *
  generalize bads1=b1 at *
  generalize bads2=b2 at *
  generalize bads3=b3 at *
  generalize bads4=b4 at *
  generalize bads5=b5 at *
  refine{z (by omega),λa0 h0=>?_}
  have s0:=zae (o:=.lst (b0.map V.str)) h0
  have q0:upd H a0 (.lst (b0.map V.str)) a0=some (.lst (b0.map V.str)):=zac
  generalize upd H a0 (.lst (b0.map V.str))=X0 at *
  try dsimp(proj:=false) only[zay,List.set]
  refine{_,O,z (by omega),λd1 g1=>?_}
  refine{a0,d1,_,_,O,O,SqL.of (zae g1 _ _ q0),SqL.of zac,?_,λa1 h1=>?_}
  .rw[<- Xah,<- Xaw];exact z (by simp only[Xah];omega)
  rw[<- Xaw]
  have s1:=s0.trans ((zae (o:=.lst (b1.map V.str)) g1).trans (zae (o:=.lst ((b0++b1).map V.str)) h1))
  have q1:upd (upd X0 d1 (.lst (b1.map V.str))) a1 (.lst ((b0++b1).map V.str)) a1=some (.lst ((b0++b1).map V.str)):=zac
  generalize upd (upd X0 d1 (.lst (b1.map V.str))) a1 (.lst ((b0++b1).map V.str))=X1 at *
  try dsimp(proj:=false) only[zay,List.set]
  refine{_,O,z (by omega),λd2 g2=>?_}
  refine{a1,d2,_,_,O,O,SqL.of (zae g2 _ _ q1),SqL.of zac,?_,λa2 h2=>?_}
  .rw[<- Xah,<- Xaw];exact z (by simp only[Xah];omega)
  rw[<- Xaw]
  have s2:=s1.trans ((zae (o:=.lst (b2.map V.str)) g2).trans (zae (o:=.lst (((b0++b1)++b2).map V.str)) h2))
  have q2:upd (upd X1 d2 (.lst (b2.map V.str))) a2 (.lst (((b0++b1)++b2).map V.str)) a2=some (.lst (((b0++b1)++b2).map V.str)):=zac
  generalize upd (upd X1 d2 (.lst (b2.map V.str))) a2 (.lst (((b0++b1)++b2).map V.str))=X2 at *
  try dsimp(proj:=false) only[zay,List.set]
  refine{_,O,z (by omega),λd3 g3=>?_}
  refine{a2,d3,_,_,O,O,SqL.of (zae g3 _ _ q2),SqL.of zac,?_,λa3 h3=>?_}
  .rw[<- Xah,<- Xaw];exact z (by simp only[Xah];omega)
  rw[<- Xaw]
  have s3:=s2.trans ((zae (o:=.lst (b3.map V.str)) g3).trans (zae (o:=.lst ((((b0++b1)++b2)++b3).map V.str)) h3))
  have q3:upd (upd X2 d3 (.lst (b3.map V.str))) a3 (.lst ((((b0++b1)++b2)++b3).map V.str)) a3=some (.lst ((((b0++b1)++b2)++b3).map V.str)):=zac
  generalize upd (upd X2 d3 (.lst (b3.map V.str))) a3 (.lst ((((b0++b1)++b2)++b3).map V.str))=X3 at *
  try dsimp(proj:=false) only[zay,List.set]
  refine{_,O,z (by omega),λd4 g4=>?_}
  refine{a3,d4,_,_,O,O,SqL.of (zae g4 _ _ q3),SqL.of zac,?_,λa4 h4=>?_}
  .rw[<- Xah,<- Xaw];exact z (by simp only[Xah];omega)
  rw[<- Xaw]
  have s4:=s3.trans ((zae (o:=.lst (b4.map V.str)) g4).trans (zae (o:=.lst (((((b0++b1)++b2)++b3)++b4).map V.str)) h4))
  have q4:upd (upd X3 d4 (.lst (b4.map V.str))) a4 (.lst (((((b0++b1)++b2)++b3)++b4).map V.str)) a4=some (.lst (((((b0++b1)++b2)++b3)++b4).map V.str)):=zac
  generalize upd (upd X3 d4 (.lst (b4.map V.str))) a4 (.lst (((((b0++b1)++b2)++b3)++b4).map V.str))=X4 at *
  try dsimp(proj:=false) only[zay,List.set]
  refine{_,O,z (by omega),λd5 g5=>?_}
  refine{a4,d5,_,_,O,O,SqL.of (zae g5 _ _ q4),SqL.of zac,?_,λa5 h5=>?_}
  .rw[<- Xah,<- Xaw];exact z (by simp only[Xah];omega)
  rw[<- Xaw]
  have s5:=s4.trans ((zae (o:=.lst (b5.map V.str)) g5).trans (zae (o:=.lst ((((((b0++b1)++b2)++b3)++b4)++b5).map V.str)) h5))
  have q5:upd (upd X4 d5 (.lst (b5.map V.str))) a5 (.lst ((((((b0++b1)++b2)++b3)++b4)++b5).map V.str)) a5=some (.lst ((((((b0++b1)++b2)++b3)++b4)++b5).map V.str)):=zac
  generalize upd (upd X4 d5 (.lst (b5.map V.str))) a5 (.lst ((((((b0++b1)++b2)++b3)++b4)++b5).map V.str))=X5 at *
  try dsimp(proj:=false) only[zay,List.set]
  have lk:(((((b0++b1)++b2)++b3)++b4)++b5).length=56:=by simp only[Xah];omega
  generalize(((((b0++b1)++b2)++b3)++b4)++b5)=bs at *
  refine{_,O,_,O,_,O,a5,_,O,.inl (SqL.of q5),p,56,n,?_,bg.same s5,by omega,by decide,by decide,λi X hi bg1 k1=>?_}
  .rw[Xaf,lk];rfl
  have ne5:a5≠p:=(bg.same s4).ne (zdW (zae g5) h5)
  have e5:X a5=some (.lst (bs.map V.str)):=by rw[k1 a5 ne5];exact q5
  have hg:i<bs.length:=by omega
  exact{a5,_,i,.str bs[i],O,O,SqL.of e5,zaQ (by rw[Xax,Xaz hg];rfl),k _ _ (Xa6 hg) bg1 ((KeepP.of s5).trans (zau k1))}
abbrev zaW:Stmt:=top 96
def sc_law_good:FnScope ["bag","some"] ["bag"] (zai zaW):=sck O O O (by decide +kernel)
def GOODS:List Str:=["r 0","q 1","w 0 ff","w 1 0","m 0 1 3","m 1 0 2 -1 1","r 0001","w 2 07","t 77","m ffff 1 2"]
def zkJ:GOODS.all (λr=>rowB r&&zcy r)=true:=by decide +kernel
inductive spGood53(vs:List V)(H:Hp)(Q:VK)(u3_:XK):Prop
 | mk (p:Addr) (n:Nat)(_:vs=[.ref p])(_:Bg H p n)(_:n<2 ^ 29)(_:∀(r:Str) (H':Hp),r∈GOODS->Bg H' p (n+1)->KeepP p H H'->Q (.str r) H')
def zgz{f:Addr}{fd:FuncData}(F:FunN K "_law_good" zaW f fd)(T:Blt mg)(G_law_draw:Cal P w K mg base 1 "_law_draw" ["bag","many"] spDw):FnOk P w K mg base CX0 2 f fd ["bag"] spGood53:=by
 refine F.ok sc_law_good (by walk_at"l") (λcdv A outer s H vs Q E hr h=>?_)
 .obtain⟨p,n,rfl,bg,hn,k⟩:=h
  have e:zaM zaW=.Assign [.Name "some" ⟨599,4,599,8⟩] (.List (esAt zaW 0) ⟨599,11,599,113⟩) ⟨599,4,599,113⟩::(zaM zaW).drop 1:=rfl
  have hs:zbU (esAt zaW 0)=some GOODS:=rfl
  rw[e]
  generalize esAt zaW 0=es at *
  clear e
  refine{_,(zad (ziM GOODS 1 sc_law_good.nd O (Or.inl O) (.inl O) hs) (zag (zal (pe_x zaz (pv 1) (pe_c G_law_draw (zaa (pv 0) (zaa zaf zab))))))),?_}
  have hgl:GOODS.length=10:=rfl
  refine{by rw[Xaf,hgl];decide,λl hl=>?_}
  generalize GOODS=gs at *
  have sl:=zae (o:=.lst (gs.map V.str)) hl
  have el:upd H l (.lst (gs.map V.str)) l=some (.lst (gs.map V.str)):=zac
  generalize upd H l (.lst (gs.map V.str))=X0 at *
  try dsimp(proj:=false) only[zay,List.set]
  refine{_,O,_,O,p,10,n,O,bg.same sl,by omega,by decide,by decide,λi X hi bg1 k1=>?_}
  have e:X l=some (.lst (gs.map V.str)):=by rw[k1 l (bg.ne hl)];exact el
  have hg:i<gs.length:=by omega
  exact{l,_,i,.str gs[i],O,O,SqL.of e,zaQ (by rw[Xax,Xaz hg];rfl),k _ _ (Xa6 hg) bg1 ((KeepP.of sl).trans (zau k1))}
abbrev zcq:Stmt:=top 97
def sc_law_right:FnScope ["board","bag","rows","at","bad","caught"] ["board","bag"] (zai zcq):=sck O O O (by decide +kernel)
def nl10:("\n" : Str)={#[10]}:=by decide +kernel
def zj3(x:Str):x.length=x.cps.toList.length:=Array.length_toList.symm
def zfG:∀ps:List Str,(∀p∈ps,p.length<=20)->(PySem.Str.join {#[10]} ps).length<=21*ps.length
 | [],_=>Nat.zero_le _
 | [x],h=>by
  have:=h x (Xae.mpr O)
  show x.length<=21*1;omega
 | x::y::r,h=>by
  have h1:=h x (Xat ..)
  have ih:=zfG (y::r) λp hp=>h p (Xau _ hp)
  rw[zj3] at ih h1 ⊢
  rw[zcQ,Xah,Xar,Xar]
  omega
def zlF{gs ts:List Str}{bad:Str}(hg:∀r∈gs,rowB r=true/\zcy r=true)(hb:rowB bad=true/\zcy bad=false)(ht:∀r∈ts,rowB r=true)(h1:gs.length<=20)(h2:ts.length<=20)(ne:gs++bad::ts≠([""]:List Str)) :
  TxtBad (Txt.join "\n" (gs++bad::ts)) (gs++bad::ts) gs.length bad:=by
 have all:∀r∈gs++bad::ts,rowB r=true:=λr hr=>by
  rcases XaH.mp hr with h|h
  .exact(hg r h).1
  .rcases Xan.mp h with rfl|h
   .exact hb.1
   .exact ht r h
 have nn:gs++bad::ts≠[]:=by simp
 have e:Txt.join "\n" (gs++bad::ts)=PySem.Str.join ⟨#[10]⟩ (gs++bad::ts):=by rw[zjZ,nl10]
 have sp:Txt.split (Txt.join "\n" (gs++bad::ts)) "\n"=gs++bad::ts:=by
  rw[e,nl10]
  exact zhq 10 _ nn λr hr=>(zeO (all r hr)).2.2
 have at_:(gs++bad::ts)[gs.length]?=some bad:=by rw[List.getElem?_append_right (Xad _),Nat.sub_self];rfl
 refine{λz=>ne ?_,?_,sp,at_,by omega,λj r hj hr=>(zeO (all r (XaF hr))).1,λj r hj hr=>?_,hb.2}
 .rw[z] at sp
  rw[<- sp]
  decide +kernel
 .rw[e]
  refine Xak (zfG _ λr hr=>(zeO (all r hr)).2.1) ?_
  rw[Xah,Xar];omega
 .rw[List.getElem?_append_left hj] at hr
  exact(hg r (XaF hr)).2
def zjP{r:Str}(h:r∈BADS):rowB r=true/\zcy r=false:=by
 have:=XaI.mp (XaN.mp zmC r h)
 exact{this.1,by simpa using this.2}
def zkK{r:Str}(h:r∈GOODS):rowB r=true/\zcy r=true:=XaI.mp (XaN.mp zkJ r h)
inductive spRight53(vs:List V)(H:Hp)(Q:VK)(u3_:XK):Prop
 | mk (v:V) (p:Addr) (n:Nat)(_:vs=[v,.ref p])(_:Bg H p n)(_:n<2 ^ 28)(_:∀H':Hp,KeepP p H H'->Q (.bl true) H')
def zfy{f CB c1 c2 c3 c4 c5 c6 c7 c8 c9 c10:Addr}{fd:FuncData}(F:FunN K "_law_right" zcq f fd)(T:Blt mg)(GBValueError:mg "ValueError"=none)(G_law_draw:Cal P w K mg base 1 "_law_draw" ["bag","many"] spDw)(G_law_bad:Cal P w K mg base 2 "_law_bad" ["bag"] spBad53)(G_law_good:Cal P w K mg base 2 "_law_good" ["bag"] spGood53)(G_law_refusal:Cal P w K mg base 8 "_law_refusal" ["board","text"] (spRefu53 CB))(G_law_same:Cal P w K mg base 2 "_law_same" ["found","due"] (spSameL 1))
  (GBadRow:mg "BadRow"=some (.ref CB)) (GClash:mg "Clash"=some (.ref c1)) (GNoAddress:mg "NoAddress"=some (.ref c2)) (GNoCell:mg "NoCell"=some (.ref c3)) (GNoChip:mg "NoChip"=some (.ref c4)) (GNoMap:mg "NoMap"=some (.ref c5)) (GNoMover:mg "NoMover"=some (.ref c6)) (GNoText:mg "NoText"=some (.ref c7)) (GNoWatch:mg "NoWatch"=some (.ref c8)) (GNoWord:mg "NoWord"=some (.ref c9)) (GTooMany:mg "TooMany"=some (.ref c10))
  (xc:XCls K CB) (hh:PySem.W.hasDictIn K CB=true) (f1:PySem.W.findIn K (.ref CB) "number"=some none) (f2:PySem.W.findIn K (.ref CB) "row"=some none) (xk:PySem.W.kitOne K (.ref CB) (.ref CB)=some true) (xv:PySem.W.kitOne K (.ref CB) (.type "ValueError")=some true) (xa:PySem.W.kitAny K (.ref CB) [.ref c1,.ref c2,.ref c3,.ref c4,.ref c5,.ref c6,.ref c7,.ref c8,.ref c9,.ref c10]=some false):FnOk P w K mg base CX0 9 f fd ["board","bag"] spRight53:=by
 refine F.ok sc_law_right (by walk_at"l") (λcdv A outer s H vs Q E hr h=>?_)
 .obtain⟨v,p,n,rfl,bg,hn,k⟩:=h
  refine⟨_,(zad (@zb6 _ (["k","bag"]) _ _ _ _ _ _ _ _ _ _ (2) _ _ _ [none,some 1] sc_law_right.nd O O O (zaN (by rfl)) (@za0 _ _ _ _ _ _ O T.range (@zaa _ _ _ _ _ (@pe_c _ _ _ _ _ _ _ _ _ _ G_law_draw (@zaa _ _ _ _ _ (@pv _ 1 _ _ (by rfl) (by walk_at"o") (by decide) (by decide)) (@zaa _ _ _ _ _ (@zaf _ _ _ _) (@zab _) (by rfl)) (by rfl)) (by exact hrm (by assumption)) (by rfl) (by decide) (by rfl) (by rfl)) (@zab _) (by rfl)) (by rfl)) (λ_ _ _ _ _=>(@pg_L _ _ _ 0 (show(["k","bag"]:List Str).Nodup by decide +kernel) (by rfl) (by exact Or.inl O) (by walk_at"p"))) (λ_ _ _ _ _=>(@zcG _)) (λ_ _ _ _ _=>(@pe_c _ _ _ _ _ _ _ _ _ _ G_law_good (@zaa _ _ _ _ _ (@pv _ 1 _ _ (by rfl) (by walk_at"o") (by decide) (by decide)) (@zab _) (by rfl)) (by exact hrm (by assumption)) (by rfl) (by decide) (by rfl) (by rfl))) (by rfl) (by intro _;rfl))
   (zad (@ps_L _ _ _ _ _ _ 3 sc_law_right.nd (@pe_c _ _ _ _ _ _ _ _ _ _ G_law_draw (@zaa _ _ _ _ _ (@pv _ 1 _ _ (by rfl) (by walk_at"o") (by decide) (by decide)) (@zaa _ _ _ _ _ (@zat _ _ _ _ _ _ _ _ za8 (@zak _ _ _ _ _ _ _ _ _ zam (by rfl) T.len PySem.boot_len (@zaa _ _ _ _ _ (@pv _ 2 _ _ (by rfl) (by walk_at"o") (by decide) (by decide)) (@zab _) (by rfl)) (by decide) (by decide) (by rfl) (by rfl)) (@zaf _ _ _ _)) (@zab _) (by rfl)) (by rfl)) (by exact hrm (by assumption)) (by rfl) (by decide) (by rfl) (by rfl)) (by rfl) (by exact Or.inl O) (by rfl) (by walk_at"p"))
   (zad (@ps_L _ _ _ _ _ _ 4 sc_law_right.nd (@pe_c _ _ _ _ _ _ _ _ _ _ G_law_bad (@zaa _ _ _ _ _ (@pv _ 1 _ _ (by rfl) (by walk_at"o") (by decide) (by decide)) (@zab _) (by rfl)) (by exact hrm (by assumption)) (by rfl) (by decide) (by rfl) (by rfl)) (by rfl) (by exact Or.inl O) (by rfl) (by walk_at"p"))
   (zad (@zaJ _ _ _ _ (@zda _ _ _ _ _ _ _ _ _ _ _ _ PySem.F.plainAttrs_list PySem.F.slot_list_insert PySem.F.type_list_insert zjf (@pv _ 2 _ _ (by rfl) (by walk_at"o") (by decide) (by decide)) (@zaa _ _ _ _ _ (@pv _ 3 _ _ (by rfl) (by walk_at"o") (by decide) (by decide)) (@zaa _ _ _ _ _ (@pv _ 4 _ _ (by rfl) (by walk_at"o") (by decide) (by decide)) (@zab _) (by rfl)) (by rfl)) (by rfl) (by rfl) (by rfl) (by rfl) (by rfl)) (by rfl))
   (zad (@zaA _ _ _ _ _ _ _ _ (@zas _ _ _ _ _ _ _ _ zbS (@pe_c _ _ _ _ _ _ _ _ _ _ G_law_draw (@zaa _ _ _ _ _ (@pv _ 1 _ _ (by rfl) (by walk_at"o") (by decide) (by decide)) (@zaa _ _ _ _ _ (@zaf _ _ _ _) (@zab _) (by rfl)) (by rfl)) (by exact hrm (by assumption)) (by rfl) (by decide) (by rfl) (by rfl)) (@zaf _ _ _ _) (zaw _)) (@zag _ _ _ (@zaJ _ _ _ _ (@zda _ _ _ _ _ _ _ _ _ _ _ _ PySem.F.plainAttrs_list PySem.F.slot_list_append PySem.F.type_list_append zbr (@pv _ 2 _ _ (by rfl) (by walk_at"o") (by decide) (by decide)) (@zaa _ _ _ _ _ (@pe_c _ _ _ _ _ _ _ _ _ _ G_law_bad (@zaa _ _ _ _ _ (@pv _ 1 _ _ (by rfl) (by walk_at"o") (by decide) (by decide)) (@zab _) (by rfl)) (by exact hrm (by assumption)) (by rfl) (by decide) (by rfl) (by rfl)) (@zab _) (by rfl)) (by rfl) (by rfl) (by rfl) (by rfl) (by rfl)) (by rfl))) (@zan _))
   (zad (@zaA _ _ _ _ _ _ _ _ (@zas _ _ _ _ _ _ _ _ (zi3 (Nat.lt_of_succ_lt (zhU hr)) (K:=K) O) (@pv _ 2 _ _ (by rfl) (by walk_at"o") (by decide) (by decide)) (@zax _ _ _ _ (@zaa _ _ _ _ _ (@zaD _ _ _ _) (@zab _) (by rfl))) (zaw _)) (@zag _ _ _ (@ps_L _ _ _ _ _ _ 2 sc_law_right.nd (@zax _ _ _ _ (@zaa _ _ _ _ _ (@zaD _ _ _ _) (@zaa _ _ _ _ _ (@zaD _ _ _ _) (@zab _) (by rfl)) (by rfl))) (by rfl) (by exact Or.inl O) (by rfl) (by walk_at"p"))) (@zan _))
   (zad (@ps_L _ _ _ _ _ _ 5 sc_law_right.nd (@pe_c _ _ _ _ _ _ _ _ _ _ G_law_refusal (@zaa _ _ _ _ _ (@pv _ 0 _ _ (by rfl) (by walk_at"o") (by decide) (by decide)) (@zaa _ _ _ _ _ (@zda _ _ _ _ _ _ _ _ _ _ _ _ PySem.F.plainAttrs_str PySem.F.slot_str_join PySem.F.type_str_join (zmj (K:=K) O) (@zaD _ _ _ _) (@zaa _ _ _ _ _ (@pv _ 2 _ _ (by rfl) (by walk_at"o") (by decide) (by decide)) (@zab _) (by rfl)) (by rfl) (by rfl) (by rfl) (by rfl) (by rfl)) (@zab _) (by rfl)) (by rfl)) (by exact hrm (by assumption)) (by rfl) (by decide) (by rfl) (by rfl)) (by rfl) (by exact Or.inl O) (by rfl) (by walk_at"p"))
   (zad (@zaA _ _ _ _ _ _ _ _ (@PW.pt _ _ _ (@zbD _ _ _ _ _ _ _ (@zaG _ _ _ _ (@zaF _ _ _ (@zak _ _ _ _ _ _ _ _ _ (zfZ (K:=K) O) (by rfl) T.isinstance za4 (@zaa _ _ _ _ _ (@pv _ 5 _ _ (by rfl) (by walk_at"o") (by decide) (by decide)) (@zaa _ _ _ _ _ (@za1 _ _ _ _ O GBadRow (by decide)) (@zab _) (by rfl)) (by rfl)) (by decide) (by decide) (by rfl) (by rfl)) (by intro _;rfl))) (@zbd _ _ _ _ (@zaG _ _ _ _ (@zaF _ _ _ (@zak _ _ _ _ _ _ _ _ _ (zfZ (K:=K) O) (by rfl) T.isinstance za4 (@zaa _ _ _ _ _ (@pv _ 5 _ _ (by rfl) (by walk_at"o") (by decide) (by decide)) (@zaa _ _ _ _ _ (@zaT _ _ _ _ _ O GBValueError ze7 zeP (by decide) (by decide)) (@zab _) (by rfl)) (by rfl)) (by decide) (by decide) (by rfl) (by rfl)) (by intro _;rfl)))))) (@zag _ _ _ (@zal _ _ _ _ (@zdt _ _ _ _))) (@zan _))
   (zad (@zaA _ _ _ _ _ _ _ _ (@zaF _ _ _ (@zak _ _ _ _ _ _ _ _ _ (zh2 (K:=K) O) (by rfl) T.isinstance za4 (@zaa _ _ _ _ _ (@pv _ 5 _ _ (by rfl) (by walk_at"o") (by decide) (by decide)) (@zaa _ _ _ _ _ (@zaX _ _ _ _ _ (@zaa _ _ _ _ _ (@za1 _ _ _ _ O GClash (by decide)) (@zaa _ _ _ _ _ (@za1 _ _ _ _ O GNoAddress (by decide)) (@zaa _ _ _ _ _ (@za1 _ _ _ _ O GNoCell (by decide)) (@zaa _ _ _ _ _ (@za1 _ _ _ _ O GNoChip (by decide)) (@zaa _ _ _ _ _ (@za1 _ _ _ _ O GNoMap (by decide)) (@zaa _ _ _ _ _ (@za1 _ _ _ _ O GNoMover (by decide)) (@zaa _ _ _ _ _ (@za1 _ _ _ _ O GNoText (by decide)) (@zaa _ _ _ _ _ (@za1 _ _ _ _ O GNoWatch (by decide)) (@zaa _ _ _ _ _ (@za1 _ _ _ _ O GNoWord (by decide)) (@zaa _ _ _ _ _ (@za1 _ _ _ _ O GTooMany (by decide)) (@zab _) (by rfl)) (by rfl)) (by rfl)) (by rfl)) (by rfl)) (by rfl)) (by rfl)) (by rfl)) (by rfl)) (by rfl))) (@zab _) (by rfl)) (by rfl)) (by decide) (by decide) (by rfl) (by rfl)) (by intro _;rfl)) (@zag _ _ _ (@zal _ _ _ _ (@zdt _ _ _ _))) (@zan _))
   (zag (@zal _ _ _ _ (@zbq _ _ _ _ _ _ _ (@pe_c _ _ _ _ _ _ _ _ _ _ G_law_same (@zaa _ _ _ _ _ (@ziV _ _ _ _ _ (@pv _ 5 _ _ (by rfl) (by walk_at"o") (by decide) (by decide)) O) (@zaa _ _ _ _ _ (@zat _ _ _ _ _ _ _ _ za8 (@pv _ 3 _ _ (by rfl) (by walk_at"o") (by decide) (by decide)) (@zaf _ _ _ _)) (@zab _) (by rfl)) (by rfl)) (by exact hrm (by assumption)) (by rfl) (by decide) (by rfl) (by rfl)) (@zbv _ _ _ _ _ (@pe_c _ _ _ _ _ _ _ _ _ _ G_law_same (@zaa _ _ _ _ _ (@ziV _ _ _ _ _ (@pv _ 5 _ _ (by rfl) (by walk_at"o") (by decide) (by decide)) O) (@zaa _ _ _ _ _ (@pv _ 4 _ _ (by rfl) (by walk_at"o") (by decide) (by decide)) (@zab _) (by rfl)) (by rfl)) (by exact hrm (by assumption)) (by rfl) (by decide) (by rfl) (by rfl))))))))))))))),?rd⟩
  
  refine zbt (λU X=>∃(gs:List Str) (R:Addr),U=[some v,some (.ref p),some (.ref R),none,none,none]/\gs.length<=8/\(∀r∈gs,rowB r=true/\zcy r=true)/\X R=some (.lst (gs.map V.str))/\R≠p/\H R=none/\Bg X p (n+9)/\KeepP p H X) (λN hN=>?_) ?_
  .refine{_,O,p,9,n,O,bg,by omega,by decide,by decide,λd X1 hd bg1 k1=>{_,O,by omega,by omega,?_}}
   rw[Xap]
   have hd:d<9:=by omega
   refine zcc (n:=d) (λj ys U Z=>∃(v0:Option V) (gs:List Str),U=[v0,some (.ref p)]/\ys=gs.map V.str/\gs.length=j/\(∀r∈gs,rowB r=true/\zcy r=true)/\Bg Z p (n+1+j)/\KeepP p H Z) (Xak (Nat.le_of_lt hd) (by decide)) {none,[],O,O,O,(λ_ h=>nomatch h),bg1,zau k1} ?_ ?_ ?_
   .rintro j ys U Z ⟨v0,gs,rfl,rfl,hl,_⟩
    rw[Xaf];omega
   .rintro j ys U Z hj ⟨v0,gs,rfl,rfl,hl,hg,bgZ,kZ⟩
    refine{_,O,p,n+1+j,O,bgZ,by omega,λr W hr bgW kW=>?_}
    refine{_,gs++[r],O,by rw[Xaw];rfl,by rw[Xah,hl];rfl,λz hz=>?_,bgW,kZ.trans kW}
    rcases XaH.mp hz with h|h
    .exact hg z h
    .rw[Xae.mp h];exact zkK hr
   .rintro ys U Z ⟨v0,gs,rfl,rfl,hl,hg,bgZ,kZ⟩ D hD
    refine hN _ _ {gs,D,O,by omega,hg,zac,bgZ.ne hD,(kZ.free bgZ hD).1,(bgZ.same (zae hD)).mono (by omega),kZ.trans (.of (zae hD))}
  rintro U X ⟨gs,R,rfl,hgl,hgs,eR,nRp,hR0,bgX,kX⟩
  refine{_,O,_,O,R,_,O,.inl (SqL.of eR),_,_,O,O,p,((gs.length+1:Nat):Int),n+9,?_,bgX,by omega,by omega,by omega,λt X1 ht bg1 k1=>?_}
  .rw[Xaf];rfl
  try dsimp(proj:=false) only[zay,List.set]
  refine{_,O,p,n+10,O,bg1,by omega,λbad X2 hbad bg2 k2=>?_}
  try dsimp(proj:=false) only[zay,List.set]
  have hb:=zjP hbad
  have kX2:=kX.trans ((zau k1).trans k2)
  have eR2:X2 R=some (.lst (gs.map V.str)):=k2 _ _ nRp (by rw[k1 R nRp];exact eR)
  refine{_,O,.inl {O,_,SqL.of eR2},_,O,_,O,R,_,t,_,O,O,eR2,by rw[Xaf];omega,Xa5 (show(gs.map V.str).length<=8 by rw[Xaf];exact hgl) (by decide),?_}
  try dsimp(proj:=false) only[zay,List.set]
  have kY:KeepP p H (upd X2 R (.lst ((gs.map V.str).take t++.str bad::(gs.map V.str).drop t))):=λb o hb' e=>by
   rw[zah (zaj e hR0)];exact kX2 b o hb' e
  have bgY:Bg (upd X2 R (.lst ((gs.map V.str).take t++.str bad::(gs.map V.str).drop t))) p (n+11):=by
   obtain⟨a,c,e,h⟩:=bg2
   exact{a,c,by rw[zah (Ne.symm nRp)];exact e,h}
  have eY:upd X2 R (.lst ((gs.map V.str).take t++.str bad::(gs.map V.str).drop t)) R=some (.lst ((gs.take t++bad::gs.drop t).map V.str)):=by
   rw[Xaw,XaR,List.map_take,List.map_drop];exact zac
  generalize upd X2 R (.lst ((gs.map V.str).take t++.str bad::(gs.map V.str).drop t))=Y at *
  have htg:t<=gs.length:=by omega
  have hg1:∀r∈gs.take t,rowB r=true/\zcy r=true:=λr hr=>hgs r (List.mem_of_mem_take hr)
  have hg2:∀r∈gs.drop t,rowB r=true:=λr hr=>(hgs r (List.mem_of_mem_drop hr)).1
  have lt1:(gs.take t).length=t:=by rw[XaZ];omega
  have lt2:(gs.drop t).length<=8:=by rw[Xbu];omega
  generalize gs.take t=g1 at *
  generalize gs.drop t=g2 at *
  try dsimp only
  
  refine zbt (λU Z=>∃ts:List Str,U=[some v,some (.ref p),some (.ref R),some (.int (t:Int)),some (.str bad),none]/\ts.length<=9/\(∀r∈ts,rowB r=true)/\Z R=some (.lst ((g1++bad::ts).map V.str))/\KeepP p H Z) (λN hN=>?_) ?_
  .refine{_,O,p,3,n+11,O,bgY,by omega,by decide,by decide,λd X3 hd bg3 k3=>{O,_,O,ite2 (λ_=>?_) (λ_=>zar (hN _ _ {g2,O,by omega,hg2,by rw[k3 R nRp];exact eY,kY.trans (zau k3)}))}}
   have e3:X3 R=some (.lst ((g1++bad::g2).map V.str)):=by rw[k3 R nRp];exact eY
   refine{_,O,.inl {O,_,SqL.of e3},_,O,p,n+12,O,bg3,by omega,λb2 X4 hb2 bg4 k4=>?_}
   have e4:=k4 _ _ nRp e3
   refine{R,_,_,O,O,e4,Xa5 (show((g1++bad::g2).map V.str).length<=20 by rw[Xaf,Xah,Xar];omega) (by decide),hN _ _ {g2++[b2],O,by rw[Xah];show g2.length+1<=9;omega,λr hr=>?_,?_,λb o hb' e=>?_}}
   .rcases XaH.mp hr with h|h
    .exact hg2 r h
    .rw[Xae.mp h];exact(zjP hb2).1
   .rw[show g1++bad::(g2++[b2])=(g1++bad::g2)++[b2] by simp,show((g1++bad::g2)++[b2]).map V.str=(g1++bad::g2).map V.str++[.str b2] from Xaw];exact zac
   .rw[zah (zaj e hR0)]
    exact(kY.trans ((zau k3).trans k4)) b o hb' e
  rintro U Z ⟨ts,rfl,htl,hts,eZ,kZ⟩
  try dsimp only
  
  refine zbt (λU W=>∃(ts:List Str) (R2:Addr),U=[some v,some (.ref p),some (.ref R2),some (.int (t:Int)),some (.str bad),none]/\ts.length<=9/\(∀r∈ts,rowB r=true)/\g1++bad::ts≠([""]:List Str)/\W R2=some (.lst ((g1++bad::ts).map V.str))/\KeepP p H W) (λN hN=>?_) ?_
  .have hne:R≠p:=nRp
   refine{_,O,by show 1<=sizeLine;decide,λl hl=>?_}
   have sl:=zae (o:=.lst [.str ""]) hl
   have el:upd Z l (.lst [.str ""]) l=some (.lst [.str ""]):=zac
   refine{R,l,_,[""],O,O,SqL.of (sl _ _ eZ),SqL.of el,_,O,?_}
   have kl:=kZ.trans (.of sl)
   have e1:=sl _ _ eZ
   generalize upd Z l (.lst [.str ""])=Z1 at *
   by_cases he:g1++bad::ts=([""]:List Str)
   .rw[Xal he]
    refine iteT {by show 2<=sizeLine;decide,λR2 hR2=>?_}
    have hg0:g1=[]:=by
     cases g1 with
     | nil=>rfl
     | cons a g=>have:=congrArg List.length he;simp at this
    subst hg0
    have hbd:bad="" := (List.cons.inj he).1
    subst hbd
    refine hN _ _ {[""],R2,O,by decide,λr hr=>?_,by decide,zac,kl.trans (.of (zae hR2))}
    rw[Xae.mp hr];exact hb.1
   .rw[Xam he]
    exact iteF (zar (hN _ _ ⟨ts,R,O,htl,hts,he,e1,kl⟩))
  rintro U W ⟨ts2,R2,rfl,htl2,hts2,nn,eW,kW⟩
  try dsimp only
  have TB:=zlF hg1 hb hts2 (by omega) (by omega) nn
  rw[lt1] at TB
  have zl:(((g1++bad::ts2).map (·.length)).sum+(g1++bad::ts2).length*("\n" : Str).length)<=16777216:=by
   have b1:∀(l:List Str),(∀r∈l,rowB r=true)->(l.map (·.length)).sum<=20*l.length:=by
    intro l
    induction l with
    | nil=>intro _;exact Nat.zero_le _
    | cons x l ih =>
     intro h
     have h1:=(zeO (h x Xat)).2.1
     have h2:=ih λr hr=>h r (Xau _ hr)
     rw[XaR,List.sum_cons,Xar];omega
   have b2:=b1 (g1++bad::ts2) λr hr=>by
    rcases XaH.mp hr with h|h
    .exact(hg1 r h).1
    .rcases Xan.mp h with rfl|h
     .exact hb.1
     .exact hts2 r h
   have b3:(g1++bad::ts2).length<=20:=by rw[Xah,Xar];omega
   have b4:("\n" : Str).length=1:=by rw[nl10];rfl
   rw[b4];omega
  refine{_,O,O,_,O,"\n",R2,_,O,O,SqL.of eW,zl,?_}
  refine{v,_,bad,_,t,O,TB,λea dx W2 eea edx s3=>?_}
  try dsimp only[zay,List.set]
  refine{_,O,ea,CB,dx,_,_,_,true,O,eea,edx,xc,.inl ⟨CB,O,O⟩,xk,_,O,iteF ?_}
  refine{_,O,ea,CB,dx,_,_,_,true,O,eea,edx,xc,.inr {"ValueError",O,O},xv,_,O,iteF (zar ?_)}
  try dsimp only[zay,List.set]
  refine{_,O,by show 10<=sizeLine;decide,λtp htp=>{ea,CB,dx,tp,_,[c1,c2,c3,c4,c5,c6,c7,c8,c9,c10],false,O,zae htp _ _ eea,zae htp _ _ edx,xc,zac,xa,_,O,iteF (zar ?_)}}
  try dsimp only[zay,List.set]
  refine{_,O,ea,CB,dx,_,_,O,zae htp _ _ eea,zae htp _ _ edx,xc,hh,f1,O,_,O,_,_,O,O,.int ((t:Int)+1),.int ((t:Int)+1),O,.inr (.int _),λW3 s4=>?_}
  have s5:=(zae (o:=.tup ([c1,c2,c3,c4,c5,c6,c7,c8,c9,c10].map V.ref)) htp).trans s4
  refine{_,O,iteT ?_}
  refine{_,O,ea,CB,dx,_,_,O,s5 _ _ eea,s5 _ _ edx,xc,hh,f2,O,_,O,.str bad,.str bad,O,.inr (.str _),λW4 s6=>?_}
  exact k W4 (kW.trans (.of (s3.trans (s5.trans s6))))
abbrev slaw:Stmt:=top 98
def sclaw:FnScope ["script","cells","bag","board","model","heard","k","chip","one"] ["script"] (zai slaw):=sck O O O (by decide +kernel)
def oklaw{f C CW:Addr}{cs:Nat->Addr}{fd:FuncData}(F:FunN K "law" slaw f fd)(T:Blt mg)(G_law_bag:Cal P w K mg base 1 "_law_bag" ["cell","k"] spBg)(G_law_begun:Cal P w K mg base 9 "_law_begun" ["bag"] (spBegun53 C cs))(G_law_right:Cal P w K mg base 9 "_law_right" ["board","bag"] spRight53)(G_law_same:Cal P w K mg base 2 "_law_same" ["found","due"] (spSameL 1))(M_watch:Mth P w K mg base 4 C "watch" [] (dP [.str "both"]) (spWatchC C CW))(M_news:Mth P w K mg base 2 C "news" [] (λvs _=>vs) (spNews C CW))(M_floats:Mth P w K mg base 1 C "floats" [] (λvs _=>vs) (spFloats C))(M_chips_of:Mth P w K mg base 1 C "chips_of" [] (λvs _=>vs) (spChipsOf C))(MS:∀kd,kd<5->Mth P w K mg base 1 (cs kd) "state" [] (λvs _=>vs) (spState (cs kd))):FnOk P w K mg base CX0 10 f fd ["script"] (spLaw K):=by
 refine F.ok sclaw (by walk_at"l") (λcdv A outer s H vs Q E hr h=>?_)
 .obtain⟨a,ns,rfl,hs,hln,_,k⟩:=h
  refine⟨_,(zad (@ps_L _ _ _ _ _ _ 1 sclaw.nd (@zat _ _ _ _ _ _ _ _ zgq (@zb7 _ _ _ _ _ _ _ _ _ _ zix (@pv _ 0 _ _ (by rfl) (by walk_at"o") (by decide) (by decide)) (@zc8 _) (@zc7 _ _ _ (@zaf _ _ _ _))) (@zat _ _ _ _ _ _ _ _ zi1 (@zax _ _ _ _ (@zaa _ _ _ _ _ (@zaf _ _ _ _) (@zab _) (by rfl))) (@zaH _ _ _ _ _ _ _ _ _ zf0 (by rfl) T.int zeh (@zaa _ _ _ _ _ (@zbE _ _ _ _ _ _ _ _ (zmc (Nat.lt_of_succ_lt (zhU hr)) (K:=K) O) (@pv _ 0 _ _ (by rfl) (by walk_at"o") (by decide) (by decide)) (@zax _ _ _ _ (@zab _)) (zaw _)) (@zab _) (by rfl)) (by decide) (by decide) (by rfl) (by rfl)))) (by rfl) (by exact Or.inl O) (by rfl) (by walk_at"p"))
   (zad (@ps_L _ _ _ _ _ _ 2 sclaw.nd (@pe_c _ _ _ _ _ _ _ _ _ _ G_law_bag (@zaa _ _ _ _ _ (@pe_x _ _ _ _ _ _ _ zaz (@pv _ 1 _ _ (by rfl) (by walk_at"o") (by decide) (by decide)) (@zat _ _ _ _ _ _ _ _ zb9 (@zak _ _ _ _ _ _ _ _ _ zam (by rfl) T.len PySem.boot_len (@zaa _ _ _ _ _ (@pv _ 1 _ _ (by rfl) (by walk_at"o") (by decide) (by decide)) (@zab _) (by rfl)) (by decide) (by decide) (by rfl) (by rfl)) (@zaf _ _ _ _)) (by exactλ_ _=>O)) (@zaa _ _ _ _ _ (@zaf _ _ _ _) (@zab _) (by rfl)) (by rfl)) (by exact hrm (by assumption)) (by rfl) (by decide) (by rfl) (by rfl)) (by rfl) (by exact Or.inl O) (by rfl) (by walk_at"p"))
   (zad (@zcF _ _ _ _ _ _ (@pe_c _ _ _ _ _ _ _ _ _ _ G_law_begun (@zaa _ _ _ _ _ (@pv _ 2 _ _ (by rfl) (by walk_at"o") (by decide) (by decide)) (@zab _) (by rfl)) (by exact hrm (by assumption)) (by rfl) (by decide) (by rfl) (by rfl)) (@zbI _ _ _ _ _ _ O (@zao _ _ _ _ _ (@pg_L _ _ _ 3 sclaw.nd (by rfl) (by exact Or.inl O) (by walk_at"p")) (@zao _ _ _ _ _ (@pg_L _ _ _ 4 sclaw.nd (by rfl) (by exact Or.inl O) (by walk_at"p")) (@zaS _) (by rfl)) (by rfl)) (by rfl) (by rfl)) (by rfl) (by rfl) (by rfl))
   (zad (@ps_L _ _ _ _ _ _ 5 sclaw.nd (@zfq _ _ _ _ _ _ _ _ _ _ _ _ _ _ 4 ⟨O,O,O,O,O⟩ (hrm hr) _ (@pv _ 3 _ _ (by rfl) (by walk_at"o") (by decide) (by decide)) (@zaa _ _ _ _ _ (@zaf _ _ _ _) (@zaa _ _ _ _ _ (@zaf _ _ _ _) (@zab _) (by rfl)) (by rfl)) (by rfl) (by rfl) (by rfl)) (by rfl) (by exact Or.inl O) (by rfl) (by walk_at"p"))
   (zad (@zb2 _ _ _ _ _ _ _ _ PassesOwn.never O (@za0 _ _ _ _ _ _ O T.range (@zaa _ _ _ _ _ (@zak _ _ _ _ _ _ _ _ _ zam (by rfl) T.len PySem.boot_len (@zaa _ _ _ _ _ (@pv _ 1 _ _ (by rfl) (by walk_at"o") (by decide) (by decide)) (@zab _) (by rfl)) (by decide) (by decide) (by rfl) (by rfl)) (@zab _) (by rfl)) (by rfl)) (@pg_L _ _ _ 6 sclaw.nd (by rfl) (by exact Or.inl O) (by walk_at"p")) (@zad _ _ _ _ _ (@zaA _ _ _ _ _ _ _ _ (@PW.pt _ _ _ (@zbD _ _ _ _ _ _ _ (@zaG _ _ _ _ (@zaF _ _ _ (@pe_c _ _ _ _ _ _ _ _ _ _ G_law_right (@zaa _ _ _ _ _ (@pv _ 3 _ _ (by rfl) (by walk_at"o") (by decide) (by decide)) (@zaa _ _ _ _ _ (@pe_c _ _ _ _ _ _ _ _ _ _ G_law_bag (@zaa _ _ _ _ _ (@pe_x _ _ _ _ _ _ _ zaz (@pv _ 1 _ _ (by rfl) (by walk_at"o") (by decide) (by decide)) (@pv _ 6 _ _ (by rfl) (by walk_at"o") (by decide) (by decide)) (by exactλ_ _=>O)) (@zaa _ _ _ _ _ (@pv _ 6 _ _ (by rfl) (by walk_at"o") (by decide) (by decide)) (@zab _) (by rfl)) (by rfl)) (by exact hrm (by assumption)) (by rfl) (by decide) (by rfl) (by rfl)) (@zab _) (by rfl)) (by rfl)) (by exact hrm (by assumption)) (by rfl) (by decide) (by rfl) (by rfl)) (by intro _;rfl))) (@zbd _ _ _ _ (@zaG _ _ _ _ (@zaF _ _ _ (@pe_c _ _ _ _ _ _ _ _ _ _ G_law_same (@zaa _ _ _ _ _ (@zfq _ _ _ _ _ _ _ _ _ _ _ _ _ _ 2 ⟨O,O,O,O,O⟩ (hrm hr) _ (@pv _ 3 _ _ (by rfl) (by walk_at"o") (by decide) (by decide)) (@zaa _ _ _ _ _ (@pv _ 5 _ _ (by rfl) (by walk_at"o") (by decide) (by decide)) (@zab _) (by rfl)) (by rfl) (by rfl) (by rfl)) (@zaa _ _ _ _ _ (@zax _ _ _ _ (@zab _)) (@zab _) (by rfl)) (by rfl)) (by exact hrm (by assumption)) (by rfl) (by decide) (by rfl) (by rfl)) (by intro _;rfl)))))) (@zag _ _ _ (@zal _ _ _ _ (@zdt _ _ _ _))) (@zan _)) (@zad _ _ _ _ _ (@zaA _ _ _ _ _ _ _ _ (@zaG _ _ _ _ (@zaF _ _ _ (@pe_c _ _ _ _ _ _ _ _ _ _ G_law_same (@zaa _ _ _ _ _ (@zgm _ _ _ _ _ _ _ _ _ _ _ 1 ⟨O,O,O,O,O⟩ (hrm hr) _ (@pv _ 3 _ _ (by rfl) (by walk_at"o") (by decide) (by decide)) (by rfl)) (@zaa _ _ _ _ _ (@pe_x _ _ _ _ _ _ _ zaz (@pv _ 4 _ _ (by rfl) (by walk_at"o") (by decide) (by decide)) (@zaf _ _ _ _) (by exactλ_ _=>O)) (@zab _) (by rfl)) (by rfl)) (by exact hrm (by assumption)) (by rfl) (by decide) (by rfl) (by rfl)) (by intro _;rfl))) (@zag _ _ _ (@zal _ _ _ _ (@zdt _ _ _ _))) (@zan _)) (@zag _ _ _ (@zb2 _ _ _ _ _ _ _ _ PassesOwn.never O (@ziS _ _ _ _ _ _ _ _ _ O T.zip (@zaa _ _ _ _ _ (@zgm _ _ _ _ _ _ _ _ _ _ _ 1 ⟨O,O,O,O,O⟩ (hrm hr) _ (@pv _ 3 _ _ (by rfl) (by walk_at"o") (by decide) (by decide)) (by rfl)) (@zaa _ _ _ _ _ (@pe_x _ _ _ _ _ _ _ zaz (@pv _ 4 _ _ (by rfl) (by walk_at"o") (by decide) (by decide)) (@zaf _ _ _ _) (by exactλ_ _=>O)) (@zab _) (by rfl)) (by rfl)) (by rfl) (by rfl)) (@zbI _ _ _ _ _ _ O (@zao _ _ _ _ _ (@pg_L _ _ _ 7 sclaw.nd (by rfl) (by exact Or.inl O) (by walk_at"p")) (@zao _ _ _ _ _ (@pg_L _ _ _ 8 sclaw.nd (by rfl) (by exact Or.inl O) (by walk_at"p")) (@zaS _) (by rfl)) (by rfl)) (by rfl) (by rfl)) (@zag _ _ _ (@zaA _ _ _ _ _ _ _ _ (@zaG _ _ _ _ (@zaF _ _ _ (@pe_c _ _ _ _ _ _ _ _ _ _ G_law_same (@zaa _ _ _ _ _ (@zgm _ _ _ _ _ _ _ _ _ _ _ 1 ⟨O,O,O,O,O⟩ (hrm hr) _ (@pv _ 7 _ _ (by rfl) (by walk_at"o") (by decide) (by decide)) (by rfl)) (@zaa _ _ _ _ _ (@zaH _ _ _ _ _ _ _ _ _ zbT (by rfl) T.tuple zbx (@zaa _ _ _ _ _ (@pe_x _ _ _ _ _ _ _ zaz (@pv _ 8 _ _ (by rfl) (by walk_at"o") (by decide) (by decide)) (@zaf _ _ _ _) (by exactλ_ _=>O)) (@zab _) (by rfl)) (by decide) (by decide) (by rfl) (by rfl)) (@zab _) (by rfl)) (by rfl)) (by exact hrm (by assumption)) (by rfl) (by decide) (by rfl) (by rfl)) (by intro _;rfl))) (@zag _ _ _ (@zal _ _ _ _ (@zdt _ _ _ _))) (@zan _))) (by intro _;rfl))))) (by intro _;rfl))
   (zag (@zal _ _ _ _ (@zdt _ _ _ _)))))))),?rd⟩
  refine{_,O,20,O,a,_,O,hs,λq1 hq1=>?_}
  have s1:=zae (o:=.lst (cutV (ns.map V.int) none (some 20))) hq1
  refine{by show 1<=sizeLine;decide,λg hg=>?_}
  have s2:=s1.trans (zae (o:=.lst [V.int 0]) hg)
  refine{_,O,by show 0<=sizeLine;decide,λe he=>{a,e,_,O,O,(s2.trans (zae he)).seq hs,SqL.of zac,?_}}
  obtain⟨cells,hc1,hc2,ecl⟩:∃cells:List Int,1<=cells.length/\cells.length<=21/\cutV (ns.map V.int) none (some 20)++(List.replicate ((if(ns.map V.int).isEmpty=true then 1 else 0:Int)).toNat [V.int 0]).flatten=cells.map V.int:=by
   cases ns with
   | nil=>exact{[0],by decide,by decide,by simp[cutV]}
   | cons y l =>
    refine{(y::l).take (min 20 (l.length+1)),?_,?_,?_}
    .rw[XaZ,Xar];omega
    .rw[XaZ];omega
    .rw[if_neg (by simp)]
     unfold cutV
     rw[show(some (20:Int))=some ((20:Nat):Int) from O,HT.sIx_nat,HT.sIx_none,Xaf]
     simp
  have hk:0<=(if(ns.map V.int).isEmpty=true then 1 else 0:Int)/\(if(ns.map V.int).isEmpty=true then 1 else 0:Int)<=1:=by split<;>decide
  have s3:=s2.trans (zae (o:=.lst []) he)
  refine .inr {_,O,g,_,_,O,O,zae he _ _ zac,by omega,by omega,?_,λr hr'=>{q1,r,_,_,O,O,SqL.of ((((zae hg).trans (zae he)).trans (zae hr')) _ _ zac),SqL.of zac,?_,λc hc=>?_}}
  .refine Xak (show 1*_<=10 from ?_) (by decide);omega
  .have:=congrArg List.length ecl
   rw[Xah,Xaf] at this
   rw[this];exact Xak hc2 (by decide)
  rw[ecl]
  have s4:=s3.trans (zae (o:=.lst (List.replicate ((if(ns.map V.int).isEmpty=true then 1 else 0:Int)).toNat [V.int 0]).flatten) hr')
  generalize upd (upd (upd (upd H q1 (.lst (cutV (ns.map V.int) none (some 20)))) g (.lst [V.int 0])) e (.lst [])) r (.lst (List.replicate ((if(ns.map V.int).isEmpty=true then 1 else 0:Int)).toNat [V.int 0]).flatten)=H4 at *
  have ec:upd H4 c (.lst (cells.map V.int)) c=some (.lst (cells.map V.int)):=zac
  generalize upd H4 c (.lst (cells.map V.int))=H5 at *
  have cat:∀i:Nat,i<cells.length->∃z:Int,(cells.map V.int)[i]?=some (.int z):=λi hi=>{cells[i],by rw[Xax,Xaz hi];rfl}
  obtain⟨zm,hzm⟩:=cat (cells.length / 2) (by omega)
  have hmid:((cells.map V.int).length:Int) / 2=((cells.length / 2:Nat):Int):=by rw[Xaf];omega
  try dsimp(proj:=false) only[zay,List.set]
  refine{_,O,_,O,c,_,O,.inl (SqL.of ec),_,_,O,O,{by decide,by decide +kernel},c,_,_,_,O,O,SqL.of ec,by rw[hmid];exact zaQ hzm,zm,70,O,by decide,λp X1 hp bg1 s1=>?_}
  try dsimp(proj:=false) only[zay,List.set]
  refine{_,O,p,4000,O,bg1,by decide,λt MA ML B cl fl X2 et hE bg2 k2=>zfM et ?_}
  try dsimp(proj:=false) only[zay,List.set]
  have hB:=hE.b.same zcL
  obtain⟨RM,eA⟩:=hE.eA
  have eA:=(zaK eA).2
  have S:=(hE.C.chs (Xak hE.l (by decide))).same zcL
  have M:=hE.C.mod.same zcL
  have eM:X2 ML=some (.lst (mdL (dtC cl) λi=>(cl.getD i dfCm).m)):=by rw[zln];exact(zaK hE.eM).2
  have eW:=(zaK hE.eW).2
  have nw0:=hE.nw
  have ec2:X2 c=some (.lst (cells.map V.int)):=k2 _ _ (zaj ec hp) (s1 _ _ ec)
  generalize dtC cl=D at hB S M eM
  generalize(λi=>(cl.getD i dfCm).m)=md at M eM
  generalize(λi=>(cl.getD i dfCm).r)=rw_ at M
  generalize usC cl=us at S M
  obtain⟨db,eb⟩:=hB.e
  have bw:BW C CW B D X2 fl []:={hB,{eW,(λ_ h=>nomatch h),List.nodup_nil,List.nodup_nil,Nat.zero_le _},(λ_ h=>nomatch h)}
  have p2:0<2 ^ B.bits:=Nat.two_pow_pos _
  refine{_,O,B.b,C,db,_,_,_,O,eb,M_watch,O,B,D,fl,0,0,"both",[],O,bw,p2,p2,.inr (.inr O),(λ_ h=>nomatch h),by decide,(λi hi z=>by rw[(S.o i hi).ls] at z;cases z),λx h X3 hx hh b3 fr3=>?_}
  try dsimp(proj:=false) only[zay,List.set]
  have kp:∀a o,X2 a=some o->(∀d,o≠.ins C d (bdF B fl))->o≠.dK []->X3 a=some o:=λa o e n1 n2=>fr3 a o (λz=>by rw[z,eb] at e;exact n1 _ (Option.some.inj e).symm) (λz=>by rw[z,eW] at e;exact n2 (Option.some.inj e).symm) e
  have kl:∀a l,X2 a=some (.lst l)->X3 a=some (.lst l):=λa l e=>kp a _ e (λ_ z=>nomatch z) (λz=>nomatch z)
  have S3:Chs cs D X3 us:=by
   refine{λi hi=>?_,S.k,S.h1,S.z,S.inj,S.m1}
   obtain⟨⟨dx,e⟩,e2⟩:=S.o i hi
   refine{{dx,kp _ _ e (λd z=>?_) (λz=>nomatch z)},kl _ _ e2}
   have:=congrArg Prod.fst (List.cons.inj (HO.ins.inj z).2.2).1
   exact absurd this (by show("head" : Str) ≠ "bits"; decide)
  have eA3:=kl _ _ eA
  have eM3:=kl _ _ eM
  have ec3:=kl _ _ ec2
  have M3:Mod D md rw_ X3 us:={λi hi=>{kl _ _ (M.o i hi).at_,kl _ _ (M.o i hi).ls},M.k,M.h1,M.z,M.inj}
  have nx:∀{a:Addr} {o:HO},X2 a=some o->a≠x:=λ{a o} e=>zaj e hx
  have nxA:=nx eA
  have nxM:=nx eM
  have nxc:=nx ec2
  have nxC:∀i,i<D.m->D.x i≠x/\D.p i≠x/\md i≠x/\rw_ i≠x:=λi hi=>{nx (S.o i hi).ex.choose_spec,nx (S.o i hi).ls,nx (M.o i hi).at_,nx (M.o i hi).ls}
  rw[nw0] at b3
  have b3:BW C CW B.next D X3 fl [(0,⟨x,h,0,0,"both",[]⟩)]:=b3
  clear bw eW hB S M eA eM ec2 nx hE k2 s1 bg2 et bg1 kp kl fr3
  refine{_,O,c,_,O,.inl (SqL.of ec3),_,O,by omega,by rw[Xaf];omega,?_}
  rw[Xap,Xaf]
  refine zb5 (n:=cells.length) (λi U X=>∃(v6 v7 v8:Option V) (h:Addr),U=[some (.ref a),some (.ref c),some (.ref p),some (.ref B.b),some (.ref MA),some (.int (B.nw:Int)),v6,v7,v8]/\BW C CW B.next D X fl [(0,{x,h,0,0,"both",[]})]/\(∀a o,a≠x->X3 a=some o->X a=some o)) {none,none,none,h,O,b3,λ_ _ _ e=>e} ?_ ?_
  .rintro i U X hi ⟨v6,v7,v8,h,rfl,bX,fX⟩
   rw[Int.zero_add]
   obtain⟨zi,hzi⟩:=cat i hi
   try dsimp(proj:=false) only[zay,List.set]
   refine{_,O,_,O,_,O,c,_,_,_,O,O,SqL.of (fX _ _ nxc ec3),zaQ hzi,_,O,zi,i,O,by omega,λp2 Y1 hp2 bgY s1=>?_}
   refine{_,p2,4000,O,bgY,by decide,λY2 k2=>{_,O,iteF ?_}}
   have s12:Same X Y2:=λb o e=>k2 b o (zaj e hp2) (s1 b o e)
   have bY:=bX.same s12
   have fY:∀a o,a≠x->X3 a=some o->Y2 a=some o:=λa o na e=>s12 _ _ (fX a o na e)
   obtain⟨db2,eb2⟩:=bY.b.e
   have SY:Chs cs D Y2 us:={λi hi=>{(S3.o i hi).ex.elim λdx e=>{dx,fY _ _ (nxC i hi).1 e},fY _ _ (nxC i hi).2.1 (S3.o i hi).ls},S3.k,S3.h1,S3.z,S3.inj,S3.m1}
   refine{_,O,B.b,C,db2,_,_,_,O,eb2,M_news,O,_,O,B.next,D,fl,B.nw,_,(0,{x,h,0,0,"both",[]}),O,bY,by rw[nw0];exact⟨O,Xat⟩,(λi hi z=>by rw[(SY.o i hi).ls] at z;cases z),λh2 Y3 hh2 b3' fr3=>?_}
   have b4:BW C CW B.next D Y3 fl [(0,⟨x,h2,0,0,"both",[]⟩)]:=by
    have e:wsN x h2 [(0,⟨x,h,0,0,"both",[]⟩)]=[(0,⟨x,h2,0,0,"both",[]⟩)]:=by unfold wsN;simp
    rw[e] at b3';exact b3'
   have fY3:∀a o,a≠x->X3 a=some o->Y3 a=some o:=λa o na e=>fr3 _ _ na (fY a o na e)
   obtain⟨ts,els,htl,_⟩:=(bY.w.o _ Xat).l
   obtain⟨dxx,exx⟩:=(bY.w.o _ Xat).e
   have ts0:ts=[]:=List.length_eq_zero_iff.mp htl
   subst ts0
   have els3:Y3 h=some (.lst []):=fr3 _ _ (λz=>by rw[z] at els;rw[exx] at els;cases els) els
   clear bX bY fX fY s1 s12 k2 bgY eb2 b3' fr3 els exx SY
   refine{by show 0<=sizeLine;decide,λl hl=>?_}
   have sl:=zae (o:=.lst []) hl
   have el:upd Y3 l (.lst []) l=some (.lst []):=zac
   have els4:=sl _ _ els3
   have b5:=b4.same sl
   have fY4:∀a o,a≠x->X3 a=some o->upd Y3 l (.lst []) a=some o:=λa o na e=>sl _ _ (fY3 a o na e)
   generalize upd Y3 l (.lst [])=Y4 at *
   clear b4 fY3
   refine{.ref h,.ref l,O,.inr (.seq (t:=false) els4 el O (Nat.zero_le _) (λi x y h1 _=>by cases h1)),λY5 s5=>{_,O,iteF (zar ?_)}}
   try dsimp(proj:=false) only[zay,List.set]
   have b6:=b5.same s5
   have fY5:∀a o,a≠x->X3 a=some o->Y5 a=some o:=λa o na e=>s5 _ _ (fY4 a o na e)
   obtain⟨db5,eb5⟩:=b6.b.e
   refine{_,O,B.b,C,db5,_,_,_,O,eb5,M_floats,O,B.next,D,fl,O,b6.b,_,O,MA,_,_,_,O,O,SqL.of (fY5 _ _ nxA eA3),zaQ (j:=3) O,.int (fl:Int),.int (fl:Int),O,.inr (.int _),λY6 s6=>{_,O,iteF (zar ?_)}}
   try dsimp(proj:=false) only[zay,List.set]
   have b7:=b6.same s6
   have fY6:∀a o,a≠x->X3 a=some o->Y6 a=some o:=λa o na e=>s6 _ _ (fY5 a o na e)
   clear b5 b6 fY4 fY5 eb5 s5
   obtain⟨db6,eb6⟩:=b7.b.e
   refine{_,O,B.b,C,db6,_,_,_,O,eb6,M_chips_of,O,B.next,D,fl,O,b7.b,λq hq=>{_,O,MA,_,_,_,O,O,SqL.of (zae hq _ _ (fY6 _ _ nxA eA3)),zaQ (j:=2) O,false,q,ML,chL D,mdL D md,O,zac,zae hq _ _ (fY6 _ _ nxM eM3),?_}}
   have s7:=zae (o:=.lst (chL D)) hq
   have el7:upd Y6 q (.lst (chL D)) q=some (.lst (chL D)):=zac
   have b8:=b7.same s7
   have fY7:∀a o,a≠x->X3 a=some o->upd Y6 q (.lst (chL D)) a=some o:=λa o na e=>s7 _ _ (fY6 a o na e)
   generalize upd Y6 q (.lst (chL D))=Y7 at *
   clear b7 fY6 s7 eb6
   have S7:Chs cs D Y7 us:={λi hi=>{(S3.o i hi).ex.elim λdx e=>{dx,fY7 _ _ (nxC i hi).1 e},fY7 _ _ (nxC i hi).2.1 (S3.o i hi).ls},S3.k,S3.h1,S3.z,S3.inj,S3.m1}
   have M7:Mod D md rw_ Y7 us:={λi hi=>{fY7 _ _ (nxC i hi).2.2.1 (M3.o i hi).at_,fY7 _ _ (nxC i hi).2.2.2 (M3.o i hi).ls},M3.k,M3.h1,M3.z,M3.inj}
   have eM7:=fY7 _ _ nxM eM3
   refine zkN (t:=false) (xs:=chL D) (ys:=mdL D md) (λj U X=>∃(w7 w8:Option V),U=[some (.ref a),some (.ref c),some (.ref p),some (.ref B.b),some (.ref MA),some (.int (B.nw:Int)),some (.int (i:Int)),w7,w8]/\Same Y7 X) (by rw[ze6,zdc]) {_,_,O,Same.refl _} ?_ ?_ ?_
   .rintro j U X _ ⟨_,_,_,sX⟩
    exact{sX _ _ el7,sX _ _ eM7}
   .rintro j x1 y1 U9 U X hx1 hy1 hU ⟨w7,w8,rfl,sX⟩
    have hj:j<D.m:=by have:=(Xas.mp hx1).1;rw[ze6] at this;exact this
    rw[zjG hj] at hx1
    rw[zfC hj] at hy1
    cases hx1
    cases hy1
    have sU:=sX.trans (zae (o:=.tup [.ref (D.x j),.ref (md j)]) hU)
    refine zfM zac ?_
    try dsimp(proj:=false) only[zay,List.set]
    have S8:=S7.same sU
    obtain⟨dx,ex⟩:=(S8.o j hj).ex
    refine{_,O,D.x j,cs (D.kd j),dx,_,_,_,O,ex,MS _ (S8.k j hj).k5,lkn _,_,_,_,_,O,(S8.o j hj).ob,λr1 hr1=>?_}
    have sq:=zae (o:=.tup (vN (us j))) hr1
    have M8:=M7.same (sU.trans sq)
    refine{_,O,md j,_,_,_,O,O,SqL.of (M8.o j hj).at_,zaQ (j:=1) O,rw_ j,_,O,.inl {SqL.of (M8.o j hj).ls,λr2 hr2=>?_}}
    have sq2:=zae (o:=.tup (vN (us j))) hr2
    refine{.ref r1,.ref r2,O,.inr (.seq (t:=true) (sq2 _ _ zac) zac O (by rw[zaq];exact Xak (S8.k j hj).ln (by decide)) (λi2 x2 y2 h1 h2=>?_)),λY9 s9=>{_,O,iteF (zar {_,_,O,sU.trans (sq.trans (sq2.trans s9))})}}
    rw[h1] at h2
    cases h2
    obtain⟨u,_,rfl⟩:=Xa1.mp (XaF h1)
    exact .int _
   .rintro U X ⟨w7,w8,rfl,sX⟩
    exact{_,_,_,h2,O,b8.same sX,λa o na e=>sX _ _ (fY7 a o na e)}
  .rintro U X ⟨v6,v7,v8,h,rfl,_⟩
   exact k X
end
abbrev NsR(K:W.Frag)(x:Str)(f:Addr):Prop:=W.nsIn K mainGlobals x=some (some (.ref f))
abbrev FiR(K:W.Frag)(C:Addr)(m:Str)(f:Addr):Prop:=W.findIn K (.ref C) m=some (some (.ref f))
abbrev IsF(K:W.Frag)(f:Addr):Prop:=W.isFn K (.ref f)=true
def all_mk{l:W.OpenLaw}{w:World}{K:W.Frag}{h:Heap}{mg:Str->Option Value}{fa:Addr}(X:K.In h)(G:h.Ns mainGlobals mg)(hfa:mg "law"=some (.ref fa)){f_0 f_1 f_2 f_3 f_4 f_5 f_6 f_7 f_8 f_9 bB bC bD bE ay aZ bF bG ae au ar af ac ag ah a6 aI bH aJ aK bI aL bJ aM bK bL bM bN ad aN bO ai aO bb aP bP bd be bf bh bQ bR bS bT bU NT aa am av a_P bV bW bZ cb cc cg aQ aR aS aT aU aV cv aW aX cx cy cz cA cC cD cF cG cH cI cJ cK bi cM cO cP cQ cR cS cT cU cV cW cX bj:Addr} {fF fG fH fJ fK fL fM fP fQ fR fS fU fV fW fZ f9 gb gc gf gh gi gq gt gB gL gS gT gU gX hV hZ h8 ig ii ij ik il io ip iq ir ix jD jE jF jG jH cL jI jJ jK jL jM jN jO jP jQ jR jS:FuncData} {gj gu gG gM g6 ia cN1 cB cN2 jT cY cZ da bn de:Value} {gk gw gH gO g7 ib ddT dN1 ddB dN2 iz iA iB iC iD iE iF iG iH iI iJ iK jU df:Option Addr} {gm gy gI gP hG ic ep1 ep2 iy iL iM iN iO iP iQ iR iS iT iU iV iW:Nat} {gn gz gJ gQ hJ ie sl1 slB sl2 iX iY iZ i4 i5 i6 i7 i9 ja jb jc jd jV:Array (Option Value)} {gp a7 gK gR a8 bc je jf jg jh ji jj jk jl jm jn jo jp jq jr js jt ju jv jw jx jy jz jA jB jC jW jX jY jZ j0 j1 j3 j4 j5 j6 j7:Tok} {nmT qT:Str} {bsT iu:List Value} {snT:List Str} {abT:Bool} {iw:Option Bool} {k0T k1T k2T k3T k5T:Option Value} {es1 es2:Array DictEntry} {cdB:ClassData} {ci cj ck cp cr cu:Int}(zS:W.nsIn K mainGlobals "sorted"=some none)(j8:NsR K "single_ones" f_0)(F_0:FunN K "single_ones" zbY f_0 fF)(j9:NsR K "ones_of" f_1)(F_1:FunN K "ones_of" zeG f_1 fG)(ka:NsR K "is_number" f_2)(F_2:FunN K "is_number" zcW f_2 fH)(kb:NsR K "size_of" f_3)(F_3:FunN K "size_of" zeF f_3 fJ)(ke:NsR K "is_choice" f_4)(F_4:FunN K "is_choice" zcX f_4 fK)(kf:NsR K "is_latch" f_5)(F_5:FunN K "is_latch" zdO f_5 fL)(kg:NsR K "is_row" f_6)(F_6:FunN K "is_row" zge f_6 fM)(kh:NsR K "is_map" f_7)(F_7:FunN K "is_map" zgf f_7 fP)(kj:NsR K "choices_agree" f_8)(F_8:FunN K "choices_agree" zbz f_8 fQ)(km:NsR K "latches_agree" f_9)(F_9:FunN K "latches_agree" zby f_9 fR)(ko:NsR K "rows_clash" bB)(dg:FunN K "rows_clash" zcm bB fS)(kq:NsR K "clash_of" bC)(dh:FunN K "clash_of" zdR bC fU)(kr:NsR K "is_word" bD)(di:FunN K "is_word" zeJ bD fV)(ku:NsR K "check_word" bE)(dk:FunN K "check_word" zcn bE fW)(ky:NsR K "Chip" ay)(kG:W.specialIn K (.ref ay) "__getattribute__"=some (some (.builtin "type.__getattribute__")))(kI:W.readsIn K ay (.type "type")=true)(kJ:W.findCls K (.ref ay) (.type "type") "__init__"=some (.val (.ref aZ)))(dl:Fun K "__init__" "Chip.__init__" zbB aZ fZ)(kK:NsR K "by_figures" bF)(dm:FunN K "by_figures" zcp bF f9)(kM:NsR K "two_figures" bG)(dq:FunN K "two_figures" zbX bG gb)(kN:NsR K "Store" ae)(aA:ClsOk K ae)(kO:FiR K ae "__len__" au)(aq:Fun K "__len__" "Chip.__len__" zbP au gc)(aY:IsF K au)(kP:FiR K ae "state" ar)(ak:Fun K "state" "Chip.state" zct ar gf)(aB:IsF K ar)(kQ:NsR K "Fixed" af)(aC:ClsOk K af)(kR:FiR K af "__len__" au)(kS:FiR K af "state" ar)(bo:NsR K "Latch" ac)(aw:ClsOk K ac)(kT:FiR K ac "__len__" au)(kU:FiR K ac "state" ar)(k6:NsR K "Meter" ag)(aD:ClsOk K ag)(k7:FiR K ag "__len__" au)(k8:FiR K ag "state" ar)(k9:NsR K "Pipe" ah)(aE:ClsOk K ah)(le:FiR K ah "__len__" a6)(du:Fun K "__len__" "Pipe.__len__" zbO a6 gh)(lf:IsF K a6)(lg:FiR K ah "state" ar)(lh:W.makesIn K ae=true)(lj:W.keepIn K (.ref ae)=true)(lq:FiR K ae "__init__" aI)(dv:FunD K "__init__" "Store.__init__" zbj (.ref bH) aI gi)(lr:K.lookup bH=some {gj,gk,.seq #[.int 0 gp] gm,gn})(lw:IsF K aI)(lx:W.makesIn K af=true)(ly:W.keepIn K (.ref af)=true)(lz:FiR K af "__init__" aJ)(dA:Fun K "__init__" "Fixed.__init__" zbm aJ gq)(lA:IsF K aJ)(dB:W.makesIn K ac=true)(dC:W.keepIn K (.ref ac)=true)(dD:FiR K ac "__init__" aK)(bp:FunD K "__init__" "Latch.__init__" zbl (.ref bI) aK gt)(dE:K.lookup bI=some {gu,gw,.seq #[.int 0 a7] gy,gz})(dF:IsF K aK)(lB:W.makesIn K ag=true)(lC:W.keepIn K (.ref ag)=true)(lD:FiR K ag "__init__" aL)(dG:FunD K "__init__" "Meter.__init__" zbk (.ref bJ) aL gB)(lE:K.lookup bJ=some {gG,gH,.seq #[.int 0 gK] gI,gJ})(lF:IsF K aL)(lG:W.makesIn K ah=true)(lH:W.keepIn K (.ref ah)=true)(lI:FiR K ah "__init__" aM)(dH:FunD K "__init__" "Pipe.__init__" zbA (.ref bK) aM gL)(lJ:K.lookup bK=some {gM,gO,.seq #[.int 4 gR] gP,gQ})(lK:IsF K aM)(lL:W.findIn K (.ref ac) "__class__"=some (some (.builtin "object.__class__")))(lM:W.specialIn K (.builtin "object.__class__") "__get__"=some (some (.builtin "getset_descriptor.__get__")))(lN:W.takesIn K (.builtin "object.__class__")=some true)(lO:W.mroIn K ac (.type "object")=some true)(lP:W.isIn K (.ref ac) ac=true)(lQ:NsR K "row_fits" bL)(dI:FunN K "row_fits" zdK bL gS)(lR:NsR K "check_map" bM)(dJ:FunN K "check_map" zcZ bM gT)(lS:NsR K "check_clash" bN)(dL:FunN K "check_clash" zbZ bN gU)(dM:NsR K "Board" ad)(aj:ClsBd K ad)(dN:W.makesIn K ad=true)(dO:W.keepIn K (.ref ad)=true)(dQ:FiR K ad "__init__" aN)(bq:FunD K "__init__" "Board.__init__" zbo (.ref bO) aN gX)(dR:K.lookup bO=some {g6,g7,.seq #[.int 0 a8] hG,hJ})(dS:IsF K aN)(lT:NsR K "Watch" ai)(dU:ClsWt K ai)(lU:W.makesIn K ai=true)(lV:W.keepIn K (.ref ai)=true)(lW:FiR K ai "__init__" aO)(dW:Fun K "__init__" "Watch.__init__" zbi aO hV)(lX:IsF K aO)(lY:FiR K ad "in_bits" bb)(dX:Fun K "in_bits" "Board.in_bits" zbC bb hZ)(lZ:IsF K bb)(l6:FiR K ad "watch" aP)(br:FunD K "watch" "Board.watch" zb1 (.ref bP) aP h8)(l7:K.lookup bP=some {ia,ib,.seq #[.str "both" bc] ic,ie})(l8:IsF K aP)(l9:FiR K ad "check_watch" bd)(dY:Fun K "check_watch" "Board.check_watch" zaZ bd ig)(me:IsF K bd)(mf:FiR K ad "news" be)(dZ:Fun K "news" "Board.news" zcu be ii)(mh:IsF K be)(mi:FiR K ad "floats" bf)(d6:Fun K "floats" "Board.floats" zbQ bf ij)(mj:IsF K bf)(ml:FiR K ad "chips_of" bh)(d7:Fun K "chips_of" "Board.chips_of" zbn bh ik)(mq:IsF K bh)(mr:NsR K "are_figures" bQ)(d8:FunN K "are_figures" zb0 bQ il)(mv:NsR K "sixteen_of" bR)(d9:FunN K "sixteen_of" zcl bR io)(mw:NsR K "ten_of" bS)(eh:FunN K "ten_of" zgc bS ip)(my:NsR K "signed_of" bT)(eE:FunN K "signed_of" zcU bT iq)(mz:NsR K "number_of" bU)(eF:FunN K "number_of" zcV bU ir)(eG:NsR K "BadRow" aa)(eJ:NsR K "BusError" am)(xl:K.lookup aa=some (excClassObj nmT qT aa NT bsT [.ref am,.type "ValueError",.type "Exception",.type "BaseException",.type "object"] true snT iu abT iw ddT k0T k1T k2T k3T k5T "ValueError.__new__"))(xn:K.lookup NT=some {cN1,dN1,.dict es1 ep1,sl1})(xs:es1.toList.all (λe=>match e.key with|.str _ _=>true|_=>false)=true)(yl:K.lookup am=some {cB,ddB,.cls cdB,slB})(yn:K.lookup cdB.ns=some {cN2,dN2,.dict es2 ep2,sl2})(ys:es2.toList.all (λe=>match e.key with|.str _ _=>true|_=>false)=true)(yi:nsFind es2 "__init__"=none)(xa:W.findIn K (.ref aa) "__setattr__"=some (some (.builtin "object.__setattr__")))(mB:W.takerIn K aa "number"=some none)(mC:W.takerIn K aa "row"=some none)(c1_:W.findIn K (.ref aa) "__getattribute__"=some (some (.builtin "BaseException.__getattribute__")))(c2_:W.findIn K (.ref aa) "__getattr__"=some none)(c4_:W.subIn K (.ref aa) (.type "BaseException")=some true)(c5_:W.mroIn K aa (.type "object")=some true)(c3_:∀oD:Option Obj,W.findObj K aa oD "__class__"=some (.bind (.builtin "getset_descriptor.__get__") (.builtin "object.__class__")))(m1_:W.exmOne K (.ref aa) (.ref aa)=some true)(xh:W.hasDictIn K aa=true)(mD:W.findIn K (.ref aa) "number"=some none)(mE:W.findIn K (.ref aa) "row"=some none)(s1_:W.specialIn K (.ref am) "__getattribute__"=some (some (.builtin "type.__getattribute__")))(s2_:W.readsIn K am (.type "type")=true)(s3_:W.findCls K (.ref am) (.type "type") "__init__"=some (.val (.builtin "ValueError.__init__")))(qu:FiR K aa "__init__" av)(mF:nsFind es1 "__init__"=some (.ref av))(mG:Fun K "__init__" "BadRow.__init__" zbb av ix)(mH:IsF K av)(g_P:NsR K "PARTS" a_P)(l_P:K.lookup a_P=some {.type "dict",none,.dict #[{ci,.ref bV,.ref aQ},{cj,.ref bW,.ref aR},{ck,.ref bZ,.ref aS},{cp,.ref cb,.ref aT},{cr,.ref cc,.ref aU},{cu,.ref cg,.ref aV}] iy,#[]})(s_P:(a_P==sysModules)=false)(mI:K.lookup bV=some {.type "tuple",iz,.seq #[.str "r" je,.int 1 jf] iL,iX})(mJ:reduceHash (Builtin.Tuple.tupleHashOf [hashStr w "r",hashInt 1])=ci)(mK:K.lookup aQ=some {.type "tuple",iA,.seq #[.str "address" jg] iM,iY})(mL:K.lookup bW=some {.type "tuple",iB,.seq #[.str "q" jh,.int 1 ji] iN,iZ})(mM:reduceHash (Builtin.Tuple.tupleHashOf [hashStr w "q",hashInt 1])=cj)(mO:K.lookup aR=some {.type "tuple",iC,.seq #[.str "address" jj] iO,i4})(mP:K.lookup bZ=some {.type "tuple",iD,.seq #[.str "w" jk,.int 2 jl] iP,i5})(mQ:reduceHash (Builtin.Tuple.tupleHashOf [hashStr w "w",hashInt 2])=ck)(mR:K.lookup aS=some {.type "tuple",iE,.seq #[.str "address" jm,.str "word" jn] iQ,i6})(mS:K.lookup cb=some {.type "tuple",iF,.seq #[.str "t" jo,.int 1 jp] iR,i7})(mT:reduceHash (Builtin.Tuple.tupleHashOf [hashStr w "t",hashInt 1])=cp)(mU:K.lookup aT=some {.type "tuple",iG,.seq #[.str "count" jq] iS,i9})(mV:K.lookup cc=some {.type "tuple",iH,.seq #[.str "m" jr,.int 3 js] iT,ja})(mW:reduceHash (Builtin.Tuple.tupleHashOf [hashStr w "m",hashInt 3])=cr)(mX:K.lookup aU=some {.type "tuple",iI,.seq #[.str "address" jt,.str "address" ju,.str "count" jv] iU,jb})(mY:K.lookup cg=some {.type "tuple",iJ,.seq #[.str "m" jw,.int 5 jx] iV,jc})(mZ:reduceHash (Builtin.Tuple.tupleHashOf [hashStr w "m",hashInt 5])=cu)(m3:K.lookup aV=some {.type "tuple",iK,.seq #[.str "address" jy,.str "address" jz,.str "count" jA,.str "step" jB,.str "step" jC] iW,jd})(m6:NsR K "deed_of" cv)(eK:FunN K "deed_of" zeK cv jD)(eN:NsR K "deeds_of" aW)(bu:FunN K "deeds_of" zdP aW jE)(eO:NsR K "run" aX)(bv:FunN K "run" srun aX jF)(m7:NsR K "Clash" cx)(m8:NsR K "NoAddress" cy)(m9:NsR K "NoCell" cz)(ng:NsR K "NoChip" cA)(nj:NsR K "NoMap" cC)(nk:NsR K "NoMover" cD)(nr:NsR K "NoText" cF)(nu:NsR K "NoWatch" cG)(nv:NsR K "NoWord" cH)(nz:NsR K "TooMany" cI)(zV:W.nsIn K mainGlobals "ValueError"=some none)(m6_:W.exmOne K (.ref aa) (.ref am)=some true)(m2_:W.kitOne K (.ref aa) (.ref aa)=some true)(m3_:W.kitOne K (.ref aa) (.type "ValueError")=some true)(m4_:W.kitAny K (.ref aa) [.ref cx,.ref cy,.ref cz,.ref cA,.ref cC,.ref cD,.ref cF,.ref cG,.ref cH,.ref cI]=some false)(nA:NsR K "_law_bag" cJ)(eQ:FunN K "_law_bag" zdY cJ jG)(nB:NsR K "_law_draw" cK)(eS:FunN K "_law_draw" zc4 cK jH)(bx:NsR K "_law_same" bi)(aF:FunN K "_law_same" zc1 bi cL)(nD:NsR K "_law_room" cM)(eU:FunN K "_law_room" zc3 cM jI)(nE:NsR K "_law_row" cO)(eX:FunN K "_law_row" zdX cO jJ)(nF:NsR K "_law_latched" cP)(e7:FunN K "_law_latched" zbN cP jK)(nG:NsR K "_law_rows" cQ)(e8:FunN K "_law_rows" zc2 cQ jL)(nH:NsR K "_law_chip" cR)(fb:FunN K "_law_chip" zc5 cR jM)(nI:NsR K "_law_chips" cS)(fc:FunN K "_law_chips" zcr cS jN)(nJ:NsR K "_law_begun" cT)(fe:FunN K "_law_begun" zcs cT jO)(nK:NsR K "_law_refusal" cU)(ff:FunN K "_law_refusal" zbM cU jP)(nN:NsR K "_law_bad" cV)(fg:FunN K "_law_bad" zav cV jQ)(nP:NsR K "_law_good" cW)(fh:FunN K "_law_good" zaW cW jR)(nQ:NsR K "_law_right" cX)(fj:FunN K "_law_right" zcq cX jS)(nR:NsR K "law" bj)(nS:K.lookup bj=some {jT,jU,.func (W.fnOf "law" "law" (zbs slaw) (zaM slaw) (zai slaw) .none cY cZ da df bn de),jV})(nU:W.codeIn K bn "law"=true)(nV:W.keepIn K (.ref bj)=true)(nW:W.nsIn K mainGlobals "MOST_BITS"=some (some (.int 16 jW)))(nX:W.nsIn K mainGlobals "LAST_CHIP"=some (some (.int 99 jX)))(nY:W.nsIn K mainGlobals "LAST_WORD"=some (some (.int 255 jY)))(nZ:W.nsIn K mainGlobals "MOST_CELLS"=some (some (.int 4096 jZ)))(n6:W.nsIn K mainGlobals "MOST_ROOM"=some (some (.int 255 j0)))(n8:W.nsIn K mainGlobals "MOST_FIGURES"=some (some (.int 4 j1)))(n9:W.nsIn K mainGlobals "SIXTEEN"=some (some (.str "0123456789abcdef" j3)))(og:W.nsIn K mainGlobals "READ"=some (some (.str "read" j4)))(oh:W.nsIn K mainGlobals "WRITE"=some (some (.str "write" j5)))(oj:W.nsIn K mainGlobals "BOTH"=some (some (.str "both" j6)))(om:W.nsIn K mainGlobals "TEN"=some (some (.str "0123456789" j7)))(on:W.nsIn K mainGlobals "len"=some none)(oq:W.nsIn K mainGlobals "sum"=some none)(or:W.nsIn K mainGlobals "all"=some none)(ou:W.nsIn K mainGlobals "max"=some none)(ow:W.nsIn K mainGlobals "min"=some none)(oA:W.nsIn K mainGlobals "int"=some none)(oB:W.nsIn K mainGlobals "bool"=some none)(oC:W.nsIn K mainGlobals "isinstance"=some none)(oE:W.nsIn K mainGlobals "range"=some none)(oF:W.nsIn K mainGlobals "enumerate"=some none)(oG:W.nsIn K mainGlobals "zip"=some none)(oH:W.nsIn K mainGlobals "str"=some none)(oJ:W.nsIn K mainGlobals "tuple"=some none)(oK:W.nsIn K mainGlobals "list"=some none) :
  ∃fd:FuncData,(∀(s:Shared) (v:Value),BindsTo s fd {[v],[]} [("script",v)])/\∀base:Heap,K.In base->base.Ns mainGlobals mg->FnOk l.prog w K mg base CX0 10 fa fd ["script"] (spLaw K):=by
 have mo:∀{x:Str} {v:Value},W.nsIn K mainGlobals x=some (some v)->mg x=some v:=λa=>W.mg_of X G a
 have mn:∀{x:Str},W.nsIn K mainGlobals x=some none->mg x=none:=λa=>W.mg_none_of X G a
 have T:Blt mg:={mn on,mn oq,mn or,mn ou,mn ow,mn oA,mn oB,mn oC,mn oE,mn oF,mn oG,mn oH,mn oJ,mn oK}
 have N:Nums mg:={{_,mo nW},{_,mo nX},{_,mo nY},{_,mo nZ},{_,mo n6},{_,mo n8},{_,mo n9},{_,mo og},{_,mo oh},{_,mo oj},{_,mo om}}
 have oM:=zlr (st:=slaw) nS nU nV
 have e:=hfa.symm.trans (mo nR)
 cases e
 refine{W.fnOf "law" "law" (zbs slaw) (zaM slaw) (zai slaw) .none cY cZ da df bn de,λs v=>.of_eq O,λbase _ _=>?_}
 have cm:=@zf2 l.prog w K mg base
 have mm:=@mth_mk l.prog w K mg base
 have oO:=cm (zeX F_0 T) (mo j8) F_0.kp (by walk_at"bd")
 have oP:=cm (zi7 F_1 T oO) (mo j9) F_1.kp (by walk_at"bd")
 have ax:=cm (zgu F_2 T) (mo ka) F_2.kp (by walk_at"bd")
 have fk:=cm (zi6 F_3 T) (mo kb) F_3.kp (by walk_at"bd")
 have fm:=cm (zgv F_4 T ax) (mo ke) F_4.kp (by walk_at"bd")
 have oQ:=cm (zhC F_5 T N ax fm) (mo kf) F_5.kp (by walk_at"bd")
 have oR:=cm (zkv F_6 T N ax fk fm oQ) (mo kg) F_6.kp (by walk_at"bd")
 have oS:=cm (zkw F_7 T oR) (mo kh) F_7.kp (by walk_at"bd")
 have fo:=cm (zd2 F_8 T) (mo kj) F_8.kp (by walk_at"bd")
 have oU:=cm (zd1 F_9 T fo) (mo km) F_9.kp (by walk_at"bd")
 have oW:=cm (zfv dg T fo oU) (mo ko) dg.kp (by walk_at"bd")
 have oX:=cm (zhE dh T oW) (mo kq) dh.kp (by walk_at"bd")
 have bA:=ax
 have aG:=cm (zi8 di T N bA) (mo kr) di.kp (by walk_at"bd")
 have oY:=cm (zfw dk T aG) (mo ku) dk.kp (by walk_at"bd")
 have aH:Clm l.prog w K mg base 1 "Chip" "__init__" (spInit K):={{ay,aZ,_,_,_,mo ky,kG,kI,kJ,dl.kp,zd5 dl T,(by walk_at"bd")}}
 have oZ:=cm (zfx dm T N) (mo kK) dm.kp (by walk_at"bd")
 have o5:=cm (zeW dq T oZ) (mo kM) dq.kp (by walk_at"bd")
 have o6:=mm aA.cl kO aY aq.kp (za7 (C:=ae) aq T aA) (by walk_at"bd")
 have o7:=mm aA.cl kP aB ak.kp (za9 (C:=ae) ak T aA) (by walk_at"bd")
 have o8:=mm aC.cl kR aY aq.kp (za7 (C:=af) aq T aC) (by walk_at"bd")
 have pb:=mm aC.cl kS aB ak.kp (za9 (C:=af) ak T aC) (by walk_at"bd")
 have pc:=mm aw.cl kT aY aq.kp (za7 (C:=ac) aq T aw) (by walk_at"bd")
 have pd:=mm aw.cl kU aB ak.kp (za9 (C:=ac) ak T aw) (by walk_at"bd")
 have pe:=mm aD.cl k7 aY aq.kp (za7 (C:=ag) aq T aD) (by walk_at"bd")
 have pf:=mm aD.cl k8 aB ak.kp (za9 (C:=ag) ak T aD) (by walk_at"bd")
 have ph:=mm aE.cl le lf du.kp (zeo (C:=ah) du T aE) (by walk_at"bd")
 have pk:=mm aE.cl lg aB ak.kp (za9 (C:=ah) ak T aE) (by walk_at"bd")
 have pq:FnOk l.prog w K mg base CX0 3 aI _ ["self","cells","word"] (spMkSH ae):=zdv (C:=ae) dv T N aA bA aG aH
 have pr:Mak l.prog w K mg base 3 "Store" ae [] (dP []) (spMkSH ae):=zcN (mo kN) lh lq lw lj pq (dv.kbinds (ps:=["self","cells","word"]) (ks:=[]) (g:=dP []) lr O (λ_ _ _ _ _ _ us ws hl=>(by have hl':us.length=3:=(by have h:=hl;unfold dP at h;rw[Xah] at h;have h2:(["self","cells","word"]:List Str).length=3:=rfl;simp only[Xar,XaU] at h;omega);exact(by apply ln3 us hl';intro _ _ _;exact{_,O,O}))) (Vals.dP (show Vals ([]:List V) ([]:List Value) from .nil)))
 have py:FnOk l.prog w K mg base CX0 3 aJ _ ["self","words"] (spMkFH af):=zdy (C:=af) dA T N aC aG aH
 have pz:Mak l.prog w K mg base 3 "Fixed" af [] (dP []) (spMkFH af):=zcN (mo kQ) lx lz lA ly py (dA.kbinds (ps:=["self","words"]) (ks:=[]) (g:=dP []) (λ_ _ _ _ _ _ us ws hl=>(by have hl':us.length=2:=(by have h:=hl;unfold dP at h;rw[Xah] at h;have h2:(["self","words"]:List Str).length=2:=rfl;simp only[Xar,XaU] at h;omega);exact(by apply ln2 us hl';intro _ _;exact O))) (Vals.dP (show Vals ([]:List V) ([]:List Value) from .nil)))
 have fq:FnOk l.prog w K mg base CX0 3 aK _ ["self","word"] (spMk1H ac "latch"):=zdx (C:=ac) bp T aw aG aH
 have pA:Mak l.prog w K mg base 3 "Latch" ac [] (dP []) (spMk1H ac "latch"):=zcN (mo bo) dB dD dF dC fq (bp.kbinds (ps:=["self","word"]) (ks:=[]) (g:=dP []) dE O (λ_ _ _ _ _ _ us ws hl=>(by have hl':us.length=2:=(by have h:=hl;unfold dP at h;rw[Xah] at h;have h2:(["self","word"]:List Str).length=2:=rfl;simp only[Xar,XaU] at h;omega);exact(by apply ln2 us hl';intro _ _;exact{_,O,O}))) (Vals.dP (show Vals ([]:List V) ([]:List Value) from .nil)))
 have pB:Mak l.prog w K mg base 3 "Latch" ac [] (dP [.int 0]) (spMk1H ac "latch"):=zcN (mo bo) dB dD dF dC fq (bp.kbinds (ps:=["self","word"]) (ks:=[]) (g:=dP [.int 0 a7]) dE O (λ_ _ _ _ _ _ us ws hl=>(by have hl':us.length=1:=(by have h:=hl;unfold dP at h;rw[Xah] at h;have h2:(["self","word"]:List Str).length=2:=rfl;simp only[Xar,XaU] at h;omega);exact(by apply ln1 us hl';intro _;exact{_,O,O}))) (Vals.dP (show Vals [V.int 0] [Value.int 0 a7] from .cons {_,O} .nil)))
 have pC:FnOk l.prog w K mg base CX0 3 aL _ ["self","word"] (spMk1H ag "meter"):=zdw (C:=ag) dG T aD aG aH
 have pD:Mak l.prog w K mg base 3 "Meter" ag [] (dP []) (spMk1H ag "meter"):=zcN (mo k6) lB lD lF lC pC (dG.kbinds (ps:=["self","word"]) (ks:=[]) (g:=dP []) lE O (λ_ _ _ _ _ _ us ws hl=>(by have hl':us.length=2:=(by have h:=hl;unfold dP at h;rw[Xah] at h;have h2:(["self","word"]:List Str).length=2:=rfl;simp only[Xar,XaU] at h;omega);exact(by apply ln2 us hl';intro _ _;exact{_,O,O}))) (Vals.dP (show Vals ([]:List V) ([]:List Value) from .nil)))
 have pE:FnOk l.prog w K mg base CX0 3 aM _ ["self","room"] (spMkP ah):=zd4 (C:=ah) dH T N aE bA o5 aH
 have pF:Mak l.prog w K mg base 3 "Pipe" ah [] (dP []) (spMkP ah):=zcN (mo k9) lG lI lK lH pE (dH.kbinds (ps:=["self","room"]) (ks:=[]) (g:=dP []) lJ O (λ_ _ _ _ _ _ us ws hl=>(by have hl':us.length=2:=(by have h:=hl;unfold dP at h;rw[Xah] at h;have h2:(["self","room"]:List Str).length=2:=rfl;simp only[Xar,XaU] at h;omega);exact(by apply ln2 us hl';intro _ _;exact{_,O,O}))) (Vals.dP (show Vals ([]:List V) ([]:List Value) from .nil)))
 have MS:∀kd,kd<5->Mth l.prog w K mg base 1 ((csOf ae af ac ag ah) kd) "state" [] (λvs _=>vs) (spState ((csOf ae af ac ag ah) kd)):=λkd h=>by
  rcases(show kd=0\/kd=1\/kd=2\/kd=3\/kd=4 by omega) with rfl|rfl|rfl|rfl|rfl
  .exact o7
  .exact pb
  .exact pd
  .exact pf
  .exact pk
 have ML:∀kd,kd<5->Mth l.prog w K mg base 1 ((csOf ae af ac ag ah) kd) "__len__" [] (λvs _=>vs) (spLen ((csOf ae af ac ag ah) kd) (lenK kd)):=λkd h=>by
  rcases(show kd=0\/kd=1\/kd=2\/kd=3\/kd=4 by omega) with rfl|rfl|rfl|rfl|rfl
  .exact o6
  .exact o8
  .exact pc
  .exact pe
  .exact ph
 have pG:=cm (zhB (cs:=(csOf ae af ac ag ah)) dI T oP (mo bo) (zkE lP) (λe=>.ins e aw.cl lL lM lN lO) ML) (mo lQ) dI.kp (by walk_at"bd")
 have pH:=cm (zgw (cs:=(csOf ae af ac ag ah)) dJ T N ax oS pG) (mo lR) dJ.kp (by walk_at"bd")
 have pI:=cm (zeY dL T oX) (mo lS) dL.kp (by walk_at"bd")
 have fu:FnOk l.prog w K mg base CX0 7 aN _ ["self","bits","rows","chips","floating"] (spInitB ad (csOf ae af ac ag ah)):=zdA (C:=ad) bq T (mn zS) aj pH pI oY
 have pJ:Mak l.prog w K mg base 7 "Board" ad [] (dP [.int 0]) (spInitB ad (csOf ae af ac ag ah)):=zcN (mo dM) dN dQ dS dO fu (bq.kbinds (ps:=["self","bits","rows","chips","floating"]) (ks:=[]) (g:=dP [.int 0 a8]) dR O (λ_ _ _ _ _ _ us ws hl=>(by have hl':us.length=4:=(by have h:=hl;unfold dP at h;rw[Xah] at h;have h2:(["self","bits","rows","chips","floating"]:List Str).length=5:=rfl;simp only[Xar,XaU] at h;omega);exact(by apply ln4 us hl';intro _ _ _ _;exact{_,O,O}))) (Vals.dP (show Vals [V.int 0] [Value.int 0 a8] from .cons {_,O} .nil)))
 have pK:Mak l.prog w K mg base 7 "Board" ad [] (dP []) (spInitB ad (csOf ae af ac ag ah)):=zcN (mo dM) dN dQ dS dO fu (bq.kbinds (ps:=["self","bits","rows","chips","floating"]) (ks:=[]) (g:=dP []) dR O (λ_ _ _ _ _ _ us ws hl=>(by have hl':us.length=5:=(by have h:=hl;unfold dP at h;rw[Xah] at h;have h2:(["self","bits","rows","chips","floating"]:List Str).length=5:=rfl;simp only[Xar,XaU] at h;omega);exact(by apply ln5 us hl';intro _ _ _ _ _;exact{_,O,O}))) (Vals.dP (show Vals ([]:List V) ([]:List Value) from .nil)))
 have pL:FnOk l.prog w K mg base CX0 1 aO _ ["self","mask","want","kind"] (spWtI K ai):=zdu (C:=ai) dW T dU
 have pM:Mak l.prog w K mg base 1 "Watch" ai [] (dP []) (spWtI K ai):=zcN (mo lT) lU lW lX lV pL (dW.kbinds (ps:=["self","mask","want","kind"]) (ks:=[]) (g:=dP []) (λ_ _ _ _ _ _ us ws hl=>(by have hl':us.length=4:=(by have h:=hl;unfold dP at h;rw[Xah] at h;have h2:(["self","mask","want","kind"]:List Str).length=4:=rfl;simp only[Xar,XaU] at h;omega);exact(by apply ln4 us hl';intro _ _ _ _;exact O))) (Vals.dP (show Vals ([]:List V) ([]:List Value) from .nil)))
 have pN:=mm aj.cls lY lZ dX.kp (zd6 (C:=ad) dX T aj ax fk) (by walk_at"bd")
 have pO:FnOk l.prog w K mg base CX0 4 aP _ ["self","mask","want","kind"] (spWatchC ad ai):=ze0 (C:=ad) (CW:=ai) br T N aj pN pM
 have pP:Mth l.prog w K mg base 4 ad "watch" [] (dP [.str "both"]) (spWatchC ad ai):=zjd aj.cls l6 l8 br.kp pO (br.kbinds (ps:=["self","mask","want","kind"]) (ks:=[]) (g:=dP [.str "both" bc]) l7 O (λ_ _ _ _ _ _ us ws hl=>(by have hl':us.length=3:=(by have h:=hl;unfold dP at h;rw[Xah] at h;have h2:(["self","mask","want","kind"]:List Str).length=4:=rfl;simp only[Xar,XaU] at h;omega);exact(by apply ln3 us hl';intro _ _ _;exact{_,O,O}))) (Vals.dP (show Vals [V.str "both"] [Value.str "both" bc] from .cons {_,O} .nil)))
 have pQ:=mm aj.cls l9 me dY.kp (zcv (C:=ad) (CW:=ai) dY T aj) (by walk_at"bd")
 have pR:=mm aj.cls mf mh dZ.kp (zfB (C:=ad) (CW:=ai) dZ T aj dU pQ) (by walk_at"bd")
 have pS:=mm aj.cls mi mj d6.kp (zep (C:=ad) d6 T aj) (by walk_at"bd")
 have pT:=mm aj.cls ml mq d7.kp (zdz (C:=ad) d7 T aj) (by walk_at"bd")
 have fv:=cm (zeZ d8 T) (mo mr) d8.kp (by walk_at"bd")
 have pU:=cm (zfu d9 T N fv) (mo mv) d9.kp (by walk_at"bd")
 have fw:=cm (zku eh T N fv) (mo mw) eh.kp (by walk_at"bd")
 have pV:=cm (zgs eE T fw) (mo my) eE.kp (by walk_at"bd")
 have pW:=cm (zgt eF T N pU pV fw) (mo mz) eF.kp (by walk_at"bd")
 have sk:∀es:Array DictEntry,es.toList.all (λe=>match e.key with|.str _ _=>true|_=>false)=true->StrKeys es:=λes h e he=>strKey (XaN.mp h e (Xbq.mpr he))
 have xc:XCls K aa:={{_,_,_,_,xl},c1_,c2_,c3_,c4_,c5_}
 have GS:SupI K mg "BusError" := {{am,mo eJ,s1_,s2_,s3_}}
 have fz:ExcI K aa av:={{_,_,_,_,_,_,_,_,_,_,_,_,_,_,_,xl,{_,_,_,_,_,xn,sk _ xs,mF},.own yl {_,_,_,_,_,yn,sk _ ys,yi} .base},xa}
 have pX:XIni l.prog w K mg base 1 "BadRow" aa (spBrI aa):=by
  obtain⟨oI,h1,h2⟩:=zjs mH
  exact{mo eG,av,_,_,oI,fz,⟨h1,h2⟩,zdb mG T GS fz mB mC,(by walk_at"bd")}
 have DP:DicT l.prog w K a_P (kvsP (prtQ aQ aR aS aT aU aV)):=zlX (q:=(prtQ aQ aR aS aT aU aV)) s_P l_P mI mJ mL mM mP mQ mS mT mV mW mY mZ
 have QP:=prts_q (K:=K) mK mO mR mU mX m3
 have pY:=cm (zi9 eK T pW (mo g_P) DP QP) (mo m6) eK.kp (by walk_at"bd")
 have fA:FnOk l.prog w K mg base (CX1 l.prog w) 6 aW _ ["text"] (spDeeds53 aa):=zhD (CB:=aa) bu T pY pX
 have pZ:CalX l.prog w K mg base 6 "deeds_of" ["text"] (spDeeds53 aa):={aW,_,fA,mo eN,bu.kp,(by walk_at"bd")}
 have qa:=fA.calm
 have qv:=zf2 qa (mo eN) bu.kp (by walk_at"bd")
 have fB:FnOk l.prog w K mg base (CX1 l.prog w) 7 aX _ ["board","text"] (spRun53 aa):=okrun (CB:=aa) bv T pZ
 have qb:CalX l.prog w K mg base 7 "run" ["board","text"] (spRun53 aa):={aX,_,fB,mo eO,bv.kp,(by walk_at"bd")}
 have qc:=fB.calm
 have qw:=zf2 qc (mo eO) bv.kp (by walk_at"bd")
 have qd:=cm (zhG eQ T) (mo nA) eQ.kp (by walk_at"bd")
 have al:=cm (zgA eS T) (mo nB) eS.kp (by walk_at"bd")
 have qf:Cal l.prog w K mg base 0 "_law_same" ["found","due"] (λ_ _ _ _=>False):={bi,cL,{λ_ _ _ _ h=>h.elim,λ_ _ _ _ _ _ _ _ _ _ _ _ _ h=>h.elim},mo bx,aF.kp,(by walk_at"bd")}
 have qg:Cal l.prog w K mg base 1 "_law_same" ["found","due"] (spSameL 0):=zf2 (zd3 aF T qf (λk e=>by cases e<;>rfl)) (mo bx) aF.kp (by walk_at"bd")
 have fD:Cal l.prog w K mg base 2 "_law_same" ["found","due"] (spSameL 1):=zf2 (zd3 aF T qg (λk e=>by cases e<;>rfl)) (mo bx) aF.kp (by walk_at"bd")
 have fE:=cm (zgy eU T) (mo nD) eU.kp (by walk_at"bd")
 have qh:=cm (zhF eX T al fE) (mo nE) eX.kp (by walk_at"bd")
 have qi:=cm (zen e7 T al fE) (mo nF) e7.kp (by walk_at"bd")
 have qj:=cm (zgx e8 T al qh qi) (mo nG) e8.kp (by walk_at"bd")
 have ql:=cm (zgB (cs:=(csOf ae af ac ag ah)) fb T al pz pF pA pD pr) (mo nH) fb.kp (by walk_at"bd")
 have qm:=cm (zfz (cs:=(csOf ae af ac ag ah)) fc T al ql pB) (mo nI) fc.kp (by walk_at"bd")
 have qo:=cm (zfA (C:=ad) (cs:=(csOf ae af ac ag ah)) fe T al qm qj pJ pK) (mo nJ) fe.kp (by walk_at"bd")
 have qp:=cm (zem (CB:=aa) ff T qb (mo eJ) m6_) (mo nK) ff.kp (by walk_at"bd")
 have qq:=cm (zhH fg T al) (mo nN) fg.kp (by walk_at"bd")
 have qr:=cm (zgz fh T al) (mo nP) fh.kp (by walk_at"bd")
 have qt:=cm (zfy (CB:=aa) fj T (mn zV) al qq qr qp fD (mo eG) (mo m7) (mo m8) (mo m9) (mo ng) (mo nj) (mo nk) (mo nr) (mo nu) (mo nv) (mo nz) xc xh mD mE m2_ m3_ m4_) (mo nQ) fj.kp (by walk_at"bd")
 exact oklaw (C:=ad) (CW:=ai) (cs:=(csOf ae af ac ag ah)) oM T qd qo qt fD pP pR pS pT MS
def walk{l:W.OpenLaw}{q:Program}{loose:List Str}{XP:(Str->Option Value)->Heap->Prop}{YP:World->Heap->Prop}{d:DefRec}{K:Params->W.Frag}(hn:l.most=some 63)(hdf:d.params.defaults=[])
  (hY:∀(w:World) (h:Heap),YP w h->(K w.params).In h)
  (F:∀(w:World) (mg:Str->Option Value) (fa:Addr) (h:Heap),(K w.params).In h->h.Ns mainGlobals mg->mg d.name=some (.ref fa) ->
   ∃fd:FuncData,(∀(s:Shared) (u:Value),BindsTo s fd {[u],[]} [("script",u)])/\∀base:Heap,(K w.params).In base->base.Ns mainGlobals mg->FnOk l.prog w (K w.params) mg base CX0 10 fa fd ["script"] (spLaw (K w.params))) :
  W.WalkO q loose XP YP l.row.toRowW d [] (λf vs=>PySem.call f vs):=
 L2.walk_ofB (n:=63) (k:=10) (x := "script") (CX:=λ_=>CX0) (sp:=λw=>spLaw (K w.params)) hn (by decide) hdf {O,by decide,by decide,O} hY F (λ_ _ a ns hl hb _ hS=>{a,ns,O,hS,hl,hb,λ_=>O}) λ_ _ _ _ _ z=>z
end Cb
open PySem PySem.W PyProof.Rows Cb L2
local macro_rules|`(tactic| walk_at"fm")=>`(tactic| (refine' zlr ?l ?c ?k;(case l=>k_is);(case c=>k_is);(case k=>k_is)))
local macro_rules|`(tactic| walk_at"fd")=>`(tactic| (refine' zmu ?l ?c ?k;(case l=>k_is);(case c=>k_is);(case k=>k_is)))
local macro_rules|`(tactic| walk_at"na")=>`(tactic| (show W.findIn _ _ _=_;k_is))
local macro_rules|`(tactic| walk_at"nr")=>`(tactic| (show W.nsIn _ _ _=some (some _);k_is))
local macro_rules|`(tactic| walk_at"nf")=>`(tactic| (show W.findIn _ _ _=some (some _);k_is))
local macro_rules|`(tactic| walk_at"ni")=>`(tactic| (show W.isFn _ _=true;k_is))
local macro_rules|`(tactic| walk_at"cs")=>`(tactic| exact{by k_is,by k_is,by k_is,by k_is})
local macro_rules|`(tactic| walk_at"cl")=>`(tactic| exact{by walk_at"cs",by walk_at"na",by walk_at"na",by walk_at"na"})
local macro_rules|`(tactic| walk_at"cb")=>`(tactic| exact{by walk_at"cs",by walk_at"na",by walk_at"na",by walk_at"na",by walk_at"na",by walk_at"na",by walk_at"na",by walk_at"na"})
local macro_rules|`(tactic| walk_at"cw")=>`(tactic| exact{by walk_at"cs",by walk_at"na",by walk_at"na",by walk_at"na",by walk_at"na"})
local macro_rules|`(tactic| walk_at"cv")=>`(tactic| exact{by walk_at"cs",by walk_at"na",by walk_at"na",by walk_at"na",by walk_at"na",by walk_at"na",by walk_at"na"})
set_option maxRecDepth 1000000 in
set_option maxHeartbeats 0 in
theorem PySem.Challenge.cw_chipbus_k53_bad_rows_holds : PySem.Challenge.rw_chipbus_k53_bad_rows.Holds := by
 refine Hd.top ?_
 k_fill
 refine Cb.walk (l:=PySem.Challenge.rw_chipbus_k53_bad_rows) O O (λw h Y=>PySem.W.kIn_of Y) ?F
 case F =>
  intro w mg fa h KX G hmg
  refine' Cb.all_mk KX G hmg ?_ ?_ ?_ ?_ ?_ ?_ ?_ ?_ ?_ ?_ ?_ ?_ ?_ ?_ ?_ ?_ ?_ ?_ ?_ ?_ ?_ ?_ ?_ ?_ ?_ ?_ ?_ ?_ ?_ ?_ ?_ ?_ ?_ ?_ ?_ ?_ ?_ ?_ ?_ ?_ ?_ ?_ ?_ ?_ ?_ ?_ ?_ ?_ ?_ ?_ ?_ ?_ ?_ ?_ ?_ ?_ ?_ ?_ ?_ ?_ ?_ ?_ ?_ ?_ ?_ ?_ ?_ ?_ ?_ ?_ ?_ ?_ ?_ ?_ ?_ ?_ ?_ ?_ ?_ ?_ ?_ ?_ ?_ ?_ ?_ ?_ ?_ ?_ ?_ ?_ ?_ ?_ ?_ ?_ ?_ ?_ ?_ ?_ ?_ ?_ ?_ ?_ ?_ ?_ ?_ ?_ ?_ ?_ ?_ ?_ ?_ ?_ ?_ ?_ ?_ ?_ ?_ ?_ ?_ ?_ ?_ ?_ ?_ ?_ ?_ ?_ ?_ ?_ ?_ ?_ ?_ ?_ ?_ ?_ ?_ ?_ ?_ ?_ ?_ ?_ ?_ ?_ ?_ ?_ ?_ ?_ ?_ ?_ ?_ ?_ ?_ ?_ ?_ ?_ ?_ ?_ ?_ ?_ ?_ ?_ ?_ ?_ ?_ ?_ ?_ ?_ ?_ ?_ ?_ ?_ ?_ ?_ ?_ ?_ ?_ ?_ ?_ ?_ ?_ ?_ ?_ ?_ ?_ ?_ ?_ ?_ ?_ ?_ ?_ ?_ ?_ ?_ ?_ ?_ ?_ ?_ ?_ ?_ ?_ ?_ ?_ ?_ ?_ ?_ ?_ ?_ ?_ ?_ ?_ ?_ ?_ ?_ ?_ ?_ ?_ ?_ ?_ ?_ ?_ ?_ ?_ ?_ ?_ ?_ ?_ ?_ ?_ ?_ ?_ ?_ ?_ ?_ ?_ ?_ ?_ ?_ ?_ ?_ ?_ ?_ ?_ ?_ ?_ ?_ ?_ ?_ ?_ ?_ ?_ ?_ ?_ ?_ ?_ ?_ ?_ ?_ ?_ ?_ ?_ ?_ ?_ ?_ ?_ ?_ ?_ ?_ ?_ ?_ ?_ ?_ ?_ ?_ ?_ ?_ ?_
  all_goals first|walk_at"nr" | walk_at"fm" | walk_at"cl" | walk_at"nf" | walk_at"ni" | walk_at"fd" | walk_at"cb" | walk_at"cw" | k_is|rfl|(intro _;rfl)|skip
#print axioms PySem.Challenge.cw_chipbus_k53_bad_rows_holds
