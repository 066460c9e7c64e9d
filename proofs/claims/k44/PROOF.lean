import PyProof.Rows.All
import Wide.All
import OpenK.AllK
import Wide.FinOn
import Lean
import PyProof.EqAt
import PyProof.EqKinds
import PyProof.TupleCall
import PyProof.NeKinds
import PyProof.DelItemList
import PyProof.StationsW
import PyProof.Rows.Own
import PyProof.RulesDel
import PyProof.RulesAs
import PyProof.ExcBaseAll.ValueError
import KE.KTryMore
import PyProof.ExcArgs
import KE.KIsAll
import PyProof.ListRange
import PyProof.Rows.RuleM_int
import PyProof.Draws
import PyProof.EnumMake
import KE.KDictSum
import KE.KItemsList
import KE.KSortTup
import PyProof.MinMaxWalk
import PyProof.WalkInts
import PyProof.CallTypeRange
import KE.KEqDict
import PyProof.FitsInt
import PyProof.Rows.StrNews
import KE.KIntText
import PyProof.StrWalks
import PyProof.Rows.StrRules
import KE.KUnpackStar
import PyProof.StrLawsTight
import PyProof.StrLawsChain
import PyProof.Rows.StrClose
import PyProof.SetRoads
import PyProof.DictCompW
import PyProof.ReprRoads
import PyProof.ReprLen
import PyProof.AttrMissHeap
import KE.KDictOf
import PyProof.DictWalks
import PyProof.SeqI3
import PySem.Challenge.RW_chipbus_k44_whole_turned_about
set_option linter.all false
def O:=@rfl
local macro_rules(kind:=«term{_}»)|`({$xs,*})=>`(⟨$xs,*⟩)
set_option genSizeOf false
set_option bootstrap.genMatcherCode false
set_option tactic.hygienic false
section
open PySem PySem.W PySem.Spec PyProof.Rows
def Xaa:=@wpAny_bind
def Xab:=@Heap.get?_push_of_some
def Xac:=@wpAny_pure
def Xad:=@List.mem_singleton
def Xae:=@Nat.le_refl
def Xaf:=@List.getElem?_eq_some_iff
def Xag:=@List.length_map
def Xah:=@List.getElem?_eq_getElem
def Xai:=@Heap.get?_push_size
def Xaj:=@Nat.lt_of_lt_of_le
def Xak:=@decide_eq_true
def Xal:=@Bool.false_ne_true
def Xam:=@List.length_append
def Xan:=@decide_eq_false
def Xao:=@List.getElem?_map
def Xap:=@Heap.lt_size
def Xaq:=@List.size_toArray
def Xar:=@Nat.le_trans
def Xas:=@List.mem_of_getElem?
def Xat:=@wpAny_mono
def Xau:=@List.mem_cons
def Xav:=@Int.toNat_natCast
def Xaw:=@List.length_cons
def Xax:=@Option.map_eq_some_iff
def Xay:=@List.mem_cons_self
def Xaz:=@Nat.ne_of_lt
def XaA:=@List.mem_cons_of_mem
def XaB:=@List.mem_append_right
def XaC:=@List.mem_map
def XaD:=@List.map_append
def XaE:=@List.pairwise_iff_getElem
def XaF:=@List.map_cons
def XaG:=@List.getElem?_eq_none
def XaH:=@List.length_range
def XaI:=@List.mem_append
def XaJ:=@Nat.testBit_and
def XaK:=@of_decide_eq_true
def XaL:=@Heap.size_push
def XaM:=@Heap.get?_update_self
def XaN:=@Array.getElem?_eq_getElem
def XaO:=@wpAny_newObj_type
def XaP:=@Nat.lt_of_le_of_lt
def XaQ:=@wpAny_field
def XaR:=@wpAny_holding
def XaS:=@Heap.get?_update_other
def XaT:=@Nat.pow_le_pow_right
def XaU:=@List.mem_range
def XaV:=@List.length_drop
def XaW:=@wpAny_call_entry
def XaX:=@wpAny_truthy_bool
def XaY:=@Nat.lt_irrefl
def XaZ:=@List.length_nil
def Xa0:=@Bool.and_eq_true
def Xa1:=@wpAny_askSetting
def Xa2:=@List.nodup_append
def Xa3:=@wpAny_standAt
def Xa4:=@wpAny_setField
def Xa5:=@List.map_map
def Xa6:=@List.length_take
def Xa7:=@List.take_of_length_le
def Xa8:=@List.getElem_map
def Xa9:=@List.replicate_succ
def Xba:=@List.findIdx?_eq_some_iff_getElem
def Xbb:=@Nat.lt_succ_self
def Xbc:=@List.mem_nil_iff
def Xbd:=@Nat.testBit_succ
def Xbe:=@List.getElem_mem
def Xbf:=@Nat.mod_two_eq_zero_or_one
def Xbg:=@List.nodup_nil
def Xbh:=@wpAny_setState_of
def Xbi:=@Array.getElem?_toList
def Xbj:=@Nat.pow_succ
def Xbk:=@Nat.and_le_right
def Xbl:=@wpAny_seqItems
def Xbm:=@List.append_nil
def Xbn:=@Nat.not_lt_zero
def Xbo:=@Nat.two_pow_pos
def Xbp:=@List.getElem?_append_right
def Xbq:=@List.getD_eq_getElem?_getD
def Xbr:=@List.mem_iff_getElem?
def Xbs:=@Int.emod_lt_of_pos
def Xbt:=@List.getElem?_append_left
def Xbu:=@Nat.le_succ
def Xbv:=@codeAny_mono
def Xbw:=@Nat.mod_lt
def Xbx:=@List.map_congr_left
def Xby:=@Nat.testBit_two_pow
def Xbz:=@decide_eq_decide
def XbA:=@Nat.ne_of_gt
def XbB:=@wpAny_passesOwn
def XbC:=@List.length_replicate
def XbD:=@List.length_set
def XbE:=@Int.emod_nonneg
def XbF:=@Array.getElem?_eq_some_iff
def XbG:=@Nat.lt_of_succ_lt
def XbH:=@Heap.get?_none_of_le
def XbI:=@List.mem_append_left
def XbJ:=@wpAny_call
def XbK:=@wpAny_rule
def XbL:=@List.findIdx?_eq_none_iff
def XbM:=@Bool.and_false
def XbN:=@Nat.le_of_lt
def XbO:=@Nat.lt_trans
def XbP:=@wpAny_comprehension_free
def XbQ:=@List.all_eq_true
def XbR:=@List.getElem?_range
def XbS:=@wpAny_pyIter_tuple
def XbT:=@Bool.eq_iff_iff
def XbU:=@wpAny_Call_Name_kw
def XbV:=@List.nodup_cons
def XbW:=@wpAny_setField_rec
end
set_option Elab.async false
set_option linter.all false
set_option maxRecDepth 100000
set_option maxHeartbeats 4000000
local macro_rules|`(tactic| omega)=>`(tactic| lia)
section
set_option maxRecDepth 1000000
set_option maxHeartbeats 0
namespace Hd
open PySem PySem.W
noncomputable def runQ(p:Program)(w:World)(n₀:Nat)(ann:Option Value)(N:Nat):SharedT->Thread->Option SharedT:=
 @Nat.rec (λ_=>SharedT->Thread->Option SharedT) (λ_ _=>none) (λ_ ih s t=>match through t with
  | true=>some s
  | false=>match Fast.tw6613529449190102663 n₀ ann t with
   | false=>none
   | true=>match Fast.tw10156331382660048174 (Fast.tw11892475500146522536 Fast.tw14364793385576792824) p w s t with
    | some (s',t')=>ih s' t'
    | none=>none) N
def zlw{p:Program}{w:World}{n₀:Nat}{ann:Option Value}:∀{N:Nat} {s s':SharedT} {t:Thread},runQ p w n₀ ann N s t=some s'->topRun treeTable p w n₀ ann N s.abs t=some s'.abs
 | 0,s,s',t,h=>by cases h
 | N+1,s,s',t,h=>by
  have h:(match through t with
  | true=>some s
  | false=>match Fast.tw6613529449190102663 n₀ ann t with
   | false=>none
   | true=>match Fast.tw10156331382660048174 (Fast.tw11892475500146522536 Fast.tw14364793385576792824) p w s t with
    | some (s',t')=>runQ p w n₀ ann N s' t'
    | none=>none)=some s':=h
  rw[<- Fast.te6613529449190102663,<- Fast.te10156331382660048174,<- Fast.te11892475500146522536,<- Fast.te14364793385576792824] at h
  unfold topRun
  cases ht:through t with
  | true=>rw[ht] at h;cases h;rfl
  | false =>
   rw[ht] at h
   cases hk:stepOk n₀ ann t with
   | false=>rw[hk] at h;cases h
   | true =>
    rw[hk] at h
    cases hs:stepT (denote treeTable) p w s t with
    | none=>rw[hs] at h;cases h
    | some r=>obtain⟨s₂,t₂⟩:=r;rw[hs] at h;dsimp only;rw[stepT_spec hs];exact zlw h
noncomputable def treeL:List Obj->Nat->BT->BT:=@List.rec Obj (λ_=>Nat->BT->BT) (λ_ t=>t) (λo _ ih n t=>ih (n+1) (t.ins n o))
noncomputable def zmV(P:Params):BT:=treeL (boot_heap P).objs.toList 0 .nil
def zlk(P:Params):absHeap (zmV P) 11 (boot_heap P).life=boot_heap P:=by kernel_rfl
def zka(P:Params):((boot_heap P).isNs mainGlobals&&(Array.mk []:Array GenState).size==0,(boot_heap P).objs.size,(boot_heap P).nsMap mainGlobals "__annotations__")=(true,11,some (.ref 6)):=by kernel_rfl
noncomputable def zfD(P:Params)(os:OsState):SharedT:={zmV P,11,(boot_heap P).life,Array.mk [],boot_drawn,boot_toks,os}
noncomputable def getT(s:SharedT)(a:Addr):Option Obj:=match Nat.blt a s.n with
 | true=>match s.tree.get a with
  | some o=>alive o
  | none=>none
 | false=>none
def zmN{s:SharedT}{a:Addr}{o:Obj}(h:getT s a=some o):s.abs.heap.get? a=some o:=by
 unfold getT at h
 cases e:Nat.blt a s.n with
 | false=>rw[e] at h;cases h
 | true =>
  rw[e] at h
  cases g:s.tree.get a with
  | none=>rw[g] at h;cases h
  | some x=>rw[g] at h;exact(abs_get (Nat.le_of_ble_eq_true e) g).trans h
def zhN{s:SharedT}:∀{as:List Addr} {L:List (Nat×Obj)},as.map (getT s)=L.map (λp=>some p.2)->as.map s.abs.heap.get?=L.map (λp=>some p.2)
 | [],[],_=>rfl
 | [],_::_,h=>by cases h
 | _::_,[],h=>by cases h
 | a::as,p::L,h=>by
  obtain⟨h1,h2⟩:=List.cons.inj h
  exact List.cons_eq_cons.mpr {zmN h1,zhN h2}
abbrev zhX(p q:Program)(loose:List Str)(Xt:Shared->Bool)(N:Nat)(g0:Bool)(w:World)(os:OsState):Prop:=(runQ p w 11 (some (.ref 6)) N (zfD w.params os) (topStub p)).map (λs =>
   ((staticsOk (importedModules p.main.body) (boot_heap w.params) s.abs.heap&&namesBound p s.abs.heap&&gensDone s.abs&&laidKept (boot_heap w.params) s.abs.heap),openSeen q loose (importedModules p.main.body) Xt g0 s.abs))=some (true,openGood q loose)
def zlX(p q:Program)(loose:List Str)(Xt:Shared->Bool)(N:Nat)(g0:Bool):Prop:=∀(w:World) (os:OsState),zhX p q loose Xt N g0 w os
def SeenF(row:String)(b:Bool)(p q:Program)(loose:List Str)(Xt:Shared->Bool)(N:Nat)(g0:Bool):Prop:=∀(w:World) (os:OsState),zhX p q loose Xt N g0 (w.withFollow row b) os
def zhh{p q:Program}{loose:List Str}{Xt:Shared->Bool}{K:Params->Frag}{as:List Addr}{ex:∀P,as=(K P).map (·.1)}{N:Nat}{g0:Bool}{w:World}(h:∀os,zhX p q loose Xt N g0 w os)(e:opening p=plainProg p.main.scope.names)(f:∀s,fenceModules? p s=some s)(hN:Nat.ble 600 N=true)
  (hK:∀os:OsState,(runQ p w 11 (some (.ref 6)) N (zfD w.params os) (topStub p)).map (λs=>as.map (getT s))=some ((K w.params).map λp=>some p.2)) :
  (openEnds treeTable p w N).map (λs=>(openSeen q loose (importedModules p.main.body) Xt g0 s,(kHook K as ex).obs s))=some (openGood q loose,(kHook K as ex).val w):=by
 have ho:=boot_open e hN f w
 obtain⟨⟨hh,gs,d,k,os⟩,e1,e2⟩:=Xax.mp ho
 obtain⟨rfl,rfl,rfl,rfl⟩:hh=boot_heap w.params/\gs=Array.mk []/\d=boot_drawn/\k=boot_toks:=by simpa using e2
 obtain⟨z1,z2,z3⟩:_/\_/\_:=by simpa only[Prod.mk.injEq] using zka w.params
 obtain⟨s,r,l⟩:=Xax.mp (h os)
 obtain⟨s',r',l'⟩:=Xax.mp (hK os)
 rw[r] at r'
 cases r'
 have l3:=zhN l'
 obtain⟨l1,l2⟩:_/\_:=by simpa only[Prod.mk.injEq] using l
 have r:=zlw r
 have ea:(zfD w.params os).abs=⟨boot_heap w.params,Array.mk [],boot_drawn,boot_toks,os⟩:=by
  show({absHeap (zmV w.params) 11 (boot_heap w.params).life,Array.mk [],boot_drawn,boot_toks,os}:Shared)=_
  rw[zlk]
 rw[ea] at r
 have t:topFrom treeTable p w N ⟨boot_heap w.params,Array.mk [],boot_drawn,boot_toks,os⟩=some s.abs:=by
  unfold topFrom
  dsimp only
  rw[z1,z2,z3,r]
  show(match staticsOk (importedModules p.main.body) (boot_heap w.params) s.abs.heap&&namesBound p s.abs.heap&&gensDone s.abs&&laidKept (boot_heap w.params) s.abs.heap with|true=>_|false=>_)=_
  rw[l1]
 unfold openEnds
 rw[e1]
 show(topFrom treeTable p w N _).map _=_
 rw[t]
 exact congrArg some (Prod.ext l2 l3)
open PySem.Calls PyProof.Rows in
abbrev G1(p q:Program)(N:Nat)(w:World)(os:OsState):Prop:=(runQ p w 11 (some (.ref 6)) N (zfD w.params os) (topStub p)).map (λs =>
   ((staticsOk (importedModules p.main.body) (boot_heap w.params) s.abs.heap&&namesBound p s.abs.heap&&gensDone s.abs&&laidKept (boot_heap w.params) s.abs.heap),seen ((recsOf q).map (·.name)) (ownsOf q) [] {s.abs with gens:=#[]}))=some (true,expectedOf q)
open PySem.Calls PyProof.Rows in
abbrev G2(p q:Program)(loose:List Str)(Xt:Shared->Bool)(N:Nat)(g0:Bool)(w:World)(os:OsState):Prop:=(runQ p w 11 (some (.ref 6)) N (zfD w.params os) (topStub p)).map (λs =>
   (s.abs.heap.bltView,s.abs.heap.keysOk (looseW q loose) ((recsOf q).map (·.name)) ((litsOf q).map (·.1)) ((clssOf q (looseW q loose)).map (·.name))&&s.abs.heap.accountedOkI (importedModules p.main.body)&&s.abs.heap.isNs mainGlobals&&s.abs.heap.isNs builtinsNs&&tablesOk q s.abs.heap&&Xt s.abs&&(if g0 then s.abs.gens.size==0 else !leftWithCleanup s.abs.gens),tabsOk q s.abs,pinSeenD q (drecsOf q) s.abs))=some (bltViewBooted,true,true,pinGoodD (drecsOf q))
open PySem.Calls PyProof.Rows in
abbrev G3(p q:Program)(loose:List Str)(N:Nat)(w:World)(os:OsState):Prop:=(runQ p w 11 (some (.ref 6)) N (zfD w.params os) (topStub p)).map (λs =>
   (plainSeenE q (looseW q loose) s.abs,plainSeenD q loose s.abs,wideSeen q s.abs,clsSeenW q loose s.abs))=some (plainGoodE q (looseW q loose),plainGoodD q loose,wideGood q,clsGoodW q loose)
def nine{α A B C D E F G H I J:Type}{o:Option α}{f:α->A}{g:α->B}{f1:α->C}{f2:α->D}{f3:α->E}{f4:α->F}{f5:α->G}{f6:α->H}{f7:α->I}{f8:α->J}{a:A}{b:B}{c:C}{d:D}{e:E}{i:F}{j:G}{k:H}{l:I}{m:J}(h:o.map (λs=>(f s,g s))=some (a,b))(h':o.map (λs=>(f1 s,f2 s,f3 s,f4 s))=some (c,d,e,i))(h'':o.map (λs=>(f5 s,f6 s,f7 s,f8 s))=some (j,k,l,m)) :
  o.map (λs=>(f s,g s,f1 s,f2 s,f3 s,f4 s,f5 s,f6 s,f7 s,f8 s))=some (a,b,c,d,e,i,j,k,l,m):=by
 cases o with
 | none=>cases h
 | some s=>cases h;cases h';cases h'';rfl
def zmg{p q:Program}{loose:List Str}{Xt:Shared->Bool}{N:Nat}{g0:Bool}{w:World}{os:OsState}(h:G1 p q N w os)(h':G2 p q loose Xt N g0 w os)(h'':G3 p q loose N w os):zhX p q loose Xt N g0 w os:=nine h h' h''
def left_of{p q:Program}{loose:List Str}{Xt:Shared->Bool}{K:Params->Frag}{as:List Addr}{ex:∀P,as=(K P).map (·.1)}{N:Nat}{g0:Bool}(h:zlX p q loose Xt N g0)(e:opening p=plainProg p.main.scope.names)(f:∀s,fenceModules? p s=some s)(hN:Nat.ble 600 N=true)
  (hK:∀(w:World) (os:OsState),(runQ p w 11 (some (.ref 6)) N (zfD w.params os) (topStub p)).map (λs=>as.map (getT s))=some ((K w.params).map λp=>some p.2)) :
  LeftO p q loose Xt (kHook K as ex).obs (kHook K as ex).val N g0:=λw=>zhh (h w) e f hN (hK w)
def left_split{p q:Program}{loose:List Str}{Xt:Shared->Bool}{K:Params->Frag}{as:List Addr}{ex:∀P,as=(K P).map (·.1)}{N:Nat}{g0:Bool}(row:String)(h:SeenF row false p q loose Xt N g0)(h':SeenF row true p q loose Xt N g0)(e:opening p=plainProg p.main.scope.names)(f:∀s,fenceModules? p s=some s)(hN:Nat.ble 600 N=true)
  (hK:∀(w:World) (os:OsState),(runQ p (w.withFollow row false) 11 (some (.ref 6)) N (zfD (w.withFollow row false).params os) (topStub p)).map (λs=>as.map (getT s))=some ((K (w.withFollow row false).params).map λp=>some p.2))
  (hK':∀(w:World) (os:OsState),(runQ p (w.withFollow row true) 11 (some (.ref 6)) N (zfD (w.withFollow row true).params os) (topStub p)).map (λs=>as.map (getT s))=some ((K (w.withFollow row true).params).map λp=>some p.2)) :
  LeftO p q loose Xt (kHook K as ex).obs (kHook K as ex).val N g0:=λw=>by
 have z:=World.withFollow_self w row
 cases hb:w.params.followText row<;>rw[hb] at z
 .have:=zhh (ex:=ex) (h w) e f hN (hK w)
  rw[z] at this;exact this
 .have:=zhh (ex:=ex) (h' w) e f hN (hK' w)
  rw[z] at this;exact this
end Hd
end
section
set_option maxRecDepth 1000000
set_option maxHeartbeats 0
namespace Hd
open PySem PySem.W
def vw:Program:=PySem.W.view PySem.Challenge.pw_chipbus_k44_whole_turned_about [0,2,3,4,5,6,7,8,9,11,12,13,15,16,17,19,20,21,22,24,25,26,27,28,29,30,31,33,34,35,36,37,38,39,40,42,43,44,45,46,47,48,50,51,52,53,54,55,56,57,58,60,61,62,63,64,65,66,67,68,69,70,71,72,73,74,75,76,77,78,79,80]
def ls:List Str:=["Store","Latch","Meter","Pipe","Board"]
def g1:∀ (w:World) (os:OsState),G1 PySem.Challenge.rw_chipbus_k44_whole_turned_about.row.prog vw 12774 w os:=by
 intro w os
 kernel_rfl
def g2:∀ (w:World) (os:OsState),G2 PySem.Challenge.rw_chipbus_k44_whole_turned_about.row.prog vw ls (fun s=>xlAt vw [] s && recOk (RowW.records (OpenRow.toRowW (OpenLaw.row PySem.Challenge.rw_chipbus_k44_whole_turned_about))) s) 12774 true w os:=by
 intro w os
 kernel_rfl
def g3:∀ (w:World) (os:OsState),G3 PySem.Challenge.rw_chipbus_k44_whole_turned_about.row.prog vw ls 12774 w os:=by
 intro w os
 kernel_rfl
def h1:zlX PySem.Challenge.rw_chipbus_k44_whole_turned_about.row.prog vw ls (fun s=>xlAt vw [] s && recOk (RowW.records (OpenRow.toRowW (OpenLaw.row PySem.Challenge.rw_chipbus_k44_whole_turned_about))) s) 12774 true:=fun w os=>zmg (g1 w os) (g2 w os) (g3 w os)
end Hd
open PySem PySem.W in
local macro_rules | `(tactic| o_head $H)=>`(tactic| (
 refine holds_open (q:=Hd.vw) (loose:=Hd.ls) (Xt:=fun s=>xlAt Hd.vw [] s && recOk (RowW.records (OpenRow.toRowW (OpenLaw.row PySem.Challenge.rw_chipbus_k44_whole_turned_about))) s) (XP:=XL Hd.vw []) (Yf:=Hook.obs $H) (Ya:=Hook.val $H) (YP:=Hook.says $H) (N:=12774) ?hl (Hook.of $H) (Hook.keeps $H) (fun s e=>xl_of s (Bool.and_eq_true_iff.mp e).1) XL.keeps (by rfl) (by rfl) (by rfl) (fun s e=>recFacts_of (Bool.and_eq_true_iff.mp e).2) (by rfl) (by first | assumption | decide +kernel) (by decide +kernel) ⟨rfl,rfl,rfl,rfl,rfl,by decide +kernel⟩ ?hw ?hc
 (case hl=>refine Hd.left_of Hd.h1 (by kernel_rfl) (fun s=>by kernel_rfl) rfl ?h2;(case h2=>(intro w os;kernel_rfl)))))
open_top Hd.top for PySem.Challenge.rw_chipbus_k44_whole_turned_about
end
section
namespace L2
open PySem PySem.Spec PyProof.Rows
abbrev Key:=Sum Int Str
def zhi:Key->Value->Bool
 | .inl k,v=>Value.isInt k v
 | .inr x,v=>Value.isStrOf x v
def keyH(w:World):Key->Int
 | .inl k=>hashInt k
 | .inr x=>hashStr w x
def zaM:∀{k:Key} {v:Value},zhi k v=true->(∃i t,k=Sum.inl i/\v=Value.int i t)\/(∃x t,k=Sum.inr x/\v=Value.str x t)
 | .inl i,v,h=>by
  obtain⟨t,e⟩:=Value.isInt_shape (k:=i) (v:=v) h
  exact .inl ⟨i,t,O,e⟩
 | .inr x,v,h=>by
  obtain⟨t,e⟩:=Value.isStrOf_shape (x:=x) (v:=v) h
  exact .inr ⟨x,t,O,e⟩
def zjC(i:Int)(t:Tok):zhi (.inl i) (.int i t)=true:=by simp[zhi,Value.isInt]
def zjB(x:Str)(t:Tok):zhi (.inr x) (.str x t)=true:=by simp[zhi,Value.isStrOf]
def key_ll(a b:Int):decide ((Sum.inl a:Key)=Sum.inl b)=(a==b):=by
 by_cases e:a=b
 .subst e;simp
 .have h:¬ (Sum.inl a:Key)=Sum.inl b:=λq=>e (Sum.inl.inj q)
  rw[Xan h]
  exact(beq_eq_false_iff_ne.mpr e).symm
def key_rr(a b:Str):decide ((Sum.inr a:Key)=Sum.inr b)=decide (a=b):=by
 by_cases e:a=b
 .subst e;simp
 .have h:¬ (Sum.inr a:Key)=Sum.inr b:=λq=>e (Sum.inr.inj q)
  rw[Xan h,Xan e]
def key_lr(a:Int)(b:Str):decide ((Sum.inl a:Key)=Sum.inr b)=false:=Xan (λq=>nomatch q)
def key_rl(a:Str)(b:Int):decide ((Sum.inr a:Key)=Sum.inl b)=false:=Xan (λq=>nomatch q)
def zaH(prog:Program)(w:World):PySem.KeyKind prog w Key where
 is:=zhi
 hash:=keyH w
 inj:=λv a b ha hb=>by
  rcases zaM ha with⟨i,t,rfl,rfl⟩|⟨x,t,rfl,rfl⟩
  .rcases zaM hb with⟨j,u,rfl,e⟩|⟨y,u,rfl,e⟩
   .injection e with e1 _;rw[e1]
   .exact nomatch e
  .rcases zaM hb with⟨j,u,rfl,e⟩|⟨y,u,rfl,e⟩
   .exact nomatch e
   .injection e with e1 _;rw[e1]
 byValue:=λk v h=>by
  rcases zaM h with⟨i,t,rfl,rfl⟩|⟨x,t,rfl,rfl⟩<;>rfl
 pyHash:=λhv h=>by
  rcases zaM hv with⟨i,t,rfl,rfl⟩|⟨x,t,rfl,rfl⟩
  .exact wpAny_pyHash_int h
  .exact wpAny_pyHash_str h
 eqBool:=λhu hv h=>by
  rcases zaM hu with⟨i,t,rfl,rfl⟩|⟨x,t,rfl,rfl⟩
  .rcases zaM hv with⟨j,u,rfl,rfl⟩|⟨y,u,rfl,rfl⟩
   .rw[key_ll] at h;exact wpAny_eqBool_int h
   .rw[key_lr] at h;exact SeqAt.EqAt.int_str i t y u _ _ _ _ h
  .rcases zaM hv with⟨j,u,rfl,rfl⟩|⟨y,u,rfl,rfl⟩
   .rw[key_rl] at h;exact SeqAt.EqAt.str_int x t j u _ _ _ _ h
   .rw[key_rr] at h;exact wpAny_eqBool_str h
 «strs»:=λk x t v h=>by
  rcases zaM h with⟨i,u,rfl,e⟩|⟨y,u,rfl,e⟩
  .exact nomatch e
  .injection e with e1 _
   subst e1
   cases v<;>rfl
def zhe(prog:Program)(w:World)(i:Int)(t:Tok):(zaH prog w).is (.inl i) (.int i t)=true:=zjC i t
def zhd(prog:Program)(w:World)(x:Str)(t:Tok):(zaH prog w).is (.inr x) (.str x t)=true:=zjB x t
inductive V where
 | non|bl (b:Bool)|int (i:Int)|str (x:Str)|byt (b:Array UInt8)|flt (b:UInt64)|ref (a:Addr)|ty (n:String)
 deriving DecidableEq
def RelV:V->Value->Prop
 | .non,u=>u=Value.none
 | .bl b,u=>u=Value.bool b
 | .int i,u=>∃t,u=Value.int i t
 | .str x,u=>∃t,u=Value.str x t
 | .byt b,u=>∃t,u=Value.bytes b t
 | .flt b,u=>∃t,u=Value.float b t
 | .ref a,u=>u=Value.ref a
 | .ty n,u=>u=Value.type n
abbrev Vals:List V->List Value->Prop:=Paired RelV
def Vals.length{xs:List V}{us:List Value}(r:Vals xs us):xs.length=us.length:=Paired.length r
def Vals.get:∀{xs:List V} {us:List Value} {i:Nat} {x:V},Vals xs us->xs[i]?=some x->∃u,us[i]?=some u/\RelV x u
 | _,_,_,_,.nil,e=>by simp at e
 | _,_,0,_,.cons r _,e=>by simp at e;subst e;exact{_,O,r}
 | _,_,i+1,x,.cons _ t,e=>by
  obtain⟨u,h1,h2⟩:=Vals.get (i:=i) (x:=x) t (by simpa using e)
  exact{u,by simpa using h1,h2}
def Vals.set{x:V}{u:Value}(r:RelV x u):∀{xs:List V} {us:List Value} (i:Nat),Vals xs us->Vals (xs.set i x) (us.set i u)
 | _,_,_,.nil=>.nil
 | _,_,0,.cons _ t=>.cons r t
 | _,_,i+1,.cons q t=>.cons q (Vals.set r i t)
def Vals.append:∀{xs ys:List V} {us ws:List Value},Vals xs us->Vals ys ws->Vals (xs++ys) (us++ws)
 | _,_,_,_,.nil,s=>s
 | _,_,_,_,.cons r t,s=>.cons r (Vals.append t s)
def Vals.take:∀{xs:List V} {us:List Value} (n:Nat),Vals xs us->Vals (xs.take n) (us.take n)
 | _,_,0,_=>.nil
 | _,_,_+1,.nil=>.nil
 | _,_,n+1,.cons r t=>.cons r (Vals.take n t)
def Vals.drop:∀{xs:List V} {us:List Value} (n:Nat),Vals xs us->Vals (xs.drop n) (us.drop n)
 | _,_,0,r=>r
 | _,_,_+1,.nil=>.nil
 | _,_,n+1,.cons _ t=>Vals.drop n t
def RelO:Option V->Option Value->Prop
 | some v,some u=>RelV v u
 | none,none=>True
 | _,_=>False
def KV{κ:Type}:List (κ×V)->List (κ×Value)->Prop:=Paired λ(p:κ×V) (q:κ×Value)=>p.1=q.1/\RelV p.2 q.2
def kV:Key->V
 | .inl i=>.int i
 | .inr x=>.str x
inductive HO where
 
 | lst (xs:List V)
 
 | tup (xs:List V)
 
 | dK (kvs:List (Key×V))|dT (kvs:List (List Key×V))
 
 | set (S:Int->Bool) (n:Nat)
 
 | ins (C dx:Addr) (fs:List (Str×V))
 
 | own (x:Addr)
 
 | xd (fs:List (Str×V))
 
 | met (f x:Addr)
 
 | rng (lo hi:Int)
 
 | frz (o:Obj) (u:HO)
 
 | tbl (ps:Array Value)
 
 | ext (φ:Heap->Prop)
abbrev Hp:=Addr->Option HO
def upd(H:Hp)(a:Addr)(o:HO):Hp:=λb=>if b=a then some o else H b
def zac{H:Hp}{a:Addr}{o:HO}:upd H a o a=some o:=by unfold upd;rw[if_pos O]
def zah{H:Hp}{a b:Addr}{o:HO}(h:b≠a):upd H a o b=H b:=by unfold upd;rw[if_neg h]
def ne_of{H:Hp}{a b:Addr}{o u:HO}(h:H a=some o)(h':H b=some u)(d:o≠u):a≠b:=by
 intro e;subst e;rw[h] at h';exact d (Option.some.inj h')
def zai{H:Hp}{a b:Addr}{o:HO}(h:H a=some o)(h':H b=none):a≠b:=by
 intro e;subst e;rw[h] at h';cases h'
section
variable(P:Program)(w:World)
def ObjOk(H:Hp)(h:Heap)(a:Addr):HO->Prop
 | .lst xs=>xs.length<=sizeLine/\∃(its:List Value) (n:Nat),Vals xs its/\h.get? a=some {cls:=.type "list",data:=.seq its.toArray n}
 | .tup xs=>(xs.length<=sizeLine/\∃o,h.get? a=some o/\o.dict=none)/\∃its:List Value,Vals xs its/\IsTup h a its.toArray
 | .dK kvs=>kvs.length<=sizeLine/\(a==sysModules)=false/\∃vs,KV kvs vs/\h.DictOf (zaH P w) a vs
 | .dT kvs=>kvs.length<=sizeLine/\(a==sysModules)=false/\∃xs:List (List Key×Addr×Value),
   Paired (λ(p:List Key×V) (q:List Key×Addr×Value)=>p.1=q.1/\H q.2.1=some (.tup (p.1.map kV))/\RelV p.2 q.2.2) kvs xs /\
   ∃o es ep,h.get? a=some o/\o.ExactDict/\o.data=.dict es ep/\es.toList=xs.map (entryOfKey (tupleKind (zaH P w)))/\(xs.map (·.1)).Nodup
 | .set S n=>h.SetOf (intKind P w) a S n
 | .ins C dx fs=>H dx=some (.own a)/\fs.length<=1000/\dx≠a/\h.get? a=some (W.instObj C dx) /\
   ∃mA,h.Ns1 dx mA/\(∀f,RelO (fs.lookup f) (mA f))/\PySem.Within mA (fs.map (·.1))
 | .own _=>∃o,h.get? a=some o
 | .xd fs=>∃mA,h.Ns1 a mA/\∀f,RelO (fs.lookup f) (mA f)
 | .rng lo hi=>∃t u v,h.get? a=some {cls:=.type "range",data:=.fields #[.int lo t,.int hi u,.int 1 v]}
 | .frz o u=>h.get? a=some o/\ObjOk H h a u
 | .tbl ps=>h.get? a=some {cls:=.none,data:=.fields ps}
 | .met f x=>h.get? a=some (W.methodObj (.ref f) (.ref x))
 | .ext φ=>φ h/\(∃o,h.get? a=some o)/\∀h1 h2:Heap,φ h1->(∀o,h1.get? a=some o->h2.get? a=some o)->φ h2
def HOk(H:Hp)(h:Heap):Prop:=∀a o,H a=some o->ObjOk P w H h a o
end
section
variable{P:Program}{w:World}{H H':Hp}{h h':Heap}{a:Addr}{o:HO}
def ObjOk.lt(x:ObjOk P w H h a o):a<h.objs.size:=by
 cases o with
 | lst xs=>obtain⟨_,_,_,_,e⟩:=x;exact Xap e
 | tup xs=>obtain⟨_,_,_,p⟩:=x;exact p.lt
 | dK kvs=>obtain⟨_,_,_,_,o,_,_,e,_⟩:=x;exact Xap e
 | dT kvs=>obtain⟨_,_,_,_,o,_,_,e,_⟩:=x;exact Xap e
 | set S n=>obtain⟨o,_,_,_,e,_⟩:=x;exact Xap e
 | ins C dx fs=>obtain⟨_,_,_,e,_⟩:=x;exact Xap e
 | own y=>obtain⟨_,e⟩:=x;exact Xap e
 | xd fs=>obtain⟨_,⟨_,_,_,e,_⟩,_⟩:=x;exact Xap e
 | rng lo hi=>obtain⟨_,_,_,e⟩:=x;exact Xap e
 | frz ob u=>obtain⟨e,_⟩:=x;exact Xap e
 | tbl ps=>exact Xap (show h.get? a=some _ from x)
 | met f y=>exact Xap (show h.get? a=some _ from x)
 | ext φ=>obtain⟨_,⟨_,e⟩,_⟩:=x;exact Xap e
def Paired.mapP{α β:Type}{F G:α->β->Prop}:∀{l₁:List α} {l₂:List β},Paired F l₁ l₂->(∀a b,F a b->G a b)->Paired G l₁ l₂
 | _,_,.nil,_=>.nil
 | _,_,.cons r t,f=>.cons (f _ _ r) (Paired.mapP t f)
def ObjOk.stay(x:ObjOk P w H h a o)(k:∀b u,(b=a\/H b=some (.own a))->h.get? b=some u->h'.get? b=some u)
  (ho:∀b,H b=some (.own a)->H' b=some (.own a)) (ht:∀b xs,H b=some (.tup xs)->H' b=some (.tup xs)):ObjOk P w H' h' a o:=by
 induction o with
 | lst xs=>obtain⟨z,its,n,r,e⟩:=x;exact{z,its,n,r,k _ _ (.inl O) e}
 | tup xs=>obtain⟨⟨z,o,eo,dn⟩,its,r,ob,e,c⟩:=x;exact{{z,o,k _ _ (.inl O) eo,dn},its,r,ob,k _ _ (.inl O) e,c}
 | dK kvs=>obtain⟨z,y,vs,r,ob,es,ep,e,c⟩:=x;exact{z,y,vs,r,ob,es,ep,k _ _ (.inl O) e,c}
 | dT kvs =>
  obtain⟨z,y,xs,r,ob,es,ep,e,c⟩:=x
  exact{z,y,xs,Paired.mapP r λp q z=>{z.1,ht _ _ z.2.1,z.2.2},ob,es,ep,k _ _ (.inl O) e,c}
 | set S n=>obtain⟨ob,es,ep,t,e,c⟩:=x;exact{ob,es,ep,t,k _ _ (.inl O) e,c}
 | ins C dx fs =>
  obtain⟨d,z,ne,e,mA,⟨od,es,ep,e2,c⟩,r⟩:=x
  exact{ho _ d,z,ne,k _ _ (.inl O) e,mA,{od,es,ep,k _ _ (.inr d) e2,c},r}
 | own y=>obtain⟨ob,e⟩:=x;exact{ob,k _ _ (.inl O) e}
 | xd fs=>obtain⟨mA,⟨od,es,ep,e,c⟩,r⟩:=x;exact{mA,{od,es,ep,k _ _ (.inl O) e,c},r}
 | rng lo hi=>obtain⟨t,u,v,e⟩:=x;exact{t,u,v,k _ _ (.inl O) e}
 | frz ob u ih=>obtain⟨e,q⟩:=x;exact{k _ _ (.inl O) e,ih q}
 | tbl ps =>
  have e:h.get? a=some {cls:=.none,data:=.fields ps}:=x
  show h'.get? a=some {cls:=.none,data:=.fields ps}
  exact k a _ (.inl O) e
 | met f y =>
  have e:h.get? a=some (W.methodObj (.ref f) (.ref y)):=x
  show h'.get? a=some (W.methodObj (.ref f) (.ref y))
  exact k a _ (.inl O) e
 | ext φ=>obtain⟨p,⟨o,e⟩,st⟩:=x;exact{st _ _ p λo q=>k _ _ (.inl O) q,{o,k _ _ (.inl O) e},st}
def HOk.lt(x:HOk P w H h)(e:H a=some o):a<h.objs.size:=(x a o e).lt
def HOk.fresh(x:HOk P w H h)(e:h.objs.size<=a):H a=none:=by
 cases q:H a with
 | none=>rfl
 | some u=>exact absurd (Xaj (x.lt q) e) (XaY _)
def HOk.kept(x:HOk P w H h)(k:∀b u,h.get? b=some u->h'.get? b=some u):HOk P w H h':=λa o e =>
 (x a o e).stay (λb u _ q=>k b u q) (λ_ q=>q) λ_ _ q=>q
def HOk.laid(x:HOk P w H h)(k:∀b u,h.get? b=some u->h'.get? b=some u)(hp:h.objs.size<=a)(new:ObjOk P w (upd H a o) h' a o):HOk P w (upd H a o) h':=λb u e=>by
 have hn:=x.fresh hp
 by_cases hb:b=a
 .subst hb;rw[zac] at e;cases e;exact new
 .rw[zah hb] at e
  exact(x b u e).stay (λc v _ q=>k c v q) (λc q=>by rw[zah (zai q hn)];exact q) λc xs q=>by rw[zah (zai q hn)];exact q
end
def Rd(H:Hp)(a:Addr)(u:HO):Prop:=H a=some u\/∃o,H a=some (.frz o u)
def Rd.ok{P:Program}{w:World}{H:Hp}{h:Heap}{a:Addr}{u:HO}(r:Rd H a u)(x:HOk P w H h):ObjOk P w H h a u:=by
 rcases r with r|⟨o,r⟩
 .exact x a u r
 .obtain⟨_,q⟩:=x a _ r
  exact q
def Mut:Option HO->Prop
 | some (.lst _)=>True
 | some (.dK _)=>True
 | some (.dT _)=>True
 | some (.set _ _)=>True
 | some (.ins _ _ _)=>True
 | some (.ext _)=>True
 | _=>False
section
variable{P:Program}{w:World}{H:Hp}{h h':Heap}{x e:Addr}{o':HO}
def HOk.write(ok:HOk P w H h)(mu:Mut (H x))(he:e=x\/H e=some (.own x))(k:∀b u,b≠e->h.get? b=some u->h'.get? b=some u)(heo:∃u,h'.get? e=some u)
  (new:ObjOk P w (upd H x o') h' x o'):HOk P w (upd H x o') h':=λb u q=>by
 have nown:∀c y,H c=some (.own y)->c≠x:=λc y r z=>by subst z;rw[r] at mu;exact mu
 have ntup:∀c xs,H c=some (.tup xs)->c≠x:=λc xs r z=>by subst z;rw[r] at mu;exact mu
 by_cases hb:b=x
 .subst hb;rw[zac] at q;cases q;exact new
 .rw[zah hb] at q
  by_cases hbe:b=e
  .have q':H b=some (.own x):=by
    rcases he with z|z
    .exact absurd (hbe.trans z) hb
    .rw[hbe];exact z
   rw[q] at q';cases q'
   obtain⟨v,hv⟩:=heo
   exact{v,by rw[hbe];exact hv}
  .refine(ok b u q).stay (λc v hc r=>k c v ?_ r) (λc r=>by rw[zah (nown c b r)];exact r) λc xs r=>by rw[zah (ntup c xs r)];exact r
   rcases hc with rfl|hc
   .exact hbe
   .rintro rfl
    rcases he with z|z
    .exact nown c b hc z
    .rw[hc] at z;cases z;exact hb O
end
structure Un(fs ex:List Addr)(H H':Hp)(h h':Heap):Prop where
 keep:∀b o,h.get? b=some o->H b=none->b∉fs->b∉ex->h'.get? b=some o
 slot:∀b o,h.get? b=some o->H b=none->b∈fs->b∉ex->∃sl,h'.get? b=some {o with slots:=sl}
 free:∀b o,h.get? b=some o->H b=none->b∉ex->H' b=none
 there:∀b o,h.get? b=some o->b∉ex->∃o',h'.get? b=some o'
 tups:∀b xs,H b=some (.tup xs)->H' b=some (.tup xs)
 frzs:∀b o u,H b=some (.frz o u)->H' b=some (.frz o u)
 tbls:∀b ps,H b=some (.tbl ps)->∃more,H' b=some (.tbl (ps++more))
section
variable{fs fs' ex ex':List Addr}{H H1 H2:Hp}{h h1 h2 h':Heap}{a x e:Addr}{o:HO}
def Un.any(u:Un fs ex H H1 h h1){b:Addr}{ob:Obj}(q:h.get? b=some ob)(n:H b=none)(hx:b∉ex):∃sl,h1.get? b=some {ob with slots:=sl}:=by
 by_cases hb:b∈fs
 .exact u.slot b ob q n hb hx
 .exact{ob.slots,u.keep b ob q n hb hx}
def Un.kept(k:∀b u,h.get? b=some u->h'.get? b=some u):Un fs ex H H h h':=
 {λb ob q _ _ _=>k b ob q,λb ob q _ _ _=>{ob.slots,k b ob q},λ_ _ _ n _=>n,λb ob q _=>{ob,k b ob q},λ_ _ q=>q,λ_ _ _ q=>q,λ_ ps q=>{#[],by rw[q];simp}}
def Un.refl:Un fs ex H H h h:=Un.kept λ_ _ q=>q
def Un.laid(k:∀b u,h.get? b=some u->h'.get? b=some u)(hp:h.objs.size<=a)(hn:H a=none):Un fs ex H (upd H a o) h h' where
 keep:=λb u q _ _ _=>k b u q
 slot:=λb u q _ _ _=>{u.slots,k b u q}
 free:=λb u q n _=>by rw[zah (Xaz (Xaj (Xap q) hp))];exact n
 there:=λb u q _=>{u,k b u q}
 tups:=λb xs q=>by rw[zah (zai q hn)];exact q
 frzs:=λb u xs q=>by rw[zah (zai q hn)];exact q
 tbls:=λb ps q=>{#[],by rw[zah (zai q hn),q];simp}
def Un.write(mu:Mut (H x))(he:e=x\/H e=some (.own x))(k:∀b u,b≠e->h.get? b=some u->h'.get? b=some u)(heo:∃u,h'.get? e=some u):Un fs ex H (upd H x o) h h':=by
 have hx:∀b,H b=none->b≠x:=λb n z=>by subst z;rw[n] at mu;exact mu
 have hb:∀b,H b=none->b≠e:=λb n z=>by
  subst z
  rcases he with r|r
  .exact hx b n r
  .rw[n] at r;cases r
 have hm:∀b u,H b=some u->¬ Mut (some u)->b≠x:=λb u q nm z=>by subst z;rw[q] at mu;exact nm mu
 refine⟨λb u q n _ _=>k b u (hb b n) q,λb u q n _ _=>{u.slots,k b u (hb b n) q},λb u q n _=>by rw[zah (hx b n)];exact n,λb u q _=>?_,
  λb xs q=>by rw[zah (hm b _ q λz=>z)];exact q,λb u xs q=>by rw[zah (hm b _ q λz=>z)];exact q,λb ps q=>{#[],by rw[zah (hm b _ q λz=>z),q];simp}⟩
 by_cases hbe:b=e
 .subst hbe;exact heo
 .exact{u,k b u hbe q}
end
def trk(h:Heap)(H:Hp):List Addr:=(List.range h.objs.size).filter λa=>(H a).isSome
def hidT(h:Heap)(H:Hp):Heap:=W.hideAll h (trk h H)
def zjH(h:Heap)(H:Hp):(hidT h H).objs.size=h.objs.size:=W.hideAll_size _ _
def zk6{h:Heap}{H:Hp}{b:Addr}{o:Obj}(e:h.get? b=some o)(n:H b=none):(hidT h H).get? b=some o:=
 W.hideAll_get _ e λhm=>by
  have q:(H b).isSome=true:=(List.mem_filter.mp hm).2
  rw[n] at q;simp at q
def zmE{h:Heap}{H:Hp}{b:Addr}{o:Obj}(e:(hidT h H).get? b=some o):h.get? b=some o/\H b=none:=by
 have e':h.get? b=some o:=W.of_hideAll (trk h H) e
 refine{e',?_}
 cases q:H b with
 | none=>rfl
 | some x =>
  have hm:b∈trk h H:=List.mem_filter.mpr {XaU.mpr (Xap e'),by simp[q]}
  have z:(hidT h H).get? b=none:=W.hideAll_none (trk h H) hm
  rw[z] at e;cases e
structure Mod(K:W.Frag)(mg:Str->Option Value)(base:Heap):Prop where
 kin:K.In base
 glob:base.Ns mainGlobals mg
 blt:∃mb,base.Ns builtinsNs mb/\∀x:Str,x ≠ "__name__" -> mb x=bootBuiltins x
 nolimit:base.NoLimit
structure Cx where
 prog:Program
 w:World
 K:W.Frag
 mg:Str->Option Value
 base:Heap
 A:Around
 N:List Str
 s₀:Shared
 H₀:Hp
 env:Env
 outer:List Env
 stack:List Env
 ex:List Addr
 fn:Str->Bool
 calm:Bool
 pn:List (Addr×Obj)
 xe:Value->Shared->Prop
def frs(l:List Env):List Addr:=l.filterMap (·.frame)
abbrev Cx.fs(X:Cx):List Addr:=frs X.outer
def Vis(sc:Scope)(x:Str):Prop:=sc.names.lookup x=some .local\/sc.names.lookup x=some .cell\/sc.names.lookup x=some .free
def Loc(sc:Scope)(x:Str):Prop:=sc.names.lookup x=some .local\/sc.names.lookup x=some .cell
def Look(env:Env)(h:Heap)(m:Str->Option Value)(x:Str)(u:Value):Prop:=
 (env.kindOf x=some .local/\m x=some u)\/((env.kindOf x=some .cell\/env.kindOf x=some .free)/\∃c,env.cells.lookup x=some c/\h.IsCell c (some u))
structure Cx.Ok(X:Cx):Prop where
 mod:Mod X.K X.mg X.base
 kind:X.env.scope.kind=.function
 glob:X.env.globals=mainGlobals
 blt:X.env.builtins=builtinsNs
 above:X.s₀.heap.objs.size<=X.env.locals
 inj:∀x y c,X.env.cells.lookup x=some c->X.env.cells.lookup y=some c->x=y
 has:∀x,(X.env.kindOf x=some .cell\/X.env.kindOf x=some .free)->∃c,X.env.cells.lookup x=some c
 cab:∀x c,X.fn x=true->X.env.cells.lookup x=some c->X.s₀.heap.objs.size<=c
 hd:X.calm=true->X.A.handled=none
 frames:X.A.frames=some X.stack
 stk:X.stack=X.outer\/(X.stack=X.env::X.outer/\X.env.frame=some X.env.locals)
 exf:∀b∈X.ex,b≠X.env.locals/\∀x c,X.env.cells.lookup x=some c->c≠b
 bs:∀b o,X.base.get? b=some o->X.s₀.heap.get? b=some o/\X.H₀ b=none
 bsz:X.base.objs.size<=X.s₀.heap.objs.size
 noex:∀b o,X.base.get? b=some o->b∉X.ex
 exfs:∀b∈X.ex,b∉X.fs
 funs:X.s₀.heap.FunFrames X.base X.outer
 frf:∀b∈X.fs,X.H₀ b=none
structure Inv(X:Cx)(pins:List (Addr×Obj))(U:List (Option V))(H:Hp)(s:Shared):Prop where
 ok:X.Ok
 os:s.os=X.s₀.os
 bare:AllBare s.gens
 base:Un X.fs X.ex X.H₀ H X.s₀.heap s.heap
 loc:∃m,s.heap.Ns X.env.locals m/\∀(i:Nat) (x:Str) (v:V),X.N[i]?=some x->U[i]?=some (some v)->Vis X.env.scope x->∃u,RelV v u/\Look X.env s.heap m x u
 cell:∀x c,X.env.cells.lookup x=some c->∃v,s.heap.IsCell c v
 free:H X.env.locals=none
 freeC:∀x c,X.env.cells.lookup x=some c->H c=none
 pin:∀p∈X.pn++pins,s.heap.get? p.1=some p.2/\H p.1=none/\p.1≠X.env.locals/\p.1∉X.fs/\∀v,p.2.data≠.cell v
 hok:HOk X.prog X.w H s.heap
 len:U.length=X.N.length
section
variable{X:Cx}{pins:List (Addr×Obj)}{U:List (Option V)}{H H':Hp}{s:Shared}{h':Heap}
def Cx.Ok.nofr(ok:X.Ok){b:Addr}{o:Obj}(e:X.base.get? b=some o):b∉X.fs:=λhb=>by
 have:=(ok.funs.mem hb).1
 rw[e] at this;cases this
def Inv.bs(I:Inv X pins U H s):∀b o,X.base.get? b=some o->s.heap.get? b=some o/\H b=none:=λb o e =>
 {I.base.keep b o (I.ok.bs b o e).1 (I.ok.bs b o e).2 (I.ok.nofr e) (I.ok.noex b o e),I.base.free b o (I.ok.bs b o e).1 (I.ok.bs b o e).2 (I.ok.noex b o e)}
def Inv.bk(I:Inv X pins U H s):∀b o,X.base.get? b=some o->s.heap.get? b=some o:=λb o e=>(I.bs b o e).1
def Inv.mod(I:Inv X pins U H s):Mod X.K X.mg X.base:=I.ok.mod
def Inv.kIn(I:Inv X pins U H s):X.K.In s.heap:=I.ok.mod.kin.keeps I.bk
def Inv.fr(I:Inv X pins U H s):∃m,Fr X.base X.env.locals s.heap m:=
 let⟨m,hn,_⟩:=I.loc
 {m,hn,I.bk,Xar I.ok.bsz I.ok.above}
def Inv.lt(I:Inv X pins U H s):X.env.locals<s.heap.objs.size:=let⟨_,hn,_⟩:=I.loc;hn.lt
def Inv.sz(I:Inv X pins U H s):X.s₀.heap.objs.size<=s.heap.objs.size:=Xar I.ok.above (XbN I.lt)
def Inv.nofs(I:Inv X pins U H s){a:Addr}(h:s.heap.objs.size<=a):a∉X.fs:=λhb=>by
 obtain⟨_,o,ho,_⟩:=I.ok.funs.mem hb
 exact absurd (Xaj (Xap ho) (Xar I.sz h)) (XaY _)
def Inv.cne(I:Inv X pins U H s):∀x c,X.env.cells.lookup x=some c->c≠X.env.locals:=λx c e z=>by
 obtain⟨v,o,ho,hd⟩:=I.cell x c e
 obtain⟨m,⟨o',es,ep,ho',hd',_⟩,_⟩:=I.loc
 rw[z,ho'] at ho;cases ho;rw[hd'] at hd;cases hd
def Inv.funs(I:Inv X pins U H s):s.heap.FunFrames X.base X.outer:=by
 have all:∀(l:List Env),(∀b∈frs l,b∈X.fs)->X.s₀.heap.FunFrames X.base l->s.heap.FunFrames X.base l:=by
  intro l
  induction l with
  | nil=>intro _ _;trivial
  | cons env r ih =>
   intro hs hl
   obtain⟨hk,⟨L,o,hf,hn,ho,hd⟩,hr⟩:=hl
   have hL:L∈X.fs:=hs L (by unfold frs;rw[List.filterMap_cons,hf];exact Xay)
   obtain⟨sl,e⟩:=I.base.slot L o ho (I.ok.frf L hL) hL λz=>I.ok.exfs L z hL
   exact{hk,{L,_,hf,hn,e,hd},ih (λb hb=>hs b (by unfold frs;rw[List.filterMap_cons,hf];exact XaA _ hb)) hr}
 exact all X.outer (λ_ hb=>hb) I.ok.funs
def Inv.stack(I:Inv X pins U H s):s.heap.FunFrames X.base X.stack:=by
 rcases I.ok.stk with e|⟨e,hf⟩
 .rw[e];exact I.funs
 .rw[e]
  obtain⟨m,hn,_⟩:=I.loc
  refine .cons (by rw[I.ok.kind];decide) hf hn ?_ I.funs
  exact XbH (Xar I.ok.bsz I.ok.above)
def Inv.stkSub(I:Inv X pins U H s):∀b∈frs X.stack,b∈X.env.locals::X.fs:=λb hb=>by
 rcases I.ok.stk with e|⟨e,hf⟩
 .rw[e] at hb;exact XaA _ hb
 .rw[e] at hb
  unfold frs at hb
  rw[List.filterMap_cons,hf] at hb
  exact hb
def Inv.stkFree(I:Inv X pins U H s):∀b∈frs X.stack,H b=none:=λb hb=>by
 rcases Xau.mp (I.stkSub b hb) with e|hb
 .rw[e];exact I.free
 .obtain⟨_,o,ho,_⟩:=I.ok.funs.mem hb
  exact I.base.free b o ho (I.ok.frf b hb) λz=>I.ok.exfs b z hb
def Inv.step{g':Array GenState}{t':Nat}{d':Drawn}{ch:List Addr}(I:Inv X pins U H s)
  (hch:∀b∈ch,(b∈X.ex\/X.s₀.heap.objs.size<=b)/\b≠X.env.locals/\(∀x c,X.env.cells.lookup x=some c->c≠b)/\∀p∈X.pn++pins,p.1≠b)
  (keep:∀b o,b≠X.env.locals->b∉X.fs->b∉ch->s.heap.get? b=some o->H b=none->h'.get? b=some o)
  (slot:∀b o,b≠X.env.locals->b∈X.fs->b∉ch->s.heap.get? b=some o->H b=none->∃sl,h'.get? b=some {o with slots:=sl}) (free:∀b o,b∉ch->s.heap.get? b=some o->H b=none->H' b=none)
  (there:∀b o,b∉ch->s.heap.get? b=some o->∃o',h'.get? b=some o')
  (tups:∀b xs,H b=some (.tup xs)->H' b=some (.tup xs)) (frzs:∀b o u,H b=some (.frz o u)->H' b=some (.frz o u)) (tbls:∀b ps,H b=some (.tbl ps)->∃more,H' b=some (.tbl (ps++more)))
  (ns:∀m,s.heap.Ns X.env.locals m->h'.Ns X.env.locals m) (hok:HOk X.prog X.w H' h') (hg:AllBare g') :
  Inv X pins U H' {s with heap:=h',gens:=g',drawn:=d',toks:=t'}:=by
 have neL:∀b o,X.s₀.heap.get? b=some o->b≠X.env.locals:=λb o e=>Xaz (Xaj (Xap e) I.ok.above)
 have neC:∀b o,X.s₀.heap.get? b=some o->b∉X.ex->b∉ch:=λb o e hx hb=>by
  rcases(hch b hb).1 with z|z
  .exact hx z
  .exact absurd (Xaj (Xap e) z) (XaY _)
 have cellK:∀x c,X.env.cells.lookup x=some c->∀v,s.heap.IsCell c v->h'.IsCell c v:=λx c e v ⟨o,ho,hd⟩=>by
  have nch:c∉ch:=λz=>(hch c z).2.2.1 x c e O
  by_cases hc:c∈X.fs
  .obtain⟨sl,q⟩:=slot c o (I.cne x c e) hc nch ho (I.freeC x c e)
   exact{_,q,hd}
  .exact{o,keep c o (I.cne x c e) hc nch ho (I.freeC x c e),hd}
 refine{I.ok,I.os,hg,{λb o e n hb hx=>?_,λb o e n hb hx=>?_,λb o e n hx=>?_,λb o e hx=>?_,λb xs e=>tups b xs (I.base.tups b xs e),λb o xs e=>frzs b o xs (I.base.frzs b o xs e),λb ps e=>?_},?_,λx c e=>?_,?_,λx c e=>?_,λp hp=>?_,hok,I.len}
 .exact keep b o (neL b o e) hb (neC b o e hx) (I.base.keep b o e n hb hx) (I.base.free b o e n hx)
 .obtain⟨sl,e1⟩:=I.base.slot b o e n hb hx
  obtain⟨sl',e2⟩:=slot b _ (neL b o e) hb (neC b o e hx) e1 (I.base.free b o e n hx)
  exact⟨sl',e2⟩
 .obtain⟨o',e1⟩:=I.base.there b o e hx
  exact free b o' (neC b o e hx) e1 (I.base.free b o e n hx)
 .obtain⟨o',e1⟩:=I.base.there b o e hx
  exact there b o' (neC b o e hx) e1
 .obtain⟨m1,e1⟩:=I.base.tbls b ps e
  obtain⟨m2,e2⟩:=tbls b _ e1
  exact{m1++m2,by rw[e2,Array.append_assoc]}
 .obtain⟨m,hn,hl⟩:=I.loc
  refine{m,ns m hn,λi x v e1 e2 e3=>?_}
  obtain⟨u,r,l⟩:=hl i x v e1 e2 e3
  refine{u,r,?_}
  rcases l with l|⟨k,c,e,z⟩
  .exact .inl l
  .exact .inr {k,c,e,cellK x c e _ z}
 .obtain⟨v,z⟩:=I.cell x c e
  exact{v,cellK x c e v z}
 .obtain⟨m,⟨o,_,_,ho,_⟩,_⟩:=I.loc
  exact free _ o (λz=>(hch _ z).2.1 O) ho I.free
 .obtain⟨v,o,ho,hd⟩:=I.cell x c e
  exact free c o (λz=>(hch c z).2.2.1 x c e O) ho (I.freeC x c e)
 .obtain⟨e,n,ne,nf,d⟩:=I.pin p hp
  have nch:p.1∉ch:=λz=>(hch p.1 z).2.2.2 p hp O
  exact{keep p.1 p.2 ne nf nch e n,free p.1 p.2 nch e n,ne,nf,d}
def Inv.un{t':Nat}(I:Inv X pins U H s)(u:Un X.fs [] H H' s.heap h')(hok:HOk X.prog X.w H' h'):Inv X pins U H' {s with heap:=h',toks:=t'}:=by
 obtain⟨m,⟨o,es,ep,ho,r⟩,_⟩:=id I.loc
 obtain⟨sl,hL⟩:=u.any ho I.free (by simp)
 exact I.step (g':=s.gens) (d':=s.drawn) (ch:=[]) (λ_ z=>nomatch z) (λb o _ hb _ e n=>u.keep b o e n hb (by simp)) (λb o _ hb _ e n=>u.slot b o e n hb (by simp)) (λb o _ e n=>u.free b o e n (by simp)) (λb o _ e=>u.there b o e (by simp)) u.tups u.frzs u.tbls (λm' hm=>by
  obtain⟨o',es',ep',ho',r'⟩:=hm
  rw[ho] at ho';cases ho'
  exact{_,es',ep',hL,r'}) hok I.bare
def Inv.call{g':Array GenState}{t':Nat}{d':Drawn}{ch:List Addr}(I:Inv X pins U H s)(u:Un (frs X.stack) ch H H' s.heap h')(hok:HOk X.prog X.w H' h')(hg:AllBare g')
  (hch:∀b∈ch,(b∈X.ex\/X.s₀.heap.objs.size<=b)/\b≠X.env.locals/\(∀x c,X.env.cells.lookup x=some c->c≠b)/\∀p∈X.pn++pins,p.1≠b) :
  Inv X pins U H' {s with heap:=h',gens:=g',drawn:=d',toks:=t'}:=by
 obtain⟨m,⟨o,es,ep,ho,r⟩,_⟩:=id I.loc
 obtain⟨sl,hL⟩:=u.any ho I.free λz=>(hch _ z).2.1 O
 exact I.step (ch:=ch) hch (λb o hL hb hc e n=>u.keep b o e n (λz=>(Xau.mp (I.stkSub b z)).elim hL hb) hc) (λb o _ _ hc e n=>u.any e n hc) (λb o hc e n=>u.free b o e n hc) (λb o hc e=>u.there b o e hc) u.tups u.frzs u.tbls (λm' hm=>by
  obtain⟨o',es',ep',ho',r'⟩:=hm
  rw[ho] at ho';cases ho'
  exact{_,es',ep',hL,r'}) hok hg
def Inv.turned{t':Nat}{it:Addr}(I:Inv X pins U H s)(k:∀b o,b≠it->s.heap.get? b=some o->h'.get? b=some o)(hn:H it=none)(hL:it≠X.env.locals)
  (h1:it∈X.ex\/X.s₀.heap.objs.size<=it) (h2:∀x c,X.env.cells.lookup x=some c->c≠it) (h3:∀p∈X.pn++pins,p.1≠it):Inv X pins U H {s with heap:=h',toks:=t'}:=by
 have nit:∀b u,H b=some u->b≠it:=λb u e z=>by rw[z,hn] at e;cases e
 refine I.step (g':=s.gens) (d':=s.drawn) (ch:=[it]) (λb hb=>?_) (λb o _ _ hc e _=>k b o (λz=>hc (by simp[z])) e) (λb o _ _ hc e _=>{o.slots,k b o (λz=>hc (by simp[z])) e}) (λ_ _ _ _ n=>n)
  (λb o hc e=>{o,k b o (λz=>hc (by simp[z])) e}) (λ_ _ e=>e) (λ_ _ _ e=>e) (λb ps e=>{#[],by rw[e];simp}) (λm hm=>?_) (λb u e=>?_) I.bare
 .have e:b=it:=by simpa using hb
  subst e
  exact⟨h1,hL,h2,h3⟩
 .obtain⟨o,es,ep,ho,r⟩:=hm
  exact{o,es,ep,k _ o (Ne.symm hL) ho,r}
 .refine(I.hok b u e).stay (λc v hc q=>k c v ?_ q) (λ_ q=>q) λ_ _ q=>q
  rcases hc with z|z
  .rw[z];exact nit b u e
  .exact nit c _ z
def Inv.tok(I:Inv X pins U H s)(t:Nat):Inv X pins U H {s with toks:=t}:=I.un (h':=s.heap) (t':=t) Un.refl I.hok
def Inv.kept{t':Nat}(I:Inv X pins U H s)(k:∀b u,s.heap.get? b=some u->h'.get? b=some u):Inv X pins U H {s with heap:=h',toks:=t'}:=I.un (Un.kept k) (I.hok.kept k)
def Inv.laid{a:Addr}{o:HO}{t':Nat}(I:Inv X pins U H s)(k:∀b u,s.heap.get? b=some u->h'.get? b=some u)(hp:s.heap.objs.size<=a)(new:ObjOk X.prog X.w (upd H a o) h' a o) :
  Inv X pins U (upd H a o) {s with heap:=h',toks:=t'}:=I.un (Un.laid k hp (I.hok.fresh hp)) (I.hok.laid k hp new)
def Inv.write{x e:Addr}{o:HO}{t':Nat}(I:Inv X pins U H s)(mu:Mut (H x))(he:e=x\/H e=some (.own x))(k:∀b u,b≠e->s.heap.get? b=some u->h'.get? b=some u)(heo:∃u,h'.get? e=some u)
  (new:ObjOk X.prog X.w (upd H x o) h' x o):Inv X pins U (upd H x o) {s with heap:=h',toks:=t'}:=I.un (Un.write mu he k heo) (I.hok.write mu he k heo new)
def Inv.pins_of{pins':List (Addr×Obj)}(I:Inv X pins U H s)(h:∀p∈pins',s.heap.get? p.1=some p.2/\H p.1=none/\p.1≠X.env.locals/\p.1∉X.fs/\∀v,p.2.data≠.cell v):Inv X pins' U H s:=
 {I.ok,I.os,I.bare,I.base,I.loc,I.cell,I.free,I.freeC,λp hp=>(XaI.mp hp).elim (λz=>I.pin p (XbI _ z)) (h p),I.hok,I.len}
def zhJ{N:List Str}(hN:N.Nodup){i j:Nat}{x:Str}(a:N[i]?=some x)(b:N[j]?=some x):i=j:=by
 obtain⟨h1,e1⟩:=Xaf.mp a
 obtain⟨h2,e2⟩:=Xaf.mp b
 exact(List.getElem_inj hN).mp (e1.trans e2.symm)
def zdZ{M:Model}{A:Around}{E:Value->Shared->Prop}{i:Nat}{x:Str}{v:V}{u:Value}{Q:Unit->Shared->Prop}(I:Inv X pins U H s)(hN:X.N.Nodup)(hi:X.N[i]?=some x)(hx:Loc X.env.scope x)(r:RelV v u)
  (h:∀s',Inv X pins (U.set i (some v)) H s'->(∃a,Heap.SameBut a s.heap s'.heap/\(a=X.env.locals\/X.env.cells.lookup x=some a))->Q () s') (hf:X.fn x=true\/X.env.scope.names.lookup x=some .local:=by first|exact .inl O|exact .inr O|assumption):wpAny M A (storeName X.env x u) Q E s:=by
 obtain⟨m,hn,hl⟩:=id I.loc
 have hcls:(X.env.scope.kind==.class || (X.env.scope.kind==.module&&X.env.locals != X.env.globals))=false:=by rw[I.ok.kind];rfl
 have hiU:i<U.length:=by rw[I.len];exact(Xaf.mp hi).1
 have cne:=I.cne
 have tracked:∀{a:Addr} {h':Heap},(∃o,s.heap.get? a=some o/\H a=none)->Heap.SameBut a s.heap h'->HOk X.prog X.w H h':=λ{a h'} ha hs b ob e=>by
  obtain⟨_,_,hfree⟩:=ha
  refine(I.hok b ob e).stay (λc w' hc q=>(hs.2 c ?_).trans q) (λ_ q=>q) λ_ _ q=>q
  rintro rfl
  rcases hc with rfl|hc
  .rw[hfree] at e;cases e
  .rw[hfree] at hc;cases hc
 rcases hx with hk|hk
 .refine wpAny_storeName_local hk hn (λh' hn' hs=>?_) hcls
  obtain⟨oL,_,_,hoL,_⟩:=id hn
  refine h _ {I.ok,I.os,I.bare,{λb o e n hb hx=>?_,λb o e n hb hx=>?_,I.base.free,λb o e hx=>?_,I.base.tups,I.base.frzs,I.base.tbls},{_,hn',λj y v' e1 e2 e3=>?_},λy c e=>?_,I.free,I.freeC,λp hp=>?_,tracked ⟨oL,hoL,I.free⟩ hs,by simpa using I.len} {_,hs,.inl O}
  .exact(hs.2 b (Xaz (Xaj (Xap e) I.ok.above))).trans (I.base.keep b o e n hb hx)
  .obtain⟨sl,e1⟩:=I.base.slot b o e n hb hx
   exact{sl,(hs.2 b (Xaz (Xaj (Xap e) I.ok.above))).trans e1}
  .obtain⟨o',e1⟩:=I.base.there b o e hx
   exact{o',(hs.2 b (Xaz (Xaj (Xap e) I.ok.above))).trans e1}
  .by_cases hj:j=i
   .subst hj
    rw[hi] at e1;cases e1
    rw[List.getElem?_set_self hiU] at e2
    cases e2
    exact{u,r,.inl {hk,by simp}}
   .rw[List.getElem?_set_ne (Ne.symm hj)] at e2
    obtain⟨u',r',q⟩:=hl j y v' e1 e2 e3
    refine{u',r',?_}
    rcases q with⟨k,e⟩|⟨k,c,e,z⟩
    .refine .inl {k,?_}
     have:y≠x:=λe=>hj (zhJ hN e1 (e▸hi))
     simp[this,e]
    .exact .inr {k,c,e,z.sameBut hs (cne y c e)}
  .obtain⟨w',z⟩:=I.cell y c e
   exact{w',z.sameBut hs (cne y c e)}
  .obtain⟨e,n,ne,nf,d⟩:=I.pin p hp
   exact{(hs.2 p.1 ne).trans e,n,ne,nf,d}
 .have hfn:X.fn x=true:=by
   rcases hf with z|z
   .exact z
   .rw[z] at hk;cases hk
  obtain⟨c,hc⟩:=I.ok.has x (.inl hk)
  obtain⟨w',z⟩:=I.cell x c hc
  refine wpAny_storeName_cell I.ok.kind hk hc z (λh' hc' hs=>?_)
  obtain⟨oc,hoc,hocd⟩:=id z
  refine h {s with heap:=h'} {I.ok,I.os,I.bare,{λb o e n hb hx=>?_,λb o e n hb hx=>?_,I.base.free,λb o e hx=>?_,I.base.tups,I.base.frzs,I.base.tbls},{m,hn.sameBut hs (Ne.symm (cne x c hc)),λj y v' e1 e2 e3=>?_},λy c' e=>?_,I.free,I.freeC,λp hp=>?_,tracked {oc,hoc,I.freeC x c hc} hs,by simpa using I.len} {c,hs,.inr hc}
  .exact(hs.2 b (Xaz (Xaj (Xap e) (I.ok.cab x c hfn hc)))).trans (I.base.keep b o e n hb hx)
  .obtain⟨sl,e1⟩:=I.base.slot b o e n hb hx
   exact{sl,(hs.2 b (Xaz (Xaj (Xap e) (I.ok.cab x c hfn hc)))).trans e1}
  .obtain⟨o',e1⟩:=I.base.there b o e hx
   exact{o',(hs.2 b (Xaz (Xaj (Xap e) (I.ok.cab x c hfn hc)))).trans e1}
  .by_cases hj:j=i
   .subst hj
    rw[hi] at e1;cases e1
    rw[List.getElem?_set_self hiU] at e2
    cases e2
    exact{u,r,.inr {.inl hk,c,hc,hc'}}
   .rw[List.getElem?_set_ne (Ne.symm hj)] at e2
    obtain⟨u',r',q⟩:=hl j y v' e1 e2 e3
    refine{u',r',?_}
    rcases q with q|⟨k,c',e,z'⟩
    .exact .inl q
    .refine .inr {k,c',e,z'.sameBut hs ?_}
     rintro rfl
     exact hj (zhJ hN e1 (I.ok.inj _ _ _ e hc▸hi))
  .by_cases hcc:c'=c
   .subst hcc;exact{_,hc'}
   .obtain⟨w2,z2⟩:=I.cell y c' e
    exact{w2,z2.sameBut hs hcc}
  .obtain⟨e,n,ne,nf,d⟩:=I.pin p hp
   refine{(hs.2 p.1 ?_).trans e,n,ne,nf,d}
   intro q
   rw[q,hoc] at e
   have q':oc=p.2:=Option.some.inj e
   exact d w' (by rw[<- q'];exact hocd)
def ze4{M:Model}{A:Around}{E:Value->Shared->Prop}{i:Nat}{x:Str}{v:V}{u:Value}{Q:Unit->Shared->Prop}(I:Inv X pins U H s)(hN:X.N.Nodup)(hi:X.N[i]?=some x)(hx:Loc X.env.scope x)(r:RelV v u)
  (h:∀s',Inv X pins (U.set i (some v)) H s'->Q () s') (hf:X.fn x=true\/X.env.scope.names.lookup x=some .local:=by first|exact .inl O|exact .inr O|assumption):wpAny M A (storeName X.env x u) Q E s:=
 zdZ I hN hi hx r (λs' I' _=>h s' I') hf
def Inv.call'{s':Shared}{ch:List Addr}(I:Inv X pins U H s)(ho:s'.os=s.os)(u:Un (frs X.stack) ch H H' s.heap s'.heap)(hok:HOk X.prog X.w H' s'.heap)(hg:AllBare s'.gens)
  (hch:∀b∈ch,(b∈X.ex\/X.s₀.heap.objs.size<=b)/\b≠X.env.locals/\(∀x c,X.env.cells.lookup x=some c->c≠b)/\∀p∈X.pn++pins,p.1≠b):Inv X pins U H' s':=by
 obtain⟨h',g',d',t',o'⟩:=s'
 have e:o'=s.os:=ho
 subst e
 exact I.call (g':=g') (t':=t') (d':=d') u hok hg hch
end
abbrev XK:=Value->Option Addr->Hp->Prop
abbrev St:=List (Option V)
abbrev VK:=V->Hp->Prop
abbrev TE:=St->Hp->VK->Prop
abbrev TT:=St->Hp->(Bool->Hp->Prop)->Prop
abbrev TA:=St->Hp->(List V->Hp->Prop)->Prop
structure Ends where
 nx:St->Hp->Prop
 rt:VK
 bk:St->Hp->Prop:=λ_ _=>False
 ct:St->Hp->Prop:=λ_ _=>False
abbrev TS:=Ends->St->Hp->Prop
inductive EP(X:Cx)(pins:List (Addr×Obj))(U:St)(Q:VK)(u:Value)(s':Shared):Prop
 | mk v H' (_:Inv X pins U H' s')(_:RelV v u)(_:Q v H')
inductive TP(X:Cx)(pins:List (Addr×Obj))(U:St)(Q:Bool->Hp->Prop)(b:Bool)(s':Shared):Prop
 | mk H' (_:Inv X pins U H' s')(_:Q b H')
inductive AP(X:Cx)(pins:List (Addr×Obj))(U:St)(Q:List V->Hp->Prop)(us:List Value)(s':Shared):Prop
 | mk vs H' (_:Inv X pins U H' s')(_:Vals vs us)(_:Q vs H')
def SP(X:Cx)(pins:List (Addr×Obj))(D:Ends)(f:Flow)(s':Shared):Prop:=
 match f with
 | .next=>∃U' H',Inv X pins U' H' s'/\D.nx U' H'
 | .brk=>∃U' H',Inv X pins U' H' s'/\D.bk U' H'
 | .cont=>∃U' H',Inv X pins U' H' s'/\D.ct U' H'
 | .ret u=>∃v U' H',Inv X pins U' H' s'/\RelV v u/\D.rt v H'
def PE(X:Cx)(e:Expr)(t:TE):Prop:=
 ∀(pins:List (Addr×Obj)) (s:Shared) (U:St) (H:Hp) (Q:VK),Inv X pins U H s->t U H Q->wpAny (model X.prog X.w) X.A (eval e X.env) (EP X pins U Q) X.xe s
def PT(X:Cx)(e:Expr)(t:TT):Prop:=
 ∀(pins:List (Addr×Obj)) (s:Shared) (U:St) (H:Hp) (Q:Bool->Hp->Prop),Inv X pins U H s->t U H Q->wpAny (model X.prog X.w) X.A (isTrue e X.env (eval e X.env)) (TP X pins U Q) X.xe s
def PW(X:Cx)(e:Expr)(t:TT):Prop:=
 ∀(whole:Sem Value) (pins:List (Addr×Obj)) (s:Shared) (U:St) (H:Hp) (Q:Bool->Hp->Prop),Inv X pins U H s->t U H Q->wpAny (model X.prog X.w) X.A (isTrue e X.env whole) (TP X pins U Q) X.xe s
def PW.pt{X:Cx}{e:Expr}{t:TT}(h:PW X e t):PT X e t:=h _
def PA(X:Cx)(es:List Expr)(t:TA):Prop:=
 ∀(pos:Pos) (pins:List (Addr×Obj)) (s:Shared) (U:St) (H:Hp) (Q:List V->Hp->Prop),Inv X pins U H s->t U H Q->wpAny (model X.prog X.w) X.A (spliced (backTo pos (starEach es X.env))) (AP X pins U Q) X.xe s
def PS(X:Cx)(st:Stmt)(t:TS):Prop:=
 ∀(pins:List (Addr×Obj)) (s:Shared) (U:St) (H:Hp) (D:Ends),Inv X pins U H s->t D U H->wpAny (model X.prog X.w) X.A (exec st X.env) (SP X pins D) X.xe s
def PSs(X:Cx)(st:List Stmt)(t:TS):Prop:=
 ∀(pins:List (Addr×Obj)) (s:Shared) (U:St) (H:Hp) (D:Ends),Inv X pins U H s->t D U H->wpAny (model X.prog X.w) X.A (execs st X.env) (SP X pins D) X.xe s
def thn{α:Type}{t:Sem α}{Q Q':α->Shared->Prop}{M:Model}{A:Around}{E:Value->Shared->Prop}{s:Shared}(h:wpAny M A t Q E s)(hQ:∀a s,Q a s->Q' a s):wpAny M A t Q' E s:=Xat h hQ λ_ _ x=>x
section
variable{X:Cx}
inductive tVar(i:Nat)(U:St)(H:Hp)(Q:VK):Prop
 | mk v(_:U[i]?=some (some v))(_:Q v H)
def tC(v:V):TE:=λ_ H Q=>Q v H
def pe_var{i:Nat}{x:Str}{pos:Pos}(hN:X.N[i]?=some x)(hv:Vis X.env.scope x)(hd:(x==("__debug__" : Str))=false:=by decide)(hcd:(x==("__classdict__" : Str))=false:=by decide):PE X (.Name x pos) (tVar i):=by
 intro pins s U H Q I h
 obtain⟨v,e,h⟩:=h
 obtain⟨m,hn,hl⟩:=I.loc
 obtain⟨u,r,l⟩:=hl i x v hN e hv
 have fin:EP X pins U Q u s:=⟨v,H,I,r,h⟩
 rcases l with⟨hk,hm⟩|⟨hk,c,hc,hcell⟩
 .exact wpAny_Name (wpAny_loadName_local I.ok.kind hk hn hm fin) hd
 .rcases hk with hk|hk
  .exact wpAny_Name (wpAny_loadName_cell I.ok.kind hk hc hcell fin) hd
  .exact wpAny_Name (wpAny_loadName_free I.ok.kind hk hc hcell fin hcd) hd
def zae{i j pos}:PE X (.Constant (.int i) j pos) (tC (.int i)):=λ_ _ _ H _ I h=>wpAny_Constant_int {.int i,H,I.tok _,{_,O},h}
def zcX{b j pos}:PE X (.Constant (.bool b) j pos) (tC (.bl b)):=λ_ _ _ H _ I h=>Constant_bool {.bl b,H,I,O,h}
def zeS{j pos}:PE X (.Constant .none j pos) (tC .non):=λ_ _ _ H _ I h=>Constant_none {.non,H,I,O,h}
def za4{x j pos}:PE X (.Constant (.str x) j pos) (tC (.str x)):=λ_ _ _ H _ I h=>Calls.Constant_str {.str x,H,I.tok _,{_,O},h}
def Gl(X:Cx)(x:Str):Prop:=X.env.kindOf x=some .globalImplicit
def zdq{E:Value->Shared->Prop}{pins:List (Addr×Obj)}{s:Shared}{U:St}{H:Hp}{x:Str}{u:Value}{pos:Pos}{Q:Value->Shared->Prop}(I:Inv X pins U H s)(hg:Gl X x)(hm:X.mg x=some u)(h:Q u s)
  (hd:(x==("__debug__" : Str))=false:=by decide):wpAny (model X.prog X.w) X.A (eval (.Name x pos) X.env) Q E s:=
 Calls.Name_function_global I.ok.kind hg (Calls.loadGlobal_global (by rw[I.ok.glob];exact I.mod.glob.keeps I.bk) hm h) hd
def zc0{E:Value->Shared->Prop}{pins:List (Addr×Obj)}{s:Shared}{U:St}{H:Hp}{x:Str}{u:Value}{pos:Pos}{Q:Value->Shared->Prop}(I:Inv X pins U H s)(hg:Gl X x)(hm:X.mg x=none)(hv:bootBuiltins x=some u)(h:Q u s)
  (hn:x ≠ "__name__" := by decide) (hd:(x==("__debug__" : Str))=false:=by decide):wpAny (model X.prog X.w) X.A (eval (.Name x pos) X.env) Q E s:=by
 obtain⟨mb,h1,h2⟩:=I.mod.blt
 exact Calls.Name_function_global I.ok.kind hg (Calls.loadGlobal_builtin (by rw[I.ok.glob];exact I.mod.glob.keeps I.bk) hm (by rw[I.ok.blt];exact h1.keeps I.bk) ((h2 x hn).trans hv) h) hd
def zgY{x:Str}{v:V}{u:Value}{pos:Pos}(hg:Gl X x)(hm:X.mg x=some u)(r:RelV v u)(hd:(x==("__debug__" : Str))=false:=by decide):PE X (.Name x pos) (tC v):=
 λ_ _ _ H _ I h=>zdq I hg hm ⟨v,H,I,r,h⟩ hd
def zaT{x:Str}{v:V}{u:Value}{pos:Pos}(hg:Gl X x)(hm:X.mg x=none)(hv:bootBuiltins x=some u)(r:RelV v u)(hn:x ≠ "__name__" := by decide)(hd:(x==("__debug__" : Str))=false:=by decide):PE X (.Name x pos) (tC v):=
 λ_ _ _ H _ I h=>zc0 I hg hm hv ⟨v,H,I,r,h⟩ hn hd
variable{a b:Expr}{ta tb:TE}{pos:Pos}
def PC(X:Cx)(op:CmpOp)(a b:Expr)(t:TE):Prop:=
 ∀(pins:List (Addr×Obj)) (s:Shared) (U:St) (H:Hp) (Q:VK),Inv X pins U H s->t U H Q ->
  wpAny (model X.prog X.w) X.A (eval a X.env) (λv s₁=>wpAny (model X.prog X.w) X.A (eval b X.env) (λu s₂=>wpAny (model X.prog X.w) X.A (compareOp op v u) (EP X pins U Q) X.xe s₂) X.xe s₁) X.xe s
def zhK(b:Expr){op:CmpOp}(h:op≠.In)(h2:op≠.NotIn):behindInMarks op b=false:=by
 have e1:(op==CmpOp.In)=false:=by cases op<;>first|rfl|exact absurd O h
 have e2:(op==CmpOp.NotIn)=false:=by cases op<;>first|rfl|exact absurd O h2
 cases b<;>simp[behindInMarks,e1,e2]
def tIsN(ta:TE):TE:=λU H Q=>ta U H λx H1=>Q (.bl (decide (x=.non))) H1
def tNotN(ta:TE):TE:=λU H Q=>ta U H λx H1=>Q (.bl (!decide (x=.non))) H1
def RelV.none_iff{x:V}{v:Value}(r:RelV x v):(v==Value.none)=decide (x=.non):=by
 cases x with
 | non=>cases r;rfl
 | bl _=>cases r;rfl
 | int _=>obtain⟨t,rfl⟩:=r;rfl
 | str _=>obtain⟨t,rfl⟩:=r;rfl
 | byt _=>obtain⟨t,rfl⟩:=r;rfl
 | flt _=>obtain⟨t,rfl⟩:=r;rfl
 | ref _=>cases r;rfl
 | ty _=>cases r;rfl
def zb4{j pos'}(ha:PE X a ta):PC X .Is a (.Constant .none j pos') (tIsN ta):=by
 intro pins s U H Q I h
 refine thn (ha pins s U H _ I h) λv s1 hh_=>?_
 obtain⟨x,H1,I1,r1,q1⟩:=hh_
 exact Constant_none (is_none_gen {.bl _,H1,I1,by rw[r1.none_iff];rfl,q1})
def zcM{j pos'}(ha:PE X a ta):PC X .IsNot a (.Constant .none j pos') (tNotN ta):=by
 intro pins s U H Q I h
 refine thn (ha pins s U H _ I h) λv s1 hh_=>?_
 obtain⟨x,H1,I1,r1,q1⟩:=hh_
 exact Constant_none (isnot_none_gen {.bl _,H1,I1,by rw[r1.none_iff];rfl,q1})
inductive tB_1(Q:Bool->Hp->Prop)(x:V)(H1:Hp):Prop
 | mk c(_:x=.bl c)(_:Q c H1)
def tB(t:TE):TT:=λU H Q=>t U H (tB_1 Q)
def zfT{op:CmpOp}{t:TE}(h:PC X op a b t)(h1:behindInMarks op b=false:=by first|exact zhK _ (by decide) (by decide)|rfl):PE X (.Compare a [op] [b] pos) t:=λpins s U H Q I hw=>wpAny_Compare1 (h pins s U H Q I hw) h1
def zbz{op:CmpOp}{t:TE}(h:PC X op a b t)(h1:behindInMarks op b=false:=by first|exact zhK _ (by decide) (by decide)|rfl):PT X (.Compare a [op] [b] pos) (tB t):=by
 intro pins s U H Q I hw
 refine wpAny_isTrue_Compare1 (thn (h pins s U H _ I hw) λv s1 h1=>thn h1 λu s2 h2=>thn h2 λc s3 hh_=>?_) h1
 obtain⟨x,H1,I1,r1,q1⟩:=hh_
 obtain⟨d,rfl,q⟩:=q1
 cases r1
 exact XaX ⟨H1,I1,q⟩
def zaG{e:Expr}{t:TE}(h:PE X e t)(he:∀whole,isTrue e X.env whole=(do let v <- whole;standAt e.pos;holding [v] (truthy v)):=by intro _;rfl):PT X e (tB t):=by
 intro pins s U H Q I hw
 refine isTrue_plain (thn (h pins s U H _ I hw) λv s1 hh_=>?_) (he _)
 obtain⟨x,H1,I1,r1,q1⟩:=hh_
 obtain⟨d,rfl,q⟩:=q1
 cases r1
 exact XaX ⟨H1,I1,q⟩
variable{tA tB':TT}{rest:List Expr}
def tAnd(t u:TT):TT:=λU H Q=>t U H λc H1=>if c=true then u U H1 Q else Q false H1
def tOr(t u:TT):TT:=λU H Q=>t U H λc H1=>if c=true then Q true H1 else u U H1 Q
def tNot(t:TT):TT:=λU H Q=>t U H λc H1=>Q (!c) H1
def zfj(ha:PT X a tA):PW X (.BoolOp .And [a] pos) tA:=by
 intro wh pins s U H Q I h
 refine isTrue_and (thn (ha pins s U H Q I h) λc s1 e=>?_)
 cases c with
 | true=>exact isTrue_and_nil e
 | false=>exact e
def zby(ha:PT X a tA):PW X (.BoolOp .Or [a] pos) tA:=by
 intro wh pins s U H Q I h
 refine isTrue_or (thn (ha pins s U H Q I h) λc s1 e=>?_)
 cases c with
 | false=>exact isTrue_or_nil e
 | true=>exact e
def zhz(ha:PT X a tA)(hb:PW X (.BoolOp .And (b::rest) pos) tB'):PW X (.BoolOp .And (a::b::rest) pos) (tAnd tA tB'):=by
 intro wh pins s U H Q I h
 refine isTrue_and (thn (ha pins s U H _ I h) λc s1 ⟨H1,I1,q1⟩=>?_)
 cases c with
 | true=>exact hb wh pins s1 U H1 Q I1 q1
 | false=>exact⟨H1,I1,q1⟩
def zbX(ha:PT X a tA)(hb:PW X (.BoolOp .Or (b::rest) pos) tB'):PW X (.BoolOp .Or (a::b::rest) pos) (tOr tA tB'):=by
 intro wh pins s U H Q I h
 refine isTrue_or (thn (ha pins s U H _ I h) λc s1 ⟨H1,I1,q1⟩=>?_)
 cases c with
 | true=>exact⟨H1,I1,q1⟩
 | false=>exact hb wh pins s1 U H1 Q I1 q1
def zaO(ha:PT X a tA):PT X (.UnaryOp .Not a pos) (tNot tA):=by
 intro pins s U H Q I h
 exact isTrue_not (thn (ha pins s U H (λc H1=>Q (!c) H1) I h) λc s1 ⟨H1,I1,q1⟩=>⟨H1,I1,q1⟩)
inductive tAndV_1(tb:TE)(U:St)(Q:VK)(x:V)(H1:Hp):Prop
 | mk c(_:x=.bl c)(_:if c=true then tb U H1 Q else Q (.bl false) H1)
def tAndV(ta tb:TE):TE:=λU H Q=>ta U H (tAndV_1 tb U Q)
inductive tOrV_1(tb:TE)(U:St)(Q:VK)(x:V)(H1:Hp):Prop
 | mk c(_:x=.bl c)(_:if c=true then Q (.bl true) H1 else tb U H1 Q)
def tOrV(ta tb:TE):TE:=λU H Q=>ta U H (tOrV_1 tb U Q)
inductive tNotV_1(Q:VK)(x:V)(H1:Hp):Prop
 | mk c(_:x=.bl c)(_:Q (.bl (!c)) H1)
def tNotV(ta:TE):TE:=λU H Q=>ta U H (tNotV_1 Q)
def zbm{op}{t:TE}(h:PE X a t):PE X (.BoolOp op [a] pos) t:=λpins s U H Q I hw=>BoolOp_one (h pins s U H Q I hw)
def zbb(ha:PE X a ta)(hb:PE X (.BoolOp .And (b::rest) pos) tb):PE X (.BoolOp .And (a::b::rest) pos) (tAndV ta tb):=by
 intro pins s U H Q I h
 refine BoolOp_and (thn (ha pins s U H _ I h) λv s1 hh_=>?_)
 obtain⟨x,H1,I1,r1,q1⟩:=hh_
 obtain⟨c,rfl,q1⟩:=q1
 cases r1
 refine XaX ?_
 cases c with
 | true=>exact hb pins s1 U H1 Q I1 q1
 | false=>exact{.bl false,H1,I1,O,q1}
def pe_or(ha:PE X a ta)(hb:PE X (.BoolOp .Or (b::rest) pos) tb):PE X (.BoolOp .Or (a::b::rest) pos) (tOrV ta tb):=by
 intro pins s U H Q I h
 refine BoolOp_or (thn (ha pins s U H _ I h) λv s1 hh_=>?_)
 obtain⟨x,H1,I1,r1,q1⟩:=hh_
 obtain⟨c,rfl,q1⟩:=q1
 cases r1
 refine XaX ?_
 cases c with
 | false=>exact hb pins s1 U H1 Q I1 q1
 | true=>exact{.bl true,H1,I1,O,q1}
def zlF(ha:PE X a ta):PE X (.UnaryOp .Not a pos) (tNotV ta):=by
 intro pins s U H Q I h
 refine UnaryOp_ (thn (ha pins s U H _ I h) λv s1 hh_=>?_)
 obtain⟨x,H1,I1,r1,q1⟩:=hh_
 obtain⟨c,rfl,q1⟩:=q1
 cases r1
 exact not_of (XaX {.bl (!c),H1,I1,O,q1})
def tIf(t:TT)(ta tb:TE):TE:=λU H Q=>t U H λc H1=>if c=true then ta U H1 Q else tb U H1 Q
def zhC{c:Expr}(hc:PT X c tA)(ha:PE X a ta)(hb:PE X b tb):PE X (.IfExp c a b pos) (tIf tA ta tb):=by
 intro pins s U H Q I h
 refine wpAny_IfExp (thn (hc pins s U H _ I h) λd s1 ⟨H1,I1,q1⟩=>?_)
 cases d with
 | true=>exact ha pins s1 U H1 Q I1 q1
 | false=>exact hb pins s1 U H1 Q I1 q1
end
def SqL(K:W.Frag)(H:Hp)(a:Addr)(xs:List V):Prop:=
 Rd H a (.lst xs) \/
  ∃(o:Obj) (its:Array Value) (n:Nat),K.lookup a=some o/\o.cls=.type "list" /\ o.dict=none/\o.data=.seq its n/\its.size<=sizeLine/\Vals xs its.toList
def SqT(K:W.Frag)(H:Hp)(a:Addr)(xs:List V):Prop:=
 Rd H a (.tup xs) \/
  ∃(o:Obj) (its:Array Value) (n:Nat),K.lookup a=some o/\o.cls=.type "tuple" /\ o.data=.seq its n/\its.size<=sizeLine/\Vals xs its.toList
def absV:Value->Option V
 | .none=>some .non
 | .bool b=>some (.bl b)
 | .int i _=>some (.int i)
 | .str x _=>some (.str x)
 | .bytes b _=>some (.byt b)
 | .float b _=>some (.flt b)
 | .ref a=>some (.ref a)
 | .type n=>some (.ty n)
 | _=>none
def RelV.abs{x:V}{u:Value}(r:RelV x u):absV u=some x:=by
 cases x with
 | non=>cases r;rfl
 | bl _=>cases r;rfl
 | int _=>obtain⟨t,rfl⟩:=r;rfl
 | str _=>obtain⟨t,rfl⟩:=r;rfl
 | byt _=>obtain⟨t,rfl⟩:=r;rfl
 | flt _=>obtain⟨t,rfl⟩:=r;rfl
 | ref _=>cases r;rfl
 | ty _=>cases r;rfl
def RelV.inj{x y:V}{u:Value}(r:RelV x u)(q:RelV y u):x=y:=Option.some.inj (r.abs.symm.trans q.abs)
def Vals.inj:∀{xs ys:List V} {us:List Value},Vals xs us->Vals ys us->xs=ys
 | _,_,_,.nil,.nil=>rfl
 | _,_,_,.cons r t,.cons r' t'=>by rw[r.inj r',Vals.inj t t']
section
variable{X:Cx}{pins:List (Addr×Obj)}{U:St}{H:Hp}{s:Shared}{a:Addr}{xs ys:List V}
def SqL.of{K:W.Frag}(h:H a=some (.lst xs)):SqL K H a xs:=.inl (.inl h)
def SqT.of{K:W.Frag}(h:H a=some (.tup xs)):SqT K H a xs:=.inl (.inl h)
def Inv.list(I:Inv X pins U H s)(h:SqL X.K H a xs):∃its:List Value,Vals xs its/\PlainL s.heap a its.toArray/\xs.length<=sizeLine:=by
 rcases h with h|⟨o,its,n,hk,hc,hd,hs,hz,r⟩
 .obtain⟨z,its,n,r,e⟩:=h.ok I.hok
  exact{its,r,{_,n,e,O,O,O},z}
 .refine{its.toList,r,{o,n,I.kIn a o hk,hc,hd,by simpa using hs},?_}
  have e:=r.length
  simp only[Array.length_toList] at e
  omega
def Inv.tuple(I:Inv X pins U H s)(h:SqT X.K H a xs):∃its:List Value,Vals xs its/\IsTup s.heap a its.toArray/\xs.length<=sizeLine:=by
 rcases h with h|⟨o,its,n,hk,hc,hs,hz,r⟩
 .obtain⟨z,its,r,p⟩:=h.ok I.hok
  exact⟨its,r,p,z.1⟩
 .refine{its.toList,r,{o,I.kIn a o hk,hc,n,by simpa using hs},?_}
  have e:=r.length
  simp only[Array.length_toList] at e
  omega
def Inv.list_inj(I:Inv X pins U H s)(h:SqL X.K H a xs)(h':SqL X.K H a ys):xs=ys:=by
 obtain⟨its,r,⟨o,n,e,_,_,d⟩,_⟩:=I.list h
 obtain⟨its',r',⟨o',n',e',_,_,d'⟩,_⟩:=I.list h'
 rw[e] at e';cases e'
 rw[d] at d'
 injection d' with d1 _
 have:its=its':=by simpa using congrArg Array.toList d1
 subst this
 exact r.inj r'
def Inv.tuple_inj(I:Inv X pins U H s)(h:SqT X.K H a xs)(h':SqT X.K H a ys):xs=ys:=by
 obtain⟨its,r,⟨o,e,_,n,d⟩,_⟩:=I.tuple h
 obtain⟨its',r',⟨o',e',_,n',d'⟩,_⟩:=I.tuple h'
 rw[e] at e';cases e'
 rw[d] at d'
 injection d' with d1 _
 have:its=its':=by simpa using congrArg Array.toList d1
 subst this
 exact r.inj r'
end
abbrev Cx.wish(X:Cx)(E:Value->Shared->Prop):Cx:={X with xe:=E}
abbrev Cx.nox(X:Cx):Cx:=X.wish λ_ _=>False
def Cx.Ok.wish{X:Cx}(ok:X.Ok)(E:Value->Shared->Prop):(X.wish E).Ok:=
 ⟨ok.mod,ok.kind,ok.glob,ok.blt,ok.above,ok.inj,ok.has,ok.cab,ok.hd,ok.frames,ok.stk,ok.exf,ok.bs,ok.bsz,ok.noex,ok.exfs,ok.funs,ok.frf⟩
def Cx.Ok.unwish{X:Cx}{E:Value->Shared->Prop}(ok:(X.wish E).Ok):X.Ok:=
 ⟨ok.mod,ok.kind,ok.glob,ok.blt,ok.above,ok.inj,ok.has,ok.cab,ok.hd,ok.frames,ok.stk,ok.exf,ok.bs,ok.bsz,ok.noex,ok.exfs,ok.funs,ok.frf⟩
section
variable{X:Cx}{pins:List (Addr×Obj)}{U:St}{H:Hp}{s:Shared}{E:Value->Shared->Prop}
def Inv.wish(I:Inv X pins U H s)(E:Value->Shared->Prop):Inv (X.wish E) pins U H s:={I.ok.wish E,I.os,I.bare,I.base,I.loc,I.cell,I.free,I.freeC,I.pin,I.hok,I.len}
def Inv.unwish(I:Inv (X.wish E) pins U H s):Inv X pins U H s:=⟨I.ok.unwish,I.os,I.bare,I.base,I.loc,I.cell,I.free,I.freeC,I.pin,I.hok,I.len⟩
def SP.unwish{D:Ends}{f:Flow}{s':Shared}(h:SP (X.wish E) pins D f s'):SP X pins D f s':=by
 cases f with
 | next=>obtain⟨U',H',I,q⟩:=h;exact⟨U',H',I.unwish,q⟩
 | brk=>obtain⟨U',H',I,q⟩:=h;exact⟨U',H',I.unwish,q⟩
 | cont=>obtain⟨U',H',I,q⟩:=h;exact⟨U',H',I.unwish,q⟩
 | ret u=>obtain⟨v,U',H',I,r,q⟩:=h;exact⟨v,U',H',I.unwish,r,q⟩
def PT.nox{e:Expr}{t:TT}(h:PT X.nox e t):PT X e t:=λpins s U H Q I hw =>
 Xat (h pins s U H Q (I.wish _) hw) (λ_ _ ⟨H',I',q⟩=>⟨H',I'.unwish,q⟩) λ_ _ z=>False.elim z
def PSs.nox{st:List Stmt}{t:TS}(h:PSs X.nox st t):PSs X st t:=λpins s U H D I hw =>
 Xat (h pins s U H D (I.wish _) hw) (λ_ _ q=>q.unwish) λ_ _ z=>False.elim z
end
section
variable{X:Cx}{st:Stmt}{rest:List Stmt}{t u:TS}{e:Expr}{te:TE}{pos:Pos}
def tNext:TS:=λD U H=>D.nx U H
def tSeq(t u:TS):TS:=λD U H=>t {D with nx:=u D} U H
def zaq:PSs X [] tNext:=λ_ _ U H _ I h=>wpAny_execs_nil ⟨U,H,I,h⟩
def zab(h1:PS X st t)(h2:PSs X rest u):PSs X (st::rest) (tSeq t u):=by
 intro pins s U H D I h
 refine wpAny_execs_cons (thn (h1 pins s U H {D with nx:=u D} I h) λf s1 q=>?_)
 cases f with
 | next =>
  obtain⟨U',H',I',q⟩:=q
  exact h2 pins s1 U' H' D I' q
 | ret v=>exact q
 | brk=>exact q
 | cont=>exact q
def zaf(h1:PS X st t):PSs X [st] t:=by
 intro pins s U H D I h
 refine wpAny_execs_cons (thn (h1 pins s U H D I h) λf s1 q=>?_)
 cases f with
 | next=>exact wpAny_execs_nil q
 | ret v=>exact q
 | brk=>exact q
 | cont=>exact q
def Inv.quiet{pins:List (Addr×Obj)}{U:St}{H:Hp}{s:Shared}(I:Inv X pins U H s):interactive X.env=false:=by simp[interactive,I.ok.kind]
def tDrop(te:TE):TS:=λD U H=>te U H λ_ H1=>D.nx U H1
def zau(he:PE X e te)(hs:swapsWith e none pos.line X.env=pure false:=by rfl):PS X (.Expr e pos) (tDrop te):=by
 intro pins s U H D I h
 exact wpAny_Expr_any (thn (he pins s U H _ I h) λv s1 ⟨x,H1,I1,r1,q1⟩=>⟨U,H1,I1,q1⟩) I.quiet hs
def tRet(te:TE):TS:=λD U H=>te U H D.rt
def zap(he:PE X e te):PS X (.Return (some e) pos) (tRet te):=by
 intro pins s U H D I h
 exact wpAny_Return_some (thn (he pins s U H _ I h) λv s1 ⟨x,H1,I1,r1,q1⟩=>⟨x,U,H1,I1,r1,q1⟩)
def tIfS(c:TT)(t u:TS):TS:=λD U H=>c U H λb H1=>if b=true then t D U H1 else u D U H1
def zaB{c:Expr}{a b:List Stmt}{tc:TT}(hc:PT X c tc)(ha:PSs X a t)(hb:PSs X b u):PS X (.If c a b pos) (tIfS tc t u):=by
 intro pins s U H D I h
 refine wpAny_If (thn (hc pins s U H _ I h) λd s1 ⟨H1,I1,q1⟩=>?_)
 cases d with
 | true=>exact ha pins s1 U H1 D I1 q1
 | false=>exact hb pins s1 U H1 D I1 q1
def tNever:TS:=λ_ _ _=>False
def zaK:PS X st tNever:=λ_ _ _ _ _ _ h=>h.elim
end
abbrev TG:=V->St->Hp->(St->Hp->Prop)->Prop
abbrev TGs:=List V->St->Hp->(St->Hp->Prop)->Prop
def PG(X:Cx)(target:Expr)(t:TG):Prop:=
 ∀(pins:List (Addr×Obj)) (s:Shared) (U:St) (H:Hp) (v:V) (u:Value) (Q:St->Hp->Prop),Inv X pins U H s->RelV v u->t v U H Q ->
  wpAny (model X.prog X.w) X.A (assign target X.env u) (λ_ s'=>∃U' H',Inv X pins U' H' s'/\Q U' H') X.xe s
def PGs(X:Cx)(ts:List Expr)(t:TGs):Prop:=
 ∀(pins:List (Addr×Obj)) (s:Shared) (U:St) (H:Hp) (vs:List V) (us:List Value) (Q:St->Hp->Prop),Inv X pins U H s->Vals vs us->t vs U H Q ->
  wpAny (model X.prog X.w) X.A (assignInOrder ((assignEach ts X.env).map (·.2)) us) (λ_ s'=>∃U' H',Inv X pins U' H' s'/\Q U' H') X.xe s
abbrev TSet:=V->V->V->Hp->(Hp->Prop)->Prop
def PSet(X:Cx)(t:TSet):Prop:=
 ∀(pins:List (Addr×Obj)) (s:Shared) (U:St) (H:Hp) (o i v:V) (ov iv u:Value) (Q:Hp->Prop),Inv X pins U H s->RelV o ov->RelV i iv->RelV v u->t o i v H Q ->
  wpAny (model X.prog X.w) X.A (setItem ov iv u) (λ_ s'=>∃H',Inv X pins U H' s'/\Q H') X.xe s
abbrev TIp:=V->V->Hp->VK->Prop
def PIp(X:Cx)(op:Operator)(t:TIp):Prop:=
 ∀(pins:List (Addr×Obj)) (s:Shared) (U:St) (H:Hp) (x y:V) (v u:Value) (Q:VK),Inv X pins U H s->RelV x v->RelV y u->t x y H Q ->
  wpAny (model X.prog X.w) X.A (inplaceOp op v u) (EP X pins U Q) X.xe s
section
variable{X:Cx}{pos:Pos}
def zaY(i:Nat):TG:=λv U H Q=>Q (U.set i (some v)) H
def zjd{i:Nat}{x:Str}(hN:X.N.Nodup)(hi:X.N[i]?=some x)(hx:Loc X.env.scope x)(hf:X.fn x=true\/X.env.scope.names.lookup x=some .local:=by first|exact .inl O|exact .inr O|assumption):PG X (.Name x pos) (zaY i):=by
 intro pins s U H v u Q I r h
 exact wpAny_assign_Name (ze4 I hN hi hx r (λs' I'=>{_,H,I',h}) hf)
def gNil:TGs:=λvs U H Q=>vs=[]/\Q U H
inductive gCons(t:TG)(u:TGs)(vs:List V)(U:St)(H:Hp)(Q:St->Hp->Prop):Prop
 | mk v r(_:vs=v::r)(_:t v U H λU' H'=>u r U' H' Q)
def zaP:PGs X [] gNil:=by
 intro pins s U H vs us Q I r h
 obtain⟨e,h⟩:=h
 subst e
 cases r
 exact assignInOrder_nil ⟨U,H,I,h⟩
def zam{e:Expr}{es:List Expr}{t:TG}{u:TGs}(h1:PG X e t)(h2:PGs X es u)
  (hs:(assignEach (e::es) X.env).map (·.2)=assign e X.env::(assignEach es X.env).map (·.2):=by rfl):PGs X (e::es) (gCons t u):=by
 intro pins s U H vs us Q I r h
 obtain⟨v,vr,e1,h⟩:=h
 subst e1
 cases r with
 | cons r rr =>
  rw[hs]
  refine assignInOrder_cons (thn (h1 pins s U H _ _ _ I r h) λ_ s1 ⟨U1,H1,I1,q1⟩=>?_)
  exact h2 pins s1 U1 H1 _ _ Q I1 rr q1
inductive gTup(K:W.Frag)(n:Nat)(t:TGs)(v:V)(U:St)(H:Hp)(Q:St->Hp->Prop):Prop
 | mk a xs(_:v=.ref a)(_:SqT K H a xs)(_:xs.length=n)(_:t xs U H Q)
def zba{es:List Expr}{k:Nat}{t:TGs}{n:Nat}(hc:X.calm=true)(h:PGs X es t)
  (hn:(assignEach es X.env).length=n:=by rfl) (hst:(assignEach es X.env).findIdx? (·.1)=none:=by rfl):PG X (.Tuple es k pos) (gTup X.K n t):=by
 intro pins s U H v u Q I r hw
 obtain⟨a,xs,e1,hq,hl,hw⟩:=hw
 subst e1
 cases r
 obtain⟨its,rv,ht,hz⟩:=I.tuple hq
 refine assign_Tuple_tuple (I.ok.hd hc) ht (by simp[hn,<- hl,rv.length]) hst λh' hx=>?_
 have I1:Inv X pins U H {s with heap:=h'}:=I.kept (t':=s.toks) λb o e=>hx b o (Xaz (Xap e)) e
 exact h pins _ U H xs _ Q I1 (by simpa using rv) hw
def gSub(to ti:TE)(t:TSet):TG:=λv U H Q=>to U H λo H1=>ti U H1 λi H2=>t o i v H2 λH3=>Q U H3
def zjc{o i:Expr}{to ti:TE}{t:TSet}(ho:PE X o to)(hi:PE X i ti)(hs:PSet X t)
  (ha:∀v,assign (.Subscript o i pos) X.env v=(do
   let ov <- holding [v] (eval o X.env)
   let iv <- holding [v,ov] (eval i X.env)
   standAt pos
   holding [v,ov,iv] (setItem ov iv v)
   release [v,ov,iv] []):=by intro _;rfl):PG X (.Subscript o i pos) (gSub to ti t):=by
 intro pins s U H v u Q I r h
 rw[ha]
 refine Xaa (XaR (thn (ho pins s U H _ I h) λov s1 hh_=>?_))
 obtain⟨x,H1,I1,r1,q1⟩:=hh_
 refine Xaa (XaR (thn (hi pins s1 U H1 _ I1 q1) λiv s2 hh_=>?_))
 obtain⟨y,H2,I2,r2,q2⟩:=hh_
 refine Xaa (Xa3 (Xaa (XaR (thn (hs pins s2 U H2 x y v ov iv u _ I2 r1 r2 r q2) λ_ s3 ⟨H3,I3,q3⟩=>?_))))
 exact wpAny_release ⟨U,H3,I3,q3⟩
def tAsg(te:TE)(g:TG):TS:=λD U H=>te U H λx H1=>g x U H1 D.nx
def zbl{tg e:Expr}{te:TE}{g:TG}(he:PE X e te)(hg:PG X tg g)(hs:swapsWithSole [tg] e pos.line X.env=pure false:=by rfl)(hw:swappedStores [tg] e X.env=pure none:=by rfl)
  (h1:(assignEach [tg] X.env).map (·.2)=[assign tg X.env]:=by rfl):PS X (.Assign [tg] e pos) (tAsg te g):=by
 intro pins s U H D I h
 refine wpAny_Assign_stores (thn (he pins s U H _ I h) λv s1 hh_=>?_) hs hw
 obtain⟨x,H1,I1,r1,q1⟩:=hh_
 rw[h1]
 exact thn (hg pins s1 U H1 x v _ I1 r1 q1) λ_ s2 q=>q
def zlB{i:Nat}{x:Str}{e:Expr}{te:TE}{pos':Pos}(hN:X.N.Nodup)(hi:X.N[i]?=some x)(hx:Loc X.env.scope x)(he:PE X e te)(hs:swapsWith e (some (.Name x pos')) pos.line X.env=pure false:=by rfl)(hf:X.fn x=true\/X.env.scope.names.lookup x=some .local:=by first|exact .inl O|exact .inr O|assumption) :
  PS X (.Assign [.Name x pos'] e pos) (tAsg te (zaY i)):=by
 intro pins s U H D I h
 refine wpAny_Assign_Name (thn (he pins s U H _ I h) λv s1 hh_=>?_) hs
 obtain⟨y,H1,I1,r1,q1⟩:=hh_
 exact ze4 I1 hN hi hx r1 (λs2 I2=>{_,H1,I2,q1}) hf
inductive tAug(i:Nat)(te:TE)(ti:TIp)(D:Ends)(U:St)(H:Hp):Prop
 | mk x(_:U[i]?=some (some x))(_:te U H λy H1=>ti x y H1 λz H2=>D.nx (U.set i (some z)) H2)
def zlC{i:Nat}{x:Str}{e:Expr}{te:TE}{op:Operator}{ti:TIp}{pos':Pos}(hN:X.N.Nodup)(hi:X.N[i]?=some x)(hx:Loc X.env.scope x)(he:PE X e te)(ho:PIp X op ti)(hf:X.fn x=true\/X.env.scope.names.lookup x=some .local:=by first|exact .inl O|exact .inr O|assumption) :
  PS X (.AugAssign (.Name x pos') op e pos) (tAug i te ti):=by
 intro pins s U H D I h
 obtain⟨v,e1,h⟩:=h
 obtain⟨m,hn,hl⟩:=I.loc
 have vis:Vis X.env.scope x:=by rcases hx with k|k;exact .inl k;exact .inr (.inl k)
 obtain⟨u,r,l⟩:=hl i x v hi e1 vis
 refine wpAny_AugAssign_Name ?_
 have go:wpAny (model X.prog X.w) X.A (eval e X.env) (λw s₂=>wpAny (model X.prog X.w) X.A (inplaceOp op u w) (λr s₃=>wpAny (model X.prog X.w) X.A (storeName X.env x r) (λ_=>SP X pins D .next) X.xe s₃) X.xe s₂) X.xe s:=by
  refine thn (he pins s U H _ I h) λw s1 hh_=>?_
  obtain⟨y,H1,I1,r1,q1⟩:=hh_
  refine thn (ho pins s1 U H1 v y u w _ I1 r r1 q1) λz s2 hh_=>?_
  obtain⟨zv,H2,I2,r2,q2⟩:=hh_
  exact ze4 I2 hN hi hx r2 (λs3 I3=>{_,H2,I3,q2}) hf
 rcases l with⟨hk,hm⟩|⟨hk,c,hc,hcell⟩
 .exact wpAny_loadName_local I.ok.kind hk hn hm go
 .rcases hk with hk|hk
  .exact wpAny_loadName_cell I.ok.kind hk hc hcell go
  .rcases hx with k|k
   .have:X.env.scope.names.lookup x=some .free:=hk
    rw[k] at this;cases this
   .have:X.env.scope.names.lookup x=some .free:=hk
    rw[k] at this;cases this
end
section
variable{X:Cx}{pos:Pos}
def zlt(c:TT)(tb:TS):TS:=λD U H=>∃W:Nat->St->Hp->Prop,(∃m,W m U H)/\∀m U H,W m U H ->
 c U H λb H1=>if b=true then∃N:St->Hp->Prop,(∀U' H',N U' H'->∃m',m'<m/\W m' U' H')/\tb {D with nx:=N,ct:=N,bk:=D.nx} U H1 else D.nx U H1
def zdS{c:Expr}{body:List Stmt}{tc:TT}{tb:TS}(hp:PassesOwn (model X.prog X.w) X.A X.env X.xe)(hc:PT X c tc)(hb:PSs X body tb):PS X (.While c body [] pos) (zlt tc tb):=by
 intro pins s U H D I h
 obtain⟨W,⟨m0,w0⟩,turn⟩:=h
 refine wpAny_While (codeAny_whileLoop (λn s'=>∃U' H',Inv X pins U' H' s'/\W n U' H') ?_ m0 ⟨U,H,I,w0⟩)
 rintro n s1 ⟨U1,H1,I1,w1⟩
 refine XbB hp (thn (hc pins s1 U1 H1 _ I1 (turn n U1 H1 w1)) λb s2 ⟨H2,I2,q2⟩=>?_)
 cases b with
 | true =>
  obtain⟨N,hN,q2⟩:=q2
  rw[if_pos O]
  refine XbB hp (thn (hb pins s2 U1 H2 _ I2 q2) λf s3 q3=>?_)
  cases f with
  | next =>
   obtain⟨U3,H3,I3,n3⟩:=q3
   obtain⟨m',hm,w3⟩:=hN U3 H3 n3
   exact⟨m',hm,U3,H3,I3,w3⟩
  | cont =>
   obtain⟨U3,H3,I3,n3⟩:=q3
   obtain⟨m',hm,w3⟩:=hN U3 H3 n3
   exact⟨m',hm,U3,H3,I3,w3⟩
  | brk=>exact q3
  | ret v=>exact q3
 | false =>
  rw[if_neg Xal]
  exact wpAny_execs_nil ⟨U1,H2,I2,q2⟩
end
structure It where
 go:Nat->Hp->Prop
 yld:Nat->Hp->V->Hp->Prop
 stop:Nat->Hp->Prop
def FpOk(X:Cx)(pins:List (Addr×Obj))(H:Hp)(b:Addr):Prop:=
 H b=none/\b≠X.env.locals/\b∉X.fs/\(b∈X.ex\/X.s₀.heap.objs.size<=b)/\(∀x c,X.env.cells.lookup x=some c->c≠b)/\∀p∈X.pn++pins,p.1≠b
def Inv.fpOk{X:Cx}{pins:List (Addr×Obj)}{U:St}{H H':Hp}{s:Shared}{b:Addr}(I:Inv X pins U H s)(hb:s.heap.objs.size<=b)(hn:H' b=none):FpOk X pins H' b:=by
 refine{hn,XbA (Xaj I.lt hb),I.nofs hb,.inr (Xar I.sz hb),λx c e z=>?_,λp hp z=>?_}
 .obtain⟨v,q⟩:=I.cell x c e
  exact absurd (Xaj q.lt (by rw[z];exact hb)) (XaY _)
 .exact absurd (Xaj (Xap (I.pin p hp).1) (by rw[z];exact hb)) (XaY _)
structure Turn(P:Program)(w:World)(K:W.Frag)(tg:Expr)(J:It)(fp:List Addr)(it:Addr)(tn:Nat->Heap->Prop):Prop where
 mem:it∈fp
 obj:∀i h,tn i h->∀b∈fp,∃o,h.get? b=some o/\∀v,o.data≠.cell v
 keep:∀i h h',tn i h->(∀b∈fp,∀o,h.get? b=some o->h'.get? b=some o)->tn i h'
 item:∀(X:Cx),X.prog=P->X.w=w->X.K=K->X.calm=true->∀(i:Nat) (pins:List (Addr×Obj)) (s:Shared) (U:St) (H:Hp) (E:Value->Shared->Prop),Inv X pins U H s->(∀b∈fp,FpOk X pins H b)->tn i s.heap->J.go i H ->
  wpAny (model P w) X.A (pyNext (.ref it)) (λr s1=>∃u,r=some u /\
   wpAny (model P w) X.A (letOwnedTupleGo tg (.ref it) u) (λ_ s2=>∃x H',Inv X pins U H' s2/\RelV x u/\J.yld i H x H'/\tn (i+1) s2.heap/\∀b∈fp,H' b=none) E s1) E s
 done:∀(X:Cx),X.prog=P->X.w=w->X.K=K->X.calm=true->∀(i:Nat) (pins:List (Addr×Obj)) (s:Shared) (U:St) (H:Hp) (E:Value->Shared->Prop),Inv X pins U H s->(∀b∈fp,FpOk X pins H b)->tn i s.heap->J.stop i H ->
  wpAny (model P w) X.A (pyNext (.ref it)) (λr s1=>r=none/\Inv X pins U H s1) E s
 self:∀(A:Around) (i:Nat) (s:Shared) (Q:Value->Shared->Prop) (E:Value->Shared->Prop),tn i s.heap->Q (.ref it) s->wpAny (model P w) A (pyIter (.ref it)) Q E s
abbrev TI:=St->Hp->(It->Hp->Prop)->Prop
def PIE(X:Cx)(pins:List (Addr×Obj))(U:St)(tg:Expr)(R:It->Hp->Prop)(itv:Value)(s2:Shared):Prop:=
 ∃(it:Addr) (fp:List Addr) (tn:Nat->Heap->Prop) (J:It) (H':Hp),itv=.ref it/\Inv X pins U H' s2/\Turn X.prog X.w X.K tg J fp it tn/\tn 0 s2.heap/\(∀b∈fp,FpOk X pins H' b)/\R J H'
def PI(X:Cx)(tg iter:Expr)(wi:TI):Prop:=
 ∀(pins:List (Addr×Obj)) (s:Shared) (U:St) (H:Hp) (R:It->Hp->Prop),Inv X pins U H s->wi U H R ->
  wpAny (model X.prog X.w) X.A (eval iter X.env) (λv s1=>wpAny (model X.prog X.w) X.A (pyIter v) (PIE X pins U tg R) X.xe s1) X.xe s
def zjK{M:Model}{A:Around}{E:Value->Shared->Prop}{s:Shared}{tg:Expr}{it:Addr}{u:Value}{o:Obj}{n:String}{vs:Array Value}{Q:Unit->Shared->Prop}(ho:s.heap.get? it=some o)(hc:o.cls=.type n)(hd:o.data=.fields vs)
    (hn:["enumerate","zip","dict_itemiterator","dict_reverseitemiterator","odict_iterator","itertools.zip_longest","itertools.pairwise"].contains n=false) (hQ:Q () s):wpAny M A (letOwnedTupleGo tg (.ref it) u) Q E s:=by
  unfold letOwnedTupleGo
  cases tg<;>first
    | exact Xac hQ
    | (cases u<;>first
        | exact Xac hQ
        | (refine Xaa (wpAny_load ho ?_)
           rw[hc,hd]
           show wpAny M A (if(["enumerate","zip","dict_itemiterator","dict_reverseitemiterator","odict_iterator","itertools.zip_longest","itertools.pairwise"].contains n&&vs[0]?==some (rawInt _))=true then _ else _) Q E s
           rw[if_neg (by intro h;rw[hn,Bool.false_and] at h;cases h)]
           exact Xac hQ))
def Itl(K:W.Frag)(a:Addr):It:=
 {λi H=>∃xs x,SqL K H a xs/\xs[i]?=some x,λi H x H'=>H'=H/\∀xs,SqL K H a xs->xs[i]?=some x,λi H=>∃xs,SqL K H a xs/\xs.length<=i}
def Itt(K:W.Frag)(a:Addr):It:=
 {λi H=>∃xs x,SqT K H a xs/\xs[i]?=some x,λi H x H'=>H'=H/\∀xs,SqT K H a xs->xs[i]?=some x,λi H=>∃xs,SqT K H a xs/\xs.length<=i}
def Itr(lo:Int)(n:Nat):It:={λi _=>i<n,λi H x H'=>H'=H/\x=.int (lo+i),λi _=>n<=i}
def ziP{P:Program}{w:World}{K:W.Frag}{tg:Expr}(a it:Addr):Turn P w K tg (Itl K a) [it] it (λi h=>h.IsListIter it a i) where
 mem:=by simp
 obj:=λi h st b hb=>by
  have e:b=it:=by simpa using hb
  subst e
  obtain⟨o,e,c,d⟩:=st
  exact{o,e,λv z=>by rw[d] at z;cases z}
 keep:=λi h h' st k=>st.at λo e=>k it (by simp) o e
 item:=by
  intro X hP hw hK hc i pins s U H E I hf st hg
  subst hP hw hK
  obtain⟨xs,x,hq,hx⟩:=hg
  obtain⟨its,rv,p,hz⟩:=I.list hq
  obtain⟨u,hu,ru⟩:=rv.get hx
  obtain⟨f0,f1,f2,f3,f4,f5⟩:=hf it (by simp)
  refine wpAny_pyNext_list_item st p.isList (x:=u) (by simpa using hu) λh' st' sb=>?_
  have I1:Inv X pins U H {s with heap:=h'}:=I.turned (t':=s.toks) (λb o hb e=>(sb.2 b hb).trans e) f0 f1 f3 f4 f5
  obtain⟨o,e,c,d⟩:=id st'
  exact{u,O,zjK (s:={s with heap:=h'}) e c d (by decide) {x,H,I1,ru,{O,λys hy=>by rw[I.list_inj hy hq];exact hx},st',λb hb=>(hf b hb).1}}
 done:=by
  intro X hP hw hK hc i pins s U H E I hf st hg
  subst hP hw hK
  obtain⟨xs,hq,hx⟩:=hg
  obtain⟨its,rv,p,hz⟩:=I.list hq
  obtain⟨f0,f1,f2,f3,f4,f5⟩:=hf it (by simp)
  have hl:=rv.length
  exact wpAny_pyNext_list_end (I.ok.hd hc) st p.isList (by simp;omega) λh' eb=>{O,I.turned (t':=s.toks) (λb o hb e=>eb b o hb e) f0 f1 f3 f4 f5}
 self:=λ_ _ _ _ _ st h=>wpAny_pyIter_listiter st h
def zh0{P:Program}{w:World}{K:W.Frag}{tg:Expr}(a it:Addr):Turn P w K tg (Itt K a) [it] it (λi h=>h.IsTupleIter it a i) where
 mem:=by simp
 obj:=λi h st b hb=>by
  have e:b=it:=by simpa using hb
  subst e
  obtain⟨o,e,c,d⟩:=st
  exact{o,e,λv z=>by rw[d] at z;cases z}
 keep:=λi h h' st k=>st.at λo e=>k it (by simp) o e
 item:=by
  intro X hP hw hK hc i pins s U H E I hf st hg
  subst hP hw hK
  obtain⟨xs,x,hq,hx⟩:=hg
  obtain⟨its,rv,p,hz⟩:=I.tuple hq
  obtain⟨u,hu,ru⟩:=rv.get hx
  obtain⟨f0,f1,f2,f3,f4,f5⟩:=hf it (by simp)
  refine wpAny_pyNext_tuple_item st (show s.heap.IsTuple a its.toArray from p) (x:=u) (by simpa using hu) λh' st' sb=>?_
  have I1:Inv X pins U H {s with heap:=h'}:=I.turned (t':=s.toks) (λb o hb e=>(sb.2 b hb).trans e) f0 f1 f3 f4 f5
  obtain⟨o,e,c,d⟩:=id st'
  exact{u,O,zjK (s:={s with heap:=h'}) e c d (by decide) {x,H,I1,ru,{O,λys hy=>by rw[I.tuple_inj hy hq];exact hx},st',λb hb=>(hf b hb).1}}
 done:=by
  intro X hP hw hK hc i pins s U H E I hf st hg
  subst hP hw hK
  obtain⟨xs,hq,hx⟩:=hg
  obtain⟨its,rv,p,hz⟩:=I.tuple hq
  obtain⟨f0,f1,f2,f3,f4,f5⟩:=hf it (by simp)
  have hl:=rv.length
  exact wpAny_pyNext_tuple_end (I.ok.hd hc) st (show s.heap.IsTuple a its.toArray from p) (by simp;omega) λh' eb=>{O,I.turned (t':=s.toks) (λb o hb e=>eb b o hb e) f0 f1 f3 f4 f5}
 self:=λ_ _ _ _ _ st h=>wpAny_pyIter_tupleiter st h
def zh1{P:Program}{w:World}{K:PySem.W.Frag}{tg:Expr}(it:Addr)(lo:Int)(n:Nat):Turn P w K tg (Itr lo n) [it] it (λi h=>IsRangeIter h it (lo+(i:Nat)*1) ((n:Int)-(i:Nat)) 1) where
 mem:=by simp
 obj:=λi h st b hb=>by
  have e:b=it:=by simpa using hb
  subst e
  exact⟨_,st,λv z=>by
   have z':Data.fields _=Data.cell v:=z
   cases z'⟩
 keep:=λi h h' st k=>k it (by simp) _ st
 item:=by
  intro X hP hw hK hc i pins s U H E I hf st hg
  subst hP hw hK
  obtain⟨f0,f1,f2,f3,f4,f5⟩:=hf it (by simp)
  have W:=Walks.range (prog:=X.prog) (w:=X.w) (I.ok.hd hc) it lo 1 n
  refine W.item i s _ _ hg st λv h' tk hv st' kk=>?_
  obtain⟨t,rfl⟩:=hv
  have I1:Inv X pins U H {s with heap:=h',toks:=tk}:=I.turned (λb o hb e=>kk b o (by simpa using hb) e) f0 f1 f3 f4 f5
  refine{_,O,zjK (s:={s with heap:=h',toks:=tk}) (n := "range_iterator") st' O O (by decide) {.int (lo+i),H,I1,{t,?_},⟨O,O⟩,st',λb hb=>(hf b hb).1}}
  rw[Int.mul_one]
 done:=by
  intro X hP hw hK hc i pins s U H E I hf st hg
  subst hP hw hK
  obtain⟨f0,f1,f2,f3,f4,f5⟩:=hf it (by simp)
  exact wpAny_pyNext_range_end (I.ok.hd hc) st (by have:n<=i:=hg;omega) λh' eb=>{O,I.turned (t':=s.toks) (λb o hb e=>eb b o hb e) f0 f1 f3 f4 f5}
 self:=λ_ _ _ _ _ st h=>wpAny_pyIter_rangeiter st h
section
variable{X:Cx}{tg:Expr}
inductive iList_1(K:W.Frag)(R:It->Hp->Prop)(x:V)(H1:Hp):Prop
 | mk a(_:x=.ref a)(_:(∃xs,SqL K H1 a xs))(_:R (Itl K a) H1)
def iList(K:W.Frag)(tl:TE):TI:=λU H R=>tl U H (iList_1 K R)
inductive iTup_1(K:W.Frag)(R:It->Hp->Prop)(x:V)(H1:Hp):Prop
 | mk a(_:x=.ref a)(_:(∃xs,SqT K H1 a xs))(_:R (Itt K a) H1)
def iTup(K:W.Frag)(tl:TE):TI:=λU H R=>tl U H (iTup_1 K R)
def zcg{l:Expr}{tl:TE}(hl:PE X l tl):PI X tg l (iList X.K tl):=by
 intro pins s U H R I h
 refine thn (hl pins s U H _ I h) λv s1 hh_=>?_
 obtain⟨x,H1,I1,r1,q1⟩:=hh_
 obtain⟨a,e,⟨xs,hq⟩,q⟩:=q1
 subst e
 cases r1
 obtain⟨its,rv,p,hz⟩:=I1.list hq
 refine wpAny_pyIter_list p.isList ?_
 refine{s1.heap.objs.size,[s1.heap.objs.size],_,_,H1,O,I1.kept (t':=s1.toks) λb o e=>Xab _ e,ziP a _,{_,Xai _ O,O,O},λb hb=>?_,q}
 have e:b=s1.heap.objs.size:=by simpa using hb
 subst e
 exact I1.fpOk (Xae _) (I1.hok.fresh (Xae _))
def zlE{l:Expr}{tl:TE}(hl:PE X l tl):PI X tg l (iTup X.K tl):=by
 intro pins s U H R I h
 refine thn (hl pins s U H _ I h) λv s1 hh_=>?_
 obtain⟨x,H1,I1,r1,q1⟩:=hh_
 obtain⟨a,e,⟨xs,hq⟩,q⟩:=q1
 subst e
 cases r1
 obtain⟨its,rv,p,hz⟩:=I1.tuple hq
 refine XbS (show s1.heap.IsTuple a its.toArray from p) ?_
 refine{s1.heap.objs.size,[s1.heap.objs.size],_,_,H1,O,I1.kept (t':=s1.toks) λb o e=>Xab _ e,zh0 a _,{_,Xai _ O,O,O},λb hb=>?_,q}
 have e:b=s1.heap.objs.size:=by simpa using hb
 subst e
 exact I1.fpOk (Xae _) (I1.hok.fresh (Xae _))
def zkD{pins:List (Addr×Obj)}{U:St}{H:Hp}{s:Shared}{R:It->Hp->Prop}{E:Value->Shared->Prop}{lo hi:Int}{t u v:Tok}{tk:Nat}(I:Inv X pins U H s)(h1:-(2 ^ 62)<=lo)(h2:lo<2 ^ 62)(h3:-(2 ^ 62)<=hi)(h4:hi<2 ^ 62)
  (q:R (Itr lo (hi-lo).toNat) H):wpAny (model X.prog X.w) X.A (pyIter (.ref s.heap.objs.size)) (PIE X pins U tg R) E {s with heap:=s.heap.push {cls:=.type "range",data:=.fields #[.int lo t,.int hi u,.int 1 v]},toks:=tk}:=by
 refine wpAny_pyIter_range (IsRange.new ..) (small_one h1 h2 h3 h4) ?_
 have I1:Inv X pins U H {s with heap:=s.heap.push {cls:=.type "range",data:=.fields #[.int lo t,.int hi u,.int 1 v]},toks:=tk}:=I.kept λb o e=>Xab _ e
 refine⟨(s.heap.push {cls:=.type "range",data:=.fields #[.int lo t,.int hi u,.int 1 v]}).objs.size,[(s.heap.push {cls:=.type "range",data:=.fields #[.int lo t,.int hi u,.int 1 v]}).objs.size],_,_,H,O,
  I1.kept (t':=tk) λb o e=>Xab _ e,zh1 _ lo (hi-lo).toNat,?_,λb hb=>?_,q⟩
 .have e1:lo+((0:Nat):Int)*1=lo:=by simp
  have e2:(((hi-lo).toNat:Nat):Int)-((0:Nat):Int)=Builtin.Range.rangeSize lo hi 1:=by rw[rangeSize_one];split<;>omega
  show IsRangeIter _ _ (lo+((0:Nat):Int)*1) ((((hi-lo).toNat:Nat):Int)-((0:Nat):Int)) 1
  rw[e1,e2]
  exact Xai _ O
 .have e:b=(s.heap.push {cls:=.type "range",data:=.fields #[.int lo t,.int hi u,.int 1 v]}).objs.size:=by simpa using hb
  subst e
  exact I1.fpOk (Xae _) (I1.hok.fresh (Xae _))
inductive iRng1_1(R:It->Hp->Prop)(vs:List V)(H1:Hp):Prop
 | mk (j:Int)(_:vs=[.int j])(_:-(2 ^ 62)<=j)(_:j<2 ^ 62)(_:R (Itr 0 j.toNat) H1)
def iRng1(ta:TA):TI:=λU H R=>ta U H (iRng1_1 R)
def zcf{a:Expr}{ta:TA}{p pos:Pos}(hg:Gl X "range")(hm:X.mg "range"=none)(ha:PA X [a] ta)(hs:starEach [a] X.env=[(false,eval a X.env)]:=by rfl):PI X tg (.Call (.Name "range" p) [a] [] pos) (iRng1 ta):=by
 intro pins s U H R I h
 refine Call_ (zc0 I hg hm boot_range (PyProof.Rows.callWith_type1 (thn (ha pos pins s U H _ I h) λus s1 hh_=>?_) hs O))
 obtain⟨vs,H1,I1,r1,q1⟩:=hh_
 obtain⟨j,e,q1,q2,q⟩:=q1
 subst e
 cases r1 with
 | cons r rr =>
  cases rr
  obtain⟨t,rfl⟩:=r
  exact call_range_1 (zkD I1 (by omega) (by omega) q1 q2 (by simpa using q))
def tFor(wi:TI)(g:TG)(tb:TS):TS:=λD U H=>wi U H λJ H1=>∃W:Nat->Nat->St->Hp->Prop,(∃m,W 0 m U H1)/\∀i m U H,W i m U H ->
 (J.stop i H/\D.nx U H)\/(J.go i H/\∃N:St->Hp->Prop,(∀U' H',N U' H'->∃m',m'<m/\W (i+1) m' U' H')/\∀x H',J.yld i H x H'->g x U H' λU2 H2=>tb {D with nx:=N,ct:=N,bk:=D.nx} U2 H2)
def zfR(fp:List Addr)(h:Heap):List (Addr×Obj):=fp.filterMap λb=>(h.get? b).map λo=>(b,o)
def zcq{fp:List Addr}{h:Heap}{b:Addr}{o:Obj}(hb:b∈fp)(e:h.get? b=some o):(b,o)∈zfR fp h:=List.mem_filterMap.mpr {b,hb,by rw[e];rfl}
def zjr{fp:List Addr}{h:Heap}{p:Addr×Obj}(hp:p∈zfR fp h):p.1∈fp/\h.get? p.1=some p.2:=by
 obtain⟨b,hb,e⟩:=List.mem_filterMap.mp hp
 cases q:h.get? b with
 | none=>rw[q] at e;cases e
 | some o =>
  rw[q] at e
  have e':(b,o)=p:=Option.some.inj e
  subst e'
  exact⟨hb,q⟩
def Inv.pinned{pins:List (Addr×Obj)}{U:St}{H:Hp}{s:Shared}{fp:List Addr}(I:Inv X pins U H s)(hf:∀b∈fp,FpOk X pins H b)(ho:∀b∈fp,∃o,s.heap.get? b=some o/\∀v,o.data≠.cell v):Inv X (pins++zfR fp s.heap) U H s:=
 I.pins_of λp hp=>(XaI.mp hp).elim (λz=>I.pin p (XaB _ z)) λz=>by
  obtain⟨hb,e⟩:=zjr z
  obtain⟨f0,f1,f2,_⟩:=hf p.1 hb
  obtain⟨o,e',d⟩:=ho p.1 hb
  rw[e] at e';cases e'
  exact⟨e,f0,f1,f2,d⟩
def Inv.unpinned{pins pl:List (Addr×Obj)}{U:St}{H:Hp}{s:Shared}(I:Inv X (pins++pl) U H s):Inv X pins U H s:=I.pins_of λp hp=>I.pin p (XaB _ (XbI _ hp))
def zbE{iter:Expr}{body:List Stmt}{wi:TI}{g:TG}{tb:TS}{pos:Pos}(hp:PassesOwn (model X.prog X.w) X.A X.env X.xe)(hc:X.calm=true)(hi:PI X tg iter wi)(hg:PG X tg g)(hb:PSs X body tb)
  (hs:∀x,foldedSetIterable iter X.env x=pure x:=by intro _;rfl):PS X (.For tg iter body [] pos) (tFor wi g tb):=by
 intro pins s U H D I h
 refine wpAny_For (thn (hi pins s U H _ I h) λv s1 h1=>thn h1 λitv s2 h2=>?_) hs
 obtain⟨it,fp,tn,J,H2,e,I2,T,st2,f2,W,⟨m0,w0⟩,turn⟩:=h2
 subst e
 
 have stat:∀{H':Hp},(∀b∈fp,H' b=none)->∀b∈fp,FpOk X pins H' b:=λhn b hb=>{hn b hb,(f2 b hb).2}
 refine codeAny_forLoop_any (λn s'=>∃i U' H',Inv X pins U' H' s'/\tn i s'.heap/\(∀b∈fp,H' b=none)/\W i n U' H') ?_ m0 {0,U,H2,I2,st2,λb hb=>(f2 b hb).1,w0}
 rintro n s3 ⟨i,U3,H3,I3,st3,fr3,w3⟩
 rcases turn i n U3 H3 w3 with⟨stop,qn⟩|⟨go,N,hN,step⟩
 .refine XbB hp (thn (T.done X O O O hc i pins s3 U3 H3 X.xe I3 (stat fr3) st3 stop) λr s4 ⟨hr,I4⟩=>?_)
  subst hr
  exact wpAny_execs_nil ⟨U3,H3,I4,qn⟩
 .refine XbB hp (thn (T.item X O O O hc i pins s3 U3 H3 X.xe I3 (stat fr3) st3 go) λr s4 ⟨u,hr,h4⟩=>?_)
  subst hr
  refine XbB hp (thn h4 λ_ s5 hh_=>?_)
  obtain⟨x,H5,I5,r5,y5,st5,fr5⟩:=hh_
  have I5':=I5.pinned (stat fr5) (T.obj _ _ st5)
  refine XbB hp (thn (hg _ s5 U3 H5 x u _ I5' r5 (step x H5 y5)) λ_ s6 ⟨U6,H6,I6,q6⟩=>?_)
  refine XbB hp (thn (hb _ s6 U6 H6 _ I6 q6) λf s7 q7=>?_)
  have again:∀{U7:St} {H7:Hp},Inv X (pins++zfR fp s5.heap) U7 H7 s7->N U7 H7->∃m,m<n/\∃i U' H',Inv X pins U' H' s7/\tn i s7.heap/\(∀b∈fp,H' b=none)/\W i m U' H':=λ{U7 H7} I7 n7=>by
   obtain⟨m',hm,w7⟩:=hN U7 H7 n7
   refine{m',hm,i+1,U7,H7,I7.unpinned,T.keep _ _ _ st5 λb hb o e=>(I7.pin (b,o) (XaB _ (XaB _ (zcq hb e)))).1,λb hb=>?_,w7}
   obtain⟨o,e,d⟩:=T.obj _ _ st5 b hb
   exact(I7.pin (b,o) (XaB _ (XaB _ (zcq hb e)))).2.1
  cases f with
  | next=>obtain⟨U7,H7,I7,n7⟩:=q7;exact again I7 n7
  | cont=>obtain⟨U7,H7,I7,n7⟩:=q7;exact again I7 n7
  | brk=>obtain⟨U7,H7,I7,q7⟩:=q7;exact⟨U7,H7,I7.unpinned,q7⟩
  | ret v=>obtain⟨x7,U7,H7,I7,r7,q7⟩:=q7;exact⟨x7,U7,H7,I7.unpinned,r7,q7⟩
end
def zdV{K:PySem.W.Frag}{a:Addr}{xs:List V}{g:TG}{tb:TS}{D:Ends}{U:St}{H:Hp}(Pv:Nat->St->Hp->Prop)(h0:Pv 0 U H)(hl:∀i U H,i<=xs.length->Pv i U H->SqL K H a xs)
  (hs:∀i x U H,xs[i]?=some x->Pv i U H->g x U H λU2 H2=>tb {D with nx:=Pv (i+1),ct:=Pv (i+1),bk:=D.nx} U2 H2) (hd:∀U H,Pv xs.length U H->D.nx U H) :
  ∃W:Nat->Nat->St->Hp->Prop,(∃m,W 0 m U H)/\∀i m U H,W i m U H ->
   ((Itl K a).stop i H/\D.nx U H)\/((Itl K a).go i H/\∃N:St->Hp->Prop,(∀U' H',N U' H'->∃m',m'<m/\W (i+1) m' U' H')/\∀x H',(Itl K a).yld i H x H'->g x U H' λU2 H2=>tb {D with nx:=N,ct:=N,bk:=D.nx} U2 H2):=by
 refine{λi m U H=>m=xs.length-i/\i<=xs.length/\Pv i U H,{xs.length,by simp,Nat.zero_le _,h0},?_}
 rintro i m U H ⟨rfl,hi,p⟩
 have q:=hl i U H hi p
 by_cases hlt:i<xs.length
 .refine .inr {{xs,xs[i],q,by simp[hlt]},Pv (i+1),λU' H' p'=>{xs.length-(i+1),by omega,O,hlt,p'},λx H' y=>?_}
  obtain⟨e,y⟩:=y
  subst e
  exact hs i x U _ (y xs q) p
 .have e:i=xs.length:=by omega
  subst e
  exact .inl {{xs,q,Xae _},hd U H p}
def zez{lo:Int}{n:Nat}{g:TG}{tb:TS}{D:Ends}{U:St}{H:Hp}(Pv:Nat->St->Hp->Prop)(h0:Pv 0 U H)
  (hs:∀i U H,i<n->Pv i U H->g (.int (lo+i)) U H λU2 H2=>tb {D with nx:=Pv (i+1),ct:=Pv (i+1),bk:=D.nx} U2 H2) (hd:∀U H,Pv n U H->D.nx U H) :
  ∃W:Nat->Nat->St->Hp->Prop,(∃m,W 0 m U H)/\∀i m U H,W i m U H ->
   ((Itr lo n).stop i H/\D.nx U H)\/((Itr lo n).go i H/\∃N:St->Hp->Prop,(∀U' H',N U' H'->∃m',m'<m/\W (i+1) m' U' H')/\∀x H',(Itr lo n).yld i H x H'->g x U H' λU2 H2=>tb {D with nx:=N,ct:=N,bk:=D.nx} U2 H2):=by
 refine{λi m U H=>m=n-i/\i<=n/\Pv i U H,{n,by simp,Nat.zero_le _,h0},?_}
 rintro i m U H ⟨rfl,hi,p⟩
 by_cases hlt:i<n
 .refine .inr {hlt,Pv (i+1),λU' H' p'=>{n-(i+1),by omega,O,hlt,p'},λx H' y=>?_}
  obtain⟨e,y⟩:=y
  subst e y
  exact hs i U _ hlt p
 .have e:i=n:=by omega
  subst e
  exact .inl {Xae _,hd U H p}
def zdR{c:TT}{tb:TS}{D:Ends}{U:St}{H:Hp}(Pv:St->Hp->Prop)(μ:St->Hp->Nat)(h0:Pv U H)
  (hs:∀U H,Pv U H->c U H λb H1=>if b=true then tb {D with nx:=λU' H'=>Pv U' H'/\μ U' H'<μ U H,ct:=λU' H'=>Pv U' H'/\μ U' H'<μ U H,bk:=D.nx} U H1 else D.nx U H1)
  (mono:∀U H Q Q',(∀b H1,Q b H1->Q' b H1)->c U H Q->c U H Q'):zlt c tb D U H:=by
 refine{λm U H=>m=μ U H/\Pv U H,{_,O,h0},?_}
 rintro m U H ⟨rfl,p⟩
 refine mono U H _ _ (λb H1 q=>?_) (hs U H p)
 cases b with
 | true=>exact{_,λU' H' ⟨p',l⟩=>{_,l,O,p'},q}
 | false=>exact q
abbrev R2:=V->V->Hp->VK->Prop
def OpR(X:Cx)(f:Value->Value->Sem Value)(r:R2):Prop:=
 ∀(pins:List (Addr×Obj)) (s:Shared) (U:St) (H:Hp) (x y:V) (v u:Value) (Q:VK),Inv X pins U H s->RelV x v->RelV y u->r x y H Q ->
  wpAny (model X.prog X.w) X.A (f v u) (EP X pins U Q) X.xe s
def UnR(X:Cx)(f:Value->Sem Value)(r:V->Hp->VK->Prop):Prop:=
 ∀(pins:List (Addr×Obj)) (s:Shared) (U:St) (H:Hp) (x:V) (v:Value) (Q:VK),Inv X pins U H s->RelV x v->r x H Q ->
  wpAny (model X.prog X.w) X.A (f v) (EP X pins U Q) X.xe s
def zcR(X:Cx)(f:Value)(r:List V->Hp->VK->Prop):Prop:=
 ∀(pins:List (Addr×Obj)) (s:Shared) (U:St) (H:Hp) (xs:List V) (us:List Value) (Q:VK),Inv X pins U H s->Vals xs us->r xs H Q ->
  wpAny (model X.prog X.w) X.A (call f us) (EP X pins U Q) X.xe s
def TruR(X:Cx)(r:V->Hp->(Bool->Hp->Prop)->Prop):Prop:=
 ∀(pins:List (Addr×Obj)) (s:Shared) (U:St) (H:Hp) (x:V) (v:Value) (Q:Bool->Hp->Prop),Inv X pins U H s->RelV x v->r x H Q ->
  wpAny (model X.prog X.w) X.A (truthy v) (TP X pins U Q) X.xe s
def tOp(r:R2)(ta tb:TE):TE:=λU H Q=>ta U H λx H1=>tb U H1 λy H2=>r x y H2 Q
def tUn(r:V->Hp->VK->Prop)(ta:TE):TE:=λU H Q=>ta U H λx H1=>r x H1 Q
inductive rI(C:Int->Int->Prop)(g:Int->Int->V)(x:V)(y:V)(H:Hp)(Q:VK):Prop
 | mk i j(_:x=.int i)(_:y=.int j)(_:C i j)(_:Q (g i j) H)
inductive rI0(g:Int->Int->V)(x:V)(y:V)(H:Hp)(Q:VK):Prop
 | mk i j(_:x=.int i)(_:y=.int j)(_:Q (g i j) H)
inductive rU(g:Int->V)(x:V)(H:Hp)(Q:VK):Prop
 | mk i(_:x=.int i)(_:Q (g i) H)
section
variable{X:Cx}{a b c:Expr}{ta tb tc:TE}{pos:Pos}
def binT(ha:PE X a ta)(hb:PE X b tb){pins:List (Addr×Obj)}{s:Shared}{U:St}{H:Hp}{R:V->V->Hp->Prop}(I:Inv X pins U H s)
  (h:ta U H λx H1=>tb U H1 λy H2=>R x y H2) {Q:Value->Shared->Prop} {f:Value->Value->Sem Value}
  (hf:∀v u s2 x y H2,Inv X pins U H2 s2->RelV x v->RelV y u->R x y H2->wpAny (model X.prog X.w) X.A (f v u) Q X.xe s2) :
  wpAny (model X.prog X.w) X.A (eval a X.env) (λv s₁=>wpAny (model X.prog X.w) X.A (eval b X.env) (λu s₂=>wpAny (model X.prog X.w) X.A (f v u) Q X.xe s₂) X.xe s₁) X.xe s:=by
 refine thn (ha pins s U H _ I h) λv s1 hh_=>?_
 obtain⟨x,H1,I1,r1,q1⟩:=hh_
 refine thn (hb pins s1 U H1 _ I1 q1) λu s2 hh_=>?_
 obtain⟨y,H2,I2,r2,q2⟩:=hh_
 exact hf v u s2 x y H2 I2 r1 r2 q2
def zak{op:Operator}{r:R2}(ho:OpR X (binaryOp op) r)(ha:PE X a ta)(hb:PE X b tb):PE X (.BinOp a op b pos) (tOp r ta tb):=by
 intro pins s U H Q I h
 exact wpAny_BinOp (binT ha hb I h λv u s2 x y H2 I2 rx ry q=>ho pins s2 U H2 x y v u Q I2 rx ry q)
def pe_un{op:UnaryOp}{r:V->Hp->VK->Prop}(ho:UnR X (unaryOp op) r)(ha:PE X a ta):PE X (.UnaryOp op a pos) (tUn r ta):=by
 intro pins s U H Q I h
 exact UnaryOp_ (thn (ha pins s U H _ I h) λv s1 ⟨x,H1,I1,r1,q1⟩=>ho pins s1 U H1 x v Q I1 r1 q1)
def opI{f:Value->Value->Sem Value}{C:Int->Int->Prop}{g:Int->Int->Int}
  (rule:∀(i j:Int) (t u:Tok) (s:Shared) (Q:Value->Shared->Prop) (E:Value->Shared->Prop),C i j->Q (.int (g i j) s.toks) {s with toks:=s.toks+1}->wpAny (model X.prog X.w) X.A (f (.int i t) (.int j u)) Q E s) :
  OpR X f (rI C λi j=>.int (g i j)):=by
 intro pins s U H x y v u Q I rx ry h
 obtain⟨i,j,rfl,rfl,hc,q⟩:=h
 obtain⟨t,rfl⟩:=rx
 obtain⟨t',rfl⟩:=ry
 exact rule i j t t' s _ _ hc {.int (g i j),H,I.tok _,{_,O},q}
def opI0{f:Value->Value->Sem Value}{g:Int->Int->Int}
  (rule:∀(i j:Int) (t u:Tok) (s:Shared) (Q:Value->Shared->Prop) (E:Value->Shared->Prop),Q (.int (g i j) s.toks) {s with toks:=s.toks+1}->wpAny (model X.prog X.w) X.A (f (.int i t) (.int j u)) Q E s) :
  OpR X f (rI0 λi j=>.int (g i j)):=by
 intro pins s U H x y v u Q I rx ry h
 obtain⟨i,j,rfl,rfl,q⟩:=h
 obtain⟨t,rfl⟩:=rx
 obtain⟨t',rfl⟩:=ry
 exact rule i j t t' s _ _ {.int (g i j),H,I.tok _,{_,O},q}
def opB0{f:Value->Value->Sem Value}{g:Int->Int->Bool}
  (rule:∀(i j:Int) (t u:Tok) (s:Shared) (Q:Value->Shared->Prop) (E:Value->Shared->Prop),Q (.bool (g i j)) s->wpAny (model X.prog X.w) X.A (f (.int i t) (.int j u)) Q E s) :
  OpR X f (rI0 λi j=>.bl (g i j)):=by
 intro pins s U H x y v u Q I rx ry h
 obtain⟨i,j,rfl,rfl,q⟩:=h
 obtain⟨t,rfl⟩:=rx
 obtain⟨t',rfl⟩:=ry
 exact rule i j t t' s _ _ {.bl (g i j),H,I,O,q}
def CPow(i j:Int):Prop:=0<=j/\j<=1000000/\i.natAbs<2 ^ 64
def zhZ(k:Nat):(0:Int)<=2 ^ k:=by
 rw[two_pow_cast]
 exact Int.natCast_nonneg _
def zaW:OpR X (binaryOp .Add) (rI0 λi j=>.int (i+j)):=opI0 λ_ _ _ _ _ _ _ q=>add_int q
def zbG:OpR X (binaryOp .Sub) (rI0 λi j=>.int (i-j)):=opI0 λ_ _ _ _ _ _ _ q=>sub_int q
def zax:OpR X (binaryOp .Mod) (rI (λ_ j=>0<j) λi j=>.int (i % j)):=opI λi j _ _ _ _ _ hc q=>by
 have h1:(0:Int)<j:=hc
 exact mod_int' (by omega) (by rw[Int.fmod_eq_emod_of_nonneg i (by omega)];exact q)
def zhH:OpR X (binaryOp .Pow) (rI CPow λi j=>.int (i ^ j.toNat)):=opI λ_ _ _ _ _ _ _ hc q=>pow_int_small hc.1 hc.2.1 hc.2.2 q
def zdx:OpR X (binaryOp .LShift) (rI CPow λi j=>.int (i*2 ^ j.toNat)):=opI λ_ _ _ _ _ _ _ hc q=>lshift_int_small hc.1 hc.2.1 hc.2.2 q
def op_shr:OpR X (binaryOp .RShift) (rI (λ_ j=>0<=j) λi j=>.int (i / 2 ^ j.toNat)):=opI λi j _ _ _ _ _ hc q =>
 rshift_int hc (by rw[Int.fdiv_eq_ediv_of_nonneg i (zhZ _)];exact q)
def zaR:OpR X (binaryOp .BitAnd) (rI0 λi j=>.int (Builtin.bitAnd i j)):=opI0 λ_ _ _ _ _ _ _ q=>and_int q
def zkP:OpR X (binaryOp .BitOr) (rI0 λi j=>.int (Builtin.bitOr i j)):=opI0 λ_ _ _ _ _ _ _ q=>or_int q
def zhG:OpR X (binaryOp .BitXor) (rI0 λi j=>.int (Builtin.bitXor i j)):=opI0 λ_ _ _ _ _ _ _ q=>xor_int q
def zjF:OpR X (inplaceOp .Add) (rI0 λi j=>.int (i+j)):=opI0 λ_ _ _ _ _ _ _ q=>iadd_int q
def unI{f:Value->Sem Value}{g:Int->Int}
  (rule:∀(i:Int) (t:Tok) (s:Shared) (Q:Value->Shared->Prop) (E:Value->Shared->Prop),Q (.int (g i) s.toks) {s with toks:=s.toks+1}->wpAny (model X.prog X.w) X.A (f (.int i t)) Q E s) :
  UnR X f (rU λi=>.int (g i)):=by
 intro pins s U H x v Q I rx h
 obtain⟨i,rfl,q⟩:=h
 obtain⟨t,rfl⟩:=rx
 exact rule i t s _ _ {.int (g i),H,I.tok _,{_,O},q}
def un_neg:UnR X (unaryOp .USub) (rU λi=>.int (-i)):=unI λ_ _ _ _ _ q=>neg_int q
end
def scal:V->V->Bool
 | .non,.non=>true|.non,.int _=>true|.int _,.non=>true|.non,.bl _=>true|.bl _,.non=>true|.non,.str _=>true|.str _,.non=>true
 | .int _,.int _=>true|.bl _,.bl _=>true|.str _,.str _=>true|.byt _,.byt _=>true
 | .int _,.str _=>true|.str _,.int _=>true|.bl _,.str _=>true|.str _,.bl _=>true
 | _,_=>false
def rEq:R2:=λx y H Q=>scal x y=true/\Q (.bl (decide (x=y))) H
def rNe:R2:=λx y H Q=>scal x y=true/\Q (.bl (!decide (x=y))) H
def zjU{i j:Int}:decide (V.int i=V.int j)=(i==j):=by
 rw[XbT]
 simp
def zlS{i j:Bool}:decide (V.bl i=V.bl j)=(i==j):=by
 rw[XbT]
 simp
def zjT{i j:Str}:decide (V.str i=V.str j)=(i==j):=by
 rw[XbT]
 simp
def zjV{i j:Array UInt8}:decide (V.byt i=V.byt j)=(i.toList==j.toList):=by
 rw[XbT]
 cases i
 cases j
 simp
section
variable{X:Cx}{a b c:Expr}{ta tb tc:TE}{pos:Pos}
def zaJ{pins:List (Addr×Obj)}{U:St}{H:Hp}{s:Shared}{Q:VK}{k k':Bool}(I:Inv X pins U H s)(q:Q (.bl k) H)(e:k=k'):EP X pins U Q (.bool k') s:=by
 subst e
 exact{.bl k,H,I,O,q}
def zbf:OpR X (compareOp .Eq) rEq:=by
 intro pins s U H x y v u Q I rx ry h
 obtain⟨hs,q⟩:=h
 cases x with
 | non =>
  cases rx
  cases y with
  | non=>cases ry;exact PySem.EqNone.eq_none_none (zaJ I q (by simp))
  | bl j=>cases ry;exact PySem.EqNone.eq_none_bool (zaJ I q (by simp))
  | int j=>obtain⟨t',rfl⟩:=ry;exact PySem.EqNone.eq_none_int (zaJ I q (by simp))
  | str j=>obtain⟨t',rfl⟩:=ry;exact PySem.EqNone.eq_none_str (zaJ I q (by simp))
  | _=>exact absurd (show false=true from hs) Xal
 | bl i =>
  cases rx
  cases y with
  | non=>cases ry;exact PySem.EqNone.eq_bool_none (zaJ I q (by simp))
  | bl j=>cases ry;exact eq_bool (zaJ I q zlS)
  | str j=>obtain⟨t',rfl⟩:=ry;exact PySem.EqMixed.eq_bool_str (zaJ I q (by simp))
  | _=>exact absurd (show false=true from hs) Xal
 | int i =>
  obtain⟨t,rfl⟩:=rx
  cases y with
  | non=>cases ry;exact PySem.EqNone.eq_int_none (zaJ I q (by simp))
  | int j=>obtain⟨t',rfl⟩:=ry;exact eq_int (zaJ I q zjU)
  | str j=>obtain⟨t',rfl⟩:=ry;exact PySem.EqMixed.eq_int_str (zaJ I q (by simp))
  | _=>exact absurd (show false=true from hs) Xal
 | str i =>
  obtain⟨t,rfl⟩:=rx
  cases y with
  | non=>cases ry;exact PySem.EqNone.eq_str_none (zaJ I q (by simp))
  | bl j=>cases ry;exact PySem.EqMixed.eq_str_bool (zaJ I q (by simp))
  | int j=>obtain⟨t',rfl⟩:=ry;exact PySem.EqMixed.eq_str_int (zaJ I q (by simp))
  | str j=>obtain⟨t',rfl⟩:=ry;exact eq_str (zaJ I q zjT)
  | _=>exact absurd (show false=true from hs) Xal
 | byt i =>
  obtain⟨t,rfl⟩:=rx
  cases y with
  | byt j=>obtain⟨t',rfl⟩:=ry;exact W.eq_bytes (zaJ I q zjV)
  | _=>exact absurd (show false=true from hs) Xal
 | _=>cases y<;>exact absurd (show false=true from hs) Xal
def zh8:OpR X (compareOp .NotEq) rNe:=by
 intro pins s U H x y v u Q I rx ry h
 obtain⟨hs,q⟩:=h
 cases x with
 | non =>
  cases rx
  cases y with
  | non=>cases ry;exact PySem.EqNone.ne_none_none (zaJ I q (by simp))
  | bl j=>cases ry;exact PySem.EqNone.ne_none_bool (zaJ I q (by simp))
  | int j=>obtain⟨t',rfl⟩:=ry;exact PySem.EqNone.ne_none_int (zaJ I q (by simp))
  | str j=>obtain⟨t',rfl⟩:=ry;exact PySem.EqNone.ne_none_str (zaJ I q (by simp))
  | _=>exact absurd (show false=true from hs) Xal
 | bl i =>
  cases rx
  cases y with
  | non=>cases ry;exact PySem.EqNone.ne_bool_none (zaJ I q (by simp))
  | bl j=>cases ry;exact ne_bool (zaJ I q (congrArg not zlS))
  | str j=>obtain⟨t',rfl⟩:=ry;exact PySem.EqMixed.ne_bool_str (zaJ I q (by simp))
  | _=>exact absurd (show false=true from hs) Xal
 | int i =>
  obtain⟨t,rfl⟩:=rx
  cases y with
  | non=>cases ry;exact PySem.EqNone.ne_int_none (zaJ I q (by simp))
  | int j=>obtain⟨t',rfl⟩:=ry;exact ne_int (zaJ I q (congrArg not zjU))
  | str j=>obtain⟨t',rfl⟩:=ry;exact PySem.EqMixed.ne_int_str (zaJ I q (by simp))
  | _=>exact absurd (show false=true from hs) Xal
 | str i =>
  obtain⟨t,rfl⟩:=rx
  cases y with
  | non=>cases ry;exact PySem.EqNone.ne_str_none (zaJ I q (by simp))
  | bl j=>cases ry;exact PySem.EqMixed.ne_str_bool (zaJ I q (by simp))
  | int j=>obtain⟨t',rfl⟩:=ry;exact PySem.EqMixed.ne_str_int (zaJ I q (by simp))
  | str j=>obtain⟨t',rfl⟩:=ry;exact ne_str (zaJ I q (congrArg not zjT))
  | _=>exact absurd (show false=true from hs) Xal
 | byt i =>
  obtain⟨t,rfl⟩:=rx
  cases y with
  | byt j=>obtain⟨t',rfl⟩:=ry;exact W.ne_bytes (zaJ I q (congrArg not zjV))
  | _=>exact absurd (show false=true from hs) Xal
 | _=>cases y<;>exact absurd (show false=true from hs) Xal
def zjk:OpR X (compareOp .Lt) (rI0 λi j=>.bl (decide (i<j))):=opB0 λ_ _ _ _ _ _ _ q=>lt_int q
def zh9:OpR X (compareOp .LtE) (rI0 λi j=>.bl (decide (i<=j))):=opB0 λ_ _ _ _ _ _ _ q=>le_int q
def zgZ:OpR X (compareOp .Gt) (rI0 λi j=>.bl (decide (j<i))):=opB0 λ_ _ _ _ _ _ _ q=>gt_int q
def op_ge:OpR X (compareOp .GtE) (rI0 λi j=>.bl (decide (j<=i))):=opB0 λ_ _ _ _ _ _ _ q=>ge_int q
def zav(b:Expr){op:CmpOp}(h:op≠.In:=by decide)(h2:op≠.NotIn:=by decide):behindInMarks op b=false:=by
 have e1:(op==CmpOp.In)=false:=by cases op<;>first|rfl|exact absurd O h
 have e2:(op==CmpOp.NotIn)=false:=by cases op<;>first|rfl|exact absurd O h2
 cases b<;>simp[behindInMarks,e1,e2]
def zbj{op:CmpOp}{r:R2}(ho:OpR X (compareOp op) r)(ha:PE X a ta)(hb:PE X b tb)(hm:behindInMarks op b=false):PE X (.Compare a [op] [b] pos) (tOp r ta tb):=by
 intro pins s U H Q I h
 exact wpAny_Compare1 (binT ha hb I h λv u s2 x y H2 I2 rx ry q=>ho pins s2 U H2 x y v u Q I2 rx ry q) hm
inductive tTest_1(Q:Bool->Hp->Prop)(x:V)(H':Hp):Prop
 | mk k(_:x=.bl k)(_:Q k H')
def zl7(t:TE):TT:=λU H Q=>t U H (tTest_1 Q)
def zas{op:CmpOp}{r:R2}(ho:OpR X (compareOp op) r)(ha:PE X a ta)(hb:PE X b tb)(hm:behindInMarks op b=false):PT X (.Compare a [op] [b] pos) (zl7 (tOp r ta tb)):=by
 intro pins s U H Q I h
 refine wpAny_isTrue_Compare1 (thn (ha pins s U H _ I h) λv s1 ⟨x,H1,I1,r1,q1⟩=>thn (hb pins s1 U H1 _ I1 q1) λu s2 ⟨y,H2,I2,r2,q2⟩ =>
  thn (ho pins s2 U H2 x y v u _ I2 r1 r2 q2) λc s3 ⟨z,H3,I3,r3,k,e,q3⟩=>?_) hm
 subst e
 cases r3
 exact XaX ⟨H3,I3,q3⟩
inductive tChain_1(r':R2)(tc:TE)(U:St)(Q:VK)(y:V)(z:V)(H3:Hp):Prop
 | mk k(_:z=.bl k)(_:(if k=true then tc U H3 λw' H4=>r' y w' H4 Q else Q (.bl false) H3))
def zlu(r r':R2)(ta tb tc:TE):TE:=λU H Q=>ta U H λx H1=>tb U H1 λy H2=>r x y H2 (tChain_1 r' tc U Q y)
def zkO{op op':CmpOp}{r r':R2}(ho:OpR X (compareOp op) r)(ho':OpR X (compareOp op') r')(ha:PE X a ta)(hb:PE X b tb)(hc:PE X c tc)
  (hm:lastMarks [op,op'] [b,c]=false:=by with_unfolding_all rfl):PE X (.Compare a [op,op'] [b,c] pos) (zlu r r' ta tb tc):=by
 intro pins s U H Q I h
 refine Compare_chain (thn (ha pins s U H _ I h) λv s1 ⟨x,H1,I1,r1,q1⟩=>chain_link (thn (hb pins s1 U H1 _ I1 q1) λu s2 ⟨y,H2,I2,r2,q2⟩ =>
  thn (ho pins s2 U H2 x y v u _ I2 r1 r2 q2) λd s3 ⟨z,H3,I3,r3,k,e,q3⟩=>?_)) hm
 subst e
 cases r3
 refine XaX ?_
 cases k with
 | false=>exact ite_ff {.bl false,H3,I3,O,q3}
 | true=>exact ite_tt (chain_last (thn (hc pins s3 U H3 _ I3 q3) λw' s4 ⟨z',H4,I4,r4,q4⟩=>ho' pins s4 U H4 y z' u w' Q I4 r2 r4 q4))
def zkH{op op':CmpOp}{r r':R2}(ho:OpR X (compareOp op) r)(ho':OpR X (compareOp op') r')(ha:PE X a ta)(hb:PE X b tb)(hc:PE X c tc)
  (hm:lastMarks [op,op'] [b,c]=false:=by with_unfolding_all rfl):PT X (.Compare a [op,op'] [b,c] pos) (zl7 (zlu r r' ta tb tc)):=by
 intro pins s U H Q I h
 refine isTrue_chain (thn (ha pins s U H _ I h) λv s1 ⟨x,H1,I1,r1,q1⟩=>test_link (thn (hb pins s1 U H1 _ I1 q1) λu s2 ⟨y,H2,I2,r2,q2⟩ =>
  thn (ho pins s2 U H2 x y v u _ I2 r1 r2 q2) λd s3 ⟨z,H3,I3,r3,k,e,q3⟩=>?_)) hm
 subst e
 cases r3
 refine XaX ?_
 cases k with
 | false =>
  obtain⟨k',e',q'⟩:=q3
  cases e'
  exact ite_ff ⟨H3,I3,q'⟩
 | true =>
  refine ite_tt (test_last (thn (hc pins s3 U H3 _ I3 q3) λw' s4 ⟨z',H4,I4,r4,q4⟩=>thn (ho' pins s4 U H4 y z' u w' _ I4 r2 r4 q4) λd' s5 hh_=>?_))
  obtain⟨z2,H5,I5,r5,k2,e2,q5⟩:=hh_
  subst e2
  cases r5
  exact XaX ⟨H5,I5,q5⟩
def TruV(K:W.Frag)(x:V)(H:Hp)(k:Bool):Prop:=
 match x with
 | .non=>k=false
 | .bl b=>k=b
 | .int i=>k=(i != 0)
 | .str y=>y.length<=sizeLine/\k=((y.length:Int) != 0)
 | .byt y=>y.size<=sizeLine/\k=((y.size:Int) != 0)
 | .ref p=>(∃xs,SqL K H p xs/\k=!xs.isEmpty)\/(∃xs,SqT K H p xs/\k=!xs.isEmpty)\/∃kvs,H p=some (.dK kvs)/\k=!kvs.isEmpty
 | _=>False
def zio{κ:Type}{kvs:List (κ×V)}{vs:List (κ×Value)}(r:KV kvs vs):(!vs.isEmpty)=!kvs.isEmpty:=by
 cases r<;>rfl
def zeU{xs:List V}{its:List Value}(r:Vals xs its):(!its.toArray.isEmpty)=!xs.isEmpty:=by
 cases r<;>simp
def zeT:(sizeLine:Nat)<2 ^ 63:=by rw[sizeLine_eq];decide
def tru_ok:TruR X (λx H Q=>∃k,TruV X.K x H k/\Q k H):=by
 intro pins s U H x v Q I rx h
 obtain⟨k,e,q⟩:=h
 have hl:=zeT
 have hs:sizeLine=16777216:=sizeLine_eq
 cases x with
 | non =>
  cases rx
  have e':k=false:=e
  subst e'
  exact truthy_none ⟨H,I,q⟩
 | bl b =>
  cases rx
  have e':k=b:=e
  subst e'
  exact XaX ⟨H,I,q⟩
 | int i =>
  obtain⟨t,rfl⟩:=rx
  have e':k=(i != 0):=e
  subst e'
  exact PySem.P.truthy_int ⟨H,I,q⟩
 | str y =>
  obtain⟨t,rfl⟩:=rx
  obtain⟨hy,e'⟩:y.length<=sizeLine/\k=((y.length:Int) != 0):=e
  subst e'
  exact PySem.P.truthy_str (by omega) {H,I.tok _,q}
 | byt y =>
  obtain⟨t,rfl⟩:=rx
  obtain⟨hy,e'⟩:y.size<=sizeLine/\k=((y.size:Int) != 0):=e
  subst e'
  exact W.truthy_bytes (by omega) {H,I.tok _,q}
 | ref p =>
  cases rx
  have e':(∃xs,SqL X.K H p xs/\k=!xs.isEmpty)\/(∃xs,SqT X.K H p xs/\k=!xs.isEmpty)\/∃kvs,H p=some (.dK kvs)/\k=!kvs.isEmpty:=e
  rcases e' with⟨xs,hx,e'⟩|⟨xs,hx,e'⟩|⟨kvs,hx,e'⟩
  .subst e'
   obtain⟨its,r,pl,hz⟩:=I.list hx
   have hlen:=r.length
   exact wpAny_truthy_list pl.isList (by simp only[Xaq];omega) {H,I.tok _,by rw[zeU r];exact q}
  .subst e'
   obtain⟨its,r,pl,hz⟩:=I.tuple hx
   have hlen:=r.length
   exact truthy_tuple pl (by simp only[Xaq];omega) {H,I.tok _,by rw[zeU r];exact q}
  .subst e'
   obtain⟨hz,hS,vs,r,m⟩:kvs.length<=sizeLine/\(p==sysModules)=false/\∃vs,KV kvs vs/\s.heap.DictOf (zaH X.prog X.w) p vs:=I.hok p _ hx
   have hlen:kvs.length=vs.length:=Paired.length r
   exact wpAny_truthy_dict hS m (by omega) {H,I.tok _,by rw[zio r];exact q}
 | _=>exact(show False from e).elim
def zfk(ha:PE X a ta)(he:∀whole,isTrue a X.env whole=(do let v <- whole;standAt a.pos;holding [v] (truthy v))) :
  PT X a (λU H Q=>ta U H λx H'=>∃k,TruV X.K x H' k/\Q k H'):=by
 intro pins s U H Q I h
 exact isTrue_plain (thn (ha pins s U H _ I h) λv s1 ⟨x,H1,I1,r1,q1⟩=>tru_ok pins s1 U H1 x v Q I1 r1 q1) (he _)
def zib:OpR X (binaryOp .Add) (λx y H Q=>∃i j,x=.str i/\y=.str j/\i.length+j.length<=sizeLine/\Q (.str (i++j)) H):=by
 intro pins s U H x y v u Q I rx ry h
 obtain⟨i,j,rfl,rfl,hz,q⟩:=h
 obtain⟨t,rfl⟩:=rx
 obtain⟨t',rfl⟩:=ry
 exact add_str (λt' tk=>{.str (i++j),H,I.tok _,{_,O},q}) hz
def zc5{x:V}{us:List Value}(r:Vals [x] us):∃u,us=[u]/\RelV x u:=by
 cases r with
 | cons r1 r2=>cases r2;exact{_,O,r1}
def zkp{x y:V}{us:List Value}(r:Vals [x,y] us):∃u w',us=[u,w']/\RelV x u/\RelV y w':=by
 cases r with
 | cons r1 r2 =>
  cases r2 with
  | cons r3 r4=>cases r4;exact{_,_,O,r1,r3}
def zj6(hc:X.calm=true):zcR X (.builtin "max") (λxs H Q=>∃i j,xs=[.int i,.int j]/\Q (.int (if j>i then j else i)) H):=by
 intro pins s U H xs us Q I r h
 obtain⟨i,j,rfl,q⟩:=h
 obtain⟨u,w',rfl,⟨t,rfl⟩,⟨t',rfl⟩⟩:=zkp r
 refine max_two_ints (I.ok.hd hc) λh' tk k=>{_,H,I.kept k,?_,q}
 by_cases hj:j>i
 .rw[if_pos hj,if_pos hj];exact{_,O}
 .rw[if_neg hj,if_neg hj];exact{_,O}
def zj7:zcR X (.type "int") (λxs H Q=>(∃i,xs=[.int i]/\Q (.int i) H)\/∃k,xs=[.bl k]/\Q (.int (if k then 1 else 0)) H):=by
 intro pins s U H xs us Q I r h
 rcases h with⟨i,rfl,q⟩|⟨k,rfl,q⟩
 .obtain⟨u,rfl,t,rfl⟩:=zc5 r
  exact call_int_int {.int i,H,I,{_,O},q}
 .obtain⟨u,rfl,r1⟩:=zc5 r
  cases r1
  exact call_int_bool {.int (if k then 1 else 0),H,I.tok _,{_,O},q}
end
structure ObjM(h:Heap)(x dx C:Addr)(mA:Str->Option Value):Prop where
 obj:h.get? x=some (W.instObj C dx)
 ns:h.Ns1 dx mA
 ne:dx≠x
set_option tactic.hygienic true in
def zjy{h:Heap}{dx:Addr}{mA:Str->Option Value}(n:h.Ns1 dx mA):∃od,h.get? dx=some od/\∀name,W.lookIn name od=some (mA name):=by
 obtain⟨o,es,ep,ho,hd,hk,_,hm⟩:=n
 refine{o,ho,λname=>?_}
 have e:=hm name
 unfold nsFind findBy at e
 rw[<- Array.find?_toList] at e
 unfold W.lookIn
 rw[hd]
 dsimp only
 split
 .rename_i y q
  rw[q] at e
  exact congrArg some e
 .rename_i q
  rw[q] at e
  have a:es.toList.any (·.refKey)=false:=by
   rw[List.any_eq_false]
   intro y hy
   obtain⟨z,t,hkey⟩:=hk y (Array.mem_toList_iff.mp hy)
   simp[DictEntry.refKey,hkey]
  have a':¬ es.toList.any (·.refKey)=true:=by rw[a];exact Xal
  rw[if_neg a']
  exact congrArg some e
def ObjM.look{h:Heap}{x dx C:Addr}{mA:Str->Option Value}(I:ObjM h x dx C mA):∃od,W.InstAt h x (W.instObj C dx) C (some od)/\∀name,W.lookIn name od=some (mA name):=
 let⟨od,ho,hl⟩:=zjy I.ns
 {od,⟨I.obj,O,O,ho⟩,hl}
section
variable{prog:Program}{w:World}{A:Around}{E:Value->Shared->Prop}{s:Shared}{K:W.Frag}{x dx C f:Addr}{mA:Str->Option Value}{name:Str}{v:Value}
def zmM{expr:Bool}{Q:Value->Shared->Prop}(X:K.In s.heap)(I:ObjM s.heap x dx C mA)(hg:W.plainGet K C name=true)(hh:W.hasDictIn K C=true)
  (ha:W.findIn K (.ref C) name=some none) (hv:mA name=some v) (hv':W.handedIn v=true) (h:Q v {s with toks:=s.toks+1}) :
  wpAny (model prog w) A (getAttr (.ref x) name expr) Q E s:=by
 obtain⟨od,J,hl⟩:=I.look
 exact W.get_value X J (W.plainGet_of hg).1 (W.findObj_own hh ha O (by rw[hl,hv])) hv' h
def zk8{pl:Sem Bool}{Q:Value×List Value->Shared->Prop}(X:K.In s.heap)(I:ObjM s.heap x dx C mA)(hg:W.plainGet K C name=true)
  (hf:W.findIn K (.ref C) name=some (some (.ref f))) (ht:W.isFn K (.ref f)=true) (hv:mA name=none) (h:Q (.ref f,[.ref x]) s) :
  wpAny (model prog w) A (getMethod (.ref x) name pl) Q E s:=by
 obtain⟨od,J,hl⟩:=I.look
 exact W.method_fn X J (W.plainGet_of hg).1 (W.plainGet_of hg).2 hf (beq_iff_eq.mp ht) (by show(W.lookIn name od).map (·.isSome)=some false;rw[hl,hv];rfl) h
def zme{ns:List Str}{Q:Unit->Shared->Prop}(X:K.In s.heap)(I:ObjM s.heap x dx C mA)
  (hs:W.findIn K (.ref C) "__setattr__"=some (some (.builtin "object.__setattr__"))) (hp:W.plainOver K C=true) (ht:W.takerIn K C name=some none) (hh:W.hasDictIn K C=true)
  (hw:PySem.Within mA ns) (hsz:ns.length<=sizeLine)
  (h:∀h',ObjM h' x dx C (λy=>if y=name then some v else mA y)->Heap.SameBut dx s.heap h'->Q () {s with heap:=h',toks:=s.toks+2}) :
  wpAny (model prog w) A (setAttr (.ref x) name v) Q E s:=by
 obtain⟨od,J,hl⟩:=I.look
 refine W.set_plain X J hs (W.osa_open (s:={s with toks:=s.toks+1}) (r:=none) X J hp ht λb=>?_)
 obtain⟨cd,hc,hd'⟩:=W.any_some hh
 have hx:s.heap.get? x=some ⟨.ref C,some dx,.plain,#[]⟩:=I.obj
 refine Xaa (Xac (Xaa (Xaa (wpAny_loadPart hx (Xaa (W.Looks.here (s:={s with toks:=s.toks+1}) (W.looks_clsIn X hc) ?_))))))
 rw[hd']
 refine Xac (a:=some dx) (Xaa (Xac (Xaa ?_)))
 refine wpAny_nsSet1 (s:={s with toks:=s.toks+1}) I.ns λh' hn2 hs2=>?_
 obtain⟨oD,esD,epD,hoD,hdD,hcD⟩:=hn2.count (PySem.Within.cons name v hw)
 refine Xaa (wpAny_lookBehind hoD (by rw[hdD];exact pastItsLine_dict (Xar hcD (by rw[Xaw];omega))) ?_)
 exact Xac (h _ {(hs2.2 _ (Ne.symm I.ne)).trans I.obj,hn2,I.ne} hs2)
def zkX{R:Result->Shared->Prop}{vs:List Value}{kw:List (Str×Value)}(X:K.In s.heap)(hm:W.makesIn K C=true)
  (hi:W.findIn K (.ref C) "__init__"=some (some (.ref f))) (hf:W.typeIn K (.ref f)=some (.type "function"))
  (h:codeAny (model prog w) (A.under (.builtin "type.__call__" {.ref C::vs,kw})) (.call (.ref f) {.ref (s.heap.objs.size+1)::vs,kw}) (W.InitBack (s.heap.objs.size+1) R)
   {s with heap:=(s.heap.push W.emptyDict).push (W.instObj C s.heap.objs.size)}) :
  codeAny (model prog w) A (.call (.ref C) ⟨vs,kw⟩) R s:=by
 obtain⟨hh,g,d,t,os⟩:=s
 exact W.make_core (W.makes_of X hm) (W.looks_findIn X hi) (λself=>W.bind_fn X self hf) (.inl O) h
end
def putF(f:Str)(v:V):List (Str×V)->List (Str×V)
 | []=>[(f,v)]
 | (g,x)::r=>if g=f then(g,v)::r else(g,x)::putF f v r
def zet(f g:Str)(v:V):∀fs:List (Str×V),(putF f v fs).lookup g=if g=f then some v else fs.lookup g
 | []=>by
  show List.lookup g [(f,v)]=_
  by_cases h:g=f
  .have hb:(g==f)=true:=beq_iff_eq.mpr h
   simp only[List.lookup,hb,if_pos h]
  .have hb:(g==f)=false:=beq_eq_false_iff_ne.mpr h
   simp only[List.lookup,hb,if_neg h]
 | (k,x)::r=>by
  have ih:=zet f g v r
  rw[show putF f v ((k,x)::r)=(if k=f then(k,v)::r else(k,x)::putF f v r) from O]
  by_cases hk:k=f
  .rw[if_pos hk]
   by_cases h:g=k
   .have hb:(g==k)=true:=beq_iff_eq.mpr h
    simp only[List.lookup,hb,if_pos (h.trans hk)]
   .have hb:(g==k)=false:=beq_eq_false_iff_ne.mpr h
    simp only[List.lookup,hb,if_neg (λe:g=f=>h (e.trans hk.symm))]
  .rw[if_neg hk]
   by_cases h:g=k
   .have hb:(g==k)=true:=beq_iff_eq.mpr h
    simp only[List.lookup,hb,if_neg (λe:g=f=>hk (h.symm.trans e))]
   .have hb:(g==k)=false:=beq_eq_false_iff_ne.mpr h
    simp only[List.lookup,hb]
    exact ih
def zex(f:Str)(v:V):∀fs:List (Str×V),f∈(putF f v fs).map (·.1)/\∀g,g∈fs.map (·.1)->g∈(putF f v fs).map (·.1)
 | []=>{by simp[putF],λg h=>by simp at h}
 | (k,x)::r=>by
  obtain⟨i1,i2⟩:=zex f v r
  rw[show putF f v ((k,x)::r)=(if k=f then(k,v)::r else(k,x)::putF f v r) from O]
  by_cases hk:k=f
  .rw[if_pos hk]
   subst hk
   exact{by simp,λg h=>by simpa using h}
  .rw[if_neg hk]
   refine{?_,λg h=>?_}
   .rw[XaF]
    exact XaA _ i1
   .rw[XaF] at h ⊢
    rcases Xau.mp h with e|e
    .exact Xau.mpr (.inl e)
    .exact XaA _ (i2 g e)
def zev(f:Str)(v:V):∀fs:List (Str×V),(putF f v fs).length<=fs.length+1
 | []=>by simp[putF]
 | (k,x)::r=>by
  have ih:=zev f v r
  rw[show putF f v ((k,x)::r)=(if k=f then(k,v)::r else(k,x)::putF f v r) from O]
  by_cases hk:k=f
  .rw[if_pos hk,Xaw,Xaw];omega
  .rw[if_neg hk,Xaw,Xaw];omega
def RelO.some_of{v:V}{o:Option Value}(r:RelO (some v) o):∃u,o=some u/\RelV v u:=by
 cases o with
 | none=>exact(show False from r).elim
 | some u=>exact⟨u,O,r⟩
def RelO.none_of{o:Option Value}(r:RelO none o):o=none:=by
 cases o with
 | none=>rfl
 | some u=>exact(show False from r).elim
def zjJ{v:V}{u:Value}(r:RelV v u):W.handedIn u=true:=by
 cases v with
 | non=>cases(show u=Value.none from r);rfl
 | bl b=>cases(show u=Value.bool b from r);rfl
 | int i=>obtain⟨t,e⟩:=(show∃t,u=Value.int i t from r);cases e;rfl
 | str x=>obtain⟨t,e⟩:=(show∃t,u=Value.str x t from r);cases e;rfl
 | byt b=>obtain⟨t,e⟩:=(show∃t,u=Value.bytes b t from r);cases e;rfl
 | flt b=>obtain⟨t,e⟩:=(show∃t,u=Value.float b t from r);cases e;rfl
 | ref a=>cases(show u=Value.ref a from r);rfl
 | ty n=>cases(show u=Value.type n from r);rfl
section
variable{P:Program}{w:World}{H H':Hp}{h h':Heap}{a C dx:Addr}{fs fs':List (Str×V)}
def zb1(hok:HOk P w H h)(e:H a=some (.ins C dx fs)):∃mA,ObjM h a dx C mA/\(∀f,RelO (fs.lookup f) (mA f))/\PySem.Within mA (fs.map (·.1))/\fs.length<=1000/\H dx=some (.own a):=by
 obtain⟨d,z,ne,ob,mA,n,r,q⟩:=(show ObjOk P w H h a (.ins C dx fs) from hok a _ e)
 exact{mA,⟨ob,n,ne⟩,r,q,z,d}
end
structure Cls(K:W.Frag)(C:Addr):Prop where
 pg:W.plainGet K C Str.empty=true
 hd:W.hasDictIn K C=true
 po:W.plainOver K C=true
 sa:W.findIn K (.ref C) "__setattr__"=some (some (.builtin "object.__setattr__"))
def Cls.get{K:W.Frag}{C:Addr}(c:Cls K C)(f:Str):W.plainGet K C f=true:=c.pg
def NoAttr(K:W.Frag)(C:Addr)(f:Str):Prop:=W.findIn K (.ref C) f=some none
def NoAttr.taker{K:W.Frag}{C:Addr}{f:Str}(n:NoAttr K C f):W.takerIn K C f=some none:=by
 unfold W.takerIn
 rw[show W.findIn K (.ref C) f=some none from n]
 rfl
structure Meth(K:W.Frag)(C:Addr)(m:Str)(f:Addr):Prop where
 at_:W.findIn K (.ref C) m=some (some (.ref f))
 fn:W.isFn K (.ref f)=true
 kp:W.keepIn K (.ref f)=true
section
variable{X:Cx}{pins:List (Addr×Obj)}{U:St}{H:Hp}{s:Shared}{a C dx:Addr}{fs:List (Str×V)}{f:Str}{v:V}{A:Around}{E:Value->Shared->Prop}
def zeV{b:Bool}{Q:Value->Shared->Prop}(I:Inv X pins U H s)(e:H a=some (.ins C dx fs))(c:Cls X.K C)(n:NoAttr X.K C f)(l:fs.lookup f=some v)
  (h:∀u s',Inv X pins U H s'->RelV v u->Q u s'):wpAny (model X.prog X.w) A (getAttr (.ref a) f b) Q E s:=by
 obtain⟨mA,O9,r,_,_,_⟩:=zb1 I.hok e
 obtain⟨u,hu,ru⟩:=RelO.some_of (v:=v) (o:=mA f) (by rw[<- l];exact r f)
 exact zmM I.kIn O9 (c.get f) c.hd n hu (zjJ ru) (h u _ (I.tok _) ru)
def zcs{m:Str}{g:Addr}{pl:Sem Bool}{Q:Value×List Value->Shared->Prop}(I:Inv X pins U H s)(e:H a=some (.ins C dx fs))(c:Cls X.K C)(k:Meth X.K C m g)(l:fs.lookup m=none)
  (h:Q (.ref g,[.ref a]) s):wpAny (model X.prog X.w) A (getMethod (.ref a) m pl) Q E s:=by
 obtain⟨mA,O9,r,_,_,_⟩:=zb1 I.hok e
 have hn:mA m=none:=RelO.none_of (by rw[<- l];exact r m)
 exact zk8 I.kIn O9 (c.get m) k.at_ k.fn hn h
def zeP{y:V}{u:Value}{Q:Unit->Shared->Prop}(I:Inv X pins U H s)(e:H a=some (.ins C dx fs))(c:Cls X.K C)(n:NoAttr X.K C f)(hl:fs.length<1000)(ry:RelV y u)
  (h:∀s',Inv X pins U (upd H a (.ins C dx (putF f y fs))) s'->Q () s'):wpAny (model X.prog X.w) A (setAttr (.ref a) f u) Q E s:=by
 obtain⟨mA,O9,r,wi,_,ho⟩:=zb1 I.hok e
 have hz:(fs.map (·.1)).length<=sizeLine:=by rw[Xag,sizeLine_eq];omega
 refine zme I.kIn O9 c.sa c.po n.taker c.hd wi hz λh' O' sb=>h _ ?_
 have hd:∃o,h'.get? dx=some o:=let⟨o,_,_,e',_⟩:=O'.ns;⟨o,e'⟩
 refine I.write (x:=a) (e:=dx) (by rw[e];exact True.intro) (.inr ho) (λb q hb z=>(sb.2 b hb).trans z) hd ?_
 refine{by rw[zah O9.ne];exact ho,?_,O9.ne,O'.obj,_,O'.ns,λg=>?_,λg hg=>?_}
 .have:=zev f y fs;omega
 .show RelO ((putF f y fs).lookup g) (if g=f then some u else mA g)
  rw[zet]
  by_cases q:g=f
  .rw[if_pos q,if_pos q];exact ry
  .rw[if_neg q,if_neg q];exact r g
 .by_cases q:g=f
  .rw[q];exact(zex f y fs).1
  .refine(zex f y fs).2 g (wi g λz=>hg ?_)
   show(if g=f then some u else mA g)=none
   rw[if_neg q];exact z
def Inv.made(I:Inv X pins U H s):Inv X pins U (upd (upd H s.heap.objs.size (.own (s.heap.objs.size+1))) (s.heap.objs.size+1) (.ins C s.heap.objs.size []))
  {s with heap:=(s.heap.push W.emptyDict).push (W.instObj C s.heap.objs.size)}:=by
 have e1:(s.heap.push W.emptyDict).get? s.heap.objs.size=some W.emptyDict:=Xai s.heap O
 have e2:((s.heap.push W.emptyDict).push (W.instObj C s.heap.objs.size)).get? (s.heap.objs.size+1)=some (W.instObj C s.heap.objs.size):=by
  have:=Xai (s.heap.push W.emptyDict) (o:=W.instObj C s.heap.objs.size) O
  rwa [XaL] at this
 have e3:(s.heap.push W.emptyDict).Ns s.heap.objs.size (λ_=>none):={W.emptyDict,#[],_,e1,O,(λe he=>absurd he (by simp)),λ_=>O}
 have I1:=I.laid (a:=s.heap.objs.size) (o:=.own (s.heap.objs.size+1)) (h':=s.heap.push W.emptyDict) (t':=s.toks) (λb u q=>Xab _ q) (Xae _) {_,e1}
 refine I1.laid (a:=s.heap.objs.size+1) (o:=.ins C s.heap.objs.size []) (t':=s.toks) (λb u q=>Xab _ q) (Nat.le_of_eq (XaL _ _)) ?_
 have ne:s.heap.objs.size≠s.heap.objs.size+1:=Xaz (Xbb _)
 refine{by rw[zah ne,zac],Nat.zero_le _,ne,e2,λ_=>none,(Heap.Ns1.of_empty e3).at λo q=>Xab _ q,λ_=>True.intro,λy hy=>absurd O hy}
def zmY{prog:Program}{w:World}{env:Env}{e:Expr}{f:Str}{pos:Pos}{s:Shared}{Q:Value->Shared->Prop}(hb:attributeBase e f env (eval e env)=eval e env)
  (h:wpAny (model prog w) A (eval e env) (λo s₁=>wpAny (model prog w) A (getAttr o f true) Q E s₁) E s):wpAny (model prog w) A (eval (.Attribute e f pos) env) Q E s:=
 Attribute_any_ h (by rw[arm_eval_Attribute,hb])
end
inductive tFld_1(K:W.Frag)(f:Str)(Q:VK)(x:V)(H1:Hp):Prop
 | mk a C dx fs v(_:x=.ref a)(_:H1 a=some (.ins C dx fs))(_:Cls K C)(_:NoAttr K C f)(_:fs.lookup f=some v)(_:Q v H1)
def tFld(K:W.Frag)(ta:TE)(f:Str):TE:=λU H Q=>ta U H (tFld_1 K f Q)
inductive sFld_1(K:W.Frag)(f:Str)(D:Ends)(U:St)(y:V)(x:V)(H2:Hp):Prop
 | mk a C dx fs(_:x=.ref a)(_:H2 a=some (.ins C dx fs))(_:Cls K C)(_:NoAttr K C f)(_:fs.length<1000)(_:D.nx U (upd H2 a (.ins C dx (putF f y fs))))
def sFld(K:W.Frag)(ta tv:TE)(f:Str):TS:=λD U H=>tv U H λy H1=>ta U H1 (sFld_1 K f D U y)
def InOp(X:Cx)(op:Operator)(rd:V->V->Hp->VK->Prop):Prop:=
 ∀(pins:List (Addr×Obj)) (s:Shared) (U:St) (H:Hp) (x y:V) (u v:Value) (Q:VK),Inv X pins U H s->RelV x u->RelV y v->rd x y H Q->wpAny (model X.prog X.w) X.A (inplaceOp op u v) (EP X pins U Q) X.xe s
def zmi(K:W.Frag)(ta tv:TE)(rd:V->V->Hp->VK->Prop)(f:Str):TS:=λD U H=>ta U H λx H1=>∃a C dx fs v,x=.ref a/\H1 a=some (.ins C dx fs)/\Cls K C/\NoAttr K C f/\fs.lookup f=some v /\
 tv U H1 λy H2=>rd v y H2 λz H3=>∃dx' fs',H3 a=some (.ins C dx' fs')/\fs'.length<1000/\D.nx U (upd H3 a (.ins C dx' (putF f z fs')))
section
variable{X:Cx}{o e value:Expr}{f:Str}{pos pos' tpos:Pos}{ta tv:TE}
def zaE(he:PE X e ta)(hb:attributeBase e f X.env (eval e X.env)=eval e X.env):PE X (.Attribute e f pos) (tFld X.K ta f):=by
 intro pins s U H Q I h
 refine zmY hb (thn (he pins s U H _ I h) λu s1 hh_=>?_)
 obtain⟨x,H1,I1,rx,a,C,dx,fs,v,ex,ea,c,n,l,q⟩:=hh_
 subst ex
 obtain rfl:u=Value.ref a:=rx
 exact zeV I1 ea c n l λu' s2 I2 ru=>⟨v,H1,I2,ru,q⟩
def zbk(ha:PE X o ta)(hv:PE X value tv)(hs:swapsWith value (some (.Attribute o f pos')) pos.line X.env=pure false):PS X (.Assign [.Attribute o f pos'] value pos) (sFld X.K ta tv f):=by
 intro pins s U H D I h
 refine plainObj_wpAny_Assign_Attribute (thn (hv pins s U H _ I h) λu s1 ⟨y,H1,I1,ry,q⟩=>thn (ha pins s1 U H1 _ I1 q) λov s2 hh_=>?_) hs
 obtain⟨x,H2,I2,rx,a,C,dx,fs,ex,ea,c,n,l,q2⟩:=hh_
 subst ex
 obtain rfl:ov=Value.ref a:=rx
 exact zeP I2 ea c n l ry λs3 I3=>{U,_,I3,q2}
def zi7{op:Operator}{rd:V->V->Hp->VK->Prop}(ha:PE X o ta)(hv:PE X value tv)(hop:InOp X op rd):PS X (.AugAssign (.Attribute o f tpos) op value pos) (zmi X.K ta tv rd f):=by
 intro pins s U H D I h
 refine wpAny_AugAssign_AttributeAny (thn (ha pins s U H _ I h) λov s1 hh_=>?_)
 obtain⟨x,H1,I1,rx,a,C,dx,fs,v,ex,ea,c,n,l,q⟩:=hh_
 subst ex
 obtain rfl:ov=Value.ref a:=rx
 refine zeV I1 ea c n l λu s2 I2 ru=>thn (hv pins s2 U H1 _ I2 q) λw3 s3 ⟨y,H2,I3,ry,q3⟩=>thn (hop pins s3 U H2 v y u w3 _ I3 ru ry q3) λw4 s4 hh_=>?_
 obtain⟨z,H3,I4,rz,dx',fs',ea',l',q4⟩:=hh_
 exact zeP I4 ea' c n l' rz λs5 I5=>{U,_,I5,q4}
inductive rAdd(x:V)(y:V)(H:Hp)(Q:VK):Prop
 | mk i j(_:x=.int i)(_:y=.int j)(_:Q (.int (i+j)) H)
def in_add:InOp X .Add rAdd:=by
 rintro pins s U H x y u v Q I rx ry ⟨i,j,rfl,rfl,q⟩
 obtain⟨t,rfl⟩:=(show∃t,u=Value.int i t from rx)
 obtain⟨t',rfl⟩:=(show∃t',v=Value.int j t' from ry)
 exact PyProof.Rows.iadd_int {.int (i+j),H,I.tok _,{_,O},q}
end
section
variable{X:Cx}{pins:List (Addr×Obj)}{U:St}{H:Hp}{s:Shared}{A:Around}{E:Value->Shared->Prop}{Q:Value->Shared->Prop}{c:Value}{b:Bool}
inductive TyOf(K:W.Frag)(H:Hp):V->Value->Prop where
 | non:TyOf K H .non (.type "NoneType")
 | bl (x:Bool):TyOf K H (.bl x) (.type "bool")
 | int (i:Int):TyOf K H (.int i) (.type "int")
 | str (x:Str):TyOf K H (.str x) (.type "str")
 | flt (x:UInt64):TyOf K H (.flt x) (.type "float")
 | lst {a:Addr} {xs:List V} (e:H a=some (.lst xs)):TyOf K H (.ref a) (.type "list")
 | frz {a:Addr} {o:Obj} {xs:List V} (e:H a=some (.frz o (.lst xs))):TyOf K H (.ref a) (.type "list")
 | tup {a:Addr} {xs:List V} (e:H a=some (.tup xs)):TyOf K H (.ref a) (.type "tuple")
 | dK {a:Addr} {kvs:List (Key×V)} (e:H a=some (.dK kvs)):TyOf K H (.ref a) (.type "dict")
 | dT {a:Addr} {kvs:List (List Key×V)} (e:H a=some (.dT kvs)):TyOf K H (.ref a) (.type "dict")
 | ins {a C dx:Addr} {fs:List (Str×V)} (e:H a=some (.ins C dx fs)) (cl:Cls K C) (ha:W.findIn K (.ref C) "__class__"=some (some (.builtin "object.__class__")))
   (hn:W.specialIn K (.builtin "object.__class__") "__get__"=some (some (.builtin "getset_descriptor.__get__"))) (htk:W.takesIn K (.builtin "object.__class__")=some true)
   (hm:W.mroIn K C (.type "object")=some true):TyOf K H (.ref a) (.ref C)
def zge{x:V}{u t:Value}(I:Inv X pins U H s)(rx:RelV x u)(ty:TyOf X.K H x t)(e:W.kitOne X.K t c=some b)(h:∀tk,Q (.bool b) {s with toks:=tk}) :
  wpAny (model X.prog X.w) A (call (.builtin "isinstance") [u,c]) Q E s:=by
 cases ty with
 | non=>cases(show u=Value.none from rx);exact W.kia_one W.kitx_none I.kIn True.intro e (λz=>nomatch z) h
 | bl y=>cases(show u=Value.bool y from rx);exact W.kia_one W.kitx_bool I.kIn True.intro e (λz=>nomatch z) h
 | int i=>obtain⟨t,q⟩:=(show∃t,u=Value.int i t from rx);cases q;exact W.kia_one W.kitx_int I.kIn True.intro e (λz=>nomatch z) h
 | str y=>obtain⟨t,q⟩:=(show∃t,u=Value.str y t from rx);cases q;exact W.kia_one W.kitx_str I.kIn True.intro e (λz=>nomatch z) h
 | flt y=>obtain⟨t,q⟩:=(show∃t,u=Value.float y t from rx);cases q;exact W.kia_one W.kitx_float I.kIn True.intro e (λz=>nomatch z) h
 | @lst a xs ea =>
  cases(show u=Value.ref a from rx)
  obtain⟨_,_,n,_,h1⟩:=(show ObjOk X.prog X.w H s.heap a (.lst xs) from I.hok a _ ea)
  exact W.kia_one W.kitx_list I.kIn {_,h1,O} e (λz=>nomatch z) h
 | @frz a ob xs ea =>
  cases(show u=Value.ref a from rx)
  obtain⟨_,_,_,n,_,h1⟩:=(show ObjOk X.prog X.w H s.heap a (.frz ob (.lst xs)) from I.hok a _ ea)
  exact W.kia_one W.kitx_list I.kIn {_,h1,O} e (λz=>nomatch z) h
 | @tup a xs ea =>
  cases(show u=Value.ref a from rx)
  obtain⟨_,_,_,p⟩:=(show ObjOk X.prog X.w H s.heap a (.tup xs) from I.hok a _ ea)
  obtain⟨o,h1,h2,_⟩:=p
  exact W.kia_one W.kitx_tuple I.kIn ⟨o,h1,h2⟩ e (λz=>nomatch z) h
 | @dK a kvs ea =>
  cases(show u=Value.ref a from rx)
  obtain⟨_,_,vs,_,p⟩:=(show ObjOk X.prog X.w H s.heap a (.dK kvs) from I.hok a _ ea)
  obtain⟨o,es,ep,h1,h2,_⟩:=p
  exact W.kia_one W.kitx_dict I.kIn ⟨o,h1,h2.1⟩ e (λz=>nomatch z) h
 | @dT a kvs ea =>
  cases(show u=Value.ref a from rx)
  obtain⟨_,_,xs,_,o,es,ep,h1,h2,_⟩:=(show ObjOk X.prog X.w H s.heap a (.dT kvs) from I.hok a _ ea)
  exact W.kia_one W.kitx_dict I.kIn ⟨o,h1,h2.1⟩ e (λz=>nomatch z) h
 | @ins a C dx fs ea cl ha hn htk hm =>
  cases(show u=Value.ref a from rx)
  obtain⟨mA,O9,_⟩:=zb1 I.hok ea
  obtain⟨od,J,_⟩:=O9.look
  exact W.kia_one (W.kitx_own (cl.get _) cl.hd ha hn htk hm) I.kIn J e (λz=>nomatch z) h
end
structure Room(k:Nat)(A:Around):Prop where
 hd:A.handled=none
 dp:A.depth+3*k+5<recursionLimit
 un:A.units+16*k+200<cLine
 gd:A.guards=some []
def Room.mono{j k:Nat}{A:Around}(r:Room k A)(h:j<=k):Room j A:={r.hd,by have:=r.dp;omega,by have:=r.un;omega,r.gd}
def Room.deeper{k:Nat}{A:Around}(r:Room (k+1) A)(env:Env):Room k (A.deeper env):=
 {r.hd,by have:=r.dp;show A.depth+1+3*k+5<_;omega,by have:=r.un;show A.units+3+16*k+200<_;omega,r.gd}
def Room.in1{k:Nat}{A:Around}(r:Room (k+1) A):Room k A.in1:=
 {r.hd,by have:=r.dp;show A.depth+3*k+5<_;omega,by have:=r.un;show A.units+1+16*k+200<_;omega,r.gd}
def zim{A:Around}{C:Addr}{us:List Value}{kw:List (Str×Value)}:(A.under (.builtin "type.__call__" {.ref C::us,kw})).depth=A.depth+1:=by
 first|rfl|simp[Around.under,Code.weight,Code.isCreation,Code.isGuard,Code.isCaller,Code.frames,Code.isFrame,guardIds]
def zil{A:Around}{C:Addr}{us:List Value}{kw:List (Str×Value)}:(A.under (.builtin "type.__call__" {.ref C::us,kw})).units=A.units+1:=by
 first|rfl|simp[Around.under,Code.cUnits,Code.frames,Code.isFrame]
def zhg{A:Around}{C:Addr}{us:List Value}{kw:List (Str×Value)}(h:A.guards=some []):(A.under (.builtin "type.__call__" {.ref C::us,kw})).guards=some []:=by
 have hc:(Code.builtin "type.__call__" ⟨Value.ref C::us,kw⟩).guards=[]:=by
  first|rfl|(simp[Code.guards,Code.isGuard,guardIds];done)|(unfold Code.guards;rw[if_neg];decide +kernel)|skip
 simp only[Around.under,h,hc]
 rfl
def Room.make{k:Nat}{A:Around}(r:Room (k+1) A)(C:Addr)(us:List Value)(kw:List (Str×Value)):Room k (A.under (.builtin "type.__call__" {.ref C::us,kw})):=
 {r.hd,by have:=r.dp;rw[zim];omega,by have:=r.un;rw[zil];omega,zhg r.gd}
def Room.depth{k:Nat}{A:Around}(r:Room k A):A.depth<recursionLimit:=by have:=r.dp;omega
def Room.units{k:Nat}{A:Around}(r:Room k A):A.units+64<cLine:=by have:=r.un;omega
def Room.units0{k:Nat}{A:Around}(r:Room k A):A.units<cLine:=by have:=r.un;omega
def tNil:TA:=λ_ H Q=>Q [] H
def tCons(ta:TE)(tr:TA):TA:=λU H Q=>ta U H λx H1=>tr U H1 λxs H2=>Q (x::xs) H2
section
variable{X:Cx}{e:Expr}{es:List Expr}{te:TE}{t:TA}{pos:Pos}
def zad:PA X [] tNil:=λ_ _ _ _ H Q I h=>Calls.spliced_nil {[],H,I,.nil,h}
def zaa(ha:PE X e te)(hr:PA X es t)(hs:starEach (e::es) X.env=(false,eval e X.env)::starEach es X.env:=by rfl):PA X (e::es) (tCons te t):=by
 intro pos pins s U H Q I h
 rw[hs]
 show wpAny _ _ (spliced ((false,eval e X.env)::backTo pos (starEach es X.env))) _ _ s
 refine Calls.spliced_cons (thn (ha pins s U H _ I h) λu s1 hh_=>?_)
 obtain⟨x,H1,I1,r1,q1⟩:=hh_
 exact thn (hr pos pins s1 U H1 _ I1 q1) λus s2 ⟨xs,H2,I2,r2,q2⟩=>{x::xs,H2,I2,.cons r1 r2,q2}
def tTup(t:TA):TE:=λU H Q=>t U H λxs H1=>xs.length<=sizeLine/\∀p,H1 p=none->Q (.ref p) (upd H1 p (.tup xs))
def tLst(t:TA):TE:=λU H Q=>t U H λxs H1=>xs.length<=sizeLine/\∀p,H1 p=none->Q (.ref p) (upd H1 p (.lst xs))
def za7{x1}(h:PA X es t):PE X (.Tuple es x1 pos) (tTup t):=by
 intro pins s U H Q I hq
 refine wpAny_Tuple_spliced (thn (h pos pins s U H _ I hq) λus s1 ⟨xs,H1,I1,r,z,q⟩=>{by rw[<- r.length];exact z,?_})
 have hf:H1 s1.heap.objs.size=none:=I1.hok.fresh (Xae _)
 refine{.ref s1.heap.objs.size,upd H1 s1.heap.objs.size (.tup xs),I1.laid (t':=s1.toks) (λb u e=>Xab _ e) (Xae _) ?_,O,q _ hf}
 exact{{z,_,Xai _ O,O},us,r,{_,Xai _ O,O,_,O}}
def zaA(h:PA X es t):PE X (.List es pos) (tLst t):=by
 intro pins s U H Q I hq
 refine wpAny_List_spliced (thn (h pos pins s U H _ I hq) λus s1 ⟨xs,H1,I1,r,z,q⟩=>{by rw[<- r.length];exact z,?_})
 have hf:H1 s1.heap.objs.size=none:=I1.hok.fresh (Xae _)
 refine{.ref s1.heap.objs.size,upd H1 s1.heap.objs.size (.lst xs),I1.laid (t':=s1.toks) (λb u e=>Xab _ e) (Xae _) ?_,O,q _ hf}
 exact{z,us,0,r,Xai _ O}
end
abbrev Sp:=List V->Hp->VK->XK->Prop
abbrev CXT:=List Env->Hp->Shared->XK->Value->Shared->Prop
structure Env0(P:Program)(w:World)(K:W.Frag)(mg:Str->Option Value)(base:Heap)(A:Around)(outer:List Env)(s:Shared)(H:Hp):Prop where
 frames:A.frames=some outer
 mod:Mod K mg base
 bs:∀b o,base.get? b=some o->s.heap.get? b=some o/\H b=none
 bsz:base.objs.size<=s.heap.objs.size
 funs:s.heap.FunFrames base outer
 frf:∀b∈frs outer,H b=none
 hok:HOk P w H s.heap
 bare:AllBare s.gens
def CE(outer:List Env)(P:Program)(w:World)(H:Hp)(s:Shared)(Q:VK)(u:Value)(s':Shared):Prop:=
 ∃v H',s'.os=s.os/\AllBare s'.gens/\Un (frs outer) [] H H' s.heap s'.heap/\HOk P w H' s'.heap/\RelV v u/\Q v H'
def CR(CX:CXT)(outer:List Env)(P:Program)(w:World)(H:Hp)(s:Shared)(Q:VK)(E:XK)(r:Result)(s':Shared):Prop:=
 match r with
 | .ok (.ret u)=>CE outer P w H s Q u s'
 | .ok _=>False
 | .error e=>CX outer H s E e s'
structure FnOk(P:Program)(w:World)(K:W.Frag)(mg:Str->Option Value)(base:Heap)(CX:CXT)(k:Nat)(f:Addr)(fd:FuncData)(ps:List Str)(sp:Sp):Prop where
 len:∀vs H Q E,sp vs H Q E->vs.length=ps.length
 run:∀(A:Around) (outer:List Env) (s:Shared) (H:Hp) (args:Args) (us:List Value) (vs:List V) (Q:VK) (E:XK),Room k A->Env0 P w K mg base A outer s H->BindsTo s fd args (ps.zip us)->Vals vs us->sp vs H Q E ->
  codeAny (model P w) A (.call (.ref f) args) (CR CX outer P w H s Q E) s
def FnOk.mono{P:Program}{w:World}{K:W.Frag}{mg:Str->Option Value}{base:Heap}{CX:CXT}{j k:Nat}{f:Addr}{fd:FuncData}{ps:List Str}{sp:Sp}(F:FnOk P w K mg base CX j f fd ps sp)(h:j<=k) :
  FnOk P w K mg base CX k f fd ps sp:={F.len,λA outer s H args us vs Q E hr=>F.run A outer s H args us vs Q E (hr.mono h)}
def FnOk.imp{P:Program}{w:World}{K:W.Frag}{mg:Str->Option Value}{base:Heap}{CX:CXT}{k:Nat}{f:Addr}{fd:FuncData}{ps:List Str}{sp sp':Sp}(F:FnOk P w K mg base CX k f fd ps sp)
  (h:∀vs H Q E,sp' vs H Q E->sp vs H Q E):FnOk P w K mg base CX k f fd ps sp':=
 {λvs H Q E q=>F.len vs H Q E (h _ _ _ _ q),λA outer s H args us vs Q E hr he hb hv hs=>F.run A outer s H args us vs Q E hr he hb hv (h _ _ _ _ hs)}
def Env0.make{P:Program}{w:World}{K:W.Frag}{mg:Str->Option Value}{base:Heap}{A:Around}{outer:List Env}{s:Shared}{H:Hp}(e:Env0 P w K mg base A outer s H)(C:Addr)(us:List Value)(kw:List (Str×Value)) :
  Env0 P w K mg base (A.under (.builtin "type.__call__" {.ref C::us,kw})) outer s H:={by first|exact e.frames|(simpa[Around.under,Code.envs,Code.isFrame,pushEnvs] using e.frames),e.mod,e.bs,e.bsz,e.funs,e.frf,e.hok,e.bare}
def Env0.in1{P:Program}{w:World}{K:W.Frag}{mg:Str->Option Value}{base:Heap}{A:Around}{outer:List Env}{s:Shared}{H:Hp}(e:Env0 P w K mg base A outer s H) :
  Env0 P w K mg base A.in1 outer s H:=⟨e.frames,e.mod,e.bs,e.bsz,e.funs,e.frf,e.hok,e.bare⟩
section
variable{X:Cx}{pins:List (Addr×Obj)}{U:St}{H:Hp}{s s':Shared}
def Inv.env0(I:Inv X pins U H s):Env0 X.prog X.w X.K X.mg X.base X.A X.stack s H:=
 {I.ok.frames,I.ok.mod,I.bs,Xar I.ok.bsz I.sz,I.stack,I.stkFree,I.hok,I.bare}
def Inv.after{Q:VK}{u:Value}(I:Inv X pins U H s)(h:CE X.stack X.prog X.w H s Q u s'):EP X pins U Q u s':=by
 obtain⟨v,H',os,bare,un,hok,r,q⟩:=h
 obtain⟨hh,g,d,t,os'⟩:=s'
 obtain rfl:os'=s.os:=os
 exact{v,H',I.call (h':=hh) (g':=g) (d':=d) (t':=t) (ch:=[]) un hok bare (λb z=>absurd z (by simp)),r,q}
end
def zkt(sp:Sp)(dvs:List V)(E:XK)(t:TA):TE:=λU H Q=>t U H λvs H1=>sp (vs++dvs) H1 Q E
def Binds(K:W.Frag)(fd:FuncData)(ps:List Str)(ds:List Value):Prop:=
 ∀(s:Shared) (us:List Value),K.In s.heap->(us++ds).length=ps.length->BindsTo s fd {us,[]} (ps.zip (us++ds))
def Binds.all{K:W.Frag}{fd:FuncData}{ps:List Str}(h:∀us:List Value,us.length=ps.length->bindArgs fd {us,[]}=pure (ps.zip us)):Binds K fd ps []:=λs us _ hl=>by
 rw[Xbm] at hl ⊢
 exact .of_eq (h us hl)
def Passes(CX:CXT)(X:Cx)(E:XK):Prop:=∀(pins:List (Addr×Obj)) (U:St) (H:Hp) (s:Shared) (e:Value) (s':Shared),Inv X pins U H s->CX X.stack H s E e s'->X.xe e s'
section
variable{X:Cx}{CX:CXT}{k:Nat}{f C:Addr}{fd:FuncData}{ps:List Str}{sp:Sp}{dvs:List V}{ds:List Value}{E:XK}{x m:Str}{p pos apos:Pos}{e o:Expr}{es:List Expr}{ta:TE}{t:TA}
def zlx{pins:List (Addr×Obj)}{U:St}{H:Hp}{s:Shared}{Q:VK}{us:List Value}{vs:List V}(F:FnOk X.prog X.w X.K X.mg X.base CX k f fd ps sp)(hr:Room k X.A)(hb:Binds X.K fd ps ds)(hd:Vals dvs ds)(hx:Passes CX X E)
  (I:Inv X pins U H s) (r:Vals vs us) (h:sp (vs++dvs) H Q E):wpAny (model X.prog X.w) X.A (call (.ref f) us) (EP X pins U Q) X.xe s:=by
 have r2:Vals (vs++dvs) (us++ds):=r.append hd
 have hl:(us++ds).length=ps.length:=by rw[<- r2.length];exact F.len _ _ _ _ h
 refine XbJ (Xbv (F.run X.A X.stack s H {us,[]} (us++ds) (vs++dvs) Q E hr I.env0 (hb s us I.kIn hl) r2 h) λr s' hq=>?_)
 cases r with
 | error e=>exact hx pins U H s e s' I hq
 | ok fl =>
  cases fl with
  | ret u=>exact I.after hq
  | next=>exact False.elim hq
  | brk=>exact False.elim hq
  | cont=>exact False.elim hq
def zmw(F:FnOk X.prog X.w X.K X.mg X.base CX k f fd ps sp)(hr:Room k X.A)(hg:Gl X x)(hm:X.mg x=some (.ref f))(hk:W.keepIn X.K (.ref f)=true)(hb:Binds X.K fd ps ds)(hd:Vals dvs ds)(hx:Passes CX X E)
  (ha:PA X (e::es) t) (hdb:(x==("__debug__" : Str))=false:=by decide) (he:starEach (e::es) X.env=(false,eval e X.env)::starEach es X.env:=by rfl) (hpl:(backTo pos (starEach es X.env)).any (·.1)=false:=by rfl) :
  PE X (.Call (.Name x p) (e::es) [] pos) (zkt sp dvs E t):=by
 intro pins s U H Q I h
 refine XbU (zdq I hg hm ?_ hdb)
 refine W.callWith_K (h₀:=X.base) I.ok.mod.kin hk (thn (ha pos pins s U H _ I h) λus s1 ⟨vs,H1,I1,r,q⟩=>{I1.kIn,?_}) he hpl
 exact zlx F hr hb hd hx I1 r q
structure Mk(K:W.Frag)(C f:Addr):Prop where
 makes:W.makesIn K C=true
 init:W.findIn K (.ref C) "__init__"=some (some (.ref f))
 fn:W.isFn K (.ref f)=true
 kp:W.keepIn K (.ref C)=true
end
def PK(X:Cx)(kws:List Keyword)(t:TA):Prop:=
 ∀(pos:Pos) (pins:List (Addr×Obj)) (s:Shared) (U:St) (H:Hp) (Q:List V->Hp->Prop),Inv X pins U H s->t U H Q->wpAny (model X.prog X.w) X.A (evalAll ((backToKw pos (keywordEach kws X.env)).map (·.2))) (AP X pins U Q) X.xe s
section
variable{X:Cx}{CX:CXT}{k:Nat}{f C:Addr}{fd:FuncData}{ps ks:List Str}{sp:Sp}{E:XK}{x m:Str}{p pos apos kpos:Pos}{e o:Expr}{es:List Expr}{kws:List Keyword}{te ta:TE}{t tk:TA}{nm:Option Str}
def pk_nil:PK X [] tNil:=λ_ _ _ _ H Q I h=>wpAny_evalAll_nil {[],H,I,.nil,h}
def zmp(ha:PE X e te)(hr:PK X kws t):PK X (⟨nm,e,kpos⟩::kws) (tCons te t):=by
 intro pos pins s U H Q I h
 show wpAny _ _ (evalAll ((do let v <- eval e X.env;standAt pos;pure v)::(backToKw pos (keywordEach kws X.env)).map (·.2))) _ _ s
 refine wpAny_evalAll_cons (Xaa (thn (ha pins s U H _ I h) λu s1 ⟨x,H1,I1,r1,q1⟩=>Xaa (Xa3 (Xac ?_))))
 exact thn (hr pos pins s1 U H1 _ I1 q1) λus s2 ⟨xs,H2,I2,r2,q2⟩=>{x::xs,H2,I2,.cons r1 r2,q2}
structure KBinds(K:W.Frag)(fd:FuncData)(ps ks:List Str)(g:List Value->List Value->List Value)(gV:List V->List V->List V):Prop where
 to:∀(s:Shared) (us ws:List Value),K.In s.heap->(g us ws).length=ps.length->BindsTo s fd {us,ks.zip ws} (ps.zip (g us ws))
 rel:∀{vs:List V} {us:List Value} {zs:List V} {ws:List Value},Vals vs us->Vals zs ws->Vals (gV vs zs) (g us ws)
variable{g:List Value->List Value->List Value}{gV:List V->List V->List V}
def zff{pins:List (Addr×Obj)}{U:St}{H:Hp}{s:Shared}{Q:VK}{us ws:List Value}{vs zs:List V}(F:FnOk X.prog X.w X.K X.mg X.base CX k f fd ps sp)(hr:Room k X.A)(hb:KBinds X.K fd ps ks g gV)(hx:Passes CX X E)
  (I:Inv X pins U H s) (r:Vals vs us) (rz:Vals zs ws) (h:sp (gV vs zs) H Q E):wpAny (model X.prog X.w) X.A (call (.ref f) us (ks.zip ws)) (EP X pins U Q) X.xe s:=by
 have r2:=hb.rel r rz
 have hl:(g us ws).length=ps.length:=by rw[<- r2.length];exact F.len _ _ _ _ h
 refine XbJ (Xbv (F.run X.A X.stack s H {us,ks.zip ws} (g us ws) (gV vs zs) Q E hr I.env0 (hb.to s us ws I.kIn hl) r2 h) λr s' hq=>?_)
 cases r with
 | error e=>exact hx pins U H s e s' I hq
 | ok fl =>
  cases fl with
  | ret u=>exact I.after hq
  | next=>exact False.elim hq
  | brk=>exact False.elim hq
  | cont=>exact False.elim hq
end
structure FnScope(N P:List Str)(sc:Scope):Prop where
 kind:sc.kind=.function
 co:sc.isCoroutine=false
 gen:sc.isGenerator=false
 nd:N.Nodup
 pre:N.take P.length=P
 par:∀x∈P,sc.names.lookup x=some .local\/sc.names.lookup x=some .cell
 nofree:∀y∈sc.names,y.2≠.free
def zgv{kindOf:Str->Option NameKind}{x:Str}:∀{binds:List (Str×Value)} {m:Str->Option Value},(∀v,(x,v)∉binds)->bindL kindOf binds m x=m x
 | [],_,_=>rfl
 | (n,v)::r,m,h=>by
  unfold bindL
  rw[zgv λw hw=>h w (XaA _ hw)]
  split
  .have:x≠n:=by rintro rfl;exact h v Xay
   simp[this]
  .rfl
def zgx{kindOf:Str->Option NameKind}{x:Str}:∀{binds:List (Str×Value)} {m:Str->Option Value},(∀v,(x,v)∉binds)->bindC kindOf binds m x=m x
 | [],_,_=>rfl
 | (n,v)::r,m,h=>by
  unfold bindC
  rw[zgx λw hw=>h w (XaA _ hw)]
  split
  .rfl
  .have:x≠n:=by rintro rfl;exact h v Xay
   simp[this]
def zgw{kindOf:Str->Option NameKind}{x:Str}{v:Value}:∀{P:List Str} {vs:List Value} {i:Nat} {m:Str->Option Value},P.Nodup->P[i]?=some x->vs[i]?=some v->kindOf x=some .local ->
  bindL kindOf (P.zip vs) m x=some v
 | [],_,_,_,_,h,_,_=>by simp at h
 | _::_,[],_,_,_,_,h,_=>by simp at h
 | p::P,w::vs,0,m,nd,h1,h2,hk=>by
  simp at h1 h2;subst h1;subst h2
  show bindL kindOf ((p,w)::P.zip vs) m p=_
  unfold bindL
  rw[zgv λv hv=>(XbV.mp nd).1 (List.of_mem_zip hv).1,if_pos hk]
  simp
 | p::P,w::vs,i+1,m,nd,h1,h2,hk=>by
  show bindL kindOf ((p,w)::P.zip vs) m x=_
  unfold bindL
  exact zgw (i:=i) (XbV.mp nd).2 (by simpa using h1) (by simpa using h2) hk
def zgy{kindOf:Str->Option NameKind}{x:Str}{v:Value}:∀{P:List Str} {vs:List Value} {i:Nat} {m:Str->Option Value},P.Nodup->P[i]?=some x->vs[i]?=some v->kindOf x≠some .local ->
  bindC kindOf (P.zip vs) m x=some v
 | [],_,_,_,_,h,_,_=>by simp at h
 | _::_,[],_,_,_,_,h,_=>by simp at h
 | p::P,w::vs,0,m,nd,h1,h2,hk=>by
  simp at h1 h2;subst h1;subst h2
  show bindC kindOf ((p,w)::P.zip vs) m p=_
  unfold bindC
  rw[zgx λv hv=>(XbV.mp nd).1 (List.of_mem_zip hv).1,if_neg hk]
  simp
 | p::P,w::vs,i+1,m,nd,h1,h2,hk=>by
  show bindC kindOf ((p,w)::P.zip vs) m x=_
  unfold bindC
  exact zgy (i:=i) (XbV.mp nd).2 (by simpa using h1) (by simpa using h2) hk
def start(N:List Str)(vs:List V):St:=vs.map some++List.replicate (N.length-vs.length) none
def cxOf(CX:CXT)(P:Program)(w:World)(K:W.Frag)(mg:Str->Option Value)(base:Heap)(N:List Str)(qual:Str)(scope:Scope)(f:Addr)(cd:Value)(A:Around)(outer:List Env)(s:Shared)(H:Hp)(E:XK):Cx where
 prog:=P
 w:=w
 K:=K
 mg:=mg
 base:=base
 A:=A.deeper (envOfC qual scope s.heap.objs.size f cd)
 N:=N
 s₀:=s
 H₀:=H
 env:=envOfC qual scope s.heap.objs.size f cd
 outer:=outer
 stack:=envOfC qual scope s.heap.objs.size f cd::outer
 ex:=[]
 calm:=true
 fn:=λ_=>true
 pn:=[]
 xe:=λe s'=>wpAny (model P w) (A.deeper (envOfC qual scope s.heap.objs.size f cd)) (leaving (envOfC qual scope s.heap.objs.size f cd) e) (λ_ s''=>CX outer H s E e s'') (λe' s''=>CX outer H s E e' s'') s'
def zhS{sc:Scope}{n:Nat}{x:Str}(h:sc.names.lookup x=some .cell):∃c,(cellsFrom n sc.names []).lookup x=some c:=by
 have q:=W.cellsFrom_some sc.names n [] (.inl h)
 exact Option.isSome_iff_exists.mp q
def zjG{CX:CXT}{P:Program}{w:World}{K:W.Frag}{mg:Str->Option Value}{base:Heap}{N ps:List Str}{qual:Str}{scope:Scope}{f:Addr}{cd:Value}{A:Around}{outer:List Env}{s s1:Shared}{H:Hp}{E:XK}{us:List Value}{vs:List V}
  (S:FnScope N ps scope) (hd:A.handled=none) (e0:Env0 P w K mg base A outer s H) (hl:vs.length=ps.length) (r:Vals vs us)
  (x:InCallC s s.heap.objs.size (bindL (envOfC qual scope s.heap.objs.size f cd).kindOf (ps.zip us) λ_=>none) (cellsFrom (s.heap.objs.size+1) scope.names []) (bindC (envOfC qual scope s.heap.objs.size f cd).kindOf (ps.zip us) λ_=>none) s1) :
  Inv (cxOf CX P w K mg base N qual scope f cd A outer s H E) [] (start N vs) H s1:=by
 have hpl:ps.length<=N.length:=by have:=congrArg List.length S.pre;rw[Xa6] at this;omega
 obtain⟨h1,tk,rfl,hk⟩:=x.done
 have noA:∀b:Addr,b∉(cxOf CX P w K mg base N qual scope f cd A outer s H E).ex:=λb z=>absurd (show b∈([]:List Addr) from z) (by simp)
 refine⟨{e0.mod,S.kind,O,O,Xae _,λy z c h1 h2=>?_,λy hy=>?_,λy c _ h=>?_,λ_=>hd,Around.frames_deeper e0.frames,.inr ⟨O,O⟩,λb z=>absurd z (noA b),e0.bs,e0.bsz,λb _ _=>noA b,λb z=>absurd z (noA b),e0.funs,e0.frf},
  rfl,e0.bare,Un.kept hk,{_,x.toInCall.ns,λi y v h1 h2 h3=>?_},λy c h=>{_,x.cell y c h},e0.hok.fresh (Xae _),λy c h=>?_,λp hp=>absurd (show p∈([]:List (Addr×Obj)) from hp) (by simp),e0.hok.kept hk,?_⟩
 .exact name_of_addr x.apart (PySem.mem_of_lookup h1) (PySem.mem_of_lookup h2)
 .have hy:scope.names.lookup y=some .cell\/scope.names.lookup y=some .free:=hy
  rcases hy with hy|hy
  .exact zhS hy
  .exact absurd O (S.nofree _ (PySem.mem_of_lookup hy))
 .exact XbN (x.above y c (PySem.mem_of_lookup h))
 .have hi:i<vs.length:=by
   unfold start at h2
   by_cases hi:i<vs.length
   .exact hi
   .rw[Xbp (by simpa using hi)] at h2
    rw[List.getElem?_replicate] at h2
    split at h2<;>cases h2
  have ha:vs[i]?=some v:=by
   unfold start at h2
   rw[Xbt (by simpa using hi),Xao] at h2
   cases e:vs[i]? with
   | none=>rw[e] at h2;cases h2
   | some a=>rw[e] at h2;cases h2;rfl
  obtain⟨u,hu,rv⟩:=r.get ha
  have hp:ps[i]?=some y:=by
   rw[<- S.pre,List.getElem?_take_of_lt (by omega)];exact h1
  have ndP:ps.Nodup:=by rw[<- S.pre];exact S.nd.sublist (List.take_sublist _ _)
  refine{u,rv,?_}
  rcases S.par y (Xas hp) with k|k
  .exact .inl {k,zgw ndP hp hu k}
  .obtain⟨c,e⟩:=zhS (n:=s.heap.objs.size+1) k
   refine .inr {.inl k,c,e,?_}
   have q:=x.cell y c e
   rw[zgy ndP hp hu (by show scope.names.lookup y≠_;rw[k];decide)] at q
   exact q
 .exact e0.hok.fresh (XbN (x.above y c (PySem.mem_of_lookup h)))
 .unfold start
  show _=N.length
  rw[Xam,Xag,XbC]
  omega
def zlb{CX:CXT}{P:Program}{w:World}{K:W.Frag}{mg:Str->Option Value}{base:Heap}{k:Nat}{f:Addr}{name qual:Str}{params:Arguments}{body:List Stmt}{scope:Scope}{dV kV doc pm cdv ct oc:Value}{an od:Option Addr}
  {osl:Array (Option Value)} {N ps:List Str} {sp:Sp} (lk:K.lookup f=some {oc,od,.func (W.fnOf name qual params body scope dV kV doc pm an cdv ct),osl}) (hcd:W.codeIn K cdv qual=true) (S:FnScope N ps scope)
  (len:∀vs H Q E,sp vs H Q E->vs.length=ps.length)
  (hbody:∀(A:Around) (outer:List Env) (s:Shared) (H:Hp) (vs:List V) (Q:VK) (E:XK),Room k (A.deeper (envOfC qual scope s.heap.objs.size f cdv))->sp vs H Q E ->
   ∃t,PSs (cxOf CX P w K mg base N qual scope f cdv A outer s H E) body t/\t {nx:=λ_ H'=>Q .non H',rt:=Q} (start N vs) H) :
  FnOk P w K mg base CX (k+1) f (W.fnOf name qual params body scope dV kV doc pm an cdv ct) ps sp:=by
 refine{len,λA outer s H args us vs Q E hr e0 hb r hsp=>?_}
 have hl:=len _ _ _ _ hsp
 have KX:K.In s.heap:=e0.mod.kin.keeps λb o e=>(e0.bs b o e).1
 have lim:s.heap.NoLimit:=e0.mod.nolimit.keeps λb o e=>(e0.bs b o e).1
 have hkind:∀y∈ps.zip us,scope.names.lookup y.1=some .local\/(scope.names.lookup y.1=some .cell/\((cellsFrom (s.heap.objs.size+1) scope.names []).lookup y.1).isSome=true):=λ⟨n,v⟩ hy=>by
  rcases S.par n (List.of_mem_zip hy).1 with q|q
  .exact .inl q
  .exact .inr {q,W.cellsFrom_some _ _ _ (.inl q)}
 refine codeAny_call_function hr.depth (KX _ _ lk) O S.co S.gen O (W.codeRec_of KX hcd) (hb _ _ _ _ ?_)
 refine wpAny_newFunctionEnv_cells S.kind hkind λenv he s1 x=>?_
 subst he
 refine{lim.keeps x.toInCall.keep,codeAny_func ?_}
 obtain⟨t,ht,hq⟩:=hbody A outer s H vs Q E (hr.deeper _) hsp
 have I:Inv (cxOf CX P w K mg base N qual scope f cdv A outer s H E) [] (start N vs) H s1:=zjG S hr.hd e0 hl r x
 refine Xat (ht [] s1 (start N vs) H _ I hq) (λfl s' hs=>?_) λe s' hs=>hs
 have fin:∀{U':St} {H':Hp} {v:V} {u:Value},Inv (cxOf CX P w K mg base N qual scope f cdv A outer s H E) [] U' H' s'->RelV v u->Q v H'->CE outer P w H s Q u s':=
  λ{U' H' v u} J rv q=>⟨v,H',J.os,J.bare,J.base,J.hok,rv,q⟩
 cases fl with
 | ret u =>
  obtain⟨v,U',H',J,rv,q⟩:=hs
  exact fin J rv q
 | next =>
  obtain⟨U',H',J,q⟩:=hs
  exact fin (v:=V.non) (u:=Value.none) J O q
 | brk =>
  obtain⟨_,_,_,q⟩:=hs
  exact False.elim q
 | cont =>
  obtain⟨_,_,_,q⟩:=hs
  exact False.elim q
section
variable{X:Cx}{x:Str}{p pos:Pos}{e:Expr}{es:List Expr}{t:TA}{id T:String}{r:List V->Hp->VK->Prop}
def tCB(r:List V->Hp->VK->Prop)(t:TA):TE:=λU H Q=>t U H λvs H1=>r vs H1 Q
def zao(hc:zcR X (.builtin id) r)(hg:Gl X x)(hm:X.mg x=none)(hv:bootBuiltins x=some (.builtin id))(ha:PA X (e::es) t)(hn:x ≠ "__name__" := by decide)(hdb:(x==("__debug__" : Str))=false:=by decide)
  (he:starEach (e::es) X.env=(false,eval e X.env)::starEach es X.env:=by rfl) (hpl:(backTo pos (starEach es X.env)).any (·.1)=false:=by rfl):PE X (.Call (.Name x p) (e::es) [] pos) (tCB r t):=by
 intro pins s U H Q I h
 refine XbU (zc0 I hg hm hv ?_ hn hdb)
 exact PyProof.Rows.callWith_builtin1 (thn (ha pos pins s U H _ I h) λus s1 ⟨vs,H1,I1,r1,q1⟩=>hc pins s1 U H1 vs us Q I1 r1 q1) he hpl
def zbe(hc:zcR X (.type T) r)(hg:Gl X x)(hm:X.mg x=none)(hv:bootBuiltins x=some (.type T))(ha:PA X (e::es) t)(hn:x ≠ "__name__" := by decide)(hdb:(x==("__debug__" : Str))=false:=by decide)
  (he:starEach (e::es) X.env=(false,eval e X.env)::starEach es X.env:=by rfl) (hpl:(backTo pos (starEach es X.env)).any (·.1)=false:=by rfl):PE X (.Call (.Name x p) (e::es) [] pos) (tCB r t):=by
 intro pins s U H Q I h
 refine XbU (zc0 I hg hm hv ?_ hn hdb)
 exact PyProof.Rows.callWith_type1 (thn (ha pos pins s U H _ I h) λus s1 ⟨vs,H1,I1,r1,q1⟩=>hc pins s1 U H1 vs us Q I1 r1 q1) he hpl
end
end L2
namespace HT
open PySem PyProof.Rows
section
open PySem.SeqAt
open PySem.AutoSeq1 (wpAny_loadPart')
open PySem.MeetsSeq PySem.MeetsSeq2 PySem.MeetsSeq3
end
section
variable{prog:Program}{w:World}{A:Around}{E:Value->Shared->Prop}{s:Shared}
def cat_tup{t b:Addr}{vs ws:List Value}{Q:Value->Shared->Prop}(ht:IsTup s.heap t vs.toArray)(hb:IsTup s.heap b ws.toArray)(hv:vs≠[])
  (h1:ws=[]->Q (.ref t) s) (h2:ws≠[]->Q (.ref s.heap.objs.size) {s with heap:=s.heap.push {cls:=.type "tuple",data:=.seq (vs++ws).toArray}})
  (hsz:vs.length+ws.length<=sizeLine):wpAny (model prog w) A (binaryOp .Add (.ref t) (.ref b)) Q E s:=by
 obtain⟨⟨cls,dd,data,sl⟩,ho,hc,n,hd⟩:=id ht
 obtain⟨⟨cls2,dd2,data2,sl2⟩,ho2,hc2,n2,hd2⟩:=id hb
 simp only at hc hd hc2 hd2
 subst hc hd hc2 hd2
 have e:vs.toArray++ws.toArray=(vs++ws).toArray:=by simp
 by_cases hw:ws=[]
 .exact concat_meets {_,ho,O} {_,ho2,O} noFill_tuple_add seq_tuple_add PySem.F.slot_tuple_add PySem.F.entry_tuple_add (PySem.F.args_tuple_add_2 _ _)
   (tuple_addW1 t b vs.toArray ws.toArray n n2 dd dd2 sl sl2 (by simpa using hv) (by simp[hw])) {ho,ho2,h1 hw}
 .refine concat_meets {_,ho,O} {_,ho2,O} noFill_tuple_add seq_tuple_add PySem.F.slot_tuple_add PySem.F.entry_tuple_add (PySem.F.args_tuple_add_2 _ _)
   (tuple_addW2 t b vs.toArray ws.toArray n n2 dd dd2 sl sl2 (by simpa using hv) (by simpa using hw) (by rw[Xaq,Xaq];exact hsz)) {ho,ho2,?_}
  rw[e]
  exact h2 hw
def sIx(n d:Nat):Option Int->Nat
 | none=>d
 | some v=>if v<0 then(v+(n:Int)).toNat else min v.toNat n
def sIx_none(n d:Nat):sIx n d none=d:=rfl
def sIx_nat(n d k:Nat):sIx n d (some (k:Int))=min k n:=by
 show(if(k:Int)<0 then((k:Int)+(n:Int)).toNat else min (k:Int).toNat n)=min k n
 rw[if_neg (by omega),Xav]
def sIx_le(n d:Nat)(hd:d<=n)(o:Option Int):sIx n d o<=n:=by
 cases o with
 | none=>exact hd
 | some v =>
  show(if v<0 then(v+(n:Int)).toNat else min v.toNat n)<=n
  by_cases hv:v<0
  .rw[if_pos hv];omega
  .rw[if_neg hv];exact Nat.min_le_right _ _
def zj3(v:Int)(n d:Nat):(if v<0 then max (v+(n:Int)) 0 else min v (n:Int))=((sIx n d (some v):Nat):Int):=by
 show(if v<0 then max (v+(n:Int)) 0 else min v (n:Int))=(((if v<0 then(v+(n:Int)).toNat else min v.toNat n):Nat):Int)
 by_cases hv:v<0
 .simp only[if_pos hv];omega
 .simp only[if_neg hv];omega
def ziD(lo hi:Option Int)(n:Nat):Builtin.Slice.sliceAdjust lo hi 1 (n:Int)=(((sIx n 0 lo:Nat):Int),((sIx n n hi:Nat):Int)):=by
 have h1:¬ ((1:Int)<0):=by omega
 unfold Builtin.Slice.sliceAdjust
 simp only[h1,if_false]
 refine Prod.ext ?_ ?_
 .cases lo with
  | none=>rfl
  | some v=>exact zj3 v n 0
 .cases hi with
  | none=>rfl
  | some v=>exact zj3 v n n
def zh6(i j:Nat):Builtin.Slice.slicePlaces (i:Int) (j:Int) 1=j-i:=by
 unfold Builtin.Slice.slicePlaces
 have h1:(1:Int)>0:=by omega
 simp only[h1,if_true,Int.ediv_one]
 split<;>omega
def zeN{v:Value}{o:Option Int}{Q:Option Int->Shared->Prop}(p:IsPart v o)(h:Q o s):wpAny (model prog w) A (Builtin.Slice.slicePartIndex v) Q E s:=by
 cases p with
 | none=>exact slicePart_none h
 | int i t=>exact slicePart_int h
def zb3{sl:Addr}{vl vu:Value}{lo hi:Option Int}{n:Nat}{Q:Int×Int×Nat->Shared->Prop}(hs:s.heap.IsSliceOf sl vl vu .none)(pl:IsPart vl lo)(pu:IsPart vu hi)
  (h:Q (((sIx n 0 lo:Nat):Int),1,sIx n n hi-sIx n 0 lo) s):wpAny (model prog w) A (Builtin.Slice.sliceApplied (.ref sl) (pure (n:Int))) Q E s:=by
 obtain⟨os,hos,hcs,hds⟩:=id hs
 unfold Builtin.Slice.sliceApplied Builtin.Slice.sliceFields
 refine Xaa (Xaa (XaQ hos hds (x:=vl) O (Xaa (XaQ hos hds (x:=vu) O (Xaa (XaQ hos hds (x:=.none) O (Xac ?_)))))))
 refine Xaa (slicePart_none ?_)
 show wpAny _ _ (if((1:Int)==0)=true then _ else _) _ _ s
 rw[if_neg (by decide)]
 refine Xaa (zeN pl (Xaa (zeN pu (Xaa (Xac ?_)))))
 show wpAny _ _ (match Builtin.Slice.sliceAdjust lo hi 1 (n:Int) with|(lo,hi)=>pure (lo,(1:Int),Builtin.Slice.slicePlaces lo hi 1)) _ _ s
 rw[ziD lo hi n]
 show wpAny _ _ (pure (((sIx n 0 lo:Nat):Int),(1:Int),Builtin.Slice.slicePlaces ((sIx n 0 lo:Nat):Int) ((sIx n n hi:Nat):Int) 1)) _ _ s
 rw[zh6]
 exact Xac h
def zkJ(xs:Array Value)(i k:Nat):((List.range k).filterMap λ(m:Nat)=>xs[((i:Int)+(m:Int)*1).toNat]?).toArray=((xs.toList.drop i).take k).toArray:=by
 have e:(λ(m:Nat)=>xs[((i:Int)+(m:Int)*1).toNat]?)=λm=>xs[i+m]?:=by
  funext m
  have:((i:Int)+(m:Int)*1).toNat=i+m:=by omega
  rw[this]
 rw[e]
 have:=pick_run xs i k
 rw[List.filterMap_map] at this
 have e2:((λx=>xs[x]?)∘λx=>i+x)=λm=>xs[i+m]?:=rfl
 rw[e2] at this
 rw[this]
def getItem_tuple_cut{t sl:Addr}{items:Array Value}{vl vu:Value}{lo hi:Option Int}{Q:Value->Shared->Prop}(ht:IsTup s.heap t items)(hs:s.heap.IsSliceOf sl vl vu .none)(pl:IsPart vl lo)(pu:IsPart vu hi)
  (hw:¬ (sIx items.size 0 lo=0/\sIx items.size items.size hi=items.size))
  (h:Q (.ref s.heap.objs.size) {s with heap:=s.heap.push {cls:=.type "tuple",data:=.seq ((items.toList.drop (sIx items.size 0 lo)).take (sIx items.size items.size hi-sIx items.size 0 lo)).toArray}})
  (hsz:items.size<=sizeLine):wpAny (model prog w) A (getItem (.ref t) (.ref sl)) Q E s:=by
 have htake:sizeOk (.seq ((items.toList.drop (sIx items.size 0 lo)).take (sIx items.size items.size hi-sIx items.size 0 lo)).toArray):=by
  show((items.toList.drop (sIx items.size 0 lo)).take (sIx items.size items.size hi-sIx items.size 0 lo)).toArray.size<=sizeLine
  rw[Xaq,Xa6,XaV,Array.length_toList]
  omega
 have hj:sIx items.size items.size hi<=items.size:=sIx_le _ _ (Xae _) hi
 obtain⟨os,hos,hcs,hds⟩:=id hs
 have hTs:s.TypeIs (.ref sl) "slice" := ⟨os,hos,hcs⟩
 unfold getItem
 try with_reducible refine XaR ?_
 first|refine Xaa (Xac ?_)|skip
 refine Xaa (wpAny_sequenceKey ht.typeIs (by decide) ?_)
 refine Xaa (wpAny_callSpecial?_slot (name:=Str.ofString "__getitem__") ht.typeIs PyProof.Rows.slot_tuple_getitem
  (XaW PyProof.Rows.slot_tuple_getitem ht.typeIs entry_tuple_getitem ?_ (args_tuple_getitem _ _)))
 show wpAny _ _ (Builtin.Tuple.tupleItemsOf (.ref t) >>= _) _ _ s
 refine Xaa (tupleItemsOf_ ht ?_)
 refine Xaa (wpAny_typeOf hTs ?_)
 rw[if_pos (by decide)]
 refine Xaa (zb3 hs pl pu ?_)
 have hno:¬ ((((sIx items.size 0 lo:Nat):Int)==0&&(1:Int)==1&&(sIx items.size items.size hi-sIx items.size 0 lo)==items.size)=true):=by
  intro q
  rw[Xa0,Xa0] at q
  have q1:((sIx items.size 0 lo:Nat):Int)=0:=eq_of_beq q.1.1
  have q2:sIx items.size items.size hi-sIx items.size 0 lo=items.size:=eq_of_beq q.2
  exact hw {by omega,by omega}
 show wpAny _ _ (if(((sIx items.size 0 lo:Nat):Int)==0&&(1:Int)==1&&(sIx items.size items.size hi-sIx items.size 0 lo)==items.size)=true then _ else _) _ _ s
 rw[if_neg hno,zkJ]
 first
  | exact Xaa (m:=Builtin.Tuple.tupleExact _) (XaO (Xac {_,O,Xac h}) htake)
  | exact Xaa (m:=Builtin.Tuple.tupleExact _) (XaO (Xaa (Xac (Xac {_,O,Xac h}))) htake)
  | exact Xaa (Xaa (m:=Builtin.Tuple.tupleExact _) (XaO (Xac (Xac {_,O,Xac h})) htake))
  | exact Xaa (Xaa (m:=Builtin.Tuple.tupleExact _) (XaO (Xac {_,O,Xac h}) htake))
end
end HT
namespace L2
open PySem PySem.Spec PyProof.Rows
abbrev TO:=St->Hp->(Option Int->Hp->Prop)->Prop
def PO(X:Cx)(e:Option Expr)(t:TO):Prop:=
 ∀(pins:List (Addr×Obj)) (s:Shared) (U:St) (H:Hp) (Q:Option Int->Hp->Prop),Inv X pins U H s->t U H Q ->
  wpAny (model X.prog X.w) X.A (evalPart e X.env) (λu s'=>∃o H',Inv X pins U H' s'/\IsPart u o/\Q o H') X.xe s
def zl9:TO:=λ_ H Q=>Q none H
inductive tPart_1(Q:Option Int->Hp->Prop)(x:V)(H1:Hp):Prop
 | mk i(_:x=.int i)(_:Q (some i) H1)
def tPart(t:TE):TO:=λU H Q=>t U H (tPart_1 Q)
def ziq{ns:List Int}:∀{us:List Value},Vals (ns.map V.int) us->IntsAre us ns:=by
 induction ns with
 | nil=>intro us r;rw[List.map_nil] at r;cases r;exact .nil
 | cons n ns ih =>
  intro us r
  rw[XaF] at r
  cases r with
  | cons r1 r2 =>
   obtain⟨t,e⟩:=r1
   subst e
   exact .cons n t (ih r2)
section
variable{X:Cx}{e:Expr}{te:TE}{lo hi:Option Expr}{tl th:TO}{pos p2:Pos}
def zei:PO X none zl9:=by
 intro pins s U H Q I h
 rw[evalPart_none]
 exact Xac {none,H,I,.none,h}
def zbi(h:PE X e te):PO X (some e) (tPart te):=by
 intro pins s U H Q I hw
 rw[evalPart_some]
 refine thn (h pins s U H _ I hw) λu s1 hh_=>?_
 obtain⟨x,H1,I1,r1,q1⟩:=hh_
 obtain⟨i,rfl,q⟩:=q1
 obtain⟨t,rfl⟩:=r1
 exact{some i,H1,I1,.int i t,q}
def SlR(X:Cx)(r:V->Option Int->Option Int->Hp->VK->Prop):Prop:=
 ∀(pins:List (Addr×Obj)) (s:Shared) (U:St) (H:Hp) (x:V) (v vl vu:Value) (lo hi:Option Int) (sl:Addr) (Q:VK),Inv X pins U H s->RelV x v->s.heap.IsSliceOf sl vl vu .none->IsPart vl lo->IsPart vu hi->r x lo hi H Q ->
  ∃T id,typeLookup (.type T) "__getitem__"=pure (some (.builtin id))/\s.TypeIs v T/\wpAny (model X.prog X.w) X.A (getItem v (.ref sl)) (EP X pins U Q) X.xe s
def tSl(r:V->Option Int->Option Int->Hp->VK->Prop)(te:TE)(tl th:TO):TE:=λU H Q=>te U H λx H1=>tl U H1 λl H2=>th U H2 λu H3=>r x l u H3 Q
def zbF{r:V->Option Int->Option Int->Hp->VK->Prop}(hr:SlR X r)(he:PE X e te)(hl:PO X lo tl)(hu:PO X hi th):PE X (.Subscript e (.Slice lo hi none p2) pos) (tSl r te tl th):=by
 intro pins s U H Q I h
 refine Subscript_ (thn (he pins s U H _ I h) λv s1 hh_=>?_)
 obtain⟨x,H1,I1,r1,q1⟩:=hh_
 refine wpAny_Slice (thn (hl pins s1 U H1 _ I1 q1) λvl s2 ⟨l,H2,I2,pl,q2⟩=>thn (hu pins s2 U H2 _ I2 q2) λvu s3 hh_=>?_)
 obtain⟨u,H3,I3,pu,q3⟩:=hh_
 rw[evalPart_none]
 refine Xac ?_
 have I4:Inv X pins U H3 {s3 with heap:=s3.heap.push {cls:=.type "slice",data:=.fields #[vl,vu,.none]}}:=I3.kept (t':=s3.toks) λb ob q=>Xab _ q
 obtain⟨T,id,hT,ht,hg⟩:=hr pins {s3 with heap:=s3.heap.push {cls:=.type "slice",data:=.fields #[vl,vu,.none]}} U H3 x v vl vu l u s3.heap.objs.size Q I4 r1 (Heap.IsSliceOf.new ..) pl pu q3
 show wpAny (model X.prog X.w) X.A (subscriptTail e (.Slice lo hi none p2) v (.ref s3.heap.objs.size)) (EP X pins U Q) X.xe {s3 with heap:=s3.heap.push {cls:=.type "slice",data:=.fields #[vl,vu,.none]}}
 exact tail_any (ops:=[.ref s3.heap.objs.size,v]) ht hT hg (by with_unfolding_all rfl)
def cutV(xs:List V)(lo hi:Option Int):List V:=(xs.drop (HT.sIx xs.length 0 lo)).take (HT.sIx xs.length xs.length hi-HT.sIx xs.length 0 lo)
def zeA(xs:List V)(lo hi:Option Int):(cutV xs lo hi).length<=xs.length:=by
 unfold cutV
 rw[Xa6,XaV]
 omega
inductive rSlT(K:W.Frag)(x:V)(lo:Option Int)(hi:Option Int)(H:Hp)(Q:VK):Prop
 | mk a xs(_:x=.ref a)(_:SqT K H a xs)(_:¬ (HT.sIx xs.length 0 lo=0/\HT.sIx xs.length xs.length hi=xs.length))(_:∀p,H p=none->Q (.ref p) (upd H p (.tup (cutV xs lo hi))))
def sl_tup:SlR X (rSlT X.K):=by
 intro pins s U H x v vl vu lo hi sl Q I rx hs pl pu h
 obtain⟨a,xs,rfl,hx,hw,q⟩:=h
 cases rx
 obtain⟨its,r,ht,hz⟩:=I.tuple hx
 have hlen:its.toArray.size=xs.length:=by rw[Xaq];exact r.length.symm
 refine{"tuple",_,PyProof.Rows.slot_tuple_getitem.lookup,ht.typeIs,?_}
 refine HT.getItem_tuple_cut ht hs pl pu (by rw[hlen];exact hw) ?_ (by rw[hlen];exact hz)
 rw[hlen]
 refine{.ref s.heap.objs.size,_,I.laid (t':=s.toks) (o:=.tup (cutV xs lo hi)) (λb ob q=>Xab _ q) (Xae _) ?_,O,q _ (I.hok.fresh (Xae _))}
 exact{{Xar (zeA xs lo hi) hz,_,Xai _ O,O},_,(r.drop (HT.sIx xs.length 0 lo)).take (HT.sIx xs.length xs.length hi-HT.sIx xs.length 0 lo),IsTup.new _ _}
inductive rCatT(K:W.Frag)(x:V)(y:V)(H:Hp)(Q:VK):Prop
 | mk a b xs ys(_:x=.ref a)(_:y=.ref b)(_:SqT K H a xs)(_:SqT K H b ys)(_:xs≠[])(_:xs.length+ys.length<=sizeLine)(_:(ys=[]->Q (.ref a) H))(_:(ys≠[]->∀p,H p=none->Q (.ref p) (upd H p (.tup (xs++ys)))))
def Vals.nil_iff{xs:List V}{us:List Value}(r:Vals xs us):us=[]↔xs=[]:=by
 cases r with
 | nil=>simp
 | cons _ _=>simp
def zmB:OpR X (binaryOp .Add) (rCatT X.K):=by
 intro pins s U H x y v u Q I rx ry h
 obtain⟨a,b,xs,ys,rfl,rfl,ha,hb,hx,hz,q1,q2⟩:=h
 cases rx
 cases ry
 obtain⟨its,r1,p1,_⟩:=I.tuple ha
 obtain⟨its2,r2,p2,_⟩:=I.tuple hb
 refine HT.cat_tup p1 p2 (λz=>hx (r1.nil_iff.mp z)) (λz=>{.ref a,H,I,O,q1 (r2.nil_iff.mp z)}) (λz=>?_) (by rw[<- r1.length,<- r2.length];exact hz)
 refine{.ref s.heap.objs.size,_,I.laid (t':=s.toks) (o:=.tup (xs++ys)) (λb ob q=>Xab _ q) (Xae _) ?_,O,q2 (λw=>z (r2.nil_iff.mpr w)) _ (I.hok.fresh (Xae _))}
 exact{{by rw[Xam];exact hz,_,Xai _ O,O},_,r1.append r2,IsTup.new _ _}
end
def ixN(n:Nat)(i:Int):Option Nat:=if 0<=i then(if i<n then some i.toNat else none) else if -(n:Int)<=i then some (i+n).toNat else none
def atI{α:Type}(xs:List α)(i:Int):Option α:=(ixN xs.length i).bind λj=>xs[j]?
def zjD{n:Nat}{i:Int}{j:Nat}(h:ixN n i=some j):seqIndex? i n=some j/\j<n/\-(n:Int)<=i/\i<n:=by
 unfold ixN at h
 by_cases h0:0<=i
 .rw[if_pos h0] at h
  by_cases h1:i<n
  .rw[if_pos h1] at h
   have e:i.toNat=j:=Option.some.inj h
   exact{by rw[seqIndex_of h0 h1,e],by omega,by omega,h1}
  .rw[if_neg h1] at h;cases h
 .rw[if_neg h0] at h
  by_cases h1:-(n:Int)<=i
  .rw[if_pos h1] at h
   have e:(i+n).toNat=j:=Option.some.inj h
   exact{by rw[seqIndex_neg (by omega) h1,e],by omega,h1,by omega}
  .rw[if_neg h1] at h;cases h
def zhq{α:Type}{xs:List α}{i:Int}{v:α}(h:atI xs i=some v):∃j,seqIndex? i xs.length=some j/\xs[j]?=some v/\j<xs.length/\-(xs.length:Int)<=i/\i<xs.length:=by
 unfold atI at h
 cases e:ixN xs.length i with
 | none=>rw[e] at h;cases h
 | some j =>
  rw[e] at h
  obtain⟨h1,h2,h3,h4⟩:=zjD e
  exact⟨j,h1,h,h2,h3,h4⟩
def zaF{α:Type}{xs:List α}{j:Nat}{v:α}(h:xs[j]?=some v):atI xs (j:Int)=some v:=by
 have hj:j<xs.length:=(Xaf.mp h).1
 have e:ixN xs.length (j:Int)=some j:=by
  unfold ixN
  rw[if_pos (by omega),if_pos (by omega)];simp
 unfold atI;rw[e];exact h
def zc4{α:Type}(xs:List α)(v:α):atI (xs++[v]) (-1)=some v:=by
 have hl:(xs++[v]).length=xs.length+1:=by simp
 have e:ixN (xs++[v]).length (-1)=some xs.length:=by
  unfold ixN
  rw[hl,if_neg (by decide),if_pos (by omega)]
  congr 1
  omega
 unfold atI
 rw[e]
 show(xs++[v])[xs.length]?=some v
 simp
def zkf(b:Expr):Prop:=∀o i,subscripted b false o i=operate [o,i] (getItem o i)
def IxR(X:Cx)(r:R2):Prop:=
 ∀(value slice:Expr) (pins:List (Addr×Obj)) (s:Shared) (U:St) (H:Hp) (x y:V) (v u:Value) (Q:VK),Inv X pins U H s->RelV x v->RelV y u->r x y H Q ->
  subscripted slice false v u=operate [v,u] (getItem v u)->wpAny (model X.prog X.w) X.A (subscriptTail value slice v u) (EP X pins U Q) X.xe s
def MtR(X:Cx)(id:String)(r:V->List V->Hp->VK->Prop):Prop:=
 ∀(pins:List (Addr×Obj)) (s:Shared) (U:St) (H:Hp) (x:V) (xs:List V) (v:Value) (us:List Value) (Q:VK),Inv X pins U H s->RelV x v->Vals xs us->r x xs H Q ->
  wpAny (model X.prog X.w) X.A (call (.builtin id) (v::us)) (EP X pins U Q) X.xe s
section
variable{X:Cx}{a b:Expr}{ta tb:TE}{pos:Pos}
def pe_ix{r:R2}(hr:IxR X r)(ha:PE X a ta)(hb:PE X b tb)(hs:zkf b):PE X (.Subscript a b pos) (tOp r ta tb):=by
 intro pins s U H Q I h
 exact Subscript_ (binT ha hb I h λv u s2 x y H2 I2 rx ry q=>hr a b pins s2 U H2 x y v u Q I2 rx ry q (hs _ _))
inductive rIxL(K:W.Frag)(x:V)(y:V)(H:Hp)(Q:VK):Prop
 | mk p xs i v(_:x=.ref p)(_:y=.int i)(_:SqL K H p xs)(_:atI xs i=some v)(_:Q v H)
inductive rIxT(K:W.Frag)(x:V)(y:V)(H:Hp)(Q:VK):Prop
 | mk p xs i v(_:x=.ref p)(_:y=.int i)(_:SqT K H p xs)(_:atI xs i=some v)(_:Q v H)
inductive rIxS(x:V)(y:V)(H:Hp)(Q:VK):Prop
 | mk z i c(_:x=.str z)(_:y=.int i)(_:z.length<=sizeLine)(_:atI z.cps.toList i=some c)(_:Q (.str {#[c]}) H)
def zal:IxR X (rIxL X.K):=by
 intro value slice pins s U H x y v u Q I rx ry h hs
 obtain⟨p,xs,i,z,rfl,rfl,hq,he,q⟩:=h
 cases rx
 obtain⟨t,rfl⟩:=ry
 obtain⟨its,r,pl,hz⟩:=I.list hq
 obtain⟨j,h1,h2,h3,h4,h5⟩:=zhq he
 obtain⟨w,ew,rw'⟩:=r.get h2
 have hl:=r.length
 have hn:=zeT
 have fin:EP X pins U Q w s:=⟨z,H,I,rw',q⟩
 by_cases h0:0<=i
 .have hj:i.toNat=j:=by
   rw[seqIndex_of h0 h5] at h1
   exact Option.some.inj h1
  exact item_listR pl.isList h0 (by omega) (by rw[hj];simpa using ew) fin hs
 .have hj:(i+(its.toArray.size:Int)).toNat=j:=by
   rw[seqIndex_neg (by omega) h4] at h1
   rw[Xaq,<- hl]
   exact Option.some.inj h1
  exact subscriptTail_builtinR (x:=w) pl.isList.typeIs slot_list_getitem.lookup
   (wpAny_getItem_list_neg (Q:=λr s'=>r=w/\EP X pins U Q r s') pl.isList (by omega) (by rw[Xaq]<;>omega) (by omega) (by rw[hj];simpa using ew) ⟨O,fin⟩) hs
def zaz:IxR X (rIxT X.K):=by
 intro value slice pins s U H x y v u Q I rx ry h hs
 obtain⟨p,xs,i,z,rfl,rfl,hq,he,q⟩:=h
 cases rx
 obtain⟨t,rfl⟩:=ry
 obtain⟨its,r,pl,hz⟩:=I.tuple hq
 obtain⟨j,h1,h2,h3,h4,h5⟩:=zhq he
 obtain⟨w,ew,rw'⟩:=r.get h2
 have hl:=r.length
 have hn:=zeT
 have fin:EP X pins U Q w s:=⟨z,H,I,rw',q⟩
 exact subscriptTail_builtinR (x:=w) pl.typeIs slot_tuple_getitem.lookup
  (getItem_tuple (j:=j) (Q:=λr s'=>r=w/\EP X pins U Q r s') pl (by omega) (by omega) (by rw[Xaq,<- hl];exact h1) (by simpa using ew) ⟨O,fin⟩) hs
def ix_str:IxR X rIxS:=by
 intro value slice pins s U H x y v u Q I rx ry h hs
 obtain⟨z,i,c,rfl,rfl,hz,he,q⟩:=h
 obtain⟨t,rfl⟩:=rx
 obtain⟨t',rfl⟩:=ry
 obtain⟨j,h1,h2,h3,h4,h5⟩:=zhq he
 have hl:z.cps.toList.length=z.length:=by simp[Str.length]
 rw[hl] at h1 h4 h5
 have hn:=zeT
 exact tail_any (typeIs_str s z t) slot_str_getitem.lookup (getItem_str (c:=c) (by
  have e1:decide (i < -(2 ^ 63:Int))=false:=Xan (by omega)
  have e2:decide (i>=2 ^ 63)=false:=Xan (by omega)
  rw[e1,e2,Bool.or_false]) (by rw[h1];simpa using h2) {.str {#[c]},H,I.tok _,{_,O},q}) hs
def zik(its:List Value)(n j:Nat)(u:Value):Obj.mapSeq (·.setIfInBounds j u) {cls:=.type "list",data:=.seq its.toArray n}={cls:=.type "list",data:=.seq (its.set j u).toArray n}:=by
 simp[Obj.mapSeq]
def Inv.lst{pins:List (Addr×Obj)}{U:St}{H:Hp}{s:Shared}{p:Addr}{xs:List V}(I:Inv X pins U H s)(h:H p=some (.lst xs)) :
  ∃(its:List Value) (n:Nat),Vals xs its/\s.heap.get? p=some {cls:=.type "list",data:=.seq its.toArray n}/\xs.length<=sizeLine:=by
 obtain⟨z,its,n,r,e⟩:=I.hok p _ h
 exact⟨its,n,r,e,z⟩
def Inv.lstUpd{pins:List (Addr×Obj)}{U:St}{H:Hp}{s:Shared}{p:Addr}{xs ys:List V}{its its':List Value}{n n':Nat}{f:Obj->Obj}(I:Inv X pins U H s)(h:H p=some (.lst xs))
  (ho:s.heap.get? p=some {cls:=.type "list",data:=.seq its.toArray n}) (hf:f {cls:=.type "list",data:=.seq its.toArray n}={cls:=.type "list",data:=.seq its'.toArray n'}) (r:Vals ys its') (hz:ys.length<=sizeLine) (t:Nat) :
  Inv X pins U (upd H p (.lst ys)) {s with heap:=s.heap.update p f,toks:=t}:=by
 have e:(s.heap.update p f).get? p=some {cls:=.type "list",data:=.seq its'.toArray n'}:=by
  rw[XaM f ho (by rw[hf]<;>rfl),hf]
 refine I.write (x:=p) (e:=p) (by rw[h];trivial) (.inl O) (λb u hb q=>(XaS _ _ (Ne.symm hb)).trans q) {_,e} ?_
 exact⟨hz,its',n',r,e⟩
inductive rSetL(o:V)(i:V)(v:V)(H:Hp)(Q:(Hp->Prop)):Prop
 | mk p xs k j(_:o=.ref p)(_:i=.int k)(_:H p=some (.lst xs))(_:ixN xs.length k=some j)(_:Q (upd H p (.lst (xs.set j v))))
def zfa:PSet X rSetL:=by
 intro pins s U H o i v ov iv u Q I ro ri rv h
 obtain⟨p,xs,k,j,rfl,rfl,hp,hj,q⟩:=h
 cases ro
 obtain⟨t,rfl⟩:=ri
 obtain⟨its,n,r,ho,hz⟩:=I.lst hp
 obtain⟨h1,h2,h3,h4⟩:=zjD hj
 have hl:=r.length
 have hn:=zeT
 have I':Inv X pins U (upd H p (.lst (xs.set j v))) {s with heap:=s.heap.update p (Obj.mapSeq (·.setIfInBounds j u))}:=
  I.lstUpd hp ho (zik its n j u) (r.set rv j) (by rw[XbD];exact hz) s.toks
 by_cases h0:0<=k
 .have hk:k.toNat=j:=by
   rw[seqIndex_of h0 h4] at h1
   exact Option.some.inj h1
  exact W.ki_setAt ho h0 (by omega) (by rw[Xaq,<- hl];exact h4) (by rw[hk];exact{_,I',q})
 .have hk:(k+(its.toArray.size:Int)).toNat=j:=by
   rw[seqIndex_neg (by omega) h3] at h1
   rw[Xaq,<- hl]
   exact Option.some.inj h1
  exact W.ki_setBack ho (by omega) (by rw[Xaq,<- hl];exact h3) (by omega) (by rw[hk];exact{_,I',q})
def zfK(lo hi:Option Int)(n:Nat):(sliceBounds lo hi none n).1=((HT.sIx n 0 lo:Nat):Int)/\(sliceBounds lo hi none n).2.1=((HT.sIx n n hi:Nat):Int)/\(sliceBounds lo hi none n).2.2=1:=by
 refine{?_,?_,O}
 .cases lo with
  | none=>simp[sliceBounds,HT.sIx]
  | some i =>
   simp only[sliceBounds,HT.sIx,Option.getD_none,show(1:Int)>0 by decide,if_true]
   by_cases h:i<0
   .simp only[h,if_true]<;>omega
   .simp only[h,if_false]<;>omega
 .cases hi with
  | none=>simp[sliceBounds,HT.sIx]
  | some i =>
   simp only[sliceBounds,HT.sIx,Option.getD_none,show(1:Int)>0 by decide,if_true]
   by_cases h:i<0
   .simp only[h,if_true]<;>omega
   .simp only[h,if_false]<;>omega
def ze8(its:List Value)(lo hi:Option Int):slicePick its.toArray lo hi none=((its.drop (HT.sIx its.length 0 lo)).take (HT.sIx its.length its.length hi-HT.sIx its.length 0 lo)).toArray:=by
 obtain⟨h1,h2,h3⟩:=zfK lo hi its.toArray.size
 unfold slicePick
 rw[h1,h2,h3]
 simp only[sliceRange_one,pick_run,Xaq]<;>rfl
inductive rSlL(K:W.Frag)(x:V)(lo:Option Int)(hi:Option Int)(H:Hp)(Q:VK):Prop
 | mk a xs(_:x=.ref a)(_:SqL K H a xs)(_:∀p,H p=none->Q (.ref p) (upd H p (.lst (cutV xs lo hi))))
def zd3:SlR X (rSlL X.K):=by
 intro pins s U H x v vl vu lo hi sl Q I rx hs pl pu h
 obtain⟨a,xs,rfl,hx,q⟩:=h
 cases rx
 obtain⟨its,r,ht,hz⟩:=I.list hx
 have hlen:=r.length
 refine{"list",_,slot_list_getitem.lookup,ht.isList.typeIs,?_}
 refine wpAny_getItem_list_slice ht.isList hs pl pu .none (by simp) ?_ (by rw[Xaq]<;>omega)
 rw[ze8,<- hlen]
 refine{.ref s.heap.objs.size,_,I.laid (t':=s.toks) (o:=.lst (cutV xs lo hi)) (λb ob q=>Xab _ q) (Xae _) ?_,O,q _ (I.hok.fresh (Xae _))}
 exact{Xar (zeA xs lo hi) hz,_,0,(r.drop (HT.sIx xs.length 0 lo)).take (HT.sIx xs.length xs.length hi-HT.sIx xs.length 0 lo),Xai _ O}
def zgj:V->Bool
 | .non=>true
 | .bl _=>true
 | .int _=>true
 | .str _=>true
 | _=>false
def eqV:V->V->Bool
 | .non,.non=>true
 | .bl a,.bl b=>a==b
 | .bl a,.int b=>(if a then 1 else 0)==b
 | .int a,.bl b=>a==(if b then 1 else 0)
 | .int a,.int b=>a==b
 | .str a,.str b=>a==b
 | _,_=>false
def eqAt_V{A:Around}{s:Shared}{y x:V}{u v:Value}(ry:RelV y u)(rx:RelV x v)(fy:zgj y=true)(fx:zgj x=true):SeqAt.EqAt A s u v (eqV y x):=by
 cases y with
 | non =>
  cases ry
  cases x with
  | non=>cases rx;exact SeqAt.EqAt.same _
  | bl b=>cases rx;exact SeqAt.EqAt.none_bool b
  | int b=>obtain⟨t,rfl⟩:=rx;exact SeqAt.EqAt.none_int b t
  | str b=>obtain⟨t,rfl⟩:=rx;exact SeqAt.EqAt.none_str b t
  | _=>exact absurd (show false=true from fx) Xal
 | bl a =>
  cases ry
  cases x with
  | non=>cases rx;exact SeqAt.EqAt.bool_none a
  | bl b=>cases rx;exact SeqAt.EqAt.bool_bool a b
  | int b=>obtain⟨t,rfl⟩:=rx;exact SeqAt.EqAt.bool_int a b t
  | str b=>obtain⟨t,rfl⟩:=rx;exact SeqAt.EqAt.bool_str a b t
  | _=>exact absurd (show false=true from fx) Xal
 | int a =>
  obtain⟨t',rfl⟩:=ry
  cases x with
  | non=>cases rx;exact SeqAt.EqAt.int_none a t'
  | bl b=>cases rx;exact SeqAt.EqAt.int_bool a t' b
  | int b=>obtain⟨t,rfl⟩:=rx;exact SeqAt.EqAt.int_int a t' b t
  | str b=>obtain⟨t,rfl⟩:=rx;exact SeqAt.EqAt.int_str a t' b t
  | _=>exact absurd (show false=true from fx) Xal
 | str a =>
  obtain⟨t',rfl⟩:=ry
  cases x with
  | non=>cases rx;exact SeqAt.EqAt.str_none a t'
  | bl b=>cases rx;exact SeqAt.EqAt.str_bool a t' b
  | int b=>obtain⟨t,rfl⟩:=rx;exact SeqAt.EqAt.str_int a t' b t
  | str b=>obtain⟨t,rfl⟩:=rx;exact SeqAt.EqAt.str_str a t' b t
  | _=>exact absurd (show false=true from fx) Xal
 | _=>exact absurd (show false=true from fy) Xal
def eqU(x:V)(u:Value):Bool:=match u with
 | .none=>eqV .non x
 | .bool b=>eqV (.bl b) x
 | .int i _=>eqV (.int i) x
 | .str z _=>eqV (.str z) x
 | _=>false
def zlP{x y:V}{u:Value}(r:RelV y u)(f:zgj y=true):eqU x u=eqV y x:=by
 cases y with
 | non=>cases r;rfl
 | bl b=>cases r;rfl
 | int i=>obtain⟨t,rfl⟩:=r;rfl
 | str z=>obtain⟨t,rfl⟩:=r;rfl
 | _=>exact absurd (show false=true from f) Xal
def zeD{x:V}:∀{xs:List V} {us:List Value},Vals xs us->xs.all zgj=true->us.any (eqU x)=xs.any λy=>eqV y x
 | _,_,.nil,_=>rfl
 | y::xs,u::us,.cons r t,f=>by
  rw[List.all_cons,Xa0] at f
  rw[List.any_cons,List.any_cons,zlP r f.1,zeD t f.2]
def zcZ{A:Around}{s:Shared}{x:V}{v:Value}(rx:RelV x v)(fx:zgj x=true):∀{xs:List V} {us:List Value},Vals xs us->xs.all zgj=true->∀u∈us,SeqAt.EqAt A s u v (eqU x u)
 | _,_,.nil,_=>λu hu=>by cases hu
 | y::xs,u::us,.cons r t,f=>λu' hu=>by
  rw[List.all_cons,Xa0] at f
  rcases Xau.mp hu with rfl|hu
  .rw[zlP r f.1];exact eqAt_V r rx f.1 fx
  .exact zcZ rx fx t f.2 u' hu
def inV(x:V)(xs:List V):Bool:=xs.any λy=>eqV y x
inductive rIn(K:W.Frag)(neg:Bool)(x:V)(y:V)(H:Hp)(Q:VK):Prop
 | mk p xs(_:y=.ref p)(_:(SqL K H p xs\/SqT K H p xs))(_:zgj x=true)(_:xs.all zgj=true)(_:Q (.bl (if neg then !inV x xs else inV x xs)) H)
def zjl:OpR X (compareOp .In) (rIn X.K false):=by
 intro pins s U H x y v u Q I rx ry h
 obtain⟨p,xs,rfl,hq,fx,fs,q⟩:=h
 cases ry
 rcases hq with hq|hq
 .obtain⟨its,r,pl,hz⟩:=I.list hq
  refine SeqAt.in_listAt (eqU x) pl.isList (λw hw=>zcZ rx fx r fs w (by simpa using hw)) {.bl _,H,I,O,?_}
  rw[show its.toArray.any (eqU x)=its.any (eqU x) by simp,zeD r fs]
  exact q
 .obtain⟨its,r,pl,hz⟩:=I.tuple hq
  refine SeqAt.in_tupleAt (eqU x) pl (λw hw=>zcZ rx fx r fs w (by simpa using hw)) {.bl _,H,I,O,?_}
  rw[show its.toArray.any (eqU x)=its.any (eqU x) by simp,zeD r fs]
  exact q
def zfV:OpR X (compareOp .NotIn) (rIn X.K true):=by
 intro pins s U H x y v u Q I rx ry h
 obtain⟨p,xs,rfl,hq,fx,fs,q⟩:=h
 cases ry
 rcases hq with hq|hq
 .obtain⟨its,r,pl,hz⟩:=I.list hq
  refine SeqAt.notIn_listAt (eqU x) pl.isList (λw hw=>zcZ rx fx r fs w (by simpa using hw)) {.bl _,H,I,O,?_}
  rw[show its.toArray.any (eqU x)=its.any (eqU x) by simp,zeD r fs]
  exact q
 .obtain⟨its,r,pl,hz⟩:=I.tuple hq
  refine SeqAt.notIn_tupleAt (eqU x) pl (λw hw=>zcZ rx fx r fs w (by simpa using hw)) {.bl _,H,I,O,?_}
  rw[show its.toArray.any (eqU x)=its.any (eqU x) by simp,zeD r fs]
  exact q
def zar:zcR X (.builtin "len") (λxs H Q=>∃p ys,xs=[.ref p]/\(SqL X.K H p ys\/SqT X.K H p ys)/\Q (.int ys.length) H):=by
 intro pins s U H xs us Q I r h
 obtain⟨p,ys,rfl,hq,q⟩:=h
 obtain⟨u,rfl,rx⟩:=zc5 r
 cases rx
 have hn:=zeT
 rcases hq with hq|hq
 .obtain⟨its,r',pl,hz⟩:=I.list hq
  have hlen:=r'.length
  exact Calls.call_len_list pl.isList (by simp only[Xaq]<;>omega) {.int ys.length,H,I.tok _,{s.toks+1,by rw[Xaq,hlen]},q}
 .obtain⟨its,r',pl,hz⟩:=I.tuple hq
  have hlen:=r'.length
  exact len_tuple pl (by simp only[Xaq]<;>omega) {.int ys.length,H,I.tok _,{s.toks+1,by rw[Xaq,hlen]},q}
def zdA:zcR X (.type "list") (λxs H Q=>∃p ys,xs=[.ref p]/\(SqL X.K H p ys\/SqT X.K H p ys)/\∀l,H l=none->Q (.ref l) (upd H l (.lst ys))):=by
 intro pins s U H xs us Q I r h
 obtain⟨p,ys,rfl,hq,q⟩:=h
 obtain⟨u,rfl,rx⟩:=zc5 r
 cases rx
 have fin:∀(its:List Value),Vals ys its->ys.length<=sizeLine->∀(h':Heap) (c':Nat),(∀b o',s.heap.get? b=some o'->h'.get? b=some o') ->
   h'.get? s.heap.objs.size=some {cls:=.type "list",dict:=none,data:=.seq its.toArray c',slots:=#[]}->EP X pins U Q (.ref s.heap.objs.size) {s with heap:=h'}:=λits r' hz h' c' kp e =>
  {.ref s.heap.objs.size,_,I.laid (t':=s.toks) kp (Xae _) (show ObjOk X.prog X.w _ h' _ (.lst ys) from⟨hz,its,c',r',e⟩),O,q _ (I.hok.fresh (Xae _))}
 rcases hq with hq|hq
 .obtain⟨its,r',pl,hz⟩:=I.list hq
  have hlen:=r'.length
  obtain⟨o,ho,hc,n,hd⟩:=pl.isList
  exact call_list_seq p (.inl O) ho hc hd (λh' c' kp e=>fin its r' hz h' c' kp e) (by simp only[Xaq]<;>omega)
 .obtain⟨its,r',pl,hz⟩:=I.tuple hq
  have hlen:=r'.length
  obtain⟨o,ho,hc,n,hd⟩:=pl
  exact call_list_seq p (.inr O) ho hc hd (λh' c' kp e=>fin its r' hz h' c' kp e) (by simp only[Xaq]<;>omega)
def zb2:zcR X (.type "tuple") (λxs H Q=>∃p ys,xs=[.ref p]/\((SqL X.K H p ys/\∀l,H l=none->Q (.ref l) (upd H l (.tup ys)))\/(SqT X.K H p ys/\Q (.ref p) H))):=by
 intro pins s U H xs us Q I r h
 obtain⟨p,ys,rfl,h⟩:=h
 obtain⟨u,rfl,rx⟩:=zc5 r
 cases rx
 rcases h with⟨hq,q⟩|⟨hq,q⟩
 .obtain⟨its,r',pl,hz⟩:=I.list hq
  have hlen:=r'.length
  refine call_tuple_list pl.isList (λh' kp=>?_) (by simp only[Xaq]<;>omega)
  have I1:Inv X pins U H {s with heap:=h'}:=I.kept (t':=s.toks) kp
  have I2:Inv X pins U (upd H h'.objs.size (.tup ys)) {s with heap:=h'.push {cls:=.type "tuple",data:=.seq its.toArray}}:=
   I1.laid (t':=s.toks) (λb o e=>Xab _ e) (Xae _) (show ObjOk X.prog X.w _ _ _ (.tup ys) from{{hz,_,Xai _ O,O},its,r',IsTup.new _ _})
  exact{.ref h'.objs.size,_,I2,O,q _ (I1.hok.fresh (Xae _))}
 .obtain⟨its,r',pl,hz⟩:=I.tuple hq
  exact call_tuple_same pl {.ref p,H,I,O,q}
def tyV(K:W.Frag)(T:String)(x:V)(H:Hp):Prop:=match x with
 | .str _=>T="str"
 | .int _=>T="int"
 | .ref p=>(T="list" /\ ∃xs,SqL K H p xs)\/(T="tuple" /\ ∃o,K.lookup p=some o/\o.cls=.type "tuple" /\ o.dict=none) \/
   (T="dict" /\ ((∃kvs,H p=some (.dK kvs))\/∃kvs,H p=some (.dT kvs)))\/(T="set" /\ ∃S n,H p=some (.set S n))
 | _=>False
def zls{pins:List (Addr×Obj)}{U:St}{H:Hp}{s:Shared}{T:String}{x:V}{v:Value}(I:Inv X pins U H s)(r:RelV x v)(ty:tyV X.K T x H) :
  s.TypeIs v T/\∀a,v=.ref a->∃ob,s.heap.get? a=some ob/\ob.dict=none:=by
 cases x with
 | str z =>
  obtain⟨t,rfl⟩:=r
  cases(show T="str" from ty)
  exact{typeIs_str s z t,λ_ e=>nomatch e}
 | int i =>
  obtain⟨t,rfl⟩:=r
  cases(show T="int" from ty)
  exact{typeIs_int s i t,λ_ e=>nomatch e}
 | ref p =>
  cases r
  rcases ty with⟨rfl,xs,hq⟩|⟨rfl,o,hk,hc,hd⟩|⟨rfl,hk⟩|⟨rfl,S,n,hk⟩
  .obtain⟨its,_,pl,_⟩:=I.list hq
   refine{pl.isList.typeIs,λa e=>?_}
   cases e
   obtain⟨o,n,e,c,hd,_⟩:=pl
   exact⟨o,e,hd⟩
  .refine{{o,I.kIn p o hk,hc},λa e=>?_}
   cases e
   exact{o,I.kIn _ o hk,hd}
  .have z:∃o,s.heap.get? p=some o/\o.ExactDict:=by
    rcases hk with⟨kvs,hk⟩|⟨kvs,hk⟩
    .obtain⟨_,_,_,_,o,_,_,e,ex,_⟩:=I.hok p _ hk
     exact⟨o,e,ex⟩
    .obtain⟨_,_,_,_,o,_,_,e,ex,_⟩:=I.hok p _ hk
     exact⟨o,e,ex⟩
   obtain⟨o,e,ex⟩:=z
   refine{⟨o,e,ex.1⟩,λa e2=>?_}
   cases e2
   exact⟨o,e,ex.2.1⟩
  .obtain⟨o,_,_,_,e,ex,_⟩:=I.hok p _ hk
   refine{⟨o,e,ex.1⟩,λa e2=>?_}
   cases e2
   exact⟨o,e,ex.2.1⟩
 | _=>exact False.elim ty
def tBM0(K:W.Frag)(T:String)(r:V->List V->Hp->VK->Prop)(to:TE):TE:=λU H Q=>to U H λx H1=>tyV K T x H1/\r x [] H1 Q
def tBM(K:W.Frag)(T:String)(r:V->List V->Hp->VK->Prop)(to:TE)(t:TA):TE:=λU H Q=>to U H λx H1=>tyV K T x H1/\t U H1 λxs H2=>r x xs H2 Q
variable{o e:Expr}{es:List Expr}{to:TE}{t:TA}{name:Str}{apos cpos:Pos}{T id:String}{r:V->List V->Hp->VK->Prop}
def zlG(pa:PlainAttrs T)(slot:Slot T name id)(hty:typeOf (.builtin id)=pure (.type "method_descriptor"))(hm:MtR X id r)(ho:PE X o to)
  (hbase:attributeBase o name X.env (eval o X.env)=eval o X.env:=by rfl) (hline:(apos.endLine==cpos.line)=true:=by rfl):PE X (.Call (.Attribute o name apos) [] [] cpos) (tBM0 X.K T r to):=by
 intro pins s U H Q I h
 refine wpAny_Call_method0_late hbase hline (thn (ho pins s U H _ I h) λv s1 hh_=>?_)
 obtain⟨x,H1,I1,r1,ty,q1⟩:=hh_
 obtain⟨h1,h2⟩:=zls I1 r1 ty
 exact{T,id,pa,slot,hty,h1,h2,Calls.callWith_builtin O (PySem.evalArgs_none (hm pins s1 U H1 x [] v [] Q I1 r1 .nil q1))}
def zch(pa:PlainAttrs T)(slot:Slot T name id)(hty:typeOf (.builtin id)=pure (.type "method_descriptor"))(hm:MtR X id r)(ho:PE X o to)(ha:PA X (e::es) t)
  (hbase:attributeBase o name X.env (eval o X.env)=eval o X.env:=by rfl)
  (hfew:((backTo cpos (starEach (e::es) X.env)).all (λx=>!x.1)&&(backToKw cpos (keywordEach [] X.env)).all (λx=>x.1.isSome)
   && decide ((e::es).length+([]:List Keyword).length+(if([]:List Keyword).isEmpty then 0 else 1)<30))=true:=by rfl)
  (hline:(apos.endLine==cpos.line)=true:=by rfl) (hs:starEach (e::es) X.env=(false,eval e X.env)::starEach es X.env:=by rfl) (hplain:(backTo cpos (starEach es X.env)).any (·.1)=false:=by rfl) :
  PE X (.Call (.Attribute o name apos) (e::es) [] cpos) (tBM X.K T r to t):=by
 intro pins s U H Q I h
 refine wpAny_Call_method_late hbase hfew hline O (thn (ho pins s U H _ I h) λv s1 hh_=>?_)
 obtain⟨x,H1,I1,r1,ty,q1⟩:=hh_
 obtain⟨h1,h2⟩:=zls I1 r1 ty
 refine{T,id,pa,slot,hty,h1,h2,?_}
 have hA:=ha cpos pins s1 U H1 _ I1 q1
 rw[hs] at hA ⊢
 refine Calls.callWith_builtin (by show(false || (backTo cpos (starEach es X.env)).any (·.1))=false;rw[hplain]<;>rfl) (Calls.evalArgs_plain ?_)
 exact thn hA λus s2 ⟨vs,H2,I2,r2,q2⟩=>hm pins s2 U H2 x vs v us Q I2 r1 r2 q2
end
def MtM(X:Cx)(id:String)(r:V->List V->Hp->VK->Prop):Prop:=
 ∀(pins:List (Addr×Obj)) (s:Shared) (U:St) (H:Hp) (x:V) (xs:List V) (v:Value) (us:List Value) (Q:VK),Inv X pins U H s->RelV x v->Vals xs us->r x xs H Q ->
  wpAny (model X.prog X.w) X.A (call (.builtin id) (v::us)) (EP X pins U Q) X.xe s
def Vals.one:∀{x:V} {us:List Value},Vals [x] us->∃u,us=[u]/\RelV x u
 | _,_,.cons r .nil=>{_,O,r}
def Vals.zero:∀{us:List Value},Vals [] us->us=[]
 | _,.nil=>rfl
def Vals.eraseIdx:∀{xs:List V} {us:List Value} (i:Nat),Vals xs us->Vals (xs.eraseIdx i) (us.eraseIdx i)
 | _,_,_,.nil=>.nil
 | _,_,0,.cons _ t=>t
 | _,_,i+1,.cons r t=>.cons r (Vals.eraseIdx i t)
def Vals.rep{xs:List V}{us:List Value}(h:Vals xs us):∀k:Nat,Vals (List.replicate k xs).flatten (List.replicate k us).flatten
 | 0=>.nil
 | k+1=>by
  rw[Xa9,Xa9,List.flatten_cons,List.flatten_cons]
  exact Vals.append h (Vals.rep h k)
def zf9{α:Type}:∀(l:List α) (i:Nat),(l.eraseIdx i).length<=l.length
 | [],_=>Xae _
 | _::_,0=>Xbu _
 | _::r,i+1=>Nat.succ_le_succ (zf9 r i)
def zgi(its:List Value):∀(k:Nat) (acc:List Value),
  List.foldl (λx1 x2=>x1++x2) acc.toArray (List.replicate k its.toArray)=(acc++(List.replicate k its).flatten).toArray
 | 0,acc=>by simp
 | k+1,acc=>by
  have e:acc.toArray++its.toArray=(acc++its).toArray:=by simp
  have e2:(acc++its)++(List.replicate k its).flatten=acc++(List.replicate (k+1) its).flatten:=by
   rw[Xa9,List.flatten_cons,List.append_assoc]
  rw[<- e2,<- zgi its k (acc++its),<- e,Xa9,List.foldl_cons]
section
variable{X:Cx}{pins:List (Addr×Obj)}{U:St}{H:Hp}{s:Shared}{l b:Addr}{xs ys zs:List V}
def Inv.lset{its its':List Value}{n:Nat}{f:Array Value->Array Value}{t':Nat}(I:Inv X pins U H s)(hH:H l=some (.lst xs))
  (e:s.heap.get? l=some {cls:=.type "list",data:=.seq its.toArray n}) (hf:f its.toArray=its'.toArray) (hv:Vals ys its') (hz:ys.length<=sizeLine) :
  Inv X pins U (upd H l (.lst ys)) {s with heap:=s.heap.update l (Obj.mapSeq f),toks:=t'}:=by
 have q:=PySem.IsL.update e f
 rw[hf] at q
 refine I.write (x:=l) (e:=l) (by rw[hH];exact trivial) (.inl O) (λb' u hb hu=>(XaS s.heap (Obj.mapSeq f) (Ne.symm hb)).trans hu) {_,q} ?_
 exact{hz,its',_,hv,q}
def Inv.lnew{its:List Value}{t':Nat}(I:Inv X pins U H s)(hv:Vals ys its)(hz:ys.length<=sizeLine) :
  Inv X pins U (upd H s.heap.objs.size (.lst ys)) {s with heap:=s.heap.push {cls:=.type "list",data:=.seq its.toArray},toks:=t'}:=
 I.laid (λ_ _ q=>Xab _ q) (Xae _) {hz,its,0,hv,Xai _ O}
def Inv.fresh(I:Inv X pins U H s):H s.heap.objs.size=none:=I.hok.fresh (Xae _)
def Inv.lstM(I:Inv X pins U H s)(hH:H l=some (.lst xs)):xs.length<=sizeLine/\∃(its:List Value) (n:Nat),Vals xs its/\xs.length=its.length/\s.heap.get? l=some {cls:=.type "list",data:=.seq its.toArray n}:=by
 obtain⟨z,its,n,r,e⟩:=I.hok l _ hH
 exact⟨z,its,n,r,r.length,e⟩
def zkU{n:Nat}(h:n<=sizeLine):Builtin.List.listTooLong n=false:=by
 unfold Builtin.List.listTooLong
 exact Xan (by omega)
end
section
variable{X:Cx}
inductive rAppend(x:V)(vs:List V)(H:Hp)(Q:VK):Prop
 | mk l xs y(_:x=.ref l)(_:vs=[y])(_:H l=some (.lst xs))(_:xs.length<sizeLine)(_:Q .non (upd H l (.lst (xs++[y]))))
def zaS:MtM X "list.append" rAppend:=by
 intro pins s U H x vs v us Q I rx rv h
 obtain⟨l,xs,y,rfl,rfl,hH,hz,q⟩:=h
 cases rx
 obtain⟨u,rfl,ru⟩:=rv.one
 obtain⟨z,its,n,r,hl,e⟩:=I.lstM hH
 refine call_meets F.slot_list_append {_,e,O} F.entry_list_append (F.args_list_append_2 _ _) (PySem.list_append l its.toArray n u (by rw[Xaq];omega)) {e,?_}
 refine{.non,_,I.lset (its':=its++[u]) hH e (by simp) (r.append (.cons ru .nil)) ?_,O,q}
 rw[Xam,List.length_singleton]
 omega
inductive rPopAt(x:V)(vs:List V)(H:Hp)(Q:VK):Prop
 | mk l xs i k y(_:x=.ref l)(_:vs=[.int i])(_:H l=some (.lst xs))(_:-(2 ^ 63)<=i)(_:i<2 ^ 63)(_:seqIndex? i xs.length=some k)(_:xs[k]?=some y)(_:Q y (upd H l (.lst (xs.eraseIdx k))))
def zkV:MtM X "list.pop" rPopAt:=by
 intro pins s U H x vs v us Q I rx rv h
 obtain⟨l,xs,i,k,y,rfl,rfl,hH,h1,h2,hk,hy,q⟩:=h
 cases rx
 obtain⟨u,rfl,ru⟩:=rv.one
 obtain⟨t,rfl⟩:=ru
 obtain⟨z,its,n,r,hl,e⟩:=I.lstM hH
 obtain⟨w,hw,rw'⟩:=r.get hy
 refine call_meets F.slot_list_pop {_,e,O} F.entry_list_pop (F.args_list_pop_2 _ _)
  (MeetsSeq.list_pop_at l its.toArray n i t k w (fitsIndex_both h1 h2) (by rw[Xaq,<- hl];exact hk) (by rw[<- Xbi];exact hw) (by rw[Xaq];omega)) {e,?_}
 refine{y,_,I.lset (its':=its.eraseIdx k) hH e ?_ (r.eraseIdx k) ?_,rw',q}
 .show its.toArray.eraseIdxIfInBounds k=(its.eraseIdx k).toArray
  rw[List.eraseIdxIfInBounds_toArray]
 .have:=zf9 xs k
  omega
inductive rClear(x:V)(vs:List V)(H:Hp)(Q:VK):Prop
 | mk l xs(_:x=.ref l)(_:vs=[])(_:H l=some (.lst xs))(_:Q .non (upd H l (.lst [])))
def zkW:MtM X "list.clear" rClear:=by
 intro pins s U H x vs v us Q I rx rv h
 obtain⟨l,xs,rfl,rfl,hH,q⟩:=h
 cases rx
 have hus:=rv.zero
 subst hus
 obtain⟨z,its,n,r,hl,e⟩:=I.lstM hH
 refine call_meets F.slot_list_clear {_,e,O} F.entry_list_clear (F.args_list_clear_1 _) (AutoSeq1.list_clear_list_0 l its.toArray n (by rw[Xaq];omega)) {e,?_}
 exact{.non,_,I.lset (its':=[]) (ys:=[]) hH e O .nil (Nat.zero_le _),O,q}
inductive rRep(x:V)(y:V)(H:Hp)(Q:VK):Prop
 | mk l k xs(_:x=.ref l)(_:y=.int k)(_:H l=some (.lst xs))(_:-(2 ^ 63)<=k)(_:k<2 ^ 63)(_:xs.length*k.toNat<=sizeLine)(_:∀p,H p=none->Q (.ref p) (upd H p (.lst (List.replicate k.toNat xs).flatten)))
def zmJ{α:Type}(xs:List α)(k:Nat):(List.replicate k xs).flatten.length=k*xs.length:=by
 induction k with
 | zero=>simp
 | succ k ih=>rw[Xa9,List.flatten_cons,Xam,ih,Nat.succ_mul,Nat.add_comm]
def zlH:OpR X (binaryOp .Mult) rRep:=by
 intro pins s U H x y v u Q I rx ry h
 obtain⟨l,k,xs,rfl,rfl,hH,h1,h2,hz,q⟩:=h
 cases rx
 obtain⟨t,rfl⟩:=ry
 obtain⟨z,its,n,r,hl,e⟩:=I.lstM hH
 have hlen:its.toArray.size*k.toNat<=sizeLine:=by rw[Xaq,<- hl];exact hz
 have hcap:¬ its.toArray.size*k.toNat>(2 ^ 63-1) / 8:=by
  have:(sizeLine:Nat)<=(2 ^ 63-1) / 8:=by decide
  omega
 have hfit:¬ (!Builtin.List.listFitsIndex k)=true:=by
  rw[fitsIndex_both h1 h2]
  exact Xal
 have hlong:¬ Builtin.List.listTooLong (its.toArray.size*k.toNat)=true:=by
  rw[zkU hlen]
  exact Xal
 have hnew:List.foldl (λx1 x2=>x1++x2) #[] (List.replicate (if its.toArray.isEmpty=true then 0 else k.toNat) its.toArray)=(List.replicate k.toNat its).flatten.toArray:=by
  have f0:∀m:Nat,List.foldl (λx1 x2=>x1++x2) #[] (List.replicate m its.toArray)=(List.replicate m its).flatten.toArray:=λm=>by
   have:=zgi its m []
   rw[List.nil_append] at this
   exact this
  rw[f0]
  cases its with
  | nil=>simp
  | cons a r'=>rw[if_neg (by simp)]
 refine wpAny_binaryOp_repeat_ref (T := "list") (U := "int") (by decide) {_,e,O} (λs'=>typeIs_int s' k t) noFill_list_mul F.fills_int_mul F.slot_int_rmul repeat_list F.slot_int_index.lookup
  (call_meets F.slot_int_rmul (typeIs_int s k t) F.entry_int_rmul (F.args_int_rmul_2 _ _) (int___rmul___int_list k t l its.toArray n)
   {e,O,{_,e,O},call_meets F.slot_list_mul {_,e,O} F.entry_list_mul (F.args_list_mul_2 _ _) (AutoListH.list___mul___list_int_3 l its.toArray n k t hfit hcap hlong) {e,?_}})
 rw[hnew]
 exact{.ref _,_,I.lnew (t':=s.toks) (r.rep k.toNat) (by rw[zmJ,Nat.mul_comm];exact hz),O,q _ I.fresh}
end
section
variable{prog:Program}{w:World}{A:Around}{E:Value->Shared->Prop}{s:Shared}
end
section
variable{X:Cx}
end
section
variable{κ:Type}[DecidableEq κ]
def valV(kvs:List (κ×V))(k:κ):Option V:=(kvs.find? λkv=>decide (kv.1=k)).map (·.2)
def putK(kvs:List (κ×V))(k:κ)(v:V):List (κ×V):=
 if(kvs.any λkv=>decide (kv.1=k))=true then kvs.map (λkv=>if kv.1=k then(kv.1,v) else kv) else kvs++[(k,v)]
def zaV{p:κ×V}{r:List (κ×V)}{k:κ}(e:p.1=k):valV (p::r) k=some p.2:=by simp[valV,List.find?_cons,e]
def za0{p:κ×V}{r:List (κ×V)}{k:κ}(e:¬ p.1=k):valV (p::r) k=valV r k:=by simp[valV,List.find?_cons,e]
def zbO(k:κ):∀kvs:List (κ×V),(kvs.any λkv=>decide (kv.1=k))=(valV kvs k).isSome
 | []=>rfl
 | p::r=>by
  rw[List.any_cons]
  by_cases e:p.1=k
  .simp only[zaV e,Xak e,Bool.true_or,Option.isSome_some]
  .rw[za0 e,Xan e,Bool.false_or];exact zbO k r
def zhu(k j:κ)(y:V):∀kvs:List (κ×V),valV (kvs.map λkv=>if kv.1=k then(kv.1,y) else kv) j=(valV kvs j).map λx=>if j=k then y else x
 | []=>rfl
 | p::r=>by
  have ih:=zhu k j y r
  rw[XaF]
  by_cases h:p.1=k
  .rw[if_pos h]
   by_cases e:p.1=j
   .rw[zaV (p:=(p.1,y)) e,zaV e,Option.map_some,if_pos (e.symm.trans h)]
   .rw[za0 (p:=(p.1,y)) e,za0 e,ih]
  .rw[if_neg h]
   by_cases e:p.1=j
   .rw[zaV (p:=p) e,zaV e,Option.map_some,if_neg (λz=>h (e.trans z))]
   .rw[za0 (p:=p) e,za0 e,ih]
def zfI(k j:κ)(y:V):∀kvs:List (κ×V),valV kvs k=none->valV (kvs++[(k,y)]) j=if j=k then some y else valV kvs j
 | [],_=>by
  by_cases e:k=j
  .rw[if_pos e.symm];exact zaV (p:=(k,y)) e
  .rw[if_neg (λz=>e z.symm)];exact za0 (p:=(k,y)) e
 | p::r,hn=>by
  rw[List.cons_append]
  have hk:¬ p.1=k:=λz=>by rw[zaV z] at hn;cases hn
  rw[za0 hk] at hn
  have ih:=zfI k j y r hn
  by_cases e:p.1=j
  .rw[zaV e,zaV e,if_neg (λz=>hk (e.trans z))]
  .rw[za0 e,za0 e,ih]
def zkq(kvs:List (κ×V))(k j:κ)(y:V):valV (putK kvs k y) j=if j=k then some y else valV kvs j:=by
 unfold putK
 by_cases a:(kvs.any λkv=>decide (kv.1=k))=true
 .rw[if_pos a,zhu]
  rw[zbO] at a
  by_cases e:j=k
  .obtain⟨x,hx⟩:=Option.isSome_iff_exists.mp a
   rw[if_pos e,e,hx,Option.map_some,if_pos O]
  .rw[if_neg e]
   cases valV kvs j with
   | none=>rfl
   | some x=>rw[Option.map_some,if_neg e]
 .rw[if_neg a]
  refine zfI k j y kvs ?_
  rw[zbO] at a
  cases q:valV kvs k with
  | none=>rfl
  | some x=>rw[q] at a;exact(a O).elim
def zeu(kvs:List (κ×V))(k:κ)(v:V):(putK kvs k v).length<=kvs.length+1:=by
 unfold putK
 split
 .rw[Xag];omega
 .rw[Xam,Xaw,XaZ];omega
def zkG{kvs:List (κ×V)}{k:κ}(v:V)(h:valV kvs k=none):putK kvs k v=kvs++[(k,v)]:=by
 unfold putK
 rw[zbO,h]
 exact if_neg (by decide)
def RelO.isSome_eq{o:Option V}{u:Option Value}(r:RelO o u):o.isSome=u.isSome:=by
 cases o with
 | none=>cases u with
  | none=>rfl
  | some _=>exact(show False from r).elim
 | some _=>cases u with
  | none=>exact(show False from r).elim
  | some _=>rfl
def RelO.getD{o:Option V}{u:Option Value}{d:V}{d':Value}(r:RelO o u)(rd:RelV d d'):RelV (o.getD d) (u.getD d'):=by
 cases o with
 | none=>cases u with
  | none=>exact rd
  | some _=>exact(show False from r).elim
 | some _=>cases u with
  | none=>exact(show False from r).elim
  | some _=>exact r
def KV.val{kvs:List (κ×V)}{vs:List (κ×Value)}(r:KV kvs vs)(k:κ):RelO (valV kvs k) (valueAt vs k):=by
 unfold KV at r
 induction r with
 | nil=>exact True.intro
 | @cons p q ps qs h t ih =>
  obtain⟨h1,h2⟩:=h
  by_cases e:p.1=k
  .have e':q.1=k:=h1.symm.trans e
   have b:valueAt (q::qs) k=some q.2:=by simp[valueAt,List.find?_cons,e']
   rw[zaV e,b];exact h2
  .have e':¬ q.1=k:=λz=>e (h1.trans z)
   have b:valueAt (q::qs) k=valueAt qs k:=by simp[valueAt,List.find?_cons,e']
   rw[za0 e,b];exact ih
def KV.any{kvs:List (κ×V)}{vs:List (κ×Value)}(r:KV kvs vs)(k:κ):(kvs.any λkv=>decide (kv.1=k))=vs.any λkv=>decide (kv.1=k):=by
 unfold KV at r
 induction r with
 | nil=>rfl
 | cons h t ih=>rw[List.any_cons,List.any_cons,ih,h.1]
def KV.repl{kvs:List (κ×V)}{vs:List (κ×Value)}(r:KV kvs vs)(k:κ){y:V}{u:Value}(ry:RelV y u) :
  KV (kvs.map λkv=>if kv.1=k then(kv.1,y) else kv) (vs.map λkv=>if kv.1=k then(kv.1,u) else kv):=by
 unfold KV at r ⊢
 induction r with
 | nil=>exact .nil
 | @cons p q ps qs h t ih =>
  rw[XaF,XaF]
  refine .cons ?_ ih
  obtain⟨h1,h2⟩:=h
  by_cases e:p.1=k
  .rw[if_pos e,if_pos (h1.symm.trans e)];exact⟨h1,ry⟩
  .rw[if_neg e,if_neg (λz=>e (h1.trans z))];exact⟨h1,h2⟩
def KV.put{kvs:List (κ×V)}{vs:List (κ×Value)}(r:KV kvs vs)(k:κ){y:V}{u:Value}(ry:RelV y u):KV (putK kvs k y) (stored vs k u):=by
 unfold putK stored
 rw[r.any k]
 by_cases e:(vs.any λkv=>decide (kv.1=k))=true
 .rw[if_pos e,if_pos e];exact r.repl k ry
 .rw[if_neg e,if_neg e];exact Paired.snoc r ⟨O,ry⟩
def KV.length{kvs:List (κ×V)}{vs:List (κ×Value)}(r:KV kvs vs):kvs.length=vs.length:=Paired.length r
end
def zhj{P:Program}{w:World}{k:Key}{u:Value}(r:RelV (kV k) u):(zaH P w).is k u=true:=by
 cases k with
 | inl i=>obtain⟨t,e⟩:=(show∃t,u=Value.int i t from r);subst e;exact zhe P w i t
 | inr x=>obtain⟨t,e⟩:=(show∃t,u=Value.str x t from r);subst e;exact zhd P w x t
def zgd{P:Program}{w:World}:∀{ks:List Key} {us:List Value},Vals (ks.map kV) us->ItemsAre (zaH P w) ks us
 | [],_,r=>by rw[List.map_nil] at r;cases r;exact .nil
 | k::ks,_,r=>by
  rw[XaF] at r
  cases r with
  | cons h t=>exact .cons (zhj h) (zgd t)
abbrev KT(H:Hp):List (List Key×V)->List (List Key×Addr×Value)->Prop:=Paired λp q=>p.1=q.1/\H q.2.1=some (.tup (p.1.map kV))/\RelV p.2 q.2.2
def KT.val{H:Hp}{kvs:List (List Key×V)}{xs:List (List Key×Addr×Value)}(r:KT H kvs xs)(k:List Key):RelO (valV kvs k) ((atKey xs k).map (·.2)):=by
 induction r with
 | nil=>exact True.intro
 | @cons p q ps qs h t ih =>
  obtain⟨h1,_,h2⟩:=h
  by_cases e:p.1=k
  .have e':q.1=k:=h1.symm.trans e
   have b:atKey (q::qs) k=some q.2:=by simp[atKey,List.find?_cons,e']
   rw[zaV e,b];exact h2
  .have e':¬ q.1=k:=λz=>e (h1.trans z)
   have b:atKey (q::qs) k=atKey qs k:=by simp[atKey,List.find?_cons,e']
   rw[za0 e,b];exact ih
def KT.repl{H:Hp}{kvs:List (List Key×V)}{xs:List (List Key×Addr×Value)}(r:KT H kvs xs)(k:List Key){y:V}{u:Value}(ry:RelV y u) :
  KT H (kvs.map λkv=>if kv.1=k then(kv.1,y) else kv) (xs.map (putAt k u)):=by
 induction r with
 | nil=>exact .nil
 | @cons p q ps qs h t ih =>
  rw[XaF,XaF]
  refine .cons ?_ ih
  obtain⟨h1,h2,h3⟩:=h
  unfold putAt
  by_cases e:p.1=k
  .rw[if_pos e,if_pos (h1.symm.trans e)];exact⟨h1,h2,ry⟩
  .rw[if_neg e,if_neg (λz=>e (h1.trans z))];exact⟨h1,h2,h3⟩
def KT.put{H:Hp}{kvs:List (List Key×V)}{xs:List (List Key×Addr×Value)}(r:KT H kvs xs)(k:List Key){b:Addr}{y:V}{u:Value}(hb:H b=some (.tup (k.map kV)))(ry:RelV y u) :
  KT H (putK kvs k y) (storedH xs k b u):=by
 have e:(kvs.any λkv=>decide (kv.1=k))=(atKey xs k).isSome:=by
  rw[zbO,(r.val k).isSome_eq,Option.isSome_map]
 unfold putK storedH
 rw[e]
 by_cases q:(atKey xs k).isSome=true
 .rw[if_pos q,if_pos q];exact r.repl k ry
 .rw[if_neg q,if_neg q];exact Paired.snoc r ⟨O,hb,ry⟩
def KT.keeps{H H':Hp}{kvs:List (List Key×V)}{xs:List (List Key×Addr×Value)}(r:KT H kvs xs)(ht:∀b ys,H b=some (.tup ys)->H' b=some (.tup ys)):KT H' kvs xs:=
 Paired.mapP r λ_ _ z=>{z.1,ht _ _ z.2.1,z.2.2}
section
variable{P:Program}{w:World}{H:Hp}{h:Heap}{a:Addr}
def rd_of{u:HO}(ok:HOk P w H h)(e:Rd H a u):ObjOk P w H h a u:=e.ok ok
def zit{kvs:List (Key×V)}(ok:HOk P w H h)(e:Rd H a (.dK kvs)):kvs.length<=sizeLine/\(a==sysModules)=false/\∃vs,KV kvs vs/\h.DictOf (zaH P w) a vs:=
 show ObjOk P w H h a (.dK kvs) from rd_of ok e
def zjS{kvs:List (Key×V)}(ok:HOk P w H h)(e:H a=some (.dK kvs)):kvs.length<=sizeLine/\(a==sysModules)=false/\∃vs,KV kvs vs/\h.DictOf (zaH P w) a vs:=zit ok (.inl e)
def zgc{ks:List Key}(ok:HOk P w H h)(e:H a=some (.tup (ks.map kV))):(tupleKind (zaH P w)).is h ks a:=by
 obtain⟨_,its,r,o,h1,h2,n,h3⟩:=(show ObjOk P w H h a (.tup (ks.map kV)) from ok a _ e)
 exact{o,its.toArray,n,h1,h2,h3,by simpa using zgd r}
def zis{kvs:List (List Key×V)}(ok:HOk P w H h)(e:Rd H a (.dT kvs)):kvs.length<=sizeLine/\(a==sysModules)=false /\
  ∃xs,KT H kvs xs/\h.DictOfH (tupleKind (zaH P w)) a xs:=by
 obtain⟨z,y,xs,r,o,es,ep,h1,h2,h3,h4,h5⟩:=(show ObjOk P w H h a (.dT kvs) from rd_of ok e)
 refine{z,y,xs,r,o,es,ep,h1,h2,h3,h4,λx hx=>?_,h5}
 have all:∀{l:List (List Key×V)} {m:List (List Key×Addr×Value)},KT H l m->∀x∈m,(tupleKind (zaH P w)).is h x.1 x.2.1:=by
  intro l m q
  induction q with
  | nil=>intro x hx;exact nomatch hx
  | @cons p q ps qs hq t ih =>
   intro x hx
   rcases Xau.mp hx with e|hx
   .subst e
    exact zgc ok (by rw[<- hq.1];exact hq.2.1)
   .exact ih x hx
 exact all r x hx
def dt_of{kvs:List (List Key×V)}(ok:HOk P w H h)(e:H a=some (.dT kvs)):kvs.length<=sizeLine/\(a==sysModules)=false /\
  ∃xs,KT H kvs xs/\h.DictOfH (tupleKind (zaH P w)) a xs:=zis ok (.inl e)
end
def DGet(H:Hp)(a:Addr)(y:V)(r:Option V):Prop:=
 (∃kvs k,Rd H a (.dK kvs)/\y=kV k/\r=valV kvs k)\/∃kvs k b,Rd H a (.dT kvs)/\y=.ref b/\H b=some (.tup (k.map kV))/\r=valV kvs k
def DPut(H:Hp)(a:Addr)(y v:V)(H':Hp):Prop:=
 (∃kvs k,H a=some (.dK kvs)/\y=kV k/\kvs.length<sizeLine/\H'=upd H a (.dK (putK kvs k v))) \/
 ∃kvs k b,H a=some (.dT kvs)/\y=.ref b/\H b=some (.tup (k.map kV))/\kvs.length<sizeLine/\H'=upd H a (.dT (putK kvs k v))
def DGet.k{H:Hp}{a:Addr}{kvs:List (Key×V)}{k:Key}(e:H a=some (.dK kvs)):DGet H a (kV k) (valV kvs k):=.inl {kvs,k,.inl e,O,O}
def DPut.k{H:Hp}{a:Addr}{kvs:List (Key×V)}{k:Key}{v:V}(e:H a=some (.dK kvs))(hl:kvs.length<sizeLine):DPut H a (kV k) v (upd H a (.dK (putK kvs k v))):=.inl ⟨kvs,k,e,O,hl,O⟩
section
variable{X:Cx}{pins:List (Addr×Obj)}{U:St}{H:Hp}{s:Shared}{a:Addr}{y v:V}{u r:Value}{o:Option V}{A:Around}{E:Value->Shared->Prop}
def Inv.big(I:Inv X pins U H s):sysModules<s.heap.objs.size:=by
 have h:mainGlobals<s.heap.objs.size:=(I.mod.glob.keeps I.bk).lt
 exact XbO (by decide) h
def zjX{Q:Value->Shared->Prop}(hu:A.units+1<cLine)(I:Inv X pins U H s)(g:DGet H a y (some v))(ry:RelV y u)(h:∀w' s',Inv X pins U H s'->RelV v w'->Q w' s') :
  wpAny (model X.prog X.w) A (getItem (.ref a) u) Q E s:=by
 rcases g with⟨kvs,k,e,ey,l⟩|⟨kvs,k,b,e,ey,eb,l⟩
 .subst ey
  obtain⟨z,hd,vs,rel,dd⟩:=zit I.hok e
  obtain⟨w',hw,rw'⟩:=RelO.some_of (v:=v) (o:=valueAt vs k) (by rw[l];exact rel.val k)
  exact wpAny_getItem_of (zhj ry) dd.mapOf hw (h w' _ (I.tok _) rw')
 .subst ey
  cases(show u=Value.ref b from ry)
  obtain⟨z,hd,xs,rel,dd⟩:=zis I.hok e
  obtain⟨w',hw,rw'⟩:=RelO.some_of (v:=v) (o:=(atKey xs k).map (·.2)) (by rw[l];exact rel.val k)
  obtain⟨p,hp,hp2⟩:=Xax.mp hw
  refine wpAny_getItem_heap (tupleKind_room_in1 hu) (zgc I.hok eb) dd hp ?_
  rw[hp2]
  exact h w' _ (I.tok _) rw'
def zmU{Q:Value->Shared->Prop}(hu:A.units+1<cLine)(I:Inv X pins U H s)(g:DGet H a y o)(ry:RelV y u)(h:∀s',Inv X pins U H s'->Q (.bool (!o.isSome)) s') :
  wpAny (model X.prog X.w) A (compareOp .NotIn u (.ref a)) Q E s:=by
 rcases g with⟨kvs,k,e,ey,l⟩|⟨kvs,k,b,e,ey,eb,l⟩
 .subst ey
  obtain⟨z,hd,vs,rel,dd⟩:=zit I.hok e
  refine wpAny_notIn_of (zhj ry) hd dd.mapOf ?_
  rw[<- (rel.val k).isSome_eq,<- l]
  exact h _ (I.tok _)
 .subst ey
  cases(show u=Value.ref b from ry)
  obtain⟨z,hd,xs,rel,dd⟩:=zis I.hok e
  refine wpAny_notIn_heap (tupleKind_room_in1 hu) (zgc I.hok eb) hd dd ?_
  have q:=(rel.val k).isSome_eq
  rw[Option.isSome_map] at q
  rw[<- q,<- l]
  exact h _ (I.tok _)
def zhp{h':Heap}{t':Nat}{ob:HO}(I:Inv X pins U H s)(mu:Mut (H a))(hs:Heap.SameBut a s.heap h')(he:∃q,h'.get? a=some q)(new:ObjOk X.prog X.w (upd H a ob) h' a ob) :
  Inv X pins U (upd H a ob) {s with heap:=h',toks:=t'}:=
 I.write (x:=a) (e:=a) mu (.inl O) (λb q hb z=>(hs.2 b hb).trans z) he new
def zlQ{P:Program}{w:World}{H':Hp}{h':Heap}{kvs:List (Key×V)}{vs:List (Key×Value)}(z:kvs.length<=sizeLine)(hd:(a==sysModules)=false)(rel:KV kvs vs)(dd:h'.DictOf (zaH P w) a vs) :
  ObjOk P w H' h' a (.dK kvs):=⟨z,hd,vs,rel,dd⟩
def zjW{H':Hp}{Q:Unit->Shared->Prop}(hu:A.units+1<cLine)(I:Inv X pins U H s)(g:DPut H a y v H')(ry:RelV y u)(rv:RelV v r)(h:∀s',Inv X pins U H' s'->Q () s') :
  wpAny (model X.prog X.w) A (setItem (.ref a) u r) Q E s:=by
 rcases g with⟨kvs,k,e,ey,l,eH⟩|⟨kvs,k,b,e,ey,eb,l,eH⟩
 .subst ey eH
  obtain⟨z,hd,vs,rel,dd⟩:=zjS I.hok e
  have hz:vs.length<=sizeLine:=by rw[<- rel.length];exact z
  have hl:(putK kvs k v).length<=sizeLine:=by have:=zeu kvs k v;omega
  refine wpAny_setItem_pairs (hsz:=hz) (zhj ry) dd λh' dd' hs=>h _ ?_
  have he:∃q,h'.get? a=some q:=let⟨q,_,_,hq,_⟩:=dd';⟨q,hq⟩
  exact zhp I (by rw[e];exact True.intro) hs he (zlQ hl hd (rel.put k rv) dd')
 .subst ey eH
  cases(show u=Value.ref b from ry)
  obtain⟨z,hd,xs,rel,dd⟩:=dt_of I.hok e
  have hz:xs.length<=sizeLine:=by rw[<- Paired.length rel];exact z
  have hl:(putK kvs k v).length<=sizeLine:=by have:=zeu kvs k v;omega
  refine wpAny_setItem_heap (hsz:=hz) (tupleKind_room_in1 hu) (zgc I.hok eb) dd λh' dd' hs=>h _ ?_
  obtain⟨q,es,ep,hq,h2,h3,h4,_,h5⟩:=dd'
  refine zhp I (by rw[e];exact True.intro) hs ⟨q,hq⟩ {hl,hd,_,(rel.put k eb rv).keeps λc ys ec=>?_,q,es,ep,hq,h2,h3,h4,h5}
  rw[zah (ne_of ec e (λz=>nomatch z))]
  exact ec
end
section
variable{X:Cx}{pins:List (Addr×Obj)}{U:St}{H:Hp}{s:Shared}{a:Addr}{kvs:List (Key×V)}{k:Key}{u:Value}{A:Around}{E:Value->Shared->Prop}
end
def NoSl(i:Expr):Prop:=∀ov iv,subscripted i false ov iv=operate [ov,iv] (getItem ov iv)
def zmb{prog:Program}{w:World}{A:Around}{E:Value->Shared->Prop}{s:Shared}{env:Env}{value slice:Expr}{pos:Pos}{T id:String}{Q:Value->Shared->Prop}
  (hl:typeLookup (.type T) "__getitem__"=pure (some (.builtin id))) (hs:NoSl slice)
  (h:wpAny (model prog w) A (eval value env) (λo s₁=>wpAny (model prog w) A (eval slice env) (λi s₂=>s₂.TypeIs o T/\wpAny (model prog w) A (getItem o i) Q E s₂) E s₁) E s) :
  wpAny (model prog w) A (eval (.Subscript value slice pos) env) Q E s:=by
 refine Subscript_ (Xat h (λo s₁ h₁=>Xat h₁ (λi s₂ h₂=>?_) λ_ _ x=>x) λ_ _ x=>x)
 obtain⟨hT,h₂⟩:=h₂
 unfold subscriptTail
 refine Xaa ?_
 rw[getitemInPython_of_ne hT.not_modules]
 refine Xaa (wpAny_specialOf hT hl ?_)
 have fin:wpAny (model prog w) A (subscripted slice false o i) (λr s₃=>wpAny (model prog w) A (letTemporaryGo value o r >>= λ_=>pure r) Q E s₃) E s₂:=by
  rw[hs o i]
  exact wpAny_operating (Xat h₂ (λr s₃ h₃=>Xaa (wpAny_letTemporaryGo (Xac h₃))) λ_ _ x=>x)
 first
  | exact Xac (Xaa fin)
  | exact Xaa (Xac (Xaa fin))
  | exact Xaa fin
def zho{X:Cx}{pins:List (Addr×Obj)}{U:St}{H:Hp}{s:Shared}{a:Addr}{y:V}{o:Option V}(I:Inv X pins U H s)(g:DGet H a y o):s.TypeIs (.ref a) "dict" := by
 rcases g with⟨kvs,k,e,_,_⟩|⟨kvs,k,b,e,_,_,_⟩
 .obtain⟨_,_,vs,_,dd⟩:=zit I.hok e
  exact dd.typeIs
 .obtain⟨_,_,xs,_,dd⟩:=zis I.hok e
  exact dd.typeIs
inductive tDGet_1(Q:VK)(x:V)(y:V)(H2:Hp):Prop
 | mk a v(_:x=.ref a)(_:DGet H2 a y (some v))(_:Q v H2)
def tDGet(td ty:TE):TE:=λU H Q=>td U H λx H1=>ty U H1 (tDGet_1 Q x)
inductive tDNotIn_1(Q:VK)(y:V)(x:V)(H2:Hp):Prop
 | mk a o(_:x=.ref a)(_:DGet H2 a y o)(_:Q (.bl (!o.isSome)) H2)
def zma(ty td:TE):TE:=λU H Q=>ty U H λy H1=>td U H1 (tDNotIn_1 Q y)
inductive sDPut_1(D:Ends)(U:St)(v:V)(x:V)(y:V)(H3:Hp):Prop
 | mk a H4(_:x=.ref a)(_:DPut H3 a y v H4)(_:D.nx U H4)
def sDPut(td ty tv:TE):TS:=λD U H=>tv U H λv H1=>td U H1 λx H2=>ty U H2 (sDPut_1 D U v x)
section
variable{X:Cx}{o i e value:Expr}{pos pos' tpos:Pos}{td ty tv:TE}
def zfm(hu:X.A.units+1<cLine)(ho:PE X o td)(hi:PE X i ty)(hs:NoSl i):PE X (.Subscript o i pos) (tDGet td ty):=by
 intro pins s U H Q I h
 refine zmb PySem.F.slot_dict_getitem.lookup hs (thn (ho pins s U H _ I h) λu s1 ⟨x,H1,I1,rx,q1⟩=>thn (hi pins s1 U H1 _ I1 q1) λiv s2 hh_=>?_)
 obtain⟨y,H2,I2,ry,a,v,ex,g,q2⟩:=hh_
 subst ex
 obtain rfl:u=Value.ref a:=rx
 exact{zho I2 g,zjX hu I2 g ry λw' s3 I3 rw'=>⟨v,H2,I3,rw',q2⟩}
def zjh(hu:X.A.units+1<cLine)(hi:PE X i ty)(ho:PE X o td):PC X .NotIn i o (zma ty td):=by
 intro pins s U H Q I h
 refine thn (hi pins s U H _ I h) λiv s1 ⟨y,H1,I1,ry,q1⟩=>thn (ho pins s1 U H1 _ I1 q1) λu s2 hh_=>?_
 obtain⟨x,H2,I2,rx,a,ov,ex,g,q2⟩:=hh_
 subst ex
 obtain rfl:u=Value.ref a:=rx
 exact zmU hu I2 g ry λs3 I3=>{.bl (!ov.isSome),H2,I3,O,q2}
def zml(hu:X.A.units+1<cLine)(ho:PE X o td)(hi:PE X i ty)(hv:PE X value tv)(hs:swapsWith value (some (.Subscript o i pos')) pos.line X.env=pure false) :
  PS X (.Assign [.Subscript o i pos'] value pos) (sDPut td ty tv):=by
 intro pins s U H D I h
 refine wpAny_Assign_Subscript (thn (hv pins s U H _ I h) λr s1 ⟨v,H1,I1,rv,q1⟩=>thn (ho pins s1 U H1 _ I1 q1) λu s2 ⟨x,H2,I2,rx,q2⟩=>thn (hi pins s2 U H2 _ I2 q2) λiv s3 hh_=>?_) hs
 obtain⟨y,H3,I3,ry,a,H4,ex,g,q3⟩:=hh_
 subst ex
 obtain rfl:u=Value.ref a:=rx
 exact zjW hu I3 g ry rv λs4 I4=>⟨U,H4,I4,q3⟩
end
def zld{P:Program}{w:World}{H:Hp}(h:Heap)(hb:sysModules<h.objs.size):ObjOk P w H (h.push {cls:=.type "dict",data:=.dict #[]}) h.objs.size (.dK []):=
 {Nat.zero_le _,beq_eq_false_iff_ne.mpr (Ne.symm (Xaz hb)),[],.nil,Heap.DictOf.new h}
def tDNewK:TE:=λ_ H Q=>∀p,H p=none->Q (.ref p) (upd H p (.dK []))
section
variable{X:Cx}{pos:Pos}
def zhE:PE X (.Dict [] [] pos) tDNewK:=λpins s U H Q I h =>
 wpAny_Dict_empty {.ref s.heap.objs.size,_,I.laid (a:=s.heap.objs.size) (o:=.dK []) (t':=s.toks) (λ_ _ q=>Xab _ q) (Xae _) (zld s.heap I.big),O,h _ (I.hok.fresh (Xae _))}
end
structure M2(X:Cx)(o:Expr)(m:Str)(apos:Pos)(e f:Expr)(cpos:Pos):Prop where
 base:attributeBase o m X.env (eval o X.env)=eval o X.env
 few:((backTo cpos (starEach [e,f] X.env)).all (λx=>!x.1)&&(backToKw cpos (keywordEach [] X.env)).all (λx=>x.1.isSome)
  && decide (([e,f]:List Expr).length+([]:List Keyword).length+(if([]:List Keyword).isEmpty then 0 else 1)<30))=true
 line:(apos.endLine==cpos.line)=true
 trees:backTo cpos (starEach [e,f] X.env)=[(false,eval e X.env),(false,eval f X.env)]
def IsD(H:Hp)(a:Addr):Prop:=(∃kvs,Rd H a (.dK kvs))\/∃kvs,Rd H a (.dT kvs)
def isD_at{X:Cx}{pins:List (Addr×Obj)}{U:St}{H:Hp}{s:Shared}{a:Addr}(I:Inv X pins U H s)(d:IsD H a) :
  s.TypeIs (.ref a) "dict" /\ (∀b,Value.ref a=.ref b->∃ob,s.heap.get? b=some ob/\ob.dict=none)/\(a==sysModules)=false:=by
 rcases d with⟨kvs,e⟩|⟨kvs,e⟩
 .obtain⟨_,hd,vs,_,dd⟩:=zit I.hok e
  refine{dd.typeIs,λb q=>?_,hd}
  cases q
  obtain⟨ob,_,_,h1,h2,_⟩:=dd
  exact⟨ob,h1,h2.2.1⟩
 .obtain⟨_,hd,xs,_,dd⟩:=zis I.hok e
  refine{dd.typeIs,λb q=>?_,hd}
  cases q
  obtain⟨ob,_,_,h1,h2,_⟩:=dd
  exact⟨ob,h1,h2.2.1⟩
section
variable{X:Cx}{pins:List (Addr×Obj)}{U:St}{H:Hp}{s:Shared}{a:Addr}{y d:V}{u r:Value}{o:Option V}{A:Around}{E:Value->Shared->Prop}
def d_get2{Q:Value->Shared->Prop}(hu:A.units+1<cLine)(I:Inv X pins U H s)(g:DGet H a y o)(ry:RelV y u)(rd:RelV d r)(h:∀w' s',Inv X pins U H s'->RelV (o.getD d) w'->Q w' s') :
  wpAny (model X.prog X.w) A (call (.builtin "dict.get") [.ref a,u,r]) Q E s:=by
 rcases g with⟨kvs,k,e,ey,l⟩|⟨kvs,k,b,e,ey,eb,l⟩
 .subst ey
  obtain⟨z,hd,vs,rel,dd⟩:=zit I.hok e
  refine call_meetsIn PySem.F.slot_dict_get dd.typeIs PySem.F.entry_dict_get (PySem.F.args_dict_get_3 _ _ _) (meets_dict_get_default (zaH X.prog X.w) a (zhj ry) hd r) {_,dd.mapOf,h _ _ (I.tok _) ?_}
  rw[l]
  exact(rel.val k).getD rd
 .subst ey
  cases(show u=Value.ref b from ry)
  obtain⟨z,hd,xs,rel,dd⟩:=zis I.hok e
  refine call_meetsIn PySem.F.slot_dict_get dd.typeIs PySem.F.entry_dict_get (PySem.F.args_dict_get_3 _ _ _) (meetsH_dict_get_default (tupleKind (zaH X.prog X.w)) a b hd r) {tupleKind_room_in1 hu,k,xs,zgc I.hok eb,dd,h _ _ (I.tok _) ?_}
  rw[l]
  exact(rel.val k).getD rd
end
def tDGet2(td ty tx:TE):TE:=λU H Q=>td U H λx H1=>∃a,x=.ref a/\IsD H1 a/\ty U H1 λy H2=>tx U H2 λz H3=>∃o,DGet H3 a y o/\Q (o.getD z) H3
section
variable{X:Cx}{o e f:Expr}{apos cpos:Pos}{td ty tx:TE}
def zkN(hu:X.A.units+1<cLine)(ho:PE X o td)(he:PE X e ty)(hf:PE X f tx)(m:M2 X o "get" apos e f cpos):PE X (.Call (.Attribute o "get" apos) [e,f] [] cpos) (tDGet2 td ty tx):=by
 intro pins s U H Q I h
 refine wpAny_Call_method m.base m.few m.line PySem.F.plainAttrs_dict PySem.F.slot_dict_get PySem.F.type_dict_get (thn (ho pins s U H _ I h) λu s1 hh_=>?_)
 obtain⟨x,H1,I1,rx,a,ex,d,q1⟩:=hh_
 subst ex
 obtain rfl:u=Value.ref a:=rx
 obtain⟨t1,t2,_⟩:=isD_at I1 d
 refine{t1,t2,?_}
 rw[m.trees]
 refine Calls.callWith_builtin O (Calls.evalArgs_plain (Calls.spliced_cons (thn (he pins s1 U H1 _ I1 q1) λiv s2 ⟨y,H2,I2,ry,q2⟩ =>
  Calls.spliced_cons (thn (hf pins s2 U H2 _ I2 q2) λfv s3 ⟨z,H3,I3,rz,ov,g,q3⟩=>Calls.spliced_nil ?_))))
 exact d_get2 hu I3 g ry rz λw' s4 I4 rw'=>{_,H3,I4,rw',q3}
end
section
variable{X:Cx}{pins:List (Addr×Obj)}{U:St}{H:Hp}{s:Shared}{a:Addr}{kvs:List (Key×V)}{A:Around}{E:Value->Shared->Prop}
end
section
variable{X:Cx}{pins:List (Addr×Obj)}{U:St}{H:Hp}{s:Shared}{a:Addr}{y:V}{u:Value}{A:Around}{E:Value->Shared->Prop}
end
end L2
namespace Att
open PySem PySem.W PySem.Calls PyProof.Rows
def zey{P:Params}{h:Heap}:∀(ns:List Int) (vs:List Value),WellAll P h vs (ns.map WData.int)->IntsAre vs ns:=by
 intro ns
 induction ns with
 | nil =>
  intro vs w
  rw[List.map_nil] at w
  cases w
  exact .nil
 | cons n ns ih =>
  intro vs w
  rw[XaF] at w
  cases w with
  | cons a b =>
   cases a
   exact .cons _ _ (ih _ b)
def ziV{l:OpenLaw}{n:Nat}(hn:l.most=some n){P:Params}{h:Heap}{args:List WData}{vals:List Value}
  (hpre:l.row.toRowW.claim.pre args=true) (hwl:WellAll P h vals args) :
  ∃a vs ns,vals=[Value.ref a]/\args=[WData.list (ns.map WData.int)]/\h.get? a=some {cls:=.type "list",data:=.seq vs.toArray}/\IntsAre vs ns/\ns.length<=n:=by
 have hsh:WShape.hasAll [] args [.list .int]=true:=(pre_splitW hpre).1
 have hc:l.pre.holds [] {args:=args}=true:=(pre_splitW hpre).2
 obtain⟨d,r,rfl,h1,h2⟩:=hasAllW_cons hsh
 obtain rfl:=hasAllW_nil h2
 obtain⟨xs,rfl,h3⟩:=hasW_list h1
 obtain⟨ns,rfl⟩:=items_int h3
 have hlen:ns.length<=n:=by
  unfold OpenLaw.pre at hc
  have h4:(WTm.not (.lt (.lit (.int (n:Int))) (.len (.arg 0)))).holds [] {args:=[.list (ns.map .int)]}=true:=by
   have h4:=(holds_andW hc).1
   rw[hn] at h4
   exact h4
  have h5:=condW_of h4 (w_not (w_lt w_lit (w_len_list (w_arg O))))
  rw[Xag] at h5
  refine Nat.le_of_not_lt λq=>?_
  have q':(n:Int)<((ns.length:Nat):Int):=by omega
  first
   | (rw[Xak q'] at h5;exact absurd h5 (by decide))
   | (simp at h5;omega)
 cases hwl with
 | cons w1 w2 =>
  cases w2
  cases w1 with
  | list ho hall=>exact{_,_,ns,O,O,ho,zey ns _ hall,hlen}
def zi8(l:OpenLaw)(args:List WData):l.row.toRowW.claim.post args (.bool true) args=true:=
 postW_of (r:=l.row.toRowW) (X:=(true==true))
  (show WShape.has [] (.bool true) .bool=true by first|rfl|decide|simp[WShape.has,WShape.arms,WShape.armsAll])
  (show(WTm.eq .res (.lit (.bool true))).value [] {args:=args,res:=some (.bool true),after:=args}=some (.bool (true==true)) from w_eq_bool (w_res O) w_lit) O
section
variable{prog:Program}{w:World}{A:Around}{E:Value->Shared->Prop}{s:Shared}{K:Frag}
end
end Att
namespace L2
open PySem PySem.Spec PyProof.Rows
def zcS:∀{vs:List Value} {ns:List Int},IntsAre vs ns->Vals (ns.map V.int) vs
 | _,_,.nil=>.nil
 | _,_,.cons n t h=>.cons ⟨t,O⟩ (zcS h)
def Only(H:Hp):Prop:=∀b,H b=none\/∃o xs,H b=some (.frz o (.lst xs))
def zk1{P:Program}{w:World}{K:W.Frag}{mg mb:Str->Option Value}{CX:CXT}{k:Nat}{fa a:Addr}{fd:FuncData}{x:Str}{sp:Sp}{s₁:Shared}{vs:List Value}{ns:List Int}
  (KX:K.In s₁.heap) (hns:s₁.heap.Ns mainGlobals mg) (hb:s₁.heap.Ns builtinsNs mb) (hbb:∀x:Str,x ≠ "__name__" -> mb x=bootBuiltins x) (hlim:s₁.heap.NoLimit) (hg:s₁.gens=#[])
  (ha:s₁.heap.get? a=some {cls:=.type "list",data:=.seq vs.toArray}) (hi:IntsAre vs ns) (hl:ns.length<=sizeLine) (hr:Room k callerA)
  (F:∀base:Heap,K.In base->base.Ns mainGlobals mg->FnOk P w K mg base CX k fa fd [x] sp) (hbind:∀(s:Shared) (u:Value),BindsTo s fd {[u],[]} [(x,u)])
  (hsp:∀H:Hp,Only H->SqL K H a (ns.map V.int)->sp [.ref a] H (λv _=>v=.bl true) λ_ _ _=>False)
  (hCX:∀H e s',CX [] H s₁ (λ_ _ _=>False) e s'->False) :
  codeAny (model P w) callerA (.call (.ref fa) {[.ref a],[]}) (λr s'=>r=.ok (.ret (.bool true))/\OldK s₁.heap s'.heap/\s'.os=s₁.os/\AllBare s'.gens) s₁:=by
 have rv:=zcS hi
 have lenV:=hi.length
 
 have core:∀H:Hp,Only H->SqL K H a (ns.map V.int)->HOk P w H s₁.heap->(∀b,H b≠none->b=a)->(H a≠none->K.lookup a=none) ->
   codeAny (model P w) callerA (.call (.ref fa) {[.ref a],[]}) (λr s'=>r=.ok (.ret (.bool true))/\OldK s₁.heap s'.heap/\s'.os=s₁.os/\AllBare s'.gens) s₁:=by
  intro H hO hS hok hA hK
  have base_of:∀{b:Addr} {o:Obj},s₁.heap.get? b=some o->H b=none->(hidT s₁.heap H).get? b=some o:=λe n=>zk6 e n
  have noA:∀{b:Addr} {o:Obj} {es:Array DictEntry} {ep:Nat},s₁.heap.get? b=some o->o.data=.dict es ep->H b=none:=λ{b o es ep} e d=>by
   cases q:H b with
   | none=>rfl
   | some u =>
    have e':b=a:=hA b (by rw[q];simp)
    subst e'
    rw[ha] at e;cases e
    have d':Data.seq vs.toArray _=Data.dict es ep:=d
    cases d'
  have nsK:∀{b:Addr} {m:Str->Option Value},s₁.heap.Ns b m->(hidT s₁.heap H).Ns b m:=λ{b m} ⟨o,es,ep,e,d,r⟩=>{o,es,ep,base_of e (noA e d),d,r}
  have hKb:K.In (hidT s₁.heap H):=λb o e=>base_of (KX b o e) (by
   cases q:H b with
   | none=>rfl
   | some u =>
    have e':b=a:=hA b (by rw[q];simp)
    subst e'
    rw[hK (by rw[q];simp)] at e;cases e)
  have hM:Mod K mg (hidT s₁.heap H):={hKb,nsK hns,{mb,nsK hb,hbb},let⟨mc,h1,h2⟩:=hlim;{mc,nsK h1,h2}}
  have e0:Env0 P w K mg (hidT s₁.heap H) callerA [] s₁ H:={O,hM,λb o e=>zmE e,Nat.le_of_eq (zjH _ _),trivial,λb hb=>absurd (show b∈([]:List Addr) from hb) (by simp),hok,.of_eq hg}
  refine Xbv ((F _ hKb (nsK hns)).run callerA [] s₁ H {[.ref a],[]} [.ref a] [.ref a] _ _ hr e0 (hbind s₁ (.ref a)) (.cons O .nil) (hsp H hO hS)) λr s' h=>?_
  cases r with
  | error e=>exact(hCX H e s' h).elim
  | ok fl =>
   cases fl with
   | next=>exact False.elim h
   | brk=>exact False.elim h
   | cont=>exact False.elim h
   | ret u =>
    obtain⟨v,H',os,bare,un,hok',r',q⟩:=h
    have q':v=.bl true:=q
    subst q'
    obtain rfl:u=Value.bool true:=r'
    refine{O,OldK.of_keep λb o e=>?_,os,bare}
    cases q:H b with
    | none=>exact un.keep b o e q (by intro z;exact absurd (show b∈([]:List Addr) from z) (by simp)) (by simp)
    | some u =>
     rcases hO b with z|⟨ob,xs,z⟩
     .rw[q] at z;cases z
     .have z2:=un.frzs b ob _ z
      obtain⟨e1,_⟩:=hok b _ z
      obtain⟨e2,_⟩:=hok' b _ z2
      rw[e] at e1;cases e1
      exact e2
 cases hk:K.lookup a with
 | some o =>
  
  have e:=KX a o hk
  rw[ha] at e
  cases e
  refine core (λ_=>none) (λ_=>.inl O) (.inr {_,vs.toArray,_,hk,O,O,O,by rw[Xaq,lenV];exact hl,by simpa using rv}) (λb u z=>by have z':(none:Option HO)=some u:=z;cases z') (λb z=>absurd O z) λz=>absurd O z
 | none =>
  refine core (λb=>if b=a then some (.frz {cls:=.type "list",data:=.seq vs.toArray} (.lst (ns.map V.int))) else none) (λb=>?_) (.inl (.inr {{cls:=.type "list",data:=.seq vs.toArray},if_pos O})) (λb u z=>?_) (λb z=>?_) λ_=>hk
  .by_cases hb:b=a
   .exact .inr {_,_,if_pos hb}
   .exact .inl (if_neg hb)
  .by_cases hb:b=a
   .have z':=(if_pos hb).symm.trans z
    cases z'
    subst hb
    exact{ha,by rw[Xag];exact hl,vs,_,rv,ha}
   .have z':=(if_neg hb).symm.trans z
    cases z'
  .by_cases hb:b=a
   .exact hb
   .exact absurd (if_neg hb) z
def zay(s:Stmt)(j:Nat):Stmt:=match s with
 | .ClassDef _ _ _ body _ _ _ _ _ _ _=>body.getD j (.Pass {0,0,0,0})
 | _=>.Pass {0,0,0,0}
def zbC(s:Stmt):Arguments:=match s with
 | .FunctionDef _ a _ _ _ _ _ _ _ _=>a
 | _=>{posonlyargs:=[],args:=[],vararg:=none,kwonlyargs:=[],kw_defaults:=[],kwarg:=none,defaults:=[]}
def za2(s:Stmt):List Stmt:=match s with
 | .FunctionDef _ _ b _ _ _ _ _ _ _=>b
 | _=>[]
def zaj(s:Stmt):Scope:=match s with
 | .FunctionDef _ _ _ _ _ _ sc _ _ _=>sc
 | _=>{kind:=.function,names:=[],isGenerator:=false,isCoroutine:=false}
abbrev CX0:CXT:=λ_ _ _ _ _ _=>False
abbrev E0:XK:=λ_ _ _=>False
def zfn{X:Cx}:Passes CX0 X E0:=λ_ _ _ _ _ _ _ h=>h.elim
structure Fun(K:W.Frag)(x qual:Str)(st:Stmt)(f:Addr)(fd:FuncData):Prop where
 ex:∃(oc:Value) (od:Option Addr) (kV doc pm:Value) (an:Option Addr) (cdv ct:Value) (osl:Array (Option Value)),
  fd=W.fnOf x qual (zbC st) (za2 st) (zaj st) .none kV doc pm an cdv ct/\K.lookup f=some {oc,od,.func fd,osl}/\W.codeIn K cdv qual=true
 kp:W.keepIn K (.ref f)=true
section
variable{P:Program}{w:World}{K:W.Frag}{mg:Str->Option Value}{base:Heap}
def Fun.ok{x qual:Str}{st:Stmt}{f:Addr}{fd:FuncData}{N ps:List Str}{k:Nat}{sp:Sp}(F:Fun K x qual st f fd)(S:FnScope N ps (zaj st))(len:∀vs H Q E,sp vs H Q E->vs.length=ps.length)
  (hbody:∀(cdv:Value) (A:Around) (outer:List Env) (s:Shared) (H:Hp) (vs:List V) (Q:VK) (E:XK),Room k (A.deeper (envOfC qual (zaj st) s.heap.objs.size f cdv))->sp vs H Q E ->
   ∃t,PSs (cxOf CX0 P w K mg base N qual (zaj st) f cdv A outer s H E).nox (za2 st) t/\t {nx:=λ_ H'=>Q .non H',rt:=Q} (start N vs) H):FnOk P w K mg base CX0 (k+1) f fd ps sp:=by
 obtain⟨oc,od,kV,doc,pm,an,cdv,ct,osl,rfl,lk,hcd⟩:=F.ex
 refine zlb lk hcd S len λA outer s H vs Q E hr hsp=>?_
 obtain⟨t,h,q⟩:=hbody cdv A outer s H vs Q E hr hsp
 exact⟨t,h.nox,q⟩
def Fun.binds{x qual:Str}{st:Stmt}{f:Addr}{fd:FuncData}{ps:List Str}(F:Fun K x qual st f fd)
  (h:∀(kV doc pm:Value) (an:Option Addr) (cdv ct:Value) (us:List Value),us.length=ps.length->bindArgs (W.fnOf x qual (zbC st) (za2 st) (zaj st) .none kV doc pm an cdv ct) {us,[]}=pure (ps.zip us)):Binds K fd ps []:=by
 obtain⟨oc,od,kV,doc,pm,an,cdv,ct,osl,rfl,lk,hcd⟩:=F.ex
 exact .all (h kV doc pm an cdv ct)
def zlN{x qual:Str}{st:Stmt}{f:Addr}{oc:Value}{od an:Option Addr}{osl:Array (Option Value)}{kV doc pm cdv ct:Value}(l:K.lookup f=some {oc,od,.func (W.fnOf x qual (zbC st) (za2 st) (zaj st) .none kV doc pm an cdv ct),osl})
  (c:W.codeIn K cdv qual=true) (k:W.keepIn K (.ref f)=true):Fun K x qual st f (W.fnOf x qual (zbC st) (za2 st) (zaj st) .none kV doc pm an cdv ct):={⟨oc,od,kV,doc,pm,an,cdv,ct,osl,O,l,c⟩,k}
end
def zdQ{A:Around}{k:Nat}(hr:Room k A):A.units+1<cLine:=XaP (Nat.add_le_add_left (by decide:1<=64) _) hr.units
def zcU{n:Nat}(h:n<=1000):n<sizeLine:=XaP h (by decide)
section
variable{X:Cx}
def pv(i:Nat){x:Str}{pos:Pos}(hN:X.N[i]?=some x:=by rfl)(hv:Vis X.env.scope x:=by first|exact Or.inl O|exact Or.inr (Or.inl O)|exact Or.inr (Or.inr O))(hd:(x==("__debug__" : Str))=false:=by decide)
  (hcd:(x==("__classdict__" : Str))=false:=by decide):PE X (.Name x pos) (tVar i):=pe_var hN hv hd hcd
end
def iteF{A B:Prop}(h:B):if false=true then A else B:=by
 rw[if_neg Xal]
 exact h
def iteT{A B:Prop}(h:A):if true=true then A else B:=by
 rw[if_pos O]
 exact h
def ite2{c A B:Prop}[Decidable c](h1:c->A)(h2:¬ c->B):if c then A else B:=by
 by_cases h:c
 .rw[if_pos h]
  exact h1 h
 .rw[if_neg h]
  exact h2 h
def zhl{c A B:Prop}[Decidable c](hc:c)(h:B):if(!decide c)=true then A else B:=by
 rw[Xak hc]
 exact iteF h
def Same(H H':Hp):Prop:=∀b o,H b=some o->H' b=some o
def Same.refl(H:Hp):Same H H:=λ_ _ h=>h
def Same.trans{H H1 H2:Hp}(a:Same H H1)(b:Same H1 H2):Same H H2:=λc o h=>b c o (a c o h)
def Same.free{H H':Hp}(e:Same H H'){l:Addr}(h:H' l=Option.none):H l=Option.none:=by
 cases q:H l with
 | none=>rfl
 | some o =>
  rw[e l o q] at h
  cases h
def Same.seq{K:W.Frag}{H H':Hp}{a:Addr}{xs:List V}(e:Same H H')(h:SqL K H a xs):SqL K H' a xs:=by
 rcases h with(h|⟨o,h⟩)|h
 .exact .inl (.inl (e _ _ h))
 .exact .inl (.inr {o,e _ _ h})
 .exact .inr h
section
variable{X:Cx}
end
section
variable{κ:Type}[DecidableEq κ]
def zl4{kvs:List (κ×V)}{k:κ}{v:V}(h:valV kvs k=some v):k∈kvs.map (·.1):=by
 have q:(kvs.any λkv=>decide (kv.1=k))=true:=by
  rw[zbO,h]
  all_goals rfl
 obtain⟨p,hp,e⟩:=List.any_eq_true.mp q
 exact XaC.mpr {p,hp,XaK e}
end
def zmI{prog:Program}{w:World}{A:Around}{R:Result->Shared->Prop}{s:Shared}{elt target iter:Expr}{ifs:List Expr}{scope:Scope}{pos:Pos}{it acc:Value}{env:Env}(I:Nat->Shared->Prop)
  (turn:∀n s,I n s->wpAny (model prog w) A (pyNext it) (λr s1=>match r with
   | none=>R (.ok .next) s1
   | some v=>wpAny (model prog w) A (letOwnedTupleGo target it v) (λ_ s2=>wpAny (model prog w) A (assign target env v) (λ_ s3 =>
     wpAny (model prog w) A (forIn ifs true λc r=>if r=true then do let ok <- isTrue c env (eval c env);pure (ForInStep.yield ok) else pure (ForInStep.yield r)) (λok s4 =>
      if ok=true then wpAny (model prog w) A (eval elt env) (λx s5 =>
       wpAny (model prog w) A (call (.builtin "list.append") [acc,x]) (λ_ s6=>∃m,m<n/\I m s6) (λ_ _=>False) s5) (λ_ _=>False) s4
      else∃m,m<n/\I m s4) (λ_ _=>False) s3) (λ_ _=>False) s2) (λ_ _=>False) s1) (λ_ _=>False) s)
  (n:Nat) (h:I n s) :
  codeAny (model prog w) A (.compLoop (.ListComp elt [{target,iter,ifs,0}] scope pos) 0 it acc env) R s:=by
 refine codeAny_loop O I (λn s hI=>?_) n h
 show wpAny _ A ((compTurn (.ListComp elt [{target,iter,ifs,0}] scope pos) 0 it acc env).onRaise (λx=>do noteFrame x env;theTreesLotGoes x)) _ _ s
 refine wpAny_noted ?_
 rw[compTurn_list]
 refine Xaa (Xa3 (Xaa (Xat (turn n s hI) (λr s1 h1=>?_) λ_ _ h'=>h'.elim)))
 cases r with
 | none=>exact Xac h1
 | some v =>
  refine Xaa (Xat h1 (λ_ s2 h2=>?_) λ_ _ h'=>h'.elim)
  refine Xaa (Xat h2 (λ_ s3 h3=>Xaa (Xat h3 (λok s4 h4=>?_) λ_ _ h'=>h'.elim)) λ_ _ h'=>h'.elim)
  cases ok with
  | false=>exact Xac ⟨O,h4⟩
  | true =>
   exact Xaa (Xaa (Xat h4 (λx s5 h5=>Xaa (Xat h5 (λ_ s6 h6=>Xac (Xac ⟨O,h6⟩)) λ_ _ h'=>h'.elim)) λ_ _ h'=>h'.elim))
def PF(X:Cx)(ifs:List Expr)(t:TT):Prop:=
 ∀(pins:List (Addr×Obj)) (s:Shared) (U:St) (H:Hp) (Q:Bool->Hp->Prop),Inv X pins U H s->t U H Q ->
  wpAny (model X.prog X.w) X.A (forIn ifs true λc r=>if r=true then do let ok <- isTrue c X.env (eval c X.env);pure (ForInStep.yield ok) else pure (ForInStep.yield r)) (TP X pins U Q) X.xe s
def tYes:TT:=λ_ H Q=>Q true H
def zeR{X:Cx}:PF X [] tYes:=λpins s U H Q I h=>wpAny_tests_nil ⟨H,I,h⟩
def zhB{X:Cx}{c:Expr}{t:TT}(hc:PT X c t):PF X [c] t:=λpins s U H Q I h=>wpAny_tests_one (hc pins s U H Q I h)
def cxC(X:Cx)(Nc:List Str)(scope:Scope)(cl:List (Str×Addr))(C:Addr)(fp:List Addr)(s2:Shared)(H2:Hp):Cx where
 prog:=X.prog
 w:=X.w
 K:=X.K
 mg:=X.mg
 base:=X.base
 A:=X.A
 N:=Nc
 s₀:=s2
 H₀:=H2
 env:=compEnvC scope cl C X.env
 outer:=X.stack
 stack:=X.stack
 ex:=fp
 fn:=λ_=>false
 calm:=X.calm
 pn:=[]
 xe:=λ_ _=>False
def zcm(src:List (Option Nat))(U:St):St:=src.map λo=>match o with
 | none=>none
 | some i=>(U[i]?).getD none
structure CompOk(N:List Str)(osc:Scope)(Nc:List Str)(src:List (Option Nat))(scope:Scope):Prop where
 kind:scope.kind=.function
 nocell:∀x∈scope.names,x.2≠.cell
 nodup:scope.names.Pairwise λx y=>x.1≠y.1
 free:∀x∈scope.names,x.2=.free->osc.names.lookup x.1=some .cell\/osc.names.lookup x.1=some .free
 len:src.length=Nc.length
 src:∀(j i:Nat),src[j]?=some (some i)->∃x,Nc[j]?=some x/\N[i]?=some x/\scope.names.lookup x=some .free
set_option tactic.hygienic true in
def zdp{α:Type}{l:List (Str×α)}{x:Str}{k:α}(h:l.lookup x=some k):(x,k)∈l:=by
 induction l with
 | nil=>cases h
 | cons p r ih =>
  obtain⟨y,j⟩:=p
  rw[List.lookup_cons] at h
  split at h
  .rename_i hb
   have e:=eq_of_beq hb
   cases h;subst e;exact Xay
  .exact XaA _ (ih h)
def zbo{α:Type}{l:List (Str×α)}(nd:l.Pairwise λx y=>x.1≠y.1){x:Str}{k:α}(h:(x,k)∈l):l.lookup x=some k:=by
 induction l with
 | nil=>cases h
 | cons p r ih =>
  obtain⟨y,j⟩:=p
  rw[List.pairwise_cons] at nd
  rw[List.lookup_cons]
  rcases Xau.mp h with e|h
  .cases e;simp
  .have ne:=nd.1 _ h
   have:(x==y)=false:=beq_eq_false_iff_ne.mpr (Ne.symm ne)
   rw[this];exact ih nd.2 h
def zix{X:Cx}(ok:X.Ok){scope:Scope}:∀(names:List (Str×NameKind)) (acc:List (Str×Addr)),(∀x∈names,x.2=.free->∃c,X.env.cells.lookup x.1=some c) ->
  (∀x c,(x,c)∈acc->X.env.cells.lookup x=some c) ->
  ∃cl,(forIn names acc (λ(p:Str×NameKind) (cs:List (Str×Addr))=>(do
   if p.2==NameKind.free then
    let c <- cellOf X.env p.1
    pure (ForInStep.yield ((p.1,c)::cs))
   else pure (ForInStep.yield cs):Sem (ForInStep (List (Str×Addr))))))=pure cl/\(∀x c,(x,c)∈cl->X.env.cells.lookup x=some c)/\(∀x∈names,x.2=.free->∃c,(x.1,c)∈cl)/\(∀p∈acc,p∈cl):=by
 intro names
 induction names with
 | nil=>intro acc _ ha;exact{acc,(by rw[List.forIn_nil]),ha,(λ_ h=>nomatch h),λ_ h=>h}
 | cons p r ih =>
  intro acc hf ha
  obtain⟨x,k⟩:=p
  rw[List.forIn_cons]
  by_cases hk:k=.free
  .subst hk
   obtain⟨c,hc⟩:=hf _ Xay O
   obtain⟨cl,e,h1,h2,h3⟩:=ih ((x,c)::acc) (λy hy=>hf y (XaA _ hy)) (λy d hy=>by
    rcases Xau.mp hy with e|hy
    .cases e;exact hc
    .exact ha y d hy)
   have hcell:cellOf X.env x=pure c:=by unfold cellOf;rw[show X.env.cells.lookup x=some c from hc]
   refine{cl,?_,h1,λy hy hk=>?_,λq hq=>h3 q (XaA _ hq)}
   .simp only[beq_self_eq_true,if_true,hcell,pure_bind];exact e
   .rcases Xau.mp hy with e|hy
    .cases e;exact{c,h3 _ Xay}
    .exact h2 y hy hk
  .obtain⟨cl,e,h1,h2,h3⟩:=ih acc (λy hy=>hf y (XaA _ hy)) ha
   have hb:(k==NameKind.free)=false:=by simpa using hk
   refine{cl,?_,h1,λy hy hk'=>?_,h3}
   .simp only[hb,Bool.false_eq_true,if_false,pure_bind];exact e
   .rcases Xau.mp hy with e|hy
    .cases e;exact absurd hk' hk
    .exact h2 y hy hk'
def zbp{X:Cx}(ok:X.Ok){scope:Scope}(hf:∀x∈scope.names,x.2=.free->X.env.scope.names.lookup x.1=some .cell\/X.env.scope.names.lookup x.1=some .free) :
  ∃cl:List (Str×Addr),closureFor scope X.env=pure cl/\(∀(x:Str) (c:Addr),cl.lookup x=some c->X.env.cells.lookup x=some c)/\(∀x∈scope.names,x.2=.free->∃c,cl.lookup x.1=some c):=by
 obtain⟨cl,e,h1,h2,_⟩:=zix ok (scope:=scope) scope.names [] (λx hx hk=>ok.has x.1 (hf x hx hk)) (λ_ _ h=>nomatch h)
 refine{cl,?_,λx c h=>h1 x c (zdp h),λx hx hk=>?_}
 .unfold closureFor
  exact(bind_pure _).trans e
 .obtain⟨c,hc⟩:=h2 x hx hk
  have:∀l:List (Str×Addr),(x.1,c)∈l->∃d,l.lookup x.1=some d:=by
   intro l
   induction l with
   | nil=>intro h;cases h
   | cons p r ih =>
    intro h
    obtain⟨y,d⟩:=p
    rw[List.lookup_cons]
    cases hb:x.1==y with
    | true=>exact⟨d,O⟩
    | false =>
     rcases Xau.mp h with e|h
     .cases e;simp at hb
     .exact ih h
  exact this cl hc
def zcx{scope:Scope}{env:Env}(x:Str):(relabel scope env).names.lookup x=(scope.names.lookup x).map λk=>if(k==.free&&env.scope.kind==.function&&env.kindOf x==some .cell) then .cell else k:=by
 unfold relabel
 show List.lookup x (scope.names.map _)=_
 induction scope.names with
 | nil=>rfl
 | cons p r ih =>
  obtain⟨n,k⟩:=p
  rw[XaF]
  cases hb:x==n with
  | true =>
   have e:=eq_of_beq hb
   subst e
   show List.lookup x ((if(k==NameKind.free&&env.scope.kind==.function&&env.kindOf x==some .cell)=true then(x,NameKind.cell) else(x,k))::_)=_
   by_cases hc:(k==NameKind.free&&env.scope.kind==.function&&env.kindOf x==some .cell)=true
   .rw[if_pos hc,List.lookup_cons,List.lookup_cons]
    simp only[beq_self_eq_true,Option.map_some]
    rw[if_pos hc]
   .rw[if_neg hc,List.lookup_cons,List.lookup_cons]
    simp only[beq_self_eq_true,Option.map_some]
    rw[if_neg hc]
  | false =>
   show List.lookup x ((if(k==NameKind.free&&env.scope.kind==.function&&env.kindOf n==some .cell)=true then(n,NameKind.cell) else(n,k))::_)=_
   by_cases hc:(k==NameKind.free&&env.scope.kind==.function&&env.kindOf n==some .cell)=true
   .rw[if_pos hc,List.lookup_cons,List.lookup_cons,hb];exact ih
   .rw[if_neg hc,List.lookup_cons,List.lookup_cons,hb];exact ih
def HOk.track{P:Program}{w:World}{H:Hp}{h:Heap}{a:Addr}{o:HO}(x:HOk P w H h)(hn:H a=none)(new:ObjOk P w (upd H a o) h a o):HOk P w (upd H a o) h:=λb u e=>by
 by_cases hb:b=a
 .subst hb;rw[zac] at e;cases e;exact new
 .rw[zah hb] at e
  exact(x b u e).stay (λc v _ q=>q) (λc q=>by rw[zah (zai q hn)];exact q) λc xs q=>by rw[zah (zai q hn)];exact q
def Un.track{fs ex:List Addr}{H H':Hp}{h h':Heap}{a:Addr}{o:HO}(u:Un fs ex H H' h h')(hp:h.objs.size<=a)(hl:∀b v,H b=some v->b<h.objs.size):Un fs ex H (upd H' a o) h h' where
 keep:=u.keep
 slot:=u.slot
 free:=λb v q n x=>by rw[zah (Xaz (Xaj (Xap q) hp))];exact u.free b v q n x
 there:=u.there
 tups:=λb xs q=>by rw[zah (Xaz (Xaj (hl b _ q) hp))];exact u.tups b xs q
 frzs:=λb v xs q=>by rw[zah (Xaz (Xaj (hl b _ q) hp))];exact u.frzs b v xs q
 tbls:=λb ps q=>by rw[zah (Xaz (Xaj (hl b _ q) hp))];exact u.tbls b ps q
def cxC_ok{X:Cx}{pins:List (Addr×Obj)}{U:St}{H2:Hp}{s2:Shared}{Nc:List Str}{src:List (Option Nat)}{scope:Scope}{cl:List (Str×Addr)}{C:Addr}{fp:List Addr}(I2:Inv X pins U H2 s2)(S:CompOk X.N X.env.scope Nc src scope)
  (hcl1:∀(x:Str) (c:Addr),cl.lookup x=some c->X.env.cells.lookup x=some c) (hcl2:∀x∈scope.names,x.2=.free->∃c,cl.lookup x.1=some c) (hC:s2.heap.objs.size<=C)
  (hfp:∀b∈fp,b<s2.heap.objs.size) (f2:∀b∈fp,FpOk X pins H2 b):(cxC X Nc scope cl C fp s2 H2).Ok where
 mod:=I2.ok.mod
 kind:=S.kind
 glob:=I2.ok.glob
 blt:=I2.ok.blt
 above:=hC
 inj:=λx y c h1 h2=>I2.ok.inj x y c (hcl1 _ _ h1) (hcl1 _ _ h2)
 has:=λx h=>by
  have h':(relabel scope X.env).names.lookup x=some .cell\/(relabel scope X.env).names.lookup x=some .free:=h
  rw[zcx] at h'
  cases hk:scope.names.lookup x with
  | none=>rw[hk] at h';rcases h' with h'|h'<;>cases h'
  | some k =>
   have hm:=zdp hk
   have hkf:k=.free:=by
    rw[hk] at h'
    simp only[Option.map_some] at h'
    cases k with
    | free=>rfl
    | cell=>exact absurd O (S.nocell _ hm)
    | _=>exfalso;revert h';simp
   subst hkf
   exact hcl2 _ hm O
 cab:=λx c h=>nomatch h
 hd:=I2.ok.hd
 frames:=I2.ok.frames
 stk:=.inl O
 exf:=λb hb=>{Xaz (Xaj (hfp b hb) hC),λx c e=>(f2 b hb).2.2.2.2.1 x c (hcl1 _ _ e)}
 bs:=I2.bs
 bsz:=Xar I2.ok.bsz I2.sz
 noex:=λb o e hb=>by
  rcases(f2 b hb).2.2.2.1 with z|z
  .exact I2.ok.noex b o e z
  .exact absurd (Xaj (Xap e) (Xar I2.ok.bsz z)) (XaY _)
 exfs:=λb hb hs=>by
  obtain⟨_,f1,f3,_⟩:=f2 b hb
  rcases Xau.mp (I2.stkSub b hs) with z|z
  .exact f1 z
  .exact f3 z
 funs:=I2.stack
 frf:=I2.stkFree
abbrev TEm(α:Type):=St->Hp->(α->Hp->Prop)->Prop
def PEm{α:Type}(B:Nat)(Y:Cx)(EM:Env->Addr->(Shared->Prop)->Shared->Prop)(AO:List α->Obj->Prop)(em:TEm α):Prop:=
 ∀(D:Addr) (pins:List (Addr×Obj)) (s:Shared) (U:St) (H:Hp) (Q:α->Hp->Prop) (ys:List α) (o:Obj),Inv Y pins U H s->(D,o)∈pins->AO ys o->ys.length<B->em U H Q ->
  EM Y.env D (λs'=>∃y H8 s8 h' o' tk,Inv Y pins U H8 s8/\AO (ys++[y]) o'/\Heap.SameBut D s8.heap h'/\h'.get? D=some o'/\s'={s8 with heap:=h',toks:=tk}/\Q y H8) s
def ze2{α:Type}(B:Nat)(J:It)(g:TG)(tf:TT)(em:TEm α)(Q:List α->Hp->Prop)(U0:St)(H1:Hp):Prop:=
 ∃W:Nat->Nat->List α->St->Hp->Prop,(∃m,W 0 m [] U0 H1)/\∀i m ys Uc Hc,W i m ys Uc Hc ->
  (J.stop i Hc/\ys.length<=B/\Q ys Hc) \/
  (J.go i Hc/\ys.length<B/\∃N:List α->St->Hp->Prop,(∀ys' U' H',N ys' U' H'->∃m',m'<m/\W (i+1) m' ys' U' H') /\
   ∀x H',J.yld i Hc x H'->g x Uc H' λU2 H2=>tf U2 H2 λb H3=>if b=true then em U2 H3 λy H4=>N (ys++[y]) U2 H4 else N ys U2 H3)
structure CLoop(prog:Program)(w:World)(A:Around)(tg:Expr)(ifs:List Expr)(ce:Expr)(it:Value)(EM:Env->Addr->(Shared->Prop)->Shared->Prop):Prop where
 mono:∀(env:Env) (D:Addr) (p q:Shared->Prop) (s:Shared),EM env D p s->(∀s',p s'->q s')->EM env D q s
 loop:∀(env:Env) (D:Addr) (I:Nat->Shared->Prop) {R:Result->Shared->Prop} (turn:∀n s,I n s->wpAny (model prog w) A (pyNext it) (λr s1=>match r with
   | none=>R (.ok .next) s1
   | some v=>wpAny (model prog w) A (letOwnedTupleGo tg it v) (λ_ s2=>wpAny (model prog w) A (assign tg env v) (λ_ s3 =>
     wpAny (model prog w) A (forIn ifs true λc r=>if r=true then do let ok <- isTrue c env (eval c env);pure (ForInStep.yield ok) else pure (ForInStep.yield r)) (λok s4 =>
      if ok=true then EM env D (λs6=>∃m,m<n/\I m s6) s4 else∃m,m<n/\I m s4) (λ_ _=>False) s3) (λ_ _=>False) s2) (λ_ _=>False) s1) (λ_ _=>False) s)
  (n:Nat) (s:Shared) (h:I n s),codeAny (model prog w) A (.compLoop ce 0 it (.ref D) env) R s
 start:∀(env:Env) (D:Addr) (R:Result->Shared->Prop) (s:Shared),codeAny (model prog w) A (.compLoop ce 0 it (.ref D) env) R s ->
  wpAny (model prog w) A (pyIter it) (λit' s'=>codeAny (model prog w) A (.compLoop ce 0 it' (.ref D) env) R s') (notedBy (model prog w) A env λx s'=>R (.error x) s') s->codeAny (model prog w) A (.compStart ce 0 it (.ref D) env) R s
def zdt{α:Type}{X:Cx}{pins:List (Addr×Obj)}{U:St}{H2:Hp}{s2:Shared}{Nc:List Str}{src:List (Option Nat)}{scope:Scope}{cl:List (Str×Addr)}{fp:List Addr}{tg ce:Expr}{ifs:List Expr}
  {it:Addr} {tn:Nat->Heap->Prop} {J:It} {g:TG} {tf:TT} {em:TEm α} {Qf:List α->Hp->Prop} {E:Value->Shared->Prop} {RR:Value->Addr->Result->Shared->Prop} {mk:Sem Value} {o0:Obj} {AO:List α->Obj->Prop} {ho:Addr->List α->HO} {B:Nat} {EM:Env->Addr->(Shared->Prop)->Shared->Prop}
  (hc:X.calm=true) (I2:Inv X pins U H2 s2) (S:CompOk X.N X.env.scope Nc src scope)
  (hcl1:∀(x:Str) (c:Addr),cl.lookup x=some c->X.env.cells.lookup x=some c) (hcl2:∀x∈scope.names,x.2=.free->∃c,cl.lookup x.1=some c)
  (T:Turn X.prog X.w X.K tg J fp it tn) (st2:tn 0 s2.heap) (f2:∀b∈fp,FpOk X pins H2 b)
  (hg:∀cl C fp s2 H2,PG (cxC X Nc scope cl C fp s2 H2) tg g) (hf:∀cl C fp s2 H2,PF (cxC X Nc scope cl C fp s2 H2) ifs tf) (he:∀cl C fp s2 H2,PEm B (cxC X Nc scope cl C fp s2 H2) EM AO em)
  (hmk:∀(Q:Value->Shared->Prop) (s:Shared),Q (.ref s.heap.objs.size) {s with heap:=s.heap.push o0}->wpAny (model X.prog X.w) X.A mk Q E s) (hfr:o0.isFreed=false) (h0:AO [] o0) (hcell:∀ys o v,AO ys o->o.data≠.cell v)
  (hho:∀ys o H h D,AO ys o->ys.length<=B->s2.heap.objs.size<=D->h.get? D=some o->ObjOk X.prog X.w (upd H D (ho D ys)) h D (ho D ys))
  (hlp:CLoop X.prog X.w X.A tg ifs ce (.ref it) EM)
  (hw:ze2 B J g tf em Qf (zcm src U) H2)
  (fin:∀(H4:Hp) (s4:Shared) (ys:List α) (m:Str->Option Value) (C:Addr),s2.heap.objs.size<=C->H4 s2.heap.objs.size=none->Inv X pins U (upd H4 s2.heap.objs.size (ho s2.heap.objs.size ys)) s4->s4.heap.Ns C m->upd H4 s2.heap.objs.size (ho s2.heap.objs.size ys) C=none->Qf ys H4->RR (.ref s2.heap.objs.size) C (.ok .next) s4) :
  wpAny (model X.prog X.w) X.A mk (λacc s3=>wpAny (model X.prog X.w) X.A (newFunctionEnv scope X.env.globals cl [] X.env.qual none .none (some X.env)) (λcenv s4 =>
   codeAny (model X.prog X.w) X.A (.compStart ce 0 (.ref it) acc {cenv with scope:=relabel scope X.env}) (RR acc cenv.locals) s4) E s3) E s2:=by
 refine hmk _ s2 (wpAny_newFunctionEnv S.nocell (by intro y hy;simp at hy) (λh1 hns1 hsb1=>?_) S.kind)
 dsimp only at hns1 hsb1 ⊢
 generalize hH2:s2.heap.push o0=G2 at hns1 hsb1 ⊢
 have hCz:G2.objs.size=s2.heap.objs.size+1:=by rw[<- hH2,XaL]
 generalize hCe:G2.objs.size=C at hns1 hsb1 hCz ⊢
 generalize hDe:s2.heap.objs.size=D at fin hCz ⊢
 have hDC:D≠C:=by omega
 have hCle:s2.heap.objs.size<=C:=by omega
 have hDle:s2.heap.objs.size<=D:=by omega
 have old:∀b o,s2.heap.get? b=some o->h1.get? b=some o:=λb o e=>hsb1.extBut b o (Xaz (Xaj (Xap e) hCle)) (Xab _ (hH2▸Xab _ e))
 have hacc:h1.get? D=some o0:=by
  refine hsb1.extBut _ _ hDC (Xab _ ?_)
  rw[<- hH2,<- hDe]
  exact Xai _ hfr
 have hfp:∀b∈fp,b<s2.heap.objs.size:=λb hb=>by
  obtain⟨o,e,_⟩:=T.obj 0 _ st2 b hb
  exact Xap e
 have ok:=cxC_ok (Nc:=Nc) (src:=src) (scope:=scope) (cl:=cl) (C:=C) (fp:=fp) I2 S hcl1 hcl2 hCle hfp f2
 generalize hXC:cxC X Nc scope cl C fp s2 H2=Y at ok
 have hYN:Y.N=Nc:=by rw[<- hXC];rfl
 
 have I0:Inv (cxC X Nc scope cl C fp s2 H2) [] (zcm src U) H2 {s2 with heap:=h1,toks:=s2.toks+([]:List (Str×Value)).length}:=by
  rw[<- hXC] at ok
  refine{ok,O,I2.bare,Un.kept old,{_,hns1,λj x v e1 e2 _=>?_},λx c e=>?_,I2.hok.fresh hCle,λx c e=>I2.freeC x c (hcl1 _ _ e),(λp hp=>nomatch hp),I2.hok.kept old,?_}
  .
   have e2':(zcm src U)[j]?=some (some v):=e2
   have e1':Nc[j]?=some x:=e1
   unfold zcm at e2'
   rw[Xao] at e2'
   cases hs:src[j]? with
   | none=>rw[hs] at e2';cases e2'
   | some o =>
    rw[hs] at e2'
    cases o with
    | none=>cases e2'
    | some i =>
     simp only[Option.map_some,Option.some.injEq] at e2'
     obtain⟨y,hy1,hy2,hy3⟩:=S.src j i hs
     rw[e1'] at hy1;cases hy1
     have hU9:U[i]?=some (some v):=by
      cases hq:U[i]? with
      | none=>rw[hq] at e2';cases e2'
      | some z=>rw[hq] at e2';simp only[Option.getD_some] at e2';rw[e2']
     have hm:=zdp hy3
     have hfr:=S.free _ hm O
     obtain⟨m0,hn0,hl0⟩:=I2.loc
     obtain⟨u,r,l⟩:=hl0 i x v hy2 hU9 (Or.inr hfr)
     refine{u,r,.inr {?_,?_}}
     .show(relabel scope X.env).names.lookup x=some .cell\/(relabel scope X.env).names.lookup x=some .free
      rw[zcx,hy3]
      simp only[Option.map_some]
      split
      .exact .inl O
      .exact .inr O
     .rcases l with⟨k,_⟩|⟨_,c,hc1,hc2⟩
      .have k':X.env.scope.names.lookup x=some .local:=k
       rw[k'] at hfr;rcases hfr with z|z<;>cases z
      .obtain⟨c',hc'⟩:=hcl2 _ hm O
       have:=hcl1 _ _ hc'
       rw[hc1] at this;cases this
       exact{c,hc',hc2.keeps old}
  .obtain⟨v,z⟩:=I2.cell x c (hcl1 _ _ e)
   exact{v,z.keeps old}
  .show(zcm src U).length=Nc.length
   unfold zcm;rw[Xag];exact S.len
 obtain⟨W,⟨m0,w0⟩,turn⟩:=hw
 have loop:codeAny (model X.prog X.w) X.A (.compLoop ce 0 (.ref it) (.ref D) (compEnvC scope cl C X.env)) (RR (.ref D) C) {s2 with heap:=h1,toks:=s2.toks+([]:List (Str×Value)).length}:=by
  have fpk:∀{H':Hp} {ob:Obj},(∀b∈fp,H' b=none)->∀b∈fp,FpOk (cxC X Nc scope cl C fp s2 H2) [(D,ob)] H' b:=λ{H' ob} hn b hb =>
   ⟨hn b hb,(I0.ok.exf b hb).1,I0.ok.exfs b hb,.inl hb,(I0.ok.exf b hb).2,λp hp=>by
    have e:p=(D,ob):=Xad.mp hp
    subst e
    exact XbA (Xaj (hfp b hb) hDle)⟩
  have hDfs:D∉frs X.stack:=λhs=>by
   rcases Xau.mp (I2.stkSub D hs) with z|z
   .exact absurd (Xaj I2.lt hDle) (by rw[z];exact XaY _)
   .exact I2.nofs hDle z
  refine hlp.loop (compEnvC scope cl C X.env) D (λn s'=>∃i ys U' H' ob,Inv (cxC X Nc scope cl C fp s2 H2) [] U' H' s'/\tn i s'.heap/\(∀b∈fp,H' b=none)/\H' D=none/\s'.heap.get? D=some ob/\AO ys ob/\W i n ys U' H') ?_ m0 _
   {0,[],zcm src U,H2,o0,I0,T.keep _ _ _ st2 λb hb o e=>old b o e,λb hb=>(f2 b hb).1,I2.hok.fresh hDle,hacc,h0,w0}
  rintro n s3 ⟨i,ys,U3,H3,ob,I3,st3,fr3,hD3,hO3,vs3,w3⟩
  have I3':Inv (cxC X Nc scope cl C fp s2 H2) [(D,ob)] U3 H3 s3:=I3.pins_of λp hp=>by
   have e:=Xad.mp hp
   subst e
   exact{hO3,hD3,hDC,hDfs,λv z=>hcell ys ob v vs3 z}
  rcases turn i n ys U3 H3 w3 with⟨stop,hlen,qn⟩|⟨go,hlen,N,hN,step⟩
  .refine thn (T.done (cxC X Nc scope cl C fp s2 H2) O O O hc i _ s3 U3 H3 _ I3' (fpk fr3) st3 stop) λr s4 ⟨hr,I4⟩=>?_
   subst hr
   have hO4:=(I4.pin (D,_) (XaB _ (Xad.mpr O))).1
   obtain⟨m4,hn4,_⟩:=I4.loc
   have fC:H3 C=none:=I4.free
   have uD:upd H3 D (ho D ys) C=none:=by rw[zah hDC.symm];exact fC
   have hl2:∀b v,H2 b=some v->b<s2.heap.objs.size:=λb v e=>I2.hok.lt e
   have Iout:Inv X pins U (upd H3 D (ho D ys)) s4:=by
    refine I2.call' (ch:=fp) I4.os (Un.track I4.base hDle hl2) (HOk.track I4.hok hD3 (hho ys ob H3 s4.heap D vs3 hlen hDle hO4)) I4.bare λb hb=>?_
    obtain⟨_,a1,_,a3,a4,a5⟩:=f2 b hb
    exact⟨a3,a1,a4,a5⟩
   exact fin H3 s4 ys m4 C (by omega) hD3 Iout hn4 uD qn
  .refine thn (T.item (cxC X Nc scope cl C fp s2 H2) O O O hc i _ s3 U3 H3 _ I3' (fpk fr3) st3 go) λr s4 ⟨u,hr,h4⟩=>?_
   subst hr
   refine thn h4 λ_ s5 hh_=>?_
   obtain⟨x,H5,I5,r5,y5,st5,fr5⟩:=hh_
   have I5':=I5.pinned (fpk fr5) (T.obj _ _ st5)
   refine thn (hg cl C fp s2 H2 _ s5 U3 H5 x u _ I5' r5 (step x H5 y5)) λ_ s6 ⟨U6,H6,I6,q6⟩=>?_
   refine thn (hf cl C fp s2 H2 _ s6 U6 H6 _ I6 q6) λok s7 ⟨H7,I7,q7⟩=>?_
   have back:∀{s8:Shared} {U8:St} {H8:Hp},Inv (cxC X Nc scope cl C fp s2 H2) ([(D,ob)]++zfR fp s5.heap) U8 H8 s8 ->
     tn (i+1) s8.heap/\(∀b∈fp,H8 b=none)/\H8 D=none/\s8.heap.get? D=some ob:=λ{s8 U8 H8} I8=>by
    refine{T.keep _ _ _ st5 λb hb o e=>(I8.pin (b,o) (XaB _ (XaB _ (zcq hb e)))).1,λb hb=>?_,?_,?_}
    .obtain⟨o,e,d⟩:=T.obj _ _ st5 b hb
     exact(I8.pin (b,o) (XaB _ (XaB _ (zcq hb e)))).2.1
    .exact(I8.pin (D,_) (XaB _ (XbI _ (Xad.mpr O)))).2.1
    .exact(I8.pin (D,_) (XaB _ (XbI _ (Xad.mpr O)))).1
   cases ok with
   | false =>
    obtain⟨m',hm',w7⟩:=hN _ _ _ q7
    obtain⟨b1,b2,b3,b4⟩:=back I7
    exact{m',hm',i+1,ys,U6,H7,ob,I7.pins_of (λp hp=>nomatch hp),b1,b2,b3,b4,vs3,w7}
   | true =>
    refine hlp.mono _ _ _ _ _ (he cl C fp s2 H2 D _ s7 U6 H7 _ ys ob I7 (XbI _ (Xad.mpr O)) vs3 hlen q7) λs9 hh_=>?_
    obtain⟨y,H8,s8,h9,o9,tk9,I8,a9,sb9,g9,e9,q8⟩:=hh_
    subst e9
    obtain⟨m',hm',w8⟩:=hN _ _ _ q8
    obtain⟨b1,b2,b3,b4⟩:=back I8
    have I8n:Inv (cxC X Nc scope cl C fp s2 H2) [] U6 H8 s8:=I8.pins_of λp hp=>nomatch hp
    have I9:Inv (cxC X Nc scope cl C fp s2 H2) [] U6 H8 {s8 with heap:=h9,toks:=tk9}:=
     I8n.turned (it:=D) (λb o hb e=>sb9.extBut b o hb e) b3 hDC (.inr hDle) (λx c e z=>by
      obtain⟨w',z'⟩:=I2.cell x c (hcl1 _ _ e)
      exact absurd (Xaj z'.lt hDle) (by rw[z];exact XaY _)) (λp hp=>nomatch hp)
    refine{m',hm',i+1,ys++[y],U6,H8,o9,I9,T.keep _ _ _ b1 λb hb o e=>sb9.extBut b o (Xaz (Xaj (hfp b hb) hDle)) e,b2,b3,g9,a9,w8}
 exact hlp.start _ D _ _ loop (T.self X.A 0 _ _ _ (T.keep _ _ _ st2 λb hb o e=>old b o e) loop)
def zgA(J:It)(g:TG)(tf:TT)(te:TE)(Q:List V->Hp->Prop)(U0:St)(H1:Hp):Prop:=ze2 (α:=V) sizeLine J g tf te Q U0 H1
def tComp(src:List (Option Nat))(wi:TI)(g:TG)(tf:TT)(te:TE):TE:=λU H Q=>wi U H λJ H1 =>
 zgA J g tf te (λys H2=>∀D,H2 D=none->Q (.ref D) (upd H2 D (.lst ys))) (zcm src U) H1
def EMl(prog:Program)(w:World)(A:Around)(elt:Expr)(env:Env)(D:Addr)(p:Shared->Prop)(s:Shared):Prop:=
 wpAny (model prog w) A (eval elt env) (λv s5=>wpAny (model prog w) A (call (.builtin "list.append") [.ref D,v]) (λ_ s6=>p s6) (λ_ _=>False) s5) (λ_ _=>False) s
def zjw{prog:Program}{w:World}{A:Around}{elt target iter:Expr}{ifs:List Expr}{scope:Scope}{pos:Pos}{it:Value}:CLoop prog w A target ifs (.ListComp elt [{target,iter,ifs,0}] scope pos) it (EMl prog w A elt) where
 mono:=λenv D p q s h k=>Xat h (λv s5 h5=>Xat h5 (λ_ s6 h6=>k s6 h6) λ_ _ e=>e) λ_ _ e=>e
 loop:=λenv D I {R} turn n s h=>zmI I turn n h
 start:=λenv D R s h0 h=>codeAny_compStart_list h0 h
inductive AOl(ys:List V):Obj->Prop
 | mk (its:List Value) (k:Nat):Vals ys its->AOl ys {cls:=.type "list",data:=.seq its.toArray k}
def zkK{Y:Cx}{elt:Expr}{te:TE}(he:PE Y elt te)(hxe:Y.xe=λ_ _=>False):PEm sizeLine Y (EMl Y.prog Y.w Y.A elt) AOl te:=by
 intro D pins s U H Q ys o I hp ao hl h
 refine Xat (he pins s U H _ I h) (λv s8 hh_=>?_) λe s' z=>by rw[hxe] at z;exact z
 obtain⟨y,H8,I8,r8,q8⟩:=hh_
 have g8:=(I8.pin (D,o) (XaB _ hp)).1
 obtain⟨its,k,vs3⟩:=ao
 have hl8:=vs3.length
 refine call_meets F.slot_list_append {_,g8,O} F.entry_list_append (F.args_list_append_2 _ _) (PySem.list_append D its.toArray k v (by rw[Xaq];omega)) {g8,?_}
 have qn:=PySem.IsL.update g8 (·.push v)
 rw[show its.toArray.push v=(its++[v]).toArray by simp] at qn
 exact{y,H8,s8,_,_,_,I8,.mk (its++[v]) _ (vs3.append (.cons r8 .nil)),Heap.SameBut.update _ _ _,qn,O,q8}
def zgm{X:Cx}{pins:List (Addr×Obj)}{U:St}{H2:Hp}{s2:Shared}{Nc:List Str}{src:List (Option Nat)}{scope:Scope}{cl:List (Str×Addr)}{fp:List Addr}{elt tg iter:Expr}{ifs:List Expr}{pos:Pos}
  {it:Addr} {tn:Nat->Heap->Prop} {J:It} {g:TG} {tf:TT} {te:TE} {Qf:List V->Hp->Prop} {E:Value->Shared->Prop} {RR:Value->Addr->Result->Shared->Prop}
  (hc:X.calm=true) (I2:Inv X pins U H2 s2) (S:CompOk X.N X.env.scope Nc src scope)
  (hcl1:∀(x:Str) (c:Addr),cl.lookup x=some c->X.env.cells.lookup x=some c) (hcl2:∀x∈scope.names,x.2=.free->∃c,cl.lookup x.1=some c)
  (T:Turn X.prog X.w X.K tg J fp it tn) (st2:tn 0 s2.heap) (f2:∀b∈fp,FpOk X pins H2 b)
  (hg:∀cl C fp s2 H2,PG (cxC X Nc scope cl C fp s2 H2) tg g) (hf:∀cl C fp s2 H2,PF (cxC X Nc scope cl C fp s2 H2) ifs tf) (he:∀cl C fp s2 H2,PE (cxC X Nc scope cl C fp s2 H2) elt te)
  (hw:zgA J g tf te Qf (zcm src U) H2)
  (fin:∀(H4:Hp) (s4:Shared) (ys:List V) (m:Str->Option Value) (C:Addr),s2.heap.objs.size<=C->H4 s2.heap.objs.size=none->Inv X pins U (upd H4 s2.heap.objs.size (.lst ys)) s4->s4.heap.Ns C m->upd H4 s2.heap.objs.size (.lst ys) C=none->Qf ys H4->RR (.ref s2.heap.objs.size) C (.ok .next) s4) :
  wpAny (model X.prog X.w) X.A (newList []) (λacc s3=>wpAny (model X.prog X.w) X.A (newFunctionEnv scope X.env.globals cl [] X.env.qual none .none (some X.env)) (λcenv s4 =>
   codeAny (model X.prog X.w) X.A (.compStart (.ListComp elt [{tg,iter,ifs,0}] scope pos) 0 (.ref it) acc {cenv with scope:=relabel scope X.env}) (RR acc cenv.locals) s4) E s3) E s2:=zdt (α:=V) (B:=sizeLine) (ho:=λ_ ys=>.lst ys) (AO:=AOl) hc I2 S hcl1 hcl2 T st2 f2 hg hf (λcl C fp s2 H2=>zkK (he cl C fp s2 H2) O) (λ_ _ q=>XaO q) O (.mk [] 0 .nil) (λ_ _ _ x z=>by cases x;cases z)
  (λ_ _ _ _ _ x hl _ e=>by obtain⟨its,k,v⟩:=x;exact⟨hl,its,k,v,e⟩) zjw hw fin
section
variable{X:Cx}{Nc:List Str}{src:List (Option Nat)}{scope:Scope}{elt tg iter:Expr}{ifs:List Expr}{pos:Pos}{wi:TI}{g:TG}{tf:TT}{te:TE}
def zdn(src:List (Option Nat))(hc:X.calm=true)(S:CompOk X.N X.env.scope Nc src scope)(hi:PI X tg iter wi)
  (hg:∀cl C fp s2 H2,PG (cxC X Nc scope cl C fp s2 H2) tg g) (hf:∀cl C fp s2 H2,PF (cxC X Nc scope cl C fp s2 H2) ifs tf) (he:∀cl C fp s2 H2,PE (cxC X Nc scope cl C fp s2 H2) elt te)
  (hs:∀x,foldedSetIterable iter X.env x=pure x:=by intro _;rfl):PE X (.ListComp elt [{tg,iter,ifs,0}] scope pos) (tComp src wi g tf te):=by
 intro pins s U H Q I h
 obtain⟨cl,hclos,hcl1,hcl2⟩:=zbp I.ok (scope:=scope) S.free
 rw[eval_ListComp]
 refine XbP (use:=none) O hs hclos S.kind (λx hx hl=>by obtain⟨n,k⟩:=x;cases hl;exact zbo S.nodup hx) (thn (hi pins s U H _ I h) λxv s1 h1=>thn h1 λitv s2 h2=>?_)
 obtain⟨it,fp,tn,J,H2,e,I2,T,st2,f2,hw⟩:=h2
 subst e
 refine zgm (RR:=λacc C=>compPost (model X.prog X.w) X.A X.xe none (EP X pins U Q) acc C) hc I2 S hcl1 hcl2 T st2 f2 hg hf he hw ?_
 intro H4 s4 ys m C hC hD Iout hn hCn q
 refine{m,hn,λh' sb=>{.ref s2.heap.objs.size,_,?_,O,q _ hD}}
 obtain⟨f0,f1,f3,f4,f5,f6⟩:=I2.fpOk (H':=upd H4 s2.heap.objs.size (.lst ys)) hC hCn
 exact Iout.turned (t':=s4.toks) (it:=C) (λb o hb e=>(sb.2 b hb).trans e) f0 f1 f4 f5 f6
def zeQ{i:Nat}{y:Str}{pos' spos:Pos}(src:List (Option Nat))(hN:X.N.Nodup)(hi':X.N[i]?=some y)(hy:X.env.scope.names.lookup y=some .local)
  (hc:X.calm=true) (S:CompOk X.N X.env.scope Nc src scope) (hi:PI X tg iter wi)
  (hg:∀cl C fp s2 H2,PG (cxC X Nc scope cl C fp s2 H2) tg g) (hf:∀cl C fp s2 H2,PF (cxC X Nc scope cl C fp s2 H2) ifs tf) (he:∀cl C fp s2 H2,PE (cxC X Nc scope cl C fp s2 H2) elt te)
  (hsw:swapsWith (.ListComp elt [{tg,iter,ifs,0}] scope pos) (some (.Name y pos')) spos.line X.env=pure true:=by rfl)
  (hs:∀x,foldedSetIterable iter X.env x=pure x:=by intro _;rfl):PS X (.Assign [.Name y pos'] (.ListComp elt [{tg,iter,ifs,0}] scope pos) spos) (tAsg (tComp src wi g tf te) (zaY i)):=by
 intro pins s U H D I h
 obtain⟨cl,hclos,hcl1,hcl2⟩:=zbp I.ok (scope:=scope) S.free
 rw[exec_Assign_Name_used _ _ _ _ hsw]
 refine Xaa (Xa3 (Xaa ?_))
 show wpAny _ X.A (do let _ <- comprehension (.ListComp elt [⟨tg,iter,ifs,0⟩] scope pos) scope X.env _ (newList []) false (eval iter X.env) (some (assign (.Name y pos') X.env))) _ _ s
 refine Xaa (Xat (XbP (use:=some (assign (.Name y pos') X.env)) (Q:=λ_ s'=>SP X pins D .next s') O hs hclos S.kind (λx hx hl=>by obtain⟨n,k⟩:=x;cases hl;exact zbo S.nodup hx)
  (thn (hi pins s U H _ I h) λxv s1 h1=>thn h1 λitv s2 h2=>?_)) (λ_ s' hq=>Xac (Xac hq)) λ_ _ e=>e)
 obtain⟨it,fp,tn,J,H2,e,I2,T,st2,f2,hw⟩:=h2
 subst e
 refine zgm (RR:=λacc C=>compPost (model X.prog X.w) X.A X.xe (some (assign (.Name y pos') X.env)) (λ_ s'=>SP X pins D .next s') acc C) hc I2 S hcl1 hcl2 T st2 f2 hg hf he hw ?_
 intro H4 s4 ys m C hC hD Iout hn hCn q
 show wpAny _ X.A (assign (.Name y pos') X.env (.ref s2.heap.objs.size)) _ _ _
 refine wpAny_assign_Name (zdZ (i:=i) Iout hN hi' (.inl hy) (v:=.ref s2.heap.objs.size) O (λs5 I5 ch=>?_) (.inr hy))
 obtain⟨f0,f1,f3,f4,f5,f6⟩:=I2.fpOk (H':=upd H4 s2.heap.objs.size (.lst ys)) hC hCn
 obtain⟨a,sb,ha⟩:=ch
 have hCa:C≠a:=by
  rcases ha with ha|ha
  .rw[ha];exact f1
  .exactλz=>f5 _ _ ha z.symm
 refine{m,hn.sameBut sb hCa,λh' sb'=>{_,_,I5.turned (t':=s5.toks) (it:=C) (λb o hb e=>(sb'.2 b hb).trans e) f0 f1 f4 f5 f6,q _ hD}}
end
section
variable{X:Cx}{pins:List (Addr×Obj)}{U:St}{H:Hp}{s:Shared}
def Inv.turnedL{h':Heap}{t':Nat}{ch:List Addr}(I:Inv X pins U H s)(k:∀b o,b∉ch->s.heap.get? b=some o->h'.get? b=some o)(hf:∀b∈ch,FpOk X pins H b):Inv X pins U H {s with heap:=h',toks:=t'}:=by
 have nit:∀b u,H b=some u->b∉ch:=λb u e z=>by rw[(hf b z).1] at e;cases e
 refine I.step (g':=s.gens) (d':=s.drawn) (ch:=ch) (λb hb=>?_) (λb o _ _ hc e _=>k b o hc e) (λb o _ _ hc e _=>{o.slots,k b o hc e}) (λ_ _ _ _ n=>n)
  (λb o hc e=>{o,k b o hc e}) (λ_ _ e=>e) (λ_ _ _ e=>e) (λb ps e=>{#[],by rw[e];simp}) (λm hm=>?_) (λb u e=>?_) I.bare
 .obtain⟨_,a1,_,a3,a4,a5⟩:=hf b hb
  exact⟨a3,a1,a4,a5⟩
 .obtain⟨o,es,ep,ho,r⟩:=hm
  exact{o,es,ep,k _ o (λz=>(hf _ z).2.1 O) ho,r}
 .refine(I.hok b u e).stay (λc v hc q=>k c v ?_ q) (λ_ q=>q) λ_ _ q=>q
  rcases hc with z|z
  .rw[z];exact nit b u e
  .exact nit c _ z
def Un.track'{fs ex:List Addr}{H H':Hp}{h h':Heap}{a:Addr}{o:HO}(u:Un fs ex H H' h h')(hp:h.objs.size<=a)(hn:H' a=none):Un fs ex H (upd H' a o) h h' where
 keep:=u.keep
 slot:=u.slot
 free:=λb v q n x=>by rw[zah (Xaz (Xaj (Xap q) hp))];exact u.free b v q n x
 there:=u.there
 tups:=λb xs q=>by rw[zah (zai (u.tups b xs q) hn)];exact u.tups b xs q
 frzs:=λb v xs q=>by rw[zah (zai (u.frzs b v xs q) hn)];exact u.frzs b v xs q
 tbls:=λb ps q=>by
  obtain⟨m,e⟩:=u.tbls b ps q
  exact{m,by rw[zah (zai e hn)];exact e}
def Inv.track{a:Addr}{o:HO}(I:Inv X pins U H s)(f:FpOk X pins H a)(hs:X.s₀.heap.objs.size<=a)(new:ObjOk X.prog X.w (upd H a o) s.heap a o):Inv X pins U (upd H a o) s:=by
 obtain⟨hn,h1,_,_,h4,h5⟩:=f
 refine{I.ok,I.os,I.bare,Un.track' I.base hs hn,I.loc,I.cell,by rw[zah (Ne.symm h1)];exact I.free,λx c e=>by rw[zah (h4 x c e)];exact I.freeC x c e,λp hp=>?_,HOk.track I.hok hn new,I.len}
 obtain⟨a1,a2,a3⟩:=I.pin p hp
 exact{a1,by rw[zah (h5 p hp)];exact a2,a3}
end
def Ite(K:W.Frag)(a:Addr):It:=
 ⟨λi H=>∃xs x,SqL K H a xs/\xs[i]?=some x,
  λi H v H'=>∃T x,H T=none/\v=.ref T/\H'=upd H T (.tup [.int i,x])/\∀xs,SqL K H a xs->xs[i]?=some x,
  λi H=>∃xs,SqL K H a xs/\xs.length<=i⟩
def zgG{P:Program}{w:World}{H:Hp}{h:Heap}{T:Addr}{x y:V}{u v:Value}(r:RelV x u)(q:RelV y v)(e:h.get? T=some {cls:=.type "tuple",data:=.seq #[u,v]}):ObjOk P w H h T (.tup [x,y]):=
 {{by show 2<=sizeLine;decide,_,e,O},[u,v],.cons r (.cons q .nil),{_,e,O,_,O}}
def ziQ{P:Program}{w:World}{K:W.Frag}{elts:List Expr}{kt:Nat}{tp:Pos}(a e it:Addr)(hne:e≠it) :
  Turn P w K (.Tuple elts kt tp) (Ite K a) [e,it] e (λi h=>(∃old,IsEnum h e it i old)/\h.IsListIter it a i) where
 mem:=by simp
 obj:=λi h st b hb=>by
  obtain⟨⟨old,he⟩,hi⟩:=st
  rcases Xau.mp hb with z|z
  .subst z
   exact⟨_,he,λv z=>by
    have z':Data.fields _=Data.cell v:=z
    cases z'⟩
  .have z:=Xad.mp z
   subst z
   obtain⟨o,e1,c,d⟩:=hi
   exact{o,e1,λv z=>by rw[d] at z;cases z}
 keep:=λi h h' st k=>by
  obtain⟨⟨old,he⟩,hi⟩:=st
  exact{{old,k e (by simp) _ he},hi.at λo e1=>k it (by simp) o e1}
 item:=by
  intro X hP hw hK hc i pins s U H E I hf st hg
  subst hP hw hK
  obtain⟨xs,x,hq,hx⟩:=hg
  obtain⟨its,rv,p,hz⟩:=I.list hq
  obtain⟨u,hu,ru⟩:=rv.get hx
  obtain⟨⟨old,he⟩,hi⟩:=st
  refine wpAny_pyNext_enum_item he hi p.isList (x:=u) (by simpa using hu) hne λh' ho hi' ht hsz kk=>{_,O,?_}
  refine wpAny_letOwnedTupleGo_enum ho λh2 he2 sb=>?_
  have fT:FpOk X pins H s.heap.objs.size:=I.fpOk (Xae _) (I.hok.fresh (Xae _))
  have k2:∀b o,b∉[e,it]->s.heap.get? b=some o->h2.get? b=some o:=λb o hb e1=>by
   simp only[Xau,Xbc,or_false,not_or] at hb
   exact(sb.2 b hb.1).trans (kk b o hb.1 hb.2 e1)
  have I1:Inv X pins U H {s with heap:=h2,toks:=s.toks+1}:=I.turnedL (ch:=[e,it]) k2 hf
  have eT:h2.get? s.heap.objs.size=some {cls:=.type "tuple",data:=.seq #[.int i s.toks,u]}:=(sb.2 _ (XbA (Xap he))).trans ht
  have I2:=I1.track (o:=.tup [.int i,x]) fT (Xar I.sz (Xae _)) (zgG {_,O} ru eT)
  refine{.ref s.heap.objs.size,_,I2,O,{_,x,fT.1,O,O,λys hy=>by rw[I.list_inj hy hq];exact hx},{{u,by exact_mod_cast he2},hi'.extBut sb.extBut (Ne.symm hne)},λb hb=>?_}
  obtain⟨o,eb⟩:∃o,s.heap.get? b=some o:=by
   rcases Xau.mp hb with z|z
   .subst z;exact{_,he}
   .have z:=Xad.mp z
    subst z
    obtain⟨o,e1,_⟩:=hi
    exact⟨o,e1⟩
  rw[zah (Xaz (Xap eb))]
  exact(hf b hb).1
 done:=by
  intro X hP hw hK hc i pins s U H E I hf st hg
  subst hP hw hK
  obtain⟨xs,hq,hx⟩:=hg
  obtain⟨its,rv,p,hz⟩:=I.list hq
  obtain⟨⟨old,he⟩,hi⟩:=st
  have hl:=rv.length
  refine wpAny_pyNext_enum_end (I.ok.hd hc) he hi p.isList (by simp;omega) λh' eb=>{O,I.turnedL (t':=s.toks) (ch:=[e,it]) (λb o hb e1=>eb b o (λz=>hb (by simp[z])) e1) hf}
 self:=λ_ _ _ _ _ st h=>by
  obtain⟨⟨old,he⟩,hi⟩:=st
  exact wpAny_pyIter_enum he h
inductive iEnum_1(K:W.Frag)(R:It->Hp->Prop)(vs:List V)(H1:Hp):Prop
 | mk a(_:vs=[.ref a])(_:(∃xs,SqL K H1 a xs))(_:R (Ite K a) H1)
def iEnum(K:W.Frag)(ta:TA):TI:=λU H R=>ta U H (iEnum_1 K R)
def zms{X:Cx}{a:Expr}{ta:TA}{p pos:Pos}{elts:List Expr}{kt:Nat}{tp:Pos}(hg:Gl X "enumerate")(hm:X.mg "enumerate"=none)(ha:PA X [a] ta)(hs:starEach [a] X.env=[(false,eval a X.env)]:=by rfl) :
  PI X (.Tuple elts kt tp) (.Call (.Name "enumerate" p) [a] [] pos) (iEnum X.K ta):=by
 intro pins s U H R I h
 refine Call_ (zc0 I hg hm boot_enumerate (PyProof.Rows.callWith_type1 (thn (ha pos pins s U H _ I h) λus s1 hh_=>?_) hs O))
 obtain⟨vs,H1,I1,r1,q1⟩:=hh_
 obtain⟨l,e,⟨xs,hq⟩,q⟩:=q1
 subst e
 obtain⟨u,rfl,ru⟩:=zc5 r1
 cases ru
 obtain⟨its,rv,pl,hz⟩:=I1.list hq
 refine call_enumerate_list pl.isList λh' he hi hsz kk=>?_
 refine wpAny_pyIter_enum he ?_
 have I2:Inv X pins U H1 {s1 with heap:=h',toks:=s1.toks}:=I1.kept kk
 refine{s1.heap.objs.size+1,[s1.heap.objs.size+1,s1.heap.objs.size],_,_,H1,O,I2,ziQ l _ _ (Nat.succ_ne_self _),{{_,he},hi},λb hb=>?_,q}
 rcases Xau.mp hb with z|z
 .subst z;exact I1.fpOk (Xbu _) (I1.hok.fresh (Xbu _))
 .have z:=Xad.mp z
  subst z;exact I1.fpOk (Xae _) (I1.hok.fresh (Xae _))
def zlj:bootBuiltins "zip"=some (.type "zip"):=by decide +kernel
section
variable{X:Cx}{CX:CXT}{k:Nat}{f:Addr}{fd:FuncData}{ps ks:List Str}{sp:Sp}{E:XK}{x:Str}{p pos:Pos}{kws:List Keyword}{tk:TA}{g:List Value->List Value->List Value}{gV:List V->List V->List V}
def Fun.kbinds{K:W.Frag}{x qual:Str}{st:Stmt}{f:Addr}{fd:FuncData}{ps ks:List Str}{g:List Value->List Value->List Value}{gV:List V->List V->List V}(F:Fun K x qual st f fd)
  (h:∀(kV doc pm:Value) (an:Option Addr) (cdv ct:Value) (us ws:List Value),(g us ws).length=ps.length->bindArgs (W.fnOf x qual (zbC st) (za2 st) (zaj st) .none kV doc pm an cdv ct) {us,ks.zip ws}=pure (ps.zip (g us ws)))
  (rel:∀{vs:List V} {us:List Value} {zs:List V} {ws:List Value},Vals vs us->Vals zs ws->Vals (gV vs zs) (g us ws)):KBinds K fd ps ks g gV:=by
 obtain⟨oc,od,kV,doc,pm,an,cdv,ct,osl,rfl,lk,hcd⟩:=F.ex
 exact{λs us ws _ hl=>.of_eq (h kV doc pm an cdv ct us ws hl),rel}
end
section
variable{X:Cx}
def zgV(val:Nat->Int)(ns:List Int)(h:∀i n,ns[i]?=some n->val i=n):∀j,j<=ns.length->preSum val j=(ns.take j).sum:=by
 intro j
 induction j with
 | zero=>intro _;rfl
 | succ j ih =>
  intro hj
  have hlt:j<ns.length:=hj
  show preSum val j+val j=_
  rw[ih (XbN hlt),h j ns[j] (by simp[hlt]),List.take_succ,List.sum_append]
  simp[hlt]
def zgp(hc:X.calm=true):zcR X (.builtin "sum") (λxs H Q=>∃(a:Addr) (ns:List Int),xs=[.ref a]/\SqL X.K H a (ns.map V.int)/\Q (.int ns.sum) H):=by
 intro pins s U H xs us Q I r h
 obtain⟨a,ns,rfl,hq,q⟩:=h
 obtain⟨u,rfl,ru⟩:=zc5 r
 cases ru
 obtain⟨its,rv,p,hz⟩:=I.list hq
 have hi:=ziq rv
 have hl:=hi.length
 refine call_sum_walkG (wpAny_pyIter_list p.isList ?_)
 have hne:a≠s.heap.objs.size:=by
  obtain⟨o,ho,_⟩:=p.isList
  exact Xaz (Xap ho)
 refine{s.heap.objs.size,_,_,_,_,_,λi=>(ns[i]?).getD 0,O,Walks.list (A:=X.A.in1) (I.ok.hd hc) s.heap.objs.size a hne its.toArray,{{_,Xai _ O,O,O},p.isList.push _},?_,?_,λh' tk t' kk=>?_}
 .intro b hb
  simp only[Xau,Xbc,or_false] at hb
  rw[show({s with heap:=s.heap.push _}:Shared).heap.objs.size=s.heap.objs.size+1 from XaL ..]
  rcases hb with rfl|rfl
  .exact Xbb _
  .obtain⟨o,ho,_⟩:=p.isList
   exact Nat.lt_succ_of_lt (Xap ho)
 .intro i v hv
  have hv':its[i]?=some v:=by simpa using hv
  cases hn:ns[i]? with
  | none =>
   exfalso
   rw[List.getElem?_eq_none_iff,<- hl] at hn
   rw[XaG hn] at hv'
   cases hv'
  | some n =>
   obtain⟨t,ht⟩:=hi.get i n hn
   rw[ht] at hv';cases hv'
   exact{t,by show Value.int n t=Value.int ((ns[i]?).getD 0) t;rw[hn];rfl}
 .have e:preSum (λi=>(ns[i]?).getD 0) its.toArray.size=ns.sum:=by
   rw[zgV _ ns (λi n h=>by rw[h];rfl) _ (by simp;omega),Xa7 (by simp;omega)]
  rw[e]
  refine{.int ns.sum,H,I.kept (t':=tk) λb o e1=>kk b o (λhb=>?_) (Xab _ e1),⟨t',O⟩,q}
  have hb:=Xad.mp hb
  exact absurd (Xap e1) (by rw[hb];exact XaY _)
def zkd(bs:List Bool)(tr:Nat->Bool)(h:∀i b,bs[i]?=some b->tr i=b):(List.range bs.length).all tr=bs.all id:=by
 induction bs generalizing tr with
 | nil=>rfl
 | cons b r ih =>
  rw[Xaw,List.range_succ_eq_map,List.all_cons,List.all_map,List.all_cons,h 0 b O]
  have:=ih (tr∘Nat.succ) (λi c hi=>h (i+1) c (by simpa using hi))
  rw[this];rfl
def zeC(hc:X.calm=true):zcR X (.builtin "all") (λxs H Q=>∃(a:Addr) (bs:List Bool),xs=[.ref a]/\SqL X.K H a (bs.map V.bl)/\Q (.bl (bs.all id)) H):=by
 intro pins s U H xs us Q I r h
 obtain⟨a,bs,rfl,hq,q⟩:=h
 obtain⟨u,rfl,ru⟩:=zc5 r
 cases ru
 obtain⟨its,rv,p,hz⟩:=I.list hq
 have hl:=rv.length
 rw[Xag] at hl
 refine call_all_walk (wpAny_pyIter_list p.isList ?_)
 have hne:a≠s.heap.objs.size:=by
  obtain⟨o,ho,_⟩:=p.isList
  exact Xaz (Xap ho)
 refine{s.heap.objs.size,_,_,_,_,_,λi=>(bs[i]?).getD true,O,Walks.list (A:=X.A.in1) (I.ok.hd hc) s.heap.objs.size a hne its.toArray,{{_,Xai _ O,O,O},p.isList.push _},?_,λh' tk kk=>?_}
 .intro i v s' Q' E' hv hq'
  have hv':its[i]?=some v:=by simpa using hv
  cases hn:bs[i]? with
  | none =>
   exfalso
   rw[List.getElem?_eq_none_iff,hl] at hn
   rw[XaG hn] at hv'
   cases hv'
  | some b =>
   obtain⟨u',hu',ru'⟩:=rv.get (i:=i) (x:=V.bl b) (by simp[hn])
   obtain rfl:u'=Value.bool b:=ru'
   rw[hu'] at hv';cases hv'
   have hq2:Q' ((bs[i]?).getD true) s':=hq'
   rw[hn] at hq2
   exact XaX hq2
 .have e:(List.range its.toArray.size).all (λi=>(bs[i]?).getD true)=bs.all id:=by
   rw[show its.toArray.size=bs.length by simp;omega]
   exact zkd bs _ λi b h=>by rw[h];rfl
  rw[e]
  refine{.bl _,H,I.kept (t':=tk) λb o e1=>kk b o (λhb=>?_) (Xab _ e1),O,q}
  have hb:=Xad.mp hb
  exact absurd (Xap e1) (by rw[hb];exact XaY _)
def zlz:RelV (.ty "int") (.type "int"):=rfl
def zfh:RelV (.ty "bool") (.type "bool"):=rfl
def zj8:bootBuiltins "int"=some (.type "int"):=by decide +kernel
def zfC:bootBuiltins "bool"=some (.type "bool"):=by decide +kernel
def za5:bootBuiltins "isinstance"=some (.builtin "isinstance"):=by decide +kernel
def zj9:bootBuiltins "all"=some (.builtin "all"):=by decide +kernel
inductive rCatS(K:W.Frag)(x:V)(y:V)(H:Hp)(Q:VK):Prop
 | mk a b xs ys(_:x=.ref a)(_:y=.ref b)(_:SqL K H a xs)(_:SqL K H b ys)(_:xs.length+ys.length<=sizeLine)(_:∀p,H p=none->Q (.ref p) (upd H p (.lst (xs++ys))))
def zjm:OpR X (binaryOp .Add) (rCatS X.K):=by
 intro pins s U H x y v u Q I rx ry h
 obtain⟨a,b,xs,ys,rfl,rfl,hq,hq2,hz,q⟩:=h
 cases rx
 cases ry
 obtain⟨its,rv,p,_⟩:=I.list hq
 obtain⟨its2,rv2,p2,_⟩:=I.list hq2
 have e1:=rv.length
 have e2:=rv2.length
 obtain⟨⟨cls,dd,data,sl⟩,ho,hc,n,hd⟩:=id p.isList
 obtain⟨⟨cls2,dd2,data2,sl2⟩,ho2,hc2,n2,hd2⟩:=id p2.isList
 simp only at hc hd hc2 hd2
 subst hc hd hc2 hd2
 have ea:its.toArray++its2.toArray=(its++its2).toArray:=by simp
 refine concat_meets {_,ho,O} {_,ho2,O} noFill_list_add seq_list_add PySem.F.slot_list_add PySem.F.entry_list_add (PySem.F.args_list_add_2 _ _) (list_addW a b its.toArray its2.toArray n n2 dd dd2 sl sl2 (by rw[Xaq,Xaq];omega)) {ho,ho2,?_}
 rw[ea]
 exact{.ref _,_,I.lnew (t':=s.toks) (rv.append rv2) (by rw[Xam];omega),O,q _ I.fresh}
def zdo:OpR X (binaryOp .Mult) (rI IntMulOk λi j=>.int (i*j)):=opI λ_ _ _ _ _ _ _ hc q=>mul_int q hc
def zaC:OpR X (binaryOp .FloorDiv) (rI (λ_ j=>0<j/\j.natAbs.log2<9000) λi j=>.int (i / j)):=opI λi j _ _ _ _ _ hc q=>by
 have e:i.fdiv j=i / j:=Int.fdiv_eq_ediv_of_nonneg _ (Int.le_of_lt hc.1)
 exact floordiv_int (by have:=hc.1;omega) (by rw[e];exact q) (.inl (PyProof.noPylong_of_log2 hc.2))
end
def bits_script{ns:List Int}(h:W.WData.layableAll [W.WData.list (ns.map W.WData.int)]=true):∀n∈ns,Builtin.Int.intBits n<=2 ^ 20:=by
 intro n hn
 have h1:(W.WData.list (ns.map W.WData.int)).layable=true:=by
  have:=XbQ.mp h _ Xay
  exact this
 have hw:=(W.layableW_iff.mp h1).2.2
 have key:∀l:List Int,n∈l->Builtin.Int.intBits n<=W.WData.weightAll (l.map W.WData.int):=by
  intro l
  induction l with
  | nil=>intro h;cases h
  | cons m r ih =>
   intro hm
   rw[XaF,W.WData.weightAll]
   rcases Xau.mp hm with e|hm
   .subst e
    have:Builtin.Int.intBits n<=(W.WData.int n).weight:=by
     simp only[W.WData.weight,Builtin.Int.intBits]
     omega
    omega
   .have:=ih hm
    omega
 have h2:=key ns hn
 rw[W.WData.weight] at hw
 omega
end L2
namespace Att
open PySem PySem.W PyProof.Rows PySem.Calls
def attach_callB{l:OpenLaw}{n:Nat}{q:Program}{loose:List Str}{XP:(Str->Option Value)->Heap->Prop}{YP:World->Heap->Prop}{d:DefRec}
  (hn:l.most=some n) (hdf:d.params.defaults=[])
  (call:∀(w:World) (s₀ s₁:Shared) (mg mb:Str->Option Value) (fa:Addr) (o:Obj) (pm cd doc:Value) (a:Addr) (vs:List Value) (ns:List Int),
   Ground q loose [] XP w s₀ mg mb s₁.heap->YP w s₁.heap ->
   s₁.heap.get? fa=some o->o.data=.func (docDef d.name d.params d.body d.scope pm cd doc)->s₁.heap.CodeRec cd d.name->mg d.name=some (.ref fa) ->
   s₁.heap.get? a=some {cls:=.type "list",data:=.seq vs.toArray}->IntsAre vs ns->ns.length<=n->(∀m∈ns,Builtin.Int.intBits m<=2 ^ 20)->s₁.gens=#[] ->
   codeAny (model l.prog w) callerA (.call (.ref fa) {[.ref a],[]}) (λr s'=>r=.ok (.ret (.bool true))/\OldK s₁.heap s'.heap/\s'.os=s₁.os/\AllBare s'.gens) s₁) :
  WalkO q loose XP YP l.row.toRowW d [] (λf vs=>PySem.call f vs):=by
 intro w s₀ s₁ mg mb G Y fa o pm cd doc dV kV ho hd hcd hD hmg hg args vals as hpre hlay hrd hwl hlo
 obtain rfl:dV=.none:=Dflts.none hD hdf
 obtain rfl:kV=.none:=Dflts.noKw hD
 obtain⟨a,vs,ns,rfl,rfl,hobj,hints,hlen⟩:=ziV hn hpre hwl
 refine enter_call (Xbv (call w s₀ s₁ mg mb fa o pm cd doc a vs ns G Y ho (fd_plain hd) hcd hmg hobj hints hlen (L2.bits_script hlay) hg) λr s' hq=>?_)
 obtain⟨rfl,h2,h3,h4⟩:=hq
 exact{.inl {.bool true,.bool true,[],O,λ_=>O,.bool true,zi8 l _,λ_=>{List.Pairwise.nil,λ_ hm=>(nomatch hm)}},h2,h3,h4}
end Att
namespace L2
open PySem PySem.Spec PyProof.Rows
def walk_ofB{l:W.OpenLaw}{n k:Nat}{q:Program}{loose:List Str}{XP:(Str->Option Value)->Heap->Prop}{YP:World->Heap->Prop}{d:DefRec}{K:Params->W.Frag}{CX:World->CXT}{sp:World->Sp}{x:Str}
  (hn:l.most=some n) (hn2:n<=sizeLine) (hdf:d.params.defaults=[]) (hr:Room k callerA)
  (hY:∀(w:World) (h:Heap),YP w h->(K w.params).In h)
  (F:∀(w:World) (mg:Str->Option Value) (fa:Addr) (h:Heap),(K w.params).In h->h.Ns mainGlobals mg->mg d.name=some (.ref fa) ->
   ∃fd:FuncData,(∀(s:Shared) (u:Value),BindsTo s fd {[u],[]} [(x,u)]) /\
    ∀base:Heap,(K w.params).In base->base.Ns mainGlobals mg->FnOk l.prog w (K w.params) mg base (CX w) k fa fd [x] (sp w))
  (hsp:∀(w:World) (H:Hp) (a:Addr) (ns:List Int),ns.length<=n->(∀m∈ns,Builtin.Int.intBits m<=2 ^ 20)->Only H->SqL (K w.params) H a (ns.map V.int)->sp w [.ref a] H (λv _=>v=.bl true) λ_ _ _=>False)
  (hCX:∀(w:World) (H:Hp) (s:Shared) (e:Value) (s':Shared),CX w [] H s (λ_ _ _=>False) e s'->False) :
  W.WalkO q loose XP YP l.row.toRowW d [] (λf vs=>PySem.call f vs):=by
 refine Att.attach_callB hn hdf λw s₀ s₁ mg mb fa o pm cd doc a vs ns G Y ho hd hcd hmg hobj hints hlen hbits hg=>?_
 have KX:=hY w _ Y
 obtain⟨fd,hb,hF⟩:=F w mg fa _ KX G.T.g hmg
 exact zk1 KX G.T.g G.T.b G.T.builtins G.T.nolimit hg hobj hints (Xar hlen hn2) hr hF hb (λH hO hS=>hsp w H a ns hlen hbits hO hS) λH e s'=>hCX w H s₁ e s'
section
variable{K:W.Frag}{g:TG}{tf:TT}{te:TE}{Q:List V->Hp->Prop}{U:St}{H:Hp}
def ze0{lo:Int}{n:Nat}(Pv:Nat->List V->St->Hp->Prop)(hn:n<=sizeLine)(h0:Pv 0 [] U H)(hz:∀i ys U H,Pv i ys U H->ys.length<=i)
  (hs:∀i ys U H,i<n->Pv i ys U H->g (.int (lo+i)) U H λU2 H2=>tf U2 H2 λb H3=>if b=true then te U2 H3 λy H4=>Pv (i+1) (ys++[y]) U2 H4 else Pv (i+1) ys U2 H3)
  (hd:∀ys U H,Pv n ys U H->Q ys H):zgA (Itr lo n) g tf te Q U H:=by
 refine{λi m ys U H=>m=n-i/\i<=n/\Pv i ys U H,{n,by simp,Nat.zero_le _,h0},?_}
 rintro i m ys U H ⟨rfl,hi,p⟩
 have hl:=hz i ys U H p
 by_cases hlt:i<n
 .refine .inr {hlt,by omega,Pv (i+1),λys' U' H' p'=>{n-(i+1),by omega,O,hlt,p'},λx H' y=>?_}
  obtain⟨e,y⟩:=y
  subst e y
  exact hs i ys U _ hlt p
 .have e:i=n:=by omega
  subst e
  exact .inl {Xae _,by omega,hd ys U H p}
def zeB{a:Addr}{xs:List V}(Pv:Nat->List V->St->Hp->Prop)(hn:xs.length<=sizeLine)(h0:Pv 0 [] U H)(hl:∀i ys U H,i<=xs.length->Pv i ys U H->SqL K H a xs/\ys.length<=i)
  (hs:∀i x ys U H,xs[i]?=some x->Pv i ys U H->g x U H λU2 H2=>tf U2 H2 λb H3=>if b=true then te U2 H3 λy H4=>Pv (i+1) (ys++[y]) U2 H4 else Pv (i+1) ys U2 H3)
  (hd:∀ys U H,Pv xs.length ys U H->Q ys H):zgA (Itl K a) g tf te Q U H:=by
 refine{λi m ys U H=>m=xs.length-i/\i<=xs.length/\Pv i ys U H,{xs.length,by simp,Nat.zero_le _,h0},?_}
 rintro i m ys U H ⟨rfl,hi,p⟩
 obtain⟨q,hz⟩:=hl i ys U H hi p
 by_cases hlt:i<xs.length
 .refine .inr {{xs,xs[i],q,by simp[hlt]},by omega,Pv (i+1),λys' U' H' p'=>{xs.length-(i+1),by omega,O,hlt,p'},λx H' y=>?_}
  obtain⟨e,y⟩:=y
  subst e
  exact hs i x ys U _ (y xs q) p
 .have e:i=xs.length:=by omega
  subst e
  exact .inl {{xs,q,Xae _},by omega,hd ys U H p}
def zj2{a:Addr}{xs:List V}(Pv:Nat->List V->St->Hp->Prop)(hn:xs.length<=sizeLine)(h0:Pv 0 [] U H)(hl:∀i ys U H,i<=xs.length->Pv i ys U H->SqL K H a xs/\ys.length<=i)
  (hs:∀i x T ys U H,xs[i]?=some x->H T=none->Pv i ys U H->g (.ref T) U (upd H T (.tup [.int i,x])) λU2 H2=>tf U2 H2 λb H3=>if b=true then te U2 H3 λy H4=>Pv (i+1) (ys++[y]) U2 H4 else Pv (i+1) ys U2 H3)
  (hd:∀ys U H,Pv xs.length ys U H->Q ys H):zgA (Ite K a) g tf te Q U H:=by
 refine{λi m ys U H=>m=xs.length-i/\i<=xs.length/\Pv i ys U H,{xs.length,by simp,Nat.zero_le _,h0},?_}
 rintro i m ys U H ⟨rfl,hi,p⟩
 obtain⟨q,hz⟩:=hl i ys U H hi p
 by_cases hlt:i<xs.length
 .refine .inr {{xs,xs[i],q,by simp[hlt]},by omega,Pv (i+1),λys' U' H' p'=>{xs.length-(i+1),by omega,O,hlt,p'},λv H' y=>?_}
  obtain⟨T,x,hT,rfl,rfl,y⟩:=y
  exact hs i x T ys U _ (y xs q) hT p
 .have e:i=xs.length:=by omega
  subst e
  exact .inl {{xs,q,Xae _},by omega,hd ys U H p}
end
def zeW{K:W.Frag}{i j:Nat}{T:Addr}{x y:V}{U:St}{H:Hp}{Q:St->Hp->Prop}(h:Q ((U.set i (some x)).set j (some y)) (upd H T (.tup [x,y]))) :
  gTup K 2 (gCons (zaY i) (gCons (zaY j) gNil)) (.ref T) U (upd H T (.tup [x,y])) Q:=
 {T,[x,y],O,SqT.of zac,O,x,[y],O,y,[],O,O,h}
end L2
end
section
namespace Cb
open PySem
abbrev FunN(K:PySem.W.Frag)(x:Str):=L2.Fun K x x
def zcw:Nat->Nat->List Nat
 | _,0=>[]
 | n,m+1=>(n % 2)::zcw (n / 2) m
def num:List Nat->Nat
 | []=>0
 | b::r=>b+2*num r
def Bit(l:List Nat):Prop:=∀b∈l,b<=1
def zdB:∀m n,(zcw n m).length=m
 | 0,_=>rfl
 | m+1,n=>by simp[zcw,zdB m]
def zgu:∀m n,Bit (zcw n m)
 | 0,_=>λb h=>by simp[zcw] at h
 | m+1,n=>λb h=>by
  rcases Xau.mp (show b∈(n % 2)::zcw (n / 2) m from h) with e|h
  .omega
  .exact zgu m (n / 2) b h
def ze1:∀k n,zcw n (k+1)=zcw n k++[n / 2 ^ k % 2]
 | 0,n=>by simp[zcw]
 | k+1,n=>by
  show(n % 2)::zcw (n / 2) (k+1)=((n % 2)::zcw (n / 2) k)++_
  rw[ze1 k (n / 2),Nat.div_div_eq_div_mul,Xbj,Nat.mul_comm (2 ^ k) 2]
  rfl
def zeq:∀m n,num (zcw n m)=n % 2 ^ m
 | 0,n=>by simp[zcw,num,Nat.mod_one]
 | m+1,n=>by
  simp only[zcw,num,zeq m,Xbj]
  rw[Nat.mul_comm (2 ^ m) 2,Nat.mod_mul]
def ones:Nat->Nat
 | 0=>0
 | n+1=>(n+1) % 2+ones ((n+1) / 2)
decreasing_by omega
def zej(n:Nat):ones n=n % 2+ones (n / 2):=by
 cases n with
 | zero=>simp[ones]
 | succ n=>rw[ones]
def sgl:Nat->List Nat
 | 0=>[]
 | n+1=>if(n+1) % 2=1 then 1::(sgl ((n+1) / 2)).map (2*·) else(sgl ((n+1) / 2)).map (2*·)
decreasing_by all_goals omega
def zcV:sgl 0=[]:=by simp[sgl]
def zc8(n:Nat):sgl (2*n+1)=1::(sgl n).map (2*·):=by
 rw[sgl,if_pos (by omega),show(2*n+1) / 2=n by omega]
def zbP(n:Nat):sgl (2*n)=(sgl n).map (2*·):=by
 cases n with
 | zero=>simp[sgl]
 | succ n =>
  rw[show 2*(n+1)=(2*n+1)+1 by omega,sgl,if_neg (by omega),show(2*n+1+1) / 2=n+1 by omega]
def zbN:∀n,(sgl n).length=ones n:=by
 intro n
 induction n using Nat.strongRecOn with
 | _ n ih =>
  rcases Xbf n with h|h
  .by_cases h0:n=0
   .subst h0;simp[sgl,ones]
   .have e:n=2*(n / 2):=by omega
    rw[zej,h]
    conv=>lhs;rw[e]
    rw[zbP,Xag,ih _ (by omega)];omega
  .have e:n=2*(n / 2)+1:=by omega
   rw[zej,h]
   conv=>lhs;rw[e]
   rw[zc8,Xaw,Xag,ih _ (by omega)];omega
def zga(a b:Nat):(2*a) &&& (2*b)=2*(a &&& b):=by
 apply Nat.eq_of_testBit_eq;intro i
 cases i with
 | zero=>simp[XaJ]
 | succ i =>
  rw[XaJ,Xbd,Xbd,Xbd,show(2*a) / 2=a by omega,show(2*b) / 2=b by omega,show(2*(a &&& b)) / 2=(a &&& b) by omega,XaJ]
def zk4(a b:Nat):(2*a+1) &&& (2*b+1)=2*(a &&& b)+1:=by
 apply Nat.eq_of_testBit_eq;intro i
 cases i with
 | zero=>simp[XaJ]
 | succ i =>
  rw[XaJ,Xbd,Xbd,Xbd,show(2*a+1) / 2=a by omega,show(2*b+1) / 2=b by omega,show(2*(a &&& b)+1) / 2=(a &&& b) by omega,XaJ]
def zfA(a b:Nat):(2*a+1) &&& (2*b)=2*(a &&& b):=by
 apply Nat.eq_of_testBit_eq;intro i
 cases i with
 | zero=>simp[XaJ]
 | succ i =>
  rw[XaJ,Xbd,Xbd,Xbd,show(2*a+1) / 2=a by omega,show(2*b) / 2=b by omega,show(2*(a &&& b)) / 2=(a &&& b) by omega,XaJ]
def zjz(a b:Nat):(2*a) &&& (2*b+1)=2*(a &&& b):=by rw[Nat.and_comm,zfA,Nat.and_comm]
def zkv:∀n,0<n->(n &&& (n-1))<n/\sgl n=(n-(n &&& (n-1)))::sgl (n &&& (n-1)):=by
 intro n
 induction n using Nat.strongRecOn with
 | _ n ih =>
  intro hn
  rcases Xbf n with h|h
  .have e:n=2*(n / 2):=by omega
   obtain⟨h1,h2⟩:=ih (n / 2) (by omega) (by omega)
   generalize n / 2=m at *
   subst e
   have e2:2*m-1=2*(m-1)+1:=by omega
   rw[e2,zjz]
   refine{by omega,?_}
   rw[zbP,zbP,h2,XaF]
   congr 1
   omega
  .have e:n=2*(n / 2)+1:=by omega
   generalize n / 2=m at *
   subst e
   have e2:2*m+1-1=2*m:=by omega
   rw[e2,zfA,Nat.and_self]
   exact{by omega,by rw[zc8,zbP];congr 1;omega}
def zfp:∀m n,n<2 ^ m->ones n<=m
 | 0,n,h=>by simp at h;subst h;simp[ones]
 | m+1,n,h=>by
  have:=zfp m (n / 2) (by rw[Xbj] at h;omega)
  rw[zej];omega
def band(a b:Nat):Builtin.bitAnd (a:Int) (b:Int)=((a &&& b:Nat):Int):=by
 unfold Builtin.bitAnd
 simp
end Cb
end
section
namespace L2
open PySem PySem.Spec PyProof.Rows
def zcT(N:List Str)(names:List (Str×NameKind)):List (Option Nat)->List Str->Bool
 | [],[]=>true
 | none::r,_::s=>zcT N names r s
 | some i::r,x::s=>(N[i]?==some x)&&(names.lookup x==some .free)&&zcT N names r s
 | _,_=>false
def ndOk:List (Str×NameKind)->Bool
 | []=>true
 | x::r=>(r.all λy=>x.1 != y.1)&&ndOk r
def zgn(N:List Str)(osc:Scope)(Nc:List Str)(src:List (Option Nat))(scope:Scope):Bool:=
 scope.kind==.function&&(scope.names.all λx=>x.2 != .cell)&&ndOk scope.names &&
 (scope.names.all λx=>x.2 != .free || osc.names.lookup x.1==some .cell || osc.names.lookup x.1==some .free)&&zcT N scope.names src Nc
def zd2{N:List Str}{names:List (Str×NameKind)}:∀{src:List (Option Nat)} {Nc:List Str},zcT N names src Nc=true->src.length=Nc.length
 | [],[],_=>rfl
 | none::r,_::s,h=>by simp only[Xaw];rw[zd2 (src:=r) (Nc:=s) h]
 | some i::r,x::s,h=>by
  simp only[zcT,Xa0] at h
  simp only[Xaw];rw[zd2 h.2]
 | [],_::_,h=>by simp[zcT] at h
 | none::_,[],h=>by simp[zcT] at h
 | some _::_,[],h=>by simp[zcT] at h
def zd1{N:List Str}{names:List (Str×NameKind)}:∀{src:List (Option Nat)} {Nc:List Str},zcT N names src Nc=true->∀(j i:Nat),src[j]?=some (some i)->∃x,Nc[j]?=some x/\N[i]?=some x/\names.lookup x=some .free
 | [],[],_,j,i,e=>by simp at e
 | none::r,y::s,h,0,i,e=>by simp at e
 | none::r,y::s,h,j+1,i,e=>by
  have:=zd1 (src:=r) (Nc:=s) h j i (by simpa using e)
  simpa using this
 | some k::r,x::s,h,0,i,e=>by
  simp only[zcT,Xa0,beq_iff_eq] at h
  simp only[List.getElem?_cons_zero,Option.some.injEq] at e
  subst e
  exact⟨x,O,h.1.1,h.1.2⟩
 | some k::r,x::s,h,j+1,i,e=>by
  simp only[zcT,Xa0] at h
  have:=zd1 (src:=r) (Nc:=s) h.2 j i (by simpa using e)
  simpa using this
 | [],_::_,h,_,_,_=>by simp[zcT] at h
 | none::_,[],h,_,_,_=>by simp[zcT] at h
 | some _::_,[],h,_,_,_=>by simp[zcT] at h
def zjs:∀{l:List (Str×NameKind)},ndOk l=true->l.Pairwise λx y=>x.1≠y.1
 | [],_=>.nil
 | x::r,h=>by
  simp only[ndOk,Xa0,XbQ,bne_iff_ne] at h
  exact .cons h.1 (zjs h.2)
def zaZ{N:List Str}{osc:Scope}{Nc:List Str}{src:List (Option Nat)}{scope:Scope}(h:zgn N osc Nc src scope=true):CompOk N osc Nc src scope:=by
 simp only[zgn,Xa0,beq_iff_eq,XbQ,bne_iff_ne] at h
 obtain⟨⟨⟨⟨h1,h2⟩,h3⟩,h4⟩,h5⟩:=h
 refine{h1,h2,zjs h3,λx hx hf=>?_,zd2 h5,zd1 h5}
 have:=h4 x hx
 simp only[Bool.or_eq_true,bne_iff_ne,beq_iff_eq] at this
 rcases this with(z|z)|z
 .exact absurd hf z
 .exact .inl z
 .exact .inr z
structure Cal(P:Program)(w:World)(K:W.Frag)(mg:Str->Option Value)(base:Heap)(k:Nat)(x:Str)(ps:List Str)(sp:Sp):Prop where
 ex:∃f fd,FnOk P w K mg base CX0 k f fd ps sp/\mg x=some (.ref f)/\W.keepIn K (.ref f)=true/\Binds K fd ps []
section
variable{X:Cx}{k:Nat}{ps ks:List Str}{sp:Sp}{x:Str}{p pos:Pos}{e:Expr}{es:List Expr}{t tk:TA}{kws:List Keyword}{gV:List V->List V->List V}
def pe_cal(C:Cal X.prog X.w X.K X.mg X.base k x ps sp)(hr:Room k X.A)(hg:Gl X x)(ha:PA X (e::es) t)(hdb:(x==("__debug__" : Str))=false:=by decide)
  (he:starEach (e::es) X.env=(false,eval e X.env)::starEach es X.env:=by rfl) (hpl:(backTo pos (starEach es X.env)).any (·.1)=false:=by rfl):PE X (.Call (.Name x p) (e::es) [] pos) (zkt sp [] E0 t):=by
 obtain⟨f,fd,F,hm,hk,hb⟩:=C.ex
 exact zmw F hr hg hm hk hb .nil zfn ha hdb he hpl
end
end L2
namespace Cb
open PySem L2
def zm4(p:Addr)(H H':Hp):Prop:=∀b o,b≠p->H b=some o->H' b=some o
def zag{H:Hp}{p:Addr}{o:HO}(h:H p=none):Same H (upd H p o):=λb u e=>by rw[zah (zai e h)];exact e
def vN(l:List Nat):List V:=l.map λ(b:Nat)=>V.int (b:Int)
def zan(l:List Nat):(vN l).length=l.length:=Xag ..
def zb5(l:List Nat)(b:Nat):vN (l++[b])=vN l++[V.int (b:Int)]:=by simp[vN]
def ziM{l:List Nat}{i:Nat}{x:V}(h:(vN l)[i]?=some x):∃b,l[i]?=some b/\x=V.int (b:Int):=by
 unfold vN at h
 rw[Xao] at h
 cases e:l[i]? with
 | none=>rw[e] at h;cases h
 | some b=>rw[e] at h;exact{b,O,(Option.some.inj h).symm}
inductive spLaw(K:W.Frag)(vs:List V)(H:Hp)(Q:VK)(u3_:XK):Prop
 | mk (a:Addr) (ns:List Int)(_:vs=[.ref a])(_:SqL K H a (ns.map V.int))(_:ns.length<=63)(_:(∀m∈ns,Builtin.Int.intBits m<=2 ^ 20))(_:∀H',Q (.bl true) H')
inductive spSingles(vs:List V)(H:Hp)(Q:VK)(u3_:XK):Prop
 | mk (n:Nat)(_:vs=[.int (n:Int)])(_:n<2 ^ 64)(_:∀(p:Addr) (H':Hp),H p=none->H' p=some (.lst (vN (sgl n)))->Same H H'->Q (.ref p) H')
inductive spOnes(vs:List V)(H:Hp)(Q:VK)(u3_:XK):Prop
 | mk (n:Nat)(_:vs=[.int (n:Int)])(_:n<2 ^ 64)(_:∀H',Same H H'->Q (.int (ones n:Int)) H')
end Cb
end
section
namespace L2
open PySem PySem.Spec PyProof.Rows
section
variable{X:Cx}{K:W.Frag}
def zjb(n:Nat)(hK:X.K=K){es:List Expr}{k:Nat}{t:TGs}{pos:Pos}(hc:X.calm=true)(h:PGs X es t)
  (hn:(assignEach es X.env).length=n:=by rfl) (hst:(assignEach es X.env).findIdx? (·.1)=none:=by rfl):PG X (.Tuple es k pos) (gTup K n t):=by
 subst hK;exact zba hc h hn hst
def zi5(hK:X.K=K){a:Expr}{ta:TE}(ha:PE X a ta)(he:∀whole,isTrue a X.env whole=(do let v <- whole;standAt a.pos;holding [v] (truthy v))) :
  PT X a (λU H Q=>ta U H λx H'=>∃k,TruV K x H' k/\Q k H'):=by
 subst hK;exact zfk ha he
def zdU(hK:X.K=K):IxR X (rIxL K):=by subst hK;exact zal
def zhk(hK:X.K=K):IxR X (rIxT K):=by subst hK;exact zaz
end
section
variable{prog:Program}{w:World}{A:Around}{E:Value->Shared->Prop}{s:Shared}
end
end L2
end
section
namespace L2
open PySem PySem.Spec PyProof.Rows Builtin
structure FunD(K:W.Frag)(x qual:Str)(st:Stmt)(dV:Value)(f:Addr)(fd:FuncData):Prop where
 ex:∃(oc:Value) (od:Option Addr) (kV doc pm:Value) (an:Option Addr) (cdv ct:Value) (osl:Array (Option Value)),
  fd=W.fnOf x qual (zbC st) (za2 st) (zaj st) dV kV doc pm an cdv ct/\K.lookup f=some {oc,od,.func fd,osl}/\W.codeIn K cdv qual=true
 kp:W.keepIn K (.ref f)=true
section
variable{P:Program}{w:World}{K:W.Frag}{mg:Str->Option Value}{base:Heap}
def FunD.ok{x qual:Str}{st:Stmt}{dV:Value}{f:Addr}{fd:FuncData}{N ps:List Str}{k:Nat}{sp:Sp}(F:FunD K x qual st dV f fd)(S:FnScope N ps (zaj st))(len:∀vs H Q E,sp vs H Q E->vs.length=ps.length)
  (hbody:∀(cdv:Value) (A:Around) (outer:List Env) (s:Shared) (H:Hp) (vs:List V) (Q:VK) (E:XK),Room k (A.deeper (envOfC qual (zaj st) s.heap.objs.size f cdv))->sp vs H Q E ->
   ∃t,PSs (cxOf CX0 P w K mg base N qual (zaj st) f cdv A outer s H E).nox (za2 st) t/\t {nx:=λ_ H'=>Q .non H',rt:=Q} (start N vs) H):FnOk P w K mg base CX0 (k+1) f fd ps sp:=by
 obtain⟨oc,od,kV,doc,pm,an,cdv,ct,osl,rfl,lk,hcd⟩:=F.ex
 refine zlb lk hcd S len λA outer s H vs Q E hr hsp=>?_
 obtain⟨t,h,q⟩:=hbody cdv A outer s H vs Q E hr hsp
 exact⟨t,h.nox,q⟩
def zmP{x qual:Str}{st:Stmt}{dV:Value}{f:Addr}{oc:Value}{od an:Option Addr}{osl:Array (Option Value)}{kV doc pm cdv ct:Value}(l:K.lookup f=some {oc,od,.func (W.fnOf x qual (zbC st) (za2 st) (zaj st) dV kV doc pm an cdv ct),osl})
  (c:W.codeIn K cdv qual=true) (k:W.keepIn K (.ref f)=true):FunD K x qual st dV f (W.fnOf x qual (zbC st) (za2 st) (zaj st) dV kV doc pm an cdv ct):={⟨oc,od,kV,doc,pm,an,cdv,ct,osl,O,l,c⟩,k}
def FunD.kbinds{x qual:Str}{st:Stmt}{T:Addr}{o:Obj}{items:Array Value}{n:Nat}{f:Addr}{fd:FuncData}{ps ks:List Str}{g:List Value->List Value->List Value}{gV:List V->List V->List V}(F:FunD K x qual st (.ref T) f fd)
  (ho:K.lookup T=some o) (hs:o.data=.seq items n)
  (h:∀(kV doc pm:Value) (an:Option Addr) (cdv ct:Value) (us ws:List Value),(g us ws).length=ps.length->∃q,bindArgs (W.fnOf x qual (zbC st) (za2 st) (zaj st) (.ref T) kV doc pm an cdv ct) {us,ks.zip ws}=seqItems? (.ref T) >>= q/\q (some items)=pure (ps.zip (g us ws)))
  (rel:∀{vs:List V} {us:List Value} {zs:List V} {ws:List Value},Vals vs us->Vals zs ws->Vals (gV vs zs) (g us ws)):KBinds K fd ps ks g gV:=by
 obtain⟨oc,od,kV,doc,pm,an,cdv,ct,osl,rfl,lk,hcd⟩:=F.ex
 refine{λs us ws X hl=>?_,rel}
 obtain⟨q,h1,h2⟩:=h kV doc pm an cdv ct us ws hl
 exact W.binds_K X O ho hs h1 h2
def KBinds.pos{fd:FuncData}{ps:List Str}(b:Binds K fd ps []):KBinds K fd ps [] (λus _=>us) (λvs _=>vs):=
 {λs us ws X hl=>by have:=b s us X (by rw[Xbm];exact hl);rw[Xbm] at this;exact this,λr _=>r}
end
def swS{α:Type}(us zs:List α):List α:=match zs with
 | [a,b]=>us++[b,a]
 | _=>[]
structure Mth(P:Program)(w:World)(K:W.Frag)(mg:Str->Option Value)(base:Heap)(k:Nat)(C:Addr)(m:Str)(ks:List Str)(gV:List V->List V->List V)(sp:Sp):Prop where
 cls:Cls K C
 ex:∃f fd ps g,Meth K C m f/\FnOk P w K mg base CX0 k f fd ps sp/\KBinds K fd ps ks g gV
def Mth.mono{P:Program}{w:World}{K:W.Frag}{mg:Str->Option Value}{base:Heap}{j k:Nat}{C:Addr}{m:Str}{ks:List Str}{gV:List V->List V->List V}{sp:Sp}(M:Mth P w K mg base j C m ks gV sp)(h:j<=k):Mth P w K mg base k C m ks gV sp:=by
 obtain⟨c,f,fd,ps,g,a,F,b⟩:=M
 exact{c,f,fd,ps,g,a,F.mono h,b}
inductive tMth_1(P:Program)(w:World)(K:W.Frag)(mg:Str->Option Value)(base:Heap)(k:Nat)(m:Str)(ks:List Str)(t:TA)(tk:TA)(U:St)(Q:VK)(x:V)(H1:Hp):Prop
 | mk a C dx fs gV sp(_:x=.ref a)(_:H1 a=some (.ins C dx fs))(_:Mth P w K mg base k C m ks gV sp)(_:fs.lookup m=none)(_:t U H1 λvs H2=>tk U H2 λzs H3=>sp (gV (x::vs) zs) H3 Q E0)
def tMth(P:Program)(w:World)(K:W.Frag)(mg:Str->Option Value)(base:Heap)(k:Nat)(m:Str)(ks:List Str)(ta:TE)(t tk:TA):TE:=λU H Q=>ta U H (tMth_1 P w K mg base k m ks t tk U Q)
section
variable{X:Cx}{k:Nat}{C:Addr}{ks:List Str}{x m:Str}{p pos apos:Pos}{e o:Expr}{es:List Expr}{kws:List Keyword}{ta:TE}{t tk:TA}
def zaD{P:Program}{w:World}{K:W.Frag}{mg:Str->Option Value}{base:Heap}(k:Nat)(hX:X.prog=P/\X.w=w/\X.K=K/\X.mg=mg/\X.base=base)(hr:Room k X.A){pl:Sem Bool}(he:PE X o ta)(ha:PA X (e::es) t)
  (hst:starEach (e::es) X.env=(false,eval e X.env)::starEach es X.env:=by rfl) (hpl:(backTo pos (starEach es X.env)).any (·.1)=false:=by rfl)
  (ht:eval (.Call (.Attribute o m apos) (e::es) [] pos) X.env=(do
   let ov <- eval o X.env
   standAt apos.atName
   let(f,first) <- holding [ov] (getMethod ov m pl)
   callWith pos f first (backTo pos (starEach (e::es) X.env)) (backToKw pos (keywordEach [] X.env))):=by rfl) :
  PE X (.Call (.Attribute o m apos) (e::es) [] pos) (tMth P w K mg base k m [] ta t tNil):=by
 obtain⟨rfl,rfl,rfl,rfl,rfl⟩:=hX
 intro pins s U H Q I h
 refine W.methodCall_KW (pl:=pl) (thn (he pins s U H _ I h) λu s1 hh_=>?_) ht
 obtain⟨x,H1,I1,rx,a,C,dx,fs,gV,sp,ex,ea,M,l,q⟩:=hh_
 obtain⟨c,f,fd,ps,g,hm,F,hb⟩:=M
 subst ex
 obtain rfl:u=Value.ref a:=rx
 refine zcs I1 ea c hm l ?_
 refine W.callWith_K (first:=[.ref a]) (h₀:=X.base) I.ok.mod.kin hm.kp (thn (ha pos pins s1 U H1 _ I1 q) λus s2 ⟨vs,H2,I2,r,q2⟩=>{I2.kIn,?_}) hst hpl
 exact zff (us:=.ref a::us) (vs:=.ref a::vs) (ws:=[]) (zs:=[]) F hr hb zfn I2 (.cons O r) .nil q2
def zjg{P:Program}{w:World}{K:W.Frag}{mg:Str->Option Value}{base:Heap}(k:Nat)(hX:X.prog=P/\X.w=w/\X.K=K/\X.mg=mg/\X.base=base)(hr:Room k X.A){pl:Sem Bool}(he:PE X o ta)
  (ht:eval (.Call (.Attribute o m apos) [] [] pos) X.env=(do
   let ov <- eval o X.env
   standAt apos.atName
   let(f,first) <- holding [ov] (getMethod ov m pl)
   callWith pos f first (backTo pos (starEach [] X.env)) (backToKw pos (keywordEach [] X.env))):=by rfl) :
  PE X (.Call (.Attribute o m apos) [] [] pos) (tMth P w K mg base k m [] ta tNil tNil):=by
 obtain⟨rfl,rfl,rfl,rfl,rfl⟩:=hX
 intro pins s U H Q I h
 refine W.methodCall_KW (pl:=pl) (thn (he pins s U H _ I h) λu s1 hh_=>?_) ht
 obtain⟨x,H1,I1,rx,a,C,dx,fs,gV,sp,ex,ea,M,l,q⟩:=hh_
 obtain⟨c,f,fd,ps,g,hm,F,hb⟩:=M
 subst ex
 obtain rfl:u=Value.ref a:=rx
 refine zcs I1 ea c hm l ?_
 exact W.callWith_K0 (first:=[.ref a]) I1.kIn hm.kp (zff (us:=[.ref a]) (vs:=[.ref a]) (ws:=[]) (zs:=[]) F hr hb zfn I1 (.cons O .nil) .nil q)
end
def tLenO(P:Program)(w:World)(K:W.Frag)(mg:Str->Option Value)(base:Heap)(k:Nat)(ta:TE):TE:=λU H Q=>ta U H λx H1=>∃a C dx fs gV sp,x=.ref a/\H1 a=some (.ins C dx fs)/\Mth P w K mg base k C "__len__" [] gV sp /\
 sp (gV [x] []) H1 (λv H2=>∃n:Int,v=.int n/\0<=n/\n<2 ^ 63/\Q (.int n) H2) E0
section
variable{X:Cx}{e:Expr}{p pos:Pos}{ta:TE}
def lenQ(X:Cx)(k:Nat)(Q:VK)(vs:List V)(H1:Hp):Prop:=match vs with
 | [x]=>∃a C dx fs gV sp,x=.ref a/\H1 a=some (.ins C dx fs)/\Mth X.prog X.w X.K X.mg X.base k C "__len__" [] gV sp/\sp (gV [x] []) H1 (λv H2=>∃n:Int,v=.int n/\0<=n/\n<2 ^ 63/\Q (.int n) H2) E0
 | _=>False
def LenIs(Q:Value->Shared->Prop):Value->Shared->Prop
 | .int n _,s'=>0<=n/\n<2 ^ 63/\Q (.int n s'.toks) {s' with toks:=s'.toks+1}
 | _,_=>False
def lenOwn{prog:Program}{w:World}{A:Around}{E:Value->Shared->Prop}{s:Shared}{K:W.Frag}{a C f:Addr}{ob:Obj}{od:Option Obj}{Q:Value->Shared->Prop}(X:K.In s.heap)(I:W.InstAt s.heap a ob C od)
  (hs:W.findIn K (.ref C) "__len__"=some (some (.ref f))) (ht:W.typeIn K (.ref f)=some (.type "function"))
  (h:wpAny (model prog w) A.in1 (call (.ref f) [.ref a]) (LenIs Q) E s):wpAny (model prog w) A (call (.builtin "len") [.ref a]) Q E s:=by
 refine Calls.call_function_entry kind_len plain_len entry_len (args_len1 _) ?_
 delta Builtin.«len»
 refine Xaa (m:=oneArg "len" _) (Xac (Xaa (m:=callSpecial? (.ref a) (Str.ofString "__len__")) (W.special_fn X I hs ht (Xat h (λr s' hr=>?_) (λ_ _ z=>z)))))
 cases r with
 | int n t =>
  obtain⟨h0,h1,hq⟩:=hr
  refine Xaa (XaR (Xac (Xaa (wpAny_letGo ?_))))
  have e1:¬ n<0:=by omega
  have e2:¬ n>=2 ^ 63:=by omega
  dsimp only
  rw[if_neg e1,if_neg e2]
  exact Xaa (wpAny_mkInt (Xac {_,O,hq}))
 | _=>exact hr.elim
def mtyp{K:W.Frag}{C f:Addr}{m:Str}(h:Meth K C m f):W.typeIn K (.ref f)=some (.type "function"):=beq_iff_eq.mp h.fn
def zgX{P:Program}{w:World}{K:PySem.W.Frag}{mg:Str->Option Value}{base:Heap}(k:Nat)(hX:X.prog=P/\X.w=w/\X.K=K/\X.mg=mg/\X.base=base)(hr:Room (k+1) X.A)(hg:Gl X "len")(hm:X.mg "len"=none)(he:PE X e ta)
  (hst:starEach [e] X.env=(false,eval e X.env)::starEach [] X.env:=by rfl):PE X (.Call (.Name "len" p) [e] [] pos) (tLenO P w K mg base k ta):=by
 obtain⟨rfl,rfl,rfl,rfl,rfl⟩:=hX
 intro pins s U H Q I h
 refine XbU (zc0 I hg hm PySem.boot_len ?_ (by decide) (by decide))
 refine PyProof.Rows.callWith_builtin1 (thn (zaa (t:=tNil) he zad hst pos pins s U H (lenQ X k Q) I h) λus s1 hh_=>?_) hst O
 obtain⟨vs,H1,I1,r1,q1⟩:=hh_
 cases r1 with
 | nil=>exact q1.elim
 | cons ra rr=>cases rr with
  | cons _ _=>exact q1.elim
  | nil =>
   obtain⟨a,C,dx,fs,gV,sp,ex,ea,M,q⟩:=q1
   obtain⟨c,f,fd,ps,g,hm,F,hb⟩:=M
   subst ex
   cases ra
   obtain⟨mA,O9,_⟩:=zb1 I1.hok ea
   obtain⟨od,J,_⟩:=O9.look
   refine lenOwn I1.kIn J hm.at_ (mtyp hm) ?_
   have rv:Vals (gV [V.ref a] []) (g [Value.ref a] []):=hb.rel (vs:=[V.ref a]) (us:=[Value.ref a]) (zs:=[]) (ws:=[]) (.cons O .nil) .nil
   have hl:(g [Value.ref a] []).length=ps.length:=by rw[<- rv.length];exact F.len _ _ _ _ q
   have W:wpAny (model X.prog X.w) X.A.in1 (call (.ref f) [.ref a]) (EP X pins U (λv H2=>∃n:Int,v=.int n/\0<=n/\n<2 ^ 63/\Q (.int n) H2)) X.xe s1:=by
    refine XbJ (Xbv (F.run X.A.in1 X.stack s1 H1 {[.ref a],[]} (g [.ref a] []) (gV [.ref a] []) _ E0 hr.in1 I1.env0.in1 (hb.to s1 [.ref a] [] I1.kIn hl) rv q) λr s' hq=>?_)
    cases r with
    | error e=>exact zfn pins U H1 s1 e s' I1 hq
    | ok fl =>
     cases fl with
     | ret u=>exact I1.after hq
     | next=>exact False.elim hq
     | brk=>exact False.elim hq
     | cont=>exact False.elim hq
   refine Xat W (λu s' hu=>?_) λ_ _ z=>z
   .obtain⟨v,H2,I2,rv,n,rfl,h0,h1,qn⟩:=hu
    obtain⟨t,rfl⟩:=(show∃t,u=Value.int n t from rv)
    exact{h0,h1,{.int n,H2,I2.tok _,{_,O},qn}}
end
structure Mak(P:Program)(w:World)(K:W.Frag)(mg:Str->Option Value)(base:Heap)(k:Nat)(x:Str)(C:Addr)(ks:List Str)(gV:List V->List V->List V)(sp:Sp):Prop where
 at_:mg x=some (.ref C)
 ex:∃f fd ps g,Mk K C f/\FnOk P w K mg base CX0 k f fd ps sp/\KBinds K fd ps ks g gV
def tMak(C:Addr)(gV:List V->List V->List V)(sp:Sp)(t tk:TA):TE:=λU H Q=>t U H λvs H1=>tk U H1 λzs H2=>∀x dx,H2 x=none->H2 dx=none->dx≠x ->
 sp (gV (.ref x::vs) zs) (upd (upd H2 dx (.own x)) x (.ins C dx [])) (λv H3=>v=.non/\Q (.ref x) H3) E0
section
variable{X:Cx}{k:Nat}{C:Addr}{ks:List Str}{gV:List V->List V->List V}{sp:Sp}{x:Str}{p pos:Pos}{e:Expr}{es:List Expr}{kws:List Keyword}{t tk:TA}
def zkB{pins:List (Addr×Obj)}{U:St}{H:Hp}{s:Shared}{Q:VK}{us ws:List Value}{vs zs:List V}(M:Mak X.prog X.w X.K X.mg X.base k x C ks gV sp)(hr:Room (k+1) X.A)(I:Inv X pins U H s)(r:Vals vs us)(rz:Vals zs ws)
  (h:∀y dy,H y=none->H dy=none->dy≠y->sp (gV (.ref y::vs) zs) (upd (upd H dy (.own y)) y (.ins C dy [])) (λv H2=>v=.non/\Q (.ref y) H2) E0) :
  wpAny (model X.prog X.w) X.A (call (.ref C) us (ks.zip ws)) (EP X pins U Q) X.xe s:=by
 obtain⟨hm,f,fd,ps,g,M,F,hb⟩:=M
 have hq:=h (s.heap.objs.size+1) s.heap.objs.size (I.hok.fresh (Xbu _)) (I.hok.fresh (Xae _)) (Xaz (Xbb _))
 have I2:=Inv.made (C:=C) I
 have r2:Vals (gV (V.ref (s.heap.objs.size+1)::vs) zs) (g (Value.ref (s.heap.objs.size+1)::us) ws):=hb.rel (.cons O r) rz
 have hl:(g (Value.ref (s.heap.objs.size+1)::us) ws).length=ps.length:=by rw[<- r2.length];exact F.len _ _ _ _ hq
 refine XbJ (zkX (f:=f) I.kIn M.makes M.init (beq_iff_eq.mp M.fn) (Xbv (F.run _ X.stack _ _ {Value.ref (s.heap.objs.size+1)::us,ks.zip ws} _ _ _ E0 (hr.make C us (ks.zip ws))
  (I2.env0.make C us (ks.zip ws)) (hb.to _ (Value.ref (s.heap.objs.size+1)::us) ws I2.kIn hl) r2 hq) λr s' hq'=>?_))
 cases r with
 | error e=>exact zfn pins U _ _ e s' I2 hq'
 | ok fl =>
  cases fl with
  | ret u =>
   obtain⟨v,H',I3,rv,ev,q3⟩:=I2.after hq'
   subst ev
   exact{rv,{V.ref (s.heap.objs.size+1),H',I3,O,q3}}
  | next=>exact False.elim hq'
  | brk=>exact False.elim hq'
  | cont=>exact False.elim hq'
def Mak.kp{P:Program}{w:World}{K:W.Frag}{mg:Str->Option Value}{base:Heap}(M:Mak P w K mg base k x C ks gV sp):W.keepIn K (.ref C)=true:=by
 obtain⟨_,_,_,_,_,M,_⟩:=M
 exact M.kp
def zdw(M:Mak X.prog X.w X.K X.mg X.base k x C [] gV sp)(hr:Room (k+1) X.A)(hg:Gl X x)(ha:PA X (e::es) t)(hdb:(x==("__debug__" : Str))=false:=by decide)
  (he:starEach (e::es) X.env=(false,eval e X.env)::starEach es X.env:=by rfl) (hpl:(backTo pos (starEach es X.env)).any (·.1)=false:=by rfl):PE X (.Call (.Name x p) (e::es) [] pos) (tMak C gV sp t tNil):=by
 intro pins s U H Q I h
 refine XbU (zdq I hg M.at_ ?_ hdb)
 refine W.callWith_K (h₀:=X.base) I.ok.mod.kin M.kp (thn (ha pos pins s U H _ I h) λus s1 ⟨vs,H1,I1,r,q⟩=>{I1.kIn,?_}) he hpl
 exact zkB (ws:=[]) (zs:=[]) M hr I1 r .nil q
end
structure Clm(P:Program)(w:World)(K:W.Frag)(mg:Str->Option Value)(base:Heap)(k:Nat)(x m:Str)(sp:Sp):Prop where
 ex:∃C f fd ps mc,mg x=some (.ref C)/\W.specialIn K (.ref C) "__getattribute__"=some (some (.builtin "type.__getattribute__"))/\W.readsIn K C mc=true/\W.findCls K (.ref C) mc m=some (.val (.ref f)) /\
  W.keepIn K (.ref f)=true/\FnOk P w K mg base CX0 k f fd ps sp/\Binds K fd ps []
section
variable{X:Cx}{k:Nat}{sp:Sp}{x m:Str}{p pos apos:Pos}{e:Expr}{es:List Expr}{t:TA}
def zfU(M:Clm X.prog X.w X.K X.mg X.base k x m sp)(hr:Room k X.A)(hg:Gl X x){pl:Sem Bool}(ha:PA X (e::es) t)(hdb:(x==("__debug__" : Str))=false:=by decide)
  (hst:starEach (e::es) X.env=(false,eval e X.env)::starEach es X.env:=by rfl) (hpl:(backTo pos (starEach es X.env)).any (·.1)=false:=by rfl)
  (ht:eval (.Call (.Attribute (.Name x p) m apos) (e::es) [] pos) X.env=(do
   let ov <- eval (.Name x p) X.env
   standAt apos.atName
   let(f,first) <- holding [ov] (getMethod ov m pl)
   callWith pos f first (backTo pos (starEach (e::es) X.env)) (backToKw pos (keywordEach [] X.env))):=by rfl) :
  PE X (.Call (.Attribute (.Name x p) m apos) (e::es) [] pos) (zkt sp [] E0 t):=by
 obtain⟨C,f,fd,ps,mc,hm,hs,hrd,hf,hk,F,hb⟩:=M
 intro pins s U H Q I h
 refine W.methodCall_KW (pl:=pl) ?_ ht
 refine zdq I hg hm ?_ hdb
 refine W.method_cls I.kIn hs (W.cls_value I.kIn hrd hf O ?_)
 have I0:=I.tok (s.toks+1)
 refine W.callWith_K (first:=[]) (h₀:=X.base) I.ok.mod.kin hk (thn (ha pos pins _ U H _ I0 h) λus s2 ⟨vs,H2,I2,r,q2⟩=>{I2.kIn,?_}) hst hpl
 exact zlx F hr hb .nil zfn I2 r q2
end
def itC(t:Bool):String:=if t then "tuple_iterator" else "list_iterator"
def sqC(t:Bool):String:=if t then "tuple" else "list"
def IsIt(t:Bool)(h:Heap)(a l:Addr)(i:Nat):Prop:=∃o,h.get? a=some o/\o.cls=.type (itC t)/\o.data=.fields #[.ref l,.int i 0]
def IsSq(t:Bool)(h:Heap)(a:Addr)(xs:Array Value):Prop:=∃o,h.get? a=some o/\o.cls=.type (sqC t)/\∃n,o.data=.seq xs n
def IsIt.at{t:Bool}{h h':Heap}{a l:Addr}{i:Nat}(x:IsIt t h a l i)(e:∀o,h.get? a=some o->h'.get? a=some o):IsIt t h' a l i:=let⟨o,ho,r⟩:=x;{o,e _ ho,r}
def IsSq.at{t:Bool}{h h':Heap}{a:Addr}{xs:Array Value}(x:IsSq t h a xs)(e:∀o,h.get? a=some o->h'.get? a=some o):IsSq t h' a xs:=let⟨o,ho,r⟩:=x;{o,e _ ho,r}
section
variable{prog:Program}{w:World}{A:Around}{E:Value->Shared->Prop}{s:Shared}
def zhc{t:Bool}{it l:Addr}{i:Nat}{xs:Array Value}{x:Value}{Q:Value->Shared->Prop}(hi:IsIt t s.heap it l i)(hl:IsSq t s.heap l xs)(hx:xs[i]?=some x)
  (q:∀h',IsIt t h' it l (i+1)->Heap.SameBut it s.heap h'->Q x {s with heap:=h'}):wpAny (model prog w) A (Builtin.SmallTypes.nextOf (.ref it)) Q E s:=by
 cases t with
 | false=>exact wpAny_nextOf_list_item hi hl hx q
 | true =>
  have ht:s.TypeIs (.ref it) "tuple_iterator" := let⟨o,ho,hc,_⟩:=hi;⟨o,ho,hc⟩
  obtain⟨o,ho,hc,hd⟩:=id hi;obtain⟨ol,hol,_,nl,hdl⟩:=hl
  delta Builtin.SmallTypes.nextOf
  refine Xaa (wpAny_callSpecial?_slot (name:=Str.ofString "__next__") ht F.slot_tuple_iterator_next (XaW F.slot_tuple_iterator_next ht F.entry_tuple_iterator_next ?_ (F.args_tuple_iterator_next_1 _)))
  show wpAny _ _ (field (.ref it) 0 >>= _) _ _ s;refine Xaa (XaQ ho hd (x:=.ref l) O ?_)
  show wpAny _ _ (if(Value.ref l==Value.none)=true then _ else _) _ _ s;rw[if_neg (show¬ ((Value.ref l==Value.none)=true) from Xal)]
  show wpAny _ _ (field (.ref it) 1 >>= _) _ _ s;refine Xaa (XaQ ho hd (x:=.int i 0) O ?_)
  show wpAny _ _ (seqItems? (.ref l) >>= _) _ _ s;refine Xaa (Xbl hol hdl ?_);simp only[Xav,hx]
  refine Xaa (Xa4 ho hd (by simp) (Xac {x,O,Xac (q _ {_,XaM _ ho (Obj.isFreed_of_fields (Obj.data_mapFields hd _)),(Obj.cls_mapFields ..).trans hc,by rw[Obj.data_mapFields hd];simp[rawInt]} (Heap.SameBut.update ..))}))
def zlI{t:Bool}{it l:Addr}{i:Nat}{xs:Array Value}{Q:Value->Shared->Prop}(hh:A.handled=none)(hi:IsIt t s.heap it l i)(hl:IsSq t s.heap l xs)(hx:xs[i]?=none)
  (q:∀h' e,Heap.ExtBut it s.heap h'->(∃o,h'.get? e=some o/\o.cls=.type "StopIteration")->E (.ref e) {s with heap:=h'}):wpAny (model prog w) A (Builtin.SmallTypes.nextOf (.ref it)) Q E s:=by
 cases t with
 | false=>exact wpAny_nextOf_list_end hh hi hl hx q
 | true =>
  have ht:s.TypeIs (.ref it) "tuple_iterator" := let⟨o,ho,hc,_⟩:=hi;⟨o,ho,hc⟩
  obtain⟨o,ho,hc,hd⟩:=id hi;obtain⟨ol,hol,_,nl,hdl⟩:=hl
  delta Builtin.SmallTypes.nextOf
  refine Xaa (wpAny_callSpecial?_slot (name:=Str.ofString "__next__") ht F.slot_tuple_iterator_next (XaW F.slot_tuple_iterator_next ht F.entry_tuple_iterator_next ?_ (F.args_tuple_iterator_next_1 _)))
  show wpAny _ _ (field (.ref it) 0 >>= _) _ _ s;refine Xaa (XaQ ho hd (x:=.ref l) O ?_)
  show wpAny _ _ (if(Value.ref l==Value.none)=true then _ else _) _ _ s;rw[if_neg (show¬ ((Value.ref l==Value.none)=true) from Xal)]
  show wpAny _ _ (field (.ref it) 1 >>= _) _ _ s;refine Xaa (XaQ ho hd (x:=.int i 0) O ?_)
  show wpAny _ _ (seqItems? (.ref l) >>= _) _ _ s;refine Xaa (Xbl hol hdl ?_);simp only[Xav,hx]
  refine Xaa (XbK (Xaa (Xa4 ho hd (by simp) ?_)));show wpAny _ _ (newExc (.type "StopIteration") [] >>= _) _ _ _
  refine Xaa ?_;simp only[newExc,newTuple];refine Xaa (XaO ?_ (by size_fits))
  refine Xaa (m:=firstArgMember _ _) (wpAny_of_eq (a:=Value.none) (by first|rfl|(simp only[firstArgMember];rfl)) ?_);refine XaO ?_ (by size_fits)
  simp only[raiseNew];refine Xaa (wpAny_handled ?_);rw[show A.in1.handled=none from hh];refine Xaa (Xac (wpAny_throw ?_))
  exact q _ _ (((Heap.SameBut.update ..).extBut.push _).push _) {_,Xai _ O,O}
def zlL{t:Bool}{l:Addr}{xs:Array Value}{Q:Value->Shared->Prop}(hl:IsSq t s.heap l xs)(q:Q (.ref s.heap.objs.size) {s with heap:=s.heap.push {cls:=.type (itC t),data:=.fields #[.ref l,.int 0 0]}}):wpAny (model prog w) A (pyIter (.ref l)) Q E s:=by
 cases t with
 | false=>exact wpAny_pyIter_list hl q
 | true=>exact XbS hl q
structure Far2(z TO i1 i2:Addr):Prop where
 oz:TO≠z
 az:i1≠z
 bz:i2≠z
 oa:TO≠i1
 ob:TO≠i2
 ab:i1≠i2
structure FarM(z TO i1 i2 l:Addr):Prop where
 z:l≠z
 o:l≠TO
 a:l≠i1
 b:l≠i2
def zhv{T:Addr}{a b x:Value}{k:Nat}{Q:Unit->Shared->Prop}(hT:IsPair s.heap T a b)
  (q:∀h',h'.get? T=some {cls:=.type "tuple",data:=.seq ((#[a,b]:Array Value).setIfInBounds k x)}->Heap.SameBut T s.heap h'->Q () {s with heap:=h'}):wpAny (model prog w) A (updateSeq T (·.setIfInBounds k x)) Q E s:=
 wpAny_updateSeq hT O (q _ ((XaM _ hT O).trans (by simp[Obj.mapSeq])) (Heap.SameBut.update ..))
def ziF{t:Bool}{z TI TO i1 i2 l1 l2:Addr}{k:Nat}{xs ys:Array Value}{x y a b:Value}{Q:Value->Shared->Prop}(D:Far2 z TO i1 i2)(L1:FarM z TO i1 i2 l1)(L2':FarM z TO i1 i2 l2)
  (hz:IsZip s.heap z TI TO .none) (hI:IsPair s.heap TI (.ref i1) (.ref i2)) (hO:IsPair s.heap TO a b)
  (h1:IsIt t s.heap i1 l1 k) (h2:IsIt t s.heap i2 l2 k) (g1:IsSq t s.heap l1 xs) (g2:IsSq t s.heap l2 ys) (ex:xs[k]?=some x) (ey:ys[k]?=some y)
  (q:∀h',IsZip h' z TI TO (rawInt s.heap.objs.size)->IsPair h' TO x y->IsIt t h' i1 l1 (k+1)->IsIt t h' i2 l2 (k+1)->IsPair h' s.heap.objs.size x y->h'.objs.size=s.heap.objs.size+1 ->
   (∀d o,d≠z->d≠TO->d≠i1->d≠i2->s.heap.get? d=some o->h'.get? d=some o)->Q (.ref s.heap.objs.size) {s with heap:=h'}) :
  wpAny (model prog w) A (Builtin.«zip.__next__» {[.ref z],[]}) (λfin s'=>∃v,fin=.done (.ret v)/\Q v s') E s:=by
 show wpAny _ _ (field (.ref z) 2 >>= _) _ _ _
 refine Xaa (XaQ hz O (x:=.bool false) O ?_);show wpAny _ _ (field (.ref z) 3 >>= _) _ _ _
 refine Xaa (XaQ hz O (x:=.ref TI) O (Xaa (Xbl hI O ?_)));show wpAny _ _ (Builtin.SmallTypes.ownedTupleIsFree (.ref z) >>= _) _ _ _
 refine Xaa ?_;unfold Builtin.SmallTypes.ownedTupleIsFree
 refine Xaa (XaQ hz O (x:=.none) O (Xac ?_));simp only[if_true]
 refine Xaa (XbK (Xaa (XaQ hz O (x:=.ref TO) O ?_)))
 refine Xaa (XbW hz (by simp) λe1 z1 b1=>?_)
 replace z1:IsZip e1 z TI TO .ellipsis:=z1
 refine Xaa ?_;simp only[List.zipIdx_cons,List.zipIdx_nil,List.forIn_cons,List.forIn_nil]
 refine Xaa (Xaa (wpAny_onRaise ?_));show wpAny _ _ (Builtin.SmallTypes.nextOf (.ref i1) >>= _) _ _ _
 refine Xaa (zhc (h1.at λo e=>b1.extBut _ _ D.az e) (g1.at λo e=>b1.extBut _ _ L1.z e) ex λe2 n1 b2=>Xac ?_)
 have O2:IsPair e2 TO a b:=b2.extBut _ _ D.oa (b1.extBut _ _ D.oz hO)
 refine Xaa (Xbl O2 O (Xaa (zhv O2 λe3 O3 b3=>Xaa (wpAny_letGo (Xac ?_)))))
 replace O3:IsPair e3 TO x b:=O3
 have up3:∀d o,d≠z->d≠TO->d≠i1->s.heap.get? d=some o->e3.get? d=some o:=λd o q1 q2 q3 e=>b3.extBut _ _ q2 (b2.extBut _ _ q3 (b1.extBut _ _ q1 e))
 refine Xaa (Xaa (wpAny_onRaise ?_));show wpAny _ _ (Builtin.SmallTypes.nextOf (.ref i2) >>= _) _ _ _
 refine Xaa (zhc (h2.at λo e=>up3 _ o D.bz D.ob.symm D.ab.symm e) (g2.at λo e=>up3 _ o L2'.z L2'.o L2'.a e) ey λe4 n2 b4=>Xac ?_)
 have O4:IsPair e4 TO x b:=b4.extBut _ _ D.ob O3
 refine Xaa (Xbl O4 O (Xaa (zhv O4 λe5 O5 b5=>Xaa (wpAny_letGo (Xac (Xac ?_))))))
 replace O5:IsPair e5 TO x y:=O5
 have up5:∀d o,d≠z->d≠TO->d≠i1->d≠i2->s.heap.get? d=some o->e5.get? d=some o:=λd o q1 q2 q3 q4 e=>b5.extBut _ _ q2 (b4.extBut _ _ q4 (up3 d o q1 q2 q3 e))
 have sz:e5.objs.size=s.heap.objs.size:=by rw[b5.1,b4.1,b3.1,b2.1,b1.1]
 have z7:IsZip e5 z TI TO .ellipsis:=b5.extBut _ _ D.oz.symm (b4.extBut _ _ D.bz.symm (b3.extBut _ _ D.oz.symm (b2.extBut _ _ D.az.symm z1)))
 have m1:IsIt t e5 i1 l1 (k+1):=n1.at λo e=>b5.extBut _ _ D.oa.symm (b4.extBut _ _ D.ab (b3.extBut _ _ D.oa.symm e))
 have m2:IsIt t e5 i2 l2 (k+1):=n2.at λo e=>b5.extBut _ _ D.ob.symm e
 have zl:z<e5.objs.size:=Xap z7
 refine Xaa (Xbl O5 O (Xaa (wpAny_newTuple ?_)));show wpAny _ _ (Builtin.SmallTypes.ownedTupleHandOut (.ref z) (.ref e5.objs.size) >>= _) _ _ _
 refine Xaa ?_;unfold Builtin.SmallTypes.ownedTupleHandOut
 have z8:IsZip (e5.push {cls:=.type "tuple",data:=.seq #[x,y]}) z TI TO .ellipsis:=Xab _ z7
 refine Xaa (XbW z8 (by simp) λe9 z9 b9=>?_)
 replace z9:IsZip e9 z TI TO (rawInt e5.objs.size):=z9
 refine XbW z9 (by simp) λe0 z0 b0=>?_
 replace z0:IsZip e0 z TI TO (rawInt e5.objs.size):=z0
 have up:∀d o,d≠z->e5.get? d=some o->e0.get? d=some o:=λd o q1 e=>b0.extBut _ _ q1 (b9.extBut _ _ q1 (Xab _ e))
 have T0:IsPair e0 e5.objs.size x y:=b0.extBut _ _ (XbA zl) (b9.extBut _ _ (XbA zl) (Xai _ O))
 have s0:e0.objs.size=e5.objs.size+1:=by rw[b0.1,b9.1,XaL]
 rw[sz] at z0 T0 s0
 refine Xac {_,O,?_};show Q (.ref e5.objs.size) _;rw[sz]
 exact q e0 z0 (up _ _ D.oz O5) (m1.at λo e=>up _ o D.az e) (m2.at λo e=>up _ o D.bz e) T0 s0 λd o q1 q2 q3 q4 e=>up d o q1 (up5 d o q1 q2 q3 q4 e)
def zkk{t:Bool}{z TI TO i1 i2 l1:Addr}{k:Nat}{xs:Array Value}{Q:Fin->Shared->Prop}(hh:A.handled=none)(D:Far2 z TO i1 i2)(L1:FarM z TO i1 i2 l1)
  (hz:IsZip s.heap z TI TO .none) (hI:IsPair s.heap TI (.ref i1) (.ref i2)) (h1:IsIt t s.heap i1 l1 k) (g1:IsSq t s.heap l1 xs) (ex:xs[k]?=none)
  (q:∀h' e,(∀d o,d≠z->d≠i1->s.heap.get? d=some o->h'.get? d=some o)->(∃o,h'.get? e=some o/\o.cls=.type "StopIteration")->E (.ref e) {s with heap:=h'}) :
  wpAny (model prog w) A (Builtin.«zip.__next__» {[.ref z],[]}) Q E s:=by
 show wpAny _ _ (field (.ref z) 2 >>= _) _ _ _
 refine Xaa (XaQ hz O (x:=.bool false) O ?_);show wpAny _ _ (field (.ref z) 3 >>= _) _ _ _
 refine Xaa (XaQ hz O (x:=.ref TI) O (Xaa (Xbl hI O ?_)));show wpAny _ _ (Builtin.SmallTypes.ownedTupleIsFree (.ref z) >>= _) _ _ _
 refine Xaa ?_;unfold Builtin.SmallTypes.ownedTupleIsFree
 refine Xaa (XaQ hz O (x:=.none) O (Xac ?_));simp only[if_true]
 refine Xaa (XbK (Xaa (XaQ hz O (x:=.ref TO) O ?_)))
 refine Xaa (XbW hz (by simp) λe1 z1 b1=>?_)
 replace z1:IsZip e1 z TI TO .ellipsis:=z1
 refine Xaa ?_;simp only[List.zipIdx_cons,List.zipIdx_nil,List.forIn_cons,List.forIn_nil]
 refine Xaa (Xaa (wpAny_onRaise ?_));show wpAny _ _ (Builtin.SmallTypes.nextOf (.ref i1) >>= _) _ _ _
 refine Xaa (zlI hh (h1.at λo e=>b1.extBut _ _ D.az e) (g1.at λo e=>b1.extBut _ _ L1.z e) ex λe2 e b2 he=>?_)
 obtain⟨oe,hoe,hce⟩:=he
 have z2:IsZip e2 z TI TO .ellipsis:=b2 _ _ D.az.symm z1
 have ne:e≠z:=λy=>by subst y;rw[z2] at hoe;cases hoe;simp at hce
 exact XbW z2 (by simp) λe3 _ b3=>q e3 e (λd o q1 q2 y=>b3.extBut _ _ q1 (b2 _ _ q2 (b1.extBut _ _ q1 y))) {oe,b3.extBut _ _ ne hoe,hce}
end
abbrev yA(t:Bool)(h:Heap)(l:Addr):Heap:=h.push {cls:=.type (itC t),data:=.fields #[.ref l,.int 0 0]}
abbrev yB(t:Bool)(h:Heap)(l1 l2:Addr):Heap:=(yA t (yA t h l1) l2).push {cls:=.type "tuple",data:=.seq #[.ref h.objs.size,.ref (yA t h l1).objs.size]}
abbrev yC(t:Bool)(h:Heap)(l1 l2:Addr):Heap:=(yB t h l1 l2).push {cls:=.type "tuple",data:=.seq #[.none,.none]}
abbrev yD(t:Bool)(h:Heap)(l1 l2:Addr):Heap:=(yC t h l1 l2).push {cls:=.type "zip",data:=.fields #[.none,.bool false,.bool false,.ref (yA t (yA t h l1) l2).objs.size,.ref (yB t h l1 l2).objs.size]}
def zkj(t:Bool)(l1 l2:Addr)(xs ys:Array Value) :
  Meets (Builtin.«zip.__new__» {[.type "zip",.ref l1,.ref l2],[]}) (λ_ R s=>IsSq t s.heap l1 xs/\IsSq t s.heap l2 ys/\R (.ok (.ret (.ref (yC t s.heap l1 l2).objs.size))) {s with heap:=yD t s.heap l1 l2}):=
 .of_wp λprog w A R s h=>by
  obtain⟨hp,g,d,tk,os⟩:=s;obtain⟨hl1,hl2,h⟩:=h
  have hsub:=sub_zip
  have hA:IsSq t (Shared.heap ⟨hp,g,d,tk,os⟩) l1 xs:=hl1
  have hB:IsSq t (Shared.heap ⟨yA t hp l1,g,d,tk,os⟩) l2 ys:=hl2.at λo e=>Xab _ e
  wp_walk using zlL hA,zlL hB
  exact{_,O,h}
def hoX(t:Bool)(xs:List V):HO:=if t then .tup xs else .lst xs
def SqX(t:Bool)(H:Hp)(a:Addr)(xs:List V):Prop:=H a=some (hoX t xs)
def Inv.sqx{X:Cx}{pins:List (Addr×Obj)}{U:St}{H:Hp}{s:Shared}(I:Inv X pins U H s){t:Bool}{a:Addr}{xs:List V}(h:SqX t H a xs):∃its:List Value,Vals xs its/\IsSq t s.heap a its.toArray:=by
 cases t with
 | false =>
  obtain⟨its,r,p,_⟩:=I.list (SqL.of (xs:=xs) h)
  exact⟨its,r,p.isList⟩
 | true =>
  obtain⟨its,r,p,_⟩:=I.tuple (SqT.of (xs:=xs) h)
  exact⟨its,r,p⟩
def zj5{prog:Program}{w:World}{A:Around}{E:Value->Shared->Prop}{s:Shared}{t:Bool}{l1 l2:Addr}{xs ys:Array Value}{Q:Value->Shared->Prop}(g1:IsSq t s.heap l1 xs)(g2:IsSq t s.heap l2 ys)
  (q:∀h' n,n=s.heap.objs.size->IsZip h' (n+4) (n+2) (n+3) .none->IsPair h' (n+2) (.ref n) (.ref (n+1))->IsPair h' (n+3) .none .none->IsIt t h' n l1 0->IsIt t h' (n+1) l2 0 ->
   (∀d o,s.heap.get? d=some o->h'.get? d=some o)->Q (.ref (n+4)) {s with heap:=h'}) :
  wpAny (model prog w) A (call (.type "zip") [.ref l1,.ref l2]) Q E s:=by
 refine callType_new F.called_zip (by decide) (F.typeCall_zip_2 _ _) (F.newCall_zip_2 _ _) (λobj=>F.args_object_init_3 obj _ _) F.entry_zip_new (zkj t l1 l2 xs ys) {g1,g2,?_}
 have n1:(yA t s.heap l1).objs.size=s.heap.objs.size+1:=XaL ..
 have n2:(yA t (yA t s.heap l1) l2).objs.size=s.heap.objs.size+2:=by rw[XaL,n1]
 have n3:(yB t s.heap l1 l2).objs.size=s.heap.objs.size+3:=by rw[XaL,n2]
 have n4:(yC t s.heap l1 l2).objs.size=s.heap.objs.size+4:=by rw[XaL,n3]
 have a4:(yD t s.heap l1 l2).get? (yC t s.heap l1 l2).objs.size=some _:=Xai _ O
 have a3:(yD t s.heap l1 l2).get? (yB t s.heap l1 l2).objs.size=some _:=Xab _ (Xai _ O)
 have a2:(yD t s.heap l1 l2).get? (yA t (yA t s.heap l1) l2).objs.size=some _:=Xab _ (Xab _ (Xai _ O))
 have a1:(yD t s.heap l1 l2).get? (yA t s.heap l1).objs.size=some _:=Xab _ (Xab _ (Xab _ (Xai _ O)))
 have a0:(yD t s.heap l1 l2).get? s.heap.objs.size=some _:=Xab _ (Xab _ (Xab _ (Xab _ (Xai _ O))))
 show _/\_
 rw[n2,n3,n4] at a4
 rw[n3] at a3
 rw[n1,n2] at a2
 rw[n1] at a1
 rw[n4]
 exact⟨{_,a4,O},q _ _ O a4 a2 a3 {_,a0,O,O} {_,a1,O,O} λd o e =>
  Xab _ (Xab _ (Xab _ (Xab _ (Xab _ e))))⟩
def Ity(t:Bool)(a b:Addr):It:=
 ⟨λi H=>∃xs x ys y,SqX t H a xs/\SqX t H b ys/\xs[i]?=some x/\ys[i]?=some y,
  λi H v H'=>∃T x y,H T=none/\v=.ref T/\H'=upd H T (.tup [x,y])/\(∀xs,SqX t H a xs->xs[i]?=some x)/\∀ys,SqX t H b ys->ys[i]?=some y,
  λi H=>∃xs,SqX t H a xs/\xs.length<=i⟩
def zhn{t:Bool}{h:Heap}{z TI TO i1 i2 l k1 k2:Addr}{it:Array Value}{f0:Value}{n1 n2:Nat}(g:IsSq t h l it)(hz:IsZip h z TI TO f0)(lo:l≠TO)(h1:IsIt t h i1 k1 n1)(h2:IsIt t h i2 k2 n2):FarM z TO i1 i2 l:=by
 have ap:∀{d:Addr} {o:Obj},h.get? d=some o->o.cls≠.type (sqC t)->l≠d:=λ{d o} e nc y=>by
  obtain⟨o',e',c',_⟩:=g
  rw[y,e] at e';cases e';exact nc c'
 obtain⟨_,e1,c1,_⟩:=h1
 obtain⟨_,e2,c2,_⟩:=h2
 have ne:(Value.type (itC t))≠.type (sqC t):=by cases t<;>simp[itC,sqC]
 exact{ap hz (by cases t<;>simp[sqC]),lo,ap e1 (by rw[c1];exact ne),ap e2 (by rw[c2];exact ne)}
def ziS{H:Hp}{t:Bool}{a:Addr}{xs ys:List V}(h:SqX t H a xs)(h2:SqX t H a ys):xs=ys:=by
 have e:=Option.some.inj (h.symm.trans h2)
 cases t with
 | false=>exact HO.lst.inj e
 | true=>exact HO.tup.inj e
def ziN{P:Program}{w:World}{K:W.Frag}{elts:List Expr}{kt:Nat}{tp:Pos}(t:Bool)(l1 l2 z TI TO i1 i2:Addr)(D:Far2 z TO i1 i2)(TIz:TI≠z)(TITO:TI≠TO)(TI1:TI≠i1)(TI2:TI≠i2) :
  Turn P w K (.Tuple elts kt tp) (Ity t l1 l2) [z,TI,TO,i1,i2] z (λi h=>IsZip h z TI TO .none/\IsPair h TI (.ref i1) (.ref i2)/\(∃a b,IsPair h TO a b)/\IsIt t h i1 l1 i/\IsIt t h i2 l2 i) where
 mem:=by simp
 obj:=λi h st b hb=>by
  obtain⟨hz,hI,⟨_,_,hO⟩,⟨o1,e1,_,d1⟩,⟨o2,e2,_,d2⟩⟩:=st
  simp only[Xau,Xbc,or_false] at hb
  rcases hb with rfl|rfl|rfl|rfl|rfl
  .exact{_,hz,λv y=>by have y':Data.fields _=Data.cell v:=y;cases y'}
  .exact{_,hI,λv y=>by have y':Data.seq _ _=Data.cell v:=y;cases y'}
  .exact{_,hO,λv y=>by have y':Data.seq _ _=Data.cell v:=y;cases y'}
  .exact{_,e1,λv y=>by rw[d1] at y;cases y}
  .exact{_,e2,λv y=>by rw[d2] at y;cases y}
 keep:=λi h h' st k=>by
  obtain⟨hz,hI,⟨a,b,hO⟩,h1,h2⟩:=st
  exact{k z (by simp) _ hz,k TI (by simp) _ hI,{a,b,k TO (by simp) _ hO},h1.at λo e=>k i1 (by simp) o e,h2.at λo e=>k i2 (by simp) o e}
 item:=by
  intro X hP hw hK hc i pins s U H E I hf st hg
  subst hP hw hK
  obtain⟨xs,x,ys,y,p1,p2,e1,e2⟩:=hg
  obtain⟨t1,r1,f1⟩:=I.sqx p1
  obtain⟨t2,r2,f2⟩:=I.sqx p2
  obtain⟨v1,w1,rx⟩:=r1.get e1
  obtain⟨v2,w2,ry⟩:=r2.get e2
  obtain⟨hz,hI,⟨a,b,hO⟩,h1,h2⟩:=st
  have nO:H TO=none:=(hf TO (by simp)).1
  have far:∀{l:Addr} {zs:List V},SqX t H l zs->l≠TO:=λ{l zs} p e=>by rw[SqX,e,nO] at p;cases p
  have hT:s.TypeIs (.ref z) "zip" := {_,hz,O}
  unfold pyNext
  refine Xaa (wpAny_attempt (wpAny_callSpecial?_slot (name:=Str.ofString "__next__") hT F.slot_zip_next (XaW F.slot_zip_next hT F.entry_zip_next
   (ziF D (zhn f1 hz (far p1) h1 h2) (zhn f2 hz (far p2) h1 h2) hz hI hO h1 h2 f1 f2 (x:=v1) (y:=v2) (by simpa using w1) (by simpa using w2)
    λh' z1 O1 m1 m2 T1 s1 kk=>Xac {_,O,?_}) (F.args_zip_next_1 _))))
  refine wpAny_letOwnedTupleGo_zip z1 λh4 z4 sb=>?_
  have fT:FpOk X pins H s.heap.objs.size:=I.fpOk (Xae _) (I.hok.fresh (Xae _))
  have k2:∀d o,d∉[z,TI,TO,i1,i2]->s.heap.get? d=some o->h4.get? d=some o:=λd o hb e=>by
   simp only[Xau,Xbc,or_false,not_or] at hb
   obtain⟨q1,q2,q3,q4,q5⟩:=hb
   exact(sb.2 d q1).trans (kk d o q1 q3 q4 q5 e)
  have I1:Inv X pins U H {s with heap:=h4,toks:=s.toks}:=I.turnedL (ch:=[z,TI,TO,i1,i2]) k2 hf
  have eT:h4.get? s.heap.objs.size=some {cls:=.type "tuple",data:=.seq #[v1,v2]}:=(sb.2 _ (XbA (Xap hz))).trans T1
  have I2:=I1.track (o:=.tup [x,y]) fT (Xar I.sz (Xae _)) (zgG rx ry eT)
  refine⟨.ref s.heap.objs.size,_,I2,O,{_,x,y,fT.1,O,O,λys hy=>by rw[ziS hy p1];exact e1,λys hy=>by rw[ziS hy p2];exact e2},
   {z4,(sb.2 _ TIz).trans (kk _ _ TIz TITO TI1 TI2 hI),{_,_,sb.extBut _ _ D.oz O1},m1.at λo e=>sb.extBut _ _ D.az e,m2.at λo e=>sb.extBut _ _ D.bz e},λd hb=>?_⟩
  have hlt:d<s.heap.objs.size:=by
   obtain⟨_,g1,_⟩:=h1
   obtain⟨_,g2,_⟩:=h2
   simp only[Xau,Xbc,or_false] at hb
   rcases hb with rfl|rfl|rfl|rfl|rfl
   .exact Xap hz
   .exact Xap hI
   .exact Xap hO
   .exact Xap g1
   .exact Xap g2
  rw[zah (Xaz hlt)]
  exact(hf d hb).1
 done:=by
  intro X hP hw hK hc i pins s U H E I hf st hg
  subst hP hw hK
  obtain⟨xs,p1,hx⟩:=hg
  obtain⟨t1,r1,f1⟩:=I.sqx p1
  obtain⟨hz,hI,⟨a,b,hO⟩,h1,h2⟩:=st
  have nO:H TO=none:=(hf TO (by simp)).1
  have far:l1≠TO:=λe=>by rw[SqX,e,nO] at p1;cases p1
  have hT:s.TypeIs (.ref z) "zip" := {_,hz,O}
  have e1:=r1.length
  unfold pyNext
  refine Xaa (wpAny_attempt (wpAny_callSpecial?_slot (name:=Str.ofString "__next__") hT F.slot_zip_next (XaW F.slot_zip_next hT F.entry_zip_next
   (zkk (I.ok.hd hc) D (zhn f1 hz far h1 h2) hz hI h1 f1 (by simp;omega) λh' e kk he=>?_) (F.args_zip_next_1 _))))
  obtain⟨o,ho,hcl⟩:=he
  refine Xaa (wpAny_isInstance (T := "StopIteration") (b:=true) ⟨o,ho,hcl⟩ isSubtype_stop ?_)
  refine Xac {O,I.turnedL (t':=s.toks) (ch:=[z,TI,TO,i1,i2]) (λd o hb e=>?_) hf}
  simp only[Xau,Xbc,or_false,not_or] at hb
  exact kk d o hb.1 hb.2.2.2.1 e
 self:=λ_ _ _ _ _ st h=>wpAny_pyIter_zip st.1 h
inductive iZipX_1(R:It->Hp->Prop)(vs:List V)(H1:Hp):Prop
 | mk t a b xs ys(_:vs=[.ref a,.ref b])(_:SqX t H1 a xs)(_:SqX t H1 b ys)(_:R (Ity t a b) H1)
def iZipX(ta:TA):TI:=λU H R=>ta U H (iZipX_1 R)
def zmq{X:Cx}{a b:Expr}{ta:TA}{p pos:Pos}{elts:List Expr}{kt:Nat}{tp:Pos}(hg:Gl X "zip")(hm:X.mg "zip"=none)(ha:PA X [a,b] ta)(hs:starEach [a,b] X.env=(false,eval a X.env)::starEach [b] X.env:=by rfl)(hs2:(backTo pos (starEach [b] X.env)).any (·.1)=false:=by rfl) :
  PI X (.Tuple elts kt tp) (.Call (.Name "zip" p) [a,b] [] pos) (iZipX ta):=by
 intro pins s U H R I h
 refine Call_ (zc0 I hg hm zlj (PyProof.Rows.callWith_type1 (thn (ha pos pins s U H _ I h) λus s1 hh_=>?_) hs hs2))
 obtain⟨vs,H1,I1,r1,q1⟩:=hh_
 obtain⟨t,l1,l2,xs,ys,e,p1,p2,q⟩:=q1
 subst e
 cases r1 with
 | cons ra rr=>cases rr with
  | cons rb rr =>
   cases rr
   cases ra;cases rb
   obtain⟨t1,v1,f1⟩:=I1.sqx p1
   obtain⟨t2,v2,f2⟩:=I1.sqx p2
   refine zj5 f1 f2 λh' n hn hz hI hO h1 h2 kk=>?_
   refine wpAny_pyIter_zip hz ?_
   have I2:Inv X pins U H1 {s1 with heap:=h',toks:=s1.toks}:=I1.kept kk
   have ge:∀b,n<=b->FpOk X pins H1 b:=λb hb=>I1.fpOk (by rw[<- hn];exact hb) (I1.hok.fresh (by rw[<- hn];exact hb))
   have ne:∀i j:Nat,i≠j->(n+i:Nat)≠n+j:=λi j h=>by omega
   refine⟨n+4,[n+4,n+2,n+3,n,n+1],_,_,H1,O,I2,ziN t l1 l2 (n+4) (n+2) (n+3) n (n+1) {ne 3 4 (by decide),ne 0 4 (by decide),ne 1 4 (by decide),ne 3 0 (by decide),ne 3 1 (by decide),ne 0 1 (by decide)}
    (ne 2 4 (by decide)) (ne 2 3 (by decide)) (ne 2 0 (by decide)) (ne 2 1 (by decide)),{hz,hI,{_,_,hO},h1,h2},λb hb=>ge b ?_,q⟩
   simp only[Xau,Xbc,or_false] at hb
   rcases hb with rfl|rfl|rfl|rfl|rfl
   .exact Nat.le_add_right _ _
   .exact Nat.le_add_right _ _
   .exact Nat.le_add_right _ _
   .exact Xae _
   .exact Nat.le_add_right _ _
def zj0{t:Bool}{g:TG}{tf:TT}{te:TE}{Q:List V->Hp->Prop}{U:St}{H:Hp}{a b:Addr}{xs ys:List V}(Pv:Nat->List V->St->Hp->Prop)(he:xs.length=ys.length)(hn:xs.length<=sizeLine)(h0:Pv 0 [] U H)(hl:∀i rs U H,i<=xs.length->Pv i rs U H->SqX t H a xs/\SqX t H b ys/\rs.length<=i)
  (hs:∀i x y T rs U H,xs[i]?=some x->ys[i]?=some y->H T=none->Pv i rs U H->g (.ref T) U (upd H T (.tup [x,y])) λU2 H2=>tf U2 H2 λb H3=>if b=true then te U2 H3 λy H4=>Pv (i+1) (rs++[y]) U2 H4 else Pv (i+1) rs U2 H3)
  (hd:∀rs U H,Pv xs.length rs U H->Q rs H):zgA (Ity t a b) g tf te Q U H:=by
 refine{λi m rs U H=>m=xs.length-i/\i<=xs.length/\Pv i rs U H,{xs.length,by simp,Nat.zero_le _,h0},?_}
 rintro i m rs U H ⟨rfl,hi,p⟩
 obtain⟨q,q2,hz⟩:=hl i rs U H hi p
 by_cases hlt:i<xs.length
 .refine .inr {{xs,xs[i],ys,ys[i]'(by omega),q,q2,by simp[hlt],by simp[he▸hlt]},by omega,Pv (i+1),λys' U' H' p'=>{xs.length-(i+1),by omega,O,hlt,p'},λv H' y=>?_}
  obtain⟨T,x,y',hT,rfl,rfl,y1,y2⟩:=y
  exact hs i x y' T rs U _ (y1 xs q) (y2 ys q2) hT p
 .have e:i=xs.length:=by omega
  exact .inl {{xs,q,by omega},by omega,hd rs U H (e▸p)}
def zaI(T:String){X:Cx}{K:W.Frag}(hK:X.K=K):zcR X (.builtin "isinstance") (λxs H Q=>∃x t b,xs=[x,.ty T]/\TyOf K H x t/\W.kitOne K t (.type T)=some b/\Q (.bl b) H):=by
 subst hK
 intro pins s U H xs us Q I r h
 obtain⟨x,t,b,rfl,ty,e,q⟩:=h
 obtain⟨u,u2,rfl,rx,r2⟩:=zkp r
 obtain rfl:u2=Value.type T:=r2
 exact zge I rx ty e λtk=>{.bl b,H,I.tok _,O,q}
section
variable{X:Cx}{K:W.Frag}
def zbn{x:Str}{n:Int}{pos:Pos}(hg:Gl X x)(h:∃t,X.mg x=some (.int n t))(hd:(x==("__debug__" : Str))=false:=by decide):PE X (.Name x pos) (tC (.int n)):=by
 obtain⟨t,h⟩:=h
 exact zgY hg h {_,O} hd
end
def dP{α:Type}(ds us zs:List α):List α:=us++ds
def Vals.dP{ds:List V}{es:List Value}(d:Vals ds es){vs zs:List V}{us ws:List Value}(g:Vals vs us)(h:Vals zs ws):Vals (dP ds vs zs) (dP es us ws):=g.append d
def zly:RelV (.ty "str") (.type "str"):=rfl
def zco:RelV (.ty "tuple") (.type "tuple"):=rfl
def zfg:RelV (.ty "list") (.type "list"):=rfl
def zlW:bootBuiltins "str"=some (.type "str"):=by decide +kernel
def zbq:bootBuiltins "tuple"=some (.type "tuple"):=by decide +kernel
def zcQ:bootBuiltins "list"=some (.type "list"):=by decide +kernel
end L2
namespace Cb
open PySem L2
structure Blt(mg:Str->Option Value):Prop where
 len:mg "len"=none
 sum:mg "sum"=none
 all:mg "all"=none
 max:mg "max"=none
 min:mg "min"=none
 int:mg "int"=none
 bool:mg "bool"=none
 isinstance:mg "isinstance"=none
 range:mg "range"=none
 enumerate:mg "enumerate"=none
 zip:mg "zip"=none
 str:mg "str"=none
 tuple:mg "tuple"=none
 list:mg "list"=none
def NN(ext:List (Str×V)):Prop:=ext=[]\/∃r:Int,ext=[(("room" : Str),V.int r)]
structure Ob(C:Addr)(H:Hp)(a p:Addr)(ws:List V)(ext:List (Str×V)):Prop where
 ex:∃dx hd,H a=some (.ins C dx (("head",.str hd)::("held",.ref p)::ext))
 ls:H p=some (.lst ws)
 nn:NN ext
structure ClsOk(K:W.Frag)(C:Addr):Prop where
 cl:Cls K C
 head:NoAttr K C "head"
 held:NoAttr K C "held"
 room:NoAttr K C "room"
inductive spIsNum(vs:List V)(H:Hp)(Q:VK)(u3_:XK):Prop
 | mk (a b:Int)(_:vs=[.int a,.int b])(_:Q (.bl (decide (0<=a/\a<=b))) H)
inductive spIsWord(vs:List V)(H:Hp)(Q:VK)(u3_:XK):Prop
 | mk (a:Int)(_:vs=[.int a])(_:Q (.bl (decide (0<=a/\a<=255))) H)
inductive spChkWord(vs:List V)(H:Hp)(Q:VK)(u3_:XK):Prop
 | mk (a:Int)(_:vs=[.int a])(_:0<=a)(_:a<=255)(_:Q .non H)
inductive spLen(C:Addr)(L:List V->Nat)(vs:List V)(H:Hp)(Q:VK)(u3_:XK):Prop
 | mk a p ws ext(_:vs=[.ref a])(_:Ob C H a p ws ext)(_:Q (.int (L ws:Int)) H)
inductive spChkC(C:Addr)(L:List V->Nat)(vs:List V)(H:Hp)(Q:VK)(u3_:XK):Prop
 | mk a p ws ext (c:Int)(_:vs=[.ref a,.int c])(_:Ob C H a p ws ext)(_:0<=c)(_:c<L ws)(_:L ws<=5000)(_:Q .non H)
inductive spChkW(C:Addr)(L:List V->Nat)(vs:List V)(H:Hp)(Q:VK)(u3_:XK):Prop
 | mk a p ws ext (c v:Int)(_:vs=[.ref a,.int c,.int v])(_:Ob C H a p ws ext)(_:0<=c)(_:c<L ws)(_:L ws<=5000)(_:0<=v)(_:v<=255)(_:Q .non H)
inductive spLook(C:Addr)(vs:List V)(H:Hp)(Q:VK)(u3_:XK):Prop
 | mk a p ws ext (c:Nat) (x:V)(_:vs=[.ref a,.int (c:Int)])(_:Ob C H a p ws ext)(_:ws.length<=5000)(_:ws[c]?=some x)(_:Q x H)
inductive spWrite(C:Addr)(vs:List V)(H:Hp)(Q:VK)(u3_:XK):Prop
 | mk a p ws ext (c:Nat) (v:Int)(_:vs=[.ref a,.int (c:Int),.int v])(_:Ob C H a p ws ext)(_:ws.length<=5000)(_:c<ws.length)(_:0<=v)(_:v<=255)(_:Q .non (upd H p (.lst (ws.set c (.int v)))))
inductive spFixW(C:Addr)(vs:List V)(H:Hp)(Q:VK)(u3_:XK):Prop
 | mk a p ws ext (c:Nat) (v:Int)(_:vs=[.ref a,.int (c:Int),.int v])(_:Ob C H a p ws ext)(_:ws.length<=5000)(_:c<ws.length)(_:0<=v)(_:v<=255)(_:Q .non H)
inductive spMetR(C:Addr)(vs:List V)(H:Hp)(Q:VK)(u3_:XK):Prop
 | mk a p ext (v:Int)(_:vs=[.ref a,.int 0])(_:Ob C H a p [.int v] ext)(_:Q (.int v) (upd H p (.lst [.int ((v+1) % 256)])))
inductive spInit(K:W.Frag)(vs:List V)(H:Hp)(Q:VK)(u3_:XK):Prop
 | mk a C dx p hd(_:vs=[.ref a,.str hd,.ref p])(_:H a=some (.ins C dx []))(_:ClsOk K C)(_:∀H',H' a=some (.ins C dx [("head",.str hd),("held",.ref p)])->(∀b,b≠a->H' b=H b)->Q .non H')
end Cb
end
section
namespace L2
open PySem PySem.Spec PyProof.Rows PySem.SeqAt
section
variable{X:Cx}{K:W.Frag}
inductive tFs2_1(Q:VK)(a:Str)(y:V)(H2:Hp):Prop
 | mk (b:Str)(_:y=.str b)(_:b.length<=1000)(_:Q (.str (Str.empty++a++b)) H2)
inductive tFs2_2(tb:TE)(U:St)(Q:VK)(x:V)(H1:Hp):Prop
 | mk (a:Str)(_:x=.str a)(_:a.length<=1000)(_:tb U H1 (tFs2_1 Q a))
def tFs2(ta tb:TE):TE:=λU H Q=>ta U H (tFs2_2 tb U Q)
def pe_fs2{e v:Expr}{pos p2:Pos}{ta tb:TE}(he:PE X e ta)(hv:PE X v tb)(hE:evalEach [] X.env=[]:=by rfl):PE X (.JoinedStr [e,.FormattedValue v (-1) none p2] pos) (tFs2 ta tb):=by
 intro pins s U H Q I h
 refine JoinedStr_many ?_
 rw[hE]
 have l0:Str.empty.length=0:=rfl
 have hz:(3000:Nat)<=sizeLine:=by decide
 refine joinParts_cons (thn (he pins s U H _ I h) λu s1 hh_=>?_)
 obtain⟨x,H1,I1,rx,a,ex,la,q⟩:=hh_
 subst ex
 obtain⟨t,rfl⟩:=(show∃t,u=Value.str a t from rx)
 refine{by rw[strLen_append];omega,?_}
 refine joinParts_cons (FormattedValue_plain (thn (hv pins s1 U H1 _ I1 q) λu2 s2 hh_=>?_))
 obtain⟨y,H2,I2,ry,b,ey,lb,q2⟩:=hh_
 subst ey
 obtain⟨t2,rfl⟩:=(show∃t,u2=Value.str b t from ry)
 refine formatField_str (λt' tk=>{by rw[strLen_append,strLen_append];omega,?_}) (by omega)
 exact joinParts_nil {.str (Str.empty++a++b),H2,(I2.tok _).tok _,{_,O},q2} (by rw[strLen_append,strLen_append];omega)
inductive rEqL(K:W.Frag)(neg:Bool)(x:V)(y:V)(H:Hp)(Q:VK):Prop
 | mk a b (ns ms:List Int)(_:x=.ref a)(_:y=.ref b)(_:SqL K H a (ns.map V.int))(_:SqL K H b (ms.map V.int))(_:Q (.bl (neg != decide (ns=ms))) H)
def zcn:∀{ns:List Int} {us:List Value},Vals (ns.map V.int) us->∀(j:Nat) (h:j<us.length) (h2:j<ns.length),∃t,us[j]=Value.int ns[j] t
 | [],_,r,j,h,h2=>absurd h2 (Xbn _)
 | n::ns,us,r,j,h,h2=>by
  cases r with
  | cons r1 r2 =>
   cases j with
   | zero=>exact r1
   | succ j=>exact zcn r2 j (by simpa using h) (by simpa using h2)
def all_eq{ns ms:List Int}(hl:ns.length=ms.length):(List.range ns.length).all (λj=>ns[j]?==ms[j]?)=decide (ns=ms):=by
 rw[XbT,XbQ,decide_eq_true_iff]
 constructor
 .intro h
  apply List.ext_getElem? 
  intro i
  by_cases hi:i<ns.length
  .exact beq_iff_eq.mp (h i (XaU.mpr hi))
  .rw[XaG (by omega),XaG (by omega)]
 .intro h i _
  rw[h];exact beq_iff_eq.mpr O
def zlc{pins:List (Addr×Obj)}{s:Shared}{U:St}{H:Hp}{a b:Addr}{ns ms:List Int}(I:Inv X pins U H s)(ha:SqL X.K H a (ns.map V.int))(hb:SqL X.K H b (ms.map V.int)) :
  ∃its its2:Array Value,s.heap.IsList a its/\s.heap.IsList b its2/\its.size=ns.length/\its2.size=ms.length/\∀(A:Around) j (h1:j<its.size) (h2:j<its2.size),EqAt A s its[j] its2[j] (ns[j]?==ms[j]?):=by
 obtain⟨t1,r1,p1,_⟩:=I.list ha
 obtain⟨t2,r2,p2,_⟩:=I.list hb
 have l1:=r1.length
 have l2:=r2.length
 rw[Xag] at l1 l2
 refine{t1.toArray,t2.toArray,p1.isList,p2.isList,by simp[l1],by simp[l2],λA j h1 h2=>?_}
 have g1:j<t1.length:=by simpa using h1
 have g2:j<t2.length:=by simpa using h2
 obtain⟨u1,e1⟩:=zcn r1 j g1 (by omega)
 obtain⟨u2,e2⟩:=zcn r2 j g2 (by omega)
 have e:(ns[j]?==ms[j]?)=(ns[j]'(by omega)==ms[j]'(by omega)):=by
  rw[Xah (by omega),Xah (by omega)]
  rfl
 rw[e]
 simp only[List.getElem_toArray,e1,e2]
 exact EqAt.int_int _ _ _ _
def op_eqL(hu:X.A.units<cLine)(hK:X.K=K):OpR X (compareOp .Eq) (rEqL K false):=by
 subst hK
 rintro pins s U H x y v u Q I rx ry ⟨a,b,ns,ms,rfl,rfl,ha,hb,q⟩
 cases rx;cases ry
 obtain⟨i1,i2,g1,g2,l1,l2,he⟩:=zlc I ha hb
 by_cases hl:ns.length=ms.length
 .refine RcAt.lists (e:=λj=>ns[j]?==ms[j]?) g1 g2 (by omega) hu (λj h1 h2=>he _ j h1 h2) _ _ _ _ {.bl (false != decide (ns=ms)),H,I,?_,q}
  rw[l1,all_eq hl];show _=Value.bool _;rw[Bool.false_bne]
 .rw[Xan (λe=>hl (by rw[e]))] at q
  exact RcAt.lists_lengths g1 g2 (by rw[l1,l2];exact bne_iff_ne.mpr hl) hu _ _ _ _ {.bl false,H,I,O,q}
end
end L2
end
section
namespace L2
open PySem PySem.Spec PyProof.Rows Builtin
section
variable{prog:Program}{w:World}{A:Around}{E:Value->Shared->Prop}{s:Shared}{K:W.Frag}{x y C f:Addr}{ox oy:Obj}{od oe:Option Obj}
def zlY(Q:Bool->Shared->Prop):Value->Shared->Prop
 | .bool b,s'=>Q b s'
 | _,_=>False
def zmF{Q:Fin->Shared->Prop}(hu:A.units<cLine)(X:K.In s.heap)(I:W.InstAt s.heap x ox C od)(hs:W.findIn K (.ref C) "__eq__"=some (some (.ref f)))(hf:W.isFn K (.ref f)=true)
  (h:wpAny (model prog w) A (call (.ref f) [.ref x,.ref y]) (zlY λb s'=>Q (.done (.ret (.bool (!b)))) s') E s):wpAny (model prog w) A (Builtin.«object.__ne__» {[.ref x,.ref y],[]}) Q E s:=by
 delta Builtin.«object.__ne__»
 refine Xaa (Xac ?_)
 refine Xaa (wpAny_cRoomFor hu ?_)
 refine Xaa (m:=callSpecialIfBound? (.ref x) (Str.ofString "__eq__") [.ref y]) (W.ifBound_K X I hs hf (Xat h (λr s' hr=>?_) λ_ _ z=>z))
 cases r with
 | bool b=>exact Xaa (XaX (Xac hr))
 | _=>exact hr.elim
end
structure NeOk(K:W.Frag)(C:Addr):Prop where
 ne:W.findIn K (.ref C) "__ne__"=some (some (.builtin "object.__ne__"))
 ob:W.subIn K (.ref C) (.type "object")=some true
section
variable{X:Cx}
end
def zf8{sel:Nat->Bool}:∀(l:List Value) (n:Nat),(∀k,n<=k->k<n+l.length->sel k=false)->((l.zipIdx n).filterMap λx=>if sel x.2=true then none else some x.1)=l
 | [],_,_=>rfl
 | a::l,n,h=>by
  rw[List.zipIdx_cons,List.filterMap_cons]
  dsimp only
  rw[h n (Xae _) (by rw[Xaw];omega),if_neg Xal]
  dsimp only
  rw[zf8 l (n+1) λk h1 h2=>h k (by omega) (by rw[Xaw];omega)]
def zjI{sel:Nat->Bool}(l:List Value)(h:∀k,k<l.length->sel k=decide (k=0)):(l.zipIdx.filterMap λx=>if sel x.2=true then none else some x.1)=l.drop 1:=by
 cases l with
 | nil=>rfl
 | cons a l =>
  rw[List.zipIdx_cons,List.filterMap_cons]
  dsimp only
  rw[h 0 (by simp),if_pos (by decide)]
  dsimp only
  exact zf8 l (0+1) λk h1 h2=>by rw[h k (by rw[Xaw];omega)];exact Xan (by omega)
section
variable{prog:Program}{w:World}{A:Around}{E:Value->Shared->Prop}{s:Shared}
def ziu{l sl:Addr}{its:List Value}{n:Nat}{vu:Value}{Q:Unit->Shared->Prop}(hl:s.heap.get? l=some {cls:=.type "list",data:=.seq its.toArray n})(hs:s.heap.IsSliceOf sl .none vu .none)(pu:IsPart vu (some 1))(hsz:its.length<=sizeLine)
  (q:∀f:Array Value->Array Value,f its.toArray=(its.drop 1).toArray->Q () {s with heap:=s.heap.update l (Obj.mapSeq f)}):wpAny (model prog w) A (delItem (.ref l) (.ref sl)) Q E s:=by
 obtain⟨os,hos,hcs,hds⟩:=id hs
 have hT:s.TypeIs (.ref sl) "slice" := ⟨os,hos,hcs⟩
 have hL:s.TypeIs (.ref l) "list" := {_,hl,O}
 refine wpAny_delItem_slot hL (by decide) F.slot_list_delitem (XaW F.slot_list_delitem hL F.entry_list_delitem ?_ (F.args_list_delitem_2 _ _))
 show wpAny _ _ (Builtin.List.listSubscript? (.ref sl) >>= _) _ _ s;refine Xaa ?_;delta Builtin.List.listSubscript?
 refine Xaa (wpAny_specialOf hT slice_no_index ?_);simp only[Option.isNone_none,if_true];refine Xac ?_
 show wpAny _ _ (typeOf (.ref sl) >>= _) _ _ s;refine Xaa (wpAny_typeOf hT ?_);rw[if_neg (by decide),listSliceParts_eq]
 refine Xaa (Xaa (XaQ hos hds (x:=.none) O (Xaa (wpAny_listPart .none ?_))));rw[if_neg (show¬ ((rawPart none==rawInt 0)=true) from Xal)]
 refine Xaa (XaQ hos hds (x:=.none) O (Xaa (wpAny_listPart .none ?_)))
 refine Xaa (XaQ hos hds (x:=vu) O (Xaa (wpAny_listPart pu (Xac ?_))))
 refine Xaa (m:=Builtin.List.listItems (.ref l)) ?_;delta Builtin.List.listItems
 refine Xaa (Xbl hl O (Xac (Xaa (wpAny_of_eq (sliceIndices_raw none (some 1) none its.toArray.size (by simp)) ?_))))
 refine Xaa (XbK ?_)
 have key:∀sel:Nat->Bool,(∀k,k<its.length->sel k=decide (k=0))->((its.toArray.toList.zipIdx.filterMap λx=>if sel x.2=true then none else some x.1).toArray)=(its.drop 1).toArray:=λsel h=>by
  rw[show its.toArray.toList=its by simp,zjI its h]
 refine Xaa (wpAny_updateSeq hl O ?_ (by simpa using hsz) ?_)
 .refine Xaa (wpAny_letGo (Xac {_,O,q _ (key _ λk hk=>?_)}))
  have e:sliceBounds none (some 1) none its.toArray.size=(0,max 0 (min 1 (its.toArray.size:Int)),1):=by simp[sliceBounds]
  rw[e]
  show(if(1:Int)>0 then(decide ((0:Int)<=(k:Int))&&decide ((k:Int)<max 0 (min 1 (its.toArray.size:Int)))&&(((k:Int)-0) % 1==0)) else _)=decide (k=0)
  rw[if_pos (by decide),Int.emod_one,Xak (show(0:Int)<=(k:Int) by omega),Bool.true_and,show((0:Int)==0)=true from O,Bool.and_true,Xbz,show its.toArray.size=its.length by simp]
  omega
 .refine Nat.le_succ_of_le (Xar ?_ hsz)
  rw[Xaq]
  refine Xar (List.length_filterMap_le _ _) ?_
  simp
end
section
variable{X:Cx}{o:Expr}{td:TE}{pos p1 p2 p3:Pos}{k0:Nat}
inductive sDel1_1(D:Ends)(U:St)(x:V)(H1:Hp):Prop
 | mk a xs(_:x=.ref a)(_:H1 a=some (.lst xs))(_:D.nx U (upd H1 a (.lst (xs.drop 1))))
def sDel1(td:TE):TS:=λD U H=>td U H (sDel1_1 D U)
def zmm(ho:PE X o td):PS X (.Delete [.Subscript o (.Slice none (some (.Constant (.int 1) k0 p3)) none p2) p1] pos) (sDel1 td):=by
 intro pins s U H D I h
 refine wpAny_Delete (wpAny_deleteEach_cons (wpAny_delete_Subscript (thn (ho pins s U H _ I h) λu s1 hh_=>?_)))
 obtain⟨x,H1,I1,rx,a,xs,ex,ea,q1⟩:=hh_
 subst ex
 obtain rfl:u=Value.ref a:=rx
 refine wpAny_Slice ?_
 rw[evalPart_none]
 refine Xac (thn (zbi (X:=X) (zae (X:=X) (i:=1) (j:=k0) (pos:=p3)) pins s1 U H1 (λv H2=>v=some 1/\H2=H1) I1 {1,O,O,O}) λvu s2 hh_=>?_)
 obtain⟨l,H2,I2,pu,el,eh⟩:=hh_
 subst el eh
 refine Xac ?_
 have I4:Inv X pins U H2 {s2 with heap:=s2.heap.push {cls:=.type "slice",data:=.fields #[.none,vu,.none]}}:=I2.kept (t':=s2.toks) λb ob q=>Xab _ q
 obtain⟨z,its,n,r,hl,e⟩:=I4.lstM ea
 refine ziu (s:={s2 with heap:=s2.heap.push {cls:=.type "slice",data:=.fields #[.none,vu,.none]}}) e (Heap.IsSliceOf.new ..) pu (by omega) λf hf=>?_
 exact wpAny_deleteEach_nil {U,_,I4.lset (t':=s2.toks) ea e hf (r.drop 1) (by rw[XaV];omega),q1}
end
section
variable{X:Cx}{K:W.Frag}
def zbY{x:Str}{z:Str}{pos:Pos}(hg:Gl X x)(h:∃t,X.mg x=some (.str z t))(hd:(x==("__debug__" : Str))=false:=by decide):PE X (.Name x pos) (tC (.str z)):=by
 obtain⟨t,h⟩:=h
 exact zgY hg h {_,O} hd
def zhD{x:Str}{a:Addr}{pos:Pos}(hg:Gl X x)(h:X.mg x=some (.ref a))(hd:(x==("__debug__" : Str))=false:=by decide):PE X (.Name x pos) (tC (.ref a)):=zgY hg h O hd
def zhT(hK:X.K=K):zcR X (.builtin "isinstance") (λxs H Q=>∃x t D b,xs=[x,.ref D]/\TyOf K H x t/\W.kitOne K t (.ref D)=some b/\Q (.bl b) H):=by
 subst hK
 intro pins s U H xs us Q I r h
 obtain⟨x,t,D,b,rfl,ty,e,q⟩:=h
 obtain⟨u,u2,rfl,rx,r2⟩:=zkp r
 obtain rfl:u2=Value.ref D:=r2
 exact zge I rx ty e λtk=>{.bl b,H,I.tok _,O,q}
structure TyC(K:W.Frag)(C D:Addr):Prop where
 c1:W.findIn K (.ref C) "__class__"=some (some (.builtin "object.__class__"))
 c2:W.specialIn K (.builtin "object.__class__") "__get__"=some (some (.builtin "getset_descriptor.__get__"))
 c3:W.takesIn K (.builtin "object.__class__")=some true
 c4:W.mroIn K C (.type "object")=some true
 c5:W.kitOne K (.ref C) (.ref D)=some true
end
def zcr{K:W.Frag}{t:Value}{D:Addr}(h:W.isIn K t D=true):W.kitOne K t (.ref D)=some true:=by
 unfold W.isIn at h
 unfold W.kitOne W.kitCls
 by_cases e:(t==Value.ref D)=true
 .rw[if_pos e]
 .rw[if_neg e]
  simp only[Bool.or_eq_true,Xa0,beq_iff_eq] at h
  rcases h with h|h
  .exact absurd (beq_iff_eq.mpr h) e
  .dsimp only
   rw[if_pos (by simp only[Xa0,beq_iff_eq];exact h.1.1)]
   exact h.2
section
variable{X:Cx}{e:Expr}{p pos:Pos}{ta:TE}
end
section
variable{prog:Program}{w:World}{A:Around}{E:Value->Shared->Prop}{s:Shared}
end
section
variable{X:Cx}{o:Expr}{td tv:TE}{pos p1 p2 p3:Pos}{k0:Nat}
end
end L2
end
section
namespace L2
open PySem PySem.Spec PyProof.Rows HT PySem.SeqAt
section
section
variable{prog:Program}{w:World}{A:Around}{E:Value->Shared->Prop}{s:Shared}
def zli{t b:Addr}{ws:List Value}{Q:Value->Shared->Prop}(ht:IsTup s.heap t #[])(hb:IsTup s.heap b ws.toArray)(h:Q (.ref b) s):wpAny (model prog w) A (binaryOp .Add (.ref t) (.ref b)) Q E s:=by
 obtain⟨⟨cls,dd,data,sl⟩,ho,hc,n,hd⟩:=id ht
 obtain⟨⟨cls2,dd2,data2,sl2⟩,ho2,hc2,n2,hd2⟩:=id hb
 simp only at hc hd hc2 hd2
 subst hc hd hc2 hd2
 exact concat_meets {_,ho,O} {_,ho2,O} noFill_tuple_add seq_tuple_add PySem.F.slot_tuple_add PySem.F.entry_tuple_add (PySem.F.args_tuple_add_2 _ _)
   (tuple_addW0 t b #[] ws.toArray n n2 dd dd2 sl sl2 O) ⟨ho,ho2,h⟩
def zdr{t sl:Addr}{items:Array Value}{vl vu:Value}{lo hi:Option Int}{Q:Value->Shared->Prop}(ht:IsTup s.heap t items)(hs:s.heap.IsSliceOf sl vl vu .none)(pl:IsPart vl lo)(pu:IsPart vu hi)
  (hw:sIx items.size 0 lo=0/\sIx items.size items.size hi=items.size) (h:Q (.ref t) s):wpAny (model prog w) A (getItem (.ref t) (.ref sl)) Q E s:=by
 obtain⟨os,hos,hcs,hds⟩:=id hs
 have hTs:s.TypeIs (.ref sl) "slice" := ⟨os,hos,hcs⟩
 unfold getItem
 try with_reducible refine XaR ?_
 first|refine Xaa (Xac ?_)|skip
 refine Xaa (wpAny_sequenceKey ht.typeIs (by decide) ?_)
 refine Xaa (wpAny_callSpecial?_slot (name:=Str.ofString "__getitem__") ht.typeIs PyProof.Rows.slot_tuple_getitem
  (XaW PyProof.Rows.slot_tuple_getitem ht.typeIs entry_tuple_getitem ?_ (args_tuple_getitem _ _)))
 show wpAny _ _ (Builtin.Tuple.tupleItemsOf (.ref t) >>= _) _ _ s
 refine Xaa (tupleItemsOf_ ht ?_)
 refine Xaa (wpAny_typeOf hTs ?_)
 rw[if_pos (by decide)]
 refine Xaa (zb3 hs pl pu ?_)
 rw[hw.1,hw.2,Nat.sub_zero]
 have hyes:((((0:Nat):Int)==0&&(1:Int)==1&&items.size==items.size)=true):=by simp
 show wpAny _ _ (if(((0:Nat):Int)==0&&(1:Int)==1&&items.size==items.size)=true then _ else _) _ _ s
 rw[if_pos hyes]
 refine Xaa (m:=Builtin.Tuple.tupleIsExact _) ?_
 unfold Builtin.Tuple.tupleIsExact
 refine Xaa (wpAny_typeOf ht.typeIs (Xac ?_))
 rw[if_pos (by decide)]
 refine Xaa (XbK ?_)
 exact Xac {_,O,Xac h}
end
end
section
variable{X:Cx}{K:W.Frag}
inductive rSlT2(K:W.Frag)(x:V)(lo:Option Int)(hi:Option Int)(H:Hp)(Q:VK):Prop
 | mk a xs(_:x=.ref a)(_:SqT K H a xs)(_:(cutV xs lo hi=xs->Q (.ref a) H))(_:∀p,H p=none->Q (.ref p) (upd H p (.tup (cutV xs lo hi))))
def zgI(hK:X.K=K):SlR X (rSlT2 K):=by
 subst hK
 intro pins s U H x v vl vu lo hi sl Q I rx hs pl pu h
 obtain⟨a,xs,rfl,hx,q0,q⟩:=h
 by_cases hw:sIx xs.length 0 lo=0/\sIx xs.length xs.length hi=xs.length
 .cases rx
  obtain⟨its,r,ht,hz⟩:=I.tuple hx
  have hlen:its.toArray.size=xs.length:=by rw[Xaq];exact r.length.symm
  refine{"tuple",_,PyProof.Rows.slot_tuple_getitem.lookup,ht.typeIs,?_}
  refine zdr ht hs pl pu (by rw[hlen];exact hw) ?_
  exact{.ref a,H,I,O,q0 (by unfold cutV;rw[hw.1,hw.2];simp)}
 .exact sl_tup pins s U H _ v vl vu lo hi sl Q I rx hs pl pu ⟨a,xs,O,hx,hw,q⟩
inductive rCatT2(K:W.Frag)(x:V)(y:V)(H:Hp)(Q:VK):Prop
 | mk a b xs ys(_:x=.ref a)(_:y=.ref b)(_:SqT K H a xs)(_:SqT K H b ys)(_:xs.length+ys.length<=sizeLine)(_:(xs=[]->Q (.ref b) H))(_:(ys=[]->Q (.ref a) H))(_:(∀p,H p=none->Q (.ref p) (upd H p (.tup (xs++ys)))))
def zkQ(hK:X.K=K):OpR X (binaryOp .Add) (rCatT2 K):=by
 subst hK
 intro pins s U H x y v u Q I rx ry h
 obtain⟨a,b,xs,ys,rfl,rfl,ha,hb,hz,q0,q1,q2⟩:=h
 by_cases hx:xs=[]
 .cases rx
  cases ry
  obtain⟨its,r1,p1,_⟩:=I.tuple ha
  obtain⟨its2,r2,p2,_⟩:=I.tuple hb
  rw[r1.nil_iff.mpr hx] at p1
  exact zli p1 p2 {.ref b,H,I,O,q0 hx}
 .exact zmB pins s U H _ _ v u Q I rx ry {a,b,xs,ys,O,O,ha,hb,hx,hz,q1,λ_=>q2}
inductive rNeL0(K:W.Frag)(x:V)(y:V)(H:Hp)(Q:VK):Prop
 | mk a b xs(_:x=.ref a)(_:y=.ref b)(_:SqL K H a xs)(_:SqL K H b [])(_:Q (.bl (!xs.isEmpty)) H)
def zjj(hu:X.A.units<cLine)(hK:X.K=K):OpR X (compareOp .NotEq) (rNeL0 K):=by
 subst hK
 rintro pins s U H x y v u Q I rx ry ⟨a,b,xs,rfl,rfl,ha,hb,q⟩
 cases rx;cases ry
 obtain⟨its,r1,p1,_⟩:=I.list ha
 obtain⟨its2,r2,p2,_⟩:=I.list hb
 obtain rfl:=r2.nil_iff.mpr O
 have e:its.toArray.size=xs.length:=by rw[Xaq];exact r1.length.symm
 cases xs with
 | nil =>
  refine RcNeAt.lists (e:=λ_=>true) p1.isList p2.isList (by rw[e];rfl) hu (λj h1 h2=>absurd h2 (by simp)) _ _ _ _ {.bl false,H,I,?_,q}
  rw[e];rfl
 | cons z zs=>exact RcNeAt.lists_lengths p1.isList p2.isList (by rw[e];exact bne_iff_ne.mpr (by simp)) hu _ _ _ _ {.bl true,H,I,O,q}
def zlh{g:TG}{tf:TT}{te:TE}{Q:List V->Hp->Prop}{U:St}{H:Hp}{a:Addr}{xs:List V}(Pv:Nat->List V->St->Hp->Prop)(hn:xs.length<=sizeLine)(h0:Pv 0 [] U H)(hl:∀i ys U H,i<=xs.length->Pv i ys U H->SqT K H a xs/\ys.length<=i)
  (hs:∀i x ys U H,xs[i]?=some x->Pv i ys U H->g x U H λU2 H2=>tf U2 H2 λb H3=>if b=true then te U2 H3 λy H4=>Pv (i+1) (ys++[y]) U2 H4 else Pv (i+1) ys U2 H3)
  (hd:∀ys U H,Pv xs.length ys U H->Q ys H):zgA (Itt K a) g tf te Q U H:=by
 refine{λi m ys U H=>m=xs.length-i/\i<=xs.length/\Pv i ys U H,{xs.length,by simp,Nat.zero_le _,h0},?_}
 rintro i m ys U H ⟨rfl,hi,p⟩
 obtain⟨q,hz⟩:=hl i ys U H hi p
 by_cases hlt:i<xs.length
 .refine .inr {{xs,xs[i],q,by simp[hlt]},by omega,Pv (i+1),λys' U' H' p'=>{xs.length-(i+1),by omega,O,hlt,p'},λx H' y=>?_}
  obtain⟨e,y⟩:=y
  subst e
  exact hs i x ys U _ (y xs q) p
 .have e:i=xs.length:=by omega
  subst e
  exact .inl {{xs,q,Xae _},by omega,hd ys U H p}
end
end L2
end
section
namespace L2
open PySem PySem.Spec PyProof.Rows HT
def Slid(fs ch:List Addr)(h h':Heap):Prop:=∀b o,h.get? b=some o->b∉ch->(b∉fs->h'.get? b=some o)/\∃sl,h'.get? b=some {o with slots:=sl}
def Slid.of{fs ch:List Addr}{h h':Heap}(k:∀b o,h.get? b=some o->b∉ch->h'.get? b=some o):Slid fs ch h h':=λb o e hc=>{λ_=>k b o e hc,o.slots,k b o e hc}
def Slid.trans{fs ch:List Addr}{h1 h2 h3:Heap}(x:Slid fs ch h1 h2)(y:Slid fs ch h2 h3):Slid fs ch h1 h3:=λb o e hc=>by
 obtain⟨x1,sl,x2⟩:=x b o e hc
 refine{λhf=>(y b o (x1 hf) hc).1 hf,?_}
 obtain⟨_,sl2,y2⟩:=y b _ x2 hc
 exact⟨sl2,y2⟩
def Slid.mono{fs fs' ch ch':List Addr}{h h':Heap}(x:Slid fs ch h h')(hf:∀b∈fs,b∈fs')(hc:∀b∈ch,b∈ch'):Slid fs' ch' h h':=λb o e n=>{λz=>(x b o e λq=>n (hc b q)).1 λq=>z (hf b q),(x b o e λq=>n (hc b q)).2}
def XAt(h:Heap)(e T:Addr)(cls fl:Value)(od:Option Addr):Prop:=∃oe vs oT ts,h.get? e=some oe/\(oe.cls=cls/\oe.dict=od)/\oe.data=.fields vs/\vs[1]?=some (.ref T)/\T≠e/\h.get? T=some oT/\oT.data=.fields ts/\ts[3]?=some fl
section
variable{M:Model}{A:Around}{E:Value->Shared->Prop}{s:Shared}
def zeM(f:Array Value->Array Value)(o:Obj):(Obj.mapFields f o).dict=o.dict:=by
 obtain⟨c,d,dt,sl⟩:=o
 cases dt<;>rfl
def ziI{base:Heap}{env:Env}{outer:List Env}{L e:Addr}{oe:Obj}{vs:Array Value}{head:Value}{hadNext:Bool}{Q:Unit->Shared->Prop}
  (hfr:A.frames=some (env::outer)) (hl:s.heap.FunFrames base (env::outer)) (hf:env.frame=some L)
  (he:s.heap.get? e=some oe) (hd:oe.data=.fields vs) (hsz:1<vs.size)
  (h:∀h' T,s.heap.get? T=none->Slid ((env::outer).filterMap (·.frame)) [e] s.heap h'->XAt h' e T oe.cls (rawInt L) oe.dict->Q () {s with heap:=h'}) :
  wpAny M A (do let a <- frameOf env;let pl <- entryPlaceOf L hadNext;let b <- EntryCells.newEntry head a .none (rawInt L) .none pl;setField (.ref e) 1 b) Q E s:=by
 have hene:e∉(env::outer).filterMap (·.frame):=λhm=>by
  obtain⟨_,o,ho,hnf⟩:=hl.mem hm
  rw[he] at ho;injection ho with ho;subst ho;exact hnf vs hd
 refine Xaa (wpAny_frameOf_fun hfr hl hf λh₁ hs₁=>?_)
 refine Xaa (wpAny_entryPlaceOf λpl hpl=>?_)
 unfold EntryCells.newEntry newFields
 refine Xaa (XaO ?_ (hpl.sizeOk5 _ _ _ _ _))
 have he₁:h₁.get? e=some oe:=(hs₁.2.1 e hene).trans he
 have he₂:=Xab (h:=h₁) {cls:=.type "traceback",dict:=none,data:=.fields ([head,.ref L,.none,rawInt L,.none]++(if pl.isEmpty then List.replicate 6 Value.none else pl)).toArray} he₁
 refine Xa4 he₂ hd hsz (h _ h₁.objs.size ?_ ?_ ?_)
 .rw[hs₁.1];exact XbH (Xae _)
 .intro b o hb hc
  have hbe:b≠e:=λz=>hc (by rw[z];exact List.mem_singleton_self _)
  have keep:∀o',h₁.get? b=some o' ->
    ((h₁.push {cls:=.type "traceback",dict:=none,data:=.fields ([head,.ref L,.none,rawInt L,.none]++(if pl.isEmpty then List.replicate 6 Value.none else pl)).toArray}).update e (Obj.mapFields (·.setIfInBounds 1 (Value.ref h₁.objs.size)))).get? b=some o':=λo' hb=>by
   rw[XaS _ _ (Ne.symm hbe)]
   exact Xab _ hb
  refine{λhn=>keep o ((hs₁.2.1 b hn).trans hb),?_}
  obtain⟨sl,hs⟩:=hs₁.2.2 b o hb
  exact{sl,keep _ hs}
 .have hTe:h₁.objs.size≠e:=XbA (Xap he₁)
  have hd₃:=Obj.data_mapFields hd (·.setIfInBounds 1 (Value.ref h₁.objs.size))
  have he₃:=XaM (Obj.mapFields (·.setIfInBounds 1 (Value.ref h₁.objs.size))) he₂ (Obj.isFreed_of_fields hd₃)
  have hT₃:=(XaS (h₁.push {cls:=.type "traceback",dict:=none,data:=.fields ([head,.ref L,.none,rawInt L,.none]++(if pl.isEmpty then List.replicate 6 Value.none else pl)).toArray})
   (Obj.mapFields (·.setIfInBounds 1 (Value.ref h₁.objs.size))) (Ne.symm hTe)).trans (Xai h₁ O)
  exact{_,_,_,_,he₃,{Obj.cls_mapFields _ _,zeM _ _},hd₃,by simp[hsz],hTe,hT₃,O,by first|(simp;done)|(rcases hpl with rfl|⟨_,_,_,_,_,_,_,rfl⟩<;>simp)}
def zfH{base:Heap}{env:Env}{outer:List Env}{L e:Addr}{oe:Obj}{vs:Array Value}{Q:Unit->Shared->Prop}(hfr:A.frames=some (env::outer))(hl:s.heap.FunFrames base (env::outer))(hf:env.frame=some L)
  (he:s.heap.get? e=some oe) (hd:oe.data=.fields vs) (h1:vs[1]?=some .none)
  (h:∀h' T,s.heap.get? T=none->Slid ((env::outer).filterMap (·.frame)) [e] s.heap h'->XAt h' e T oe.cls (rawInt L) oe.dict->Q () {s with heap:=h'}):wpAny M A (noteFrame (.ref e) env) Q E s:=by
 unfold noteFrame
 simp only[hf]
 refine Xaa (XaQ he hd h1 ?_)
 rw[if_neg (by decide)]
 exact ziI hfr hl hf he hd (XbF.mp h1).1 h
def zgC{base:Heap}{env:Env}{outer:List Env}{L e T:Addr}{cls:Value}{od:Option Addr}{Q:Unit->Shared->Prop}(hfr:A.frames=some (env::outer))(hl:s.heap.FunFrames base (env::outer))(hf:env.frame=some L)
  (x:XAt s.heap e T cls .none od)
  (h:∀h' T',s.heap.get? T'=none->Slid ((env::outer).filterMap (·.frame)) [e,T] s.heap h'->XAt h' e T' cls (rawInt L) od->Q () {s with heap:=h'}):wpAny M A (noteFrame (.ref e) env) Q E s:=by
 obtain⟨oe,vs,oT,ts,he,⟨hcls,hdn⟩,hd,h1,hTe,hT,hdT,h3⟩:=x
 subst hcls hdn
 unfold noteFrame
 simp only[hf]
 refine Xaa (XaQ he hd h1 ?_)
 rw[if_pos (show(Value.ref T != Value.none)=true from by simp)]
 refine Xaa (XaQ hT hdT h3 ?_)
 rw[if_neg (show¬ ((Value.none==rawInt L)=true) from by simp[rawInt])]
 refine Xaa (Xa4 hT hdT (XbF.mp h3).1 ?_)
 have other:∀b,b≠T->(s.heap.update T (Obj.mapFields (·.setIfInBounds 3 Value.none))).get? b=s.heap.get? b:=λb hb=>XaS _ _ (Ne.symm hb)
 have noRecord:∀b o,s.heap.get? b=some o->(∀vs,o.data≠.fields vs)->b≠T:=λb o hb hnf q=>by
  rw[q,hT] at hb;injection hb with hb;subst hb;exact hnf ts hdT
 refine ziI hfr (hl.of_keeps λb o hb hnf=>{o,(other b (noRecord b o hb hnf)).trans hb,O}) hf ((other e (Ne.symm hTe)).trans he) hd (XbF.mp h1).1 λh' T' fT sl x'=>h h' T' ?_ ?_ x'
 .by_cases z:T'=T
  .have hd':=Obj.data_mapFields hdT (·.setIfInBounds 3 Value.none)
   have q:=XaM (Obj.mapFields (·.setIfInBounds 3 Value.none)) hT (Obj.isFreed_of_fields hd')
   rw[z,q] at fT;cases fT
  .exact(other T' z).symm.trans fT
 .refine Slid.trans (Slid.of λb o e hc=>(other b λz=>hc (by rw[z];simp)).trans e) (sl.mono (λ_ z=>z) λb z=>by rw[Xad.mp z];simp)
def zht{e T:Addr}{cls fl:Value}{od:Option Addr}{Q:Unit->Shared->Prop}(x:XAt s.heap e T cls fl od)(h:∀h',Slid [] [T] s.heap h'->XAt h' e T cls .none od->Q () {s with heap:=h'}):wpAny M A (setFlight (.ref e) none) Q E s:=by
 obtain⟨oe,vs,oT,ts,he,hcls,hd,h1,hTe,hT,hdT,h3⟩:=x
 have hsz:=(XbF.mp h3).1
 refine wpAny_setFlight_none he hd h1 hT hdT hsz (h _ ?_ ?_)
 .exact Slid.of λb o e hc=>(XaS _ _ λz=>hc (by rw[z];exact List.mem_singleton_self _)).trans e
 .have hd':=Obj.data_mapFields hdT (·.setIfInBounds 3 Value.none)
  have q:=XaM (Obj.mapFields (·.setIfInBounds 3 Value.none)) hT (Obj.isFreed_of_fields hd')
  exact{oe,vs,_,_,(XaS _ _ hTe).trans he,hcls,hd,h1,hTe,q,hd',by simp[hsz]}
def ze3{base:Heap}{env:Env}{outer:List Env}{L e:Addr}{oe:Obj}{vs:Array Value}{Q:Unit->Shared->Prop}(hfr:A.frames=some (env::outer))(hl:s.heap.FunFrames base (env::outer))(hf:env.frame=some L)
  (he:s.heap.get? e=some oe) (hd:oe.data=.fields vs) (h1:vs[1]?=some .none)
  (h:∀h' T,s.heap.get? T=none->Slid ((env::outer).filterMap (·.frame)) [e] s.heap h'->XAt h' e T oe.cls .none oe.dict->Q () {s with heap:=h'}):wpAny M A (leaving env (.ref e)) Q E s:=by
 unfold leaving
 refine Xaa (zfH hfr hl hf he hd h1 λh' T fT sl x=>zht x λh'' sl2 x2=>h h'' T fT ?_ x2)
 intro b o e hc
 obtain⟨s1,t1,s2⟩:=sl b o e hc
 have nT:b∉[T]:=λz=>by rw[Xad.mp z,fT] at e;cases e
 refine{λhn=>(sl2 b o (s1 hn) nT).1 (by simp),?_}
 exact(sl2 b _ s2 nT).2
end
end L2
end
section
namespace L2
open PySem PySem.Spec PyProof.Rows HT
section
variable{P:Program}{w:World}{H H':Hp}{h h':Heap}{fs ch:List Addr}
def ObjOk.there{a:Addr}{o:HO}(x:ObjOk P w H h a o):∃u,h.get? a=some u:=by
 cases o with
 | lst xs=>obtain⟨_,_,_,_,e⟩:=x;exact{_,e}
 | tup xs=>obtain⟨_,_,_,p⟩:=x;obtain⟨o,e,_⟩:=p;exact{_,e}
 | dK kvs=>obtain⟨_,_,_,_,o,_,_,e,_⟩:=x;exact{_,e}
 | dT kvs=>obtain⟨_,_,_,_,o,_,_,e,_⟩:=x;exact{_,e}
 | set S n=>obtain⟨o,_,_,_,e,_⟩:=x;exact{_,e}
 | ins C dx fs=>obtain⟨_,_,_,e,_⟩:=x;exact{_,e}
 | own y=>obtain⟨_,e⟩:=x;exact{_,e}
 | xd fs=>obtain⟨_,⟨_,_,_,e,_⟩,_⟩:=x;exact{_,e}
 | rng lo hi=>obtain⟨_,_,_,e⟩:=x;exact{_,e}
 | frz ob u=>obtain⟨e,_⟩:=x;exact{_,e}
 | tbl ps=>exact{_,x}
 | met f y=>exact{_,x}
 | ext φ=>obtain⟨_,⟨_,e⟩,_⟩:=x;exact{_,e}
def HOk.none_of{a:Addr}(x:HOk P w H h)(e:h.get? a=none):H a=none:=by
 cases q:H a with
 | none=>rfl
 | some o=>obtain⟨u,z⟩:=(x a o q).there;rw[e] at z;cases z
def HOk.slid(x:HOk P w H h)(sl:Slid fs ch h h')(hf:∀b∈fs,H b=none)(hc:∀b∈ch,H b=none):HOk P w H h':=λa o e=>by
 refine(x a o e).stay (λb u hb q=>?_) (λ_ z=>z) (λ_ _ z=>z)
 have hs:∃o',H b=some o':=by
  rcases hb with rfl|z
  .exact{_,e}
  .exact{_,z}
 obtain⟨o',hs⟩:=hs
 exact(sl b u q λz=>by rw[hc b z] at hs;cases hs).1 λz=>by rw[hf b z] at hs;cases hs
end
section
variable{X:Cx}{pins:List (Addr×Obj)}{U:St}{H:Hp}{s:Shared}{h':Heap}{ch:List Addr}
def Inv.none_ours(I:Inv X pins U H s){b:Addr}(hb:s.heap.get? b=none)(hx:b∉X.ex):X.s₀.heap.get? b=none/\b≠X.env.locals/\(∀x c,X.env.cells.lookup x=some c->c≠b)/\∀p∈X.pn++pins,p.1≠b:=by
 refine{?_,λz=>?_,λx c e z=>?_,λp hp z=>?_}
 .cases q:X.s₀.heap.get? b with
  | none=>rfl
  | some o=>obtain⟨o',e⟩:=I.base.there b o q hx;rw[e] at hb;cases hb
 .obtain⟨m,⟨o,es,ep,ho,_⟩,_⟩:=I.loc
  rw[<- z,hb] at ho;cases ho
 .obtain⟨v,oc,hoc,_⟩:=I.cell x c e
  rw[z,hb] at hoc;cases hoc
 .obtain⟨e,_⟩:=I.pin p hp
  rw[z,hb] at e;cases e
end
inductive CX1(P:Program)(w:World)(outer:List Env)(H:Hp)(s:Shared)(E:XK)(e:Value)(s':Shared):Prop
 | mk ea T H' C od(_:e=.ref ea)(_:s'.os=s.os)(_:AllBare s'.gens)(_:Un (frs outer) [] H H' s.heap s'.heap)(_:HOk P w H' s'.heap)(_:XAt s'.heap ea T (.ref C) .none od)(_:s.heap.get? ea=none)(_:s.heap.get? T=none)(_:H' ea=none)(_:H' T=none)(_:E (.ref C) od H')
end L2
end
section
namespace L2
open PySem PySem.Spec PyProof.Rows HT
def NsK(K:W.Frag)(N:Addr):Prop:=∃c d es ep sl,K.lookup N=some {c,d,.dict es ep,sl}/\StrKeys es/\nsFind es "__init__"=none
def bmV:List Value:=[.type "ValueError",.type "Exception",.type "BaseException",.type "object"]
inductive TailK(K:W.Frag):List Value->Prop
 | base:TailK K bmV
 | own {A:Addr} {c0:Value} {dd:Option Addr} {cd:ClassData} {sl:Array (Option Value)} {tl:List Value}:K.lookup A=some {c0,dd,.cls cd,sl}->NsK K cd.ns->TailK K tl->TailK K (.ref A::tl)
def NsK.ns{K:W.Frag}{N:Addr}{h:Heap}(x:NsK K N)(k:K.In h):∃m,h.Ns N m/\m "__init__"=none:=by
 obtain⟨c,d,es,ep,sl,e,hs,hi⟩:=x
 exact{nsFind es,{_,es,ep,k _ _ e,O,hs,λ_=>O},hi}
def TailK.tail{K:W.Frag}{bm:List Value}{h:Heap}(x:TailK K bm)(k:K.In h):OwnTail h bmV bm:=by
 induction x with
 | base=>exact .base
 | own e n _ ih =>
  obtain⟨m,hn,hi⟩:=n.ns k
  exact .own (k _ _ e) hn hi ih
section
variable{X:Cx}{x:Str}{C:Addr}{e:Expr}{te:TE}{np cpos pos:Pos}{R:Hp->Prop}
end
end L2
end
section
namespace L2
open PySem PySem.Spec PyProof.Rows HT
def PS.nox{X:Cx}{st:Stmt}{t:TS}(h:PS X.nox st t):PS X st t:=λpins s U H D I hw =>
 Xat (h pins s U H D (I.wish _) hw) (λ_ _ q=>q.unwish) λ_ _ z=>False.elim z
def Fun.okX{P:Program}{w:World}{K:W.Frag}{mg:Str->Option Value}{base:Heap}{x qual:Str}{st:Stmt}{f:Addr}{fd:FuncData}{N ps:List Str}{k:Nat}{sp:Sp}(F:Fun K x qual st f fd)(S:FnScope N ps (zaj st))(len:∀vs H Q E,sp vs H Q E->vs.length=ps.length)
  (hbody:∀(cdv:Value) (A:Around) (outer:List Env) (s:Shared) (H:Hp) (vs:List V) (Q:VK) (E:XK),Room k (A.deeper (envOfC qual (zaj st) s.heap.objs.size f cdv))->sp vs H Q E ->
   ∃t,PSs (cxOf (CX1 P w) P w K mg base N qual (zaj st) f cdv A outer s H E) (za2 st) t/\t {nx:=λ_ H'=>Q .non H',rt:=Q} (start N vs) H):FnOk P w K mg base (CX1 P w) (k+1) f fd ps sp:=by
 obtain⟨oc,od,kV,doc,pm,an,cdv,ct,osl,rfl,lk,hcd⟩:=F.ex
 exact zlb lk hcd S len λA outer s H vs Q E hr hsp=>hbody cdv A outer s H vs Q E hr hsp
section
variable{X:Cx}{pins:List (Addr×Obj)}{U:St}{H:Hp}{s:Shared}
end
end L2
end
section
namespace L2
open PySem PySem.Spec PyProof.Rows HT
section
variable{X:Cx}{k:Nat}{ps:List Str}{sp:Sp}{x fn cn n y:Str}{i j l:Nat}{Cb:Addr}{e:Expr}{t:TA}{px p1 p2 p3 p4 p5 p6 p7 p8 p9:Pos}
end
end L2
end
section
namespace L2
open PySem PySem.Spec PyProof.Rows HT PySem.W PySem.Calls
section
variable{prog:Program}{w:World}{A:Around}{E:Value->Shared->Prop}{s:Shared}{K:Frag}{x C:Addr}{ox:Obj}{oD:Option Obj}
structure XCls(K:Frag)(C:Addr):Prop where
 look:∃c d cd sl,K.lookup C=some {c,d,.cls cd,sl}
 ga:findIn K (.ref C) "__getattribute__"=some (some (.builtin "BaseException.__getattribute__"))
 gr:findIn K (.ref C) "__getattr__"=some none
 cf:∀oD:Option Obj,findObj K C oD "__class__"=some (.bind (.builtin "getset_descriptor.__get__") (.builtin "object.__class__"))
 sub:subIn K (.ref C) (.type "BaseException")=some true
 mro:mroIn K C (.type "object")=some true
end
section
variable{X:Cx}{K:Frag}
end
end L2
end
section
namespace L2
open PySem PySem.Spec PyProof.Rows HT
def FnOk.calm{P:Program}{w:World}{K:W.Frag}{mg:Str->Option Value}{base:Heap}{k:Nat}{f:Addr}{fd:FuncData}{ps:List Str}{sp:Sp}(F:FnOk P w K mg base (CX1 P w) k f fd ps sp) :
  FnOk P w K mg base CX0 k f fd ps (λvs H Q _=>sp vs H Q λ_ _ _=>False):=
 ⟨λvs H Q E h=>F.len vs H Q _ h,λA outer s H args us vs Q E hr he hb hv hs=>Xbv (F.run A outer s H args us vs Q _ hr he hb hv hs) λr s' h=>by
  cases r with
  | ok fl=>cases fl<;>exact h
  | error e=>obtain⟨_,_,_,_,_,_,_,_,_,_,_,_,_,_,_,z⟩:=h;exact z.elim⟩
section
variable{X:Cx}{K:W.Frag}
def zdY:∀{xs:List V} {us:List Value},xs.length=us.length->(∀(j:Nat) (v:Value),us[j]?=some v->∃x,xs[j]?=some x/\RelV x v)->Vals xs us
 | [],[],_,_=>.nil
 | x::xs,u::us,hl,h=>by
  obtain⟨x',e,r⟩:=h 0 u O
  cases e
  exact .cons r (zdY (by simpa using hl) λj v hv=>h (j+1) v (by simpa using hv))
 | [],_::_,hl,_=>by simp at hl
 | _::_,[],hl,_=>by simp at hl
def zgs:zcR X (.type "range") (λxs H Q=>∃n:Nat,xs=[.int (n:Int)]/\∀p,H p=none->Q (.ref p) (upd H p (.rng 0 (n:Int)))):=by
 intro pins s U H xs us Q I r h
 obtain⟨n,rfl,q⟩:=h
 obtain⟨u,rfl,t,rfl⟩:=zc5 r
 refine call_range_1 {.ref _,_,I.laid (t':=s.toks+1+1) (o:=.rng 0 (n:Int)) (λb ob q=>Xab _ q) (Xae _) ?_,O,q _ (I.hok.fresh (Xae _))}
 exact{_,_,_,Xai _ O}
def ziz(hc:X.calm=true):zcR X (.type "list") (λxs H Q=>∃(p:Addr) (n:Nat),xs=[.ref p]/\H p=some (.rng 0 (n:Int))/\n<=1000/\∀l,H l=none->Q (.ref l) (upd H l (.lst ((List.range n).map λ(b:Nat)=>V.int (b:Int))))):=by
 intro pins s U H xs us Q I r h
 obtain⟨p,n,rfl,e,hn,q⟩:=h
 obtain⟨u,rfl,r1⟩:=zc5 r
 obtain rfl:u=Value.ref p:=r1
 obtain⟨t,u,v,g⟩:=(show ObjOk X.prog X.w H s.heap p (.rng 0 (n:Int)) from I.hok p _ e)
 have rs:Builtin.Range.rangeSize 0 (n:Int) 1=(n:Int):=by unfold Builtin.Range.rangeSize;simp;omega
 have fits:∀k:Int,0<=k->k<=1000->Builtin.Range.rangeFitsLong k=true:=λk h1 h2=>by unfold Builtin.Range.rangeFitsLong;simp;omega
 refine call_list_range (n:=n) (I.ok.hd hc) g ?_ ?_ (Xar hn (by decide)) λh' tk acc c kp gl it=>?_
 .unfold Builtin.Range.small;simp[rs,fits 0 (by omega) (by omega),fits 1 (by omega) (by omega),fits (n:Int) (by omega) (by omega)]
 .exact rs
 refine{.ref _,_,I.laid (t':=tk) (o:=.lst ((List.range n).map λ(b:Nat)=>V.int (b:Int))) kp (Xae _) ?_,O,q _ (I.hok.fresh (Xae _))}
 refine{?_,acc.toList,c,?_,by simpa using gl}
 .rw[Xag,XaH];exact Xar hn (by decide)
 .refine zdY ?_ λj v hv=>?_
  .rw[Xag,XaH,Array.length_toList];exact it.1.symm
  .have hj:j<n:=by rw[<- it.1];simpa using(Xaf.mp hv).1
   obtain⟨t,e⟩:=it.2 j v (by simpa using hv)
   refine{V.int (j:Int),by simp[hj],t,?_}
   rw[e]
   congr 1
   omega
def zia(hK:X.K=K):OpR X (compareOp .In) (rIn K false):=by subst hK;exact zjl
end
end L2
end
section
namespace L2
open PySem PySem.Spec PyProof.Rows HT
def zhs{P:Program}{w:World}{K:W.Frag}{mg:Str->Option Value}{base:Heap}{N:List Str}{qual:Str}{scope:Scope}{f:Addr}{cd:Value}{A:Around}{outer:List Env}{s:Shared}{H:Hp}{E:XK} :
  Passes (CX1 P w) (cxOf (CX1 P w) P w K mg base N qual scope f cd A outer s H E) E:=by
 intro pins U H1 s1 ev s' I hq
 obtain⟨ea,T,H',C,od,rfl,os,bare,un,hok,xa,f1,f2,n1,n2,hE⟩:=hq
 have J:Inv (cxOf (CX1 P w) P w K mg base N qual scope f cd A outer s H E) pins U H' s':=I.call' (ch:=[]) os un hok bare (λb z=>absurd z (by simp))
 have b1:=J.base
 have o1:=I.none_ours f1 (show ea∉([]:List Addr) by simp)
 have o2:=I.none_ours f2 (show T∉([]:List Addr) by simp)
 show wpAny _ _ (leaving _ (.ref ea)) _ _ s'
 unfold leaving
 refine Xaa (zgC J.ok.frames J.stack (L:=s.heap.objs.size) O xa λh1 T2 fT2 sl x2=>zht x2 λh2 sl2 x3=>?_)
 have oT:s.heap.get? T2=none:=(J.none_ours fT2 (show T2∉([]:List Addr) by simp)).1
 have o1':s.heap.get? ea=none:=o1.1
 have o2':s.heap.get? T=none:=o2.1
 have nT2:∀b o,s.heap.get? b=some o->b∉[T2]:=λb o q z=>by rw[Xad.mp z,oT] at q;cases q
 have ne:∀b o,s.heap.get? b=some o->b∉[ea,T]:=λb o q z=>by
  rcases Xau.mp z with r|r
  .rw[r,o1'] at q;cases q
  .rw[Xad.mp r,o2'] at q;cases q
 have nL:∀b o,s.heap.get? b=some o->b∉frs outer->b∉((envOfC qual scope s.heap.objs.size f cd)::outer).filterMap (·.frame):=λb o q hb z=>by
  rcases Xau.mp (show b∈s.heap.objs.size::outer.filterMap (·.frame) from z) with r|r
  .exact absurd r (Xaz (Xap q))
  .exact hb r
 have J1:HOk P w H' h1:=J.hok.slid sl (λb hb=>J.stkFree b hb) λb hb=>by
  rcases Xau.mp hb with rfl|hb
  .exact n1
  .rw[Xad.mp hb];exact n2
 have n3:H' T2=none:=J.hok.none_of fT2
 refine{ea,T2,H',C,od,O,J.os,J.bare,{λb o q n hb _=>?_,λb o q n hb _=>?_,λb o q n _=>b1.free b o q n (by show b∉([]:List Addr);simp),λb o q _=>?_,b1.tups,b1.frzs,b1.tbls},?_,x3,o1',oT,n1,n3,hE}
 .have q1:=(sl b o (b1.keep b o q n hb (by show b∉([]:List Addr);simp)) (ne b o q)).1 (nL b o q hb)
  exact(sl2 b o q1 (nT2 b o q)).1 (by simp)
 .obtain⟨t1,e1⟩:=b1.slot b o q n hb (by show b∉([]:List Addr);simp)
  obtain⟨t2,e2⟩:=(sl b _ e1 (ne b o q)).2
  exact(sl2 b _ e2 (nT2 b o q)).2.elim λt3 e3=>⟨t3,e3⟩
 .obtain⟨o',e1⟩:=b1.there b o q (by show b∉([]:List Addr);simp)
  obtain⟨t2,e2⟩:=(sl b _ e1 (ne b o q)).2
  obtain⟨t3,e3⟩:=(sl2 b _ e2 (nT2 b o q)).2
  exact{_,e3}
 .exact J1.slid sl2 (λb hb=>nomatch hb) λb hb=>by rw[Xad.mp hb];exact n3
section
variable{P:Program}{w:World}{K:W.Frag}{mg:Str->Option Value}{base:Heap}{N:List Str}{qual:Str}{scope:Scope}{f:Addr}{cd:Value}{A:Around}{outer:List Env}{s:Shared}{H:Hp}{E:XK}
variable{k:Nat}{ps:List Str}{sp:Sp}{x:Str}{p pos:Pos}{e:Expr}{es:List Expr}{t:TA}
end
end L2
end
section
namespace L2
open PySem PySem.Spec PyProof.Rows HT
section
variable{X:Cx}{k:Nat}{ps:List Str}{sp:Sp}{x fn cn n y:Str}{i j l:Nat}{Cb:Addr}{e:Expr}{es:List Expr}{t:TA}{px p1 p2 p3 p4 p5 p6 p7 p8 p9:Pos}
end
end L2
end
section
namespace L2
open PySem PySem.Spec PyProof.Rows HT
def zgl{prog:Program}{w:World}{A:Around}(hh:A.handled=none)(it l:Addr)(hne:l≠it)(items:Array Value) :
  Draws prog w A it [it,l] items.size (λi v=>items[i]?=some v) (λi h=>IsIt true h it l i/\IsSq true h l items) where
 live:=λ_ _ st=>let⟨o,ho,_⟩:=st.1;⟨o,ho⟩
 frame:=λ_ _ _ st hk=>{st.1.at λo e=>hk it (by simp) o e,st.2.at λo e=>hk l (by simp) o e}
 item:=λi s Q E hi st hQ=>by
  refine zhc st.1 st.2 (x:=items[i]) (by simp[hi]) λh' hit' hs'=>?_
  exact hQ _ h' s.toks (by simp[hi]) {hit',st.2.at λo e=>hs'.extBut l o hne e} hs'
 done:=λs Q E st hE=>zlI hh st.1 st.2 (by simp) hE
set_option tactic.hygienic true in
def zcv(l:Addr)(items:Array Value)(n:Nat)(dct:Option Addr)(sl:Array (Option Value)) :
  Meets (Builtin.«enumerate.__new__» {[.type "enumerate",.ref l],[]}) (λ_ R s=>s.heap.get? l=some {cls:=.type "tuple",dict:=dct,data:=.seq items n,slots:=sl} /\
   R (.ok (.ret (.ref (s.heap.push {cls:=.type "tuple_iterator",data:=.fields #[.ref l,.int 0 0]}).objs.size)))
    {s with heap:=(s.heap.push {cls:=.type "tuple_iterator",data:=.fields #[.ref l,.int 0 0]}).push {cls:=.type "enumerate",data:=.fields #[.none,.bool false,.ref s.heap.objs.size,rawInt 0,.none,.none]}}):=
 .of_wp λprog w A R s h=>by
  obtain⟨hp,g,d,tk,os⟩:=s;obtain⟨hl,h⟩:=h
  have hsub:=sub_enumerate
  have hL:Heap.IsTuple (Shared.heap ⟨hp,g,d,tk,os⟩) l items:={_,hl,O,n,O}
  wp_walk using wpAny_loadPart' hl
  refine wpAny_stack_any λst=>Xac ?_
  split
  .rename_i c _ _ _ _ _
   cases(c==Value.type "enumerate")
   .wp_walk using wpAny_loadPart' hl,XbS hL
    exact{_,O,h}
   .wp_walk using wpAny_loadPart' hl,XbS hL
    exact{_,O,h}
  .wp_walk using wpAny_loadPart' hl,XbS hL
   exact{_,O,h}
def zc3{prog:Program}{w:World}{A:Around}{E:Value->Shared->Prop}{s:Shared}{l:Addr}{items:Array Value}{Q:Value->Shared->Prop}(hL:IsSq true s.heap l items)
  (h:∀h',IsEnum h' (s.heap.objs.size+1) s.heap.objs.size 0 .none->IsIt true h' s.heap.objs.size l 0->h'.objs.size=s.heap.objs.size+2 ->
   (∀b o,s.heap.get? b=some o->h'.get? b=some o)->Q (.ref (s.heap.objs.size+1)) {s with heap:=h'}) :
  wpAny (model prog w) A (call (.type "enumerate") [.ref l]) Q E s:=by
 obtain⟨⟨c,dct,dt,sl⟩,hl,hc,n,hd⟩:=hL
 replace hc:c=.type "tuple" := hc
 replace hd:dt=.seq items n:=hd
 subst hc hd
 refine callType_new F.called_enumerate (by decide) (F.typeCall_enumerate_1 _) (F.newCall_enumerate_1 _) (λobj=>F.args_object_init_2 obj _) F.entry_enumerate_new
  (zcv l items n dct sl) {hl,?_}
 have hz:(s.heap.push {cls:=.type "tuple_iterator",data:=.fields #[.ref l,.int 0 0]}).objs.size=s.heap.objs.size+1:=XaL ..
 show _/\_
 rw[hz]
 have he:IsEnum ((s.heap.push {cls:=.type "tuple_iterator",data:=.fields #[.ref l,.int 0 0]}).push
   {cls:=.type "enumerate",data:=.fields #[.none,.bool false,.ref s.heap.objs.size,rawInt 0,.none,.none]}) (s.heap.objs.size+1) s.heap.objs.size 0 .none:=by
  have:=Xai (s.heap.push {cls:=.type "tuple_iterator",data:=.fields #[.ref l,.int 0 0]})
   (o:={cls:=.type "enumerate",data:=.fields #[.none,.bool false,.ref s.heap.objs.size,rawInt 0,.none,.none]}) O
  rw[hz] at this;exact this
 refine{{_,he,O},h _ he {_,Xab _ (Xai _ O),O,O} (by rw[XaL,hz]) λb o x=>Xab _ (Xab _ x)}
def IteT(K:W.Frag)(a:Addr):It:=
 ⟨λi H=>∃xs x,SqT K H a xs/\xs[i]?=some x,
  λi H v H'=>∃T x,H T=none/\v=.ref T/\H'=upd H T (.tup [.int i,x])/\∀xs,SqT K H a xs->xs[i]?=some x,
  λi H=>∃xs,SqT K H a xs/\xs.length=i⟩
def zh2{P:Program}{w:World}{K:W.Frag}{elts:List Expr}{kt:Nat}{tp:Pos}(a e it:Addr)(hne:e≠it) :
  Turn P w K (.Tuple elts kt tp) (IteT K a) [e,it] e (λi h=>(∃old,IsEnum h e it i old)/\IsIt true h it a i) where
 mem:=by simp
 obj:=λi h st b hb=>by
  obtain⟨⟨old,he⟩,hi⟩:=st
  rcases Xau.mp hb with z|z
  .subst z
   exact⟨_,he,λv z=>by
    have z':Data.fields _=Data.cell v:=z
    cases z'⟩
  .have z:=Xad.mp z
   subst z
   obtain⟨o,e1,c,d⟩:=hi
   exact{o,e1,λv z=>by rw[d] at z;cases z}
 keep:=λi h h' st k=>by
  obtain⟨⟨old,he⟩,hi⟩:=st
  exact{{old,k e (by simp) _ he},hi.at λo e1=>k it (by simp) o e1}
 item:=by
  intro X hP hw hK hc i pins s U H E I hf st hg
  subst hP hw hK
  obtain⟨xs,x,hq,hx⟩:=hg
  obtain⟨its,rv,p,hz⟩:=I.tuple hq
  obtain⟨u,hu,ru⟩:=rv.get hx
  obtain⟨⟨old,he⟩,hi⟩:=st
  have hsq:IsSq true s.heap a its.toArray:=p
  have cls:∀b o,s.heap.get? b=some o->o.cls≠.type "tuple" -> a≠b:=λb o e nc z=>by
   obtain⟨oa,ea,ca,_⟩:=hsq
   rw[z,e] at ea;cases ea;exact nc ca
  have hai:a≠it:=by
   obtain⟨o,e1,c,_⟩:=id hi
   exact cls it o e1 (by rw[c];decide)
  have hae:a≠e:=cls e _ he (by show Value.type "enumerate" ≠ Value.type "tuple"; decide)
  have hlt:i<its.toArray.size:=by
   have:=(Xaf.mp hu).1
   simpa using this
  refine wpAny_pyNext_enum_itemD (zgl (prog:=X.prog) (w:=X.w) (A:=X.A.in1) (show X.A.in1.handled=none from I.ok.hd hc) it a hai its.toArray) he ⟨hi,hsq⟩ hlt hne (by simp[hne,Ne.symm hae]) λx' h' tk hx' ho st' ht hsz kk=>{_,O,?_}
  have ex:x'=u:=by
   have e1:its[i]?=some x':=by simpa using hx'
   rw[hu] at e1;cases e1;rfl
  subst ex
  refine wpAny_letOwnedTupleGo_enum ho λh2 he2 sb=>?_
  have fT:FpOk X pins H s.heap.objs.size:=I.fpOk (Xae _) (I.hok.fresh (Xae _))
  have k2:∀b o,b∉[e,it]->s.heap.get? b=some o->h2.get? b=some o:=λb o hb e1=>by
   simp only[Xau,Xbc,or_false,not_or] at hb
   exact(sb.2 b hb.1).trans (kk b o hb.1 hb.2 e1)
  have I1:Inv X pins U H {s with heap:=h2,toks:=tk+1}:=I.turnedL (ch:=[e,it]) k2 hf
  have eT:h2.get? s.heap.objs.size=some {cls:=.type "tuple",data:=.seq #[.int i tk,x']}:=(sb.2 _ (XbA (Xap he))).trans ht
  have I2:=I1.track (o:=.tup [.int i,x]) fT (Xar I.sz (Xae _)) (zgG {_,O} ru eT)
  refine{.ref s.heap.objs.size,_,I2,O,{_,x,fT.1,O,O,λys hy=>by rw[I.tuple_inj hy hq];exact hx},{{x',by exact_mod_cast he2},st'.1.at λo e1=>sb.extBut it o (Ne.symm hne) e1},λb hb=>?_}
  obtain⟨o,eb⟩:∃o,s.heap.get? b=some o:=by
   rcases Xau.mp hb with z|z
   .subst z;exact{_,he}
   .have z:=Xad.mp z
    subst z
    obtain⟨o,e1,_⟩:=hi
    exact⟨o,e1⟩
  rw[zah (Xaz (Xap eb))]
  exact(hf b hb).1
 done:=by
  intro X hP hw hK hc i pins s U H E I hf st hg
  subst hP hw hK
  obtain⟨xs,hq,hx⟩:=hg
  obtain⟨its,rv,p,hz⟩:=I.tuple hq
  obtain⟨⟨old,he⟩,hi⟩:=st
  have hl:=rv.length
  have hsq:IsSq true s.heap a its.toArray:=p
  have hai:a≠it:=λz=>by
   obtain⟨oa,ea,ca,_⟩:=id hsq
   obtain⟨o,e1,c,_⟩:=id hi
   rw[z,e1] at ea;cases ea
   rw[c] at ca;exact absurd ca (by decide)
  have en:its.toArray.size=i:=by rw[Xaq];omega
  refine wpAny_pyNext_enum_endD (zgl (prog:=X.prog) (w:=X.w) (A:=X.A.in1) (show X.A.in1.handled=none from I.ok.hd hc) it a hai its.toArray) he (by rw[en];exact⟨hi,hsq⟩) λh' eb=>{O,I.turnedL (t':=s.toks) (ch:=[e,it]) (λb o hb e1=>eb b o (λz=>hb (by simp[z])) e1) hf}
 self:=λ_ _ _ _ _ st h=>by
  obtain⟨⟨old,he⟩,hi⟩:=st
  exact wpAny_pyIter_enum he h
inductive iEnumT_1(K:W.Frag)(R:It->Hp->Prop)(vs:List V)(H1:Hp):Prop
 | mk a(_:vs=[.ref a])(_:(∃xs,SqT K H1 a xs))(_:R (IteT K a) H1)
def iEnumT(K:W.Frag)(ta:TA):TI:=λU H R=>ta U H (iEnumT_1 K R)
def zdT{X:Cx}{a:Expr}{ta:TA}{p pos:Pos}{elts:List Expr}{kt:Nat}{tp:Pos}(hg:Gl X "enumerate")(hm:X.mg "enumerate"=none)(ha:PA X [a] ta)(hs:starEach [a] X.env=[(false,eval a X.env)]:=by rfl) :
  PI X (.Tuple elts kt tp) (.Call (.Name "enumerate" p) [a] [] pos) (iEnumT X.K ta):=by
 intro pins s U H R I h
 refine Call_ (zc0 I hg hm boot_enumerate (PyProof.Rows.callWith_type1 (thn (ha pos pins s U H _ I h) λus s1 hh_=>?_) hs O))
 obtain⟨vs,H1,I1,r1,q1⟩:=hh_
 obtain⟨l,e,⟨xs,hq⟩,q⟩:=q1
 subst e
 obtain⟨u,rfl,ru⟩:=zc5 r1
 cases ru
 obtain⟨its,rv,pl,hz⟩:=I1.tuple hq
 refine zc3 (items:=its.toArray) pl λh' he hi hsz kk=>?_
 refine wpAny_pyIter_enum he ?_
 have I2:Inv X pins U H1 {s1 with heap:=h',toks:=s1.toks}:=I1.kept kk
 refine{s1.heap.objs.size+1,[s1.heap.objs.size+1,s1.heap.objs.size],_,_,H1,O,I2,zh2 l _ _ (Nat.succ_ne_self _),{{_,he},hi},λb hb=>?_,q}
 rcases Xau.mp hb with z|z
 .subst z;exact I1.fpOk (Xbu _) (I1.hok.fresh (Xbu _))
 .have z:=Xad.mp z
  subst z;exact I1.fpOk (Xae _) (I1.hok.fresh (Xae _))
def zc1{K:PySem.W.Frag}{a:Addr}{xs:List V}{g:TG}{tb:TS}{D:Ends}{U:St}{H:Hp}(Pv:Nat->St->Hp->Prop)(h0:Pv 0 U H)(hl:∀i U H,i<=xs.length->Pv i U H->SqT K H a xs)
  (hs:∀i x T U H,xs[i]?=some x->H T=none->Pv i U H->g (.ref T) U (upd H T (.tup [.int i,x])) λU2 H2=>tb {D with nx:=Pv (i+1),ct:=Pv (i+1),bk:=D.nx} U2 H2) (hd:∀U H,Pv xs.length U H->D.nx U H) :
  ∃W:Nat->Nat->St->Hp->Prop,(∃m,W 0 m U H)/\∀i m U H,W i m U H ->
   ((IteT K a).stop i H/\D.nx U H)\/((IteT K a).go i H/\∃N:St->Hp->Prop,(∀U' H',N U' H'->∃m',m'<m/\W (i+1) m' U' H')/\∀x H',(IteT K a).yld i H x H'->g x U H' λU2 H2=>tb {D with nx:=N,ct:=N,bk:=D.nx} U2 H2):=by
 refine{λi m U H=>m=xs.length-i/\i<=xs.length/\Pv i U H,{xs.length,by simp,Nat.zero_le _,h0},?_}
 rintro i m U H ⟨rfl,hi,p⟩
 have q:=hl i U H hi p
 by_cases hlt:i<xs.length
 .refine .inr {{xs,xs[i],q,by simp[hlt]},Pv (i+1),λU' H' p'=>{xs.length-(i+1),by omega,O,hlt,p'},λv H' y=>?_}
  obtain⟨T,x,hT,rfl,rfl,y⟩:=y
  exact hs i x T U _ (y xs q) hT p
 .have e:i=xs.length:=by omega
  subst e
  exact .inl {⟨xs,q,O⟩,hd U H p}
end L2
end
section
namespace L2
open PySem PySem.Spec PyProof.Rows HT
section
variable{prog:Program}{w:World}{A:Around}{E:Value->Shared->Prop}{s:Shared}
def zfJ{r:Addr}{Q:Value->Shared->Prop}(h:wpAny (model prog w) A.in1 (collect (.ref r)) (λvs s1=>vs.length<=sizeLine/\wpAny (model prog w) A.in1.in1 (Builtin.«list.sort» {[.ref s1.heap.objs.size],[]})
   (λfin s2=>fin=.done (.ret .none)/\Q (.ref s1.heap.objs.size) s2) E {s1 with heap:=s1.heap.push (seqObj "list" vs.toArray 0)}) E s) :
  wpAny (model prog w) A (call (.builtin "sorted") [.ref r]) Q E s:=by
 refine Calls.call_function_entry kind_sorted plain_sorted entry_sorted (args_sorted1 _) ?_
 unfold Builtin.«sorted»
 refine Xaa (m:=checkCount "sorted" 1 1 _) (Xac ?_)
 refine Xaa (Xat h (λvs s1 ⟨hz,h⟩=>?_) λ_ _ e=>e)
 refine Xaa (wpAny_newList ?_ hz)
 refine Xaa (XaR (XaW slot_list_sort {_,Xai _ O,O} entry_list_sort (Xat h (λfin s2 ⟨e,q⟩=>?_) λ_ _ e=>e) (args_list_sort _)))
 subst e
 exact{_,O,Xac {_,O,q}}
end
def zhL:∀{vs:List Value} {ns:List Int},vs.length=ns.length->(∀(j:Nat) (v:Value),vs[j]?=some v->∃n t,ns[j]?=some n/\v=.int n t)->IntsAre vs ns
 | [],[],_,_=>.nil
 | v::vs,n::ns,hl,h=>by
  obtain⟨m,t,e,rfl⟩:=h 0 v O
  cases e
  exact .cons _ _ (zhL (by simpa using hl) λj v hv=>h (j+1) v hv)
 | [],_::_,hl,_=>by simp at hl
 | _::_,[],hl,_=>by simp at hl
def zgb{κ:Type}:∀{kvs:List (κ×V)} {vs:List (κ×Value)},KV kvs vs->vs.length=kvs.length
 | _,_,.nil=>rfl
 | _,_,.cons _ r=>by rw[Xaw,Xaw,zgb r]
def zlK{κ:Type}:∀{kvs:List (κ×V)} {vs:List (κ×Value)},KV kvs vs->∀(j:Nat) (k:κ) (x:Value),vs[j]?=some (k,x)->∃y,kvs[j]?=some (k,y)/\RelV y x
 | _,_,.nil,j,k,x,h=>by simp at h
 | _,_,.cons (a:=a) hp r,0,k,x,h=>by
  obtain⟨a1,a2⟩:=a
  cases h
  obtain⟨e,rr⟩:=hp
  exact{a2,by rw[show a1=k from e];rfl,rr}
 | _,_,.cons _ r,j+1,k,x,h=>zlK r j k x h
section
variable{X:Cx}
def zgr(hc:X.calm=true):zcR X (.builtin "sorted") (λxs H Q=>∃(a:Addr) (kvs:List (Key×V)) (ks:List Int),xs=[.ref a]/\H a=some (.dK kvs)/\kvs.map (·.1)=ks.map Sum.inl/\ks.length<64 /\
  ∀(l:Addr) (ns:List Int),H l=none->ns.Perm ks->ns.Pairwise (·<=·)->Q (.ref l) (upd H l (.lst (ns.map V.int)))):=by
 intro pins s U H xs us Q I r h
 obtain⟨a,kvs,ks,rfl,e,hk,h64,q⟩:=h
 obtain⟨u,rfl,r1⟩:=zc5 r
 obtain rfl:u=Value.ref a:=r1
 obtain⟨hz,lo,vs,rel,dd⟩:=zjS I.hok e
 obtain⟨ep,hat⟩:=dd.dictAt
 have hl:vs.length=kvs.length:=zgb rel
 have hl2:kvs.length=ks.length:=by have:=congrArg List.length hk;simpa using this
 refine zfJ (W.kdu_collect (W.kdl_dict (knd:=zaH X.prog X.w) (kvs:=vs) (ep:=ep) lo) (I.ok.hd hc) hat (by omega) λh' tk acc kp it=>{by rw[Array.length_toList,it.1,hl];exact hz,?_})
 have hI:IntsAre acc.toList ks:=zhL (by rw[Array.length_toList,it.1];omega) λj v hv=>by
  obtain⟨k,x,hx,hkey⟩:=it.2 j v (by rw[<- Xbi];exact hv)
  obtain⟨y,hy,_⟩:=zlK rel j k x hx
  have e1:(kvs.map (·.1))[j]?=some k:=by rw[Xao,hy];rfl
  rw[hk,Xao] at e1
  obtain⟨n,hn,rfl⟩:=Xax.mp e1
  rcases zaM (show zhi (Sum.inl n) v=true from hkey) with⟨i,t,e2,e3⟩|⟨_,_,e2,_⟩
  .cases e2;exact{_,t,hn,e3}
  .cases e2
 refine list_sort_tree (s:={s with heap:=h'.push (seqObj "list" acc.toList.toArray 0),toks:=tk}) (Xai _ O) hI (by rw[Array.length_toList,it.1];omega) λout ns a1 a2 a3=>{O,?_}
 have hsz:h'.objs.size<(h'.push (seqObj "list" acc.toList.toArray 0)).objs.size:=by rw[XaL];exact Xbb _
 have I2:Inv X pins U H {s with heap:=h',toks:=tk}:=I.kept kp
 obtain⟨c,hc'⟩:=sortedHeap_at (a:=h'.objs.size) (vs:=acc.toList) (out:=out) (Xai (h:=h') (o:=seqObj "list" acc.toList.toArray 0) O)
 refine{.ref _,_,I2.laid (t':=tk) (o:=.lst (ns.map V.int)) (λb o eb=>?_) (Xae _) ?_,O,q _ ns (I2.hok.fresh (Xae _)) a2 a3}
 .have hb:=Xap eb
  rw[sortedHeap_old (Xaz hb) (XbO hb hsz)]
  exact Xab _ eb
 .refine{?_,out.toList,_,zcS a1,by simpa[seqObj] using hc'}
  rw[Xag,a2.length_eq]
  exact Xar (XbN h64) (by decide)
end
end L2
end
section
namespace L2
open PySem PySem.Spec PyProof.Rows HT
section
variable{prog:Program}{w:World}{A:Around}{E:Value->Shared->Prop}{s:Shared}
end
end L2
end
section
set_option autoImplicit false
namespace L2
open PySem PySem.Spec PyProof.Rows HT Cb
section
variable{prog:Program}{w:World}{A:Around}{E:Value->Shared->Prop}{s:Shared}
end
section
variable{X:Cx}
end
end L2
end
section
set_option autoImplicit false
namespace L2
open PySem PySem.Spec PyProof.Rows HT Cb
section
variable{prog:Program}{w:World}{A:Around}{E:Value->Shared->Prop}
end
section
variable{X:Cx}
end
section
variable{prog:Program}{w:World}{A:Around}{E:Value->Shared->Prop}{s:Shared}
end
end L2
end
section
namespace L2
open PySem PySem.Spec PyProof.Rows PySem.SeqAt
section
variable{X:Cx}{tg:Expr}
end
end L2
end
section
namespace L2
open PySem PySem.Spec PyProof.Rows PySem.SeqAt
section
variable{X:Cx}{K:W.Frag}
inductive rEqL0(K:W.Frag)(x:V)(y:V)(H:Hp)(Q:VK):Prop
 | mk a b xs(_:x=.ref a)(_:y=.ref b)(_:SqL K H a xs)(_:SqL K H b [])(_:Q (.bl xs.isEmpty) H)
def zmA(hu:X.A.units<cLine)(hK:X.K=K):OpR X (compareOp .Eq) (rEqL0 K):=by
 subst hK
 rintro pins s U H x y v u Q I rx ry ⟨a,b,xs,rfl,rfl,ha,hb,q⟩
 cases rx;cases ry
 obtain⟨its,r1,p1,_⟩:=I.list ha
 obtain⟨its2,r2,p2,_⟩:=I.list hb
 obtain rfl:=r2.nil_iff.mpr O
 have e:its.toArray.size=xs.length:=by rw[Xaq];exact r1.length.symm
 cases xs with
 | nil =>
  refine RcAt.lists (e:=λ_=>true) p1.isList p2.isList (by rw[e];rfl) hu (λj h1 h2=>absurd h2 (by simp)) _ _ _ _ {.bl true,H,I,?_,q}
  rw[e];rfl
 | cons z zs=>exact RcAt.lists_lengths p1.isList p2.isList (by rw[e];simp) hu _ _ _ _ {.bl false,H,I,O,q}
end
end L2
end
section
namespace L2
open PySem PySem.Spec PyProof.Rows PySem.SeqAt
section
variable{X:Cx}
end
end L2
end
section
namespace L2
open PySem PySem.Spec PyProof.Rows PySem.SeqAt
end L2
end
section
namespace L2
open PySem PySem.Spec PyProof.Rows PySem.SeqAt
section
variable{X:Cx}{K:W.Frag}
end
section
variable{X:Cx}{Nc:List Str}{src:List (Option Nat)}{scope:Scope}{elt tg iter:Expr}{ifs:List Expr}{pos:Pos}{wi:TI}{g:TG}{tf:TT}{te:TE}
end
section
variable{X:Cx}{K:W.Frag}{tg l:Expr}{tl:TE}
end
end L2
end
section
namespace L2
open PySem PySem.Spec PyProof.Rows HT
section
variable{X:Cx}{o e:Expr}{es:List Expr}{to:TE}{t:TA}{T:String}{id:String}{name:Str}{apos cpos:Pos}{r:V->List V->Hp->VK->Prop}
end
end L2
end
section
namespace L2
open PySem PySem.Spec PyProof.Rows HT
def zm1(CX:CXT)(X:Cx)(E:St->XK):Prop:=∀(pins:List (Addr×Obj)) (U:St) (H:Hp) (s:Shared) (e:Value) (s':Shared),Inv X pins U H s->CX X.stack H s (E U) e s'->X.xe e s'
def Passes.s{CX:CXT}{X:Cx}{E:XK}(h:Passes CX X E):zm1 CX X λ_=>E:=λpins U H s e s'=>h pins U H s e s'
section
variable{X:Cx}{CX:CXT}{k:Nat}{f C:Addr}{fd:FuncData}{ps ks:List Str}{sp:Sp}{E:St->XK}{x m:Str}{p pos apos:Pos}{e o:Expr}{es:List Expr}{kws:List Keyword}{ta:TE}{t tk:TA}{g:List Value->List Value->List Value}{gV:List V->List V->List V}
def zmj{pins:List (Addr×Obj)}{U:St}{H:Hp}{s:Shared}{Q:VK}{us ws:List Value}{vs zs:List V}(F:FnOk X.prog X.w X.K X.mg X.base CX k f fd ps sp)(hr:Room k X.A)(hb:KBinds X.K fd ps ks g gV)(hx:zm1 CX X E)
  (I:Inv X pins U H s) (r:Vals vs us) (rz:Vals zs ws) (h:sp (gV vs zs) H Q (E U)):wpAny (model X.prog X.w) X.A (call (.ref f) us (ks.zip ws)) (EP X pins U Q) X.xe s:=by
 have r2:=hb.rel r rz
 have hl:(g us ws).length=ps.length:=by rw[<- r2.length];exact F.len _ _ _ _ h
 refine XbJ (Xbv (F.run X.A X.stack s H {us,ks.zip ws} (g us ws) (gV vs zs) Q (E U) hr I.env0 (hb.to s us ws I.kIn hl) r2 h) λr s' hq=>?_)
 cases r with
 | error e=>exact hx pins U H s e s' I hq
 | ok fl =>
  cases fl with
  | ret u=>exact I.after hq
  | next=>exact False.elim hq
  | brk=>exact False.elim hq
  | cont=>exact False.elim hq
end
section
variable{X:Cx}{k:Nat}{C:Addr}{ks:List Str}{gV:List V->List V->List V}{sp:Sp}{E:St->XK}{x:Str}{p pos:Pos}{e:Expr}{es:List Expr}{kws:List Keyword}{t tk:TA}
end
structure MthX(P:Program)(w:World)(K:W.Frag)(mg:Str->Option Value)(base:Heap)(k:Nat)(C:Addr)(m:Str)(ks:List Str)(gV:List V->List V->List V)(sp:Sp):Prop where
 cls:Cls K C
 ex:∃f fd ps g,Meth K C m f/\FnOk P w K mg base (CX1 P w) k f fd ps sp/\KBinds K fd ps ks g gV
inductive tMthS_1(P:Program)(w:World)(K:W.Frag)(mg:Str->Option Value)(base:Heap)(k:Nat)(m:Str)(ks:List Str)(E:St->XK)(t:TA)(tk:TA)(U:St)(Q:VK)(x:V)(H1:Hp):Prop
 | mk a C dx fs gV sp(_:x=.ref a)(_:H1 a=some (.ins C dx fs))(_:MthX P w K mg base k C m ks gV sp)(_:fs.lookup m=none)(_:t U H1 λvs H2=>tk U H2 λzs H3=>sp (gV (x::vs) zs) H3 Q (E U))
def tMthS(P:Program)(w:World)(K:W.Frag)(mg:Str->Option Value)(base:Heap)(k:Nat)(m:Str)(ks:List Str)(E:St->XK)(ta:TE)(t tk:TA):TE:=λU H Q=>ta U H (tMthS_1 P w K mg base k m ks E t tk U Q)
section
variable{X:Cx}{k:Nat}{C:Addr}{ks:List Str}{E:St->XK}{x m:Str}{p pos apos:Pos}{e o:Expr}{es:List Expr}{kws:List Keyword}{ta:TE}{t tk:TA}
def zjf{P:Program}{w:World}{K:W.Frag}{mg:Str->Option Value}{base:Heap}(k:Nat)(hX:X.prog=P/\X.w=w/\X.K=K/\X.mg=mg/\X.base=base)(hr:Room k X.A)(hx:zm1 (CX1 X.prog X.w) X E){pl:Sem Bool}(he:PE X o ta)(ha:PA X (e::es) t)
  (hst:starEach (e::es) X.env=(false,eval e X.env)::starEach es X.env:=by rfl) (hpl:(backTo pos (starEach es X.env)).any (·.1)=false:=by rfl)
  (ht:eval (.Call (.Attribute o m apos) (e::es) [] pos) X.env=(do
   let ov <- eval o X.env
   standAt apos.atName
   let(f,first) <- holding [ov] (getMethod ov m pl)
   callWith pos f first (backTo pos (starEach (e::es) X.env)) (backToKw pos (keywordEach [] X.env))):=by rfl) :
  PE X (.Call (.Attribute o m apos) (e::es) [] pos) (tMthS P w K mg base k m [] E ta t tNil):=by
 obtain⟨rfl,rfl,rfl,rfl,rfl⟩:=hX
 intro pins s U H Q I h
 refine W.methodCall_KW (pl:=pl) (thn (he pins s U H _ I h) λu s1 hh_=>?_) ht
 obtain⟨x,H1,I1,rx,a,C,dx,fs,gV,sp,ex,ea,M,l,q⟩:=hh_
 obtain⟨c,f,fd,ps,g,hm,F,hb⟩:=M
 subst ex
 obtain rfl:u=Value.ref a:=rx
 refine zcs I1 ea c hm l ?_
 refine W.callWith_K (first:=[.ref a]) (h₀:=X.base) I.ok.mod.kin hm.kp (thn (ha pos pins s1 U H1 _ I1 q) λus s2 ⟨vs,H2,I2,r,q2⟩=>{I2.kIn,?_}) hst hpl
 exact zmj (us:=.ref a::us) (vs:=.ref a::vs) (ws:=[]) (zs:=[]) F hr hb hx I2 (.cons O r) .nil q2
end
abbrev zm2(X:Cx)(pins:List (Addr×Obj))(b:Addr):Prop:=X.s₀.heap.get? b=none/\b≠X.env.locals/\(∀x c,X.env.cells.lookup x=some c->c≠b)/\∀p∈X.pn++pins,p.1≠b
section
variable{X:Cx}{pins pins2:List (Addr×Obj)}{U:St}{H:Hp}{s:Shared}{E:St->XK}
end
section
variable{X:Cx}{cn n:Str}{j:Nat}{Cb:Addr}{body hbody:List Stmt}{b₀:Stmt}{tb:(St->XK)->TS}{th:TS}{p4 p8 p9:Pos}
end
end L2
end
section
namespace L2
open PySem PySem.Spec PyProof.Rows HT
abbrev TJ:=St->Hp->(Hp->Prop)->Prop
def PJ(X:Cx)(es:List Expr)(t:TJ):Prop:=∀(out:Str) (pins:List (Addr×Obj)) (s:Shared) (U:St) (H:Hp) (R:Hp->Prop),out.length+2000*es.length<=100000->Inv X pins U H s->t U H R ->
 wpAny (model X.prog X.w) X.A (joinParts out (evalEach es X.env)) (λu s'=>∃(z:Str) (tk:Tok) (H':Hp),u=.str z tk/\Inv X pins U H' s'/\R H') X.xe s
def jNil:TJ:=λ_ H R=>R H
inductive jStr_1(t:TJ)(U:St)(R:Hp->Prop)(x:V)(H1:Hp):Prop
 | mk (a:Str)(_:x=.str a)(_:a.length<=1000)(_:t U H1 R)
def jStr(ta:TE)(t:TJ):TJ:=λU H R=>ta U H (jStr_1 t U R)
inductive jInt_1(t:TJ)(U:St)(R:Hp->Prop)(x:V)(H1:Hp):Prop
 | mk (i:Int)(_:x=.int i)(_:i.natAbs<2 ^ 1000)(_:t U H1 R)
def jInt(ta:TE)(t:TJ):TJ:=λU H R=>ta U H (jInt_1 t U R)
def tFsN(t:TJ):TE:=λU H Q=>t U H λH1=>∀z:Str,Q (.str z) H1
section
variable{X:Cx}{e v:Expr}{es:List Expr}{pos p2:Pos}{ta:TE}{t:TJ}
def pj_nil:PJ X [] jNil:=λout pins s U H R hl I h=>by
 refine joinParts_nilE (joinParts_nil {out,_,H,O,I.tok _,h} ?_)
 have hz:(100000:Nat)<=sizeLine:=by decide
 simp only[XaZ] at hl
 omega
def pj_str(he:PE X e ta)(hs:PJ X es t):PJ X (e::es) (jStr ta t):=λout pins s U H R hl I h=>by
 refine joinParts_consE (joinParts_cons (thn (he pins s U H _ I h) λu s1 hh_=>?_))
 obtain⟨x,H1,I1,rx,a,ex,la,q⟩:=hh_
 subst ex
 obtain⟨t,rfl⟩:=(show∃t,u=Value.str a t from rx)
 have hz:(100000:Nat)<=sizeLine:=by decide
 simp only[Xaw] at hl
 exact{by rw[strLen_append];omega,hs _ pins s1 U H1 R (by rw[strLen_append];omega) I1 q}
def pj_int(hv:PE X v ta)(hs:PJ X es t):PJ X (.FormattedValue v (-1) none p2::es) (jInt ta t):=λout pins s U H R hl I h=>by
 refine joinParts_consE (joinParts_cons (FormattedValue_plain (thn (hv pins s U H _ I h) λu s1 hh_=>?_)))
 obtain⟨x,H1,I1,rx,i,ex,hi,q⟩:=hh_
 subst ex
 obtain⟨t,rfl⟩:=(show∃t,u=Value.int i t from rx)
 have hz:(100000:Nat)<=sizeLine:=by decide
 simp only[Xaw] at hl
 have hlog:i.natAbs.log2<1000:=by
  by_cases z:i.natAbs=0
  .rw[z];decide
  .exact(Nat.log2_lt z).mpr hi
 have hlen:(Str.ofString (toString i)).length<=1001:=by
  rw[PySem.ofString_length]
  exact int_text_length_le (by decide) hlog
 refine formatField_int_small (XbO hlog (by decide)) {by rw[strLen_append];omega,?_}
 exact hs _ pins _ U H1 R (by rw[strLen_append];omega) ((I1.tok _).tok _) q
def pe_fsN(h2:∃a b r,es=a::b::r)(hs:PJ X es t)(hz:es.length<=40:=by decide):PE X (.JoinedStr es pos) (tFsN t):=by
 obtain⟨a,b,r,rfl⟩:=h2
 intro pins s U H Q I h
 refine JoinedStr_many ?_
 refine thn (hs Str.empty pins s U H _ ?_ I h) λu s' ⟨z,tk,H',eu,I',q⟩=>{.str z,H',I',⟨tk,eu⟩,q z}
 have l0:Str.empty.length=0:=rfl
 omega
end
def FunD.okX{P:Program}{w:World}{K:W.Frag}{mg:Str->Option Value}{base:Heap}{x qual:Str}{st:Stmt}{dV:Value}{f:Addr}{fd:FuncData}{N ps:List Str}{k:Nat}{sp:Sp}(F:FunD K x qual st dV f fd)(S:FnScope N ps (zaj st))(len:∀vs H Q E,sp vs H Q E->vs.length=ps.length)
  (hbody:∀(cdv:Value) (A:Around) (outer:List Env) (s:Shared) (H:Hp) (vs:List V) (Q:VK) (E:XK),Room k (A.deeper (envOfC qual (zaj st) s.heap.objs.size f cdv))->sp vs H Q E ->
   ∃t,PSs (cxOf (CX1 P w) P w K mg base N qual (zaj st) f cdv A outer s H E) (za2 st) t/\t {nx:=λ_ H'=>Q .non H',rt:=Q} (start N vs) H):FnOk P w K mg base (CX1 P w) (k+1) f fd ps sp:=by
 obtain⟨oc,od,kV,doc,pm,an,cdv,ct,osl,rfl,lk,hcd⟩:=F.ex
 refine zlb lk hcd S len λA outer s H vs Q E hr hsp=>?_
 obtain⟨t,h,q⟩:=hbody cdv A outer s H vs Q E hr hsp
 exact⟨t,h,q⟩
end L2
end
section
namespace L2
open PySem PySem.Spec PyProof.Rows HT
section
variable{prog:Program}{w:World}{A:Around}{E:Value->Shared->Prop}{h:Heap}{g:Array GenState}{d:Drawn}{t:Nat}{os:OsState}
variable{nm q:Str}{C N:Addr}{bs bm:List Value}{hdct:Bool}{sn:List Str}{sub:List Value}{ab:Bool}{col:Option Bool}{dd:Option Addr}{k0 k1 k2 k3 k5:Option Value}{mN:Str->Option Value}{rest:List Value}{fI:Addr}{oI:Obj}
def zgB{Q:Fin->Shared->Prop}(T:OwnTail h bmV bm)(hC:h.get? C=some (excClassObj nm q C N bs bm hdct sn sub ab col dd k0 k1 k2 k3 k5 "ValueError.__new__"))(hn:h.Ns N mN)(hi:mN "__init__"=some (.ref fI))
  (hfI:h.get? fI=some oI) (hfc:oI.cls=.type "function") (hrest:rest.length<=sizeLine)
  (hq:∀h' e,Heap.MadeExcOf h h' e (.ref C) rest->wpAny (model prog w) A (call (.ref fI) (.ref e::rest)) (λr s'=>r=.none/\Q (.done (.ret (.ref e))) s') E ⟨h',g,d,t,os⟩) :
  wpAny (model prog w) A (Builtin.«type.__call__» {.ref C::rest,[]}) Q E ⟨h,g,d,t,os⟩:=by
 have F:=PySem.F.excBase_ValueError
 repeat(first|with_reducible refine wpAny_loadPart_at hC ?_|with_reducible refine wpAny_madeBy_exc hC ?_|wp_step)
 refine codeAny_call_builtin_code (Code.quiet_builtin _ F.quiet) (wpAny_check_new_subT F T hC ?_)
 refine codeAny_exc_new_subT F T hC ?_ hrest
 show wpAny _ _ _ _ _ _
 have kp:∀b o,h.get? b=some o->((h.push {cls:=.type "tuple",data:=.seq rest.toArray}).push {cls:=.ref C,data:=.fields #[.ref h.objs.size,.none,.none,.none,.bool false,.none]}).get? b=some o:=
  λb o e=>Xab _ (Xab _ e)
 have hC₁:=kp _ _ hC
 have hf₁:=kp _ _ hfI
 have hn₁:((h.push {cls:=.type "tuple",data:=.seq rest.toArray}).push {cls:=.ref C,data:=.fields #[.ref h.objs.size,.none,.none,.none,.bool false,.none]}).Ns N mN:=
  let⟨o,es,ep,e,r⟩:=hn;{o,es,ep,kp _ _ e,r}
 have hget:((h.push {cls:=.type "tuple",data:=.seq rest.toArray}).push {cls:=.ref C,data:=.fields #[.ref h.objs.size,.none,.none,.none,.bool false,.none]}).get? (h.objs.size+1)=some
   {cls:=.ref C,data:=.fields #[.ref h.objs.size,.none,.none,.none,.bool false,.none]}:=by heap_get
 have hcC:(Value.ref C::bm).contains (.ref C)=true:=by simp
 have T₁:=T.keeps kp
 unfold isInstance
 repeat(first|with_reducible refine wpAny_loadPart_at hget ?_|(with_reducible refine wpAny_isSubtype_exc hC₁ ?_;rw[hcC])|wp_step)
 show wpAny _ _ (typeLookup (.ref C) _) _ _ _
 refine wpAny_typeLookup_tail hC₁ hn₁ T₁ F.mroIs F.init.lookup ?_
 rw[hi]
 refine XaR (Xaa ?_)
 unfold bindSpecial
 refine Xaa (wpAny_typeOf (T := "function") {_,hf₁,hfc} ?_)
 rw[if_pos (by decide)]
 refine Xac (Xaa (Xat (hq _ (h.objs.size+1) {kp,XbH (Xbu _),h.objs.size,hget,XbH (Xae _),Xab _ (Heap.get?_push_at O O)}) (λr s' hr=>?_) λ_ _ x=>x))
 obtain⟨rfl,hQ⟩:=hr
 wp_walk
 exact hQ
def zl0{Q:Value->Shared->Prop}(T:OwnTail h bmV bm)(hC:h.get? C=some (excClassObj nm q C N bs bm hdct sn sub ab col dd k0 k1 k2 k3 k5 "ValueError.__new__"))(hn:h.Ns N mN)(hi:mN "__init__"=some (.ref fI))
  (hfI:h.get? fI=some oI) (hfc:oI.cls=.type "function") (hrest:rest.length<=sizeLine)
  (hq:∀h' e,Heap.MadeExcOf h h' e (.ref C) rest->wpAny (model prog w) (A.under (.builtin "type.__call__" {.ref C::rest,[]})) (call (.ref fI) (.ref e::rest)) (λr s'=>r=.none/\Q (.ref e) s') E ⟨h',g,d,t,os⟩) :
  wpAny (model prog w) A (call (.ref C) rest) Q E ⟨h,g,d,t,os⟩:=by
 have f1:=tc_lookup
 have f2:=tc_bind (.ref C)
 have hT:(⟨h,g,d,t,os⟩:Shared).TypeIs (.ref C) "type" := {_,hC,O}
 refine XbJ (codeAny_of_tree ?_)
 show wpAny _ _ (callAny (.ref C) _) _ _ _
 repeat(any_goals (first|assumption|with_reducible refine wpAny_loadPart_at hC ?_|wp_step))
 refine{O,?_}
 exact codeAny_call_builtin_at (Code.quiet_builtin _ (by decide +kernel)) entry_typeCall (wpAny_check_type_call_sub hC (zgB T hC hn hi hfI hfc hrest λh' e hm=>hq h' e hm))
end
section
variable{M:Model}{A:Around}{E:Value->Shared->Prop}{s:Shared}{env:Env}
variable{nm q:Str}{C N:Addr}{bs bm:List Value}{hdct:Bool}{sn:List Str}{sub:List Value}{ab:Bool}{col:Option Bool}{dd:Option Addr}{k0 k1 k2 k3 k5:Option Value}
def zkl{x:Sem Value}{Q:Flow->Shared->Prop}(hbase:bm.contains (.type "BaseException")=true)(hh:A.handled=none)
  (h:wpAny M A x (λv s₁=>∃e t od,v=.ref e/\s₁.heap.get? C=some (excClassObj nm q C N bs bm hdct sn sub ab col dd k0 k1 k2 k3 k5 "ValueError.__new__") /\
   s₁.heap.get? e=some {cls:=.ref C,dict:=od,data:=.fields #[.ref t,.none,.none,.none,.bool false,.none]}/\E (.ref e) s₁) E s) :
  wpAny M A (raiseStmt env (some x) none) Q E s:=by
 have hcB:(Value.ref C::bm).contains (.type "BaseException")=true:=by rw[List.contains_cons,hbase,Bool.or_true]
 unfold raiseStmt
 refine Xaa (Xat h (λv s₁ h₁=>?_) λ_ _ x=>x)
 obtain⟨e,t,od,rfl,hC,he,hE⟩:=h₁
 obtain⟨hp,g,d,tk,os⟩:=s₁
 repeat(first|with_reducible refine wpAny_loadPart_at he ?_|with_reducible refine wpAny_loadPart_at hC ?_|(with_reducible refine wpAny_isSubtype_exc hC ?_;rw[hcB])|wp_step)
 exact wpAny_raiseNew_none hh hE
end
section
variable{prog:Program}{w:World}{A:Around}{E:Value->Shared->Prop}{s:Shared}{env:Env}
variable{nm q:Str}{C N:Addr}{bs bm:List Value}{hdct:Bool}{sn:List Str}{sub:List Value}{ab:Bool}{col:Option Bool}{dd:Option Addr}{k0 k1 k2 k3 k5:Option Value}{mN:Str->Option Value}{fI:Addr}{oI:Obj}
def zlZ{x:Str}{np cpos pos:Pos}{args:List Expr}{Q:Flow->Shared->Prop}(hbase:bm.contains (.type "BaseException")=true)(hh:A.handled=none)(hplain:(backTo cpos (starEach args env)).any (·.1)=false)(hi:mN "__init__"=some (.ref fI))(hfc:oI.cls=.type "function")
  (h:wpAny (model prog w) A (eval (.Name x np) env) (λf s₁=>f=.ref C/\wpAny (model prog w) A (evalArgs (.ref C) true (backTo cpos (starEach args env)) [])
   (λa s₂=>a.kw=[]/\a.pos.length<=sizeLine/\s₂.heap.get? C=some (excClassObj nm q C N bs bm hdct sn sub ab col dd k0 k1 k2 k3 k5 "ValueError.__new__")/\s₂.heap.Ns N mN/\OwnTail s₂.heap bmV bm/\s₂.heap.get? fI=some oI /\
    ∀h' e,Heap.MadeExcOf s₂.heap h' e (.ref C) a.pos->wpAny (model prog w) (A.under (.builtin "type.__call__" {.ref C::a.pos,[]})) (call (.ref fI) (.ref e::a.pos))
     (λr s'=>r=.none/\∃t od,s'.heap.get? C=some (excClassObj nm q C N bs bm hdct sn sub ab col dd k0 k1 k2 k3 k5 "ValueError.__new__")/\s'.heap.get? e=some {cls:=.ref C,dict:=od,data:=.fields #[.ref t,.none,.none,.none,.bool false,.none]}/\E (.ref e) s') E {s₂ with heap:=h'}) E s₁) E s) :
  wpAny (model prog w) A (exec (.Raise (some (.Call (.Name x np) args [] cpos)) none pos) env) Q E s:=by
 rw[arm_exec_Raise]
 simp only[evalOpt,Option.map]
 refine Xaa (Xa3 (zkl (C:=C) (nm:=nm) (q:=q) (N:=N) (bs:=bs) (bm:=bm) (hdct:=hdct) (sn:=sn) (sub:=sub) (ab:=ab) (col:=col) (dd:=dd) (k0:=k0) (k1:=k1) (k2:=k2) (k3:=k3) (k5:=k5) hbase hh (Xaa (Xat (wpAny_Call_ofName (Xat h (λf s₁ h₁=>?_) λ_ _ x=>x)) (λv s₃ h₃=>Xaa (Xa3 (Xac h₃))) λ_ _ x=>x))))
 obtain⟨rfl,h₁⟩:=h₁
 unfold callWith
 refine Xaa (XaR (Xat h₁ (λa s₂ h₂=>Xaa (Xa3 ?_)) λ_ _ x=>x))
 obtain⟨apos,akw⟩:=a
 obtain⟨hkw,hlen,hC,hn,T,hfI,h₂⟩:=h₂
 obtain rfl:akw=[]:=hkw
 obtain⟨hp,g,d,tk,os⟩:=s₂
 simp only[hplain]
 refine Xaa (wpAny_keeperOf_exc hC ?_)
 refine Xaa (zl0 T hC hn hi hfI hfc hlen λh' e hm=>Xat (h₂ h' e hm) (λr s' hr=>?_) λ_ _ x=>x)
 obtain⟨rfl,t,od,hC',he,hE⟩:=hr
 exact{O,Xaa (XaR (wpAny_point (Xac ⟨e,t,od,O,hC',he,hE⟩)))}
end
end L2
end
section
namespace L2
open PySem PySem.Spec PyProof.Rows HT
end L2
end
section
namespace L2
open PySem PySem.Spec PyProof.Rows HT PySem.W PySem.Calls PySem.NumText
end L2
end
section
namespace L2
open PySem PySem.Spec PyProof.Rows HT
end L2
end
section
namespace L2
open PySem PySem.Spec PyProof.Rows HT
section
variable{X:Cx}{x:Str}{p pos:Pos}{e:Expr}{es:List Expr}{tv:TE}{t:TA}
end
end L2
end
section
namespace L2
open PySem PySem.Spec PyProof.Rows HT PySem.W PySem.Calls
end L2
end
section
namespace L2
open PySem PySem.Spec PyProof.Rows HT
section
variable{X:Cx}{x:Str}{a:Addr}{e:Expr}{p apos cpos:Pos}{ty:TE}{kvs:List (Key×V)}
end
end L2
end
section
namespace L2
open PySem PySem.Spec PyProof.Rows HT
end L2
end
section
namespace L2
open PySem PySem.Spec PyProof.Rows PySem.SeqAt
section
variable{X:Cx}{K:W.Frag}
end
section
variable{X:Cx}
end
end L2
end
section
namespace L2
open PySem PySem.Spec PyProof.Rows Builtin
section
variable{prog:Program}{w:World}{A:Around}{E:Value->Shared->Prop}{s:Shared}{K:W.Frag}{x y C D f:Addr}{ox oy:Obj}{od oe:Option Obj}
set_option tactic.hygienic true in
def neOwn2{Q:Value->Shared->Prop}(hu:A.units+1<cLine)(X:K.In s.heap)(I:W.InstAt s.heap x ox C od)(J:W.InstAt s.heap y oy D oe)(hnf:W.notFirst K C (.ref D)=true)(hs:W.findIn K (.ref C) "__eq__"=some (some (.ref f)))(hf:W.isFn K (.ref f)=true)
  (hn:W.findIn K (.ref C) "__ne__"=some (some (.builtin "object.__ne__"))) (hm:W.subIn K (.ref C) (.type "object")=some true)
  (h:wpAny (model prog w) A.in1 (call (.ref f) [.ref x,.ref y]) (zlY λb s'=>Q (.bool (!b)) s') E s):wpAny (model prog w) A (compareOp .NotEq (.ref x) (.ref y)) Q E s:=by
 have one:wpAny (model prog w) A (tryCompare (.ref x) "__ne__" (.ref y)) (λr s'=>∃b,r=some (Value.bool b)/\Q (.bool b) s') E s:=by
  unfold tryCompare
  have run:wpAny (model prog w) A (call (.builtin "object.__ne__") [.ref x,.ref y]) (λv s'=>∃b,v=Value.bool b/\Q (.bool b) s') E s:=by
   refine XbJ (codeAny_call_builtin F.cmp_object.ne.plain F.cmpEntry_ne ?_)
   refine W.check_slot (owner := "object") (n := "__ne__") F.cmpKind_ne F.cmpSplit_ne (I.type.andThen (W.looks_subIn X hm)) (F.cmpArgs_ne _ _) ?_
   refine zmF (A:=A.in1) hu X I hs hf (Xat h (λv s' hv=>?_) λ_ _ z=>z)
   cases v with
   | bool b=>exact{_,O,hv}
   | _=>exact hv.elim
  refine Xaa (m:=callSpecialIfBound? (.ref x) (Str.ofString "__ne__") [.ref y]) ?_
  simp only[callSpecialIfBound?,bindSpecialIfBound?]
  refine XaR (Xaa (Xaa (Xaa (I.type.here ((W.looks_findIn X hn).here ?_)))))
  have fin:wpAny (model prog w) A (call (.builtin "object.__ne__") ([.ref x]++[.ref y]) >>= λv=>pure (some v)) (λr s'=>wpAny (model prog w) A (match r with|some .notImplemented|none=>pure none|some v=>pure (some v)) (λr s'=>∃b,r=some (Value.bool b)/\Q (.bool b) s') E s') E s:=
   Xaa (Xat run (λv s' ⟨b,e,hq⟩=>by subst e;exact Xac (Xac ⟨b,O,hq⟩)) λ_ _ z=>z)
  refine Xaa (Xa1 (wpAny_ite ?_))
  rw[F.cmp_object.ne.bind]
  split
  .exact Xaa (Xac (Xac (by exact fin)))
  .exact wpAny_tryCatch (Xaa (Xac (Xac (by exact fin))))
 show wpAny _ _ (richCompare .NotEq (.ref x) (.ref y)) _ _ _
 unfold richCompare
 simp only[oneThing_ref]
 refine XaR (Xaa (wpAny_cRoomFor (XbG hu) ?_))
 refine Xaa (I.type.here (Xaa (J.type.here ?_)))
 split
 .rename_i q
  have e:W.subIn K (.ref D) (.ref C)=some false:=by
   rcases Bool.or_eq_true_iff.mp hnf with e|e
   .rw[beq_iff_eq.mp e] at q;simp at q
   .exact beq_iff_eq.mp e
  refine Xaa ((W.looks_subIn X e).here ?_)
  simp only[Bool.false_eq_true,if_false]
  refine Xaa (Xat one (λr s' z=>?_) λ_ _ z=>z)
  obtain⟨b,rfl,hq⟩:=z
  exact Xac hq
 .refine Xaa (Xac ?_)
  simp only[Bool.false_eq_true,if_false]
  refine Xaa (Xat one (λr s' z=>?_) λ_ _ z=>z)
  obtain⟨b,rfl,hq⟩:=z
  exact Xac hq
end
inductive rCmpO2(P:Program)(w:World)(K:W.Frag)(mg:Str->Option Value)(base:Heap)(k:Nat)(neg:Bool)(x:V)(y:V)(H:Hp)(Q:VK):Prop
 | mk a b C D dx fs dy gs gV sp(_:x=.ref a)(_:y=.ref b)(_:H a=some (.ins C dx fs))(_:H b=some (.ins D dy gs))(_:W.notFirst K C (.ref D)=true)(_:Mth P w K mg base k C "__eq__" [] gV sp)(_:(neg=true->NeOk K C))(_:sp (gV [x,y] []) H (λv H2=>∃c,v=.bl c/\Q (.bl (neg != c)) H2) E0)
section
variable{X:Cx}
def zmz{P:Program}{w:World}{K:W.Frag}{mg:Str->Option Value}{base:Heap}(k:Nat)(hX:X.prog=P/\X.w=w/\X.K=K/\X.mg=mg/\X.base=base)(hr:Room k X.A):OpR X (compareOp .Eq) (rCmpO2 P w K mg base k false):=by
 obtain⟨rfl,rfl,rfl,rfl,rfl⟩:=hX
 rintro pins s U H x y v u Q I rx ry ⟨a,b,C,D,dx,fs,dy,gs,gV,sp,rfl,rfl,ea,eb,hnf,M,_,q⟩
 cases rx;cases ry
 obtain⟨c,f,fd,ps,g,hm,F,hb⟩:=M
 obtain⟨mA,O9,_⟩:=zb1 I.hok ea
 obtain⟨od,J,_⟩:=O9.look
 obtain⟨mB,O2,_⟩:=zb1 I.hok eb
 obtain⟨oe,J2,_⟩:=O2.look
 obtain⟨m,fr⟩:=I.fr
 refine W.cmp_K (op:=.Eq) hr.units0 fr I.mod.kin J J2.type hnf hm.at_ hm.fn ?_
 refine Xat (zff (us:=[.ref a,.ref b]) (vs:=[.ref a,.ref b]) (ws:=[]) (zs:=[]) F hr hb zfn I (.cons O (.cons O .nil)) .nil q) (λz s' hz=>?_) λ_ _ e=>e
 obtain⟨v,H2,I2,rv,b',rfl,qb⟩:=hz
 obtain rfl:z=Value.bool b':=rv
 exact{.bl b',H2,I2,O,by rw[Bool.false_bne] at qb;exact qb}
def zmx{P:Program}{w:World}{K:PySem.W.Frag}{mg:Str->Option Value}{base:Heap}(k:Nat)(hX:X.prog=P/\X.w=w/\X.K=K/\X.mg=mg/\X.base=base)(hr:Room (k+1) X.A):OpR X (compareOp .NotEq) (rCmpO2 P w K mg base k true):=by
 obtain⟨rfl,rfl,rfl,rfl,rfl⟩:=hX
 rintro pins s U H x y v u Q I rx ry ⟨a,b,C,D,dx,fs,dy,gs,gV,sp,rfl,rfl,ea,eb,hnf,M,hno,q⟩
 have no:=hno O
 cases rx;cases ry
 obtain⟨c,f,fd,ps,g,hm,F,hb⟩:=M
 obtain⟨mA,O9,_⟩:=zb1 I.hok ea
 obtain⟨od,J,_⟩:=O9.look
 obtain⟨mB,O2,_⟩:=zb1 I.hok eb
 obtain⟨oe,J2,_⟩:=O2.look
 refine neOwn2 (by have:=hr.units;omega) I.kIn J J2 hnf hm.at_ hm.fn no.ne no.ob ?_
 have rv:Vals (gV [V.ref a,V.ref b] []) (g [Value.ref a,Value.ref b] []):=hb.rel (vs:=[V.ref a,V.ref b]) (us:=[Value.ref a,Value.ref b]) (zs:=[]) (ws:=[]) (.cons O (.cons O .nil)) .nil
 have hl:(g [Value.ref a,Value.ref b] []).length=ps.length:=by rw[<- rv.length];exact F.len _ _ _ _ q
 have W:wpAny (model X.prog X.w) X.A.in1 (call (.ref f) [.ref a,.ref b]) (EP X pins U (λv H2=>∃c,v=.bl c/\Q (.bl (true != c)) H2)) X.xe s:=by
  refine XbJ (Xbv (F.run X.A.in1 X.stack s H {[.ref a,.ref b],[]} _ _ _ E0 hr.in1 I.env0.in1 (hb.to s [.ref a,.ref b] [] I.kIn hl) rv q) λr s' hq=>?_)
  cases r with
  | error e=>exact zfn pins U H s e s' I hq
  | ok fl =>
   cases fl with
   | ret u=>exact I.after hq
   | next=>exact False.elim hq
   | brk=>exact False.elim hq
   | cont=>exact False.elim hq
 refine Xat W (λz s' hz=>?_) λ_ _ e=>e
 obtain⟨v,H2,I2,rv,b',rfl,qb⟩:=hz
 obtain rfl:z=Value.bool b':=rv
 exact{.bl (!b'),H2,I2,O,by rw[Bool.true_bne] at qb;exact qb}
end
section
variable{prog:Program}{w:World}{A:Around}{E:Value->Shared->Prop}{s:Shared}
end
structure Tab(L:Bool)(t:SetTable)(n:Nat):Prop where
 fits:t.fits n=true
 ris:t.place.toList.Pairwise (· < ·)
 led:t.led=L
def zmO{xs:Array Nat}{i j:Nat}(h:i<xs.size):xs.getD i j=xs.toList[i]'(by simpa using h):=by
 rw[Array.getD_eq_getD_getElem?,XaN h];simp
def zkF{l:List Nat}(h:l.Pairwise (· < ·)){i k:Nat}(hk:k<l.length)(hik:i<k):l[i]'(by omega)<l[k]:=(XaE.mp h) i k (by omega) hk hik
def zfF{xs:Array Nat}{j:Nat}(hr:xs.toList.Pairwise (· < ·)):∀(fuel lo hi:Nat),hi<=xs.size->lo<=hi->hi-lo<=fuel->(∀i (h:i<xs.toList.length),i<lo->xs.toList[i]<j)->(∀i (h:i<xs.toList.length),hi<=i->j<=xs.toList[i]) ->
  SetTable.below.go xs j fuel lo hi<=xs.size/\(∀i (h:i<xs.toList.length),i<SetTable.below.go xs j fuel lo hi->xs.toList[i]<j)/\∀i (h:i<xs.toList.length),SetTable.below.go xs j fuel lo hi<=i->j<=xs.toList[i]
 | 0,lo,hi,h1,h2,h3,a,b=>by
  obtain rfl:lo=hi:=by omega
  exact⟨h1,a,b⟩
 | fuel+1,lo,hi,h1,h2,h3,a,b=>by
  unfold SetTable.below.go
  by_cases hlt:lo<hi
  .rw[if_pos hlt]
   have hm:(lo+hi) / 2<xs.size:=by omega
   have hml:(lo+hi) / 2<xs.toList.length:=by simpa using hm
   dsimp only
   rw[zmO hm]
   by_cases hc:xs.toList[(lo+hi) / 2]<j
   .rw[if_pos hc]
    refine zfF hr fuel _ hi h1 (by omega) (by omega) (λi h hi'=>?_) b
    rcases(show i<(lo+hi) / 2\/i=(lo+hi) / 2 by omega) with e|e
    .exact XbO (zkF hr hml e) hc
    .subst e;exact hc
   .rw[if_neg hc]
    refine zfF hr fuel lo _ (by omega) (by omega) (by omega) a (λi h hi'=>?_)
    rcases(show(lo+hi) / 2<i\/i=(lo+hi) / 2 by omega) with e|e
    .exact XbN (XaP (Nat.not_lt.mp hc) (zkF hr h e))
    .subst e;exact Nat.not_lt.mp hc
  .rw[if_neg hlt]
   obtain rfl:lo=hi:=by omega
   exact⟨h1,a,b⟩
def zdX{xs:Array Nat}{j:Nat}(hr:xs.toList.Pairwise (· < ·)):SetTable.below xs j<=xs.size/\(∀i (h:i<xs.toList.length),i<SetTable.below xs j->xs.toList[i]<j)/\∀i (h:i<xs.toList.length),SetTable.below xs j<=i->j<=xs.toList[i]:=
 zfF hr xs.size 0 xs.size (Xae _) (Nat.zero_le _) (Xae _) (λi h z=>absurd z (Xbn _)) λi h z=>absurd (show i<xs.size by simpa using h) (Nat.not_lt.mpr z)
def zll{xs:Array Nat}(hr:xs.toList.Pairwise (· < ·)){i:Nat}(h:i<xs.size):SetTable.below xs xs[i]=i:=by
 obtain⟨b1,b2,b3⟩:=zdX (j:=xs[i]) hr
 have hl:i<xs.toList.length:=by simpa using h
 have e:xs.toList[i]=xs[i]:=by simp
 rcases Nat.lt_trichotomy (SetTable.below xs xs[i]) i with z|z|z
 .have h2:SetTable.below xs xs[i]<xs.toList.length:=by omega
  have q1:=b3 _ h2 (Xae _)
  have q2:=zkF hr hl z
  rw[e] at q2
  exact absurd q1 (Nat.not_le.mpr q2)
 .exact z
 .have q1:=b2 i hl z
  rw[e] at q1
  exact absurd q1 (XaY _)
def ziB{xs:Array Nat}(hr:xs.toList.Pairwise (· < ·)){i:Nat}(h:i<xs.size):SetTable.below xs (xs[i]+1)=i+1:=by
 obtain⟨b1,b2,b3⟩:=zdX (j:=xs[i]+1) hr
 have hl:i<xs.toList.length:=by simpa using h
 have e:xs.toList[i]=xs[i]:=by simp
 rcases Nat.lt_trichotomy (SetTable.below xs (xs[i]+1)) (i+1) with z|z|z
 .have q1:=b3 i hl (by omega)
  rw[e] at q1;omega
 .exact z
 .have hls:xs.toList.length=xs.size:=by simp
  have h2:i+1<xs.toList.length:=by omega
  have q1:=b2 (i+1) h2 z
  have q2:=zkF hr h2 (Xbb i)
  rw[e] at q2;omega
def ziA{xs:Array Nat}(hr:xs.toList.Pairwise (· < ·)):SetTable.below xs 0=0:=by
 obtain⟨b1,b2,b3⟩:=zdX (j:=0) hr
 rcases Nat.eq_zero_or_pos (SetTable.below xs 0) with z|z
 .exact z
 .have hls:xs.toList.length=xs.size:=by simp
  have h2:0<xs.toList.length:=by omega
  exact absurd (b2 0 h2 z) (Xbn _)
def zlJ{t:SetTable}(hr:t.place.toList.Pairwise (· < ·)){j:Nat}(h:∀i,t.slot j≠.live i):j∉t.place.toList:=λhm=>by
 obtain⟨i,hi,e⟩:=List.getElem_of_mem hm
 have hi':i<t.place.size:=by simpa using hi
 have e':t.place[i]=j:=by simpa using e
 refine h (SetTable.below t.place j) ?_
 unfold SetTable.slot
 dsimp only
 rw[if_pos]
 rw[<- e',zll hr hi',XaN hi',beq_self_eq_true]
def zdm{t:SetTable}{hs:Nat->Int}{h:Int}:∀(fuel:Nat) (p:SetTable.Probe) (j:Nat) (d:Option Nat),(∀x,p.dummy=some x->∀i,t.slot x≠.live i)->SetTable.probe.go t hs h fuel p=some (.empty j d)->(∀i,t.slot j≠.live i)/\∀x,d=some x->∀i,t.slot x≠.live i
 | 0,p,j,d,_,e=>by cases e
 | fuel+1,p,j,d,hd,e=>by
  have adv:∀q:SetTable.Probe,(t.advance q).dummy=q.dummy:=λq=>by unfold SetTable.advance;split<;>rfl
  unfold SetTable.probe.go at e
  cases hq:t.slot p.j with
  | empty =>
   rw[hq] at e
   have e:=Option.some.inj e
   injection e with e1 e2
   subst e1 e2
   exact{λi z=>(by rw[hq] at z;cases z),hd}
  | dummy =>
   rw[hq] at e
   refine zdm fuel _ j d (λx hx i z=>?_) e
   rw[adv] at hx
   have hx:p.j=x:=Option.some.inj hx
   subst hx
   rw[hq] at z;cases z
  | live i =>
   rw[hq] at e
   dsimp only at e
   split at e
   .cases e
   .exact zdm fuel _ j d (λx hx=>hd x (by rw[adv] at hx;exact hx)) e
set_option tactic.hygienic true in
def zgh{t:SetTable}(hr:t.place.toList.Pairwise (· < ·)){h:Int}{j:Nat}{b:Bool}(e:t.freeSlot h=some (j,b)):j∉t.place.toList:=by
 unfold SetTable.freeSlot at e
 split at e
 .rename_i j' d hp
  have e:=Option.some.inj e
  injection e with e1 _
  obtain⟨a1,a2⟩:=zdm _ _ _ _ (λx hx=>by cases hx) hp
  cases d with
  | none=>rw[<- e1];exact zlJ hr a1
  | some x=>rw[<- e1];exact zlJ hr (a2 x O)
 .cases e
def zir{xs:Array Nat}(hr:xs.toList.Pairwise (· < ·)){j:Nat}(hj:j∉xs.toList):(SetTable.insertAt xs (SetTable.below xs j) j).toList.Pairwise (· < ·):=by
 obtain⟨b1,b2,b3⟩:=zdX (j:=j) hr
 rw[SetTable.toList_insertAt,List.pairwise_append]
 refine{hr.sublist (List.take_sublist _ _),List.pairwise_cons.mpr {λx hx=>?_,hr.sublist (List.drop_sublist _ _)},λx hx y hy=>?_}
 .obtain⟨i,hi,rfl⟩:=List.getElem_of_mem hx
  rw[List.getElem_drop]
  rw[XaV] at hi
  have q:=b3 (SetTable.below xs j+i) (by omega) (by omega)
  exact Nat.lt_of_le_of_ne q λz=>hj (by rw[z];exact Xbe _)
 .obtain⟨i,hi,rfl⟩:=List.getElem_of_mem hx
  rw[List.getElem_take]
  rw[Xa6] at hi
  have q:=b2 i (by omega) (by omega)
  rcases Xau.mp hy with rfl|hy
  .exact q
  .obtain⟨k,hk,rfl⟩:=List.getElem_of_mem hy
   rw[List.getElem_drop]
   rw[XaV] at hk
   exact Xaj q (b3 _ (by omega) (by omega))
def zbD(n:Nat):(Array.range n).toList.Pairwise (· < ·):=by
 rw[Array.toList_range]
 exact List.pairwise_lt_range
def or_tab{L:Bool}{t:SetTable}(hr:t.place.toList.Pairwise (· < ·))(hl:t.led=L)(n:Nat):(t.orStandIn n).place.toList.Pairwise (· < ·)/\(t.orStandIn n).led=L:=by
 unfold SetTable.orStandIn
 by_cases h:t.fits n=true
 .rw[if_pos h];exact⟨hr,hl⟩
 .rw[if_neg h];exact{zbD n,hl}
set_option tactic.hygienic true in
def zin{L:Bool}{t:SetTable}{es:Array (Int×Value)}(T:Tab L t es.size)(h:Int)(x:Value):Tab L (layNew t es h x).2.1 (layNew t es h x).1.size:=by
 have ft:=layNew_fits t es h x
 have q:(layNew t es h x).2.1.place.toList.Pairwise (· < ·)/\(layNew t es h x).2.1.led=L:=by
  unfold layNew
  split
  .rename_i j b e
   exact or_tab (t:=(t.put j).1) (zir T.ris (zgh T.ris e)) T.led _
  .exact{zbD _,T.led}
 exact⟨ft,q.1,q.2⟩
def zew{mask finger moves:Nat}{led plain:Bool}{hashes:Array Int}{t:SetTable}{o:Array Nat}(e:SetTable.laid mask finger moves led plain hashes=some (t,o)):t.place.toList.Pairwise (· < ·)/\t.led=led:=by
 unfold SetTable.laid at e
 obtain⟨owner,_,e⟩:=Option.bind_eq_some_iff.mp e
 have e:=Option.some.inj e
 injection e with e1 _
 subst e1
 refine{?_,O}
 show((((List.range (mask+1)).filterMap λj=>(owner.getD j none).map (j,·)).map (·.1)).toArray).toList.Pairwise (· < ·)
 rw[List.map_filterMap,List.toList_toArray]
 refine List.Pairwise.filterMap _ (R:=(· < ·)) (S:=(· < ·)) (λa a' hl b hb b' hb'=>?_) List.pairwise_lt_range
 .cases h1:owner.getD a none with
  | none=>rw[h1] at hb;cases hb
  | some u =>
   rw[h1] at hb
   cases h2:owner.getD a' none with
   | none=>rw[h2] at hb';cases hb'
   | some v =>
    rw[h2] at hb'
    have q1:a=b:=Option.some.inj hb
    have q2:a'=b':=Option.some.inj hb'
    omega
set_option tactic.hygienic true in
def zi1{L:Bool}{t:SetTable}{es:Array (Int×Value)}(T:t.led=L)(n:Nat):Tab L (relayAll t es n).2.1 (relayAll t es n).1.size:=by
 refine{relayAll_fits t es n,?_,?_}
 .unfold relayAll
  split
  .rename_i t' o e
   dsimp only
   split
   .exact(zew e).1
   .exact zbD _
  .exact zbD _
 .unfold relayAll
  split
  .rename_i t' o e
   dsimp only
   split
   .exact(zew e).2.trans T
   .exact T
  .exact T
def sObj(es:Array (Int×Value))(ep:Nat)(t:SetTable):Obj:={cls:=.type "set",data:=.set es ep t}
def EOk(e:Int×Value):Prop:=∃(n:Int) (t:Tok),e=(hashInt n,.int n t)
def eInt(e:Int×Value):Int:=match e.2 with
 | .int n _=>n
 | _=>0
def zjQ(l:List (Int×Value)):List Int:=l.map eInt
def SetI(L:Bool)(h:Heap)(a:Addr)(S:List Int):Prop:=∃es ep t,h.get? a=some (sObj es ep t)/\(∀e∈es.toList,EOk e)/\(zjQ es.toList).Perm S/\S.Nodup/\Tab L t es.size
def SetI.at{L:Bool}{h h':Heap}{a:Addr}{S:List Int}(x:SetI L h a S)(e:∀o,h.get? a=some o->h'.get? a=some o):SetI L h' a S:=by
 obtain⟨es,ep,t,g,r⟩:=x
 exact{es,ep,t,e _ g,r}
def zjP{prog:Program}{w:World}{l:List (Int×Value)}(h:∀e∈l,EOk e):ElemsOf (intKind prog w) l:=λe he=>by
 obtain⟨n,t,rfl⟩:=h e he
 exact{{n,intKind_is _ _ _ _,O},O}
def zlM{prog:Program}{w:World}{e:Int×Value}(h:EOk e)(n:Int):(intKind prog w).is n e.2=decide (n=eInt e):=by
 obtain⟨m,t,rfl⟩:=h
 show Value.isInt n (.int m t)=decide (n=m)
 unfold Value.isInt
 by_cases e:n=m
 .subst e;simp
 .rw[Xan e];simpa usingλz=>e z.symm
section
variable{prog:Program}{w:World}{A:Around}{E:Value->Shared->Prop}{s:Shared}
def zlA{h:Heap}{a:Addr}{es es':Array (Int×Value)}{ep:Nat}{t t':SetTable}(g:h.get? a=some (sObj es ep t)):(h.update a (Obj.putSet es' t')).get? a=some (sObj es' (ep+1) t'):=by
 have e:=putSet_of es' t' (show(sObj es ep t).data=.set es ep t from O)
 have:=XaM (Obj.putSet es' t') g (by rw[e];rfl)
 rw[e] at this;exact this
def zhW{L:Bool}{g:Bool->Sem Unit}(hg:∀(b:Bool) (s₁:Shared) (Q':Unit->Shared->Prop),Q' () s₁->wpAny (model prog w) A (g b) Q' E s₁){a:Addr}{es es1:Array (Int×Value)}{ep:Nat}{t t2:SetTable}(ho:s.heap.get? a=some (sObj es ep t))
  (hz:es1.size<scanBound) (T2:Tab L t2 es1.size) {wd:Bool} {R:Option Bool->Shared->Prop}
  (h:∀h' es' ep' t',Heap.SameBut a s.heap h'->h'.get? a=some (sObj es' ep' t')->es'.toList.Perm es1.toList->Tab L t' es'.size->R (some true) {s with heap:=h'}) :
  wpAny (model prog w) A (do
   storeSet a es1 t2
   if(!wd&&t2.tooFull)=true then do
    g (relayAll t2 es1 (SetTable.grown es1.size)).2.2
    storeSet a (relayAll t2 es1 (SetTable.grown es1.size)).1 (relayAll t2 es1 (SetTable.grown es1.size)).2.1
    pure (some true)
   else pure (some true)) R E s:=by
 refine Xaa (wpAny_storeSet_of ho O ?_ (fits_of_scanBound hz))
 have g1:=zlA (es':=es1) (t':=t2) ho
 have b1:=Heap.SameBut.update s.heap a (Obj.putSet es1 t2)
 split
 .have pm:=relayAll_perm t2 es1 (SetTable.grown es1.size)
  have T3:=zi1 (es:=es1) T2.led (SetTable.grown es1.size)
  generalize relayAll t2 es1 (SetTable.grown es1.size)=Y at pm T3 ⊢
  obtain⟨es2,t3,gv⟩:=Y
  have sz:es2.size=es1.size:=by rw[<- Array.length_toList,pm.length_eq,Array.length_toList]
  refine Xaa (hg _ _ _ (Xaa (wpAny_storeSet_of g1 O ?_ (fits_of_scanBound (by rw[sz];exact hz)))))
  exact Xac (h _ es2 _ t3 (b1.trans (Heap.SameBut.update _ a _)) (zlA g1) pm T3)
 .exact Xac (h _ es1 _ t2 b1 g1 .rfl T2)
def zmf{L:Bool}{a:Addr}{S:List Int}{n:Int}{tok:Tok}{Q:Value->Shared->Prop}(hS:SetI L s.heap a S)(hz:S.length<1000)
  (h:∀h',Heap.SameBut a s.heap h'->SetI L h' a (if n∈S then S else S++[n])->Q .none {s with heap:=h',toks:=s.toks+1}) :
  wpAny (model prog w) A (call (.builtin "set.add") [.ref a,.int n tok]) Q E s:=by
 obtain⟨es,ep,t,ho,hE,hP,hN,T⟩:=hS
 have hel:=zjP (prog:=prog) (w:=w) hE
 have hsz:es.size=S.length:=by rw[<- Array.length_toList,<- hP.length_eq];unfold zjQ;rw[Xag]
 have hb:es.size<scanBound:=XbO (show es.size<1000 by omega) (by decide)
 have hk:(intKind prog w).is n (.int n tok)=true:=intKind_is _ _ _ _
 have hsc:(Value.int n tok).scannable=true:=rfl
 refine XaW F.slot_set_add (show s.TypeIs (.ref a) "set" from{_,ho,O}) F.entry_set_add ?_ (F.args_set_add_2 _ _)
 unfold Builtin.«set.add» Builtin.Frozenset.oneOther;simp only[List.isEmpty_nil,bind_assoc]
 unfold Builtin.Frozenset.addrOf setAdd;refine Xaa (Xac ?_)
 try dsimp only
 refine Xaa (Xac (Xaa (XaR (Xaa ((intKind prog w).pyHash hk ?_)))))
 generalize hs1:({s with toks:=s.toks+1}:Shared)=s1
 have ho1:s1.heap.get? a=some (sObj es ep t):=by rw[<- hs1];exact ho
 have fin:∀(b:Bool) h',Heap.SameBut a s.heap h'->SetI L h' a (if n∈S then S else S++[n])->(λ(_:Bool) s'=>wpAny (model prog w) A.in1 (ret Value.none) (λfin s'=>∃v,fin=.done (.ret v)/\Q v s') E s') b {s1 with heap:=h'}:=λb h' hb' x=>by
  have:=h h' hb' x
  rw[<- hs1]
  exact Xac {_,O,this}
 show wpAny (model prog w) A.in1 (setAddHashed a (.int n tok) ((intKind prog w).hash n)) (λ_ s'=>wpAny (model prog w) A.in1 (ret Value.none) (λfin s'=>∃v,fin=.done (.ret v)/\Q v s') E s') E s1
 unfold setAddHashed setAddHashedIn;refine XaR (Xaa (Xbh ho1 O T.fits ?_))
 dsimp only
 rw[byScan_of hsc hb hel,if_pos O]
 unfold setAddByScan;refine Xaa (Xaa (XbK (Xaa (wpAny_setScan_of hk ho1 O T.fits hel ?_))))
 have s1h:s1.heap=s.heap:=by rw[<- hs1]
 have mem:n∈S↔∃e∈es.toList,(intKind prog w).is n e.2=true:=by
  rw[<- hP.mem_iff]
  constructor
  .intro hm
   obtain⟨e,he,z⟩:=XaC.mp hm
   exact{e,he,by rw[zlM (hE e he)];exact Xak z.symm}
  .rintro⟨e,he,z⟩
   rw[zlM (hE e he)] at z
   rw[XaK z]
   exact XaC.mpr ⟨e,he,O⟩
 cases hr:List.findIdx? (λe=>(intKind prog w).is n e.2) es.toList with
 | some j =>
  obtain⟨hj,pj,_⟩:=Xba.mp hr
  have hm:n∈S:=mem.mpr {_,Xbe hj,pj}
  refine Xac (Xac ?_)
  have:=fin false s.heap (Heap.SameBut.refl a s.heap) (by rw[if_pos hm];exact⟨es,ep,t,ho,hE,hP,hN,T⟩)
  rw[<- hs1] at this ⊢
  exact this
 | none =>
  have hm:n∉S:=λz=>by
   obtain⟨e,he,p⟩:=mem.mp z
   have:=XbL.mp hr e he
   rw[p] at this;cases this
  rw[if_neg hm] at fin
  have pm:=layNew_perm t es ((intKind prog w).hash n) (.int n tok)
  have T1:=zin T ((intKind prog w).hash n) (.int n tok)
  generalize layNew t es ((intKind prog w).hash n) (.int n tok)=Y at pm T1 ⊢
  obtain⟨es1,t1,wd,gv⟩:=Y
  dsimp only at pm T1 ⊢
  rw[Array.toList_push] at pm
  have sz1:es1.size=es.size+1:=by rw[<- Array.length_toList,pm.length_eq,Xam,Array.length_toList];rfl
  have hz1:es1.size<scanBound:=XbO (show es1.size<1001 by omega) (by decide)
  have last:∀h' es' ep' t',Heap.SameBut a s1.heap h'->h'.get? a=some (sObj es' ep' t')->es'.toList.Perm es1.toList->Tab L t' es'.size->SetI L h' a (S++[n]):=λh' es' ep' t' hb' g' p' T'=>by
   have p2:=p'.trans pm
   refine{es',ep',t',g',λe he=>?_,?_,?_,T'}
   .rcases XaI.mp (p2.mem_iff.mp he) with z|z
    .exact hE e z
    .rw[Xad.mp z];exact⟨n,tok,O⟩
   .have q:=p2.map eInt
    rw[XaD] at q
    exact q.trans (hP.append_right _)
   .exact Xa2.mpr {hN,XbV.mpr {(λz=>nomatch z),Xbg},λx hx y hy z=>hm (by rw[<- Xad.mp hy,<- z];exact hx)}
  refine Xaa (m:=(match gv with|true=>rule "set.scan.the-table-gave-way" | false=>pure ())) ?_
  have hgw:∀(b:Bool) (s₁:Shared) (Q':Unit->Shared->Prop),Q' () s₁->wpAny (model prog w) A.in1 (match b with|true=>rule "set.scan.the-table-gave-way" | false=>pure ()) Q' E s₁:=λb s₁ Q' q=>by
   cases b
   .exact Xac q
   .exact XbK q
  refine hgw gv _ _ ?_
  have off:Tab L {t1 with plain:=false} es1.size:={SetTable.fits_plain_off T1.fits,T1.ris,T1.led}
  split
  .refine Xaa ?_
   rw[hashByValue_scannable 8 hsc]
   refine Xac (zhW (L:=L) hgw ho1 hz1 ?_ λh' es' ep' t' hb' g' p' T'=>Xac (fin true h' (by rw[<- s1h];exact hb') (last h' es' ep' t' hb' g' p' T')))
   split
   .exact T1
   .exact off
  .refine Xaa (Xac ?_)
   rw[if_pos O]
   exact zhW (L:=L) hgw ho1 hz1 T1 λh' es' ep' t' hb' g' p' T'=>Xac (fin true h' (by rw[<- s1h];exact hb') (last h' es' ep' t' hb' g' p' T'))
end
def slot_si_next:Slot "set_iterator" "__next__" "set_iterator.__next__" :=
 .of (owner := "set_iterator") (n := "__next__") (by rw[typeLookup_type,builtinLookup_eq_fast];kernel_rfl) (by decide +kernel) (by decide +kernel) (by decide +kernel) (by first|exact .inl (by decide +kernel)|exact .inr (by decide +kernel)) (by rw[isSubtype_type];kernel_rfl)
def zc2:entryFor table "set_iterator.__next__"=some Builtin.«set_iterator.__next__»:=entryFor_of_tree (by kernel_rfl)
def zhF:Manifest.owners.lookup (String.ofList ['r','o','t','a','r','e','t','i','_','t','e','s'].reverse)=some Manifest.sig_set_iterator:=by kernel_rfl
def zdC(a:Value):argsOk "set_iterator.__next__" {[a],[]}:=by
 unfold argsOk;rw[signature?_of (id := "set_iterator.__next__") (n:=['_','_','t','x','e','n','_','_']) (o:=['r','o','t','a','r','e','t','i','_','t','e','s']) (by kernel_rfl) zhF];kernel_rfl
def zgk:entryFor table "set.__iter__"=some Builtin.«frozenset.__iter__»:=entryFor_alias (id' := "frozenset.__iter__") (by kernel_rfl) O (by decide +kernel) (by kernel_rfl)
def zds{α:Type}:∀{l:List α} {i:Nat} (h:i<l.length),(l[i]::l.eraseIdx i).Perm l
 | a::l,0,h=>.rfl
 | a::l,i+1,h=>(List.Perm.swap _ _ _).trans ((zds (l:=l) (i:=i) (by simpa using h)).cons a)
def zja{α:Type}(next:Nat->Nat):∀(fuel k:Nat) (left:List α) (out:Array α),left.length=fuel->(pickOrder.go next fuel k left out).toList.Perm (out.toList++left)
 | 0,k,left,out,h=>by rw[List.eq_nil_of_length_eq_zero h,Xbm];exact .rfl
 | fuel+1,k,left,out,h=>by
  have hl:next k % left.length<left.length:=Xbw _ (by omega)
  unfold pickOrder.go
  rw[Xah hl]
  dsimp only
  refine(zja next fuel (k+1) _ _ (by rw[List.length_eraseIdx_of_lt hl];omega)).trans ?_
  rw[Array.toList_push,List.append_assoc]
  exact(List.Perm.refl _).append (zds hl)
def zi9{α:Type}(next:Nat->Nat)(xs:Array α):(pickOrder next xs).toList.Perm xs.toList:=by
 have:=zja next xs.size 0 xs.toList #[] (by simp)
 simpa[pickOrder] using this
section
variable{prog:Program}{w:World}{A:Around}{E:Value->Shared->Prop}{s:Shared}
def ziC{src:Source}{n:Nat}{Q:Nat->Shared->Prop}(hn:n≠0)(h:∀i d,i<n->Q i {s with drawn:=d}):wpAny (model prog w) A (choose src n) Q E s:=λΓ p _ =>
 {hn,h _ _ (Xbw _ (Nat.pos_of_ne_zero hn))}
def zeZ{α:Type}:∀(n:Nat) (xs:List α) (s:Shared) (Q:List α->Shared->Prop),xs.length=n->(∀ys d,ys.Perm xs->Q ys {s with drawn:=d})->wpAny (model prog w) A (drawOrder n xs) Q E s
 | 0,xs,s,Q,h,q=>by
  unfold drawOrder
  exact Xac (by have:=q [] s.drawn (by rw[List.eq_nil_of_length_eq_zero h]);exact this)
 | n+1,[],s,Q,h,q=>by cases h
 | n+1,x::xs,s,Q,h,q=>by
  unfold drawOrder
  refine Xaa (ziC (by simp) λi d hi=>?_)
  rw[Xah hi]
  dsimp only
  refine Xaa (zeZ n _ _ _ (by rw[List.length_eraseIdx_of_lt hi];simp at h ⊢;exact h) λys d' p=>Xac (q _ d' ?_))
  exact(List.Perm.cons _ p).trans (zds hi)
def ziE(w:World)(a:Addr)(es:Array (Int×Value))(ep:Nat)(t:SetTable)(vs:List Value)(h:Heap)(i:Nat)(first:Value):Prop:=
 (w.params.followText "set-order"=true/\(∃k:Nat,first=.int (k:Int) 0)/\vs=(pickOrder (w.params.setOrder a ep) es).toList.map (·.2)) \/
 (w.params.followText "set-order"=false/\(!t.plain&&decide (es.size>1))=false/\t.led=true/\(∃k:Nat,first=.int (k:Int) 0/\SetTable.below t.place k=i)/\vs=es.toList.map (·.2)) \/
 (w.params.followText "set-order"=false/\∃(T:Addr) (ps:List Nat),first=.ref T/\h.get? T=some {cls:=.type "tuple",data:=.seq (ps.map λ(p:Nat)=>Value.int (p:Int) 0).toArray}/\ps.length=es.size/\(∀p∈ps,p<es.size)/\vs=ps.map λp=>((es[p]?).getD (0,.none)).2)
end
def siO(first:Value)(i:Int)(a:Value)(n:Int)(ep:Int):Obj:={cls:=.type "set_iterator",data:=.fields #[first,.int i 0,a,.int n 0,.int ep 0]}
section
variable{prog:Program}{w:World}{A:Around}{E:Value->Shared->Prop}{s:Shared}
def zeO{h:Heap}{I:Addr}{vs:Array Value}{j:Nat}{x:Value}(hI:h.get? I=some {cls:=.type "set_iterator",data:=.fields vs}):(h.update I (Obj.mapFields (·.setIfInBounds j x))).get? I=some {cls:=.type "set_iterator",data:=.fields (vs.setIfInBounds j x)}:=by
 have:=XaM (Obj.mapFields (·.setIfInBounds j x)) hI O
 exact this
def zmc{I a:Addr}{es:Array (Int×Value)}{ep i:Nat}{t:SetTable}{vs:List Value}{first x:Value}{Q:Option Value->Shared->Prop}(hI:s.heap.get? I=some (siO first (i:Int) (.ref a) (es.size:Int) (ep:Int)))(ha:s.heap.get? a=some (sObj es ep t))(hf:t.fits es.size=true)(hr:t.place.toList.Pairwise (· < ·))
  (m:ziE w a es ep t vs s.heap i first) (hx:vs[i]?=some x)
  (hq:∀h' first',Heap.SameBut I s.heap h'->h'.get? I=some (siO first' ((i+1:Nat):Int) (.ref a) (es.size:Int) (ep:Int))->ziE w a es ep t vs h' (i+1) first'->(∀T:Addr,first'=.ref T->first=.ref T)->Q (some x) {s with heap:=h'}):wpAny (model prog w) A (pyNext (.ref I)) Q E s:=by
 have hT:s.TypeIs (.ref I) "set_iterator" := {_,hI,O}
 have ps:t.place.size=es.size:=by
  have:=hf;unfold SetTable.fits at this
  exact beq_iff_eq.mp (Bool.and_eq_true_iff.mp this).1
 unfold pyNext
 refine Xaa (wpAny_attempt (wpAny_callSpecial?_slot (name:=Str.ofString "__next__") hT slot_si_next (XaW slot_si_next hT zc2 ?_ (zdC _))))
 delta Builtin.«set_iterator.__next__»
 refine Xaa (m:=slotArgs "__next__" 0 _) (Xac ?_)
 dsimp only
 refine Xaa (wpAny_fieldsOf hI O ?_)
 show wpAny _ _ (setEntries a >>= _) _ _ s
 refine Xaa (wpAny_setEntries_of ha O hf ?_)
 rw[if_neg (by simp)]
 have far:∀{T:Addr} {o:Obj},s.heap.get? T=some o->o.cls=.type "tuple" -> T≠I:=λ{T o} e c z=>by rw[z,hI] at e;cases e;exact absurd (show("set_iterator" : String)="tuple" by injection c) (by decide)
 rcases m with⟨bt,⟨k,rfl⟩,ev⟩|⟨bt,dr,led,⟨k,rfl,bk⟩,ev⟩|⟨bt,T,pl,rfl,eT,hl,hp,ev⟩
 .
  show wpAny _ _ (setNext a (k:Int).toNat (i:Int).toNat (ep:Int).toNat >>= _) _ _ s
  rw[Xav,Xav,Xav]
  unfold setNext setsByText setWalk
  refine Xaa (Xaa (Xbh ha O hf ?_))
  refine Xaa (Xaa (Xa1 (Xac ?_)))
  rw[show(model prog w).w.params.followText "set-order"=true from bt,if_pos O,show(ep != ep)=false by simp,if_neg Xal]
  refine Xaa (Xaa (Xbh ha O hf ?_))
  unfold setsByText
  refine Xaa (Xaa (Xa1 (Xac ?_)))
  rw[show(model prog w).w.params.followText "set-order"=true from bt,if_pos O]
  refine Xaa (Xa1 (Xac (Xac ?_)))
  have e1:(pickOrder ((model prog w).w.params.setOrder a ep) es)[i]?.map (λe=>(e.2,k))=some (x,k):=by
   rw[ev,Xao,Xbi] at hx
   obtain⟨e,h1,h2⟩:=Xax.mp hx
   show(pickOrder (w.params.setOrder a ep) es)[i]?.map _=_
   rw[h1,<- h2];rfl
  rw[e1]
  refine Xaa (Xa4 hI O (by simp) ?_)
  have h1:=zeO (j:=0) (x:=.int (k:Int) 0) hI
  refine Xaa (Xa4 h1 O (by simp) ?_)
  have h2:=zeO (j:=1) (x:=.int ((i:Int)+1) 0) h1
  refine Xac {_,O,?_}
  refine Xac (hq _ (.int (k:Int) 0) ((Heap.SameBut.update _ _ _).trans (Heap.SameBut.update _ _ _)) h2 (.inl {bt,⟨k,O⟩,ev}) λT z=>by cases z)
 .
  have hi:i<es.size:=by
   have:=(Xaf.mp hx).1
   rw[ev,Xag] at this;simpa using this
  have hip:i<t.place.size:=by omega
  show wpAny _ _ (setNext a (k:Int).toNat (i:Int).toNat (ep:Int).toNat >>= _) _ _ s
  rw[Xav,Xav,Xav]
  unfold setNext setsByText
  refine Xaa (Xaa (Xbh ha O hf ?_))
  refine Xaa (Xaa (Xa1 (Xac ?_)))
  rw[show(model prog w).w.params.followText "set-order"=false from bt,if_neg Xal]
  rw (transparency:=.default) [if_neg (λz=>Xal (dr.symm.trans z))]
  refine Xaa ?_
  show wpAny _ _ (if(!t.led&&!es.isEmpty)=true then(unsupported "set:maker-not-led" : Sem Unit) else pure ()) _ _ s
  rw[if_neg (by rw[led];exact Xal)]
  refine Xac (Xac ?_)
  have e1:es[i]?=some (es[i].1,x):=by
   rw[ev,Xao,Xbi,XaN hi] at hx
   rw[XaN hi,<- Option.some.inj hx]
  rw[bk,e1,XaN hip]
  refine Xaa (Xa4 hI O (by simp) ?_)
  have h1:=zeO (j:=0) (x:=.int ((t.place[i]+1:Nat):Int) 0) hI
  refine Xaa (Xa4 h1 O (by simp) ?_)
  have h2:=zeO (j:=1) (x:=.int ((i:Int)+1) 0) h1
  refine Xac {_,O,?_}
  refine Xac (hq _ (.int ((t.place[i]+1:Nat):Int) 0) ((Heap.SameBut.update _ _ _).trans (Heap.SameBut.update _ _ _)) h2 (.inr (.inl {bt,dr,led,{t.place[i]+1,O,ziB hr hip},ev})) λT z=>by cases z)
 .
  have hip:i<pl.length:=by
   have:=(Xaf.mp hx).1
   rw[ev,Xag] at this;exact this
  have hpi:pl[i]<es.size:=hp _ (Xbe hip)
  show wpAny _ _ (seqItems? (.ref T) >>= _) _ _ s
  refine Xaa (Xbl eT O ?_)
  dsimp only
  rw[Xav,List.getElem?_toArray,Xao,Xah hip]
  show wpAny _ _ (setNextDrawn a ((pl[i]:Nat):Int).toNat (ep:Int).toNat >>= _) _ _ s
  rw[Xav,Xav]
  unfold setNextDrawn
  refine Xaa (Xaa (Xbh ha O hf ?_))
  dsimp only
  rw[show(ep != ep)=false by simp,if_neg Xal]
  have e1:es[pl[i]]?=some (es[pl[i]].1,x):=by
   rw[ev,Xao,Xah hip,Option.map_some,XaN hpi] at hx
   rw[XaN hpi,<- Option.some.inj hx];rfl
  rw[e1]
  refine Xac ?_
  refine Xaa (Xa4 hI O (by simp) ?_)
  have h1:=zeO (j:=1) (x:=.int ((i:Int)+1) 0) hI
  refine Xac {_,O,?_}
  refine Xac (hq _ (.ref T) (Heap.SameBut.update _ _ _) h1 (.inr (.inr {bt,T,pl,O,?_,hl,hp,ev})) λT' z=>z)
  exact(Heap.SameBut.update s.heap I _).extBut T _ (far eT O) eT
end
def zdv:Slot "set_iterator" "__iter__" "set_iterator.__iter__" :=
 .of (owner := "set_iterator") (n := "__iter__") (by rw[typeLookup_type,builtinLookup_eq_fast];kernel_rfl) (by decide +kernel) (by decide +kernel) (by decide +kernel) (by first|exact .inl (by decide +kernel)|exact .inr (by decide +kernel)) (by rw[isSubtype_type];kernel_rfl)
def zfB:entryFor table "set_iterator.__iter__"=some Builtin.«dict_keyiterator.__iter__»:=entryFor_alias (id' := "dict_keyiterator.__iter__") (by kernel_rfl) O (by decide +kernel) (by kernel_rfl)
def zgz(a:Value):argsOk "set_iterator.__iter__" {[a],[]}:=by
 unfold argsOk;rw[signature?_of (id := "set_iterator.__iter__") (n:=['_','_','r','e','t','i','_','_']) (o:=['r','o','t','a','r','e','t','i','_','t','e','s']) (by kernel_rfl) zhF];kernel_rfl
section
variable{prog:Program}{w:World}{A:Around}{E:Value->Shared->Prop}{s:Shared}
def zgH{α:Type}{Q:α->Shared->Prop}(hh:A.handled=none)(q:∀e,(∃o,(s.heap.push (seqObj "tuple" #[] 0)).push o=(s.heap.push (seqObj "tuple" #[] 0)).push o)->∀h',Heap.ExtBut s.heap.objs.size s.heap h'->(∀b o,s.heap.get? b=some o->h'.get? b=some o)->(∃o,h'.get? e=some o/\o.cls=.type "StopIteration")->E (.ref e) {s with heap:=h'}) :
  wpAny (model prog w) A (do raiseNew (<- newExc (.type "StopIteration") [])) Q E s:=by
 refine Xaa ?_;simp only[newExc,newTuple];refine Xaa (XaO ?_ (by size_fits))
 refine Xaa (m:=firstArgMember _ _) (wpAny_of_eq (a:=Value.none) (by first|rfl|(simp only[firstArgMember];rfl)) ?_);refine XaO ?_ (by size_fits)
 simp only[raiseNew];refine Xaa (wpAny_handled ?_);rw[hh];refine Xaa (Xac (wpAny_throw ?_))
 refine q _ ⟨default,O⟩ _ (λb o _ e=>Xab _ (Xab _ e)) (λb o e=>Xab _ (Xab _ e)) {_,Xai _ O,O}
def zmd{I a:Addr}{es:Array (Int×Value)}{ep:Nat}{t:SetTable}{vs:List Value}{first:Value}{Q:Option Value->Shared->Prop}(hh:A.handled=none)(hI:s.heap.get? I=some (siO first (vs.length:Int) (.ref a) (es.size:Int) (ep:Int)))(ha:s.heap.get? a=some (sObj es ep t))(hf:t.fits es.size=true)(hr:t.place.toList.Pairwise (· < ·))
  (m:ziE w a es ep t vs s.heap vs.length first)
  (hq:∀h',Heap.ExtBut I s.heap h'->Q none {s with heap:=h'}):wpAny (model prog w) A (pyNext (.ref I)) Q E s:=by
 have hT:s.TypeIs (.ref I) "set_iterator" := {_,hI,O}
 unfold pyNext
 refine Xaa (wpAny_attempt (wpAny_callSpecial?_slot (name:=Str.ofString "__next__") hT slot_si_next (XaW slot_si_next hT zc2 ?_ (zdC _))))
 delta Builtin.«set_iterator.__next__»
 refine Xaa (m:=slotArgs "__next__" 0 _) (Xac ?_)
 dsimp only
 refine Xaa (wpAny_fieldsOf hI O ?_)
 show wpAny _ _ (setEntries a >>= _) _ _ s
 refine Xaa (wpAny_setEntries_of ha O hf ?_)
 rw[if_neg (by simp)]
 
 have last:∀{Q':PySem.Fin->Shared->Prop} (h1:Heap),Heap.SameBut I s.heap h1->wpAny (model prog w) A.in1 (do raiseNew (<- newExc (.type "StopIteration") [])) Q' (λe s'=>wpAny (model prog w) A (do let __do_lift <- isInstance e (Value.type "StopIteration");if __do_lift=true then pure none else throw e) Q E s') {s with heap:=h1}:=λ{Q'} h1 b1=>by
  refine zgH hh λe _ h' _ k he=>?_
  obtain⟨o,ho,hcl⟩:=he
  refine Xaa (wpAny_isInstance (T := "StopIteration") (b:=true) ⟨o,ho,hcl⟩ isSubtype_stop ?_)
  exact Xac (hq h' λb o hb e=>k b o (b1.extBut b o hb e))
 rcases m with⟨bt,⟨k,rfl⟩,ev⟩|⟨bt,dr,led,⟨k,rfl,bk⟩,ev⟩|⟨bt,T,pl,rfl,eT,hl,hp,ev⟩
 .show wpAny _ _ (setNext a (k:Int).toNat (vs.length:Int).toNat (ep:Int).toNat >>= _) _ _ s
  rw[Xav,Xav,Xav]
  unfold setNext setsByText setWalk
  refine Xaa (Xaa (Xbh ha O hf ?_))
  refine Xaa (Xaa (Xa1 (Xac ?_)))
  rw[show(model prog w).w.params.followText "set-order"=true from bt,if_pos O,show(ep != ep)=false by simp,if_neg Xal]
  refine Xaa (Xaa (Xbh ha O hf ?_))
  unfold setsByText
  refine Xaa (Xaa (Xa1 (Xac ?_)))
  rw[show(model prog w).w.params.followText "set-order"=true from bt,if_pos O]
  refine Xaa (Xa1 (Xac (Xac ?_)))
  have e1:(pickOrder ((model prog w).w.params.setOrder a ep) es)[vs.length]?=none:=by
   rw[<- Xbi,XaG]
   rw[ev,Xag];exact Xae _
  rw[e1]
  refine Xaa (Xa4 hI O (by simp) ?_)
  exact last _ (Heap.SameBut.update _ _ _)
 .show wpAny _ _ (setNext a (k:Int).toNat (vs.length:Int).toNat (ep:Int).toNat >>= _) _ _ s
  rw[Xav,Xav,Xav]
  unfold setNext setsByText
  refine Xaa (Xaa (Xbh ha O hf ?_))
  refine Xaa (Xaa (Xa1 (Xac ?_)))
  rw[show(model prog w).w.params.followText "set-order"=false from bt,if_neg Xal]
  rw (transparency:=.default) [if_neg (λz=>Xal (dr.symm.trans z))]
  refine Xaa ?_
  show wpAny _ _ (if(!t.led&&!es.isEmpty)=true then(unsupported "set:maker-not-led" : Sem Unit) else pure ()) _ _ s
  rw[if_neg (by rw[led];exact Xal)]
  refine Xac (Xac ?_)
  have e1:es[vs.length]?=none:=by
   rw[<- Xbi,XaG]
   rw[ev,Xag];exact Xae _
  rw[bk,e1]
  refine Xaa (Xa4 hI O (by simp) ?_)
  exact last _ (Heap.SameBut.update _ _ _)
 .show wpAny _ _ (seqItems? (.ref T) >>= _) _ _ s
  refine Xaa (Xbl eT O ?_)
  dsimp only
  have e1:(pl.map λ(p:Nat)=>Value.int (p:Int) 0).toArray[vs.length]?=none:=by
   rw[List.getElem?_toArray,XaG]
   rw[ev,Xag,Xag];exact Xae _
  rw[Xav,e1]
  refine Xaa (Xa4 hI O (by simp) ?_)
  have h1:=zeO (j:=0) (x:=.int 0 0) hI
  refine Xaa (Xa4 h1 O (by simp) ?_)
  exact last _ ((Heap.SameBut.update _ _ _).trans (Heap.SameBut.update _ _ _))
def zku{I a:Addr}{es:Array (Int×Value)}{ep:Nat}{t:SetTable}{vs:List Value}{fp:List Addr}(hh:A.handled=none)(hf:t.fits es.size=true)(hr:t.place.toList.Pairwise (· < ·))(hIa:I≠a)(hI:I∈fp)(ha:a∈fp) :
  Walks prog w A I fp [I] vs.length (λi v=>vs[i]?=some v) (λi h=>∃first,h.get? I=some (siO first (i:Int) (.ref a) (es.size:Int) (ep:Int))/\h.get? a=some (sObj es ep t)/\ziE w a es ep t vs h i first/\∀T:Addr,first=.ref T->T∈fp) where
 sub:=λb hb=>by rw[Xad.mp hb];exact hI
 frame:=λi h h' ⟨first,e1,e2,m,m2⟩ k=>by
  refine{first,k I hI _ e1,k a ha _ e2,?_,m2}
  rcases m with z|z|⟨bt,T,pl,ef,eT,r⟩
  .exact .inl z
  .exact .inr (.inl z)
  .exact .inr (.inr {bt,T,pl,ef,k T (m2 T ef) _ eT,r})
 item:=λi s Q E hi ⟨first,e1,e2,m,m2⟩ q=>by
  have hx:vs[i]?=some vs[i]:=Xah hi
  refine zmc e1 e2 hf hr m hx λh' first' b g m' mt=>?_
  have:=q vs[i] h' s.toks hx {first',g,b.extBut a _ (Ne.symm hIa) e2,m',?_} λb' o hb' e=>b.extBut b' o (λz=>hb' (by rw[z];exact Xad.mpr O)) e
  .exact this
  .exactλT z=>m2 T (mt T z)
 done:=λs Q E ⟨first,e1,e2,m,m2⟩ q=>zmd hh e1 e2 hf hr m λh' k=>q h' s.toks λb o hb e=>k b o (λz=>hb (by rw[z];exact Xad.mpr O)) e
 self:=λi s Q E ⟨first,e1,e2,m,m2⟩ q=>by
  have hT:s.TypeIs (.ref I) "set_iterator" := {_,e1,O}
  refine wpAny_pyIter_slot hT zdv (XaW zdv hT zfB ?_ (zgz _))
  delta Builtin.«dict_keyiterator.__iter__»
  refine Xaa (m:=slotArgs "__iter__" 0 _) (Xac ?_)
  exact Xac {_,O,"set_iterator",_,hT,slot_si_next.lookup,q}
end
section
variable{prog:Program}{w:World}{A:Around}{E:Value->Shared->Prop}{s:Shared}
def zh5(es:Array (Int×Value)):(List.range es.size).map (λp=>((es[p]?).getD (0,.none)).2)=es.toList.map (·.2):=by
 apply List.ext_getElem
 .simp
 .intro i h1 h2
  have hi:i<es.size:=by simpa using h1
  simp[XaN hi]
def zkw{a:Addr}{es:Array (Int×Value)}{ep:Nat}{t:SetTable}{Q:Value->Shared->Prop}(ha:s.heap.get? a=some (sObj es ep t))(Tb:Tab (!w.params.followText "set-order") t es.size)(hz:es.size<=sizeLine)
  (q:∀(h':Heap) (d:Drawn) (I:Addr) (first:Value) (vs:List Value),(∀b o,s.heap.get? b=some o->h'.get? b=some o)->h'.get? I=some (siO first 0 (.ref a) (es.size:Int) (ep:Int))->ziE w a es ep t vs h' 0 first->vs.Perm (es.toList.map (·.2))->s.heap.objs.size<=I->I<h'.objs.size->(∀T:Addr,first=.ref T->s.heap.objs.size<=T/\T<h'.objs.size)->Q (.ref I) {s with heap:=h',drawn:=d}) :
  wpAny (model prog w) A (pyIter (.ref a)) Q E s:=by
 have hT:s.TypeIs (.ref a) "set" := {_,ha,O}
 refine wpAny_pyIter_slot hT F.slot_set_iter (XaW F.slot_set_iter hT zgk ?_ (F.args_set_iter_1 _))
 delta Builtin.«frozenset.__iter__»
 unfold Builtin.Frozenset.slot0
 refine Xaa (Xaa (m:=slotArgs "__iter__" 0 _) (Xac ?_))
 unfold Builtin.Frozenset.addrOf
 refine Xac ?_
 dsimp only
 unfold Builtin.Frozenset.sizeOf
 refine Xaa (Xaa (wpAny_setEntries_of ha O Tb.fits (Xac ?_)))
 unfold setDrawn setsByText
 refine Xaa (Xaa (Xbh ha O Tb.fits ?_))
 refine Xaa (Xaa (Xa1 (Xac (Xac ?_))))
 rw[show(model prog w).w.params.followText "set-order"=w.params.followText "set-order" from O]
 have fin:∀(s1:Shared) (first:Value),s1.heap.get? a=some (sObj es ep t)->(Q (.ref s1.heap.objs.size) {s1 with heap:=s1.heap.push (siO first 0 (.ref a) (es.size:Int) (ep:Int))}) ->
   wpAny (model prog w) A.in1 (do let __do_lift <- setEpoch a;let __do_lift <- newFields "set_iterator" [first,rawInt 0,.ref a,rawInt (es.size:Int),rawInt (__do_lift:Int)];ret __do_lift) (λfin s'=>∃v,fin=.done (.ret v)/\∃T' r,s'.TypeIs v T'/\typeLookup (.type T') (Str.ofString "__next__")=pure (some r)/\Q v s') E s1:=λs1 first h1 hq=>by
  refine Xaa (wpAny_setEpoch_of h1 O Tb.fits ?_)
  refine Xaa (XaO ?_)
  exact Xac {_,O,"set_iterator",_,{_,Xai _ O,O},slot_si_next.lookup,hq}
 have plain:∀vs:List Value,ziE w a es ep t vs (s.heap.push (siO (.int 0 0) 0 (.ref a) (es.size:Int) (ep:Int))) 0 (.int 0 0)->vs.Perm (es.toList.map (·.2))->Q (.ref s.heap.objs.size) {s with heap:=s.heap.push (siO (.int 0 0) 0 (.ref a) (es.size:Int) (ep:Int))}:=λvs m p =>
  q _ s.drawn s.heap.objs.size (.int 0 0) vs (λb o e=>Xab _ e) (Xai _ O) m p (Xae _) (by rw[XaL];exact Xbb _) (λT z=>by cases z)
 cases bt:w.params.followText "set-order" with
 | true =>
  rw (transparency:=.default) [if_neg (show¬ (!true&&(!t.plain&&decide (es.size>1)))=true from Xal)]
  refine Xaa (Xac (fin s (rawInt 0) ha (plain _ (.inl {bt,{0,O},O}) ((zi9 _ es).map _))))
 | false =>
  have led:t.led=true:=by have:=Tb.led;rw[bt] at this;exact this
  cases hd:(!t.plain&&decide (es.size>1)) with
  | false =>
   rw (transparency:=.default) [if_neg (show¬ (!false&&(!t.plain&&decide (es.size>1)))=true by rw[hd];exact Xal)]
   refine Xaa (Xac (fin s (rawInt 0) ha (plain _ (.inr (.inl {bt,hd,led,{0,O,ziA Tb.ris},O})) .rfl)))
  | true =>
   rw (transparency:=.default) [if_pos (show(!false&&(!t.plain&&decide (es.size>1)))=true by rw[hd];rfl)]
   refine Xaa (zeZ es.size (List.range es.size) s _ (by simp) λps d pp=>?_)
   refine Xaa (wpAny_newTuple ?_ ?_)
   .refine fin {s with heap:=s.heap.push {cls:=.type "tuple",data:=.seq (ps.map λ(i:Nat)=>rawInt (i:Int)).toArray},drawn:=d} (.ref s.heap.objs.size) (Xab _ ha) ?_
    have hps:∀p∈ps,p<es.size:=λp hp=>XaU.mp (pp.mem_iff.mp hp)
    refine q _ d _ (.ref s.heap.objs.size) (ps.map λp=>((es[p]?).getD (0,.none)).2) (λb o e=>Xab _ (Xab _ e)) (Xai _ O) (.inr (.inr {bt,s.heap.objs.size,ps,O,Xab _ (Xai _ O),by rw[pp.length_eq,XaH],hps,O})) ?_ ?_ ?_ ?_
    .rw[<- zh5];exact pp.map _
    .show s.heap.objs.size<=(s.heap.push _).objs.size
     rw[XaL];exact Xbu _
    .show(s.heap.push _).objs.size<((s.heap.push _).push _).objs.size
     simp only[XaL];exact Xbb _
    .intro T z
     cases z
     refine{Xae _,?_}
     show s.heap.objs.size<((s.heap.push _).push _).objs.size
     simp only[XaL];exact Nat.lt_succ_of_lt (Xbb _)
   .rw[Xag,pp.length_eq,XaH];exact hz
def fpOf:Value->List Addr
 | .ref T=>[T]
 | _=>[]
def ze7:typeLookup (.type "set") (Str.ofString "__len__")=pure (some (.builtin "set.__len__")):=F.slot_set_len.lookup
def zkx{a:Addr}(hT:s.TypeIs (.ref a) "set"){Q:Bool->Shared->Prop}(h:Q false s):wpAny (model prog w) A (Builtin.List.listLengthHint (.ref a)) Q E s:=by
 unfold Builtin.List.listLengthHint;refine Xaa (wpAny_specialOf hT ze7 ?_)
 generalize hid:("set.__len__" : String)=id1;wp_delta
 rw[show splitId id1=some ("set","__len__") from by subst hid;decide +kernel];subst hid
 refine Xaa (wpAny_isInstance (T := "set") (b:=true) hT (by rw[isSubtype_type];kernel_rfl) ?_);refine wpAny_ite_split (λz=>absurd z (by decide)) (λ_=>?_)
 refine wpAny_ite_split (λ_=>?_) (λz=>absurd (by decide +kernel) z);exact Xaa (wpAny_typeOf hT (Xac h))
def zl2{es:List (Int×Value)}(h:∀e∈es,EOk e):∀{vs:List Value},vs.Perm (es.map (·.2))->∃ns,IntsAre vs ns/\ns.Perm (zjQ es):=λ{vs} p=>by
 have vI:∀v∈vs,∃n t,v=Value.int n t:=λv hv=>by
  obtain⟨e,he,rfl⟩:=XaC.mp (p.mem_iff.mp hv)
  obtain⟨n,t,rfl⟩:=h e he
  exact⟨n,t,O⟩
 have g:∀l:List Value,(∀v∈l,∃n t,v=Value.int n t)->IntsAre l (l.map λv=>eInt (0,v)):=λl=>by
  induction l with
  | nil=>exactλ_=>.nil
  | cons v l ih =>
   intro hl
   obtain⟨n,t,rfl⟩:=hl v (Xay ..)
   exact .cons _ _ (ih λv hv=>hl v (XaA _ hv))
 refine{vs.map λv=>eInt (0,v),g vs vI,?_}
 have q:=p.map λv=>eInt (0,v)
 rw[Xa5] at q
 exact q
def zgL{a:Addr}{S:List Int}{R:List Value->Shared->Prop}(hh:A.handled=none)(hS:SetI (!w.params.followText "set-order") s.heap a S)(hz:S.length<1000)
  (h:∀(h':Heap) (tk:Nat) (d:Drawn) (ns:List Int) (vs:List Value),(∀b o,s.heap.get? b=some o->h'.get? b=some o)->IntsAre vs ns->ns.Perm S->R vs {s with heap:=h',toks:=tk,drawn:=d}) :
  wpAny (model prog w) A (collect (.ref a)) R E s:=by
 obtain⟨es,ep,t,ha,hE,hP,hN,Tb⟩:=hS
 have hsz:es.size=S.length:=by rw[<- Array.length_toList,<- hP.length_eq];unfold zjQ;rw[Xag]
 have hzl:es.size<=sizeLine:=Xar (show es.size<=1000 by omega) (by decide)
 have hal:a<s.heap.objs.size:=Xap ha
 unfold collect
 refine Xaa (wpAny_runValue (codeAny_builtin F.entry_proto_collect ?_));rw[Around.under_plainId F.plain_proto_collect _]
 show wpAny _ A.in1 (newList [] >>= λl=>again (.builtin "list.__iadd__" {[l,.ref a],[]})) _ _ s;refine Xaa (XaO ?_)
 refine Xac {plainId_quiet F.plain_list_iadd _,codeAny_builtin F.entry_list_iadd ?_};rw[Around.under_plainId F.plain_list_iadd _]
 generalize hD:s.heap.objs.size=D
 have hg:s.heap.push {cls:=.type "list",data:=.seq ([]:List Value).toArray}=s.heap.push (seqObj "list" #[] 0):=rfl
 generalize hh1:s.heap.push {cls:=.type "list",dict:=none,data:=.seq ([]:List Value).toArray}=h1
 have k1:∀b o,s.heap.get? b=some o->h1.get? b=some o:=λb o e=>by rw[<- hh1];exact Xab _ e
 have eD:h1.get? D=some {cls:=.type "list",data:=.seq #[]}:=by rw[<- hh1,<- hD];exact Xai _ O
 have sz1:h1.objs.size=D+1:=by rw[<- hh1,XaL,hD]
 have ha1:=k1 _ _ ha
 show wpAny _ A.in1 (Builtin.List.listExtendWith (.ref D) (.ref a) (.ref D)) _ _ {s with heap:=h1}
 unfold Builtin.List.listExtendWith
 refine Xaa (wpAny_typeOf (show Shared.TypeIs {s with heap:=h1} (.ref a) "set" from{_,ha1,O}) ?_)
 have ns:Builtin.List.listSameRef (.ref D) (.ref a)=false:=by
  have hne:D≠a:=by rw[<- hD];exact XbA hal
  simp[Builtin.List.listSameRef,hne]
 rw[if_neg (by rw[ns];decide)]
 refine Xaa (zkw (s:={s with heap:=h1}) ha1 Tb hzl λh2 d I first vs k2 eI m pv hI hI2 hT=>?_)
 have k12:∀b o,s.heap.get? b=some o->h2.get? b=some o:=λb o e=>k2 b o (k1 b o e)
 have ha2:=k12 _ _ ha
 refine Xaa (XaR ?_)
 refine zkx (show Shared.TypeIs {s with heap:=h2,drawn:=d} (.ref a) "set" from{_,ha2,O}) ?_
 have eD2:=k2 _ _ eD
 refine wpAny_ite_split (λ_=>?_) (λz=>absurd (by decide +kernel) z)
 refine Xaa (XbK (Xaa ?_))
 show wpAny _ A.in1 (updateSeq D (·.push .none) >>= λ_=>updateSeq D (·.pop)) _ _ {s with heap:=h2,drawn:=d}
 refine Xaa (wpAny_updateSeq eD2 O ?_)
 have eD3:=XaM (Obj.mapSeq (·.push Value.none)) eD2 O
 refine wpAny_updateSeq eD3 O ?_
 have eD4:=XaM (Obj.mapSeq (·.pop)) eD3 O
 generalize hh4:(h2.update D (Obj.mapSeq (·.push Value.none))).update D (Obj.mapSeq (·.pop))=h4 at eD4
 have k24:∀b o,b≠D->h2.get? b=some o->h4.get? b=some o:=λb o hb e=>by
  rw[<- hh4]
  exact(XaS _ _ (Ne.symm hb)).trans ((XaS _ _ (Ne.symm hb)).trans e)
 have naD:a≠D:=by rw[<- hD];exact Xaz hal
 have hI':h1.objs.size<=I:=hI
 have hT':∀T:Addr,first=.ref T->h1.objs.size<=T:=λT z=>(hT T z).1
 have nID:I≠D:=λz=>by rw[z,sz1] at hI';exact absurd hI' (Nat.not_succ_le_self D)
 have nTD:∀T:Addr,first=.ref T->T≠D:=λT z z2=>by have q:=hT' T z;rw[z2,sz1] at q;exact absurd q (Nat.not_succ_le_self D)
 have hIa:I≠a:=λz=>by rw[z,sz1,<- hD] at hI';exact absurd (Xaj hal (Xar (Xbu _) hI')) (XaY _)
 have W:Walks prog w A.in1 I (I::a::fpOf first) [I] vs.length (λi v=>vs[i]?=some v) _:=zku (es:=es) (ep:=ep) (t:=t) (vs:=vs) hh Tb.fits Tb.ris hIa (Xay ..) (XaA _ (Xay ..))
 have hSf:D∉I::a::fpOf first:=λz=>by
  rcases Xau.mp z with z|z
  .exact nID z.symm
  .rcases Xau.mp z with z|z
   .exact naD z.symm
   .cases first with
    | ref T=>exact nTD T O (Xad.mp z).symm
    | _=>cases z
 refine Xac {plainId_quiet F.plain_extend_loop _,codeAny_extend_loopS W.toS (by rw[pv.length_eq,Xag,Array.length_toList];exact hzl) D hSf (.ref D) vs.length 0 {s with heap:=h4,drawn:=d} _ _ O (Nat.zero_le _) ?_ eD4 (ItemsOf.nil _) λs' acc' c' hm hS' hacc=>?_}
 .refine{first,k24 _ _ nID eI,k24 _ _ naD ha2,?_,λT z=>?_}
  .rcases m with z|z|⟨bt,T,pl,ef,eT,r⟩
   .exact .inl z
   .exact .inr (.inl z)
   .exact .inr (.inr {bt,T,pl,ef,k24 _ _ (nTD T ef) eT,r})
  .subst z;exact XaA _ (XaA _ (Xad.mpr O))
 .show wpAny _ A (load D >>= _) _ _ s'
  refine Xaa (wpAny_load hS' (Xac ?_))
  have ev:acc'.toList=vs:=by
   obtain⟨z1,z2⟩:=hacc
   apply List.ext_getElem?
   intro j
   by_cases hj:j<acc'.size
   .have e1:acc'.toList[j]?=some acc'[j]:=by rw[Xbi,XaN hj]
    rw[e1,z2 j acc'[j] (XaN hj)]
   .rw[XaG (by rw[Array.length_toList];exact Nat.not_lt.mp hj),XaG (by rw[<- z1];exact Nat.not_lt.mp hj)]
  rw[ev]
  obtain⟨nn,hi,hp⟩:=zl2 (es:=es.toList) hE pv
  have kk:∀b o,s.heap.get? b=some o->s'.heap.get? b=some o:=λb o e=>by
   have hb:=Xap e
   have nb:b≠D:=λz=>by rw[z,hD] at hb;exact absurd hb (XaY _)
   refine hm.heap b o (λz=>?_) (k24 b o nb (k12 b o e))
   rcases Xau.mp z with z|z
   .exact nb z
   .rw[Xad.mp z] at hb
    rw[sz1,<- hD] at hI'
    exact absurd (Xaj hb (Xar (Xbu _) hI')) (XaY _)
  have fin:=h s'.heap s'.toks d nn vs kk hi (hp.trans hP)
  have g:s'.gens=s.gens:=hm.gens
  have dd:s'.drawn=d:=hm.drawn
  have oo:s'.os=s.os:=hm.os
  have e':s'={s with heap:=s'.heap,toks:=s'.toks,drawn:=d}:=by
   rw[<- g,<- dd,<- oo]
  rw[e'];exact fin
end
end L2
end
section
namespace L2
open PySem PySem.Spec PyProof.Rows HT
def Inv.draw{X:Cx}{pins:List (Addr×Obj)}{U:St}{H:Hp}{s:Shared}(I:Inv X pins U H s)(d:Drawn):Inv X pins U H {s with drawn:=d}:=⟨I.ok,I.os,I.bare,I.base,I.loc,I.cell,I.free,I.freeC,I.pin,I.hok,I.len⟩
def stI(w:World)(a:Addr)(S:List Int):Heap->Prop:=λh=>SetI (!w.params.followText "set-order") h a S
def stI_ok{P:Program}{w:World}{H:Hp}{h:Heap}{a:Addr}{S:List Int}(x:stI w a S h):ObjOk P w H h a (.ext (stI w a S)):=by
 refine{x,?_,λh1 h2 y k=>y.at k}
 obtain⟨es,ep,t,g,_⟩:=x
 exact{_,g}
def zgq{X:Cx}(hc:X.calm=true):zcR X (.builtin "sorted") (λxs H Q=>∃(a:Addr) (S:List Int),xs=[.ref a]/\H a=some (.ext (stI X.w a S))/\S.length<64 /\
  ∀(l:Addr) (ns:List Int),H l=none->ns.Perm S->ns.Pairwise (·<=·)->Q (.ref l) (upd H l (.lst (ns.map V.int)))):=by
 intro pins s U H xs us Q I r h
 obtain⟨a,S,rfl,ea,h64,q⟩:=h
 obtain⟨u,rfl,r1⟩:=zc5 r
 obtain rfl:u=Value.ref a:=r1
 obtain⟨hS,_,_⟩:=(show ObjOk X.prog X.w H s.heap a (.ext (stI X.w a S)) from I.hok a _ ea)
 refine zfJ (zgL (I.ok.hd hc) hS (by omega) λh' tk d ks vs kp hI hP=>?_)
 have hl:vs.length=ks.length:=hI.length
 have hk:ks.length<64:=by rw[hP.length_eq];exact h64
 refine{Xar (show vs.length<=64 by omega) (by decide),?_}
 refine list_sort_tree (s:={s with heap:=h'.push (seqObj "list" vs.toArray 0),toks:=tk,drawn:=d}) (Xai _ O) hI (by omega) λout ns a1 a2 a3=>{O,?_}
 have hsz:h'.objs.size<(h'.push (seqObj "list" vs.toArray 0)).objs.size:=by rw[XaL];exact Xbb _
 have I2:Inv X pins U H {s with heap:=h',toks:=tk,drawn:=d}:=(I.kept (t':=tk) kp).draw d
 obtain⟨c,hc'⟩:=sortedHeap_at (a:=h'.objs.size) (vs:=vs) (out:=out) (Xai (h:=h') (o:=seqObj "list" vs.toArray 0) O)
 refine{.ref _,_,I2.laid (t':=tk) (o:=.lst (ns.map V.int)) (λb o eb=>?_) (Xae _) ?_,O,q _ ns (I2.hok.fresh (Xae _)) (a2.trans hP) a3}
 .have hb:=Xap eb
  rw[sortedHeap_old (Xaz hb) (XbO hb hsz)];exact Xab _ eb
 .refine{?_,out.toList,_,zcS a1,by simpa[seqObj] using hc'}
  rw[Xag,a2.length_eq];exact Xar (XbN hk) (by decide)
def zkr(elt target iter:Expr)(ifs:List Expr)(scope:Scope)(pos:Pos)(it acc:Value)(env:Env):compTurn (.SetComp elt [{target,iter,ifs,0}] scope pos) 0 it acc env=(do
   standAt iter.pos;match <- pyNext it with
   | none=>pure (.done .next)
   | some v=>do
    letOwnedTupleGo target it v;assign target env v;let mut ok:=true
    for c in ifs do if ok then ok <- isTrue c env (eval c env)
    if ok then(do let v <- eval elt env;standAt elt.pos;let _ <- call (.builtin "set.add") [acc,v])
    again (.compLoop (.SetComp elt [{target,iter,ifs,0}] scope pos) 0 it acc env)):=by rfl
section
variable{prog:Program}{w:World}{A:Around}{E:Value->Shared->Prop}{R:Result->Shared->Prop}{s:Shared}
def ziR{elt target iter ifs rest scope pos it acc env}
  (h0:codeAny (model prog w) A (.compLoop (.SetComp elt ({target,iter,ifs,0}::rest) scope pos) 0 it acc env) R s)
  (h:wpAny (model prog w) A (pyIter it) (λit' s'=>codeAny (model prog w) A (.compLoop (.SetComp elt ({target,iter,ifs,0}::rest) scope pos) 0 it' acc env) R s') (notedBy (model prog w) A env λx s'=>R (.error x) s') s) :
  codeAny (model prog w) A (.compStart (.SetComp elt ({target,iter,ifs,0}::rest) scope pos) 0 it acc env) R s:=by
 refine codeAny_of_tree ?_
 show wpAny _ A ((compStart (.SetComp elt ({target,iter,ifs,0}::rest) scope pos) 0 it acc env).onRaise (λx=>do noteFrame x env;standAt theWindowsPlace)) _ _ s
 refine wpAny_notedAt ?_;unfold compStart;show wpAny _ A (ask >>= _) _ _ s;refine Xaa (Xa1 (wpAny_ite ?_))
 split
 .first|exact Xaa (Xac (Xac (And.intro O h0)))|exact Xac (And.intro O h0)
 .first|exact Xaa (XbK (Xaa (Xa3 (Xaa (Xat h (λit' s' h'=>Xac (And.intro O h')) λ_ _ x=>x)))))|(refine Xaa (XbK ?_);show wpAny _ _ (standAt iter.pos >>= _) _ _ s;exact Xaa (Xa3 (Xaa (Xat h (λit' s' h'=>Xac (And.intro O h')) λ_ _ x=>x))))
def EMs(prog:Program)(w:World)(A:Around)(elt:Expr)(env:Env)(D:Addr)(p:Shared->Prop)(s:Shared):Prop:=
 wpAny (model prog w) A (eval elt env) (λv s5=>wpAny (model prog w) A (call (.builtin "set.add") [.ref D,v]) (λ_ s6=>p s6) (λ_ _=>False) s5) (λ_ _=>False) s
def zkZ{elt target iter:Expr}{ifs:List Expr}{scope:Scope}{pos:Pos}{it:Value}:CLoop prog w A target ifs (.SetComp elt [{target,iter,ifs,0}] scope pos) it (EMs prog w A elt) where
 mono:=λenv D p q s h k=>Xat h (λv s5 h5=>Xat h5 (λ_ s6 h6=>k s6 h6) λ_ _ e=>e) λ_ _ e=>e
 loop:=λenv D I {R} turn n s h=>by
  refine codeAny_loop O I (λn s hI=>?_) n h
  show wpAny _ A ((compTurn (.SetComp elt [{target,iter,ifs,0}] scope pos) 0 it (.ref D) env).onRaise (λx=>do noteFrame x env;theTreesLotGoes x)) _ _ s
  refine wpAny_noted ?_
  rw[zkr]
  refine Xaa (Xa3 (Xaa (Xat (turn n s hI) (λr s1 h1=>?_) λ_ _ h'=>h'.elim)))
  cases r with
  | none=>exact Xac h1
  | some v =>
   refine Xaa (Xat h1 (λ_ s2 h2=>?_) λ_ _ h'=>h'.elim)
   refine Xaa (Xat h2 (λ_ s3 h3=>Xaa (Xat h3 (λok s4 h4=>?_) λ_ _ h'=>h'.elim)) λ_ _ h'=>h'.elim)
   cases ok with
   | false=>exact Xac ⟨O,h4⟩
   | true =>
    exact Xaa (Xaa (Xat h4 (λx s5 h5=>Xaa (Xa3 (Xaa (Xat h5 (λ_ s6 h6=>Xac (Xac ⟨O,h6⟩)) λ_ _ h'=>h'.elim)))) λ_ _ h'=>h'.elim))
 start:=λenv D R s h0 h=>ziR h0 h
end
def dd(ys:List Int):List Int:=ys.foldl (λS n=>if n∈S then S else S++[n]) []
def zmT(ys:List Int)(n:Int):dd (ys++[n])=if n∈dd ys then dd ys else dd ys++[n]:=by unfold dd;rw[List.foldl_append];rfl
def zlT(ys:List Int):(dd ys).length<=ys.length:=by
 have g:∀(l:List Int) (S:List Int),(l.foldl (λS n=>if n∈S then S else S++[n]) S).length<=S.length+l.length:=by
  intro l
  induction l with
  | nil=>intro S;exact Xae _
  | cons a l ih =>
   intro S
   refine Xar (ih _) ?_
   dsimp only
   split
   .rw[Xaw];omega
   .have e1:(S++[a]).length=S.length+1:=by rw[Xam];rfl
    have e2:(a::l).length=l.length+1:=rfl
    omega
 have:=g ys []
 simpa[dd] using this
def mem_dd{ys:List Int}{n:Int}:n∈dd ys↔n∈ys:=by
 have g:∀(l:List Int) (S:List Int),n∈(l.foldl (λS n=>if n∈S then S else S++[n]) S)↔n∈S\/n∈l:=by
  intro l
  induction l with
  | nil=>intro S;simp
  | cons a l ih =>
   intro S
   rw[List.foldl_cons,ih]
   by_cases h:a∈S
   .rw[if_pos h]
    constructor
    .rintro(z|z)
     .exact .inl z
     .exact .inr (XaA _ z)
    .rintro(z|z)
     .exact .inl z
     .rcases Xau.mp z with rfl|z
      .exact .inl h
      .exact .inr z
   .rw[if_neg h];simp[or_assoc]
 have:=g ys []
 simpa[dd] using this
def AOs(w:World)(ys:List Int)(o:Obj):Prop:=∃es ep t,o=sObj es ep t/\(∀e∈es.toList,EOk e)/\(zjQ es.toList).Perm (dd ys)/\(dd ys).Nodup/\Tab (!w.params.followText "set-order") t es.size
def AOs.at{w:World}{ys:List Int}{o:Obj}(x:AOs w ys o){h:Heap}{a:Addr}(e:h.get? a=some o):SetI (!w.params.followText "set-order") h a (dd ys):=by
 obtain⟨es,ep,t,rfl,r⟩:=x
 exact⟨es,ep,t,e,r⟩
def emS(te:TE):TEm Int:=λU H Q=>te U H λv H1=>∃i,v=.int i/\Q i H1
def zmt{Y:Cx}{elt:Expr}{te:TE}(he:PE Y elt te)(hxe:Y.xe=λ_ _=>False):PEm 500 Y (EMs Y.prog Y.w Y.A elt) (AOs Y.w) (emS te):=by
 intro D pins s U H Q ys o I hp ao hl h
 refine Xat (he pins s U H _ I h) (λv s5 hh_=>?_) λe s' z=>by rw[hxe] at z;exact z
 obtain⟨x,H5,I5,rx,i,ex,q⟩:=hh_
 subst ex
 obtain⟨t,rfl⟩:=(show∃t,v=Value.int i t from rx)
 have g5:=(I5.pin (D,o) (XaB _ hp)).1
 refine zmf (ao.at g5) (XaP (zlT ys) (by omega)) λh' sb x=>?_
 rw[<- zmT] at x
 obtain⟨es,ep,t',g',r'⟩:=x
 exact{i,H5,s5,h',_,_,I5,⟨es,ep,t',O,r'⟩,sb,g',O,q}
section
variable{X:Cx}{Nc:List Str}{src:List (Option Nat)}{scope:Scope}{elt tg iter:Expr}{ifs:List Expr}{pos:Pos}{wi:TI}{g:TG}{tf:TT}{te:TE}
def zlV(cl:List (Str×Addr))(C:Addr)(fp:List Addr)(s2:Shared)(H2:Hp):(cxC X Nc scope cl C fp s2 H2).xe=λ_ _=>False:=rfl
def tSetC(w:World)(src:List (Option Nat))(wi:TI)(g:TG)(tf:TT)(te:TE):TE:=λU H Q=>wi U H λJ H1 =>
 ze2 500 J g tf (emS te) (λys H2=>∀D,H2 D=none->Q (.ref D) (upd H2 D (.ext (stI w D (dd ys))))) (zcm src U) H1
def mk_set{prog:Program}{w:World}{A:Around}{E:Value->Shared->Prop}(Q:Value->Shared->Prop)(s:Shared)(q:Q (.ref s.heap.objs.size) {s with heap:=s.heap.push (sObj #[] 0 (.fresh 0 0 (!w.params.followText "set-order")))}):wpAny (model prog w) A (newSet (.type "set")) Q E s:=by
 unfold newSet setsByText
 exact Xaa (Xaa (Xa1 (Xac (XaO q))))
def ev_set(elt:Expr)(gens:List Comprehension)(scope:Scope)(pos:Pos)(env:Env):eval (.SetComp elt gens scope pos) env=comprehension (.SetComp elt gens scope pos) scope env (firstIterPos gens pos) (newSet (.type "set")) (firstAsync gens) (firstIter gens env):=rfl
def zh7(src:List (Option Nat))(hc:X.calm=true)(S:CompOk X.N X.env.scope Nc src scope)(hi:PI X tg iter wi)
  (hg:∀cl C fp s2 H2,PG (cxC X Nc scope cl C fp s2 H2) tg g) (hf:∀cl C fp s2 H2,PF (cxC X Nc scope cl C fp s2 H2) ifs tf) (he:∀cl C fp s2 H2,PE (cxC X Nc scope cl C fp s2 H2) elt te)
  (hs:∀x,foldedSetIterable iter X.env x=pure x:=by intro _;rfl):PE X (.SetComp elt [{tg,iter,ifs,0}] scope pos) (tSetC X.w src wi g tf te):=by
 intro pins s U H Q I h
 obtain⟨cl,hclos,hcl1,hcl2⟩:=zbp I.ok (scope:=scope) S.free
 rw[ev_set]
 refine XbP (use:=none) O hs hclos S.kind (λx hx hl=>by obtain⟨n,k⟩:=x;cases hl;exact zbo S.nodup hx) (thn (hi pins s U H _ I h) λxv s1 h1=>thn h1 λitv s2 h2=>?_)
 obtain⟨it,fp,tn,J,H2,e,I2,T,st2,f2,hw⟩:=h2
 subst e
 refine zdt (α:=Int) (B:=500) (ho:=λD ys=>.ext (stI X.w D (dd ys))) (AO:=AOs X.w) (RR:=λacc C=>compPost (model X.prog X.w) X.A X.xe none (EP X pins U Q) acc C) hc I2 S hcl1 hcl2 T st2 f2 hg hf (λcl C fp s2 H2=>zmt (he cl C fp s2 H2) (zlV cl C fp s2 H2)) mk_set O ?_ ?_ ?_ zkZ hw ?_
 .exact{#[],0,_,O,(λe he=>nomatch he),.rfl,Xbg,⟨O,List.Pairwise.nil,O⟩}
 .rintro ys o v ⟨es,ep,t,rfl,_⟩ z
  have z':Data.set es ep t=Data.cell v:=z
  cases z'
 .intro ys o H h D ao _ _ g'
  exact stI_ok (ao.at g')
 intro H4 s4 ys m C hC hD Iout hn hCn q
 refine{m,hn,λh' sb=>{.ref s2.heap.objs.size,_,?_,O,q _ hD}}
 obtain⟨f0,f1,f3,f4,f5,f6⟩:=I2.fpOk (H':=upd H4 s2.heap.objs.size (.ext (stI X.w s2.heap.objs.size (dd ys)))) hC hCn
 exact Iout.turned (t':=s4.toks) (it:=C) (λb o hb e=>(sb.2 b hb).trans e) f0 f1 f4 f5 f6
end
section
variable{prog:Program}{w:World}{A:Around}{E:Value->Shared->Prop}{R:Result->Shared->Prop}{s:Shared}
def EMd(prog:Program)(w:World)(A:Around)(kx vx:Expr)(env:Env)(D:Addr)(p:Shared->Prop)(s:Shared):Prop:=
 wpAny (model prog w) A (eval kx env) (λkv s4=>wpAny (model prog w) A (eval vx env) (λvv s5=>wpAny (model prog w) A (dictSet D kv vv) (λ_ s6=>p s6) (λ_ _=>False) s5) (λ_ _=>False) s4) (λ_ _=>False) s
def zjx{kx vx target iter:Expr}{ifs:List Expr}{scope:Scope}{pos:Pos}{it:Value}:CLoop prog w A target ifs (.DictComp kx vx [{target,iter,ifs,0}] scope pos) it (EMd prog w A kx vx) where
 mono:=λenv D p q s h k=>Xat h (λv s5 h5=>Xat h5 (λ_ s6 h6=>Xat h6 (λ_ s7 h7=>k s7 h7) λ_ _ e=>e) λ_ _ e=>e) λ_ _ e=>e
 loop:=λenv D I {R} turn n s h=>by
  refine codeAny_loop O I (λn s hI=>?_) n h
  show wpAny _ A ((compTurn (.DictComp kx vx [{target,iter,ifs,0}] scope pos) 0 it (.ref D) env).onRaise (λx=>do noteFrame x env;theTreesLotGoes x)) _ _ s
  refine wpAny_noted ?_
  rw[compTurn_dict]
  refine Xaa (Xa3 (Xaa (Xat (turn n s hI) (λr s1 h1=>?_) λ_ _ h'=>h'.elim)))
  cases r with
  | none=>exact Xac h1
  | some v =>
   refine Xaa (Xat h1 (λ_ s2 h2=>?_) λ_ _ h'=>h'.elim)
   refine Xaa (Xat h2 (λ_ s3 h3=>Xaa (Xat h3 (λok s4 h4=>?_) λ_ _ h'=>h'.elim)) λ_ _ h'=>h'.elim)
   cases ok with
   | false=>exact Xac ⟨O,h4⟩
   | true =>
    exact Xaa (Xaa (Xat h4 (λkv s5 h5=>Xaa (XaR (Xat h5 (λvv s6 h6=>Xaa (Xa3 (XaR (Xat h6 (λ_ s7 h7=>Xac ⟨O,h7⟩) λ_ _ h'=>h'.elim)))) λ_ _ h'=>h'.elim))) λ_ _ h'=>h'.elim))
 start:=λenv D R s h0 h=>codeAny_compStart_dict h0 h
end
def dk(ys:List (Key×V)):List (Key×V):=ys.foldl (λkvs p=>putK kvs p.1 p.2) []
def zjR(ys:List (Key×V))(p:Key×V):dk (ys++[p])=putK (dk ys) p.1 p.2:=by unfold dk;rw[List.foldl_append];rfl
def zhA(kvs:List (Key×V))(k:Key)(v:V):(putK kvs k v).length<=kvs.length+1:=by
 unfold putK
 split
 .rw[Xag];exact Xbu _
 .rw[Xam];exact Xae _
def zlR(ys:List (Key×V)):(dk ys).length<=ys.length:=by
 have g:∀(l:List (Key×V)) (S:List (Key×V)),(l.foldl (λkvs p=>putK kvs p.1 p.2) S).length<=S.length+l.length:=by
  intro l
  induction l with
  | nil=>intro S;exact Xae _
  | cons a l ih =>
   intro S
   have h1:=ih (putK S a.1 a.2)
   have h2:=zhA S a.1 a.2
   have e2:(a::l).length=l.length+1:=rfl
   rw[List.foldl_cons]
   omega
 have:=g ys []
 simpa[dk] using this
def AOd(P:Program)(w:World)(ys:List (Key×V))(o:Obj):Prop:=(∃es ep,o.data=.dict es ep)/\∃vs,KV (dk ys) vs/\∀(h:Heap) (a:Addr),h.get? a=some o->h.DictOf (zaH P w) a vs
def emD(tk tv:TE):TEm (Key×V):=λU H Q=>tk U H λx H1=>∃k,x=kV k/\tv U H1 λy H2=>Q (k,y) H2
def zkL{Y:Cx}{kx vx:Expr}{tk tv:TE}(hk:PE Y kx tk)(hv:PE Y vx tv)(hxe:Y.xe=λ_ _=>False):PEm 1000 Y (EMd Y.prog Y.w Y.A kx vx) (AOd Y.prog Y.w) (emD tk tv):=by
 intro D pins s U H Q ys o I hp ao hl h
 refine Xat (hk pins s U H _ I h) (λkv s4 hh_=>?_) λe s' z=>by rw[hxe] at z;exact z
 obtain⟨x,H4,I4,rx,k,ex,q4⟩:=hh_
 subst ex
 refine Xat (hv pins s4 U H4 _ I4 q4) (λvv s5 hh_=>?_) λe s' z=>by rw[hxe] at z;exact z
 obtain⟨y,H5,I5,ry,q⟩:=hh_
 have g5:=(I5.pin (D,o) (XaB _ hp)).1
 obtain⟨_,vs,rel,dof⟩:=ao
 have hz:vs.length<=sizeLine:=by
  have e1:=rel.length
  have e2:=zlR ys
  exact Xar (show vs.length<=1000 by omega) (by decide)
 refine wpAny_dictSet_pairs (hsz:=hz) (zhj rx) (dof _ _ g5) λh' dd' sb=>?_
 obtain⟨o',es,ep,g',x1,x2,x3⟩:=dd'
 refine{(k,y),H5,s5,h',o',_,I5,{⟨es,ep,x2⟩,stored vs k vv,?_,λh a e=>⟨o',es,ep,e,x1,x2,x3⟩},sb,g',O,q}
 rw[zjR]
 exact rel.put k ry
section
variable{X:Cx}{Nc:List Str}{src:List (Option Nat)}{scope:Scope}{kx vx tg iter:Expr}{ifs:List Expr}{pos:Pos}{wi:TI}{g:TG}{tf:TT}{tk tv:TE}
def tDictC(src:List (Option Nat))(wi:TI)(g:TG)(tf:TT)(tk tv:TE):TE:=λU H Q=>wi U H λJ H1 =>
 ze2 1000 J g tf (emD tk tv) (λys H2=>∀D,H2 D=none->Q (.ref D) (upd H2 D (.dK (dk ys)))) (zcm src U) H1
def zmG{prog:Program}{w:World}{A:Around}{E:Value->Shared->Prop}(Q:Value->Shared->Prop)(s:Shared)(q:Q (.ref s.heap.objs.size) {s with heap:=s.heap.push {cls:=.type "dict",data:=.dict #[]}}):wpAny (model prog w) A newDict Q E s:=by
 unfold newDict
 exact XaO q
def zmQ{prog:Program}{w:World}:AOd prog w [] ({cls:=.type "dict",data:=.dict #[]}:Obj):=
 {{#[],0,O},[],.nil,λh a e=>{_,#[],0,e,⟨O,O,O⟩,O,(λe he=>by simp at he),.nil,Xbg}}
def zmZ{P:Program}{w:World}{ys:List (Key×V)}{o:Obj}{H:Hp}{h:Heap}{D:Addr}(ao:AOd P w ys o)(hl:ys.length<=1000)(hs:sysModules<D)(e:h.get? D=some o):ObjOk P w H h D (.dK (dk ys)):=by
 obtain⟨_,vs,rel,dof⟩:=ao
 exact{Xar (zlR ys) (Xar hl (by decide)),beq_eq_false_iff_ne.mpr (Ne.symm (Xaz hs)),vs,rel,dof _ _ e}
end
section
variable{X:Cx}{Nc:List Str}{src:List (Option Nat)}{scope:Scope}{kx vx tg iter:Expr}{ifs:List Expr}{pos:Pos}{wi:TI}{g:TG}{tf:TT}{tk tv:TE}
def zgU{i:Nat}{y:Str}{pos' spos:Pos}(src:List (Option Nat))(hN:X.N.Nodup)(hi':X.N[i]?=some y)(hy:X.env.scope.names.lookup y=some .local)
  (hc:X.calm=true) (S:CompOk X.N X.env.scope Nc src scope) (hi:PI X tg iter wi)
  (hg:∀cl C fp s2 H2,PG (cxC X Nc scope cl C fp s2 H2) tg g) (hf:∀cl C fp s2 H2,PF (cxC X Nc scope cl C fp s2 H2) ifs tf) (hk:∀cl C fp s2 H2,PE (cxC X Nc scope cl C fp s2 H2) kx tk) (hv:∀cl C fp s2 H2,PE (cxC X Nc scope cl C fp s2 H2) vx tv)
  (hsw:swapsWith (.DictComp kx vx [{tg,iter,ifs,0}] scope pos) (some (.Name y pos')) spos.line X.env=pure true:=by rfl)
  (hs:∀x,foldedSetIterable iter X.env x=pure x:=by intro _;rfl):PS X (.Assign [.Name y pos'] (.DictComp kx vx [{tg,iter,ifs,0}] scope pos) spos) (tAsg (tDictC src wi g tf tk tv) (zaY i)):=by
 intro pins s U H D I h
 obtain⟨cl,hclos,hcl1,hcl2⟩:=zbp I.ok (scope:=scope) S.free
 rw[exec_Assign_Name_used _ _ _ _ hsw]
 refine Xaa (Xa3 (Xaa ?_))
 show wpAny _ X.A (do let _ <- comprehension (.DictComp kx vx [⟨tg,iter,ifs,0⟩] scope pos) scope X.env _ newDict false (eval iter X.env) (some (assign (.Name y pos') X.env))) _ _ s
 refine Xaa (Xat (XbP (use:=some (assign (.Name y pos') X.env)) (Q:=λ_ s'=>SP X pins D .next s') O hs hclos S.kind (λx hx hl=>by obtain⟨n,k⟩:=x;cases hl;exact zbo S.nodup hx)
  (thn (hi pins s U H _ I h) λxv s1 h1=>thn h1 λitv s2 h2=>?_)) (λ_ s' hq=>Xac (Xac hq)) λ_ _ e=>e)
 obtain⟨it,fp,tn,J,H2,e,I2,T,st2,f2,hw⟩:=h2
 subst e
 refine zdt (α:=Key×V) (B:=1000) (ho:=λ_ ys=>.dK (dk ys)) (AO:=AOd X.prog X.w) (RR:=λacc C=>compPost (model X.prog X.w) X.A X.xe (some (assign (.Name y pos') X.env)) (λ_ s'=>SP X pins D .next s') acc C) hc I2 S hcl1 hcl2 T st2 f2 hg hf (λcl C fp s2 H2=>zkL (hk cl C fp s2 H2) (hv cl C fp s2 H2) (zlV cl C fp s2 H2)) zmG O zmQ ?_ ?_ zjx hw ?_
 .rintro ys o v ⟨⟨es,ep,e⟩,_⟩ z
  rw[e] at z;cases z
 .intro ys o H h D ao hl hD g'
  exact zmZ ao hl (Xaj I2.big hD) g'
 intro H4 s4 ys m C hC hD Iout hn hCn q
 show wpAny _ X.A (assign (.Name y pos') X.env (.ref s2.heap.objs.size)) _ _ _
 refine wpAny_assign_Name (zdZ (i:=i) Iout hN hi' (.inl hy) (v:=.ref s2.heap.objs.size) O (λs5 I5 ch=>?_) (.inr hy))
 obtain⟨f0,f1,f3,f4,f5,f6⟩:=I2.fpOk (H':=upd H4 s2.heap.objs.size (.dK (dk ys))) hC hCn
 obtain⟨a,sb,ha⟩:=ch
 have hCa:C≠a:=by
  rcases ha with ha|ha
  .rw[ha];exact f1
  .exactλz=>f5 _ _ ha z.symm
 refine{m,hn.sameBut sb hCa,λh' sb'=>{_,_,I5.turned (t':=s5.toks) (it:=C) (λb o hb e=>(sb'.2 b hb).trans e) f0 f1 f4 f5 f6,q _ hD}}
end
section
variable{X:Cx}
def vwV(p a:Addr):Heap->Prop:=λh=>h.IsValuesView p a
def zjv:MtR X "dict.values" (λx vs H Q=>∃(a:Addr) (kvs:List (Key×V)),x=.ref a/\vs=[]/\H a=some (.dK kvs)/\∀p,H p=none->Q (.ref p) (upd H p (.ext (vwV p a)))):=by
 rintro pins s U H x vs v us Q I rx rv ⟨a,kvs,rfl,rfl,e,q⟩
 obtain rfl:v=Value.ref a:=rx
 have hus:=rv.zero
 subst hus
 obtain⟨hz,lo,vs,rel,dd⟩:=zjS I.hok e
 refine call_meetsIn PySem.F.slot_dict_values dd.typeIs PySem.F.entry_dict_values (PySem.F.args_dict_values_1 _) (meets_dict_values (zaH X.prog X.w) a lo) {⟨vs,dd⟩,?_}
 refine{.ref s.heap.objs.size,_,I.laid (t':=s.toks) (o:=.ext (vwV s.heap.objs.size a)) (λb o eb=>Xab _ eb) (Xae _) ?_,O,q _ (I.hok.fresh (Xae _))}
 have g:(s.heap.push {cls:=.type "dict_values",data:=.fields #[.ref a]}).get? s.heap.objs.size=some {cls:=.type "dict_values",data:=.fields #[.ref a]}:=Xai _ O
 exact{{_,g,O,O},{_,g},λh1 h2 ⟨o1,q1,q2,q3⟩ k=>{o1,k _ q1,q2,q3}}
inductive rSetD(x:V)(vs:List V)(H:Hp)(Q:VK):Prop
 | mk (a:Addr) (kvs:List (Key×V)) (k:Key) (y:V)(_:x=.ref a)(_:vs=[kV k,y])(_:H a=some (.dK kvs))(_:kvs.length<1000)(_:(∀v,valV kvs k=some v->Q v H))(_:(valV kvs k=none->Q y (upd H a (.dK (putK kvs k y)))))
def zfy:MtR X "dict.setdefault" rSetD:=by
 rintro pins s U H x vs v us Q I rx rv ⟨a,kvs,k,y,rfl,rfl,e,hl,q1,q2⟩
 obtain rfl:v=Value.ref a:=rx
 cases rv with
 | cons ry rr =>
  obtain⟨u,rfl,ru⟩:=Vals.one rr
  obtain⟨z,hd,vs,rel,dd⟩:=zjS I.hok e
  refine call_meetsIn PySem.F.slot_dict_setdefault dd.typeIs PySem.F.entry_dict_setdefault (PySem.F.args_dict_setdefault_3 _ _ _) (kt_meets_setdefault (zaH X.prog X.w) a (zhj ry) hd u) {vs,dd,by rw[<- rel.length];exact z,λw' hw=>?_,λhn h' dd' hs=>?_}
  .have r:=rel.val k
   rw[hw] at r
   cases hv:valV kvs k with
   | none=>rw[hv] at r;exact r.elim
   | some v=>rw[hv] at r;exact{v,H,I.tok _,r,q1 v hv}
  .have r:=rel.val k
   rw[hn] at r
   have hv:valV kvs k=none:=by
    cases hv:valV kvs k with
    | none=>rfl
    | some v=>rw[hv] at r;exact r.elim
   have he:∃q,h'.get? a=some q:=let⟨q,_,_,hq,_⟩:=dd';⟨q,hq⟩
   exact{y,_,zhp (t':=s.toks+1) I (by rw[e];exact True.intro) hs he (zlQ (Xar (zhA kvs k y) (Xar hl (by decide))) hd (rel.put k ru) dd'),ru,q2 hv}
end
section
variable{K:W.Frag}{α:Type}{B:Nat}{g:TG}{tf:TT}{em:TEm α}{Q:List α->Hp->Prop}{U:St}{H:Hp}
def ziw{a:Addr}{xs:List V}(Pv:Nat->List α->St->Hp->Prop)(hn:xs.length<=B)(h0:Pv 0 [] U H)(hl:∀i ys U H,i<=xs.length->Pv i ys U H->SqL K H a xs/\ys.length<=i)
  (hs:∀i x ys U H,xs[i]?=some x->Pv i ys U H->g x U H λU2 H2=>tf U2 H2 λb H3=>if b=true then em U2 H3 λy H4=>Pv (i+1) (ys++[y]) U2 H4 else Pv (i+1) ys U2 H3)
  (hd:∀ys U H,Pv xs.length ys U H->Q ys H):ze2 B (Itl K a) g tf em Q U H:=by
 refine{λi m ys U H=>m=xs.length-i/\i<=xs.length/\Pv i ys U H,{xs.length,by simp,Nat.zero_le _,h0},?_}
 rintro i m ys U H ⟨rfl,hi,p⟩
 obtain⟨q,hz⟩:=hl i ys U H hi p
 by_cases hlt:i<xs.length
 .refine .inr {{xs,xs[i],q,by simp[hlt]},by omega,Pv (i+1),λys' U' H' p'=>{xs.length-(i+1),by omega,O,hlt,p'},λx H' y=>?_}
  obtain⟨e,y⟩:=y
  subst e
  exact hs i x ys U _ (y xs q) p
 .have e:i=xs.length:=by omega
  subst e
  exact .inl {{xs,q,Xae _},by omega,hd ys U H p}
def zj1{a:Addr}{xs:List V}(Pv:Nat->List α->St->Hp->Prop)(hn:xs.length<=B)(h0:Pv 0 [] U H)(hl:∀i ys U H,i<=xs.length->Pv i ys U H->SqT K H a xs/\ys.length<=i)
  (hs:∀i x ys U H,xs[i]?=some x->Pv i ys U H->g x U H λU2 H2=>tf U2 H2 λb H3=>if b=true then em U2 H3 λy H4=>Pv (i+1) (ys++[y]) U2 H4 else Pv (i+1) ys U2 H3)
  (hd:∀ys U H,Pv xs.length ys U H->Q ys H):ze2 B (Itt K a) g tf em Q U H:=by
 refine{λi m ys U H=>m=xs.length-i/\i<=xs.length/\Pv i ys U H,{xs.length,by simp,Nat.zero_le _,h0},?_}
 rintro i m ys U H ⟨rfl,hi,p⟩
 obtain⟨q,hz⟩:=hl i ys U H hi p
 by_cases hlt:i<xs.length
 .refine .inr {{xs,xs[i],q,by simp[hlt]},by omega,Pv (i+1),λys' U' H' p'=>{xs.length-(i+1),by omega,O,hlt,p'},λx H' y=>?_}
  obtain⟨e,y⟩:=y
  subst e
  exact hs i x ys U _ (y xs q) p
 .have e:i=xs.length:=by omega
  subst e
  exact .inl {{xs,q,Xae _},by omega,hd ys U H p}
end
def zmv{X:Cx}{K:W.Frag}{e:Expr}{ta:TE}{f:Str}{pos:Pos}(hK:X.K=K)(he:PE X e ta)(hb:attributeBase e f X.env (eval e X.env)=eval e X.env):PE X (.Attribute e f pos) (tFld K ta f):=by subst hK;exact zaE he hb
section
variable{X:Cx}{k:Nat}{ks:List Str}{m:Str}{pos apos:Pos}{e o:Expr}{es:List Expr}{kws:List Keyword}{ta:TE}{t tk:TA}
def zkM{P:Program}{w:World}{K:W.Frag}{mg:Str->Option Value}{base:Heap}(k:Nat)(hX:X.prog=P/\X.w=w/\X.K=K/\X.mg=mg/\X.base=base)(hr:Room k X.A){pl:Sem Bool}(he:PE X o ta)(ha:PA X (e::es) t)(hkw:PK X kws tk)
  (hall:(backToKw pos (keywordEach kws X.env)).all (·.1.isSome)=true:=by rfl) (hks:(backToKw pos (keywordEach kws X.env)).filterMap (·.1)=ks:=by rfl)
  (hpl:((backTo pos (starEach (e::es) X.env)).any (·.1) || (backToKw pos (keywordEach kws X.env)).any (·.1.isNone))=false:=by rfl)
  (hst:starEach (e::es) X.env=(false,eval e X.env)::starEach es X.env:=by rfl)
  (ht:eval (.Call (.Attribute o m apos) (e::es) kws pos) X.env=(do
   let ov <- eval o X.env
   standAt apos.atName
   let(f,first) <- holding [ov] (getMethod ov m pl)
   callWith pos f first (backTo pos (starEach (e::es) X.env)) (backToKw pos (keywordEach kws X.env))):=by rfl) :
  PE X (.Call (.Attribute o m apos) (e::es) kws pos) (tMth P w K mg base k m ks ta t tk):=by
 obtain⟨rfl,rfl,rfl,rfl,rfl⟩:=hX
 intro pins s U H Q I h
 refine W.methodCall_KW (pl:=pl) (thn (he pins s U H _ I h) λu s1 hh_=>?_) ht
 obtain⟨x,H1,I1,rx,a,C,dx,fs,gV,sp,ex,ea,M,l,q⟩:=hh_
 obtain⟨c,f,fd,ps,g,hm,F,hb⟩:=M
 subst ex
 obtain rfl:u=Value.ref a:=rx
 refine zcs I1 ea c hm l ?_
 refine W.callWith_KW (first:=[.ref a]) (h₀:=X.base) I.ok.mod.kin hm.kp hall (thn (ha pos pins s1 U H1 _ I1 q) λus s2 hh_=>?_) hpl hst
 obtain⟨vs,H2,I2,r,q2⟩:=hh_
 refine thn (hkw pos pins s2 U H2 _ I2 q2) λws s3 ⟨zs,H3,I3,rz,q3⟩=>{I3.kIn,?_}
 rw[hks]
 exact zff (us:=.ref a::us) (vs:=.ref a::vs) F hr hb zfn I3 (.cons O r) rz q3
end
section
variable{X:Cx}
end
end L2
end
section
namespace L2
open PySem PySem.Spec PyProof.Rows PySem.SeqAt
section
variable{X:Cx}{K:W.Frag}
inductive rEqT0(K:W.Frag)(x:V)(y:V)(H:Hp)(Q:VK):Prop
 | mk a b xs(_:x=.ref a)(_:y=.ref b)(_:SqT K H a xs)(_:SqT K H b [])(_:Q (.bl xs.isEmpty) H)
def zmy(hu:X.A.units<cLine)(hK:X.K=K):OpR X (compareOp .Eq) (rEqT0 K):=by
 subst hK
 rintro pins s U H x y v u Q I rx ry ⟨a,b,xs,rfl,rfl,ha,hb,q⟩
 cases rx;cases ry
 obtain⟨its,r1,p1,_⟩:=I.tuple ha
 obtain⟨its2,r2,p2,_⟩:=I.tuple hb
 obtain rfl:=r2.nil_iff.mpr O
 refine RcAt.tuples (e:=λ_=>true) p1 p2 hu (λj h1 h2=>absurd h2 (by simp)) _ _ _ _ {.bl xs.isEmpty,H,I,?_,q}
 have e:its.toArray.size=xs.length:=by rw[Xaq];exact r1.length.symm
 show _=Value.bool _
 rw[e]
 cases xs<;>simp
end
end L2
end
section
namespace L2
open PySem PySem.Spec PyProof.Rows HT PySem.W PySem.Calls
def xFr(e C:Addr)(od:Option Addr):Heap->Prop:=λh=>∃t,h.get? e=some {cls:=.ref C,dict:=od,data:=.fields #[.ref t,.none,.none,.none,.bool false,.none]}
def xDc(dx:Addr)(fs:List (Str×V)):Heap->Prop:=λh=>fs.length<=100/\∃mA,h.Ns1 dx mA/\(∀f,RelO (fs.lookup f) (mA f))/\PySem.Within mA (fs.map (·.1))
section
variable{P:Program}{w:World}{H:Hp}{h:Heap}{e C dx:Addr}{od:Option Addr}{fs:List (Str×V)}
def zmD(x:xFr e C od h):ObjOk P w H h e (.ext (xFr e C od)):=by
 obtain⟨t,g⟩:=id x
 exact{x,{_,g},λh1 h2 ⟨t1,q⟩ k=>{t1,k _ q}}
def ok_dc(x:xDc dx fs h):ObjOk P w H h dx (.ext (xDc dx fs)):=by
 obtain⟨l,mA,⟨o,es,ep,e,r⟩,r1,r2⟩:=id x
 exact{x,{_,e},λh1 h2 ⟨l,mA,⟨o,es,ep,e,r⟩,r1,r2⟩ k=>{l,mA,{o,es,ep,k _ e,r},r1,r2}}
end
def NsKI(K:W.Frag)(N fI:Addr):Prop:=∃c d es ep sl,K.lookup N=some {c,d,.dict es ep,sl}/\StrKeys es/\nsFind es "__init__"=some (.ref fI)
structure ExcI(K:W.Frag)(C fI:Addr):Prop where
 ex:∃nm q N bs bm sn sub ab col dd k0 k1 k2 k3 k5,K.lookup C=some (excClassObj nm q C N bs bm true sn sub ab col dd k0 k1 k2 k3 k5 "ValueError.__new__")/\NsKI K N fI/\TailK K bm
 sa:findIn K (.ref C) "__setattr__"=some (some (.builtin "object.__setattr__"))
def TailK.pass{K:W.Frag}{bm:List Value}(x:TailK K bm)(self:Value):refuseLoop self "__setattr__" bm=pure ():=by
 induction x with
 | base=>exact PySem.F.store_ValueError.passes self
 | own e n _ ih=>rw[refuseLoop_ref];exact ih
def TailK.has{K:W.Frag}{bm:List Value}(x:TailK K bm):bm.contains (.type "object")=true:=by
 induction x with
 | base=>decide +kernel
 | own e n _ ih=>rw[List.contains_cons,ih,Bool.or_true]
section
variable{prog:Program}{w:World}{A:Around}{E:Value->Shared->Prop}{s:Shared}{K:W.Frag}{x dx C fI:Addr}{mA:Str->Option Value}{name:Str}{v:Value}{ox:Obj}{od:Option Obj}
def ziG{tk:Tok}{R:Result->Shared->Prop}(X:K.In s.heap)(I:InstAt s.heap x ox C od)(c:ExcI K C fI)(ht:takerIn K C name=some none)
  (h:∀b,wpAny (model prog w) A.in1 (Builtin.ObjectAttr.storeInOwnDict (.ref x) (.ref C) (.str name tk) name v b)
   (λfin s'=>match fin with|.done f=>R (.ok f) s'|.again c'=>c'.quiet=true/\codeAny (model prog w) A c' R s') (λe s'=>R (.error e) s') s) :
  codeAny (model prog w) A (.call (.builtin "object.__setattr__") {[.ref x,.str name tk,v],[]}) R s:=by
 have SF:=PySem.F.store_object
 obtain⟨nm,q,N,bs,bm,sn,sub,ab,col,dd,k0,k1,k2,k3,k5,hC,hN,hT⟩:=c.ex
 have hc:∃cd,clsIn K C=some cd/\cd.mro=.ref C::bm:={_,by unfold clsIn;rw[hC],O}
 obtain⟨cd,hc,hmr⟩:=hc
 have hcon:cd.mro.contains (.type "object")=true:=by rw[hmr,List.contains_cons,hT.has,Bool.or_true]
 have ne:cd.mro.isEmpty=false:=by rw[hmr];rfl
 have sub:Looks (model prog w) s.heap (isInstance (.ref x) (.type "object")) true:=I.type.andThen (looks_mroIn X (by unfold mroIn;rw[hc,Option.bind_some,if_neg (by rw[ne];decide),hcon]))
 refine codeAny_call_builtin SF.slot.plain SF.entry (@check_slot (model prog w) _ _ s "object.__setattr__" "object" "__setattr__" (.ref x) [.str name tk,v] [] _ SF.kind SF.split sub (SF.args (.ref x) (.str name tk) v) ?_)
 obtain⟨attr,ha,hr⟩:=Option.bind_eq_some_iff.mp ht
 have hm:Looks (model prog w) s.heap (mroOf (.ref C)) cd.mro:=(looks_clsIn X hc).andThen .now
 have L3:Looks (model prog w) s.heap (Builtin.ObjectAttr.storeTaker? attr) none:=by
  cases attr with
  | none=>exact .now
  | some a =>
   obtain⟨b,hb,hb2⟩:=Xax.mp hr
   refine(looks_takesIn X hb).andThen ?_
   cases b with
   | true=>cases hb2
   | false=>exact .now
 rw[osa_eq,refuse_eq]
 refine Xaa (Xaa (I.type.here (Xaa (hm.here ?_))))
 rw[hmr,refuseLoop_ref,hT.pass]
 refine Xac (Xaa (I.type.here (Xaa ((looks_findIn X ha).here (Xaa (L3.here ?_))))))
 exact h _
def zhY{vs:Array Value}{Q:Unit->Shared->Prop}(X:K.In s.heap)(hx:s.heap.get? x=some {cls:=.ref C,dict:=none,data:=.fields vs})(c:ExcI K C fI)(ht:takerIn K C name=some none)
  (h:∀h',(∀b o,b≠x->s.heap.get? b=some o->h'.get? b=some o)->h'.get? x=some {cls:=.ref C,dict:=some s.heap.objs.size,data:=.fields vs}->h'.Ns1 s.heap.objs.size (λy=>if y=name then some v else none)->Q () {s with heap:=h',toks:=s.toks+2}) :
  wpAny (model prog w) A (setAttr (.ref x) name v) Q E s:=by
 have J:InstAt s.heap x {cls:=.ref C,dict:=none,data:=.fields vs} C none:=⟨hx,O,O,trivial⟩
 refine set_plain X J c.sa (ziG (s:={s with toks:=s.toks+1}) X J c ht λb=>?_)
 obtain⟨nm,q,N,bs,bm,sn,sub,ab,col,dd,k0,k1,k2,k3,k5,hC,hN,hT⟩:=c.ex
 have hc:∃cd,clsIn K C=some cd/\cd.hasDict=true:={_,by unfold clsIn;rw[hC],O}
 obtain⟨cd,hc,hd'⟩:=hc
 have hxs:x≠s.heap.objs.size:=Xaz (Xap hx)
 refine Xaa (Xac (Xaa (Xaa (wpAny_loadPart hx (Xaa (Looks.here (s:={s with toks:=s.toks+1}) (looks_clsIn X hc) ?_))))))
 rw[hd']
 have hx₁:(s.heap.push {cls:=.type "dict",data:=.dict #[]}).get? x=some {cls:=.ref C,dict:=none,data:=.fields vs}:=Xab _ hx
 obtain⟨hp,g,d,t,os⟩:=s
 refine Xaa (wpAny_alloc' ?_)
 refine Xaa (wpAny_update' hx₁ ?_)
 refine Xac ?_
 have hgd:((hp.push {cls:=.type "dict",data:=.dict #[]}).update x λo=>{cls:=o.cls,dict:=some hp.objs.size,data:=o.data,slots:=o.slots}).get? hp.objs.size=some {cls:=.type "dict",data:=.dict #[]}:=
  (Heap.get?_update_ne _ _ _ _ hxs.symm).trans (Heap.get?_push_at O O)
 have hnd:((hp.push {cls:=.type "dict",data:=.dict #[]}).update x λo=>{cls:=o.cls,dict:=some hp.objs.size,data:=o.data,slots:=o.slots}).Ns hp.objs.size (λ_=>none):=
  {_,#[],_,hgd,O,λe he=>absurd he (by simp),λ_=>O}
 show wpAny _ _ (Builtin.ObjectAttr.storeInDict hp.objs.size (.str name t) name v) _ _ _
 unfold Builtin.ObjectAttr.storeInDict Builtin.ObjectAttr.newKeyGuard
 refine Xaa (Xac (Xaa (wpAny_nsSet1 (Heap.Ns1.of_empty hnd) λh' hn' hs=>?_)))
 obtain⟨oD,esD,epD,hoD,hdD,hcD⟩:=hn'.count (Within.cons name v Within.nil)
 refine Xaa (wpAny_lookBehind hoD (by rw[hdD];exact pastItsLine_dict (Xar hcD (by rw[Xaw,XaZ,sizeLine_eq];omega))) ?_)
 refine Xac (h h' (λb o hb e=>?_) ?_ ?_)
 .exact(hs.2 b (Xaz (Xap e))).trans ((Heap.get?_update_ne _ _ _ _ hb).trans (Xab _ e))
 .exact(hs.2 x hxs).trans (XaM _ hx₁ O)
 .exact hn'
end
end L2
end
section
namespace L2
open PySem PySem.Spec PyProof.Rows HT PySem.W PySem.Calls
section
variable{X:Cx}{pins:List (Addr×Obj)}{U:St}{H:Hp}{s:Shared}
def Inv.trackE{ea:Addr}{φ:Heap->Prop}(I:Inv X pins U H s)(hn:H ea=none)(ho:∀H',ObjOk X.prog X.w H' s.heap ea (.ext φ))(h:zm2 X pins ea):Inv X pins U (upd H ea (.ext φ)) s:=by
 have up:∀b o,H b=some o->upd H ea (.ext φ) b=some o:=λb o e=>by rw[zah (λz=>by rw[z,hn] at e;cases e)];exact e
 refine{I.ok,I.os,I.bare,{I.base.keep,I.base.slot,λb o e n hx=>?_,I.base.there,λb xs e=>up _ _ (I.base.tups b xs e),λb o u e=>up _ _ (I.base.frzs b o u e),λb ps e=>?_},I.loc,I.cell,?_,λx c e=>?_,λp hp=>?_,λa o e=>?_,I.len}
 .rw[zah (λz=>by rw[z,h.1] at e;cases e)];exact I.base.free b o e n hx
 .obtain⟨more,q⟩:=I.base.tbls b ps e
  exact{more,up _ _ q}
 .rw[zah (Ne.symm h.2.1)];exact I.free
 .rw[zah (h.2.2.1 x c e)];exact I.freeC x c e
 .obtain⟨e,n,r⟩:=I.pin p hp
  exact{e,by rw[zah (h.2.2.2 p hp)];exact n,r}
 .by_cases z:a=ea
  .subst z
   rw[zac] at e
   cases e
   exact ho _
  .rw[zah z] at e
   exact(I.hok a o e).stay (λ_ _ _ q=>q) (λb q=>up _ _ q) λb xs q=>up _ _ q
end
inductive sFldX0_1(K:W.Frag)(f:Str)(D:Ends)(U:St)(y:V)(x:V)(H2:Hp):Prop
 | mk a C fI(_:x=.ref a)(_:H2 a=some (.ext (xFr a C none)))(_:ExcI K C fI)(_:takerIn K C f=some none)(_:∀dx,H2 dx=none->dx≠a->D.nx U (upd (upd H2 a (.ext (xFr a C (some dx)))) dx (.ext (xDc dx [(f,y)]))))
def sFldX0(K:W.Frag)(ta tv:TE)(f:Str):TS:=λD U H=>tv U H λy H1=>ta U H1 (sFldX0_1 K f D U y)
section
variable{X:Cx}{o e value:Expr}{f:Str}{pos pos':Pos}{ta tv:TE}
def zkI(hex:X.ex=[])(ha:PE X o ta)(hv:PE X value tv)(hs:swapsWith value (some (.Attribute o f pos')) pos.line X.env=pure false):PS X (.Assign [.Attribute o f pos'] value pos) (sFldX0 X.K ta tv f):=by
 intro pins s U H D I h
 refine plainObj_wpAny_Assign_Attribute (thn (hv pins s U H _ I h) λu s1 ⟨y,H1,I1,ry,q⟩=>thn (ha pins s1 U H1 _ I1 q) λov s2 hh_=>?_) hs
 obtain⟨x,H2,I2,rx,a,C,fI,ex,ea,c,ht,q2⟩:=hh_
 subst ex
 obtain rfl:ov=Value.ref a:=rx
 obtain⟨t,g⟩:=(show xFr a C none s2.heap from(I2.hok a _ ea).1)
 have hnew:s2.heap.get? s2.heap.objs.size=none:=XbH (Xae _)
 have ne:s2.heap.objs.size≠a:=λz=>by rw[z,g] at hnew;cases hnew
 refine zhY I2.kIn g c ht λh' k1 k2 k3=>{U,_,?_,q2 s2.heap.objs.size (I2.hok.fresh (Xae _)) ne}
 have J:Inv X pins U (upd H2 a (.ext (xFr a C (some s2.heap.objs.size)))) {s2 with heap:=h',toks:=s2.toks+2}:=
  I2.write (x:=a) (e:=a) (by rw[ea];exact True.intro) (.inl O) k1 {_,k2} (zmD ⟨t,k2⟩)
 refine J.trackE (by rw[zah ne];exact I2.hok.fresh (Xae _)) (λH'=>ok_dc {by show 1<=100;decide,_,k3,λg=>?_,λg hg=>?_}) (I2.none_ours hnew (by rw[hex];simp))
 .show RelO (List.lookup g [(f,y)]) (if g=f then some u else none)
  by_cases q:g=f
  .subst q
   rw[if_pos O]
   simp only[List.lookup,beq_self_eq_true]
   exact ry
  .rw[if_neg q]
   have:(g==f)=false:=by simpa using q
   simp only[List.lookup,this]
   exact True.intro
 .by_cases q:g=f
  .rw[q];simp
  .exact absurd (show(if g=f then some u else none)=none by rw[if_neg q]) hg
end
structure SupI(K:W.Frag)(mg:Str->Option Value)(x:Str):Prop where
 ex:∃B,mg x=some (.ref B)/\specialIn K (.ref B) "__getattribute__"=some (some (.builtin "type.__getattribute__"))/\readsIn K B (.type "type")=true/\findCls K (.ref B) (.type "type") "__init__"=some (.val (.builtin "ValueError.__init__"))
inductive tXini_1(K:W.Frag)(Q:VK)(vs:List V)(H1:Hp):Prop
 | mk a C fI od z(_:vs=[.ref a,z])(_:H1 a=some (.ext (xFr a C od)))(_:ExcI K C fI)(_:Q .non H1)
def tXini(K:W.Frag)(t:TA):TE:=λU H Q=>t U H (tXini_1 K Q)
section
variable{X:Cx}{x:Str}{p pos apos:Pos}{e e2:Expr}{t:TA}
def zmu(M:SupI X.K X.mg x)(hg:Gl X x){pl:Sem Bool}(ha:PA X [e,e2] t)(hdb:(x==("__debug__" : Str))=false:=by decide)
  (hst:starEach [e,e2] X.env=(false,eval e X.env)::starEach [e2] X.env:=by rfl) (hpl:(backTo pos (starEach [e2] X.env)).any (·.1)=false:=by rfl)
  (ht:eval (.Call (.Attribute (.Name x p) "__init__" apos) [e,e2] [] pos) X.env=(do
   let ov <- eval (.Name x p) X.env
   standAt apos.atName
   let(f,first) <- holding [ov] (getMethod ov "__init__" pl)
   callWith pos f first (backTo pos (starEach [e,e2] X.env)) (backToKw pos (keywordEach [] X.env))):=by rfl) :
  PE X (.Call (.Attribute (.Name x p) "__init__" apos) [e,e2] [] pos) (tXini X.K t):=by
 obtain⟨B,hm,hs,hrd,hf⟩:=M.ex
 intro pins s U H Q I h
 refine W.methodCall_KW (pl:=pl) ?_ ht
 refine zdq I hg hm ?_ hdb
 refine W.method_cls I.kIn hs (W.cls_value I.kIn hrd hf O ?_)
 have I0:=I.tok (s.toks+1)
 have h2:=ha pos pins _ U H _ I0 h
 rw[hst] at h2 ⊢
 refine Calls.callWith_builtin (by show(false || (backTo pos (starEach [e2] X.env)).any (·.1))=false;rw[hpl];rfl) (Calls.evalArgs_plain (thn h2 λus s2 hh_=>?_))
 obtain⟨vs,H2,I2,r,a,C,fI,od,z,ev,ea,c,q2⟩:=hh_
 subst ev
 obtain⟨v1,v2,rfl,r1,r2⟩:=zkp r
 obtain rfl:v1=Value.ref a:=r1
 obtain⟨t,g⟩:=(show xFr a C od s2.heap from(I2.hok a _ ea).1)
 obtain⟨nm,q,N,bs,bm,sn,sub,ab,col,dd,k0,k1,k2,k3,k5,hC,hN,hT⟩:=c.ex
 have F:=PySem.F.excBase_ValueError
 have T:=hT.tail I2.kIn
 have hC':=I2.kIn _ _ hC
 have I3:=I2
 obtain⟨hp,gg,dr,tk,os⟩:=s2
 show wpAny _ _ (call (.builtin "ValueError.__init__") [.ref a,v2]) _ _ _
 refine XbJ (codeAny_call_builtin F.init.plain F.initEntry (wpAny_check_init_subT F T hC' g O ?_))
 wp_walk
 have g1:(hp.push {cls:=.type "tuple",data:=.seq #[v2]}).get? a=some {cls:=.ref C,dict:=od,data:=.fields #[.ref t,.none,.none,.none,.bool false,.none]}:=Xab _ g
 have g2:=XaM (Obj.mapFields λx=>x.setIfInBounds 0 (Value.ref hp.objs.size)) g1 O
 refine{.non,H2,?_,O,q2}
 have hu:upd H2 a (.ext (xFr a C od))=H2:=by
  funext b
  by_cases hb:b=a
  .rw[hb,zac,ea]
  .rw[zah hb]
 have J:=I2.write (x:=a) (e:=a) (o:=.ext (xFr a C od)) (t':=tk) (h':=(hp.push {cls:=.type "tuple",data:=.seq #[v2]}).update a (Obj.mapFields λx=>x.setIfInBounds 0 (Value.ref hp.objs.size))) (by rw[ea];exact True.intro) (.inl O)
  (λb u hb z=>(XaS _ _ (Ne.symm hb)).trans (Xab _ z)) {_,g2} (zmD ⟨hp.objs.size,g2⟩)
 rw[hu] at J
 exact J
end
def PA.nox{X:Cx}{es:List Expr}{t:TA}(h:PA X.nox es t):PA X es t:=λp pins s U H Q I hw =>
 Xat (h p pins s U H Q (I.wish _) hw) (λ_ _ ⟨vs,H',I',r,q⟩=>⟨vs,H',I'.unwish,r,q⟩) λ_ _ z=>False.elim z
def unt(H:Hp)(e:Addr):Hp:=λb=>if b=e then none else H b
def zhw{H:Hp}{e:Addr}:unt H e e=none:=by unfold unt;rw[if_pos O]
def zhx{H:Hp}{e b:Addr}(h:b≠e):unt H e b=H b:=by unfold unt;rw[if_neg h]
def ziH{P:Program}{w:World}{K:W.Frag}{mg:Str->Option Value}{base:Heap}{N:List Str}{qual:Str}{scope:Scope}{f:Addr}{cd:Value}{A:Around}{outer:List Env}{s:Shared}{H:Hp}{E:XK}
  {pins:List (Addr×Obj)} {U:St} {H2:Hp} {s2:Shared} {e C:Addr} {od:Option Addr} (I:Inv (cxOf (CX1 P w) P w K mg base N qual scope f cd A outer s H E) pins U H2 s2) (ee:H2 e=some (.ext (xFr e C od))) (hn:s.heap.get? e=none) (hE:E (.ref C) od (unt H2 e)) :
  (cxOf (CX1 P w) P w K mg base N qual scope f cd A outer s H E).xe (.ref e) s2:=by
 obtain⟨t,he⟩:=(show xFr e C od s2.heap from(I.hok e _ ee).1)
 have b1:=I.base
 refine ze3 I.ok.frames I.stack (L:=s.heap.objs.size) O he O O λh'' T fT sl x=>?_
 have ne:∀b o,s.heap.get? b=some o->b∉[e]:=λb o q z=>by rw[Xad.mp z,hn] at q;cases q
 have nL:∀b o,s.heap.get? b=some o->b∉frs outer->b∉((envOfC qual scope s.heap.objs.size f cd)::outer).filterMap (·.frame):=λb o q hb z=>by
  rcases Xau.mp (show b∈s.heap.objs.size::outer.filterMap (·.frame) from z) with r|r
  .exact absurd r (Xaz (Xap q))
  .exact hb r
 have nex:∀b,b∉(cxOf (CX1 P w) P w K mg base N qual scope f cd A outer s H E).ex:=λb=>by show b∉([]:List Addr);simp
 have dif:∀b o,H2 b=some o->o≠.ext (xFr e C od)->unt H2 e b=some o:=λb o q hne=>by
  rw[zhx λz=>hne (by rw[z,ee] at q;exact(Option.some.inj q).symm)];exact q
 refine{e,T,unt H2 e,C,od,O,I.os,I.bare,{λb o q n hb _=>?_,λb o q n hb _=>?_,λb o q n _=>?_,λb o q _=>?_,λb xs q=>dif _ _ (b1.tups b xs q) (λz=>nomatch z),λb o u q=>dif _ _ (b1.frzs b o u q) (λz=>nomatch z),λb ps q=>?_},?_,x,hn,?_,zhw,?_,hE}
 .exact(sl b o (b1.keep b o q n hb (nex b)) (ne b o q)).1 (nL b o q hb)
 .obtain⟨t1,e1⟩:=b1.slot b o q n hb (nex b)
  obtain⟨t2,e2⟩:=(sl b _ e1 (ne b o q)).2
  exact⟨t2,e2⟩
 .have:=b1.free b o q n (nex b)
  unfold unt
  split
  .rfl
  .exact this
 .obtain⟨o',e1⟩:=b1.there b o q (nex b)
  obtain⟨t2,e2⟩:=(sl b _ e1 (ne b o q)).2
  exact{_,e2}
 .obtain⟨more,q'⟩:=b1.tbls b ps q
  exact{more,dif _ _ q' (λz=>nomatch z)}
 .intro a o q
  have hae:a≠e:=λz=>by rw[z,zhw] at q;cases q
  rw[zhx hae] at q
  refine(I.hok a o q).stay (λb u hb hu=>?_) (λb z=>dif _ _ z (λz=>nomatch z)) λb xs z=>dif _ _ z (λz=>nomatch z)
  have hbe:b≠e:=by
   rcases hb with rfl|hb
   .exact hae
   .exactλz=>by rw[z,ee] at hb;cases hb
  refine(sl b u hu λz=>hbe (Xad.mp z)).1 λz=>?_
  have hf:H2 b=none:=I.stkFree b z
  rcases hb with rfl|hb
  .rw[hf] at q;cases q
  .rw[hf] at hb;cases hb
 .cases q:s.heap.get? T with
  | none=>rfl
  | some o =>
   obtain⟨o',q'⟩:=b1.there T o q (nex T)
   rw[fT] at q';cases q'
 .have:=I.hok.none_of fT
  unfold unt
  split
  .rfl
  .exact this
structure XIni(P:Program)(w:World)(K:W.Frag)(mg:Str->Option Value)(base:Heap)(k:Nat)(x:Str)(C:Addr)(sp:Sp):Prop where
 at_:mg x=some (.ref C)
 ex:∃fI fd ps oI,ExcI K C fI/\(K.lookup fI=some oI/\oI.cls=.type "function")/\FnOk P w K mg base CX0 k fI fd ps sp/\Binds K fd ps []
def zl8(C:Addr)(sp:Sp)(E:XK)(t:TA):TS:=λ_ U H=>t U H λvs H1=>vs.length<=1000/\∀e,H1 e=none->sp ((.ref e::vs)++[]) (upd H1 e (.ext (xFr e C none))) (λv H2=>v=.non/\∃od,H2 e=some (.ext (xFr e C od))/\E (.ref C) od (unt H2 e)) E0
section
variable{X:Cx}{x:Str}{C:Addr}{e:Expr}{es:List Expr}{t:TA}{np cpos pos:Pos}{k:Nat}{sp:Sp}{E:XK}
def zi6(M:XIni X.prog X.w X.K X.mg X.base k x C sp)(hr:Room (k+1) X.A)(hg:Gl X x)(hc:X.calm=true)(hex:X.ex=[])(ha:PA X (e::es) t)
  (hx:∀(pins:List (Addr×Obj)) (U:St) (H2:Hp) (s2:Shared) (ea:Addr) (od:Option Addr),Inv X pins U H2 s2->H2 ea=some (.ext (xFr ea C od))->X.s₀.heap.get? ea=none->E (.ref C) od (unt H2 ea)->X.xe (.ref ea) s2)
  (hd:(x==("__debug__" : Str))=false:=by decide) (hst:starEach (e::es) X.env=(false,eval e X.env)::starEach es X.env:=by rfl) (hpl:(backTo cpos (starEach es X.env)).any (·.1)=false:=by rfl) :
  PS X (.Raise (some (.Call (.Name x np) (e::es) [] cpos)) none pos) (zl8 C sp E t):=by
 intro pins s U H D I h
 obtain⟨hm,fI,fd,ps,oI,c,⟨hfI,hfc⟩,F,hb⟩:=M
 obtain⟨nm,q,N,bs,bm,sn,sub,ab,col,dd,k0,k1,k2,k3,k5,hC,hN,hT⟩:=id c.ex
 obtain⟨cN,d,es',ep,sl,hNl,hNs,hi⟩:=hN
 have T:=hT.tail I.kIn
 have hbase:bm.contains (.type "BaseException")=true:=T.hasType PySem.F.excBase_ValueError.hasBase
 refine zlZ (C:=C) (nm:=nm) (q:=q) (N:=N) (bs:=bs) (bm:=bm) (hdct:=true) (sn:=sn) (sub:=sub) (ab:=ab) (col:=col) (dd:=dd) (k0:=k0) (k1:=k1) (k2:=k2) (k3:=k3) (k5:=k5) (mN:=nsFind es') (fI:=fI) (oI:=oI)
  hbase (I.ok.hd hc) (by rw[hst];show(false || (backTo cpos (starEach es X.env)).any (·.1))=false;rw[hpl];rfl) hi hfc (zdq I hg hm {O,?_} hd)
 have h2:=ha cpos pins s U H _ I h
 rw[hst] at h2 ⊢
 refine Calls.evalArgs_plain (thn h2 λus s2 h3=>?_)
 obtain⟨vs,H1,I2,r,hl,q1⟩:=h3
 have hlen:us.length=vs.length:=r.length.symm
 refine{O,by show us.length<=sizeLine;rw[hlen,sizeLine_eq];omega,I2.kIn _ _ hC,{_,es',ep,I2.kIn _ _ hNl,O,hNs,λ_=>O},hT.tail I2.kIn,I2.kIn _ _ hfI,λh' ea hm'=>?_}
 have hnone:H1 ea=none:=I2.hok.none_of hm'.new
 have ours:=I2.none_ours hm'.new (by rw[hex];simp)
 have J:Inv X pins U H1 {s2 with heap:=h'}:=I2.kept (t':=s2.toks) hm'.keeps
 obtain⟨tt,ht,_⟩:=hm'.there
 have J2:Inv X pins U (upd H1 ea (.ext (xFr ea C none))) {s2 with heap:=h'}:=J.trackE hnone (λH'=>zmD ⟨tt,ht⟩) ours
 have q2:=q1 ea hnone
 have r2:Vals ((V.ref ea::vs)++[]) ((Value.ref ea::us)++[]):=(show Vals (V.ref ea::vs) (Value.ref ea::us) from .cons O r).append .nil
 have hl2:((Value.ref ea::us)++[]).length=ps.length:=by rw[<- r2.length];exact F.len _ _ _ _ q2
 refine XbJ (Xbv (F.run _ X.stack _ _ {Value.ref ea::us,[]} _ _ _ E0 (hr.make C us []) (J2.env0.make C us []) (hb _ (Value.ref ea::us) J2.kIn hl2) r2 q2) λrr s' hq=>?_)
 cases rr with
 | error ex=>exact False.elim hq
 | ok fl =>
  cases fl with
  | ret u =>
   obtain⟨v,H',J3,rv,ev,od,e2,hE⟩:=J2.after hq
   subst ev
   obtain⟨t3,g3⟩:=(show xFr ea C od s'.heap from(J3.hok ea _ e2).1)
   exact{rv,t3,od,J3.kIn _ _ hC,g3,hx pins U H' s' ea od J3 e2 ours.1 hE}
  | next=>exact False.elim hq
  | brk=>exact False.elim hq
  | cont=>exact False.elim hq
end
section
variable{X:Cx}{v:Expr}{es:List Expr}{p2:Pos}{ta:TE}{t:TJ}
end
end L2
end
section
namespace L2
open PySem PySem.Spec PyProof.Rows HT PySem.W PySem.Calls
section
variable{prog:Program}{w:World}{A:Around}
end
section
variable{X:Cx}
end
end L2
end
section
namespace L2
open PySem PySem.Spec PyProof.Rows PySem.SeqAt
def Itu(lo st:Int)(n:Nat):It:={λi _=>i<n,λi H x H'=>H'=H/\x=.int (lo+i*st),λi _=>n<=i}
def zgF{P:Program}{w:World}{K:PySem.W.Frag}{tg:Expr}(it:Addr)(lo st:Int)(n:Nat):Turn P w K tg (Itu lo st n) [it] it (λi h=>IsRangeIter h it (lo+(i:Nat)*st) ((n:Int)-(i:Nat)) st) where
 mem:=by simp
 obj:=λi h st b hb=>by
  have e:b=it:=by simpa using hb
  subst e
  exact⟨_,st,λv z=>by
   have z':Data.fields _=Data.cell v:=z
   cases z'⟩
 keep:=λi h h' st k=>k it (by simp) _ st
 item:=by
  intro X hP hw hK hc i pins s U H E I hf st' hg
  subst hP hw hK
  obtain⟨f0,f1,f2,f3,f4,f5⟩:=hf it (by simp)
  have W:=Walks.range (prog:=X.prog) (w:=X.w) (I.ok.hd hc) it lo st n
  refine W.item i s _ _ hg st' λv h' tk hv st'' kk=>?_
  obtain⟨t,rfl⟩:=hv
  have I1:Inv X pins U H {s with heap:=h',toks:=tk}:=I.turned (λb o hb e=>kk b o (by simpa using hb) e) f0 f1 f3 f4 f5
  exact{_,O,zjK (s:={s with heap:=h',toks:=tk}) (n := "range_iterator") st'' O O (by decide) {.int (lo+i*st),H,I1,⟨t,O⟩,⟨O,O⟩,st'',λb hb=>(hf b hb).1}}
 done:=by
  intro X hP hw hK hc i pins s U H E I hf st' hg
  subst hP hw hK
  obtain⟨f0,f1,f2,f3,f4,f5⟩:=hf it (by simp)
  exact wpAny_pyNext_range_end (I.ok.hd hc) st' (by have:n<=i:=hg;omega) λh' eb=>{O,I.turned (t':=s.toks) (λb o hb e=>eb b o hb e) f0 f1 f3 f4 f5}
 self:=λ_ _ _ _ _ st h=>wpAny_pyIter_rangeiter st h
section
variable{X:Cx}{tg:Expr}
def zi3{pins:List (Addr×Obj)}{U:St}{H:Hp}{s:Shared}{R:It->Hp->Prop}{E:Value->Shared->Prop}{lo hi st:Int}{n:Nat}{t u v:Tok}{tk:Nat}(I:Inv X pins U H s)(h1:Builtin.Range.small lo hi st=true)(hn:Builtin.Range.rangeSize lo hi st=(n:Int))
  (q:R (Itu lo st n) H):wpAny (model X.prog X.w) X.A (pyIter (.ref s.heap.objs.size)) (PIE X pins U tg R) E {s with heap:=s.heap.push {cls:=.type "range",data:=.fields #[.int lo t,.int hi u,.int st v]},toks:=tk}:=by
 refine wpAny_pyIter_range (IsRange.new ..) h1 ?_
 have I1:Inv X pins U H {s with heap:=s.heap.push {cls:=.type "range",data:=.fields #[.int lo t,.int hi u,.int st v]},toks:=tk}:=I.kept λb o e=>Xab _ e
 refine⟨(s.heap.push {cls:=.type "range",data:=.fields #[.int lo t,.int hi u,.int st v]}).objs.size,[(s.heap.push {cls:=.type "range",data:=.fields #[.int lo t,.int hi u,.int st v]}).objs.size],_,_,H,O,
  I1.kept (t':=tk) λb o e=>Xab _ e,zgF _ lo st n,?_,λb hb=>?_,q⟩
 .have e1:lo+((0:Nat):Int)*st=lo:=by simp
  have e2:(n:Int)-((0:Nat):Int)=Builtin.Range.rangeSize lo hi st:=by rw[hn];simp
  show IsRangeIter _ _ (lo+((0:Nat):Int)*st) ((n:Int)-((0:Nat):Int)) st
  rw[e1,e2]
  exact Xai _ O
 .have e:b=(s.heap.push {cls:=.type "range",data:=.fields #[.int lo t,.int hi u,.int st v]}).objs.size:=by simpa using hb
  subst e
  exact I1.fpOk (Xae _) (I1.hok.fresh (Xae _))
inductive iRngS_1(R:It->Hp->Prop)(vs:List V)(H1:Hp):Prop
 | mk (i j st:Int) (n:Nat)(_:vs=[.int i,.int j,.int st])(_:st≠0)(_:Builtin.Range.small i j st=true)(_:Builtin.divisionGoesByPylong (j-i) st=false)(_:Builtin.Range.rangeSize i j st=(n:Int))(_:R (Itu i st n) H1)
def iRngS(ta:TA):TI:=λU H R=>ta U H (iRngS_1 R)
def zfS{a b c:Expr}{ta:TA}{p pos:Pos}(hg:Gl X "range")(hm:X.mg "range"=none)(ha:PA X [a,b,c] ta)(hs:starEach [a,b,c] X.env=(false,eval a X.env)::starEach [b,c] X.env:=by rfl)(hs2:(backTo pos (starEach [b,c] X.env)).any (·.1)=false:=by rfl) :
  PI X tg (.Call (.Name "range" p) [a,b,c] [] pos) (iRngS ta):=by
 intro pins s U H R I h
 refine Call_ (zc0 I hg hm boot_range (PyProof.Rows.callWith_type1 (thn (ha pos pins s U H _ I h) λus s1 hh_=>?_) hs hs2))
 obtain⟨vs,H1,I1,r1,q1⟩:=hh_
 obtain⟨i,j,st,n,e,hne,q1,q2,q3,q⟩:=q1
 subst e
 cases r1 with
 | cons r rr =>
  cases rr with
  | cons r' rr =>
   cases rr with
   | cons r'' rr =>
    cases rr
    obtain⟨t,rfl⟩:=r
    obtain⟨t',rfl⟩:=r'
    obtain⟨t'',rfl⟩:=r''
    exact call_range_3 hne (zi3 I1 q1 q3 q) (.inl q2)
end
def zeX{lo st:Int}{n:Nat}{g:TG}{tb:TS}{D:Ends}{U:St}{H:Hp}(Pv:Nat->St->Hp->Prop)(h0:Pv 0 U H)
  (hs:∀i U H,i<n->Pv i U H->g (.int (lo+i*st)) U H λU2 H2=>tb {D with nx:=Pv (i+1),ct:=Pv (i+1),bk:=D.nx} U2 H2) (hd:∀U H,Pv n U H->D.nx U H) :
  ∃W:Nat->Nat->St->Hp->Prop,(∃m,W 0 m U H)/\∀i m U H,W i m U H ->
   ((Itu lo st n).stop i H/\D.nx U H)\/((Itu lo st n).go i H/\∃N:St->Hp->Prop,(∀U' H',N U' H'->∃m',m'<m/\W (i+1) m' U' H')/\∀x H',(Itu lo st n).yld i H x H'->g x U H' λU2 H2=>tb {D with nx:=N,ct:=N,bk:=D.nx} U2 H2):=by
 refine{λi m U H=>m=n-i/\i<=n/\Pv i U H,{n,by simp,Nat.zero_le _,h0},?_}
 rintro i m U H ⟨rfl,hi,p⟩
 by_cases hlt:i<n
 .refine .inr {hlt,Pv (i+1),λU' H' p'=>{n-(i+1),by omega,O,hlt,p'},λx H' y=>?_}
  obtain⟨e,y⟩:=y
  subst e y
  exact hs i U _ hlt p
 .have e:i=n:=by omega
  subst e
  exact .inl {Xae _,hd U H p}
def zhy{j st n:Nat}(hj:j<=1000)(hs:0<st)(hs2:st<=1000)(hn:n=(j+st-1) / st):Builtin.Range.small 0 (j:Int) (st:Int)=true/\Builtin.divisionGoesByPylong ((j:Int)-0) (st:Int)=false/\Builtin.Range.rangeSize 0 (j:Int) (st:Int)=(n:Int):=by
 have e:Builtin.Range.rangeSize 0 (j:Int) (st:Int)=(n:Int):=by
  unfold Builtin.Range.rangeSize
  rw[if_pos (show(st:Int)>0 by omega)]
  by_cases h:j=0
  .subst h
   rw[if_neg (by omega),hn,show 0+st-1=st-1 by omega,Nat.div_eq_of_lt (by omega)];rfl
  .rw[if_pos (by omega),hn,show(j:Int)-0-1=((j-1:Nat):Int) by omega,show j+st-1=(j-1)+st by omega,Nat.add_div_right _ hs]
   rfl
 have hn2:n<=2000:=by rw[hn];exact Xar (Nat.div_le_self _ _) (by omega)
 have fits:∀k:Int,0<=k->k<=100000->Builtin.Range.rangeFitsLong k=true:=λk h1 h2=>by unfold Builtin.Range.rangeFitsLong;simp;omega
 refine{?_,PyProof.noPylong_small (by omega),e}
 unfold Builtin.Range.small
 simp[e,fits 0 (by omega) (by omega),fits (st:Int) (by omega) (by omega),fits (n:Int) (by omega) (by omega),fits (j:Int) (by omega) (by omega)]
 right
 rw[if_pos hs]
 exact fits _ (by omega) (by omega)
end L2
end
section
namespace L2
open PySem
section
variable{X:Cx}
end
section
variable{P:Program}{w:World}{K:W.Frag}{mg:Str->Option Value}{base:Heap}{k:Nat}{C f:Addr}{fd:FuncData}{m:Str}{ps ks:List Str}{gV:List V->List V->List V}{sp:Sp}
def zjt(c:Cls K C)(a:W.findIn K (.ref C) m=some (some (.ref f)))(fn:W.isFn K (.ref f)=true)(kp:W.keepIn K (.ref f)=true)(G:FnOk P w K mg base (CX1 P w) k f fd ps sp)(b:Binds K fd ps []):MthX P w K mg base k C m [] (λvs _=>vs) sp:={c,f,fd,ps,_,⟨a,fn,kp⟩,G,.pos b}
def MthX.calm(M:MthX P w K mg base k C m ks gV sp):Mth P w K mg base k C m ks gV (λvs H Q _=>sp vs H Q λ_ _ _=>False):=by
 obtain⟨c,f,fd,ps,g,a,F,b⟩:=M
 exact⟨c,f,fd,ps,g,a,F.calm,b⟩
end
end L2
end
section
namespace L2
open PySem
section
variable{P:Program}{w:World}{K:W.Frag}{mg:Str->Option Value}{base:Heap}{k:Nat}{C f:Addr}{fd:FuncData}{m:Str}{ps ks:List Str}{g:List Value->List Value->List Value}{gV:List V->List V->List V}{sp:Sp}
def zfx(c:Cls K C)(a:W.findIn K (.ref C) m=some (some (.ref f)))(fn:W.isFn K (.ref f)=true)(kp:W.keepIn K (.ref f)=true)(G:FnOk P w K mg base (CX1 P w) k f fd ps sp)(b:KBinds K fd ps ks g gV):MthX P w K mg base k C m ks gV sp:={c,f,fd,ps,g,⟨a,fn,kp⟩,G,b}
end
section
variable{X:Cx}{cn n:Str}{j:Nat}{Cb:Addr}{body hbody:List Stmt}{b₀:Stmt}{tb:(St->XK)->TS}{th:TS}{tr t:THd}{p4 p8 p9:Pos}{hs:List ExceptHandler}{h0:ExceptHandler}
end
section
variable{X:Cx}{k:Nat}{ks:List Str}{x:Str}{C:Addr}{gV:List V->List V->List V}{sp:Sp}{p pos:Pos}{e:Expr}{es:List Expr}{kws:List Keyword}{t tk:TA}
end
section
variable{X:Cx}{pins:List (Addr×Obj)}{U:St}{H:Hp}{s:Shared}{a:Addr}
def Inv.retrack{o o':HO}(I:Inv X pins U H s)(e:H a=some o)(nt:∀xs,o≠.tup xs)(no:∀x,o≠.own x)(nb:∀ps,o≠.tbl ps)(nf:∀q u,X.H₀ a≠some (.frz q u))(ok':ObjOk X.prog X.w H s.heap a o'):Inv X pins U (upd H a o') s:=by
 have hn:∀b,H b=none->b≠a:=λb n z=>by rw[z,e] at n;cases n
 have ht:∀b xs,H b=some (.tup xs)->upd H a o' b=some (.tup xs):=λb xs q=>by rw[zah (λz=>by rw[z,e] at q;exact nt _ (Option.some.inj q))];exact q
 have ho:∀c b,H b=some (.own c)->upd H a o' b=some (.own c):=λc b q=>by rw[zah (λz=>by rw[z,e] at q;exact no _ (Option.some.inj q))];exact q
 refine{I.ok,I.os,I.bare,{I.base.keep,I.base.slot,λb ob q n hx=>?_,I.base.there,λb xs q=>ht b xs (I.base.tups b xs q),λb ob u q=>?_,λb ps q=>?_},I.loc,I.cell,?_,λx c q=>?_,λp hp=>?_,λb u hb=>?_,I.len}
 .have:=I.base.free b ob q n hx;rw[zah (hn b this)];exact this
 .rw[zah (λz=>by rw[z] at q;exact nf ob u q)];exact I.base.frzs b ob u q
 .obtain⟨m,q1⟩:=I.base.tbls b ps q
  exact{m,by rw[zah (λz=>by rw[z,e] at q1;exact nb _ (Option.some.inj q1))];exact q1}
 .rw[zah (hn _ I.free)];exact I.free
 .rw[zah (hn _ (I.freeC x c q))];exact I.freeC x c q
 .obtain⟨h1,h2,h3⟩:=I.pin p hp
  exact{h1,by rw[zah (hn _ h2)];exact h2,h3}
 .by_cases z:b=a
  .subst z
   rw[zac] at hb
   obtain rfl:=Option.some.inj hb
   exact ok'.stay (λ_ _ _ q=>q) (ho b) ht
  .rw[zah z] at hb
   exact(I.hok b u hb).stay (λ_ _ _ q=>q) (ho b) ht
def Inv.freeze{kvs:List (Key×V)}{q:Obj}(I:Inv X pins U H s)(e:H a=some (.dK kvs))(hq:s.heap.get? a=some q):Inv X pins U (upd H a (.frz q (.dK kvs))) s:=
 I.retrack e (λ_ z=>by cases z) (λ_ z=>by cases z) (λ_ z=>by cases z) (λo u z=>by have:=I.base.frzs a o u z;rw[e] at this;cases this) {hq,I.hok a _ e}
def Inv.thaw{kvs:List (Key×V)}{q:Obj}(I:Inv X pins U H s)(e:H a=some (.frz q (.dK kvs)))(nf:∀q u,X.H₀ a≠some (.frz q u)):Inv X pins U (upd H a (.dK kvs)) s:=
 I.retrack e (λ_ z=>by cases z) (λ_ z=>by cases z) (λ_ z=>by cases z) nf (I.hok a _ e).2
end
def Itv(a:Addr)(q:Obj)(kvs:List (Key×V)):It:=
 {λi H=>H a=some (.frz q (.dK kvs))/\i<kvs.length,λi H x H'=>H'=H/\∃k,kvs[i]?=some (k,x),λi H=>H a=some (.frz q (.dK kvs))/\kvs.length<=i}
def zlD{α β:Type}{F:α->β->Prop}:∀{l:List α} {m:List β} {i:Nat} {x:α},Paired F l m->l[i]?=some x->∃y,m[i]?=some y/\F x y
 | _::_,_::_,0,_,.cons r _,h=>{_,O,Option.some.inj h▸r}
 | _::l,_::m,i+1,x,.cons _ t,h=>by
  obtain⟨y,hy,f⟩:=zlD (l:=l) (m:=m) (i:=i) (x:=x) t h
  exact⟨y,hy,f⟩
 | [],_,_,_,_,h=>nomatch h
def ziO{P:Program}{w:World}{K:W.Frag}{tg:Expr}(a it:Addr)(q:Obj)(kvs:List (Key×V))(vs:List (Key×Value))(ep:Nat)(rel:KV kvs vs)(da:∀h:Heap,h.get? a=some q->h.DictAt (zaH P w) a vs ep):Turn P w K tg (Itv a q kvs) [it] it (λi h=>h.IsValIter it a i vs.length ep) where
 mem:=by simp
 obj:=λi h st b hb=>by
  have e:b=it:=by simpa using hb
  subst e
  obtain⟨o,e,c,d⟩:=st
  exact{o,e,λv z=>by rw[d] at z;cases z}
 keep:=λi h h' ⟨o,e,c,d⟩ k=>{o,k it (by simp) o e,c,d}
 item:=by
  intro X hP hw hK hc i pins s U H E I hf st hg
  subst hP hw hK
  obtain⟨ea,hi⟩:=hg
  have hq:=(I.hok a _ ea).1
  obtain⟨⟨k,x⟩,hx⟩:∃y,kvs[i]?=some y:={_,Xah hi}
  obtain⟨⟨k',u⟩,hu,ek,ru⟩:=zlD rel hx
  obtain⟨f0,f1,f2,f3,f4,f5⟩:=hf it (by simp)
  refine wpAny_pyNext_values_item (knd:=zaH X.prog X.w) st (da _ hq) hu λh' st' sb=>?_
  have I1:Inv X pins U H {s with heap:=h'}:=I.turned (t':=s.toks) (λb o hb e=>(sb.2 b hb).trans e) f0 f1 f3 f4 f5
  obtain⟨o,e,c,d⟩:=id st'
  exact{u,O,zjK (s:={s with heap:=h'}) e c d (by decide) {x,H,I1,ru,⟨O,k,hx⟩,st',λb hb=>(hf b hb).1}}
 done:=by
  intro X hP hw hK hc i pins s U H E I hf st hg
  subst hP hw hK
  obtain⟨ea,hi⟩:=hg
  have hq:=(I.hok a _ ea).1
  obtain⟨f0,f1,f2,f3,f4,f5⟩:=hf it (by simp)
  have hl:=rel.length
  exact wpAny_pyNext_values_end (knd:=zaH X.prog X.w) (I.ok.hd hc) st (da _ hq) (by simp;omega) λh' eb=>{O,I.turned (t':=s.toks) (λb o hb e=>eb b o hb e) f0 f1 f3 f4 f5}
 self:=λ_ _ _ _ _ st h=>wpAny_pyIter_valiter st h
inductive iVals_1(R:It->Hp->Prop)(x:V)(H1:Hp):Prop
 | mk p a kvs(_:x=.ref p)(_:H1 p=some (.ext (vwV p a)))(_:H1 a=some (.dK kvs))(_:∀q,R (Itv a q kvs) (upd H1 a (.frz q (.dK kvs))))
def iVals(tl:TE):TI:=λU H R=>tl U H (iVals_1 R)
section
variable{X:Cx}{tg:Expr}
def zmr{l:Expr}{tl:TE}(hl:PE X l tl):PI X tg l (iVals tl):=by
 intro pins s U H R I h
 refine thn (hl pins s U H _ I h) λv s1 hh_=>?_
 obtain⟨x,H1,I1,r1,q1⟩:=hh_
 obtain⟨p,a,kvs,e,ep,ea,q⟩:=q1
 subst e
 cases r1
 obtain⟨hz,lo,vs,rel,dd⟩:=zjS I1.hok ea
 obtain⟨ep',da⟩:=dd.dictAt
 have vw:s1.heap.IsValuesView p a:=(I1.hok p _ ep).1
 obtain⟨oq,es,hoq,rest⟩:=id da
 refine wpAny_pyIter_values vw da ?_
 have I2:=I1.freeze ea hoq
 refine{s1.heap.objs.size,[s1.heap.objs.size],_,_,_,O,I2.kept (t':=s1.toks) λb o e=>Xab _ e,ziO a _ oq kvs vs ep' rel (λh hh=>⟨oq,es,hh,rest⟩),{_,Xai _ O,O,O},λb hb=>?_,q oq}
 have e:b=s1.heap.objs.size:=by simpa using hb
 subst e
 exact I2.fpOk (Xae _) (I2.hok.fresh (Xae _))
inductive tThaw(t:TS)(D:Ends)(U:St)(H:Hp):Prop
 | mk a kvs(_:H a=some (.dK kvs))(_:t {λU' H'=>∃q,H' a=some (.frz q (.dK kvs))/\D.nx U' (upd H' a (.dK kvs)),λv H'=>∃q,H' a=some (.frz q (.dK kvs))/\D.rt v (upd H' a (.dK kvs)),λU' H'=>∃q,H' a=some (.frz q (.dK kvs))/\D.bk U' (upd H' a (.dK kvs)),λU' H'=>∃q,H' a=some (.frz q (.dK kvs))/\D.ct U' (upd H' a (.dK kvs))} U H)
def zmk{st:Stmt}{t:TS}(h:PS X st t):PS X st (tThaw t):=by
 intro pins s U H D I ⟨a,kvs,e,h0⟩
 have nf:∀q u,X.H₀ a≠some (.frz q u):=λo u z=>by have:=I.base.frzs a o u z;rw[e] at this;cases this
 refine thn (h pins s U H _ I h0) λf s' q=>?_
 cases f with
 | next=>obtain⟨U',H',I',o,e',d⟩:=q;exact{U',_,I'.thaw e' nf,d}
 | brk=>obtain⟨U',H',I',o,e',d⟩:=q;exact{U',_,I'.thaw e' nf,d}
 | cont=>obtain⟨U',H',I',o,e',d⟩:=q;exact{U',_,I'.thaw e' nf,d}
 | ret u=>obtain⟨v,U',H',I',r,o,e',d⟩:=q;exact{v,U',_,I'.thaw e' nf,r,d}
end
def zk9{a:Addr}{q:Obj}{kvs:List (Key×V)}{g:TG}{tb:TS}{D:Ends}{U:St}{H:Hp}(Pv:Nat->St->Hp->Prop)(h0:Pv 0 U H)(hl:∀i U H,i<=kvs.length->Pv i U H->H a=some (.frz q (.dK kvs)))
  (hs:∀i k x U H,kvs[i]?=some (k,x)->Pv i U H->g x U H λU2 H2=>tb {D with nx:=Pv (i+1),ct:=Pv (i+1),bk:=D.nx} U2 H2) (hd:∀U H,Pv kvs.length U H->D.nx U H) :
  ∃W:Nat->Nat->St->Hp->Prop,(∃m,W 0 m U H)/\∀i m U H,W i m U H ->
   ((Itv a q kvs).stop i H/\D.nx U H)\/((Itv a q kvs).go i H/\∃N:St->Hp->Prop,(∀U' H',N U' H'->∃m',m'<m/\W (i+1) m' U' H')/\∀x H',(Itv a q kvs).yld i H x H'->g x U H' λU2 H2=>tb {D with nx:=N,ct:=N,bk:=D.nx} U2 H2):=by
 refine{λi m U H=>m=kvs.length-i/\i<=kvs.length/\Pv i U H,{kvs.length,by simp,Nat.zero_le _,h0},?_}
 rintro i m U H ⟨rfl,hi,p⟩
 have e:=hl i U H hi p
 by_cases hlt:i<kvs.length
 .refine .inr {⟨e,hlt⟩,Pv (i+1),λU' H' p'=>{kvs.length-(i+1),by omega,O,hlt,p'},λx H' y=>?_}
  obtain⟨e',k,y⟩:=y
  subst e'
  exact hs i k x U _ y p
 .have e2:i=kvs.length:=by omega
  subst e2
  exact .inl {{e,Xae _},hd U H p}
section
variable{X:Cx}{K:W.Frag}
def zfo(hK:X.K=K):OpR X (compareOp .NotIn) (rIn K true):=by subst hK;exact zfV
end
section
variable{X:Cx}{a b e:Expr}{ta tb te:TE}{pos pos':Pos}{x:Str}
def pe_x{r:R2}(hr:IxR X r)(ha:PE X a ta)(hb:PE X b tb)(hs:zkf b:=by exactλ_ _=>O):PE X (.Subscript a b pos) (tOp r ta tb):=pe_ix hr ha hb hs
def ps_L(i:Nat)(hN:X.N.Nodup)(he:PE X e te)(hi:X.N[i]?=some x:=by rfl)(hx:Loc X.env.scope x:=by exact Or.inl O)(hs:swapsWith e (some (.Name x pos')) pos.line X.env=pure false:=by rfl)(hf:X.fn x=true\/X.env.scope.names.lookup x=some .local:=by first|exact .inl O|exact .inr O|assumption):PS X (.Assign [.Name x pos'] e pos) (tAsg te (zaY i)):=zlB hN hi hx he hs hf
def pg_L(i:Nat)(hN:X.N.Nodup)(hi:X.N[i]?=some x:=by rfl)(hx:Loc X.env.scope x:=by exact Or.inl O)(hf:X.fn x=true\/X.env.scope.names.lookup x=some .local:=by first|exact .inl O|exact .inr O|assumption):PG X (.Name x pos) (zaY i):=zjd hN hi hx hf
def hrm{j k:Nat}{A:Around}(r:Room k A)(h:j<=k:=by first|exact Nat.le_of_ble_eq_true O|omega):Room j A:=r.mono h
def pe_c{k:Nat}{ps:List Str}{sp:Sp}{p:Pos}{e:Expr}{es:List Expr}{t:TA}(C:Cal X.prog X.w X.K X.mg X.base k x ps sp)(ha:PA X (e::es) t)(hr:Room k X.A:=by exact hrm (by assumption))(hg:Gl X x:=by rfl)(hdb:(x==("__debug__" : Str))=false:=by decide)
  (he:starEach (e::es) X.env=(false,eval e X.env)::starEach es X.env:=by rfl) (hpl:(backTo pos (starEach es X.env)).any (·.1)=false:=by rfl):PE X (.Call (.Name x p) (e::es) [] pos) (zkt sp [] E0 t):=pe_cal C hr hg ha hdb he hpl
def sck{N P:List Str}{sc:Scope}(h1:sc.kind=.function)(h2:sc.isCoroutine=false)(h3:sc.isGenerator=false)(h:N.Nodup/\N.take P.length=P/\(∀x∈P,sc.names.lookup x=some .local\/sc.names.lookup x=some .cell)/\∀y∈sc.names,y.2≠.free):FnScope N P sc:=⟨h1,h2,h3,h.1,h.2.1,h.2.2.1,h.2.2.2⟩
end
end L2
end
section
namespace L2
open PySem PySem.Spec PyProof.Rows PySem.SeqAt
section
variable{X:Cx}{K:W.Frag}
end
section
open PySem.W PySem.Calls
variable{K:Frag}{x C:Addr}
variable{X:Cx}
end
section
variable{P:Program}{w:World}{K:W.Frag}{mg:Str->Option Value}{base:Heap}{k:Nat}{x:Str}{C:Addr}{ks:List Str}{gV:List V->List V->List V}{sp:Sp}
end
section
variable{prog:Program}{w:World}{A:Around}{E:Value->Shared->Prop}{s:Shared}
end
section
variable{X:Cx}{o:Expr}{td tv:TE}{pos p1 p2 p3:Pos}{k0:Nat}
end
end L2
end
section
namespace L2
open PySem PySem.Spec PyProof.Rows HT
section
variable{M:Model}{A:Around}{E:Value->Shared->Prop}{s:Shared}
end
section
variable{P:Program}{w:World}{K:W.Frag}{mg:Str->Option Value}{base:Heap}{N:List Str}{qual:Str}{scope:Scope}{f:Addr}{cd:Value}{A:Around}{outer:List Env}{s:Shared}{H:Hp}{E:XK}
end
section
variable{X:Cx}{tg:Expr}
end
end L2
end
section
namespace L2
open PySem PySem.Spec PyProof.Rows PySem.SeqAt
section
variable{X:Cx}
end
end L2
end
section
namespace L2
open PySem PySem.Spec PyProof.Rows PySem.SeqAt
section
variable{X:Cx}
end
end L2
end
section
namespace L2
open PySem PySem.Spec PyProof.Rows PySem.SeqAt
section
variable{X:Cx}
end
end L2
end
section
namespace L2
open PySem PySem.Spec PyProof.Rows PySem.SeqAt
section
variable{X:Cx}
end
end L2
end
section
namespace L2
open PySem PySem.Spec PyProof.Rows PySem.SeqAt PySem.MeetsSeq
section
variable{X:Cx}
inductive rIndex(x:V)(vs:List V)(H:Hp)(Q:VK):Prop
 | mk (l:Addr) (ns:List Int) (j:Nat) (n:Int)(_:x=.ref l)(_:vs=[.int n])(_:H l=some (.lst (ns.map V.int)))(_:ns[j]?=some n)(_:∀k m,k<j->ns[k]?=some m->m≠n)(_:Q (.int (j:Int)) H)
def zfz:MtM X "list.index" rIndex:=by
 intro pins s U H x vs v us Q I rx rv h
 obtain⟨l,ns,j,n,rfl,rfl,hH,hj,hk,q⟩:=h
 cases rx
 obtain⟨u,rfl,ru⟩:=rv.one
 obtain⟨t,rfl⟩:=(show∃t,u=Value.int n t from ru)
 obtain⟨z,its,m,r,hl,e⟩:=I.lstM hH
 have hlen:its.length=ns.length:=by have:=r.length;rw[Xag] at this;omega
 have hat:∀(i:Nat) (hi:i<its.length),∃t,its[i]=Value.int (ns[i]'(by omega)) t:=λi hi=>zcn r i hi (by omega)
 have hj2:j<ns.length:=(Xaf.mp hj).1
 refine call_meets F.slot_list_index {_,e,O} F.entry_list_index (F.args_list_index_2 _ _)
  (MeetsSeq.list_index l its.toArray m (.int n t) (λy=>match y with|.int a _=>a==n|_=>false) (λy hy=>?_) j (by rw[Xaq];omega) ?_ ?_ (λk hk1 hk2=>?_)) {e,?_}
 .obtain⟨i,hi,rfl⟩:=List.mem_iff_getElem.mp (show y∈its by simpa using hy)
  obtain⟨t',e'⟩:=hat i hi
  rw[e']
  exact EqGives.int _ _ _ _
 .have:sizeLine<2 ^ 63-1:=by decide
  have:its.length<=sizeLine:=by omega
  omega
 .obtain⟨t',e'⟩:=hat j (by omega)
  rw[List.getElem_toArray,e']
  show(ns[j]==n)=true
  rw[beq_iff_eq]
  exact(Xaf.mp hj).2
 .have hk3:k<its.length:=by simpa using hk1
  obtain⟨t',e'⟩:=hat k hk3
  rw[List.getElem_toArray,e']
  show(ns[k]'(by omega)==n)=false
  rw[beq_eq_false_iff_ne]
  exact hk k _ hk2 (Xah (by omega))
 .exact{.int (j:Int),H,I.tok _,{_,O},q}
end
end L2
end
local macro_rules|`(tactic| omega)=>`(tactic| lia)
set_option maxHeartbeats 8000000
namespace Cb
open PySem L2
def top(i:Nat):Stmt:=PySem.Challenge.pw_chipbus_k44_whole_turned_about.main.body.getD i (.Pass {0,0,0,0})
set_option tactic.hygienic true in
def zkb{b:Int}{k:Nat}(h:b.natAbs<2 ^ k):Builtin.Int.intBits b<=k:=by
 unfold Builtin.Int.intBits
 split
 .omega
 .rename_i h0
  have h1:b.natAbs≠0:=by first|omega|(intro z;simp_all)
  have:=(Nat.log2_lt h1).mpr h
  omega
def zer{a b:Int}(ha:a.natAbs<2 ^ 200)(hb:b.natAbs<2 ^ 200):IntMulOk a b:=IntMulOk.of_bits (Xar (zkb ha) (by decide)) (Xar (zkb hb) (by decide))
def log_ok{m:Int}(h:0<m)(h2:m<=2 ^ 64):m.natAbs.log2<9000:=by
 have h1:m.natAbs≠0:=by omega
 exact Xaj ((Nat.log2_lt h1).mpr (show m.natAbs<2 ^ 65 by omega)) (by decide)
local macro_rules|`(tactic| walk_at"l")=>`(tactic| (rintro _ _ _ _ ⟨⟩;subst_vars;rfl))
local macro_rules|`(tactic| walk_at"sd")=>`(tactic| first|assumption|(exact{by decide,by decide,by decide})|(exact{by assumption,by assumption})|(exact{by decide,by decide +kernel})|(show(0:Int)<_;decide))
local macro_rules|`(tactic| walk_at"hp")=>`(tactic| first|assumption|exact zac)
local macro_rules|`(tactic| walk_at"vc")=>`(tactic| repeat(first|refine{_,O,?_}|refine{_,_,O,O,?_}|refine{_,_,O,?_}|refine{_,_,_,_,O,O,SqL.of (by walk_at"hp"),O,?_}|refine{_,_,_,_,O,O,(by walk_at"hp"),O,?_}|refine And.intro (by walk_at"sd") ?_))
def zky{t u:TS}{D:Ends}(S S':St->Hp->Prop)(h1:∀U H,S U H->∀N:St->Hp->Prop,(∀U' H',S' U' H'->N U' H')->t {D with nx:=N} U H)(h2:∀U' H',S' U' H'->u D U' H'):∀U H,S U H->tSeq t u D U H:=
 λU H s=>h1 U H s _ h2
def zaU{t u:TS}{D:Ends}{U:St}{H:Hp}(S':St->Hp->Prop)(h1:∀N:St->Hp->Prop,(∀U' H',S' U' H'->N U' H')->t {D with nx:=N} U H)(h2:∀U' H',S' U' H'->u D U' H'):tSeq t u D U H:=h1 _ h2
def zkC(m:Nat)(x:Nat):((List.replicate m [V.int (x:Int)]).flatten:List V)=vN (List.replicate m x):=by
 unfold vN
 rw[List.map_replicate]
 induction m with
 | zero=>rfl
 | succ m ih=>rw[Xa9,List.flatten_cons,ih,Xa9];rfl
def zlp(l:List Nat)(j r:Nat):(vN l).set j (.int (r:Int))=vN (l.set j r):=by unfold vN;rw[List.map_set]
def ln0{α:Type}{P:List α->Prop}(us:List α)(h:us.length=0)(k:P []):P us:=by
 rw[List.eq_nil_of_length_eq_zero h];exact k
def lnS{α:Type}{P:List α->Prop}{n:Nat}(us:List α)(h:us.length=n+1)(k:∀a (r:List α),r.length=n->P (a::r)):P us:=by
 cases us with
 | nil=>cases h
 | cons a r=>exact k a r (Nat.succ.inj h)
def ln1{α:Type}{P:List α->Prop}(us:List α)(h:us.length=1)(k:∀a,P [a]):P us:=lnS us h λa r h=>ln0 (P:=λr=>P (a::r)) r h (k a)
def ln2{α:Type}{P:List α->Prop}(us:List α)(h:us.length=2)(k:∀a b,P [a,b]):P us:=lnS us h λa r h=>ln1 (P:=λr=>P (a::r)) r h (k a)
def ln3{α:Type}{P:List α->Prop}(us:List α)(h:us.length=3)(k:∀a b c,P [a,b,c]):P us:=lnS us h λa r h=>ln2 (P:=λr=>P (a::r)) r h (k a)
def ln4{α:Type}{P:List α->Prop}(us:List α)(h:us.length=4)(k:∀a b c d,P [a,b,c,d]):P us:=lnS us h λa r h=>ln3 (P:=λr=>P (a::r)) r h (k a)
def ln5{α:Type}{P:List α->Prop}(us:List α)(h:us.length=5)(k:∀a b c d e,P [a,b,c,d,e]):P us:=lnS us h λa r h=>ln4 (P:=λr=>P (a::r)) r h (k a)
local macro_rules|`(tactic| walk_at"o")=>`(tactic| first|exact Or.inl O|exact Or.inr (Or.inl O)|exact Or.inr (Or.inr O))
local macro_rules|`(tactic| walk_at"p")=>`(tactic| first|exact .inl O|exact .inr O|assumption)
local macro_rules|`(tactic| walk_at"m")=>`(tactic| first|decide|omega)
def zjE{n c:Nat}(h:c<n):ixN n (c:Int)=some c:=by
 unfold ixN;rw[if_pos (by omega),if_pos (by omega)];simp
def zi0{α:Type}(n:Nat)(x:α):(List.replicate n [x]).flatten=List.replicate n x:=by
 induction n with
 | zero=>rfl
 | succ n ih=>rw[Xa9,List.flatten_cons,ih,Xa9];rfl
def ty_seq{K:W.Frag}{H:Hp}{t:Bool}{a:Addr}{xs:List V}(h:SqX t H a xs):TyOf K H (.ref a) (.type (sqC t)):=by
 cases t with
 | true=>exact .tup (xs:=xs) h
 | false=>exact .lst (xs:=xs) h
def zlm{l:List Nat}{r n:Nat}(h:∀w∈l,w<=n)(hr:r<=n):∀w∈l++[r],w<=n:=λb hb=>by
 rcases XaI.mp hb with z|z
 .exact h b z
 .rw[Xad.mp z];exact hr
def zhQ{xs:List V}{m:Nat}(h:m<=xs.length):cutV xs none (some (m:Int))=xs.take m:=by
 unfold cutV HT.sIx
 have e:((m:Int)).toNat=m:=by omega
 simp only[List.drop_zero,Nat.sub_zero]
 split
 .omega
 .rw[e,Nat.min_eq_left h]
def zgT{H:Hp}{x dx:Addr}{o1 o2:HO}(hx:H x=none)(hdx:H dx=none):Same H (upd (upd H dx o1) x o2):=λb u e=>by
 rw[zah (zai e hx),zah (zai e hdx)];exact e
def zfG{P:Hp->Prop}{Hr:Hp}(R:Hp->Prop)(hr:R Hr)(h:∀H',R H'->P H'):P Hr:=h _ hr
def SqX.tup{H:Hp}{a:Addr}{xs:List V}(h:H a=some (.tup xs)):SqX true H a xs:=h
def SqX.lst{H:Hp}{a:Addr}{xs:List V}(h:H a=some (.lst xs)):SqX false H a xs:=h
def zl5(l:List Nat)(n:Nat):(vN l).drop n=vN (l.drop n):=by unfold vN;rw[List.map_drop]
def zat{D:Ends}{U:St}{H:Hp}(h:D.nx U H):tNext D U H:=h
def zlr{l:List Nat}{i v:Nat}(h:l[i]?=some v):(vN l)[i]?=some (V.int (v:Int)):=by unfold vN;rw[Xao,h];rfl
def mulL:List Nat->List Nat->List Nat
 | a::r,b::s=>(a*b)::mulL r s
 | _,_=>[]
def zk3(n s:Nat):n &&& (2*s)=2*((n / 2) &&& s):=by
 rcases Xbf n with h|h
 .rw[show n=2*(n / 2) by omega,zga,show 2*(n / 2) / 2=n / 2 by omega]
 .rw[show n=2*(n / 2)+1 by omega,zfA,show(2*(n / 2)+1) / 2=n / 2 by omega]
inductive spSize(vs:List V)(H:Hp)(Q:VK)(u3_:XK):Prop
 | mk (n:Nat)(_:vs=[.int (n:Int)])(_:n<=16)(_:Q (.int (2 ^ n)) H)
def zfL:∀l:List Nat,Bit l->sgl (num (l++[1]))=sgl (num l)++[2 ^ l.length]
 | [],_=>by
  show sgl (2*0+1)=sgl 0++[1]
  rw[zc8,zcV];rfl
 | b::l,h=>by
  have ih:=zfL l λx hx=>h x (XaA _ hx)
  have hb:=h b Xay
  have e1:num (b::(l++[1]))=b+2*num (l++[1]):=rfl
  have e2:num (b::l)=b+2*num l:=rfl
  rw[List.cons_append,e1,e2]
  rcases(show b=0\/b=1 by omega) with rfl|rfl
  .rw[Nat.zero_add,Nat.zero_add,zbP,zbP,ih,XaD,Xaw,Xbj,Nat.mul_comm];rfl
  .rw[Nat.add_comm 1,Nat.add_comm 1,zc8,zc8,ih,XaD,Xaw,Xbj,Nat.mul_comm];rfl
def zf7:∀l:List Nat,num (l++[0])=num l
 | []=>rfl
 | b::l=>by
  have e1:num (b::(l++[0]))=b+2*num (l++[0]):=rfl
  rw[List.cons_append,e1,zf7 l];rfl
def strKey{v:Value}(h:(match v with|.str _ _=>true|_=>false)=true):∃n t,v=.str n t:=by
 cases v with
 | str n t=>exact⟨n,t,O⟩
 | _=>cases h
def gath:Nat->Nat->Nat
 | 0,_=>0
 | m+1,n=>if(m+1) % 2=1 then n % 2+2*gath ((m+1) / 2) (n / 2) else gath ((m+1) / 2) (n / 2)
decreasing_by all_goals omega
def zgf(n:Nat):gath 0 n=0:=by simp[gath]
def zhO(m n:Nat):gath (2*m+1) n=n % 2+2*gath m (n / 2):=by rw[gath,if_pos (by omega),show(2*m+1) / 2=m by omega]
def zgg(m n:Nat):gath (2*m) n=gath m (n / 2):=by
 cases m with
 | zero=>simp[gath]
 | succ m=>rw[show 2*(m+1)=(2*m+1)+1 by omega,gath,if_neg (by omega),show(2*m+1+1) / 2=m+1 by omega]
def gsm:Nat->List Nat->Nat->Nat
 | _,[],_=>0
 | k,s::r,n=>(if n &&& s=0 then 0 else 2 ^ k)+gsm (k+1) r n
def zhM:∀(l:List Nat) (k n:Nat),gsm (k+1) l n=2*gsm k l n
 | [],_,_=>rfl
 | s::r,k,n=>by
  simp only[gsm,zhM r (k+1) n,Xbj]
  split<;>omega
def zhm:∀(l:List Nat) (k n:Nat),gsm k (l.map (2*·)) n=gsm k l (n / 2)
 | [],_,_=>rfl
 | s::r,k,n=>by
  simp only[XaF,gsm,zhm r (k+1) n,zk3]
  congr 1
  by_cases h:n / 2 &&& s=0
  .rw[if_pos h,if_pos (by omega)]
  .rw[if_neg h,if_neg (by omega)]
def zmL:∀m n,gsm 0 (sgl m) n=gath m n:=by
 intro m
 induction m using Nat.strongRecOn with
 | _ m ih =>
  intro n
  by_cases h0:m=0
  .subst h0;rw[zcV,zgf];rfl
  rcases Xbf m with h|h
  .obtain⟨h2,e⟩:∃h2,m=2*h2:={m / 2,by omega}
   subst e
   rw[zbP,zhm,ih _ (by omega),zgg]
  .obtain⟨h2,e⟩:∃h2,m=2*h2+1:={m / 2,by omega}
   subst e
   rw[zc8,gsm,zhM,zhm,ih _ (by omega),zhO]
   have:n &&& 1=n % 2:=Nat.and_one_is_mod n
   rw[this]
   rcases Xbf n with h|h<;>simp[h]
inductive spG(g:Nat->Nat->Nat)(vs:List V)(H:Hp)(Q:VK)(u3_:XK):Prop
 | mk (m n:Nat)(_:vs=[.int (m:Int),.int (n:Int)])(_:m<2 ^ 64)(_:∀H',Same H H'->Q (.int (g m n:Int)) H')
def sumN(l:List Nat):(l.map (λ(b:Nat)=>(b:Int))).sum=((l.sum:Nat):Int):=by
 induction l with
 | nil=>rfl
 | cons b r ih=>rw[XaF,List.sum_cons,List.sum_cons,ih];omega
def vN_sq{K:W.Frag}{H:Hp}{p:Addr}{l:List Nat}(h:SqL K H p (vN l)):SqL K H p ((l.map λ(b:Nat)=>(b:Int)).map V.int):=by
 rw[Xa5];exact h
def zk7{l:List Nat}{i s:Nat}(n:Nat)(h:l[i]?=some s):gsm i (l.drop i) n=(if n &&& s=0 then 0 else 2 ^ i)+gsm (i+1) (l.drop (i+1)) n:=by
 rw[List.drop_eq_getElem_cons (Xaf.mp h).1,(Xaf.mp h).2];rfl
def zmW{P:Nat->Prop}(h0:P 0)(he:∀m,P m->P (2*m))(ho:∀m,P m->P (2*m+1)):∀m,P m:=by
 intro m
 induction m using Nat.strongRecOn with
 | _ m ih =>
  by_cases hz:m=0
  .subst hz;exact h0
  rcases Xbf m with h|h
  .have:=he (m / 2) (ih _ (by omega));rwa [show 2*(m / 2)=m by omega] at this
  .have:=ho (m / 2) (ih _ (by omega));rwa [show 2*(m / 2)+1=m by omega] at this
def zbA(m:Nat):ones (2*m)=ones m:=by rw[zej,show 2*m % 2=0 by omega,show 2*m / 2=m by omega];omega
def zcp(m:Nat):ones (2*m+1)=ones m+1:=by rw[zej,show(2*m+1) % 2=1 by omega,show(2*m+1) / 2=m by omega];omega
def zcY:ones 0=0:=by simp[ones]
def zjL(m:Nat):∀n,gath m n<2 ^ ones m:=by
 refine zmW (P:=λm=>∀n,gath m n<2 ^ ones m) ?_ ?_ ?_ m
 .intro n;rw[zgf,zcY];omega
 .intro m ih n;rw[zgg,zbA];exact ih _
 .intro m ih n;have:=ih (n / 2);rw[zhO,zcp,Xbj];omega
def zmR{P:Nat->Nat->Prop}(h0:P 0 0)(hee:∀m o,P m o->P (2*m) (2*o))(hoe:∀m o,P m o->P (2*m+1) (2*o))(heo:∀m o,P m o->P (2*m) (2*o+1)):∀m o,m &&& o=0->P m o:=by
 have key:∀k m o,m+o<=k->m &&& o=0->P m o:=by
  intro k
  induction k with
  | zero =>
   intro m o h _
   obtain⟨rfl,rfl⟩:m=0/\o=0:=by omega
   exact h0
  | succ k ih =>
   intro m o hk hd
   by_cases hz:m+o=0
   .obtain⟨rfl,rfl⟩:m=0/\o=0:=by omega
    exact h0
   obtain⟨x,hx⟩:∃x,m=2*x\/m=2*x+1:={m / 2,by omega}
   obtain⟨y,hy⟩:∃y,o=2*y\/o=2*y+1:={o / 2,by omega}
   rcases hx with rfl|rfl<;>rcases hy with rfl|rfl
   .rw[zga] at hd;exact hee x y (ih x y (by omega) (by omega))
   .rw[zjz] at hd;exact heo x y (ih x y (by omega) (by omega))
   .rw[zfA] at hd;exact hoe x y (ih x y (by omega) (by omega))
   .rw[zk4] at hd;omega
 exactλm o h=>key _ m o (Xae _) h
def zle:∀m o,m &&& o=0->ones (m+o)=ones m+ones o:=by
 refine zmR ?_ ?_ ?_ ?_
 .rw[zcY]
 .intro m o ih;rw[show 2*m+2*o=2*(m+o) by omega,zbA,zbA,zbA,ih]
 .intro m o ih;rw[show 2*m+1+2*o=2*(m+o)+1 by omega,zcp,zcp,zbA,ih];omega
 .intro m o ih;rw[show 2*m+(2*o+1)=2*(m+o)+1 by omega,zcp,zcp,zbA,ih];omega
def bor(a b:Nat):Builtin.bitOr (a:Int) (b:Int)=((a ||| b:Nat):Int):=by
 unfold Builtin.bitOr Builtin.bitAnd Builtin.bitNot
 rw[Xan (show¬ (0:Int)<=-(a:Int)-1 by omega),Xan (show¬ (0:Int)<=-(b:Int)-1 by omega)]
 show -(-((((-(-(a:Int)-1)-1).toNat ||| (-(-(b:Int)-1)-1).toNat:Nat)):Int)-1)-1=_
 rw[show -(-(a:Int)-1)-1=(a:Int) by omega,show -(-(b:Int)-1)-1=(b:Int) by omega,Xav,Xav]
 omega
def ziZ{H H':Hp}{p:Addr}(s:Same H H')(h:H' p=none):H p=none:=by
 cases e:H p with
 | none=>rfl
 | some o=>rw[s _ _ e] at h;cases h
def zhR{xs:List V}:cutV xs (some 1) none=xs.drop 1:=by
 unfold cutV
 rw[show(some (1:Int))=some ((1:Nat):Int) from O,HT.sIx_nat,HT.sIx_none,Xa7 (by rw[XaV];exact Xae _)]
 by_cases h:1<=xs.length
 .rw[Nat.min_eq_left h]
 .rw[Nat.min_eq_right (by omega),List.drop_of_length_le (Xae _),List.drop_of_length_le (by omega)]
def zfE(op:Nat->Nat->Nat)(f:Bool->Bool->Bool)(hop:∀a b i,(op a b).testBit i=f (a.testBit i) (b.testBit i))(hf:f false false=false)(x y:Nat) :
  op x y=(f (x % 2==1) (y % 2==1)).toNat+2*op (x / 2) (y / 2):=by
 apply Nat.eq_of_testBit_eq
 intro i
 cases i with
 | zero =>
  rw[hop]
  simp only[Nat.testBit_zero]
  cases h:f (x % 2==1) (y % 2==1)<;>simp_all [Nat.add_mod]
 | succ i =>
  rw[hop]
  simp only[Xbd]
  rw[show((f (x % 2==1) (y % 2==1)).toNat+2*op (x / 2) (y / 2)) / 2=op (x / 2) (y / 2) by cases f (x % 2==1) (y % 2==1)<;>simp<;>omega,hop]
def or_is:∀a b:Nat,a ||| b=(a ^^^ b)+(a &&& b):=by
 intro a
 induction a using Nat.strongRecOn with
 | _ a ih =>
  intro b
  by_cases h0:a=0
  .subst h0;simp
  have e1:a ||| b=((a % 2==1) || (b % 2==1)).toNat+2*(a / 2 ||| b / 2):=zfE (· ||| ·) (· || ·) Nat.testBit_or O a b
  have e2:a ^^^ b=(Bool.xor (a % 2==1) (b % 2==1)).toNat+2*(a / 2 ^^^ b / 2):=zfE (· ^^^ ·) Bool.xor Nat.testBit_xor O a b
  have e3:a &&& b=((a % 2==1)&&(b % 2==1)).toNat+2*(a / 2 &&& b / 2):=zfE (· &&& ·) (·&&·) XaJ O a b
  have e4:=ih (a / 2) (by omega) (b / 2)
  rw[e1,e2,e3,e4]
  cases(a % 2==1)<;>cases(b % 2==1)<;>simp<;>omega
def bxor(a b:Nat):Builtin.bitXor (a:Int) (b:Int)=((a ^^^ b:Nat):Int):=by
 unfold Builtin.bitXor
 rw[bor,band,or_is]
 omega
def agr(m w n v:Nat):Bool:=decide ((w ^^^ v) &&& m &&& n=0)
inductive spAgr(vs:List V)(H:Hp)(Q:VK)(u3_:XK):Prop
 | mk (m w n v:Nat)(_:vs=[.int (m:Int),.int (w:Int),.int (n:Int),.int (v:Int)])(_:Q (.bl (agr m w n v)) H)
def LatV(H:Hp)(v:V):Option (Nat×Nat×Nat)->Prop
 | none=>v=.non
 | some (c,a,b)=>∃u:Addr,v=.ref u/\H u=some (.tup [.int (c:Int),.int (a:Int),.int (b:Int)])
def latA:Option (Nat×Nat×Nat)->Option (Nat×Nat×Nat)->Bool
 | some (c,a,b),some (d,x,y)=>if c=d then agr a b x y else true
 | _,_=>true
inductive spLatA(vs:List V)(H:Hp)(Q:VK)(u3_:XK):Prop
 | mk x y o p(_:vs=[x,y])(_:LatV H x o)(_:LatV H y p)(_:Q (.bl (latA o p)) H)
structure Rw where
 m:Nat
 w:Nat
 i:Nat
 c:Nat
 l:Option (Nat×Nat×Nat)
def RwAt(H:Hp)(t:Addr)(r:Rw):Prop:=∃lt:V,H t=some (.tup [.int (r.m:Int),.int (r.w:Int),.int (r.i:Int),.int (r.c:Int),lt])/\LatV H lt r.l
def za9(r q:Rw):Bool:=agr r.m r.w q.m q.w&&latA r.l q.l
inductive spClash(vs:List V)(H:Hp)(Q:VK)(u3_:XK):Prop
 | mk t u r q(_:vs=[.ref t,.ref u])(_:RwAt H t r)(_:RwAt H u q)(_:Q (.bl (za9 r q)) H)
def zgt:bootBuiltins "sorted"=some (.builtin "sorted"):=by decide +kernel
def LatV.same{H H':Hp}{v:V}{o:Option (Nat×Nat×Nat)}(h:LatV H v o)(s:Same H H'):LatV H' v o:=by
 match o,h with
 | none,h=>exact h
 | some (c,a,b),⟨u,e,eu⟩=>exact{u,e,s _ _ eu}
def RwAt.same{H H':Hp}{t:Addr}{r:Rw}(h:RwAt H t r)(s:Same H H'):RwAt H' t r:=by
 obtain⟨lt,e,hl⟩:=h
 exact{lt,s _ _ e,hl.same s}
def zm3:Option (Nat×Nat×Nat)->Prop
 | none=>True
 | some (c,a,b)=>c<100/\a<256/\b &&& a=b
structure RwOk(m:Nat)(r:Rw):Prop where
 m0:r.m<2 ^ m
 w0:r.w<2 ^ m
 wm:r.w &&& r.m=r.w
 i0:r.i<2 ^ m
 im:r.i &&& r.m=0
 c0:r.c<100
 l0:zm3 r.l
def dN(keys:List Nat)(f:Nat->V):List (Key×V):=keys.map λ(c:Nat)=>(Sum.inl (c:Int),f c)
def dN_any{keys:List Nat}{f:Nat->V}{c:Nat}:((dN keys f).any λkv=>decide (kv.fst=Sum.inl (c:Int)))=decide (c∈keys):=by
 rw[XbT,List.any_eq_true,decide_eq_true_iff]
 constructor
 .rintro⟨x,hx,e⟩
  obtain⟨k,hk,rfl⟩:=XaC.mp hx
  have e:=XaK e
  injection e with e
  rw[<- Int.ofNat.inj e];exact hk
 .intro h
  exact{_,XaC.mpr ⟨c,h,O⟩,Xak O}
def ziv{keys:List Nat}{f:Nat->V}{c:Nat}{v:V}(h:c∉keys):putK (dN keys f) (Sum.inl (c:Int)) v=dN (keys++[c]) λk=>if k=c then v else f k:=by
 unfold putK
 rw[dN_any,Xan h,if_neg (by decide)]
 unfold dN
 rw[XaD]
 congr 1
 .refine Xbx λk hk=>?_
  try dsimp only
  rw[if_neg (λz:k=c=>h (z▸hk))]
 .simp
def zlU{f:Nat->V}{c:Nat}:∀{keys:List Nat},c∈keys->valV (dN keys f) (Sum.inl (c:Int))=some (f c)
 | [],h=>nomatch h
 | k::keys,h=>by
  unfold valV dN
  rw[XaF,List.find?_cons]
  by_cases z:k=c
  .subst z;simp
  .have e:decide ((Sum.inl (k:Int):Key)=Sum.inl (c:Int))=false:=Xan λy=>z (by injection y with y;exact Int.ofNat.inj y)
   simp only[e]
   exact zlU (keys:=keys) ((Xau.mp h).resolve_left (λy=>z y.symm))
def zlg{keys:List Nat}{f g:Nat->V}(h:∀k∈keys,f k=g k):dN keys f=dN keys g:=Xbx λ(k:Nat) hk=>by rw[h k hk]
def NC(r q:Rw):Prop:=za9 r q=false/\za9 q r=false
def NC.symm{r q:Rw}(h:NC r q):NC q r:=⟨h.2,h.1⟩
def zdy{α β:Type}(f:α->β):∀(l:List α) (k:Nat),(l.eraseIdx k).map f=(l.map f).eraseIdx k
 | [],_=>rfl
 | a::l,0=>rfl
 | a::l,k+1=>by
  show f a::(l.eraseIdx k).map f=f a::(l.map f).eraseIdx k
  rw[zdy f l k]
def RwsAt2(m:Nat)(X:Hp)(ws:List (Addr×Rw)):Prop:=∀z∈ws,RwAt X z.1 z.2/\RwOk m z.2
def RwsAt2.same{m:Nat}{X Y:Hp}{ws:List (Addr×Rw)}(h:RwsAt2 m X ws)(s:Same X Y):RwsAt2 m Y ws:=λz hz=>{(h z hz).1.same s,(h z hz).2}
def refs{α:Type}(ws:List (Addr×α)):List V:=ws.map λz=>.ref z.1
def zaw{α:Type}(ws:List (Addr×α)):(refs ws).length=ws.length:=Xag ..
def zhP{K:W.Frag}{i j:Nat}{T:Addr}{x y:V}{U:St}{H:Hp}{Q:St->Hp->Prop}(e:H T=some (.tup [x,y]))(h:Q ((U.set i (some x)).set j (some y)) H) :
  gTup K 2 (gCons (zaY i) (gCons (zaY j) gNil)) (.ref T) U H Q:=
 {T,[x,y],O,SqT.of e,O,x,[y],O,y,[],O,O,h}
def LatV.updL{X:Hp}{l:Addr}{v:V}{o:Option (Nat×Nat×Nat)}{xs ys:List V}(h:LatV X v o)(hl:X l=some (.lst xs)):LatV (upd X l (.lst ys)) v o:=by
 match o,h with
 | none,h=>exact h
 | some (c,a,b),⟨u,e,eu⟩=>exact{u,e,by rw[zah (λz=>by rw[z,hl] at eu;cases eu)];exact eu}
def RwAt.updL{X:Hp}{l t:Addr}{r:Rw}{xs ys:List V}(h:RwAt X t r)(hl:X l=some (.lst xs)):RwAt (upd X l (.lst ys)) t r:=by
 obtain⟨lt,e,hlt⟩:=h
 exact{lt,by rw[zah (λz=>by rw[z,hl] at e;cases e)];exact e,hlt.updL hl}
def zfi{α:Type}{ws:List (Addr×α)}{k:Nat}{z:Addr×α}(h:ws[k]?=some z):(refs ws)[k]?=some (.ref z.1):=by unfold refs;rw[Xao,h];rfl
def zi2{α:Type}(ws:List (Addr×α))(z:Addr×α):refs (ws++[z])=refs ws++[.ref z.1]:=by unfold refs;rw[XaD];rfl
def zbW{α:Type}{ws:List (Addr×α)}{k:Nat}{x:V}(h:(refs ws)[k]?=some x):∃z,ws[k]?=some z/\x=.ref z.1:=by
 unfold refs at h
 rw[Xao] at h
 obtain⟨z,h1,h2⟩:=Xax.mp h
 exact⟨z,h1,h2.symm⟩
def dV(keys:List Nat)(g:Nat->Nat):List (Key×V):=dN keys λc=>.int (g c:Int)
def wrd(keys:List Nat)(g:Nat->Nat)(c:Nat):Nat:=if c∈keys then g c else 0
def zjY{f:Nat->V}{c:Nat}:∀{keys:List Nat},c∉keys->valV (dN keys f) (Sum.inl (c:Int))=none
 | [],_=>rfl
 | k::keys,h=>by
  unfold valV dN
  rw[XaF,List.find?_cons]
  have z:¬ k=c:=λz=>h (z▸Xay)
  have e:decide ((Sum.inl (k:Int):Key)=Sum.inl (c:Int))=false:=Xan λy=>z (by injection y with y;exact Int.ofNat.inj y)
  simp only[e]
  exact zjY (keys:=keys) λy=>h (XaA _ y)
def dV_get(keys:List Nat)(g:Nat->Nat)(c:Nat):(valV (dV keys g) (Sum.inl (c:Int))).getD (.int 0)=.int (wrd keys g c:Int):=by
 unfold dV wrd
 by_cases h:c∈keys
 .rw[zlU h,if_pos h];rfl
 .rw[zjY h,if_neg h];rfl
def awk(r:Rw)(W:Nat->Nat):Bool:=match r.l with
 | none=>true
 | some (c,a,b)=>decide (W c &&& a=b)
def met(r:Rw)(x:Nat):Bool:=decide (x &&& r.m=r.w)
inductive spMeet(vs:List V)(H:Hp)(Q:VK)(u3_:XK):Prop
 | mk (t:Addr) (r:Rw) (x:Nat)(_:vs=[.ref t,.int (x:Int)])(_:RwAt H t r)(_:Q (.bl (met r x)) H)
inductive spAwake(vs:List V)(H:Hp)(Q:VK)(u3_:XK):Prop
 | mk (t d:Addr) (r:Rw) (keys:List Nat) (g:Nat->Nat)(_:vs=[.ref t,.ref d])(_:RwAt H t r)(_:H d=some (.dK (dV keys g)))(_:Q (.bl (awk r (wrd keys g))) H)
def ans(r:Rw)(x:Nat)(W:Nat->Nat):Bool:=met r x&&awk r W
def fstA(rs:List Rw)(x:Nat)(W:Nat->Nat):V:=match rs.findIdx? (λr=>ans r x W) with
 | none=>.non
 | some i=>.int (i:Int)
inductive spAnsw(vs:List V)(H:Hp)(Q:VK)(u3_:XK):Prop
 | mk (p d:Addr) (x:Nat) (ws:List (Addr×Rw)) (keys:List Nat) (g:Nat->Nat)(_:vs=[.ref p,.int (x:Int),.ref d])(_:H p=some (.tup (refs ws)))(_:(∀z∈ws,RwAt H z.1 z.2))(_:H d=some (.dK (dV keys g)))(_:∀H',Same H H'->Q (fstA (ws.map (·.2)) x (wrd keys g)) H')
def awk_eq{keys:List Nat}{g:Nat->Nat}{c a b:Nat}{r:Rw}(h:r.l=some (c,a,b)):decide (V.int (Builtin.bitAnd (wrd keys g c:Int) (a:Int))=V.int (b:Int))=awk r (wrd keys g):=by
 rw[band]
 unfold awk
 rw[h]
 show _=decide (wrd keys g c &&& a=b)
 by_cases z:wrd keys g c &&& a=b
 .rw[Xak z,z];exact Xak O
 .rw[Xan z];exact Xan λy=>z (by injection y with y;exact Int.ofNat.inj y)
def zjN{rs:List Rw}{x:Nat}{W:Nat->Nat}(h:∀r∈rs,ans r x W=false):fstA rs x W=.non:=by
 unfold fstA
 rw[XbL.mpr h]
def zjM{rs:List Rw}{x i:Nat}{W:Nat->Nat}{r:Rw}(hr:rs[i]?=some r)(h:ans r x W=true)(hb:∀j q,j<i->rs[j]?=some q->ans q x W=false):fstA rs x W=.int (i:Int):=by
 unfold fstA
 obtain⟨hi,e⟩:=Xaf.mp hr
 rw[Xba.mpr {hi,by rw[e];exact h,λj hj=>by rw[hb j _ hj (Xah (by omega))];decide}]
inductive spCellR(vs:List V)(H:Hp)(Q:VK)(u3_:XK):Prop
 | mk (t:Addr) (r:Rw) (a:Nat)(_:vs=[.ref t,.int (a:Int)])(_:RwAt H t r)(_:r.i<2 ^ 64)(_:∀H',Same H H'->Q (.int (gath r.i a:Int)) H')
def zhI:∀(n:Nat) (l:List Nat),l.Nodup->(∀a∈l,a<n)->l.length<=n
 | 0,l,_,hb=>by
  cases l with
  | nil=>exact Xae _
  | cons a l=>exact absurd (hb a Xay) (Xbn _)
 | n+1,l,h,hb=>by
  have ih:=zhI n (l.erase n) (h.erase n) λa ha=>by
   have h1:=hb a (List.mem_of_mem_erase ha)
   have h2:a≠n:=λe=>by rw[e] at ha;exact h.not_mem_erase ha
   omega
  have:=List.length_erase (a:=n) (l:=l)
  split at this<;>omega
def dV_new{sk:List Nat}{sg:Nat->Nat}{x v:Nat}(h:x∉sk):putK (dV sk sg) (Sum.inl (x:Int)) (.int (v:Int))=dV (sk++[x]) λk=>if k=x then v else sg k:=by
 unfold dV
 rw[ziv h]
 exact zlg λk _=>by by_cases z:k=x<;>simp[z]
def lnB1{α:Type}{P:List α->Prop}(k:∀a,P [a]):∀us:List α,us.length=1->P us:=λus h=>ln1 us h k
def lnB2{α:Type}{P:List α->Prop}(k:∀a b,P [a,b]):∀us:List α,us.length=2->P us:=λus h=>ln2 us h k
def lnB3{α:Type}{P:List α->Prop}(k:∀a b c,P [a,b,c]):∀us:List α,us.length=3->P us:=λus h=>ln3 us h k
def lnB4{α:Type}{P:List α->Prop}(k:∀a b c d,P [a,b,c,d]):∀us:List α,us.length=4->P us:=λus h=>ln4 us h k
section
variable{P:Program}{w:World}{K:W.Frag}{mg:Str->Option Value}{base:Heap}{k:Nat}{f C:Addr}{fd:FuncData}{ps ks:List Str}{sp:Sp}{x m:Str}{g:List Value->List Value->List Value}{gV:List V->List V->List V}
def zhU(G:FnOk P w K mg base CX0 k f fd ps sp)(a:mg x=some (.ref f))(kp:W.keepIn K (.ref f)=true)(b:Binds K fd ps []):Cal P w K mg base k x ps sp:=⟨f,fd,G,a,kp,b⟩
def zju(c:Cls K C)(a:W.findIn K (.ref C) m=some (some (.ref f)))(fn:W.isFn K (.ref f)=true)(kp:W.keepIn K (.ref f)=true)(G:FnOk P w K mg base CX0 k f fd ps sp)(b:KBinds K fd ps ks g gV):Mth P w K mg base k C m ks gV sp:={c,f,fd,ps,g,⟨a,fn,kp⟩,G,b}
def mth_mk(c:Cls K C)(a:W.findIn K (.ref C) m=some (some (.ref f)))(fn:W.isFn K (.ref f)=true)(kp:W.keepIn K (.ref f)=true)(G:FnOk P w K mg base CX0 k f fd ps sp)(b:Binds K fd ps []):Mth P w K mg base k C m [] (λvs _=>vs) sp:=zju c a fn kp G (.pos b)
def zes(a:mg x=some (.ref C))(mk:W.makesIn K C=true)(at_:W.findIn K (.ref C) "__init__"=some (some (.ref f)))(fn:W.isFn K (.ref f)=true)(kc:W.keepIn K (.ref C)=true)(G:FnOk P w K mg base CX0 k f fd ps sp)(b:KBinds K fd ps ks g gV):Mak P w K mg base k x C ks gV sp:={a,f,fd,ps,g,⟨mk,at_,fn,kc⟩,G,b}
end
local macro_rules|`(tactic| walk_at"bd")=>`(tactic| (refine Fun.binds (by assumption) ?_;intro _ _ _ _ _ _;first|exact lnB1 λ_=>O|exact lnB2 λ_ _=>O|exact lnB3 λ_ _ _=>O|exact lnB4 λ_ _ _ _=>O|exact lnB5 λ_ _ _ _ _=>O|exact lnB6 λ_ _ _ _ _ _=>O|exact lnB7 λ_ _ _ _ _ _ _=>O))
structure Nums(mg:Str->Option Value):Prop where
 MOST_BITS:∃t,mg "MOST_BITS"=some (.int 16 t)
 LAST_CHIP:∃t,mg "LAST_CHIP"=some (.int 99 t)
 LAST_WORD:∃t,mg "LAST_WORD"=some (.int 255 t)
 MOST_CELLS:∃t,mg "MOST_CELLS"=some (.int 4096 t)
 MOST_ROOM:∃t,mg "MOST_ROOM"=some (.int 255 t)
 SIXTEEN:∃t,mg "SIXTEEN"=some (.str "0123456789abcdef" t)
 READ:∃t,mg "READ"=some (.str "read" t)
 WRITE:∃t,mg "WRITE"=some (.str "write" t)
 BOTH:∃t,mg "BOTH"=some (.str "both" t)
abbrev zb7:Stmt:=top 11
def scsingle_ones:FnScope ["mask","singles","rest"] ["mask"] (zaj zb7):=sck O O O (by decide +kernel)
section
variable{P:Program}{w:World}{K:W.Frag}{mg:Str->Option Value}{base:Heap}
def zfr{f:Addr}{fd:FuncData}(F:FunN K "single_ones" zb7 f fd)(T:Blt mg):FnOk P w K mg base CX0 1 f fd ["mask"] spSingles:=by
 refine F.ok scsingle_ones (by walk_at"l") (λcdv A outer s H vs Q E hr h=>?_)
 .obtain⟨n,rfl,hn,k⟩:=h
  refine⟨_,(zab (ps_L 1 scsingle_ones.nd (zaA zad))
   (zab (zdS PassesOwn.never (zas zgZ (pv 0) zae (zav _)) (zab (ps_L 2 scsingle_ones.nd (zak zaR (pv 0) (zak zbG (pv 0) zae)))
   (zab (zau (zch PySem.F.plainAttrs_list PySem.F.slot_list_append PySem.F.type_list_append zaS (pv 1) (zaa (zak zbG (pv 0) (pv 2)) zad)))
   (zaf (ps_L 0 scsingle_ones.nd (pv 2))))))
   (zaf (zap (pv 1))))),?rd⟩
  refine{by show 0<=sizeLine;decide,λl hl=>?_}
  refine zdR (λU H2=>∃(m:Nat) (r:Option V) (d:List Nat),U=[some (.int (m:Int)),some (.ref l),r]/\m<2 ^ 64/\Same H H2/\H2 l=some (.lst (vN d))/\d++sgl m=sgl n) (λU _=>match U with|some (.int i)::_=>i.toNat|_=>0)
   {n,none,[],O,hn,zag hl,zac,O} ?_ ?_
  .rintro U H2 ⟨m,r,d,rfl,hm,hs,hL,hd⟩
   walk_at"vc"
   refine ite2 (λh1=>?_) (λh1=>?_)
   .have h1:0<m:=by have:=XaK h1;omega
    obtain⟨s1,s2⟩:=zkv m h1
    have e1:((m:Int)-1)=((m-1:Nat):Int):=by omega
    walk_at"vc"
    have hlen:(vN d).length<sizeLine:=by
     have h2:=congrArg List.length hd
     rw[Xam,zbN,zbN] at h2
     have h3:=zfp 64 n hn
     rw[zan];exact zcU (by omega)
    refine{.inl {O,_,SqL.of hL},?_}
    walk_at"vc"
    refine{l,_,_,O,O,hL,hlen,?_}
    walk_at"vc"
    have e2:Builtin.bitAnd (m:Int) ((m:Int)-1)=((m &&& (m-1):Nat):Int):=by rw[e1,band]
    have e3:(m:Int)-Builtin.bitAnd (m:Int) ((m:Int)-1)=((m-(m &&& (m-1)):Nat):Int):=by rw[e2];omega
    refine{{m &&& (m-1),some (.int ((m &&& (m-1):Nat):Int)),d++[m-(m &&& (m-1))],?_,by omega,λb o e=>?_,?_,?_},?_}
    .show List.set (List.set _ _ _) _ _=_
     simp only[List.set]
     rw[e2]
    .rw[zah (zai e hl)];exact hs b o e
    .rw[zac,zb5,<- e3]
    .rw[<- hd,s2];simp
    .show(Builtin.bitAnd (m:Int) ((m:Int)-1)).toNat<((m:Nat):Int).toNat
     rw[e2];simpa using s1
   .have h1:m=0:=by have:=h1;simp at this;omega
    subst h1
    walk_at"vc"
    rw[zcV,Xbm] at hd
    subst hd
    exact k l H2 hl hL hs
  .rintro U H2 Q1 Q2 hq h
   obtain⟨v,e,i,j,e1,e2,c,e3,h⟩:=h
   exact{v,e,i,j,e1,e2,c,e3,hq _ _ h}
abbrev ze6:Stmt:=top 12
def ziW:FnScope ["mask"] ["mask"] (zaj ze6):=sck O O O (by decide +kernel)
def zjo{f:Addr}{fd:FuncData}(F:FunN K "ones_of" ze6 f fd)(T:Blt mg)(Gsingle_ones:Cal P w K mg base 1 "single_ones" ["mask"] spSingles):FnOk P w K mg base CX0 2 f fd ["mask"] spOnes:=by
 refine F.ok ziW (by walk_at"l") (λcdv A outer s H vs Q E hr h=>?_)
 .obtain⟨n,rfl,hn,k⟩:=h
  refine{_,(zaf (zap (zao zar (by rfl) T.len PySem.boot_len (zaa (pe_c Gsingle_ones (zaa (pv 0) zad)) zad)))),?rd}
  refine{_,O,n,O,hn,λp H' hp hL hs=>?_}
  refine{p,_,O,.inl (SqL.of hL),?_}
  rw[zan,zbN]
  exact k H' hs
abbrev zd6:Stmt:=top 13
def zh3:FnScope ["mask","number"] ["mask","number"] (zaj zd6):=sck O O O (by decide +kernel)
def zif{f:Addr}{fd:FuncData}(F:FunN K "gathered" zd6 f fd)(T:Blt mg)(Gsingle_ones:Cal P w K mg base 1 "single_ones" ["mask"] spSingles):FnOk P w K mg base CX0 2 f fd ["mask","number"] (spG gath):=by
 refine F.ok zh3 (by walk_at"l") (λcdv A outer s H vs Q E hr h=>?_)
 .obtain⟨m,n,rfl,hm,k⟩:=h
  refine'{_,(zaf (zap (zao (zgp O) (by rfl) T.sum PyProof.Rows.boot_sum (zaa ?c1 zad)))),?rd}
  (case c1=>exact(zdn (Nc:=["k","single","number"]) [none,none,some 1] O (zaZ (by rfl)) (zms O T.enumerate (zaa (pe_c Gsingle_ones (zaa (pv 0) zad)) zad)) (λ_ _ _ _ _=>(zjb 2 (K:=K) O O (zam (pg_L 0 (show(["k","single","number"]:List Str).Nodup by decide +kernel)) (zam (pg_L 1 (show(["k","single","number"]:List Str).Nodup by decide +kernel)) zaP)))) (λ_ _ _ _ _=>(zhB (zi5 (K:=K) O (zak zaR (pv 2) (pv 1)) (λ_=>O)))) (λ_ _ _ _ _=>(zak zdx zae (pv 0)))))
  refine{_,O,m,O,hm,λp H1 hp hL s1=>{p,O,{_,SqL.of hL},?_}}
  have hz:(sgl m).length<=64:=by rw[zbN];exact zfp 64 m hm
  refine zj2 (K:=K) (xs:=vN (sgl m)) (λi ys U H2=>∃v1 v2 l,U=[v1,v2,some (.int (n:Int))]/\ys=vN l/\l.length<=i/\l.sum+gsm i ((sgl m).drop i) n=gath m n/\Same H1 H2) (by rw[zan];exact XbN (zcU (by omega))) {none,none,[],O,O,Xae _,by simp[zmL],Same.refl _} ?_ ?_ ?_
  .rintro i ys U H2 hi ⟨v1,v2,l,_,rfl,hl,_,s2⟩
   exact{SqL.of (s2 _ _ hL),by rw[zan];exact hl}
  .rintro i x U9 ys U H2 hi hU ⟨v1,v2,l,rfl,rfl,hl,hsum,s2⟩
   obtain⟨b,hb,rfl⟩:=ziM hi
   have hil:i<(sgl m).length:=(Xaf.mp hb).1
   refine zeW ?_
   have e1:Builtin.bitAnd (n:Int) (b:Int)=((n &&& b:Nat):Int):=band n b
   refine{_,O,_,O,_,_,O,O,_,O,?_}
   rw[zk7 n hb] at hsum
   have st:Same H1 (upd H2 U9 (.tup [.int (i:Int),.int (b:Int)])):=s2.trans (zag hU)
   by_cases h0:n &&& b=0
   .rw[if_neg (by rw[e1,h0];decide)]
    rw[if_pos h0] at hsum
    exact{_,_,l,O,O,by omega,by omega,st}
   .rw[if_pos (by rw[e1];simp only[bne_iff_ne,ne_eq];omega)]
    rw[if_neg h0] at hsum
    refine{_,O,_,_,O,O,{by omega,by omega,by decide},?_}
    refine{_,_,l++[2 ^ i],O,?_,by simp;omega,by simp;omega,st}
    rw[zb5]
    have e2:((i:Int)).toNat=i:=by omega
    have e3:(1:Int)*2 ^ ((i:Int)).toNat=((2 ^ i:Nat):Int):=by rw[e2,Int.one_mul];norm_cast
    show _=vN l++[V.int ((2 ^ i:Nat):Int)]
    rw[<- e3]
  .rintro ys U H2 ⟨v1,v2,l,rfl,rfl,hl,hsum,s2⟩ D hD
   rw[zan,List.drop_length] at hsum
   refine{D,l.map (λ(b:Nat)=>(b:Int)),O,vN_sq (SqL.of zac),?_}
   rw[sumN]
   have e:l.sum=gath m n:=by simpa[gsm] using hsum
   rw[e]
   exact k _ (s1.trans (s2.trans (zag hD)))
abbrev zc6:Stmt:=top 20
def zgM:FnScope ["thing","last"] ["thing","last"] (zaj zc6):=sck O O O (by decide +kernel)
def zg1{f:Addr}{fd:FuncData}(F:FunN K "is_number" zc6 f fd)(T:Blt mg):FnOk P w K mg base CX0 1 f fd ["thing","last"] spIsNum:=by
 refine F.ok zgM (by walk_at"l") (λcdv A outer s H vs Q E hr h=>?_)
 .obtain⟨a,b,rfl,k⟩:=h
  refine{_,(zaf (zap (zbb (zao (zaI "int" (K:=K) O) (by rfl) T.isinstance za5 (zaa (pv 0) (zaa (zaT O T.int zj8 zlz) zad))) (zbb (zlF (zao (zaI "bool" (K:=K) O) (by rfl) T.isinstance za5 (zaa (pv 0) (zaa (zaT O T.bool zfC zfh) zad)))) (zbm (zkO zh9 zh9 zae (pv 0) (pv 1))))))),?rd}
  refine{_,O,_,_,_,O,.int a,O,true,O,iteT ?_}
  refine{_,O,_,_,_,O,.int a,O,false,O,true,O,iteT ?_}
  refine{_,O,_,_,O,O,_,O,ite2 (λh=>?_) (λh=>?_)}
  .have h:=XaK h
   refine{_,O,_,_,O,O,?_}
   rw[show decide (0<=a/\a<=b)=decide (a<=b) from Xbz.mpr {λz=>z.2,λz=>⟨h,z⟩}] at k
   exact k
  .have h:¬ 0<=a:=λz=>h (Xak z)
   rw[show decide (0<=a/\a<=b)=false from Xan λz=>h z.1] at k
   exact k
abbrev ze5:Stmt:=top 34
def ziU:FnScope ["bits"] ["bits"] (zaj ze5):=sck O O O (by decide +kernel)
def zjn{f:Addr}{fd:FuncData}(F:FunN K "size_of" ze5 f fd)(T:Blt mg):FnOk P w K mg base CX0 1 f fd ["bits"] spSize:=by
 refine F.ok ziU (by walk_at"l") (λcdv A outer s H vs Q E hr h=>?_)
 .obtain⟨n,rfl,hn,k⟩:=h
  refine{_,(zaf (zap (zak zdx zae (zao (zj6 O) (by rfl) T.max PyProof.Rows.boot_max (zaa (pv 0) (zaa zae zad)))))),?rd}
  refine{_,O,_,_,O,?_}
  refine{_,_,O,O,?_,?_}
  .rw[if_neg (by omega)]
   exact{by omega,by omega,by decide}
  .have e:(1:Int)*2 ^ (if(0:Int)>(n:Int) then 0 else(n:Int)).toNat=2 ^ n:=by
    rw[if_neg (by omega),Int.one_mul,Xav]
   show Q (V.int ((1:Int)*2 ^ (if(0:Int)>(n:Int) then 0 else(n:Int)).toNat)) H
   rw[e]
   exact k
abbrev zc7:Stmt:=top 35
def zgN:FnScope ["mask","want","last"] ["mask","want","last"] (zaj zc7):=sck O O O (by decide +kernel)
inductive spChoiceV(vs:List V)(H:Hp)(Q:VK)(u3_:XK):Prop
 | mk (m v:Nat) (l:Int)(_:vs=[.int (m:Int),.int (v:Int),.int l])(_:(m:Int)<=l)(_:(v:Int)<=l)(_:v &&& m=v)(_:Q (.bl true) H)
def zg2{f:Addr}{fd:FuncData}(F:FunN K "is_choice" zc7 f fd)(T:Blt mg)(Gis_number:Cal P w K mg base 1 "is_number" ["thing","last"] spIsNum):FnOk P w K mg base CX0 2 f fd ["mask","want","last"] spChoiceV:=by
 refine F.ok zgN (by walk_at"l") (λcdv A outer s H vs Q E hr h=>?_)
 .obtain⟨m,v,l,rfl,hm,hv,hw,k⟩:=h
  refine{_,(zaf (zap (zbb (pe_c Gis_number (zaa (pv 0) (zaa (pv 2) zad))) (zbb (pe_c Gis_number (zaa (pv 1) (zaa (pv 2) zad))) (zbm (zbj zbf (zak zaR (pv 1) (pv 0)) (pv 1) (zav _))))))),?rd}
  refine{_,O,_,O,_,_,O,_,O,?_}
  rw[Xak (show 0<=(m:Int)/\(m:Int)<=l from{Int.natCast_nonneg m,hm})]
  refine iteT {_,O,_,O,_,_,O,_,O,?_}
  rw[Xak (show 0<=(v:Int)/\(v:Int)<=l from{Int.natCast_nonneg v,hv})]
  refine iteT {_,O,_,O,_,_,O,O,_,O,O,?_}
  show Q (.bl (decide (V.int (Builtin.bitAnd (v:Int) (m:Int))=V.int (v:Int)))) H
  rw[band,hw,Xak O]
  exact k
abbrev zd4:Stmt:=top 36
def scis_latch:FnScope ["thing","chip","mask","want"] ["thing"] (zaj zd4):=sck O O O (by decide +kernel)
inductive spLatchV(vs:List V)(H:Hp)(Q:VK)(u3_:XK):Prop
 | mk (t:Addr) (c a b:Nat)(_:vs=[.ref t])(_:H t=some (.tup [.int (c:Int),.int (a:Int),.int (b:Int)]))(_:c<=99)(_:a<=255)(_:b<=255)(_:b &&& a=b)(_:Q (.bl true) H)
def zid{f:Addr}{fd:FuncData}(F:FunN K "is_latch" zd4 f fd)(T:Blt mg)(N:Nums mg)(Gis_number:Cal P w K mg base 1 "is_number" ["thing","last"] spIsNum)(Gis_choice:Cal P w K mg base 2 "is_choice" ["mask","want","last"] spChoiceV):FnOk P w K mg base CX0 3 f fd ["thing"] spLatchV:=by
 refine F.ok scis_latch (by walk_at"l") (λcdv A outer s H vs Q E hr h=>?_)
 .obtain⟨t,c,a,b,rfl,e,hc,ha,hb,hw,k⟩:=h
  refine⟨_,(zab (zaB (PW.pt (zbX (zaO (zaG (zao (zaI "tuple" (K:=K) O) (by rfl) T.isinstance za5 (zaa (pv 0) (zaa (zaT O T.tuple zbq zco) zad))))) (zby (zas zh8 (zao zar (by rfl) T.len PySem.boot_len (zaa (pv 0) zad)) zae (zav _))))) (zaf (zap zcX)) zaq)
   (zab (zbl (pv 0) (zba O (zam (pg_L 1 scis_latch.nd) (zam (pg_L 2 scis_latch.nd) (zam (pg_L 3 scis_latch.nd) zaP)))))
   (zaf (zap (zbb (pe_c Gis_number (zaa (pv 1) (zaa (zbn O N.LAST_CHIP) zad))) (zbm (pe_c Gis_choice (zaa (pv 2) (zaa (pv 3) (zaa (zbn O N.LAST_WORD) zad)))))))))),?rd⟩
  refine{_,O,_,_,_,O,.tup e,O,_,O,iteF {_,O,t,_,O,.inr (SqT.of e),O,_,O,iteF ?_}}
  refine{_,O,t,_,O,SqT.of e,O,_,_,O,_,_,O,_,_,O,O,?_}
  refine{_,O,_,_,O,_,O,?_}
  rw[Xak (show 0<=(c:Int)/\(c:Int)<=99 by omega)]
  exact iteT {_,O,_,O,a,b,255,O,by omega,by omega,hw,k}
abbrev zgJ:Stmt:=top 37
def scis_row:FnScope ["bits","thing","mask","want","inner","chip","latch","last"] ["bits","thing"] (zaj zgJ):=sck O O O (by decide +kernel)
inductive spRowV(vs:List V)(H:Hp)(Q:VK)(u3_:XK):Prop
 | mk (t:Addr) (r:Rw) (n:Nat)(_:vs=[.int (n:Int),.ref t])(_:RwAt H t r)(_:RwOk n r)(_:n<=16)(_:Q (.bl true) H)
def zkS{f:Addr}{fd:FuncData}(F:FunN K "is_row" zgJ f fd)(T:Blt mg)(N:Nums mg)(Gis_number:Cal P w K mg base 1 "is_number" ["thing","last"] spIsNum)(Gsize_of:Cal P w K mg base 1 "size_of" ["bits"] spSize)(Gis_choice:Cal P w K mg base 2 "is_choice" ["mask","want","last"] spChoiceV)(Gis_latch:Cal P w K mg base 3 "is_latch" ["thing"] spLatchV):FnOk P w K mg base CX0 4 f fd ["bits","thing"] spRowV:=by
 refine F.ok scis_row (by walk_at"l") (λcdv A outer s H vs Q E hr h=>?_)
 .obtain⟨t,r,n,rfl,⟨lt,e,hl⟩,o,hn,k⟩:=h
  have h1:∀z:Nat,z<2 ^ n->(z:Int)<=2 ^ n-1:=λz hz=>by
   have:((2 ^ n:Nat):Int)=(2:Int) ^ n:=by norm_cast
   omega
  refine⟨_,(zab (zaB (PW.pt (zbX (zaO (zaG (zao (zaI "tuple" (K:=K) O) (by rfl) T.isinstance za5 (zaa (pv 1) (zaa (zaT O T.tuple zbq zco) zad))))) (zby (zas zh8 (zao zar (by rfl) T.len PySem.boot_len (zaa (pv 1) zad)) zae (zav _))))) (zaf (zap zcX)) zaq)
   (zab (zbl (pv 1) (zba O (zam (pg_L 2 scis_row.nd) (zam (pg_L 3 scis_row.nd) (zam (pg_L 4 scis_row.nd) (zam (pg_L 5 scis_row.nd) (zam (pg_L 6 scis_row.nd) zaP)))))))
   (zab (ps_L 7 scis_row.nd (zak zbG (pe_c Gsize_of (zaa (pv 0) zad)) zae))
   (zab (zaB (PW.pt (zbX (zaO (zaG (pe_c Gis_choice (zaa (pv 2) (zaa (pv 3) (zaa (pv 7) zad)))))) (zbX (zaO (zaG (pe_c Gis_number (zaa (pv 4) (zaa (pv 7) zad))))) (zby (zas zh8 (zak zaR (pv 4) (pv 2)) zae (zav _)))))) (zaf (zap zcX)) zaq)
   (zaf (zap (zbb (pe_c Gis_number (zaa (pv 5) (zaa (zbn O N.LAST_CHIP) zad))) (zbm (pe_or (zfT (zb4 (pv 6))) (zbm (pe_c Gis_latch (zaa (pv 6) zad)))))))))))),?rd⟩
  refine{_,O,_,_,_,O,.tup e,O,_,O,iteF {_,O,t,_,O,.inr (SqT.of e),O,_,O,iteF ?_}}
  refine{_,O,t,_,O,SqT.of e,O,_,_,O,_,_,O,_,_,O,_,_,O,_,_,O,O,?_}
  refine{_,O,n,O,hn,_,_,O,O,?_}
  refine{_,O,_,O,_,O,r.m,r.w,_,O,h1 _ o.m0,h1 _ o.w0,o.wm,_,O,iteF {_,O,_,O,_,_,O,_,O,?_}}
  rw[Xak (show 0<=(r.i:Int)/\(r.i:Int)<=2 ^ n-1 from{Int.natCast_nonneg _,h1 _ o.i0})]
  refine iteF {_,O,_,O,_,_,O,O,O,_,O,?_}
  refine ite2 (λz=>?_) (λ_=>zat ?_)
  .exfalso
   have z:(!decide (V.int (Builtin.bitAnd (r.i:Int) (r.m:Int))=V.int 0))=true:=z
   rw[band,o.im] at z
   cases z
  try dsimp only
  refine{_,O,_,_,O,_,O,?_}
  rw[Xak (show 0<=(r.c:Int)/\(r.c:Int)<=99 by have:=o.c0;omega)]
  refine iteT ?_
  have ol:=o.l0
  cases hr':r.l with
  | none =>
   rw[hr'] at hl
   rw[show lt=.non from hl]
   exact{_,O,_,O,iteT k}
  | some z =>
   rw[hr'] at hl ol
   obtain⟨c,a,b⟩:=z
   obtain⟨u,rfl,eu⟩:=hl
   exact{_,O,_,O,iteF {_,O,u,c,a,b,O,eu,Nat.le_of_lt_succ ol.1,Nat.le_of_lt_succ ol.2.1,Nat.le_of_lt_succ (XaP (ol.2.2▸Xbk) ol.2.1),ol.2.2,k}}
abbrev zgK:Stmt:=top 38
def zkA:FnScope ["bits","thing"] ["bits","thing"] (zaj zgK):=sck O O O (by decide +kernel)
inductive spMapV(vs:List V)(H:Hp)(Q:VK)(u3_:XK):Prop
 | mk (m:Nat) (R:Addr) (ws:List (Addr×Rw))(_:vs=[.int (m:Int),.ref R])(_:H R=some (.tup (refs ws)))(_:RwsAt2 m H ws)(_:ws.length<=300)(_:m<=16)(_:∀H',Same H H'->Q (.bl true) H')
def zkT{f:Addr}{fd:FuncData}(F:FunN K "is_map" zgK f fd)(T:Blt mg)(Gis_row:Cal P w K mg base 4 "is_row" ["bits","thing"] spRowV):FnOk P w K mg base CX0 5 f fd ["bits","thing"] spMapV:=by
 refine F.ok zkA (by walk_at"l") (λcdv A outer s H vs Q E hr h=>?_)
 .obtain⟨m,R,ws,rfl,e,hw,hl,hm,k⟩:=h
  refine'{_,(zaf (zap (zbb (zao (zaI "tuple" (K:=K) O) (by rfl) T.isinstance za5 (zaa (pv 1) (zaa (zaT O T.tuple zbq zco) zad))) (zbm (zao (zeC O) (by rfl) T.all zj9 (zaa ?c1 zad)))))),?rd}
  (case c1=>exact(zdn (Nc:=["row","bits"]) [none,some 0] O (zaZ (by rfl)) (zlE (pv 1)) (λ_ _ _ _ _=>(pg_L 0 (show(["row","bits"]:List Str).Nodup by decide +kernel))) (λ_ _ _ _ _=>zeR) (λ_ _ _ _ _=>(pe_c Gis_row (zaa (pv 1) (zaa (pv 0) zad))))))
  refine{_,O,_,_,_,O,.tup e,O,_,O,iteT {_,O,R,O,{_,SqT.of e},?_}}
  refine zlh (K:=K) (xs:=refs ws) (λj rs U H1=>∃v0,U=[v0,some (.int (m:Int))]/\rs=(ws.take j).map (λ_=>V.bl true)/\Same H H1) (Xar (show _<=300 by rw[zaw];exact hl) (by decide)) {none,O,O,Same.refl _} ?_ ?_ ?_
  .rintro j rs U H1 hj ⟨v0,rfl,rfl,s1⟩
   exact{SqT.of (s1 _ _ e),by rw[Xag,Xa6];exact Nat.min_le_left _ _}
  .rintro j x rs U H1 hx ⟨v0,rfl,rfl,s1⟩
   obtain⟨z,hz,rfl⟩:=zbW hx
   obtain⟨z1,z2⟩:=hw z (Xas hz)
   refine{_,O,_,O,z.1,z.2,m,O,z1.same s1,z2,hm,{_,O,?_,s1}}
   rw[List.take_succ,hz,XaD]
   rfl
  .rintro rs U H1 ⟨v0,rfl,rfl,s1⟩ Dd hD
   refine{Dd,ws.map (λ_=>true),O,SqL.of (by rw[zaw,Xa7 (Xae _),Xa5];exact zac),?_}
   have e2:(ws.map (λ_=>true)).all id=true:=by rw[List.all_map];exact XbQ.mpr λ_ _=>O
   rw[e2]
   exact k _ (s1.trans (zag hD))
abbrev ziT:Stmt:=top 39
def zmh:FnScope ["row","address"] ["row","address"] (zaj ziT):=sck O O O (by decide +kernel)
def zmC{f:Addr}{fd:FuncData}(F:FunN K "meets" ziT f fd)(T:Blt mg):FnOk P w K mg base CX0 1 f fd ["row","address"] spMeet:=by
 refine F.ok zmh (by walk_at"l") (λcdv A outer s H vs Q E hr h=>?_)
 .obtain⟨t,r,x,rfl,⟨lt,et,hlt⟩,k⟩:=h
  refine{_,(zaf (zap (zbj zbf (zak zaR (pv 1) (pe_x zaz (pv 0) zae)) (pe_x zaz (pv 0) zae) (zav _)))),?rd}
  refine{_,O,_,O,t,_,_,_,O,O,SqT.of et,O,_,_,O,O,_,O,t,_,_,_,O,O,SqT.of et,O,O,?_}
  have e:decide (V.int (Builtin.bitAnd (x:Int) (r.m:Int))=V.int (r.w:Int))=met r x:=by
   rw[band]
   unfold met
   by_cases h:x &&& r.m=r.w
   .rw[Xak h,h];exact Xak O
   .rw[Xan h];exact Xan λz=>h (by injection z with z;exact Int.ofNat.inj z)
  rw[<- e] at k
  exact k
abbrev zfc:Stmt:=top 40
def ziY:FnScope ["row","address"] ["row","address"] (zaj zfc):=sck O O O (by decide +kernel)
def zjq{f:Addr}{fd:FuncData}(F:FunN K "cell_at" zfc f fd)(T:Blt mg)(Ggathered:Cal P w K mg base 2 "gathered" ["mask","number"] (spG gath)):FnOk P w K mg base CX0 3 f fd ["row","address"] spCellR:=by
 refine F.ok ziY (by walk_at"l") (λcdv A outer s H vs Q E hr h=>?_)
 .obtain⟨t,r,a,rfl,⟨lt,et,_⟩,hi,k⟩:=h
  refine{_,(zaf (zap (pe_c Ggathered (zaa (pe_x zaz (pv 0) zae) (zaa (pv 1) zad))))),?rd}
  exact{_,O,t,_,_,_,O,O,SqT.of et,O,_,O,r.i,a,O,hi,λH' s'=>k H' s'}
abbrev zbI:Stmt:=top 42
def zd9:FnScope ["mask","want","other_mask","other_want"] ["mask","want","other_mask","other_want"] (zaj zbI):=sck O O O (by decide +kernel)
def zel{f:Addr}{fd:FuncData}(F:FunN K "choices_agree" zbI f fd)(T:Blt mg):FnOk P w K mg base CX0 1 f fd ["mask","want","other_mask","other_want"] spAgr:=by
 refine F.ok zd9 (by walk_at"l") (λcdv A outer s H vs Q E hr h=>?_)
 .obtain⟨m,x,n,v,rfl,k⟩:=h
  refine{_,(zaf (zap (zbj zbf (zak zaR (zak zaR (zak zhG (pv 1) (pv 3)) (pv 0)) (pv 2)) zae (zav _)))),?rd}
  refine{_,O,_,O,_,_,O,O,_,O,_,_,O,O,_,O,_,_,O,O,O,?_}
  have e:decide (V.int (Builtin.bitAnd (Builtin.bitAnd (Builtin.bitXor (x:Int) (v:Int)) (m:Int)) (n:Int))=V.int 0)=agr m x n v:=by
   rw[bxor,band,band]
   unfold agr
   exact Xbz.mpr {λh=>by have:=V.int.inj h;omega,λh=>by rw[h];rfl}
  exact Eq.mpr (congrArg (λb=>Q (V.bl b) H) e) k
abbrev zbH:Stmt:=top 43
def zd7:FnScope ["latch","other"] ["latch","other"] (zaj zbH):=sck O O O (by decide +kernel)
def zek{f:Addr}{fd:FuncData}(F:FunN K "latches_agree" zbH f fd)(T:Blt mg)(Gchoices_agree:Cal P w K mg base 1 "choices_agree" ["mask","want","other_mask","other_want"] spAgr):FnOk P w K mg base CX0 2 f fd ["latch","other"] spLatA:=by
 refine F.ok zd7 (by walk_at"l") (λcdv A outer s H vs Q E hr h=>?_)
 .obtain⟨x,y,o,p,rfl,hx,hy,k⟩:=h
  refine⟨_,(zab (zaB (PW.pt (zbX (zbz (zb4 (pv 0))) (zbX (zbz (zb4 (pv 1))) (zby (zas zh8 (pe_x zaz (pv 0) zae) (pe_x zaz (pv 1) zae) (zav _)))))) (zaf (zap zcX)) zaq)
   (zaf (zap (pe_c Gchoices_agree (zaa (pe_x zaz (pv 0) zae) (zaa (pe_x zaz (pv 0) zae) (zaa (pe_x zaz (pv 1) zae) (zaa (pe_x zaz (pv 1) zae) zad)))))))),?rd⟩
  cases o with
  | none =>
   obtain rfl:x=.non:=hx
   exact{_,O,_,O,iteT (iteT k)}
  | some o =>
   obtain⟨c,a,b⟩:=o
   obtain⟨u,rfl,eu⟩:=hx
   refine{_,O,_,O,iteF ?_}
   cases p with
   | none =>
    obtain rfl:y=.non:=hy
    exact{_,O,_,O,iteT (iteT k)}
   | some p =>
    obtain⟨d,x',y'⟩:=p
    obtain⟨u',rfl,eu'⟩:=hy
    refine{_,O,_,O,iteF ?_}
    refine{_,O,u,_,_,_,O,O,SqT.of eu,O,_,O,u',_,_,_,O,O,SqT.of eu',O,O,_,O,?_}
    by_cases h:c=d
    .subst h
     rw[show(!decide (V.int (c:Int)=V.int (c:Int)))=false by simp]
     refine iteF ?_
     refine{_,O,u,_,_,_,O,O,SqT.of eu,O,_,O,u,_,_,_,O,O,SqT.of eu,O,_,O,u',_,_,_,O,O,SqT.of eu',O,_,O,u',_,_,_,O,O,SqT.of eu',O,a,b,x',y',O,?_}
     rw[show latA (some (c,a,b)) (some (c,x',y'))=agr a b x' y' from if_pos O] at k
     exact k
    .rw[show(!decide (V.int (c:Int)=V.int (d:Int)))=true by simp;omega]
     rw[show latA (some (c,a,b)) (some (d,x',y'))=true from if_neg h] at k
     exact iteT k
abbrev zcy:Stmt:=top 44
def zfM:FnScope ["row","other"] ["row","other"] (zaj zcy):=sck O O O (by decide +kernel)
def zfW{f:Addr}{fd:FuncData}(F:FunN K "rows_clash" zcy f fd)(T:Blt mg)(Gchoices_agree:Cal P w K mg base 1 "choices_agree" ["mask","want","other_mask","other_want"] spAgr)(Glatches_agree:Cal P w K mg base 2 "latches_agree" ["latch","other"] spLatA):FnOk P w K mg base CX0 3 f fd ["row","other"] spClash:=by
 refine F.ok zfM (by walk_at"l") (λcdv A outer s H vs Q E hr h=>?_)
 .obtain⟨t,u,r,q,rfl,⟨lt,et,hl⟩,⟨lu,eu,hk⟩,k⟩:=h
  refine{_,(zaf (zap (zbb (pe_c Gchoices_agree (zaa (pe_x zaz (pv 0) zae) (zaa (pe_x zaz (pv 0) zae) (zaa (pe_x zaz (pv 1) zae) (zaa (pe_x zaz (pv 1) zae) zad))))) (zbm (pe_c Glatches_agree (zaa (pe_x zaz (pv 0) zae) (zaa (pe_x zaz (pv 1) zae) zad))))))),?rd}
  refine{_,O,t,_,_,_,O,O,SqT.of et,O,_,O,t,_,_,_,O,O,SqT.of et,O,_,O,u,_,_,_,O,O,SqT.of eu,O,_,O,u,_,_,_,O,O,SqT.of eu,O,r.m,r.w,q.m,q.w,O,_,O,?_}
  unfold za9 at k
  cases h:agr r.m r.w q.m q.w with
  | false =>
   rw[h] at k
   exact iteF k
  | true =>
   rw[h] at k
   exact iteT {_,O,t,_,_,_,O,O,SqT.of et,O,_,O,u,_,_,_,O,O,SqT.of eu,O,lt,lu,r.l,q.l,O,hl,hk,k}
abbrev zd8:Stmt:=top 46
def scclash_of:FnScope ["rows","found","second","other","first","row","address"] ["rows"] (zaj zd8):=sck O O O (by decide +kernel)
inductive spClashV(vs:List V)(H:Hp)(Q:VK)(u3_:XK):Prop
 | mk (m:Nat) (R:Addr) (ws:List (Addr×Rw))(_:vs=[.ref R])(_:H R=some (.tup (refs ws)))(_:RwsAt2 m H ws)(_:(ws.Pairwise λa b=>NC a.2 b.2))(_:ws.length<=300)(_:∀H',Same H H'->Q .non H')
set_option tactic.hygienic true in
def zig{f:Addr}{fd:FuncData}(F:FunN K "clash_of" zd8 f fd)(T:Blt mg)(Grows_clash:Cal P w K mg base 3 "rows_clash" ["row","other"] spClash):FnOk P w K mg base CX0 4 f fd ["rows"] spClashV:=by
 refine F.ok scclash_of (by walk_at"l") (λcdv A outer s H vs Q E hr h=>?_)
 .obtain⟨m,p,ws,rfl,hp,hw,nc,hl,k⟩:=h
  refine⟨_,(zab (ps_L 1 scclash_of.nd (zaA zad))
   (zab (zbE PassesOwn.never O (zdT O T.enumerate (zaa (pv 0) zad)) (zba O (zam (pg_L 2 scclash_of.nd) (zam (pg_L 3 scclash_of.nd) zaP)))
   (zaf (zbE PassesOwn.never O (zdT O T.enumerate (zaa (zbF (zgI (K:=K) O) (pv 0) zei (zbi (pv 2))) zad)) (zba O (zam (pg_L 4 scclash_of.nd) (zam (pg_L 5 scclash_of.nd) zaP)))
   (zaf (zaB (zaG (pe_c Grows_clash (zaa (pv 5) (zaa (pv 3) zad)))) (zaf zaK) zaq)))))
   (zab (zaB (zaO (zfk (pv 1) (λ_=>O))) (zaf (zap zeS)) zaq)
   (zab zaK
   (zaf zaK))))),?rd⟩
  refine{by show 0<=sizeLine;decide,λfa hfa=>?_}
  refine{_,O,p,O,{_,SqT.of (zag hfa _ _ hp)},?_}
  refine zc1 (K:=K) (a:=p) (xs:=refs ws) (λj U X=>∃(v2 v3 v4 v5:Option V),U=[some (.ref p),some (.ref fa),v2,v3,v4,v5,none]/\X fa=some (.lst [])/\Same H X)
   {none,none,none,none,O,zac,zag hfa} (λi U X hi ⟨_,_,_,_,_,_,s⟩=>SqT.of (s _ _ hp)) ?_ ?_
  .rintro j x T0 U X hx hT0 ⟨v2,v3,v4,v5,rfl,efa,sX⟩
   obtain⟨q,hq,rfl⟩:=zbW hx
   obtain⟨hj,ej⟩:=Xaf.mp hq
   refine zeW ?_
   have sT:Same H (upd X T0 (.tup [.int (j:Int),.ref q.1])):=sX.trans (zag hT0)
   refine{_,O,_,O,_,O,p,_,O,SqT.of (sT _ _ hp),λz=>?_,λu hu=>?_}
   .exfalso
    rw[zhQ (by rw[zaw];omega)] at z
    have:=congrArg List.length z
    rw[Xa6,zaw] at this
    omega
   have ecut:cutV (refs ws) none (some (j:Int))=refs (ws.take j):=by rw[zhQ (by rw[zaw];omega)];exact(List.map_take ..).symm
   refine{u,O,{_,SqT.of zac},?_}
   rw[ecut] at *
   have sU:Same X (upd (upd X T0 (.tup [.int (j:Int),.ref q.1])) u (.tup (refs (ws.take j)))):=(zag hT0).trans (zag hu)
   refine zc1 (K:=K) (a:=u) (xs:=refs (ws.take j)) (λi U Y=>∃(v4 v5:Option V),U=[some (.ref p),some (.ref fa),some (.int (j:Int)),some (.ref q.1),v4,v5,none]/\Y fa=some (.lst [])/\Y u=some (.tup (refs (ws.take j)))/\Same H Y)
    {v4,v5,O,sU _ _ efa,zac,sX.trans sU} (λi U Y hi ⟨_,_,_,_,e,_⟩=>SqT.of e) ?_ ?_
   .rintro i y T1 U Y hy hT1 ⟨v4,v5,rfl,efa,eu,sY⟩
    obtain⟨r,hr',rfl⟩:=zbW hy
    rw[List.getElem?_take] at hr'
    split at hr'
    .rename_i hij
     obtain⟨hi,ei⟩:=Xaf.mp hr'
     have c:za9 r.2 q.2=false:=by
      have:=(XaE.mp nc i j hi hj hij).1
      rw[ei,ej] at this
      exact this
     refine zeW ?_
     have s1:Same Y (upd Y T1 (.tup [.int (i:Int),.ref r.1])):=zag hT1
     have s2:=sY.trans s1
     refine{_,O,_,O,r.1,q.1,r.2,q.2,O,(hw r (Xas hr')).1.same s2,(hw q (Xas hq)).1.same s2,_,O,?_}
     rw[c]
     exact iteF {_,_,O,s1 _ _ efa,s1 _ _ eu,s2}
    .cases hr'
   .rintro U Y ⟨v4,v5,rfl,efa,eu,sY⟩
    exact{_,_,_,_,O,efa,sY}
  .rintro U X ⟨v2,v3,v4,v5,rfl,efa,sX⟩
   exact{_,O,_,.inl {_,SqL.of efa,O},iteT (k X sX)}
abbrev zd5:Stmt:=top 47
def scis_awake:FnScope ["row","words","latch","chip","mask","want"] ["row","words"] (zaj zd5):=sck O O O (by decide +kernel)
def zie{f:Addr}{fd:FuncData}(F:FunN K "is_awake" zd5 f fd)(T:Blt mg):FnOk P w K mg base CX0 1 f fd ["row","words"] spAwake:=by
 refine F.ok scis_awake (by walk_at"l") (λcdv A outer s H vs Q E hr h=>?_)
 .obtain⟨t,d,r,keys,g,rfl,⟨lt,et,hlt⟩,ed,k⟩:=h
  refine⟨_,(zab (ps_L 2 scis_awake.nd (pe_x zaz (pv 0) zae))
   (zab (zaB (zbz (zb4 (pv 2))) (zaf (zap zcX)) zaq)
   (zab (zbl (pv 2) (zba O (zam (pg_L 3 scis_awake.nd) (zam (pg_L 4 scis_awake.nd) (zam (pg_L 5 scis_awake.nd) zaP)))))
   (zaf (zap (zbj zbf (zak zaR (zkN (zdQ hr) (pv 1) (pv 3) zae ⟨O,O,O,O⟩) (pv 4)) (pv 5) (zav _))))))),?rd⟩
  refine{_,O,t,_,_,_,O,O,SqT.of et,O,?_}
  cases hl:r.l with
  | none =>
   rw[hl] at hlt
   obtain rfl:lt=.non:=hlt
   refine{_,O,_,O,iteT ?_}
   rw[show awk r (wrd keys g)=true by unfold awk;rw[hl]] at k
   exact k
  | some o =>
   obtain⟨c,a,b⟩:=o
   rw[hl] at hlt
   obtain⟨lp,rfl,elp⟩:=hlt
   refine{_,O,_,O,iteF ?_}
   refine{_,O,lp,_,O,SqT.of elp,O,_,_,O,_,_,O,_,_,O,O,?_}
   refine{_,O,d,O,.inl {_,.inl ed},_,O,_,DGet.k (k:=Sum.inl (c:Int)) ed,?_}
   rw[dV_get]
   refine{_,O,_,_,O,O,_,O,O,?_}
   rw[<- awk_eq hl] at k
   exact k
abbrev zdb:Stmt:=top 48
def scanswering:FnScope ["rows","address","words","number","row"] ["rows","address","words"] (zaj zdb):=sck O O O (by decide +kernel)
def zg4{f:Addr}{fd:FuncData}(F:FunN K "answering" zdb f fd)(T:Blt mg)(Gmeets:Cal P w K mg base 1 "meets" ["row","address"] spMeet)(Gis_awake:Cal P w K mg base 1 "is_awake" ["row","words"] spAwake):FnOk P w K mg base CX0 2 f fd ["rows","address","words"] spAnsw:=by
 refine F.ok scanswering (by walk_at"l") (λcdv A outer s H vs Q E hr h=>?_)
 .obtain⟨p,d,x,ws,keys,g,rfl,hp,hws,ed,k⟩:=h
  refine⟨_,(zab (zbE PassesOwn.never O (zdT O T.enumerate (zaa (pv 0) zad)) (zba O (zam (pg_L 3 scanswering.nd) (zam (pg_L 4 scanswering.nd) zaP)))
   (zaf (zaB (PW.pt (zhz (zaG (pe_c Gmeets (zaa (pv 4) (zaa (pv 1) zad)))) (zfj (zaG (pe_c Gis_awake (zaa (pv 4) (zaa (pv 2) zad))))))) (zaf (zap (pv 3))) zaq)))
   (zaf (zap zeS))),?rd⟩
  refine{_,O,p,O,{_,SqT.of hp},?_}
  refine zc1 (K:=K) (a:=p) (xs:=refs ws) (λi U X=>∃(v3 v4:Option V),U=[some (.ref p),some (.int (x:Int)),some (.ref d),v3,v4]/\(∀(j:Nat) (q:Rw),j<i->(ws.map (·.2))[j]?=some q->ans q x (wrd keys g)=false)/\Same H X) {_,_,O,(λj q hj=>absurd hj (Xbn _)),Same.refl _} (λi U X hi ⟨_,_,_,_,s⟩=>SqT.of (s _ _ hp)) ?_ ?_
  .rintro i y U9 U X hy hU ⟨v3,v4,rfl,hb,sX⟩
   obtain⟨z,hz,rfl⟩:=zbW hy
   have sU:=sX.trans (zag (o:=.tup [.int (i:Int),.ref z.1]) hU)
   have rwz:=(hws z (Xas hz)).same sU
   have hzi:(ws.map (·.2))[i]?=some z.2:=by rw[Xao,hz];rfl
   have next:ans z.2 x (wrd keys g)=false->∃(v3 v4:Option V),[some (.ref p),some (.int (x:Int)),some (.ref d),some (.int (i:Int)),some (.ref z.1)]=[some (.ref p),some (.int (x:Int)),some (.ref d),v3,v4]/\(∀(j:Nat) (q:Rw),j<i+1->(ws.map (·.2))[j]?=some q->ans q x (wrd keys g)=false)/\Same H (upd X U9 (.tup [.int (i:Int),.ref z.1])):=λhn=>⟨_,_,O,λj q hj hq=>by
    rcases(show j<i\/j=i by omega) with e|e
    .exact hb j q e hq
    .rw[e,hzi] at hq;cases hq;exact hn,sU⟩
   refine zeW ?_
   refine{_,O,_,O,z.1,z.2,x,O,rwz,_,O,ite2 (λh1=>?_) (λh1=>?_)}
   .refine{_,O,_,O,z.1,d,z.2,keys,g,O,rwz,sU _ _ ed,_,O,ite2 (λh2=>?_) (λh2=>?_)}
    .refine{_,O,?_}
     have:=k _ sU
     rw[zjM hzi (by unfold ans;rw[h1,h2];rfl) hb] at this
     exact this
    .exact next (by unfold ans;rw[Bool.eq_false_iff.mpr h2,XbM])
   .exact iteF (next (by unfold ans;rw[Bool.eq_false_iff.mpr h1,Bool.false_and]))
  .rintro U X ⟨v3,v4,rfl,hb,sX⟩
   have:=k X sX
   rw[zaw] at hb
   rw[zjN (λr hr'=>by
    obtain⟨j,hj⟩:=Xbr.mp hr'
    exact hb j r (by have:=(Xaf.mp hj).1;rw[Xag] at this;exact this) hj)] at this
   exact this
abbrev ze9:Stmt:=top 21
def ziX:FnScope ["thing"] ["thing"] (zaj ze9):=sck O O O (by decide +kernel)
def zjp{f:Addr}{fd:FuncData}(F:FunN K "is_word" ze9 f fd)(T:Blt mg)(N:Nums mg)(Gis_number:Cal P w K mg base 1 "is_number" ["thing","last"] spIsNum):FnOk P w K mg base CX0 2 f fd ["thing"] spIsWord:=by
 refine F.ok ziX (by walk_at"l") (λcdv A outer s H vs Q E hr h=>?_)
 .obtain⟨a,rfl,k⟩:=h
  refine{_,(zaf (zap (pe_c Gis_number (zaa (pv 0) (zaa (zbn O N.LAST_WORD) zad))))),?rd}
  exact{_,O,a,255,O,k}
abbrev zcz:Stmt:=top 22
def zfN:FnScope ["word"] ["word"] (zaj zcz):=sck O O O (by decide +kernel)
def zfX{f:Addr}{fd:FuncData}(F:FunN K "check_word" zcz f fd)(T:Blt mg)(Gis_word:Cal P w K mg base 2 "is_word" ["thing"] spIsWord):FnOk P w K mg base CX0 3 f fd ["word"] spChkWord:=by
 refine F.ok zfN (by walk_at"l") (λcdv A outer s H vs Q E hr h=>?_)
 .obtain⟨a,rfl,h0,h1,k⟩:=h
  refine{_,(zaf (zaB (zaO (zaG (pe_c Gis_word (zaa (pv 0) zad)))) (zaf zaK) zaq)),?rd}
  refine{_,O,a,O,_,O,zhl ⟨h0,h1⟩ k}
abbrev zbK:Stmt:=zay (top 26) 0
def zeb:FnScope ["self","head","held"] ["self","head","held"] (zaj zbK):=sck O O O (by decide +kernel)
def zen{f:Addr}{fd:FuncData}(F:Fun K "__init__" "Chip.__init__" zbK f fd)(T:Blt mg):FnOk P w K mg base CX0 1 f fd ["self","head","held"] (spInit K):=by
 refine F.ok zeb (by walk_at"l") (λcdv A outer s H vs Q E hr h=>?_)
 .obtain⟨a,C,dx,p,hd,rfl,ha,c,k⟩:=h
  refine⟨_,(zab (zbk (pv 0) (pv 1) O)
   (zaf (zbk (pv 0) (pv 2) O))),?rd⟩
  refine{_,O,_,O,a,C,dx,_,O,ha,c.cl,c.head,by show 0<1000;decide,?_}
  refine{_,O,_,O,a,C,dx,_,O,zac,c.cl,c.held,by show 1<1000;decide,?_}
  exact k _ zac λb hb=>by rw[zah hb,zah hb]
abbrev zcB:Stmt:=top 16
def scby_figures:FnScope ["number","many","text","place"] ["number","many"] (zaj zcB):=sck O O O (by decide +kernel)
def FIG:Str := "0123456789abcdef"
def figc(k:Nat):Nat:=(FIG.cps.toList[k]?).getD 0
def fig2(n:Nat):Str:=({#[figc (n / 16)]}:Str)++({#[figc (n % 16)]}:Str)
def phead(r:Nat):Str:=Str.empty++("pipe " : Str)++fig2 r
def zlO{k:Nat}(h:k<16):atI FIG.cps.toList (k:Int)=some (figc k):=by
 have e:FIG.cps.toList.length=16:=by decide
 refine zaF ?_
 unfold figc
 rw[Xah (by omega)]
 rfl
structure ObP(C:Addr)(H:Hp)(a p:Addr)(r:Nat)(ws:List Nat):Prop where
 ex:∃dx,H a=some (.ins C dx [("head",.str (phead r)),("held",.ref p),("room",.int (r:Int))])
 ls:H p=some (.lst (vN ws))
def ObP.ob{C:Addr}{H:Hp}{a p:Addr}{r:Nat}{ws:List Nat}(o:ObP C H a p r ws):Ob C H a p (vN ws) [("room",.int (r:Int))]:=by
 obtain⟨⟨dx,e⟩,l⟩:=o
 exact{{dx,_,e},l,.inr {_,O}}
def two(_:List V):Nat:=2
inductive sp2fig(vs:List V)(H:Hp)(Q:VK)(u3_:XK):Prop
 | mk (n:Nat)(_:vs=[.int (n:Int)])(_:n<=255)(_:Q (.str (fig2 n)) H)
inductive spMkP(C:Addr)(vs:List V)(H:Hp)(Q:VK)(u3_:XK):Prop
 | mk a dx (r:Nat)(_:vs=[.ref a,.int (r:Int)])(_:1<=r)(_:r<=255)(_:H a=some (.ins C dx []))(_:∀(p:Addr) (H':Hp),H p=none->ObP C H' a p r []->zm4 a H H'->Q .non H')
inductive spPLook(C:Addr)(vs:List V)(H:Hp)(Q:VK)(u3_:XK):Prop
 | mk a p (r:Nat) (ws:List Nat) (c:Int)(_:vs=[.ref a,.int c])(_:ObP C H a p r ws)(_:((c=0/\Q (.int ((ws.headD 0:Nat):Int)) H)\/(c=1/\Q (.int (ws.length:Int)) H)))
inductive spPRead(C:Addr)(vs:List V)(H:Hp)(Q:VK)(u3_:XK):Prop
 | mk a p (r:Nat) (ws:List Nat) (c:Int)(_:vs=[.ref a,.int c])(_:ObP C H a p r ws)(_:((c=0/\Q (.int ((ws.headD 0:Nat):Int)) (upd H p (.lst (vN (ws.drop 1)))))\/(c=1/\Q (.int (ws.length:Int)) H)))
inductive spPWrite(C:Addr)(vs:List V)(H:Hp)(Q:VK)(u3_:XK):Prop
 | mk a p (r:Nat) (ws:List Nat) (c:Int) (v:Nat)(_:vs=[.ref a,.int c,.int (v:Int)])(_:ObP C H a p r ws)(_:v<=255)(_:ws.length<=1000)(_:((c=0/\((ws.length<r/\Q .non (upd H p (.lst (vN (ws++[v])))))\/(¬ ws.length<r/\Q .non H)))\/(c=1/\Q .non (upd H p (.lst (vN []))))))
def zlq(l:List Nat):vN l=(l.map λ(n:Nat)=>(n:Int)).map V.int:=by unfold vN;rw[Xa5];rfl
def zhf{a b:List Nat}:(a.map λ(n:Nat)=>(n:Int))=(b.map λ(n:Nat)=>(n:Int))↔a=b:=by
 exact List.map_inj_right (λx y h=>by omega)
inductive spByFig(vs:List V)(H:Hp)(Q:VK)(u3_:XK):Prop
 | mk (n:Nat)(_:vs=[.int (n:Int),.int 2])(_:n<=255)(_:Q (.str (fig2 n)) H)
def figs(n:Nat):Nat->Str
 | 0=>("" : Str)
 | 1=>({#[figc (n % 16)]}:Str)++("" : Str)
 | _=>({#[figc (n / 16)]}:Str)++(({#[figc (n % 16)]}:Str)++("" : Str))
def and15(n:Nat):n &&& 15=n % 16:=Nat.and_two_pow_sub_one_eq_mod n 4
def zfY{f:Addr}{fd:FuncData}(F:FunN K "by_figures" zcB f fd)(T:Blt mg)(N:Nums mg):FnOk P w K mg base CX0 1 f fd ["number","many"] spByFig:=by
 refine F.ok scby_figures (by walk_at"l") (λcdv A outer s H vs Q E hr h=>?_)
 .obtain⟨n,rfl,hn,k⟩:=h
  refine⟨_,(zab (ps_L 2 scby_figures.nd za4)
   (zab (zbE PassesOwn.never O (zcf O T.range (zaa (pv 1) zad)) (pg_L 3 scby_figures.nd)
   (zaf (ps_L 2 scby_figures.nd (zak zib (pe_x ix_str (zbY O N.SIXTEEN) (zak zaR (zak op_shr (pv 0) (zak zdo zae (pv 3))) zae)) (pv 2)))))
   (zaf (zap (pv 2))))),?rd⟩
  refine{_,O,2,O,by decide,by decide,?_}
  refine zez (n:=2) (λi U H2=>∃v3,U=[some (.int (n:Int)),some (.int 2),some (.str (figs n i)),v3]/\H2=H) ⟨none,O,O⟩ ?_ ?_
  .rintro i U H2 hi ⟨v3,rfl,rfl⟩
   rcases(show i=0\/i=1 by omega) with rfl|rfl
   .refine{_,O,_,O,_,_,O,O,zer (by decide) (by decide),_,_,O,O,(show(0:Int)<=4*(0+((0:Nat):Int)) by decide),_,_,O,O,FIG,((n % 16:Nat):Int),_,O,congrArg V.int ?_,by decide,zlO (by omega),?_}
    .show Builtin.bitAnd ((n:Int) / 1) ((15:Nat):Int)=_
     rw[Int.ediv_one,band,and15]
    .exact{_,O,_,_,O,O,by show 1+0<=sizeLine;decide,{_,O,O}}
   .refine{_,O,_,O,_,_,O,O,zer (by decide) (by decide),_,_,O,O,(show(0:Int)<=4*(0+((1:Nat):Int)) by decide),_,_,O,O,FIG,((n / 16:Nat):Int),_,O,congrArg V.int ?_,by decide,zlO (by omega),?_}
    .have e:(n:Int) / 2 ^ (4*(0+((1:Nat):Int))).toNat=((n / 16:Nat):Int):=by
      show(n:Int) / 16=_
      omega
     show Builtin.bitAnd ((n:Int) / 2 ^ (4*(0+((1:Nat):Int))).toNat) ((15:Nat):Int)=_
     rw[e,band,and15,Nat.mod_eq_of_lt (by omega)]
    .exact{_,O,_,_,O,O,by show 1+1<=sizeLine;decide,{_,O,O}}
  .rintro U H2 ⟨v3,rfl,rfl⟩
   exact{_,O,k}
abbrev zb6:Stmt:=top 17
def zfb:FnScope ["word"] ["word"] (zaj zb6):=sck O O O (by decide +kernel)
def zfq{f:Addr}{fd:FuncData}(F:FunN K "two_figures" zb6 f fd)(T:Blt mg)(Gby_figures:Cal P w K mg base 1 "by_figures" ["number","many"] spByFig):FnOk P w K mg base CX0 2 f fd ["word"] sp2fig:=by
 refine F.ok zfb (by walk_at"l") (λcdv A outer s H vs Q E hr h=>?_)
 .obtain⟨n,rfl,hn,k⟩:=h
  refine{_,(zaf (zap (pe_c Gby_figures (zaa (pv 0) (zaa zae zad))))),?rd}
  exact{_,O,n,O,hn,k}
def zkg(C:Addr)(H:Hp)(a:Addr)(ws:List V)(hd:Str)(Q:VK):Prop:=∀(p:Addr) (H':Hp),H p=none->(∃dx,H' a=some (.ins C dx [("head",.str hd),("held",.ref p)]))->H' p=some (.lst ws)->zm4 a H H'->Q .non H'
inductive spMk1H(C:Addr)(hd:Str)(vs:List V)(H:Hp)(Q:VK)(u3_:XK):Prop
 | mk a dx (v:Int)(_:vs=[.ref a,.int v])(_:0<=v)(_:v<=255)(_:H a=some (.ins C dx []))(_:zkg C H a [.int v] hd Q)
inductive spMkSH(C:Addr)(vs:List V)(H:Hp)(Q:VK)(u3_:XK):Prop
 | mk a dx (n:Nat) (v:Int)(_:vs=[.ref a,.int (n:Int),.int v])(_:1<=n)(_:n<=4096)(_:0<=v)(_:v<=255)(_:H a=some (.ins C dx []))(_:zkg C H a (List.replicate n (.int v)) "store" Q)
inductive spMkFH(C:Addr)(vs:List V)(H:Hp)(Q:VK)(u3_:XK):Prop
 | mk a dx l (ws:List Nat)(_:vs=[.ref a,.ref l])(_:H l=some (.lst (vN ws)))(_:1<=ws.length)(_:ws.length<=4096)(_:(∀w∈ws,w<=255))(_:H a=some (.ins C dx []))(_:zkg C H a (vN ws) "fixed" Q)
def zbB:Nat->Str
 | 0 => "store"
 | 1 => "fixed"
 | 2 => "latch"
 | 3 => "meter"
 | _ => "pipe"
def zjA(kd n:Nat):Str:=if kd=4 then phead n else zbB kd
def kext(kd n:Nat):List (Str×V):=if kd=4 then[("room",.int (n:Int))] else[]
def ksize(kd:Nat)(ws:List Nat):Nat:=if kd=4 then 2 else ws.length
def kwr(kd n:Nat)(ws:List Nat)(c v:Nat):List Nat:=if kd=4 then(if c=1 then[] else if ws.length<n then ws++[v] else ws) else if kd=1 then ws else ws.set c v
def krd(kd:Nat)(ws:List Nat)(c:Nat):List Nat:=if kd=3 then[(ws.headD 0+1) % 256] else if kd=4/\c=0 then ws.drop 1 else ws
def klk(kd:Nat)(ws:List Nat)(c:Nat):Nat:=if kd=4 then(if c=1 then ws.length else ws.headD 0) else ws.getD c 0
structure Kd(kd n:Nat)(ws:List Nat):Prop where
 k5:kd<5
 w5:∀v∈ws,v<=255
 ln:ws.length<=4096
 l1:kd≠4->1<=ws.length
 l3:kd=3->ws.length=1
 pi:kd=4->ws.length<=n/\1<=n
 n2:n<=255
set_option tactic.hygienic true in
def Kd.wr{kd n c v:Nat}{ws:List Nat}(k:Kd kd n ws)(hv:v<=255):Kd kd n (kwr kd n ws c v):=by
 unfold kwr
 split
 .rename_i e
  split
  .exact{k.k5,λ_ h=>(nomatch h),Nat.zero_le _,λh=>absurd e h,λh=>by omega,λh=>{Nat.zero_le _,(k.pi h).2},k.n2}
  .split
   .refine{k.k5,zlm k.w5 hv,?_,λh=>absurd e h,λh=>by omega,λh=>{?_,(k.pi h).2},k.n2}
    .rw[Xam];have:=k.n2;show ws.length+1<=4096;omega
    .rw[Xam];show ws.length+1<=n;omega
   .exact k
 .split
  .exact k
  .refine{k.k5,λb hb=>?_,by rw[XbD];exact k.ln,λh=>by rw[XbD];exact k.l1 h,λh=>by rw[XbD];exact k.l3 h,λh=>by rw[XbD];exact k.pi h,k.n2}
   rcases List.mem_or_eq_of_mem_set hb with z|z
   .exact k.w5 b z
   .rw[z];exact hv
set_option tactic.hygienic true in
def Kd.rd{kd n c:Nat}{ws:List Nat}(k:Kd kd n ws):Kd kd n (krd kd ws c):=by
 unfold krd
 split
 .rename_i e
  exact{k.k5,λb hb=>by rw[Xad.mp hb];omega,by show 1<=4096;decide,λ_=>Xae _,λ_=>O,λh=>by omega,k.n2}
 .split
  .rename_i e
   refine{k.k5,λb hb=>k.w5 b (List.mem_of_mem_drop hb),by rw[XaV];have:=k.ln;omega,λh=>absurd e.1 h,λh=>by omega,λh=>{by rw[XaV];have:=(k.pi h).1;omega,(k.pi h).2},k.n2}
  .exact k
structure Chp(cs:Nat->Addr)(H:Hp)(x p:Addr)(kd n:Nat)(ws:List Nat):Prop where
 ex:∃dx,H x=some (.ins (cs kd) dx (("head",.str (zjA kd n))::("held",.ref p)::kext kd n))
 ls:H p=some (.lst (vN ws))
def Chp.same{cs:Nat->Addr}{H H':Hp}{x p:Addr}{kd n:Nat}{ws:List Nat}(o:Chp cs H x p kd n ws)(s:Same H H'):Chp cs H' x p kd n ws:=by
 obtain⟨⟨dx,e⟩,l⟩:=o
 exact{{dx,s _ _ e},s _ _ l}
def zb0{kd j:Nat}(h:kd<5)(hj:j<5):decide (V.str (zbB kd)=V.str (zbB j))=decide (kd=j):=by
 rcases(show kd=0\/kd=1\/kd=2\/kd=3\/kd=4 by omega) with rfl|rfl|rfl|rfl|rfl<;>rcases(show j=0\/j=1\/j=2\/j=3\/j=4 by omega) with rfl|rfl|rfl|rfl|rfl<;>decide
inductive spW25(cs:Nat->Addr)(kd:Nat)(vs:List V)(H:Hp)(Q:VK)(u3_:XK):Prop
 | mk x p (n c v:Nat) (ws:List Nat)(_:vs=[.ref x,.int (c:Int),.int (v:Int)])(_:Chp cs H x p kd n ws)(_:Kd kd n ws)(_:c<ksize kd ws)(_:v<=255)(_:∀H',H' p=some (.lst (vN (kwr kd n ws c v)))->(∀b,b≠p->H' b=H b)->Q .non H')
def csOf(a b c d e:Addr):Nat->Addr
 | 0=>a
 | 1=>b
 | 2=>c
 | 3=>d
 | _=>e
def za3{P:Program}{w:World}{K:W.Frag}{mg:Str->Option Value}{base:Heap}{k:Nat}{C:Addr}{m:Str}{ks:List Str}{gV:List V->List V->List V}{sp sp':Sp}(M:Mth P w K mg base k C m ks gV sp)(h:∀vs H Q E,sp' vs H Q E->sp vs H Q E):Mth P w K mg base k C m ks gV sp':=by
 obtain⟨c,f,fd,ps,g,a,F,b⟩:=M
 exact{c,f,fd,ps,g,a,F.imp h,b}
def zgE{cs:Nat->Addr}{kd:Nat}(hk:kd=0\/kd=2\/kd=3):∀vs H Q E,spW25 cs kd vs H Q E->spWrite (cs kd) vs H Q E:=by
 rintro vs H Q E ⟨x,p,n,c,v,ws,rfl,o,kk,hc,hv,q⟩
 obtain⟨dx,e⟩:=o.ex
 have h4:kd≠4:=by omega
 have h1:kd≠1:=by omega
 unfold ksize at hc
 unfold kwr at q
 rw[if_neg h4] at hc
 rw[if_neg h4,if_neg h1] at q
 unfold kext at e
 rw[if_neg h4] at e
 exact{x,p,vN ws,[],c,(v:Int),O,{{dx,_,e},o.ls,.inl O},by rw[zan];have:=kk.ln;omega,by rw[zan];exact hc,by omega,by omega,q _ (by rw[<- zlp];exact zac) λb hb=>zah hb}
def zl1{cs:Nat->Addr}:∀vs H Q E,spW25 cs 1 vs H Q E->spFixW (cs 1) vs H Q E:=by
 rintro vs H Q E ⟨x,p,n,c,v,ws,rfl,o,kk,hc,hv,q⟩
 obtain⟨dx,e⟩:=o.ex
 exact{x,p,vN ws,[],c,(v:Int),O,{{dx,_,e},o.ls,.inl O},by rw[zan];have:=kk.ln;omega,by rw[zan];exact hc,by omega,by omega,q _ o.ls λb hb=>O}
def w_pipe{cs:Nat->Addr}:∀vs H Q E,spW25 cs 4 vs H Q E->spPWrite (cs 4) vs H Q E:=by
 rintro vs H Q E ⟨x,p,n,c,v,ws,rfl,o,kk,hc,hv,q⟩
 have hl:=(kk.pi O).1
 have hn:=kk.n2
 refine{x,p,n,ws,(c:Int),v,O,⟨o.ex,o.ls⟩,hv,by omega,?_}
 unfold kwr at q
 rw[if_pos O] at q
 have hc:c<2:=hc
 rcases(show c=0\/c=1 by omega) with rfl|rfl
 .refine .inl {O,?_}
  rw[if_neg (by decide)] at q
  by_cases h:ws.length<n
  .rw[if_pos h] at q
   exact .inl {h,q _ zac λb hb=>zah hb}
  .rw[if_neg h] at q
   exact .inr {h,q _ o.ls λb hb=>O}
 .exact .inr {O,q _ zac λb hb=>zah hb}
abbrev zbT:Stmt:=zay (top 26) 1
def zeF:FnScope ["self"] ["self"] (zaj zbT):=sck O O O (by decide +kernel)
def zbd{f C:Addr}{fd:FuncData}(F:Fun K "__len__" "Chip.__len__" zbT f fd)(T:Blt mg)(c:ClsOk K C):FnOk P w K mg base CX0 1 f fd ["self"] (spLen C List.length):=by
 refine F.ok zeF (by walk_at"l") (λcdv A outer s H vs Q E hr h=>?_)
 .obtain⟨a,p,ws,ext,rfl,o,k⟩:=h
  refine{_,(zaf (zap (zao zar (by rfl) T.len PySem.boot_len (zaa (zaE (pv 0) O) zad)))),?rd}
  obtain⟨⟨dx,hd,e⟩,l,nn⟩:=o
  exact{_,O,a,C,dx,_,_,O,e,c.cl,c.held,O,p,ws,O,.inl (SqL.of l),k}
abbrev zbh:Stmt:=zay (top 26) 5
def zda:FnScope ["self","cell"] ["self","cell"] (zaj zbh):=sck O O O (by decide +kernel)
def zaN{f C:Addr}{fd:FuncData}(F:Fun K "check_cell" "Chip.check_cell" zbh f fd){L:List V->Nat}(T:Blt mg)(Gis_number:Cal P w K mg base 1 "is_number" ["thing","last"] spIsNum)(M:Mth P w K mg base 1 C "__len__" [] (λvs _=>vs) (spLen C L)):FnOk P w K mg base CX0 3 f fd ["self","cell"] (spChkC C L):=by
 refine F.ok zda (by walk_at"l") (λcdv A outer s H vs Q E hr h=>?_)
 .obtain⟨a,p,ws,ext,c,rfl,o,h0,h1,h2,k⟩:=h
  refine{_,(zaf (zaB (zaO (zaG (pe_c Gis_number (zaa (pv 1) (zaa (zak zbG (zgX 1 ⟨O,O,O,O,O⟩ (hrm hr) O T.len (pv 0)) zae) zad))))) (zaf zaK) zaq)),?rd}
  have o':=o
  obtain⟨⟨dx,hd,e⟩,l,nn⟩:=o
  refine{_,O,_,O,a,C,dx,_,_,_,O,e,M,a,p,ws,ext,O,o',_,O,by omega,by omega,_,_,O,O,?_}
  exact{c,_,O,_,O,zhl {h0,by omega} k}
abbrev zbc:Stmt:=zay (top 26) 6
def zcW:FnScope ["self","cell","word"] ["self","cell","word"] (zaj zbc):=sck O O O (by decide +kernel)
def zaL{f C:Addr}{fd:FuncData}(F:Fun K "check_write" "Chip.check_write" zbc f fd){L:List V->Nat}(T:Blt mg)(Gcheck_word:Cal P w K mg base 3 "check_word" ["word"] spChkWord)(M:Mth P w K mg base 3 C "check_cell" [] (λvs _=>vs) (spChkC C L)):FnOk P w K mg base CX0 4 f fd ["self","cell","word"] (spChkW C L):=by
 refine F.ok zcW (by walk_at"l") (λcdv A outer s H vs Q E hr h=>?_)
 .obtain⟨a,p,ws,ext,c,v,rfl,o,h0,h1,h2,h3,h4,k⟩:=h
  refine⟨_,(zab (zau (zaD 3 ⟨O,O,O,O,O⟩ (hrm hr) (pv 0) (zaa (pv 1) zad)))
   (zaf (zau (pe_c Gcheck_word (zaa (pv 2) zad))))),?rd⟩
  have o':=o
  obtain⟨⟨dx,hd,e⟩,l,nn⟩:=o
  refine{_,O,a,C,dx,_,_,_,O,e,M,by rcases nn with rfl|⟨r,rfl⟩<;>rfl,_,O,a,p,ws,ext,c,O,o',h0,h1,h2,?_}
  exact{_,O,v,O,h3,h4,k}
abbrev zdk:Stmt:=zay (top 26) 7
def zgS:FnScope ["self","cell"] ["self","cell"] (zaj zdk):=sck O O O (by decide +kernel)
def zbZ{f C:Addr}{fd:FuncData}(F:Fun K "look" "Chip.look" zdk f fd)(T:Blt mg)(c_:ClsOk K C)(M:Mth P w K mg base 3 C "check_cell" [] (λvs _=>vs) (spChkC C List.length)):FnOk P w K mg base CX0 4 f fd ["self","cell"] (spLook C):=by
 refine F.ok zgS (by walk_at"l") (λcdv A outer s H vs Q E hr h=>?_)
 .obtain⟨a,p,ws,ext,c,x,rfl,o,h0,h1,k⟩:=h
  refine⟨_,(zab (zau (zaD 3 ⟨O,O,O,O,O⟩ (hrm hr) (pv 0) (zaa (pv 1) zad)))
   (zaf (zap (pe_x zal (zaE (pv 0) O) (pv 1))))),?rd⟩
  have o':=o
  obtain⟨⟨dx,hd,e⟩,l,nn⟩:=o
  have hc:c<ws.length:=(Xaf.mp h1).1
  refine{_,O,a,C,dx,_,_,_,O,e,M,by rcases nn with rfl|⟨r,rfl⟩<;>rfl,_,O,a,p,ws,ext,_,O,o',by omega,by omega,h0,?_}
  exact{_,O,a,C,dx,_,_,O,e,c_.cl,c_.held,O,_,O,p,_,_,_,O,O,SqL.of l,zaF h1,k}
abbrev zdj:Stmt:=zay (top 26) 8
def zgR:FnScope ["self","cell"] ["self","cell"] (zaj zdj):=sck O O O (by decide +kernel)
def zcO{f C:Addr}{fd:FuncData}(F:Fun K "read" "Chip.read" zdj f fd)(T:Blt mg)(M:Mth P w K mg base 4 C "look" [] (λvs _=>vs) (spLook C)):FnOk P w K mg base CX0 5 f fd ["self","cell"] (spLook C):=by
 refine F.ok zgR (by walk_at"l") (λcdv A outer s H vs Q E hr h=>?_)
 .obtain⟨a,p,ws,ext,c,x,rfl,o,h0,h1,k⟩:=h
  refine{_,(zaf (zap (zaD 4 ⟨O,O,O,O,O⟩ (hrm hr) (pv 0) (zaa (pv 1) zad)))),?rd}
  have o':=o
  obtain⟨⟨dx,hd,e⟩,l,nn⟩:=o
  exact{_,O,a,C,dx,_,_,_,O,e,M,by rcases nn with rfl|⟨r,rfl⟩<;>rfl,_,O,a,p,ws,ext,c,x,O,o',h0,h1,k}
abbrev zcI:Stmt:=zay (top 26) 9
def zfQ:FnScope ["self","cell","word"] ["self","cell","word"] (zaj zcI):=sck O O O (by decide +kernel)
def zci{f C:Addr}{fd:FuncData}(F:Fun K "write" "Chip.write" zcI f fd)(T:Blt mg)(c_:ClsOk K C)(M:Mth P w K mg base 4 C "check_write" [] (λvs _=>vs) (spChkW C List.length)):FnOk P w K mg base CX0 5 f fd ["self","cell","word"] (spWrite C):=by
 refine F.ok zfQ (by walk_at"l") (λcdv A outer s H vs Q E hr h=>?_)
 .obtain⟨a,p,ws,ext,c,v,rfl,o,h0,h1,h2,h3,k⟩:=h
  refine⟨_,(zab (zau (zaD 4 ⟨O,O,O,O,O⟩ (hrm hr) (pv 0) (zaa (pv 1) (zaa (pv 2) zad))))
   (zaf (zbl (pv 2) (zjc (zaE (pv 0) O) (pv 1) zfa)))),?rd⟩
  have o':=o
  obtain⟨⟨dx,hd,e⟩,l,nn⟩:=o
  refine{_,O,a,C,dx,_,_,_,O,e,M,by rcases nn with rfl|⟨r,rfl⟩<;>rfl,_,O,_,O,a,p,ws,ext,_,v,O,o',by omega,by omega,h0,h2,h3,?_}
  refine{_,O,_,O,a,C,dx,_,_,O,e,c_.cl,c_.held,O,_,O,p,_,_,c,O,O,l,?_,k}
  exact zjE h1
abbrev zcb:Stmt:=zay (top 28) 1
def zfd:FnScope ["self","cell","word"] ["self","cell","word"] (zaj zcb):=sck O O O (by decide +kernel)
def zfu{f C:Addr}{fd:FuncData}(F:Fun K "write" "Fixed.write" zcb f fd)(T:Blt mg)(M:Mth P w K mg base 4 C "check_write" [] (λvs _=>vs) (spChkW C List.length)):FnOk P w K mg base CX0 5 f fd ["self","cell","word"] (spFixW C):=by
 refine F.ok zfd (by walk_at"l") (λcdv A outer s H vs Q E hr h=>?_)
 .obtain⟨a,p,ws,ext,c,v,rfl,o,h0,h1,h2,h3,k⟩:=h
  refine{_,(zaf (zau (zaD 4 ⟨O,O,O,O,O⟩ (hrm hr) (pv 0) (zaa (pv 1) (zaa (pv 2) zad))))),?rd}
  have o':=o
  obtain⟨⟨dx,hd,e⟩,l,nn⟩:=o
  exact{_,O,a,C,dx,_,_,_,O,e,M,by rcases nn with rfl|⟨r,rfl⟩<;>rfl,_,O,_,O,a,p,ws,ext,_,v,O,o',by omega,by omega,h0,h2,h3,k}
abbrev zcH:Stmt:=zay (top 30) 1
def scMeter_read:FnScope ["self","cell","word"] ["self","cell"] (zaj zcH):=sck O O O (by decide +kernel)
def zf4{f C:Addr}{fd:FuncData}(F:Fun K "read" "Meter.read" zcH f fd)(T:Blt mg)(N:Nums mg)(c:ClsOk K C)(M:Mth P w K mg base 4 C "look" [] (λvs _=>vs) (spLook C)):FnOk P w K mg base CX0 5 f fd ["self","cell"] (spMetR C):=by
 refine F.ok scMeter_read (by walk_at"l") (λcdv A outer s H vs Q E hr h=>?_)
 .obtain⟨a,p,ext,v,rfl,o,k⟩:=h
  refine⟨_,(zab (ps_L 2 scMeter_read.nd (zaD 4 ⟨O,O,O,O,O⟩ (hrm hr) (pv 0) (zaa (pv 1) zad)))
   (zab (zbl (zak zax (zak zaW (pv 2) zae) (zak zaW (zbn O N.LAST_WORD) zae)) (zjc (zaE (pv 0) O) (pv 1) zfa))
   (zaf (zap (pv 2))))),?rd⟩
  have o':=o
  obtain⟨⟨dx,hd,e⟩,l,nn⟩:=o
  refine{_,O,a,C,dx,_,_,_,O,e,M,by rcases nn with rfl|⟨r,rfl⟩<;>rfl,_,O,a,p,_,ext,0,_,O,o',by show 1<=5000;decide,O,?_}
  refine{_,O,_,_,O,O,_,_,O,O,_,_,O,O,(show(0:Int)<255+1 by decide),?_}
  refine{_,O,a,C,dx,_,_,O,e,c.cl,c.held,O,_,O,p,_,_,0,O,O,l,O,?_}
  exact{_,O,k}
abbrev zbS:Stmt:=zay (top 31) 1
def zeE:FnScope ["self"] ["self"] (zaj zbS):=sck O O O (by decide +kernel)
def zeJ{f C:Addr}{fd:FuncData}(F:Fun K "__len__" "Pipe.__len__" zbS f fd)(T:Blt mg)(c:ClsOk K C):FnOk P w K mg base CX0 1 f fd ["self"] (spLen C two):=by
 refine F.ok zeE (by walk_at"l") (λcdv A outer s H vs Q E hr h=>?_)
 .obtain⟨a,p,ws,ext,rfl,o,k⟩:=h
  refine{_,(zaf (zap zae)),?rd}
  exact k
abbrev zdi:Stmt:=zay (top 31) 2
def zgQ:FnScope ["self","cell"] ["self","cell"] (zaj zdi):=sck O O O (by decide +kernel)
def zha{f C:Addr}{fd:FuncData}(F:Fun K "look" "Pipe.look" zdi f fd)(T:Blt mg)(c:ClsOk K C)(M:Mth P w K mg base 3 C "check_cell" [] (λvs _=>vs) (spChkC C two)):FnOk P w K mg base CX0 4 f fd ["self","cell"] (spPLook C):=by
 refine F.ok zgQ (by walk_at"l") (λcdv A outer s H vs Q E hr h=>?_)
 .obtain⟨a,p,r,ws,cc,rfl,o,k⟩:=h
  refine⟨_,(zab (zau (zaD 3 ⟨O,O,O,O,O⟩ (hrm hr) (pv 0) (zaa (pv 1) zad)))
   (zab (zaB (zas zbf (pv 1) zae (zav _)) (zaf (zap (zao zar (by rfl) T.len PySem.boot_len (zaa (zaE (pv 0) O) zad)))) zaq)
   (zaf (zap (zhC (zfk (zaE (pv 0) O) (λ_=>O)) (pe_x zal (zaE (pv 0) O) zae) zae))))),?rd⟩
  have o':=o.ob
  obtain⟨⟨dx,e⟩,l⟩:=o
  have hc:0<=cc/\cc<2:=by rcases k with⟨rfl,_⟩|⟨rfl,_⟩<;>decide
  refine{_,O,a,C,dx,_,_,_,O,e,M,O,_,O,a,p,_,_,cc,O,o',hc.1,by show cc<((2:Nat):Int);omega,by show 2<=5000;decide,?_}
  rcases k with⟨rfl,k⟩|⟨rfl,k⟩
  .refine{_,O,O,_,O,iteF ?_}
   refine{_,O,a,C,dx,_,_,O,e,c.cl,c.held,O,?_}
   refine{_,.inl {_,SqL.of l,O},?_}
   cases ws with
   | nil=>exact iteF k
   | cons w0 ws=>exact iteT {_,O,a,C,dx,_,_,O,e,c.cl,c.held,O,p,_,_,_,O,O,SqL.of l,(zaF (j:=0) O:atI (vN (w0::ws)) ((0:Nat):Int)=_),k}
  .refine{_,O,O,_,O,iteT ?_}
   refine{_,O,a,C,dx,_,_,O,e,c.cl,c.held,O,p,_,O,.inl (SqL.of l),?_}
   rw[zan];exact k
abbrev zdh:Stmt:=zay (top 31) 3
def scPipe_read:FnScope ["self","cell","word"] ["self","cell"] (zaj zdh):=sck O O O (by decide +kernel)
def zg9{f C:Addr}{fd:FuncData}(F:Fun K "read" "Pipe.read" zdh f fd)(T:Blt mg)(c:ClsOk K C)(M:Mth P w K mg base 4 C "look" [] (λvs _=>vs) (spPLook C)):FnOk P w K mg base CX0 5 f fd ["self","cell"] (spPRead C):=by
 refine F.ok scPipe_read (by walk_at"l") (λcdv A outer s H vs Q E hr h=>?_)
 .obtain⟨a,p,r,ws,cc,rfl,o,k⟩:=h
  refine⟨_,(zab (ps_L 2 scPipe_read.nd (zaD 4 ⟨O,O,O,O,O⟩ (hrm hr) (pv 0) (zaa (pv 1) zad)))
   (zab (zaB (zas zbf (pv 1) zae (zav _)) (zaf (zmm (zaE (pv 0) O))) zaq)
   (zaf (zap (pv 2))))),?rd⟩
  have o':=o
  obtain⟨⟨dx,e⟩,l⟩:=o
  rcases k with⟨rfl,k⟩|⟨rfl,k⟩
  .refine{_,O,a,C,dx,_,_,_,O,e,M,O,_,O,a,p,r,ws,0,O,o',.inl {O,?_}}
   refine{_,O,O,_,O,iteT ?_}
   refine{_,O,a,C,dx,_,_,O,e,c.cl,c.held,O,p,_,O,l,?_}
   refine{_,O,?_}
   rw[<- zl5] at k
   exact k
  .refine{_,O,a,C,dx,_,_,_,O,e,M,O,_,O,a,p,r,ws,1,O,o',.inr {O,?_}}
   exact{_,O,O,_,O,iteF {_,O,k}}
abbrev zcG:Stmt:=zay (top 31) 4
def zfP:FnScope ["self","cell","word"] ["self","cell","word"] (zaj zcG):=sck O O O (by decide +kernel)
def zf3{f C:Addr}{fd:FuncData}(F:Fun K "write" "Pipe.write" zcG f fd)(T:Blt mg)(c:ClsOk K C)(M:Mth P w K mg base 4 C "check_write" [] (λvs _=>vs) (spChkW C two)):FnOk P w K mg base CX0 5 f fd ["self","cell","word"] (spPWrite C):=by
 refine F.ok zfP (by walk_at"l") (λcdv A outer s H vs Q E hr h=>?_)
 .obtain⟨a,p,r,ws,cc,v,rfl,o,hv,hz,k⟩:=h
  refine⟨_,(zab (zau (zaD 4 ⟨O,O,O,O,O⟩ (hrm hr) (pv 0) (zaa (pv 1) (zaa (pv 2) zad))))
   (zaf (zaB (zas zbf (pv 1) zae (zav _)) (zaf (zau (zlG PySem.F.plainAttrs_list PySem.F.slot_list_clear PySem.F.type_list_clear zkW (zaE (pv 0) O)))) (zaf (zaB (zas zjk (zao zar (by rfl) T.len PySem.boot_len (zaa (zaE (pv 0) O) zad)) (zaE (pv 0) O) (zav _)) (zaf (zau (zch PySem.F.plainAttrs_list PySem.F.slot_list_append PySem.F.type_list_append zaS (zaE (pv 0) O) (zaa (pv 2) zad)))) zaq))))),?rd⟩
  have o':=o.ob
  obtain⟨⟨dx,e⟩,l⟩:=o
  have hc:0<=cc/\cc<2:=by rcases k with⟨rfl,_⟩|⟨rfl,_⟩<;>decide
  refine{_,O,a,C,dx,_,_,_,O,e,M,O,_,O,_,O,a,p,_,_,cc,(v:Int),O,o',hc.1,by show cc<((2:Nat):Int);omega,by show 2<=5000;decide,by omega,by omega,?_}
  rcases k with⟨rfl,k⟩|⟨rfl,k⟩
  .refine{_,O,O,_,O,iteF ?_}
   refine{_,O,a,C,dx,_,_,O,e,c.cl,c.held,O,p,_,O,.inl (SqL.of l),?_}
   refine{_,O,a,C,dx,_,_,O,e,c.cl,c.room,O,_,_,O,O,_,O,?_}
   rw[zan]
   rcases k with⟨h1,k⟩|⟨h1,k⟩
   .rw[Xak (show(ws.length:Int)<(r:Int) by omega)]
    refine iteT ?_
    refine{_,O,a,C,dx,_,_,O,e,c.cl,c.held,O,.inl {O,_,SqL.of l},_,O,p,_,_,O,O,l,?_,?_}
    .rw[zan];exact XaP hz (by decide)
    .rw[zb5] at k;exact k
   .rw[Xan (show¬ (ws.length:Int)<(r:Int) by omega)]
    exact iteF k
  .refine{_,O,O,_,O,iteT ?_}
   exact{_,O,a,C,dx,_,_,O,e,c.cl,c.held,O,.inl {O,_,SqL.of l},p,_,O,O,l,k}
abbrev zbt:Stmt:=zay (top 27) 0
def zdF:FnScope ["self","cells","word"] ["self","cells","word"] (zaj zbt):=sck O O O (by decide +kernel)
def zdL{f C:Addr}{fd:FuncData}{dV:Value}(F:FunD K "__init__" "Store.__init__" zbt dV f fd)(T:Blt mg)(N:Nums mg)(c:ClsOk K C)(Gis_number:Cal P w K mg base 1 "is_number" ["thing","last"] spIsNum)(Gis_word:Cal P w K mg base 2 "is_word" ["thing"] spIsWord)(GCChip___init__:Clm P w K mg base 1 "Chip" "__init__" (spInit K)):FnOk P w K mg base CX0 3 f fd ["self","cells","word"] (spMkSH C):=by
 refine F.ok zdF (by walk_at"l") (λcdv A outer s H vs Q E hr h=>?_)
 .obtain⟨a,dx,n,v,rfl,h0,h1,h2,h3,ha,k⟩:=h
  refine⟨_,(zab (zaB (PW.pt (zbX (zaO (zaG (pe_c Gis_number (zaa (pv 1) (zaa (zbn O N.MOST_CELLS) zad))))) (zbX (zas zjk (pv 1) zae (zav _)) (zby (zaO (zaG (pe_c Gis_word (zaa (pv 2) zad)))))))) (zaf zaK) zaq)
   (zaf (zau (zfU GCChip___init__ (hrm hr) O (zaa (pv 0) (zaa za4 (zaa (zak zlH (zaA (zaa (pv 2) zad)) (pv 1)) zad))))))),?rd⟩
  refine{_,O,(n:Int),4096,O,_,O,?_}
  rw[Xak (show(0:Int)<=(n:Int)/\(n:Int)<=4096 by omega)]
  refine iteF {_,O,_,_,O,O,_,O,?_}
  rw[Xan (show¬ (n:Int)<1 by omega)]
  refine iteF {_,O,v,O,_,O,zhl ⟨h2,h3⟩ ?_}
  refine{_,O,_,O,by show 1<=sizeLine;decide,λl hl=>?_}
  have en:((n:Int)).toNat=n:=by omega
  refine{_,O,l,_,_,O,O,zac,by omega,by omega,?_,λp hp=>?_}
  .rw[en];show 1*n<=sizeLine;exact Xar (by omega) (show 4096<=sizeLine by decide)
  rw[en,show(List.replicate n [V.int v]).flatten=List.replicate n (V.int v) from zi0 n _]
  have nl:l≠a:=λz=>by rw[z,ha] at hl;cases hl
  have hpl:p≠l:=λz=>by rw[z,zac] at hp;cases hp
  have hp0:H p=none:=by rw[zah hpl] at hp;exact hp
  have ne:p≠a:=λz=>by rw[z,ha] at hp0;cases hp0
  refine{a,C,dx,p,_,O,by rw[zah (Ne.symm ne),zah (Ne.symm nl)];exact ha,c,λH' e1 e2=>?_}
  refine k p H' hp0 ⟨dx,e1⟩ (by rw[e2 p ne];exact zac) λb o hb e=>?_
  rw[e2 b hb,zah (zai e hp0),zah (zai e hl)];exact e
abbrev zbw:Stmt:=zay (top 28) 0
def scFixed___init__:FnScope ["self","words","held"] ["self","words"] (zaj zbw):=sck O O O (by decide +kernel)
def zdO{f C:Addr}{fd:FuncData}(F:Fun K "__init__" "Fixed.__init__" zbw f fd)(T:Blt mg)(N:Nums mg)(c:ClsOk K C)(Gis_word:Cal P w K mg base 2 "is_word" ["thing"] spIsWord)(GCChip___init__:Clm P w K mg base 1 "Chip" "__init__" (spInit K)):FnOk P w K mg base CX0 3 f fd ["self","words"] (spMkFH C):=by
 refine F.ok scFixed___init__ (by walk_at"l") (λcdv A outer s H vs Q E hr h=>?_)
 .obtain⟨a,dx,l,ws,rfl,hl,h1,h2,h3,ha,k⟩:=h
  refine'⟨_,(zab (ps_L 2 scFixed___init__.nd (zbe zdA (by rfl) T.list zcQ (zaa (pv 1) zad)))
   (zab (zaB (PW.pt (zbX (zaO (zkH zh9 zh9 zae (zao zar (by rfl) T.len PySem.boot_len (zaa (pv 2) zad)) (zbn O N.MOST_CELLS))) (zby (zaO (zaG (zao (zeC O) (by rfl) T.all zj9 (zaa ?c1 zad))))))) (zaf zaK) zaq)
   (zaf (zau (zfU GCChip___init__ (hrm hr) O (zaa (pv 0) (zaa za4 (zaa (pv 2) zad)))))))),?rd⟩
  (case c1=>exact(zdn (Nc:=["word"]) [none] O (zaZ (by rfl)) (zcg (pv 2)) (λ_ _ _ _ _=>(pg_L 0 (show(["word"]:List Str).Nodup by decide +kernel))) (λ_ _ _ _ _=>zeR) (λ_ _ _ _ _=>(pe_c Gis_word (zaa (pv 0) zad)))))
  refine{_,O,l,_,O,.inl (SqL.of hl),λp hp=>?_}
  have nl:p≠a:=λz=>by rw[z,ha] at hp;cases hp
  refine{_,O,p,_,O,.inl (SqL.of zac),_,_,O,O,_,O,?_}
  rw[zan,Xak (show(1:Int)<=(ws.length:Int) by omega)]
  refine iteT {_,_,O,O,_,O,?_}
  rw[Xak (show(ws.length:Int)<=4096 by omega)]
  refine iteF {_,O,p,O,{_,SqL.of zac},?_}
  refine zeB (K:=K) (a:=p) (xs:=vN ws) (λj rs U H1=>∃v1,U=[v1]/\rs=List.replicate j (V.bl true)/\H1=upd H p (.lst (vN ws))) (by rw[zan];exact Xar h2 (by decide)) ⟨none,O,O,O⟩ ?_ ?_ ?_
  .rintro j rs U H1 hj ⟨v1,rfl,rfl,rfl⟩
   exact{SqL.of zac,by rw[XbC];exact Xae _}
  .rintro j x rs U H1 ex ⟨v1,rfl,rfl,rfl⟩
   obtain⟨b,hb,rfl⟩:=ziM ex
   have:=h3 b (Xas hb)
   refine{_,O,(b:Int),O,?_}
   rw[Xak (show(0:Int)<=(b:Int)/\(b:Int)<=255 by omega)]
   exact{_,O,List.replicate_succ'.symm,O}
  .rintro rs U H1 ⟨v1,rfl,rfl,rfl⟩ D hD
   refine{D,List.replicate (vN ws).length true,O,SqL.of (by rw[List.map_replicate];exact zac),_,O,?_}
   rw[show(List.replicate (vN ws).length true).all id=true by simp]
   refine iteF {_,O,_,O,a,C,dx,p,_,O,?_,c,λH' e1 e2=>?_}
   .exact zag hD _ _ (zag hp _ _ ha)
   .refine k p H' hp ⟨dx,e1⟩ (by rw[e2 p nl];exact zag hD _ _ zac) λb o hb e=>?_
    rw[e2 b hb];exact zag hD _ _ (zag hp _ _ e)
abbrev zbv:Stmt:=zay (top 29) 0
def zdH:FnScope ["self","word"] ["self","word"] (zaj zbv):=sck O O O (by decide +kernel)
def zdN{f C:Addr}{fd:FuncData}{dV:Value}(F:FunD K "__init__" "Latch.__init__" zbv dV f fd)(T:Blt mg)(c:ClsOk K C)(Gis_word:Cal P w K mg base 2 "is_word" ["thing"] spIsWord)(GCChip___init__:Clm P w K mg base 1 "Chip" "__init__" (spInit K)):FnOk P w K mg base CX0 3 f fd ["self","word"] (spMk1H C "latch"):=by
 refine F.ok zdH (by walk_at"l") (λcdv A outer s H vs Q E hr h=>?_)
 .obtain⟨a,dx,v,rfl,h0,h1,ha,k⟩:=h
  refine⟨_,(zab (zaB (zaO (zaG (pe_c Gis_word (zaa (pv 1) zad)))) (zaf zaK) zaq)
   (zaf (zau (zfU GCChip___init__ (hrm hr) O (zaa (pv 0) (zaa za4 (zaa (zaA (zaa (pv 1) zad)) zad))))))),?rd⟩
  refine{_,O,v,O,_,O,zhl ⟨h0,h1⟩ ?_}
  refine{_,O,_,O,by show 1<=sizeLine;decide,λp hp=>?_}
  have ne:p≠a:=λz=>by rw[z,ha] at hp;cases hp
  refine{a,C,dx,p,_,O,by rw[zah (Ne.symm ne)];exact ha,c,λH' e1 e2=>?_}
  refine k p H' hp ⟨dx,e1⟩ (by rw[e2 p ne];exact zac) λb o hb e=>?_
  rw[e2 b hb,zah (zai e hp)];exact e
abbrev zbu:Stmt:=zay (top 30) 0
def zdG:FnScope ["self","word"] ["self","word"] (zaj zbu):=sck O O O (by decide +kernel)
def zdM{f C:Addr}{fd:FuncData}{dV:Value}(F:FunD K "__init__" "Meter.__init__" zbu dV f fd)(T:Blt mg)(c:ClsOk K C)(Gis_word:Cal P w K mg base 2 "is_word" ["thing"] spIsWord)(GCChip___init__:Clm P w K mg base 1 "Chip" "__init__" (spInit K)):FnOk P w K mg base CX0 3 f fd ["self","word"] (spMk1H C "meter"):=by
 refine F.ok zdG (by walk_at"l") (λcdv A outer s H vs Q E hr h=>?_)
 .obtain⟨a,dx,v,rfl,h0,h1,ha,k⟩:=h
  refine⟨_,(zab (zaB (zaO (zaG (pe_c Gis_word (zaa (pv 1) zad)))) (zaf zaK) zaq)
   (zaf (zau (zfU GCChip___init__ (hrm hr) O (zaa (pv 0) (zaa za4 (zaa (zaA (zaa (pv 1) zad)) zad))))))),?rd⟩
  refine{_,O,v,O,_,O,zhl ⟨h0,h1⟩ ?_}
  refine{_,O,_,O,by show 1<=sizeLine;decide,λp hp=>?_}
  have ne:p≠a:=λz=>by rw[z,ha] at hp;cases hp
  refine{a,C,dx,p,_,O,by rw[zah (Ne.symm ne)];exact ha,c,λH' e1 e2=>?_}
  refine k p H' hp ⟨dx,e1⟩ (by rw[e2 p ne];exact zac) λb o hb e=>?_
  rw[e2 b hb,zah (zai e hp)];exact e
abbrev zbJ:Stmt:=zay (top 31) 0
def zea:FnScope ["self","room"] ["self","room"] (zaj zbJ):=sck O O O (by decide +kernel)
def zem{f C:Addr}{fd:FuncData}{dV:Value}(F:FunD K "__init__" "Pipe.__init__" zbJ dV f fd)(T:Blt mg)(N:Nums mg)(c:ClsOk K C)(Gis_number:Cal P w K mg base 1 "is_number" ["thing","last"] spIsNum)(Gtwo_figures:Cal P w K mg base 2 "two_figures" ["word"] sp2fig)(GCChip___init__:Clm P w K mg base 1 "Chip" "__init__" (spInit K)):FnOk P w K mg base CX0 3 f fd ["self","room"] (spMkP C):=by
 refine F.ok zea (by walk_at"l") (λcdv A outer s H vs Q E hr h=>?_)
 .obtain⟨a,dx,r,rfl,h0,h1,ha,k⟩:=h
  refine⟨_,(zab (zaB (PW.pt (zbX (zaO (zaG (pe_c Gis_number (zaa (pv 1) (zaa (zbn O N.MOST_ROOM) zad))))) (zby (zas zjk (pv 1) zae (zav _))))) (zaf zaK) zaq)
   (zab (zau (zfU GCChip___init__ (hrm hr) O (zaa (pv 0) (zaa (pe_fs2 za4 (pe_c Gtwo_figures (zaa (pv 1) zad))) (zaa (zaA zad) zad)))))
   (zaf (zbk (pv 0) (pv 1) O)))),?rd⟩
  refine{_,O,(r:Int),255,O,_,O,?_}
  rw[Xak (show(0:Int)<=(r:Int)/\(r:Int)<=255 by omega)]
  refine iteF {_,O,_,_,O,O,_,O,?_}
  rw[Xan (show¬ (r:Int)<1 by omega)]
  refine iteF {_,O,_,O,by show 5<=1000;decide,_,O,r,O,h1,_,O,by show 1+1<=1000;decide,?_}
  refine{by show 0<=sizeLine;decide,λp hp=>?_}
  have ne:p≠a:=λz=>by rw[z,ha] at hp;cases hp
  refine{a,C,dx,p,_,O,by rw[zah (Ne.symm ne)];exact ha,c,λH' e1 e2=>?_}
  refine{_,O,_,O,a,C,dx,_,O,e1,c.cl,c.room,by show 2<1000;decide,?_}
  refine k p _ hp {⟨dx,zac⟩,by rw[zah ne,e2 p ne];exact zac} λb o hb e=>?_
  rw[zah hb,e2 b hb,zah (zai e hp)];exact e
abbrev zd0:Stmt:=top 54
def scrow_fits:FnScope ["row","chips","inner","chip","latch"] ["row","chips"] (zaj zd0):=sck O O O (by decide +kernel)
def lenK(kd:Nat):List V->Nat:=if kd=4 then two else List.length
def Chp.ob{cs:Nat->Addr}{H:Hp}{x p:Addr}{kd n:Nat}{ws:List Nat}(o:Chp cs H x p kd n ws):Ob (cs kd) H x p (vN ws) (kext kd n):=by
 obtain⟨dx,e⟩:=o.ex
 refine{{dx,_,e},o.ls,?_}
 unfold kext
 split
 .exact .inr {_,O}
 .exact .inl O
inductive spR26(cs:Nat->Addr)(kd:Nat)(vs:List V)(H:Hp)(Q:VK)(u3_:XK):Prop
 | mk x p (n c:Nat) (ws:List Nat)(_:vs=[.ref x,.int (c:Int)])(_:Chp cs H x p kd n ws)(_:Kd kd n ws)(_:c<ksize kd ws)(_:∀H',H' p=some (.lst (vN (krd kd ws c)))->(∀b,b≠p->H' b=H b)->Q (.int (klk kd ws c:Int)) H')
inductive spL26(cs:Nat->Addr)(kd:Nat)(vs:List V)(H:Hp)(Q:VK)(u3_:XK):Prop
 | mk x p (n c:Nat) (ws:List Nat)(_:vs=[.ref x,.int (c:Int)])(_:Chp cs H x p kd n ws)(_:Kd kd n ws)(_:c<ksize kd ws)(_:Q (.int (klk kd ws c:Int)) H)
def zcl{cs:Nat->Addr}{kd:Nat}(hk:kd≠4):∀vs H Q E,spL26 cs kd vs H Q E->spLook (cs kd) vs H Q E:=by
 rintro vs H Q E ⟨x,p,n,c,ws,rfl,o,kk,hc,q⟩
 obtain⟨dx,e⟩:=o.ex
 unfold ksize at hc
 unfold klk at q
 rw[if_neg hk] at hc q
 unfold kext at e
 rw[if_neg hk] at e
 have hg:ws[c]?=some (ws.getD c 0):=by rw[Xbq,Xah hc];rfl
 exact{x,p,vN ws,[],c,_,O,{{dx,_,e},o.ls,.inl O},by rw[zan];have:=kk.ln;omega,zlr hg,q}
def zk5{cs:Nat->Addr}:∀vs H Q E,spL26 cs 4 vs H Q E->spPLook (cs 4) vs H Q E:=by
 rintro vs H Q E ⟨x,p,n,c,ws,rfl,o,kk,hc,q⟩
 refine{x,p,n,ws,(c:Int),O,⟨o.ex,o.ls⟩,?_}
 have hc:c<2:=hc
 rcases(show c=0\/c=1 by omega) with rfl|rfl
 .exact .inl ⟨O,q⟩
 .exact .inr ⟨O,q⟩
def zeh{cs:Nat->Addr}{kd:Nat}(hk:kd=0\/kd=1\/kd=2):∀vs H Q E,spR26 cs kd vs H Q E->spLook (cs kd) vs H Q E:=by
 rintro vs H Q E ⟨x,p,n,c,ws,rfl,o,kk,hc,q⟩
 refine zcl (by omega) _ H Q E {x,p,n,c,ws,O,o,kk,hc,q H ?_ λb hb=>O}
 rw[o.ls]
 unfold krd
 rw[if_neg (by omega),if_neg (λz=>by omega)]
def zi4{cs:Nat->Addr}:∀vs H Q E,spR26 cs 3 vs H Q E->spMetR (cs 3) vs H Q E:=by
 rintro vs H Q E ⟨x,p,n,c,ws,rfl,o,kk,hc,q⟩
 obtain⟨dx,e⟩:=o.ex
 obtain⟨v,rfl⟩:∃v,ws=[v]:=by
  have:=kk.l3 O
  cases ws with
  | nil=>cases this
  | cons a b=>cases b with|nil=>exact⟨a,rfl⟩|cons _ _=>cases this
 obtain rfl:c=0:=by have:c<1:=hc;omega
 refine{x,p,[],(v:Int),O,{{dx,_,e},o.ls,.inl O},q _ ?_ λb hb=>zah hb}
 rw[show((v:Int)+1) % 256=(((v+1) % 256:Nat):Int) by omega]
 exact zac
def zkE{cs:Nat->Addr}:∀vs H Q E,spR26 cs 4 vs H Q E->spPRead (cs 4) vs H Q E:=by
 rintro vs H Q E ⟨x,p,n,c,ws,rfl,o,kk,hc,q⟩
 refine{x,p,n,ws,(c:Int),O,⟨o.ex,o.ls⟩,?_}
 have hc:c<2:=hc
 rcases(show c=0\/c=1 by omega) with rfl|rfl
 .exact .inl {O,q _ zac λb hb=>zah hb}
 .exact .inr {O,q _ o.ls λb hb=>O}
structure Dt where
 m:Nat
 x:Nat->Addr
 p:Nat->Addr
 kd:Nat->Nat
 n:Nat->Nat
 sz:Nat->Nat
structure Chs(cs:Nat->Addr)(D:Dt)(Y:Hp)(us:Nat->List Nat):Prop where
 o:∀i,i<D.m->Chp cs Y (D.x i) (D.p i) (D.kd i) (D.n i) (us i)
 k:∀i,i<D.m->Kd (D.kd i) (D.n i) (us i)
 h1:∀i,i<D.m->D.kd i=2\/D.kd i=3->(us i).length=1
 z:∀i,i<D.m->ksize (D.kd i) (us i)=D.sz i
 inj:∀i j,i<D.m->j<D.m->D.p i=D.p j->i=j
 m1:D.m<=200
def Chs.same{cs:Nat->Addr}{D:Dt}{Y Z:Hp}{us:Nat->List Nat}(S:Chs cs D Y us)(s:Same Y Z):Chs cs D Z us:={λi h=>(S.o i h).same s,S.k,S.h1,S.z,S.inj,S.m1}
def zmK{kd n:Nat}(us:List Nat)(c v:Nat):ksize kd (kwr kd n us c v)=ksize kd us:=by
 unfold ksize kwr
 split
 .rfl
 .split
  .rfl
  .rw[XbD]
set_option tactic.hygienic true in
def kz_rd{kd n:Nat}(us:List Nat)(c:Nat)(ku:Kd kd n us):ksize kd (krd kd us c)=ksize kd us:=by
 unfold ksize krd
 split
 .rfl
 .split
  .rename_i e;exact(ku.l3 e).symm
  .split
   .rename_i e1 _ e2;exact absurd e2.1 e1
   .rfl
def k1_of{kd:Nat}{us vs:List Nat}(h:kd=2\/kd=3->us.length=1)(z:ksize kd vs=ksize kd us):kd=2\/kd=3->vs.length=1:=λe=>by
 have h':=h e
 unfold ksize at z
 rw[if_neg (by omega),if_neg (by omega)] at z
 omega
def wset(us:Nat->List Nat)(i:Nat)(vs:List Nat):Nat->List Nat:=λj=>if j=i then vs else us j
def Chs.put{cs:Nat->Addr}{D:Dt}{i:Nat}{Y Z:Hp}{us:Nat->List Nat}{vs:List Nat}(S:Chs cs D Y us)(hi:i<D.m)(kv:Kd (D.kd i) (D.n i) vs)(hz:ksize (D.kd i) vs=ksize (D.kd i) (us i))(e:Z (D.p i)=some (.lst (vN vs)))(k:∀b,b≠D.p i->Z b=Y b):Chs cs D Z (wset us i vs):=by
 refine{λj h=>?_,λj h=>?_,λj h=>?_,λj h=>?_,S.inj,S.m1}
 .obtain⟨d,ed⟩:=(S.o j h).ex
  refine{{d,?_},?_}
  .rw[k _ λz=>by have:=(S.o i hi).ls;rw[<- z,ed] at this;cases this];exact ed
  .unfold wset
   by_cases ej:j=i
   .subst ej;rw[if_pos O];exact e
   .rw[if_neg ej,k _ λz=>ej (S.inj j i h hi z)];exact(S.o j h).ls
 all_goals
  unfold wset
  by_cases ej:j=i
  .subst ej
   rw[if_pos O]
   first|exact kv|exact k1_of (S.h1 j h) hz|exact hz.trans (S.z j h)
  .rw[if_neg ej]
   first|exact S.k j h|exact S.h1 j h|exact S.z j h
def chL(D:Dt):List V:=(List.range D.m).map λi=>.ref (D.x i)
def zdu(D:Dt):(chL D).length=D.m:=by unfold chL;rw[Xag,XaH]
def zdz{D:Dt}{i:Nat}(h:i<D.m):(chL D)[i]?=some (.ref (D.x i)):=by unfold chL;rw[Xao,XbR h];rfl
def Fit(D:Dt)(r:Rw):Prop:=r.c<D.m/\2 ^ ones r.i<=D.sz r.c/\∀c a b,r.l=some (c,a,b)->c<D.m/\D.kd c=2
inductive spFits(cs:Nat->Addr)(vs:List V)(H:Hp)(Q:VK)(u3_:XK):Prop
 | mk (t L:Addr) (r:Rw) (D:Dt) (us:Nat->List Nat)(_:vs=[.ref t,.ref L])(_:RwAt H t r)(_:r.i<2 ^ 16)(_:H L=some (.lst (chL D)))(_:Chs cs D H us)(_:Fit D r)(_:∀H',Same H H'->Q (.bl true) H')
def lkn{p:Addr}{kd n:Nat}{z:Str}(nm:Str)(h1:nm ≠ "head" := by decide)(h2:nm ≠ "held" := by decide)(h3:nm ≠ "room" := by decide):(("head",V.str z)::("held",V.ref p)::kext kd n:List (Str×V)).lookup nm=none:=by
 unfold kext
 have e1:(nm == "head")=false:=beq_eq_false_iff_ne.mpr h1
 have e2:(nm == "held")=false:=beq_eq_false_iff_ne.mpr h2
 have e3:(nm == "room")=false:=beq_eq_false_iff_ne.mpr h3
 split<;>simp[List.lookup_cons,e1,e2,e3]
def zic{f:Addr}{cs:Nat->Addr}{fd:FuncData}(F:FunN K "row_fits" zd0 f fd)(T:Blt mg)(Gones_of:Cal P w K mg base 2 "ones_of" ["mask"] spOnes)(GLatch:mg "Latch"=some (.ref (cs 2)))(kk:W.kitOne K (.ref (cs 2)) (.ref (cs 2))=some true)(TL:∀{H:Hp} {a dx:Addr} {fs:List (Str×V)},H a=some (.ins (cs 2) dx fs)->TyOf K H (.ref a) (.ref (cs 2)))
  (ML:∀kd,kd<5->Mth P w K mg base 1 (cs kd) "__len__" [] (λvs _=>vs) (spLen (cs kd) (lenK kd))):FnOk P w K mg base CX0 3 f fd ["row","chips"] (spFits cs):=by
 refine F.ok scrow_fits (by walk_at"l") (λcdv A outer s H vs Q E hr h=>?_)
 .obtain⟨t,L,r,D,us,rfl,⟨lt,et,hlt⟩,hi,eL,S,⟨f1,f2,f3⟩,k⟩:=h
  refine⟨_,(zab (zbl (zbF (zgI (K:=K) O) (pv 0) (zbi zae) zei) (zba O (zam (pg_L 2 scrow_fits.nd) (zam (pg_L 3 scrow_fits.nd) (zam (pg_L 4 scrow_fits.nd) zaP)))))
   (zab (zaB (PW.pt (zbX (zas op_ge (pv 3) (zao zar (by rfl) T.len PySem.boot_len (zaa (pv 1) zad)) (zav _)) (zby (zas zgZ (zak zdx zae (pe_c Gones_of (zaa (pv 2) zad))) (zgX 1 ⟨O,O,O,O,O⟩ (hrm hr) O T.len (pe_x zal (pv 1) (pv 3))) (zav _))))) (zaf (zap zcX)) zaq)
   (zaf (zap (pe_or (zfT (zb4 (pv 4))) (zbm (zbb (zbj zjk (pe_x zaz (pv 4) zae) (zao zar (by rfl) T.len PySem.boot_len (zaa (pv 1) zad)) (zav _)) (zbm (zao (zhT (K:=K) O) (by rfl) T.isinstance za5 (zaa (pe_x zal (pv 1) (pe_x zaz (pv 4) zae)) (zaa (zhD O GLatch) zad))))))))))),?rd⟩
  have ec:cutV [V.int (r.m:Int),.int (r.w:Int),.int (r.i:Int),.int (r.c:Int),lt] (some 2) none=[.int (r.i:Int),.int (r.c:Int),lt]:=rfl
  have hsz:∀i,i<D.m->D.sz i<=5000:=λi h=>by
   rw[<- S.z i h]
   unfold ksize
   split
   .decide
   .have:=(S.k i h).ln;omega
  refine{_,O,2,O,t,_,O,SqT.of et,(λe=>absurd (congrArg List.length e) (by rw[ec];simp)),λtp htp=>?_}
  rw[ec]
  have s1:=zag (H:=H) (o:=HO.tup [.int (r.i:Int),.int (r.c:Int),lt]) htp
  refine{tp,_,O,SqT.of zac,O,_,_,O,_,_,O,_,_,O,O,?_}
  refine{_,O,_,O,L,_,O,.inl (SqL.of (s1 _ _ eL)),_,_,O,O,_,O,?_}
  rw[zdu,Xan (show¬ (D.m:Int)<=(r.c:Int) by omega)]
  refine iteF {_,O,r.i,O,Xaj hi (by decide),λH2 s2=>?_}
  have S2:=S.same (s1.trans s2)
  have h64:ones r.i<=64:=by
   have:=hsz _ f1
   by_cases hc:ones r.i<=64
   .exact hc
   .have:2 ^ 64<=2 ^ ones r.i:=XaT (by decide) (by omega)
    have:(5000:Nat)<2 ^ 64:=by decide
    omega
  obtain⟨dx,ex⟩:=(S2.o _ f1).ex
  have k5:=(S2.k _ f1).k5
  have hlen:lenK (D.kd r.c) (vN (us r.c))=D.sz r.c:=by
   rw[<- S.z _ f1]
   unfold lenK ksize
   split
   .rfl
   .exact zan _
  refine{_,_,O,O,{by omega,by omega,by decide},_,O,_,O,L,_,_,_,O,O,SqL.of (s2 _ _ (s1 _ _ eL)),zaF (zdz f1),?_}
  refine{_,cs (D.kd r.c),dx,_,_,_,O,ex,ML _ k5,_,_,_,_,O,(S2.o _ f1).ob,?_}
  rw[hlen]
  have hz:=hsz _ f1
  refine{_,O,by omega,by omega,_,_,O,O,_,O,?_}
  have e1:(1:Int)*2 ^ ((ones r.i:Nat):Int).toNat=((2 ^ ones r.i:Nat):Int):=by rw[Int.one_mul,Xav];norm_cast
  rw[Xan (show¬ ((D.sz r.c:Nat):Int)<(1:Int)*2 ^ ((ones r.i:Nat):Int).toNat by rw[e1];omega)]
  refine iteF ?_
  refine zat ?_
  try dsimp only
  have k:=k H2 (s1.trans s2)
  cases hl:r.l with
  | none =>
   rw[hl] at hlt
   obtain rfl:lt=.non:=hlt
   exact{_,O,_,O,iteT k}
  | some o =>
   obtain⟨c,a,b⟩:=o
   rw[hl] at hlt
   obtain⟨u,rfl,eu⟩:=hlt
   obtain⟨g1,g2⟩:=f3 c a b hl
   have eu2:=s2 _ _ (s1 _ _ eu)
   have eL2:=s2 _ _ (s1 _ _ eL)
   obtain⟨dy,ey⟩:=(S2.o _ g1).ex
   rw[g2] at ey
   refine{_,O,_,O,iteF {_,O,u,_,_,_,O,O,SqT.of eu2,O,_,O,L,_,O,.inl (SqL.of eL2),_,_,O,O,_,O,?_}}
   rw[zdu,Xak (show(c:Int)<(D.m:Int) by omega)]
   refine iteT {_,O,_,O,u,_,_,_,O,O,SqT.of eu2,O,L,_,_,_,O,O,SqL.of eL2,zaF (zdz g1),_,_,_,true,O,TL ey,kk,k}
structure Bd where
 b:Addr
 bits:Nat
 R:Addr
 ws:List (Addr×Rw)
 L:Addr
 la:Addr
 keys:List Nat
 W:Addr
 nw:Nat
def bdF(B:Bd)(f:Nat):List (Str×V):=[("bits",.int (B.bits:Int)),("rows",.ref B.R),("chips",.ref B.L),("floating",.int (f:Int)),("latches",.ref B.la),("watches",.ref B.W),("next_watch",.int (B.nw:Int))]
structure RwsFor(D:Dt)(m:Nat)(Y:Hp)(R:Addr)(ws:List (Addr×Rw)):Prop where
 e:Y R=some (.tup (refs ws))
 r:RwsAt2 m Y ws
 f:∀z∈ws,Fit D z.2
 nc:ws.Pairwise λa b=>NC a.2 b.2
 ln:ws.length<=60
def RwsFor.same{D:Dt}{m:Nat}{Y Z:Hp}{R:Addr}{ws:List (Addr×Rw)}(h:RwsFor D m Y R ws)(s:Same Y Z):RwsFor D m Z R ws:={s _ _ h.e,h.r.same s,h.f,h.nc,h.ln}
structure BdAt(C:Addr)(B:Bd)(D:Dt)(Y:Hp)(f:Nat):Prop where
 e:∃db,Y B.b=some (.ins C db (bdF B f))
 b1:1<=B.bits
 b2:B.bits<=16
 rf:RwsFor D B.bits Y B.R B.ws
 ch:Y B.L=some (.lst (chL D))
 la:Y B.la=some (.lst (vN B.keys))
 kl:∀z∈B.ws,∀c a b,z.2.l=some (c,a,b)->c∈B.keys
 ks:∀k∈B.keys,k<D.m/\D.kd k=2
 kn:B.keys.Nodup
 f0:f<=255
 nl:∀i,i<D.m->B.L≠D.p i/\B.la≠D.p i
def BdAt.same{C:Addr}{B:Bd}{D:Dt}{Y Z:Hp}{f:Nat}(h:BdAt C B D Y f)(s:Same Y Z):BdAt C B D Z f:=by
 obtain⟨db,e⟩:=h.e
 exact{{db,s _ _ e},h.b1,h.b2,h.rf.same s,s _ _ h.ch,s _ _ h.la,h.kl,h.ks,h.kn,h.f0,h.nl}
structure ClsBd(K:W.Frag)(C:Addr):Prop where
 cls:Cls K C
 bits:NoAttr K C "bits"
 rows:NoAttr K C "rows"
 chips:NoAttr K C "chips"
 floating:NoAttr K C "floating"
 latches:NoAttr K C "latches"
 watches:NoAttr K C "watches"
 next_watch:NoAttr K C "next_watch"
structure Wa where
 x:Addr
 h:Addr
 m:Nat
 w:Nat
 k:Str
 hs:List (Str×Nat×Nat)
def Wa.on(z:Wa)(k:Str)(a:Nat):Bool:=(decide (z.k="both") || decide (z.k=k))&&decide (a &&& z.m=z.w)
def Wa.hear(k:Str)(a v:Nat)(z:Wa):Wa:=if z.on k a=true then{z with hs:=z.hs++[(k,a,v)]} else z
def Wa.hear_h(k:Str)(a v:Nat)(z:Wa):(z.hear k a v).h=z.h/\(z.hear k a v).x=z.x:=by unfold Wa.hear;split<;>exact⟨O,O⟩
def hrV(d:Str×Nat×Nat):List V:=[.str d.1,.int (d.2.1:Int),.int (d.2.2:Int)]
def waF(z:Wa):List (Str×V):=[("mask",.int (z.m:Int)),("want",.int (z.w:Int)),("kind",.str z.k),("heard",.ref z.h)]
structure WaAt(C:Addr)(Y:Hp)(z:Wa):Prop where
 e:∃dx,Y z.x=some (.ins C dx (waF z))
 l:∃ts:List Addr,Y z.h=some (.lst (ts.map V.ref))/\ts.length=z.hs.length/\∀(i:Nat) (t:Addr) (d:Str×Nat×Nat),ts[i]?=some t->z.hs[i]?=some d->Y t=some (.tup (hrV d))
 n:z.hs.length<=1000000
def NoBd(o:HO):Prop:=(∀l,o≠.lst l)/\(∀q u,o≠.frz q u)/\∀c d B f,o≠.ins c d (bdF B f)
def zkn{z:Wa}{B:Bd}{f:Nat}(h:waF z=bdF B f):False:=by
 have h4:=(List.cons.inj h).1
 exact absurd (congrArg Prod.fst h4) (by show("mask" : Str) ≠ "bits"; decide)
def WaAt.keep{C:Addr}{Y Z:Hp}{z:Wa}(h:WaAt C Y z)(k:∀a o,NoBd o->(∀m,o≠.dK m)->Y a=some o->Z a=some o)(e:∀o,Y z.h=some o->Z z.h=some o):WaAt C Z z:=by
 obtain⟨dx,e1⟩:=h.e
 obtain⟨ts,e2,e3,e4⟩:=h.l
 exact{{dx,k _ _ {(λl q=>by cases q),(λ_ _ q=>by cases q),λc d B f q=>zkn (HO.ins.inj q).2.2} (λm q=>by cases q) e1},{ts,e _ e2,e3,λi t d h1 h2=>k _ _ {(λl q=>by cases q),(λ_ _ q=>by cases q),λc d B f q=>by cases q} (λm q=>by cases q) (e4 i t d h1 h2)},h.n}
structure WsAt(W C:Addr)(Y:Hp)(wl:List (Nat×Wa)):Prop where
 d:Y W=some (.dK (wl.map λz=>(Sum.inl (z.1:Int),V.ref z.2.x)))
 o:∀z∈wl,WaAt C Y z.2
 i:(wl.map λz=>z.2.h).Nodup
 x:(wl.map λz=>z.2.x).Nodup
 m:wl.length<=1000
def WsAt.keep{W C:Addr}{Y Z:Hp}{wl:List (Nat×Wa)}(h:WsAt W C Y wl)(k:∀a o,NoBd o->Y a=some o->Z a=some o)(e:∀z∈wl,∀o,Y z.2.h=some o->Z z.2.h=some o):WsAt W C Z wl:=
 {k _ _ {(λl q=>by cases q),(λ_ _ q=>by cases q),λc d B f q=>by cases q} h.d,λz hz=>(h.o z hz).keep (λa o h _=>k a o h) (e z hz),h.i,h.x,h.m}
def WsAt.same{W C:Addr}{Y Z:Hp}{wl:List (Nat×Wa)}(h:WsAt W C Y wl)(s:Same Y Z):WsAt W C Z wl:=h.keep (λa o _ e=>s _ _ e) λz hz o e=>s _ _ e
def wsH(k:Str)(a v:Nat)(wl:List (Nat×Wa)):List (Nat×Wa):=wl.map λz=>(z.1,z.2.hear k a v)
structure ClsWt(K:W.Frag)(C:Addr):Prop where
 cls:Cls K C
 mask:NoAttr K C "mask"
 want:NoAttr K C "want"
 kind:NoAttr K C "kind"
 heard:NoAttr K C "heard"
inductive spHear(C:Addr)(vs:List V)(H:Hp)(Q:VK)(u3_:XK):Prop
 | mk (z:Wa) (k:Str) (a v:Nat)(_:vs=[.ref z.x,.str k,.int (a:Int),.int (v:Int)])(_:WaAt C H z)(_:z.hs.length<1000000)(_:∀H',WaAt C H' (z.hear k a v)->(∀b o,b≠z.h->H b=some o->H' b=some o)->Q .non H')
structure BW(C CW:Addr)(B:Bd)(D:Dt)(Y:Hp)(f:Nat)(wl:List (Nat×Wa)):Prop where
 b:BdAt C B D Y f
 w:WsAt B.W CW Y wl
 nh:∀z∈wl,z.2.h≠B.L/\z.2.h≠B.la/\∀i,i<D.m->z.2.h≠D.p i
def BW.same{C CW:Addr}{B:Bd}{D:Dt}{Y Z:Hp}{f:Nat}{wl:List (Nat×Wa)}(h:BW C CW B D Y f wl)(s:Same Y Z):BW C CW B D Z f wl:={h.b.same s,h.w.same s,h.nh}
inductive spFinish(C CW:Addr)(vs:List V)(H:Hp)(Q:VK)(u3_:XK):Prop
 | mk (B:Bd) (D:Dt) (f:Nat) (kind:Str) (x v:Nat) (wl:List (Nat×Wa))(_:vs=[.ref B.b,.str kind,.int (x:Int),.int (v:Int)])(_:BW C CW B D H f wl)(_:(∀z∈wl,z.2.hs.length<1000000))(_:v<=255)(_:∀H',BW C CW B D H' v (wsH kind x v wl)->(∀a o,a≠B.b->(∀z∈wl,a≠z.2.h)->H a=some o->H' a=some o)->Q .non H')
def BdAt.fl{C:Addr}{B:Bd}{D:Dt}{Y:Hp}{f v:Nat}{db:Addr}(h:BdAt C B D Y f)(hv:v<=255):BdAt C B D (upd Y B.b (.ins C db (bdF B v))) v:=by
 obtain⟨d0,e⟩:=h.e
 have ne:∀{a:Addr} {o:HO},Y a=some o->(∀x y z,o≠.ins x y z)->upd Y B.b (.ins C db (bdF B v)) a=some o:=λ{a o} ea ho=>by
  rw[zah (λz=>by rw[z,e] at ea;exact ho _ _ _ (Option.some.inj ea).symm)];exact ea
 refine{⟨db,zac⟩,h.b1,h.b2,{ne h.rf.e (by intros;exact(λz=>by cases z)),(λz hz=>?_),h.rf.f,h.rf.nc,h.rf.ln},ne h.ch (by intros;exact(λz=>by cases z)),ne h.la (by intros;exact(λz=>by cases z)),h.kl,h.ks,h.kn,hv,h.nl}
 obtain⟨⟨lt,et,hlt⟩,ok⟩:=h.rf.r z hz
 refine{{lt,ne et (by intros;exact(λz=>by cases z)),?_},ok}
 cases hl:z.2.l with
 | none=>rw[hl] at hlt;exact hlt
 | some o =>
  rw[hl] at hlt
  obtain⟨u,eu,hu⟩:=hlt
  exact{u,eu,ne hu (by intros;exact(λz=>by cases z))}
def hld(us:Nat->List Nat)(c:Nat):Nat:=(us c).getD 0 0
def whoI(B:Bd)(us:Nat->List Nat)(x:Nat):Option Nat:=(B.ws.map (·.2)).findIdx? λr=>ans r x (wrd B.keys (hld us))
inductive spChipOf(C:Addr)(vs:List V)(H:Hp)(Q:VK)(u3_:XK):Prop
 | mk (B:Bd) (D:Dt) (f i:Nat) (z:Addr×Rw)(_:vs=[.ref B.b,.int (i:Int)])(_:BdAt C B D H f)(_:B.ws[i]?=some z)(_:Q (.ref (D.x z.2.c)) H)
def BdAt.lists{C:Addr}{B:Bd}{D:Dt}{Y Z:Hp}{f:Nat}(h:BdAt C B D Y f)(k:∀a o,(∀l,o≠.lst l)->Y a=some o->Z a=some o)(e1:Z B.L=some (.lst (chL D)))(e2:Z B.la=some (.lst (vN B.keys))):BdAt C B D Z f:=by
 obtain⟨db,e⟩:=h.e
 refine{{db,k _ _ (λl z=>by cases z) e},h.b1,h.b2,{k _ _ (λl z=>by cases z) h.rf.e,(λz hz=>?_),h.rf.f,h.rf.nc,h.rf.ln},e1,e2,h.kl,h.ks,h.kn,h.f0,h.nl}
 obtain⟨⟨lt,et,hlt⟩,ok⟩:=h.rf.r z hz
 refine{{lt,k _ _ (λl z=>by cases z) et,?_},ok}
 cases hl:z.2.l with
 | none=>rw[hl] at hlt;exact hlt
 | some o =>
  rw[hl] at hlt
  obtain⟨u,eu,hu⟩:=hlt
  exact{u,eu,k _ _ (λl z=>by cases z) hu}
def zgD{α:Type}(g:Nat->Addr->Addr->α)(k:Str)(a v:Nat)(wl:List (Nat×Wa)):(wsH k a v wl).map (λz=>g z.1 z.2.h z.2.x)=wl.map λz=>g z.1 z.2.h z.2.x:=by
 unfold wsH
 rw[Xa5]
 refine Xbx λz _=>?_
 show g z.1 (z.2.hear k a v).h (z.2.hear k a v).x=_
 rw[(Wa.hear_h k a v z.2).1,(Wa.hear_h k a v z.2).2]
abbrev zc9:Stmt:=top 55
def sccheck_map:FnScope ["bits","rows","chips","number","row"] ["bits","rows","chips"] (zaj zc9):=sck O O O (by decide +kernel)
inductive spChkMap(cs:Nat->Addr)(vs:List V)(H:Hp)(Q:VK)(u3_:XK):Prop
 | mk (m:Nat) (R L:Addr) (D:Dt) (us:Nat->List Nat) (ws:List (Addr×Rw))(_:vs=[.int (m:Int),.ref R,.ref L])(_:1<=m)(_:m<=16)(_:RwsFor D m H R ws)(_:H L=some (.lst (chL D)))(_:Chs cs D H us)(_:∀H',Same H H'->Q .non H')
def zg3{f:Addr}{cs:Nat->Addr}{fd:FuncData}(F:FunN K "check_map" zc9 f fd)(T:Blt mg)(N:Nums mg)(Gis_number:Cal P w K mg base 1 "is_number" ["thing","last"] spIsNum)(Gis_map:Cal P w K mg base 5 "is_map" ["bits","thing"] spMapV)(Grow_fits:Cal P w K mg base 3 "row_fits" ["row","chips"] (spFits cs)):FnOk P w K mg base CX0 6 f fd ["bits","rows","chips"] (spChkMap cs):=by
 refine F.ok sccheck_map (by walk_at"l") (λcdv A outer s H vs Q E hr h=>?_)
 .obtain⟨m,R,L,D,us,ws,rfl,h1,h2,hR,eL,S,k⟩:=h
  refine⟨_,(zab (zaB (PW.pt (zbX (zaO (zaG (pe_c Gis_number (zaa (pv 0) (zaa (zbn O N.MOST_BITS) zad))))) (zby (zas zjk (pv 0) zae (zav _))))) (zaf zaK) zaq)
   (zab (zaB (zaO (zaG (pe_c Gis_map (zaa (pv 0) (zaa (pv 1) zad))))) (zaf zaK) zaq)
   (zaf (zbE PassesOwn.never O (zdT O T.enumerate (zaa (pv 1) zad)) (zba O (zam (pg_L 3 sccheck_map.nd) (zam (pg_L 4 sccheck_map.nd) zaP)))
   (zaf (zaB (zaO (zaG (pe_c Grow_fits (zaa (pv 4) (zaa (pv 2) zad))))) (zaf zaK) zaq)))))),?rd⟩
  refine{_,O,_,_,O,_,O,?_}
  rw[Xak (show 0<=(m:Int)/\(m:Int)<=16 by omega)]
  refine iteF {_,O,_,_,O,O,_,O,?_}
  rw[Xan (show¬ (m:Int)<1 by omega)]
  refine iteF (zat ?_)
  try dsimp only
  refine{_,O,_,O,m,R,ws,O,hR.e,hR.r,Xar hR.ln (by decide),h2,λH1 s1=>{_,O,iteF (zat ?_)}}
  try dsimp only
  refine{_,O,R,O,{_,SqT.of (s1 _ _ hR.e)},?_}
  refine zc1 (K:=K) (a:=R) (xs:=refs ws) (λi U X=>∃(v3 v4:Option V),U=[some (.int (m:Int)),some (.ref R),some (.ref L),v3,v4]/\Same H X) {_,_,O,s1} ?_ ?_ ?_
  .rintro i U X _ ⟨_,_,_,sX⟩
   exact SqT.of (sX _ _ hR.e)
  .rintro i y U9 U X hy hU ⟨v3,v4,rfl,sX⟩
   obtain⟨z,hz,rfl⟩:=zbW hy
   have hm:=Xas hz
   have sU:=sX.trans (zag (o:=.tup [.int (i:Int),.ref z.1]) hU)
   refine zeW ?_
   refine{_,O,_,O,z.1,L,z.2,D,us,O,(hR.r z hm).1.same sU,Xaj (hR.r z hm).2.i0 (XaT (by decide) h2),sU _ _ eL,S.same sU,hR.f z hm,λH2 s2=>{_,O,iteF {_,_,O,sU.trans s2}}}
  .rintro U X ⟨_,_,_,sX⟩
   exact k X sX
abbrev zb8:Stmt:=top 56
def sccheck_clash:FnScope ["rows","clash","address","first","second","words"] ["rows"] (zaj zb8):=sck O O O (by decide +kernel)
inductive spChkCl(vs:List V)(H:Hp)(Q:VK)(u3_:XK):Prop
 | mk (m:Nat) (R:Addr) (D:Dt) (ws:List (Addr×Rw))(_:vs=[.ref R])(_:RwsFor D m H R ws)(_:∀H',Same H H'->Q .non H')
def zfs{f:Addr}{fd:FuncData}(F:FunN K "check_clash" zb8 f fd)(T:Blt mg)(Gclash_of:Cal P w K mg base 4 "clash_of" ["rows"] spClashV):FnOk P w K mg base CX0 5 f fd ["rows"] spChkCl:=by
 refine F.ok sccheck_clash (by walk_at"l") (λcdv A outer s H vs Q E hr h=>?_)
 .obtain⟨m,R,D,ws,rfl,hR,k⟩:=h
  refine⟨_,(zab (ps_L 1 sccheck_clash.nd (pe_c Gclash_of (zaa (pv 0) zad)))
   (zaf (zaB (zbz (zcM (pv 1))) (zab (zbl (pv 1) (zba O (zam (pg_L 2 sccheck_clash.nd) (zam (pg_L 3 sccheck_clash.nd) (zam (pg_L 4 sccheck_clash.nd) (zam (pg_L 5 sccheck_clash.nd) zaP))))))
   (zaf zaK)) zaq))),?rd⟩
  exact{_,O,m,R,ws,O,hR.e,hR.r,hR.nc,Xar hR.ln (by decide),λH1 s1=>{_,O,_,O,iteF (k H1 s1)}}
abbrev zbx:Stmt:=zay (top 58) 0
def zdI:FnScope ["self","bits","rows","chips","floating"] ["self","bits","rows","chips","floating"] (zaj zbx):=sck O O O (by decide +kernel)
def lcs(ws:List (Addr×Rw)):List Nat:=ws.filterMap λz=>z.2.l.map (·.1)
set_option tactic.hygienic true in
def zlf(ys:List Int):(dd ys).Nodup:=by
 have g:∀(l S:List Int),S.Nodup->(l.foldl (λS n=>if n∈S then S else S++[n]) S).Nodup:=by
  intro l
  induction l with
  | nil=>intro S h;exact h
  | cons a l ih =>
   intro S h
   rw[List.foldl_cons]
   refine ih _ ?_
   split
   .exact h
   .rename_i ha
    rw[Xa2]
    exact{h,by simp,λx hx y hy=>by rw[Xad] at hy;subst hy;exactλz=>ha (z▸hx)}
 exact g ys [] Xbg
def zk0{ws:List (Addr×Rw)}{j:Nat}{z:Addr×Rw}(h:ws[j]?=some z):lcs (ws.take (j+1))=lcs (ws.take j)++(z.2.l.map (·.1)).toList:=by
 unfold lcs
 rw[List.take_succ,h,List.filterMap_append]
 congr 1
def lcs_mem{ws:List (Addr×Rw)}{c:Nat}:c∈lcs ws↔∃z∈ws,∃a b,z.2.l=some (c,a,b):=by
 unfold lcs
 rw[List.mem_filterMap]
 constructor
 .rintro⟨z,hz,e⟩
  obtain⟨o,ho,rfl⟩:=Xax.mp e
  exact⟨z,hz,o.2.1,o.2.2,ho⟩
 .rintro⟨z,hz,a,b,e⟩
  exact{z,hz,by rw[e];rfl}
inductive spInitB(C:Addr)(cs:Nat->Addr)(vs:List V)(H:Hp)(Q:VK)(u3_:XK):Prop
 | mk (b db R L:Addr) (m fl:Nat) (D:Dt) (us:Nat->List Nat) (ws:List (Addr×Rw))(_:vs=[.ref b,.int (m:Int),.ref R,.ref L,.int (fl:Int)])(_:H b=some (.ins C db []))(_:1<=m)(_:m<=16)(_:fl<=255)(_:RwsFor D m H R ws)(_:H L=some (.lst (chL D)))(_:Chs cs D H us)(_:∀(B:Bd) (H':Hp),B.b=b->B.bits=m->B.R=R->B.ws=ws->H B.L=none->H B.la=none->H B.W=none->B.nw=0->H' B.W=some (.dK [])->BdAt C B D H' fl->(∀a o,a≠b->H a=some o->H' a=some o)->Q .non H')
def zdP{f:Addr}{C:Addr}{cs:Nat->Addr}{fd:FuncData}{dV:Value}(F:FunD K "__init__" "Board.__init__" zbx dV f fd)(T:Blt mg)(GBsorted:mg "sorted"=none)(cl:ClsBd K C)(Gcheck_map:Cal P w K mg base 6 "check_map" ["bits","rows","chips"] (spChkMap cs))(Gcheck_clash:Cal P w K mg base 5 "check_clash" ["rows"] spChkCl)(Gcheck_word:Cal P w K mg base 3 "check_word" ["word"] spChkWord):FnOk P w K mg base CX0 7 f fd ["self","bits","rows","chips","floating"] (spInitB C cs):=by
 refine F.ok zdI (by walk_at"l") (λcdv A outer s H vs Q E hr h=>?_)
 .obtain⟨b,db,R,L,m,fl,D,us,ws,rfl,eb,h1,h2,hf,hR,eL,S,k⟩:=h
  refine'⟨_,(zab (zau (pe_c Gcheck_map (zaa (pv 1) (zaa (pv 2) (zaa (pv 3) zad)))))
   (zab (zau (pe_c Gcheck_clash (zaa (pv 2) zad)))
   (zab (zau (pe_c Gcheck_word (zaa (pv 4) zad)))
   (zab (zbk (pv 0) (pv 1) O)
   (zab (zbk (pv 0) (pv 2) O)
   (zab (zbk (pv 0) (zbe zdA (by rfl) T.list zcQ (zaa (pv 3) zad)) O)
   (zab (zbk (pv 0) (pv 4) O)
   (zab (zbk (pv 0) (zao (zgq O) (by rfl) GBsorted zgt (zaa ?c1 zad)) O)
   (zab (zbk (pv 0) zhE O)
   (zaf (zbk (pv 0) zae O))))))))))),?rd⟩
  (case c1=>exact(zh7 (Nc:=["row"]) [none] O (zaZ (by rfl)) (zlE (pv 2)) (λ_ _ _ _ _=>(pg_L 0 (show(["row"]:List Str).Nodup by decide +kernel))) (λ_ _ _ _ _=>(zhB (zbz (zcM (pe_x (zhk (K:=K) O) (pv 0) zae))))) (λ_ _ _ _ _=>(pe_x (zhk (K:=K) O) (pe_x (zhk (K:=K) O) (pv 0) zae) zae))))
  refine{_,O,_,O,_,O,m,R,L,D,us,ws,O,h1,h2,hR,eL,S,λH1 s1=>?_}
  refine{_,O,m,R,D,ws,O,hR.same s1,λH2 s2=>?_}
  have s12:=s1.trans s2
  refine{_,O,(fl:Int),O,by omega,by omega,?_}
  refine{_,O,_,O,b,C,db,_,O,s12 _ _ eb,cl.cls,cl.bits,by show 0<1000;decide,?_}
  refine{_,O,_,O,b,C,db,_,O,zac,cl.cls,cl.rows,by show 1<1000;decide,?_}
  have nLb:L≠b:=λz=>by rw[z,eb] at eL;cases eL
  refine{_,O,L,chL D,O,.inl (SqL.of (by rw[zah nLb,zah nLb];exact s12 _ _ eL)),λl hl=>?_}
  have nlb:l≠b:=λz=>by rw[z,zac] at hl;cases hl
  refine{_,O,b,C,db,_,O,by rw[zah (Ne.symm nlb)];exact zac,cl.cls,cl.chips,by show 2<1000;decide,?_}
  refine{_,O,_,O,b,C,db,_,O,zac,cl.cls,cl.floating,by show 3<1000;decide,?_}
  have hl2:H2 l=none:=by rw[zah nlb,zah nlb] at hl;exact hl
  refine zfG (λY=>Y b=some (.ins C db [("bits",.int (m:Int)),("rows",.ref R),("chips",.ref l),("floating",.int (fl:Int))])/\Y l=some (.lst (chL D))/\∀a o,a≠b->H2 a=some o->Y a=some o) {zac,by rw[zah nlb,zah nlb];exact zac,λa o ha ea=>by rw[zah ha,zah ha,zah (zai ea hl2),zah ha,zah ha];exact ea} ?_
  rintro Y ⟨yb,yl,fr⟩
  have nRb:R≠b:=λz=>by have:=hR.e;rw[z,eb] at this;cases this
  have yR:=fr _ _ nRb (s12 _ _ hR.e)
  refine{_,O,R,O,{_,SqT.of yR},?_}
  refine zj1 (K:=K) (xs:=refs ws) (λj ys U H1=>∃v0,U=[v0]/\ys=(lcs (ws.take j)).map (λ(n:Nat)=>(n:Int))/\ys.length<=j/\H1=Y) (by rw[zaw];have:=hR.ln;omega) {none,O,O,Xae _,O} ?_ ?_ ?_
  .rintro j ys U H1 hj ⟨v0,rfl,_,hl',rfl⟩
   exact{SqT.of yR,hl'}
  .rintro j y ys U H1 hy ⟨v0,rfl,hys,hl',rfl⟩
   obtain⟨z,hz,rfl⟩:=zbW hy
   have hm:=Xas hz
   obtain⟨lt,et,hlt⟩:=(hR.r z hm).1
   have yt:=fr _ _ (λe=>by rw[e,eb] at et;cases et) (s12 _ _ et)
   rw[zk0 hz]
   cases hl:z.2.l with
   | none =>
    rw[hl] at hlt
    obtain rfl:lt=.non:=hlt
    exact{_,O,z.1,_,_,_,O,O,SqT.of yt,O,_,O,iteF {_,O,by rw[hys];simp,by omega,O}}
   | some o =>
    obtain⟨c,a,b'⟩:=o
    rw[hl] at hlt
    obtain⟨u,rfl,eu⟩:=hlt
    have yu:=fr _ _ (λe=>by rw[e,eb] at eu;cases eu) (s12 _ _ eu)
    refine{_,O,z.1,_,_,_,O,O,SqT.of yt,O,_,O,iteT {_,O,z.1,_,_,_,O,O,SqT.of yt,O,u,_,_,_,O,O,SqT.of yu,O,(c:Int),O,_,O,by rw[hys];simp,by rw[Xam];simp;omega,O}}
  .rintro ys U H1 ⟨v0,rfl,hys,hl',rfl⟩ d hd
   rw[zaw,Xa7 (Xae _)] at hys
   have hln:=hR.ln
   have hdl:=zlT ys
   rw[zaw] at hl'
   have ndb:d≠b:=λe=>by rw[e,yb] at hd;cases hd
   refine{d,dd ys,O,zac,by omega,λla ns hla pm _=>?_}
   have hns:∀n∈ns,∃c:Nat,n=(c:Int)/\c∈lcs ws:=λn hn=>by
    have:=mem_dd.mp (pm.mem_iff.mp hn)
    rw[hys,XaC] at this
    obtain⟨c,hc,e⟩:=this
    exact⟨c,e.symm,hc⟩
   obtain⟨keys,hk⟩:∃keys:List Nat,ns=keys.map λ(n:Nat)=>(n:Int):=⟨ns.map Int.toNat,by
    rw[Xa5]
    conv=>lhs;rw[<- List.map_id ns]
    refine Xbx λn hn=>?_
    obtain⟨c,e,_⟩:=hns n hn
    show n=((n.toNat:Nat):Int)
    omega⟩
   have knd:keys.Nodup:=by
    have h1:ns.Nodup:=pm.nodup_iff.mpr (zlf ys)
    rw[hk] at h1
    exact(List.pairwise_map.mp h1).imp λh e=>h (by rw[e])
   have kmem:∀c,c∈keys↔c∈lcs ws:=λc=>by
    constructor
    .intro hc
     obtain⟨c',e,hc'⟩:=hns (c:Int) (by rw[hk];exact List.mem_map_of_mem hc)
     rw[show c=c' by omega];exact hc'
    .intro hc
     have:(c:Int)∈ns:=pm.mem_iff.mpr (mem_dd.mpr (by rw[hys];exact List.mem_map_of_mem hc))
     rw[hk,XaC] at this
     obtain⟨c',hc',e⟩:=this
     rw[show c=c' by omega];exact hc'
   have nlab:la≠b:=λe=>by rw[e,zah (Ne.symm ndb),yb] at hla;cases hla
   have nlad:la≠d:=λe=>by rw[e,zac] at hla;cases hla
   have yla:H1 la=none:=by rw[zah nlad] at hla;exact hla
   have eV:ns.map V.int=vN keys:=by rw[hk,Xa5];rfl
   rw[eV]
   refine{_,O,b,C,db,_,O,by rw[zah (Ne.symm nlab),zah (Ne.symm ndb)];exact yb,cl.cls,cl.latches,by show 4<1000;decide,?_}
   refine zfG (λZ=>Z b=some (.ins C db [("bits",.int (m:Int)),("rows",.ref R),("chips",.ref l),("floating",.int (fl:Int)),("latches",.ref la)])/\Z la=some (.lst (vN keys))/\∀a o,a≠b->H1 a=some o->Z a=some o) {zac,by rw[zah nlab];exact zac,λa o ha ea=>by rw[zah ha,zah (zai ea yla),zah (zai ea hd)];exact ea} ?_
   rintro Z ⟨zb,zla,frZ⟩ wd hwd
   have nwb:wd≠b:=λe=>by rw[e,zb] at hwd;cases hwd
   refine{_,O,b,C,db,_,O,by rw[zah (Ne.symm nwb)];exact zb,cl.cls,cl.watches,by show 5<1000;decide,?_}
   refine{_,O,b,C,db,_,O,zac,cl.cls,cl.next_watch,by show 6<1000;decide,?_}
   have frV:∀a o,a≠b->Z a=some o->upd (upd (upd Z wd (.dK [])) b (.ins C db [("bits",.int (m:Int)),("rows",.ref R),("chips",.ref l),("floating",.int (fl:Int)),("latches",.ref la),("watches",.ref wd)])) b (.ins C db (bdF ⟨b,m,R,ws,l,la,keys,wd,0⟩ fl)) a=some o:=λa o ha ea=>by rw[zah ha,zah ha,zah (zai ea hwd)];exact ea
   have frH:∀a o,a≠b->H a=some o->upd (upd (upd Z wd (.dK [])) b (.ins C db [("bits",.int (m:Int)),("rows",.ref R),("chips",.ref l),("floating",.int (fl:Int)),("latches",.ref la),("watches",.ref wd)])) b (.ins C db (bdF ⟨b,m,R,ws,l,la,keys,wd,0⟩ fl)) a=some o:=λa o ha ea=>frV a o ha (frZ a o ha (fr a o ha (s12 _ _ ea)))
   have hlaH:H la=none:=by
    cases h:H la with
    | none=>rfl
    | some o=>have:=fr la o nlab (s12 _ _ h);rw[yla] at this;cases this
   have hwdH:H wd=none:=by
    cases h:H wd with
    | none=>rfl
    | some o=>have:=frZ wd o nwb (fr wd o nwb (s12 _ _ h));rw[hwd] at this;cases this
   refine k {b,m,R,ws,l,la,keys,wd,0} _ O O O O (s12.free hl2) hlaH hwdH O (by rw[zah nwb,zah nwb];exact zac) {⟨db,zac⟩,h1,h2,{frH _ _ nRb hR.e,λz hz=>?_,hR.f,hR.nc,hR.ln},frV _ _ nlb (frZ _ _ nlb yl),frV _ _ nlab zla,λz hz c a b' e=>(kmem c).mpr (lcs_mem.mpr ⟨z,hz,a,b',e⟩),λc hc=>?_,knd,hf,λi hi=>{λe=>?_,λe=>?_}} frH
   .obtain⟨⟨lt,et,hlt⟩,ok⟩:=hR.r z hz
    refine{{lt,frH _ _ (λe=>by rw[e,eb] at et;cases et) et,?_},ok}
    cases hl:z.2.l with
    | none=>rw[hl] at hlt;exact hlt
    | some o =>
     rw[hl] at hlt
     obtain⟨u,eu,hu⟩:=hlt
     exact{u,eu,frH _ _ (λe=>by rw[e,eb] at hu;cases hu) hu}
   .obtain⟨z,hz,a,b',e⟩:=lcs_mem.mp ((kmem c).mp hc)
    exact(hR.f z hz).2.2 c a b' e
   .have:=s12 _ _ (S.o i hi).ls
    rw[<- show l=D.p i from e,hl2] at this
    cases this
   .have hls:=(S.o i hi).ls
    have:=fr _ _ (λe=>by rw[e,eb] at hls;cases hls) (s12 _ _ hls)
    rw[<- show la=D.p i from e,yla] at this
    cases this
abbrev za1:Stmt:=zay (top 8) 0
def zct:FnScope ["self","address"] ["self","address"] (zaj za1):=sck O O O (by decide +kernel)
inductive spNaI(C:Addr)(vs:List V)(H:Hp)(Q:VK)(u3_:XK):Prop
 | mk (e:Addr) (x:Int)(_:vs=[.ref e,.int x])(_:x.natAbs<2 ^ 100)(_:H e=some (.ext (xFr e C none)))(_:∀(dx:Addr) (H':Hp),H dx=none->dx≠e->H' e=some (.ext (xFr e C (some dx)))->H' dx=some (.ext (xDc dx [("address",.int x)]))->(∀b o,b≠e->H b=some o->H' b=some o)->Q .non H')
def zcu{f C fI:Addr}{fd:FuncData}(F:Fun K "__init__" "NoAddress.__init__" za1 f fd)(T:Blt mg)(GSBusError:SupI K mg "BusError")(c:ExcI K C fI)(t1:W.takerIn K C "address"=some none):FnOk P w K mg base CX0 1 f fd ["self","address"] (spNaI C):=by
 refine F.ok zct (by walk_at"l") (λcdv A outer s H vs Q E hr h=>?_)
 .obtain⟨e,x,rfl,hx,ee,k⟩:=h
  refine⟨_,(zab (zau (zmu GSBusError O (zaa (pv 0) (zaa (pe_fsN {_,_,_,O} (pj_str za4 (pj_int (pv 1) pj_nil))) zad))))
   (zaf (zkI O (pv 0) (pv 1) O))),?rd⟩
  refine{_,O,_,O,(by decide:(12:Nat)<=1000),_,O,x,O,Xaj hx (XaT (by decide) (by decide)),λz=>?_}
  refine{e,C,fI,none,_,O,ee,c,?_}
  refine{_,O,_,O,e,C,fI,O,ee,c,t1,λdx hdx ne=>?_}
  refine k dx _ hdx ne (by rw[zah (Ne.symm ne)];exact zac) zac λb o hb eb=>?_
  rw[zah (zai eb hdx),zah hb]
  exact eb
def zjO{f:Addr}(h:W.isFn K (.ref f)=true):∃oI,K.lookup f=some oI/\oI.cls=.type "function" := by
 have h:W.typeIn K (.ref f)=some (.type "function"):=beq_iff_eq.mp h
 unfold W.typeIn at h
 obtain⟨oI,h1,h2⟩:=Xax.mp h
 exact⟨oI,h1,h2⟩
abbrev zbL:Stmt:=zay (top 58) 5
def zec:FnScope ["self","number"] ["self","number"] (zaj zbL):=sck O O O (by decide +kernel)
inductive spInBitsI(C:Addr)(vs:List V)(H:Hp)(Q:VK)(u3_:XK):Prop
 | mk (B:Bd) (D:Dt) (f:Nat) (x:Int)(_:vs=[.ref B.b,.int x])(_:BdAt C B D H f)(_:Q (.bl (decide (0<=x/\x<((2 ^ B.bits:Nat):Int)))) H)
def zeo{f:Addr}{C:Addr}{fd:FuncData}(F:Fun K "in_bits" "Board.in_bits" zbL f fd)(T:Blt mg)(cl:ClsBd K C)(Gis_number:Cal P w K mg base 1 "is_number" ["thing","last"] spIsNum)(Gsize_of:Cal P w K mg base 1 "size_of" ["bits"] spSize):FnOk P w K mg base CX0 2 f fd ["self","number"] (spInBitsI C):=by
 refine F.ok zec (by walk_at"l") (λcdv A outer s H vs Q E hr h=>?_)
 .obtain⟨B,D,f0,x,rfl,hB,k⟩:=h
  refine{_,(zaf (zap (pe_c Gis_number (zaa (pv 1) (zaa (zak zbG (pe_c Gsize_of (zaa (zaE (pv 0) O) zad)) zae) zad))))),?rd}
  obtain⟨db,e⟩:=hB.e
  refine{_,O,_,O,B.b,C,db,_,_,O,e,cl.cls,cl.bits,O,B.bits,O,hB.b2,_,_,O,O,_,_,O,?_}
  have e2:((2 ^ B.bits:Nat):Int)=(2:Int) ^ B.bits:=by norm_cast
  rw[show decide (0<=x/\x<((2 ^ B.bits:Nat):Int))=decide (0<=x/\x<=(2:Int) ^ B.bits-1) from Xbz.mpr {λz=>{by omega,by omega},λz=>by omega}] at k
  exact k
abbrev zaX:Stmt:=zay (top 58) 6
def zb9:FnScope ["self","address"] ["self","address"] (zaj zaX):=sck O O O (by decide +kernel)
inductive spChkAdX(C CT:Addr)(vs:List V)(H:Hp)(Q:VK)(E:XK):Prop
 | mk (B:Bd) (D:Dt) (f:Nat) (x:Int)(_:vs=[.ref B.b,.int x])(_:BdAt C B D H f)(_:x.natAbs<2 ^ 100)(_:((0<=x/\x<((2 ^ B.bits:Nat):Int)/\Q .non H)\/((¬ (0<=x/\x<((2 ^ B.bits:Nat):Int)))/\∀(dx:Addr) (H':Hp),H' dx=some (.ext (xDc dx [("address",.int x)]))->Same H H'->E (.ref CT) (some dx) H')))
def zcj{f C CT:Addr}{fd:FuncData}(F:Fun K "check_address" "Board.check_address" zaX f fd)(T:Blt mg)(M_in_bits:Mth P w K mg base 2 C "in_bits" [] (λvs _=>vs) (spInBitsI C))(GI_NoAddress:XIni P w K mg base 1 "NoAddress" CT (spNaI CT)):FnOk P w K mg base (CX1 P w) 3 f fd ["self","address"] (spChkAdX C CT):=by
 refine F.okX zb9 (by walk_at"l") (λcdv A outer s H vs Q E hr h=>?_)
 .obtain⟨B,D,f0,x,rfl,hB,hx,k⟩:=h
  refine{_,(zaf (zaB (PT.nox (zaO (zaG (zaD 2 ⟨O,O,O,O,O⟩ (hrm hr) (pv 0) (zaa (pv 1) zad))))) (zaf (zi6 (E:=E) GI_NoAddress (hrm hr) O O O (PA.nox (zaa (pv 1) zad)) (λpins U H2 s2 ea od I e n hE=>ziH I e n hE))) zaq)),?rd}
  obtain⟨db,e⟩:=hB.e
  refine{_,O,B.b,C,db,_,_,_,O,e,M_in_bits,O,_,O,B,D,f0,x,O,hB,_,O,?_}
  rcases k with⟨h1,h2,k⟩|⟨hn,k⟩
  .rw[Xak ⟨h1,h2⟩]
   exact iteF k
  .rw[Xan hn]
   refine iteT {_,O,(by decide:(1:Nat)<=1000),λe he=>?_}
   refine{e,x,O,hx,zac,λdx H2 hdx ne e1 e2 fr=>{O,some dx,e1,?_}}
   refine k dx _ (by rw[zhx ne];exact e2) λb o eb=>?_
   have hb:b≠e:=zai eb he
   rw[zhx hb]
   exact fr b o hb (by rw[zah hb];exact eb)
abbrev zdl:Stmt:=zay (top 58) 1
def scBoard_who:FnScope ["self","address","words","number"] ["self","address"] (zaj zdl):=sck O O O (by decide +kernel)
def zks{l:List Nat}{j c:Nat}(hn:l.Nodup)(h:l[j]?=some c):c∉l.take j:=λhm=>by
 obtain⟨i,hi⟩:=Xbr.mp hm
 have hj:i<j:=by
  have:=(Xaf.mp hi).1
  rw[Xa6] at this
  omega
 rw[List.getElem?_take_of_lt hj] at hi
 obtain⟨a1,e1⟩:=Xaf.mp hi
 obtain⟨a2,e2⟩:=Xaf.mp h
 exact(XaE.mp hn) i j a1 a2 hj (e1.trans e2.symm)
inductive spWhoX(C CT:Addr)(cs:Nat->Addr)(vs:List V)(H:Hp)(Q:VK)(E:XK):Prop
 | mk (B:Bd) (D:Dt) (us:Nat->List Nat) (f:Nat) (x:Int)(_:vs=[.ref B.b,.int x])(_:BdAt C B D H f)(_:Chs cs D H us)(_:x.natAbs<2 ^ 100)(_:((∃n:Nat,x=(n:Int)/\n<2 ^ B.bits/\(whoI B us n=none->∀H',Same H H'->Q .non H')/\∀(i:Nat) (z:Addr×Rw),whoI B us n=some i->B.ws[i]?=some z->∀(t:Addr) (H':Hp),H t=none->H' t=some (.tup [.int (i:Int),.int (gath z.2.i n:Int)])->Same H H'->Q (.ref t) H')\/((¬ (0<=x/\x<((2 ^ B.bits:Nat):Int)))/\∀(dx:Addr) (H':Hp),H' dx=some (.ext (xDc dx [("address",.int x)]))->Same H H'->E (.ref CT) (some dx) H')))
def zhb{f:Addr}{C CT:Addr}{cs:Nat->Addr}{fd:FuncData}(F:Fun K "who" "Board.who" zdl f fd)(T:Blt mg)(cl:ClsBd K C)(Ganswering:Cal P w K mg base 2 "answering" ["rows","address","words"] spAnsw)(Gcell_at:Cal P w K mg base 3 "cell_at" ["row","address"] spCellR)
  (MX_check_address:MthX P w K mg base 3 C "check_address" [] (λvs _=>vs) (spChkAdX C CT)) (MK2:Mth P w K mg base 5 (cs 2) "look" [] (λvs _=>vs) (spL26 cs 2)):FnOk P w K mg base (CX1 P w) 6 f fd ["self","address"] (spWhoX C CT cs):=by
 refine F.okX scBoard_who (by walk_at"l") (λcdv A outer s H vs Q E hr h=>?_)
 .obtain⟨B,D,us,f0,x0,rfl,hB,S,hx100,k⟩:=h
  refine⟨_,(zab (zau (zjf 3 ⟨O,O,O,O,O⟩ (hrm hr) (Passes.s zhs) (pv 0) (zaa (pv 1) zad)))
   (zab (zgU (i:=2) (Nc:=["chip","self"]) [none,some 0] scBoard_who.nd O O O (zaZ (by rfl)) (zcg (zaE (pv 0) O)) (λ_ _ _ _ _=>(pg_L 0 (show(["chip","self"]:List Str).Nodup by decide +kernel))) (λ_ _ _ _ _=>zeR) (λ_ _ _ _ _=>(pv 0)) (λ_ _ _ _ _=>(zaD 5 ⟨O,O,O,O,O⟩ (hrm hr) (pe_x (zdU (K:=K) O) (zmv (K:=K) O (pv 1) O) (pv 0)) (zaa zae zad))))
   (zab (PS.nox (ps_L 3 scBoard_who.nd (pe_c Ganswering (zaa (zaE (pv 0) O) (zaa (pv 1) (zaa (pv 2) zad))))))
   (zab (PS.nox (zaB (zbz (zb4 (pv 3))) (zaf (zap zeS)) zaq))
   (zaf (PS.nox (zap (za7 (zaa (pv 3) (zaa (pe_c Gcell_at (zaa (pe_x zaz (zaE (pv 0) O) (pv 3)) (zaa (pv 1) zad))) zad)))))))))),?rd⟩
  obtain⟨db,e⟩:=hB.e
  have hln:B.keys.length<=1000:=by
   have:=zhI D.m B.keys hB.kn λa ha=>(hB.ks a ha).1
   have:=S.m1
   omega
  rcases k.symm with⟨hn,k⟩|⟨x,rfl,hx,k1,k2⟩
  .exact{_,O,B.b,C,db,_,_,_,O,e,MX_check_address,O,_,O,B,D,f0,x0,O,hB,hx100,.inr {hn,λdx H' e1 s1=>k dx H' e1 s1}}
  refine{_,O,B.b,C,db,_,_,_,O,e,MX_check_address,O,_,O,B,D,f0,(x:Int),O,hB,hx100,.inl {by omega,by omega,?_}}
  refine{_,O,B.b,C,db,_,_,O,e,cl.cls,cl.latches,O,B.la,O,{_,SqL.of hB.la},?_}
  refine ziw (K:=K) (xs:=vN B.keys) (λj ys U H1=>∃v0,U=[v0,some (.ref B.b)]/\ys.length=j/\dk ys=dV (B.keys.take j) (hld us)/\H1=H) (by rw[zan];exact hln) ⟨none,O,O,O,O⟩ ?_ ?_ ?_
  .rintro j ys U H1 hj ⟨v0,rfl,hl,_,rfl⟩
   exact{SqL.of hB.la,by omega}
  .rintro j y ys U H1 hy ⟨v0,rfl,hl,hd,rfl⟩
   obtain⟨c,hc,rfl⟩:=ziM hy
   have hcm:=hB.ks c (Xas hc)
   obtain⟨dx,ex⟩:=(S.o c hcm.1).ex
   have kk:=S.k c hcm.1
   have h1:=S.h1 c hcm.1 (.inl hcm.2)
   rw[hcm.2] at ex
   have oc:=S.o c hcm.1
   rw[hcm.2] at oc kk
   have hv:klk 2 (us c) 0=hld us c:=rfl
   refine{_,O,Sum.inl (c:Int),O,_,O,B.b,C,db,_,_,O,e,cl.cls,cl.chips,O,_,O,B.L,_,_,_,O,O,SqL.of hB.ch,zaF (zdz hcm.1),D.x c,cs 2,dx,_,_,_,O,ex,MK2,lkn _,D.x c,D.p c,D.n c,0,us c,O,oc,kk,(by show 0<(us c).length;omega),?_}
   refine{_,O,by rw[Xam,hl];rfl,?_,O}
   rw[zjR,hd,hv]
   rw[dV_new (zks hB.kn hc),List.take_succ,hc]
   unfold dV
   congr 1
   funext z
   show V.int ((if z=c then hld us c else hld us z:Nat):Int)=V.int (hld us z:Int)
   by_cases ez:z=c
   .rw[if_pos ez,ez]
   .rw[if_neg ez]
  .rintro ys U H1 ⟨v0,rfl,hl,hd,rfl⟩ d hdn
   rw[zan,Xa7 (Xae _)] at hd
   rw[hd]
   have s1:=zag (H:=H1) (o:=HO.dK (dV B.keys (hld us))) hdn
   refine{_,O,B.b,C,db,_,_,O,s1 _ _ e,cl.cls,cl.rows,O,_,O,_,O,B.R,d,x,B.ws,B.keys,hld us,O,s1 _ _ hB.rf.e,(λz hz=>(hB.rf.r z hz).1.same s1),zac,λH2 s2=>?_}
   have s12:=s1.trans s2
   cases hw:whoI B us x with
   | none =>
    have ef:fstA (B.ws.map (·.2)) x (wrd B.keys (hld us))=.non:=by unfold fstA;rw[show List.findIdx? (λr=>ans r x (wrd B.keys (hld us))) (B.ws.map (·.2))=none from hw]
    rw[ef]
    exact{_,O,_,O,iteT (k1 hw H2 s12)}
   | some i =>
    have ef:fstA (B.ws.map (·.2)) x (wrd B.keys (hld us))=.int (i:Int):=by unfold fstA;rw[show List.findIdx? (λr=>ans r x (wrd B.keys (hld us))) (B.ws.map (·.2))=some i from hw]
    rw[ef]
    obtain⟨q,hq⟩:∃q,(B.ws.map (·.2))[i]?=some q:=by
     obtain⟨hi,_⟩:=Xba.mp hw
     exact{_,Xah hi}
    rw[Xao] at hq
    obtain⟨z,hz,_⟩:=Xax.mp hq
    have hzm:=hB.rf.r z (Xas hz)
    have hzi:z.2.i<2 ^ 64:=Xaj hzm.2.i0 (XaT (by decide) (by have:=hB.b2;omega))
    refine{_,O,_,O,iteF (zat ?_)}
    try dsimp only
    refine{_,O,_,O,B.b,C,db,_,_,O,s12 _ _ e,cl.cls,cl.rows,O,_,O,B.R,_,_,_,O,O,SqT.of (s12 _ _ hB.rf.e),zaF (zfi hz),_,O,z.1,z.2,x,O,hzm.1.same s12,hzi,λH3 s3=>{by rw[sizeLine_eq];simp,λt ht=>?_}}
    have s13:=s12.trans s3
    exact k2 i z hw hz t _ (s13.free ht) zac (s13.trans (zag ht))
abbrev zbU:Stmt:=zay (top 58) 8
def zeG:FnScope ["self"] ["self"] (zaj zbU):=sck O O O (by decide +kernel)
inductive spFloats(C:Addr)(vs:List V)(H:Hp)(Q:VK)(u3_:XK):Prop
 | mk (B:Bd) (D:Dt) (f:Nat)(_:vs=[.ref B.b])(_:BdAt C B D H f)(_:Q (.int (f:Int)) H)
def zeK{f:Addr}{C:Addr}{fd:FuncData}(F:Fun K "floats" "Board.floats" zbU f fd)(T:Blt mg)(cl:ClsBd K C):FnOk P w K mg base CX0 1 f fd ["self"] (spFloats C):=by
 refine F.ok zeG (by walk_at"l") (λcdv A outer s H vs Q E hr h=>?_)
 .obtain⟨B,D,f0,rfl,hB,k⟩:=h
  refine{_,(zaf (zap (zaE (pv 0) O))),?rd}
  obtain⟨db,e⟩:=hB.e
  exact{_,O,B.b,C,db,_,_,O,e,cl.cls,cl.floating,O,k}
def k21{α:Type}(us zs:List α):List α:=match us,zs with
 | [a,b],[c]=>[a,b,c]
 | _,_=>[]
def zko{vs zs:List V}{us ws:List Value}(g:Vals vs us)(h:Vals zs ws):Vals (k21 vs zs) (k21 us ws):=by
 cases g with
 | nil=>exact .nil
 | cons a g=>cases g with
  | nil=>exact .nil
  | cons b g=>cases g with
   | cons _ _=>exact .nil
   | nil=>cases h with
    | nil=>exact .nil
    | cons c h=>cases h with
     | nil=>exact .cons a (.cons b (.cons c .nil))
     | cons _ _=>exact .nil
abbrev zbs:Stmt:=zay (top 57) 0
def zdE:FnScope ["self","mask","want","kind"] ["self","mask","want","kind"] (zaj zbs):=sck O O O (by decide +kernel)
inductive spWtI(K:W.Frag)(C:Addr)(vs:List V)(H:Hp)(Q:VK)(u3_:XK):Prop
 | mk (a dx:Addr) (m u:Nat) (k:Str)(_:vs=[.ref a,.int (m:Int),.int (u:Int),.str k])(_:H a=some (.ins C dx []))(_:∀(h:Addr) (H':Hp),H h=none->WaAt C H' {a,h,m,u,k,[]}->(∀b o,b≠a->H b=some o->H' b=some o)->Q .non H')
def zdK{f:Addr}{C:Addr}{fd:FuncData}(F:Fun K "__init__" "Watch.__init__" zbs f fd)(T:Blt mg)(cl:ClsWt K C):FnOk P w K mg base CX0 1 f fd ["self","mask","want","kind"] (spWtI K C):=by
 refine F.ok zdE (by walk_at"l") (λcdv A outer s H vs Q E hr h=>?_)
 .obtain⟨a,dx,m,u,kd,rfl,ha,k⟩:=h
  refine⟨_,(zab (zbk (pv 0) (pv 1) O)
   (zab (zbk (pv 0) (pv 2) O)
   (zab (zbk (pv 0) (pv 3) O)
   (zaf (zbk (pv 0) (zaA zad) O))))),?rd⟩
  refine{_,O,_,O,a,C,dx,_,O,ha,cl.cls,cl.mask,by show 0<1000;decide,?_}
  refine{_,O,_,O,a,C,dx,_,O,zac,cl.cls,cl.want,by show 1<1000;decide,?_}
  refine{_,O,_,O,a,C,dx,_,O,zac,cl.cls,cl.kind,by show 2<1000;decide,?_}
  refine{by show 0<=sizeLine;decide,λh hh=>?_}
  have nha:h≠a:=λz=>by rw[z,zac] at hh;cases hh
  refine{_,O,a,C,dx,_,O,by rw[zah (Ne.symm nha)];exact zac,cl.cls,cl.heard,by show 3<1000;decide,?_}
  rw[zah nha,zah nha,zah nha] at hh
  refine k h _ hh {⟨dx,zac⟩,{[],by rw[zah nha];exact zac,O,λi t d e=>by cases e},Nat.zero_le _} λb o hb e=>?_
  rw[zah hb,zah (zai e hh),zah hb,zah hb,zah hb]
  exact e
abbrev zcF:Stmt:=zay (top 57) 1
def zfO:FnScope ["self","kind","address","word"] ["self","kind","address","word"] (zaj zcF):=sck O O O (by decide +kernel)
def zf2{f:Addr}{C:Addr}{fd:FuncData}(F:Fun K "hear" "Watch.hear" zcF f fd)(T:Blt mg)(N:Nums mg)(cl:ClsWt K C):FnOk P w K mg base CX0 1 f fd ["self","kind","address","word"] (spHear C):=by
 refine F.ok zfO (by walk_at"l") (λcdv A outer s H vs Q E hr h=>?_)
 .obtain⟨z,kd,a,v,rfl,hz,hn,k⟩:=h
  refine{_,(zaf (zaB (PW.pt (zhz (zas (zia (K:=K) O) (zaE (pv 0) O) (za7 (zaa (zbY O N.BOTH) (zaa (pv 1) zad))) (by with_unfolding_all rfl)) (zfj (zas zbf (zak zaR (pv 2) (zaE (pv 0) O)) (zaE (pv 0) O) (zav _))))) (zaf (zau (zch PySem.F.plainAttrs_list PySem.F.slot_list_append PySem.F.type_list_append zaS (zaE (pv 0) O) (zaa (za7 (zaa (pv 1) (zaa (pv 2) (zaa (pv 3) zad)))) zad)))) zaq)),?rd}
  obtain⟨dx,e⟩:=hz.e
  obtain⟨ts,el,et,ed⟩:=hz.l
  have off:∀X,Same H X->z.on kd a=false->Q .non X:=λX s h=>k X (by unfold Wa.hear;rw[h];exact hz.keep (λa o _ _ q=>s _ _ q) (λo q=>s _ _ q)) λb o _ q=>s _ _ q
  refine{_,O,z.x,C,dx,_,_,O,e,cl.cls,cl.kind,O,_,O,by show 2<=sizeLine;decide,λt ht=>{t,_,O,.inr (SqT.of zac),O,O,_,O,?_}}
  have s1:=zag (o:=.tup [.str "both",.str kd]) ht
  have e1:=s1 _ _ e
  have ei:inV (V.str z.k) [.str "both",.str kd]=(decide (z.k="both") || decide (z.k=kd)):=by
   show(decide (("both" : Str)=z.k) || (decide (kd=z.k) || false))=_
   rw[Bool.or_false,show decide (("both" : Str)=z.k)=decide (z.k="both") from Xbz.mpr ⟨Eq.symm,Eq.symm⟩,show decide (kd=z.k)=decide (z.k=kd) from Xbz.mpr ⟨Eq.symm,Eq.symm⟩]
  refine ite2 (λh1=>?_) (λh1=>?_)
  .have h1:(decide (z.k="both") || decide (z.k=kd))=true:=ei▸h1
   refine{_,O,_,O,z.x,C,dx,_,_,O,e1,cl.cls,cl.mask,O,_,_,O,O,_,O,z.x,C,dx,_,_,O,e1,cl.cls,cl.want,O,O,_,O,ite2 (λh2=>?_) (λh2=>?_)}
   .have h2:decide (V.int (Builtin.bitAnd (a:Int) (z.m:Int))=V.int (z.w:Int))=true:=h2
    rw[band] at h2
    have h3:a &&& z.m=z.w:=Int.ofNat.inj (V.int.inj (XaK h2))
    have eon:z.on kd a=true:=by unfold Wa.on;rw[h1,Xak h3];rfl
    refine{_,O,z.x,C,dx,_,_,O,e1,cl.cls,cl.heard,O,.inl {O,_,SqL.of (s1 _ _ el)},_,O,_,O,_,O,by show 3<=sizeLine;decide,λu hu=>?_}
    have s2:=s1.trans (zag (o:=.tup [.str kd,.int (a:Int),.int (v:Int)]) hu)
    have nh:∀(b:Addr) (o:HO),(∀l,o≠.lst l)->H b=some o->b≠z.h:=λb o ho q r=>by rw[r,el] at q;exact ho _ (Option.some.inj q).symm
    have nu:u≠z.h:=λr=>by rw[r,s1 _ _ el] at hu;cases hu
    refine{z.h,_,_,O,O,s2 _ _ el,by rw[Xag,et,sizeLine_eq];omega,k _ ?_ λb o h q=>by rw[zah h];exact s2 _ _ q}
    unfold Wa.hear
    rw[eon,if_pos O]
    refine{{dx,by rw[zah (nh _ _ (λl r=>by cases r) e)];exact s2 _ _ e},{ts++[u],by rw[zac,XaD];rfl,by show _=(z.hs++[(kd,a,v)]).length;rw[Xam,Xam,et];rfl,λi t d h4 h5=>?_},by show(z.hs++[(kd,a,v)]).length<=_;rw[Xam];exact hn}
    have h5:(z.hs++[(kd,a,v)])[i]?=some d:=h5
    by_cases hi:i<ts.length
    .rw[Xbt hi] at h4
     rw[Xbt (by omega)] at h5
     have q:=ed i t d h4 h5
     rw[zah (nh _ _ (λl r=>by cases r) q)]
     exact s2 _ _ q
    .rw[Xbp (by omega)] at h4
     rw[Xbp (by omega),<- et] at h5
     cases hj:i-ts.length with
     | zero =>
      rw[hj] at h4 h5
      cases h4
      cases h5
      rw[zah nu]
      exact zac
     | succ j=>rw[hj] at h4;cases h4
   .refine zat (off _ s1 ?_)
    unfold Wa.on
    rw[Xan (p:=a &&& z.m=z.w) (λq=>h2 ?_),XbM]
    show decide (V.int (Builtin.bitAnd (a:Int) (z.m:Int))=V.int (z.w:Int))=true
    rw[band,q]
    exact Xak O
  .refine iteF (zat (off _ s1 ?_))
   unfold Wa.on
   rw[<- ei]
   exact(congrArg (·&&_) (eq_false_of_ne_true h1)).trans O
abbrev zbM:Stmt:=zay (top 58) 7
def zed:FnScope ["self","number"] ["self","number"] (zaj zbM):=sck O O O (by decide +kernel)
def zep{f:Addr}{C:Addr}{fd:FuncData}(F:Fun K "chip_of" "Board.chip_of" zbM f fd)(T:Blt mg)(cl:ClsBd K C):FnOk P w K mg base CX0 1 f fd ["self","number"] (spChipOf C):=by
 refine F.ok zed (by walk_at"l") (λcdv A outer s H vs Q E hr h=>?_)
 .obtain⟨B,D,f0,i,z,rfl,hB,hz,k⟩:=h
  refine{_,(zaf (zap (pe_x zal (zaE (pv 0) O) (pe_x zaz (pe_x zaz (zaE (pv 0) O) (pv 1)) zae)))),?rd}
  obtain⟨db,e⟩:=hB.e
  have hm:=Xas hz
  obtain⟨lt,et,_⟩:=(hB.rf.r z hm).1
  exact{_,O,B.b,C,db,_,_,O,e,cl.cls,cl.chips,O,_,O,B.b,C,db,_,_,O,e,cl.cls,cl.rows,O,_,O,B.R,_,_,_,O,O,SqT.of hB.rf.e,zaF (zfi hz),z.1,_,_,_,O,O,SqT.of et,O,B.L,_,_,_,O,O,SqL.of hB.ch,zaF (zdz (hB.rf.f z hm).1),k}
abbrev zbV:Stmt:=zay (top 58) 4
def scBoard_finish:FnScope ["self","kind","address","word","watch"] ["self","kind","address","word"] (zaj zbV):=sck O O O (by decide +kernel)
def zeL{f:Addr}{C CW:Addr}{fd:FuncData}(F:Fun K "finish" "Board.finish" zbV f fd)(T:Blt mg)(cl:ClsBd K C)(M_hear:Mth P w K mg base 1 CW "hear" [] (λvs _=>vs) (spHear CW)):FnOk P w K mg base CX0 2 f fd ["self","kind","address","word"] (spFinish C CW):=by
 refine F.ok scBoard_finish (by walk_at"l") (λcdv A outer s H vs Q E hr h=>?_)
 .obtain⟨B,D,f0,kind,x,v,wl,rfl,hB,hn,hv,k⟩:=h
  refine⟨_,(zab (zbk (pv 0) (pv 3) O)
   (zaf (zmk (zbE PassesOwn.never O (zmr (zlG PySem.F.plainAttrs_dict PySem.F.slot_dict_values PySem.F.type_dict_values zjv (zaE (pv 0) O))) (pg_L 4 scBoard_finish.nd)
   (zaf (zau (zaD 1 ⟨O,O,O,O,O⟩ (hrm hr) (pv 4) (zaa (pv 1) (zaa (pv 2) (zaa (pv 3) zad)))))))))),?rd⟩
  obtain⟨db,e⟩:=hB.b.e
  refine{_,O,_,O,B.b,C,db,_,O,e,cl.cls,cl.floating,(by unfold bdF;simp),?_}
  have b1:BdAt C B D (upd H B.b (.ins C db (bdF B v))) v:=hB.b.fl hv
  have w1:WsAt B.W CW (upd H B.b (.ins C db (bdF B v))) wl:=hB.w.keep (λa o ho q=>by rw[zah (λz=>by rw[z,e] at q;exact ho.2.2 _ _ _ _ (Option.some.inj q).symm)];exact q) (λz hz o q=>by rw[zah (λy=>by obtain⟨ts,el,_⟩:=(hB.w.o z hz).l;rw[y,e] at el;cases el)];exact q)
  have fr1:∀a o,a≠B.b->H a=some o->upd H B.b (.ins C db (bdF B v)) a=some o:=λa o h q=>by rw[zah h];exact q
  have e1:upd H B.b (.ins C db (bdF B v)) B.b=some (.ins C db (bdF B v)):=zac
  have ew:=w1.d
  refine zfG (λY=>BdAt C B D Y v/\WsAt B.W CW Y wl/\(∀a o,a≠B.b->H a=some o->Y a=some o)/\Y B.b=some (.ins C db (bdF B v))) ⟨b1,w1,fr1,e1⟩ λY ⟨b1,w1,fr1,e1⟩=>?_
  have nl:∀z∈wl,∀(X:Hp) (y:Wa),WaAt CW X y->y.h=z.2.h->∀(a:Addr) (o:HO),(∀l,o≠.lst l)->X a=some o->a≠z.2.h:=λz hz X y hy ey a o ho q r=>by
   obtain⟨ts,el,_⟩:=hy.l
   rw[ey] at el
   rw[r,el] at q
   exact ho _ (Option.some.inj q).symm
  refine{B.W,_,w1.d,_,O,B.b,C,db,_,_,O,e1,cl.cls,cl.watches,O,.inr (.inr (.inl {O,.inl {_,w1.d}})),B.W,_,O,O,w1.d,λp hp=>{p,B.W,_,O,zac,zag hp _ _ w1.d,λq=>?_}}
  have npW:p≠B.W:=λz=>by rw[z,w1.d] at hp;cases hp
  have sp:∀a o,a≠B.W->Y a=some o->upd (upd Y p (.ext (vwV p B.W))) B.W (.frz q (.dK (wl.map λz=>(Sum.inl (z.1:Int),V.ref z.2.x)))) a=some o:=λa o h y=>by rw[zah h];exact zag hp _ _ y
  refine zk9 (a:=B.W) (q:=q) (kvs:=wl.map λz=>(Sum.inl (z.1:Int),V.ref z.2.x)) (λi U X=>∃v4,U=[some (.ref B.b),some (.str kind),some (.int (x:Int)),some (.int (v:Int)),v4]/\X B.W=some (.frz q (.dK (wl.map λz=>(Sum.inl (z.1:Int),V.ref z.2.x))))/\(∀(j:Nat) (z:Nat×Wa),wl[j]?=some z->WaAt CW X (if j<i then z.2.hear kind x v else z.2))/\∀a o,a≠B.W->(∀z∈wl,a≠z.2.h)->Y a=some o->X a=some o) {_,O,zac,λj z hz=>?_,λa o h _ y=>sp a o h y} (λi U X _ ⟨_,_,h,_⟩=>h) ?_ ?_
  .rw[if_neg (Xbn _)]
   have wz:=w1.o z (Xas hz)
   exact wz.keep (λa o _ hd y=>sp _ _ (λr=>by rw[r,w1.d] at y;exact hd _ (Option.some.inj y).symm) y) (λo y=>sp _ _ (λr=>by obtain⟨ts,el,_⟩:=wz.l;rw[r,w1.d] at el;cases el) y)
  .rintro i k0 y U X hk ⟨v4,rfl,eW,hw,fr⟩
   rw[Xao] at hk
   obtain⟨z,hz,ez⟩:=Xax.mp hk
   obtain⟨rfl,rfl⟩:=Prod.mk.inj ez
   have hm:=Xas hz
   have wz:=hw i z hz
   rw[if_neg (XaY _)] at wz
   obtain⟨dx,ex⟩:=wz.e
   refine{_,O,z.2.x,CW,dx,_,_,_,O,ex,M_hear,O,_,O,_,O,_,O,z.2,kind,x,v,O,wz,hn z hm,λX' hz' fr'=>?_}
   have nz:∀(a:Addr) (o:HO),(∀l,o≠.lst l)->X a=some o->a≠z.2.h:=nl z hm X z.2 wz O
   refine{_,O,fr' _ _ (nz _ _ (λl r=>by cases r) eW) eW,λj y hy=>?_,λa o h1 h2 q=>fr' _ _ (h2 z hm) (fr a o h1 h2 q)}
   by_cases ej:j=i
   .subst ej
    rw[hz] at hy
    cases hy
    rw[if_pos (Xbb _)]
    exact hz'
   .have wy:=hw j y hy
    have eq:(if j<i+1 then y.2.hear kind x v else y.2)=(if j<i then y.2.hear kind x v else y.2):=by
     by_cases h:j<i
     .rw[if_pos h,if_pos (by omega)]
     .rw[if_neg h,if_neg (by omega)]
    rw[eq]
    have eh:(if j<i then y.2.hear kind x v else y.2).h=y.2.h:=by
     split
     .exact(Wa.hear_h _ _ _ _).1
     .rfl
    refine wy.keep (λa o ho _ q=>fr' _ _ (nz _ _ ho.1 q) q) (λo q=>fr' _ _ (λr=>ej ?_) q)
    rw[eh] at r
    obtain⟨h1,h2⟩:=Xaf.mp hy
    obtain⟨h3,h4⟩:=Xaf.mp hz
    refine(List.getElem_inj (xs:=wl.map λz=>z.2.h) (h₀:=by rw[Xag];exact h1) (h₁:=by rw[Xag];exact h3) hB.w.i).mp ?_
    rw[Xa8,Xa8,h2,h4]
    exact r
  .rintro U X ⟨v4,rfl,eW,hw,fr⟩
   rw[Xag] at hw
   have frZ:∀a o,(∀z∈wl,a≠z.2.h)->Y a=some o->upd X B.W (.dK (wl.map λz=>(Sum.inl (z.1:Int),V.ref z.2.x))) a=some o:=λa o h y=>by
    by_cases r:a=B.W
    .rw[r] at y ⊢
     rw[zac,<- w1.d]
     exact y
    .rw[zah r];exact fr a o r h y
   have ndl:∀z∈wl,∀(a:Addr) (o:HO),(∀l,o≠.lst l)->Y a=some o->a≠z.2.h:=λz hz a o ho y=>nl z hz Y z.2 (w1.o z hz) O a o ho y
   refine{q,eW,k _ {b1.lists (λa o ho y=>frZ a o (λz hz=>ndl z hz a o ho y) y) (frZ _ _ (λz hz=>Ne.symm (hB.nh z hz).1) b1.ch) (frZ _ _ (λz hz=>Ne.symm (hB.nh z hz).2.1) b1.la),{?_,λz hz=>?_,?_,?_,?_},λz hz=>?_} λa o h1 h2 y=>frZ a o h2 (fr1 a o h1 y)}
   .rw[zgD (λn _ x=>((Sum.inl (n:Int):Key),V.ref x)),zac]
   .unfold wsH at hz
    obtain⟨y,hy,rfl⟩:=XaC.mp hz
    obtain⟨j,hj,ej⟩:=List.mem_iff_getElem.mp hy
    have wy:=hw j y (Xaf.mpr ⟨hj,ej⟩)
    rw[if_pos hj] at wy
    refine wy.keep (λa o ho _ r=>?_) (λo r=>?_)
    .rw[zah (λg=>by rw[g,eW] at r;exact ho.2.1 _ _ (Option.some.inj r).symm)];exact r
    .rw[zah (λg=>by rw[g,eW] at r;obtain⟨ts,el,_⟩:=wy.l;rw[g,eW] at el;cases el)];exact r
   .rw[zgD (λ_ h _=>h)];exact hB.w.i
   .rw[zgD (λ_ _ x=>x)];exact hB.w.x
   .unfold wsH;rw[Xag];exact hB.w.m
   .unfold wsH at hz
    obtain⟨y,hy,rfl⟩:=XaC.mp hz
    show(y.2.hear kind x v).h≠_/\(y.2.hear kind x v).h≠_/\∀i,i<D.m->(y.2.hear kind x v).h≠_
    rw[(Wa.hear_h _ _ _ _).1]
    exact hB.nh y hy
abbrev zcJ:Stmt:=zay (top 58) 2
def scBoard_read:FnScope ["self","address","quiet","found","word","number","cell","chip"] ["self","address","quiet"] (zaj zcJ):=sck O O O (by decide +kernel)
def rdW(B:Bd)(D:Dt)(us:Nat->List Nat)(f x:Nat):Nat:=match whoI B us x with
 | none=>f
 | some i=>match B.ws[i]? with
  | none=>f
  | some z=>klk (D.kd z.2.c) (us z.2.c) (gath z.2.i x)
def rdU(B:Bd)(D:Dt)(us:Nat->List Nat)(x:Nat):Nat->List Nat:=match whoI B us x with
 | none=>us
 | some i=>match B.ws[i]? with
  | none=>us
  | some z=>wset us z.2.c (krd (D.kd z.2.c) (us z.2.c) (gath z.2.i x))
def wrU(B:Bd)(D:Dt)(us:Nat->List Nat)(x v:Nat):Nat->List Nat:=match whoI B us x with
 | none=>us
 | some i=>match B.ws[i]? with
  | none=>us
  | some z=>wset us z.2.c (kwr (D.kd z.2.c) (D.n z.2.c) (us z.2.c) (gath z.2.i x) v)
def BdAt.put{C:Addr}{B:Bd}{D:Dt}{Y Z:Hp}{f i:Nat}{l:List V}(h:BdAt C B D Y f)(hi:i<D.m)(hp:Y (D.p i)=some (.lst l))(k:∀b,b≠D.p i->Z b=Y b):BdAt C B D Z f:=by
 obtain⟨db,e⟩:=h.e
 have ne:∀{a:Addr} {o:HO},Y a=some o->(∀x,o≠.lst x)->Z a=some o:=λ{a o} ea ho=>by
  rw[k a (λz=>by rw[z,hp] at ea;exact ho _ (Option.some.inj ea).symm)];exact ea
 refine{{db,ne e (by intros;exact(λz=>by cases z))},h.b1,h.b2,{ne h.rf.e (by intros;exact(λz=>by cases z)),(λz hz=>?_),h.rf.f,h.rf.nc,h.rf.ln},(by rw[k _ (h.nl i hi).1];exact h.ch),(by rw[k _ (h.nl i hi).2];exact h.la),h.kl,h.ks,h.kn,h.f0,h.nl}
 obtain⟨⟨lt,et,hlt⟩,ok⟩:=h.rf.r z hz
 refine{{lt,ne et (by intros;exact(λz=>by cases z)),?_},ok}
 cases hl:z.2.l with
 | none=>rw[hl] at hlt;exact hlt
 | some o =>
  rw[hl] at hlt
  obtain⟨u,eu,hu⟩:=hlt
  exact{u,eu,ne hu (by intros;exact(λz=>by cases z))}
def zmX{cs:Nat->Addr}{C:Addr}{B:Bd}{D:Dt}{Y:Hp}{f:Nat}{us:Nat->List Nat}(S:Chs cs D Y us)(h:BdAt C B D Y f):∀i,i<D.m->D.x i≠B.b:=λi hi z=>by
 obtain⟨dx,ex⟩:=(S.o i hi).ex
 obtain⟨db,e⟩:=h.e
 rw[z,e] at ex
 have:=Option.some.inj ex
 injection this with _ _ h3
 unfold bdF at h3
 have h4:=(List.cons.inj h3).1
 exact absurd (congrArg Prod.fst h4) (by show("bits" : Str) ≠ "head"; decide)
set_option tactic.hygienic true in
def klk_le{kd n c:Nat}{ws:List Nat}(k:Kd kd n ws)(hl:ws.length<=255\/kd≠4):klk kd ws c<=255:=by
 unfold klk
 have hw:∀v,v∈ws->v<=255:=k.w5
 split
 .rename_i e4
  split
  .have:=(k.pi e4).1;have:=k.n2;omega
  .cases ws with
   | nil=>exact Nat.zero_le _
   | cons a l=>exact hw a Xay
 .rw[Xbq]
  cases h:ws[c]? with
  | none=>exact Nat.zero_le _
  | some v=>exact hw v (Xas h)
def BW.put{C CW:Addr}{B:Bd}{D:Dt}{Y Z:Hp}{f i:Nat}{l:List V}{wl:List (Nat×Wa)}(h:BW C CW B D Y f wl)(hi:i<D.m)(hp:Y (D.p i)=some (.lst l))(k:∀b,b≠D.p i->Z b=Y b):BW C CW B D Z f wl:=
 {h.b.put hi hp k,h.w.keep (λa o ho e=>by rw[k a (λq=>by rw[q,hp] at e;exact ho.1 _ (Option.some.inj e).symm)];exact e) (λz hz o e=>by rw[k _ ((h.nh z hz).2.2 i hi)];exact e),h.nh}
def FrW(b:Addr)(wl:List (Nat×Wa))(D:Dt)(Y Z:Hp):Prop:=∀a o,a≠b->(∀z∈wl,a≠z.2.h)->(∀i,i<D.m->a≠D.p i)->Y a=some o->Z a=some o
def FrW.trans{b:Addr}{wl:List (Nat×Wa)}{D:Dt}{X Y Z:Hp}(h:FrW b wl D X Y)(k:FrW b wl D Y Z):FrW b wl D X Z:=λa o h1 h2 h3 e=>k a o h1 h2 h3 (h a o h1 h2 h3 e)
def FrW.of{b:Addr}{wl:List (Nat×Wa)}{D:Dt}{X Y:Hp}(h:Same X Y):FrW b wl D X Y:=λa o _ _ _ e=>h a o e
def Chs.bw{cs:Nat->Addr}{C CW:Addr}{B:Bd}{D:Dt}{Y Z:Hp}{f:Nat}{us:Nat->List Nat}{wl:List (Nat×Wa)}(S:Chs cs D Y us)(h:BW C CW B D Y f wl)(k:∀a o,a≠B.b->(∀z∈wl,a≠z.2.h)->Y a=some o->Z a=some o):Chs cs D Z us:=by
 refine{λi hi=>?_,S.k,S.h1,S.z,S.inj,S.m1}
 obtain⟨dx,ex⟩:=(S.o i hi).ex
 obtain⟨db,e⟩:=h.b.e
 exact{{dx,k _ _ (zmX S h.b i hi) (λz hz q=>by obtain⟨ts,e2,_⟩:=(h.w.o z hz).l;rw[q,e2] at ex;cases ex) ex},k _ _ (λz=>by have:=(S.o i hi).ls;rw[z,e] at this;cases this) (λz hz=>Ne.symm ((h.nh z hz).2.2 i hi)) (S.o i hi).ls}
inductive spRdX(C CT CW:Addr)(cs:Nat->Addr)(vs:List V)(H:Hp)(Q:VK)(E:XK):Prop
 | mk (B:Bd) (D:Dt) (us:Nat->List Nat) (f:Nat) (y:Int) (q:Bool) (wl:List (Nat×Wa))(_:vs=[.ref B.b,.int y,.bl q])(_:BW C CW B D H f wl)(_:(∀z∈wl,z.2.hs.length<1000000))(_:Chs cs D H us)(_:y.natAbs<2 ^ 100)(_:((∃x:Nat,y=(x:Int)/\x<2 ^ B.bits/\(q=true->∀H',Same H H'->Q (.int (rdW B D us f x:Int)) H')/\(q=false->∀H',BW C CW B D H' (rdW B D us f x) (wsH "read" x (rdW B D us f x) wl)->Chs cs D H' (rdU B D us x)->FrW B.b wl D H H'->Q (.int (rdW B D us f x:Int)) H'))\/((¬ (0<=y/\y<((2 ^ B.bits:Nat):Int)))/\∀(dx:Addr) (H':Hp),H' dx=some (.ext (xDc dx [("address",.int y)]))->Same H H'->E (.ref CT) (some dx) H')))
def zf5{f:Addr}{C CT CW:Addr}{cs:Nat->Addr}{fd:FuncData}{dV:Value}(F:FunD K "read" "Board.read" zcJ dV f fd)(T:Blt mg)(N:Nums mg)(cl:ClsBd K C)
  (MX_who:MthX P w K mg base 6 C "who" [] (λvs _=>vs) (spWhoX C CT cs)) (M_chip_of:Mth P w K mg base 1 C "chip_of" [] (λvs _=>vs) (spChipOf C)) (M_finish:Mth P w K mg base 2 C "finish" [] (λvs _=>vs) (spFinish C CW)) (MK:∀kd,kd<5->Mth P w K mg base 5 (cs kd) "look" [] (λvs _=>vs) (spL26 cs kd)) (MR:∀kd,kd<5->Mth P w K mg base 5 (cs kd) "read" [] (λvs _=>vs) (spR26 cs kd)):FnOk P w K mg base (CX1 P w) 7 f fd ["self","address","quiet"] (spRdX C CT CW cs):=by
 refine F.okX scBoard_read (by walk_at"l") (λcdv A outer s H vs Q E hr h=>?_)
 .obtain⟨B,D,us,f0,x0,q,wl,rfl,hW,hn1,S,hx100,k⟩:=h
  have hB:=hW.b
  refine⟨_,(zab (ps_L 3 scBoard_read.nd (zjf 6 ⟨O,O,O,O,O⟩ (hrm hr) (Passes.s zhs) (pv 0) (zaa (pv 1) zad)))
   (zab (PS.nox (ps_L 4 scBoard_read.nd (zaE (pv 0) O)))
   (zab (PS.nox (zaB (zbz (zcM (pv 3))) (zab (zbl (pv 3) (zba O (zam (pg_L 5 scBoard_read.nd) (zam (pg_L 6 scBoard_read.nd) zaP))))
   (zab (ps_L 7 scBoard_read.nd (zaD 1 ⟨O,O,O,O,O⟩ (hrm hr) (pv 0) (zaa (pv 5) zad)))
   (zaf (ps_L 4 scBoard_read.nd (zhC (zaG (pv 2)) (zaD 5 ⟨O,O,O,O,O⟩ (hrm hr) (pv 7) (zaa (pv 6) zad)) (zaD 5 ⟨O,O,O,O,O⟩ (hrm hr) (pv 7) (zaa (pv 6) zad))))))) zaq))
   (zab (PS.nox (zaB (zaO (zaG (pv 2))) (zaf (zau (zaD 2 ⟨O,O,O,O,O⟩ (hrm hr) (pv 0) (zaa (zbY O N.READ) (zaa (pv 1) (zaa (pv 4) zad)))))) zaq))
   (zaf (PS.nox (zap (pv 4)))))))),?rd⟩
  obtain⟨db,e⟩:=hB.e
  rcases k.symm with⟨hn,k⟩|⟨x,rfl,hx,k1,k2⟩
  .exact{_,O,B.b,C,db,_,_,_,O,e,MX_who,O,_,O,B,D,us,f0,x0,O,hB,S,hx100,.inr {hn,λdx H' e1 s1=>k dx H' e1 s1}}
  refine{_,O,B.b,C,db,_,_,_,O,e,MX_who,O,_,O,B,D,us,f0,(x:Int),O,hB,S,hx100,.inl {x,O,hx,λhw H1 s1=>?_,λi z hw hz t H1 ht et s1=>?_}}
  .have hW1:=hW.same s1
   have hB1:=hW1.b
   have S1:=S.same s1
   obtain⟨d1,e1⟩:=hB1.e
   have ev:rdW B D us f0 x=f0:=by unfold rdW;rw[hw]
   have eu:rdU B D us x=us:=by unfold rdU;rw[hw]
   rw[ev] at k1 k2
   rw[eu] at k2
   refine{_,O,B.b,C,d1,_,_,O,e1,cl.cls,cl.floating,O,?_}
   refine{_,O,_,O,iteF (zat ?_)}
   try dsimp only
   cases q with
   | true=>exact{_,O,_,O,iteF (zat {_,O,k1 O H1 s1})}
   | false =>
    refine{_,O,_,O,iteT {_,O,B.b,C,d1,_,_,_,O,e1,M_finish,O,_,O,_,O,?_}}
    refine{B,D,f0,"read",x,f0,wl,O,hW1,hn1,hB.f0,λH2 hB2 k'=>?_}
    exact{_,O,k2 O H2 hB2 (S1.bw hW1 k') ((FrW.of s1).trans λa o h1 h2 _ ea=>k' a o h1 h2 ea)}
  .have hW1:=hW.same s1
   have hB1:=hW1.b
   have S1:=S.same s1
   obtain⟨d1,e1⟩:=hB1.e
   have hm:=Xas hz
   obtain⟨f1,f2,f3⟩:=hB.rf.f z hm
   have oc:=S1.o _ f1
   have kc:=S1.k _ f1
   have hcell:gath z.2.i x<ksize (D.kd z.2.c) (us z.2.c):=by rw[S.z _ f1];exact Xaj (zjL _ _) f2
   have ev:rdW B D us f0 x=klk (D.kd z.2.c) (us z.2.c) (gath z.2.i x):=by unfold rdW;rw[hw];dsimp only;rw[hz]
   have eu:rdU B D us x=wset us z.2.c (krd (D.kd z.2.c) (us z.2.c) (gath z.2.i x)):=by unfold rdU;rw[hw];dsimp only;rw[hz]
   rw[ev] at k1 k2
   rw[eu] at k2
   have hv:=klk_le (c:=gath z.2.i x) kc (if e4:D.kd z.2.c=4 then .inl (by have:=(kc.pi e4).1;have:=kc.n2;omega) else .inr e4)
   obtain⟨dx,ex⟩:=oc.ex
   refine{_,O,B.b,C,d1,_,_,O,e1,cl.cls,cl.floating,O,?_}
   refine{_,O,_,O,iteT ?_}
   refine{_,O,zhP et ?_}
   refine{_,O,B.b,C,d1,_,_,_,O,e1,M_chip_of,O,_,O,B,D,f0,i,z,O,hB1,hz,?_}
   cases q with
   | true =>
    refine{_,O,_,O,iteT {_,O,D.x z.2.c,cs (D.kd z.2.c),dx,_,_,_,O,ex,MK _ kc.k5,lkn _,_,O,_,_,_,_,_,O,oc,kc,hcell,?_}}
    exact{_,O,_,O,iteF (zat {_,O,k1 O H1 s1})}
   | false =>
    refine{_,O,_,O,iteF {_,O,D.x z.2.c,cs (D.kd z.2.c),dx,_,_,_,O,ex,MR _ kc.k5,lkn _,_,O,_,_,_,_,_,O,oc,kc,hcell,λH2 e2 kp=>?_}}
    have hW2:=hW1.put f1 oc.ls kp
    have S2:=S1.put f1 kc.rd (kz_rd _ _ kc) e2 kp
    obtain⟨d2,e2b⟩:=hW2.b.e
    refine{_,O,_,O,iteT {_,O,B.b,C,d2,_,_,_,O,e2b,M_finish,O,_,O,_,O,?_}}
    refine{B,D,f0,"read",x,_,wl,O,hW2,hn1,hv,λH3 hB3 k'=>?_}
    exact{_,O,k2 O H3 hB3 (S2.bw hW2 k') ((FrW.of s1).trans (FrW.trans (λa o h1 h2 h3 ea=>by rw[kp a (h3 _ f1)];exact ea) λa o h1 h2 _ ea=>k' a o h1 h2 ea))}
abbrev zcd:Stmt:=zay (top 58) 3
def scBoard_write:FnScope ["self","address","word","found","number","cell"] ["self","address","word"] (zaj zcd):=sck O O O (by decide +kernel)
inductive spWrB(C CW:Addr)(cs:Nat->Addr)(vs:List V)(H:Hp)(Q:VK)(u3_:XK):Prop
 | mk (B:Bd) (D:Dt) (us:Nat->List Nat) (f x v:Nat) (wl:List (Nat×Wa))(_:vs=[.ref B.b,.int (x:Int),.int (v:Int)])(_:BW C CW B D H f wl)(_:(∀z∈wl,z.2.hs.length<1000000))(_:Chs cs D H us)(_:x<2 ^ B.bits)(_:v<=255)(_:∀H',BW C CW B D H' v (wsH "write" x v wl)->Chs cs D H' (wrU B D us x v)->FrW B.b wl D H H'->Q .non H')
def zfv{f:Addr}{C CT CW:Addr}{cs:Nat->Addr}{fd:FuncData}(F:Fun K "write" "Board.write" zcd f fd)(T:Blt mg)(N:Nums mg)(Gcheck_word:Cal P w K mg base 3 "check_word" ["word"] spChkWord)
  (M_who:Mth P w K mg base 6 C "who" [] (λvs _=>vs) (λvs H Q _=>spWhoX C CT cs vs H Q λ_ _ _=>False)) (M_chip_of:Mth P w K mg base 1 C "chip_of" [] (λvs _=>vs) (spChipOf C)) (M_finish:Mth P w K mg base 2 C "finish" [] (λvs _=>vs) (spFinish C CW)) (MW:∀kd,kd<5->Mth P w K mg base 5 (cs kd) "write" [] (λvs _=>vs) (spW25 cs kd)):FnOk P w K mg base CX0 7 f fd ["self","address","word"] (spWrB C CW cs):=by
 refine F.ok scBoard_write (by walk_at"l") (λcdv A outer s H vs Q E hr h=>?_)
 .obtain⟨B,D,us,f0,x,v,wl,rfl,hW,hn1,S,hx,hv,k⟩:=h
  have hB:=hW.b
  have h16:2 ^ B.bits<=2 ^ 16:=XaT (by decide) hB.b2
  refine⟨_,(zab (ps_L 3 scBoard_write.nd (zaD 6 ⟨O,O,O,O,O⟩ (hrm hr) (pv 0) (zaa (pv 1) zad)))
   (zab (zau (pe_c Gcheck_word (zaa (pv 2) zad)))
   (zab (zaB (zbz (zcM (pv 3))) (zab (zbl (pv 3) (zba O (zam (pg_L 4 scBoard_write.nd) (zam (pg_L 5 scBoard_write.nd) zaP))))
   (zaf (zau (zaD 5 ⟨O,O,O,O,O⟩ (hrm hr) (zaD 1 ⟨O,O,O,O,O⟩ (hrm hr) (pv 0) (zaa (pv 4) zad)) (zaa (pv 5) (zaa (pv 2) zad)))))) zaq)
   (zaf (zau (zaD 2 ⟨O,O,O,O,O⟩ (hrm hr) (pv 0) (zaa (zbY O N.WRITE) (zaa (pv 1) (zaa (pv 2) zad))))))))),?rd⟩
  obtain⟨db,e⟩:=hB.e
  refine{_,O,B.b,C,db,_,_,_,O,e,M_who,O,_,O,B,D,us,f0,(x:Int),O,hB,S,Xaj (show x<_ from hx) (Xar h16 (by decide)),.inl {x,O,hx,λhw H1 s1=>?_,λi z hw hz t H1 ht et s1=>?_}}
  .have hW1:=hW.same s1
   have hB1:=hW1.b
   have S1:=S.same s1
   obtain⟨d1,e1⟩:=hB1.e
   have eu:wrU B D us x v=us:=by unfold wrU;rw[hw]
   rw[eu] at k
   refine{_,O,(v:Int),O,by omega,by omega,?_}
   refine{_,O,_,O,iteF (zat ?_)}
   try dsimp only
   refine{_,O,B.b,C,d1,_,_,_,O,e1,M_finish,O,_,O,_,O,?_}
   refine{B,D,f0,"write",x,v,wl,O,hW1,hn1,hv,λH2 hB2 k'=>?_}
   exact k H2 hB2 (S1.bw hW1 k') ((FrW.of s1).trans λa o h1 h2 _ ea=>k' a o h1 h2 ea)
  .have hW1:=hW.same s1
   have hB1:=hW1.b
   have S1:=S.same s1
   obtain⟨d1,e1⟩:=hB1.e
   have hm:=Xas hz
   obtain⟨f1,f2,f3⟩:=hB.rf.f z hm
   have oc:=S1.o _ f1
   have kc:=S1.k _ f1
   have hcell:gath z.2.i x<ksize (D.kd z.2.c) (us z.2.c):=by rw[S.z _ f1];exact Xaj (zjL _ _) f2
   have eu:wrU B D us x v=wset us z.2.c (kwr (D.kd z.2.c) (D.n z.2.c) (us z.2.c) (gath z.2.i x) v):=by unfold wrU;rw[hw];dsimp only;rw[hz]
   rw[eu] at k
   obtain⟨dx,ex⟩:=oc.ex
   refine{_,O,(v:Int),O,by omega,by omega,?_}
   refine{_,O,_,O,iteT ?_}
   refine{_,O,zhP et ?_}
   refine{_,O,B.b,C,d1,_,_,_,O,e1,M_chip_of,O,_,O,B,D,f0,i,z,O,hB1,hz,?_}
   refine{D.x z.2.c,cs (D.kd z.2.c),dx,_,_,_,O,ex,MW _ kc.k5,lkn _,_,O,_,O,_,_,_,_,_,_,O,oc,kc,hcell,hv,λH2 e2 kp=>?_}
   have hW2:=hW1.put f1 oc.ls kp
   have S2:=S1.put f1 (kc.wr hv) (zmK _ _ _) e2 kp
   obtain⟨d2,e2b⟩:=hW2.b.e
   refine{_,O,B.b,C,d2,_,_,_,O,e2b,M_finish,O,_,O,_,O,?_}
   refine{B,D,f0,"write",x,v,wl,O,hW2,hn1,hv,λH3 hB3 k'=>?_}
   exact k H3 hB3 (S2.bw hW2 k') ((FrW.of s1).trans (FrW.trans (λa o h1 h2 h3 ea=>by rw[kp a (h3 _ f1)];exact ea) λa o h1 h2 _ ea=>k' a o h1 h2 ea))
abbrev zce:Stmt:=zay (top 58) 12
def scBoard_watch:FnScope ["self","mask","want","kind","number"] ["self","mask","want","kind"] (zaj zce):=sck O O O (by decide +kernel)
def Bd.next(B:Bd):Bd:={B with nw:=B.nw+1}
inductive spWatchC(C CW:Addr)(vs:List V)(H:Hp)(Q:VK)(u3_:XK):Prop
 | mk (B:Bd) (D:Dt) (f m u:Nat) (k:Str) (wl:List (Nat×Wa))(_:vs=[.ref B.b,.int (m:Int),.int (u:Int),.str k])(_:BW C CW B D H f wl)(_:m<2 ^ B.bits)(_:u<2 ^ B.bits)(_:(k="read" \/ k="write" \/ k="both"))(_:(∀z∈wl,z.1<B.nw))(_:wl.length<900)(_:(∀i,i<D.m->H (D.p i)≠none))(_:∀(x h:Addr) (H':Hp),H x=none->H h=none->BW C CW B.next D H' f (wl++[(B.nw,{x,h,m,u,k,[]})])->(∀a o,a≠B.b->a≠B.W->H a=some o->H' a=some o)->Q (.int (B.nw:Int)) H')
def BdAt.nxt{C:Addr}{B:Bd}{D:Dt}{Y Z:Hp}{f:Nat}{db:Addr}(h:BdAt C B D Y f)(e:Z B.b=some (.ins C db (bdF B.next f)))(k:∀a o,a≠B.b->(∀m,o≠.dK m)->Y a=some o->Z a=some o):BdAt C B.next D Z f:=by
 obtain⟨d0,e0⟩:=h.e
 have ne:∀{a:Addr} {o:HO},Y a=some o->(∀x y z,o≠.ins x y z)->(∀m,o≠.dK m)->Z a=some o:=λ{a o} ea ho hd=>k _ _ (λz=>by rw[z,e0] at ea;exact ho _ _ _ (Option.some.inj ea).symm) hd ea
 refine{⟨db,e⟩,h.b1,h.b2,{ne h.rf.e (λ_ _ _ z=>by cases z) (λ_ z=>by cases z),(λz hz=>?_),h.rf.f,h.rf.nc,h.rf.ln},ne h.ch (λ_ _ _ z=>by cases z) (λ_ z=>by cases z),ne h.la (λ_ _ _ z=>by cases z) (λ_ z=>by cases z),h.kl,h.ks,h.kn,h.f0,h.nl}
 obtain⟨⟨lt,et,hlt⟩,ok⟩:=h.rf.r z hz
 refine{{lt,ne et (λ_ _ _ z=>by cases z) (λ_ z=>by cases z),?_},ok}
 cases hl:z.2.l with
 | none=>rw[hl] at hlt;exact hlt
 | some o =>
  rw[hl] at hlt
  obtain⟨u,eu,hu⟩:=hlt
  exact{u,eu,ne hu (λ_ _ _ z=>by cases z) (λ_ z=>by cases z)}
def zl3{wl:List (Nat×Wa)}{n:Nat}(h:∀z∈wl,z.1<n):valV (wl.map λz=>((Sum.inl (z.1:Int):Key),V.ref z.2.x)) (Sum.inl (n:Int))=none:=by
 unfold valV
 rw[List.find?_eq_none.mpr,Option.map_none]
 intro q hq
 obtain⟨z,hz,rfl⟩:=XaC.mp hq
 have:=h z hz
 rw[decide_eq_true_eq]
 intro e
 have:=Sum.inl.inj e
 omega
def zfw{f:Addr}{C CW:Addr}{fd:FuncData}{dV:Value}(F:FunD K "watch" "Board.watch" zce dV f fd)(T:Blt mg)(N:Nums mg)(cl:ClsBd K C)(M_in_bits:Mth P w K mg base 2 C "in_bits" [] (λvs _=>vs) (spInBitsI C))(GMWatch_3:Mak P w K mg base 1 "Watch" CW [] (dP []) (spWtI K CW)):FnOk P w K mg base CX0 4 f fd ["self","mask","want","kind"] (spWatchC C CW):=by
 refine F.ok scBoard_watch (by walk_at"l") (λcdv A outer s H vs Q E hr h=>?_)
 .obtain⟨B,D,f0,m,u,kd,wl,rfl,hW,hm,hu,hk,hlt,hl,hpi,k⟩:=h
  refine⟨_,(zab (zaB (PW.pt (zbX (zaO (zaG (zaD 2 ⟨O,O,O,O,O⟩ (hrm hr) (pv 0) (zaa (pv 1) zad)))) (zbX (zaO (zaG (zaD 2 ⟨O,O,O,O,O⟩ (hrm hr) (pv 0) (zaa (pv 2) zad)))) (zby (zas (zfo (K:=K) O) (pv 3) (za7 (zaa (zbY O N.READ) (zaa (zbY O N.WRITE) (zaa (zbY O N.BOTH) zad)))) (by with_unfolding_all rfl)))))) (zaf zaK) zaq)
   (zab (ps_L 4 scBoard_watch.nd (zaE (pv 0) O))
   (zab (zml (zdQ hr) (zaE (pv 0) O) (pv 4) (zdw GMWatch_3 (hrm hr) O (zaa (pv 1) (zaa (pv 2) (zaa (pv 3) zad)))) O)
   (zab (zi7 (pv 0) zae in_add)
   (zaf (zap (pv 4))))))),?rd⟩
  obtain⟨db,e⟩:=hW.b.e
  refine{_,O,B.b,C,db,_,_,_,O,e,M_in_bits,O,_,O,B,D,f0,(m:Int),O,hW.b,_,O,?_}
  rw[Xak (show 0<=(m:Int)/\(m:Int)<((2 ^ B.bits:Nat):Int) by omega)]
  refine iteF ?_
  refine{_,O,B.b,C,db,_,_,_,O,e,M_in_bits,O,_,O,B,D,f0,(u:Int),O,hW.b,_,O,?_}
  rw[Xak (show 0<=(u:Int)/\(u:Int)<((2 ^ B.bits:Nat):Int) by omega)]
  refine iteF ?_
  refine{_,O,by show 3<=sizeLine;decide,λt ht=>{t,_,O,.inr (SqT.of zac),O,O,_,O,?_}}
  have hi:inV (V.str kd) [.str "read",.str "write",.str "both"]=true:=by rcases hk with rfl|rfl|rfl<;>rfl
  refine ite2 (λh1=>?_) (λ_=>zat ?_)
  .exfalso
   rw[if_pos O,hi] at h1
   cases h1
  try dsimp only
  have s1:=zag (o:=.tup [.str "read",.str "write",.str "both"]) ht
  have W1:=hW.same s1
  refine{_,O,B.b,C,db,_,_,O,s1 _ _ e,cl.cls,cl.next_watch,O,?_}
  refine zfG (λY=>BW C CW B D Y f0 wl/\Same H Y/\Y B.b=some (.ins C db (bdF B f0))) {W1,s1,s1 _ _ e} λY ⟨W1,s1,e1⟩=>?_
  refine{_,O,_,O,_,O,λx dx hx hdx _=>{x,dx,m,u,kd,O,zac,λh Z hh hz fr=>{O,?_}}}
  have sB:Same Y (upd (upd Y dx (.own x)) x (.ins CW dx [])):=zgT hx hdx
  have hY:Y h=none:=sB.free hh
  have s2:Same Y Z:=λb o q=>fr _ _ (zai q hx) (sB _ _ q)
  have e2:=s2 _ _ e1
  have W2:=W1.same s2
  refine{_,O,B.b,C,db,_,_,O,e2,cl.cls,cl.watches,O,_,O,B.W,_,O,DPut.k (k:=Sum.inl (B.nw:Int)) W2.w.d (by rw[Xag,sizeLine_eq];omega),?_}
  rw[zkG _ (zl3 hlt)]
  have nbW:B.b≠B.W:=λz=>by have:=W2.w.d;rw[<- z,e2] at this;cases this
  refine{_,O,B.b,C,db,_,_,O,by rw[zah nbW];exact e2,cl.cls,cl.next_watch,O,_,_,O,O,db,_,by rw[zah nbW];exact e2,by show 7<1000;decide,?_}
  have kz:∀a o,NoBd o->(∀m,o≠.dK m)->Z a=some o->upd (upd Z B.W (.dK ((wl.map λz=>(Sum.inl (z.1:Int),V.ref z.2.x))++[(Sum.inl (B.nw:Int),V.ref x)]))) B.b (.ins C db (putF "next_watch" (.int ((B.nw:Int)+1)) (bdF B f0))) a=some o:=λa o ho hd q=>by
   rw[zah (λg=>by rw[g,e2] at q;exact ho.2.2 _ _ _ _ (Option.some.inj q).symm),zah (λg=>by rw[g,W2.w.d] at q;exact hd _ (Option.some.inj q).symm)];exact q
  have kl:∀a l,Z a=some (.lst l)->upd (upd Z B.W (.dK ((wl.map λz=>(Sum.inl (z.1:Int),V.ref z.2.x))++[(Sum.inl (B.nw:Int),V.ref x)]))) B.b (.ins C db (putF "next_watch" (.int ((B.nw:Int)+1)) (bdF B f0))) a=some (.lst l):=λa l q=>by
   rw[zah (λg=>by rw[g,e2] at q;cases q),zah (λg=>by rw[g,W2.w.d] at q;cases q)];exact q
  refine{_,O,k x h _ (s1.free hx) (s1.free hY) {W2.b.nxt zac λa o h1 h2 q=>?_,{?_,λz hz1=>?_,?_,?_,?_},λz hz1=>?_} λa o h1 h2 q=>?_}
  .rw[zah h1,zah (λg=>by rw[g,W2.w.d] at q;exact h2 _ (Option.some.inj q).symm)];exact q
  .show upd (upd Z B.W _) B.b _ B.W=_
   rw[zah (Ne.symm nbW),zac,XaD]
   rfl
  .rcases XaI.mp hz1 with q|q
   .exact(W2.w.o z q).keep kz λo r=>by obtain⟨ts,el,_⟩:=(W2.w.o z q).l;rw[kl _ _ el,<- el];exact r
   .rw[Xad.mp q]
    exact hz.keep kz λo r=>by obtain⟨ts,el,_⟩:=hz.l;rw[kl _ _ el,<- el];exact r
  .rw[XaD,Xa2]
   refine{W2.w.i,by simp,λa ha b hb=>?_}
   obtain⟨z,q,rfl⟩:=XaC.mp ha
   rw[Xad.mp hb]
   obtain⟨ts,el,_⟩:=(W1.w.o z q).l
   exact zai el hY
  .rw[XaD,Xa2]
   refine{W2.w.x,by simp,λa ha b hb=>?_}
   obtain⟨z,q,rfl⟩:=XaC.mp ha
   rw[Xad.mp hb]
   obtain⟨dz,ez⟩:=(W1.w.o z q).e
   exact zai ez hx
  .rw[Xam];show wl.length+1<=1000;omega
  .rcases XaI.mp hz1 with q|q
   .exact hW.nh z q
   .rw[Xad.mp q]
    exact{Ne.symm (zai W1.b.ch hY),Ne.symm (zai W1.b.la hY),λi hi g=>hpi i hi (s1.free (g▸hY))}
  .rw[zah h1,zah h2];exact s2 _ _ (s1 _ _ q)
abbrev za6:Stmt:=zay (top 58) 13
def zcA:FnScope ["self","number"] ["self","number"] (zaj za6):=sck O O O (by decide +kernel)
def WNo(wl:List (Nat×Wa))(n:Nat)(z:Nat×Wa):Prop:=valV (wl.map λz=>((Sum.inl (z.1:Int):Key),V.ref z.2.x)) (Sum.inl (n:Int))=some (.ref z.2.x)/\z∈wl
inductive spChkWt(C CW:Addr)(vs:List V)(H:Hp)(Q:VK)(u3_:XK):Prop
 | mk (B:Bd) (D:Dt) (f n:Nat) (wl:List (Nat×Wa)) (z:Nat×Wa)(_:vs=[.ref B.b,.int (n:Int)])(_:BW C CW B D H f wl)(_:WNo wl n z)(_:Q .non H)
def zcP{f:Addr}{C CW:Addr}{fd:FuncData}(F:Fun K "check_watch" "Board.check_watch" za6 f fd)(T:Blt mg)(cl:ClsBd K C):FnOk P w K mg base CX0 1 f fd ["self","number"] (spChkWt C CW):=by
 refine F.ok zcA (by walk_at"l") (λcdv A outer s H vs Q E hr h=>?_)
 .obtain⟨B,D,f0,n,wl,z,rfl,hW,hn,k⟩:=h
  refine{_,(zaf (zaB (zbz (zjh (zdQ hr) (pv 1) (zaE (pv 0) O))) (zaf zaK) zaq)),?rd}
  obtain⟨db,e⟩:=hW.b.e
  refine{_,O,_,O,B.b,C,db,_,_,O,e,cl.cls,cl.watches,O,B.W,_,O,DGet.k (k:=Sum.inl (n:Int)) hW.w.d,_,O,?_}
  rw[hn.1]
  exact iteF (zat k)
abbrev zcK:Stmt:=zay (top 58) 14
def scBoard_news:FnScope ["self","number","watch","heard"] ["self","number"] (zaj zcK):=sck O O O (by decide +kernel)
def wsN(x h:Addr)(wl:List (Nat×Wa)):List (Nat×Wa):=wl.map λy=>if y.2.x=x then(y.1,{y.2 with h:=h,hs:=[]}) else y
def ziJ{α:Type}(g:Nat->Addr->α)(x h:Addr)(wl:List (Nat×Wa)):(wsN x h wl).map (λz=>g z.1 z.2.x)=wl.map λz=>g z.1 z.2.x:=by
 unfold wsN
 rw[Xa5]
 refine Xbx λz _=>?_
 show g (if z.2.x=x then(z.1,{z.2 with h:=h,hs:=[]}) else z).1 (if z.2.x=x then(z.1,{z.2 with h:=h,hs:=[]}) else z).2.x=_
 split<;>rfl
def BdAt.kw{C:Addr}{B:Bd}{D:Dt}{Y Z:Hp}{f:Nat}(h:BdAt C B D Y f)(k:∀a o,(∀c d y,o≠.ins c d (waF y))->Y a=some o->Z a=some o):BdAt C B D Z f:=by
 obtain⟨db,e⟩:=h.e
 refine{{db,k _ _ (λc d y g=>zkn (HO.ins.inj g).2.2.symm) e},h.b1,h.b2,{k _ _ (λ_ _ _ z=>by cases z) h.rf.e,(λz hz=>?_),h.rf.f,h.rf.nc,h.rf.ln},k _ _ (λ_ _ _ z=>by cases z) h.ch,k _ _ (λ_ _ _ z=>by cases z) h.la,h.kl,h.ks,h.kn,h.f0,h.nl}
 obtain⟨⟨lt,et,hlt⟩,ok⟩:=h.rf.r z hz
 refine{{lt,k _ _ (λ_ _ _ z=>by cases z) et,?_},ok}
 cases hl:z.2.l with
 | none=>rw[hl] at hlt;exact hlt
 | some o =>
  rw[hl] at hlt
  obtain⟨u,eu,hu⟩:=hlt
  exact{u,eu,k _ _ (λ_ _ _ z=>by cases z) hu}
inductive spNews(C CW:Addr)(vs:List V)(H:Hp)(Q:VK)(u3_:XK):Prop
 | mk (B:Bd) (D:Dt) (f n:Nat) (wl:List (Nat×Wa)) (z:Nat×Wa)(_:vs=[.ref B.b,.int (n:Int)])(_:BW C CW B D H f wl)(_:WNo wl n z)(_:(∀i,i<D.m->H (D.p i)≠none))(_:∀(h:Addr) (H':Hp),H h=none->BW C CW B D H' f (wsN z.2.x h wl)->(∀a o,a≠z.2.x->H a=some o->H' a=some o)->Q (.ref z.2.h) H')
def zf6{f:Addr}{C CW:Addr}{fd:FuncData}(F:Fun K "news" "Board.news" zcK f fd)(T:Blt mg)(cl:ClsBd K C)(cw:ClsWt K CW)(M_check_watch:Mth P w K mg base 1 C "check_watch" [] (λvs _=>vs) (spChkWt C CW)):FnOk P w K mg base CX0 2 f fd ["self","number"] (spNews C CW):=by
 refine F.ok scBoard_news (by walk_at"l") (λcdv A outer s H vs Q E hr h=>?_)
 .obtain⟨B,D,f0,n,wl,z,rfl,hW,hn,hpi,k⟩:=h
  refine⟨_,(zab (zau (zaD 1 ⟨O,O,O,O,O⟩ (hrm hr) (pv 0) (zaa (pv 1) zad)))
   (zab (ps_L 2 scBoard_news.nd (zfm (zdQ hr) (zaE (pv 0) O) (pv 1) (λ_ _=>O)))
   (zab (ps_L 3 scBoard_news.nd (zaE (pv 2) O))
   (zab (zbk (pv 2) (zaA zad) O)
   (zaf (zap (pv 3))))))),?rd⟩
  obtain⟨db,e⟩:=hW.b.e
  have wz:=hW.w.o z hn.2
  obtain⟨dx,ez⟩:=wz.e
  refine{_,O,B.b,C,db,_,_,_,O,e,M_check_watch,O,_,O,B,D,f0,n,wl,z,O,hW,hn,?_}
  refine{_,O,B.b,C,db,_,_,O,e,cl.cls,cl.watches,O,_,O,B.W,_,O,hn.1▸DGet.k (k:=Sum.inl (n:Int)) hW.w.d,?_}
  refine{_,O,z.2.x,CW,dx,_,_,O,ez,cw.cls,cw.heard,O,?_}
  refine{by show 0<=sizeLine;decide,λh hh=>?_}
  have s1:=zag (o:=.lst []) hh
  have ex1:=s1 _ _ ez
  refine{_,O,z.2.x,CW,dx,_,O,ex1,cw.cls,cw.heard,by show 4<1000;decide,?_}
  have nhx:h≠z.2.x:=λg=>by rw[g,ez] at hh;cases hh
  have kz:∀a o,a≠z.2.x->H a=some o->upd (upd H h (.lst [])) z.2.x (.ins CW dx (putF "heard" (.ref h) (waF z.2))) a=some o:=λa o ha q=>by rw[zah ha];exact s1 _ _ q
  have nx:∀(a:Addr) (o:HO),(∀c d y,o≠.ins c d (waF y))->H a=some o->a≠z.2.x:=λa o ho q g=>by rw[g,ez] at q;exact ho _ _ _ (Option.some.inj q).symm
  have uniq:∀y∈wl,y.2.x=z.2.x->y=z:=λy hy g=>by
   obtain⟨i,hi,ei⟩:=List.mem_iff_getElem.mp hy
   obtain⟨j,hj,ej⟩:=List.mem_iff_getElem.mp hn.2
   have:=(List.getElem_inj (xs:=wl.map λz=>z.2.x) (h₀:=by rw[Xag];exact hi) (h₁:=by rw[Xag];exact hj) hW.w.x).mp (by rw[Xa8,Xa8,ei,ej];exact g)
   subst this
   rw[<- ei,<- ej]
  refine{_,O,k h _ hh {?_,{?_,λy hy=>?_,?_,?_,?_},λy hy=>?_} kz}
  .refine hW.b.kw λa o ho q=>kz a o (nx a o ho q) q
  .rw[ziJ (λn x=>((Sum.inl (n:Int):Key),V.ref x))]
   exact kz _ _ (nx _ _ (λc d y g=>by cases g) hW.w.d) hW.w.d
  .unfold wsN at hy
   obtain⟨y0,h0,rfl⟩:=XaC.mp hy
   by_cases g:y0.2.x=z.2.x
   .rw[if_pos g,uniq y0 h0 g]
    exact{⟨dx,zac⟩,{[],by show upd _ _ _ h=_;rw[zah nhx];exact zac,O,λi t d e=>by cases e},Nat.zero_le _}
   .rw[if_neg g]
    obtain⟨dy,ey⟩:=(hW.w.o y0 h0).e
    obtain⟨ts,el,et,ed⟩:=(hW.w.o y0 h0).l
    exact{{dy,kz _ _ g ey},{ts,kz _ _ (nx _ _ (λc d y g=>by cases g) el) el,et,λi t d h1 h2=>kz _ _ (nx _ _ (λc d y g=>by cases g) (ed i t d h1 h2)) (ed i t d h1 h2)},(hW.w.o y0 h0).n}
  .unfold wsN
   rw[Xa5]
   refine XaE.mpr λi j hi hj hij=>?_
   rw[Xag] at hi hj
   rw[Xa8,Xa8]
   have ni:=XaE.mp hW.w.i i j (by rw[Xag];exact hi) (by rw[Xag];exact hj) hij
   have nx':=XaE.mp hW.w.x i j (by rw[Xag];exact hi) (by rw[Xag];exact hj) hij
   rw[Xa8,Xa8] at ni nx'
   have fr:∀y∈wl,y.2.h≠h:=λy hy=>by obtain⟨ts,el,_⟩:=(hW.w.o y hy).l;exact zai el hh
   show(if wl[i].2.x=z.2.x then(wl[i].1,{wl[i].2 with h:=h,hs:=[]}) else wl[i]).2.h≠(if wl[j].2.x=z.2.x then(wl[j].1,{wl[j].2 with h:=h,hs:=[]}) else wl[j]).2.h
   by_cases g:wl[i].2.x=z.2.x
   .rw[if_pos g,if_neg (λg'=>nx' (g.trans g'.symm))]
    exact Ne.symm (fr _ (Xbe hj))
   .rw[if_neg g]
    by_cases g':wl[j].2.x=z.2.x
    .rw[if_pos g']
     exact fr _ (Xbe hi)
    .rw[if_neg g']
     exact ni
  .have:=ziJ (λ_ x=>x) z.2.x h wl
   rw[this]
   exact hW.w.x
  .unfold wsN;rw[Xag];exact hW.w.m
  .unfold wsN at hy
   obtain⟨y0,h0,rfl⟩:=XaC.mp hy
   by_cases g:y0.2.x=z.2.x
   .rw[if_pos g]
    exact{Ne.symm (zai hW.b.ch hh),Ne.symm (zai hW.b.la hh),λi hi q=>hpi i hi (q▸hh)}
   .rw[if_neg g]
    exact hW.nh y0 h0
abbrev zcc:Stmt:=zay (top 26) 2
def zfe:FnScope ["self","other"] ["self","other"] (zaj zcc):=sck O O O (by decide +kernel)
inductive spCEq(cs:Nat->Addr)(kd:Nat)(vs:List V)(H:Hp)(Q:VK)(u3_:XK):Prop
 | mk a b p q (kd' n n':Nat) (ws us:List Nat)(_:kd'<5)(_:vs=[.ref a,.ref b])(_:Chp cs H a p kd n ws)(_:Chp cs H b q kd' n' us)(_:Q (.bl (decide (zjA kd n=zjA kd' n')&&decide (ws=us))) H)
def za8{f D:Addr}{cs:Nat->Addr}{kd:Nat}{fd:FuncData}(F:Fun K "__eq__" "Chip.__eq__" zcc f fd)(T:Blt mg)(hk:kd<5)(c:∀kd,kd<5->ClsOk K (cs kd))(ty:∀kd,kd<5->TyC K (cs kd) D)(GChip:mg "Chip"=some (.ref D)):FnOk P w K mg base CX0 1 f fd ["self","other"] (spCEq cs kd):=by
 refine F.ok zfe (by walk_at"l") (λcdv A outer s H vs Q E hr h=>?_)
 .obtain⟨a,b,p,q,kd',n,n',ws,us,h5,rfl,oa,ob,k⟩:=h
  refine{_,(zaf (zap (zbb (zao (zhT (K:=K) O) (by rfl) T.isinstance za5 (zaa (pv 1) (zaa (zhD O GChip) zad))) (zbb (zbj zbf (zaE (pv 0) O) (zaE (pv 1) O) (zav _)) (zbm (zbj (op_eqL (XbG (zdQ hr)) (K:=K) O) (zaE (pv 0) O) (zaE (pv 1) O) (zav _))))))),?rd}
  obtain⟨⟨dx,ea⟩,la⟩:=oa
  obtain⟨⟨dy,eb⟩,lb⟩:=ob
  have c1:=c kd hk
  have c2:=c kd' h5
  have ty:=ty kd' h5
  refine{_,O,_,_,D,_,O,.ins eb c2.cl ty.c1 ty.c2 ty.c3 ty.c4,ty.c5,true,O,iteT ?_}
  refine{_,O,a,cs kd,dx,_,_,O,ea,c1.cl,c1.head,O,_,O,b,cs kd',dy,_,_,O,eb,c2.cl,c2.head,O,O,_,O,?_}
  by_cases e:zjA kd n=zjA kd' n'
  .rw[Xak e,Bool.true_and] at k
   rw[Xak (congrArg V.str e)]
   refine iteT ?_
   refine{_,O,a,cs kd,dx,_,_,O,ea,c1.cl,c1.held,O,_,O,b,cs kd',dy,_,_,O,eb,c2.cl,c2.held,O,p,q,_,_,O,O,SqL.of (by rw[<- zlq];exact la),SqL.of (by rw[<- zlq];exact lb),?_}
   rw[Bool.false_bne,show decide ((ws.map λ(n:Nat)=>(n:Int))=us.map λ(n:Nat)=>(n:Int))=decide (ws=us) from Xbz.mpr zhf]
   exact k
  .rw[Xan e,Bool.false_and] at k
   rw[Xan (λz=>e (V.str.inj z))]
   exact iteF k
abbrev zcC:Stmt:=top 60
def sc_law_draws:FnScope ["cell","count","row","rest","base","more","k","stir"] ["cell","count"] (zaj zcC):=sck O O O (by decide +kernel)
inductive spDraws(vs:List V)(H:Hp)(Q:VK)(u3_:XK):Prop
 | mk (c:Int) (n:Nat)(_:vs=[.int c,.int (n:Int)])(_:n<=200)(_:∀(p:Addr) (H':Hp) (row:List Nat),H p=none->H' p=some (.lst (vN row))->row.length=n->(∀v∈row,v<2 ^ 31)->Same H H'->Q (.ref p) H')
def zfZ{f:Addr}{fd:FuncData}(F:FunN K "_law_draws" zcC f fd)(T:Blt mg):FnOk P w K mg base CX0 1 f fd ["cell","count"] spDraws:=by
 refine F.ok sc_law_draws (by walk_at"l") (λcdv A outer s H vs Q E hr h=>?_)
 .obtain⟨c,n,rfl,hn,k⟩:=h
  refine⟨_,(zab (ps_L 2 sc_law_draws.nd (zaA zad))
   (zab (ps_L 3 sc_law_draws.nd (zak zbG (pv 0) (zak zhH zae zae)))
   (zab (ps_L 4 sc_law_draws.nd (zak zaW (zak zax (pv 0) zae) zae))
   (zab (ps_L 5 sc_law_draws.nd (zak zax (pv 0) zae))
   (zab (zbE PassesOwn.never O (zcf O T.range (zaa (pv 1) zad)) (pg_L 6 sc_law_draws.nd)
   (zab (ps_L 7 sc_law_draws.nd (zak zax (zak zdo (pv 4) (zak zaW (zak zdo zae (pv 6)) zae)) zae))
   (zab (ps_L 7 sc_law_draws.nd (zak zax (zak zaW (zak zhH (pv 7) zae) (zak zhH (zak zaW (pv 6) zae) zae)) zae))
   (zab (ps_L 7 sc_law_draws.nd (zak zaC (zak zax (zak zhH (zak zaW (pv 7) (pv 5)) zae) zae) zae))
   (zab (zaB (zas zgZ (pv 3) zae (zav _)) (zab (ps_L 7 sc_law_draws.nd (zak zax (pv 3) zae))
   (zaf (ps_L 3 sc_law_draws.nd (zak zaC (pv 3) zae)))) zaq)
   (zaf (zau (zch PySem.F.plainAttrs_list PySem.F.slot_list_append PySem.F.type_list_append zaS (pv 2) (zaa (pv 7) zad)))))))))
   (zaf (zap (pv 2)))))))),?rd⟩
  refine{by show 0<=sizeLine;decide,λl hl=>?_}
  refine{_,O,_,_,O,O,{by decide,by decide,by decide},_,_,O,O,?_}
  refine{_,O,_,_,O,O,(show(0:Int)<1000000007 by decide),_,_,O,O,?_}
  refine{_,O,_,_,O,O,(show(0:Int)<999983 by decide),?_}
  refine{_,O,_,O,by omega,by omega,?_}
  have b0:=XbE c (show(1000000007:Int)≠0 by decide)
  have b1:=Xbs c (show(0:Int)<1000000007 by decide)
  have m0:=XbE c (show(999983:Int)≠0 by decide)
  have m1:=Xbs c (show(0:Int)<999983 by decide)
  rw[Xav]
  refine zez (n:=n) (λi U X=>∃(v6 v7:Option V) (rest:Int) (row:List Nat),U=[some (.int c),some (.int (n:Int)),some (.ref l),some (.int rest),some (.int (c % 1000000007+1)),some (.int (c % 999983)),v6,v7]/\X l=some (.lst (vN row))/\row.length=i/\(∀v∈row,v<2 ^ 31)/\Same H X) {none,none,_,[],O,zac,O,(λv hv=>by cases hv),zag hl} ?_ ?_
  .rintro i U X hi ⟨v6,v7,rest,row,rfl,eX,hlen,hrow,sX⟩
   refine{_,O,_,O,_,_,O,O,zer (by decide) (by omega),_,_,O,O,_,_,O,O,zer (by omega) (by omega),_,_,O,O,(show(0:Int)<2147483647 by decide),?_}
   generalize hs1:(c % 1000000007+1)*(2*(0+(i:Int))+3) % 2147483647=st1
   have s10:0<=st1:=by rw[<- hs1];exact XbE _ (by decide)
   have s11:st1<2147483647:=by rw[<- hs1];exact Xbs _ (by decide)
   refine{_,O,_,_,O,O,{by decide,by decide,by omega},_,O,_,_,O,O,_,_,O,O,{by decide,by decide,by omega},_,_,O,O,_,_,O,O,(show(0:Int)<2147483629 by decide),?_}
   show zaY 7 (V.int ((st1 ^ (5:Int).toNat+(0+(i:Int)+1) ^ (3:Int).toNat) % 2147483629)) _ _ _
   generalize hs2:(st1 ^ (5:Int).toNat+(0+(i:Int)+1) ^ (3:Int).toNat) % 2147483629=st2
   have s20:0<=st2:=by rw[<- hs2];exact XbE _ (by decide)
   have s21:st2<2147483629:=by rw[<- hs2];exact Xbs _ (by decide)
   refine{_,O,_,O,_,_,O,O,_,_,O,O,{by decide,by decide,by omega},_,_,O,O,(show(0:Int)<2147483587 by decide),_,_,O,O,(show(0:Int)<16/\(16:Int).natAbs.log2<9000 by decide),?_}
   show zaY 7 (V.int ((st2+c % 999983) ^ (3:Int).toNat % 2147483587 / 16)) _ _ _
   generalize hs3:(st2+c % 999983) ^ (3:Int).toNat % 2147483587=st3
   have s30:0<=st3:=by rw[<- hs3];exact XbE _ (by decide)
   have s31:st3<2147483587:=by rw[<- hs3];exact Xbs _ (by decide)
   have app:∀v:Int,0<=v->v<2147483587->∃row':List Nat,upd X l (.lst (vN row++[V.int v])) l=some (.lst (vN row'))/\row'.length=i+1/\(∀u∈row',u<2 ^ 31)/\Same H (upd X l (.lst (vN row++[V.int v]))):=λv h0 h1=>by
    obtain⟨u,rfl⟩:=Int.eq_ofNat_of_zero_le h0
    refine{row++[u],by rw[zac,zb5],by rw[Xam,hlen];rfl,λz hz=>?_,λb o e=>by rw[zah (zai e hl)];exact sX b o e}
    rcases XaI.mp hz with hz|hz
    .exact hrow z hz
    .rw[Xad] at hz;omega
   have hsz:(vN row).length<sizeLine:=by rw[zan,hlen];exact zcU (by omega)
   refine{_,O,_,_,O,O,_,O,ite2 (λh1=>?_) (λh1=>zat ?_)}
   .refine{_,O,_,_,O,O,(show(0:Int)<1000003 by decide),?_}
    refine{_,O,_,_,O,O,(show(0:Int)<1000003/\(1000003:Int).natAbs.log2<9000 by decide),?_}
    have r0:=XbE rest (show(1000003:Int)≠0 by decide)
    have r1:=Xbs rest (show(0:Int)<1000003 by decide)
    obtain⟨row',g1,g2,g3,g4⟩:=app (rest % 1000003) r0 (by omega)
    exact{_,O,.inl {O,_,SqL.of eX},_,O,l,_,_,O,O,eX,hsz,_,_,_,row',O,g1,g2,g3,g4}
   .dsimp only
    obtain⟨row',g1,g2,g3,g4⟩:=app (st3 / 16) (by omega) (by omega)
    exact{_,O,.inl {O,_,SqL.of eX},_,O,l,_,_,O,O,eX,hsz,_,_,_,row',O,g1,g2,g3,g4}
  .rintro U X ⟨v6,v7,rest,row,rfl,eX,hlen,hrow,sX⟩
   exact{_,O,k l X row hl eX hlen hrow sX}
abbrev zdf:Stmt:=top 61
def sc_law_ones:FnScope ["mask","found","bit"] ["mask"] (zaj zdf):=sck O O O (by decide +kernel)
def zlv(m i:Nat):sgl (m % 2 ^ (i+1))=sgl (m % 2 ^ i)++(if m &&& 2 ^ i=0 then[] else[2 ^ i]):=by
 rw[<- zeq,<- zeq,show zcw m (i+1)=zcw m i++[m / 2 ^ i % 2] from ze1 i m]
 have e:m &&& 2 ^ i=2 ^ i*(m / 2 ^ i % 2):=by
  apply Nat.eq_of_testBit_eq
  intro j
  rw[XaJ,Xby]
  rcases(show m / 2 ^ i % 2=0\/m / 2 ^ i % 2=1 by omega) with h|h
  .rw[h,Nat.mul_zero,Nat.zero_testBit]
   by_cases e:i=j
   .subst e
    rw[Nat.testBit_eq_decide_div_mod_eq,h];rfl
   .rw[Xan e,XbM]
  .rw[h,Nat.mul_one,Xby]
   by_cases e:i=j
   .subst e
    rw[Nat.testBit_eq_decide_div_mod_eq,h];simp
   .rw[Xan e,XbM]
 rw[e]
 rcases(show m / 2 ^ i % 2=0\/m / 2 ^ i % 2=1 by omega) with h|h
 .rw[h,if_pos (by omega),Xbm,zf7]
 .rw[h,if_neg (by have:=Xbo i;omega),zfL _ (zgu i m),zdB]
inductive spOnesL(vs:List V)(H:Hp)(Q:VK)(u3_:XK):Prop
 | mk (n:Nat)(_:vs=[.int (n:Int)])(_:n<2 ^ 32)(_:∀(p:Addr) (H':Hp),H p=none->H' p=some (.lst (vN (sgl n)))->Same H H'->Q (.ref p) H')
def zg7{f:Addr}{fd:FuncData}(F:FunN K "_law_ones" zdf f fd)(T:Blt mg):FnOk P w K mg base CX0 1 f fd ["mask"] spOnesL:=by
 refine F.ok sc_law_ones (by walk_at"l") (λcdv A outer s H vs Q E hr h=>?_)
 .obtain⟨n,rfl,hn,k⟩:=h
  refine⟨_,(zab (ps_L 1 sc_law_ones.nd (zaA zad))
   (zab (ps_L 2 sc_law_ones.nd zae)
   (zab (zdS PassesOwn.never (zas zh9 (pv 2) (pv 0) (zav _)) (zab (zaB (zas zgZ (zak zaR (pv 0) (pv 2)) zae (zav _)) (zaf (zau (zch PySem.F.plainAttrs_list PySem.F.slot_list_append PySem.F.type_list_append zaS (pv 1) (zaa (pv 2) zad)))) zaq)
   (zaf (zlC (i:=2) sc_law_ones.nd O (Or.inl O) (pv 2) zjF))))
   (zaf (zap (pv 1)))))),?rd⟩
  refine{by show 0<=sizeLine;decide,λl hl=>?_}
  refine zdR (λU X=>∃(i:Nat),U=[some (.int (n:Int)),some (.ref l),some (.int ((2 ^ i:Nat):Int))]/\i<=33/\X l=some (.lst (vN (sgl (n % 2 ^ i))))/\Same H X) (λU _=>match U with|[_,_,some (.int b)]=>(2*n+2-b.toNat)|_=>0)
   {0,O,by decide,by rw[Nat.pow_zero,Nat.mod_one,zcV];exact zac,zag hl} ?_ ?_
  .rintro U X ⟨i,rfl,hi,eX,sX⟩
   have hsz:(vN (sgl (n % 2 ^ i))).length<sizeLine:=by
    rw[zan,zbN]
    have:=zfp 64 (n % 2 ^ i) (XaP (Nat.mod_le _ _) (Xaj hn (by decide)))
    exact zcU (by omega)
   have hp:=Xbo i
   refine{_,O,_,O,_,_,O,O,_,O,ite2 (λh1=>?_) (λh1=>?_)}
   .have h1:2 ^ i<=n:=by have:=XaK h1;omega
    have hi32:i<32:=by
     by_cases h:i<32
     .exact h
     .have:2 ^ 32<=2 ^ i:=XaT (by decide) (by omega)
      omega
    have st:=zlv n i
    have e2:((2 ^ i:Nat):Int)+((2 ^ i:Nat):Int)=((2 ^ (i+1):Nat):Int):=by rw[Xbj];omega
    have e3:Builtin.bitAnd (n:Int) ((2 ^ i:Nat):Int)=((n &&& 2 ^ i:Nat):Int):=band _ _
    have hms:2*n+2-(((2 ^ i:Nat):Int)+((2 ^ i:Nat):Int)).toNat<2*n+2-((2 ^ i:Nat):Int).toNat:=by rw[Xav,e2,Xav,Xbj];omega
    refine{_,O,_,O,_,_,O,O,_,_,O,O,_,O,ite2 (λh2=>?_) (λh2=>zat ?_)}
    .have h2:¬ n &&& 2 ^ i=0:=λz=>by
      have h2:=XaK h2
      rw[e3,z] at h2
      exact absurd h2 (by decide)
     rw[if_neg h2] at st
     refine{_,O,.inl {O,_,SqL.of eX},_,O,l,_,_,O,O,eX,hsz,?_}
     refine{_,O,_,O,_,_,O,O,{{i+1,?_,by omega,by rw[zac,st,zb5],λb o e=>by rw[zah (zai e hl)];exact sX b o e},hms}}
     rw[<- e2];rfl
    .have h2:n &&& 2 ^ i=0:=by
      by_cases z:n &&& 2 ^ i=0
      .exact z
      .exact absurd (Xak (show(0:Int)<Builtin.bitAnd (n:Int) ((2 ^ i:Nat):Int) by rw[e3];omega)) h2
     rw[if_pos h2,Xbm] at st
     try dsimp only
     refine{_,O,_,O,_,_,O,O,{{i+1,?_,by omega,by rw[st];exact eX,sX},hms}}
     rw[<- e2];rfl
   .have h1:n<2 ^ i:=by
     by_cases z:2 ^ i<=n
     .exact absurd (Xak (show((2 ^ i:Nat):Int)<=(n:Int) by omega)) h1
     .omega
    rw[Nat.mod_eq_of_lt h1] at eX
    exact{_,O,k l X hl eX sX}
  .rintro U X Q1 Q2 hq h
   obtain⟨v,e,v2,e',i,j,e1,e2,c,e3,h⟩:=h
   exact{v,e,v2,e',i,j,e1,e2,c,e3,hq _ _ h}
abbrev zdd:Stmt:=top 76
def zgP:FnScope ["found","due"] ["found","due"] (zaj zdd):=sck O O O (by decide +kernel)
inductive LkS(H:Hp):Nat->V->V->Prop where
 | int {n:Nat} (i:Int):LkS H n (.int i) (.int i)
 | str {n:Nat} (x:Str):LkS H n (.str x) (.str x)
 | seq {n:Nat} {t:Bool} {a b:Addr} {xs ys:List V} (ha:SqX t H a xs) (hb:SqX t H b ys) (hl:xs.length=ys.length) (hz:xs.length<=sizeLine) (h:∀(i:Nat) (x y:V),xs[i]?=some x->ys[i]?=some y->LkS H n x y):LkS H (n+1) (.ref a) (.ref b)
def LkS.same{H H':Hp}{n:Nat}{v w:V}(h:LkS H n v w)(s:Same H H'):LkS H' n v w:=by
 induction h with
 | int i=>exact .int i
 | str x=>exact .str x
 | seq ha hb hl hz _ ih=>exact .seq (s _ _ ha) (s _ _ hb) hl hz ih
inductive spSameL(n:Nat)(vs:List V)(H:Hp)(Q:VK)(u3_:XK):Prop
 | mk v w(_:vs=[v,w])(_:((v=.non/\w=.non)\/LkS H n v w))(_:∀H',Same H H'->Q (.bl true) H')
def zcN{f:Addr}{fd:FuncData}{m n:Nat}{sp:Sp}(F:FunN K "_law_same" zdd f fd)(T:Blt mg)(G_law_same:Cal P w K mg base n "_law_same" ["found","due"] sp)(hsp:∀k,m=k+1->sp=spSameL k):FnOk P w K mg base CX0 (n+1) f fd ["found","due"] (spSameL m):=by
 refine F.ok zgP (by walk_at"l") (λcdv A outer s H vs Q E hr h=>?_)
 .obtain⟨v,w,rfl,hL,k⟩:=h
  refine'⟨_,(zab (zaB (zbz (zb4 (pv 1))) (zaf (zap (zfT (zb4 (pv 0))))) zaq)
   (zab (zaB (zaG (zao (zaI "bool" (K:=K) O) (by rfl) T.isinstance za5 (zaa (pv 1) (zaa (zaT O T.bool zfC zfh) zad)))) (zaf (zap (zbb (zao (zaI "bool" (K:=K) O) (by rfl) T.isinstance za5 (zaa (pv 0) (zaa (zaT O T.bool zfC zfh) zad))) (zbm (zbj zbf (pv 0) (pv 1) (zav _)))))) zaq)
   (zab (zaB (PW.pt (zbX (zaG (zao (zaI "tuple" (K:=K) O) (by rfl) T.isinstance za5 (zaa (pv 1) (zaa (zaT O T.tuple zbq zco) zad)))) (zby (zaG (zao (zaI "list" (K:=K) O) (by rfl) T.isinstance za5 (zaa (pv 1) (zaa (zaT O T.list zcQ zfg) zad))))))) (zab (zaB (PW.pt (zbX (zas zh8 (zao (zaI "tuple" (K:=K) O) (by rfl) T.isinstance za5 (zaa (pv 1) (zaa (zaT O T.tuple zbq zco) zad))) (zao (zaI "tuple" (K:=K) O) (by rfl) T.isinstance za5 (zaa (pv 0) (zaa (zaT O T.tuple zbq zco) zad))) (zav _)) (zby (zas zh8 (zao (zaI "list" (K:=K) O) (by rfl) T.isinstance za5 (zaa (pv 1) (zaa (zaT O T.list zcQ zfg) zad))) (zao (zaI "list" (K:=K) O) (by rfl) T.isinstance za5 (zaa (pv 0) (zaa (zaT O T.list zcQ zfg) zad))) (zav _))))) (zaf (zap zcX)) zaq)
   (zaf (zap (zbb (zbj zbf (zao zar (by rfl) T.len PySem.boot_len (zaa (pv 0) zad)) (zao zar (by rfl) T.len PySem.boot_len (zaa (pv 1) zad)) (zav _)) (zbm (zao (zeC O) (by rfl) T.all zj9 (zaa ?c1 zad))))))) zaq)
   (zab (zaB (zaG (zao (zaI "str" (K:=K) O) (by rfl) T.isinstance za5 (zaa (pv 1) (zaa (zaT O T.str zlW zly) zad)))) (zaf (zap (zbb (zao (zaI "str" (K:=K) O) (by rfl) T.isinstance za5 (zaa (pv 0) (zaa (zaT O T.str zlW zly) zad))) (zbm (zbj zbf (pv 0) (pv 1) (zav _)))))) zaq)
   (zaf (zap (zbb (zao (zaI "int" (K:=K) O) (by rfl) T.isinstance za5 (zaa (pv 0) (zaa (zaT O T.int zj8 zlz) zad))) (zbb (zlF (zao (zaI "bool" (K:=K) O) (by rfl) T.isinstance za5 (zaa (pv 0) (zaa (zaT O T.bool zfC zfh) zad)))) (zbm (zbj zbf (pv 0) (pv 1) (zav _))))))))))),?rd⟩
  (case c1=>exact(zdn (Nc:=["one","other"]) [none,none] O (zaZ (by rfl)) (zmq O T.zip (zaa (pv 0) (zaa (pv 1) zad))) (λ_ _ _ _ _=>(zjb 2 (K:=K) O O (zam (pg_L 0 (show(["one","other"]:List Str).Nodup by decide +kernel)) (zam (pg_L 1 (show(["one","other"]:List Str).Nodup by decide +kernel)) zaP)))) (λ_ _ _ _ _=>zeR) (λ_ _ _ _ _=>(pe_c G_law_same (zaa (pv 0) (zaa (pv 1) zad))))))
  rcases hL with⟨rfl,rfl⟩|hL
  .exact{_,O,_,O,iteT {_,O,k H (Same.refl _)}}
  cases hL with
  | int i =>
   refine{_,O,_,O,iteF (zat ?_)}
   try dsimp only
   refine{_,O,_,_,_,O,.int i,O,false,O,iteF (zat ?_)}
   try dsimp only
   refine{_,O,_,_,_,O,.int i,O,false,O,iteF {_,O,_,_,_,O,.int i,O,false,O,iteF (zat ?_)}}
   try dsimp only
   refine{_,O,_,_,_,O,.int i,O,false,O,iteF (zat ?_)}
   try dsimp only
   refine{_,O,_,_,_,O,.int i,O,true,O,iteT {_,O,_,_,_,O,.int i,O,false,O,true,O,iteT {_,O,_,O,O,?_}}}
   rw[Xak O]
   exact k H (Same.refl _)
  | str x =>
   refine{_,O,_,O,iteF (zat ?_)}
   try dsimp only
   refine{_,O,_,_,_,O,.str x,O,false,O,iteF (zat ?_)}
   try dsimp only
   refine{_,O,_,_,_,O,.str x,O,false,O,iteF {_,O,_,_,_,O,.str x,O,false,O,iteF (zat ?_)}}
   try dsimp only
   refine{_,O,_,_,_,O,.str x,O,true,O,iteT {_,O,_,_,_,O,.str x,O,true,O,iteT {_,O,_,O,O,?_}}}
   rw[Xak O]
   exact k H (Same.refl _)
  | @seq m' t a b xs ys ha hb hl hz h =>
   have ty:∀{q:Addr} {us:List V},SqX t H q us->TyOf K H (.ref q) (.type (sqC t)):=λ{q us} e=>ty_seq e
   have kb:W.kitOne K (.type (sqC t)) (.type "bool")=some false:=by cases t<;>rfl
   have kt:W.kitOne K (.type (sqC t)) (.type "tuple")=some t:=by cases t<;>rfl
   have kl:W.kitOne K (.type (sqC t)) (.type "list")=some (!t):=by cases t<;>rfl
   refine{_,O,_,O,iteF (zat ?_)}
   try dsimp only
   refine{_,O,_,_,_,O,ty hb,kb,false,O,iteF (zat ?_)}
   try dsimp only
   have sq:∀{q:Addr} {us:List V},SqX t H q us->SqL K H q us\/SqT K H q us:=λ{q us} e=>by
    cases t with
    | true=>exact .inr (SqT.of e)
    | false=>exact .inl (SqL.of e)
   cases t
   all_goals
    first
    | (refine{_,O,_,_,_,O,ty hb,kt,true,O,iteT ?_})
    | (refine{_,O,_,_,_,O,ty hb,kt,false,O,iteF {_,O,_,_,_,O,ty hb,kl,true,O,iteT ?_}})
    refine{_,O,_,_,_,O,ty hb,kt,_,O,_,_,_,O,ty ha,kt,O,_,O,zhl O ?_}
    refine{_,O,_,_,_,O,ty hb,kl,_,O,_,_,_,O,ty ha,kl,O,_,O,zhl O (zat ?_)}
    try dsimp only
    refine{_,O,a,xs,O,sq ha,_,O,b,ys,O,sq hb,O,_,O,?_}
    rw[Xak (show V.int (xs.length:Int)=V.int (ys.length:Int) by rw[hl])]
    refine iteT ?_
    obtain rfl:=hsp m' O
    refine{_,O,_,O,_,a,b,xs,ys,O,ha,hb,?_}
    refine zj0 (xs:=xs) (ys:=ys) (λj rs U H1=>∃v1 v2,U=[v1,v2]/\rs=List.replicate j (V.bl true)/\Same H H1) hl hz {none,none,O,O,λ_ _ z=>z} ?_ ?_ ?_
    .rintro j rs U H1 hj ⟨v1,v2,rfl,rfl,s1⟩
     exact{s1 _ _ ha,s1 _ _ hb,by rw[XbC];exact Xae _}
    .rintro j x y U9 rs U H1 ex ey hU ⟨v1,v2,rfl,rfl,s1⟩
     refine zeW ?_
     have s2:=s1.trans (zag (o:=.tup [x,y]) hU)
     refine{_,O,_,O,x,y,O,.inr ((h j x y ex ey).same s2),λH3 s3=>?_}
     exact{_,_,O,List.replicate_succ'.symm,s2.trans s3}
    .rintro rs U H1 ⟨v1,v2,rfl,rfl,s1⟩ D hD
     refine{D,List.replicate xs.length true,O,SqL.of (by rw[List.map_replicate];exact zac),?_}
     rw[show(List.replicate xs.length true).all id=true by simp]
     exact k _ (s1.trans (zag hD))
structure MdB(H:Hp)(m row:Addr)(kd n:Nat)(ws:List Nat):Prop where
 at_:H m=some (.lst [.str (zbB kd),.ref row,.int (n:Int)])
 ls:H row=some (.lst (vN ws))
def MdB.same{H H':Hp}{m row:Addr}{kd n:Nat}{ws:List Nat}(d:MdB H m row kd n ws)(s:Same H H'):MdB H' m row kd n ws:={s _ _ d.at_,s _ _ d.ls}
def whoM(ws:List (Addr×Rw))(us:Nat->List Nat)(x:Nat):Option Nat:=(ws.map (·.2)).findIdx? λr=>ans r x (hld us)
def zeY{α:Type}{p q:α->Bool}:∀{l:List α},(∀a∈l,p a=q a)->l.findIdx? p=l.findIdx? q
 | [],_=>rfl
 | a::l,h=>by
  rw[List.findIdx?_cons,List.findIdx?_cons,h a Xay,zeY λb hb=>h b (XaA _ hb)]
def zlo{C:Addr}{B:Bd}{D:Dt}{Y:Hp}{f:Nat}(h:BdAt C B D Y f)(us:Nat->List Nat)(x:Nat):whoI B us x=whoM B.ws us x:=by
 refine zeY λr hr=>?_
 obtain⟨z,hz,rfl⟩:=XaC.mp hr
 unfold ans awk
 cases hl:z.2.l with
 | none=>rfl
 | some o =>
  obtain⟨c,a,b⟩:=o
  have:wrd B.keys (hld us) c=hld us c:=by unfold wrd;rw[if_pos (h.kl z hz c a b hl)]
  show(met z.2 x&&decide (wrd B.keys (hld us) c &&& a=b))=(met z.2 x&&decide (hld us c &&& a=b))
  rw[this]
def ziK{ws:List (Addr×Rw)}{us:Nat->List Nat}{x i:Nat}{z:Addr×Rw}(hz:ws[i]?=some z)(hb:∀(j:Nat) (q:Addr×Rw),j<i->ws[j]?=some q->ans q.2 x (hld us)=false)(h:ans z.2 x (hld us)=true):whoM ws us x=some i:=by
 obtain⟨hi,e⟩:=Xaf.mp hz
 refine Xba.mpr {by rw[Xag];exact hi,by rw[Xa8,e];exact h,λj hj=>?_}
 rw[Xa8,hb j _ hj (Xah (show j<ws.length by omega))]
 exact Xal
def zkm{ws:List (Addr×Rw)}{us:Nat->List Nat}{x:Nat}(hb:∀(j:Nat) (q:Addr×Rw),ws[j]?=some q->ans q.2 x (hld us)=false):whoM ws us x=none:=by
 refine XbL.mpr λr hr=>?_
 obtain⟨z,hz,rfl⟩:=XaC.mp hr
 obtain⟨j,hj⟩:=Xbr.mp hz
 exact hb j z hj
def zji:∀a b:Nat,a &&& b=0->a ||| b=a+b:=by
 intro a
 induction a using Nat.strongRecOn with
 | _ a ih =>
  intro b h
  by_cases ha:a=0
  .subst ha;simp
  .have h2:(a / 2) &&& (b / 2)=0:=by rw[<- Nat.and_div_two,h]
   have e1:(a ||| b) / 2=a / 2+b / 2:=(Nat.or_div_two (a:=a) (b:=b)).trans (ih (a / 2) (by omega) (b / 2) h2)
   have e2:(a ||| b) % 2=(a % 2 ||| b % 2):=Nat.or_mod_two_pow (n:=1)
   have e3:(a &&& b) % 2=(a % 2 &&& b % 2):=Nat.and_mod_two_pow (n:=1)
   rw[h] at e3
   have e4:a % 2 ||| b % 2=a % 2+b % 2:=by
    rcases(show a % 2=0\/a % 2=1 by omega) with x|x<;>rcases(show b % 2=0\/b % 2=1 by omega) with y|y<;>rw[x,y] at e3 ⊢<;>first|rfl|(exact absurd e3 (by decide))
   omega
def zkR(i:Nat):ones (2 ^ i)=1:=by
 induction i with
 | zero=>rw[show 2 ^ 0=2*0+1 from O,zcp,zcY]
 | succ i ih=>rw[Xbj,Nat.mul_comm,zbA,ih]
def zg0{i p:Nat}(h:i.testBit p=false):ones (i ||| 2 ^ p)=ones i+1:=by
 have hd:i &&& 2 ^ p=0:=Nat.eq_of_testBit_eq λj=>by
  rw[XaJ,Xby,Nat.zero_testBit]
  by_cases e:p=j
  .subst e;rw[h];rfl
  .rw[Xan e,XbM]
 rw[zji _ _ hd,zle _ _ hd,zkR]
def Few(n m r:Nat):Prop:=r &&& n=r/\ones r<=m
inductive spFew(vs:List V)(H:Hp)(Q:VK)(u3_:XK):Prop
 | mk (n m:Nat)(_:vs=[.int (n:Int),.int (m:Int)])(_:n<2 ^ 32)(_:∀(r:Nat) (H':Hp),Few n m r->Same H H'->Q (.int (r:Int)) H')
def zdW(n:Nat):∀i k,∃r,((sgl (n % 2 ^ i)).take k).sum=r/\r &&& n=r/\r<2 ^ i/\ones r<=k
 | 0,k=>{0,by rw[Nat.pow_zero,Nat.mod_one,zcV];simp,by simp,by simp,by rw[zcY];omega}
 | i+1,k=>by
  have hp:2 ^ (i+1)=2*2 ^ i:=by rw[Xbj];omega
  have h0:=Xbo i
  rw[zlv]
  by_cases hb:n &&& 2 ^ i=0
  .rw[if_pos hb,Xbm]
   obtain⟨r,h1,h2,h3,h4⟩:=zdW n i k
   exact{r,h1,h2,by omega,h4}
  .rw[if_neg hb]
   by_cases hk:k<=(sgl (n % 2 ^ i)).length
   .rw[List.take_append_of_le_length hk]
    obtain⟨r,h1,h2,h3,h4⟩:=zdW n i k
    exact{r,h1,h2,by omega,h4}
   .obtain⟨r,h1,h2,h3,h4⟩:=zdW n i (sgl (n % 2 ^ i)).length
    rw[List.take_length] at h1
    have hf:r.testBit i=false:=Nat.testBit_lt_two_pow h3
    have hd:r &&& 2 ^ i=0:=Nat.eq_of_testBit_eq λj=>by
     rw[XaJ,Xby,Nat.zero_testBit]
     by_cases e:i=j
     .subst e;rw[hf];rfl
     .rw[Xan e,XbM]
    have hbt:n.testBit i=true:=by
     cases h:n.testBit i with
     | true=>rfl
     | false =>
      refine absurd (Nat.eq_of_testBit_eq λj=>?_) hb
      rw[XaJ,Xby,Nat.zero_testBit]
      by_cases e:i=j
      .subst e;rw[h];rfl
      .rw[Xan e,XbM]
    refine⟨r ||| 2 ^ i,?_,?_,?_,?_⟩
    .rw[Xa7 (by rw[Xam];simp;omega),List.sum_append,h1,zji _ _ hd];simp
    .refine Nat.eq_of_testBit_eq λj=>?_
     have:=congrArg (λx=>Nat.testBit x j) h2
     simp only[XaJ] at this
     rw[XaJ,Nat.testBit_or,Xby]
     by_cases e:i=j
     .subst e;rw[hbt];simp
     .rw[Xan e,Bool.or_false];exact this
    .rw[zji _ _ hd];omega
    .rw[zg0 hf];omega
def few_is{n:Nat}(hn:n<2 ^ 32)(k:Nat):Few n k ((sgl n).take k).sum:=by
 obtain⟨r,h1,h2,_,h4⟩:=zdW n 32 k
 rw[Nat.mod_eq_of_lt hn] at h1
 rw[h1]
 exact⟨h2,h4⟩
structure Cm where
 x:Addr
 p:Addr
 m:Addr
 r:Addr
 kd:Nat
 n:Nat
 us:List Nat
structure CmOk(cs:Nat->Addr)(X:Hp)(c:Cm):Prop where
 ch:Chp cs X c.x c.p c.kd c.n c.us
 md:MdB X c.m c.r c.kd c.n c.us
 k:Kd c.kd c.n c.us
 h1:c.kd=2\/c.kd=3->c.us.length=1
 ne:c.p≠c.r
def CmOk.same{cs:Nat->Addr}{X Y:Hp}{c:Cm}(h:CmOk cs X c)(s:Same X Y):CmOk cs Y c:={h.ch.same s,h.md.same s,h.k,h.h1,h.ne}
structure CMs(cs:Nat->Addr)(X:Hp)(cl:List Cm):Prop where
 o:∀c∈cl,CmOk cs X c
 nd:((cl.map (·.p))++(cl.map (·.r))).Nodup
def CMs.same{cs:Nat->Addr}{X Y:Hp}{cl:List Cm}(h:CMs cs X cl)(s:Same X Y):CMs cs Y cl:={λc hc=>(h.o c hc).same s,h.nd}
def CMs.add{cs:Nat->Addr}{X Y:Hp}{cl:List Cm}{c:Cm}(h:CMs cs X cl)(s:Same X Y)(hp:X c.p=none)(hr:X c.r=none)(ho:CmOk cs Y c):CMs cs Y (cl++[c]):=by
 have fp:∀d∈cl,d.p≠c.p/\d.p≠c.r/\d.r≠c.p/\d.r≠c.r:=λd hd=>by
  have e1:=(h.o d hd).ch.ls
  have e2:=(h.o d hd).md.ls
  exact{(λz=>by rw[z,hp] at e1;cases e1),(λz=>by rw[z,hr] at e1;cases e1),(λz=>by rw[z,hp] at e2;cases e2),(λz=>by rw[z,hr] at e2;cases e2)}
 refine{λd hd=>?_,?_}
 .rcases XaI.mp hd with hd|hd
  .exact(h.same s).o d hd
  .rw[Xad.mp hd];exact ho
 .obtain⟨n1,n2,n3⟩:=Xa2.mp h.nd
  rw[XaD,XaD]
  refine Xa2.mpr {Xa2.mpr {n1,by simp,λa ha b hb=>?_},Xa2.mpr {n2,by simp,λa ha b hb=>?_},λa ha b hb=>?_}
  .obtain⟨d,hd,rfl⟩:=XaC.mp ha
   have hb:b=c.p:=by simpa using hb
   rw[hb];exact(fp d hd).1
  .obtain⟨d,hd,rfl⟩:=XaC.mp ha
   have hb:b=c.r:=by simpa using hb
   rw[hb];exact(fp d hd).2.2.2
  .rcases XaI.mp ha with ha|ha<;>rcases XaI.mp hb with hb|hb
   .exact n3 a ha b hb
   .obtain⟨d,hd,rfl⟩:=XaC.mp ha
    have hb:b=c.r:=by simpa using hb
    rw[hb];exact(fp d hd).2.1
   .obtain⟨d,hd,rfl⟩:=XaC.mp hb
    have ha:a=c.p:=by simpa using ha
    rw[ha];exact Ne.symm (fp d hd).2.2.1
   .have ha:a=c.p:=by simpa using ha
    have hb:b=c.r:=by simpa using hb
    rw[ha,hb];exact ho.ne
def CMs.updL{cs:Nat->Addr}{X:Hp}{cl:List Cm}{L:Addr}{o:HO}(h:CMs cs X cl)(hL:∀c∈cl,c.x≠L/\c.p≠L/\c.m≠L/\c.r≠L):CMs cs (upd X L o) cl:=by
 refine{λc hc=>?_,h.nd}
 obtain⟨a1,a2,a3,a4⟩:=hL c hc
 have ok:=h.o c hc
 obtain⟨dx,e⟩:=ok.ch.ex
 exact{{{dx,by rw[zah a1];exact e},by rw[zah a2];exact ok.ch.ls},{by rw[zah a3];exact ok.md.at_,by rw[zah a4];exact ok.md.ls},ok.k,ok.h1,ok.ne}
def dfCm:Cm:={0,0,0,0,0,0,[]}
def dtC(cl:List Cm):Dt:={cl.length,λi=>(cl.getD i dfCm).x,λi=>(cl.getD i dfCm).p,λi=>(cl.getD i dfCm).kd,λi=>(cl.getD i dfCm).n,λi=>ksize (cl.getD i dfCm).kd (cl.getD i dfCm).us}
def usC(cl:List Cm)(i:Nat):List Nat:=(cl.getD i dfCm).us
def zbg{cl:List Cm}{i:Nat}(h:i<cl.length):cl.getD i dfCm∈cl/\cl[i]?=some (cl.getD i dfCm):=by
 rw[Xbq,Xah h]
 exact{Xbe _,O}
def nd_at{l:List Addr}(h:l.Nodup){i j:Nat}{a:Addr}(h1:l[i]?=some a)(h2:l[j]?=some a):i=j:=by
 obtain⟨l1,e1⟩:=Xaf.mp h1
 obtain⟨l2,e2⟩:=Xaf.mp h2
 exact(List.getElem_inj h).mp (e1.trans e2.symm)
def CMs.chs{cs:Nat->Addr}{X:Hp}{cl:List Cm}(h:CMs cs X cl)(hl:cl.length<=200):Chs cs (dtC cl) X (usC cl):=by
 refine{λi hi=>(h.o _ (zbg hi).1).ch,λi hi=>(h.o _ (zbg hi).1).k,λi hi=>(h.o _ (zbg hi).1).h1,λi hi=>O,λi j hi hj e=>?_,hl}
 have h1:(cl.map (·.p))[i]?=some (cl.getD i dfCm).p:=by rw[Xao,(zbg hi).2];rfl
 have h2:(cl.map (·.p))[j]?=some (cl.getD j dfCm).p:=by rw[Xao,(zbg hj).2];rfl
 rw[<- show(cl.getD i dfCm).p=(cl.getD j dfCm).p from e] at h2
 exact nd_at (Xa2.mp h.nd).1 h1 h2
def zj4(cl:List Cm):chL (dtC cl)=cl.map λc=>V.ref c.x:=by
 unfold chL
 apply List.ext_getElem?
 intro i
 rw[Xao,Xao]
 by_cases h:i<cl.length
 .rw[(zbg h).2,XbR (show i<(dtC cl).m from h)]
  rfl
 .rw[XaG (Nat.le_of_not_lt h),XaG (show(List.range (dtC cl).m).length<=i by rw[XaH];exact Nat.le_of_not_lt h)]
  rfl
def zck{H2 H':Hp}{x dx:Addr}{C:Addr}(hx:H2 x=none)(hdx:H2 dx=none)(ne:dx≠x)(k:zm4 x (upd (upd H2 dx (.own x)) x (.ins C dx [])) H'):Same H2 H':=λa o e=>by
 have na:a≠x:=zai e hx
 exact k a o na (by rw[zah na,zah (zai e hdx)];exact e)
def drw{row:List Nat}(n:Nat)(hl:n<=row.length)(hw:∀v∈row,v<2 ^ 31):∃dr:Nat->Nat,∀j:Nat,j<n->atI (vN row) (j:Int)=some (.int (dr j:Int))/\dr j<2 ^ 31:=⟨λj=>row.getD j 0,λj hj=>by
 have hj':j<row.length:=by omega
 have e:row.getD j 0=row[j]:=by rw[Xbq,Xah hj'];rfl
 show _=some (V.int ((row.getD j 0:Nat):Int))/\row.getD j 0<2 ^ 31
 rw[e]
 exact{zaF (by unfold vN;rw[Xao,Xah hj'];rfl),hw _ (Xbe _)}⟩
abbrev zeg:Stmt:=top 69
def zh4:FnScope ["number","most"] ["number","most"] (zaj zeg):=sck O O O (by decide +kernel)
def zij{f:Addr}{fd:FuncData}(F:FunN K "_law_few" zeg f fd)(T:Blt mg)(G_law_ones:Cal P w K mg base 1 "_law_ones" ["mask"] spOnesL):FnOk P w K mg base CX0 2 f fd ["number","most"] spFew:=by
 refine F.ok zh4 (by walk_at"l") (λcdv A outer s H vs Q E hr h=>?_)
 .obtain⟨n,m,rfl,hn,k⟩:=h
  refine{_,(zaf (zap (zao (zgp O) (by rfl) T.sum PyProof.Rows.boot_sum (zaa (zbF zd3 (pe_c G_law_ones (zaa (pv 0) zad)) zei (zbi (pv 1))) zad)))),?rd}
  refine{_,O,n,O,hn,λp H1 hp ep s1=>?_}
  have ec:cutV (vN (sgl n)) none (some (m:Int))=(((sgl n).take m).map λ(a:Nat)=>(a:Int)).map V.int:=by
   unfold cutV
   rw[HT.sIx_nat,HT.sIx_none,zan,Nat.sub_zero,List.drop_zero]
   unfold vN
   rw[List.map_take,List.map_take,Xa5]
   by_cases h:m<=(sgl n).length
   .rw[Nat.min_eq_left h];rfl
   .rw[Nat.min_eq_right (by omega),Xa7 (by rw[Xag];exact Xae _),Xa7 (by rw[Xag];omega)];rfl
  have sm:∀l:List Nat,(l.map λ(a:Nat)=>(a:Int)).sum=((l.sum:Nat):Int):=λl=>by
   induction l with
   | nil=>rfl
   | cons a l ih=>rw[XaF,List.sum_cons,List.sum_cons,ih];omega
  refine{_,O,m,O,p,_,O,SqL.of ep,λq hq=>?_}
  rw[ec]
  refine{q,_,O,SqL.of zac,?_}
  rw[sm]
  exact k _ _ (few_is hn m) (s1.trans (zag hq))
abbrev zdc:Stmt:=top 65
def zgO:FnScope ["model"] ["model"] (zaj zdc):=sck O O O (by decide +kernel)
inductive spSz34(vs:List V)(H:Hp)(Q:VK)(u3_:XK):Prop
 | mk (m r:Addr) (kd n:Nat) (us:List Nat)(_:vs=[.ref m])(_:MdB H m r kd n us)(_:kd<5)(_:Q (.int (ksize kd us:Int)) H)
def zg5{f:Addr}{fd:FuncData}(F:FunN K "_law_size" zdc f fd)(T:Blt mg):FnOk P w K mg base CX0 1 f fd ["model"] spSz34:=by
 refine F.ok zgO (by walk_at"l") (λcdv A outer s H vs Q E hr h=>?_)
 .obtain⟨m,r,kd,n,us,rfl,hM,hk,k⟩:=h
  refine⟨_,(zab (zaB (zas zbf (pe_x zal (pv 0) zae) za4 (zav _)) (zaf (zap zae)) zaq)
   (zaf (zap (zao zar (by rfl) T.len PySem.boot_len (zaa (pe_x zal (pv 0) zae) zad))))),?rd⟩
  refine{_,O,m,_,_,_,O,O,SqL.of hM.at_,O,O,_,O,?_}
  rw[show decide (V.str (zbB kd)=V.str "pipe")=decide (kd=4) from zb0 (j:=4) hk (by decide)]
  unfold ksize at k
  by_cases e:kd=4
  .rw[if_pos e] at k
   rw[Xak e]
   exact iteT k
  .rw[if_neg e] at k
   rw[Xan e]
   refine iteF (zat ?_)
   try dsimp only
   refine{_,O,m,_,_,_,O,O,SqL.of hM.at_,O,r,_,O,.inl (SqL.of hM.ls),?_}
   rw[zan]
   exact k
abbrev zdg:Stmt:=top 63
def sc_law_chip:FnScope ["one","other","kind","word","cells","words","room"] ["one","other"] (zaj zdg):=sck O O O (by decide +kernel)
def zki(one other v kd n:Nat)(us:List Nat):Prop:=kd<5/\atI [V.str "store",V.str "fixed",V.str "latch",V.str "meter",V.str "pipe",V.str "latch",V.str "store"] ((one:Int) % 7)=some (.str (zbB kd)) /\
 (kd=0->n=0/\∃cn:Nat,atI [V.int ((1:Int)+(one:Int) / 7 % 40),V.int 2,V.int 64,V.int 300] ((one:Int) / 280 % 4)=some (.int (cn:Int))/\us=List.replicate cn v) /\
 (kd=1->n=0/\us=(List.range (1+one / 7 % 20)).map λi=>(other / (1+i)+7*i) % 256)/\(kd=2\/kd=3->n=0/\us=[v]) /\
 (kd=4->us=[]/\atI [V.int ((1:Int)+(one:Int) / 7 % 9),V.int 255] (if decide (V.int ((one:Int) / 63 % 8)=V.int 3)=true then 1 else 0)=some (.int (n:Int)))
def det44{one other v kd n kd' n':Nat}{us us':List Nat}(h:zki one other v kd n us)(h':zki one other v kd' n' us'):kd=kd'/\n=n'/\us=us':=by
 obtain⟨k5,ek,h0,h1,h2,h4⟩:=h
 obtain⟨k5',ek',h0',h1',h2',h4'⟩:=h'
 rw[ek] at ek'
 have e:=zb0 k5 k5'
 rw[Xak (Option.some.inj ek')] at e
 obtain rfl:=XaK e.symm
 refine{O,?_}
 rcases(show kd=0\/kd=1\/(kd=2\/kd=3)\/kd=4 by omega) with z|z|z|z
 .obtain⟨rfl,cn,e1,rfl⟩:=h0 z
  obtain⟨rfl,cm,e2,rfl⟩:=h0' z
  rw[e1] at e2
  rw[Int.ofNat.inj (V.int.inj (Option.some.inj e2))]
  exact⟨O,O⟩
 .obtain⟨rfl,rfl⟩:=h1 z
  obtain⟨rfl,rfl⟩:=h1' z
  exact⟨O,O⟩
 .obtain⟨rfl,rfl⟩:=h2 z
  obtain⟨rfl,rfl⟩:=h2' z
  exact⟨O,O⟩
 .obtain⟨rfl,e1⟩:=h4 z
  obtain⟨rfl,e2⟩:=h4' z
  rw[e1] at e2
  exact{Int.ofNat.inj (V.int.inj (Option.some.inj e2)),O}
inductive spChip34(cs:Nat->Addr)(vs:List V)(H:Hp)(Q:VK)(u3_:XK):Prop
 | mk (one other:Nat)(_:vs=[.int (one:Int),.int (other:Int)])(_:one<2 ^ 31)(_:other<2 ^ 31)(_:∀(t:Addr) (c:Cm) (H':Hp),H t=none->H' t=some (.tup [.ref c.x,.ref c.m])->H c.p=none->H c.r=none->H c.m=none->CmOk cs H' c->zki one other (other % 256) c.kd c.n c.us->Same H H'->Q (.ref t) H')
def zg8{f:Addr}{cs:Nat->Addr}{fd:FuncData}(F:FunN K "_law_chip" zdg f fd)(T:Blt mg)
  (GMFixed_1:Mak P w K mg base 3 "Fixed" (cs 1) [] (dP []) (spMkFH (cs 1))) (GMPipe_1:Mak P w K mg base 3 "Pipe" (cs 4) [] (dP []) (spMkP (cs 4))) (GMLatch_1:Mak P w K mg base 3 "Latch" (cs 2) [] (dP []) (spMk1H (cs 2) "latch")) (GMMeter_1:Mak P w K mg base 3 "Meter" (cs 3) [] (dP []) (spMk1H (cs 3) "meter")) (GMStore_2:Mak P w K mg base 3 "Store" (cs 0) [] (dP []) (spMkSH (cs 0))):FnOk P w K mg base CX0 5 f fd ["one","other"] (spChip34 cs):=by
 refine F.ok sc_law_chip (by walk_at"l") (λcdv A outer s H vs Q E hr h=>?_)
 .obtain⟨one,other,rfl,h1,h2,k⟩:=h
  refine⟨_,(zab (ps_L 2 sc_law_chip.nd (pe_x zal (zaA (zaa za4 (zaa za4 (zaa za4 (zaa za4 (zaa za4 (zaa za4 (zaa za4 zad)))))))) (zak zax (pv 0) zae)))
   (zab (ps_L 3 sc_law_chip.nd (zak zax (pv 1) zae))
   (zab (zaB (zas zbf (pv 2) za4 (zav _)) (zab (ps_L 4 sc_law_chip.nd (pe_x zal (zaA (zaa (zak zaW zae (zak zax (zak zaC (pv 0) zae) zae)) (zaa zae (zaa zae (zaa zae zad))))) (zak zax (zak zaC (pv 0) zae) zae)))
   (zaf (zap (za7 (zaa (zdw GMStore_2 (hrm hr) O (zaa (pv 4) (zaa (pv 3) zad))) (zaa (zaA (zaa (pv 2) (zaa (zak zlH (zaA (zaa (pv 3) zad)) (pv 4)) (zaa zae zad)))) zad)))))) zaq)
   (zab (zaB (zas zbf (pv 2) za4 (zav _)) (zab (zeQ (i:=5) (Nc:=["k","other"]) [none,some 1] sc_law_chip.nd O O O (zaZ (by rfl)) (zcf O T.range (zaa (zak zaW zae (zak zax (zak zaC (pv 0) zae) zae)) zad)) (λ_ _ _ _ _=>(pg_L 0 (show(["k","other"]:List Str).Nodup by decide +kernel))) (λ_ _ _ _ _=>zeR) (λ_ _ _ _ _=>(zak zax (zak zaW (zak zaC (pv 1) (zak zaW zae (pv 0))) (zak zdo zae (pv 0))) zae)))
   (zaf (zap (za7 (zaa (zdw GMFixed_1 (hrm hr) O (zaa (pv 5) zad)) (zaa (zaA (zaa (pv 2) (zaa (pv 5) (zaa zae zad)))) zad)))))) zaq)
   (zab (zaB (zas zbf (pv 2) za4 (zav _)) (zaf (zap (za7 (zaa (zdw GMLatch_1 (hrm hr) O (zaa (pv 3) zad)) (zaa (zaA (zaa (pv 2) (zaa (zaA (zaa (pv 3) zad)) (zaa zae zad)))) zad))))) zaq)
   (zab (zaB (zas zbf (pv 2) za4 (zav _)) (zaf (zap (za7 (zaa (zdw GMMeter_1 (hrm hr) O (zaa (pv 3) zad)) (zaa (zaA (zaa (pv 2) (zaa (zaA (zaa (pv 3) zad)) (zaa zae zad)))) zad))))) zaq)
   (zab (ps_L 6 sc_law_chip.nd (pe_x zal (zaA (zaa (zak zaW zae (zak zax (zak zaC (pv 0) zae) zae)) (zaa zae zad))) (zbe zj7 (by rfl) T.int zj8 (zaa (zbj zbf (zak zax (zak zaC (pv 0) zae) zae) zae (zav _)) zad))))
   (zaf (zap (za7 (zaa (zdw GMPipe_1 (hrm hr) O (zaa (pv 6) zad)) (zaa (zaA (zaa (pv 2) (zaa (zaA zad) (zaa (pv 6) zad)))) zad)))))))))))),?rd⟩
  have hv:other % 256<=255:=by omega
  have ev:(other:Int) % 256=((other % 256:Nat):Int):=by omega
  refine zaU (λU X=>∃kd:Nat,kd<5/\atI [V.str "store",V.str "fixed",V.str "latch",V.str "meter",V.str "pipe",V.str "latch",V.str "store"] ((one:Int) % 7)=some (.str (zbB kd))/\U=[some (.int (one:Int)),some (.int (other:Int)),some (.str (zbB kd)),none,none,none,none]/\Same H X) (λN hN=>?_) ?_
  .refine{by show 7<=sizeLine;decide,λl hl=>{_,O,_,_,O,O,(show(0:Int)<7 by decide),?_}}
   obtain⟨kd,hkd,ek⟩:∃kd:Nat,kd<5/\atI [V.str "store",V.str "fixed",V.str "latch",V.str "meter",V.str "pipe",V.str "latch",V.str "store"] ((one:Int) % 7)=some (.str (zbB kd)):=by
    rw[show(one:Int) % 7=((one % 7:Nat):Int) by omega]
    rcases(show one % 7=0\/one % 7=1\/one % 7=2\/one % 7=3\/one % 7=4\/one % 7=5\/one % 7=6 by omega) with h|h|h|h|h|h|h<;>rw[h]
    .exact{0,by decide,O}
    .exact{1,by decide,O}
    .exact{2,by decide,O}
    .exact{3,by decide,O}
    .exact{4,by decide,O}
    .exact{2,by decide,O}
    .exact{0,by decide,O}
   exact{l,_,_,_,O,O,SqL.of zac,ek,hN _ _ {kd,hkd,ek,O,zag hl}}
  rintro U X ⟨kd,hkd,ek,rfl,sX⟩
  refine zaU (λU Y=>U=[some (.int (one:Int)),some (.int (other:Int)),some (.str (zbB kd)),some (.int ((other % 256:Nat):Int)),none,none,none]/\Y=X) (λN hN=>?_) ?_
  .refine{_,O,_,_,O,O,(show(0:Int)<256 by decide),hN _ _ {?_,O}}
   try dsimp only
   rw[ev]
   rfl
  rintro U Y ⟨rfl,rfl⟩
  generalize other % 256=v at *
  have same_p:∀{Z:Hp} {x dx p:Addr} {C:Addr},Z x=none->Z dx=none->dx≠x->upd (upd Z dx (.own x)) x (.ins C dx []) p=none->Z p=none:=λ{Z x dx p C} hx hdx ne h=>ziZ ((zag (o:=.own x) hdx).trans (zag (o:=.ins C dx []) (by rw[zah (Ne.symm ne)];exact hx))) h
  have fin:∀(x p r:Addr) (kd n:Nat) (us:List Nat) (Z:Hp),Same H Z->H p=none->H r=none->Chp cs Z x p kd n us->Z r=some (.lst (vN us))->Kd kd n us->(kd=2\/kd=3->us.length=1)->p≠r->zki one other v kd n us->3<=sizeLine/\∀a,Z a=none->2<=sizeLine/\∀t,upd Z a (.lst [.str (zbB kd),.ref r,.int (n:Int)]) t=none->Q (.ref t) (upd (upd Z a (.lst [.str (zbB kd),.ref r,.int (n:Int)])) t (.tup [.ref x,.ref a])):=λx p r kd n us Z sZ hp hr' hc er hk h1' hne hdet=>by
   refine{by decide,λa ha=>{by decide,λt ht=>?_}}
   have sa:=zag (o:=.lst [V.str (zbB kd),.ref r,.int (n:Int)]) ha
   have st:=zag (o:=.tup [.ref x,.ref a]) ht
   exact k t ⟨x,p,a,r,kd,n,us⟩ _ (sZ.trans sa |>.free ht) zac hp hr' (sZ.free ha) {hc.same (sa.trans st),{st _ _ zac,st _ _ (sa _ _ er)},hk,h1',hne} hdet ((sZ.trans sa).trans st)
  
  refine zaU (λU Z=>U=[some (.int (one:Int)),some (.int (other:Int)),some (.str (zbB kd)),some (.int (v:Int)),none,none,none]/\Z=Y/\kd≠0) (λN hN=>?_) ?_
  .refine{_,O,O,_,O,?_}
   rw[show decide (V.str (zbB kd)=V.str "store")=decide (kd=0) from zb0 (j:=0) hkd (by decide)]
   by_cases e:kd=0
   .subst e
    rw[Xak O]
    refine iteT {_,O,_,_,O,O,{by decide,by decide +kernel},_,_,O,O,(show(0:Int)<40 by decide),_,_,O,O,by show 4<=sizeLine;decide,λl hl=>{_,O,_,_,O,O,{by decide,by decide +kernel},_,_,O,O,(show(0:Int)<4 by decide),?_}}
    obtain⟨cn,c1,c2,ec⟩:∃cn:Nat,1<=cn/\cn<=300/\atI [V.int ((1:Int)+(one:Int) / 7 % 40),V.int 2,V.int 64,V.int 300] ((one:Int) / 280 % 4)=some (.int (cn:Int)):=by
     rw[show(one:Int) / 280 % 4=((one / 280 % 4:Nat):Int) by omega]
     rcases(show one / 280 % 4=0\/one / 280 % 4=1\/one / 280 % 4=2\/one / 280 % 4=3 by omega) with h|h|h|h<;>rw[h]
     .exact{1+one / 7 % 40,by omega,by omega,by show some (V.int ((1:Int)+(one:Int) / 7 % 40))=_;rw[show(1:Int)+(one:Int) / 7 % 40=((1+one / 7 % 40:Nat):Int) by omega]}
     .exact{2,by decide,by decide,O}
     .exact{64,by decide,by decide,O}
     .exact{300,by decide,by decide,O}
    refine{l,_,_,_,O,O,SqL.of zac,ec,?_}
    have sl:=sX.trans (zag (o:=.lst [V.int ((1:Int)+(one:Int) / 7 % 40),V.int 2,V.int 64,V.int 300]) hl)
    refine{_,O,_,O,λx dx hx hdx ne=>{x,dx,cn,(v:Int),O,c1,by omega,by omega,by omega,zac,λp Z1 hp ex el kp=>{O,?_}}}
    have sm:=zck hx hdx ne kp
    have hp1:=same_p hx hdx ne hp
    refine{_,O,_,O,by show 1<=sizeLine;decide,λg hg=>{_,O,g,_,_,O,O,zac,by omega,by omega,?_,λr hr'=>?_}}
    .rw[Xav];exact Xar (show 1*cn<=300 by omega) (by decide)
    have sg:=zag (o:=.lst [V.int (v:Int)]) hg
    have er:(List.replicate ((cn:Int)).toNat [V.int (v:Int)]).flatten=vN (List.replicate cn v):=by rw[Xav];exact zkC cn v
    rw[er]
    have sr:=zag (o:=.lst (vN (List.replicate cn v))) hr'
    have elv:Z1 p=some (.lst (vN (List.replicate cn v))):=by rw[el];unfold vN;rw[List.map_replicate]
    refine fin x p r 0 0 (List.replicate cn v) _ (sl.trans sm |>.trans sg |>.trans sr) (sl.free hp1) ((sl.trans sm).trans sg |>.free hr') {?_,(sg.trans sr) _ _ elv} zac {by decide,λw hw=>by rw[List.eq_of_mem_replicate hw];exact hv,by rw[XbC];omega,λ_=>by rw[XbC];exact c1,(λh=>absurd h (by decide)),(λh=>absurd h (by decide)),by decide} (λh=>by rcases h with h|h<;>cases h) ?_ {by decide,ek,(λ_=>⟨O,cn,ec,O⟩),(λh=>by cases h),(λh=>by rcases h with h|h<;>cases h),(λh=>by cases h)}
    .obtain⟨d0,e0⟩:=ex
     exact{d0,(sg.trans sr) _ _ e0}
    .intro z
     have:=sg _ _ elv
     rw[z,hr'] at this;cases this
   .rw[Xan e]
    exact iteF (hN _ _ ⟨O,O,e⟩)
  rintro U Z ⟨rfl,rfl,e0⟩
  
  refine zaU (λU Y=>U=[some (.int (one:Int)),some (.int (other:Int)),some (.str (zbB kd)),some (.int (v:Int)),none,none,none]/\Y=Z/\kd≠1) (λN hN=>?_) ?_
  .refine{_,O,O,_,O,?_}
   rw[show decide (V.str (zbB kd)=V.str "fixed")=decide (kd=1) from zb0 (j:=1) hkd (by decide)]
   by_cases e:kd=1
   .subst e
    rw[Xak O]
    refine iteT {_,O,_,_,O,O,{by decide,by decide +kernel},_,_,O,O,(show(0:Int)<20 by decide),_,_,O,O,_,O,by omega,by omega,?_}
    rw[show((1:Int)+(one:Int) / 7 % 20).toNat=1+one / 7 % 20 by omega]
    generalize hc:1+one / 7 % 20=cn
    have c1:1<=cn/\cn<=20:=by omega
    refine ze0 (n:=cn) (λi ys U X'=>∃(v0:Option V) (l:List Nat),U=[v0,some (.int (other:Int))]/\ys=vN l/\l.length=i/\(∀w∈l,w<=255)/\l=(List.range i).map (λi=>(other / (1+i)+7*i) % 256)/\X'=Z) (Xar c1.2 (by decide)) {none,[],O,O,O,(λ_ h=>nomatch h),O,O} ?_ ?_ ?_
    .rintro i ys U X' ⟨v0,l,rfl,rfl,hl,_⟩
     rw[zan,hl];exact Xae _
    .rintro i ys U X' hi ⟨v0,l,rfl,rfl,hl,hw,hlm,rfl⟩
     rw[Int.zero_add]
     refine{_,O,_,O,_,_,O,O,_,_,O,O,{by omega,log_ok (by omega) (by omega)},_,O,_,_,O,O,zer (by decide) (by omega),_,_,O,O,_,_,O,O,(show(0:Int)<256 by decide),?_}
     refine{_,l++[((other / (1+i)+7*i) % 256:Nat)],O,?_,by simp[hl],λw hw'=>?_,by rw[hlm,List.range_succ,XaD];rfl,O}
     .rw[zb5]
      congr 2
     .rcases XaI.mp hw' with h|h
      .exact hw w h
      .rw[Xad.mp h];omega
    .rintro ys U X' ⟨v0,l,rfl,rfl,hl,hw,hlm,rfl⟩ r hr'
     have sr:=sX.trans (zag (o:=.lst (vN l)) hr')
     refine{_,O,λx dx hx hdx ne=>{x,dx,r,l,O,?_,by omega,by omega,hw,zac,λp Z1 hp ex el kp=>{O,?_}}}
     .rw[zah (λz=>by rw[<- z,zac] at hx;cases hx),zah (λz=>by rw[<- z,zac] at hdx;cases hdx)];exact zac
     have sm:=zck hx hdx ne kp
     have hp1:=same_p hx hdx ne hp
     have er:=sm _ _ (zac (H:=X') (a:=r) (o:=.lst (vN l)))
     refine{_,O,_,O,fin x p r 1 0 l Z1 (sr.trans sm) (sr.free hp1) (sX.free hr') ⟨ex,el⟩ er {by decide,hw,by omega,λ_=>by omega,(λh=>absurd h (by decide)),(λh=>absurd h (by decide)),by decide} (λh=>by rcases h with h|h<;>cases h) ?_ {by decide,ek,(λh=>by cases h),(λ_=>{O,?_}),(λh=>by rcases h with h|h<;>cases h),(λh=>by cases h)}}
     .intro z
      rw[z,zac] at hp1;cases hp1
     .rw[hlm,<- hl]
      have:(List.range l.length).map (λi=>(other / (1+i)+7*i) % 256)=_:=rfl
      rw[show 1+one / 7 % 20=l.length by omega]
   .rw[Xan e]
    exact iteF (hN _ _ ⟨O,O,e⟩)
  rintro U Y ⟨rfl,rfl,e1⟩
  refine zaU (λU Z=>U=[some (.int (one:Int)),some (.int (other:Int)),some (.str (zbB kd)),some (.int (v:Int)),none,none,none]/\Z=Y/\kd≠2) (λN hN=>?_) ?_
  .refine{_,O,O,_,O,?_}
   rw[show decide (V.str (zbB kd)=V.str "latch")=decide (kd=2) from zb0 (j:=2) hkd (by decide)]
   by_cases e:kd=2
   .subst e
    rw[Xak O]
    refine iteT {_,O,λx dx hx hdx ne=>{x,dx,(v:Int),O,by omega,by omega,zac,λp Z1 hp ex el kp=>{O,?_}}}
    have sm:=zck hx hdx ne kp
    have hp1:=same_p hx hdx ne hp
    refine{_,O,_,O,by show 1<=sizeLine;decide,λr hr'=>?_}
    have sr:=zag (o:=.lst [V.int (v:Int)]) hr'
    refine fin x p r 2 0 [v] _ ((sX.trans sm).trans sr) (sX.free hp1) ((sX.trans sm).free hr') {?_,sr _ _ el} zac {by decide,λw hw=>by rw[Xad] at hw;omega,by show 1<=4096;decide,λ_=>Xae _,λ_=>O,(λh=>absurd h (by decide)),by decide} (λ_=>O) ?_ {by decide,ek,(λh=>by cases h),(λh=>by cases h),(λ_=>⟨O,O⟩),(λh=>by cases h)}
    .obtain⟨d0,e0⟩:=ex
     exact{d0,sr _ _ e0}
    .intro z
     rw[z,hr'] at el;cases el
   .rw[Xan e]
    exact iteF (hN _ _ ⟨O,O,e⟩)
  rintro U Y' ⟨rfl,rfl,e2⟩
  refine zky (λU Z=>U=[some (.int (one:Int)),some (.int (other:Int)),some (.str (zbB kd)),some (.int (v:Int)),none,none,none]/\Z=Y') (λU Z=>U=[some (.int (one:Int)),some (.int (other:Int)),some (.str (zbB kd)),some (.int (v:Int)),none,none,none]/\Z=Y'/\kd≠3) ?_ ?_ _ _ ⟨O,O⟩
  .rintro U Z ⟨rfl,rfl⟩ N hN
   refine{_,O,O,_,O,?_}
   rw[show decide (V.str (zbB kd)=V.str "meter")=decide (kd=3) from zb0 (j:=3) hkd (by decide)]
   by_cases e:kd=3
   .subst e
    rw[Xak O]
    refine iteT {_,O,λx dx hx hdx ne=>{x,dx,(v:Int),O,by omega,by omega,zac,λp Z1 hp ex el kp=>{O,?_}}}
    have sm:=zck hx hdx ne kp
    have hp1:=same_p hx hdx ne hp
    refine{_,O,_,O,by show 1<=sizeLine;decide,λr hr'=>?_}
    have sr:=zag (o:=.lst [V.int (v:Int)]) hr'
    refine fin x p r 3 0 [v] _ ((sX.trans sm).trans sr) (sX.free hp1) ((sX.trans sm).free hr') {?_,sr _ _ el} zac {by decide,λw hw=>by rw[Xad] at hw;omega,by show 1<=4096;decide,λ_=>Xae _,λ_=>O,(λh=>absurd h (by decide)),by decide} (λ_=>O) ?_ {by decide,ek,(λh=>by cases h),(λh=>by cases h),(λ_=>⟨O,O⟩),(λh=>by cases h)}
    .obtain⟨d0,e0⟩:=ex
     exact{d0,sr _ _ e0}
    .intro z
     rw[z,hr'] at el;cases el
   .rw[Xan e]
    exact iteF (hN _ _ ⟨O,O,e⟩)
  rintro U Z ⟨rfl,rfl,e3⟩
  obtain rfl:kd=4:=by omega
  refine{_,O,_,_,O,O,{by decide,by decide +kernel},_,_,O,O,(show(0:Int)<9 by decide),_,_,O,O,by show 2<=sizeLine;decide,λl hl=>{_,O,_,_,O,O,{by decide,by decide +kernel},_,_,O,O,(show(0:Int)<8 by decide),O,.inr {_,O,?_}}}
  obtain⟨rm,c1,c2,ec⟩:∃rm:Nat,1<=rm/\rm<=255/\atI [V.int ((1:Int)+(one:Int) / 7 % 9),V.int 255] (if decide (V.int ((one:Int) / 63 % 8)=V.int 3)=true then 1 else 0)=some (.int (rm:Int)):=by
   by_cases h:decide (V.int ((one:Int) / 63 % 8)=V.int 3)=true
   .rw[if_pos h];exact{255,by decide,by decide,O}
   .rw[if_neg h]
    exact{1+one / 7 % 9,by omega,by omega,by show some (V.int ((1:Int)+(one:Int) / 7 % 9))=_;rw[show(1:Int)+(one:Int) / 7 % 9=((1+one / 7 % 9:Nat):Int) by omega]}
  have sl:=sX.trans (zag (o:=.lst [V.int ((1:Int)+(one:Int) / 7 % 9),V.int 255]) hl)
  refine{l,_,_,_,O,O,SqL.of zac,ec,?_}
  refine{_,O,λx dx hx hdx ne=>{x,dx,rm,O,c1,c2,zac,λp Z1 hp ob kp=>{O,?_}}}
  have sm:=zck hx hdx ne kp
  have hp1:=same_p hx hdx ne hp
  refine{_,O,by show 0<=sizeLine;decide,λr hr'=>{_,O,?_}}
  have sr:=zag (o:=.lst []) hr'
  refine fin x p r 4 rm [] _ ((sl.trans sm).trans sr) (sl.free hp1) ((sl.trans sm).free hr') {?_,sr _ _ ob.ls} zac {by decide,(λw hw=>nomatch hw),by decide,(λh=>absurd O h),(λh=>absurd h (by decide)),λ_=>{Nat.zero_le _,c1},c2} (λh=>by rcases h with h|h<;>cases h) ?_ {by decide,ek,(λh=>by cases h),(λh=>by cases h),(λh=>by rcases h with h|h<;>cases h),(λ_=>⟨O,ec⟩)}
  .obtain⟨d0,e0⟩:=ob.ex
   exact{d0,sr _ _ e0}
  .intro z
   have:=ob.ls
   rw[z,hr'] at this;cases this
abbrev zcD:Stmt:=top 64
def sc_law_chips:FnScope ["row","chips","models","k","chip","model"] ["row"] (zaj zcD):=sck O O O (by decide +kernel)
def zkh(row:List Nat)(cl:List Cm):Prop:=∀i c,cl[i]?=some c->∃a b:Nat,atI (vN row) ((2*i:Nat):Int)=some (.int (a:Int))/\atI (vN row) (((2*i:Nat):Int)+1)=some (.int (b:Int))/\zki a b (b % 256) c.kd c.n c.us
def key44{row:List Nat}{cl cl':List Cm}(h:zkh row cl)(h':zkh row cl'){i:Nat}{c c':Cm}(e:cl[i]?=some c)(e':cl'[i]?=some c'):c.kd=c'.kd/\c.n=c'.n/\c.us=c'.us:=by
 obtain⟨a,b,e1,e2,d⟩:=h i c e
 obtain⟨a',b',e1',e2',d'⟩:=h' i c' e'
 rw[e1] at e1'
 rw[e2] at e2'
 obtain rfl:=Int.ofNat.inj (V.int.inj (Option.some.inj e1'))
 obtain rfl:=Int.ofNat.inj (V.int.inj (Option.some.inj e2'))
 exact det44 d d'
inductive spChips34(cs:Nat->Addr)(vs:List V)(H:Hp)(Q:VK)(u3_:XK):Prop
 | mk (L:Addr) (row:List Nat) (c:Nat)(_:vs=[.ref L])(_:H L=some (.lst (vN row)))(_:row.length=2*c)(_:1<=c)(_:c<=9)(_:(∀v∈row,v<2 ^ 31))(_:∀(t CL ML:Addr) (cl:List Cm) (H':Hp),H t=none->H CL=none->H ML=none->CL≠ML->H' t=some (.tup [.ref CL,.ref ML])->H' CL=some (.lst (cl.map λc=>.ref c.x))->H' ML=some (.lst (cl.map λc=>.ref c.m))->cl.length=c->CMs cs H' cl->(∀c∈cl,H c.p=none/\H c.r=none/\c.p≠CL/\c.p≠ML/\c.r≠CL/\c.r≠ML)->zkh row cl->Same H H'->Q (.ref t) H')
def zf0{f:Addr}{cs:Nat->Addr}{fd:FuncData}(F:FunN K "_law_chips" zcD f fd)(T:Blt mg)(G_law_chip:Cal P w K mg base 5 "_law_chip" ["one","other"] (spChip34 cs)):FnOk P w K mg base CX0 6 f fd ["row"] (spChips34 cs):=by
 refine F.ok sc_law_chips (by walk_at"l") (λcdv A outer s H vs Q E hr h=>?_)
 .obtain⟨L,row,c,rfl,eL,hl,c1,c9,hw,k⟩:=h
  refine⟨_,(zab (ps_L 1 sc_law_chips.nd (zaA zad))
   (zab (ps_L 2 sc_law_chips.nd (zaA zad))
   (zab (zbE PassesOwn.never O (zfS O T.range (zaa zae (zaa (zak zbG (zao zar (by rfl) T.len PySem.boot_len (zaa (pv 0) zad)) zae) (zaa zae zad)))) (pg_L 3 sc_law_chips.nd)
   (zab (zbl (pe_c G_law_chip (zaa (pe_x zal (pv 0) (pv 3)) (zaa (pe_x zal (pv 0) (zak zaW (pv 3) zae)) zad))) (zba O (zam (pg_L 4 sc_law_chips.nd) (zam (pg_L 5 sc_law_chips.nd) zaP))))
   (zab (zau (zch PySem.F.plainAttrs_list PySem.F.slot_list_append PySem.F.type_list_append zaS (pv 1) (zaa (pv 4) zad)))
   (zaf (zau (zch PySem.F.plainAttrs_list PySem.F.slot_list_append PySem.F.type_list_append zaS (pv 2) (zaa (pv 5) zad)))))))
   (zaf (zap (za7 (zaa (pv 1) (zaa (pv 2) zad)))))))),?rd⟩
  refine{by show 0<=sizeLine;decide,λCL hCL=>{by show 0<=sizeLine;decide,λML hML=>?_}}
  have s1:=zag (o:=.lst []) hCL
  have s2:=s1.trans (zag (o:=.lst []) hML)
  have nCM:CL≠ML:=λz=>by rw[<- z,zac] at hML;cases hML
  have hMH:H ML=none:=s1.free hML
  have nLC:L≠CL:=zai eL hCL
  have nLM:L≠ML:=zai eL hMH
  obtain⟨r1,r2,r3⟩:=zhy (j:=2*c-1) (st:=2) (n:=c) (by omega) (by decide) (by decide) (by omega)
  have ej:(((vN row).length:Nat):Int)-1=((2*c-1:Nat):Int):=by rw[zan,hl];omega
  rw[<- ej] at r1 r2 r3
  refine{_,O,L,_,O,.inl (SqL.of (s2 _ _ eL)),_,_,O,O,0,_,2,c,O,by decide,r1,r2,r3,?_}
  refine zeX (n:=c) (λi U X=>∃(v:Option V×Option V×Option V) (cl:List Cm),U=[some (.ref L),some (.ref CL),some (.ref ML),v.1,v.2.1,v.2.2]/\X CL=some (.lst (cl.map λc=>.ref c.x))/\X ML=some (.lst (cl.map λc=>.ref c.m))/\cl.length=i/\CMs cs X cl/\(∀c∈cl,H c.p=none/\H c.r=none/\c.p≠CL/\c.p≠ML/\c.r≠CL/\c.r≠ML/\c.x≠CL/\c.x≠ML/\c.m≠CL/\c.m≠ML)/\Same H X/\zkh row cl) {(_,_,_),[],O,zag hML _ _ zac,zac,O,{(λ_ h=>nomatch h),Xbg},(λ_ h=>nomatch h),s2,(λ_ _ h=>nomatch h)} ?_ ?_
  .rintro i U X hi ⟨v,cl,rfl,hh⟩
   have eC:=hh.1
   have eM:=hh.2.1
   have hlen:=hh.2.2.1
   have hC:=hh.2.2.2.1
   have hF:=hh.2.2.2.2.1
   have sX:=hh.2.2.2.2.2.1
   have hK:=hh.2.2.2.2.2.2
   obtain⟨dr,hdr⟩:=drw (row:=row) (2*c) (by omega) hw
   have eX:=sX _ _ eL
   have e1:(0:Int)+(i:Int)*2=((2*i:Nat):Int):=by omega
   rw[e1]
   have eb':atI (vN row) (((2*i:Nat):Int)+1)=some (.int (dr (2*i+1):Int)):=by rw[show((2*i:Nat):Int)+1=((2*i+1:Nat):Int) by omega];exact(hdr _ (by omega)).1
   refine{_,O,_,O,L,_,_,_,O,O,SqL.of eX,(hdr (2*i) (by omega)).1,_,O,_,O,_,_,O,O,L,_,_,_,O,O,SqL.of eX,eb',?_}
   refine{dr (2*i),dr (2*i+1),O,(hdr _ (by omega)).2,(hdr _ (by omega)).2,λt cm X1 ht et hp hr' hm ok hdet s1=>zhP et ?_}
   have hC1:=hC.add s1 hp hr' ok
   have eC1:=s1 _ _ eC
   have eM1:=s1 _ _ eM
   have nx:∀{q:Addr} {l:List V},X1 q=some (.lst l)->cm.x≠q:=λ{q l} h z=>by
    obtain⟨dx,e⟩:=ok.ch.ex;rw[z,h] at e;cases e
   have nn:∀{q z:Addr} {o:HO},X q=some o->X z=none->z≠q:=λ{q z o} h1 h2 e=>by rw[e,h1] at h2;cases h2
   have hF1:∀c∈cl++[cm],H c.p=none/\H c.r=none/\c.p≠CL/\c.p≠ML/\c.r≠CL/\c.r≠ML/\c.x≠CL/\c.x≠ML/\c.m≠CL/\c.m≠ML:=λc hc=>by
    rcases XaI.mp hc with hc|hc
    .exact hF c hc
    .rw[Xad.mp hc]
     exact{sX.free hp,sX.free hr',nn eC hp,nn eM hp,nn eC hr',nn eM hr',nx eC1,nx eM1,nn eC hm,nn eM hm}
   try dsimp only[zaY,List.set]
   refine{_,O,.inl {O,_,SqL.of eC1},_,O,CL,_,_,O,O,eC1,?_,?_}
   .rw[Xag];exact XaP (show cl.length<=9 by omega) (by decide)
   have eM2:upd X1 CL (.lst ((cl.map λc=>V.ref c.x)++[.ref cm.x])) ML=some (.lst (cl.map λc=>.ref c.m)):=by rw[zah (Ne.symm nCM)];exact eM1
   refine{_,O,.inl {O,_,SqL.of eM2},_,O,ML,_,_,O,O,eM2,?_,?_}
   .rw[Xag];exact XaP (show cl.length<=9 by omega) (by decide)
   refine{(_,_,_),cl++[cm],O,?_,?_,by simp[hlen],?_,hF1,λz o ez=>?_,λj c hc=>?_}
   .rw[zah nCM,zac,XaD];rfl
   .rw[zac,XaD];rfl
   .exact(hC1.updL λc hc=>let f:=hF1 c hc;⟨f.2.2.2.2.2.2.1,f.2.2.1,f.2.2.2.2.2.2.2.2.1,f.2.2.2.2.1⟩).updL λc hc=>let f:=hF1 c hc;⟨f.2.2.2.2.2.2.2.1,f.2.2.2.1,f.2.2.2.2.2.2.2.2.2,f.2.2.2.2.2.1⟩
   .rw[zah (zai ez hMH),zah (zai ez hCL)];exact s1 _ _ (sX _ _ ez)
   .by_cases hj:j<cl.length
    .rw[Xbt hj] at hc
     exact hK j c hc
    .have hj2:=(Xaf.mp hc).1
     rw[Xam,List.length_singleton] at hj2
     obtain rfl:j=i:=by omega
     rw[Xbp (by omega),show j-cl.length=0 by omega] at hc
     obtain rfl:=Option.some.inj hc
     exact{dr (2*j),dr (2*j+1),(hdr (2*j) (by omega)).1,eb',hdet}
  .rintro U X ⟨v,cl,rfl,eC,eM,hlen,hC,hF,sX,hK⟩
   refine{_,O,_,O,by show 2<=sizeLine;decide,λt ht=>?_}
   have st:=zag (o:=.tup [.ref CL,.ref ML]) ht
   exact k t CL ML cl _ (sX.free ht) hCL hMH nCM zac (st _ _ eC) (st _ _ eM) hlen (hC.same st) (λc hc=>let f:=hF c hc;⟨f.1,f.2.1,f.2.2.1,f.2.2.2.1,f.2.2.2.2.1,f.2.2.2.2.2.1⟩) hK (sX.trans st)
abbrev zee:Stmt:=top 70
def sc_law_row:FnScope ["r","bits","models","top","high","mask","chip","most","inner","latches","latch","asked"] ["r","bits","models"] (zaj zee):=sck O O O (by decide +kernel)
def andnot(a b:Nat):a-(a &&& b)=a ^^^ (a &&& b):=by
 have h:=or_is a (a &&& b)
 have h1:a ||| (a &&& b)=a:=by apply Nat.eq_of_testBit_eq;intro i;simp;cases a.testBit i<;>simp
 have h2:a &&& (a &&& b)=a &&& b:=by apply Nat.eq_of_testBit_eq;intro i;simp
 rw[h1,h2] at h
 omega
def left_of{T mask A i:Nat}(hm:T &&& mask=mask)(hA:A &&& (T-mask)=A)(hi:i &&& A=i):i<=T/\i &&& mask=0:=by
 have e:T-mask=T ^^^ (T &&& mask):=by rw[<- andnot,hm]
 have h1:i<=A:=by rw[<- hi];exact Xbk
 have h2:A<=T-mask:=by rw[<- hA];exact Xbk
 refine{by omega,?_}
 apply Nat.eq_of_testBit_eq
 intro j
 have b1:=congrArg (λx=>Nat.testBit x j) hi
 have b2:=congrArg (λx=>Nat.testBit x j) hA
 rw[e] at b2
 simp only[XaJ,Nat.testBit_xor,Nat.zero_testBit] at b1 b2 ⊢
 revert b1 b2
 cases i.testBit j<;>cases A.testBit j<;>cases mask.testBit j<;>cases T.testBit j<;>simp
def zm0{x m:Nat}:x &&& (2 ^ m-1)<2 ^ m:=by
 have h:=Xbo m
 have h2:x &&& (2 ^ m-1)<=2 ^ m-1:=Xbk
 omega
def zl6{mask m:Nat}(h:mask<2 ^ m):(2 ^ m-1) &&& mask=mask:=by
 rw[Nat.and_comm,Nat.and_two_pow_sub_one_eq_mod,Nat.mod_eq_of_lt h]
def zgW{ns:List Nat}{a k:Nat}(hl:ns.length=k)(hk:0<k):∃u∈ns,atI (vN ns) ((a:Int) % (k:Int))=some (.int (u:Int)):=by
 have h:a % k<ns.length:=by rw[hl];exact Xbw _ hk
 refine{ns[a % k],Xbe _,?_}
 rw[show(a:Int) % (k:Int)=((a % k:Nat):Int) by norm_cast]
 refine zaF ?_
 unfold vN
 rw[Xao,Xah h]
 rfl
def zk2{cs:Nat->Addr}{H:Hp}{cl:List Cm}{ML:Addr}{Q:List V->Hp->Prop}(eM:H ML=some (.lst (cl.map λc=>.ref c.m)))(hC:CMs cs H cl)(c9:cl.length<=9)(k:∀l:List Nat,l.length<=9->(∀x∈l,x<cl.length/\(cl.getD x dfCm).kd=2)->Q (vN l) H) :
  zgA (Itr 0 cl.length) (zaY 0) (zl7 (tOp rEq (tOp (rIxL K) (tOp (rIxL K) (tVar 1) (tVar 0)) (tC (.int 0))) (tC (.str "latch")))) (tVar 0) Q [none,some (.ref ML)] H:=by
 refine ze0 (n:=cl.length) (λj ys U Y=>∃(v0:Option V) (l:List Nat),U=[v0,some (.ref ML)]/\ys=vN l/\l.length<=j/\(∀x∈l,x<cl.length/\(cl.getD x dfCm).kd=2)/\Y=H) (Xar c9 (by decide)) {none,[],O,O,Xae _,(λx h=>nomatch h),O} ?_ ?_ ?_
 .rintro j ys U Y ⟨_,l,_,rfl,hl,_⟩
  rw[zan];exact hl
 .rintro j ys U Y hj ⟨v0,l,rfl,rfl,hl,hx,rfl⟩
  rw[Int.zero_add]
  have okj:=hC.o _ (zbg hj).1
  have hat:atI (cl.map λc=>V.ref c.m) (j:Int)=some (.ref (cl.getD j dfCm).m):=zaF (by rw[Xao,(zbg hj).2];rfl)
  have kn:decide (V.str (zbB (cl.getD j dfCm).kd)=V.str "latch")=decide ((cl.getD j dfCm).kd=2):=zb0 (j:=2) okj.k.k5 (by decide)
  refine{_,O,_,O,ML,_,_,_,O,O,SqL.of eM,hat,(cl.getD j dfCm).m,_,_,_,O,O,SqL.of okj.md.at_,O,O,_,O,?_}
  rw[kn]
  by_cases h2:(cl.getD j dfCm).kd=2
  .rw[Xak h2]
   refine iteT {_,O,_,l++[j],O,by rw[zb5],by rw[Xam];simp;omega,λx h=>?_,O}
   rcases XaI.mp h with h|h
   .exact hx x h
   .obtain rfl:=Xad.mp h;exact⟨hj,h2⟩
  .rw[Xan h2]
   exact iteF {_,l,O,O,by omega,hx,O}
 .rintro ys U Y ⟨v0,l,rfl,rfl,hl,hx,rfl⟩
  exact k l (by omega) hx
inductive spRow34(cs:Nat->Addr)(vs:List V)(H:Hp)(Q:VK)(u3_:XK):Prop
 | mk (L ML:Addr) (row:List Nat) (m:Nat) (cl:List Cm)(_:vs=[.ref L,.int (m:Int),.ref ML])(_:H L=some (.lst (vN row)))(_:row.length=8)(_:(∀v∈row,v<2 ^ 31))(_:1<=m)(_:m<=16)(_:H ML=some (.lst (cl.map λc=>.ref c.m)))(_:1<=cl.length)(_:cl.length<=9)(_:CMs cs H cl)(_:∀(t:Addr) (r:Rw) (H':Hp),H t=none->RwAt H' t r->RwOk m r->Fit (dtC cl) r->Same H H'->Q (.ref t) H')
set_option tactic.hygienic true in
def zih{f:Addr}{cs:Nat->Addr}{fd:FuncData}(F:FunN K "_law_row" zee f fd)(T:Blt mg)(G_law_few:Cal P w K mg base 2 "_law_few" ["number","most"] spFew)(G_law_size:Cal P w K mg base 1 "_law_size" ["model"] spSz34):FnOk P w K mg base CX0 3 f fd ["r","bits","models"] (spRow34 cs):=by
 refine F.ok sc_law_row (by walk_at"l") (λcdv A outer s H vs Q E hr h=>?_)
 .obtain⟨L,ML,row,m,cl,rfl,eL,hl,hw,m1,m2,eM,c1,c9,hC,k⟩:=h
  refine⟨_,(zab (ps_L 3 sc_law_row.nd (zak zbG (zak zdx zae (pv 1)) zae))
   (zab (ps_L 4 sc_law_row.nd (zak zaW (zak zbG (pv 3) (zak zdx zae (zak zax (zak zaC (pe_x zal (pv 0) zae) zae) (pv 1)))) zae))
   (zab (ps_L 5 sc_law_row.nd (zak zaR (pe_x zal (zaA (zaa (pe_x zal (pv 0) zae) (zaa (zak zkP (pe_x zal (pv 0) zae) (pe_x zal (pv 0) zae)) (zaa (zak zaR (pe_x zal (pv 0) zae) (pe_x zal (pv 0) zae)) (zaa (pv 4) (zaa (pe_c G_law_few (zaa (zak zaR (pe_x zal (pv 0) zae) (pv 3)) (zaa (zak zax (pe_x zal (pv 0) zae) zae) zad))) zad)))))) (zak zax (pe_x zal (pv 0) zae) zae)) (pv 3)))
   (zab (ps_L 6 sc_law_row.nd (zak zax (pe_x zal (pv 0) zae) (zao zar (by rfl) T.len PySem.boot_len (zaa (pv 2) zad))))
   (zab (ps_L 7 sc_law_row.nd zae)
   (zab (zdS PassesOwn.never (zas zh9 (zak zdx zae (pv 7)) (pe_c G_law_size (zaa (pe_x zal (pv 2) (pv 6)) zad)) (zav _)) (zaf (zlC (i:=7) sc_law_row.nd O (Or.inl O) zae zjF)))
   (zab (ps_L 8 sc_law_row.nd (pe_c G_law_few (zaa (pe_x zal (zaA (zaa (zak zbG (pv 3) (pv 5)) (zaa (zak zaR (pe_x zal (pv 0) zae) (zak zbG (pv 3) (pv 5))) zad))) (zak zax (pe_x zal (pv 0) zae) zae)) (zaa (pe_x zal (zaA (zaa (pv 7) (zaa (zak zax (zak zaC (pe_x zal (pv 0) zae) zae) (zak zaW (pv 7) zae)) zad))) (zak zax (zak zaC (pe_x zal (pv 0) zae) zae) zae)) zad))))
   (zab (zeQ (i:=9) (Nc:=["k","models"]) [none,some 2] sc_law_row.nd O O O (zaZ (by rfl)) (zcf O T.range (zaa (zao zar (by rfl) T.len PySem.boot_len (zaa (pv 2) zad)) zad)) (λ_ _ _ _ _=>(pg_L 0 (show(["k","models"]:List Str).Nodup by decide +kernel))) (λ_ _ _ _ _=>(zhB (zas zbf (pe_x (zdU (K:=K) O) (pe_x (zdU (K:=K) O) (pv 1) (pv 0)) zae) za4 (zav _)))) (λ_ _ _ _ _=>(pv 0)))
   (zab (ps_L 10 sc_law_row.nd zeS)
   (zab (zaB (PW.pt (zhz (zas (zjj (XbG (zdQ hr)) (K:=K) O) (pv 9) (zaA zad) (zav _)) (zfj (zas zgZ (zak zax (pe_x zal (pv 0) zae) zae) zae (zav _))))) (zab (ps_L 11 sc_law_row.nd (zak zax (pe_x zal (zaA (zaa (zak zaC (pe_x zal (pv 0) zae) zae) (zaa (zak zdx zae (zak zax (zak zaC (pe_x zal (pv 0) zae) zae) zae)) (zaa zae zad)))) (zak zax (pe_x zal (pv 0) zae) zae)) zae))
   (zaf (ps_L 10 sc_law_row.nd (za7 (zaa (pe_x zal (pv 9) (zak zax (zak zaC (pe_x zal (pv 0) zae) zae) (zao zar (by rfl) T.len PySem.boot_len (zaa (pv 9) zad)))) (zaa (pv 11) (zaa (zak zaR (zak zaC (pe_x zal (pv 0) zae) zae) (pv 11)) zad))))))) zaq)
   (zaf (zap (za7 (zaa (pv 5) (zaa (zak zaR (pe_x zal (pv 0) zae) (pv 5)) (zaa (pv 8) (zaa (pv 6) (zaa (pv 10) zad)))))))))))))))))),?rd⟩
  have e1:(1:Int)*2 ^ ((m:Nat):Int).toNat=((2 ^ m:Nat):Int):=by rw[Int.one_mul,Xav];norm_cast
  have h0m:0<2 ^ m:=Xbo m
  have h2m:2 ^ m<=2 ^ 16:=XaT (by decide) m2
  obtain⟨dr,hdr⟩:=drw (row:=row) 8 (by omega) hw
  have y0:atI (vN row) 0=some (.int (dr 0:Int)):=(hdr 0 (by decide)).1
  have y1:atI (vN row) 1=some (.int (dr 1:Int)):=(hdr 1 (by decide)).1
  have y2:atI (vN row) 2=some (.int (dr 2:Int)):=(hdr 2 (by decide)).1
  have y3:atI (vN row) 3=some (.int (dr 3:Int)):=(hdr 3 (by decide)).1
  have y4:atI (vN row) 4=some (.int (dr 4:Int)):=(hdr 4 (by decide)).1
  have y5:atI (vN row) 5=some (.int (dr 5:Int)):=(hdr 5 (by decide)).1
  have y6:atI (vN row) 6=some (.int (dr 6:Int)):=(hdr 6 (by decide)).1
  have y7:atI (vN row) 7=some (.int (dr 7:Int)):=(hdr 7 (by decide)).1
  have ix:∀{X:Hp},Same H X->SqL K X L (vN row):=λs=>SqL.of (s _ _ eL)
  generalize hT:2 ^ m-1=T
  
  refine zaU (λU X=>U=[some (.ref L),some (.int (m:Int)),some (.ref ML),some (.int (T:Int)),none,none,none,none,none,none,none,none]/\X=H) (λN hN=>?_) ?_
  .refine{_,O,_,_,O,O,{by omega,by omega,by decide},_,_,O,O,hN _ _ {?_,O}}
   try dsimp only
   rw[e1,show((2 ^ m:Nat):Int)-1=(T:Int) by omega]
   rfl
  rintro U X ⟨rfl,rfl⟩
  
  refine zaU (λU Y=>∃hh:Nat,hh<=2 ^ 31/\U=[some (.ref L),some (.int (m:Int)),some (.ref ML),some (.int (T:Int)),some (.int (hh:Int)),none,none,none,none,none,none,none]/\Y=X) (λN hN=>?_) ?_
  .refine{_,O,_,O,L,_,_,_,O,O,ix (Same.refl _),y0,_,_,O,O,{by decide,by decide +kernel},_,O,_,_,O,O,(by show(0:Int)<(m:Int);omega),_,_,O,O,{?_,?_,by decide},_,_,O,O,_,_,O,O,?_}
   .exact XbE _ (by omega)
   .have:=Xbs ((dr 0:Int) / 16) (show(0:Int)<(m:Int) by omega);omega
   have ek:(dr 0:Int) / 16 % (m:Int)=((dr 0 / 16 % m:Nat):Int):=by norm_cast
   have hk:dr 0 / 16 % m<m:=Xbw _ (by omega)
   have hk2:2 ^ (dr 0 / 16 % m)<=T:=by
    have:2 ^ (dr 0 / 16 % m)<=2 ^ (m-1):=XaT (by decide) (by omega)
    have e:2 ^ m=2*2 ^ (m-1):=by rw[<- Nat.pow_succ'];congr 1;omega
    have:=Xbo (m-1)
    omega
   refine hN _ _ {T-2 ^ (dr 0 / 16 % m)+1,?_,?_,O}
   .have:=Nat.sub_le T (2 ^ (dr 0 / 16 % m));have:(2:Nat) ^ 16=65536:=by decide
    have:(2:Nat) ^ 31=2147483648:=by decide
    omega
   try dsimp only
   rw[ek,show(1:Int)*2 ^ ((dr 0 / 16 % m:Nat):Int).toNat=((2 ^ (dr 0 / 16 % m):Nat):Int) by rw[Int.one_mul,Xav];norm_cast]
   rw[show(T:Int)-((2 ^ (dr 0 / 16 % m):Nat):Int)+1=((T-2 ^ (dr 0 / 16 % m)+1:Nat):Int) by omega]
   rfl
  rintro U Y ⟨hh,hh1,rfl,rfl⟩
  
  refine zaU (λU X=>∃mask:Nat,mask<2 ^ m/\U=[some (.ref L),some (.int (m:Int)),some (.ref ML),some (.int (T:Int)),some (.int (hh:Int)),some (.int (mask:Int)),none,none,none,none,none,none]/\Same Y X) (λN hN=>?_) ?_
  .have i0:=ix (Same.refl Y)
   refine{_,O,L,_,_,_,O,O,i0,y0,_,O,L,_,_,_,O,O,i0,y0,_,O,L,_,_,_,O,O,i0,y1,_,_,O,O,_,O,L,_,_,_,O,O,i0,y0,_,O,L,_,_,_,O,O,i0,y1,_,_,O,O,_,O,_,O,L,_,_,_,O,O,i0,y0,_,O,_,_,O,O,_,O,L,_,_,_,O,O,i0,y1,_,_,O,O,(show(0:Int)<4 by decide),?_}
   refine{dr 0 &&& T,dr 1 % 4,?_,?_,λr H1 hr s1=>{by show 5<=sizeLine;decide,λp hp=>?_}}
   .show[V.int (Builtin.bitAnd (dr 0:Int) (T:Int)),V.int ((dr 1:Int) % 4)]=_
    rw[band,show(dr 1:Int) % 4=((dr 1 % 4:Nat):Int) by omega]
   .exact XaP Nat.and_le_left (XbO (hdr 0 (by decide)).2 (by decide))
   obtain⟨u,_,eu⟩:=zgW (ns:=[dr 0,dr 0 ||| dr 1,dr 0 &&& dr 1,hh,r]) (a:=dr 2) (k:=5) O (by decide)
   refine{_,O,L,_,_,_,O,O,ix (s1.trans (zag hp)),y2,_,_,O,O,(show(0:Int)<5 by decide),p,_,_,.int (u:Int),O,O,SqL.of zac,?_,_,O,_,_,O,O,?_}
   .show atI [V.int (dr 0:Int),V.int (Builtin.bitOr (dr 0:Int) (dr 1:Int)),V.int (Builtin.bitAnd (dr 0:Int) (dr 1:Int)),V.int (hh:Int),V.int (r:Int)] ((dr 2:Int) % 5)=_
    rw[bor,band]
    exact eu
   refine hN _ _ {u &&& T,by rw[<- hT];exact zm0,?_,s1.trans (zag hp)}
   try dsimp only
   rw[band]
   rfl
  rintro U X ⟨mask,hmask,rfl,sX⟩
  
  refine zaU (λU Z=>U=[some (.ref L),some (.int (m:Int)),some (.ref ML),some (.int (T:Int)),some (.int (hh:Int)),some (.int (mask:Int)),some (.int ((dr 3 % cl.length:Nat):Int)),none,none,none,none,none]/\Z=X) (λN hN=>?_) ?_
  .refine{_,O,L,_,_,_,O,O,ix sX,y3,_,O,ML,_,O,.inl (SqL.of (sX _ _ eM)),_,_,O,O,?_,hN _ _ {?_,O}}
   .rw[Xag];omega
   try dsimp only
   rw[Xag,show(dr 3:Int) % (cl.length:Int)=((dr 3 % cl.length:Nat):Int) by norm_cast]
   rfl
  rintro U Z ⟨rfl,rfl⟩
  have hch:dr 3 % cl.length<cl.length:=Xbw _ (by omega)
  generalize dr 3 % cl.length=ch at hch ⊢
  refine zaU (λU Y=>U=[some (.ref L),some (.int (m:Int)),some (.ref ML),some (.int (T:Int)),some (.int (hh:Int)),some (.int (mask:Int)),some (.int (ch:Int)),some (.int (0:Int)),none,none,none,none]/\Y=Z) (λN hN=>?_) ?_
  .exact hN _ _ ⟨O,O⟩
  rintro U Y ⟨rfl,rfl⟩
  
  refine zaU (λU X=>∃mo:Nat,2 ^ mo<=ksize (cl.getD ch dfCm).kd (cl.getD ch dfCm).us/\mo<=16/\U=[some (.ref L),some (.int (m:Int)),some (.ref ML),some (.int (T:Int)),some (.int (hh:Int)),some (.int (mask:Int)),some (.int (ch:Int)),some (.int (mo:Int)),none,none,none,none]/\X=Y) (λN hN=>?_) ?_
  .have okc:=hC.o _ (zbg hch).1
   have eMX:=sX _ _ eM
   have hat:atI (cl.map λc=>V.ref c.m) (ch:Int)=some (.ref (cl.getD ch dfCm).m):=zaF (by rw[Xao,(zbg hch).2];rfl)
   have kz1:1<=ksize (cl.getD ch dfCm).kd (cl.getD ch dfCm).us/\ksize (cl.getD ch dfCm).kd (cl.getD ch dfCm).us<=4096:=by
    have kk:=okc.k
    unfold ksize
    split
    .exact{by decide,by decide}
    .rename_i h;exact{kk.l1 h,kk.ln}
   have okX:=okc.same sX
   refine zdR (λU W=>∃mo:Nat,2 ^ mo<=ksize (cl.getD ch dfCm).kd (cl.getD ch dfCm).us/\U=[some (.ref L),some (.int (m:Int)),some (.ref ML),some (.int (T:Int)),some (.int (hh:Int)),some (.int (mask:Int)),some (.int (ch:Int)),some (.int (mo:Int)),none,none,none,none]/\W=Y) (λU _=>match U with|[_,_,_,_,_,_,_,some (.int b),_,_,_,_]=>13-b.toNat|_=>0) {0,kz1.1,O,O} ?_ ?_
   .rintro U W ⟨mo,hmo,rfl,rfl⟩
    have mo12:mo<13:=by
     by_cases h:mo<13
     .exact h
     .have:2 ^ 13<=2 ^ mo:=XaT (by decide) (by omega)
      omega
    have e2:(2:Int)*2 ^ ((mo:Nat):Int).toNat=((2 ^ (mo+1):Nat):Int):=by rw[Xav,Xbj];push_cast;omega
    refine{_,O,_,_,O,O,{by omega,by omega,by decide},_,O,_,O,ML,_,_,_,O,O,SqL.of eMX,hat,_,_,_,_,_,O,okX.md,okX.k.k5,_,_,O,O,_,O,ite2 (λh1=>?_) (λh1=>?_)}
    .have h1:2 ^ (mo+1)<=ksize (cl.getD ch dfCm).kd (cl.getD ch dfCm).us:=by
      have:=XaK h1;rw[e2] at this;omega
     refine{_,O,_,_,O,O,{mo+1,h1,?_,O},?_}
     .rfl
     .show 13-((mo:Int)+1).toNat<13-((mo:Nat):Int).toNat
      omega
    .exact hN _ _ {mo,hmo,by omega,O,O}
   .rintro U W Q1 Q2 hq h
    obtain⟨v,e,i,j,ei,ej,c,v2,e2,v3,e3,a,b,c1_,d,f1,f2,f3,f4,m1_,r1,kd1,n1,us1,g1,g2,g3,i2,j2,g4,g5,b2,g6,h⟩:=h
    exact{v,e,i,j,ei,ej,c,v2,e2,v3,e3,a,b,c1_,d,f1,f2,f3,f4,m1_,r1,kd1,n1,us1,g1,g2,g3,i2,j2,g4,g5,b2,g6,hq _ _ h}
  rintro U X ⟨mo,hmo,hmo16,rfl,rfl⟩
  have hTm:T &&& mask=mask:=by rw[<- hT];exact zl6 hmask
  have hmT:mask<=T:=by omega
  
  refine zaU (λU Y=>∃inn:Nat,inn<=T/\inn &&& mask=0/\ones inn<=mo/\U=[some (.ref L),some (.int (m:Int)),some (.ref ML),some (.int (T:Int)),some (.int (hh:Int)),some (.int (mask:Int)),some (.int (ch:Int)),some (.int (mo:Int)),some (.int (inn:Int)),none,none,none]/\Same X Y) (λN hN=>?_) ?_
  .have eTm:(T:Int)-(mask:Int)=((T-mask:Nat):Int):=by omega
   refine{_,O,_,O,_,_,O,O,_,O,L,_,_,_,O,O,ix sX,y4,_,O,_,O,_,_,O,O,_,_,O,O,by show 2<=sizeLine;decide,λp hp=>?_}
   have sp:=sX.trans (zag (o:=.lst [V.int ((T:Int)-(mask:Int)),V.int (Builtin.bitAnd (dr 4:Int) ((T:Int)-(mask:Int)))]) hp)
   obtain⟨u,hu,eu⟩:=zgW (ns:=[T-mask,dr 4 &&& (T-mask)]) (a:=dr 5) (k:=2) O (by decide)
   have hu':u &&& (T-mask)=u:=by
    rcases Xau.mp hu with rfl|hu
    .exact Nat.and_self _
    .rw[Xad.mp hu,Nat.and_assoc,Nat.and_self]
   refine{_,O,L,_,_,_,O,O,ix sp,y5,_,_,O,O,(show(0:Int)<2 by decide),p,_,_,.int (u:Int),O,O,SqL.of zac,?_,?_}
   .show atI [V.int ((T:Int)-(mask:Int)),V.int (Builtin.bitAnd (dr 4:Int) ((T:Int)-(mask:Int)))] ((dr 5:Int) % 2)=_
    rw[eTm,band]
    exact eu
   refine{_,O,_,O,L,_,_,_,O,O,ix sp,y4,_,_,O,O,{by decide,by decide +kernel},_,O,_,_,O,O,_,_,O,O,(show(0:Int)<(mo:Int)+1 by omega),by show 2<=sizeLine;decide,λp2 hp2=>?_}
   have sp2:=sp.trans (zag (o:=.lst [V.int (mo:Int),V.int ((dr 4:Int) / 64 % ((mo:Int)+1))]) hp2)
   obtain⟨u2,hu2,eu2⟩:=zgW (ns:=[mo,dr 4 / 64 % (mo+1)]) (a:=dr 5 / 2) (k:=2) O (by decide)
   have hu2':u2<=mo:=by
    rcases Xau.mp hu2 with rfl|hu
    .exact Xae _
    .rw[Xad.mp hu];have:=Xbw (dr 4 / 64) (show 0<mo+1 by omega);omega
   refine{_,O,L,_,_,_,O,O,ix sp2,y5,_,_,O,O,{by decide,by decide +kernel},_,_,O,O,(show(0:Int)<2 by decide),p2,_,_,.int (u2:Int),O,O,SqL.of zac,?_,?_}
   .show atI [V.int (mo:Int),V.int ((dr 4:Int) / 64 % ((mo:Int)+1))] ((dr 5:Int) / 2 % 2)=_
    rw[show(dr 4:Int) / 64 % ((mo:Int)+1)=((dr 4 / 64 % (mo+1):Nat):Int) by push_cast;rfl,show(dr 5:Int) / 2=((dr 5 / 2:Nat):Int) by omega]
    exact eu2
   refine{u,u2,O,?_,λr H1 hr s1=>?_}
   .have:u<=T-mask:=by rw[<- hu'];exact Xbk
    have:(2:Nat) ^ 16=65536:=by decide
    have:(2:Nat) ^ 32=4294967296:=by decide
    omega
   obtain⟨l1,l2⟩:=left_of hTm hu' hr.1
   exact hN _ _ {r,l1,l2,Xar hr.2 hu2',O,((zag hp).trans (zag hp2)).trans s1}
  rintro U Y ⟨inn,hiT,him,hio,rfl,sXY⟩
  have sY:=sX.trans sXY
  
  refine zaU (λU X=>∃(LL:Addr) (l:List Nat),U=[some (.ref L),some (.int (m:Int)),some (.ref ML),some (.int (T:Int)),some (.int (hh:Int)),some (.int (mask:Int)),some (.int (ch:Int)),some (.int (mo:Int)),some (.int (inn:Int)),some (.ref LL),none,none]/\X LL=some (.lst (vN l))/\l.length<=9/\(∀x∈l,x<cl.length/\(cl.getD x dfCm).kd=2)/\Same Y X) (λN hN=>?_) ?_
  .have eMX:=sY _ _ eM
   refine{_,O,ML,_,O,.inl (SqL.of eMX),_,O,by rw[Xag];omega,by rw[Xag];omega,?_}
   rw[Xag,Xav]
   exact zk2 eMX (hC.same sY) c9 λl hl hx LL hLL=>hN _ _ {LL,l,O,zac,hl,hx,zag hLL}
  rintro U X ⟨LL,l,rfl,eLL,hl9,hlx,sYX⟩
  have sX2:=sY.trans sYX
  clear sX sXY sY sYX
  refine zaU (λU Y=>U=[some (.ref L),some (.int (m:Int)),some (.ref ML),some (.int (T:Int)),some (.int (hh:Int)),some (.int (mask:Int)),some (.int (ch:Int)),some (.int (mo:Int)),some (.int (inn:Int)),some (.ref LL),some .non,none]/\Y=X) (λN hN=>?_) ?_
  .exact hN _ _ ⟨O,O⟩
  rintro U Y ⟨rfl,rfl⟩
  
  refine zaU (λU X=>∃(lo:Option (Nat×Nat×Nat)) (lv:V) (v11:Option V),LatV X lv lo/\zm3 lo/\(∀c a b,lo=some (c,a,b)->c<cl.length/\(cl.getD c dfCm).kd=2)/\U=[some (.ref L),some (.int (m:Int)),some (.ref ML),some (.int (T:Int)),some (.int (hh:Int)),some (.int (mask:Int)),some (.int (ch:Int)),some (.int (mo:Int)),some (.int (inn:Int)),some (.ref LL),some lv,v11]/\Same Y X) (λN hN=>?_) ?_
  .refine{_,O,by show 0<=sizeLine;decide,λe he=>{LL,e,_,O,O,SqL.of (zag he _ _ eLL),SqL.of zac,_,O,ite2 (λh1=>?_) (λh1=>?_)}}
   .have se:=sX2.trans (zag (o:=.lst []) he)
    have sne:=zag (o:=.lst []) he
    have l1:1<=l.length:=by
     cases l with
     | nil=>exact absurd h1 (by decide)
     | cons _ _=>simp
    have eL2:=sne _ _ eLL
    generalize upd Y e (.lst [])=Z at *
    refine{_,O,L,_,_,_,O,O,ix se,y6,_,_,O,O,(show(0:Int)<3 by decide),_,_,O,O,_,O,ite2 (λh2=>?_) (λh2=>?_)}
    .refine{_,O,L,_,_,_,O,O,ix se,y6,_,_,O,O,{by decide,by decide +kernel},_,O,L,_,_,_,O,O,ix se,y6,_,_,O,O,{by decide,by decide +kernel},_,_,O,O,(show(0:Int)<8 by decide),_,_,O,O,{by omega,by omega,by decide},by show 3<=sizeLine;decide,λp hp=>?_}
     have e6:(dr 6:Int) / 3=((dr 6 / 3:Nat):Int):=by omega
     have e68:(1:Int)*2 ^ ((dr 6:Int) / 3 % 8).toNat=((2 ^ (dr 6 / 3 % 8):Nat):Int):=by rw[show(dr 6:Int) / 3 % 8=((dr 6 / 3 % 8:Nat):Int) by omega,Int.one_mul,Xav];norm_cast
     obtain⟨u,_,eu⟩:=zgW (ns:=[dr 6 / 3,2 ^ (dr 6 / 3 % 8),3]) (a:=dr 7) (k:=3) O (by decide)
     have snp:=sne.trans (zag (o:=.lst [V.int ((dr 6:Int) / 3),V.int ((1:Int)*2 ^ ((dr 6:Int) / 3 % 8).toNat),V.int 3]) hp)
     have sp:=sX2.trans snp
     have eL3:=zag (o:=.lst [V.int ((dr 6:Int) / 3),V.int ((1:Int)*2 ^ ((dr 6:Int) / 3 % 8).toNat),V.int 3]) hp _ _ eL2
     refine{_,O,L,_,_,_,O,O,ix sp,y7,_,_,O,O,(show(0:Int)<3 by decide),p,_,_,.int (u:Int),O,O,SqL.of zac,?_,_,_,O,O,(show(0:Int)<256 by decide),?_}
     .show atI [V.int ((dr 6:Int) / 3),V.int ((1:Int)*2 ^ ((dr 6:Int) / 3 % 8).toNat),V.int 3] ((dr 7:Int) % 3)=_
      rw[e68,e6]
      exact eu
     try dsimp only[zaY,List.set]
     rw[show(u:Int) % 256=((u % 256:Nat):Int) by omega]
     have hll:(0:Int)<((vN l).length:Int):=by rw[zan];omega
     obtain⟨x,hx,ex⟩:=zgW (ns:=l) (a:=dr 7 / 3) (k:=l.length) O (by omega)
     refine{_,O,_,O,L,_,_,_,O,O,ix sp,y7,_,_,O,O,{by decide,by decide +kernel},_,O,LL,_,O,.inl (SqL.of eL3),_,_,O,O,hll,LL,_,_,.int (x:Int),O,O,SqL.of eL3,?_,?_}
     .rw[zan,show(dr 7:Int) / 3=((dr 7 / 3:Nat):Int) by omega];exact ex
     refine{_,O,_,O,L,_,_,_,O,O,ix sp,y7,_,_,O,O,{by decide,by decide +kernel},_,O,_,_,O,O,by show 3<=sizeLine;decide,λq hq=>?_}
     obtain⟨hx1,hx2⟩:=hlx x hx
     refine hN _ _ {some (x,u % 256,dr 7 / 30 &&& (u % 256)),.ref q,_,{q,O,?_},{by omega,by omega,by rw[Nat.and_assoc,Nat.and_self]},λc a b h=>?_,O,snp.trans (zag hq)}
     .rw[zac]
      try dsimp only
      rw[show(dr 7:Int) / 30=((dr 7 / 30:Nat):Int) by omega,band]
     .obtain⟨rfl,rfl⟩:=Prod.mk.inj (Option.some.inj h) |>.imp_right (λh=>(Prod.mk.inj h).1)
      exact⟨hx1,hx2⟩
    .exact zat (hN _ _ {none,.non,_,O,trivial,(λ_ _ _ h=>nomatch h),O,sne})
   .exact iteF (zat (hN _ _ {none,.non,_,O,trivial,(λ_ _ _ h=>nomatch h),O,zag he}))
  rintro U X ⟨lo,lv,v11,hlv,hlo,hlc,rfl,sYX⟩
  refine{_,O,_,O,L,_,_,_,O,O,ix (sX2.trans sYX),y1,_,O,_,_,O,O,_,O,_,O,_,O,by show 5<=sizeLine;decide,λt ht=>?_}
  have st:=(sX2.trans sYX).trans (zag (o:=.tup [V.int (mask:Int),V.int (Builtin.bitAnd (dr 1:Int) (mask:Int)),V.int (inn:Int),V.int (ch:Int),lv]) ht)
  refine k t {mask,dr 1 &&& mask,inn,ch,lo} _ ((sX2.trans sYX).free ht) {lv,?_,?_} {hmask,XaP Xbk hmask,by rw[Nat.and_assoc,Nat.and_self],by show inn<2 ^ m;omega,him,by show ch<100;omega,hlo} {hch,?_,hlc} st
  .rw[zac]
   try dsimp only
   rw[band]
  .exact LatV.same hlv (zag ht)
  .exact Xar (XaT (by decide) hio) hmo
abbrev zde:Stmt:=top 71
def sc_law_pair:FnScope ["one","other","words","latch","told","chip","first","last"] ["one","other"] (zaj zde):=sck O O O (by decide +kernel)
inductive spPairL(vs:List V)(H:Hp)(Q:VK)(u3_:XK):Prop
 | mk (t u:Addr) (r q:Rw)(_:vs=[.ref t,.ref u])(_:RwAt H t r)(_:RwAt H u q)(_:(za9 r q=false->∀H',Same H H'->Q .non H'))(_:(za9 r q=true->∀(p:Addr) (H':Hp),Same H H'->Q (.ref p) H'))
structure Grp(X:Hp)(d:Addr)(g:List (Nat×Addr×List V)):Prop where
 e:X d=some (.dK (g.map λy=>((Sum.inl (y.1:Int):Key),V.ref y.2.1)))
 l:∀y∈g,X y.2.1=some (.lst y.2.2)
 nd:(g.map (·.1)).Nodup
 na:(g.map (·.2.1)).Nodup
def gOne(A:Addr)(lt:V):Option (Nat×Nat×Nat)->List (Nat×Addr×List V)
 | none=>[]
 | some (c,_,_)=>[(c,A,[lt])]
def gTwo(A B:Addr)(lt lu:V):Option (Nat×Nat×Nat)->Option (Nat×Nat×Nat)->List (Nat×Addr×List V)
 | none,o=>gOne B lu o
 | some (c,_,_),none=>[(c,A,[lt])]
 | some (c,_,_),some (d,_,_)=>if c=d then[(c,A,[lt,lu])] else[(c,A,[lt]),(d,B,[lu])]
def Gi(lt lu:V)(o p:Option (Nat×Nat×Nat))(i:Nat)(g:List (Nat×Addr×List V)):Prop:=match i with
 | 0=>g=[]
 | 1=>∃A,g=gOne A lt o
 | _=>∃A B,g=gTwo A B lt lu o p
def ziL:∀{g:List (Nat×Addr×List V)} {y:Nat×Addr×List V},(g.map (·.1)).Nodup->y∈g->valV (g.map λy=>((Sum.inl (y.1:Int):Key),V.ref y.2.1)) (Sum.inl (y.1:Int))=some (V.ref y.2.1)
 | [],_,_,h=>by cases h
 | z::g,y,hn,h=>by
  rw[XaF,XbV] at hn
  rw[XaF]
  by_cases e:z.1=y.1
  .rcases Xau.mp h with rfl|h
   .exact zaV O
   .exact absurd (XaC.mpr ⟨y,h,e.symm⟩) hn.1
  .rw[za0 (λq=>e (by have:=Sum.inl.inj q;omega))]
   rcases Xau.mp h with rfl|h
   .exact absurd O e
   .exact ziL hn.2 h
def zg6{f:Addr}{fd:FuncData}(F:FunN K "_law_pair" zde f fd)(T:Blt mg)(GBsorted:mg "sorted"=none):FnOk P w K mg base CX0 1 f fd ["one","other"] spPairL:=by
 refine F.ok sc_law_pair (by walk_at"l") (λcdv A outer s H vs Q E hr h=>?_)
 .obtain⟨t,u,r,q,rfl,⟨lt,et,hlt⟩,⟨lu,eu,hlu⟩,k1,k2⟩:=h
  refine⟨_,(zab (zaB (zas zgZ (zak zaR (zak zaR (zak zhG (pe_x zaz (pv 0) zae) (pe_x zaz (pv 1) zae)) (pe_x zaz (pv 0) zae)) (pe_x zaz (pv 1) zae)) zae (zav _)) (zaf (zap zeS)) zaq)
   (zab (ps_L 2 sc_law_pair.nd zhE)
   (zab (zbE PassesOwn.never O (zcg (zaA (zaa (pe_x zaz (pv 0) zae) (zaa (pe_x zaz (pv 1) zae) zad)))) (pg_L 3 sc_law_pair.nd)
   (zaf (zaB (zbz (zcM (pv 3))) (zab (zau (zch PySem.F.plainAttrs_dict PySem.F.slot_dict_setdefault PySem.F.type_dict_setdefault zfy (pv 2) (zaa (pe_x zaz (pv 3) zae) (zaa (zaA zad) zad))))
   (zaf (zau (zch PySem.F.plainAttrs_list PySem.F.slot_list_append PySem.F.type_list_append zaS (zfm (zdQ hr) (pv 2) (pe_x zaz (pv 3) zae) (λ_ _=>O)) (zaa (pv 3) zad))))) zaq)))
   (zab (ps_L 4 sc_law_pair.nd (zaA zad))
   (zab (zbE PassesOwn.never O (zcg (zao (zgr O) (by rfl) GBsorted zgt (zaa (pv 2) zad))) (pg_L 5 sc_law_pair.nd)
   (zab (ps_L 6 sc_law_pair.nd (pe_x zal (zfm (zdQ hr) (pv 2) (pv 5) (λ_ _=>O)) zae))
   (zab (ps_L 7 sc_law_pair.nd (pe_x zal (zfm (zdQ hr) (pv 2) (pv 5) (λ_ _=>O)) (pe_un un_neg zae)))
   (zab (zaB (zas zgZ (zak zaR (zak zaR (zak zhG (pe_x zaz (pv 6) zae) (pe_x zaz (pv 7) zae)) (pe_x zaz (pv 6) zae)) (pe_x zaz (pv 7) zae)) zae (zav _)) (zaf (zap zeS)) zaq)
   (zaf (zau (zch PySem.F.plainAttrs_list PySem.F.slot_list_append PySem.F.type_list_append zaS (pv 4) (zaa (za7 (zaa (pv 5) (zaa (zak zkP (pe_x zaz (pv 6) zae) (pe_x zaz (pv 7) zae)) zad))) zad))))))))
   (zaf (zap (za7 (zaa (zak zkP (pe_x zaz (pv 0) zae) (pe_x zaz (pv 1) zae)) (zaa (zbe zb2 (by rfl) T.tuple zbq (zaa (pv 4) zad)) zad)))))))))),?rd⟩
  have eA:decide ((0:Int)<Builtin.bitAnd (Builtin.bitAnd (Builtin.bitXor (r.w:Int) (q.w:Int)) (r.m:Int)) (q.m:Int))=!agr r.m r.w q.m q.w:=by
   rw[bxor,band,band]
   unfold agr
   by_cases h:(r.w ^^^ q.w) &&& r.m &&& q.m=0
   .rw[Xak h,h];rfl
   .rw[Xan h];exact Xak (by omega)
  refine{_,O,t,_,_,_,O,O,SqT.of et,O,_,O,u,_,_,_,O,O,SqT.of eu,O,_,_,O,O,_,O,t,_,_,_,O,O,SqT.of et,O,_,_,O,O,_,O,u,_,_,_,O,O,SqT.of eu,O,_,_,O,O,_,_,O,O,_,O,?_}
  rw[eA]
  cases hA:agr r.m r.w q.m q.w with
  | false=>exact iteT (k1 (by unfold za9;rw[hA,Bool.false_and]) H (Same.refl _))
  | true =>
   refine iteF (zat ?_)
   try dsimp only
   have hcl:za9 r q=latA r.l q.l:=by unfold za9;rw[hA,Bool.true_and]
   intro d hd
   have s1:=zag (H:=H) (o:=HO.dK []) hd
   refine{_,O,t,_,_,_,O,O,SqT.of (s1 _ _ et),O,_,O,u,_,_,_,O,O,SqT.of (s1 _ _ eu),O,by show 2<=sizeLine;decide,λL hL=>{L,O,{_,SqL.of zac},?_}}
   have s2:=s1.trans (zag (o:=.lst [lt,lu]) hL)
   refine zdV (K:=K) (xs:=[lt,lu]) (λi U X=>∃(v3:Option V) (g:List (Nat×Addr×List V)),U=[some (.ref t),some (.ref u),some (.ref d),v3,none,none,none,none]/\X L=some (.lst [lt,lu])/\Same H X/\Grp X d g/\(∀y∈g,H y.2.1=none/\y.2.1≠L)/\Gi lt lu r.l q.l i g) {none,[],O,zac,s2,{zag hL _ _ zac,(λy hy=>by cases hy),Xbg,Xbg},(λy hy=>by cases hy),O} ?_ ?_ ?_
   .rintro i U X _ ⟨_,_,_,e,_⟩
    exact SqL.of e
   .rintro i x U X hx ⟨v3,g,rfl,eL,sX,G,gN,gi⟩
    obtain⟨o,ho,hnone,hnew,hold⟩:∃o,LatV H x o/\(o=none->Gi lt lu r.l q.l (i+1) g)/\(∀c a b N,o=some (c,a,b)->c∉g.map (·.1)->Gi lt lu r.l q.l (i+1) (g++[(c,N,[x])]))/\(∀c a b,o=some (c,a,b)->c∈g.map (·.1)->∃A,g=[(c,A,[lt])]/\Gi lt lu r.l q.l (i+1) [(c,A,[lt,x])]):=by
     rcases(show i=0\/i=1 by have:=(Xaf.mp hx).1;simp at this;omega) with rfl|rfl
     .cases hx
      obtain rfl:g=[]:=gi
      refine{r.l,hlt,λe=>{d,by rw[e];rfl},λc a b N e _=>{N,by rw[e];rfl},λc a b e hc=>by cases hc}
     .cases hx
      obtain⟨A,rfl⟩:=gi
      refine{q.l,hlu,λe=>{A,A,?_},λc a b N e hc=>{A,N,?_},λc a b e hc=>?_}
      .rw[e]
       cases r.l with
       | none=>rfl
       | some o=>rfl
      .rw[e]
       cases hr:r.l with
       | none=>rfl
       | some o =>
        obtain⟨c',a',b'⟩:=o
        rw[hr] at hc
        have hne:c'≠c:=λz=>hc (by rw[<- z];exact Xad.mpr O)
        show _=if c'=c then _ else _
        rw[if_neg hne];rfl
      .cases hr:r.l with
       | none=>rw[hr] at hc;cases hc
       | some o =>
        obtain⟨c',a',b'⟩:=o
        rw[hr] at hc
        obtain rfl:c=c':=Xad.mp hc
        refine{A,O,A,A,?_}
        rw[e]
        show _=if c=c then _ else _
        rw[if_pos O]
    have hdg:∀y∈g,y.2.1≠d:=λy hy e=>by have:=G.l y hy;rw[e,G.e] at this;cases this
    cases ho':o with
    | none =>
     rw[ho'] at ho
     obtain rfl:x=.non:=ho
     exact{_,O,_,O,iteF (zat {_,g,O,eL,sX,G,gN,hnone ho'})}
    | some o1 =>
     obtain⟨c,a,b⟩:=o1
     rw[ho'] at ho
     obtain⟨uu,rfl,euu⟩:=ho
     have eu1:=sX _ _ euu
     refine{_,O,_,O,iteT ?_}
     refine{_,O,.inr (.inr (.inl {O,.inl {_,G.e}})),_,O,uu,_,_,_,O,O,SqT.of eu1,O,by show 0<=sizeLine;decide,λN hN=>?_}
     have sN:=zag (H:=X) (o:=HO.lst []) hN
     have nNL:L≠N:=λe=>by rw[e,hN] at eL;cases eL
     have nNd:d≠N:=λe=>by have:=G.e;rw[e,hN] at this;cases this
     have ndL:L≠d:=λe=>by have:=G.e;rw[<- e,eL] at this;cases this
     have hNn:H N=none:=by cases h:H N with|none=>rfl|some o=>have:=sX _ _ h;rw[hN] at this;cases this
     have hgl:g.length<=1:=by
      rcases(show i=0\/i=1 by have:=(Xaf.mp hx).1;simp at this;omega) with rfl|rfl
      .obtain rfl:g=[]:=gi
       exact Nat.zero_le _
      .obtain⟨A,rfl⟩:=gi
       cases r.l with
       | none=>exact Nat.zero_le _
       | some o=>exact Xae _
     by_cases hc:c∈g.map (·.1)
     .obtain⟨A1,rfl,gi'⟩:=hold c a b ho' hc
      have hA1:=gN _ (Xad.mpr O)
      have nA1:A1≠d:=hdg _ (Xad.mpr O)
      have hv:valV [((Sum.inl (c:Int):Key),V.ref A1)] (Sum.inl (c:Int))=some (V.ref A1):=zaV O
      refine{d,_,Sum.inl (c:Int),.ref N,O,O,sN _ _ G.e,by simp,λv' hv'=>?_,λhn=>?_}
      .have eA1:=sN _ _ (G.l _ (Xad.mpr O))
       refine{_,O,_,O,uu,_,_,_,O,O,SqT.of (sN _ _ eu1),O,d,.ref A1,O,(by rw[<- hv];exact DGet.k (k:=Sum.inl (c:Int)) (sN _ _ G.e)),.inl {O,_,SqL.of eA1},_,O,A1,_,_,O,O,eA1,by show 1<sizeLine;decide,?_}
       refine{_,[(c,A1,[lt,.ref uu])],O,by rw[zah (Ne.symm hA1.2),zah nNL];exact eL,λb' o' e=>by rw[zah (zai e hA1.1)];exact sN _ _ (sX _ _ e),{by rw[zah (Ne.symm nA1),zah nNd];exact G.e,λy hy=>?_,by simp,by simp},λy hy=>?_,gi'}
       .obtain rfl:=Xad.mp hy
        exact zac
       .obtain rfl:=Xad.mp hy
        exact hA1
      .exact absurd (hv.symm.trans hn) (by simp)
     .have hv:valV (g.map λy=>((Sum.inl (y.1:Int):Key),V.ref y.2.1)) (Sum.inl (c:Int))=none:=by
       cases h:valV (g.map λy=>((Sum.inl (y.1:Int):Key),V.ref y.2.1)) (Sum.inl (c:Int)) with
       | none=>rfl
       | some v =>
        have:=zl4 h
        rw[Xa5,XaC] at this
        obtain⟨y,hy,e⟩:=this
        have e:(y.1:Int)=(c:Int):=Sum.inl.inj e
        exact absurd (XaC.mpr {y,hy,show y.1=c by omega}) hc
      have ep:putK (g.map λy=>((Sum.inl (y.1:Int):Key),V.ref y.2.1)) (Sum.inl (c:Int)) (.ref N)=(g++[(c,N,[V.ref uu])]:List (Nat×Addr×List V)).map λy=>((Sum.inl (y.1:Int):Key),V.ref y.2.1):=by
       unfold putK
       rw[zbO,hv,XaD]
       rfl
      refine{d,_,Sum.inl (c:Int),.ref N,O,O,sN _ _ G.e,by rw[Xag];omega,λv' hv'=>absurd (hv.symm.trans hv') (by simp),λ_=>?_}
      have hv2:valV ((g++[(c,N,[V.ref uu])]:List (Nat×Addr×List V)).map λy=>((Sum.inl (y.1:Int):Key),V.ref y.2.1)) (Sum.inl (c:Int))=some (.ref N):=by rw[<- ep,zkq,if_pos O]
      rw[ep]
      have nud:uu≠d:=λe=>by have:=G.e;rw[<- e,eu1] at this;cases this
      refine{_,O,_,O,uu,_,_,_,O,O,SqT.of (by rw[zah nud];exact sN _ _ eu1),O,d,.ref N,O,(by rw[<- hv2];exact DGet.k (k:=Sum.inl (c:Int)) zac),.inl {O,_,SqL.of (by rw[zah (Ne.symm nNd)];exact zac)},_,O,N,[],_,O,O,by rw[zah (Ne.symm nNd)];exact zac,by show 0<sizeLine;decide,?_}
      have hNg:∀y∈g,y.2.1≠N:=λy hy e=>by have:=G.l y hy;rw[e,hN] at this;cases this
      refine{_,g++[(c,N,[.ref uu])],O,by rw[zah nNL,zah ndL,zah nNL];exact eL,λb' o' e=>by rw[zah (zai e hNn),zah (zai e hd)];exact sN _ _ (sX _ _ e),{by rw[zah nNd];exact zac,λy hy=>?_,?_,?_},λy hy=>?_,hnew c a b N ho' hc}
      .rcases XaI.mp hy with hy|hy
       .rw[zah (hNg y hy),zah (hdg y hy),zah (hNg y hy)];exact G.l y hy
       .obtain rfl:=Xad.mp hy
        exact zac
      .rw[XaD,Xa2]
       exact{G.nd,by simp,λz hz z' hz'=>by obtain rfl:=Xad.mp hz';exactλe=>hc (e▸hz)}
      .rw[XaD,Xa2]
       refine{G.na,by simp,λz hz z' hz'=>?_}
       obtain rfl:=Xad.mp hz'
       obtain⟨y,hy,rfl⟩:=XaC.mp hz
       exact hNg y hy
      .rcases XaI.mp hy with hy|hy
       .exact gN y hy
       .obtain rfl:=Xad.mp hy
        exact{hNn,Ne.symm nNL}
   .rintro U X ⟨v3,g,rfl,eL,sX,G,gN,gi⟩
    obtain⟨A,B,hgi⟩:=gi
    
    have hgood:∀y∈g,∃(u1 u2:Addr) (c1 a1 b1 c2 a2 b2:Nat),y.2.2[0]?=some (V.ref u1)/\atI y.2.2 (-1)=some (V.ref u2)/\H u1=some (.tup [.int (c1:Int),.int (a1:Int),.int (b1:Int)])/\H u2=some (.tup [.int (c2:Int),.int (a2:Int),.int (b2:Int)])/\(za9 r q=true->agr a1 b1 a2 b2=true)/\(za9 r q=false->agr a1 b1 a2 b2=false):=by
     have self:∀a b:Nat,agr a b a b=true:=λa b=>by unfold agr;rw[Nat.xor_self];simp
     rw[hgi]
     intro y hy
     cases hr:r.l with
     | none =>
      cases hq:q.l with
      | none=>rw[hr,hq] at hy;cases hy
      | some o =>
       obtain⟨c,a,b⟩:=o
       rw[hr,hq] at hy
       rw[hq] at hlu
       obtain⟨u1,rfl,e1⟩:=hlu
       obtain rfl:=Xad.mp hy
       exact{u1,u1,c,a,b,c,a,b,O,zc4 [] _,e1,e1,λ_=>self a b,λh=>by rw[hcl,hr,hq] at h;cases h}
     | some o =>
      obtain⟨c,a,b⟩:=o
      rw[hr] at hlt
      obtain⟨u1,rfl,e1⟩:=hlt
      cases hq:q.l with
      | none =>
       rw[hr,hq] at hy
       obtain rfl:=Xad.mp hy
       exact{u1,u1,c,a,b,c,a,b,O,zc4 [] _,e1,e1,λ_=>self a b,λh=>by rw[hcl,hr,hq] at h;cases h}
      | some o2 =>
       obtain⟨d',x,y'⟩:=o2
       rw[hr,hq] at hy
       rw[hq] at hlu
       obtain⟨u2,rfl,e2⟩:=hlu
       have hlA:za9 r q=if c=d' then agr a b x y' else true:=by rw[hcl,hr,hq];rfl
       by_cases hcd:c=d'
       .rw[show gTwo A B (V.ref u1) (V.ref u2) (some (c,a,b)) (some (d',x,y'))=[(c,A,[.ref u1,.ref u2])] from if_pos hcd] at hy
        obtain rfl:=Xad.mp hy
        rw[if_pos hcd] at hlA
        exact{u1,u2,c,a,b,d',x,y',O,zc4 [V.ref u1] _,e1,e2,λh=>by rw[<- hlA];exact h,λh=>by rw[<- hlA];exact h}
       .rw[if_neg hcd] at hlA
        rw[show gTwo A B (V.ref u1) (V.ref u2) (some (c,a,b)) (some (d',x,y'))=[(c,A,[.ref u1]),(d',B,[.ref u2])] from if_neg hcd] at hy
        rcases Xau.mp hy with rfl|hy
        .exact{u1,u1,c,a,b,c,a,b,O,zc4 [] _,e1,e1,λ_=>self a b,λh=>by rw[hlA] at h;cases h}
        .obtain rfl:=Xad.mp hy
         exact{u2,u2,d',x,y',d',x,y',O,zc4 [] _,e2,e2,λ_=>self x y',λh=>by rw[hlA] at h;cases h}
    have hne:za9 r q=false->g≠[]:=λh e=>by
     rw[e] at hgi
     rw[hcl] at h
     cases hr:r.l with
     | none=>rw[hr] at h;cases h
     | some o =>
      cases hq:q.l with
      | none=>rw[hr,hq] at h;cases h
      | some o2 =>
       rw[hr,hq] at hgi
       have hgi:([]:List (Nat×Addr×List V))=if o.1=o2.1 then _ else _:=hgi
       split at hgi<;>cases hgi
    have hg2:g.length<=2:=by
     rw[hgi]
     cases r.l with
     | none=>cases q.l with
      | none=>exact Nat.zero_le _
      | some o=>show 1<=2;decide
     | some o=>cases q.l with
      | none=>show 1<=2;decide
      | some o2 =>
       show(if o.1=o2.1 then _ else _:List (Nat×Addr×List V)).length<=2
       split<;>simp
    refine{by show 0<=sizeLine;decide,λTL hTL=>?_}
    have sT:=zag (H:=X) (o:=HO.lst []) hTL
    have nTd:TL≠d:=λe=>by have:=G.e;rw[<- e,hTL] at this;cases this
    have hTn:H TL=none:=sX.free hTL
    refine{_,O,d,_,g.map λy=>(y.1:Int),O,sT _ _ G.e,by rw[Xa5,Xa5];rfl,by rw[Xag];omega,λl ns hl pm _=>{l,O,{_,SqL.of zac},?_}}
    have sl:=sT.trans (zag (o:=.lst (ns.map V.int)) hl)
    have nlT:TL≠l:=λe=>by rw[<- e,zac] at hl;cases hl
    have hpl:ns.length=g.length:=by rw[pm.length_eq,Xag]
    refine zdV (K:=K) (xs:=ns.map V.int) (λi U Y=>∃(v5 v6 v7:Option V) (ts:List V),U=[some (.ref t),some (.ref u),some (.ref d),v3,some (.ref TL),v5,v6,v7]/\(za9 r q=true\/i=0)/\Y TL=some (.lst ts)/\ts.length<=i/\∀a o,a≠TL->upd (upd X TL (.lst [])) l (.lst (ns.map V.int)) a=some o->Y a=some o) {none,none,none,[],O,.inr O,by rw[zah nlT];exact zac,Xae _,λa o _ e=>e} ?_ ?_ ?_
    .rintro i U Y _ ⟨_,_,_,_,_,_,_,_,fr⟩
     exact SqL.of (fr _ _ (Ne.symm nlT) zac)
    .rintro i x U Y hx ⟨v5,v6,v7,ts,rfl,hci,eT,htl,fr⟩
     rw[Xao] at hx
     obtain⟨n,hn,rfl⟩:=Xax.mp hx
     obtain⟨y,hy,rfl⟩:=XaC.mp (pm.mem_iff.mp (Xas hn))
     obtain⟨u1,u2,c1,a1,b1,c2,a2,b2,g1,g2,g3,g4,g5,g6⟩:=hgood y hy
     have frH:∀a o,H a=some o->Y a=some o:=λa o e=>fr a o (zai e hTn) (sl _ _ (sX _ _ e))
     have eD:Y d=some (.dK (g.map λy=>((Sum.inl (y.1:Int):Key),V.ref y.2.1))):=fr _ _ (Ne.symm nTd) (sl _ _ G.e)
     have eY:Y y.2.1=some (.lst y.2.2):=fr _ _ (λe=>by have:=G.l y hy;rw[e,hTL] at this;cases this) (sl _ _ (G.l y hy))
     have hv:valV (g.map λy=>((Sum.inl (y.1:Int):Key),V.ref y.2.1)) (Sum.inl (y.1:Int))=some (V.ref y.2.1):=ziL G.nd hy
     have eA2:decide ((0:Int)<Builtin.bitAnd (Builtin.bitAnd (Builtin.bitXor (b1:Int) (b2:Int)) (a1:Int)) (a2:Int))=!agr a1 b1 a2 b2:=by
      rw[bxor,band,band]
      unfold agr
      by_cases h:(b1 ^^^ b2) &&& a1 &&& a2=0
      .rw[Xak h,h];rfl
      .rw[Xan h];exact Xak (by omega)
     refine{_,O,_,O,d,_,O,(by rw[<- hv];exact DGet.k (k:=Sum.inl (y.1:Int)) eD),y.2.1,_,_,_,O,O,SqL.of eY,(zaF (j:=0) g1:atI _ ((0:Nat):Int)=_),?_}
     refine{_,O,_,O,d,_,O,(by rw[<- hv];exact DGet.k (k:=Sum.inl (y.1:Int)) eD),?_}
     refine{1,O,y.2.1,_,_,_,O,O,SqL.of eY,g2,?_}
     have h3:=frH _ _ g3
     have h4:=frH _ _ g4
     refine{_,O,u1,_,_,_,O,O,SqT.of h3,O,_,O,u2,_,_,_,O,O,SqT.of h4,O,_,_,O,O,_,O,u1,_,_,_,O,O,SqT.of h3,O,_,_,O,O,_,O,u2,_,_,_,O,O,SqT.of h4,O,_,_,O,O,_,_,O,O,_,O,?_}
     rw[eA2]
     cases hA2:agr a1 b1 a2 b2 with
     | false =>
      refine iteT (k1 ?_ Y frH)
      cases h:za9 r q with
      | false=>rfl
      | true=>rw[g5 h] at hA2;cases hA2
     | true =>
      have hct:za9 r q=true:=by
       cases h:za9 r q with
       | true=>rfl
       | false=>rw[g6 h] at hA2;cases hA2
      have hil:i<ns.length:=(Xaf.mp hn).1
      refine iteF (zat ?_)
      try dsimp only
      refine{_,O,.inl {O,_,SqL.of eT},_,O,_,O,u1,_,_,_,O,O,SqT.of h3,O,_,O,u2,_,_,_,O,O,SqT.of h4,O,_,_,O,O,by show 2<=sizeLine;decide,λtp htp=>?_}
      have sp:=zag (H:=Y) (o:=HO.tup [.int (y.1:Int),.int (Builtin.bitOr (b1:Int) (b2:Int))]) htp
      refine{TL,ts,_,O,O,sp _ _ eT,by rw[sizeLine_eq];omega,?_}
      exact{_,_,_,ts++[.ref tp],O,.inl hct,zac,by rw[Xam];simp;omega,λa o ha e=>by rw[zah ha];exact sp _ _ (fr a o ha e)}
    .rintro U Y ⟨v5,v6,v7,ts,rfl,hci,eT,htl,fr⟩
     have frH:∀a o,H a=some o->Y a=some o:=λa o e=>fr a o (zai e hTn) (sl _ _ (sX _ _ e))
     have hct:za9 r q=true:=by
      cases h:za9 r q with
      | true=>rfl
      | false =>
       rcases hci with e|e
       .rw[h] at e;cases e
       .rw[Xag,hpl] at e
        exact absurd (List.length_eq_zero_iff.mp e) (hne h)
     refine{_,O,t,_,_,_,O,O,SqT.of (frH _ _ et),O,_,O,u,_,_,_,O,O,SqT.of (frH _ _ eu),O,_,_,O,O,_,O,TL,ts,O,.inl {SqL.of eT,λtp htp=>{by show 2<=sizeLine;decide,λp hp=>?_}}}
     exact k2 hct p _ ((show Same H Y from frH).trans ((zag htp).trans (zag hp)))
abbrev zef:Stmt:=top 72
def sc_law_map:FnScope ["row","bits","models","rows","k","one"] ["row","bits","models"] (zaj zef):=sck O O O (by decide +kernel)
def zhV(m w n v:Nat):agr m w n v=agr n v m w:=by unfold agr;rw[Nat.xor_comm,Nat.and_assoc,Nat.and_comm m n,<- Nat.and_assoc]
def ziy(r q:Rw):za9 r q=za9 q r:=by
 unfold za9
 rw[zhV]
 congr 1
 cases r.l with
 | none=>cases q.l<;>rfl
 | some o =>
  cases q.l with
  | none=>rfl
  | some o2 =>
   show(if o.1=o2.1 then agr o.2.1 o.2.2 o2.2.1 o2.2.2 else true)=if o2.1=o.1 then agr o2.2.1 o2.2.2 o.2.1 o.2.2 else true
   by_cases e:o.1=o2.1
   .rw[if_pos e,if_pos e.symm,zhV]
   .rw[if_neg e,if_neg (Ne.symm e)]
def zjZ{row:List Nat}{a n:Nat}(h:a+n<=row.length):cutV (vN row) (some (a:Int)) (some ((a+n:Nat):Int))=vN ((row.drop a).take n):=by
 unfold cutV
 rw[HT.sIx_nat,HT.sIx_nat,zan,Nat.min_eq_left (by omega),Nat.min_eq_left (by omega),show a+n-a=n by omega]
 unfold vN
 rw[List.map_take,List.map_drop]
inductive spMap34(cs:Nat->Addr)(vs:List V)(H:Hp)(Q:VK)(u3_:XK):Prop
 | mk (L ML:Addr) (row:List Nat) (c m:Nat) (cl:List Cm)(_:vs=[.ref L,.int (m:Int),.ref ML])(_:H L=some (.lst (vN row)))(_:row.length=8*c)(_:c<=6)(_:(∀v∈row,v<2 ^ 31))(_:1<=m)(_:m<=16)(_:H ML=some (.lst (cl.map λc=>.ref c.m)))(_:1<=cl.length)(_:cl.length<=9)(_:CMs cs H cl)(_:∀(R:Addr) (ws:List (Addr×Rw)) (H':Hp),H R=none->RwsFor (dtC cl) m H' R ws->ws.length<=6->Same H H'->Q (.ref R) H')
def zii{f:Addr}{cs:Nat->Addr}{fd:FuncData}(F:FunN K "_law_map" zef f fd)(T:Blt mg)(G_law_row:Cal P w K mg base 3 "_law_row" ["r","bits","models"] (spRow34 cs))(G_law_pair:Cal P w K mg base 1 "_law_pair" ["one","other"] spPairL):FnOk P w K mg base CX0 4 f fd ["row","bits","models"] (spMap34 cs):=by
 refine F.ok sc_law_map (by walk_at"l") (λcdv A outer s H vs Q E hr h=>?_)
 .obtain⟨L,ML,row,c,m,cl,rfl,eL,hl,c6,hw,m1,m2,eM,c1,c9,hC,k⟩:=h
  refine'⟨_,(zab (ps_L 3 sc_law_map.nd (zaA zad))
   (zab (zbE PassesOwn.never O (zfS O T.range (zaa zae (zaa (zak zbG (zao zar (by rfl) T.len PySem.boot_len (zaa (pv 0) zad)) zae) (zaa zae zad)))) (pg_L 4 sc_law_map.nd)
   (zab (zlB (i:=5) sc_law_map.nd O (Or.inr O) (pe_c G_law_row (zaa (zbF zd3 (pv 0) (zbi (pv 4)) (zbi (zak zaW (pv 4) zae))) (zaa (pv 1) (zaa (pv 2) zad)))))
   (zaf (zaB (zas (zmA (XbG (zdQ hr)) (K:=K) O) ?c1 (zaA zad) (zav _)) (zaf (zau (zch PySem.F.plainAttrs_list PySem.F.slot_list_append PySem.F.type_list_append zaS (pv 3) (zaa (pv 5) zad)))) zaq))))
   (zaf (zap (zbe zb2 (by rfl) T.tuple zbq (zaa (pv 3) zad)))))),?rd⟩
  (case c1=>exact(zdn (Nc:=["other","one"]) [none,some 5] O (zaZ (by rfl)) (zcg (pv 3)) (λ_ _ _ _ _=>(pg_L 0 (show(["other","one"]:List Str).Nodup by decide +kernel))) (λ_ _ _ _ _=>(zhB (zbz (zcM (pe_c G_law_pair (zaa (pv 1) (zaa (pv 0) zad))))))) (λ_ _ _ _ _=>(pv 0))))
  refine{by show 0<=sizeLine;decide,λRL hRL=>?_}
  have s1:=zag (o:=.lst []) hRL
  obtain⟨r1,r2,r3⟩:Builtin.Range.small 0 (((vN row).length:Int)-7) 8=true/\Builtin.divisionGoesByPylong ((((vN row).length:Int)-7)-0) 8=false/\Builtin.Range.rangeSize 0 (((vN row).length:Int)-7) 8=(c:Int):=by
   by_cases h0:c=0
   .rw[zan,hl,h0];exact{by decide,by decide,by decide}
   .rw[zan,hl,show((8*c:Nat):Int)-7=((8*c-7:Nat):Int) by omega]
    exact zhy (j:=8*c-7) (st:=8) (n:=c) (by omega) (by decide) (by decide) (by omega)
  refine{_,O,L,_,O,.inl (SqL.of (s1 _ _ eL)),_,_,O,O,0,_,8,c,O,by decide,r1,r2,r3,?_}
  refine zeX (n:=c) (λi U X=>∃(v:Option V×Option V) (ws:List (Addr×Rw)),U=[some (.ref L),some (.int (m:Int)),some (.ref ML),some (.ref RL),v.1,v.2]/\X RL=some (.lst (refs ws))/\RwsAt2 m X ws/\(∀z∈ws,Fit (dtC cl) z.2)/\ws.Pairwise (λa b=>NC a.2 b.2)/\ws.length<=i/\Same H X) {(_,_),[],O,zac,(λ_ h=>nomatch h),(λ_ h=>nomatch h),List.Pairwise.nil,Xae _,s1} ?_ ?_
  .rintro i U X hi ⟨v,ws,rfl,hh⟩
   have eRL:=hh.1
   have hat2:=hh.2.1
   have hfit:=hh.2.2.1
   have hnc:=hh.2.2.2.1
   have hlen:=hh.2.2.2.2.1
   have sX:=hh.2.2.2.2.2
   rw[show(0:Int)+(i:Int)*8=((8*i:Nat):Int) by omega]
   have e8:((8*i:Nat):Int)+8=((8*i+8:Nat):Int):=by omega
   refine{_,O,_,O,((8*i:Nat):Int),O,_,O,_,_,O,O,((8*i+8:Nat):Int),congrArg V.int e8,L,_,O,SqL.of (sX _ _ eL),λg hg=>?_}
   rw[zjZ (by omega)]
   have sg:=zag (o:=.lst (vN ((row.drop (8*i)).take 8))) hg
   refine{_,O,_,O,g,ML,_,m,cl,O,zac,by rw[Xa6,XaV];omega,(λv hv=>hw v (List.mem_of_mem_drop (List.mem_of_mem_take hv))),m1,m2,(sX.trans sg) _ _ eM,c1,c9,hC.same (sX.trans sg),λta rN Z hta raN okN fitN s2=>?_}
   have sZ:=sg.trans s2
   try dsimp only[zaY,List.set]
   have eRZ:=sZ _ _ eRL
   refine{_,O,RL,O,{_,SqL.of eRZ},?_}
   refine zeB (K:=K) (xs:=refs ws) (λj ys U U9=>∃v0,U=[v0,some (.ref ta)]/\ys.length<=j/\(ys=[]->∀(k:Nat) (z:Addr×Rw),k<j->ws[k]?=some z->za9 rN z.2=false)/\Same Z U9) (by rw[zaw,sizeLine_eq];omega) {none,O,Xae _,(λ_ k z hk=>absurd hk (Xbn _)),Same.refl _} ?_ ?_ ?_
   .rintro j ys U U9 _ ⟨_,_,hl,_,sU⟩
    exact{SqL.of (sU _ _ eRZ),hl}
   .rintro j x ys U U9 hx ⟨v0,rfl,hl,hcl,sU⟩
    obtain⟨z,hz,rfl⟩:=zbW hx
    have raz:=((hat2 z (Xas hz)).1.same sZ).same sU
    refine{_,O,_,O,ta,z.1,rN,z.2,O,raN.same sU,raz,λhc U91 s1=>{_,O,iteF ?_},λhc p U91 s1=>{_,O,iteT {_,O,?_}}}
    .refine{_,O,by omega,λhe k z' hk hz'=>?_,sU.trans s1}
     rcases(show k<j\/k=j by omega) with e|e
     .exact hcl he k z' e hz'
     .rw[e,hz] at hz';cases hz';exact hc
    .exact{_,O,by rw[Xam];simp;omega,λhe=>absurd he (by simp),sU.trans s1}
   .rintro ys U U9 ⟨v0,rfl,hl,hcl,sU⟩ Dc hDc
    rw[zaw] at hcl
    refine{by show 0<=sizeLine;decide,λe0 he0=>?_}
    have y1:=(sZ.trans sU).trans ((zag (o:=.lst ys) hDc).trans (zag (o:=.lst []) he0))
    refine{Dc,e0,ys,O,O,SqL.of (zag he0 _ _ zac),SqL.of zac,_,O,ite2 (λh1=>?_) (λh1=>zat ?_)}
    .have hys:ys=[]:=List.isEmpty_iff.mp h1
     have eR2:=y1 _ _ eRL
     refine{_,O,.inl {O,_,SqL.of eR2},_,O,RL,_,_,O,O,eR2,by rw[zaw,sizeLine_eq];omega,?_}
     refine{(_,_),ws++[(ta,rN)],O,?_,λz hz=>?_,λz hz=>?_,?_,by rw[Xam];simp;omega,λa q' e=>by rw[zah (zai e hRL)];exact y1 _ _ (sX _ _ e)}
     .rw[zac];unfold refs;rw[XaD];rfl
     .rcases XaI.mp hz with hz|hz
      .exact{((hat2 z hz).1.same y1).updL eR2,(hat2 z hz).2}
      .obtain rfl:=Xad.mp hz
       exact{((raN.same sU).same ((zag hDc).trans (zag he0))).updL eR2,okN}
     .rcases XaI.mp hz with hz|hz
      .exact hfit z hz
      .obtain rfl:=Xad.mp hz
       exact fitN
     .rw[List.pairwise_append]
      refine{hnc,List.pairwise_singleton _ _,λa ha b hb=>?_}
      obtain rfl:=Xad.mp hb
      obtain⟨k',hk'⟩:=Xbr.mp ha
      have hcf:=hcl hys k' a (Xaf.mp hk').1 hk'
      exact{by rw[ziy];exact hcf,hcf}
    .exact{(_,_),ws,O,y1 _ _ eRL,hat2.same y1,hfit,hnc,by omega,sX.trans y1}
  .rintro U X ⟨v,ws,rfl,eRL,hat2,hfit,hnc,hlen,sX⟩
   refine{_,O,RL,refs ws,O,.inl {SqL.of eRL,λR hR=>?_}}
   have sR:=zag (H:=X) (o:=HO.tup (refs ws)) hR
   exact k R ws _ (sX.free hR) {zac,hat2.same sR,hfit,hnc,by omega} (by omega) (sX.trans sR)
abbrev zcE:Stmt:=top 74
def sc_law_board:FnScope ["row","bits","chips","models","rows"] ["row"] (zaj zcE):=sck O O O (by decide +kernel)
def KeyB(row:List Nat)(cl:List Cm):Prop:=∃d:Nat,atI (vN row) 1=some (.int (d:Int))/\cl.length=1+d % 9/\zkh ((row.drop 2).take (2*(1+d % 9))) cl
def keyB{row:List Nat}{cl cl':List Cm}(h:KeyB row cl)(h':KeyB row cl'):cl.length=cl'.length/\∀(i:Nat) (c c':Cm),cl[i]?=some c->cl'[i]?=some c'->c.kd=c'.kd/\c.n=c'.n/\c.us=c'.us:=by
 obtain⟨d,e,l,k⟩:=h
 obtain⟨d',e',l',k'⟩:=h'
 rw[e] at e'
 obtain rfl:=Int.ofNat.inj (V.int.inj (Option.some.inj e'))
 exact{l.trans l'.symm,λi c c' h h'=>key44 k k' h h'}
structure Bo34(cs:Nat->Addr)(H:Hp)(R CL ML:Addr)(m:Nat)(cl:List Cm)(ws:List (Addr×Rw))(X:Hp):Prop where
 c1:1<=cl.length
 m1:1<=m
 m2:m<=16
 rf:RwsFor (dtC cl) m X R ws
 l6:ws.length<=6
 eC:X CL=some (.lst (cl.map λc=>.ref c.x))
 eM:X ML=some (.lst (cl.map λc=>.ref c.m))
 nCM:CL≠ML
 c9:cl.length<=9
 C:CMs cs X cl
 fr:∀c∈cl,H c.p=none/\H c.r=none/\c.p≠CL/\c.p≠ML/\c.r≠CL/\c.r≠ML
 s:Same H X
def Bo34.same{cs:Nat->Addr}{H X Y:Hp}{R CL ML:Addr}{m:Nat}{cl:List Cm}{ws:List (Addr×Rw)}(h:Bo34 cs H R CL ML m cl ws X)(s:Same X Y):Bo34 cs H R CL ML m cl ws Y:={h.c1,h.m1,h.m2,h.rf.same s,h.l6,s _ _ h.eC,s _ _ h.eM,h.nCM,h.c9,h.C.same s,h.fr,h.s.trans s}
inductive spBoard34(cs:Nat->Addr)(vs:List V)(H:Hp)(Q:VK)(u3_:XK):Prop
 | mk (L:Addr) (row:List Nat)(_:vs=[.ref L])(_:H L=some (.lst (vN row)))(_:row.length=80)(_:(∀v∈row,v<2 ^ 31))(_:(∀v,row[1]?=some v->v<63))(_:∀(t R CL ML:Addr) (m:Nat) (cl:List Cm) (ws:List (Addr×Rw)) (H':Hp),H' t=some (.tup [.int (m:Int),.ref R,.ref CL,.ref ML])->Bo34 cs H R CL ML m cl ws H'->KeyB row cl->Q (.ref t) H')
def zf1{f:Addr}{cs:Nat->Addr}{fd:FuncData}(F:FunN K "_law_board" zcE f fd)(T:Blt mg)(G_law_chips:Cal P w K mg base 6 "_law_chips" ["row"] (spChips34 cs))(G_law_map:Cal P w K mg base 4 "_law_map" ["row","bits","models"] (spMap34 cs)):FnOk P w K mg base CX0 7 f fd ["row"] (spBoard34 cs):=by
 refine F.ok sc_law_board (by walk_at"l") (λcdv A outer s H vs Q E hr h=>?_)
 .obtain⟨L,row,rfl,eL,hl,hw,h63,k⟩:=h
  refine⟨_,(zab (ps_L 1 sc_law_board.nd (pe_x zal (zaA (zaa zae (zaa (zak zaW zae (zak zax (zak zaC (pe_x zal (pv 0) zae) zae) zae)) (zaa zae (zaa (zak zaW zae (zak zax (zak zaC (pe_x zal (pv 0) zae) zae) zae)) zad))))) (zak zax (pe_x zal (pv 0) zae) zae)))
   (zab (zaB (zas zbf (zak zax (zak zaC (pe_x zal (pv 0) zae) zae) zae) zae (zav _)) (zaf zaK) zaq)
   (zab (zbl (pe_c G_law_chips (zaa (zbF zd3 (pv 0) (zbi zae) (zbi (zak zaW zae (zak zdo zae (zak zaW zae (zak zax (pe_x zal (pv 0) zae) zae)))))) zad)) (zba O (zam (pg_L 2 sc_law_board.nd) (zam (pg_L 3 sc_law_board.nd) zaP))))
   (zab (ps_L 4 sc_law_board.nd (pe_c G_law_map (zaa (zbF zd3 (pv 0) (zbi zae) (zbi (zak zaW zae (zak zdo zae (zak zax (zak zaC (pe_x zal (pv 0) zae) zae) zae))))) (zaa (pv 1) (zaa (pv 3) zad)))))
   (zaf (zap (za7 (zaa (pv 1) (zaa (pv 4) (zaa (pv 2) (zaa (pv 3) zad))))))))))),?rd⟩
  obtain⟨dr,hdr⟩:=drw (row:=row) 80 (by omega) hw
  have y0:atI (vN row) 0=some (.int (dr 0:Int)):=(hdr 0 (by decide)).1
  have y1:atI (vN row) 1=some (.int (dr 1:Int)):=(hdr 1 (by decide)).1
  have d63:dr 1<63:=by
   obtain⟨v,hv⟩:∃v,row[1]?=some v:={_,Xah (by omega)}
   have e:=y1
   have e2:atI (vN row) 1=some (.int (v:Int)):=zaF (j:=1) (by unfold vN;rw[Xao,hv];rfl)
   rw[e2] at e
   have e3:(v:Int)=(dr 1:Int):=by injection Option.some.inj e
   have:=h63 v hv
   omega
  
  refine zaU (λU X=>∃m:Nat,1<=m/\m<=16/\U=[some (.ref L),some (.int (m:Int)),none,none,none]/\Same H X) (λN hN=>?_) ?_
  .have i0:SqL K H L (vN row):=SqL.of eL
   refine{_,O,L,_,_,_,O,O,i0,y0,_,_,O,O,{by decide,by decide +kernel},_,_,O,O,(show(0:Int)<16 by decide),_,_,O,O,_,O,L,_,_,_,O,O,i0,y0,_,_,O,O,{by decide,by decide +kernel},_,_,O,O,(show(0:Int)<6 by decide),_,_,O,O,by show 4<=sizeLine;decide,λp hp=>?_}
   have sp:=zag (o:=.lst [V.int 16,V.int ((1:Int)+(dr 0:Int) / 4 % 16),V.int 8,V.int ((4:Int)+(dr 0:Int) / 4 % 6)]) hp
   obtain⟨u,hu,eu⟩:=zgW (ns:=[16,1+dr 0 / 4 % 16,8,4+dr 0 / 4 % 6]) (a:=dr 0) (k:=4) O (by decide)
   refine{_,O,L,_,_,_,O,O,SqL.of (sp _ _ eL),y0,_,_,O,O,(show(0:Int)<4 by decide),p,_,_,.int (u:Int),O,O,SqL.of zac,?_,?_}
   .show atI [V.int 16,V.int ((1:Int)+(dr 0:Int) / 4 % 16),V.int 8,V.int ((4:Int)+(dr 0:Int) / 4 % 6)] ((dr 0:Int) % 4)=_
    rw[show(1:Int)+(dr 0:Int) / 4 % 16=((1+dr 0 / 4 % 16:Nat):Int) by omega,show(4:Int)+(dr 0:Int) / 4 % 6=((4+dr 0 / 4 % 6:Nat):Int) by omega]
    exact eu
   have hu2:1<=u/\u<=16:=by
    simp only[Xau,Xbc,or_false] at hu
    omega
   exact hN _ _ ⟨u,hu2.1,hu2.2,O,sp⟩
  rintro U X ⟨m,m1,m2,rfl,sX⟩
  
  refine zaU (λU Y=>U=[some (.ref L),some (.int (m:Int)),none,none,none]/\Y=X) (λN hN=>?_) ?_
  .refine{_,O,L,_,_,_,O,O,SqL.of (sX _ _ eL),y1,_,_,O,O,{by decide,by decide +kernel},_,_,O,O,(show(0:Int)<12 by decide),O,_,O,ite2 (λh1=>?_) (λh1=>zat (hN _ _ ⟨O,O⟩))}
   exfalso
   have h1:=XaK h1
   have h1:(dr 1:Int) / 63 % 12=5:=by injection h1
   have:=d63
   omega
  rintro U Y ⟨rfl,rfl⟩
  have c1:dr 1 % 9<9:=Xbw _ (by decide)
  have c2:dr 1 / 9 % 7<7:=Xbw _ (by decide)
  have e1:(2:Int)+2*(1+(dr 1:Int) % 9)=((2+2*(1+dr 1 % 9):Nat):Int):=by omega
  have e2:(20:Int)+8*((dr 1:Int) / 9 % 7)=((20+8*(dr 1 / 9 % 7):Nat):Int):=by omega
  refine{_,O,(2:Nat),O,_,O,L,_,_,_,O,O,SqL.of (sX _ _ eL),y1,_,_,O,O,(show(0:Int)<9 by decide),_,_,O,O,_,_,O,O,?_,_,_,O,O,((2+2*(1+dr 1 % 9):Nat):Int),congrArg V.int e1,L,_,O,SqL.of (sX _ _ eL),λg hg=>?_}
  .exact zer (by decide) (by omega)
  rw[zjZ (by omega)]
  have sg:=zag (o:=.lst (vN ((row.drop 2).take (2*(1+dr 1 % 9))))) hg
  refine{g,_,1+dr 1 % 9,O,zac,by rw[Xa6,XaV];omega,by omega,by omega,(λv hv=>hw v (List.mem_of_mem_drop (List.mem_of_mem_take hv))),λt CL ML cl Z ht hCL hML nCM et eC eM hlen hC hfr hK s2=>zhP et ?_}
  try dsimp only[zaY,List.set]
  have sZ:=sX.trans (sg.trans s2)
  refine{_,O,(20:Nat),O,_,O,L,_,_,_,O,O,SqL.of (sZ _ _ eL),y1,_,_,O,O,{by decide,by decide +kernel},_,_,O,O,(show(0:Int)<7 by decide),_,_,O,O,?_,_,_,O,O,((20+8*(dr 1 / 9 % 7):Nat):Int),congrArg V.int e2,L,_,O,SqL.of (sZ _ _ eL),λg2 hg2=>?_}
  .exact zer (by decide) (by omega)
  rw[zjZ (by omega)]
  have sg2:=zag (o:=.lst (vN ((row.drop 20).take (8*(dr 1 / 9 % 7))))) hg2
  refine{_,O,_,O,g2,ML,_,dr 1 / 9 % 7,m,cl,O,zac,by rw[Xa6,XaV];omega,by omega,(λv hv=>hw v (List.mem_of_mem_drop (List.mem_of_mem_take hv))),m1,m2,sg2 _ _ eM,by omega,by omega,hC.same sg2,λR ws W hR hrf l6 s3=>?_}
  refine{_,O,_,O,_,O,_,O,by show 4<=sizeLine;decide,λt2 ht2=>?_}
  have sW:=sg2.trans s3
  have st:=zag (o:=.tup [.int (m:Int),.ref R,.ref CL,.ref ML]) ht2
  have sf:=sX.trans sg
  refine k t2 R CL ML m cl ws _ zac (Bo34.same {by omega,m1,m2,hrf,l6,sW _ _ eC,sW _ _ eM,nCM,by omega,hC.same sW,λc hc=>?_,sZ.trans sW} st) {dr 1,y1,hlen,hK}
  obtain⟨f1,f2,f3⟩:=hfr c hc
  exact{sf.free f1,sf.free f2,f3}
abbrev zbR:Stmt:=top 75
def sc_law_address:FnScope ["bits","rows","one","other","top","mask","want","inner","chip","latch"] ["bits","rows","one","other"] (zaj zbR):=sck O O O (by decide +kernel)
inductive spAddr34(vs:List V)(H:Hp)(Q:VK)(u3_:XK):Prop
 | mk (R:Addr) (D:Dt) (m one other:Nat) (ws:List (Addr×Rw))(_:vs=[.int (m:Int),.ref R,.int (one:Int),.int (other:Int)])(_:RwsFor D m H R ws)(_:m<=16)(_:∀(x:Nat) (H':Hp),x<2 ^ m->Same H H'->Q (.int (x:Int)) H')
def zeI{f:Addr}{fd:FuncData}(F:FunN K "_law_address" zbR f fd)(T:Blt mg):FnOk P w K mg base CX0 1 f fd ["bits","rows","one","other"] spAddr34:=by
 refine F.ok sc_law_address (by walk_at"l") (λcdv A outer s H vs Q E hr h=>?_)
 .obtain⟨R,D,m,one,other,ws,rfl,hR,m2,k⟩:=h
  refine⟨_,(zab (ps_L 4 sc_law_address.nd (zak zbG (zak zdx zae (pv 0)) zae))
   (zab (zaB (PW.pt (zbX (zas (zmy (XbG (zdQ hr)) (K:=K) O) (pv 1) (za7 zad) (zav _)) (zby (zas zbf (zak zax (pv 2) zae) zae (zav _))))) (zaf (zap (zak zaR (zak zhG (zak zaC (pv 2) zae) (pv 3)) (pv 4)))) zaq)
   (zab (zbl (pe_x zaz (pv 1) (zak zax (zak zaC (pv 2) zae) (zao zar (by rfl) T.len PySem.boot_len (zaa (pv 1) zad)))) (zba O (zam (pg_L 5 sc_law_address.nd) (zam (pg_L 6 sc_law_address.nd) (zam (pg_L 7 sc_law_address.nd) (zam (pg_L 8 sc_law_address.nd) (zam (pg_L 9 sc_law_address.nd) zaP)))))))
   (zaf (zap (zak zkP (pv 6) (pe_x zal (zaA (zaa (zak zaR (pv 3) (zak zbG (pv 4) (pv 5))) (zaa (zak zaR (pv 3) (pv 7)) (zaa zae (zaa (zak zaR (pv 3) (pv 4)) zad))))) (zak zax (zak zaC (pv 2) zae) zae)))))))),?rd⟩
  have e1:(1:Int)*2 ^ ((m:Nat):Int).toNat=((2 ^ m:Nat):Int):=by rw[Int.one_mul,Xav];norm_cast
  have h0m:0<2 ^ m:=Xbo m
  have eT:((2 ^ m:Nat):Int)-1=((2 ^ m-1:Nat):Int):=by omega
  refine zaU (λU X=>U=[some (.int (m:Int)),some (.ref R),some (.int (one:Int)),some (.int (other:Int)),some (.int ((2 ^ m-1:Nat):Int)),none,none,none,none,none]/\X=H) (λN hN=>?_) ?_
  .refine{_,O,_,_,O,O,{by omega,by omega,by decide},_,_,O,O,hN _ _ {?_,O}}
   try dsimp only
   rw[e1,eT]
   rfl
  rintro U X ⟨rfl,rfl⟩
  generalize hT:2 ^ m-1=T
  have any:∀u:Nat,u &&& T<2 ^ m:=λu=>by have:u &&& T<=T:=Xbk;omega
  refine zaU (λU Y=>U=[some (.int (m:Int)),some (.ref R),some (.int (one:Int)),some (.int (other:Int)),some (.int (T:Int)),none,none,none,none,none]/\Same X Y/\1<=ws.length) (λN hN=>?_) ?_
  .have ret:∀Z,Same X Z->Q (.int (Builtin.bitAnd (Builtin.bitXor ((one:Int) / 4) (other:Int)) (T:Int))) Z:=λZ sZ=>by
    rw[show(one:Int) / 4=((one / 4:Nat):Int) by omega,bxor,band]
    exact k _ _ (any _) sZ
   refine{_,O,by show 0<=sizeLine;decide,λe he=>?_}
   have se:=zag (o:=.tup []) he
   refine{R,e,_,O,O,SqT.of (se _ _ hR.e),SqT.of zac,_,O,ite2 (λh1=>?_) (λh1=>?_)}
   .exact iteT {_,O,_,_,O,O,{by decide,by decide +kernel},_,O,_,_,O,O,_,O,_,_,O,O,ret _ se}
   .have l1:1<=ws.length:=by
     cases ws with
     | nil=>exact absurd O h1
     | cons _ _=>simp
    refine{_,O,_,_,O,O,(show(0:Int)<4 by decide),O,_,O,ite2 (λh2=>?_) (λh2=>zat (hN _ _ ⟨O,se,l1⟩))}
    exact{_,O,_,_,O,O,{by decide,by decide +kernel},_,O,_,_,O,O,_,O,_,_,O,O,ret _ se}
  rintro U Y ⟨rfl,sY,l1⟩
  have hR:=hR.same sY
  have hi:one / 4 % ws.length<ws.length:=Xbw _ l1
  have hz:=Xah hi
  generalize ws[one / 4 % ws.length]=z at hz
  obtain⟨⟨lt,et,hlt⟩,ok⟩:=hR.r z (Xas hz)
  have hat:atI (refs ws) ((one:Int) / 4 % ((refs ws).length:Int))=some (.ref z.1):=by
   rw[zaw,show(one:Int) / 4 % (ws.length:Int)=((one / 4 % ws.length:Nat):Int) by push_cast;rfl]
   exact zaF (zfi hz)
  refine{_,O,_,O,_,_,O,O,{by decide,by decide +kernel},_,O,R,_,O,.inr (SqT.of hR.e),_,_,O,O,by rw[zaw];omega,R,_,_,_,O,O,SqT.of hR.e,hat,z.1,_,O,SqT.of et,O,_,_,O,_,_,O,_,_,O,_,_,O,_,_,O,O,?_}
  have m0:z.2.m<2 ^ m:=ok.m0
  have eTm:(T:Int)-(z.2.m:Int)=((T-z.2.m:Nat):Int):=by omega
  refine{_,O,_,O,_,O,_,O,_,_,O,O,_,_,O,O,_,O,_,O,_,_,O,O,_,O,_,O,_,_,O,O,by show 4<=sizeLine;decide,λp hp=>?_}
  obtain⟨u,hu,eu⟩:=zgW (ns:=[other &&& (T-z.2.m),other &&& z.2.i,0,other &&& T]) (a:=one / 100) (k:=4) O (by decide)
  refine{_,O,_,_,O,O,{by decide,by decide +kernel},_,_,O,O,(show(0:Int)<4 by decide),p,_,_,.int (u:Int),O,O,SqL.of zac,?_,_,_,O,O,?_}
  .show atI [V.int (Builtin.bitAnd (other:Int) ((T:Int)-(z.2.m:Int))),V.int (Builtin.bitAnd (other:Int) (z.2.i:Int)),V.int 0,V.int (Builtin.bitAnd (other:Int) (T:Int))] ((one:Int) / 100 % 4)=_
   rw[eTm,band,band,band,show(one:Int) / 100=((one / 100:Nat):Int) by omega]
   exact eu
  try dsimp only
  rw[bor]
  refine k _ _ (Nat.or_lt_two_pow ok.w0 ?_) (sY.trans (zag hp))
  have i0:=ok.i0
  simp only[Xau,Xbc,or_false] at hu
  rcases hu with rfl|rfl|rfl|rfl
  .exact XaP Xbk (by omega)
  .exact XaP Xbk i0
  .exact h0m
  .exact any _
abbrev zca:Stmt:=top 77
def sc_law_turned:FnScope ["some","number","left","found"] ["some","number"] (zaj zca):=sck O O O (by decide +kernel)
def zje:∀{l:List Nat} {i:Nat} (h:i<l.length),(l[i]::l.eraseIdx i).Perm l
 | a::l,0,_=>List.Perm.refl _
 | a::l,i+1,h=>(List.Perm.swap a (l[i]'(Nat.lt_of_succ_lt_succ h)) (l.eraseIdx i)).trans (List.Perm.cons a (zje (Nat.lt_of_succ_lt_succ h)))
inductive spTurned44(K:W.Frag)(vs:List V)(H:Hp)(Q:VK)(u3_:XK):Prop
 | mk (p:Addr) (xs:List V) (a:Nat)(_:vs=[.ref p,.int (a:Int)])(_:(SqL K H p xs\/SqT K H p xs))(_:xs.length<=60)(_:a<2 ^ 31)(_:∀(l:Addr) (ys:List Nat) (H':Hp),H l=none->H' l=some (.lst (vN ys))->ys.Perm (List.range xs.length)->Same H H'->Q (.ref l) H')
def zft{f:Addr}{fd:FuncData}(F:FunN K "_law_turned" zca f fd)(T:Blt mg):FnOk P w K mg base CX0 1 f fd ["some","number"] (spTurned44 K):=by
 refine F.ok sc_law_turned (by walk_at"l") (λcdv A outer s H vs Q E hr h=>?_)
 .obtain⟨p,xs,a,rfl,hp,hx,ha,k⟩:=h
  refine⟨_,(zab (ps_L 2 sc_law_turned.nd (zbe (ziz O) (by rfl) T.list zcQ (zaa (zbe zgs (by rfl) T.range PyProof.Rows.boot_range (zaa (zao zar (by rfl) T.len PySem.boot_len (zaa (pv 0) zad)) zad)) zad)))
   (zab (ps_L 3 sc_law_turned.nd (zaA zad))
   (zab (zdS PassesOwn.never (zas (zjj (XbG (zdQ hr)) (K:=K) O) (pv 2) (zaA zad) (zav _)) (zab (zau (zch PySem.F.plainAttrs_list PySem.F.slot_list_append PySem.F.type_list_append zaS (pv 3) (zaa (zch PySem.F.plainAttrs_list PySem.F.slot_list_pop PySem.F.type_list_pop zkV (pv 2) (zaa (zak zax (pv 1) (zao zar (by rfl) T.len PySem.boot_len (zaa (pv 2) zad))) zad)) zad)))
   (zaf (ps_L 1 sc_law_turned.nd (zak zaW (zak zaC (pv 1) zae) zae)))))
   (zaf (zap (pv 3)))))),?rd⟩
  refine{_,O,p,xs,O,hp,xs.length,O,λq hq=>{q,xs.length,O,zac,by omega,λl hl=>{by show 0<=sizeLine;decide,λg hg=>?_}}}
  have s1:=zag (o:=.rng 0 (xs.length:Int)) hq
  have s2:=zag (o:=.lst ((List.range xs.length).map λ(b:Nat)=>V.int (b:Int))) hl
  have s3:=zag (o:=.lst []) hg
  have el:=s3 _ _ (zac (H:=upd H q (.rng 0 (xs.length:Int))) (a:=l) (o:=.lst ((List.range xs.length).map λ(b:Nat)=>V.int (b:Int))))
  have eg:upd (upd (upd H q (.rng 0 (xs.length:Int))) l (.lst ((List.range xs.length).map λ(b:Nat)=>V.int (b:Int)))) g (.lst []) g=some (.lst []):=zac
  have sX:=s1.trans (s2.trans s3)
  have hlH:H l=none:=s1.free hl
  have hgH:H g=none:=(s1.trans s2).free hg
  have nlg:l≠g:=zai zac hg
  generalize upd (upd (upd H q (.rng 0 (xs.length:Int))) l (.lst ((List.range xs.length).map λ(b:Nat)=>V.int (b:Int)))) g (.lst [])=X0 at *
  clear s1 s2 s3 hl hg hq
  refine zdR (λU X=>∃(a:Nat) (ls fs:List Nat),U=[some (.ref p),some (.int (a:Int)),some (.ref l),some (.ref g)]/\X l=some (.lst (vN ls))/\X g=some (.lst (vN fs))/\(fs++ls).Perm (List.range xs.length)/\a<2 ^ 31/\Same H X) (λU X=>match X l with|some (.lst zs)=>zs.length|_=>0)
   {a,List.range xs.length,[],O,el,eg,List.Perm.refl _,ha,sX} ?_ ?_
  .rintro U X ⟨a,ls,fs,rfl,el,eg,hp,ha,sX⟩
   have hln:=hp.length_eq
   rw[Xam,XaH] at hln
   refine{_,O,by show 0<=sizeLine;decide,λe he=>{l,e,vN ls,O,O,SqL.of (zag he _ _ el),SqL.of zac,_,O,ite2 (λh1=>?_) (λh1=>?_)}}
   .have se:=zag (o:=.lst []) he
    have h0:ls≠[]:=λz=>by rw[z] at h1;cases h1
    have hpos:0<ls.length:=List.length_pos_iff.mpr h0
    have eX:=se _ _ el
    have egX:=se _ _ eg
    have sE:=sX.trans se
    have em:(a:Int) % ((vN ls).length:Int)=((a % ls.length:Nat):Int):=by rw[zan];omega
    have hmod:a % ls.length<ls.length:=Xbw _ hpos
    refine{_,O,.inl {O,_,SqL.of egX},_,O,.inl {O,_,SqL.of eX},_,O,_,O,l,_,O,.inl (SqL.of eX),_,_,O,O,by rw[zan];omega,l,_,_,a % ls.length,.int ((ls[a % ls.length]:Nat):Int),O,O,eX,?_,?_,?_,zlr (Xah hmod),?_}
    .rw[em];omega
    .rw[em];omega
    .rw[em,zan];unfold seqIndex?;simp;omega
    have eE:(vN ls).eraseIdx (a % ls.length)=vN (ls.eraseIdx (a % ls.length)):=by unfold vN;rw[zdy]
    rw[eE]
    have eg2:upd (upd X e (.lst [])) l (.lst (vN (ls.eraseIdx (a % ls.length)))) g=some (.lst (vN fs)):=by rw[zah (Ne.symm nlg)];exact egX
    refine{g,_,_,O,O,eg2,by rw[zan,sizeLine_eq];omega,?_}
    try dsimp only
    refine{_,O,_,_,O,O,{by omega,by decide +kernel},_,_,O,O,{{a / 5+7,ls.eraseIdx (a % ls.length),fs++[ls[a % ls.length]],?_,?_,?_,?_,by omega,?_},?_}}
    .rw[show(a:Int) / 5+7=((a / 5+7:Nat):Int) by omega];rfl
    .rw[zah nlg];exact zac
    .rw[zac,zb5]
    .refine List.Perm.trans ?_ hp
     rw[List.append_assoc]
     refine List.Perm.append_left fs ?_
     have:=zje hmod
     exact this
    .intro b o eb
     rw[zah (zai eb hgH),zah (zai eb hlH)]
     exact sE _ _ eb
    .rw[zah nlg,zac,el]
     show(vN (ls.eraseIdx (a % ls.length))).length<(vN ls).length
     rw[zan,zan,List.length_eraseIdx_of_lt hmod]
     omega
   .have h0:ls=[]:=by
     cases ls with
     | nil=>rfl
     | cons x y=>exact absurd O h1
    subst h0
    rw[Xbm] at hp
    exact{_,O,k g fs _ hgH (zag he _ _ eg) hp (sX.trans (zag he))}
  .rintro U X Q1 Q2 hq h
   obtain⟨v,e,hz,h⟩:=h
   refine{v,e,hz,λp hp=>?_}
   obtain⟨a,b,xs,e1,e2,e3,e4,c,e5,h⟩:=h p hp
   exact{a,b,xs,e1,e2,e3,e4,c,e5,hq _ _ h}
abbrev zbQ:Stmt:=top 78
def sc_law_renamed:FnScope ["rows","order","chips","found","k","mask","want","inner","chip","latch"] ["rows","order","chips"] (zaj zbQ):=sck O O O (by decide +kernel)
def ren(ps:List Nat)(r:Rw):Rw:={r with c:=ps.idxOf r.c,l:=r.l.map λx=>(ps.idxOf x.1,x.2)}
inductive spRen44(vs:List V)(H:Hp)(Q:VK)(u3_:XK):Prop
 | mk (R O9 L:Addr) (ws:List (Addr×Rw)) (os ps:List Nat) (n:Nat)(_:vs=[.ref R,.ref O9,.ref L])(_:H R=some (.tup (refs ws)))(_:(∀z∈ws,RwAt H z.1 z.2))(_:H O9=some (.lst (vN os)))(_:H L=some (.lst (vN ps)))(_:os.Perm (List.range ws.length))(_:ps.Perm (List.range n))(_:ws.length<=60)(_:n<=200)(_:(∀z∈ws,z.2.c<n/\∀c a b,z.2.l=some (c,a,b)->c<n))(_:∀(R2:Addr) (ws2:List (Addr×Rw)) (H':Hp),H R2=none->H' R2=some (.tup (refs ws2))->(∀z∈ws2,RwAt H' z.1 z.2)->ws2.length=os.length->(∀(i k:Nat) (z:Addr×Rw),os[i]?=some k->ws[k]?=some z->∃t,ws2[i]?=some (t,ren ps z.2))->Same H H'->Q (.ref R2) H')
def zeH{f:Addr}{fd:FuncData}(F:FunN K "_law_renamed" zbQ f fd)(T:Blt mg):FnOk P w K mg base CX0 1 f fd ["rows","order","chips"] spRen44:=by
 refine F.ok sc_law_renamed (by walk_at"l") (λcdv A outer s H vs Q E hr h=>?_)
 .obtain⟨R,O9,L,ws,os,ps,n,rfl,eR,hw,eO,eL,po,pp,l60,n200,hc,k⟩:=h
  refine⟨_,(zab (ps_L 3 sc_law_renamed.nd (zaA zad))
   (zab (zbE PassesOwn.never O (zcg (pv 1)) (pg_L 4 sc_law_renamed.nd)
   (zab (zbl (pe_x zaz (pv 0) (pv 4)) (zba O (zam (pg_L 5 sc_law_renamed.nd) (zam (pg_L 6 sc_law_renamed.nd) (zam (pg_L 7 sc_law_renamed.nd) (zam (pg_L 8 sc_law_renamed.nd) (zam (pg_L 9 sc_law_renamed.nd) zaP)))))))
   (zab (zaB (zbz (zcM (pv 9))) (zaf (ps_L 9 sc_law_renamed.nd (zak (zkQ (K:=K) O) (za7 (zaa (zch PySem.F.plainAttrs_list PySem.F.slot_list_index PySem.F.type_list_index zfz (pv 2) (zaa (pe_x zaz (pv 9) zae) zad)) zad)) (zbF (zgI (K:=K) O) (pv 9) (zbi zae) zei)))) zaq)
   (zaf (zau (zch PySem.F.plainAttrs_list PySem.F.slot_list_append PySem.F.type_list_append zaS (pv 3) (zaa (za7 (zaa (pv 5) (zaa (pv 6) (zaa (pv 7) (zaa (zch PySem.F.plainAttrs_list PySem.F.slot_list_index PySem.F.type_list_index zfz (pv 2) (zaa (pv 8) zad)) (zaa (pv 9) zad)))))) zad)))))))
   (zaf (zap (zbe zb2 (by rfl) T.tuple zbq (zaa (pv 3) zad)))))),?rd⟩
  refine{by show 0<=sizeLine;decide,λg hg=>?_}
  have sg:=zag (o:=.lst []) hg
  have hos:∀o∈os,o<ws.length:=λo ho=>by have:=po.mem_iff.mp ho;rwa [XaU] at this
  have lps:ps.length=n:=by rw[pp.length_eq,XaH]
  have hix:∀c,c<n->ps.idxOf c<ps.length/\(ps.map λ(b:Nat)=>(b:Int))[ps.idxOf c]?=some (c:Int)/\∀(k:Nat) (m:Int),k<ps.idxOf c->(ps.map λ(b:Nat)=>(b:Int))[k]?=some m->m≠(c:Int):=λc hc=>by
   have hm:c∈ps:=pp.mem_iff.mpr (XaU.mpr hc)
   have hl:=List.idxOf_lt_length_of_mem hm
   refine{hl,?_,λk m hk hkm z=>?_}
   .rw[Xao,Xah hl,List.getElem_idxOf hl];rfl
   .rw[Xao] at hkm
    obtain⟨b,hb,rfl⟩:=Xax.mp hkm
    obtain rfl:=Int.ofNat.inj z
    obtain⟨h1,h2⟩:=Xaf.mp hb
    have h3:=List.not_of_lt_findIdx (p:=(·==b)) (xs:=ps) hk
    rw[h2] at h3
    exact absurd h3 (by simp)
  have eI:∀{X:Hp},Same H X->X L=some (.lst ((ps.map λ(b:Nat)=>(b:Int)).map V.int)):=λs=>by rw[s _ _ eL];unfold vN;rw[Xa5];rfl
  try dsimp only[zaY,List.set]
  refine{_,O,O9,O,{_,SqL.of (sg _ _ eO)},?_}
  refine zdV (K:=K) (a:=O9) (xs:=vN os) (λi U X=>∃(v4 v5 v6 v7 v8 v9:Option V) (ws2:List (Addr×Rw)),U=[some (.ref R),some (.ref O9),some (.ref L),some (.ref g),v4,v5,v6,v7,v8,v9]/\X g=some (.lst (refs ws2))/\(∀z∈ws2,RwAt X z.1 z.2)/\ws2.length=i/\(∀(j k:Nat) (z:Addr×Rw),j<i->os[j]?=some k->ws[k]?=some z->∃t,ws2[j]?=some (t,ren ps z.2))/\Same H X) {_,_,_,_,_,_,[],O,zac,(λ_ h=>nomatch h),O,(λj k z hj=>absurd hj (Xbn _)),sg} (λi U X hi ⟨_,_,_,_,_,_,_,_,_,_,_,_,sX⟩=>SqL.of (sX _ _ eO)) ?_ ?_
  .rintro i x U X hx ⟨v4,v5,v6,v7,v8,v9,ws2,rfl,hh⟩
   have eg:=hh.1
   have hw2:=hh.2.1
   have hl2:=hh.2.2.1
   have hat:=hh.2.2.2.1
   have sX:=hh.2.2.2.2
   have hx':∃k,os[i]?=some k/\x=.int (k:Int):=by
    unfold vN at hx
    rw[Xao] at hx
    obtain⟨k,hk,rfl⟩:=Xax.mp hx
    exact⟨k,hk,O⟩
   obtain⟨kk,hk,rfl⟩:=hx'
   have hkl:=hos kk (Xas hk)
   have hz:=Xah hkl
   generalize ws[kk]=z at hz
   have hzm:=Xas hz
   obtain⟨lt,et,hlt⟩:=(hw z hzm).same sX
   obtain⟨hzc,hzl⟩:=hc z hzm
   refine{_,O,_,O,R,_,_,_,O,O,SqT.of (sX _ _ eR),zaF (zfi hz),z.1,_,O,SqT.of et,O,_,_,O,_,_,O,_,_,O,_,_,O,_,_,O,O,?_}
   try dsimp only[zaY,List.set]
   refine zaU (λU Y=>∃lt2:V,U=[some (.ref R),some (.ref O9),some (.ref L),some (.ref g),some (.int (kk:Int)),some (.int (z.2.m:Int)),some (.int (z.2.w:Int)),some (.int (z.2.i:Int)),some (.int (z.2.c:Int)),some lt2]/\LatV Y lt2 (z.2.l.map λx=>(ps.idxOf x.1,x.2))/\Same X Y) (λN hN=>?_) ?_
   .cases hl:z.2.l with
    | none =>
     rw[hl] at hlt
     obtain rfl:lt=.non:=hlt
     exact{_,O,_,O,iteF (zat (hN _ _ {.non,O,by rw[hl];rfl,Same.refl _}))}
    | some o =>
     obtain⟨c,a,b⟩:=o
     rw[hl] at hlt
     obtain⟨u,rfl,eu⟩:=hlt
     obtain⟨q1,q2,q3⟩:=hix c (hzl c a b hl)
     refine{_,O,_,O,iteT ?_}
     refine{_,O,.inl {O,_,SqL.of (eI sX)},_,O,u,_,_,_,O,O,SqT.of eu,O,L,_,ps.idxOf c,(c:Int),O,O,eI sX,q2,q3,?_}
     refine{by show 1<=sizeLine;decide,λv hv=>?_}
     have sv:=zag (o:=.tup [.int (ps.idxOf c:Int)]) hv
     have ec:cutV [V.int (c:Int),.int (a:Int),.int (b:Int)] (some 1) none=[.int (a:Int),.int (b:Int)]:=rfl
     refine{_,O,1,O,u,_,O,SqT.of (sv _ _ eu),(λe=>by rw[ec] at e;cases e),λw hw=>?_}
     rw[ec]
     have sw:=sv.trans (zag (o:=.tup [.int (a:Int),.int (b:Int)]) hw)
     refine{v,w,_,_,O,O,SqT.of (zag hw _ _ zac),SqT.of zac,by show 3<=sizeLine;decide,(λe=>by cases e),(λe=>by cases e),λw2 hw2'=>?_}
     have sw2:=sw.trans (zag (o:=.tup ([.int (ps.idxOf c:Int)]++[.int (a:Int),.int (b:Int)])) hw2')
     exact hN _ _ {.ref w2,O,by rw[hl];exact⟨w2,O,zac⟩,sw2}
   rintro U Y ⟨lt2,rfl,hl2',sY⟩
   obtain⟨q1,q2,q3⟩:=hix z.2.c hzc
   have sYH:=sX.trans sY
   refine{_,O,.inl {O,_,SqL.of (sY _ _ eg)},_,O,_,O,_,O,_,O,.inl {O,_,SqL.of (eI sYH)},_,O,L,_,ps.idxOf z.2.c,(z.2.c:Int),O,O,eI sYH,q2,q3,_,O,by show 5<=sizeLine;decide,λv hv=>?_}
   have sv:=zag (o:=.tup [.int (z.2.m:Int),.int (z.2.w:Int),.int (z.2.i:Int),.int (ps.idxOf z.2.c:Int),lt2]) hv
   have eg2:=sv _ _ (sY _ _ eg)
   refine{g,_,_,O,O,eg2,by rw[zaw,sizeLine_eq,hl2];have:=(Xaf.mp hk).1;have:=po.length_eq;rw[XaH] at this;omega,?_}
   have rz:RwAt (upd Y v (.tup [.int (z.2.m:Int),.int (z.2.w:Int),.int (z.2.i:Int),.int (ps.idxOf z.2.c:Int),lt2])) v (ren ps z.2):={lt2,zac,LatV.same hl2' sv}
   refine{_,_,_,_,_,_,ws2++[(v,ren ps z.2)],O,by rw[zac,zi2],λy hy=>?_,by rw[Xam,hl2];rfl,λj k y hj h1 h2=>?_,λa o e=>by rw[zah (zai e hg)];exact sv _ _ (sYH _ _ e)}
   .rcases XaI.mp hy with q|q
    .exact((hw2 y q).same (sY.trans sv)).updL eg2
    .rw[Xad.mp q]
     exact rz.updL eg2
   .rcases(show j<i\/j=i by omega) with q|q
    .obtain⟨t,et⟩:=hat j k y q h1 h2
     exact{t,by rw[Xbt (by rw[hl2];exact q)];exact et}
    .rw[q,hk] at h1
     obtain rfl:=Option.some.inj h1
     rw[hz] at h2
     obtain rfl:=Option.some.inj h2
     exact{v,by rw[q,Xbp (by omega),hl2,Nat.sub_self];rfl}
  .rintro U X ⟨v4,v5,v6,v7,v8,v9,ws2,rfl,eg,hw2,hl2,hat,sX⟩
   refine{_,O,g,refs ws2,O,.inl {SqL.of eg,λR2 hR2=>?_}}
   have s2:=zag (o:=.tup (refs ws2)) hR2
   exact k R2 ws2 _ (sX.free hR2) zac (λz hz=>(hw2 z hz).same s2) (by rw[hl2,zan]) (λi k z h1 h2=>hat i k z (by rw[zan];exact(Xaf.mp h1).1) h1 h2) (sX.trans s2)
abbrev zbr:Stmt:=top 79
def zdD:FnScope ["one","other","order"] ["one","other","order"] (zaj zbr):=sck O O O (by decide +kernel)
inductive spWhoA(vs:List V)(H:Hp)(Q:VK)(u3_:XK):Prop
 | mk (x y:V) (O9:Addr) (os:List Nat)(_:vs=[x,y,.ref O9])(_:H O9=some (.lst (vN os)))(_:((x=.non/\y=.non)\/∃(t u:Addr) (i j g:Nat),x=.ref t/\y=.ref u/\H t=some (.tup [.int (i:Int),.int (g:Int)])/\H u=some (.tup [.int (j:Int),.int (g:Int)])/\os[j]?=some i/\os.Nodup))(_:∀X,Same H X->Q (.bl true) X)
def zdJ{f:Addr}{fd:FuncData}(F:FunN K "_law_who_alike" zbr f fd)(T:Blt mg)(G_law_same:Cal P w K mg base 3 "_law_same" ["found","due"] (spSameL 2)):FnOk P w K mg base CX0 4 f fd ["one","other","order"] spWhoA:=by
 refine F.ok zdD (by walk_at"l") (λcdv A outer s H vs Q E hr h=>?_)
 .obtain⟨x,y,O9,os,rfl,eO,h,k⟩:=h
  refine⟨_,(zab (zaB (PW.pt (zbX (zbz (zb4 (pv 0))) (zby (zbz (zb4 (pv 1)))))) (zaf (zap (zbb (zfT (zb4 (pv 0))) (zbm (zfT (zb4 (pv 1))))))) zaq)
   (zaf (zap (pe_c G_law_same (zaa (pv 1) (zaa (za7 (zaa (zch PySem.F.plainAttrs_list PySem.F.slot_list_index PySem.F.type_list_index zfz (pv 2) (zaa (pe_x zaz (pv 0) zae) zad)) (zaa (pe_x zaz (pv 0) zae) zad))) zad)))))),?rd⟩
  rcases h with⟨rfl,rfl⟩|⟨t,u,i,j,g,rfl,rfl,et,eu,ej,nd⟩
  .refine{_,O,_,O,iteT (iteT {_,O,true,O,iteT {_,O,k _ (Same.refl _)}})}
  .refine{_,O,_,O,iteF {_,O,_,O,iteF (zat ?_)}}
   try dsimp only
   have hj:j<os.length:=(Xaf.mp ej).1
   refine{_,O,_,O,.inl {O,_,SqL.of eO},_,O,t,_,_,_,O,O,SqT.of et,O,O9,os.map (λ(b:Nat)=>(b:Int)),j,(i:Int),O,O,?_,?_,?_,?_}
   .rw[eO];unfold vN;rw[Xa5];rfl
   .rw[Xao,ej];rfl
   .intro k' m hk hm z
    rw[Xao] at hm
    obtain⟨b,hb,rfl⟩:=Xax.mp hm
    obtain rfl:=Int.ofNat.inj z
    have:=(List.getElem?_inj hj nd).mp (ej.trans hb.symm)
    omega
   .refine{_,O,t,_,_,_,O,O,SqT.of et,O,by show 2<=sizeLine;decide,λv hv=>?_}
    have sv:=zag (o:=.tup [.int (j:Int),.int (g:Int)]) hv
    refine{.ref u,.ref v,O,.inr (.seq (t:=true) (SqX.tup (sv _ _ eu)) (SqX.tup zac) O (by show 2<=sizeLine;decide) λk x y h1 h2=>?_),λX s=>k X (sv.trans s)}
    rw[h1] at h2
    obtain rfl:=Option.some.inj h2
    rcases k with _|_|k
    .obtain rfl:=Option.some.inj h1;exact .int _
    .obtain rfl:=Option.some.inj h1;exact .int _
    .cases h1
def LsAt(X:Hp)(h:Addr)(hs:List (Str×Nat×Nat)):Prop:=∃ts:List Addr,X h=some (.lst (ts.map V.ref))/\ts.length=hs.length/\∀(i:Nat) (t:Addr) (d:Str×Nat×Nat),ts[i]?=some t->hs[i]?=some d->X t=some (.tup (hrV d))
def BW.all{C CW:Addr}{B:Bd}{D:Dt}{X Z:Hp}{f:Nat}{wl:List (Nat×Wa)}(h:BW C CW B D X f wl)(kt:∀a ts,X a=some (.tup ts)->Z a=some (.tup ts))(k:∀a o,(a=B.b\/a=B.L\/a=B.la\/a=B.W\/∃z∈wl,a=z.2.x\/a=z.2.h)->X a=some o->Z a=some o):BW C CW B D Z f wl:=by
 obtain⟨db,e⟩:=h.b.e
 refine{{{db,k _ _ (.inl O) e},h.b.b1,h.b.b2,{kt _ _ h.b.rf.e,(λz hz=>?_),h.b.rf.f,h.b.rf.nc,h.b.rf.ln},k _ _ (.inr (.inl O)) h.b.ch,k _ _ (.inr (.inr (.inl O))) h.b.la,h.b.kl,h.b.ks,h.b.kn,h.b.f0,h.b.nl},{k _ _ (.inr (.inr (.inr (.inl O)))) h.w.d,λz hz=>?_,h.w.i,h.w.x,h.w.m},h.nh}
 .obtain⟨⟨lt,et,hlt⟩,ok⟩:=h.b.rf.r z hz
  refine{{lt,kt _ _ et,?_},ok}
  cases hl:z.2.l with
  | none=>rw[hl] at hlt;exact hlt
  | some o =>
   rw[hl] at hlt
   obtain⟨u,eu,hu⟩:=hlt
   exact{u,eu,kt _ _ hu}
 .obtain⟨dx,e1⟩:=(h.w.o z hz).e
  obtain⟨ts,e2,e3,e4⟩:=(h.w.o z hz).l
  exact{{dx,k _ _ (.inr (.inr (.inr (.inr {z,hz,.inl O})))) e1},{ts,k _ _ (.inr (.inr (.inr (.inr {z,hz,.inr O})))) e2,e3,λi t d h1 h2=>kt _ _ (e4 i t d h1 h2)},(h.w.o z hz).n}
def Chs.kp{cs:Nat->Addr}{D:Dt}{X Z:Hp}{us:Nat->List Nat}(S:Chs cs D X us)(k:∀i,i<D.m->∀o,(X (D.x i)=some o->Z (D.x i)=some o)/\(X (D.p i)=some o->Z (D.p i)=some o)):Chs cs D Z us:=
 {λi h=>by obtain⟨dx,ex⟩:=(S.o i h).ex;exact{{dx,(k i h _).1 ex},(k i h _).2 (S.o i h).ls},S.k,S.h1,S.z,S.inj,S.m1}
structure Sk where
 B:Bd
 D:Dt
 x:Addr
 h:Addr
def w1(q:Sk)(hs:List (Str×Nat×Nat)):List (Nat×Wa):=[(0,{q.x,q.h,0,0,"both",hs})]
def w1_h{q:Sk}{hs:List (Str×Nat×Nat)}{k:Str}{a v:Nat}:wsH k a v (w1 q hs)=w1 q (hs++[(k,a,v)]):=by
 have o1:(Wa.mk q.x q.h 0 0 "both" hs).on k a=true:=by unfold Wa.on;rw[Nat.and_zero];rfl
 unfold wsH w1 Wa.hear
 rw[XaF,List.map_nil,o1]
 rfl
def w1_n{q:Sk}{hs:List (Str×Nat×Nat)}(h:hs.length<1000000):∀z∈w1 q hs,z.2.hs.length<1000000:=λz hz=>by rw[Xad.mp hz];exact h
def Sk.Mt(q:Sk)(a:Addr):Prop:=a=q.B.b\/a=q.h\/∃i,i<q.D.m/\a=q.D.p i
def Sk.Fx(q:Sk)(a:Addr):Prop:=a=q.B.L\/a=q.B.la\/a=q.B.W\/a=q.x\/∃i,i<q.D.m/\a=q.D.x i
def zln(q r:Sk):Prop:=∀a,q.Mt a->¬ r.Mt a/\¬ r.Fx a
structure Sd(C CW:Addr)(cs:Nat->Addr)(q:Sk)(X:Hp)(f:Nat)(hs:List (Str×Nat×Nat))(us:Nat->List Nat):Prop where
 b:BW C CW q.B q.D X f (w1 q hs)
 S:Chs cs q.D X us
def Kp(q:Sk)(X Z:Hp):Prop:=∀a o,¬ q.Mt a->X a=some o->Z a=some o
section
variable{C CW:Addr}{cs:Nat->Addr}{q r:Sk}{X Y Z:Hp}{f g:Nat}{hs gs:List (Str×Nat×Nat)}{us vs:Nat->List Nat}
def Kp.frw(h:FrW q.B.b (w1 q hs) q.D X Z):Kp q X Z:=λa o n e=>h a o (λz=>n (.inl z)) (λz hz=>by rw[Xad.mp hz];exactλz=>n (.inr (.inl z))) (λi hi z=>n (.inr (.inr ⟨i,hi,z⟩))) e
def Sd.same(s:Sd C CW cs q X f hs us)(k:Same X Z):Sd C CW cs q Z f hs us:={s.b.same k,s.S.same k}
def Sd.h(s:Sd C CW cs q X f hs us):∃ts:List Addr,X q.h=some (.lst (ts.map V.ref)):=by
 obtain⟨ts,e,_⟩:=(s.b.w.o _ Xay).l
 exact⟨ts,e⟩
def Sd.tup(s:Sd C CW cs q X f hs us){a:Addr}{ts:List V}(e:X a=some (.tup ts)):¬ q.Mt a:=λh=>by
 obtain⟨db,eb⟩:=s.b.b.e
 obtain⟨us',eh⟩:=s.h
 rcases h with z|z|⟨i,hi,z⟩
 .rw[z,eb] at e;cases e
 .rw[z,eh] at e;cases e
 .rw[z,(s.S.o i hi).ls] at e;cases e
def Sd.kp(s:Sd C CW cs q X f hs us)(t:Sd C CW cs r X g gs vs)(ap:zln r q)(k:Kp r X Z):Sd C CW cs q Z f hs us:=by
 refine{s.b.all (λa ts e=>k _ _ (t.tup e) e) (λa o h e=>k _ _ (λm=>?_) e),s.S.kp λi hi o=>{λe=>k _ _ (λm=>(ap _ m).2 (.inr (.inr (.inr (.inr ⟨i,hi,O⟩))))) e,λe=>k _ _ (λm=>(ap _ m).1 (.inr (.inr ⟨i,hi,O⟩))) e}}
 have m2:=ap _ m
 rcases h with z|z|z|z|⟨y,hy,z⟩
 .exact m2.1 (.inl z)
 .exact m2.2 (.inl z)
 .exact m2.2 (.inr (.inl z))
 .exact m2.2 (.inr (.inr (.inl z)))
 .rw[Xad.mp hy] at z
  rcases z with z|z
  .exact m2.2 (.inr (.inr (.inr (.inl z))))
  .exact m2.1 (.inr (.inl z))
end
structure Trn(q r:Sk)(os ps:List Nat):Prop where
 mm:r.D.m=q.D.m
 pp:ps.Perm (List.range q.D.m)
 po:os.Perm (List.range q.B.ws.length)
 kd:∀k,k<q.D.m->r.D.kd (ps.idxOf k)=q.D.kd k/\r.D.n (ps.idxOf k)=q.D.n k
 bb:r.B.bits=q.B.bits
 l2:r.B.ws.length=os.length
 ws:∀(i k:Nat) (z:Addr×Rw),os[i]?=some k->q.B.ws[k]?=some z->∃t,r.B.ws[i]?=some (t,ren ps z.2)
 a1:zln q r
 a2:zln r q
 xx:r.x≠q.x
def Rel(q:Sk)(ps:List Nat)(us vs:Nat->List Nat):Prop:=∀k,k<q.D.m->vs (ps.idxOf k)=us k
def zke{x m w n v:Nat}(h1:x &&& m=w)(h2:x &&& n=v):agr m w n v=true:=by
 unfold agr
 refine Xak ?_
 subst h1 h2
 apply Nat.eq_of_testBit_eq
 intro j
 simp only[XaJ,Nat.testBit_xor,Nat.zero_testBit]
 cases x.testBit j<;>cases m.testBit j<;>cases n.testBit j<;>rfl
def zkc{r s:Rw}{x:Nat}{W:Nat->Nat}(h1:ans r x W=true)(h2:ans s x W=true):za9 r s=true:=by
 unfold ans at h1 h2
 rw[Xa0] at h1 h2
 unfold za9
 rw[zke (XaK h1.1) (XaK h2.1),Bool.true_and]
 have a1:=h1.2
 have a2:=h2.2
 unfold awk at a1 a2
 unfold latA
 cases e1:r.l with
 | none=>rfl
 | some o =>
  obtain⟨c,a,b⟩:=o
  cases e2:s.l with
  | none=>rfl
  | some o2 =>
   obtain⟨d,y,z⟩:=o2
   rw[e1] at a1
   rw[e2] at a2
   show(if c=d then agr a b y z else true)=true
   by_cases e:c=d
   .subst e
    rw[if_pos O]
    exact zke (XaK a1) (XaK a2)
   .rw[if_neg e]
section
variable{C CW:Addr}{cs:Nat->Addr}{q r:Sk}{X Z:Hp}{f g:Nat}{hs gs:List (Str×Nat×Nat)}{us vs:Nat->List Nat}{os ps:List Nat}
def Trn.os_lt(T:Trn q r os ps){j i:Nat}(h:os[j]?=some i):i<q.B.ws.length:=XaU.mp (T.po.mem_iff.mp (Xas h))
def Trn.nd(T:Trn q r os ps):os.Nodup:=T.po.nodup_iff.mpr List.nodup_range
def Trn.ix(T:Trn q r os ps){k:Nat}(h:k<q.D.m):ps.idxOf k<r.D.m:=by
 have:=List.idxOf_lt_length_of_mem (T.pp.mem_iff.mpr (XaU.mpr h))
 rw[T.pp.length_eq,XaH] at this
 rw[T.mm];exact this
def Trn.inj(T:Trn q r os ps){k l:Nat}(hk:k<q.D.m)(hl:l<q.D.m)(e:ps.idxOf k=ps.idxOf l):k=l:=by
 have h1:=List.idxOf_lt_length_of_mem (T.pp.mem_iff.mpr (XaU.mpr hk))
 have h2:=List.idxOf_lt_length_of_mem (T.pp.mem_iff.mpr (XaU.mpr hl))
 have e1:=List.getElem_idxOf h1
 have e2:=List.getElem_idxOf h2
 rw[<- e1,<- e2]
 exact List.getElem_of_eq O _ |>.trans (by congr)
def zhr(T:Trn q r os ps)(R:Rel q ps us vs){z:Addr×Rw}(hf:Fit q.D z.2)(x:Nat):ans (ren ps z.2) x (hld vs)=ans z.2 x (hld us):=by
 unfold ans awk ren met
 cases hl:z.2.l with
 | none=>rfl
 | some o =>
  obtain⟨c,a,b⟩:=o
  have e:hld vs (ps.idxOf c)=hld us c:=by unfold hld;rw[R c (hf.2.2 c a b hl).1]
  show(decide (x &&& z.2.m=z.2.w)&&decide (hld vs (ps.idxOf c) &&& a=b))=_
  rw[e]
def who44(T:Trn q r os ps)(R:Rel q ps us vs)(b1:BdAt C q.B q.D X f)(b2:BdAt C r.B r.D X g)(x:Nat) :
  (whoI q.B us x=none/\whoI r.B vs x=none)\/∃i j z t,whoI q.B us x=some i/\q.B.ws[i]?=some z/\whoI r.B vs x=some j/\r.B.ws[j]?=some (t,ren ps z.2)/\os[j]?=some i:=by
 rw[zlo b1,zlo b2]
 have at_:∀j,j<r.B.ws.length->∃i z t,os[j]?=some i/\q.B.ws[i]?=some z/\r.B.ws[j]?=some (t,ren ps z.2):=λj hj=>by
  rw[T.l2] at hj
  have e:=Xah hj
  have hi:=T.os_lt e
  obtain⟨t,et⟩:=T.ws j _ _ e (Xah hi)
  exact{_,_,t,e,Xah hi,et}
 cases h:whoM q.B.ws us x with
 | none =>
  refine .inl {O,zkm λj y hy=>?_}
  obtain⟨i,z,t,e1,e2,e3⟩:=at_ j (Xaf.mp hy).1
  rw[e3] at hy
  obtain rfl:=Option.some.inj hy
  rw[zhr T R (b1.rf.f z (Xas e2))]
  have:=XbL.mp h z.2 (XaC.mpr {z,Xas e2,O})
  exact this
 | some i =>
  obtain⟨hi,ha,hb⟩:=Xba.mp h
  rw[Xag] at hi
  rw[Xa8] at ha
  have hz:=Xah hi
  generalize q.B.ws[i]=z at ha hz
  have hm:i∈os:=T.po.mem_iff.mpr (XaU.mpr hi)
  obtain⟨j,hj⟩:=Xbr.mp hm
  obtain⟨t,et⟩:=T.ws j i z hj hz
  refine .inr {i,j,z,t,O,hz,ziK et (λj' y hj' hy=>?_) ?_,et,hj}
  .obtain⟨i',z',t',e1,e2,e3⟩:=at_ j' (Xaf.mp hy).1
   rw[e3] at hy
   obtain rfl:=Option.some.inj hy
   rw[zhr T R (b1.rf.f z' (Xas e2))]
   by_cases hc:ans z'.2 x (hld us)=true
   .exfalso
    have ne:i'≠i:=λe=>by
     rw[e,<- hj] at e1
     have:=(List.getElem?_inj (Xaf.mp (e1.trans hj)).1 T.nd).mp e1
     omega
    have c1:=zkc hc ha
    have c2:=zkc ha hc
    obtain⟨l1,g1⟩:=Xaf.mp e2
    obtain⟨l2,g2⟩:=Xaf.mp hz
    rcases Nat.lt_or_gt_of_ne ne with o|o
    .have:=XaE.mp b1.rf.nc i' i l1 l2 o
     rw[g1,g2] at this
     rw[this.1] at c1
     cases c1
    .have:=XaE.mp b1.rf.nc i i' l2 l1 o
     rw[g1,g2] at this
     rw[this.1] at c2
     cases c2
   .exact eq_false_of_ne_true hc
  .show ans (ren ps z.2) x (hld vs)=true
   rw[zhr T R (b1.rf.f z (Xas hz))]
   exact ha
def Rel.put(T:Trn q r os ps)(R:Rel q ps us vs){c:Nat}{l l':List Nat}(hc:c<q.D.m)(e:l=l'):Rel q ps (wset us c l) (wset vs (ps.idxOf c) l'):=λk hk=>by
 unfold wset
 by_cases h:k=c
 .rw[h,if_pos O,if_pos O,e]
 .rw[if_neg h,if_neg (λz=>h (T.inj hk hc z))]
  exact R k hk
def zmS(T:Trn q r os ps)(R:Rel q ps us vs)(b1:BdAt C q.B q.D X f)(b2:BdAt C r.B r.D X f)(x v:Nat) :
  rdW r.B r.D vs f x=rdW q.B q.D us f x/\Rel q ps (rdU q.B q.D us x) (rdU r.B r.D vs x)/\Rel q ps (wrU q.B q.D us x v) (wrU r.B r.D vs x v):=by
 unfold rdW rdU wrU
 rcases who44 T R b1 b2 x with⟨h1,h2⟩|⟨i,j,z,t,h1,hz,h2,h3,_⟩
 .rw[h1,h2]
  exact⟨O,R,R⟩
 .rw[h1,h2]
  try dsimp only
  rw[hz,h3]
  try dsimp only
  have hc:=(b1.rf.f z (Xas hz)).1
  have e1:(ren ps z.2).c=ps.idxOf z.2.c:=rfl
  have e2:(ren ps z.2).i=z.2.i:=rfl
  have ek:=T.kd _ hc
  rw[e1,e2,ek.1,ek.2,R _ hc]
  exact{O,R.put T hc O,R.put T hc O}
end
def pmD(D:Dt)(ps:List Nat):Dt:={D.m,λi=>D.x (ps.getD i 0),λi=>D.p (ps.getD i 0),λi=>D.kd (ps.getD i 0),λi=>D.n (ps.getD i 0),λi=>D.sz (ps.getD i 0)}
section
variable{ps os:List Nat}{n i j k m:Nat}{D:Dt}{X Y:Hp}{cs:Nat->Addr}{us:Nat->List Nat}{R R2:Addr}{ws ws2:List (Addr×Rw)}
def zcL(pp:ps.Perm (List.range n))(h:i<n):∃h2:i<ps.length,ps.getD i 0=ps[i]/\ps.getD i 0<n:=by
 have h2:i<ps.length:=by rw[pp.length_eq,XaH];exact h
 have e:ps.getD i 0=ps[i]:=by rw[Xbq,Xah h2];rfl
 exact{h2,e,by rw[e];exact XaU.mp (pp.mem_iff.mp (Xbe h2))}
def zfl(pp:ps.Perm (List.range n))(h:k<n):ps.getD (ps.idxOf k) 0=k/\ps.idxOf k<n:=by
 have h2:=List.idxOf_lt_length_of_mem (pp.mem_iff.mpr (XaU.mpr h))
 have h3:ps.idxOf k<n:=by rw[pp.length_eq,XaH] at h2;exact h2
 exact{by rw[(zcL pp h3).2.1];exact List.getElem_idxOf h2,h3}
def pm_inj(pp:ps.Perm (List.range n))(hi:i<n)(hj:j<n)(e:ps.getD i 0=ps.getD j 0):i=j:=by
 obtain⟨h1,e1,_⟩:=zcL pp hi
 obtain⟨h2,e2,_⟩:=zcL pp hj
 rw[e1,e2] at e
 exact(List.getElem_inj (pp.nodup_iff.mpr List.nodup_range)).mp e
def zmn(pp:ps.Perm (List.range D.m))(S:Chs cs D X us):Chs cs (pmD D ps) X (λi=>us (ps.getD i 0)):=
 {λi h=>S.o _ (zcL pp h).2.2,λi h=>S.k _ (zcL pp h).2.2,λi h=>S.h1 _ (zcL pp h).2.2,λi h=>S.z _ (zcL pp h).2.2,λi j hi hj e=>pm_inj pp hi hj (S.inj _ _ (zcL pp hi).2.2 (zcL pp hj).2.2 e),S.m1}
def zmo(pp:ps.Perm (List.range D.m)):chL (pmD D ps)=ps.map λk=>V.ref (D.x k):=by
 have hl:ps.length=D.m:=by rw[pp.length_eq,XaH]
 unfold chL
 apply List.ext_getElem?
 intro i
 rw[Xao,Xao]
 by_cases h:i<D.m
 .rw[XbR (show i<(pmD D ps).m from h),Xah (by omega)]
  show some (V.ref (D.x (ps.getD i 0)))=_
  rw[(zcL pp h).2.1]
  rfl
 .rw[XaG (by rw[XaH];exact Nat.le_of_not_lt h),XaG (by omega)]
  rfl
def zgo{r s:Rw}(pp:ps.Perm (List.range n))(hr:∀c a b,r.l=some (c,a,b)->c<n)(hs:∀c a b,s.l=some (c,a,b)->c<n):za9 (ren ps r) (ren ps s)=za9 r s:=by
 unfold za9 ren latA
 cases e1:r.l with
 | none=>rfl
 | some o =>
  obtain⟨c,a,b⟩:=o
  cases e2:s.l with
  | none=>rfl
  | some o2 =>
   obtain⟨d,y,z⟩:=o2
   show(_&&if ps.idxOf c=ps.idxOf d then agr a b y z else true)=(_&&if c=d then agr a b y z else true)
   by_cases e:c=d
   .rw[e,if_pos O,if_pos O]
   .rw[if_neg e,if_neg (λq=>e (by rw[<- (zfl pp (hr c a b e1)).1,<- (zfl pp (hs d y z e2)).1,q]))]
def pm_rws(pp:ps.Perm (List.range D.m))(hm:D.m<=9)(h:RwsFor D m X R ws)(po:os.Perm (List.range ws.length))(e:Y R2=some (.tup (refs ws2)))(hw:∀z∈ws2,RwAt Y z.1 z.2)(l2:ws2.length=os.length)
  (hat:∀(i k:Nat) (z:Addr×Rw),os[i]?=some k->ws[k]?=some z->∃t,ws2[i]?=some (t,ren ps z.2)):RwsFor (pmD D ps) m Y R2 ws2:=by
 have lo:os.length=ws.length:=by rw[po.length_eq,XaH]
 have at_:∀j,j<ws2.length->∃i z t,os[j]?=some i/\ws[i]?=some z/\ws2[j]?=some (t,ren ps z.2):=λj hj=>by
  rw[l2] at hj
  have e:=Xah hj
  have hi:os[j]<ws.length:=XaU.mp (po.mem_iff.mp (Xbe hj))
  obtain⟨t,et⟩:=hat j _ _ e (Xah hi)
  exact{_,_,t,e,Xah hi,et}
 have of_:∀y∈ws2,∃z∈ws,y.2=ren ps z.2:=λy hy=>by
  obtain⟨j,hj⟩:=Xbr.mp hy
  obtain⟨i,z,t,_,e2,e3⟩:=at_ j (Xaf.mp hj).1
  rw[hj] at e3
  obtain rfl:=Option.some.inj e3
  exact{z,Xas e2,O}
 refine{e,λy hy=>{hw y hy,?_},λy hy=>?_,?_,by rw[l2,lo];exact h.ln}
 .obtain⟨z,hz,ez⟩:=of_ y hy
  have ok:=(h.r z hz).2
  have hf:=h.f z hz
  rw[ez]
  refine{ok.m0,ok.w0,ok.wm,ok.i0,ok.im,Xaj (zfl pp hf.1).2 (Xar hm (by decide)),?_}
  have l0:=ok.l0
  show zm3 (z.2.l.map λx=>(ps.idxOf x.1,x.2))
  cases hl:z.2.l with
  | none=>trivial
  | some o =>
   obtain⟨c,a,b⟩:=o
   rw[hl] at l0
   exact{Xaj (zfl pp (hf.2.2 c a b hl).1).2 (Xar hm (by decide)),l0.2}
 .obtain⟨z,hz,ez⟩:=of_ y hy
  have hf:=h.f z hz
  have hc:=zfl pp hf.1
  rw[ez]
  refine{hc.2,?_,λc a b hl=>?_}
  .show _<=D.sz (ps.getD (ps.idxOf z.2.c) 0)
   rw[hc.1];exact hf.2.1
  .cases hz':z.2.l with
   | none=>rw[show(ren ps z.2).l=z.2.l.map λx=>(ps.idxOf x.1,x.2) from O,hz'] at hl;cases hl
   | some o =>
    obtain⟨c',a',b'⟩:=o
    rw[show(ren ps z.2).l=z.2.l.map λx=>(ps.idxOf x.1,x.2) from O,hz'] at hl
    obtain⟨rfl,rfl,rfl⟩:ps.idxOf c'=c/\a'=a/\b'=b:=by
     have:=Option.some.inj hl
     injection this with h1 h2
     injection h2 with h2 h3
     exact⟨h1,h2,h3⟩
    obtain⟨g1,g2⟩:=hf.2.2 c' a' b' hz'
    have hc':=zfl pp g1
    exact{hc'.2,by show D.kd (ps.getD (ps.idxOf c') 0)=2;rw[hc'.1];exact g2}
 .refine XaE.mpr λi j hi hj hij=>?_
  obtain⟨i',z,t,e1,e2,e3⟩:=at_ i hi
  obtain⟨j',y,u,g1,g2,g3⟩:=at_ j hj
  rw[Xah hi] at e3
  rw[Xah hj] at g3
  rw[Option.some.inj e3,Option.some.inj g3]
  have fz:=h.f z (Xas e2)
  have fy:=h.f y (Xas g2)
  have ne:i'≠j':=λz=>by
   rw[z,<- g1] at e1
   have:=(List.getElem?_inj (by rw[<- l2];exact hi) (po.nodup_iff.mpr List.nodup_range)).mp e1
   omega
  obtain⟨l1,x1⟩:=Xaf.mp e2
  obtain⟨l2,x2⟩:=Xaf.mp g2
  have nc:NC z.2 y.2:=by
   rcases Nat.lt_or_gt_of_ne ne with o|o
   .have:=XaE.mp h.nc i' j' l1 l2 o
    rw[x1,x2] at this
    exact this
   .have:=XaE.mp h.nc j' i' l2 l1 o
    rw[x1,x2] at this
    exact this.symm
  exact{by rw[zgo pp (λc a b e=>(fz.2.2 c a b e).1) (λc a b e=>(fy.2.2 c a b e).1)];exact nc.1,by rw[zgo pp (λc a b e=>(fy.2.2 c a b e).1) (λc a b e=>(fz.2.2 c a b e).1)];exact nc.2}
end
def Lv(X Z:Hp):Prop:=∀a,X a≠none->Z a≠none
def Lv.of{X Z:Hp}(s:Same X Z):Lv X Z:=λa h=>by
 cases e:X a with
 | none=>exact absurd e h
 | some o=>rw[s _ _ e];exactλz=>by cases z
def Ag(hp:Nat->Hp)(k:Nat)(a:Addr):Prop:=hp k a≠none/\∀j,j<k->hp j a=none
def zmH{hp:Nat->Hp}(mono:∀k,Lv (hp k) (hp (k+1))){a:Addr}:∀{d k:Nat},hp k a≠none->hp (k+d) a≠none
 | 0,_,h=>h
 | d+1,k,h=>mono _ _ (zmH mono (d:=d) h)
def Ag.of{hp:Nat->Hp}(mono:∀k,Lv (hp k) (hp (k+1))){k:Nat}{a:Addr}(h1:hp (k+1) a≠none)(h2:hp k a=none):Ag hp (k+1) a:=⟨h1,λj hj=>by
 cases e:hp j a with
 | none=>rfl
 | some o =>
  have:=zmH mono (a:=a) (d:=k-j) (k:=j) (by rw[e];exactλz=>by cases z)
  rw[show j+(k-j)=k by omega,h2] at this
  exact absurd O this⟩
def Ag.ne{hp:Nat->Hp}{k l:Nat}{a b:Addr}(h1:Ag hp k a)(h2:Ag hp l b)(n:k≠l):a≠b:=λz=>by
 rcases Nat.lt_or_gt_of_ne n with o|o
 .exact h1.1 (z▸h2.2 k o)
 .exact h2.1 (z▸h1.2 l o)
structure Age(hp:Nat->Hp)(q:Sk)(d:Nat):Prop where
 b:Ag hp (2+d) q.B.b
 h:Ag hp (4+d) q.h
 p:∀i,i<q.D.m->Ag hp d (q.D.p i)
 L:Ag hp (2+d) q.B.L
 la:Ag hp (2+d) q.B.la
 W:Ag hp (2+d) q.B.W
 x:Ag hp (4+d) q.x
def Age.apt{hp:Nat->Hp}{q r:Sk}{d e:Nat}(h:Age hp q d)(k:Age hp r e)(hd:d % 2≠e % 2)(hx:∀a,q.Mt a->∀i,i<r.D.m->a≠r.D.x i):zln q r:=λa m=>by
 have ha:∃n,Ag hp n a/\n % 2=d % 2:=by
  rcases m with z|z|⟨i,hi,z⟩<;>rw[z]
  .exact{_,h.b,by omega}
  .exact{_,h.h,by omega}
  .exact{_,h.p i hi,O}
 obtain⟨n,ga,hn⟩:=ha
 refine{λm2=>?_,λm2=>?_}
 .rcases m2 with z|z|⟨i,hi,z⟩
  .exact ga.ne k.b (by omega) z
  .exact ga.ne k.h (by omega) z
  .exact ga.ne (k.p i hi) (by omega) z
 .rcases m2 with z|z|z|z|⟨i,hi,z⟩
  .exact ga.ne k.L (by omega) z
  .exact ga.ne k.la (by omega) z
  .exact ga.ne k.W (by omega) z
  .exact ga.ne k.x (by omega) z
  .exact hx a m i hi z
section
variable{C C' CW b W db:Addr}{cs:Nat->Addr}{B B':Bd}{D:Dt}{X Z:Hp}{us:Nat->List Nat}{f g:Nat}{wl:List (Nat×Wa)}{m:List (Key×V)}
def Chs.wt2(S:Chs cs D X us)(e:X b=some (.ins C' db (bdF B' g)))(eW:X W=some (.dK m))(fr:∀a o,a≠b->a≠W->X a=some o->Z a=some o):Chs cs D Z us:=S.kp λi hi o=>by
 obtain⟨dx,ex⟩:=(S.o i hi).ex
 have el:=(S.o i hi).ls
 refine{λq=>fr _ _ (λz=>?_) (λz=>by rw[z,eW] at ex;cases ex) q,λq=>fr _ _ (λz=>by rw[z,e] at el;cases el) (λz=>by rw[z,eW] at el;cases el) q}
 rw[z,e] at ex
 have:=Option.some.inj ex
 injection this with _ _ h3
 unfold bdF at h3
 have h4:=(List.cons.inj h3).1
 exact absurd (congrArg Prod.fst h4) (by show("bits" : Str) ≠ "head"; decide)
def BW.wt2(h:BW C CW B D X f wl)(e:X b=some (.ins C' db (bdF B' g)))(eW:X W=some (.dK m))(n1:B.b≠b)(n2:B.W≠W)(fr:∀a o,a≠b->a≠W->X a=some o->Z a=some o):BW C CW B D Z f wl:=by
 have ls:∀{a:Addr} {l:List V},X a=some (.lst l)->a≠b/\a≠W:=λ{a l} q=>{(λz=>by rw[z,e] at q;cases q),(λz=>by rw[z,eW] at q;cases q)}
 refine h.all (λa ts q=>fr _ _ (λz=>by rw[z,e] at q;cases q) (λz=>by rw[z,eW] at q;cases q) q) λa o ha q=>?_
 rcases ha with rfl|rfl|rfl|rfl|⟨y,hy,rfl|rfl⟩
 .obtain⟨d,eb⟩:=h.b.e
  exact fr _ _ n1 (λz=>by rw[z,eW] at eb;cases eb) q
 .exact fr _ _ (ls h.b.ch).1 (ls h.b.ch).2 q
 .exact fr _ _ (ls h.b.la).1 (ls h.b.la).2 q
 .exact fr _ _ (λz=>by have:=h.w.d;rw[z,e] at this;cases this) n2 q
 .obtain⟨dx,ex⟩:=(h.w.o y hy).e
  refine fr _ _ (λz=>?_) (λz=>by rw[z,eW] at ex;cases ex) q
  rw[z,e] at ex
  exact zkn (HO.ins.inj (Option.some.inj ex)).2.2.symm
 .obtain⟨ts,el,_⟩:=(h.w.o y hy).l
  exact fr _ _ (ls el).1 (ls el).2 q
end
def Lv.wt{X Z:Hp}{b W:Addr}(fr:∀a o,a≠b->a≠W->X a=some o->Z a=some o)(hb:Z b≠none)(hW:Z W≠none):Lv X Z:=λa h=>by
 by_cases e1:a=b
 .rw[e1];exact hb
 .by_cases e2:a=W
  .rw[e2];exact hW
  .cases e:X a with
   | none=>exact absurd e h
   | some o=>rw[fr _ _ e1 e2 e];exactλz=>by cases z
def zaQ{X:Hp}{a:Addr}{o:HO}(e:X a=some o):X a≠none:=λz=>by rw[e] at z;cases z
structure Tw44(C CW:Addr)(cs:Nat->Addr)(q r:Sk)(os ps:List Nat)(CL OL O9 E:Addr)(X:Hp)(f:Nat)(hs:List (Str×Nat×Nat))(us vs:Nat->List Nat):Prop where
 T:Trn q r os ps
 a:Sd C CW cs q X f hs us
 b:Sd C CW cs r X f hs vs
 R:Rel q ps us vs
 eC:X CL=some (.lst (chL q.D))
 eL:X OL=some (.lst ((List.range q.D.m).map λk=>.ref (r.D.x (ps.idxOf k))))
 eo:X O9=some (.lst (vN os))
 eE:X E=some (.lst [.int 0,.int 0])
 n:∀y,y=CL\/y=OL\/y=O9\/y=E->¬ q.Mt y/\¬ r.Mt y
 m1:1<=q.D.m
 m9:q.D.m<=9
section
variable{C CW CL OL O9 E:Addr}{cs:Nat->Addr}{q r:Sk}{os ps:List Nat}{X Z:Hp}{f g:Nat}{hs gs:List (Str×Nat×Nat)}{us vs us' vs':Nat->List Nat}
def Tw44.upd(t:Tw44 C CW cs q r os ps CL OL O9 E X f hs us vs)(sa:Sd C CW cs q Z g gs us')(sb:Sd C CW cs r Z g gs vs')(R:Rel q ps us' vs')(k:∀a o,¬ q.Mt a->¬ r.Mt a->X a=some o->Z a=some o):Tw44 C CW cs q r os ps CL OL O9 E Z g gs us' vs':=
 {t.T,sa,sb,R,k _ _ (t.n _ (.inl O)).1 (t.n _ (.inl O)).2 t.eC,k _ _ (t.n _ (.inr (.inl O))).1 (t.n _ (.inr (.inl O))).2 t.eL,k _ _ (t.n _ (.inr (.inr (.inl O)))).1 (t.n _ (.inr (.inr (.inl O)))).2 t.eo,k _ _ (t.n _ (.inr (.inr (.inr O)))).1 (t.n _ (.inr (.inr (.inr O)))).2 t.eE,t.n,t.m1,t.m9}
def Tw44.same(t:Tw44 C CW cs q r os ps CL OL O9 E X f hs us vs)(s:Same X Z):Tw44 C CW cs q r os ps CL OL O9 E Z f hs us vs:=t.upd (t.a.same s) (t.b.same s) t.R λa o _ _ e=>s _ _ e
def Tw44.new(t:Tw44 C CW cs q r os ps CL OL O9 E X f hs us vs){y:Addr}(h:X y=none):¬ q.Mt y/\¬ r.Mt y:=by
 have g:∀{q:Sk} {us:Nat->List Nat},Sd C CW cs q X f hs us->¬ q.Mt y:=λs m=>by
  obtain⟨db,eb⟩:=s.b.b.e
  obtain⟨ts,eh⟩:=s.h
  rcases m with z|z|⟨i,hi,z⟩
  .rw[z,eb] at h;cases h
  .rw[z,eh] at h;cases h
  .rw[z,(s.S.o i hi).ls] at h;cases h
 exact{g t.a,g t.b}
end
abbrev slaw:Stmt:=top 80
def sclaw:FnScope ["script","row","bits","rows","chips","models","others","order","places","first","second","ears","cell","r","address","word","k","at","told"] ["script"] (zaj slaw):=sck O O O (by decide +kernel)
def s44(a row R CL MB OL O9 PA b1 b2 E:Addr)(m:Nat)(v:List (Option V)):St:=[some (.ref a),some (.ref row),some (.int (m:Int)),some (.ref R),some (.ref CL),some (.ref MB),some (.ref OL),some (.ref O9),some (.ref PA),some (.ref b1),some (.ref b2),some (.ref E)]++v
def zkY{X:Hp}{a b:Addr}{hs:List (Str×Nat×Nat)}(h1:LsAt X a hs)(h2:LsAt X b hs)(hn:hs.length<=1000000):LkS X 2 (.ref a) (.ref b):=by
 obtain⟨ts,e1,e2,e3⟩:=h1
 obtain⟨us,g1,g2,g3⟩:=h2
 refine .seq (t:=false) (SqX.lst e1) (SqX.lst g1) (by rw[Xag,Xag,e2,g2]) (by rw[Xag,e2,sizeLine_eq];omega) λi x y hx hy=>?_
 rw[Xao] at hx hy
 obtain⟨p,hp,rfl⟩:=Xax.mp hx
 obtain⟨q,hq,rfl⟩:=Xax.mp hy
 have hi:i<hs.length:=by rw[<- e2];exact(Xaf.mp hp).1
 have hd:=Xah hi
 have f1:=e3 i p _ hp hd
 have f2:=g3 i q _ hq hd
 refine .seq (t:=true) (SqX.tup f1) (SqX.tup f2) O (by show 3<=sizeLine;decide) λj x y hx hy=>?_
 rw[hx] at hy
 cases hy
 match j,hx with
 | 0,hx=>cases hx;exact .str _
 | 1,hx=>cases hx;exact .int _
 | 2,hx=>cases hx;exact .int _
 | j+3,hx=>cases hx
def zkz{K:W.Frag}{H X:Hp}{a:Addr}{xs:List V}(h:SqL K H a xs)(k:∀o,H a=some o->X a=some o):SqL K X a xs:=by
 rcases h with(h|⟨o,h⟩)|h
 .exact .inl (.inl (k _ h))
 .exact .inl (.inr {o,k _ h})
 .exact .inr h
set_option tactic.hygienic true in
def oklaw{f:Addr}{C CA CT CW:Addr}{cs:Nat->Addr}{fd:FuncData}(F:FunN K "law" slaw f fd)(T:Blt mg)(G_law_draws:Cal P w K mg base 1 "_law_draws" ["cell","count"] spDraws)(G_law_board:Cal P w K mg base 7 "_law_board" ["row"] (spBoard34 cs))(G_law_turned:Cal P w K mg base 1 "_law_turned" ["some","number"] (spTurned44 K))(G_law_renamed:Cal P w K mg base 1 "_law_renamed" ["rows","order","chips"] spRen44)(GMBoard_4:Mak P w K mg base 7 "Board" C [] (dP []) (spInitB C cs))(M_watch:Mth P w K mg base 4 C "watch" [] (dP [.str "both"]) (spWatchC C CW))
  (G_law_address:Cal P w K mg base 1 "_law_address" ["bits","rows","one","other"] spAddr34) (G_law_who_alike:Cal P w K mg base 4 "_law_who_alike" ["one","other","order"] spWhoA) (M_who:Mth P w K mg base 6 C "who" [] (λvs _=>vs) (λvs H Q _=>spWhoX C CA cs vs H Q λ_ _ _=>False)) (G_law_same:Cal P w K mg base 3 "_law_same" ["found","due"] (spSameL 2)) (M_write:Mth P w K mg base 7 C "write" [] (λvs _=>vs) (spWrB C CW cs)) (M_read:Mth P w K mg base 7 C "read" [] (dP [.bl false]) (λvs H Q _=>spRdX C CT CW cs vs H Q λ_ _ _=>False)) (M_read_p:Mth P w K mg base 7 C "read" [] (dP []) (λvs H Q _=>spRdX C CT CW cs vs H Q λ_ _ _=>False)) (M_read_quiet:Mth P w K mg base 7 C "read" ["quiet"] k21 (λvs H Q _=>spRdX C CT CW cs vs H Q λ_ _ _=>False))
  (ML:∀kd,kd<5->Mth P w K mg base 1 (cs kd) "__len__" [] (λvs _=>vs) (spLen (cs kd) (lenK kd))) (MW:∀kd,kd<5->Mth P w K mg base 5 (cs kd) "write" [] (λvs _=>vs) (spW25 cs kd)) (ME:∀kd,kd<5->Mth P w K mg base 1 (cs kd) "__eq__" [] (λvs _=>vs) (spCEq cs kd)) (NE:∀kd,kd<5->NeOk K (cs kd)) (M_floats:Mth P w K mg base 1 C "floats" [] (λvs _=>vs) (spFloats C)) (M_news:Mth P w K mg base 2 C "news" [] (λvs _=>vs) (spNews C CW)):FnOk P w K mg base CX0 10 f fd ["script"] (spLaw K):=by
 refine F.ok sclaw (by walk_at"l") (λcdv A outer s H vs Q E hr h=>?_)
 .obtain⟨a,ns,rfl,hs,hln,_,k⟩:=h
  refine'⟨_,(zab (@ps_L _ _ _ _ _ _ 1 sclaw.nd (@pe_c _ _ _ _ _ _ _ _ _ _ G_law_draws (@zaa _ _ _ _ _ (@pe_x _ _ _ _ _ _ _ zal (@zak _ _ _ _ _ _ _ _ zjm (@pv _ 0 _ _ (by rfl) (by walk_at"o") (by decide) (by decide)) (@zaA _ _ _ _ (@zaa _ _ _ _ _ (@zae _ _ _ _) (@zad _) (by rfl)))) (@zae _ _ _ _) (by exactλ_ _=>O)) (@zaa _ _ _ _ _ (@zae _ _ _ _) (@zad _) (by rfl)) (by rfl)) (by exact hrm (by assumption)) (by rfl) (by decide) (by rfl) (by rfl)) (by rfl) (by exact Or.inl O) (by rfl) (by walk_at"p"))
   (zab (@zbl _ _ _ _ _ _ (@zak _ _ _ _ _ _ _ _ zax (@pe_x _ _ _ _ _ _ _ zal (@pv _ 1 _ _ (by rfl) (by walk_at"o") (by decide) (by decide)) (@zae _ _ _ _) (by exactλ_ _=>O)) (@zae _ _ _ _)) (@zjc _ _ _ _ _ _ _ (@pv _ 1 _ _ (by rfl) (by walk_at"o") (by decide) (by decide)) (@zae _ _ _ _) zfa (by intro _;rfl)) (by rfl) (by rfl) (by rfl))
   (zab (@zbl _ _ _ _ _ _ (@pe_c _ _ _ _ _ _ _ _ _ _ G_law_board (@zaa _ _ _ _ _ (@pv _ 1 _ _ (by rfl) (by walk_at"o") (by decide) (by decide)) (@zad _) (by rfl)) (by exact hrm (by assumption)) (by rfl) (by decide) (by rfl) (by rfl)) (@zba _ _ _ _ _ _ O (@zam _ _ _ _ _ (@pg_L _ _ _ 2 sclaw.nd (by rfl) (by exact Or.inl O) (by walk_at"p")) (@zam _ _ _ _ _ (@pg_L _ _ _ 3 sclaw.nd (by rfl) (by exact Or.inl O) (by walk_at"p")) (@zam _ _ _ _ _ (@pg_L _ _ _ 4 sclaw.nd (by rfl) (by exact Or.inl O) (by walk_at"p")) (@zam _ _ _ _ _ (@pg_L _ _ _ 5 sclaw.nd (by rfl) (by exact Or.inl O) (by walk_at"p")) (@zaP _) (by rfl)) (by rfl)) (by rfl)) (by rfl)) (by rfl) (by rfl)) (by rfl) (by rfl) (by rfl))
   (zab (@zbl _ _ _ _ _ _ (@pe_c _ _ _ _ _ _ _ _ _ _ G_law_board (@zaa _ _ _ _ _ (@pv _ 1 _ _ (by rfl) (by walk_at"o") (by decide) (by decide)) (@zad _) (by rfl)) (by exact hrm (by assumption)) (by rfl) (by decide) (by rfl) (by rfl)) (@zba _ _ _ _ _ _ O (@zam _ _ _ _ _ (@pg_L _ _ _ 2 sclaw.nd (by rfl) (by exact Or.inl O) (by walk_at"p")) (@zam _ _ _ _ _ (@pg_L _ _ _ 3 sclaw.nd (by rfl) (by exact Or.inl O) (by walk_at"p")) (@zam _ _ _ _ _ (@zjd _ _ (6) _ sclaw.nd O (Or.inr O) (by walk_at"p")) (@zam _ _ _ _ _ (@pg_L _ _ _ 5 sclaw.nd (by rfl) (by exact Or.inl O) (by walk_at"p")) (@zaP _) (by rfl)) (by rfl)) (by rfl)) (by rfl)) (by rfl) (by rfl)) (by rfl) (by rfl) (by rfl))
   (zab (@ps_L _ _ _ _ _ _ 7 sclaw.nd (@pe_c _ _ _ _ _ _ _ _ _ _ G_law_turned (@zaa _ _ _ _ _ (@pv _ 3 _ _ (by rfl) (by walk_at"o") (by decide) (by decide)) (@zaa _ _ _ _ _ (@pe_x _ _ _ _ _ _ _ zal (@pv _ 1 _ _ (by rfl) (by walk_at"o") (by decide) (by decide)) (@zae _ _ _ _) (by exactλ_ _=>O)) (@zad _) (by rfl)) (by rfl)) (by exact hrm (by assumption)) (by rfl) (by decide) (by rfl) (by rfl)) (by rfl) (by exact Or.inl O) (by rfl) (by walk_at"p"))
   (zab (@ps_L _ _ _ _ _ _ 8 sclaw.nd (@pe_c _ _ _ _ _ _ _ _ _ _ G_law_turned (@zaa _ _ _ _ _ (@pv _ 4 _ _ (by rfl) (by walk_at"o") (by decide) (by decide)) (@zaa _ _ _ _ _ (@pe_x _ _ _ _ _ _ _ zal (@pv _ 1 _ _ (by rfl) (by walk_at"o") (by decide) (by decide)) (@zae _ _ _ _) (by exactλ_ _=>O)) (@zad _) (by rfl)) (by rfl)) (by exact hrm (by assumption)) (by rfl) (by decide) (by rfl) (by rfl)) (by rfl) (by exact Or.inl O) (by rfl) (by walk_at"p"))
   (zab (@ps_L _ _ _ _ _ _ 9 sclaw.nd (@zdw _ _ _ _ _ _ _ _ _ _ _ GMBoard_4 (hrm hr) O (@zaa _ _ _ _ _ (@pv _ 2 _ _ (by rfl) (by walk_at"o") (by decide) (by decide)) (@zaa _ _ _ _ _ (@pv _ 3 _ _ (by rfl) (by walk_at"o") (by decide) (by decide)) (@zaa _ _ _ _ _ (@pv _ 4 _ _ (by rfl) (by walk_at"o") (by decide) (by decide)) (@zaa _ _ _ _ _ (@zak _ _ _ _ _ _ _ _ zax (@pe_x _ _ _ _ _ _ _ zal (@pv _ 1 _ _ (by rfl) (by walk_at"o") (by decide) (by decide)) (@zae _ _ _ _) (by exactλ_ _=>O)) (@zae _ _ _ _)) (@zad _) (by rfl)) (by rfl)) (by rfl)) (by rfl)) (by decide) (by rfl) (by rfl)) (by rfl) (by exact Or.inl O) (by rfl) (by walk_at"p"))
   (zab (ps_L 10 sclaw.nd (zdw GMBoard_4 (hrm hr) O (zaa (pv 2) (zaa (pe_c G_law_renamed (zaa (pv 3) (zaa (pv 7) (zaa (pv 8) zad)))) (zaa ?c1 (zaa (zak zax (pe_x zal (pv 1) zae) zae) zad))))))
   (zab (@ps_L _ _ _ _ _ _ 11 sclaw.nd (@zaA _ _ _ _ (@zaa _ _ _ _ _ (@zaD _ _ _ _ _ _ _ _ _ _ _ _ _ _ 4 ⟨O,O,O,O,O⟩ (hrm hr) _ (@pv _ 9 _ _ (by rfl) (by walk_at"o") (by decide) (by decide)) (@zaa _ _ _ _ _ (@zae _ _ _ _) (@zaa _ _ _ _ _ (@zae _ _ _ _) (@zad _) (by rfl)) (by rfl)) (by rfl) (by rfl) (by rfl)) (@zaa _ _ _ _ _ (@zaD _ _ _ _ _ _ _ _ _ _ _ _ _ _ 4 ⟨O,O,O,O,O⟩ (hrm hr) _ (@pv _ 10 _ _ (by rfl) (by walk_at"o") (by decide) (by decide)) (@zaa _ _ _ _ _ (@zae _ _ _ _) (@zaa _ _ _ _ _ (@zae _ _ _ _) (@zad _) (by rfl)) (by rfl)) (by rfl) (by rfl) (by rfl)) (@zad _) (by rfl)) (by rfl))) (by rfl) (by exact Or.inl O) (by rfl) (by walk_at"p"))
   (zab (@zbE _ _ _ _ _ _ _ _ PassesOwn.never O (@zcg _ _ _ _ (@zak _ _ _ _ _ _ _ _ zjm (@zaA _ _ _ _ (@zaa _ _ _ _ _ (@zae _ _ _ _) (@zad _) (by rfl))) (@zbF _ _ _ _ _ _ _ _ _ _ zd3 (@pv _ 0 _ _ (by rfl) (by walk_at"o") (by decide) (by decide)) (@zbi _ _ _ (@zae _ _ _ _)) (@zei _)))) (@pg_L _ _ _ 12 sclaw.nd (by rfl) (by exact Or.inl O) (by walk_at"p")) (@zab _ _ _ _ _ (@ps_L _ _ _ _ _ _ 13 sclaw.nd (@pe_c _ _ _ _ _ _ _ _ _ _ G_law_draws (@zaa _ _ _ _ _ (@pv _ 12 _ _ (by rfl) (by walk_at"o") (by decide) (by decide)) (@zaa _ _ _ _ _ (@zae _ _ _ _) (@zad _) (by rfl)) (by rfl)) (by exact hrm (by assumption)) (by rfl) (by decide) (by rfl) (by rfl)) (by rfl) (by exact Or.inl O) (by rfl) (by walk_at"p")) (@zab _ _ _ _ _ (@ps_L _ _ _ _ _ _ 14 sclaw.nd (@pe_c _ _ _ _ _ _ _ _ _ _ G_law_address (@zaa _ _ _ _ _ (@pv _ 2 _ _ (by rfl) (by walk_at"o") (by decide) (by decide)) (@zaa _ _ _ _ _ (@pv _ 3 _ _ (by rfl) (by walk_at"o") (by decide) (by decide)) (@zaa _ _ _ _ _ (@pe_x _ _ _ _ _ _ _ zal (@pv _ 13 _ _ (by rfl) (by walk_at"o") (by decide) (by decide)) (@zae _ _ _ _) (by exactλ_ _=>O)) (@zaa _ _ _ _ _ (@pe_x _ _ _ _ _ _ _ zal (@pv _ 13 _ _ (by rfl) (by walk_at"o") (by decide) (by decide)) (@zae _ _ _ _) (by exactλ_ _=>O)) (@zad _) (by rfl)) (by rfl)) (by rfl)) (by rfl)) (by exact hrm (by assumption)) (by rfl) (by decide) (by rfl) (by rfl)) (by rfl) (by exact Or.inl O) (by rfl) (by walk_at"p")) (@zab _ _ _ _ _ (@ps_L _ _ _ _ _ _ 15 sclaw.nd (@zak _ _ _ _ _ _ _ _ zax (@pe_x _ _ _ _ _ _ _ zal (@pv _ 13 _ _ (by rfl) (by walk_at"o") (by decide) (by decide)) (@zae _ _ _ _) (by exactλ_ _=>O)) (@zae _ _ _ _)) (by rfl) (by exact Or.inl O) (by rfl) (by walk_at"p")) (@zab _ _ _ _ _ (@zaB _ _ _ _ _ _ _ _ (@zaO _ _ _ _ (@zaG _ _ _ (@pe_c _ _ _ _ _ _ _ _ _ _ G_law_who_alike (@zaa _ _ _ _ _ (@zaD _ _ _ _ _ _ _ _ _ _ _ _ _ _ 6 ⟨O,O,O,O,O⟩ (hrm hr) _ (@pv _ 9 _ _ (by rfl) (by walk_at"o") (by decide) (by decide)) (@zaa _ _ _ _ _ (@pv _ 14 _ _ (by rfl) (by walk_at"o") (by decide) (by decide)) (@zad _) (by rfl)) (by rfl) (by rfl) (by rfl)) (@zaa _ _ _ _ _ (@zaD _ _ _ _ _ _ _ _ _ _ _ _ _ _ 6 ⟨O,O,O,O,O⟩ (hrm hr) _ (@pv _ 10 _ _ (by rfl) (by walk_at"o") (by decide) (by decide)) (@zaa _ _ _ _ _ (@pv _ 14 _ _ (by rfl) (by walk_at"o") (by decide) (by decide)) (@zad _) (by rfl)) (by rfl) (by rfl) (by rfl)) (@zaa _ _ _ _ _ (@pv _ 7 _ _ (by rfl) (by walk_at"o") (by decide) (by decide)) (@zad _) (by rfl)) (by rfl)) (by rfl)) (by exact hrm (by assumption)) (by rfl) (by decide) (by rfl) (by rfl)) (by intro _;rfl))) (@zaf _ _ _ (@zap _ _ _ _ (@zcX _ _ _ _))) (@zaq _)) (@zab _ _ _ _ _ (@zaB _ _ _ _ _ _ _ _ (@zas _ _ _ _ _ _ _ _ zbf (@zak _ _ _ _ _ _ _ _ zax (@pe_x _ _ _ _ _ _ _ zal (@pv _ 13 _ _ (by rfl) (by walk_at"o") (by decide) (by decide)) (@zae _ _ _ _) (by exactλ_ _=>O)) (@zae _ _ _ _)) (@zae _ _ _ _) (zav _)) (@zab _ _ _ _ _ (@zau _ _ _ _ (@zaD _ _ _ _ _ _ _ _ _ _ _ _ _ _ 7 ⟨O,O,O,O,O⟩ (hrm hr) _ (@pv _ 9 _ _ (by rfl) (by walk_at"o") (by decide) (by decide)) (@zaa _ _ _ _ _ (@pv _ 14 _ _ (by rfl) (by walk_at"o") (by decide) (by decide)) (@zaa _ _ _ _ _ (@pv _ 15 _ _ (by rfl) (by walk_at"o") (by decide) (by decide)) (@zad _) (by rfl)) (by rfl)) (by rfl) (by rfl) (by rfl)) (by rfl)) (@zaf _ _ _ (@zau _ _ _ _ (@zaD _ _ _ _ _ _ _ _ _ _ _ _ _ _ 7 ⟨O,O,O,O,O⟩ (hrm hr) _ (@pv _ 10 _ _ (by rfl) (by walk_at"o") (by decide) (by decide)) (@zaa _ _ _ _ _ (@pv _ 14 _ _ (by rfl) (by walk_at"o") (by decide) (by decide)) (@zaa _ _ _ _ _ (@pv _ 15 _ _ (by rfl) (by walk_at"o") (by decide) (by decide)) (@zad _) (by rfl)) (by rfl)) (by rfl) (by rfl) (by rfl)) (by rfl)))) (@zaf _ _ _ (@zaB _ _ _ _ _ _ _ _ (@PW.pt _ _ _ (@zhz _ _ _ _ _ _ _ (@zas _ _ _ _ _ _ _ _ zbf (@zak _ _ _ _ _ _ _ _ zax (@pe_x _ _ _ _ _ _ _ zal (@pv _ 13 _ _ (by rfl) (by walk_at"o") (by decide) (by decide)) (@zae _ _ _ _) (by exactλ_ _=>O)) (@zae _ _ _ _)) (@zae _ _ _ _) (zav _)) (@zfj _ _ _ _ (@zaO _ _ _ _ (@zaG _ _ _ (@pe_c _ _ _ _ _ _ _ _ _ _ G_law_same (@zaa _ _ _ _ _ (@zaD _ _ _ _ _ _ _ _ _ _ _ _ _ _ 7 ⟨O,O,O,O,O⟩ (hrm hr) _ (@pv _ 10 _ _ (by rfl) (by walk_at"o") (by decide) (by decide)) (@zaa _ _ _ _ _ (@pv _ 14 _ _ (by rfl) (by walk_at"o") (by decide) (by decide)) (@zad _) (by rfl)) (by rfl) (by rfl) (by rfl)) (@zaa _ _ _ _ _ (@zaD _ _ _ _ _ _ _ _ _ _ _ _ _ _ 7 ⟨O,O,O,O,O⟩ (hrm hr) _ (@pv _ 9 _ _ (by rfl) (by walk_at"o") (by decide) (by decide)) (@zaa _ _ _ _ _ (@pv _ 14 _ _ (by rfl) (by walk_at"o") (by decide) (by decide)) (@zad _) (by rfl)) (by rfl) (by rfl) (by rfl)) (@zad _) (by rfl)) (by rfl)) (by exact hrm (by assumption)) (by rfl) (by decide) (by rfl) (by rfl)) (by intro _;rfl)))))) (@zaf _ _ _ (@zap _ _ _ _ (@zcX _ _ _ _))) (@zaf _ _ _ (@zaB _ _ _ _ _ _ _ _ (@zas _ _ _ _ _ _ _ _ zbf (@zak _ _ _ _ _ _ _ _ zax (@pe_x _ _ _ _ _ _ _ zal (@pv _ 13 _ _ (by rfl) (by walk_at"o") (by decide) (by decide)) (@zae _ _ _ _) (by exactλ_ _=>O)) (@zae _ _ _ _)) (@zae _ _ _ _) (zav _)) (@zaf _ _ _ (@zaB _ _ _ _ _ _ _ _ (@zaO _ _ _ _ (@zaG _ _ _ (@pe_c _ _ _ _ _ _ _ _ _ _ G_law_same (@zaa _ _ _ _ _ (@zaD _ _ _ _ _ _ _ _ _ _ _ _ _ _ 7 ⟨O,O,O,O,O⟩ (hrm hr) _ (@pv _ 10 _ _ (by rfl) (by walk_at"o") (by decide) (by decide)) (@zaa _ _ _ _ _ (@pv _ 14 _ _ (by rfl) (by walk_at"o") (by decide) (by decide)) (@zaa _ _ _ _ _ (@zcX _ _ _ _) (@zad _) (by rfl)) (by rfl)) (by rfl) (by rfl) (by rfl)) (@zaa _ _ _ _ _ (@zkM _ _ _ _ _ _ _ _ _ _ _ _ _ _ _ _ _ 7 ⟨O,O,O,O,O⟩ (hrm hr) _ (@pv _ 9 _ _ (by rfl) (by walk_at"o") (by decide) (by decide)) (@zaa _ _ _ _ _ (@pv _ 14 _ _ (by rfl) (by walk_at"o") (by decide) (by decide)) (@zad _) (by rfl)) (@zmp _ _ _ _ _ _ _ (@zcX _ _ _ _) (@pk_nil _)) (by rfl) (by rfl) (by rfl) (by rfl) (by rfl)) (@zad _) (by rfl)) (by rfl)) (by exact hrm (by assumption)) (by rfl) (by decide) (by rfl) (by rfl)) (by intro _;rfl))) (@zaf _ _ _ (@zap _ _ _ _ (@zcX _ _ _ _))) (@zaq _))) (@zaf _ _ _ (@zaB _ _ _ _ _ _ _ _ (@zas _ _ _ _ _ _ _ _ zbf (@zak _ _ _ _ _ _ _ _ zax (@pe_x _ _ _ _ _ _ _ zal (@pv _ 13 _ _ (by rfl) (by walk_at"o") (by decide) (by decide)) (@zae _ _ _ _) (by exactλ_ _=>O)) (@zae _ _ _ _)) (@zae _ _ _ _) (zav _)) (@zab _ _ _ _ _ (@ps_L _ _ _ _ _ _ 16 sclaw.nd (@zak _ _ _ _ _ _ _ _ zax (@pe_x _ _ _ _ _ _ _ zal (@pv _ 13 _ _ (by rfl) (by walk_at"o") (by decide) (by decide)) (@zae _ _ _ _) (by exactλ_ _=>O)) (@zao _ _ _ _ _ _ _ _ _ zar (by rfl) T.len PySem.boot_len (@zaa _ _ _ _ _ (@pv _ 4 _ _ (by rfl) (by walk_at"o") (by decide) (by decide)) (@zad _) (by rfl)) (by decide) (by decide) (by rfl) (by rfl))) (by rfl) (by exact Or.inl O) (by rfl) (by walk_at"p")) (@zab _ _ _ _ _ (@ps_L _ _ _ _ _ _ 17 sclaw.nd (@zak _ _ _ _ _ _ _ _ zax (@pe_x _ _ _ _ _ _ _ zal (@pv _ 13 _ _ (by rfl) (by walk_at"o") (by decide) (by decide)) (@zae _ _ _ _) (by exactλ_ _=>O)) (@zgX _ _ _ _ _ _ _ _ _ _ 1 ⟨O,O,O,O,O⟩ (hrm hr) O T.len (@pe_x _ _ _ _ _ _ _ zal (@pv _ 4 _ _ (by rfl) (by walk_at"o") (by decide) (by decide)) (@pv _ 16 _ _ (by rfl) (by walk_at"o") (by decide) (by decide)) (by exactλ_ _=>O)) (by rfl))) (by rfl) (by exact Or.inl O) (by rfl) (by walk_at"p")) (@zab _ _ _ _ _ (@zau _ _ _ _ (@zaD _ _ _ _ _ _ _ _ _ _ _ _ _ _ 7 ⟨O,O,O,O,O⟩ (hrm hr) _ (@pe_x _ _ _ _ _ _ _ zal (@pv _ 4 _ _ (by rfl) (by walk_at"o") (by decide) (by decide)) (@pv _ 16 _ _ (by rfl) (by walk_at"o") (by decide) (by decide)) (by exactλ_ _=>O)) (@zaa _ _ _ _ _ (@pv _ 17 _ _ (by rfl) (by walk_at"o") (by decide) (by decide)) (@zaa _ _ _ _ _ (@pv _ 15 _ _ (by rfl) (by walk_at"o") (by decide) (by decide)) (@zad _) (by rfl)) (by rfl)) (by rfl) (by rfl) (by rfl)) (by rfl)) (@zaf _ _ _ (@zau _ _ _ _ (@zaD _ _ _ _ _ _ _ _ _ _ _ _ _ _ 7 ⟨O,O,O,O,O⟩ (hrm hr) _ (@pe_x _ _ _ _ _ _ _ zal (@pv _ 6 _ _ (by rfl) (by walk_at"o") (by decide) (by decide)) (@pv _ 16 _ _ (by rfl) (by walk_at"o") (by decide) (by decide)) (by exactλ_ _=>O)) (@zaa _ _ _ _ _ (@pv _ 17 _ _ (by rfl) (by walk_at"o") (by decide) (by decide)) (@zaa _ _ _ _ _ (@pv _ 15 _ _ (by rfl) (by walk_at"o") (by decide) (by decide)) (@zad _) (by rfl)) (by rfl)) (by rfl) (by rfl) (by rfl)) (by rfl)))))) (@zaq _)))))))) (@zab _ _ _ _ _ (@zaB _ _ _ _ _ _ _ _ (@zaO _ _ _ _ (@zaG _ _ _ (@pe_c _ _ _ _ _ _ _ _ _ _ G_law_same (@zaa _ _ _ _ _ (@zjg _ _ _ _ _ _ _ _ _ _ _ 1 ⟨O,O,O,O,O⟩ (hrm hr) _ (@pv _ 10 _ _ (by rfl) (by walk_at"o") (by decide) (by decide)) (by rfl)) (@zaa _ _ _ _ _ (@zjg _ _ _ _ _ _ _ _ _ _ _ 1 ⟨O,O,O,O,O⟩ (hrm hr) _ (@pv _ 9 _ _ (by rfl) (by walk_at"o") (by decide) (by decide)) (by rfl)) (@zad _) (by rfl)) (by rfl)) (by exact hrm (by assumption)) (by rfl) (by decide) (by rfl) (by rfl)) (by intro _;rfl))) (@zaf _ _ _ (@zap _ _ _ _ (@zcX _ _ _ _))) (@zaq _)) (@zaf _ _ _ (@zbE _ _ _ _ _ _ _ _ PassesOwn.never O (@zcf _ _ _ _ _ _ O T.range (@zaa _ _ _ _ _ (@zao _ _ _ _ _ _ _ _ _ zar (by rfl) T.len PySem.boot_len (@zaa _ _ _ _ _ (@pv _ 4 _ _ (by rfl) (by walk_at"o") (by decide) (by decide)) (@zad _) (by rfl)) (by decide) (by decide) (by rfl) (by rfl)) (@zad _) (by rfl)) (by rfl)) (@pg_L _ _ _ 16 sclaw.nd (by rfl) (by exact Or.inl O) (by walk_at"p")) (@zaf _ _ _ (@zaB _ _ _ _ _ _ _ _ (@PW.pt _ _ _ (@zbX _ _ _ _ _ _ _ (@zaO _ _ _ _ (@zas _ _ _ _ _ _ _ _ (zmz 1 ⟨O,O,O,O,O⟩ (hrm hr)) (@pe_x _ _ _ _ _ _ _ zal (@pv _ 4 _ _ (by rfl) (by walk_at"o") (by decide) (by decide)) (@pv _ 16 _ _ (by rfl) (by walk_at"o") (by decide) (by decide)) (by exactλ_ _=>O)) (@pe_x _ _ _ _ _ _ _ zal (@pv _ 6 _ _ (by rfl) (by walk_at"o") (by decide) (by decide)) (@pv _ 16 _ _ (by rfl) (by walk_at"o") (by decide) (by decide)) (by exactλ_ _=>O)) (zav _))) (@zby _ _ _ _ (@zas _ _ _ _ _ _ _ _ (zmx 1 ⟨O,O,O,O,O⟩ (hrm hr)) (@pe_x _ _ _ _ _ _ _ zal (@pv _ 4 _ _ (by rfl) (by walk_at"o") (by decide) (by decide)) (@pv _ 16 _ _ (by rfl) (by walk_at"o") (by decide) (by decide)) (by exactλ_ _=>O)) (@pe_x _ _ _ _ _ _ _ zal (@pv _ 6 _ _ (by rfl) (by walk_at"o") (by decide) (by decide)) (@pv _ 16 _ _ (by rfl) (by walk_at"o") (by decide) (by decide)) (by exactλ_ _=>O)) (zav _))))) (@zaf _ _ _ (@zap _ _ _ _ (@zcX _ _ _ _))) (@zaq _))) (by intro _;rfl))))))))) (by intro _;rfl))
   (zab (@ps_L _ _ _ _ _ _ 18 sclaw.nd (@zaD _ _ _ _ _ _ _ _ _ _ _ _ _ _ 2 ⟨O,O,O,O,O⟩ (hrm hr) _ (@pv _ 9 _ _ (by rfl) (by walk_at"o") (by decide) (by decide)) (@zaa _ _ _ _ _ (@pe_x _ _ _ _ _ _ _ zal (@pv _ 11 _ _ (by rfl) (by walk_at"o") (by decide) (by decide)) (@zae _ _ _ _) (by exactλ_ _=>O)) (@zad _) (by rfl)) (by rfl) (by rfl) (by rfl)) (by rfl) (by exact Or.inl O) (by rfl) (by walk_at"p"))
   (zaf (@zap _ _ _ _ (@zbb _ _ _ _ _ _ _ (@zao _ _ _ _ _ _ _ _ _ (zaI "list" (K:=K) O) (by rfl) T.isinstance za5 (@zaa _ _ _ _ _ (@pv _ 18 _ _ (by rfl) (by walk_at"o") (by decide) (by decide)) (@zaa _ _ _ _ _ (@zaT _ _ _ _ _ O T.list zcQ zfg (by decide) (by decide)) (@zad _) (by rfl)) (by rfl)) (by decide) (by decide) (by rfl) (by rfl)) (@zbm _ _ _ _ _ (@pe_c _ _ _ _ _ _ _ _ _ _ G_law_same (@zaa _ _ _ _ _ (@zaD _ _ _ _ _ _ _ _ _ _ _ _ _ _ 2 ⟨O,O,O,O,O⟩ (hrm hr) _ (@pv _ 10 _ _ (by rfl) (by walk_at"o") (by decide) (by decide)) (@zaa _ _ _ _ _ (@pe_x _ _ _ _ _ _ _ zal (@pv _ 11 _ _ (by rfl) (by walk_at"o") (by decide) (by decide)) (@zae _ _ _ _) (by exactλ_ _=>O)) (@zad _) (by rfl)) (by rfl) (by rfl) (by rfl)) (@zaa _ _ _ _ _ (@pv _ 18 _ _ (by rfl) (by walk_at"o") (by decide) (by decide)) (@zad _) (by rfl)) (by rfl)) (by exact hrm (by assumption)) (by rfl) (by decide) (by rfl) (by rfl))))))))))))))))),?rd⟩
  (case c1=>exact(zdn (Nc:=["k","others"]) [none,some 6] O (zaZ (by rfl)) (zcg (pv 8)) (λ_ _ _ _ _=>(pg_L 0 (show(["k","others"]:List Str).Nodup by decide +kernel))) (λ_ _ _ _ _=>zeR) (λ_ _ _ _ _=>(pe_x (zdU (K:=K) O) (pv 1) (pv 0)))))
  obtain⟨c0,hh⟩:∃c0:Int,atI (ns.map V.int++[V.int 0]) 0=some (.int c0):=by
   cases ns with
   | nil=>exact{0,O}
   | cons c l=>exact{c,(zaF (j:=0) O:atI _ ((0:Nat):Int)=_)}
  refine{_,O,by show 1<=sizeLine;decide,λq1 hq1=>{a,q1,_,_,O,O,(zag hq1).seq hs,SqL.of zac,by rw[Xag,sizeLine_eq];simp;omega,λq2 hq2=>{q2,_,_,_,O,O,SqL.of zac,hh,?_}}}
  refine{c0,80,O,by decide,λrow H1 vals hrow er hlen hv s1=>?_}
  have sH1:=((zag (o:=.lst [V.int 0]) hq1).trans (zag (o:=.lst (ns.map V.int++[V.int 0])) hq2)).trans s1
  have hrow0:H row=none:=((zag (o:=.lst [V.int 0]) hq1).trans (zag (o:=.lst (ns.map V.int++[V.int 0])) hq2)).free hrow
  clear hq1 hq2 s1 hrow hh
  obtain⟨dv,hdv⟩:=drw (row:=vals) 80 (by omega) hv
  have y1:atI (vN vals) 1=some (.int (dv 1:Int)):=(hdv 1 (by decide)).1
  try dsimp only[zaY,List.set]
  refine{_,O,row,_,_,_,O,O,SqL.of er,y1,_,_,O,O,(show(0:Int)<63 by decide),_,O,row,_,_,1,O,O,er,zjE (c:=1) (by rw[zan];omega),?_}
  have eS:upd H1 row (.lst ((vN vals).set 1 (.int ((dv 1:Int) % 63)))) row=some (.lst (vN (vals.set 1 (dv 1 % 63)))):=by rw[zac,show(dv 1:Int) % 63=((dv 1 % 63:Nat):Int) by omega,zlp]
  have sH:Same H (upd H1 row (.lst ((vN vals).set 1 (.int ((dv 1:Int) % 63))))):=λb o e=>by rw[zah (zai e hrow0)];exact sH1 _ _ e
  have hl2:(vals.set 1 (dv 1 % 63)).length=80:=by rw[XbD];exact hlen
  have hv2:∀v∈vals.set 1 (dv 1 % 63),v<2 ^ 31:=λv h=>by
   rcases List.mem_or_eq_of_mem_set h with z|z
   .exact hv v z
   .have:(63:Nat)<2 ^ 31:=by decide
    omega
  have h63:∀v,(vals.set 1 (dv 1 % 63))[1]?=some v->v<63:=λv h=>by
   rw[List.getElem?_set_self (by omega)] at h
   have:=Option.some.inj h
   omega
  generalize upd H1 row (.lst ((vN vals).set 1 (.int ((dv 1:Int) % 63))))=X0 at eS sH ⊢
  generalize vals.set 1 (dv 1 % 63)=val at eS hl2 hv2 h63
  clear sH1 er hlen hv hdv y1 hrow0
  try dsimp only[zaY,List.set]
  refine{_,O,row,val,O,eS,hl2,hv2,h63,λt1 R1 CL ML1 m1 cl1 ws1 X1 et1 bo1 kb1=>{t1,_,O,SqT.of et1,O,_,_,O,_,_,O,_,_,O,_,_,O,O,?_}}
  try dsimp only[zaY,List.set]
  have e1:=bo1.s _ _ eS
  refine{_,O,row,val,O,e1,hl2,hv2,h63,λt2 R OL MB m cl2 ws X2 et2 bo2 kb2=>{t2,_,O,SqT.of et2,O,_,_,O,_,_,O,_,_,O,_,_,O,O,?_}}
  try dsimp only[zaY,List.set]
  have e2:=bo2.s _ _ e1
  obtain⟨dw,hdw⟩:=drw (row:=val) 80 (by omega) hv2
  have y76:atI (vN val) 76=some (.int (dw 76:Int)):=(hdw 76 (by decide)).1
  have y78:atI (vN val) 78=some (.int (dw 78:Int)):=(hdw 78 (by decide)).1
  have y79:atI (vN val) 79=some (.int (dw 79:Int)):=(hdw 79 (by decide)).1
  have l6:=bo2.l6
  have hsH2:Same H X2:=sH.trans (bo1.s.trans bo2.s)
  have d1:(dtC cl1).m=(dtC cl2).m:=(keyB kb1 kb2).1
  have dk:∀i,i<(dtC cl1).m->(dtC cl1).kd i=(dtC cl2).kd i/\(dtC cl1).n i=(dtC cl2).n i/\usC cl1 i=usC cl2 i:=λi hi=>(keyB kb1 kb2).2 i _ _ (zbg hi).2 (zbg (d1▸hi:i<(dtC cl2).m)).2
  refine{_,O,_,O,row,_,_,_,O,O,SqL.of e2,y78,R,refs ws,dw 78,O,.inr (SqT.of bo2.rf.e),by rw[zaw];omega,(hdw 78 (by decide)).2,λO9 os X3 hO eO po s3=>?_}
  rw[zaw] at po
  try dsimp only[zaY,List.set]
  refine{_,O,_,O,row,_,_,_,O,O,SqL.of (s3 _ _ e2),y79,CL,cl1.map (λc=>V.ref c.x),dw 79,O,.inl (SqL.of (s3 _ _ (bo2.s _ _ bo1.eC))),by rw[Xag];exact Xar bo1.c9 (by decide),(hdw 79 (by decide)).2,λPA ps X4 hP eP pp s4=>?_}
  rw[Xag] at pp
  replace pp:ps.Perm (List.range (dtC cl1).m):=pp
  try dsimp only[zaY,List.set]
  have s24:=s3.trans s4
  have e4:=s24 _ _ e2
  have hfl:dw 76 % 256<=255:=by omega
  have e76:(dw 76:Int) % 256=((dw 76 % 256:Nat):Int):=by omega
  generalize dw 76 % 256=fl at hfl e76
  have rf1:RwsFor (dtC cl1) m X4 R ws:=by
   have r2:=bo2.rf.same s24
   refine{r2.e,r2.r,λz hz=>?_,r2.nc,r2.ln}
   obtain⟨g1,g2,g3⟩:=r2.f z hz
   have g1':z.2.c<(dtC cl1).m:=by rw[d1];exact g1
   obtain⟨k1,k2,k3⟩:=dk _ g1'
   refine{g1',?_,λc a b hl=>?_}
   .show _<=ksize ((dtC cl1).kd z.2.c) (usC cl1 z.2.c)
    rw[k1,k3]
    exact g2
   .obtain⟨h1,h2⟩:=g3 c a b hl
    have h1':c<(dtC cl1).m:=by rw[d1];exact h1
    exact{h1',by rw[(dk c h1').1];exact h2}
  refine{_,O,_,O,_,O,_,O,row,_,_,_,O,O,SqL.of e4,y76,_,_,O,O,(show(0:Int)<256 by decide),λb db hb hdb _=>?_}
  have sB:Same X4 (upd (upd X4 db (.own b)) b (.ins C db [])):=λx o e=>zgT hb hdb x o e
  have S14:Chs cs (dtC cl1) X4 (usC cl1):=(bo1.C.chs (Xar bo1.c9 (by decide))).same (bo2.s.trans s24)
  have S24:Chs cs (dtC cl2) X4 (usC cl2):=(bo2.C.chs (Xar bo2.c9 (by decide))).same s24
  refine{b,db,R,CL,m,fl,dtC cl1,usC cl1,ws,congrArg (λz=>[V.ref b,V.int (m:Int),V.ref R,V.ref CL,V.int z]) e76,zac,bo2.m1,bo2.m2,hfl,rf1.same sB,by rw[zj4];exact sB _ _ (s24 _ _ (bo2.s _ _ bo1.eC)),S14.same sB,λB1 X5 g1 g2 g3 g4 hBL hBla hBW enw eW hBd fr=>{O,?_}}
  subst g1 g2 g3 g4
  have s45:Same X4 X5:=λx o e=>fr x o (zai e hb) (sB _ _ e)
  try dsimp only[zaY,List.set]
  have m9:(dtC cl2).m<=9:=bo2.c9
  have pp2:ps.Perm (List.range (dtC cl2).m):=d1▸pp
  have r5:=bo2.rf.same (s24.trans s45)
  refine{_,O,_,O,_,O,_,O,B1.R,O9,PA,B1.ws,os,ps,(dtC cl2).m,O,r5.e,(λz hz=>(r5.r z hz).1),(s4.trans s45) _ _ eO,s45 _ _ eP,po,pp2,by omega,by omega,(λz hz=>{(r5.f z hz).1,λc a b e=>((r5.f z hz).2.2 c a b e).1}),λR2 ws2 X6 hR2 eR2 hw2 l2 hat s6=>?_}
  have s46:=s45.trans s6
  have eP6:=s46 _ _ eP
  have eOL6:=s46 _ _ (s24 _ _ bo2.eC)
  refine{_,O,PA,O,{_,SqL.of eP6},?_}
  refine zeB (K:=K) (xs:=vN ps) (λj ys U U9=>∃v0,U=[v0,some (.ref OL)]/\ys=(ps.take j).map (λk=>V.ref ((dtC cl2).x k))/\Same X6 U9) (by rw[zan,pp2.length_eq,XaH,sizeLine_eq];omega) {none,O,O,Same.refl _} ?_ ?_ ?_
  .rintro j ys U U9 _ ⟨_,rfl,rfl,sU⟩
   exact{SqL.of (sU _ _ eP6),by rw[Xag,Xa6];omega}
  .rintro j x ys U U9 hx ⟨v0,rfl,rfl,sU⟩
   unfold vN at hx
   rw[Xao] at hx
   obtain⟨kk,hk,rfl⟩:=Xax.mp hx
   have hkl:kk<cl2.length:=XaU.mp (pp2.mem_iff.mp (Xas hk))
   refine{_,O,_,O,OL,_,_,_,O,O,SqL.of (sU _ _ eOL6),zaF (by rw[Xao,(zbg hkl).2];rfl),_,O,?_,sU}
   rw[List.take_add_one,XaD,hk]
   rfl
  .rintro ys U U9 ⟨v0,rfl,rfl,sU⟩ Dc hDc
   rw[zan,List.take_length,<- zmo pp2]
   have sD:=sU.trans (zag (o:=.lst (chL (pmD (dtC cl2) ps))) hDc)
   have eD:upd U9 Dc (.lst (chL (pmD (dtC cl2) ps))) Dc=some (.lst (chL (pmD (dtC cl2) ps))):=zac
   generalize upd U9 Dc (.lst (chL (pmD (dtC cl2) ps)))=Y6 at sD eD ⊢
   have s56:=s6.trans sD
   have s4Y:=s45.trans s56
   refine{_,O,row,_,_,_,O,O,SqL.of (s4Y _ _ e4),y76,_,_,O,O,(show(0:Int)<256 by decide),λb2 db2 hb2 hdb2 _=>?_}
   have sB2:Same Y6 (upd (upd Y6 db2 (.own b2)) b2 (.ins C db2 [])):=λx o e=>zgT hb2 hdb2 x o e
   have S2Y:Chs cs (pmD (dtC cl2) ps) Y6 (λi=>usC cl2 (ps.getD i 0)):=zmn pp2 (S24.same s4Y)
   refine{b2,db2,R2,Dc,B1.bits,fl,pmD (dtC cl2) ps,λi=>usC cl2 (ps.getD i 0),ws2,congrArg (λz=>[V.ref b2,V.int (B1.bits:Int),V.ref R2,V.ref Dc,V.int z]) e76,zac,bo2.m1,bo2.m2,hfl,pm_rws pp2 m9 bo2.rf po ((sD.trans sB2) _ _ eR2) (λz hz=>(hw2 z hz).same (sD.trans sB2)) l2 hat,sB2 _ _ eD,S2Y.same sB2,λB2 X7 g1 g2 g3 g4 hBL2 hBla2 hBW2 enw2 eW2 hBd2 fr2=>{O,?_}}
   subst g1 g3 g4
   have s67:Same Y6 X7:=λx o e=>fr2 x o (zai e hb2) (sB2 _ _ e)
   have sX7:Same X2 X7:=s24.trans (s4Y.trans s67)
   have s57:Same X5 X7:=s56.trans s67
   have p0:0<2 ^ B1.bits:=Xbo _
   have p02:0<2 ^ B2.bits:=Xbo _
   have bw1:BW C CW B1 (dtC cl1) X7 fl []:={hBd.same s57,{s57 _ _ eW,λz hz=>(by cases hz),Xbg,Xbg,Nat.zero_le _},λz hz=>(by cases hz)}
   have bw2:BW C CW B2 (pmD (dtC cl2) ps) X7 fl []:={hBd2,{eW2,λz hz=>(by cases hz),Xbg,Xbg,Nat.zero_le _},λz hz=>(by cases hz)}
   have S17:=S14.same (s4Y.trans s67)
   have S27:=S2Y.same s67
   obtain⟨db7,eb7⟩:=bw1.b.e
   obtain⟨dc7,ec7⟩:=bw2.b.e
   refine{_,O,B1.b,C,db7,_,_,_,O,eb7,M_watch,O,B1,dtC cl1,fl,0,0,"both",[],O,bw1,p0,p0,.inr (.inr O),(λz hz=>by cases hz),by decide,(λi hi z=>by rw[(S17.o i hi).ls] at z;cases z),λx1 h1 X8 hx1 hh1 b1 fr8=>?_}
   have nbb:B2.b≠B1.b:=Ne.symm (zai ((s56 _ _ (hBd.e.choose_spec))) hb2)
   have nWW:B2.W≠B1.W:=Ne.symm (zai ((s56.trans sB2) _ _ eW) hBW2)
   have bw2':=bw2.wt2 eb7 bw1.w.d nbb nWW fr8
   have S18:=S17.wt2 eb7 bw1.w.d fr8
   have S28:=S27.wt2 eb7 bw1.w.d fr8
   obtain⟨dc8,ec8⟩:=bw2'.b.e
   obtain⟨db8,eb8⟩:=b1.b.e
   refine{_,O,B2.b,C,dc8,_,_,_,O,ec8,M_watch,O,B2,pmD (dtC cl2) ps,fl,0,0,"both",[],O,bw2',p02,p02,.inr (.inr O),(λz hz=>by cases hz),by decide,(λi hi z=>by rw[(S28.o i hi).ls] at z;cases z),λx2 h2 X9 hx2 hh2 b2' fr9=>{by show 2<=sizeLine;decide,λE hE=>?_}}
   have b1':=b1.wt2 ec8 bw2'.w.d (Ne.symm nbb) (Ne.symm nWW) fr9
   have S19:=S18.wt2 ec8 bw2'.w.d fr9
   have S29:=S28.wt2 ec8 bw2'.w.d fr9
   try dsimp only[zaY,List.set]
   have sE:=zag (o:=.lst [V.int (B1.nw:Int),V.int (B2.nw:Int)]) hE
   have tE:Tw44 C CW cs ⟨B1.next,dtC cl1,x1,h1⟩ ⟨B2.next,pmD (dtC cl2) ps,x2,h2⟩ os ps CL OL O9 E (upd X9 E (.lst [V.int (B1.nw:Int),V.int (B2.nw:Int)])) fl [] (usC cl1) (λi=>usC cl2 (ps.getD i 0)):=by
    have mono:∀k,Lv ((λk=>match k with|0=>X1|1=>X2|2=>X5|3=>X7|4=>X8|_=>X9:Nat->Hp) k) ((λk=>match k with|0=>X1|1=>X2|2=>X5|3=>X7|4=>X8|_=>X9:Nat->Hp) (k+1)):=λk=>match k with
     | 0=>Lv.of bo2.s
     | 1=>Lv.of (s24.trans s45)
     | 2=>Lv.of (s56.trans s67)
     | 3=>Lv.wt fr8 (zaQ eb8) (zaQ b1.w.d)
     | 4=>Lv.wt fr9 (zaQ b2'.b.e.choose_spec) (zaQ b2'.w.d)
     | _+5=>λ_ h=>h
    have w8:=b1.w.o _ (Xay:_∈[(B1.nw,Wa.mk x1 h1 0 0 "both" [])])
    have w9:=b2'.w.o _ (Xay:_∈[(B2.nw,Wa.mk x2 h2 0 0 "both" [])])
    have z2:∀{y:Addr},(upd (upd X4 db (.own B1.b)) B1.b (.ins C db [])) y=none->X2 y=none:=λh=>(s24.trans sB).free h
    have z5:∀{y:Addr},(upd (upd Y6 db2 (.own B2.b)) B2.b (.ins C db2 [])) y=none->X5 y=none:=λh=>(s56.trans sB2).free h
    have f1:=λi (hi:i<(dtC cl1).m)=>bo1.fr _ (zbg hi).1
    have f2:=λi (hi:i<(dtC cl2).m)=>bo2.fr _ (zbg hi).1
    have c1:=λi (hi:i<(dtC cl1).m)=>bo1.C.o _ (zbg hi).1
    have c2:=λi (hi:i<(dtC cl2).m)=>bo2.C.o _ (zbg hi).1
    have ag1:Age (λk=>match k with|0=>X1|1=>X2|2=>X5|3=>X7|4=>X8|_=>X9) ⟨B1.next,dtC cl1,x1,h1⟩ 0:={Ag.of mono (k:=1) (zaQ hBd.e.choose_spec) (s24.free hb),Ag.of mono (k:=3) (zaQ w8.l.choose_spec.1) hh1,λi hi=>{zaQ (c1 i hi).ch.ls,λj h=>absurd h (Xbn _)},Ag.of mono (k:=1) (zaQ hBd.ch) (z2 hBL),Ag.of mono (k:=1) (zaQ hBd.la) (z2 hBla),Ag.of mono (k:=1) (zaQ eW) (z2 hBW),Ag.of mono (k:=3) (zaQ w8.e.choose_spec) hx1}
    have ag2:Age (λk=>match k with|0=>X1|1=>X2|2=>X5|3=>X7|4=>X8|_=>X9) ⟨B2.next,pmD (dtC cl2) ps,x2,h2⟩ 1:={Ag.of mono (k:=2) (zaQ hBd2.e.choose_spec) (s56.free hb2),Ag.of mono (k:=4) (zaQ w9.l.choose_spec.1) hh2,λi hi=>Ag.of mono (k:=0) (zaQ (c2 _ (zcL pp2 hi).2.2).ch.ls) (f2 _ (zcL pp2 hi).2.2).1,Ag.of mono (k:=2) (zaQ hBd2.ch) (z5 hBL2),Ag.of mono (k:=2) (zaQ hBd2.la) (z5 hBla2),Ag.of mono (k:=2) (zaQ eW2) (z5 hBW2),Ag.of mono (k:=4) (zaQ w9.e.choose_spec) hx2}
    have up:∀{y:Addr} {l:List V},X7 y=some (.lst l)->upd X9 E (.lst [V.int (B1.nw:Int),V.int (B2.nw:Int)]) y=some (.lst l):=λ{y l} e=>by
     have e8:=fr8 _ _ (λz=>by rw[z,eb7] at e;cases e) (λz=>by rw[z,bw1.w.d] at e;cases e) e
     exact sE _ _ (fr9 _ _ (λz=>by rw[z,ec8] at e8;cases e8) (λz=>by rw[z,bw2'.w.d] at e8;cases e8) e8)
    have s17:=bo2.s.trans sX7
    have nmt:∀{y:Addr} {l:List V},X4 y=some (.lst l)->(∀i,i<(dtC cl1).m->y≠(dtC cl1).p i)->(∀i,i<(dtC cl2).m->y≠(dtC cl2).p i)->¬ (Sk.mk B1.next (dtC cl1) x1 h1).Mt y/\¬ (Sk.mk B2.next (pmD (dtC cl2) ps) x2 h2).Mt y:=λ{y l} e n1 n2=>by
     have e7:=(s4Y.trans s67) _ _ e
     have e8:=fr8 _ _ (λz=>by rw[z,eb7] at e7;cases e7) (λz=>by rw[z,bw1.w.d] at e7;cases e7) e7
     refine{λm=>?_,λm=>?_}
     .rcases m with z|z|⟨i,hi,z⟩
      .exact zai e hb z
      .exact zai e7 hh1 z
      .exact n1 i hi z
     .rcases m with z|z|⟨i,hi,z⟩
      .exact zai (s4Y _ _ e) hb2 z
      .exact zai e8 hh2 z
      .exact n2 _ (zcL pp2 hi).2.2 z
    refine{{d1.symm,pp,po,λk hk=>?_,g2,l2,hat,ag1.apt ag2 (by decide) ?_,ag2.apt ag1 (by decide) ?_,Ag.ne ag2.x ag1.x (by decide)},{?_,S19.same sE},{?_,S29.same sE},λk hk=>?_,?_,?_,?_,?_,?_,bo1.c1,bo1.c9}
    .have z:=zfl pp2 (d1▸hk:k<(dtC cl2).m)
     show(dtC cl2).kd (ps.getD (ps.idxOf k) 0)=(dtC cl1).kd k/\(dtC cl2).n (ps.getD (ps.idxOf k) 0)=(dtC cl1).n k
     rw[z.1]
     exact{(dk k hk).1.symm,(dk k hk).2.1.symm}
    .intro y m i hi z
     obtain⟨dx,ex⟩:=(c2 _ (zcL pp2 hi).2.2).ch.ex
     subst z
     rcases m with z|z|⟨j,hj,z⟩
     .exact zai ex (s24.free hb) z
     .exact zai (sX7 _ _ ex) hh1 z
     .have e:=bo2.s _ _ (c1 j hj).ch.ls
      have z':(cl2.getD (ps.getD i 0) dfCm).x=(cl1.getD j dfCm).p:=z
      rw[z',e] at ex
      cases ex
    .intro y m i hi z
     obtain⟨dx,ex⟩:=(c1 i hi).ch.ex
     subst z
     rcases m with z|z|⟨j,hj,z⟩
     .exact zai ((bo2.s.trans (s24.trans s45)) _ _ ex) (s56.free hb2) z
     .have l4:X8 (cl1.getD i dfCm).x≠none:=zmH mono (d:=4) (k:=0) (zaQ ex)
      have z':(cl1.getD i dfCm).x=h2:=z
      rw[z'] at l4
      exact l4 hh2
     .have e:=(c2 _ (zcL pp2 hj).2.2).ch.ls
      have ex2:=bo2.s _ _ ex
      have z':(cl1.getD i dfCm).x=(cl2.getD (ps.getD j 0) dfCm).p:=z
      rw[z',e] at ex2
      cases ex2
    .have:=b1'.same sE
     rw[enw] at this ⊢
     exact this
    .have:=b2'.same sE
     rw[enw2] at this ⊢
     exact this
    .rw[(zfl pp2 (d1▸hk:k<(dtC cl2).m)).1]
     exact(dk k hk).2.2.symm
    .have:=up (s17 _ _ bo1.eC)
     rw[this,<- zj4]
    .have:=up (sX7 _ _ bo2.eC)
     rw[this,<- zj4]
     unfold chL
     refine congrArg (λl=>some (HO.lst l)) ?_
     rw[<- d1]
     refine Xbx λk hk=>?_
     show V.ref _=V.ref ((dtC cl2).x (ps.getD (ps.idxOf k) 0))
     rw[(zfl pp (XaU.mp hk)).1]
    .exact up ((s4.trans (s4Y.trans s67)) _ _ eO)
    .rw[zac,enw,enw2];rfl
    .intro y hy
     have ls1:=λi hi=>(c1 i hi).ch.ls
     have ls2:=λi hi=>(c2 i hi).ch.ls
     rcases hy with rfl|rfl|rfl|rfl
     .exact nmt (s24 _ _ (bo2.s _ _ bo1.eC)) (λi hi=>Ne.symm (f1 i hi).2.2.1) (λi hi=>zai bo1.eC (f2 i hi).1)
     .refine nmt (s24 _ _ bo2.eC) (λi hi z=>?_) (λi hi=>Ne.symm (f2 i hi).2.2.1)
      have e:=bo2.s _ _ (ls1 i hi)
      rw[show(cl1.getD i dfCm).p=y from z.symm,bo2.eC] at e
      have l:=bo2.c1
      cases cl2 with
      | nil=>cases l
      | cons c l =>
       have e':=HO.lst.inj (Option.some.inj e)
       unfold vN at e'
       cases hu:(cl1.getD i dfCm).us with
       | nil=>rw[hu] at e';cases e'
       | cons u v=>rw[hu] at e';cases(List.cons.inj e').1
     .exact nmt (s4 _ _ eO) (λi hi=>Ne.symm (zai (bo2.s _ _ (ls1 i hi)) hO)) (λi hi=>Ne.symm (zai (ls2 i hi) hO))
     .refine{λm=>?_,λm=>?_}
      .rcases m with z|z|⟨i,hi,z⟩
       .exact zai b1'.b.e.choose_spec hE z.symm
       .exact zai (b1'.w.o _ Xay).l.choose_spec.1 hE z.symm
       .exact zai (S19.o i hi).ls hE z.symm
      .rcases m with z|z|⟨i,hi,z⟩
       .exact zai b2'.b.e.choose_spec hE z.symm
       .exact zai w9.l.choose_spec.1 hE z.symm
       .exact zai (S29.o i hi).ls hE z.symm
   have hsE:SqL K (upd X9 E (.lst [V.int (B1.nw:Int),V.int (B2.nw:Int)])) a (ns.map V.int):=by
    have s4:Same H X4:=hsH2.trans s24
    refine zkz hs λo e=>?_
    have e4:=s4 _ _ e
    have e6:=s4Y _ _ e4
    exact sE _ _ (fr9 _ _ (zai e6 hb2) (zai ((sB2) _ _ e6) hBW2) (fr8 _ _ (zai e4 hb) (zai (sB _ _ e4) hBW) (s67 _ _ e6)))
   have m2:=bo2.m2
   generalize upd X9 E (.lst [V.int (B1.nw:Int),V.int (B2.nw:Int)])=X at tE hsE ⊢
   clear sE hE b1' b2' S19 S29 fr9 fr8 b1 hx1 hh1 hx2 hh2 bw2' S18 S28 bw1 bw2 S17 S27 eb7 ec7 eb8 ec8 nbb nWW hBd2 fr2 sB2 hb2 hdb2 s67 sX7 s57 eW2 hBW2 hBL2 hBla2 S2Y s4Y eD sD hDc sU s56 eOL6 eP6 s46 s6 eR2 hw2 l2 hat hR2 r5 s45 fr hBd eW hBW hBL hBla sB hb hdb S14 S24 rf1 e76 e4 s24 eP hP s4 eO hO s3 dk d1 hsH2 hdw y76 y78 y79 e2 bo2 kb2 et2 e1 bo1 kb1 et1 p0 p02 enw enw2 pp pp2 po m9 l6 hv2 hl2 h63 eS sH hs
   refine{by show 1<=sizeLine;decide,λg hg=>{_,O,1,O,a,_,O,(zag hg).seq hsE,λp hp=>{g,p,_,_,O,O,SqL.of (zag hp _ _ zac),SqL.of zac,?_,λc hc=>{c,O,{_,SqL.of zac},?_}}}}
   .rw[zhR,XaV,Xag,sizeLine_eq];simp;omega
   have hcl:∃cells:List Int,[V.int 0]++cutV (ns.map V.int) (some 1) none=cells.map V.int/\cells.length<=64:={0::ns.drop 1,by rw[zhR,<- List.map_drop];rfl,by rw[Xaw,XaV];omega}
   have sGp:=(zag (o:=.lst [V.int 0]) hg).trans (zag (o:=.lst (cutV (ns.map V.int) (some 1) none)) hp)
   have oc:=tE.new (sGp.free hc)
   have sC:=sGp.trans (zag (o:=.lst ([V.int 0]++cutV (ns.map V.int) (some 1) none)) hc)
   replace tE:=tE.same sC
   have hcc:upd (upd (upd X g (.lst [V.int 0])) p (.lst (cutV (ns.map V.int) (some 1) none))) c (.lst ([V.int 0]++cutV (ns.map V.int) (some 1) none)) c=some (.lst ([V.int 0]++cutV (ns.map V.int) (some 1) none)):=zac
   generalize upd (upd (upd X g (.lst [V.int 0])) p (.lst (cutV (ns.map V.int) (some 1) none))) c (.lst ([V.int 0]++cutV (ns.map V.int) (some 1) none))=H5 at *
   generalize[V.int 0]++cutV (ns.map V.int) (some 1) none=xs at *
   obtain⟨cells,exs,hcl⟩:=hcl
   clear sGp hsE hp hg hc sC
   have xl:xs.length<=64:=by rw[exs,Xag];exact hcl
   refine zdV (K:=K) (a:=c) (xs:=xs) (λi U X=>∃(q r:Sk) (v0 v1 v2 v3 v4 v5 v6:Option V) (us vs:Nat->List Nat) (f:Nat) (hs:List (Str×Nat×Nat)),U=s44 a row q.B.R CL MB OL O9 PA q.B.b r.B.b E q.B.bits [v0,v1,v2,v3,v4,v5,v6]/\Tw44 C CW cs q r os ps CL OL O9 E X f hs us vs/\(¬ q.Mt c/\¬ r.Mt c)/\X c=some (.lst xs)/\q.B.bits<=16/\hs.length<=i) {_,_,_,_,_,_,_,_,_,_,_,_,_,O,tE,oc,hcc,m2,Nat.zero_le _} ?_ ?_ ?_
   .rintro i U X _ ⟨_,_,_,_,_,_,_,_,_,_,_,_,_,_,_,_,e,_⟩
    exact SqL.of e
   .clear tE oc hcc m2
    rintro i x U X hx ⟨q,r,v0,v1,v2,v3,v4,v5,v6,us,vs,fv,hs,rfl,t,oc,ec,m2,hhs⟩
    have hi:i<64:=Xaj (Xaf.mp hx).1 xl
    obtain⟨cell,rfl⟩:∃cell:Int,x=.int cell:=by
     rw[exs,Xao] at hx
     obtain⟨z,_,rfl⟩:=Xax.mp hx
     exact⟨z,O⟩
    refine{_,O,cell,6,O,by decide,λrr Y vals' hr er6 hvl hv6 sY=>?_}
    have orr:=t.new hr
    replace t:=t.same sY
    replace ec:=sY _ _ ec
    obtain⟨dr,hdr⟩:=drw (row:=vals') 6 (by omega) hv6
    have y0:atI (vN vals') 0=some (.int (dr 0:Int)):=(hdr 0 (by decide)).1
    have y1:atI (vN vals') 1=some (.int (dr 1:Int)):=(hdr 1 (by decide)).1
    have y2:atI (vN vals') 2=some (.int (dr 2:Int)):=(hdr 2 (by decide)).1
    have y3:atI (vN vals') 3=some (.int (dr 3:Int)):=(hdr 3 (by decide)).1
    have y4:atI (vN vals') 4=some (.int (dr 4:Int)):=(hdr 4 (by decide)).1
    have y5:atI (vN vals') 5=some (.int (dr 5:Int)):=(hdr 5 (by decide)).1
    clear hvl hv6 hr sY hdr hx X
    try dsimp only[zaY,List.set]
    refine{_,O,_,O,_,O,rr,_,_,_,O,O,SqL.of er6,y0,_,O,rr,_,_,_,O,O,SqL.of er6,y1,q.B.R,q.D,q.B.bits,dr 0,dr 1,q.B.ws,O,t.a.b.b.rf,m2,λx Z hx sZ=>?_}
    replace t:=t.same sZ
    replace ec:=sZ _ _ ec
    replace er6:=sZ _ _ er6
    clear sZ Y
    have hb16:2 ^ q.B.bits<=65536:=Xar (XaT (by decide) m2) (by decide)
    have h100:(2:Nat) ^ 100=1267650600228229401496703205376:=by decide
    have hx100:(x:Int).natAbs<2 ^ 100:=by rw[Int.natAbs_natCast,h100];omega
    have hx2:x<2 ^ r.B.bits:=by rw[t.T.bb];exact hx
    try dsimp only[zaY,List.set]
    refine{_,O,rr,_,_,_,O,O,SqL.of er6,y2,_,_,O,O,(show(0:Int)<256 by decide),?_}
    rw[show(dr 2:Int) % 256=((dr 2 % 256:Nat):Int) by omega]
    have hwd:dr 2 % 256<=255:=by omega
    generalize dr 2 % 256=wd at hwd
    try dsimp only[zaY,List.set]
    refine zaU (λU W=>U=s44 a row q.B.R CL MB OL O9 PA q.B.b r.B.b E q.B.bits [some (.int cell),some (.ref rr),some (.int (x:Int)),some (.int (wd:Int)),v4,v5,v6]/\Same Z W) (λN hN=>?_) ?_
    .obtain⟨db,eb⟩:=t.a.b.b.e
     obtain⟨dc,ec'⟩:=t.b.b.b.e
     have hw:=who44 t.T t.R t.a.b.b t.b.b.b x
     refine{_,O,q.B.b,C,db,_,_,_,O,eb,M_who,O,_,O,q.B,q.D,us,fv,(x:Int),O,t.a.b.b,t.a.S,hx100,.inl {x,O,hx,λh1 X6 s6=>?_,λi z h1 hz tt X6 ht et s6=>?_}}
     .have t6:=t.same s6
      refine{_,O,r.B.b,C,dc,_,_,_,O,s6 _ _ ec',M_who,O,_,O,r.B,r.D,vs,fv,(x:Int),O,t6.b.b.b,t6.b.S,hx100,.inl {x,O,hx2,λh2 X7 s7=>?_,λj y h2=>?_}}
      .exact{_,O,.non,.non,O9,os,O,s7 _ _ t6.eo,.inl ⟨O,O⟩,λX8 s8=>{true,O,iteF (zat (hN _ _ {O,s6.trans (s7.trans s8)}))}}
      .exfalso
       rcases hw with⟨_,h⟩|⟨_,_,_,_,h,_⟩
       .rw[h] at h2;cases h2
       .rw[h] at h1;cases h1
     .have t6:=t.same s6
      refine{_,O,r.B.b,C,dc,_,_,_,O,s6 _ _ ec',M_who,O,_,O,r.B,r.D,vs,fv,(x:Int),O,t6.b.b.b,t6.b.S,hx100,.inl {x,O,hx2,λh2=>?_,λj y h2 hy t2 X7 ht2 et2 s7=>?_}}
      .exfalso
       rcases hw with⟨h,_⟩|⟨_,_,_,_,_,_,h,_⟩
       .rw[h] at h1;cases h1
       .rw[h] at h2;cases h2
      .rcases hw with⟨h,_⟩|⟨i',j',z',u,g1,g2,g3,g4,g5⟩
       .rw[h] at h1;cases h1
       rw[h1] at g1
       obtain rfl:=Option.some.inj g1
       rw[h2] at g3
       obtain rfl:=Option.some.inj g3
       rw[hz] at g2
       obtain rfl:=Option.some.inj g2
       rw[hy] at g4
       obtain rfl:=Option.some.inj g4
       exact{_,O,.ref tt,.ref t2,O9,os,O,s7 _ _ t6.eo,.inr {tt,t2,i,j,gath z.2.i x,O,O,s7 _ _ et,et2,g5,t.T.nd},λX8 s8=>{true,O,iteF (zat (hN _ _ {O,s6.trans (s7.trans s8)}))}}
    rintro U W ⟨rfl,sW⟩
    replace t:=t.same sW
    replace ec:=sW _ _ ec
    replace er6:=sW _ _ er6
    clear sW Z
    refine zaU (λU Z=>∃(v4 v5:Option V) (us vs:Nat->List Nat) (fv:Nat) (hs:List (Str×Nat×Nat)),U=s44 a row q.B.R CL MB OL O9 PA q.B.b r.B.b E q.B.bits [some (.int cell),some (.ref rr),some (.int (x:Int)),some (.int (wd:Int)),v4,v5,v6]/\Tw44 C CW cs q r os ps CL OL O9 E Z fv hs us vs/\Z c=some (.lst xs)/\hs.length<=i+1) (λN hN=>?_) ?_
    .obtain⟨w3,e3,hw3⟩:∃w:Nat,(dr 3:Int) % 4=(w:Int)/\w<4:={dr 3 % 4,by omega,by omega}
     obtain⟨db,eb⟩:=t.a.b.b.e
     obtain⟨dc,ec'⟩:=t.b.b.b.e
     have dd:=zmS t.T t.R t.a.b.b t.b.b.b x wd
     refine{_,O,rr,_,_,_,O,O,SqL.of er6,y3,_,_,O,O,(show(0:Int)<4 by decide),O,_,O,?_}
     rw[e3]
     rcases(show w3=0\/w3=1\/w3=2\/w3=3 by omega) with rfl|rfl|rfl|rfl
     .refine iteT ?_
      refine{_,O,q.B.b,C,db,_,_,_,O,eb,M_write,O,_,O,_,O,q.B,q.D,us,fv,x,wd,w1 q hs,O,t.a.b,w1_n (by omega),t.a.S,hx,hwd,λZ1 b1 S1 fw1=>?_}
      rw[w1_h] at b1
      have k1:=Kp.frw fw1
      have sa1:Sd C CW cs q Z1 wd (hs++[(("write" : Str),x,wd)]) (wrU q.B q.D us x wd):=⟨b1,S1⟩
      have sb1:=t.b.kp t.a t.T.a1 k1
      obtain⟨dc1,ec1⟩:=sb1.b.b.e
      refine{_,O,r.B.b,C,dc1,_,_,_,O,ec1,M_write,O,_,O,_,O,r.B,r.D,vs,fv,x,wd,w1 r hs,O,sb1.b,w1_n (by omega),sb1.S,hx2,hwd,λZ2 b2 S2 fw2=>?_}
      rw[w1_h] at b2
      have k2:=Kp.frw fw2
      have sb2:Sd C CW cs r Z2 wd (hs++[(("write" : Str),x,wd)]) (wrU r.B r.D vs x wd):=⟨b2,S2⟩
      exact hN _ _ {_,_,_,_,_,_,O,t.upd (sa1.kp sb1 t.T.a2 k2) sb2 dd.2.2 (λa o n1 n2 e=>k2 a o n2 (k1 a o n1 e)),k2 _ _ oc.2 (k1 _ _ oc.1 ec),by rw[Xam];exact Nat.succ_le_succ hhs}
     .refine iteF ?_
      refine{_,O,rr,_,_,_,O,O,SqL.of er6,y3,_,_,O,O,(show(0:Int)<4 by decide),O,_,O,?_}
      rw[e3]
      refine iteT ?_
      refine{_,O,r.B.b,C,dc,_,_,_,O,ec',M_read,O,_,O,r.B,r.D,vs,fv,(x:Int),false,w1 r hs,O,t.b.b,w1_n (by omega),t.b.S,hx100,.inl {x,O,hx2,(λh=>nomatch h),λ_ Z1 b1 S1 fw1=>?_}}
      rw[w1_h,dd.1] at b1
      have k1:=Kp.frw fw1
      have sb1:Sd C CW cs r Z1 (rdW q.B q.D us fv x) (hs++[(("read" : Str),x,rdW q.B q.D us fv x)]) (rdU r.B r.D vs x):=⟨b1,S1⟩
      have sa1:=t.a.kp t.b t.T.a2 k1
      obtain⟨db1,eb1⟩:=sa1.b.b.e
      refine{_,O,q.B.b,C,db1,_,_,_,O,eb1,M_read,O,_,O,q.B,q.D,us,fv,(x:Int),false,w1 q hs,O,sa1.b,w1_n (by omega),sa1.S,hx100,.inl {x,O,hx,(λh=>nomatch h),λ_ Z2 b2 S2 fw2=>?_}}
      rw[w1_h] at b2
      have k2:=Kp.frw fw2
      have sa2:Sd C CW cs q Z2 (rdW q.B q.D us fv x) (hs++[(("read" : Str),x,rdW q.B q.D us fv x)]) (rdU q.B q.D us x):=⟨b2,S2⟩
      have t2:=t.upd sa2 (sb1.kp sa1 t.T.a1 k2) dd.2.1 (λa o n1 n2 e=>k2 a o n1 (k1 a o n2 e))
      refine{_,_,O,.inr (by rw[dd.1];exact .int _),λZ3 s3=>{true,O,iteF ?_}}
      have er3:=s3 _ _ (k2 _ _ orr.1 (k1 _ _ orr.2 er6))
      refine{_,O,rr,_,_,_,O,O,SqL.of er3,y3,_,_,O,O,(show(0:Int)<4 by decide),O,_,O,?_}
      rw[e3]
      refine iteF ?_
      refine{_,O,rr,_,_,_,O,O,SqL.of er3,y3,_,_,O,O,(show(0:Int)<4 by decide),O,_,O,?_}
      rw[e3]
      refine iteF (zat ?_)
      exact hN _ _ {_,_,_,_,_,_,O,t2.same s3,s3 _ _ (k2 _ _ oc.1 (k1 _ _ oc.2 ec)),by rw[Xam];exact Nat.succ_le_succ hhs}
     .refine iteF ?_
      refine{_,O,rr,_,_,_,O,O,SqL.of er6,y3,_,_,O,O,(show(0:Int)<4 by decide),O,_,O,?_}
      rw[e3]
      refine iteF (iteF ?_)
      refine{_,O,rr,_,_,_,O,O,SqL.of er6,y3,_,_,O,O,(show(0:Int)<4 by decide),O,_,O,?_}
      rw[e3]
      refine iteT ?_
      refine{_,O,r.B.b,C,dc,_,_,_,O,ec',M_read_p,O,_,O,r.B,r.D,vs,fv,(x:Int),true,w1 r hs,O,t.b.b,w1_n (by omega),t.b.S,hx100,.inl {x,O,hx2,λ_ Z1 s1=>?_,(λh=>nomatch h)}}
      have t1:=t.same s1
      refine{_,O,q.B.b,C,db,_,_,_,O,s1 _ _ eb,M_read_quiet,O,_,O,q.B,q.D,us,fv,(x:Int),true,w1 q hs,O,t1.a.b,w1_n (by omega),t1.a.S,hx100,.inl {x,O,hx,λ_ Z2 s2=>{_,_,O,.inr (by rw[dd.1];exact .int _),λZ3 s3=>{true,O,iteF (zat ?_)}},(λh=>nomatch h)}}
      have s13:=s1.trans (s2.trans s3)
      exact hN _ _ {_,_,_,_,_,_,O,t.same s13,s13 _ _ ec,by omega}
     .refine iteF ?_
      refine{_,O,rr,_,_,_,O,O,SqL.of er6,y3,_,_,O,O,(show(0:Int)<4 by decide),O,_,O,?_}
      rw[e3]
      refine iteF (iteF ?_)
      refine{_,O,rr,_,_,_,O,O,SqL.of er6,y3,_,_,O,O,(show(0:Int)<4 by decide),O,_,O,?_}
      rw[e3]
      refine iteF ?_
      refine{_,O,rr,_,_,_,O,O,SqL.of er6,y3,_,_,O,O,(show(0:Int)<4 by decide),O,_,O,?_}
      rw[e3]
      refine iteT ?_
      have m1:=t.m1
      refine{_,O,rr,_,_,_,O,O,SqL.of er6,y4,_,O,CL,_,O,.inl (SqL.of t.eC),_,_,O,O,by rw[zdu];omega,?_}
      rw[zdu,show(dr 4:Int) % (q.D.m:Int)=((dr 4 % q.D.m:Nat):Int) by norm_cast]
      have hk:dr 4 % q.D.m<q.D.m:=Xbw _ m1
      generalize dr 4 % q.D.m=kk at hk
      try dsimp only[zaY,List.set]
      have o1:=t.a.S.o kk hk
      have kc:=t.a.S.k kk hk
      obtain⟨dx,ex⟩:=o1.ex
      refine{_,O,rr,_,_,_,O,O,SqL.of er6,y5,_,O,_,O,CL,_,_,_,O,O,SqL.of t.eC,zaF (zdz hk),_,cs (q.D.kd kk),dx,_,_,_,O,ex,ML _ kc.k5,_,_,_,_,O,o1.ob,?_}
      have hsz:lenK (q.D.kd kk) (vN (us kk))=ksize (q.D.kd kk) (us kk):=by
       unfold lenK ksize
       split
       .rfl
       .exact zan _
      rw[hsz]
      have h0:0<ksize (q.D.kd kk) (us kk)/\ksize (q.D.kd kk) (us kk)<=4096:=by
       unfold ksize
       split
       .decide
       .rename_i z;exact{kc.l1 z,kc.ln}
      refine{_,O,by omega,by omega,_,_,O,O,(show(0:Int)<((ksize (q.D.kd kk) (us kk):Nat):Int) by omega),?_}
      rw[show(dr 5:Int) % ((ksize (q.D.kd kk) (us kk):Nat):Int)=((dr 5 % ksize (q.D.kd kk) (us kk):Nat):Int) by norm_cast]
      have hcc:dr 5 % ksize (q.D.kd kk) (us kk)<ksize (q.D.kd kk) (us kk):=Xbw _ h0.1
      generalize dr 5 % ksize (q.D.kd kk) (us kk)=cc at hcc
      try dsimp only[zaY,List.set]
      refine{_,O,_,O,CL,_,_,_,O,O,SqL.of t.eC,zaF (zdz hk),q.D.x kk,cs (q.D.kd kk),dx,_,_,_,O,ex,(MW _ kc.k5).mono (by decide),lkn _,_,O,_,O,q.D.x kk,q.D.p kk,q.D.n kk,cc,wd,us kk,O,o1,kc,hcc,hwd,λZ1 p1 k1=>?_}
      have K1:Kp q W Z1:=λa o n e=>by rw[k1 a (λz=>n (.inr (.inr ⟨kk,hk,z⟩)))];exact e
      have sa1:Sd C CW cs q Z1 fv hs (wset us kk (kwr (q.D.kd kk) (q.D.n kk) (us kk) cc wd)):={t.a.b.put hk o1.ls k1,t.a.S.put hk (kc.wr hwd) (zmK _ _ _) p1 k1}
      have sb1:=t.b.kp t.a t.T.a1 K1
      have hk2:=t.T.ix hk
      have o2:=sb1.S.o _ hk2
      have kc2:=sb1.S.k _ hk2
      obtain⟨dy,ey⟩:=o2.ex
      have eLk:((List.range q.D.m).map λk=>V.ref (r.D.x (ps.idxOf k)))[kk]?=some (.ref (r.D.x (ps.idxOf kk))):=by rw[Xao,XbR hk];rfl
      have ekd:=t.T.kd kk hk
      have hc2:cc<ksize (r.D.kd (ps.idxOf kk)) (vs (ps.idxOf kk)):=by rw[ekd.1,t.R kk hk];exact hcc
      refine{_,O,_,O,OL,_,_,_,O,O,SqL.of (K1 _ _ (t.n _ (.inr (.inl O))).1 t.eL),zaF eLk,r.D.x (ps.idxOf kk),cs (r.D.kd (ps.idxOf kk)),dy,_,_,_,O,ey,(MW _ kc2.k5).mono (by decide),lkn _,_,O,_,O,r.D.x (ps.idxOf kk),r.D.p (ps.idxOf kk),r.D.n (ps.idxOf kk),cc,wd,vs (ps.idxOf kk),O,o2,kc2,hc2,hwd,λZ2 p2 k2=>?_}
      have K2:Kp r Z1 Z2:=λa o n e=>by rw[k2 a (λz=>n (.inr (.inr {_,hk2,z})))];exact e
      have sb2:Sd C CW cs r Z2 fv hs (wset vs (ps.idxOf kk) (kwr (r.D.kd (ps.idxOf kk)) (r.D.n (ps.idxOf kk)) (vs (ps.idxOf kk)) cc wd)):={sb1.b.put hk2 o2.ls k2,sb1.S.put hk2 (kc2.wr hwd) (zmK _ _ _) p2 k2}
      exact hN _ _ {_,_,_,_,_,_,O,t.upd (sa1.kp sb1 t.T.a2 K2) sb2 (t.R.put t.T hk (by rw[ekd.1,ekd.2,t.R kk hk])) (λa o n1 n2 e=>K2 a o n2 (K1 a o n1 e)),K2 _ _ oc.2 (K1 _ _ oc.1 ec),by omega}
    clear t ec hhs orr er6 y0 y1 y2 y3 y4 y5 hwd hx2 hx100 h100 hb16 hx
    rintro U Z ⟨v4',v5',us',vs',fv',hs',rfl,t,ec,hhs⟩
    refine zaU (λU W=>U=s44 a row q.B.R CL MB OL O9 PA q.B.b r.B.b E q.B.bits [some (.int cell),some (.ref rr),some (.int (x:Int)),some (.int (wd:Int)),v4',v5',v6]/\Same Z W) (λN hN=>?_) ?_
    .obtain⟨db,eb⟩:=t.a.b.b.e
     obtain⟨dc,ec'⟩:=t.b.b.b.e
     exact{_,O,r.B.b,C,dc,_,_,_,O,ec',M_floats,O,r.B,r.D,_,O,t.b.b.b,_,O,q.B.b,C,db,_,_,_,O,eb,M_floats,O,q.B,q.D,_,O,t.a.b.b,_,_,O,.inr (.int _),λW s=>{true,O,iteF (zat (hN _ _ ⟨O,s⟩))}}
    rintro U W' ⟨rfl,sW⟩
    replace t:=t.same sW
    replace ec:=sW _ _ ec
    clear sW
    have m9:=t.m9
    refine{_,O,CL,_,O,.inl (SqL.of t.eC),_,O,by omega,by rw[zdu];omega,?_}
    rw[Xav,zdu]
    refine zez (n:=q.D.m) (λj U U9=>∃v4,U=s44 a row q.B.R CL MB OL O9 PA q.B.b r.B.b E q.B.bits [some (.int cell),some (.ref rr),some (.int (x:Int)),some (.int (wd:Int)),v4,v5',v6]/\U9=W') {_,O,O} ?_ ?_
    .rintro j U U9 hj ⟨v4,rfl,rfl⟩
     rw[show(0:Int)+(j:Int)=(j:Int) by omega]
     have o1:=t.a.S.o j hj
     have o2:=t.b.S.o _ (t.T.ix hj)
     have k5:=(t.a.S.k j hj).k5
     rw[(t.T.kd j hj).1,(t.T.kd j hj).2,t.R j hj] at o2
     obtain⟨dx,ex⟩:=o1.ex
     obtain⟨dy,ey⟩:=o2.ex
     have eLj:((List.range q.D.m).map λk=>V.ref (r.D.x (ps.idxOf k)))[j]?=some (.ref (r.D.x (ps.idxOf j))):=by rw[Xao,XbR hj];rfl
     refine{_,O,_,O,CL,_,_,_,O,O,SqL.of t.eC,zaF (zdz hj),_,O,_,O,OL,_,_,_,O,O,SqL.of t.eL,zaF eLj,q.D.x j,r.D.x (ps.idxOf j),cs (q.D.kd j),cs (q.D.kd j),dx,_,dy,_,_,_,O,O,ex,ey,(by simp[PySem.W.notFirst]),ME _ k5,(λh=>nomatch h),q.D.x j,r.D.x (ps.idxOf j),q.D.p j,r.D.p (ps.idxOf j),q.D.kd j,q.D.n j,q.D.n j,us' j,us' j,k5,O,o1,o2,_,O,?_}
     rw[Xak O,Xak O]
     refine{_,O,iteF ?_}
     refine{_,O,_,O,CL,_,_,_,O,O,SqL.of t.eC,zaF (zdz hj),_,O,_,O,OL,_,_,_,O,O,SqL.of t.eL,zaF eLj,q.D.x j,r.D.x (ps.idxOf j),cs (q.D.kd j),cs (q.D.kd j),dx,_,dy,_,_,_,O,O,ex,ey,(by simp[PySem.W.notFirst]),ME _ k5,(λ_=>NE _ k5),q.D.x j,r.D.x (ps.idxOf j),q.D.p j,r.D.p (ps.idxOf j),q.D.kd j,q.D.n j,q.D.n j,us' j,us' j,k5,O,o1,o2,_,O,?_}
     rw[Xak O,Xak O]
     exact{_,O,iteF (zat {_,O,O})}
    .rintro U U9 ⟨v4,rfl,rfl⟩
     exact{q,r,_,_,_,_,_,_,_,_,_,_,_,O,t,oc,ec,m2,hhs}
   .rintro U X ⟨q,r,v0,v1,v2,v3,v4,v5,v6,us,vs,fv,hs,rfl,t,oc,ec,m2,hhs⟩
    try dsimp only
    obtain⟨db,eb⟩:=t.a.b.b.e
    have wq:=t.a.b.w.o _ Xay
    have wr:=t.b.b.w.o _ Xay
    obtain⟨dq,eq⟩:=wq.e
    have nq:∀{y:Addr} {o:HO},(∀c d z,o≠.ins c d (waF z))->X y=some o->y≠q.x:=λ{y o} ho e z=>by rw[z,eq] at e;exact ho _ _ _ (Option.some.inj e).symm
    refine{_,O,q.B.b,C,db,_,_,_,O,eb,M_news,O,_,O,E,_,_,_,O,O,SqL.of t.eE,O,q.B,q.D,fv,0,w1 q hs,(0,{q.x,q.h,0,0,"both",hs}),O,t.a.b,⟨O,Xay⟩,(λi hi z=>by rw[(t.a.S.o i hi).ls] at z;cases z),λg1 Z1 hg1 b1 fr1=>?_}
    obtain⟨ts,el,et,ed⟩:=wq.l
    have el1:=fr1 _ _ (nq (λc d z e=>by cases e) el) el
    try dsimp only[zaY,List.set]
    refine{_,O,_,_,_,O,.lst el1,O,?_}
    refine{true,O,iteT ?_}
    obtain⟨dr,er⟩:=wr.e
    have nqr:=t.T.xx
    have br:BW C CW r.B r.D Z1 fv (w1 r hs):=t.b.b.all (λa ts e=>fr1 _ _ (nq (λc d z e'=>by cases e') e) e) λa o ha e=>by
     rcases ha with rfl|rfl|rfl|rfl|⟨y,hy,rfl|rfl⟩
     .obtain⟨d2,e2⟩:=t.b.b.b.e
      exact fr1 _ _ (nq (λc d z e'=>zkn (HO.ins.inj e').2.2.symm) e2) e
     .exact fr1 _ _ (nq (λc d z e'=>by cases e') t.b.b.b.ch) e
     .exact fr1 _ _ (nq (λc d z e'=>by cases e') t.b.b.b.la) e
     .exact fr1 _ _ (nq (λc d z e'=>by cases e') t.b.b.w.d) e
     .rw[Xad.mp hy] at e ⊢;exact fr1 _ _ nqr e
     .rw[Xad.mp hy] at e ⊢
      obtain⟨us2,e2⟩:=t.b.h
      exact fr1 _ _ (nq (λc d z e'=>by cases e') e2) e
    obtain⟨dc,ec'⟩:=br.b.e
    refine{_,O,r.B.b,C,dc,_,_,_,O,ec',M_news,O,_,O,E,_,_,_,O,O,SqL.of (fr1 _ _ (nq (λc d z e=>by cases e) t.eE) t.eE),O,r.B,r.D,fv,0,w1 r hs,(0,{r.x,r.h,0,0,"both",hs}),O,br,⟨O,Xay⟩,(λi hi z=>by rw[fr1 _ _ (nq (λc d z e=>by cases e) (t.b.S.o i hi).ls) (t.b.S.o i hi).ls] at z;cases z),λg2 Z2 hg2 b2 fr2=>?_}
    have wr1:=br.w.o _ Xay
    obtain⟨ts2,el2,et2,ed2⟩:=wr1.l
    obtain⟨dr1,er1⟩:=wr1.e
    have nr:∀{y:Addr} {o:HO},(∀c d z,o≠.ins c d (waF z))->Z1 y=some o->y≠r.x:=λ{y o} ho e z=>by rw[z,er1] at e;exact ho _ _ _ (Option.some.inj e).symm
    have la:LsAt Z2 r.h hs:={ts2,fr2 _ _ (nr (λc d z e=>by cases e) el2) el2,et2,λi t d h1 h2=>fr2 _ _ (nr (λc d z e=>by cases e) (ed2 i t d h1 h2)) (ed2 i t d h1 h2)}
    have lb:LsAt Z2 q.h hs:=⟨ts,fr2 _ _ (nr (λc d z e=>by cases e) el1) el1,et,λi t d h1 h2=>by
     have e1:=fr1 _ _ (nq (λc d z e=>by cases e) (ed i t d h1 h2)) (ed i t d h1 h2)
     exact fr2 _ _ (nr (λc d z e=>by cases e) e1) e1⟩
    exact{_,O,.ref r.h,.ref q.h,O,.inr (zkY la lb (by omega)),λX s=>k X}
end
abbrev NsR(K:W.Frag)(x:Str)(f:Addr):Prop:=W.nsIn K mainGlobals x=some (some (.ref f))
abbrev FiR(K:W.Frag)(C:Addr)(m:Str)(f:Addr):Prop:=W.findIn K (.ref C) m=some (some (.ref f))
abbrev IsF(K:W.Frag)(f:Addr):Prop:=W.isFn K (.ref f)=true
def all_mk{l:W.OpenLaw}{w:World}{K:W.Frag}{h:Heap}{mg:Str->Option Value}{fa:Addr}(X:K.In h)(G:h.Ns mainGlobals mg)(hfa:mg "law"=some (.ref fa)){f_0 f_1 f_2 f_3 f_4 f_5 f_6 f_7 f_8 f_9 bV bW bX bY bZ b6 b7 b8 cb ar bp cg ci ac aJ aC aD aK aS aT ad bq aa ae bu af bv bx bA bB aZ cj a6 a7 ck a8 cp ba cq cr cu cv ag bc cx NT ah aE aL bC bd be bD ai bf bE bF bG bg cy bH bh cz bJ bK aF cA cC bL cE cF cG cH cI cJ cK cL cM cO cP cQ bM:Addr} {fQ fR fS fU fV fW fX fY fZ f9 gb gc gf gh gj gk gm gn gp gq gt gu gw gx gy gz gA gB gC gD gE gF gG gH gI gP gQ gX hV ie ig ii ij iw iy iz iA iB iC iD iE iF iG iL iM iR iS iT iU iV cD iW iX iY iZ i3 i4 i5 i6 i7 i8 i9 ja:FuncData} {gJ gR gY hZ ik cN1 cB cN2 iH iN jb cR cS cT bN cU:Value} {gK gS gZ h8 il ddT dN1 ddB dN2 iI iO jc cV:Option Addr} {gL gT g7 ia io ep1 ep2 iJ iP:Nat} {gM gU hG ib ip sl1 slB sl2 iK iQ jd:Array (Option Value)} {gO gW hJ ic iq bI je jf jg jh ji jj jk jl jm:Tok} {nmT qT:Str} {bsT ir:List Value} {snT:List Str} {abT:Bool} {iu:Option Bool} {k0T k1T k2T k3T k5T:Option Value} {es1 es2:Array DictEntry} {cdB:ClassData}(zS:W.nsIn K mainGlobals "sorted"=some none)(jn:NsR K "single_ones" f_0)(F_0:FunN K "single_ones" zb7 f_0 fQ)(jo:NsR K "ones_of" f_1)(F_1:FunN K "ones_of" ze6 f_1 fR)(jp:NsR K "gathered" f_2)(F_2:FunN K "gathered" zd6 f_2 fS)(jq:NsR K "is_number" f_3)(F_3:FunN K "is_number" zc6 f_3 fU)(jr:NsR K "size_of" f_4)(F_4:FunN K "size_of" ze5 f_4 fV)(js:NsR K "is_choice" f_5)(F_5:FunN K "is_choice" zc7 f_5 fW)(jt:NsR K "is_latch" f_6)(F_6:FunN K "is_latch" zd4 f_6 fX)(ju:NsR K "is_row" f_7)(F_7:FunN K "is_row" zgJ f_7 fY)(jv:NsR K "is_map" f_8)(F_8:FunN K "is_map" zgK f_8 fZ)(jw:NsR K "meets" f_9)(F_9:FunN K "meets" ziT f_9 f9)(jx:NsR K "cell_at" bV)(cW:FunN K "cell_at" zfc bV gb)(jy:NsR K "choices_agree" bW)(cX:FunN K "choices_agree" zbI bW gc)(jz:NsR K "latches_agree" bX)(cY:FunN K "latches_agree" zbH bX gf)(jA:NsR K "rows_clash" bY)(cZ:FunN K "rows_clash" zcy bY gh)(jB:NsR K "clash_of" bZ)(c7:FunN K "clash_of" zd8 bZ gj)(jC:NsR K "is_awake" b6)(c8:FunN K "is_awake" zd5 b6 gk)(jD:NsR K "answering" b7)(de:FunN K "answering" zdb b7 gm)(jE:NsR K "is_word" b8)(df:FunN K "is_word" ze9 b8 gn)(jF:NsR K "check_word" cb)(dg:FunN K "check_word" zcz cb gp)(aM:NsR K "Chip" ar)(jG:W.specialIn K (.ref ar) "__getattribute__"=some (some (.builtin "type.__getattribute__")))(jH:W.readsIn K ar (.type "type")=true)(jI:W.findCls K (.ref ar) (.type "type") "__init__"=some (.val (.ref bp)))(dh:Fun K "__init__" "Chip.__init__" zbK bp gq)(jJ:NsR K "by_figures" cg)(di:FunN K "by_figures" zcB cg gt)(jK:NsR K "two_figures" ci)(dj:FunN K "two_figures" zb6 ci gu)(jL:NsR K "Store" ac)(aq:ClsOk K ac)(jM:FiR K ac "__len__" aJ)(ay:Fun K "__len__" "Chip.__len__" zbT aJ gw)(bi:IsF K aJ)(jN:FiR K ac "check_cell" aC)(av:Fun K "check_cell" "Chip.check_cell" zbh aC gx)(aU:IsF K aC)(jO:FiR K ac "check_write" aD)(aw:Fun K "check_write" "Chip.check_write" zbc aD gy)(aV:IsF K aD)(jP:FiR K ac "look" aK)(aA:Fun K "look" "Chip.look" zdk aK gz)(bj:IsF K aK)(jQ:FiR K ac "read" aS)(aN:Fun K "read" "Chip.read" zdj aS gA)(bO:IsF K aS)(jR:FiR K ac "write" aT)(aO:Fun K "write" "Chip.write" zcI aT gB)(bP:IsF K aT)(jS:NsR K "Fixed" ad)(au:ClsOk K ad)(jT:FiR K ad "__len__" aJ)(jU:FiR K ad "check_cell" aC)(jV:FiR K ad "check_write" aD)(jW:FiR K ad "look" aK)(jX:FiR K ad "read" aS)(jY:FiR K ad "write" bq)(dl:Fun K "write" "Fixed.write" zcb bq gC)(jZ:IsF K bq)(dm:NsR K "Latch" aa)(ak:ClsOk K aa)(j0:FiR K aa "__len__" aJ)(j1:FiR K aa "check_cell" aC)(j3:FiR K aa "check_write" aD)(j4:FiR K aa "look" aK)(j5:FiR K aa "read" aS)(j6:FiR K aa "write" aT)(j7:NsR K "Meter" ae)(al:ClsOk K ae)(j8:FiR K ae "__len__" aJ)(j9:FiR K ae "check_cell" aC)(ka:FiR K ae "check_write" aD)(ke:FiR K ae "look" aK)(kf:FiR K ae "read" bu)(du:Fun K "read" "Meter.read" zcH bu gD)(kg:IsF K bu)(kh:FiR K ae "write" aT)(ki:NsR K "Pipe" af)(am:ClsOk K af)(kj:FiR K af "__len__" bv)(dA:Fun K "__len__" "Pipe.__len__" zbS bv gE)(km:IsF K bv)(ko:FiR K af "check_cell" aC)(kq:FiR K af "check_write" aD)(kr:FiR K af "look" bx)(dB:Fun K "look" "Pipe.look" zdi bx gF)(ky:IsF K bx)(kA:FiR K af "read" bA)(dC:Fun K "read" "Pipe.read" zdh bA gG)(kB:IsF K bA)(kC:FiR K af "write" bB)(dD:Fun K "write" "Pipe.write" zcG bB gH)(kD:IsF K bB)(kE:W.makesIn K ac=true)(kF:W.keepIn K (.ref ac)=true)(kG:FiR K ac "__init__" aZ)(dE:FunD K "__init__" "Store.__init__" zbt (.ref cj) aZ gI)(kH:K.lookup cj=some {gJ,gK,.seq #[.int 0 gO] gL,gM})(kI:IsF K aZ)(kJ:W.makesIn K ad=true)(kK:W.keepIn K (.ref ad)=true)(kL:FiR K ad "__init__" a6)(dF:Fun K "__init__" "Fixed.__init__" zbw a6 gP)(kM:IsF K a6)(kN:W.makesIn K aa=true)(kO:W.keepIn K (.ref aa)=true)(kP:FiR K aa "__init__" a7)(dG:FunD K "__init__" "Latch.__init__" zbv (.ref ck) a7 gQ)(kQ:K.lookup ck=some {gR,gS,.seq #[.int 0 gW] gT,gU})(kR:IsF K a7)(kS:W.makesIn K ae=true)(kT:W.keepIn K (.ref ae)=true)(kU:FiR K ae "__init__" a8)(dH:FunD K "__init__" "Meter.__init__" zbu (.ref cp) a8 gX)(kW:K.lookup cp=some {gY,gZ,.seq #[.int 0 hJ] g7,hG})(kX:IsF K a8)(kY:W.makesIn K af=true)(kZ:W.keepIn K (.ref af)=true)(k4:FiR K af "__init__" ba)(dI:FunD K "__init__" "Pipe.__init__" zbJ (.ref cq) ba hV)(k6:K.lookup cq=some {hZ,h8,.seq #[.int 4 ic] ia,ib})(k7:IsF K ba)(k8:W.findIn K (.ref aa) "__class__"=some (some (.builtin "object.__class__")))(aP:W.specialIn K (.builtin "object.__class__") "__get__"=some (some (.builtin "getset_descriptor.__get__")))(aQ:W.takesIn K (.builtin "object.__class__")=some true)(k9:W.mroIn K aa (.type "object")=some true)(lc:W.isIn K (.ref aa) aa=true)(ld:NsR K "row_fits" cr)(dJ:FunN K "row_fits" zd0 cr ie)(le:NsR K "check_map" cu)(dL:FunN K "check_map" zc9 cu ig)(lf:NsR K "check_clash" cv)(dM:FunN K "check_clash" zb8 cv ii)(lg:NsR K "Board" ag)(aj:ClsBd K ag)(lh:W.makesIn K ag=true)(li:W.keepIn K (.ref ag)=true)(lj:FiR K ag "__init__" bc)(dO:FunD K "__init__" "Board.__init__" zbx (.ref cx) bc ij)(ll:K.lookup cx=some {ik,il,.seq #[.int 0 iq] io,ip})(lm:IsF K bc)(lq:NsR K "NoAddress" ah)(lr:NsR K "BusError" aE)(xl:K.lookup ah=some (excClassObj nmT qT ah NT bsT [.ref aE,.type "ValueError",.type "Exception",.type "BaseException",.type "object"] true snT ir abT iu ddT k0T k1T k2T k3T k5T "ValueError.__new__"))(xn:K.lookup NT=some {cN1,dN1,.dict es1 ep1,sl1})(xs:es1.toList.all (λe=>match e.key with|.str _ _=>true|_=>false)=true)(yl:K.lookup aE=some {cB,ddB,.cls cdB,slB})(yn:K.lookup cdB.ns=some {cN2,dN2,.dict es2 ep2,sl2})(ys:es2.toList.all (λe=>match e.key with|.str _ _=>true|_=>false)=true)(yi:nsFind es2 "__init__"=none)(xa:W.findIn K (.ref ah) "__setattr__"=some (some (.builtin "object.__setattr__")))(lw:W.takerIn K ah "address"=some none)(c1_:W.findIn K (.ref ah) "__getattribute__"=some (some (.builtin "BaseException.__getattribute__")))(c2_:W.findIn K (.ref ah) "__getattr__"=some none)(c4_:W.subIn K (.ref ah) (.type "BaseException")=some true)(c5_:W.mroIn K ah (.type "object")=some true)(c3_:∀oD:Option Obj,W.findObj K ah oD "__class__"=some (.bind (.builtin "getset_descriptor.__get__") (.builtin "object.__class__")))(m1_:W.exmOne K (.ref ah) (.ref ah)=some true)(xh:W.hasDictIn K ah=true)(qf:W.findIn K (.ref ah) "address"=some none)(s1_:W.specialIn K (.ref aE) "__getattribute__"=some (some (.builtin "type.__getattribute__")))(s2_:W.readsIn K aE (.type "type")=true)(s3_:W.findCls K (.ref aE) (.type "type") "__init__"=some (.val (.builtin "ValueError.__init__")))(qg:FiR K ah "__init__" aL)(lx:nsFind es1 "__init__"=some (.ref aL))(ly:Fun K "__init__" "NoAddress.__init__" za1 aL iw)(lz:IsF K aL)(lA:FiR K ag "in_bits" bC)(dQ:Fun K "in_bits" "Board.in_bits" zbL bC iy)(lB:IsF K bC)(lC:FiR K ag "check_address" bd)(dR:Fun K "check_address" "Board.check_address" zaX bd iz)(lD:IsF K bd)(lE:FiR K ag "who" be)(dS:Fun K "who" "Board.who" zdl be iA)(lF:IsF K be)(lG:FiR K ag "floats" bD)(dU:Fun K "floats" "Board.floats" zbU bD iB)(lH:IsF K bD)(lI:NsR K "Watch" ai)(bn:ClsWt K ai)(lJ:W.makesIn K ai=true)(lK:W.keepIn K (.ref ai)=true)(lL:FiR K ai "__init__" bf)(dW:Fun K "__init__" "Watch.__init__" zbs bf iC)(lM:IsF K bf)(lN:FiR K ai "hear" bE)(dX:Fun K "hear" "Watch.hear" zcF bE iD)(lO:IsF K bE)(lP:FiR K ag "chip_of" bF)(dY:Fun K "chip_of" "Board.chip_of" zbM bF iE)(lQ:IsF K bF)(lR:FiR K ag "finish" bG)(dZ:Fun K "finish" "Board.finish" zbV bG iF)(lS:IsF K bG)(bQ:FiR K ag "read" bg)(aG:FunD K "read" "Board.read" zcJ (.ref cy) bg iG)(bR:K.lookup cy=some {iH,iI,.seq #[.bool false] iJ,iK})(bS:IsF K bg)(lT:FiR K ag "write" bH)(d3:Fun K "write" "Board.write" zcd bH iL)(lU:IsF K bH)(lV:FiR K ag "watch" bh)(bT:FunD K "watch" "Board.watch" zce (.ref cz) bh iM)(lW:K.lookup cz=some {iN,iO,.seq #[.str "both" bI] iP,iQ})(lX:IsF K bh)(lY:FiR K ag "check_watch" bJ)(d4:Fun K "check_watch" "Board.check_watch" za6 bJ iR)(lZ:IsF K bJ)(l5:FiR K ag "news" bK)(d5:Fun K "news" "Board.news" zcK bK iS)(l7:IsF K bK)(l8:W.findIn K (.ref ac) "__class__"=some (some (.builtin "object.__class__")))(l9:W.mroIn K ac (.type "object")=some true)(ma:W.isIn K (.ref ac) ar=true)(me:W.findIn K (.ref ac) "__ne__"=some (some (.builtin "object.__ne__")))(mf:W.subIn K (.ref ac) (.type "object")=some true)(mh:W.findIn K (.ref ad) "__class__"=some (some (.builtin "object.__class__")))(mi:W.mroIn K ad (.type "object")=some true)(mj:W.isIn K (.ref ad) ar=true)(ml:W.findIn K (.ref ad) "__ne__"=some (some (.builtin "object.__ne__")))(mq:W.subIn K (.ref ad) (.type "object")=some true)(mr:W.findIn K (.ref aa) "__class__"=some (some (.builtin "object.__class__")))(mv:W.mroIn K aa (.type "object")=some true)(mw:W.isIn K (.ref aa) ar=true)(mx:W.findIn K (.ref aa) "__ne__"=some (some (.builtin "object.__ne__")))(my:W.subIn K (.ref aa) (.type "object")=some true)(mz:W.findIn K (.ref ae) "__class__"=some (some (.builtin "object.__class__")))(mC:W.mroIn K ae (.type "object")=some true)(mD:W.isIn K (.ref ae) ar=true)(mE:W.findIn K (.ref ae) "__ne__"=some (some (.builtin "object.__ne__")))(mF:W.subIn K (.ref ae) (.type "object")=some true)(mG:W.findIn K (.ref af) "__class__"=some (some (.builtin "object.__class__")))(mH:W.mroIn K af (.type "object")=some true)(mI:W.isIn K (.ref af) ar=true)(mJ:W.findIn K (.ref af) "__ne__"=some (some (.builtin "object.__ne__")))(mK:W.subIn K (.ref af) (.type "object")=some true)(mL:FiR K ac "__eq__" aF)(ax:Fun K "__eq__" "Chip.__eq__" zcc aF iT)(aW:IsF K aF)(mM:FiR K ad "__eq__" aF)(mO:FiR K aa "__eq__" aF)(mP:FiR K ae "__eq__" aF)(mQ:FiR K af "__eq__" aF)(mR:NsR K "_law_draws" cA)(d6:FunN K "_law_draws" zcC cA iU)(mS:NsR K "_law_ones" cC)(d7:FunN K "_law_ones" zdf cC iV)(bo:NsR K "_law_same" bL)(aH:FunN K "_law_same" zdd bL cD)(mT:NsR K "_law_few" cE)(d8:FunN K "_law_few" zeg cE iW)(mU:NsR K "_law_size" cF)(d9:FunN K "_law_size" zdc cF iX)(mV:NsR K "_law_chip" cG)(eB:FunN K "_law_chip" zdg cG iY)(mW:NsR K "_law_chips" cH)(eF:FunN K "_law_chips" zcD cH iZ)(mX:NsR K "_law_row" cI)(eG:FunN K "_law_row" zee cI i3)(mY:NsR K "_law_pair" cJ)(eJ:FunN K "_law_pair" zde cJ i4)(mZ:NsR K "_law_map" cK)(eK:FunN K "_law_map" zef cK i5)(m3:NsR K "_law_board" cL)(eN:FunN K "_law_board" zcE cL i6)(m5:NsR K "_law_address" cM)(eQ:FunN K "_law_address" zbR cM i7)(m6:NsR K "_law_turned" cO)(eU:FunN K "_law_turned" zca cO i8)(m7:NsR K "_law_renamed" cP)(eZ:FunN K "_law_renamed" zbQ cP i9)(m8:NsR K "_law_who_alike" cQ)(fb:FunN K "_law_who_alike" zbr cQ ja)(ng:NsR K "law" bM)(nj:K.lookup bM=some {jb,jc,.func (W.fnOf "law" "law" (zbC slaw) (za2 slaw) (zaj slaw) .none cR cS cT cV bN cU),jd})(nk:W.codeIn K bN "law"=true)(nv:W.keepIn K (.ref bM)=true)(ny:W.nsIn K mainGlobals "MOST_BITS"=some (some (.int 16 je)))(nA:W.nsIn K mainGlobals "LAST_CHIP"=some (some (.int 99 jf)))(nB:W.nsIn K mainGlobals "LAST_WORD"=some (some (.int 255 jg)))(nC:W.nsIn K mainGlobals "MOST_CELLS"=some (some (.int 4096 jh)))(nD:W.nsIn K mainGlobals "MOST_ROOM"=some (some (.int 255 ji)))(nE:W.nsIn K mainGlobals "SIXTEEN"=some (some (.str "0123456789abcdef" jj)))(nF:W.nsIn K mainGlobals "READ"=some (some (.str "read" jk)))(nG:W.nsIn K mainGlobals "WRITE"=some (some (.str "write" jl)))(nH:W.nsIn K mainGlobals "BOTH"=some (some (.str "both" jm)))(nI:W.nsIn K mainGlobals "len"=some none)(nJ:W.nsIn K mainGlobals "sum"=some none)(nK:W.nsIn K mainGlobals "all"=some none)(nM:W.nsIn K mainGlobals "max"=some none)(nN:W.nsIn K mainGlobals "min"=some none)(nP:W.nsIn K mainGlobals "int"=some none)(nQ:W.nsIn K mainGlobals "bool"=some none)(nR:W.nsIn K mainGlobals "isinstance"=some none)(nS:W.nsIn K mainGlobals "range"=some none)(nU:W.nsIn K mainGlobals "enumerate"=some none)(nV:W.nsIn K mainGlobals "zip"=some none)(nW:W.nsIn K mainGlobals "str"=some none)(nX:W.nsIn K mainGlobals "tuple"=some none)(nY:W.nsIn K mainGlobals "list"=some none) :
  ∃fd:FuncData,(∀(s:Shared) (v:Value),BindsTo s fd {[v],[]} [("script",v)])/\∀base:Heap,K.In base->base.Ns mainGlobals mg->FnOk l.prog w K mg base CX0 10 fa fd ["script"] (spLaw K):=by
 have mo:∀{x:Str} {v:Value},W.nsIn K mainGlobals x=some (some v)->mg x=some v:=λa=>W.mg_of X G a
 have mn:∀{x:Str},W.nsIn K mainGlobals x=some none->mg x=none:=λa=>W.mg_none_of X G a
 have T:Blt mg:={mn nI,mn nJ,mn nK,mn nM,mn nN,mn nP,mn nQ,mn nR,mn nS,mn nU,mn nV,mn nW,mn nX,mn nY}
 have N:Nums mg:={{_,mo ny},{_,mo nA},{_,mo nB},{_,mo nC},{_,mo nD},{_,mo nE},{_,mo nF},{_,mo nG},{_,mo nH}}
 have nZ:=zlN (st:=slaw) nj nk nv
 have e:=hfa.symm.trans (mo ng)
 cases e
 refine{W.fnOf "law" "law" (zbC slaw) (za2 slaw) (zaj slaw) .none cR cS cT cV bN cU,λs v=>.of_eq O,λbase _ _=>?_}
 have cm:=@zhU l.prog w K mg base
 have mm:=@mth_mk l.prog w K mg base
 have fc:=cm (zfr F_0 T) (mo jn) F_0.kp (by walk_at"bd")
 have n0:=cm (zjo F_1 T fc) (mo jo) F_1.kp (by walk_at"bd")
 have n5:=cm (zif F_2 T fc) (mo jp) F_2.kp (by walk_at"bd")
 have aR:=cm (zg1 F_3 T) (mo jq) F_3.kp (by walk_at"bd")
 have fe:=cm (zjn F_4 T) (mo jr) F_4.kp (by walk_at"bd")
 have ff:=cm (zg2 F_5 T aR) (mo js) F_5.kp (by walk_at"bd")
 have n6:=cm (zid F_6 T N aR ff) (mo jt) F_6.kp (by walk_at"bd")
 have n8:=cm (zkS F_7 T N aR fe ff n6) (mo ju) F_7.kp (by walk_at"bd")
 have n9:=cm (zkT F_8 T n8) (mo jv) F_8.kp (by walk_at"bd")
 have og:=cm (zmC F_9 T) (mo jw) F_9.kp (by walk_at"bd")
 have oh:=cm (zjq cW T n5) (mo jx) cW.kp (by walk_at"bd")
 have fg:=cm (zel cX T) (mo jy) cX.kp (by walk_at"bd")
 have oi:=cm (zek cY T fg) (mo jz) cY.kp (by walk_at"bd")
 have oj:=cm (zfW cZ T fg oi) (mo jA) cZ.kp (by walk_at"bd")
 have om:=cm (zig c7 T oj) (mo jB) c7.kp (by walk_at"bd")
 have or:=cm (zie c8 T) (mo jC) c8.kp (by walk_at"bd")
 have ot:=cm (zg4 de T og or) (mo jD) de.kp (by walk_at"bd")
 have aB:=aR
 have aX:=cm (zjp df T N aB) (mo jE) df.kp (by walk_at"bd")
 have aI:=cm (zfX dg T aX) (mo jF) dg.kp (by walk_at"bd")
 have aY:Clm l.prog w K mg base 1 "Chip" "__init__" (spInit K):={{ar,bp,_,_,_,mo aM,jG,jH,jI,dh.kp,zen dh T,(by walk_at"bd")}}
 have ou:=cm (zfY di T N) (mo jJ) di.kp (by walk_at"bd")
 have ow:=cm (zfq dj T ou) (mo jK) dj.kp (by walk_at"bd")
 have fh:=mm aq.cl jM bi ay.kp (zbd (C:=ac) ay T aq) (by walk_at"bd")
 have fi:=mm aq.cl jN aU av.kp (zaN (C:=ac) av T aB fh) (by walk_at"bd")
 have oA:=mm aq.cl jO aV aw.kp (zaL (C:=ac) aw T aI fi) (by walk_at"bd")
 have fj:=mm aq.cl jP bj aA.kp (zbZ (C:=ac) aA T aq fi) (by walk_at"bd")
 have oB:=mm aq.cl jQ bO aN.kp (zcO (C:=ac) aN T fj) (by walk_at"bd")
 have oC:=mm aq.cl jR bP aO.kp (zci (C:=ac) aO T aq oA) (by walk_at"bd")
 have fk:=mm au.cl jT bi ay.kp (zbd (C:=ad) ay T au) (by walk_at"bd")
 have fm:=mm au.cl jU aU av.kp (zaN (C:=ad) av T aB fk) (by walk_at"bd")
 have oE:=mm au.cl jV aV aw.kp (zaL (C:=ad) aw T aI fm) (by walk_at"bd")
 have fo:=mm au.cl jW bj aA.kp (zbZ (C:=ad) aA T au fm) (by walk_at"bd")
 have oF:=mm au.cl jX bO aN.kp (zcO (C:=ad) aN T fo) (by walk_at"bd")
 have oG:=mm au.cl jY jZ dl.kp (zfu (C:=ad) dl T oE) (by walk_at"bd")
 have fq:=mm ak.cl j0 bi ay.kp (zbd (C:=aa) ay T ak) (by walk_at"bd")
 have fu:=mm ak.cl j1 aU av.kp (zaN (C:=aa) av T aB fq) (by walk_at"bd")
 have oH:=mm ak.cl j3 aV aw.kp (zaL (C:=aa) aw T aI fu) (by walk_at"bd")
 have fw:=mm ak.cl j4 bj aA.kp (zbZ (C:=aa) aA T ak fu) (by walk_at"bd")
 have oJ:=mm ak.cl j5 bO aN.kp (zcO (C:=aa) aN T fw) (by walk_at"bd")
 have oK:=mm ak.cl j6 bP aO.kp (zci (C:=aa) aO T ak oH) (by walk_at"bd")
 have fA:=mm al.cl j8 bi ay.kp (zbd (C:=ae) ay T al) (by walk_at"bd")
 have fB:=mm al.cl j9 aU av.kp (zaN (C:=ae) av T aB fA) (by walk_at"bd")
 have oM:=mm al.cl ka aV aw.kp (zaL (C:=ae) aw T aI fB) (by walk_at"bd")
 have fD:=mm al.cl ke bj aA.kp (zbZ (C:=ae) aA T al fB) (by walk_at"bd")
 have oN:=mm al.cl kf kg du.kp (zf4 (C:=ae) du T N al fD) (by walk_at"bd")
 have oO:=mm al.cl kh bP aO.kp (zci (C:=ae) aO T al oM) (by walk_at"bd")
 have fE:=mm am.cl kj km dA.kp (zeJ (C:=af) dA T am) (by walk_at"bd")
 have fF:=mm am.cl ko aU av.kp (zaN (C:=af) av T aB fE) (by walk_at"bd")
 have oP:=mm am.cl kq aV aw.kp (zaL (C:=af) aw T aI fF) (by walk_at"bd")
 have fG:=mm am.cl kr ky dB.kp (zha (C:=af) dB T am fF) (by walk_at"bd")
 have oQ:=mm am.cl kA kB dC.kp (zg9 (C:=af) dC T am fG) (by walk_at"bd")
 have oR:=mm am.cl kC kD dD.kp (zf3 (C:=af) dD T am oP) (by walk_at"bd")
 have oS:FnOk l.prog w K mg base CX0 3 aZ _ ["self","cells","word"] (spMkSH ac):=zdL (C:=ac) dE T N aq aB aX aY
 have oU:Mak l.prog w K mg base 3 "Store" ac [] (dP []) (spMkSH ac):=zes (mo jL) kE kG kI kF oS (dE.kbinds (ps:=["self","cells","word"]) (ks:=[]) (g:=dP []) kH O (λ_ _ _ _ _ _ us ws hl=>(by have hl':us.length=3:=(by have h:=hl;unfold dP at h;rw[Xam] at h;have h2:(["self","cells","word"]:List Str).length=3:=rfl;simp only[Xaw,XaZ] at h;omega);exact(by apply ln3 us hl';intro _ _ _;exact{_,O,O}))) (Vals.dP (show Vals ([]:List V) ([]:List Value) from .nil)))
 have oV:FnOk l.prog w K mg base CX0 3 a6 _ ["self","words"] (spMkFH ad):=zdO (C:=ad) dF T N au aX aY
 have oW:Mak l.prog w K mg base 3 "Fixed" ad [] (dP []) (spMkFH ad):=zes (mo jS) kJ kL kM kK oV (dF.kbinds (ps:=["self","words"]) (ks:=[]) (g:=dP []) (λ_ _ _ _ _ _ us ws hl=>(by have hl':us.length=2:=(by have h:=hl;unfold dP at h;rw[Xam] at h;have h2:(["self","words"]:List Str).length=2:=rfl;simp only[Xaw,XaZ] at h;omega);exact(by apply ln2 us hl';intro _ _;exact O))) (Vals.dP (show Vals ([]:List V) ([]:List Value) from .nil)))
 have oX:FnOk l.prog w K mg base CX0 3 a7 _ ["self","word"] (spMk1H aa "latch"):=zdN (C:=aa) dG T ak aX aY
 have oY:Mak l.prog w K mg base 3 "Latch" aa [] (dP []) (spMk1H aa "latch"):=zes (mo dm) kN kP kR kO oX (dG.kbinds (ps:=["self","word"]) (ks:=[]) (g:=dP []) kQ O (λ_ _ _ _ _ _ us ws hl=>(by have hl':us.length=2:=(by have h:=hl;unfold dP at h;rw[Xam] at h;have h2:(["self","word"]:List Str).length=2:=rfl;simp only[Xaw,XaZ] at h;omega);exact(by apply ln2 us hl';intro _ _;exact{_,O,O}))) (Vals.dP (show Vals ([]:List V) ([]:List Value) from .nil)))
 have oZ:FnOk l.prog w K mg base CX0 3 a8 _ ["self","word"] (spMk1H ae "meter"):=zdM (C:=ae) dH T al aX aY
 have o3:Mak l.prog w K mg base 3 "Meter" ae [] (dP []) (spMk1H ae "meter"):=zes (mo j7) kS kU kX kT oZ (dH.kbinds (ps:=["self","word"]) (ks:=[]) (g:=dP []) kW O (λ_ _ _ _ _ _ us ws hl=>(by have hl':us.length=2:=(by have h:=hl;unfold dP at h;rw[Xam] at h;have h2:(["self","word"]:List Str).length=2:=rfl;simp only[Xaw,XaZ] at h;omega);exact(by apply ln2 us hl';intro _ _;exact{_,O,O}))) (Vals.dP (show Vals ([]:List V) ([]:List Value) from .nil)))
 have o4:FnOk l.prog w K mg base CX0 3 ba _ ["self","room"] (spMkP af):=zem (C:=af) dI T N am aB ow aY
 have o5:Mak l.prog w K mg base 3 "Pipe" af [] (dP []) (spMkP af):=zes (mo ki) kY k4 k7 kZ o4 (dI.kbinds (ps:=["self","room"]) (ks:=[]) (g:=dP []) k6 O (λ_ _ _ _ _ _ us ws hl=>(by have hl':us.length=2:=(by have h:=hl;unfold dP at h;rw[Xam] at h;have h2:(["self","room"]:List Str).length=2:=rfl;simp only[Xaw,XaZ] at h;omega);exact(by apply ln2 us hl';intro _ _;exact{_,O,O}))) (Vals.dP (show Vals ([]:List V) ([]:List Value) from .nil)))
 have ML:∀kd,kd<5->Mth l.prog w K mg base 1 ((csOf ac ad aa ae af) kd) "__len__" [] (λvs _=>vs) (spLen ((csOf ac ad aa ae af) kd) (lenK kd)):=λkd h=>by
  rcases(show kd=0\/kd=1\/kd=2\/kd=3\/kd=4 by omega) with rfl|rfl|rfl|rfl|rfl
  .exact fh
  .exact fk
  .exact fq
  .exact fA
  .exact fE
 have MW:∀kd,kd<5->Mth l.prog w K mg base 5 ((csOf ac ad aa ae af) kd) "write" [] (λvs _=>vs) (spW25 (csOf ac ad aa ae af) kd):=λkd h=>by
  rcases(show kd=0\/kd=1\/kd=2\/kd=3\/kd=4 by omega) with rfl|rfl|rfl|rfl|rfl
  .exact za3 oC (zgE (cs:=(csOf ac ad aa ae af)) (.inl O))
  .exact za3 oG (zl1 (cs:=(csOf ac ad aa ae af)))
  .exact za3 oK (zgE (cs:=(csOf ac ad aa ae af)) (.inr (.inl O)))
  .exact za3 oO (zgE (cs:=(csOf ac ad aa ae af)) (.inr (.inr O)))
  .exact za3 oR (w_pipe (cs:=(csOf ac ad aa ae af)))
 have MR:∀kd,kd<5->Mth l.prog w K mg base 5 ((csOf ac ad aa ae af) kd) "read" [] (λvs _=>vs) (spR26 (csOf ac ad aa ae af) kd):=λkd h=>by
  rcases(show kd=0\/kd=1\/kd=2\/kd=3\/kd=4 by omega) with rfl|rfl|rfl|rfl|rfl
  .exact za3 oB (zeh (cs:=(csOf ac ad aa ae af)) (.inl O))
  .exact za3 oF (zeh (cs:=(csOf ac ad aa ae af)) (.inr (.inl O)))
  .exact za3 oJ (zeh (cs:=(csOf ac ad aa ae af)) (.inr (.inr O)))
  .exact za3 oN (zi4 (cs:=(csOf ac ad aa ae af)))
  .exact za3 oQ (zkE (cs:=(csOf ac ad aa ae af)))
 have MK:∀kd,kd<5->Mth l.prog w K mg base 5 ((csOf ac ad aa ae af) kd) "look" [] (λvs _=>vs) (spL26 (csOf ac ad aa ae af) kd):=λkd h=>by
  rcases(show kd=0\/kd=1\/kd=2\/kd=3\/kd=4 by omega) with rfl|rfl|rfl|rfl|rfl
  .exact za3 (fj.mono (by decide)) (zcl (cs:=(csOf ac ad aa ae af)) (by decide))
  .exact za3 (fo.mono (by decide)) (zcl (cs:=(csOf ac ad aa ae af)) (by decide))
  .exact za3 (fw.mono (by decide)) (zcl (cs:=(csOf ac ad aa ae af)) (by decide))
  .exact za3 (fD.mono (by decide)) (zcl (cs:=(csOf ac ad aa ae af)) (by decide))
  .exact za3 (fG.mono (by decide)) (zk5 (cs:=(csOf ac ad aa ae af)))
 have o6:=cm (zic (cs:=(csOf ac ad aa ae af)) dJ T n0 (mo dm) (zcr lc) (λe=>.ins e ak.cl k8 aP aQ k9) ML) (mo ld) dJ.kp (by walk_at"bd")
 have o7:=cm (zg3 (cs:=(csOf ac ad aa ae af)) dL T N aR n9 o6) (mo le) dL.kp (by walk_at"bd")
 have o8:=cm (zfs dM T om) (mo lf) dM.kp (by walk_at"bd")
 have pb:FnOk l.prog w K mg base CX0 7 bc _ ["self","bits","rows","chips","floating"] (spInitB ag (csOf ac ad aa ae af)):=zdP (C:=ag) dO T (mn zS) aj o7 o8 aI
 have pc:Mak l.prog w K mg base 7 "Board" ag [] (dP []) (spInitB ag (csOf ac ad aa ae af)):=zes (mo lg) lh lj lm li pb (dO.kbinds (ps:=["self","bits","rows","chips","floating"]) (ks:=[]) (g:=dP []) ll O (λ_ _ _ _ _ _ us ws hl=>(by have hl':us.length=5:=(by have h:=hl;unfold dP at h;rw[Xam] at h;have h2:(["self","bits","rows","chips","floating"]:List Str).length=5:=rfl;simp only[Xaw,XaZ] at h;omega);exact(by apply ln5 us hl';intro _ _ _ _ _;exact{_,O,O}))) (Vals.dP (show Vals ([]:List V) ([]:List Value) from .nil)))
 have sk:∀es:Array DictEntry,es.toList.all (λe=>match e.key with|.str _ _=>true|_=>false)=true->StrKeys es:=λes h e he=>strKey (XbQ.mp h e (Array.mem_toList_iff.mpr he))
 have xc:XCls K ah:={{_,_,_,_,xl},c1_,c2_,c3_,c4_,c5_}
 have GS:SupI K mg "BusError" := {{aE,mo lr,s1_,s2_,s3_}}
 have fH:ExcI K ah aL:={{_,_,_,_,_,_,_,_,_,_,_,_,_,_,_,xl,{_,_,_,_,_,xn,sk _ xs,lx},.own yl {_,_,_,_,_,yn,sk _ ys,yi} .base},xa}
 have pd:XIni l.prog w K mg base 1 "NoAddress" ah (spNaI ah):=by
  obtain⟨oI,h1,h2⟩:=zjO lz
  exact{mo lq,aL,_,_,oI,fH,⟨h1,h2⟩,zcu ly T GS fH lw,(by walk_at"bd")}
 have fJ:=mm aj.cls lA lB dQ.kp (zeo (C:=ag) dQ T aj aR fe) (by walk_at"bd")
 have pe:FnOk l.prog w K mg base (CX1 l.prog w) 3 bd _ ["self","address"] (spChkAdX ag ah):=zcj (C:=ag) (CT:=ah) dR T fJ pd
 have fK:=zjt aj.cls lC lD dR.kp pe (by walk_at"bd")
 have qh:=fK.calm
 have MK2:=MK 2 (by decide)
 have pf:FnOk l.prog w K mg base (CX1 l.prog w) 6 be _ ["self","address"] (spWhoX ag ah (csOf ac ad aa ae af)):=zhb (C:=ag) (CT:=ah) (cs:=(csOf ac ad aa ae af)) dS T aj ot oh fK MK2
 have fL:=zjt aj.cls lE lF dS.kp pf (by walk_at"bd")
 have fM:=fL.calm
 have ph:=mm aj.cls lG lH dU.kp (zeK (C:=ag) dU T aj) (by walk_at"bd")
 have pk:FnOk l.prog w K mg base CX0 1 bf _ ["self","mask","want","kind"] (spWtI K ai):=zdK (C:=ai) dW T bn
 have pq:Mak l.prog w K mg base 1 "Watch" ai [] (dP []) (spWtI K ai):=zes (mo lI) lJ lL lM lK pk (dW.kbinds (ps:=["self","mask","want","kind"]) (ks:=[]) (g:=dP []) (λ_ _ _ _ _ _ us ws hl=>(by have hl':us.length=4:=(by have h:=hl;unfold dP at h;rw[Xam] at h;have h2:(["self","mask","want","kind"]:List Str).length=4:=rfl;simp only[Xaw,XaZ] at h;omega);exact(by apply ln4 us hl';intro _ _ _ _;exact O))) (Vals.dP (show Vals ([]:List V) ([]:List Value) from .nil)))
 have pr:=mm bn.cls lN lO dX.kp (zf2 (C:=ai) dX T N bn) (by walk_at"bd")
 have fN:=mm aj.cls lP lQ dY.kp (zep (C:=ag) dY T aj) (by walk_at"bd")
 have fO:=mm aj.cls lR lS dZ.kp (zeL (C:=ag) (CW:=ai) dZ T aj pr) (by walk_at"bd")
 have bU:FnOk l.prog w K mg base (CX1 l.prog w) 7 bg _ ["self","address","quiet"] (spRdX ag ah ai (csOf ac ad aa ae af)):=zf5 (C:=ag) (CT:=ah) (CW:=ai) (cs:=(csOf ac ad aa ae af)) aG T N aj fL fN fO MK MR
 have pw:MthX l.prog w K mg base 7 ag "read" [] (dP [.bl false]) (spRdX ag ah ai (csOf ac ad aa ae af)):=zfx aj.cls bQ bS aG.kp bU (aG.kbinds (ps:=["self","address","quiet"]) (ks:=[]) (g:=dP [.bool false]) bR O (λ_ _ _ _ _ _ us ws hl=>(by have hl':us.length=2:=(by have h:=hl;unfold dP at h;rw[Xam] at h;have h2:(["self","address","quiet"]:List Str).length=3:=rfl;simp only[Xaw,XaZ] at h;omega);exact(by apply ln2 us hl';intro _ _;exact{_,O,O}))) (Vals.dP (show Vals [V.bl false] [Value.bool false] from .cons O .nil)))
 have py:=pw.calm
 have pz:MthX l.prog w K mg base 7 ag "read" [] (dP []) (spRdX ag ah ai (csOf ac ad aa ae af)):=zfx aj.cls bQ bS aG.kp bU (aG.kbinds (ps:=["self","address","quiet"]) (ks:=[]) (g:=dP []) bR O (λ_ _ _ _ _ _ us ws hl=>(by have hl':us.length=3:=(by have h:=hl;unfold dP at h;rw[Xam] at h;have h2:(["self","address","quiet"]:List Str).length=3:=rfl;simp only[Xaw,XaZ] at h;omega);exact(by apply ln3 us hl';intro _ _ _;exact{_,O,O}))) (Vals.dP (show Vals ([]:List V) ([]:List Value) from .nil)))
 have pA:=pz.calm
 have pB:MthX l.prog w K mg base 7 ag "read" ["quiet"] k21 (spRdX ag ah ai (csOf ac ad aa ae af)):=zfx aj.cls bQ bS aG.kp bU (aG.kbinds (ps:=["self","address","quiet"]) (ks:=["quiet"]) (g:=k21) bR O (λ_ _ _ _ _ _ us ws hl=>(match us,ws,hl with|[_,_],[_],_=>⟨_,rfl,rfl⟩|[],_,h=>nomatch h|[_],_,h=>nomatch h|[_,_],[],h=>nomatch h|[_,_],_::_::_,h=>nomatch h|_::_::_::_,_,h=>nomatch h)) zko)
 have pC:=pB.calm
 have pD:=mm aj.cls lT lU d3.kp (zfv (C:=ag) (CT:=ah) (CW:=ai) (cs:=(csOf ac ad aa ae af)) d3 T N aI fM fN fO MW) (by walk_at"bd")
 have pE:FnOk l.prog w K mg base CX0 4 bh _ ["self","mask","want","kind"] (spWatchC ag ai):=zfw (C:=ag) (CW:=ai) bT T N aj fJ pq
 have pF:Mth l.prog w K mg base 4 ag "watch" [] (dP [.str "both"]) (spWatchC ag ai):=zju aj.cls lV lX bT.kp pE (bT.kbinds (ps:=["self","mask","want","kind"]) (ks:=[]) (g:=dP [.str "both" bI]) lW O (λ_ _ _ _ _ _ us ws hl=>(by have hl':us.length=3:=(by have h:=hl;unfold dP at h;rw[Xam] at h;have h2:(["self","mask","want","kind"]:List Str).length=4:=rfl;simp only[Xaw,XaZ] at h;omega);exact(by apply ln3 us hl';intro _ _ _;exact{_,O,O}))) (Vals.dP (show Vals [V.str "both"] [Value.str "both" bI] from .cons {_,O} .nil)))
 have pG:=mm aj.cls lY lZ d4.kp (zcP (C:=ag) (CW:=ai) d4 T aj) (by walk_at"bd")
 have pH:=mm aj.cls l5 l7 d5.kp (zf6 (C:=ag) (CW:=ai) d5 T aj bn pG) (by walk_at"bd")
 have CK5:∀kd,kd<5->ClsOk K ((csOf ac ad aa ae af) kd):=λkd h=>by
  rcases(show kd=0\/kd=1\/kd=2\/kd=3\/kd=4 by omega) with rfl|rfl|rfl|rfl|rfl
  .exact aq
  .exact au
  .exact ak
  .exact al
  .exact am
 have TY5:∀kd,kd<5->TyC K ((csOf ac ad aa ae af) kd) ar:=λkd h=>by
  rcases(show kd=0\/kd=1\/kd=2\/kd=3\/kd=4 by omega) with rfl|rfl|rfl|rfl|rfl
  .exact{l8,aP,aQ,l9,zcr ma}
  .exact{mh,aP,aQ,mi,zcr mj}
  .exact{mr,aP,aQ,mv,zcr mw}
  .exact{mz,aP,aQ,mC,zcr mD}
  .exact{mG,aP,aQ,mH,zcr mI}
 have NE5:∀kd,kd<5->NeOk K ((csOf ac ad aa ae af) kd):=λkd h=>by
  rcases(show kd=0\/kd=1\/kd=2\/kd=3\/kd=4 by omega) with rfl|rfl|rfl|rfl|rfl
  .exact⟨me,mf⟩
  .exact⟨ml,mq⟩
  .exact⟨mx,my⟩
  .exact⟨mE,mF⟩
  .exact⟨mJ,mK⟩
 have pI:=mm aq.cl mL aW ax.kp (za8 (cs:=(csOf ac ad aa ae af)) (kd:=0) ax T (by decide) CK5 TY5 (mo aM)) (by walk_at"bd")
 have pJ:=mm au.cl mM aW ax.kp (za8 (cs:=(csOf ac ad aa ae af)) (kd:=1) ax T (by decide) CK5 TY5 (mo aM)) (by walk_at"bd")
 have pK:=mm ak.cl mO aW ax.kp (za8 (cs:=(csOf ac ad aa ae af)) (kd:=2) ax T (by decide) CK5 TY5 (mo aM)) (by walk_at"bd")
 have pL:=mm al.cl mP aW ax.kp (za8 (cs:=(csOf ac ad aa ae af)) (kd:=3) ax T (by decide) CK5 TY5 (mo aM)) (by walk_at"bd")
 have pM:=mm am.cl mQ aW ax.kp (za8 (cs:=(csOf ac ad aa ae af)) (kd:=4) ax T (by decide) CK5 TY5 (mo aM)) (by walk_at"bd")
 have ME:∀kd,kd<5->Mth l.prog w K mg base 1 ((csOf ac ad aa ae af) kd) "__eq__" [] (λvs _=>vs) (spCEq (csOf ac ad aa ae af) kd):=λkd h=>by
  rcases(show kd=0\/kd=1\/kd=2\/kd=3\/kd=4 by omega) with rfl|rfl|rfl|rfl|rfl
  .exact pI
  .exact pJ
  .exact pK
  .exact pL
  .exact pM
 have pN:=cm (zfZ d6 T) (mo mR) d6.kp (by walk_at"bd")
 have pO:=cm (zg7 d7 T) (mo mS) d7.kp (by walk_at"bd")
 have pP:Cal l.prog w K mg base 0 "_law_same" ["found","due"] (λ_ _ _ _=>False):={bL,cD,{λ_ _ _ _ h=>h.elim,λ_ _ _ _ _ _ _ _ _ _ _ _ _ h=>h.elim},mo bo,aH.kp,(by walk_at"bd")}
 have pQ:Cal l.prog w K mg base 1 "_law_same" ["found","due"] (spSameL 0):=zhU (zcN aH T pP (λk e=>by cases e<;>rfl)) (mo bo) aH.kp (by walk_at"bd")
 have pR:Cal l.prog w K mg base 2 "_law_same" ["found","due"] (spSameL 1):=zhU (zcN aH T pQ (λk e=>by cases e<;>rfl)) (mo bo) aH.kp (by walk_at"bd")
 have fP:Cal l.prog w K mg base 3 "_law_same" ["found","due"] (spSameL 2):=zhU (zcN aH T pR (λk e=>by cases e<;>rfl)) (mo bo) aH.kp (by walk_at"bd")
 have pS:=cm (zij d8 T pO) (mo mT) d8.kp (by walk_at"bd")
 have pT:=cm (zg5 d9 T) (mo mU) d9.kp (by walk_at"bd")
 have pU:=cm (zg8 (cs:=(csOf ac ad aa ae af)) eB T oW o5 oY o3 oU) (mo mV) eB.kp (by walk_at"bd")
 have pV:=cm (zf0 (cs:=(csOf ac ad aa ae af)) eF T pU) (mo mW) eF.kp (by walk_at"bd")
 have pW:=cm (zih (cs:=(csOf ac ad aa ae af)) eG T pS pT) (mo mX) eG.kp (by walk_at"bd")
 have pX:=cm (zg6 eJ T (mn zS)) (mo mY) eJ.kp (by walk_at"bd")
 have pY:=cm (zii (cs:=(csOf ac ad aa ae af)) eK T pW pX) (mo mZ) eK.kp (by walk_at"bd")
 have pZ:=cm (zf1 (cs:=(csOf ac ad aa ae af)) eN T pV pY) (mo m3) eN.kp (by walk_at"bd")
 have qa:=cm (zeI eQ T) (mo m5) eQ.kp (by walk_at"bd")
 have qc:=cm (zft eU T) (mo m6) eU.kp (by walk_at"bd")
 have qd:=cm (zeH eZ T) (mo m7) eZ.kp (by walk_at"bd")
 have qe:=cm (zdJ fb T fP) (mo m8) fb.kp (by walk_at"bd")
 exact oklaw (C:=ag) (CA:=ah) (CT:=ah) (CW:=ai) (cs:=(csOf ac ad aa ae af)) nZ T pN pZ qc qd pc pF qa qe fM fP pD py pA pC ML MW ME NE5 ph pH
def walk{l:W.OpenLaw}{q:Program}{loose:List Str}{XP:(Str->Option Value)->Heap->Prop}{YP:World->Heap->Prop}{d:DefRec}{K:Params->W.Frag}(hn:l.most=some 63)(hdf:d.params.defaults=[])
  (hY:∀(w:World) (h:Heap),YP w h->(K w.params).In h)
  (F:∀(w:World) (mg:Str->Option Value) (fa:Addr) (h:Heap),(K w.params).In h->h.Ns mainGlobals mg->mg d.name=some (.ref fa) ->
   ∃fd:FuncData,(∀(s:Shared) (u:Value),BindsTo s fd {[u],[]} [("script",u)])/\∀base:Heap,(K w.params).In base->base.Ns mainGlobals mg->FnOk l.prog w (K w.params) mg base CX0 10 fa fd ["script"] (spLaw (K w.params))) :
  W.WalkO q loose XP YP l.row.toRowW d [] (λf vs=>PySem.call f vs):=
 L2.walk_ofB (n:=63) (k:=10) (x := "script") (CX:=λ_=>CX0) (sp:=λw=>spLaw (K w.params)) hn (by decide) hdf {O,by decide,by decide,O} hY F (λ_ _ a ns hl hb _ hS=>{a,ns,O,hS,hl,hb,λ_=>O}) λ_ _ _ _ _ z=>z
end Cb
open PySem PySem.W PyProof.Rows Cb L2
local macro_rules|`(tactic| walk_at"fm")=>`(tactic| (refine' zlN ?l ?c ?k;(case l=>k_is);(case c=>k_is);(case k=>k_is)))
local macro_rules|`(tactic| walk_at"fd")=>`(tactic| (refine' zmP ?l ?c ?k;(case l=>k_is);(case c=>k_is);(case k=>k_is)))
local macro_rules|`(tactic| walk_at"na")=>`(tactic| (show W.findIn _ _ _=_;k_is))
local macro_rules|`(tactic| walk_at"nr")=>`(tactic| (show W.nsIn _ _ _=some (some _);k_is))
local macro_rules|`(tactic| walk_at"nf")=>`(tactic| (show W.findIn _ _ _=some (some _);k_is))
local macro_rules|`(tactic| walk_at"ni")=>`(tactic| (show W.isFn _ _=true;k_is))
local macro_rules|`(tactic| walk_at"cs")=>`(tactic| exact{by k_is,by k_is,by k_is,by k_is})
local macro_rules|`(tactic| walk_at"cl")=>`(tactic| exact{by walk_at"cs",by walk_at"na",by walk_at"na",by walk_at"na"})
local macro_rules|`(tactic| walk_at"cb")=>`(tactic| exact{by walk_at"cs",by walk_at"na",by walk_at"na",by walk_at"na",by walk_at"na",by walk_at"na",by walk_at"na",by walk_at"na"})
local macro_rules|`(tactic| walk_at"cw")=>`(tactic| exact{by walk_at"cs",by walk_at"na",by walk_at"na",by walk_at"na",by walk_at"na"})
local macro_rules|`(tactic| walk_at"cv")=>`(tactic| exact{by walk_at"cs",by walk_at"na",by walk_at"na",by walk_at"na",by walk_at"na",by walk_at"na",by walk_at"na"})
set_option maxRecDepth 1000000 in
set_option maxHeartbeats 0 in
theorem PySem.Challenge.cw_chipbus_k44_whole_turned_about_holds : PySem.Challenge.rw_chipbus_k44_whole_turned_about.Holds := by
 refine Hd.top ?_
 k_fill
 refine Cb.walk (l:=PySem.Challenge.rw_chipbus_k44_whole_turned_about) O O (λw h Y=>PySem.W.kIn_of Y) ?F
 case F =>
  intro w mg fa h KX G hmg
  refine' Cb.all_mk KX G hmg ?_ ?_ ?_ ?_ ?_ ?_ ?_ ?_ ?_ ?_ ?_ ?_ ?_ ?_ ?_ ?_ ?_ ?_ ?_ ?_ ?_ ?_ ?_ ?_ ?_ ?_ ?_ ?_ ?_ ?_ ?_ ?_ ?_ ?_ ?_ ?_ ?_ ?_ ?_ ?_ ?_ ?_ ?_ ?_ ?_ ?_ ?_ ?_ ?_ ?_ ?_ ?_ ?_ ?_ ?_ ?_ ?_ ?_ ?_ ?_ ?_ ?_ ?_ ?_ ?_ ?_ ?_ ?_ ?_ ?_ ?_ ?_ ?_ ?_ ?_ ?_ ?_ ?_ ?_ ?_ ?_ ?_ ?_ ?_ ?_ ?_ ?_ ?_ ?_ ?_ ?_ ?_ ?_ ?_ ?_ ?_ ?_ ?_ ?_ ?_ ?_ ?_ ?_ ?_ ?_ ?_ ?_ ?_ ?_ ?_ ?_ ?_ ?_ ?_ ?_ ?_ ?_ ?_ ?_ ?_ ?_ ?_ ?_ ?_ ?_ ?_ ?_ ?_ ?_ ?_ ?_ ?_ ?_ ?_ ?_ ?_ ?_ ?_ ?_ ?_ ?_ ?_ ?_ ?_ ?_ ?_ ?_ ?_ ?_ ?_ ?_ ?_ ?_ ?_ ?_ ?_ ?_ ?_ ?_ ?_ ?_ ?_ ?_ ?_ ?_ ?_ ?_ ?_ ?_ ?_ ?_ ?_ ?_ ?_ ?_ ?_ ?_ ?_ ?_ ?_ ?_ ?_ ?_ ?_ ?_ ?_ ?_ ?_ ?_ ?_ ?_ ?_ ?_ ?_ ?_ ?_ ?_ ?_ ?_ ?_ ?_ ?_ ?_ ?_ ?_ ?_ ?_ ?_ ?_ ?_ ?_ ?_ ?_ ?_ ?_ ?_ ?_ ?_ ?_ ?_ ?_ ?_ ?_ ?_ ?_ ?_ ?_ ?_ ?_ ?_ ?_ ?_ ?_ ?_ ?_ ?_ ?_ ?_ ?_ ?_ ?_ ?_ ?_ ?_ ?_ ?_ ?_ ?_ ?_ ?_ ?_ ?_ ?_ ?_ ?_ ?_ ?_ ?_ ?_ ?_ ?_ ?_ ?_ ?_ ?_ ?_ ?_ ?_ ?_ ?_ ?_ ?_ ?_ ?_ ?_ ?_ ?_ ?_ ?_ ?_ ?_ ?_ ?_ ?_ ?_ ?_ ?_ ?_ ?_ ?_ ?_ ?_ ?_ ?_ ?_ ?_ ?_ ?_ ?_ ?_ ?_ ?_ ?_ ?_ ?_ ?_ ?_ ?_ ?_ ?_ ?_ ?_ ?_ ?_ ?_ ?_ ?_ ?_ ?_ ?_
  all_goals first|walk_at"nr" | walk_at"fm" | walk_at"cl" | walk_at"nf" | walk_at"ni" | walk_at"fd" | walk_at"cb" | walk_at"cw" | k_is|rfl|(intro _;rfl)|skip
#print axioms PySem.Challenge.cw_chipbus_k44_whole_turned_about_holds
