import PyProof.Rows.All
import Wide.All
import OpenK.AllK
import Wide.FinOn
import Lean
import PyProof.EqAt
import PyProof.EqKinds
import PyProof.TupleCall
import PyProof.NeKinds
import PyProof.DelItemList
import PyProof.StationsW
import PyProof.Rows.Own
import PyProof.RulesDel
import PyProof.RulesAs
import PyProof.ExcBaseAll.ValueError
import KE.KTryMore
import PyProof.ExcArgs
import KE.KIsAll
import PyProof.ListRange
import PyProof.Rows.RuleM_int
import PyProof.Draws
import PyProof.EnumMake
import KE.KDictSum
import KE.KItemsList
import KE.KSortTup
import PyProof.MinMaxWalk
import PyProof.WalkInts
import PyProof.CallTypeRange
import KE.KEqDict
import PyProof.FitsInt
import PyProof.Rows.StrNews
import KE.KIntText
import PyProof.StrWalks
import PyProof.Rows.StrRules
import KE.KUnpackStar
import PyProof.StrLawsTight
import PyProof.StrLawsChain
import PyProof.Rows.StrClose
import PyProof.SetRoads
import PyProof.DictCompW
import PyProof.ReprRoads
import PyProof.ReprLen
import PyProof.AttrMissHeap
import KE.KDictOf
import PyProof.DictWalks
import PyProof.SeqI3
import PySem.Challenge.RW_chipbus_k32_no_map
set_option genSizeOf false
set_option bootstrap.genMatcherCode false
set_option tactic.hygienic false
section
open PySem PySem.W PySem.Spec PyProof.Rows
def Xaa:=@wpAny_bind
def Xab:=@List.mem_singleton
def Xac:=@wpAny_pure
def Xad:=@Heap.get?_push_of_some
def Xae:=@List.getElem?_eq_some_iff
def Xaf:=@Nat.le_refl
def Xag:=@decide_eq_false
def Xah:=@List.length_map
def Xai:=@decide_eq_true
def Xaj:=@Nat.lt_of_lt_of_le
def Xak:=@Int.toNat_natCast
def Xal:=@List.size_toArray
def Xam:=@Heap.get?_push_size
def Xan:=@Heap.lt_size
def Xao:=@Bool.false_ne_true
def Xap:=@List.mem_cons
def Xaq:=@List.length_append
def Xar:=@Nat.le_trans
def Xas:=@wpAny_mono
def Xat:=@List.getElem?_map
def Xau:=@List.getElem?_eq_getElem
def Xav:=@Nat.ne_of_lt
def Xaw:=@List.length_cons
def Xax:=@List.mem_cons_of_mem
def Xay:=@List.mem_append_right
def Xaz:=@Nat.lt_of_le_of_lt
def XaA:=@Nat.testBit_and
def XaB:=@List.mem_of_getElem?
def XaC:=@List.mem_map
def XaD:=@Bool.and_eq_true
def XaE:=@List.mem_cons_self
def XaF:=@List.mem_append
def XaG:=@Heap.get?_update_other
def XaH:=@Heap.get?_update_self
def XaI:=@Array.getElem?_eq_getElem
def XaJ:=@Option.map_eq_some_iff
def XaK:=@wpAny_holding
def XaL:=@wpAny_newObj_type
def XaM:=@Nat.pow_le_pow_right
def XaN:=@List.map_cons
def XaO:=@of_decide_eq_true
def XaP:=@Nat.lt_of_succ_lt
def XaQ:=@wpAny_setField
def XaR:=@List.getElem?_eq_none
def XaS:=@wpAny_truthy_bool
def XaT:=@Nat.lt_irrefl
def XaU:=@Heap.size_push
def XaV:=@List.map_append
def XaW:=@List.length_take
def XaX:=@List.take_of_length_le
def XaY:=@wpAny_askSetting
def XaZ:=@List.replicate_succ
def Xa0:=@Nat.mod_lt
def Xa1:=@wpAny_Call_Name_kw
def Xa2:=@Nat.lt_succ_self
def Xa3:=@List.length_drop
def Xa4:=@wpAny_call_entry
def Xa5:=@List.all_eq_true
def Xa6:=@Nat.testBit_succ
def Xa7:=@List.getElem_toArray
def Xa8:=@wpAny_field
def Xa9:=@wpAny_setState_of
def Xba:=@List.nodup_append
def Xbb:=@List.append_nil
def Xbc:=@List.length_nil
def Xbd:=@Nat.not_lt_zero
def Xbe:=@List.length_replicate
def Xbf:=@List.map_map
def Xbg:=@Nat.pow_succ
def Xbh:=@wpAny_standAt
def Xbi:=@Array.getElem?_eq_some_iff
def Xbj:=@Array.getElem?_toList
def Xbk:=@Int.emod_lt_of_pos
def Xbl:=@List.mem_append_left
def Xbm:=@wpAny_call
def Xbn:=@codeAny_mono
def Xbo:=@List.mem_of_mem_drop
def Xbp:=@List.mem_of_mem_take
def Xbq:=@Nat.two_pow_pos
def Xbr:=@List.mem_singleton_self
def Xbs:=@Nat.testBit_two_pow
def Xbt:=@Nat.lt_trans
def Xbu:=@wpAny_passesOwn
def Xbv:=@Int.emod_nonneg
def Xbw:=@Heap.get?_none_of_le
def Xbx:=@List.getElem?_append_left
def Xby:=@Nat.le_succ
def Xbz:=@List.nodup_nil
def XbA:=@List.getElem_mem
def XbB:=@Nat.and_le_right
def XbC:=@List.nodup_cons
def XbD:=@List.getElem?_set_self
end
set_option Elab.async false
set_option linter.all false
set_option maxRecDepth 100000
set_option maxHeartbeats 4000000
local macro_rules | `(tactic| omega)=>`(tactic| lia)
section
set_option maxRecDepth 1000000
set_option maxHeartbeats 0
namespace Hd
open PySem PySem.W
noncomputable def runQ (p:Program)(w:World)(n₀:Nat)(ann:Option Value)(N:Nat):SharedT→Thread→Option SharedT:=
 @Nat.rec (fun _=>SharedT→Thread→Option SharedT) (fun _ _=>none) (fun _ ih s t=>match through t with
  | true=>some s
  | false=>match Fast.tw6613529449190102663 n₀ ann t with
   | false=>none
   | true=>match Fast.tw10156331382660048174 (Fast.tw11892475500146522536 Fast.tw14364793385576792824) p w s t with
    | some (s',t')=>ih s' t'
    | none=>none) N
theorem zjp {p:Program}{w:World}{n₀:Nat}{ann:Option Value}:∀ {N:Nat} {s s':SharedT} {t:Thread},runQ p w n₀ ann N s t=some s'→topRun treeTable p w n₀ ann N s.abs t=some s'.abs
 | 0,s,s',t,h=>by cases h
 | N+1,s,s',t,h=>by
  have h:(match through t with
  | true=>some s
  | false=>match Fast.tw6613529449190102663 n₀ ann t with
   | false=>none
   | true=>match Fast.tw10156331382660048174 (Fast.tw11892475500146522536 Fast.tw14364793385576792824) p w s t with
    | some (s',t')=>runQ p w n₀ ann N s' t'
    | none=>none)=some s':=h
  rw [← Fast.te6613529449190102663,← Fast.te10156331382660048174,← Fast.te11892475500146522536,← Fast.te14364793385576792824] at h
  unfold topRun
  cases ht:through t with
  | true=>rw [ht] at h;cases h;rfl
  | false =>
   rw [ht] at h
   cases hk:stepOk n₀ ann t with
   | false=>rw [hk] at h;cases h
   | true =>
    rw [hk] at h
    cases hs:stepT (denote treeTable) p w s t with
    | none=>rw [hs] at h;cases h
    | some r=>obtain ⟨s₂,t₂⟩:=r;rw [hs] at h;dsimp only;rw [stepT_spec hs];exact zjp h
noncomputable def treeL:List Obj→Nat→BT→BT:=@List.rec Obj (fun _=>Nat→BT→BT) (fun _ t=>t) (fun o _ ih n t=>ih (n+1) (t.ins n o))
noncomputable def zkF (P:Params):BT:=treeL (boot_heap P).objs.toList 0 .nil
theorem zjj (P:Params):absHeap (zkF P) 11 (boot_heap P).life=boot_heap P:=by kernel_rfl
theorem zil (P:Params):((boot_heap P).isNs mainGlobals && (Array.mk []:Array GenState).size == 0,(boot_heap P).objs.size,(boot_heap P).nsMap mainGlobals "__annotations__")=(true,11,some (.ref 6)):=by kernel_rfl
noncomputable def zex (P:Params)(os:OsState):SharedT:=⟨zkF P,11,(boot_heap P).life,Array.mk [],boot_drawn,boot_toks,os⟩
noncomputable def getT (s:SharedT)(a:Addr):Option Obj:=match Nat.blt a s.n with
 | true=>match s.tree.get a with
  | some o=>alive o
  | none=>none
 | false=>none
theorem zkw {s:SharedT}{a:Addr}{o:Obj}(h:getT s a=some o):s.abs.heap.get? a=some o:=by
 unfold getT at h
 cases e:Nat.blt a s.n with
 | false=>rw [e] at h;cases h
 | true =>
  rw [e] at h
  cases g:s.tree.get a with
  | none=>rw [g] at h;cases h
  | some x=>rw [g] at h;exact (abs_get (Nat.le_of_ble_eq_true e) g).trans h
theorem zgk {s:SharedT}:∀ {as:List Addr} {L:List (Nat×Obj)},as.map (getT s)=L.map (fun p=>some p.2)→as.map s.abs.heap.get? = L.map (fun p=>some p.2)
 | [],[],_=>rfl
 | [],_ :: _,h=>by cases h
 | _ :: _,[],h=>by cases h
 | a :: as,p :: L,h=>by
  obtain ⟨h1,h2⟩:=List.cons.inj h
  exact List.cons_eq_cons.mpr ⟨zkw h1,zgk h2⟩
abbrev zgr (p q:Program)(loose:List Str)(Xt:Shared→Bool)(N:Nat)(g0:Bool)(w:World)(os:OsState):Prop:=(runQ p w 11 (some (.ref 6)) N (zex w.params os) (topStub p)).map (fun s =>
   ((staticsOk (importedModules p.main.body) (boot_heap w.params) s.abs.heap && namesBound p s.abs.heap && gensDone s.abs && laidKept (boot_heap w.params) s.abs.heap),openSeen q loose (importedModules p.main.body) Xt g0 s.abs))=some (true,openGood q loose)
def zjN (p q:Program)(loose:List Str)(Xt:Shared→Bool)(N:Nat)(g0:Bool):Prop:=∀ (w:World) (os:OsState),zgr p q loose Xt N g0 w os
def SeenF (row:String)(b:Bool)(p q:Program)(loose:List Str)(Xt:Shared→Bool)(N:Nat)(g0:Bool):Prop:=∀ (w:World) (os:OsState),zgr p q loose Xt N g0 (w.withFollow row b) os
theorem zfR {p q:Program}{loose:List Str}{Xt:Shared→Bool}{K:Params→Frag}{as:List Addr}{ex:∀ P,as=(K P).map (·.1)}{N:Nat}{g0:Bool}{w:World}(h:∀ os,zgr p q loose Xt N g0 w os)(e:opening p=plainProg p.main.scope.names)(f:∀ s,fenceModules? p s=some s)(hN:Nat.ble 600 N=true)
  (hK:∀ os:OsState,(runQ p w 11 (some (.ref 6)) N (zex w.params os) (topStub p)).map (fun s=>as.map (getT s))=some ((K w.params).map fun p=>some p.2)) :
  (openEnds treeTable p w N).map (fun s=>(openSeen q loose (importedModules p.main.body) Xt g0 s,(kHook K as ex).obs s))=some (openGood q loose,(kHook K as ex).val w):=by
 have ho:=boot_open e hN f w
 obtain ⟨⟨hh,gs,d,k,os⟩,e1,e2⟩:=XaJ.mp ho
 obtain ⟨rfl,rfl,rfl,rfl⟩:hh=boot_heap w.params∧gs=Array.mk []∧d=boot_drawn∧k=boot_toks:=by simpa using e2
 obtain ⟨z1,z2,z3⟩:_∧_∧_:=by simpa only [Prod.mk.injEq] using zil w.params
 obtain ⟨s,r,l⟩:=XaJ.mp (h os)
 obtain ⟨s',r',l'⟩:=XaJ.mp (hK os)
 rw [r] at r'
 cases r'
 have l3:=zgk l'
 obtain ⟨l1,l2⟩:_∧_:=by simpa only [Prod.mk.injEq] using l
 have r:=zjp r
 have ea:(zex w.params os).abs=⟨boot_heap w.params,Array.mk [],boot_drawn,boot_toks,os⟩:=by
  show (⟨absHeap (zkF w.params) 11 (boot_heap w.params).life,Array.mk [],boot_drawn,boot_toks,os⟩:Shared)=_
  rw [zjj]
 rw [ea] at r
 have t:topFrom treeTable p w N ⟨boot_heap w.params,Array.mk [],boot_drawn,boot_toks,os⟩=some s.abs:=by
  unfold topFrom
  dsimp only
  rw [z1,z2,z3,r]
  show (match staticsOk (importedModules p.main.body) (boot_heap w.params) s.abs.heap && namesBound p s.abs.heap && gensDone s.abs && laidKept (boot_heap w.params) s.abs.heap with | true=>_ | false=>_)=_
  rw [l1]
 unfold openEnds
 rw [e1]
 show (topFrom treeTable p w N _).map _=_
 rw [t]
 exact congrArg some (Prod.ext l2 l3)
open PySem.Calls PyProof.Rows in
abbrev G1 (p q:Program)(N:Nat)(w:World)(os:OsState):Prop:=(runQ p w 11 (some (.ref 6)) N (zex w.params os) (topStub p)).map (fun s =>
   ((staticsOk (importedModules p.main.body) (boot_heap w.params) s.abs.heap && namesBound p s.abs.heap && gensDone s.abs && laidKept (boot_heap w.params) s.abs.heap),seen ((recsOf q).map (·.name)) (ownsOf q) [] { s.abs with gens:=#[] }))=some (true,expectedOf q)
open PySem.Calls PyProof.Rows in
abbrev G2 (p q:Program)(loose:List Str)(Xt:Shared→Bool)(N:Nat)(g0:Bool)(w:World)(os:OsState):Prop:=(runQ p w 11 (some (.ref 6)) N (zex w.params os) (topStub p)).map (fun s =>
   (s.abs.heap.bltView,s.abs.heap.keysOk (looseW q loose) ((recsOf q).map (·.name)) ((litsOf q).map (·.1)) ((clssOf q (looseW q loose)).map (·.name)) && s.abs.heap.accountedOkI (importedModules p.main.body) && s.abs.heap.isNs mainGlobals && s.abs.heap.isNs builtinsNs && tablesOk q s.abs.heap && Xt s.abs && (if g0 then s.abs.gens.size == 0 else !leftWithCleanup s.abs.gens),tabsOk q s.abs,pinSeenD q (drecsOf q) s.abs))=some (bltViewBooted,true,true,pinGoodD (drecsOf q))
open PySem.Calls PyProof.Rows in
abbrev G3 (p q:Program)(loose:List Str)(N:Nat)(w:World)(os:OsState):Prop:=(runQ p w 11 (some (.ref 6)) N (zex w.params os) (topStub p)).map (fun s =>
   (plainSeenE q (looseW q loose) s.abs,plainSeenD q loose s.abs,wideSeen q s.abs,clsSeenW q loose s.abs))=some (plainGoodE q (looseW q loose),plainGoodD q loose,wideGood q,clsGoodW q loose)
theorem nine {α A B C D E F G H I J:Type}{o:Option α}{f:α→A}{g:α→B}{f1:α→C}{f2:α→D}{f3:α→E}{f4:α→F}{f5:α→G}{f6:α→H}{f7:α→I}{f8:α→J}{a:A}{b:B}{c:C}{d:D}{e:E}{i:F}{j:G}{k:H}{l:I}{m:J}(h:o.map (fun s=>(f s,g s))=some (a,b))(h':o.map (fun s=>(f1 s,f2 s,f3 s,f4 s))=some (c,d,e,i))(h'':o.map (fun s=>(f5 s,f6 s,f7 s,f8 s))=some (j,k,l,m)) :
  o.map (fun s=>(f s,g s,f1 s,f2 s,f3 s,f4 s,f5 s,f6 s,f7 s,f8 s))=some (a,b,c,d,e,i,j,k,l,m):=by
 cases o with
 | none=>cases h
 | some s=>cases h;cases h';cases h'';rfl
theorem zj1 {p q:Program}{loose:List Str}{Xt:Shared→Bool}{N:Nat}{g0:Bool}{w:World}{os:OsState}(h:G1 p q N w os)(h':G2 p q loose Xt N g0 w os)(h'':G3 p q loose N w os):zgr p q loose Xt N g0 w os:=nine h h' h''
theorem left_of {p q:Program}{loose:List Str}{Xt:Shared→Bool}{K:Params→Frag}{as:List Addr}{ex:∀ P,as=(K P).map (·.1)}{N:Nat}{g0:Bool}(h:zjN p q loose Xt N g0)(e:opening p=plainProg p.main.scope.names)(f:∀ s,fenceModules? p s=some s)(hN:Nat.ble 600 N=true)
  (hK:∀ (w:World) (os:OsState),(runQ p w 11 (some (.ref 6)) N (zex w.params os) (topStub p)).map (fun s=>as.map (getT s))=some ((K w.params).map fun p=>some p.2)) :
  LeftO p q loose Xt (kHook K as ex).obs (kHook K as ex).val N g0:=fun w=>zfR (h w) e f hN (hK w)
theorem left_split {p q:Program}{loose:List Str}{Xt:Shared→Bool}{K:Params→Frag}{as:List Addr}{ex:∀ P,as=(K P).map (·.1)}{N:Nat}{g0:Bool}(row:String)(h:SeenF row false p q loose Xt N g0)(h':SeenF row true p q loose Xt N g0)(e:opening p=plainProg p.main.scope.names)(f:∀ s,fenceModules? p s=some s)(hN:Nat.ble 600 N=true)
  (hK:∀ (w:World) (os:OsState),(runQ p (w.withFollow row false) 11 (some (.ref 6)) N (zex (w.withFollow row false).params os) (topStub p)).map (fun s=>as.map (getT s))=some ((K (w.withFollow row false).params).map fun p=>some p.2))
  (hK':∀ (w:World) (os:OsState),(runQ p (w.withFollow row true) 11 (some (.ref 6)) N (zex (w.withFollow row true).params os) (topStub p)).map (fun s=>as.map (getT s))=some ((K (w.withFollow row true).params).map fun p=>some p.2)) :
  LeftO p q loose Xt (kHook K as ex).obs (kHook K as ex).val N g0:=fun w=>by
 have z:=World.withFollow_self w row
 cases hb:w.params.followText row <;> rw [hb] at z
 ·have:=zfR (ex:=ex) (h w) e f hN (hK w)
  rw [z] at this;exact this
 ·have:=zfR (ex:=ex) (h' w) e f hN (hK' w)
  rw [z] at this;exact this
end Hd
end
section
set_option maxRecDepth 1000000
set_option maxHeartbeats 0
namespace Hd
open PySem PySem.W
def vw:Program:=PySem.W.view PySem.Challenge.pw_chipbus_k32_no_map [0,2,3,4,5,6,7,8,9,10,11,12,13,15,16,17,19,20,21,23,24,25,26,28,29,30,31,32,33,34,35,37,38,39,40,41,42,43,44,46,47,48,49,50,51,52,54,55,56,57,58,59,60,61,62,64,65,66,67,68,69,70,71,72,73,74,75,76,77,78,79,80,81,82,83,84]
def ls:List Str:=["Store","Latch","Meter","Pipe","Board"]
theorem g1:∀ (w:World) (os:OsState),G1 PySem.Challenge.rw_chipbus_k32_no_map.row.prog vw 14532 w os:=by
 intro w os
 kernel_rfl
theorem g2:∀ (w:World) (os:OsState),G2 PySem.Challenge.rw_chipbus_k32_no_map.row.prog vw ls (fun s=>xlAt vw [] s && recOk (RowW.records (OpenRow.toRowW (OpenLaw.row PySem.Challenge.rw_chipbus_k32_no_map))) s) 14532 true w os:=by
 intro w os
 kernel_rfl
theorem g3:∀ (w:World) (os:OsState),G3 PySem.Challenge.rw_chipbus_k32_no_map.row.prog vw ls 14532 w os:=by
 intro w os
 kernel_rfl
theorem h1:zjN PySem.Challenge.rw_chipbus_k32_no_map.row.prog vw ls (fun s=>xlAt vw [] s && recOk (RowW.records (OpenRow.toRowW (OpenLaw.row PySem.Challenge.rw_chipbus_k32_no_map))) s) 14532 true:=fun w os=>zj1 (g1 w os) (g2 w os) (g3 w os)
end Hd
open PySem PySem.W in
local macro_rules | `(tactic| o_head $H)=>`(tactic| (
 refine holds_open (q:=Hd.vw) (loose:=Hd.ls) (Xt:=fun s=>xlAt Hd.vw [] s && recOk (RowW.records (OpenRow.toRowW (OpenLaw.row PySem.Challenge.rw_chipbus_k32_no_map))) s) (XP:=XL Hd.vw []) (Yf:=Hook.obs $H) (Ya:=Hook.val $H) (YP:=Hook.says $H) (N:=14532) ?hl (Hook.of $H) (Hook.keeps $H) (fun s e=>xl_of s (Bool.and_eq_true_iff.mp e).1) XL.keeps (by rfl) (by rfl) (by rfl) (fun s e=>recFacts_of (Bool.and_eq_true_iff.mp e).2) (by rfl) (by first | assumption | decide +kernel) (by decide +kernel) ⟨rfl,rfl,rfl,rfl,rfl,by decide +kernel⟩ ?hw ?hc
 (case hl=>refine Hd.left_of Hd.h1 (by kernel_rfl) (fun s=>by kernel_rfl) rfl ?h2;(case h2=>(intro w os;kernel_rfl)))))
open_top Hd.top for PySem.Challenge.rw_chipbus_k32_no_map
end
section
namespace L2
open PySem PySem.Spec PyProof.Rows
abbrev Key:=Sum Int Str
def zfT:Key→Value→Bool
 | .inl k,v=>Value.isInt k v
 | .inr x,v=>Value.isStrOf x v
def keyH (w:World):Key→Int
 | .inl k=>hashInt k
 | .inr x=>hashStr w x
theorem zaG:∀ {k:Key} {v:Value},zfT k v=true→(∃ i t,k=Sum.inl i∧v=Value.int i t)∨(∃ x t,k=Sum.inr x∧v=Value.str x t)
 | .inl i,v,h=>by
  obtain ⟨t,e⟩:=Value.isInt_shape (k:=i) (v:=v) h
  exact .inl ⟨i,t,rfl,e⟩
 | .inr x,v,h=>by
  obtain ⟨t,e⟩:=Value.isStrOf_shape (x:=x) (v:=v) h
  exact .inr ⟨x,t,rfl,e⟩
theorem zhW (i:Int)(t:Tok):zfT (.inl i) (.int i t)=true:=by simp [zfT,Value.isInt]
theorem zhV (x:Str)(t:Tok):zfT (.inr x) (.str x t)=true:=by simp [zfT,Value.isStrOf]
theorem key_ll (a b:Int):decide ((Sum.inl a:Key)=Sum.inl b)=(a == b):=by
 by_cases e:a=b
 ·subst e;simp
 ·have h:¬ (Sum.inl a:Key)=Sum.inl b:=fun q=>e (Sum.inl.inj q)
  rw [Xag h]
  exact (beq_eq_false_iff_ne.mpr e).symm
theorem key_rr (a b:Str):decide ((Sum.inr a:Key)=Sum.inr b)=decide (a=b):=by
 by_cases e:a=b
 ·subst e;simp
 ·have h:¬ (Sum.inr a:Key)=Sum.inr b:=fun q=>e (Sum.inr.inj q)
  rw [Xag h,Xag e]
theorem key_lr (a:Int)(b:Str):decide ((Sum.inl a:Key)=Sum.inr b)=false:=Xag (fun q=>nomatch q)
theorem key_rl (a:Str)(b:Int):decide ((Sum.inr a:Key)=Sum.inl b)=false:=Xag (fun q=>nomatch q)
def zaO (prog:Program)(w:World):PySem.KeyKind prog w Key where
 is:=zfT
 hash:=keyH w
 inj:=fun v a b ha hb=>by
  rcases zaG ha with ⟨i,t,rfl,rfl⟩ | ⟨x,t,rfl,rfl⟩
  ·rcases zaG hb with ⟨j,u,rfl,e⟩ | ⟨y,u,rfl,e⟩
   ·injection e with e1 _;rw [e1]
   ·exact nomatch e
  ·rcases zaG hb with ⟨j,u,rfl,e⟩ | ⟨y,u,rfl,e⟩
   ·exact nomatch e
   ·injection e with e1 _;rw [e1]
 byValue:=fun k v h=>by
  rcases zaG h with ⟨i,t,rfl,rfl⟩ | ⟨x,t,rfl,rfl⟩ <;> rfl
 pyHash:=fun hv h=>by
  rcases zaG hv with ⟨i,t,rfl,rfl⟩ | ⟨x,t,rfl,rfl⟩
  ·exact wpAny_pyHash_int h
  ·exact wpAny_pyHash_str h
 eqBool:=fun hu hv h=>by
  rcases zaG hu with ⟨i,t,rfl,rfl⟩ | ⟨x,t,rfl,rfl⟩
  ·rcases zaG hv with ⟨j,u,rfl,rfl⟩ | ⟨y,u,rfl,rfl⟩
   ·rw [key_ll] at h;exact wpAny_eqBool_int h
   ·rw [key_lr] at h;exact SeqAt.EqAt.int_str i t y u _ _ _ _ h
  ·rcases zaG hv with ⟨j,u,rfl,rfl⟩ | ⟨y,u,rfl,rfl⟩
   ·rw [key_rl] at h;exact SeqAt.EqAt.str_int x t j u _ _ _ _ h
   ·rw [key_rr] at h;exact wpAny_eqBool_str h
 «strs»:=fun k x t v h=>by
  rcases zaG h with ⟨i,u,rfl,e⟩ | ⟨y,u,rfl,e⟩
  ·exact nomatch e
  ·injection e with e1 _
   subst e1
   cases v <;> rfl
theorem zfP (prog:Program)(w:World)(i:Int)(t:Tok):(zaO prog w).is (.inl i) (.int i t)=true:=zhW i t
theorem zfO (prog:Program)(w:World)(x:Str)(t:Tok):(zaO prog w).is (.inr x) (.str x t)=true:=zhV x t
inductive V where
 | non | bl (b:Bool) | int (i:Int) | str (x:Str) | byt (b:Array UInt8) | flt (b:UInt64) | ref (a:Addr) | ty (n:String)
 deriving DecidableEq
def RelV:V→Value→Prop
 | .non,u=>u=Value.none
 | .bl b,u=>u=Value.bool b
 | .int i,u=>∃ t,u=Value.int i t
 | .str x,u=>∃ t,u=Value.str x t
 | .byt b,u=>∃ t,u=Value.bytes b t
 | .flt b,u=>∃ t,u=Value.float b t
 | .ref a,u=>u=Value.ref a
 | .ty n,u=>u=Value.type n
abbrev Vals:List V→List Value→Prop:=Paired RelV
theorem Vals.length {xs:List V}{us:List Value}(r:Vals xs us):xs.length=us.length:=Paired.length r
theorem Vals.get:∀ {xs:List V} {us:List Value} {i:Nat} {x:V},Vals xs us→xs[i]? = some x→∃ u,us[i]? = some u∧RelV x u
 | _,_,_,_,.nil,e=>by simp at e
 | _,_,0,_,.cons r _,e=>by simp at e;subst e;exact ⟨_,rfl,r⟩
 | _,_,i+1,x,.cons _ t,e=>by
  obtain ⟨u,h1,h2⟩:=Vals.get (i:=i) (x:=x) t (by simpa using e)
  exact ⟨u,by simpa using h1,h2⟩
theorem Vals.set {x:V}{u:Value}(r:RelV x u):∀ {xs:List V} {us:List Value} (i:Nat),Vals xs us→Vals (xs.set i x) (us.set i u)
 | _,_,_,.nil=>.nil
 | _,_,0,.cons _ t=>.cons r t
 | _,_,i+1,.cons q t=>.cons q (Vals.set r i t)
theorem Vals.append:∀ {xs ys:List V} {us ws:List Value},Vals xs us→Vals ys ws→Vals (xs ++ ys) (us ++ ws)
 | _,_,_,_,.nil,s=>s
 | _,_,_,_,.cons r t,s=>.cons r (Vals.append t s)
theorem Vals.take:∀ {xs:List V} {us:List Value} (n:Nat),Vals xs us→Vals (xs.take n) (us.take n)
 | _,_,0,_=>.nil
 | _,_,_+1,.nil=>.nil
 | _,_,n+1,.cons r t=>.cons r (Vals.take n t)
theorem Vals.drop:∀ {xs:List V} {us:List Value} (n:Nat),Vals xs us→Vals (xs.drop n) (us.drop n)
 | _,_,0,r=>r
 | _,_,_+1,.nil=>.nil
 | _,_,n+1,.cons _ t=>Vals.drop n t
def RelO:Option V→Option Value→Prop
 | some v,some u=>RelV v u
 | none,none=>True
 | _,_=>False
def KV {κ:Type}:List (κ×V)→List (κ×Value)→Prop:=Paired fun (p:κ×V) (q:κ×Value)=>p.1=q.1∧RelV p.2 q.2
def kV:Key→V
 | .inl i=>.int i
 | .inr x=>.str x
inductive HO where
 
 | lst (xs:List V)
 
 | tup (xs:List V)
 
 | dK (kvs:List (Key×V)) | dT (kvs:List (List Key×V))
 
 | set (S:Int→Bool) (n:Nat)
 
 | ins (C dx:Addr) (fs:List (Str×V))
 
 | own (x:Addr)
 
 | xd (fs:List (Str×V))
 
 | met (f x:Addr)
 
 | rng (lo hi:Int)
 
 | frz (o:Obj) (u:HO)
 
 | tbl (ps:Array Value)
 
 | ext (φ:Heap→Prop)
abbrev Hp:=Addr→Option HO
def upd (H:Hp)(a:Addr)(o:HO):Hp:=fun b=>if b=a then some o else H b
theorem zab {H:Hp}{a:Addr}{o:HO}:upd H a o a=some o:=by unfold upd;rw [if_pos rfl]
theorem zai {H:Hp}{a b:Addr}{o:HO}(h:b≠a):upd H a o b=H b:=by unfold upd;rw [if_neg h]
theorem zah {H:Hp}{a b:Addr}{o:HO}(h:H a=some o)(h':H b=none):a≠b:=by
 intro e;subst e;rw [h] at h';cases h'
section
variable (P:Program)(w:World)
def ObjOk (H:Hp)(h:Heap)(a:Addr):HO→Prop
 | .lst xs=>xs.length≤sizeLine∧∃ (its:List Value) (n:Nat),Vals xs its∧h.get? a=some { cls:=.type "list",data:=.seq its.toArray n }
 | .tup xs=>(xs.length≤sizeLine∧∃ o,h.get? a=some o∧o.dict=none)∧∃ its:List Value,Vals xs its∧IsTup h a its.toArray
 | .dK kvs=>kvs.length≤sizeLine∧(a == sysModules)=false∧∃ vs,KV kvs vs∧h.DictOf (zaO P w) a vs
 | .dT kvs=>kvs.length≤sizeLine∧(a == sysModules)=false∧∃ xs:List (List Key×Addr×Value),
   Paired (fun (p:List Key×V) (q:List Key×Addr×Value)=>p.1=q.1∧H q.2.1=some (.tup (p.1.map kV))∧RelV p.2 q.2.2) kvs xs ∧
   ∃ o es ep,h.get? a=some o∧o.ExactDict∧o.data = .dict es ep∧es.toList=xs.map (entryOfKey (tupleKind (zaO P w)))∧(xs.map (·.1)).Nodup
 | .set S n=>h.SetOf (intKind P w) a S n
 | .ins C dx fs=>H dx=some (.own a)∧fs.length≤1000∧dx≠a∧h.get? a=some (W.instObj C dx) ∧
   ∃ mA,h.Ns1 dx mA∧(∀ f,RelO (fs.lookup f) (mA f))∧PySem.Within mA (fs.map (·.1))
 | .own _=>∃ o,h.get? a=some o
 | .xd fs=>∃ mA,h.Ns1 a mA∧∀ f,RelO (fs.lookup f) (mA f)
 | .rng lo hi=>∃ t u v,h.get? a=some { cls:=.type "range",data:=.fields #[.int lo t,.int hi u,.int 1 v] }
 | .frz o u=>h.get? a=some o∧ObjOk H h a u
 | .tbl ps=>h.get? a=some { cls:=.none,data:=.fields ps }
 | .met f x=>h.get? a=some (W.methodObj (.ref f) (.ref x))
 | .ext φ=>φ h∧(∃ o,h.get? a=some o)∧∀ h1 h2:Heap,φ h1→(∀ o,h1.get? a=some o→h2.get? a=some o)→φ h2
def HOk (H:Hp)(h:Heap):Prop:=∀ a o,H a=some o→ObjOk P w H h a o
end
section
variable {P:Program}{w:World}{H H':Hp}{h h':Heap}{a:Addr}{o:HO}
theorem ObjOk.lt (x:ObjOk P w H h a o):a<h.objs.size:=by
 cases o with
 | lst xs=>obtain ⟨_,_,_,_,e⟩:=x;exact Xan e
 | tup xs=>obtain ⟨_,_,_,p⟩:=x;exact p.lt
 | dK kvs=>obtain ⟨_,_,_,_,o,_,_,e,_⟩:=x;exact Xan e
 | dT kvs=>obtain ⟨_,_,_,_,o,_,_,e,_⟩:=x;exact Xan e
 | set S n=>obtain ⟨o,_,_,_,e,_⟩:=x;exact Xan e
 | ins C dx fs=>obtain ⟨_,_,_,e,_⟩:=x;exact Xan e
 | own y=>obtain ⟨_,e⟩:=x;exact Xan e
 | xd fs=>obtain ⟨_,⟨_,_,_,e,_⟩,_⟩:=x;exact Xan e
 | rng lo hi=>obtain ⟨_,_,_,e⟩:=x;exact Xan e
 | frz ob u=>obtain ⟨e,_⟩:=x;exact Xan e
 | tbl ps=>exact Xan (show h.get? a=some _ from x)
 | met f y=>exact Xan (show h.get? a=some _ from x)
 | ext φ=>obtain ⟨_,⟨_,e⟩,_⟩:=x;exact Xan e
theorem Paired.mapP {α β:Type}{F G:α→β→Prop}:∀ {l₁:List α} {l₂:List β},Paired F l₁ l₂→(∀ a b,F a b→G a b)→Paired G l₁ l₂
 | _,_,.nil,_=>.nil
 | _,_,.cons r t,f=>.cons (f _ _ r) (Paired.mapP t f)
theorem ObjOk.stay (x:ObjOk P w H h a o)(k:∀ b u,(b=a∨H b=some (.own a))→h.get? b=some u→h'.get? b=some u)
  (ho:∀ b,H b=some (.own a)→H' b=some (.own a)) (ht:∀ b xs,H b=some (.tup xs)→H' b=some (.tup xs)):ObjOk P w H' h' a o:=by
 induction o with
 | lst xs=>obtain ⟨z,its,n,r,e⟩:=x;exact ⟨z,its,n,r,k _ _ (.inl rfl) e⟩
 | tup xs=>obtain ⟨⟨z,o,eo,dn⟩,its,r,ob,e,c⟩:=x;exact ⟨⟨z,o,k _ _ (.inl rfl) eo,dn⟩,its,r,ob,k _ _ (.inl rfl) e,c⟩
 | dK kvs=>obtain ⟨z,y,vs,r,ob,es,ep,e,c⟩:=x;exact ⟨z,y,vs,r,ob,es,ep,k _ _ (.inl rfl) e,c⟩
 | dT kvs =>
  obtain ⟨z,y,xs,r,ob,es,ep,e,c⟩:=x
  exact ⟨z,y,xs,Paired.mapP r fun p q z=>⟨z.1,ht _ _ z.2.1,z.2.2⟩,ob,es,ep,k _ _ (.inl rfl) e,c⟩
 | set S n=>obtain ⟨ob,es,ep,t,e,c⟩:=x;exact ⟨ob,es,ep,t,k _ _ (.inl rfl) e,c⟩
 | ins C dx fs =>
  obtain ⟨d,z,ne,e,mA,⟨od,es,ep,e2,c⟩,r⟩:=x
  exact ⟨ho _ d,z,ne,k _ _ (.inl rfl) e,mA,⟨od,es,ep,k _ _ (.inr d) e2,c⟩,r⟩
 | own y=>obtain ⟨ob,e⟩:=x;exact ⟨ob,k _ _ (.inl rfl) e⟩
 | xd fs=>obtain ⟨mA,⟨od,es,ep,e,c⟩,r⟩:=x;exact ⟨mA,⟨od,es,ep,k _ _ (.inl rfl) e,c⟩,r⟩
 | rng lo hi=>obtain ⟨t,u,v,e⟩:=x;exact ⟨t,u,v,k _ _ (.inl rfl) e⟩
 | frz ob u ih=>obtain ⟨e,q⟩:=x;exact ⟨k _ _ (.inl rfl) e,ih q⟩
 | tbl ps =>
  have e:h.get? a=some { cls:=.none,data:=.fields ps }:=x
  show h'.get? a=some { cls:=.none,data:=.fields ps }
  exact k a _ (.inl rfl) e
 | met f y =>
  have e:h.get? a=some (W.methodObj (.ref f) (.ref y)):=x
  show h'.get? a=some (W.methodObj (.ref f) (.ref y))
  exact k a _ (.inl rfl) e
 | ext φ=>obtain ⟨p,⟨o,e⟩,st⟩:=x;exact ⟨st _ _ p fun o q=>k _ _ (.inl rfl) q,⟨o,k _ _ (.inl rfl) e⟩,st⟩
theorem HOk.lt (x:HOk P w H h)(e:H a=some o):a<h.objs.size:=(x a o e).lt
theorem HOk.fresh (x:HOk P w H h)(e:h.objs.size≤a):H a=none:=by
 cases q:H a with
 | none=>rfl
 | some u=>exact absurd (Xaj (x.lt q) e) (XaT _)
theorem HOk.kept (x:HOk P w H h)(k:∀ b u,h.get? b=some u→h'.get? b=some u):HOk P w H h':=fun a o e =>
 (x a o e).stay (fun b u _ q=>k b u q) (fun _ q=>q) fun _ _ q=>q
theorem HOk.laid (x:HOk P w H h)(k:∀ b u,h.get? b=some u→h'.get? b=some u)(hp:h.objs.size≤a)(new:ObjOk P w (upd H a o) h' a o):HOk P w (upd H a o) h':=fun b u e=>by
 have hn:=x.fresh hp
 by_cases hb:b=a
 ·subst hb;rw [zab] at e;cases e;exact new
 ·rw [zai hb] at e
  exact (x b u e).stay (fun c v _ q=>k c v q) (fun c q=>by rw [zai (zah q hn)];exact q) fun c xs q=>by rw [zai (zah q hn)];exact q
end
def Rd (H:Hp)(a:Addr)(u:HO):Prop:=H a=some u∨∃ o,H a=some (.frz o u)
theorem Rd.ok {P:Program}{w:World}{H:Hp}{h:Heap}{a:Addr}{u:HO}(r:Rd H a u)(x:HOk P w H h):ObjOk P w H h a u:=by
 rcases r with r | ⟨o,r⟩
 ·exact x a u r
 ·obtain ⟨_,q⟩:=x a _ r
  exact q
def Mut:Option HO→Prop
 | some (.lst _)=>True
 | some (.dK _)=>True
 | some (.dT _)=>True
 | some (.set _ _)=>True
 | some (.ins _ _ _)=>True
 | some (.ext _)=>True
 | _=>False
section
variable {P:Program}{w:World}{H:Hp}{h h':Heap}{x e:Addr}{o':HO}
theorem HOk.write (ok:HOk P w H h)(mu:Mut (H x))(he:e=x∨H e=some (.own x))(k:∀ b u,b≠e→h.get? b=some u→h'.get? b=some u)(heo:∃ u,h'.get? e=some u)
  (new:ObjOk P w (upd H x o') h' x o'):HOk P w (upd H x o') h':=fun b u q=>by
 have nown:∀ c y,H c=some (.own y)→c≠x:=fun c y r z=>by subst z;rw [r] at mu;exact mu
 have ntup:∀ c xs,H c=some (.tup xs)→c≠x:=fun c xs r z=>by subst z;rw [r] at mu;exact mu
 by_cases hb:b=x
 ·subst hb;rw [zab] at q;cases q;exact new
 ·rw [zai hb] at q
  by_cases hbe:b=e
  ·have q':H b=some (.own x):=by
    rcases he with z | z
    ·exact absurd (hbe.trans z) hb
    ·rw [hbe];exact z
   rw [q] at q';cases q'
   obtain ⟨v,hv⟩:=heo
   exact ⟨v,by rw [hbe];exact hv⟩
  ·refine (ok b u q).stay (fun c v hc r=>k c v ?_ r) (fun c r=>by rw [zai (nown c b r)];exact r) fun c xs r=>by rw [zai (ntup c xs r)];exact r
   rcases hc with rfl | hc
   ·exact hbe
   ·rintro rfl
    rcases he with z | z
    ·exact nown c b hc z
    ·rw [hc] at z;cases z;exact hb rfl
end
structure Un (fs ex:List Addr)(H H':Hp)(h h':Heap):Prop where
 keep:∀ b o,h.get? b=some o→H b=none→b ∉ fs→b ∉ ex→h'.get? b=some o
 slot:∀ b o,h.get? b=some o→H b=none→b∈fs→b ∉ ex→∃ sl,h'.get? b=some { o with slots:=sl }
 free:∀ b o,h.get? b=some o→H b=none→b ∉ ex→H' b=none
 there:∀ b o,h.get? b=some o→b ∉ ex→∃ o',h'.get? b=some o'
 tups:∀ b xs,H b=some (.tup xs)→H' b=some (.tup xs)
 frzs:∀ b o u,H b=some (.frz o u)→H' b=some (.frz o u)
 tbls:∀ b ps,H b=some (.tbl ps)→∃ more,H' b=some (.tbl (ps ++ more))
section
variable {fs fs' ex ex':List Addr}{H H1 H2:Hp}{h h1 h2 h':Heap}{a x e:Addr}{o:HO}
theorem Un.any (u:Un fs ex H H1 h h1){b:Addr}{ob:Obj}(q:h.get? b=some ob)(n:H b=none)(hx:b ∉ ex):∃ sl,h1.get? b=some { ob with slots:=sl }:=by
 by_cases hb:b∈fs
 ·exact u.slot b ob q n hb hx
 ·exact ⟨ob.slots,u.keep b ob q n hb hx⟩
theorem Un.kept (k:∀ b u,h.get? b=some u→h'.get? b=some u):Un fs ex H H h h':=
 ⟨fun b ob q _ _ _=>k b ob q,fun b ob q _ _ _=>⟨ob.slots,k b ob q⟩,fun _ _ _ n _=>n,fun b ob q _=>⟨ob,k b ob q⟩,fun _ _ q=>q,fun _ _ _ q=>q,fun _ ps q=>⟨#[],by rw [q];simp⟩⟩
theorem Un.refl:Un fs ex H H h h:=Un.kept fun _ _ q=>q
theorem Un.laid (k:∀ b u,h.get? b=some u→h'.get? b=some u)(hp:h.objs.size≤a)(hn:H a=none):Un fs ex H (upd H a o) h h' where
 keep:=fun b u q _ _ _=>k b u q
 slot:=fun b u q _ _ _=>⟨u.slots,k b u q⟩
 free:=fun b u q n _=>by rw [zai (Xav (Xaj (Xan q) hp))];exact n
 there:=fun b u q _=>⟨u,k b u q⟩
 tups:=fun b xs q=>by rw [zai (zah q hn)];exact q
 frzs:=fun b u xs q=>by rw [zai (zah q hn)];exact q
 tbls:=fun b ps q=>⟨#[],by rw [zai (zah q hn),q];simp⟩
theorem Un.write (mu:Mut (H x))(he:e=x∨H e=some (.own x))(k:∀ b u,b≠e→h.get? b=some u→h'.get? b=some u)(heo:∃ u,h'.get? e=some u):Un fs ex H (upd H x o) h h':=by
 have hx:∀ b,H b=none→b≠x:=fun b n z=>by subst z;rw [n] at mu;exact mu
 have hb:∀ b,H b=none→b≠e:=fun b n z=>by
  subst z
  rcases he with r | r
  ·exact hx b n r
  ·rw [n] at r;cases r
 have hm:∀ b u,H b=some u→¬ Mut (some u)→b≠x:=fun b u q nm z=>by subst z;rw [q] at mu;exact nm mu
 refine ⟨fun b u q n _ _=>k b u (hb b n) q,fun b u q n _ _=>⟨u.slots,k b u (hb b n) q⟩,fun b u q n _=>by rw [zai (hx b n)];exact n,fun b u q _=>?_,
  fun b xs q=>by rw [zai (hm b _ q fun z=>z)];exact q,fun b u xs q=>by rw [zai (hm b _ q fun z=>z)];exact q,fun b ps q=>⟨#[],by rw [zai (hm b _ q fun z=>z),q];simp⟩⟩
 by_cases hbe:b=e
 ·subst hbe;exact heo
 ·exact ⟨u,k b u hbe q⟩
end
def trk (h:Heap)(H:Hp):List Addr:=(List.range h.objs.size).filter fun a=>(H a).isSome
def hidT (h:Heap)(H:Hp):Heap:=W.hideAll h (trk h H)
theorem zh0 (h:Heap)(H:Hp):(hidT h H).objs.size=h.objs.size:=W.hideAll_size _ _
theorem zi7 {h:Heap}{H:Hp}{b:Addr}{o:Obj}(e:h.get? b=some o)(n:H b=none):(hidT h H).get? b=some o:=
 W.hideAll_get _ e fun hm=>by
  have q:(H b).isSome=true:=(List.mem_filter.mp hm).2
  rw [n] at q;simp at q
theorem zkj {h:Heap}{H:Hp}{b:Addr}{o:Obj}(e:(hidT h H).get? b=some o):h.get? b=some o∧H b=none:=by
 have e':h.get? b=some o:=W.of_hideAll (trk h H) e
 refine ⟨e',?_⟩
 cases q:H b with
 | none=>rfl
 | some x =>
  have hm:b∈trk h H:=List.mem_filter.mpr ⟨List.mem_range.mpr (Xan e'),by simp [q]⟩
  have z:(hidT h H).get? b=none:=W.hideAll_none (trk h H) hm
  rw [z] at e;cases e
structure Mod (K:W.Frag)(mg:Str→Option Value)(base:Heap):Prop where
 kin:K.In base
 glob:base.Ns mainGlobals mg
 blt:∃ mb,base.Ns builtinsNs mb∧∀ x:Str,x ≠ "__name__" → mb x=bootBuiltins x
 nolimit:base.NoLimit
structure Cx where
 prog:Program
 w:World
 K:W.Frag
 mg:Str→Option Value
 base:Heap
 A:Around
 N:List Str
 s₀:Shared
 H₀:Hp
 env:Env
 outer:List Env
 stack:List Env
 ex:List Addr
 fn:Str→Bool
 calm:Bool
 pn:List (Addr×Obj)
 xe:Value→Shared→Prop
def frs (l:List Env):List Addr:=l.filterMap (·.frame)
abbrev Cx.fs (X:Cx):List Addr:=frs X.outer
def Vis (sc:Scope)(x:Str):Prop:=sc.names.lookup x=some .local∨sc.names.lookup x=some .cell∨sc.names.lookup x=some .free
def Loc (sc:Scope)(x:Str):Prop:=sc.names.lookup x=some .local∨sc.names.lookup x=some .cell
def Look (env:Env)(h:Heap)(m:Str→Option Value)(x:Str)(u:Value):Prop:=
 (env.kindOf x=some .local∧m x=some u)∨((env.kindOf x=some .cell∨env.kindOf x=some .free)∧∃ c,env.cells.lookup x=some c∧h.IsCell c (some u))
structure Cx.Ok (X:Cx):Prop where
 mod:Mod X.K X.mg X.base
 kind:X.env.scope.kind = .function
 glob:X.env.globals=mainGlobals
 blt:X.env.builtins=builtinsNs
 above:X.s₀.heap.objs.size≤X.env.locals
 inj:∀ x y c,X.env.cells.lookup x=some c→X.env.cells.lookup y=some c→x=y
 has:∀ x,(X.env.kindOf x=some .cell∨X.env.kindOf x=some .free)→∃ c,X.env.cells.lookup x=some c
 cab:∀ x c,X.fn x=true→X.env.cells.lookup x=some c→X.s₀.heap.objs.size≤c
 hd:X.calm=true→X.A.handled=none
 frames:X.A.frames=some X.stack
 stk:X.stack=X.outer∨(X.stack=X.env :: X.outer∧X.env.frame=some X.env.locals)
 exf:∀ b∈X.ex,b≠X.env.locals∧∀ x c,X.env.cells.lookup x=some c→c≠b
 bs:∀ b o,X.base.get? b=some o→X.s₀.heap.get? b=some o∧X.H₀ b=none
 bsz:X.base.objs.size≤X.s₀.heap.objs.size
 noex:∀ b o,X.base.get? b=some o→b ∉ X.ex
 exfs:∀ b∈X.ex,b ∉ X.fs
 funs:X.s₀.heap.FunFrames X.base X.outer
 frf:∀ b∈X.fs,X.H₀ b=none
structure Inv (X:Cx)(pins:List (Addr×Obj))(σ:List (Option V))(H:Hp)(s:Shared):Prop where
 ok:X.Ok
 os:s.os=X.s₀.os
 bare:AllBare s.gens
 base:Un X.fs X.ex X.H₀ H X.s₀.heap s.heap
 loc:∃ m,s.heap.Ns X.env.locals m∧∀ (i:Nat) (x:Str) (v:V),X.N[i]? = some x→σ[i]? = some (some v)→Vis X.env.scope x→∃ u,RelV v u∧Look X.env s.heap m x u
 cell:∀ x c,X.env.cells.lookup x=some c→∃ v,s.heap.IsCell c v
 free:H X.env.locals=none
 freeC:∀ x c,X.env.cells.lookup x=some c→H c=none
 pin:∀ p∈X.pn ++ pins,s.heap.get? p.1=some p.2∧H p.1=none∧p.1≠X.env.locals∧p.1 ∉ X.fs∧∀ v,p.2.data≠.cell v
 hok:HOk X.prog X.w H s.heap
 len:σ.length=X.N.length
section
variable {X:Cx}{pins:List (Addr×Obj)}{σ:List (Option V)}{H H':Hp}{s:Shared}{h':Heap}
theorem Cx.Ok.nofr (ok:X.Ok){b:Addr}{o:Obj}(e:X.base.get? b=some o):b ∉ X.fs:=fun hb=>by
 have:=(ok.funs.mem hb).1
 rw [e] at this;cases this
theorem Inv.bs (I:Inv X pins σ H s):∀ b o,X.base.get? b=some o→s.heap.get? b=some o∧H b=none:=fun b o e =>
 ⟨I.base.keep b o (I.ok.bs b o e).1 (I.ok.bs b o e).2 (I.ok.nofr e) (I.ok.noex b o e),I.base.free b o (I.ok.bs b o e).1 (I.ok.bs b o e).2 (I.ok.noex b o e)⟩
theorem Inv.bk (I:Inv X pins σ H s):∀ b o,X.base.get? b=some o→s.heap.get? b=some o:=fun b o e=>(I.bs b o e).1
theorem Inv.mod (I:Inv X pins σ H s):Mod X.K X.mg X.base:=I.ok.mod
theorem Inv.kIn (I:Inv X pins σ H s):X.K.In s.heap:=I.ok.mod.kin.keeps I.bk
theorem Inv.lt (I:Inv X pins σ H s):X.env.locals<s.heap.objs.size:=let ⟨_,hn,_⟩:=I.loc;hn.lt
theorem Inv.sz (I:Inv X pins σ H s):X.s₀.heap.objs.size≤s.heap.objs.size:=Xar I.ok.above (Nat.le_of_lt I.lt)
theorem Inv.nofs (I:Inv X pins σ H s){a:Addr}(h:s.heap.objs.size≤a):a ∉ X.fs:=fun hb=>by
 obtain ⟨_,o,ho,_⟩:=I.ok.funs.mem hb
 exact absurd (Xaj (Xan ho) (Xar I.sz h)) (XaT _)
theorem Inv.cne (I:Inv X pins σ H s):∀ x c,X.env.cells.lookup x=some c→c≠X.env.locals:=fun x c e z=>by
 obtain ⟨v,o,ho,hd⟩:=I.cell x c e
 obtain ⟨m,⟨o',es,ep,ho',hd',_⟩,_⟩:=I.loc
 rw [z,ho'] at ho;cases ho;rw [hd'] at hd;cases hd
theorem Inv.funs (I:Inv X pins σ H s):s.heap.FunFrames X.base X.outer:=by
 have all:∀ (l:List Env),(∀ b∈frs l,b∈X.fs)→X.s₀.heap.FunFrames X.base l→s.heap.FunFrames X.base l:=by
  intro l
  induction l with
  | nil=>intro _ _;trivial
  | cons env r ih =>
   intro hs hl
   obtain ⟨hk,⟨L,o,hf,hn,ho,hd⟩,hr⟩:=hl
   have hL:L∈X.fs:=hs L (by unfold frs;rw [List.filterMap_cons,hf];exact XaE)
   obtain ⟨sl,e⟩:=I.base.slot L o ho (I.ok.frf L hL) hL fun z=>I.ok.exfs L z hL
   exact ⟨hk,⟨L,_,hf,hn,e,hd⟩,ih (fun b hb=>hs b (by unfold frs;rw [List.filterMap_cons,hf];exact Xax _ hb)) hr⟩
 exact all X.outer (fun _ hb=>hb) I.ok.funs
theorem Inv.stack (I:Inv X pins σ H s):s.heap.FunFrames X.base X.stack:=by
 rcases I.ok.stk with e | ⟨e,hf⟩
 ·rw [e];exact I.funs
 ·rw [e]
  obtain ⟨m,hn,_⟩:=I.loc
  refine .cons (by rw [I.ok.kind];decide) hf hn ?_ I.funs
  exact Xbw (Xar I.ok.bsz I.ok.above)
theorem Inv.stkSub (I:Inv X pins σ H s):∀ b∈frs X.stack,b∈X.env.locals :: X.fs:=fun b hb=>by
 rcases I.ok.stk with e | ⟨e,hf⟩
 ·rw [e] at hb;exact Xax _ hb
 ·rw [e] at hb
  unfold frs at hb
  rw [List.filterMap_cons,hf] at hb
  exact hb
theorem Inv.stkFree (I:Inv X pins σ H s):∀ b∈frs X.stack,H b=none:=fun b hb=>by
 rcases Xap.mp (I.stkSub b hb) with e | hb
 ·rw [e];exact I.free
 ·obtain ⟨_,o,ho,_⟩:=I.ok.funs.mem hb
  exact I.base.free b o ho (I.ok.frf b hb) fun z=>I.ok.exfs b z hb
theorem Inv.step {g':Array GenState}{t':Nat}{d':Drawn}{ch:List Addr}(I:Inv X pins σ H s)
  (hch:∀ b∈ch,(b∈X.ex∨X.s₀.heap.objs.size≤b)∧b≠X.env.locals∧(∀ x c,X.env.cells.lookup x=some c→c≠b)∧∀ p∈X.pn ++ pins,p.1≠b)
  (keep:∀ b o,b≠X.env.locals→b ∉ X.fs→b ∉ ch→s.heap.get? b=some o→H b=none→h'.get? b=some o)
  (slot:∀ b o,b≠X.env.locals→b∈X.fs→b ∉ ch→s.heap.get? b=some o→H b=none→∃ sl,h'.get? b=some { o with slots:=sl }) (free:∀ b o,b ∉ ch→s.heap.get? b=some o→H b=none→H' b=none)
  (there:∀ b o,b ∉ ch→s.heap.get? b=some o→∃ o',h'.get? b=some o')
  (tups:∀ b xs,H b=some (.tup xs)→H' b=some (.tup xs)) (frzs:∀ b o u,H b=some (.frz o u)→H' b=some (.frz o u)) (tbls:∀ b ps,H b=some (.tbl ps)→∃ more,H' b=some (.tbl (ps ++ more)))
  (ns:∀ m,s.heap.Ns X.env.locals m→h'.Ns X.env.locals m) (hok:HOk X.prog X.w H' h') (hg:AllBare g') :
  Inv X pins σ H' { s with heap:=h',gens:=g',drawn:=d',toks:=t' }:=by
 have neL:∀ b o,X.s₀.heap.get? b=some o→b≠X.env.locals:=fun b o e=>Xav (Xaj (Xan e) I.ok.above)
 have neC:∀ b o,X.s₀.heap.get? b=some o→b ∉ X.ex→b ∉ ch:=fun b o e hx hb=>by
  rcases (hch b hb).1 with z | z
  ·exact hx z
  ·exact absurd (Xaj (Xan e) z) (XaT _)
 have cellK:∀ x c,X.env.cells.lookup x=some c→∀ v,s.heap.IsCell c v→h'.IsCell c v:=fun x c e v ⟨o,ho,hd⟩=>by
  have nch:c ∉ ch:=fun z=>(hch c z).2.2.1 x c e rfl
  by_cases hc:c∈X.fs
  ·obtain ⟨sl,q⟩:=slot c o (I.cne x c e) hc nch ho (I.freeC x c e)
   exact ⟨_,q,hd⟩
  ·exact ⟨o,keep c o (I.cne x c e) hc nch ho (I.freeC x c e),hd⟩
 refine ⟨I.ok,I.os,hg,⟨fun b o e n hb hx=>?_,fun b o e n hb hx=>?_,fun b o e n hx=>?_,fun b o e hx=>?_,fun b xs e=>tups b xs (I.base.tups b xs e),fun b o xs e=>frzs b o xs (I.base.frzs b o xs e),fun b ps e=>?_⟩,?_,fun x c e=>?_,?_,fun x c e=>?_,fun p hp=>?_,hok,I.len⟩
 ·exact keep b o (neL b o e) hb (neC b o e hx) (I.base.keep b o e n hb hx) (I.base.free b o e n hx)
 ·obtain ⟨sl,e1⟩:=I.base.slot b o e n hb hx
  obtain ⟨sl',e2⟩:=slot b _ (neL b o e) hb (neC b o e hx) e1 (I.base.free b o e n hx)
  exact ⟨sl',e2⟩
 ·obtain ⟨o',e1⟩:=I.base.there b o e hx
  exact free b o' (neC b o e hx) e1 (I.base.free b o e n hx)
 ·obtain ⟨o',e1⟩:=I.base.there b o e hx
  exact there b o' (neC b o e hx) e1
 ·obtain ⟨m1,e1⟩:=I.base.tbls b ps e
  obtain ⟨m2,e2⟩:=tbls b _ e1
  exact ⟨m1 ++ m2,by rw [e2,Array.append_assoc]⟩
 ·obtain ⟨m,hn,hl⟩:=I.loc
  refine ⟨m,ns m hn,fun i x v e1 e2 e3=>?_⟩
  obtain ⟨u,r,l⟩:=hl i x v e1 e2 e3
  refine ⟨u,r,?_⟩
  rcases l with l | ⟨k,c,e,z⟩
  ·exact .inl l
  ·exact .inr ⟨k,c,e,cellK x c e _ z⟩
 ·obtain ⟨v,z⟩:=I.cell x c e
  exact ⟨v,cellK x c e v z⟩
 ·obtain ⟨m,⟨o,_,_,ho,_⟩,_⟩:=I.loc
  exact free _ o (fun z=>(hch _ z).2.1 rfl) ho I.free
 ·obtain ⟨v,o,ho,hd⟩:=I.cell x c e
  exact free c o (fun z=>(hch c z).2.2.1 x c e rfl) ho (I.freeC x c e)
 ·obtain ⟨e,n,ne,nf,d⟩:=I.pin p hp
  have nch:p.1 ∉ ch:=fun z=>(hch p.1 z).2.2.2 p hp rfl
  exact ⟨keep p.1 p.2 ne nf nch e n,free p.1 p.2 nch e n,ne,nf,d⟩
theorem Inv.un {t':Nat}(I:Inv X pins σ H s)(u:Un X.fs [] H H' s.heap h')(hok:HOk X.prog X.w H' h'):Inv X pins σ H' { s with heap:=h',toks:=t' }:=by
 obtain ⟨m,⟨o,es,ep,ho,r⟩,_⟩:=id I.loc
 obtain ⟨sl,hL⟩:=u.any ho I.free (by simp)
 exact I.step (g':=s.gens) (d':=s.drawn) (ch:=[]) (fun _ z=>nomatch z) (fun b o _ hb _ e n=>u.keep b o e n hb (by simp)) (fun b o _ hb _ e n=>u.slot b o e n hb (by simp)) (fun b o _ e n=>u.free b o e n (by simp)) (fun b o _ e=>u.there b o e (by simp)) u.tups u.frzs u.tbls (fun m' hm=>by
  obtain ⟨o',es',ep',ho',r'⟩:=hm
  rw [ho] at ho';cases ho'
  exact ⟨_,es',ep',hL,r'⟩) hok I.bare
theorem Inv.call {g':Array GenState}{t':Nat}{d':Drawn}{ch:List Addr}(I:Inv X pins σ H s)(u:Un (frs X.stack) ch H H' s.heap h')(hok:HOk X.prog X.w H' h')(hg:AllBare g')
  (hch:∀ b∈ch,(b∈X.ex∨X.s₀.heap.objs.size≤b)∧b≠X.env.locals∧(∀ x c,X.env.cells.lookup x=some c→c≠b)∧∀ p∈X.pn ++ pins,p.1≠b) :
  Inv X pins σ H' { s with heap:=h',gens:=g',drawn:=d',toks:=t' }:=by
 obtain ⟨m,⟨o,es,ep,ho,r⟩,_⟩:=id I.loc
 obtain ⟨sl,hL⟩:=u.any ho I.free fun z=>(hch _ z).2.1 rfl
 exact I.step (ch:=ch) hch (fun b o hL hb hc e n=>u.keep b o e n (fun z=>(Xap.mp (I.stkSub b z)).elim hL hb) hc) (fun b o _ _ hc e n=>u.any e n hc) (fun b o hc e n=>u.free b o e n hc) (fun b o hc e=>u.there b o e hc) u.tups u.frzs u.tbls (fun m' hm=>by
  obtain ⟨o',es',ep',ho',r'⟩:=hm
  rw [ho] at ho';cases ho'
  exact ⟨_,es',ep',hL,r'⟩) hok hg
theorem Inv.turned {t':Nat}{it:Addr}(I:Inv X pins σ H s)(k:∀ b o,b≠it→s.heap.get? b=some o→h'.get? b=some o)(hn:H it=none)(hL:it≠X.env.locals)
  (h1:it∈X.ex∨X.s₀.heap.objs.size≤it) (h2:∀ x c,X.env.cells.lookup x=some c→c≠it) (h3:∀ p∈X.pn ++ pins,p.1≠it):Inv X pins σ H { s with heap:=h',toks:=t' }:=by
 have nit:∀ b u,H b=some u→b≠it:=fun b u e z=>by rw [z,hn] at e;cases e
 refine I.step (g':=s.gens) (d':=s.drawn) (ch:=[it]) (fun b hb=>?_) (fun b o _ _ hc e _=>k b o (fun z=>hc (by simp [z])) e) (fun b o _ _ hc e _=>⟨o.slots,k b o (fun z=>hc (by simp [z])) e⟩) (fun _ _ _ _ n=>n)
  (fun b o hc e=>⟨o,k b o (fun z=>hc (by simp [z])) e⟩) (fun _ _ e=>e) (fun _ _ _ e=>e) (fun b ps e=>⟨#[],by rw [e];simp⟩) (fun m hm=>?_) (fun b u e=>?_) I.bare
 ·have e:b=it:=by simpa using hb
  subst e
  exact ⟨h1,hL,h2,h3⟩
 ·obtain ⟨o,es,ep,ho,r⟩:=hm
  exact ⟨o,es,ep,k _ o (Ne.symm hL) ho,r⟩
 ·refine (I.hok b u e).stay (fun c v hc q=>k c v ?_ q) (fun _ q=>q) fun _ _ q=>q
  rcases hc with z | z
  ·rw [z];exact nit b u e
  ·exact nit c _ z
theorem Inv.tok (I:Inv X pins σ H s)(t:Nat):Inv X pins σ H { s with toks:=t }:=I.un (h':=s.heap) (t':=t) Un.refl I.hok
theorem Inv.kept {t':Nat}(I:Inv X pins σ H s)(k:∀ b u,s.heap.get? b=some u→h'.get? b=some u):Inv X pins σ H { s with heap:=h',toks:=t' }:=I.un (Un.kept k) (I.hok.kept k)
theorem Inv.laid {a:Addr}{o:HO}{t':Nat}(I:Inv X pins σ H s)(k:∀ b u,s.heap.get? b=some u→h'.get? b=some u)(hp:s.heap.objs.size≤a)(new:ObjOk X.prog X.w (upd H a o) h' a o) :
  Inv X pins σ (upd H a o) { s with heap:=h',toks:=t' }:=I.un (Un.laid k hp (I.hok.fresh hp)) (I.hok.laid k hp new)
theorem Inv.write {x e:Addr}{o:HO}{t':Nat}(I:Inv X pins σ H s)(mu:Mut (H x))(he:e=x∨H e=some (.own x))(k:∀ b u,b≠e→s.heap.get? b=some u→h'.get? b=some u)(heo:∃ u,h'.get? e=some u)
  (new:ObjOk X.prog X.w (upd H x o) h' x o):Inv X pins σ (upd H x o) { s with heap:=h',toks:=t' }:=I.un (Un.write mu he k heo) (I.hok.write mu he k heo new)
theorem Inv.pins_of {pins':List (Addr×Obj)}(I:Inv X pins σ H s)(h:∀ p∈pins',s.heap.get? p.1=some p.2∧H p.1=none∧p.1≠X.env.locals∧p.1 ∉ X.fs∧∀ v,p.2.data≠.cell v):Inv X pins' σ H s:=
 ⟨I.ok,I.os,I.bare,I.base,I.loc,I.cell,I.free,I.freeC,fun p hp=>(XaF.mp hp).elim (fun z=>I.pin p (Xbl _ z)) (h p),I.hok,I.len⟩
theorem zeq {N:List Str}(hN:N.Nodup){i j:Nat}{x:Str}(a:N[i]? = some x)(b:N[j]? = some x):i=j:=by
 obtain ⟨h1,e1⟩:=Xae.mp a
 obtain ⟨h2,e2⟩:=Xae.mp b
 exact (List.getElem_inj hN).mp (e1.trans e2.symm)
theorem zeE {M:Model}{A:Around}{E:Value→Shared→Prop}{i:Nat}{x:Str}{v:V}{u:Value}{Q:Unit→Shared→Prop}(I:Inv X pins σ H s)(hN:X.N.Nodup)(hi:X.N[i]? = some x)(hx:Loc X.env.scope x)(r:RelV v u)
  (h:∀ s',Inv X pins (σ.set i (some v)) H s'→(∃ a,Heap.SameBut a s.heap s'.heap∧(a=X.env.locals∨X.env.cells.lookup x=some a))→Q () s') (hf:X.fn x=true∨X.env.scope.names.lookup x=some .local:=by first | exact .inl rfl | exact .inr rfl | assumption):wpAny M A (storeName X.env x u) Q E s:=by
 obtain ⟨m,hn,hl⟩:=id I.loc
 have hcls:(X.env.scope.kind == .class || (X.env.scope.kind == .module && X.env.locals != X.env.globals))=false:=by rw [I.ok.kind];rfl
 have hiσ:i<σ.length:=by rw [I.len];exact (Xae.mp hi).1
 have cne:=I.cne
 have tracked:∀ {a:Addr} {h':Heap},(∃ o,s.heap.get? a=some o∧H a=none)→Heap.SameBut a s.heap h'→HOk X.prog X.w H h':=fun {a h'} ha hs b ob e=>by
  obtain ⟨_,_,hfree⟩:=ha
  refine (I.hok b ob e).stay (fun c w' hc q=>(hs.2 c ?_).trans q) (fun _ q=>q) fun _ _ q=>q
  rintro rfl
  rcases hc with rfl | hc
  ·rw [hfree] at e;cases e
  ·rw [hfree] at hc;cases hc
 rcases hx with hk | hk
 ·refine wpAny_storeName_local hk hn (fun h' hn' hs=>?_) hcls
  obtain ⟨oL,_,_,hoL,_⟩:=id hn
  refine h _ ⟨I.ok,I.os,I.bare,⟨fun b o e n hb hx=>?_,fun b o e n hb hx=>?_,I.base.free,fun b o e hx=>?_,I.base.tups,I.base.frzs,I.base.tbls⟩,⟨_,hn',fun j y v' e1 e2 e3=>?_⟩,fun y c e=>?_,I.free,I.freeC,fun p hp=>?_,tracked ⟨oL,hoL,I.free⟩ hs,by simpa using I.len⟩ ⟨_,hs,.inl rfl⟩
  ·exact (hs.2 b (Xav (Xaj (Xan e) I.ok.above))).trans (I.base.keep b o e n hb hx)
  ·obtain ⟨sl,e1⟩:=I.base.slot b o e n hb hx
   exact ⟨sl,(hs.2 b (Xav (Xaj (Xan e) I.ok.above))).trans e1⟩
  ·obtain ⟨o',e1⟩:=I.base.there b o e hx
   exact ⟨o',(hs.2 b (Xav (Xaj (Xan e) I.ok.above))).trans e1⟩
  ·by_cases hj:j=i
   ·subst hj
    rw [hi] at e1;cases e1
    rw [XbD hiσ] at e2
    cases e2
    exact ⟨u,r,.inl ⟨hk,by simp⟩⟩
   ·rw [List.getElem?_set_ne (Ne.symm hj)] at e2
    obtain ⟨u',r',q⟩:=hl j y v' e1 e2 e3
    refine ⟨u',r',?_⟩
    rcases q with ⟨k,e⟩ | ⟨k,c,e,z⟩
    ·refine .inl ⟨k,?_⟩
     have:y≠x:=fun e=>hj (zeq hN e1 (e ▸ hi))
     simp [this,e]
    ·exact .inr ⟨k,c,e,z.sameBut hs (cne y c e)⟩
  ·obtain ⟨w',z⟩:=I.cell y c e
   exact ⟨w',z.sameBut hs (cne y c e)⟩
  ·obtain ⟨e,n,ne,nf,d⟩:=I.pin p hp
   exact ⟨(hs.2 p.1 ne).trans e,n,ne,nf,d⟩
 ·have hfn:X.fn x=true:=by
   rcases hf with z | z
   ·exact z
   ·rw [z] at hk;cases hk
  obtain ⟨c,hc⟩:=I.ok.has x (.inl hk)
  obtain ⟨w',z⟩:=I.cell x c hc
  refine wpAny_storeName_cell I.ok.kind hk hc z (fun h' hc' hs=>?_)
  obtain ⟨oc,hoc,hocd⟩:=id z
  refine h { s with heap:=h' } ⟨I.ok,I.os,I.bare,⟨fun b o e n hb hx=>?_,fun b o e n hb hx=>?_,I.base.free,fun b o e hx=>?_,I.base.tups,I.base.frzs,I.base.tbls⟩,⟨m,hn.sameBut hs (Ne.symm (cne x c hc)),fun j y v' e1 e2 e3=>?_⟩,fun y c' e=>?_,I.free,I.freeC,fun p hp=>?_,tracked ⟨oc,hoc,I.freeC x c hc⟩ hs,by simpa using I.len⟩ ⟨c,hs,.inr hc⟩
  ·exact (hs.2 b (Xav (Xaj (Xan e) (I.ok.cab x c hfn hc)))).trans (I.base.keep b o e n hb hx)
  ·obtain ⟨sl,e1⟩:=I.base.slot b o e n hb hx
   exact ⟨sl,(hs.2 b (Xav (Xaj (Xan e) (I.ok.cab x c hfn hc)))).trans e1⟩
  ·obtain ⟨o',e1⟩:=I.base.there b o e hx
   exact ⟨o',(hs.2 b (Xav (Xaj (Xan e) (I.ok.cab x c hfn hc)))).trans e1⟩
  ·by_cases hj:j=i
   ·subst hj
    rw [hi] at e1;cases e1
    rw [XbD hiσ] at e2
    cases e2
    exact ⟨u,r,.inr ⟨.inl hk,c,hc,hc'⟩⟩
   ·rw [List.getElem?_set_ne (Ne.symm hj)] at e2
    obtain ⟨u',r',q⟩:=hl j y v' e1 e2 e3
    refine ⟨u',r',?_⟩
    rcases q with q | ⟨k,c',e,z'⟩
    ·exact .inl q
    ·refine .inr ⟨k,c',e,z'.sameBut hs ?_⟩
     rintro rfl
     exact hj (zeq hN e1 (I.ok.inj _ _ _ e hc ▸ hi))
  ·by_cases hcc:c'=c
   ·subst hcc;exact ⟨_,hc'⟩
   ·obtain ⟨w2,z2⟩:=I.cell y c' e
    exact ⟨w2,z2.sameBut hs hcc⟩
  ·obtain ⟨e,n,ne,nf,d⟩:=I.pin p hp
   refine ⟨(hs.2 p.1 ?_).trans e,n,ne,nf,d⟩
   intro q
   rw [q,hoc] at e
   have q':oc=p.2:=Option.some.inj e
   exact d w' (by rw [← q'];exact hocd)
theorem zcm {M:Model}{A:Around}{E:Value→Shared→Prop}{i:Nat}{x:Str}{v:V}{u:Value}{Q:Unit→Shared→Prop}(I:Inv X pins σ H s)(hN:X.N.Nodup)(hi:X.N[i]? = some x)(hx:Loc X.env.scope x)(r:RelV v u)
  (h:∀ s',Inv X pins (σ.set i (some v)) H s'→Q () s') (hf:X.fn x=true∨X.env.scope.names.lookup x=some .local:=by first | exact .inl rfl | exact .inr rfl | assumption):wpAny M A (storeName X.env x u) Q E s:=
 zeE I hN hi hx r (fun s' I' _=>h s' I') hf
theorem Inv.call' {s':Shared}{ch:List Addr}(I:Inv X pins σ H s)(ho:s'.os=s.os)(u:Un (frs X.stack) ch H H' s.heap s'.heap)(hok:HOk X.prog X.w H' s'.heap)(hg:AllBare s'.gens)
  (hch:∀ b∈ch,(b∈X.ex∨X.s₀.heap.objs.size≤b)∧b≠X.env.locals∧(∀ x c,X.env.cells.lookup x=some c→c≠b)∧∀ p∈X.pn ++ pins,p.1≠b):Inv X pins σ H' s':=by
 obtain ⟨h',g',d',t',o'⟩:=s'
 have e:o'=s.os:=ho
 subst e
 exact I.call (g':=g') (t':=t') (d':=d') u hok hg hch
end
abbrev XK:=Value→Option Addr→Hp→Prop
abbrev St:=List (Option V)
abbrev VK:=V→Hp→Prop
abbrev TE:=St→Hp→VK→Prop
abbrev TT:=St→Hp→(Bool→Hp→Prop)→Prop
abbrev TA:=St→Hp→(List V→Hp→Prop)→Prop
structure Ends where
 nx:St→Hp→Prop
 rt:VK
 bk:St→Hp→Prop:=fun _ _=>False
 ct:St→Hp→Prop:=fun _ _=>False
abbrev TS:=Ends→St→Hp→Prop
inductive EP (X:Cx)(pins:List (Addr×Obj))(σ:St)(Q:VK)(u:Value)(s':Shared):Prop
 | mk (v:_) (H':_) (z0_:Inv X pins σ H' s') (z1_:RelV v u) (z2_:Q v H')
inductive TP (X:Cx)(pins:List (Addr×Obj))(σ:St)(Q:Bool→Hp→Prop)(b:Bool)(s':Shared):Prop
 | mk (H':_) (z0_:Inv X pins σ H' s') (z1_:Q b H')
inductive AP (X:Cx)(pins:List (Addr×Obj))(σ:St)(Q:List V→Hp→Prop)(us:List Value)(s':Shared):Prop
 | mk (vs:_) (H':_) (z0_:Inv X pins σ H' s') (z1_:Vals vs us) (z2_:Q vs H')
def SP (X:Cx)(pins:List (Addr×Obj))(D:Ends)(f:Flow)(s':Shared):Prop:=
 match f with
 | .next=>∃ σ' H',Inv X pins σ' H' s'∧D.nx σ' H'
 | .brk=>∃ σ' H',Inv X pins σ' H' s'∧D.bk σ' H'
 | .cont=>∃ σ' H',Inv X pins σ' H' s'∧D.ct σ' H'
 | .ret u=>∃ v σ' H',Inv X pins σ' H' s'∧RelV v u∧D.rt v H'
def PE (X:Cx)(e:Expr)(t:TE):Prop:=
 ∀ (pins:List (Addr×Obj)) (s:Shared) (σ:St) (H:Hp) (Q:VK),Inv X pins σ H s→t σ H Q→wpAny (model X.prog X.w) X.A (eval e X.env) (EP X pins σ Q) X.xe s
def PT (X:Cx)(e:Expr)(t:TT):Prop:=
 ∀ (pins:List (Addr×Obj)) (s:Shared) (σ:St) (H:Hp) (Q:Bool→Hp→Prop),Inv X pins σ H s→t σ H Q→wpAny (model X.prog X.w) X.A (isTrue e X.env (eval e X.env)) (TP X pins σ Q) X.xe s
def PW (X:Cx)(e:Expr)(t:TT):Prop:=
 ∀ (whole:Sem Value) (pins:List (Addr×Obj)) (s:Shared) (σ:St) (H:Hp) (Q:Bool→Hp→Prop),Inv X pins σ H s→t σ H Q→wpAny (model X.prog X.w) X.A (isTrue e X.env whole) (TP X pins σ Q) X.xe s
theorem PW.pt {X:Cx}{e:Expr}{t:TT}(h:PW X e t):PT X e t:=h _
def PA (X:Cx)(es:List Expr)(t:TA):Prop:=
 ∀ (pos:Pos) (pins:List (Addr×Obj)) (s:Shared) (σ:St) (H:Hp) (Q:List V→Hp→Prop),Inv X pins σ H s→t σ H Q→wpAny (model X.prog X.w) X.A (spliced (backTo pos (starEach es X.env))) (AP X pins σ Q) X.xe s
def PS (X:Cx)(st:Stmt)(t:TS):Prop:=
 ∀ (pins:List (Addr×Obj)) (s:Shared) (σ:St) (H:Hp) (D:Ends),Inv X pins σ H s→t D σ H→wpAny (model X.prog X.w) X.A (exec st X.env) (SP X pins D) X.xe s
def PSs (X:Cx)(st:List Stmt)(t:TS):Prop:=
 ∀ (pins:List (Addr×Obj)) (s:Shared) (σ:St) (H:Hp) (D:Ends),Inv X pins σ H s→t D σ H→wpAny (model X.prog X.w) X.A (execs st X.env) (SP X pins D) X.xe s
theorem thn {α:Type}{t:Sem α}{Q Q':α→Shared→Prop}{M:Model}{A:Around}{E:Value→Shared→Prop}{s:Shared}(h:wpAny M A t Q E s)(hQ:∀ a s,Q a s→Q' a s):wpAny M A t Q' E s:=Xas h hQ fun _ _ x=>x
section
variable {X:Cx}
inductive tVar (i:Nat)(σ:St)(H:Hp)(Q:VK):Prop
 | mk (v:_) (z0_:σ[i]? = some (some v)) (z1_:Q v H)
def tC (v:V):TE:=fun _ H Q=>Q v H
theorem pe_var {i:Nat}{x:Str}{pos:Pos}(hN:X.N[i]? = some x)(hv:Vis X.env.scope x)(hd:(x == ("__debug__" : Str))=false:=by decide)(hcd:(x == ("__classdict__" : Str))=false:=by decide):PE X (.Name x pos) (tVar i):=by
 intro pins s σ H Q I h
 obtain ⟨v,e,h⟩:=h
 obtain ⟨m,hn,hl⟩:=I.loc
 obtain ⟨u,r,l⟩:=hl i x v hN e hv
 have fin:EP X pins σ Q u s:=⟨v,H,I,r,h⟩
 rcases l with ⟨hk,hm⟩ | ⟨hk,c,hc,hcell⟩
 ·exact wpAny_Name (wpAny_loadName_local I.ok.kind hk hn hm fin) hd
 ·rcases hk with hk | hk
  ·exact wpAny_Name (wpAny_loadName_cell I.ok.kind hk hc hcell fin) hd
  ·exact wpAny_Name (wpAny_loadName_free I.ok.kind hk hc hcell fin hcd) hd
theorem zac {i j pos}:PE X (.Constant (.int i) j pos) (tC (.int i)):=fun _ _ _ H _ I h=>wpAny_Constant_int ⟨.int i,H,I.tok _,⟨_,rfl⟩,h⟩
theorem zaZ {b j pos}:PE X (.Constant (.bool b) j pos) (tC (.bl b)):=fun _ _ _ H _ I h=>Constant_bool ⟨.bl b,H,I,rfl,h⟩
theorem za5 {j pos}:PE X (.Constant .none j pos) (tC .non):=fun _ _ _ H _ I h=>Constant_none ⟨.non,H,I,rfl,h⟩
theorem zaC {x j pos}:PE X (.Constant (.str x) j pos) (tC (.str x)):=fun _ _ _ H _ I h=>Calls.Constant_str ⟨.str x,H,I.tok _,⟨_,rfl⟩,h⟩
def Gl (X:Cx)(x:Str):Prop:=X.env.kindOf x=some .globalImplicit
theorem za4 {E:Value→Shared→Prop}{pins:List (Addr×Obj)}{s:Shared}{σ:St}{H:Hp}{x:Str}{u:Value}{pos:Pos}{Q:Value→Shared→Prop}(I:Inv X pins σ H s)(hg:Gl X x)(hm:X.mg x=some u)(h:Q u s)
  (hd:(x == ("__debug__" : Str))=false:=by decide):wpAny (model X.prog X.w) X.A (eval (.Name x pos) X.env) Q E s:=
 Calls.Name_function_global I.ok.kind hg (Calls.loadGlobal_global (by rw [I.ok.glob];exact I.mod.glob.keeps I.bk) hm h) hd
theorem zdC {E:Value→Shared→Prop}{pins:List (Addr×Obj)}{s:Shared}{σ:St}{H:Hp}{x:Str}{u:Value}{pos:Pos}{Q:Value→Shared→Prop}(I:Inv X pins σ H s)(hg:Gl X x)(hm:X.mg x=none)(hv:bootBuiltins x=some u)(h:Q u s)
  (hn:x ≠ "__name__" := by decide) (hd:(x == ("__debug__" : Str))=false:=by decide):wpAny (model X.prog X.w) X.A (eval (.Name x pos) X.env) Q E s:=by
 obtain ⟨mb,h1,h2⟩:=I.mod.blt
 exact Calls.Name_function_global I.ok.kind hg (Calls.loadGlobal_builtin (by rw [I.ok.glob];exact I.mod.glob.keeps I.bk) hm (by rw [I.ok.blt];exact h1.keeps I.bk) ((h2 x hn).trans hv) h) hd
theorem zei {x:Str}{v:V}{u:Value}{pos:Pos}(hg:Gl X x)(hm:X.mg x=some u)(r:RelV v u)(hd:(x == ("__debug__" : Str))=false:=by decide):PE X (.Name x pos) (tC v):=
 fun _ _ _ H _ I h=>za4 I hg hm ⟨v,H,I,r,h⟩ hd
theorem zcd {x:Str}{v:V}{u:Value}{pos:Pos}(hg:Gl X x)(hm:X.mg x=none)(hv:bootBuiltins x=some u)(r:RelV v u)(hn:x ≠ "__name__" := by decide)(hd:(x == ("__debug__" : Str))=false:=by decide):PE X (.Name x pos) (tC v):=
 fun _ _ _ H _ I h=>zdC I hg hm hv ⟨v,H,I,r,h⟩ hn hd
variable {a b:Expr}{ta tb:TE}{pos:Pos}
def PC (X:Cx)(op:CmpOp)(a b:Expr)(t:TE):Prop:=
 ∀ (pins:List (Addr×Obj)) (s:Shared) (σ:St) (H:Hp) (Q:VK),Inv X pins σ H s→t σ H Q →
  wpAny (model X.prog X.w) X.A (eval a X.env) (fun v s₁=>wpAny (model X.prog X.w) X.A (eval b X.env) (fun u s₂=>wpAny (model X.prog X.w) X.A (compareOp op v u) (EP X pins σ Q) X.xe s₂) X.xe s₁) X.xe s
theorem zgf (b:Expr){op:CmpOp}(h:op≠.In)(h2:op≠.NotIn):behindInMarks op b=false:=by
 have e1:(op == CmpOp.In)=false:=by cases op <;> first | rfl | exact absurd rfl h
 have e2:(op == CmpOp.NotIn)=false:=by cases op <;> first | rfl | exact absurd rfl h2
 cases b <;> simp [behindInMarks,e1,e2]
def tIsN (ta:TE):TE:=fun σ H Q=>ta σ H fun x H1=>Q (.bl (decide (x = .non))) H1
def tNotN (ta:TE):TE:=fun σ H Q=>ta σ H fun x H1=>Q (.bl (!decide (x = .non))) H1
theorem RelV.none_iff {x:V}{v:Value}(r:RelV x v):(v == Value.none)=decide (x = .non):=by
 cases x with
 | non=>cases r;rfl
 | bl _=>cases r;rfl
 | int _=>obtain ⟨t,rfl⟩:=r;rfl
 | str _=>obtain ⟨t,rfl⟩:=r;rfl
 | byt _=>obtain ⟨t,rfl⟩:=r;rfl
 | flt _=>obtain ⟨t,rfl⟩:=r;rfl
 | ref _=>cases r;rfl
 | ty _=>cases r;rfl
theorem zgc {j pos'}(ha:PE X a ta):PC X .Is a (.Constant .none j pos') (tIsN ta):=by
 intro pins s σ H Q I h
 refine thn (ha pins s σ H _ I h) fun v s1 hh_=>?_
 obtain ⟨x,H1,I1,r1,q1⟩:=hh_
 exact Constant_none (is_none_gen ⟨.bl _,H1,I1,by rw [r1.none_iff];rfl,q1⟩)
theorem zek {j pos'}(ha:PE X a ta):PC X .IsNot a (.Constant .none j pos') (tNotN ta):=by
 intro pins s σ H Q I h
 refine thn (ha pins s σ H _ I h) fun v s1 hh_=>?_
 obtain ⟨x,H1,I1,r1,q1⟩:=hh_
 exact Constant_none (isnot_none_gen ⟨.bl _,H1,I1,by rw [r1.none_iff];rfl,q1⟩)
inductive tB_1 (Q:Bool→Hp→Prop)(x:V)(H1:Hp):Prop
 | mk (c:_) (z0_:x = .bl c) (z1_:Q c H1)
def tB (t:TE):TT:=fun σ H Q=>t σ H (tB_1 Q)
theorem zjv {op:CmpOp}{t:TE}(h:PC X op a b t)(h1:behindInMarks op b=false:=by first | exact zgf _ (by decide) (by decide) | rfl):PE X (.Compare a [op] [b] pos) t:=fun pins s σ H Q I hw=>wpAny_Compare1 (h pins s σ H Q I hw) h1
theorem zdV {op:CmpOp}{t:TE}(h:PC X op a b t)(h1:behindInMarks op b=false:=by first | exact zgf _ (by decide) (by decide) | rfl):PT X (.Compare a [op] [b] pos) (tB t):=by
 intro pins s σ H Q I hw
 refine wpAny_isTrue_Compare1 (thn (h pins s σ H _ I hw) fun v s1 h1=>thn h1 fun u s2 h2=>thn h2 fun c s3 hh_=>?_) h1
 obtain ⟨x,H1,I1,r1,q1⟩:=hh_
 obtain ⟨d,rfl,q⟩:=q1
 cases r1
 exact XaS ⟨H1,I1,q⟩
theorem zaQ {e:Expr}{t:TE}(h:PE X e t)(he:∀ whole,isTrue e X.env whole=(do let v ← whole;standAt e.pos;holding [v] (truthy v)):=by intro _;rfl):PT X e (tB t):=by
 intro pins s σ H Q I hw
 refine isTrue_plain (thn (h pins s σ H _ I hw) fun v s1 hh_=>?_) (he _)
 obtain ⟨x,H1,I1,r1,q1⟩:=hh_
 obtain ⟨d,rfl,q⟩:=q1
 cases r1
 exact XaS ⟨H1,I1,q⟩
variable {tA tB':TT}{rest:List Expr}
def tAnd (t u:TT):TT:=fun σ H Q=>t σ H fun c H1=>if c=true then u σ H1 Q else Q false H1
def tOr (t u:TT):TT:=fun σ H Q=>t σ H fun c H1=>if c=true then Q true H1 else u σ H1 Q
def tNot (t:TT):TT:=fun σ H Q=>t σ H fun c H1=>Q (!c) H1
theorem zee (ha:PT X a tA):PW X (.BoolOp .And [a] pos) tA:=by
 intro wh pins s σ H Q I h
 refine isTrue_and (thn (ha pins s σ H Q I h) fun c s1 e=>?_)
 cases c with
 | true=>exact isTrue_and_nil e
 | false=>exact e
theorem zbm (ha:PT X a tA):PW X (.BoolOp .Or [a] pos) tA:=by
 intro wh pins s σ H Q I h
 refine isTrue_or (thn (ha pins s σ H Q I h) fun c s1 e=>?_)
 cases c with
 | false=>exact isTrue_or_nil e
 | true=>exact e
theorem zeN (ha:PT X a tA)(hb:PW X (.BoolOp .And (b :: rest) pos) tB'):PW X (.BoolOp .And (a :: b :: rest) pos) (tAnd tA tB'):=by
 intro wh pins s σ H Q I h
 refine isTrue_and (thn (ha pins s σ H _ I h) fun c s1 ⟨H1,I1,q1⟩=>?_)
 cases c with
 | true=>exact hb wh pins s1 σ H1 Q I1 q1
 | false=>exact ⟨H1,I1,q1⟩
theorem zbN (ha:PT X a tA)(hb:PW X (.BoolOp .Or (b :: rest) pos) tB'):PW X (.BoolOp .Or (a :: b :: rest) pos) (tOr tA tB'):=by
 intro wh pins s σ H Q I h
 refine isTrue_or (thn (ha pins s σ H _ I h) fun c s1 ⟨H1,I1,q1⟩=>?_)
 cases c with
 | true=>exact ⟨H1,I1,q1⟩
 | false=>exact hb wh pins s1 σ H1 Q I1 q1
theorem zaR (ha:PT X a tA):PT X (.UnaryOp .Not a pos) (tNot tA):=by
 intro pins s σ H Q I h
 exact isTrue_not (thn (ha pins s σ H (fun c H1=>Q (!c) H1) I h) fun c s1 ⟨H1,I1,q1⟩=>⟨H1,I1,q1⟩)
inductive tAndV_1 (tb:TE)(σ:St)(Q:VK)(x:V)(H1:Hp):Prop
 | mk (c:_) (z0_:x = .bl c) (z1_:if c=true then tb σ H1 Q else Q (.bl false) H1)
def tAndV (ta tb:TE):TE:=fun σ H Q=>ta σ H (tAndV_1 tb σ Q)
inductive tOrV_1 (tb:TE)(σ:St)(Q:VK)(x:V)(H1:Hp):Prop
 | mk (c:_) (z0_:x = .bl c) (z1_:if c=true then Q (.bl true) H1 else tb σ H1 Q)
def tOrV (ta tb:TE):TE:=fun σ H Q=>ta σ H (tOrV_1 tb σ Q)
inductive tNotV_1 (Q:VK)(x:V)(H1:Hp):Prop
 | mk (c:_) (z0_:x = .bl c) (z1_:Q (.bl (!c)) H1)
def tNotV (ta:TE):TE:=fun σ H Q=>ta σ H (tNotV_1 Q)
theorem zbJ {op}{t:TE}(h:PE X a t):PE X (.BoolOp op [a] pos) t:=fun pins s σ H Q I hw=>BoolOp_one (h pins s σ H Q I hw)
theorem zbP (ha:PE X a ta)(hb:PE X (.BoolOp .And (b :: rest) pos) tb):PE X (.BoolOp .And (a :: b :: rest) pos) (tAndV ta tb):=by
 intro pins s σ H Q I h
 refine BoolOp_and (thn (ha pins s σ H _ I h) fun v s1 hh_=>?_)
 obtain ⟨x,H1,I1,r1,q1⟩:=hh_
 obtain ⟨c,rfl,q1⟩:=q1
 cases r1
 refine XaS ?_
 cases c with
 | true=>exact hb pins s1 σ H1 Q I1 q1
 | false=>exact ⟨.bl false,H1,I1,rfl,q1⟩
theorem zj7 (ha:PE X a ta)(hb:PE X (.BoolOp .Or (b :: rest) pos) tb):PE X (.BoolOp .Or (a :: b :: rest) pos) (tOrV ta tb):=by
 intro pins s σ H Q I h
 refine BoolOp_or (thn (ha pins s σ H _ I h) fun v s1 hh_=>?_)
 obtain ⟨x,H1,I1,r1,q1⟩:=hh_
 obtain ⟨c,rfl,q1⟩:=q1
 cases r1
 refine XaS ?_
 cases c with
 | false=>exact hb pins s1 σ H1 Q I1 q1
 | true=>exact ⟨.bl true,H1,I1,rfl,q1⟩
theorem zjt (ha:PE X a ta):PE X (.UnaryOp .Not a pos) (tNotV ta):=by
 intro pins s σ H Q I h
 refine UnaryOp_ (thn (ha pins s σ H _ I h) fun v s1 hh_=>?_)
 obtain ⟨x,H1,I1,r1,q1⟩:=hh_
 obtain ⟨c,rfl,q1⟩:=q1
 cases r1
 exact not_of (XaS ⟨.bl (!c),H1,I1,rfl,q1⟩)
end
def SqL (K:W.Frag)(H:Hp)(a:Addr)(xs:List V):Prop:=
 Rd H a (.lst xs) ∨
  ∃ (o:Obj) (its:Array Value) (n:Nat),K.lookup a=some o∧o.cls = .type "list" ∧ o.dict=none∧o.data = .seq its n∧its.size≤sizeLine∧Vals xs its.toList
def SqT (K:W.Frag)(H:Hp)(a:Addr)(xs:List V):Prop:=
 Rd H a (.tup xs) ∨
  ∃ (o:Obj) (its:Array Value) (n:Nat),K.lookup a=some o∧o.cls = .type "tuple" ∧ o.data = .seq its n∧its.size≤sizeLine∧Vals xs its.toList
def absV:Value→Option V
 | .none=>some .non
 | .bool b=>some (.bl b)
 | .int i _=>some (.int i)
 | .str x _=>some (.str x)
 | .bytes b _=>some (.byt b)
 | .float b _=>some (.flt b)
 | .ref a=>some (.ref a)
 | .type n=>some (.ty n)
 | _=>none
theorem RelV.abs {x:V}{u:Value}(r:RelV x u):absV u=some x:=by
 cases x with
 | non=>cases r;rfl
 | bl _=>cases r;rfl
 | int _=>obtain ⟨t,rfl⟩:=r;rfl
 | str _=>obtain ⟨t,rfl⟩:=r;rfl
 | byt _=>obtain ⟨t,rfl⟩:=r;rfl
 | flt _=>obtain ⟨t,rfl⟩:=r;rfl
 | ref _=>cases r;rfl
 | ty _=>cases r;rfl
theorem RelV.inj {x y:V}{u:Value}(r:RelV x u)(q:RelV y u):x=y:=Option.some.inj (r.abs.symm.trans q.abs)
theorem Vals.inj:∀ {xs ys:List V} {us:List Value},Vals xs us→Vals ys us→xs=ys
 | _,_,_,.nil,.nil=>rfl
 | _,_,_,.cons r t,.cons r' t'=>by rw [r.inj r',Vals.inj t t']
section
variable {X:Cx}{pins:List (Addr×Obj)}{σ:St}{H:Hp}{s:Shared}{a:Addr}{xs ys:List V}
theorem SqL.of {K:W.Frag}(h:H a=some (.lst xs)):SqL K H a xs:=.inl (.inl h)
theorem SqT.of {K:W.Frag}(h:H a=some (.tup xs)):SqT K H a xs:=.inl (.inl h)
theorem Inv.list (I:Inv X pins σ H s)(h:SqL X.K H a xs):∃ its:List Value,Vals xs its∧PlainL s.heap a its.toArray∧xs.length≤sizeLine:=by
 rcases h with h | ⟨o,its,n,hk,hc,hd,hs,hz,r⟩
 ·obtain ⟨z,its,n,r,e⟩:=h.ok I.hok
  exact ⟨its,r,⟨_,n,e,rfl,rfl,rfl⟩,z⟩
 ·refine ⟨its.toList,r,⟨o,n,I.kIn a o hk,hc,hd,by simpa using hs⟩,?_⟩
  have e:=r.length
  simp only [Array.length_toList] at e
  omega
theorem Inv.tuple (I:Inv X pins σ H s)(h:SqT X.K H a xs):∃ its:List Value,Vals xs its∧IsTup s.heap a its.toArray∧xs.length≤sizeLine:=by
 rcases h with h | ⟨o,its,n,hk,hc,hs,hz,r⟩
 ·obtain ⟨z,its,r,p⟩:=h.ok I.hok
  exact ⟨its,r,p,z.1⟩
 ·refine ⟨its.toList,r,⟨o,I.kIn a o hk,hc,n,by simpa using hs⟩,?_⟩
  have e:=r.length
  simp only [Array.length_toList] at e
  omega
theorem Inv.list_inj (I:Inv X pins σ H s)(h:SqL X.K H a xs)(h':SqL X.K H a ys):xs=ys:=by
 obtain ⟨its,r,⟨o,n,e,_,_,d⟩,_⟩:=I.list h
 obtain ⟨its',r',⟨o',n',e',_,_,d'⟩,_⟩:=I.list h'
 rw [e] at e';cases e'
 rw [d] at d'
 injection d' with d1 _
 have:its=its':=by simpa using congrArg Array.toList d1
 subst this
 exact r.inj r'
theorem Inv.tuple_inj (I:Inv X pins σ H s)(h:SqT X.K H a xs)(h':SqT X.K H a ys):xs=ys:=by
 obtain ⟨its,r,⟨o,e,_,n,d⟩,_⟩:=I.tuple h
 obtain ⟨its',r',⟨o',e',_,n',d'⟩,_⟩:=I.tuple h'
 rw [e] at e';cases e'
 rw [d] at d'
 injection d' with d1 _
 have:its=its':=by simpa using congrArg Array.toList d1
 subst this
 exact r.inj r'
end
abbrev Cx.wish (X:Cx)(E:Value→Shared→Prop):Cx:={ X with xe:=E }
abbrev Cx.nox (X:Cx):Cx:=X.wish fun _ _=>False
theorem Cx.Ok.wish {X:Cx}(ok:X.Ok)(E:Value→Shared→Prop):(X.wish E).Ok:=
 ⟨ok.mod,ok.kind,ok.glob,ok.blt,ok.above,ok.inj,ok.has,ok.cab,ok.hd,ok.frames,ok.stk,ok.exf,ok.bs,ok.bsz,ok.noex,ok.exfs,ok.funs,ok.frf⟩
theorem Cx.Ok.unwish {X:Cx}{E:Value→Shared→Prop}(ok:(X.wish E).Ok):X.Ok:=
 ⟨ok.mod,ok.kind,ok.glob,ok.blt,ok.above,ok.inj,ok.has,ok.cab,ok.hd,ok.frames,ok.stk,ok.exf,ok.bs,ok.bsz,ok.noex,ok.exfs,ok.funs,ok.frf⟩
section
variable {X:Cx}{pins:List (Addr×Obj)}{σ:St}{H:Hp}{s:Shared}{E:Value→Shared→Prop}
theorem Inv.wish (I:Inv X pins σ H s)(E:Value→Shared→Prop):Inv (X.wish E) pins σ H s:=⟨I.ok.wish E,I.os,I.bare,I.base,I.loc,I.cell,I.free,I.freeC,I.pin,I.hok,I.len⟩
theorem Inv.unwish (I:Inv (X.wish E) pins σ H s):Inv X pins σ H s:=⟨I.ok.unwish,I.os,I.bare,I.base,I.loc,I.cell,I.free,I.freeC,I.pin,I.hok,I.len⟩
theorem SP.unwish {D:Ends}{f:Flow}{s':Shared}(h:SP (X.wish E) pins D f s'):SP X pins D f s':=by
 cases f with
 | next=>obtain ⟨σ',H',I,q⟩:=h;exact ⟨σ',H',I.unwish,q⟩
 | brk=>obtain ⟨σ',H',I,q⟩:=h;exact ⟨σ',H',I.unwish,q⟩
 | cont=>obtain ⟨σ',H',I,q⟩:=h;exact ⟨σ',H',I.unwish,q⟩
 | ret u=>obtain ⟨v,σ',H',I,r,q⟩:=h;exact ⟨v,σ',H',I.unwish,r,q⟩
theorem PE.nox {e:Expr}{t:TE}(h:PE X.nox e t):PE X e t:=fun pins s σ H Q I hw =>
 Xas (h pins s σ H Q (I.wish _) hw) (fun _ _ ⟨v,H',I',r,q⟩=>⟨v,H',I'.unwish,r,q⟩) fun _ _ z=>False.elim z
theorem PT.nox {e:Expr}{t:TT}(h:PT X.nox e t):PT X e t:=fun pins s σ H Q I hw =>
 Xas (h pins s σ H Q (I.wish _) hw) (fun _ _ ⟨H',I',q⟩=>⟨H',I'.unwish,q⟩) fun _ _ z=>False.elim z
theorem PSs.nox {st:List Stmt}{t:TS}(h:PSs X.nox st t):PSs X st t:=fun pins s σ H D I hw =>
 Xas (h pins s σ H D (I.wish _) hw) (fun _ _ q=>q.unwish) fun _ _ z=>False.elim z
end
section
variable {X:Cx}{st:Stmt}{rest:List Stmt}{t u:TS}{e:Expr}{te:TE}{pos:Pos}
def tNext:TS:=fun D σ H=>D.nx σ H
def tSeq (t u:TS):TS:=fun D σ H=>t { D with nx:=u D } σ H
theorem zap:PSs X [] tNext:=fun _ _ σ H _ I h=>wpAny_execs_nil ⟨σ,H,I,h⟩
theorem zaf (h1:PS X st t)(h2:PSs X rest u):PSs X (st :: rest) (tSeq t u):=by
 intro pins s σ H D I h
 refine wpAny_execs_cons (thn (h1 pins s σ H { D with nx:=u D } I h) fun f s1 q=>?_)
 cases f with
 | next =>
  obtain ⟨σ',H',I',q⟩:=q
  exact h2 pins s1 σ' H' D I' q
 | ret v=>exact q
 | brk=>exact q
 | cont=>exact q
theorem zag (h1:PS X st t):PSs X [st] t:=by
 intro pins s σ H D I h
 refine wpAny_execs_cons (thn (h1 pins s σ H D I h) fun f s1 q=>?_)
 cases f with
 | next=>exact wpAny_execs_nil q
 | ret v=>exact q
 | brk=>exact q
 | cont=>exact q
theorem Inv.quiet {pins:List (Addr×Obj)}{σ:St}{H:Hp}{s:Shared}(I:Inv X pins σ H s):interactive X.env=false:=by simp [interactive,I.ok.kind]
def tDrop (te:TE):TS:=fun D σ H=>te σ H fun _ H1=>D.nx σ H1
theorem zaF (he:PE X e te)(hs:swapsWith e none pos.line X.env=pure false:=by rfl):PS X (.Expr e pos) (tDrop te):=by
 intro pins s σ H D I h
 exact wpAny_Expr_any (thn (he pins s σ H _ I h) fun v s1 ⟨x,H1,I1,r1,q1⟩=>⟨σ,H1,I1,q1⟩) I.quiet hs
def tRet (te:TE):TS:=fun D σ H=>te σ H D.rt
theorem zas (he:PE X e te):PS X (.Return (some e) pos) (tRet te):=by
 intro pins s σ H D I h
 exact wpAny_Return_some (thn (he pins s σ H _ I h) fun v s1 ⟨x,H1,I1,r1,q1⟩=>⟨x,σ,H1,I1,r1,q1⟩)
def tIfS (c:TT)(t u:TS):TS:=fun D σ H=>c σ H fun b H1=>if b=true then t D σ H1 else u D σ H1
theorem zaA {c:Expr}{a b:List Stmt}{tc:TT}(hc:PT X c tc)(ha:PSs X a t)(hb:PSs X b u):PS X (.If c a b pos) (tIfS tc t u):=by
 intro pins s σ H D I h
 refine wpAny_If (thn (hc pins s σ H _ I h) fun d s1 ⟨H1,I1,q1⟩=>?_)
 cases d with
 | true=>exact ha pins s1 σ H1 D I1 q1
 | false=>exact hb pins s1 σ H1 D I1 q1
def tNever:TS:=fun _ _ _=>False
theorem za7:PS X st tNever:=fun _ _ _ _ _ _ h=>h.elim
end
abbrev TG:=V→St→Hp→(St→Hp→Prop)→Prop
abbrev TGs:=List V→St→Hp→(St→Hp→Prop)→Prop
def PG (X:Cx)(target:Expr)(t:TG):Prop:=
 ∀ (pins:List (Addr×Obj)) (s:Shared) (σ:St) (H:Hp) (v:V) (u:Value) (Q:St→Hp→Prop),Inv X pins σ H s→RelV v u→t v σ H Q →
  wpAny (model X.prog X.w) X.A (assign target X.env u) (fun _ s'=>∃ σ' H',Inv X pins σ' H' s'∧Q σ' H') X.xe s
def PGs (X:Cx)(ts:List Expr)(t:TGs):Prop:=
 ∀ (pins:List (Addr×Obj)) (s:Shared) (σ:St) (H:Hp) (vs:List V) (us:List Value) (Q:St→Hp→Prop),Inv X pins σ H s→Vals vs us→t vs σ H Q →
  wpAny (model X.prog X.w) X.A (assignInOrder ((assignEach ts X.env).map (·.2)) us) (fun _ s'=>∃ σ' H',Inv X pins σ' H' s'∧Q σ' H') X.xe s
abbrev TSet:=V→V→V→Hp→(Hp→Prop)→Prop
def PSet (X:Cx)(t:TSet):Prop:=
 ∀ (pins:List (Addr×Obj)) (s:Shared) (σ:St) (H:Hp) (o i v:V) (ov iv u:Value) (Q:Hp→Prop),Inv X pins σ H s→RelV o ov→RelV i iv→RelV v u→t o i v H Q →
  wpAny (model X.prog X.w) X.A (setItem ov iv u) (fun _ s'=>∃ H',Inv X pins σ H' s'∧Q H') X.xe s
abbrev TIp:=V→V→Hp→VK→Prop
def PIp (X:Cx)(op:Operator)(t:TIp):Prop:=
 ∀ (pins:List (Addr×Obj)) (s:Shared) (σ:St) (H:Hp) (x y:V) (v u:Value) (Q:VK),Inv X pins σ H s→RelV x v→RelV y u→t x y H Q →
  wpAny (model X.prog X.w) X.A (inplaceOp op v u) (EP X pins σ Q) X.xe s
section
variable {X:Cx}{pos:Pos}
def zaE (i:Nat):TG:=fun v σ H Q=>Q (σ.set i (some v)) H
theorem zhA {i:Nat}{x:Str}(hN:X.N.Nodup)(hi:X.N[i]? = some x)(hx:Loc X.env.scope x)(hf:X.fn x=true∨X.env.scope.names.lookup x=some .local:=by first | exact .inl rfl | exact .inr rfl | assumption):PG X (.Name x pos) (zaE i):=by
 intro pins s σ H v u Q I r h
 exact wpAny_assign_Name (zcm I hN hi hx r (fun s' I'=>⟨_,H,I',h⟩) hf)
def gNil:TGs:=fun vs σ H Q=>vs=[]∧Q σ H
inductive gCons (t:TG)(u:TGs)(vs:List V)(σ:St)(H:Hp)(Q:St→Hp→Prop):Prop
 | mk (v:_) (r:_) (z0_:vs=v :: r) (z1_:t v σ H fun σ' H'=>u r σ' H' Q)
theorem zbg:PGs X [] gNil:=by
 intro pins s σ H vs us Q I r h
 obtain ⟨e,h⟩:=h
 subst e
 cases r
 exact assignInOrder_nil ⟨σ,H,I,h⟩
theorem zau {e:Expr}{es:List Expr}{t:TG}{u:TGs}(h1:PG X e t)(h2:PGs X es u)
  (hs:(assignEach (e :: es) X.env).map (·.2)=assign e X.env :: (assignEach es X.env).map (·.2):=by rfl):PGs X (e :: es) (gCons t u):=by
 intro pins s σ H vs us Q I r h
 obtain ⟨v,vr,e1,h⟩:=h
 subst e1
 cases r with
 | cons r rr =>
  rw [hs]
  refine assignInOrder_cons (thn (h1 pins s σ H _ _ _ I r h) fun _ s1 ⟨σ1,H1,I1,q1⟩=>?_)
  exact h2 pins s1 σ1 H1 _ _ Q I1 rr q1
inductive gTup (K:W.Frag)(n:Nat)(t:TGs)(v:V)(σ:St)(H:Hp)(Q:St→Hp→Prop):Prop
 | mk (a:_) (xs:_) (z0_:v = .ref a) (z1_:SqT K H a xs) (z2_:xs.length=n) (z3_:t xs σ H Q)
theorem zbO {es:List Expr}{k:Nat}{t:TGs}{n:Nat}(hc:X.calm=true)(h:PGs X es t)
  (hn:(assignEach es X.env).length=n:=by rfl) (hst:(assignEach es X.env).findIdx? (·.1)=none:=by rfl):PG X (.Tuple es k pos) (gTup X.K n t):=by
 intro pins s σ H v u Q I r hw
 obtain ⟨a,xs,e1,hq,hl,hw⟩:=hw
 subst e1
 cases r
 obtain ⟨its,rv,ht,hz⟩:=I.tuple hq
 refine assign_Tuple_tuple (I.ok.hd hc) ht (by simp [hn,← hl,rv.length]) hst fun h' hx=>?_
 have I1:Inv X pins σ H { s with heap:=h' }:=I.kept (t':=s.toks) fun b o e=>hx b o (Xav (Xan e)) e
 exact h pins _ σ H xs _ Q I1 (by simpa using rv) hw
def gSub (to ti:TE)(t:TSet):TG:=fun v σ H Q=>to σ H fun o H1=>ti σ H1 fun i H2=>t o i v H2 fun H3=>Q σ H3
theorem pg_sub {o i:Expr}{to ti:TE}{t:TSet}(ho:PE X o to)(hi:PE X i ti)(hs:PSet X t)
  (ha:∀ v,assign (.Subscript o i pos) X.env v=(do
   let ov ← holding [v] (eval o X.env)
   let iv ← holding [v,ov] (eval i X.env)
   standAt pos
   holding [v,ov,iv] (setItem ov iv v)
   release [v,ov,iv] []):=by intro _;rfl):PG X (.Subscript o i pos) (gSub to ti t):=by
 intro pins s σ H v u Q I r h
 rw [ha]
 refine Xaa (XaK (thn (ho pins s σ H _ I h) fun ov s1 hh_=>?_))
 obtain ⟨x,H1,I1,r1,q1⟩:=hh_
 refine Xaa (XaK (thn (hi pins s1 σ H1 _ I1 q1) fun iv s2 hh_=>?_))
 obtain ⟨y,H2,I2,r2,q2⟩:=hh_
 refine Xaa (Xbh (Xaa (XaK (thn (hs pins s2 σ H2 x y v ov iv u _ I2 r1 r2 r q2) fun _ s3 ⟨H3,I3,q3⟩=>?_))))
 exact wpAny_release ⟨σ,H3,I3,q3⟩
def tAsg (te:TE)(g:TG):TS:=fun D σ H=>te σ H fun x H1=>g x σ H1 D.nx
theorem zco {tg e:Expr}{te:TE}{g:TG}(he:PE X e te)(hg:PG X tg g)(hs:swapsWithSole [tg] e pos.line X.env=pure false:=by rfl)(hw:swappedStores [tg] e X.env=pure none:=by rfl)
  (h1:(assignEach [tg] X.env).map (·.2)=[assign tg X.env]:=by rfl):PS X (.Assign [tg] e pos) (tAsg te g):=by
 intro pins s σ H D I h
 refine wpAny_Assign_stores (thn (he pins s σ H _ I h) fun v s1 hh_=>?_) hs hw
 obtain ⟨x,H1,I1,r1,q1⟩:=hh_
 rw [h1]
 exact thn (hg pins s1 σ H1 x v _ I1 r1 q1) fun _ s2 q=>q
theorem zhv {i:Nat}{x:Str}{e:Expr}{te:TE}{pos':Pos}(hN:X.N.Nodup)(hi:X.N[i]? = some x)(hx:Loc X.env.scope x)(he:PE X e te)(hs:swapsWith e (some (.Name x pos')) pos.line X.env=pure false:=by rfl)(hf:X.fn x=true∨X.env.scope.names.lookup x=some .local:=by first | exact .inl rfl | exact .inr rfl | assumption) :
  PS X (.Assign [.Name x pos'] e pos) (tAsg te (zaE i)):=by
 intro pins s σ H D I h
 refine wpAny_Assign_Name (thn (he pins s σ H _ I h) fun v s1 hh_=>?_) hs
 obtain ⟨y,H1,I1,r1,q1⟩:=hh_
 exact zcm I1 hN hi hx r1 (fun s2 I2=>⟨_,H1,I2,q1⟩) hf
inductive tAug (i:Nat)(te:TE)(ti:TIp)(D:Ends)(σ:St)(H:Hp):Prop
 | mk (x:_) (z0_:σ[i]? = some (some x)) (z1_:te σ H fun y H1=>ti x y H1 fun z H2=>D.nx (σ.set i (some z)) H2)
theorem zjr {i:Nat}{x:Str}{e:Expr}{te:TE}{op:Operator}{ti:TIp}{pos':Pos}(hN:X.N.Nodup)(hi:X.N[i]? = some x)(hx:Loc X.env.scope x)(he:PE X e te)(ho:PIp X op ti)(hf:X.fn x=true∨X.env.scope.names.lookup x=some .local:=by first | exact .inl rfl | exact .inr rfl | assumption) :
  PS X (.AugAssign (.Name x pos') op e pos) (tAug i te ti):=by
 intro pins s σ H D I h
 obtain ⟨v,e1,h⟩:=h
 obtain ⟨m,hn,hl⟩:=I.loc
 have vis:Vis X.env.scope x:=by rcases hx with k | k;exact .inl k;exact .inr (.inl k)
 obtain ⟨u,r,l⟩:=hl i x v hi e1 vis
 refine wpAny_AugAssign_Name ?_
 have go:wpAny (model X.prog X.w) X.A (eval e X.env) (fun w s₂=>wpAny (model X.prog X.w) X.A (inplaceOp op u w) (fun r s₃=>wpAny (model X.prog X.w) X.A (storeName X.env x r) (fun _=>SP X pins D .next) X.xe s₃) X.xe s₂) X.xe s:=by
  refine thn (he pins s σ H _ I h) fun w s1 hh_=>?_
  obtain ⟨y,H1,I1,r1,q1⟩:=hh_
  refine thn (ho pins s1 σ H1 v y u w _ I1 r r1 q1) fun z s2 hh_=>?_
  obtain ⟨zv,H2,I2,r2,q2⟩:=hh_
  exact zcm I2 hN hi hx r2 (fun s3 I3=>⟨_,H2,I3,q2⟩) hf
 rcases l with ⟨hk,hm⟩ | ⟨hk,c,hc,hcell⟩
 ·exact wpAny_loadName_local I.ok.kind hk hn hm go
 ·rcases hk with hk | hk
  ·exact wpAny_loadName_cell I.ok.kind hk hc hcell go
  ·rcases hx with k | k
   ·have:X.env.scope.names.lookup x=some .free:=hk
    rw [k] at this;cases this
   ·have:X.env.scope.names.lookup x=some .free:=hk
    rw [k] at this;cases this
end
section
variable {X:Cx}{pos:Pos}
def zjm (c:TT)(tb:TS):TS:=fun D σ H=>∃ W:Nat→St→Hp→Prop,(∃ m,W m σ H)∧∀ m σ H,W m σ H →
 c σ H fun b H1=>if b=true then ∃ N:St→Hp→Prop,(∀ σ' H',N σ' H'→∃ m',m'<m∧W m' σ' H')∧tb { D with nx:=N,ct:=N,bk:=D.nx } σ H1 else D.nx σ H1
theorem zef {c:Expr}{body:List Stmt}{tc:TT}{tb:TS}(hp:PassesOwn (model X.prog X.w) X.A X.env X.xe)(hc:PT X c tc)(hb:PSs X body tb):PS X (.While c body [] pos) (zjm tc tb):=by
 intro pins s σ H D I h
 obtain ⟨W,⟨m0,w0⟩,turn⟩:=h
 refine wpAny_While (codeAny_whileLoop (fun n s'=>∃ σ' H',Inv X pins σ' H' s'∧W n σ' H') ?_ m0 ⟨σ,H,I,w0⟩)
 rintro n s1 ⟨σ1,H1,I1,w1⟩
 refine Xbu hp (thn (hc pins s1 σ1 H1 _ I1 (turn n σ1 H1 w1)) fun b s2 ⟨H2,I2,q2⟩=>?_)
 cases b with
 | true =>
  obtain ⟨N,hN,q2⟩:=q2
  rw [if_pos rfl]
  refine Xbu hp (thn (hb pins s2 σ1 H2 _ I2 q2) fun f s3 q3=>?_)
  cases f with
  | next =>
   obtain ⟨σ3,H3,I3,n3⟩:=q3
   obtain ⟨m',hm,w3⟩:=hN σ3 H3 n3
   exact ⟨m',hm,σ3,H3,I3,w3⟩
  | cont =>
   obtain ⟨σ3,H3,I3,n3⟩:=q3
   obtain ⟨m',hm,w3⟩:=hN σ3 H3 n3
   exact ⟨m',hm,σ3,H3,I3,w3⟩
  | brk=>exact q3
  | ret v=>exact q3
 | false =>
  rw [if_neg Xao]
  exact wpAny_execs_nil ⟨σ1,H2,I2,q2⟩
end
structure It where
 go:Nat→Hp→Prop
 yld:Nat→Hp→V→Hp→Prop
 stop:Nat→Hp→Prop
def FpOk (X:Cx)(pins:List (Addr×Obj))(H:Hp)(b:Addr):Prop:=
 H b=none∧b≠X.env.locals∧b ∉ X.fs∧(b∈X.ex∨X.s₀.heap.objs.size≤b)∧(∀ x c,X.env.cells.lookup x=some c→c≠b)∧∀ p∈X.pn ++ pins,p.1≠b
theorem Inv.fpOk {X:Cx}{pins:List (Addr×Obj)}{σ:St}{H H':Hp}{s:Shared}{b:Addr}(I:Inv X pins σ H s)(hb:s.heap.objs.size≤b)(hn:H' b=none):FpOk X pins H' b:=by
 refine ⟨hn,Nat.ne_of_gt (Xaj I.lt hb),I.nofs hb,.inr (Xar I.sz hb),fun x c e z=>?_,fun p hp z=>?_⟩
 ·obtain ⟨v,q⟩:=I.cell x c e
  exact absurd (Xaj q.lt (by rw [z];exact hb)) (XaT _)
 ·exact absurd (Xaj (Xan (I.pin p hp).1) (by rw [z];exact hb)) (XaT _)
structure Turn (P:Program)(w:World)(K:W.Frag)(tg:Expr)(J:It)(fp:List Addr)(it:Addr)(tn:Nat→Heap→Prop):Prop where
 mem:it∈fp
 obj:∀ i h,tn i h→∀ b∈fp,∃ o,h.get? b=some o∧∀ v,o.data≠.cell v
 keep:∀ i h h',tn i h→(∀ b∈fp,∀ o,h.get? b=some o→h'.get? b=some o)→tn i h'
 item:∀ (X:Cx),X.prog=P→X.w=w→X.K=K→X.calm=true→∀ (i:Nat) (pins:List (Addr×Obj)) (s:Shared) (σ:St) (H:Hp) (E:Value→Shared→Prop),Inv X pins σ H s→(∀ b∈fp,FpOk X pins H b)→tn i s.heap→J.go i H →
  wpAny (model P w) X.A (pyNext (.ref it)) (fun r s1=>∃ u,r=some u ∧
   wpAny (model P w) X.A (letOwnedTupleGo tg (.ref it) u) (fun _ s2=>∃ x H',Inv X pins σ H' s2∧RelV x u∧J.yld i H x H'∧tn (i+1) s2.heap∧∀ b∈fp,H' b=none) E s1) E s
 done:∀ (X:Cx),X.prog=P→X.w=w→X.K=K→X.calm=true→∀ (i:Nat) (pins:List (Addr×Obj)) (s:Shared) (σ:St) (H:Hp) (E:Value→Shared→Prop),Inv X pins σ H s→(∀ b∈fp,FpOk X pins H b)→tn i s.heap→J.stop i H →
  wpAny (model P w) X.A (pyNext (.ref it)) (fun r s1=>r=none∧Inv X pins σ H s1) E s
 self:∀ (A:Around) (i:Nat) (s:Shared) (Q:Value→Shared→Prop) (E:Value→Shared→Prop),tn i s.heap→Q (.ref it) s→wpAny (model P w) A (pyIter (.ref it)) Q E s
abbrev TI:=St→Hp→(It→Hp→Prop)→Prop
def PIE (X:Cx)(pins:List (Addr×Obj))(σ:St)(tg:Expr)(R:It→Hp→Prop)(itv:Value)(s2:Shared):Prop:=
 ∃ (it:Addr) (fp:List Addr) (tn:Nat→Heap→Prop) (J:It) (H':Hp),itv = .ref it∧Inv X pins σ H' s2∧Turn X.prog X.w X.K tg J fp it tn∧tn 0 s2.heap∧(∀ b∈fp,FpOk X pins H' b)∧R J H'
def PI (X:Cx)(tg iter:Expr)(wi:TI):Prop:=
 ∀ (pins:List (Addr×Obj)) (s:Shared) (σ:St) (H:Hp) (R:It→Hp→Prop),Inv X pins σ H s→wi σ H R →
  wpAny (model X.prog X.w) X.A (eval iter X.env) (fun v s1=>wpAny (model X.prog X.w) X.A (pyIter v) (PIE X pins σ tg R) X.xe s1) X.xe s
theorem zi8 {M:Model}{A:Around}{E:Value→Shared→Prop}{s:Shared}{tg:Expr}{it:Addr}{u:Value}{o:Obj}{n:String}{vs:Array Value}{Q:Unit→Shared→Prop}(ho:s.heap.get? it=some o)(hc:o.cls = .type n)(hd:o.data = .fields vs)
    (hn:["enumerate","zip","dict_itemiterator","dict_reverseitemiterator","odict_iterator","itertools.zip_longest","itertools.pairwise"].contains n=false) (hQ:Q () s):wpAny M A (letOwnedTupleGo tg (.ref it) u) Q E s:=by
  unfold letOwnedTupleGo
  cases tg <;> first
    | exact Xac hQ
    | (cases u <;> first
        | exact Xac hQ
        | (refine Xaa (wpAny_load ho ?_)
           rw [hc,hd]
           show wpAny M A (if (["enumerate","zip","dict_itemiterator","dict_reverseitemiterator","odict_iterator","itertools.zip_longest","itertools.pairwise"].contains n && vs[0]? == some (rawInt _))=true then _ else _) Q E s
           rw [if_neg (by intro h;rw [hn,Bool.false_and] at h;cases h)]
           exact Xac hQ))
def Itl (K:W.Frag)(a:Addr):It:=
 ⟨fun i H=>∃ xs x,SqL K H a xs∧xs[i]? = some x,fun i H x H'=>H'=H∧∀ xs,SqL K H a xs→xs[i]? = some x,fun i H=>∃ xs,SqL K H a xs∧xs.length≤i⟩
def Itt (K:W.Frag)(a:Addr):It:=
 ⟨fun i H=>∃ xs x,SqT K H a xs∧xs[i]? = some x,fun i H x H'=>H'=H∧∀ xs,SqT K H a xs→xs[i]? = some x,fun i H=>∃ xs,SqT K H a xs∧xs.length≤i⟩
def Itr (lo:Int)(n:Nat):It:=⟨fun i _=>i<n,fun i H x H'=>H'=H∧x = .int (lo+i),fun i _=>n≤i⟩
theorem zhe {P:Program}{w:World}{K:W.Frag}{tg:Expr}(a it:Addr):Turn P w K tg (Itl K a) [it] it (fun i h=>h.IsListIter it a i) where
 mem:=by simp
 obj:=fun i h st b hb=>by
  have e:b=it:=by simpa using hb
  subst e
  obtain ⟨o,e,c,d⟩:=st
  exact ⟨o,e,fun v z=>by rw [d] at z;cases z⟩
 keep:=fun i h h' st k=>st.at fun o e=>k it (by simp) o e
 item:=by
  intro X hP hw hK hc i pins s σ H E I hf st hg
  subst hP hw hK
  obtain ⟨xs,x,hq,hx⟩:=hg
  obtain ⟨its,rv,p,hz⟩:=I.list hq
  obtain ⟨u,hu,ru⟩:=rv.get hx
  obtain ⟨f0,f1,f2,f3,f4,f5⟩:=hf it (by simp)
  refine wpAny_pyNext_list_item st p.isList (x:=u) (by simpa using hu) fun h' st' sb=>?_
  have I1:Inv X pins σ H { s with heap:=h' }:=I.turned (t':=s.toks) (fun b o hb e=>(sb.2 b hb).trans e) f0 f1 f3 f4 f5
  obtain ⟨o,e,c,d⟩:=id st'
  exact ⟨u,rfl,zi8 (s:={ s with heap:=h' }) e c d (by decide) ⟨x,H,I1,ru,⟨rfl,fun ys hy=>by rw [I.list_inj hy hq];exact hx⟩,st',fun b hb=>(hf b hb).1⟩⟩
 done:=by
  intro X hP hw hK hc i pins s σ H E I hf st hg
  subst hP hw hK
  obtain ⟨xs,hq,hx⟩:=hg
  obtain ⟨its,rv,p,hz⟩:=I.list hq
  obtain ⟨f0,f1,f2,f3,f4,f5⟩:=hf it (by simp)
  have hl:=rv.length
  exact wpAny_pyNext_list_end (I.ok.hd hc) st p.isList (by simp;omega) fun h' eb=>⟨rfl,I.turned (t':=s.toks) (fun b o hb e=>eb b o hb e) f0 f1 f3 f4 f5⟩
 self:=fun _ _ _ _ _ st h=>wpAny_pyIter_listiter st h
theorem zgw {P:Program}{w:World}{K:W.Frag}{tg:Expr}(a it:Addr):Turn P w K tg (Itt K a) [it] it (fun i h=>h.IsTupleIter it a i) where
 mem:=by simp
 obj:=fun i h st b hb=>by
  have e:b=it:=by simpa using hb
  subst e
  obtain ⟨o,e,c,d⟩:=st
  exact ⟨o,e,fun v z=>by rw [d] at z;cases z⟩
 keep:=fun i h h' st k=>st.at fun o e=>k it (by simp) o e
 item:=by
  intro X hP hw hK hc i pins s σ H E I hf st hg
  subst hP hw hK
  obtain ⟨xs,x,hq,hx⟩:=hg
  obtain ⟨its,rv,p,hz⟩:=I.tuple hq
  obtain ⟨u,hu,ru⟩:=rv.get hx
  obtain ⟨f0,f1,f2,f3,f4,f5⟩:=hf it (by simp)
  refine wpAny_pyNext_tuple_item st (show s.heap.IsTuple a its.toArray from p) (x:=u) (by simpa using hu) fun h' st' sb=>?_
  have I1:Inv X pins σ H { s with heap:=h' }:=I.turned (t':=s.toks) (fun b o hb e=>(sb.2 b hb).trans e) f0 f1 f3 f4 f5
  obtain ⟨o,e,c,d⟩:=id st'
  exact ⟨u,rfl,zi8 (s:={ s with heap:=h' }) e c d (by decide) ⟨x,H,I1,ru,⟨rfl,fun ys hy=>by rw [I.tuple_inj hy hq];exact hx⟩,st',fun b hb=>(hf b hb).1⟩⟩
 done:=by
  intro X hP hw hK hc i pins s σ H E I hf st hg
  subst hP hw hK
  obtain ⟨xs,hq,hx⟩:=hg
  obtain ⟨its,rv,p,hz⟩:=I.tuple hq
  obtain ⟨f0,f1,f2,f3,f4,f5⟩:=hf it (by simp)
  have hl:=rv.length
  exact wpAny_pyNext_tuple_end (I.ok.hd hc) st (show s.heap.IsTuple a its.toArray from p) (by simp;omega) fun h' eb=>⟨rfl,I.turned (t':=s.toks) (fun b o hb e=>eb b o hb e) f0 f1 f3 f4 f5⟩
 self:=fun _ _ _ _ _ st h=>wpAny_pyIter_tupleiter st h
theorem zgx {P:Program}{w:World}{K:PySem.W.Frag}{tg:Expr}(it:Addr)(lo:Int)(n:Nat):Turn P w K tg (Itr lo n) [it] it (fun i h=>IsRangeIter h it (lo+(i:Nat) * 1) ((n:Int) - (i:Nat)) 1) where
 mem:=by simp
 obj:=fun i h st b hb=>by
  have e:b=it:=by simpa using hb
  subst e
  exact ⟨_,st,fun v z=>by
   have z':Data.fields _=Data.cell v:=z
   cases z'⟩
 keep:=fun i h h' st k=>k it (by simp) _ st
 item:=by
  intro X hP hw hK hc i pins s σ H E I hf st hg
  subst hP hw hK
  obtain ⟨f0,f1,f2,f3,f4,f5⟩:=hf it (by simp)
  have W:=Walks.range (prog:=X.prog) (w:=X.w) (I.ok.hd hc) it lo 1 n
  refine W.item i s _ _ hg st fun v h' tk hv st' kk=>?_
  obtain ⟨t,rfl⟩:=hv
  have I1:Inv X pins σ H { s with heap:=h',toks:=tk }:=I.turned (fun b o hb e=>kk b o (by simpa using hb) e) f0 f1 f3 f4 f5
  refine ⟨_,rfl,zi8 (s:={ s with heap:=h',toks:=tk }) (n := "range_iterator") st' rfl rfl (by decide) ⟨.int (lo+i),H,I1,⟨t,?_⟩,⟨rfl,rfl⟩,st',fun b hb=>(hf b hb).1⟩⟩
  rw [Int.mul_one]
 done:=by
  intro X hP hw hK hc i pins s σ H E I hf st hg
  subst hP hw hK
  obtain ⟨f0,f1,f2,f3,f4,f5⟩:=hf it (by simp)
  exact wpAny_pyNext_range_end (I.ok.hd hc) st (by have:n≤i:=hg;omega) fun h' eb=>⟨rfl,I.turned (t':=s.toks) (fun b o hb e=>eb b o hb e) f0 f1 f3 f4 f5⟩
 self:=fun _ _ _ _ _ st h=>wpAny_pyIter_rangeiter st h
section
variable {X:Cx}{tg:Expr}
inductive iList_1 (K:W.Frag)(R:It→Hp→Prop)(x:V)(H1:Hp):Prop
 | mk (a:_) (z0_:x = .ref a) (z1_:(∃ xs,SqL K H1 a xs)) (z2_:R (Itl K a) H1)
def iList (K:W.Frag)(tl:TE):TI:=fun σ H R=>tl σ H (iList_1 K R)
inductive iTup_1 (K:W.Frag)(R:It→Hp→Prop)(x:V)(H1:Hp):Prop
 | mk (a:_) (z0_:x = .ref a) (z1_:(∃ xs,SqT K H1 a xs)) (z2_:R (Itt K a) H1)
def iTup (K:W.Frag)(tl:TE):TI:=fun σ H R=>tl σ H (iTup_1 K R)
theorem zcc {l:Expr}{tl:TE}(hl:PE X l tl):PI X tg l (iList X.K tl):=by
 intro pins s σ H R I h
 refine thn (hl pins s σ H _ I h) fun v s1 hh_=>?_
 obtain ⟨x,H1,I1,r1,q1⟩:=hh_
 obtain ⟨a,e,⟨xs,hq⟩,q⟩:=q1
 subst e
 cases r1
 obtain ⟨its,rv,p,hz⟩:=I1.list hq
 refine wpAny_pyIter_list p.isList ?_
 refine ⟨s1.heap.objs.size,[s1.heap.objs.size],_,_,H1,rfl,I1.kept (t':=s1.toks) fun b o e=>Xad _ e,zhe a _,⟨_,Xam _ rfl,rfl,rfl⟩,fun b hb=>?_,q⟩
 have e:b=s1.heap.objs.size:=by simpa using hb
 subst e
 exact I1.fpOk (Xaf _) (I1.hok.fresh (Xaf _))
theorem zjs {l:Expr}{tl:TE}(hl:PE X l tl):PI X tg l (iTup X.K tl):=by
 intro pins s σ H R I h
 refine thn (hl pins s σ H _ I h) fun v s1 hh_=>?_
 obtain ⟨x,H1,I1,r1,q1⟩:=hh_
 obtain ⟨a,e,⟨xs,hq⟩,q⟩:=q1
 subst e
 cases r1
 obtain ⟨its,rv,p,hz⟩:=I1.tuple hq
 refine wpAny_pyIter_tuple (show s1.heap.IsTuple a its.toArray from p) ?_
 refine ⟨s1.heap.objs.size,[s1.heap.objs.size],_,_,H1,rfl,I1.kept (t':=s1.toks) fun b o e=>Xad _ e,zgw a _,⟨_,Xam _ rfl,rfl,rfl⟩,fun b hb=>?_,q⟩
 have e:b=s1.heap.objs.size:=by simpa using hb
 subst e
 exact I1.fpOk (Xaf _) (I1.hok.fresh (Xaf _))
theorem ziH {pins:List (Addr×Obj)}{σ:St}{H:Hp}{s:Shared}{R:It→Hp→Prop}{E:Value→Shared→Prop}{lo hi:Int}{t u v:Tok}{tk:Nat}(I:Inv X pins σ H s)(h1:-(2 ^ 62)≤lo)(h2:lo<2 ^ 62)(h3:-(2 ^ 62)≤hi)(h4:hi<2 ^ 62)
  (q:R (Itr lo (hi - lo).toNat) H):wpAny (model X.prog X.w) X.A (pyIter (.ref s.heap.objs.size)) (PIE X pins σ tg R) E { s with heap:=s.heap.push { cls:=.type "range",data:=.fields #[.int lo t,.int hi u,.int 1 v] },toks:=tk }:=by
 refine wpAny_pyIter_range (IsRange.new ..) (small_one h1 h2 h3 h4) ?_
 have I1:Inv X pins σ H { s with heap:=s.heap.push { cls:=.type "range",data:=.fields #[.int lo t,.int hi u,.int 1 v] },toks:=tk }:=I.kept fun b o e=>Xad _ e
 refine ⟨(s.heap.push { cls:=.type "range",data:=.fields #[.int lo t,.int hi u,.int 1 v] }).objs.size,[(s.heap.push { cls:=.type "range",data:=.fields #[.int lo t,.int hi u,.int 1 v] }).objs.size],_,_,H,rfl,
  I1.kept (t':=tk) fun b o e=>Xad _ e,zgx _ lo (hi - lo).toNat,?_,fun b hb=>?_,q⟩
 ·have e1:lo+((0:Nat):Int) * 1=lo:=by simp
  have e2:(((hi - lo).toNat:Nat):Int) - ((0:Nat):Int)=Builtin.Range.rangeSize lo hi 1:=by rw [rangeSize_one];split <;> omega
  show IsRangeIter _ _ (lo+((0:Nat):Int) * 1) ((((hi - lo).toNat:Nat):Int) - ((0:Nat):Int)) 1
  rw [e1,e2]
  exact Xam _ rfl
 ·have e:b=(s.heap.push { cls:=.type "range",data:=.fields #[.int lo t,.int hi u,.int 1 v] }).objs.size:=by simpa using hb
  subst e
  exact I1.fpOk (Xaf _) (I1.hok.fresh (Xaf _))
inductive iRng1_1 (R:It→Hp→Prop)(vs:List V)(H1:Hp):Prop
 | mk (j:Int) (z0_:vs=[.int j]) (z1_:-(2 ^ 62)≤j) (z2_:j<2 ^ 62) (z3_:R (Itr 0 j.toNat) H1)
def iRng1 (ta:TA):TI:=fun σ H R=>ta σ H (iRng1_1 R)
theorem zbv {a:Expr}{ta:TA}{p pos:Pos}(hg:Gl X "range")(hm:X.mg "range" = none)(ha:PA X [a] ta)(hs:starEach [a] X.env=[(false,eval a X.env)]:=by rfl):PI X tg (.Call (.Name "range" p) [a] [] pos) (iRng1 ta):=by
 intro pins s σ H R I h
 refine Call_ (zdC I hg hm boot_range (PyProof.Rows.callWith_type1 (thn (ha pos pins s σ H _ I h) fun us s1 hh_=>?_) hs rfl))
 obtain ⟨vs,H1,I1,r1,q1⟩:=hh_
 obtain ⟨j,e,q1,q2,q⟩:=q1
 subst e
 cases r1 with
 | cons r rr =>
  cases rr
  obtain ⟨t,rfl⟩:=r
  exact call_range_1 (ziH I1 (by omega) (by omega) q1 q2 (by simpa using q))
def tFor (wi:TI)(g:TG)(tb:TS):TS:=fun D σ H=>wi σ H fun J H1=>∃ W:Nat→Nat→St→Hp→Prop,(∃ m,W 0 m σ H1)∧∀ i m σ H,W i m σ H →
 (J.stop i H∧D.nx σ H)∨(J.go i H∧∃ N:St→Hp→Prop,(∀ σ' H',N σ' H'→∃ m',m'<m∧W (i+1) m' σ' H')∧∀ x H',J.yld i H x H'→g x σ H' fun σ2 H2=>tb { D with nx:=N,ct:=N,bk:=D.nx } σ2 H2)
def zeO (fp:List Addr)(h:Heap):List (Addr×Obj):=fp.filterMap fun b=>(h.get? b).map fun o=>(b,o)
theorem zbS {fp:List Addr}{h:Heap}{b:Addr}{o:Obj}(hb:b∈fp)(e:h.get? b=some o):(b,o)∈zeO fp h:=List.mem_filterMap.mpr ⟨b,hb,by rw [e];rfl⟩
theorem zhO {fp:List Addr}{h:Heap}{p:Addr×Obj}(hp:p∈zeO fp h):p.1∈fp∧h.get? p.1=some p.2:=by
 obtain ⟨b,hb,e⟩:=List.mem_filterMap.mp hp
 cases q:h.get? b with
 | none=>rw [q] at e;cases e
 | some o =>
  rw [q] at e
  have e':(b,o)=p:=Option.some.inj e
  subst e'
  exact ⟨hb,q⟩
theorem Inv.pinned {pins:List (Addr×Obj)}{σ:St}{H:Hp}{s:Shared}{fp:List Addr}(I:Inv X pins σ H s)(hf:∀ b∈fp,FpOk X pins H b)(ho:∀ b∈fp,∃ o,s.heap.get? b=some o∧∀ v,o.data≠.cell v):Inv X (pins ++ zeO fp s.heap) σ H s:=
 I.pins_of fun p hp=>(XaF.mp hp).elim (fun z=>I.pin p (Xay _ z)) fun z=>by
  obtain ⟨hb,e⟩:=zhO z
  obtain ⟨f0,f1,f2,_⟩:=hf p.1 hb
  obtain ⟨o,e',d⟩:=ho p.1 hb
  rw [e] at e';cases e'
  exact ⟨e,f0,f1,f2,d⟩
theorem Inv.unpinned {pins pl:List (Addr×Obj)}{σ:St}{H:Hp}{s:Shared}(I:Inv X (pins ++ pl) σ H s):Inv X pins σ H s:=I.pins_of fun p hp=>I.pin p (Xay _ (Xbl _ hp))
theorem zbY {iter:Expr}{body:List Stmt}{wi:TI}{g:TG}{tb:TS}{pos:Pos}(hp:PassesOwn (model X.prog X.w) X.A X.env X.xe)(hc:X.calm=true)(hi:PI X tg iter wi)(hg:PG X tg g)(hb:PSs X body tb)
  (hs:∀ x,foldedSetIterable iter X.env x=pure x:=by intro _;rfl):PS X (.For tg iter body [] pos) (tFor wi g tb):=by
 intro pins s σ H D I h
 refine wpAny_For (thn (hi pins s σ H _ I h) fun v s1 h1=>thn h1 fun itv s2 h2=>?_) hs
 obtain ⟨it,fp,tn,J,H2,e,I2,T,st2,f2,W,⟨m0,w0⟩,turn⟩:=h2
 subst e
 
 have stat:∀ {H':Hp},(∀ b∈fp,H' b=none)→∀ b∈fp,FpOk X pins H' b:=fun hn b hb=>⟨hn b hb,(f2 b hb).2⟩
 refine codeAny_forLoop_any (fun n s'=>∃ i σ' H',Inv X pins σ' H' s'∧tn i s'.heap∧(∀ b∈fp,H' b=none)∧W i n σ' H') ?_ m0 ⟨0,σ,H2,I2,st2,fun b hb=>(f2 b hb).1,w0⟩
 rintro n s3 ⟨i,σ3,H3,I3,st3,fr3,w3⟩
 rcases turn i n σ3 H3 w3 with ⟨stop,qn⟩ | ⟨go,N,hN,step⟩
 ·refine Xbu hp (thn (T.done X rfl rfl rfl hc i pins s3 σ3 H3 X.xe I3 (stat fr3) st3 stop) fun r s4 ⟨hr,I4⟩=>?_)
  subst hr
  exact wpAny_execs_nil ⟨σ3,H3,I4,qn⟩
 ·refine Xbu hp (thn (T.item X rfl rfl rfl hc i pins s3 σ3 H3 X.xe I3 (stat fr3) st3 go) fun r s4 ⟨u,hr,h4⟩=>?_)
  subst hr
  refine Xbu hp (thn h4 fun _ s5 hh_=>?_)
  obtain ⟨x,H5,I5,r5,y5,st5,fr5⟩:=hh_
  have I5':=I5.pinned (stat fr5) (T.obj _ _ st5)
  refine Xbu hp (thn (hg _ s5 σ3 H5 x u _ I5' r5 (step x H5 y5)) fun _ s6 ⟨σ6,H6,I6,q6⟩=>?_)
  refine Xbu hp (thn (hb _ s6 σ6 H6 _ I6 q6) fun f s7 q7=>?_)
  have again:∀ {σ7:St} {H7:Hp},Inv X (pins ++ zeO fp s5.heap) σ7 H7 s7→N σ7 H7→∃ m,m<n∧∃ i σ' H',Inv X pins σ' H' s7∧tn i s7.heap∧(∀ b∈fp,H' b=none)∧W i m σ' H':=fun {σ7 H7} I7 n7=>by
   obtain ⟨m',hm,w7⟩:=hN σ7 H7 n7
   refine ⟨m',hm,i+1,σ7,H7,I7.unpinned,T.keep _ _ _ st5 fun b hb o e=>(I7.pin (b,o) (Xay _ (Xay _ (zbS hb e)))).1,fun b hb=>?_,w7⟩
   obtain ⟨o,e,d⟩:=T.obj _ _ st5 b hb
   exact (I7.pin (b,o) (Xay _ (Xay _ (zbS hb e)))).2.1
  cases f with
  | next=>obtain ⟨σ7,H7,I7,n7⟩:=q7;exact again I7 n7
  | cont=>obtain ⟨σ7,H7,I7,n7⟩:=q7;exact again I7 n7
  | brk=>obtain ⟨σ7,H7,I7,q7⟩:=q7;exact ⟨σ7,H7,I7.unpinned,q7⟩
  | ret v=>obtain ⟨x7,σ7,H7,I7,r7,q7⟩:=q7;exact ⟨x7,σ7,H7,I7.unpinned,r7,q7⟩
end
theorem zes {K:PySem.W.Frag}{a:Addr}{xs:List V}{g:TG}{tb:TS}{D:Ends}{σ:St}{H:Hp}(Pv:Nat→St→Hp→Prop)(h0:Pv 0 σ H)(hl:∀ i σ H,i≤xs.length→Pv i σ H→SqL K H a xs)
  (hs:∀ i x σ H,xs[i]? = some x→Pv i σ H→g x σ H fun σ2 H2=>tb { D with nx:=Pv (i+1),ct:=Pv (i+1),bk:=D.nx } σ2 H2) (hd:∀ σ H,Pv xs.length σ H→D.nx σ H) :
  ∃ W:Nat→Nat→St→Hp→Prop,(∃ m,W 0 m σ H)∧∀ i m σ H,W i m σ H →
   ((Itl K a).stop i H∧D.nx σ H)∨((Itl K a).go i H∧∃ N:St→Hp→Prop,(∀ σ' H',N σ' H'→∃ m',m'<m∧W (i+1) m' σ' H')∧∀ x H',(Itl K a).yld i H x H'→g x σ H' fun σ2 H2=>tb { D with nx:=N,ct:=N,bk:=D.nx } σ2 H2):=by
 refine ⟨fun i m σ H=>m=xs.length - i∧i≤xs.length∧Pv i σ H,⟨xs.length,by simp,Nat.zero_le _,h0⟩,?_⟩
 rintro i m σ H ⟨rfl,hi,p⟩
 have q:=hl i σ H hi p
 by_cases hlt:i<xs.length
 ·refine .inr ⟨⟨xs,xs[i],q,by simp [hlt]⟩,Pv (i+1),fun σ' H' p'=>⟨xs.length - (i+1),by omega,rfl,hlt,p'⟩,fun x H' y=>?_⟩
  obtain ⟨e,y⟩:=y
  subst e
  exact hs i x σ _ (y xs q) p
 ·have e:i=xs.length:=by omega
  subst e
  exact .inl ⟨⟨xs,q,Xaf _⟩,hd σ H p⟩
theorem zfb {lo:Int}{n:Nat}{g:TG}{tb:TS}{D:Ends}{σ:St}{H:Hp}(Pv:Nat→St→Hp→Prop)(h0:Pv 0 σ H)
  (hs:∀ i σ H,i<n→Pv i σ H→g (.int (lo+i)) σ H fun σ2 H2=>tb { D with nx:=Pv (i+1),ct:=Pv (i+1),bk:=D.nx } σ2 H2) (hd:∀ σ H,Pv n σ H→D.nx σ H) :
  ∃ W:Nat→Nat→St→Hp→Prop,(∃ m,W 0 m σ H)∧∀ i m σ H,W i m σ H →
   ((Itr lo n).stop i H∧D.nx σ H)∨((Itr lo n).go i H∧∃ N:St→Hp→Prop,(∀ σ' H',N σ' H'→∃ m',m'<m∧W (i+1) m' σ' H')∧∀ x H',(Itr lo n).yld i H x H'→g x σ H' fun σ2 H2=>tb { D with nx:=N,ct:=N,bk:=D.nx } σ2 H2):=by
 refine ⟨fun i m σ H=>m=n - i∧i≤n∧Pv i σ H,⟨n,by simp,Nat.zero_le _,h0⟩,?_⟩
 rintro i m σ H ⟨rfl,hi,p⟩
 by_cases hlt:i<n
 ·refine .inr ⟨hlt,Pv (i+1),fun σ' H' p'=>⟨n - (i+1),by omega,rfl,hlt,p'⟩,fun x H' y=>?_⟩
  obtain ⟨e,y⟩:=y
  subst e y
  exact hs i σ _ hlt p
 ·have e:i=n:=by omega
  subst e
  exact .inl ⟨Xaf _,hd σ H p⟩
theorem zd4 {c:TT}{tb:TS}{D:Ends}{σ:St}{H:Hp}(Pv:St→Hp→Prop)(μ:St→Hp→Nat)(h0:Pv σ H)
  (hs:∀ σ H,Pv σ H→c σ H fun b H1=>if b=true then tb { D with nx:=fun σ' H'=>Pv σ' H'∧μ σ' H'<μ σ H,ct:=fun σ' H'=>Pv σ' H'∧μ σ' H'<μ σ H,bk:=D.nx } σ H1 else D.nx σ H1)
  (mono:∀ σ H Q Q',(∀ b H1,Q b H1→Q' b H1)→c σ H Q→c σ H Q'):zjm c tb D σ H:=by
 refine ⟨fun m σ H=>m=μ σ H∧Pv σ H,⟨_,rfl,h0⟩,?_⟩
 rintro m σ H ⟨rfl,p⟩
 refine mono σ H _ _ (fun b H1 q=>?_) (hs σ H p)
 cases b with
 | true=>exact ⟨_,fun σ' H' ⟨p',l⟩=>⟨_,l,rfl,p'⟩,q⟩
 | false=>exact q
abbrev R2:=V→V→Hp→VK→Prop
def OpR (X:Cx)(f:Value→Value→Sem Value)(r:R2):Prop:=
 ∀ (pins:List (Addr×Obj)) (s:Shared) (σ:St) (H:Hp) (x y:V) (v u:Value) (Q:VK),Inv X pins σ H s→RelV x v→RelV y u→r x y H Q →
  wpAny (model X.prog X.w) X.A (f v u) (EP X pins σ Q) X.xe s
def UnR (X:Cx)(f:Value→Sem Value)(r:V→Hp→VK→Prop):Prop:=
 ∀ (pins:List (Addr×Obj)) (s:Shared) (σ:St) (H:Hp) (x:V) (v:Value) (Q:VK),Inv X pins σ H s→RelV x v→r x H Q →
  wpAny (model X.prog X.w) X.A (f v) (EP X pins σ Q) X.xe s
def zbx (X:Cx)(f:Value)(r:List V→Hp→VK→Prop):Prop:=
 ∀ (pins:List (Addr×Obj)) (s:Shared) (σ:St) (H:Hp) (xs:List V) (us:List Value) (Q:VK),Inv X pins σ H s→Vals xs us→r xs H Q →
  wpAny (model X.prog X.w) X.A (call f us) (EP X pins σ Q) X.xe s
def TruR (X:Cx)(r:V→Hp→(Bool→Hp→Prop)→Prop):Prop:=
 ∀ (pins:List (Addr×Obj)) (s:Shared) (σ:St) (H:Hp) (x:V) (v:Value) (Q:Bool→Hp→Prop),Inv X pins σ H s→RelV x v→r x H Q →
  wpAny (model X.prog X.w) X.A (truthy v) (TP X pins σ Q) X.xe s
def tOp (r:R2)(ta tb:TE):TE:=fun σ H Q=>ta σ H fun x H1=>tb σ H1 fun y H2=>r x y H2 Q
def tUn (r:V→Hp→VK→Prop)(ta:TE):TE:=fun σ H Q=>ta σ H fun x H1=>r x H1 Q
inductive rI (C:Int→Int→Prop)(g:Int→Int→V)(x:V)(y:V)(H:Hp)(Q:VK):Prop
 | mk (i:_) (j:_) (z0_:x = .int i) (z1_:y = .int j) (z2_:C i j) (z3_:Q (g i j) H)
inductive rI0 (g:Int→Int→V)(x:V)(y:V)(H:Hp)(Q:VK):Prop
 | mk (i:_) (j:_) (z0_:x = .int i) (z1_:y = .int j) (z2_:Q (g i j) H)
inductive rU (g:Int→V)(x:V)(H:Hp)(Q:VK):Prop
 | mk (i:_) (z0_:x = .int i) (z1_:Q (g i) H)
section
variable {X:Cx}{a b c:Expr}{ta tb tc:TE}{pos:Pos}
theorem binT (ha:PE X a ta)(hb:PE X b tb){pins:List (Addr×Obj)}{s:Shared}{σ:St}{H:Hp}{R:V→V→Hp→Prop}(I:Inv X pins σ H s)
  (h:ta σ H fun x H1=>tb σ H1 fun y H2=>R x y H2) {Q:Value→Shared→Prop} {f:Value→Value→Sem Value}
  (hf:∀ v u s2 x y H2,Inv X pins σ H2 s2→RelV x v→RelV y u→R x y H2→wpAny (model X.prog X.w) X.A (f v u) Q X.xe s2) :
  wpAny (model X.prog X.w) X.A (eval a X.env) (fun v s₁=>wpAny (model X.prog X.w) X.A (eval b X.env) (fun u s₂=>wpAny (model X.prog X.w) X.A (f v u) Q X.xe s₂) X.xe s₁) X.xe s:=by
 refine thn (ha pins s σ H _ I h) fun v s1 hh_=>?_
 obtain ⟨x,H1,I1,r1,q1⟩:=hh_
 refine thn (hb pins s1 σ H1 _ I1 q1) fun u s2 hh_=>?_
 obtain ⟨y,H2,I2,r2,q2⟩:=hh_
 exact hf v u s2 x y H2 I2 r1 r2 q2
theorem zaj {op:Operator}{r:R2}(ho:OpR X (binaryOp op) r)(ha:PE X a ta)(hb:PE X b tb):PE X (.BinOp a op b pos) (tOp r ta tb):=by
 intro pins s σ H Q I h
 exact wpAny_BinOp (binT ha hb I h fun v u s2 x y H2 I2 rx ry q=>ho pins s2 σ H2 x y v u Q I2 rx ry q)
theorem zeh {op:UnaryOp}{r:V→Hp→VK→Prop}(ho:UnR X (unaryOp op) r)(ha:PE X a ta):PE X (.UnaryOp op a pos) (tUn r ta):=by
 intro pins s σ H Q I h
 exact UnaryOp_ (thn (ha pins s σ H _ I h) fun v s1 ⟨x,H1,I1,r1,q1⟩=>ho pins s1 σ H1 x v Q I1 r1 q1)
theorem opI {f:Value→Value→Sem Value}{C:Int→Int→Prop}{g:Int→Int→Int}
  (rule:∀ (i j:Int) (t u:Tok) (s:Shared) (Q:Value→Shared→Prop) (E:Value→Shared→Prop),C i j→Q (.int (g i j) s.toks) { s with toks:=s.toks+1 }→wpAny (model X.prog X.w) X.A (f (.int i t) (.int j u)) Q E s) :
  OpR X f (rI C fun i j=>.int (g i j)):=by
 intro pins s σ H x y v u Q I rx ry h
 obtain ⟨i,j,rfl,rfl,hc,q⟩:=h
 obtain ⟨t,rfl⟩:=rx
 obtain ⟨t',rfl⟩:=ry
 exact rule i j t t' s _ _ hc ⟨.int (g i j),H,I.tok _,⟨_,rfl⟩,q⟩
theorem opI0 {f:Value→Value→Sem Value}{g:Int→Int→Int}
  (rule:∀ (i j:Int) (t u:Tok) (s:Shared) (Q:Value→Shared→Prop) (E:Value→Shared→Prop),Q (.int (g i j) s.toks) { s with toks:=s.toks+1 }→wpAny (model X.prog X.w) X.A (f (.int i t) (.int j u)) Q E s) :
  OpR X f (rI0 fun i j=>.int (g i j)):=by
 intro pins s σ H x y v u Q I rx ry h
 obtain ⟨i,j,rfl,rfl,q⟩:=h
 obtain ⟨t,rfl⟩:=rx
 obtain ⟨t',rfl⟩:=ry
 exact rule i j t t' s _ _ ⟨.int (g i j),H,I.tok _,⟨_,rfl⟩,q⟩
theorem opB0 {f:Value→Value→Sem Value}{g:Int→Int→Bool}
  (rule:∀ (i j:Int) (t u:Tok) (s:Shared) (Q:Value→Shared→Prop) (E:Value→Shared→Prop),Q (.bool (g i j)) s→wpAny (model X.prog X.w) X.A (f (.int i t) (.int j u)) Q E s) :
  OpR X f (rI0 fun i j=>.bl (g i j)):=by
 intro pins s σ H x y v u Q I rx ry h
 obtain ⟨i,j,rfl,rfl,q⟩:=h
 obtain ⟨t,rfl⟩:=rx
 obtain ⟨t',rfl⟩:=ry
 exact rule i j t t' s _ _ ⟨.bl (g i j),H,I,rfl,q⟩
def CPow (i j:Int):Prop:=0≤j∧j≤1000000∧i.natAbs<2 ^ 64
theorem zgv (k:Nat):(0:Int)≤2 ^ k:=by
 rw [two_pow_cast]
 exact Int.natCast_nonneg _
theorem zaH:OpR X (binaryOp .Add) (rI0 fun i j=>.int (i+j)):=opI0 fun _ _ _ _ _ _ _ q=>add_int q
theorem za0:OpR X (binaryOp .Sub) (rI0 fun i j=>.int (i - j)):=opI0 fun _ _ _ _ _ _ _ q=>sub_int q
theorem zaw:OpR X (binaryOp .Mod) (rI (fun _ j=>0<j) fun i j=>.int (i % j)):=opI fun i j _ _ _ _ _ hc q=>by
 have h1:(0:Int)<j:=hc
 exact mod_int' (by omega) (by rw [Int.fmod_eq_emod_of_nonneg i (by omega)];exact q)
theorem zdo:OpR X (binaryOp .Pow) (rI CPow fun i j=>.int (i ^ j.toNat)):=opI fun _ _ _ _ _ _ _ hc q=>pow_int_small hc.1 hc.2.1 hc.2.2 q
theorem zcP:OpR X (binaryOp .LShift) (rI CPow fun i j=>.int (i * 2 ^ j.toNat)):=opI fun _ _ _ _ _ _ _ hc q=>lshift_int_small hc.1 hc.2.1 hc.2.2 q
theorem op_shr:OpR X (binaryOp .RShift) (rI (fun _ j=>0≤j) fun i j=>.int (i / 2 ^ j.toNat)):=opI fun i j _ _ _ _ _ hc q =>
 rshift_int hc (by rw [Int.fdiv_eq_ediv_of_nonneg i (zgv _)];exact q)
theorem zaU:OpR X (binaryOp .BitAnd) (rI0 fun i j=>.int (Builtin.bitAnd i j)):=opI0 fun _ _ _ _ _ _ _ q=>and_int q
theorem zgG:OpR X (binaryOp .BitOr) (rI0 fun i j=>.int (Builtin.bitOr i j)):=opI0 fun _ _ _ _ _ _ _ q=>or_int q
theorem zhG:OpR X (binaryOp .BitXor) (rI0 fun i j=>.int (Builtin.bitXor i j)):=opI0 fun _ _ _ _ _ _ _ q=>xor_int q
theorem zhY:OpR X (inplaceOp .Add) (rI0 fun i j=>.int (i+j)):=opI0 fun _ _ _ _ _ _ _ q=>iadd_int q
theorem unI {f:Value→Sem Value}{g:Int→Int}
  (rule:∀ (i:Int) (t:Tok) (s:Shared) (Q:Value→Shared→Prop) (E:Value→Shared→Prop),Q (.int (g i) s.toks) { s with toks:=s.toks+1 }→wpAny (model X.prog X.w) X.A (f (.int i t)) Q E s) :
  UnR X f (rU fun i=>.int (g i)):=by
 intro pins s σ H x v Q I rx h
 obtain ⟨i,rfl,q⟩:=h
 obtain ⟨t,rfl⟩:=rx
 exact rule i t s _ _ ⟨.int (g i),H,I.tok _,⟨_,rfl⟩,q⟩
theorem zcl:UnR X (unaryOp .USub) (rU fun i=>.int (-i)):=unI fun _ _ _ _ _ q=>neg_int q
end
def scal:V→V→Bool
 | .non,.non=>true | .non,.int _=>true | .int _,.non=>true | .non,.bl _=>true | .bl _,.non=>true | .non,.str _=>true | .str _,.non=>true
 | .int _,.int _=>true | .bl _,.bl _=>true | .str _,.str _=>true | .byt _,.byt _=>true
 | .int _,.str _=>true | .str _,.int _=>true | .bl _,.str _=>true | .str _,.bl _=>true
 | _,_=>false
def rEq:R2:=fun x y H Q=>scal x y=true∧Q (.bl (decide (x=y))) H
def rNe:R2:=fun x y H Q=>scal x y=true∧Q (.bl (!decide (x=y))) H
theorem zh8 {i j:Int}:decide (V.int i=V.int j)=(i == j):=by
 rw [Bool.eq_iff_iff]
 simp
theorem zjG {i j:Bool}:decide (V.bl i=V.bl j)=(i == j):=by
 rw [Bool.eq_iff_iff]
 simp
theorem zh7 {i j:Str}:decide (V.str i=V.str j)=(i == j):=by
 rw [Bool.eq_iff_iff]
 simp
theorem zh9 {i j:Array UInt8}:decide (V.byt i=V.byt j)=(i.toList == j.toList):=by
 rw [Bool.eq_iff_iff]
 cases i
 cases j
 simp
section
variable {X:Cx}{a b c:Expr}{ta tb tc:TE}{pos:Pos}
theorem zaD {pins:List (Addr×Obj)}{σ:St}{H:Hp}{s:Shared}{Q:VK}{k k':Bool}(I:Inv X pins σ H s)(q:Q (.bl k) H)(e:k=k'):EP X pins σ Q (.bool k') s:=by
 subst e
 exact ⟨.bl k,H,I,rfl,q⟩
theorem za8:OpR X (compareOp .Eq) rEq:=by
 intro pins s σ H x y v u Q I rx ry h
 obtain ⟨hs,q⟩:=h
 cases x with
 | non =>
  cases rx
  cases y with
  | non=>cases ry;exact PySem.EqNone.eq_none_none (zaD I q (by simp))
  | bl j=>cases ry;exact PySem.EqNone.eq_none_bool (zaD I q (by simp))
  | int j=>obtain ⟨t',rfl⟩:=ry;exact PySem.EqNone.eq_none_int (zaD I q (by simp))
  | str j=>obtain ⟨t',rfl⟩:=ry;exact PySem.EqNone.eq_none_str (zaD I q (by simp))
  | _=>exact absurd (show false=true from hs) Xao
 | bl i =>
  cases rx
  cases y with
  | non=>cases ry;exact PySem.EqNone.eq_bool_none (zaD I q (by simp))
  | bl j=>cases ry;exact eq_bool (zaD I q zjG)
  | str j=>obtain ⟨t',rfl⟩:=ry;exact PySem.EqMixed.eq_bool_str (zaD I q (by simp))
  | _=>exact absurd (show false=true from hs) Xao
 | int i =>
  obtain ⟨t,rfl⟩:=rx
  cases y with
  | non=>cases ry;exact PySem.EqNone.eq_int_none (zaD I q (by simp))
  | int j=>obtain ⟨t',rfl⟩:=ry;exact eq_int (zaD I q zh8)
  | str j=>obtain ⟨t',rfl⟩:=ry;exact PySem.EqMixed.eq_int_str (zaD I q (by simp))
  | _=>exact absurd (show false=true from hs) Xao
 | str i =>
  obtain ⟨t,rfl⟩:=rx
  cases y with
  | non=>cases ry;exact PySem.EqNone.eq_str_none (zaD I q (by simp))
  | bl j=>cases ry;exact PySem.EqMixed.eq_str_bool (zaD I q (by simp))
  | int j=>obtain ⟨t',rfl⟩:=ry;exact PySem.EqMixed.eq_str_int (zaD I q (by simp))
  | str j=>obtain ⟨t',rfl⟩:=ry;exact eq_str (zaD I q zh7)
  | _=>exact absurd (show false=true from hs) Xao
 | byt i =>
  obtain ⟨t,rfl⟩:=rx
  cases y with
  | byt j=>obtain ⟨t',rfl⟩:=ry;exact W.eq_bytes (zaD I q zh9)
  | _=>exact absurd (show false=true from hs) Xao
 | _=>cases y <;> exact absurd (show false=true from hs) Xao
theorem zhH:OpR X (compareOp .NotEq) rNe:=by
 intro pins s σ H x y v u Q I rx ry h
 obtain ⟨hs,q⟩:=h
 cases x with
 | non =>
  cases rx
  cases y with
  | non=>cases ry;exact PySem.EqNone.ne_none_none (zaD I q (by simp))
  | bl j=>cases ry;exact PySem.EqNone.ne_none_bool (zaD I q (by simp))
  | int j=>obtain ⟨t',rfl⟩:=ry;exact PySem.EqNone.ne_none_int (zaD I q (by simp))
  | str j=>obtain ⟨t',rfl⟩:=ry;exact PySem.EqNone.ne_none_str (zaD I q (by simp))
  | _=>exact absurd (show false=true from hs) Xao
 | bl i =>
  cases rx
  cases y with
  | non=>cases ry;exact PySem.EqNone.ne_bool_none (zaD I q (by simp))
  | bl j=>cases ry;exact ne_bool (zaD I q (congrArg not zjG))
  | str j=>obtain ⟨t',rfl⟩:=ry;exact PySem.EqMixed.ne_bool_str (zaD I q (by simp))
  | _=>exact absurd (show false=true from hs) Xao
 | int i =>
  obtain ⟨t,rfl⟩:=rx
  cases y with
  | non=>cases ry;exact PySem.EqNone.ne_int_none (zaD I q (by simp))
  | int j=>obtain ⟨t',rfl⟩:=ry;exact ne_int (zaD I q (congrArg not zh8))
  | str j=>obtain ⟨t',rfl⟩:=ry;exact PySem.EqMixed.ne_int_str (zaD I q (by simp))
  | _=>exact absurd (show false=true from hs) Xao
 | str i =>
  obtain ⟨t,rfl⟩:=rx
  cases y with
  | non=>cases ry;exact PySem.EqNone.ne_str_none (zaD I q (by simp))
  | bl j=>cases ry;exact PySem.EqMixed.ne_str_bool (zaD I q (by simp))
  | int j=>obtain ⟨t',rfl⟩:=ry;exact PySem.EqMixed.ne_str_int (zaD I q (by simp))
  | str j=>obtain ⟨t',rfl⟩:=ry;exact ne_str (zaD I q (congrArg not zh7))
  | _=>exact absurd (show false=true from hs) Xao
 | byt i =>
  obtain ⟨t,rfl⟩:=rx
  cases y with
  | byt j=>obtain ⟨t',rfl⟩:=ry;exact W.ne_bytes (zaD I q (congrArg not zh9))
  | _=>exact absurd (show false=true from hs) Xao
 | _=>cases y <;> exact absurd (show false=true from hs) Xao
theorem zdP:OpR X (compareOp .Lt) (rI0 fun i j=>.bl (decide (i<j))):=opB0 fun _ _ _ _ _ _ _ q=>lt_int q
theorem zgH:OpR X (compareOp .LtE) (rI0 fun i j=>.bl (decide (i≤j))):=opB0 fun _ _ _ _ _ _ _ q=>le_int q
theorem zdp:OpR X (compareOp .Gt) (rI0 fun i j=>.bl (decide (j<i))):=opB0 fun _ _ _ _ _ _ _ q=>gt_int q
theorem op_ge:OpR X (compareOp .GtE) (rI0 fun i j=>.bl (decide (j≤i))):=opB0 fun _ _ _ _ _ _ _ q=>ge_int q
theorem zar (b:Expr){op:CmpOp}(h:op≠.In:=by decide)(h2:op≠.NotIn:=by decide):behindInMarks op b=false:=by
 have e1:(op == CmpOp.In)=false:=by cases op <;> first | rfl | exact absurd rfl h
 have e2:(op == CmpOp.NotIn)=false:=by cases op <;> first | rfl | exact absurd rfl h2
 cases b <;> simp [behindInMarks,e1,e2]
theorem za3 {op:CmpOp}{r:R2}(ho:OpR X (compareOp op) r)(ha:PE X a ta)(hb:PE X b tb)(hm:behindInMarks op b=false):PE X (.Compare a [op] [b] pos) (tOp r ta tb):=by
 intro pins s σ H Q I h
 exact wpAny_Compare1 (binT ha hb I h fun v u s2 x y H2 I2 rx ry q=>ho pins s2 σ H2 x y v u Q I2 rx ry q) hm
inductive tTest_1 (Q:Bool→Hp→Prop)(x:V)(H':Hp):Prop
 | mk (k:_) (z0_:x = .bl k) (z1_:Q k H')
def zhf (t:TE):TT:=fun σ H Q=>t σ H (tTest_1 Q)
theorem zan {op:CmpOp}{r:R2}(ho:OpR X (compareOp op) r)(ha:PE X a ta)(hb:PE X b tb)(hm:behindInMarks op b=false):PT X (.Compare a [op] [b] pos) (zhf (tOp r ta tb)):=by
 intro pins s σ H Q I h
 refine wpAny_isTrue_Compare1 (thn (ha pins s σ H _ I h) fun v s1 ⟨x,H1,I1,r1,q1⟩=>thn (hb pins s1 σ H1 _ I1 q1) fun u s2 ⟨y,H2,I2,r2,q2⟩ =>
  thn (ho pins s2 σ H2 x y v u _ I2 r1 r2 q2) fun c s3 ⟨z,H3,I3,r3,k,e,q3⟩=>?_) hm
 subst e
 cases r3
 exact XaS ⟨H3,I3,q3⟩
inductive tChain_1 (r':R2)(tc:TE)(σ:St)(Q:VK)(y:V)(z:V)(H3:Hp):Prop
 | mk (k:_) (z0_:z = .bl k) (z1_:(if k=true then tc σ H3 fun w' H4=>r' y w' H4 Q else Q (.bl false) H3))
def zjn (r r':R2)(ta tb tc:TE):TE:=fun σ H Q=>ta σ H fun x H1=>tb σ H1 fun y H2=>r x y H2 (tChain_1 r' tc σ Q y)
theorem ziS {op op':CmpOp}{r r':R2}(ho:OpR X (compareOp op) r)(ho':OpR X (compareOp op') r')(ha:PE X a ta)(hb:PE X b tb)(hc:PE X c tc)
  (hm:lastMarks [op,op'] [b,c]=false:=by with_unfolding_all rfl):PE X (.Compare a [op,op'] [b,c] pos) (zjn r r' ta tb tc):=by
 intro pins s σ H Q I h
 refine Compare_chain (thn (ha pins s σ H _ I h) fun v s1 ⟨x,H1,I1,r1,q1⟩=>chain_link (thn (hb pins s1 σ H1 _ I1 q1) fun u s2 ⟨y,H2,I2,r2,q2⟩ =>
  thn (ho pins s2 σ H2 x y v u _ I2 r1 r2 q2) fun d s3 ⟨z,H3,I3,r3,k,e,q3⟩=>?_)) hm
 subst e
 cases r3
 refine XaS ?_
 cases k with
 | false=>exact ite_ff ⟨.bl false,H3,I3,rfl,q3⟩
 | true=>exact ite_tt (chain_last (thn (hc pins s3 σ H3 _ I3 q3) fun w' s4 ⟨z',H4,I4,r4,q4⟩=>ho' pins s4 σ H4 y z' u w' Q I4 r2 r4 q4))
theorem ziL {op op':CmpOp}{r r':R2}(ho:OpR X (compareOp op) r)(ho':OpR X (compareOp op') r')(ha:PE X a ta)(hb:PE X b tb)(hc:PE X c tc)
  (hm:lastMarks [op,op'] [b,c]=false:=by with_unfolding_all rfl):PT X (.Compare a [op,op'] [b,c] pos) (zhf (zjn r r' ta tb tc)):=by
 intro pins s σ H Q I h
 refine isTrue_chain (thn (ha pins s σ H _ I h) fun v s1 ⟨x,H1,I1,r1,q1⟩=>test_link (thn (hb pins s1 σ H1 _ I1 q1) fun u s2 ⟨y,H2,I2,r2,q2⟩ =>
  thn (ho pins s2 σ H2 x y v u _ I2 r1 r2 q2) fun d s3 ⟨z,H3,I3,r3,k,e,q3⟩=>?_)) hm
 subst e
 cases r3
 refine XaS ?_
 cases k with
 | false =>
  obtain ⟨k',e',q'⟩:=q3
  cases e'
  exact ite_ff ⟨H3,I3,q'⟩
 | true =>
  refine ite_tt (test_last (thn (hc pins s3 σ H3 _ I3 q3) fun w' s4 ⟨z',H4,I4,r4,q4⟩=>thn (ho' pins s4 σ H4 y z' u w' _ I4 r2 r4 q4) fun d' s5 hh_=>?_))
  obtain ⟨z2,H5,I5,r5,k2,e2,q5⟩:=hh_
  subst e2
  cases r5
  exact XaS ⟨H5,I5,q5⟩
def TruV (K:W.Frag)(x:V)(H:Hp)(k:Bool):Prop:=
 match x with
 | .non=>k=false
 | .bl b=>k=b
 | .int i=>k=(i != 0)
 | .str y=>y.length≤sizeLine∧k=((y.length:Int) != 0)
 | .byt y=>y.size≤sizeLine∧k=((y.size:Int) != 0)
 | .ref p=>(∃ xs,SqL K H p xs∧k = !xs.isEmpty)∨(∃ xs,SqT K H p xs∧k = !xs.isEmpty)∨∃ kvs,H p=some (.dK kvs)∧k = !kvs.isEmpty
 | _=>False
theorem zgT {κ:Type}{kvs:List (κ×V)}{vs:List (κ×Value)}(r:KV kvs vs):(!vs.isEmpty) = !kvs.isEmpty:=by
 cases r <;> rfl
theorem zdZ {xs:List V}{its:List Value}(r:Vals xs its):(!its.toArray.isEmpty) = !xs.isEmpty:=by
 cases r <;> simp
theorem zdY:(sizeLine:Nat)<2 ^ 63:=by rw [sizeLine_eq];decide
theorem tru_ok:TruR X (fun x H Q=>∃ k,TruV X.K x H k∧Q k H):=by
 intro pins s σ H x v Q I rx h
 obtain ⟨k,e,q⟩:=h
 have hl:=zdY
 have hs:sizeLine=16777216:=sizeLine_eq
 cases x with
 | non =>
  cases rx
  have e':k=false:=e
  subst e'
  exact truthy_none ⟨H,I,q⟩
 | bl b =>
  cases rx
  have e':k=b:=e
  subst e'
  exact XaS ⟨H,I,q⟩
 | int i =>
  obtain ⟨t,rfl⟩:=rx
  have e':k=(i != 0):=e
  subst e'
  exact PySem.P.truthy_int ⟨H,I,q⟩
 | str y =>
  obtain ⟨t,rfl⟩:=rx
  obtain ⟨hy,e'⟩:y.length≤sizeLine∧k=((y.length:Int) != 0):=e
  subst e'
  exact PySem.P.truthy_str (by omega) ⟨H,I.tok _,q⟩
 | byt y =>
  obtain ⟨t,rfl⟩:=rx
  obtain ⟨hy,e'⟩:y.size≤sizeLine∧k=((y.size:Int) != 0):=e
  subst e'
  exact W.truthy_bytes (by omega) ⟨H,I.tok _,q⟩
 | ref p =>
  cases rx
  have e':(∃ xs,SqL X.K H p xs∧k = !xs.isEmpty)∨(∃ xs,SqT X.K H p xs∧k = !xs.isEmpty)∨∃ kvs,H p=some (.dK kvs)∧k = !kvs.isEmpty:=e
  rcases e' with ⟨xs,hx,e'⟩ | ⟨xs,hx,e'⟩ | ⟨kvs,hx,e'⟩
  ·subst e'
   obtain ⟨its,r,pl,hz⟩:=I.list hx
   have hlen:=r.length
   exact wpAny_truthy_list pl.isList (by simp only [Xal];omega) ⟨H,I.tok _,by rw [zdZ r];exact q⟩
  ·subst e'
   obtain ⟨its,r,pl,hz⟩:=I.tuple hx
   have hlen:=r.length
   exact truthy_tuple pl (by simp only [Xal];omega) ⟨H,I.tok _,by rw [zdZ r];exact q⟩
  ·subst e'
   obtain ⟨hz,hS,vs,r,m⟩:kvs.length≤sizeLine∧(p == sysModules)=false∧∃ vs,KV kvs vs∧s.heap.DictOf (zaO X.prog X.w) p vs:=I.hok p _ hx
   have hlen:kvs.length=vs.length:=Paired.length r
   exact wpAny_truthy_dict hS m (by omega) ⟨H,I.tok _,by rw [zgT r];exact q⟩
 | _=>exact (show False from e).elim
theorem ziK (ha:PE X a ta)(he:∀ whole,isTrue a X.env whole=(do let v ← whole;standAt a.pos;holding [v] (truthy v))) :
  PT X a (fun σ H Q=>ta σ H fun x H'=>∃ k,TruV X.K x H' k∧Q k H'):=by
 intro pins s σ H Q I h
 exact isTrue_plain (thn (ha pins s σ H _ I h) fun v s1 ⟨x,H1,I1,r1,q1⟩=>tru_ok pins s1 σ H1 x v Q I1 r1 q1) (he _)
theorem zgI:OpR X (binaryOp .Add) (fun x y H Q=>∃ i j,x = .str i∧y = .str j∧i.length+j.length≤sizeLine∧Q (.str (i ++ j)) H):=by
 intro pins s σ H x y v u Q I rx ry h
 obtain ⟨i,j,rfl,rfl,hz,q⟩:=h
 obtain ⟨t,rfl⟩:=rx
 obtain ⟨t',rfl⟩:=ry
 exact add_str (fun t' tk=>⟨.str (i ++ j),H,I.tok _,⟨_,rfl⟩,q⟩) hz
theorem zdL {x:V}{us:List Value}(r:Vals [x] us):∃ u,us=[u]∧RelV x u:=by
 cases r with
 | cons r1 r2=>cases r2;exact ⟨_,rfl,r1⟩
theorem zeB {x y:V}{us:List Value}(r:Vals [x,y] us):∃ u w',us=[u,w']∧RelV x u∧RelV y w':=by
 cases r with
 | cons r1 r2 =>
  cases r2 with
  | cons r3 r4=>cases r4;exact ⟨_,_,rfl,r1,r3⟩
theorem zig (hc:X.calm=true):zbx X (.builtin "max") (fun xs H Q=>∃ i j,xs=[.int i,.int j]∧Q (.int (if j > i then j else i)) H):=by
 intro pins s σ H xs us Q I r h
 obtain ⟨i,j,rfl,q⟩:=h
 obtain ⟨u,w',rfl,⟨t,rfl⟩,⟨t',rfl⟩⟩:=zeB r
 refine max_two_ints (I.ok.hd hc) fun h' tk k=>⟨_,H,I.kept k,?_,q⟩
 by_cases hj:j > i
 ·rw [if_pos hj,if_pos hj];exact ⟨_,rfl⟩
 ·rw [if_neg hj,if_neg hj];exact ⟨_,rfl⟩
theorem zdK:zbx X (.type "int") (fun xs H Q=>(∃ i,xs=[.int i]∧Q (.int i) H)∨∃ k,xs=[.bl k]∧Q (.int (if k then 1 else 0)) H):=by
 intro pins s σ H xs us Q I r h
 rcases h with ⟨i,rfl,q⟩ | ⟨k,rfl,q⟩
 ·obtain ⟨u,rfl,t,rfl⟩:=zdL r
  exact call_int_int ⟨.int i,H,I,⟨_,rfl⟩,q⟩
 ·obtain ⟨u,rfl,r1⟩:=zdL r
  cases r1
  exact call_int_bool ⟨.int (if k then 1 else 0),H,I.tok _,⟨_,rfl⟩,q⟩
end
structure ObjM (h:Heap)(x dx C:Addr)(mA:Str→Option Value):Prop where
 obj:h.get? x=some (W.instObj C dx)
 ns:h.Ns1 dx mA
 ne:dx≠x
set_option tactic.hygienic true in
theorem zdA {h:Heap}{dx:Addr}{mA:Str→Option Value}(n:h.Ns1 dx mA):∃ od,h.get? dx=some od∧∀ name,W.lookIn name od=some (mA name):=by
 obtain ⟨o,es,ep,ho,hd,hk,_,hm⟩:=n
 refine ⟨o,ho,fun name=>?_⟩
 have e:=hm name
 unfold nsFind findBy at e
 rw [← Array.find?_toList] at e
 unfold W.lookIn
 rw [hd]
 dsimp only
 split
 ·rename_i y q
  rw [q] at e
  exact congrArg some e
 ·rename_i q
  rw [q] at e
  have a:es.toList.any (·.refKey)=false:=by
   rw [List.any_eq_false]
   intro y hy
   obtain ⟨z,t,hkey⟩:=hk y (Array.mem_toList_iff.mp hy)
   simp [DictEntry.refKey,hkey]
  have a':¬ es.toList.any (·.refKey)=true:=by rw [a];exact Xao
  rw [if_neg a']
  exact congrArg some e
theorem ObjM.look {h:Heap}{x dx C:Addr}{mA:Str→Option Value}(I:ObjM h x dx C mA):∃ od,W.InstAt h x (W.instObj C dx) C (some od)∧∀ name,W.lookIn name od=some (mA name):=
 let ⟨od,ho,hl⟩:=zdA I.ns
 ⟨od,⟨I.obj,rfl,rfl,ho⟩,hl⟩
section
variable {prog:Program}{w:World}{A:Around}{E:Value→Shared→Prop}{s:Shared}{K:W.Frag}{x dx C f:Addr}{mA:Str→Option Value}{name:Str}{v:Value}
theorem zkv {expr:Bool}{Q:Value→Shared→Prop}(X:K.In s.heap)(I:ObjM s.heap x dx C mA)(hg:W.plainGet K C name=true)(hh:W.hasDictIn K C=true)
  (ha:W.findIn K (.ref C) name=some none) (hv:mA name=some v) (hv':W.handedIn v=true) (h:Q v { s with toks:=s.toks+1 }) :
  wpAny (model prog w) A (getAttr (.ref x) name expr) Q E s:=by
 obtain ⟨od,J,hl⟩:=I.look
 exact W.get_value X J (W.plainGet_of hg).1 (W.findObj_own hh ha rfl (by rw [hl,hv])) hv' h
theorem zi9 {pl:Sem Bool}{Q:Value×List Value→Shared→Prop}(X:K.In s.heap)(I:ObjM s.heap x dx C mA)(hg:W.plainGet K C name=true)
  (hf:W.findIn K (.ref C) name=some (some (.ref f))) (ht:W.isFn K (.ref f)=true) (hv:mA name=none) (h:Q (.ref f,[.ref x]) s) :
  wpAny (model prog w) A (getMethod (.ref x) name pl) Q E s:=by
 obtain ⟨od,J,hl⟩:=I.look
 exact W.method_fn X J (W.plainGet_of hg).1 (W.plainGet_of hg).2 hf (beq_iff_eq.mp ht) (by show (W.lookIn name od).map (·.isSome)=some false;rw [hl,hv];rfl) h
theorem zjZ {ns:List Str}{Q:Unit→Shared→Prop}(X:K.In s.heap)(I:ObjM s.heap x dx C mA)
  (hs:W.findIn K (.ref C) "__setattr__" = some (some (.builtin "object.__setattr__"))) (hp:W.plainOver K C=true) (ht:W.takerIn K C name=some none) (hh:W.hasDictIn K C=true)
  (hw:PySem.Within mA ns) (hsz:ns.length≤sizeLine)
  (h:∀ h',ObjM h' x dx C (fun y=>if y=name then some v else mA y)→Heap.SameBut dx s.heap h'→Q () { s with heap:=h',toks:=s.toks+2 }) :
  wpAny (model prog w) A (setAttr (.ref x) name v) Q E s:=by
 obtain ⟨od,J,hl⟩:=I.look
 refine W.set_plain X J hs (W.osa_open (s:={ s with toks:=s.toks+1 }) (r:=none) X J hp ht fun b=>?_)
 obtain ⟨cd,hc,hd'⟩:=W.any_some hh
 have hx:s.heap.get? x=some ⟨.ref C,some dx,.plain,#[]⟩:=I.obj
 refine Xaa (Xac (Xaa (Xaa (wpAny_loadPart hx (Xaa (W.Looks.here (s:={ s with toks:=s.toks+1 }) (W.looks_clsIn X hc) ?_))))))
 rw [hd']
 refine Xac (a:=some dx) (Xaa (Xac (Xaa ?_)))
 refine wpAny_nsSet1 (s:={ s with toks:=s.toks+1 }) I.ns fun h' hn2 hs2=>?_
 obtain ⟨oD,esD,epD,hoD,hdD,hcD⟩:=hn2.count (PySem.Within.cons name v hw)
 refine Xaa (wpAny_lookBehind hoD (by rw [hdD];exact pastItsLine_dict (Xar hcD (by rw [Xaw];omega))) ?_)
 exact Xac (h _ ⟨(hs2.2 _ (Ne.symm I.ne)).trans I.obj,hn2,I.ne⟩ hs2)
theorem zgg {R:Result→Shared→Prop}{vs:List Value}{kw:List (Str×Value)}(X:K.In s.heap)(hm:W.makesIn K C=true)
  (hi:W.findIn K (.ref C) "__init__" = some (some (.ref f))) (hf:W.typeIn K (.ref f)=some (.type "function"))
  (h:codeAny (model prog w) (A.under (.builtin "type.__call__" ⟨.ref C :: vs,kw⟩)) (.call (.ref f) ⟨.ref (s.heap.objs.size+1) :: vs,kw⟩) (W.InitBack (s.heap.objs.size+1) R)
   { s with heap:=(s.heap.push W.emptyDict).push (W.instObj C s.heap.objs.size) }) :
  codeAny (model prog w) A (.call (.ref C) ⟨vs,kw⟩) R s:=by
 obtain ⟨hh,g,d,t,os⟩:=s
 exact W.make_core (W.makes_of X hm) (W.looks_findIn X hi) (fun self=>W.bind_fn X self hf) (.inl rfl) h
end
def putF (f:Str)(v:V):List (Str×V)→List (Str×V)
 | []=>[(f,v)]
 | (g,x) :: r=>if g=f then (g,v) :: r else (g,x) :: putF f v r
theorem zdz (f g:Str)(v:V):∀ fs:List (Str×V),(putF f v fs).lookup g=if g=f then some v else fs.lookup g
 | []=>by
  show List.lookup g [(f,v)]=_
  by_cases h:g=f
  ·have hb:(g == f)=true:=beq_iff_eq.mpr h
   simp only [List.lookup,hb,if_pos h]
  ·have hb:(g == f)=false:=beq_eq_false_iff_ne.mpr h
   simp only [List.lookup,hb,if_neg h]
 | (k,x) :: r=>by
  have ih:=zdz f g v r
  rw [show putF f v ((k,x) :: r)=(if k=f then (k,v) :: r else (k,x) :: putF f v r) from rfl]
  by_cases hk:k=f
  ·rw [if_pos hk]
   by_cases h:g=k
   ·have hb:(g == k)=true:=beq_iff_eq.mpr h
    simp only [List.lookup,hb,if_pos (h.trans hk)]
   ·have hb:(g == k)=false:=beq_eq_false_iff_ne.mpr h
    simp only [List.lookup,hb,if_neg (fun e:g=f=>h (e.trans hk.symm))]
  ·rw [if_neg hk]
   by_cases h:g=k
   ·have hb:(g == k)=true:=beq_iff_eq.mpr h
    simp only [List.lookup,hb,if_neg (fun e:g=f=>hk (h.symm.trans e))]
   ·have hb:(g == k)=false:=beq_eq_false_iff_ne.mpr h
    simp only [List.lookup,hb]
    exact ih
theorem zdE (f:Str)(v:V):∀ fs:List (Str×V),f∈(putF f v fs).map (·.1)∧∀ g,g∈fs.map (·.1)→g∈(putF f v fs).map (·.1)
 | []=>⟨by simp [putF],fun g h=>by simp at h⟩
 | (k,x) :: r=>by
  obtain ⟨i1,i2⟩:=zdE f v r
  rw [show putF f v ((k,x) :: r)=(if k=f then (k,v) :: r else (k,x) :: putF f v r) from rfl]
  by_cases hk:k=f
  ·rw [if_pos hk]
   subst hk
   exact ⟨by simp,fun g h=>by simpa using h⟩
  ·rw [if_neg hk]
   refine ⟨?_,fun g h=>?_⟩
   ·rw [XaN]
    exact Xax _ i1
   ·rw [XaN] at h ⊢
    rcases Xap.mp h with e | e
    ·exact Xap.mpr (.inl e)
    ·exact Xax _ (i2 g e)
theorem zdB (f:Str)(v:V):∀ fs:List (Str×V),(putF f v fs).length≤fs.length+1
 | []=>by simp [putF]
 | (k,x) :: r=>by
  have ih:=zdB f v r
  rw [show putF f v ((k,x) :: r)=(if k=f then (k,v) :: r else (k,x) :: putF f v r) from rfl]
  by_cases hk:k=f
  ·rw [if_pos hk,Xaw,Xaw];omega
  ·rw [if_neg hk,Xaw,Xaw];omega
theorem RelO.some_of {v:V}{o:Option Value}(r:RelO (some v) o):∃ u,o=some u∧RelV v u:=by
 cases o with
 | none=>exact (show False from r).elim
 | some u=>exact ⟨u,rfl,r⟩
theorem RelO.none_of {o:Option Value}(r:RelO none o):o=none:=by
 cases o with
 | none=>rfl
 | some u=>exact (show False from r).elim
theorem ze9 {v:V}{u:Value}(r:RelV v u):W.handedIn u=true:=by
 cases v with
 | non=>cases (show u=Value.none from r);rfl
 | bl b=>cases (show u=Value.bool b from r);rfl
 | int i=>obtain ⟨t,e⟩:=(show ∃ t,u=Value.int i t from r);cases e;rfl
 | str x=>obtain ⟨t,e⟩:=(show ∃ t,u=Value.str x t from r);cases e;rfl
 | byt b=>obtain ⟨t,e⟩:=(show ∃ t,u=Value.bytes b t from r);cases e;rfl
 | flt b=>obtain ⟨t,e⟩:=(show ∃ t,u=Value.float b t from r);cases e;rfl
 | ref a=>cases (show u=Value.ref a from r);rfl
 | ty n=>cases (show u=Value.type n from r);rfl
section
variable {P:Program}{w:World}{H H':Hp}{h h':Heap}{a C dx:Addr}{fs fs':List (Str×V)}
theorem zdG (hok:HOk P w H h)(e:H a=some (.ins C dx fs)):∃ mA,ObjM h a dx C mA∧(∀ f,RelO (fs.lookup f) (mA f))∧PySem.Within mA (fs.map (·.1))∧fs.length≤1000∧H dx=some (.own a):=by
 obtain ⟨d,z,ne,ob,mA,n,r,q⟩:=(show ObjOk P w H h a (.ins C dx fs) from hok a _ e)
 exact ⟨mA,⟨ob,n,ne⟩,r,q,z,d⟩
end
structure Cls (K:W.Frag)(C:Addr):Prop where
 pg:W.plainGet K C Str.empty=true
 hd:W.hasDictIn K C=true
 po:W.plainOver K C=true
 sa:W.findIn K (.ref C) "__setattr__" = some (some (.builtin "object.__setattr__"))
theorem Cls.get {K:W.Frag}{C:Addr}(c:Cls K C)(f:Str):W.plainGet K C f=true:=c.pg
def NoAttr (K:W.Frag)(C:Addr)(f:Str):Prop:=W.findIn K (.ref C) f=some none
theorem NoAttr.taker {K:W.Frag}{C:Addr}{f:Str}(n:NoAttr K C f):W.takerIn K C f=some none:=by
 unfold W.takerIn
 rw [show W.findIn K (.ref C) f=some none from n]
 rfl
structure Meth (K:W.Frag)(C:Addr)(m:Str)(f:Addr):Prop where
 at_:W.findIn K (.ref C) m=some (some (.ref f))
 fn:W.isFn K (.ref f)=true
 kp:W.keepIn K (.ref f)=true
section
variable {X:Cx}{pins:List (Addr×Obj)}{σ:St}{H:Hp}{s:Shared}{a C dx:Addr}{fs:List (Str×V)}{f:Str}{v:V}{A:Around}{E:Value→Shared→Prop}
theorem zgX {b:Bool}{Q:Value→Shared→Prop}(I:Inv X pins σ H s)(e:H a=some (.ins C dx fs))(c:Cls X.K C)(n:NoAttr X.K C f)(l:fs.lookup f=some v)
  (h:∀ u s',Inv X pins σ H s'→RelV v u→Q u s'):wpAny (model X.prog X.w) A (getAttr (.ref a) f b) Q E s:=by
 obtain ⟨mA,O,r,_,_,_⟩:=zdG I.hok e
 obtain ⟨u,hu,ru⟩:=RelO.some_of (v:=v) (o:=mA f) (by rw [← l];exact r f)
 exact zkv I.kIn O (c.get f) c.hd n hu (ze9 ru) (h u _ (I.tok _) ru)
theorem zgW {m:Str}{g:Addr}{pl:Sem Bool}{Q:Value×List Value→Shared→Prop}(I:Inv X pins σ H s)(e:H a=some (.ins C dx fs))(c:Cls X.K C)(k:Meth X.K C m g)(l:fs.lookup m=none)
  (h:Q (.ref g,[.ref a]) s):wpAny (model X.prog X.w) A (getMethod (.ref a) m pl) Q E s:=by
 obtain ⟨mA,O,r,_,_,_⟩:=zdG I.hok e
 have hn:mA m=none:=RelO.none_of (by rw [← l];exact r m)
 exact zi9 I.kIn O (c.get m) k.at_ k.fn hn h
theorem zgA {y:V}{u:Value}{Q:Unit→Shared→Prop}(I:Inv X pins σ H s)(e:H a=some (.ins C dx fs))(c:Cls X.K C)(n:NoAttr X.K C f)(hl:fs.length<1000)(ry:RelV y u)
  (h:∀ s',Inv X pins σ (upd H a (.ins C dx (putF f y fs))) s'→Q () s'):wpAny (model X.prog X.w) A (setAttr (.ref a) f u) Q E s:=by
 obtain ⟨mA,O,r,wi,_,ho⟩:=zdG I.hok e
 have hz:(fs.map (·.1)).length≤sizeLine:=by rw [Xah,sizeLine_eq];omega
 refine zjZ I.kIn O c.sa c.po n.taker c.hd wi hz fun h' O' sb=>h _ ?_
 have hd:∃ o,h'.get? dx=some o:=let ⟨o,_,_,e',_⟩:=O'.ns;⟨o,e'⟩
 refine I.write (x:=a) (e:=dx) (by rw [e];exact True.intro) (.inr ho) (fun b q hb z=>(sb.2 b hb).trans z) hd ?_
 refine ⟨by rw [zai O.ne];exact ho,?_,O.ne,O'.obj,_,O'.ns,fun g=>?_,fun g hg=>?_⟩
 ·have:=zdB f y fs;omega
 ·show RelO ((putF f y fs).lookup g) (if g=f then some u else mA g)
  rw [zdz]
  by_cases q:g=f
  ·rw [if_pos q,if_pos q];exact ry
  ·rw [if_neg q,if_neg q];exact r g
 ·by_cases q:g=f
  ·rw [q];exact (zdE f y fs).1
  ·refine (zdE f y fs).2 g (wi g fun z=>hg ?_)
   show (if g=f then some u else mA g)=none
   rw [if_neg q];exact z
theorem Inv.made (I:Inv X pins σ H s):Inv X pins σ (upd (upd H s.heap.objs.size (.own (s.heap.objs.size+1))) (s.heap.objs.size+1) (.ins C s.heap.objs.size []))
  { s with heap:=(s.heap.push W.emptyDict).push (W.instObj C s.heap.objs.size) }:=by
 have e1:(s.heap.push W.emptyDict).get? s.heap.objs.size=some W.emptyDict:=Xam s.heap rfl
 have e2:((s.heap.push W.emptyDict).push (W.instObj C s.heap.objs.size)).get? (s.heap.objs.size+1)=some (W.instObj C s.heap.objs.size):=by
  have:=Xam (s.heap.push W.emptyDict) (o:=W.instObj C s.heap.objs.size) rfl
  rwa [XaU] at this
 have e3:(s.heap.push W.emptyDict).Ns s.heap.objs.size (fun _=>none):=⟨W.emptyDict,#[],_,e1,rfl,(fun e he=>absurd he (by simp)),fun _=>rfl⟩
 have I1:=I.laid (a:=s.heap.objs.size) (o:=.own (s.heap.objs.size+1)) (h':=s.heap.push W.emptyDict) (t':=s.toks) (fun b u q=>Xad _ q) (Xaf _) ⟨_,e1⟩
 refine I1.laid (a:=s.heap.objs.size+1) (o:=.ins C s.heap.objs.size []) (t':=s.toks) (fun b u q=>Xad _ q) (Nat.le_of_eq (XaU _ _)) ?_
 have ne:s.heap.objs.size≠s.heap.objs.size+1:=Xav (Xa2 _)
 refine ⟨by rw [zai ne,zab],Nat.zero_le _,ne,e2,fun _=>none,(Heap.Ns1.of_empty e3).at fun o q=>Xad _ q,fun _=>True.intro,fun y hy=>absurd rfl hy⟩
theorem zio {prog:Program}{w:World}{env:Env}{e:Expr}{f:Str}{pos:Pos}{s:Shared}{Q:Value→Shared→Prop}(hb:attributeBase e f env (eval e env)=eval e env)
  (h:wpAny (model prog w) A (eval e env) (fun o s₁=>wpAny (model prog w) A (getAttr o f true) Q E s₁) E s):wpAny (model prog w) A (eval (.Attribute e f pos) env) Q E s:=
 Attribute_any_ h (by rw [arm_eval_Attribute,hb])
end
inductive tFld_1 (K:W.Frag)(f:Str)(Q:VK)(x:V)(H1:Hp):Prop
 | mk (a:_) (C:_) (dx:_) (fs:_) (v:_) (z0_:x = .ref a) (z1_:H1 a=some (.ins C dx fs)) (z2_:Cls K C) (z3_:NoAttr K C f) (z4_:fs.lookup f=some v) (z5_:Q v H1)
def tFld (K:W.Frag)(ta:TE)(f:Str):TE:=fun σ H Q=>ta σ H (tFld_1 K f Q)
inductive sFld_1 (K:W.Frag)(f:Str)(D:Ends)(σ:St)(y:V)(x:V)(H2:Hp):Prop
 | mk (a:_) (C:_) (dx:_) (fs:_) (z0_:x = .ref a) (z1_:H2 a=some (.ins C dx fs)) (z2_:Cls K C) (z3_:NoAttr K C f) (z4_:fs.length<1000) (z5_:D.nx σ (upd H2 a (.ins C dx (putF f y fs))))
def sFld (K:W.Frag)(ta tv:TE)(f:Str):TS:=fun D σ H=>tv σ H fun y H1=>ta σ H1 (sFld_1 K f D σ y)
section
variable {X:Cx}{o e value:Expr}{f:Str}{pos pos' tpos:Pos}{ta tv:TE}
theorem zju (he:PE X e ta)(hb:attributeBase e f X.env (eval e X.env)=eval e X.env):PE X (.Attribute e f pos) (tFld X.K ta f):=by
 intro pins s σ H Q I h
 refine zio hb (thn (he pins s σ H _ I h) fun u s1 hh_=>?_)
 obtain ⟨x,H1,I1,rx,a,C,dx,fs,v,ex,ea,c,n,l,q⟩:=hh_
 subst ex
 obtain rfl:u=Value.ref a:=rx
 exact zgX I1 ea c n l fun u' s2 I2 ru=>⟨v,H1,I2,ru,q⟩
theorem zbZ (ha:PE X o ta)(hv:PE X value tv)(hs:swapsWith value (some (.Attribute o f pos')) pos.line X.env=pure false):PS X (.Assign [.Attribute o f pos'] value pos) (sFld X.K ta tv f):=by
 intro pins s σ H D I h
 refine plainObj_wpAny_Assign_Attribute (thn (hv pins s σ H _ I h) fun u s1 ⟨y,H1,I1,ry,q⟩=>thn (ha pins s1 σ H1 _ I1 q) fun ov s2 hh_=>?_) hs
 obtain ⟨x,H2,I2,rx,a,C,dx,fs,ex,ea,c,n,l,q2⟩:=hh_
 subst ex
 obtain rfl:ov=Value.ref a:=rx
 exact zgA I2 ea c n l ry fun s3 I3=>⟨σ,_,I3,q2⟩
end
section
variable {X:Cx}{pins:List (Addr×Obj)}{σ:St}{H:Hp}{s:Shared}{A:Around}{E:Value→Shared→Prop}{Q:Value→Shared→Prop}{c:Value}{b:Bool}
inductive TyOf (K:W.Frag)(H:Hp):V→Value→Prop where
 | non:TyOf K H .non (.type "NoneType")
 | bl (x:Bool):TyOf K H (.bl x) (.type "bool")
 | int (i:Int):TyOf K H (.int i) (.type "int")
 | str (x:Str):TyOf K H (.str x) (.type "str")
 | flt (x:UInt64):TyOf K H (.flt x) (.type "float")
 | lst {a:Addr} {xs:List V} (e:H a=some (.lst xs)):TyOf K H (.ref a) (.type "list")
 | frz {a:Addr} {o:Obj} {xs:List V} (e:H a=some (.frz o (.lst xs))):TyOf K H (.ref a) (.type "list")
 | tup {a:Addr} {xs:List V} (e:H a=some (.tup xs)):TyOf K H (.ref a) (.type "tuple")
 | dK {a:Addr} {kvs:List (Key×V)} (e:H a=some (.dK kvs)):TyOf K H (.ref a) (.type "dict")
 | dT {a:Addr} {kvs:List (List Key×V)} (e:H a=some (.dT kvs)):TyOf K H (.ref a) (.type "dict")
 | ins {a C dx:Addr} {fs:List (Str×V)} (e:H a=some (.ins C dx fs)) (cl:Cls K C) (ha:W.findIn K (.ref C) "__class__" = some (some (.builtin "object.__class__")))
   (hn:W.specialIn K (.builtin "object.__class__") "__get__" = some (some (.builtin "getset_descriptor.__get__"))) (htk:W.takesIn K (.builtin "object.__class__")=some true)
   (hm:W.mroIn K C (.type "object")=some true):TyOf K H (.ref a) (.ref C)
theorem ze8 {x:V}{u t:Value}(I:Inv X pins σ H s)(rx:RelV x u)(ty:TyOf X.K H x t)(e:W.kitOne X.K t c=some b)(h:∀ tk,Q (.bool b) { s with toks:=tk }) :
  wpAny (model X.prog X.w) A (call (.builtin "isinstance") [u,c]) Q E s:=by
 cases ty with
 | non=>cases (show u=Value.none from rx);exact W.kia_one W.kitx_none I.kIn True.intro e (fun z=>nomatch z) h
 | bl y=>cases (show u=Value.bool y from rx);exact W.kia_one W.kitx_bool I.kIn True.intro e (fun z=>nomatch z) h
 | int i=>obtain ⟨t,q⟩:=(show ∃ t,u=Value.int i t from rx);cases q;exact W.kia_one W.kitx_int I.kIn True.intro e (fun z=>nomatch z) h
 | str y=>obtain ⟨t,q⟩:=(show ∃ t,u=Value.str y t from rx);cases q;exact W.kia_one W.kitx_str I.kIn True.intro e (fun z=>nomatch z) h
 | flt y=>obtain ⟨t,q⟩:=(show ∃ t,u=Value.float y t from rx);cases q;exact W.kia_one W.kitx_float I.kIn True.intro e (fun z=>nomatch z) h
 | @lst a xs ea =>
  cases (show u=Value.ref a from rx)
  obtain ⟨_,_,n,_,h1⟩:=(show ObjOk X.prog X.w H s.heap a (.lst xs) from I.hok a _ ea)
  exact W.kia_one W.kitx_list I.kIn ⟨_,h1,rfl⟩ e (fun z=>nomatch z) h
 | @frz a ob xs ea =>
  cases (show u=Value.ref a from rx)
  obtain ⟨_,_,_,n,_,h1⟩:=(show ObjOk X.prog X.w H s.heap a (.frz ob (.lst xs)) from I.hok a _ ea)
  exact W.kia_one W.kitx_list I.kIn ⟨_,h1,rfl⟩ e (fun z=>nomatch z) h
 | @tup a xs ea =>
  cases (show u=Value.ref a from rx)
  obtain ⟨_,_,_,p⟩:=(show ObjOk X.prog X.w H s.heap a (.tup xs) from I.hok a _ ea)
  obtain ⟨o,h1,h2,_⟩:=p
  exact W.kia_one W.kitx_tuple I.kIn ⟨o,h1,h2⟩ e (fun z=>nomatch z) h
 | @dK a kvs ea =>
  cases (show u=Value.ref a from rx)
  obtain ⟨_,_,vs,_,p⟩:=(show ObjOk X.prog X.w H s.heap a (.dK kvs) from I.hok a _ ea)
  obtain ⟨o,es,ep,h1,h2,_⟩:=p
  exact W.kia_one W.kitx_dict I.kIn ⟨o,h1,h2.1⟩ e (fun z=>nomatch z) h
 | @dT a kvs ea =>
  cases (show u=Value.ref a from rx)
  obtain ⟨_,_,xs,_,o,es,ep,h1,h2,_⟩:=(show ObjOk X.prog X.w H s.heap a (.dT kvs) from I.hok a _ ea)
  exact W.kia_one W.kitx_dict I.kIn ⟨o,h1,h2.1⟩ e (fun z=>nomatch z) h
 | @ins a C dx fs ea cl ha hn htk hm =>
  cases (show u=Value.ref a from rx)
  obtain ⟨mA,O,_⟩:=zdG I.hok ea
  obtain ⟨od,J,_⟩:=O.look
  exact W.kia_one (W.kitx_own (cl.get _) cl.hd ha hn htk hm) I.kIn J e (fun z=>nomatch z) h
end
structure Room (k:Nat)(A:Around):Prop where
 hd:A.handled=none
 dp:A.depth+3 * k+5<recursionLimit
 un:A.units+16 * k+200<cLine
 gd:A.guards=some []
theorem Room.mono {j k:Nat}{A:Around}(r:Room k A)(h:j≤k):Room j A:=⟨r.hd,by have:=r.dp;omega,by have:=r.un;omega,r.gd⟩
theorem Room.deeper {k:Nat}{A:Around}(r:Room (k+1) A)(env:Env):Room k (A.deeper env):=
 ⟨r.hd,by have:=r.dp;show A.depth+1+3 * k+5<_;omega,by have:=r.un;show A.units+3+16 * k+200<_;omega,r.gd⟩
theorem Room.in1 {k:Nat}{A:Around}(r:Room (k+1) A):Room k A.in1:=
 ⟨r.hd,by have:=r.dp;show A.depth+3 * k+5<_;omega,by have:=r.un;show A.units+1+16 * k+200<_;omega,r.gd⟩
theorem zgR {A:Around}{C:Addr}{us:List Value}{kw:List (Str×Value)}:(A.under (.builtin "type.__call__" ⟨.ref C :: us,kw⟩)).depth=A.depth+1:=by
 first | rfl | simp [Around.under,Code.weight,Code.isCreation,Code.isGuard,Code.isCaller,Code.frames,Code.isFrame,guardIds]
theorem zgQ {A:Around}{C:Addr}{us:List Value}{kw:List (Str×Value)}:(A.under (.builtin "type.__call__" ⟨.ref C :: us,kw⟩)).units=A.units+1:=by
 first | rfl | simp [Around.under,Code.cUnits,Code.frames,Code.isFrame]
theorem zfQ {A:Around}{C:Addr}{us:List Value}{kw:List (Str×Value)}(h:A.guards=some []):(A.under (.builtin "type.__call__" ⟨.ref C :: us,kw⟩)).guards=some []:=by
 have hc:(Code.builtin "type.__call__" ⟨Value.ref C :: us,kw⟩).guards=[]:=by
  first | rfl | (simp [Code.guards,Code.isGuard,guardIds];done) | (unfold Code.guards;rw [if_neg];decide +kernel) | skip
 simp only [Around.under,h,hc]
 rfl
theorem Room.make {k:Nat}{A:Around}(r:Room (k+1) A)(C:Addr)(us:List Value)(kw:List (Str×Value)):Room k (A.under (.builtin "type.__call__" ⟨.ref C :: us,kw⟩)):=
 ⟨r.hd,by have:=r.dp;rw [zgR];omega,by have:=r.un;rw [zgQ];omega,zfQ r.gd⟩
theorem Room.depth {k:Nat}{A:Around}(r:Room k A):A.depth<recursionLimit:=by have:=r.dp;omega
theorem Room.units {k:Nat}{A:Around}(r:Room k A):A.units+64<cLine:=by have:=r.un;omega
def tNil:TA:=fun _ H Q=>Q [] H
def ziy (ta:TE)(tr:TA):TA:=fun σ H Q=>ta σ H fun x H1=>tr σ H1 fun xs H2=>Q (x :: xs) H2
section
variable {X:Cx}{e:Expr}{es:List Expr}{te:TE}{t:TA}{pos:Pos}
theorem zae:PA X [] tNil:=fun _ _ _ _ H Q I h=>Calls.spliced_nil ⟨[],H,I,.nil,h⟩
theorem zaa (ha:PE X e te)(hr:PA X es t)(hs:starEach (e :: es) X.env=(false,eval e X.env) :: starEach es X.env:=by rfl):PA X (e :: es) (ziy te t):=by
 intro pos pins s σ H Q I h
 rw [hs]
 show wpAny _ _ (spliced ((false,eval e X.env) :: backTo pos (starEach es X.env))) _ _ s
 refine Calls.spliced_cons (thn (ha pins s σ H _ I h) fun u s1 hh_=>?_)
 obtain ⟨x,H1,I1,r1,q1⟩:=hh_
 exact thn (hr pos pins s1 σ H1 _ I1 q1) fun us s2 ⟨xs,H2,I2,r2,q2⟩=>⟨x :: xs,H2,I2,.cons r1 r2,q2⟩
def tTup (t:TA):TE:=fun σ H Q=>t σ H fun xs H1=>xs.length≤sizeLine∧∀ p,H1 p=none→Q (.ref p) (upd H1 p (.tup xs))
def tLst (t:TA):TE:=fun σ H Q=>t σ H fun xs H1=>xs.length≤sizeLine∧∀ p,H1 p=none→Q (.ref p) (upd H1 p (.lst xs))
theorem zav {x1}(h:PA X es t):PE X (.Tuple es x1 pos) (tTup t):=by
 intro pins s σ H Q I hq
 refine wpAny_Tuple_spliced (thn (h pos pins s σ H _ I hq) fun us s1 ⟨xs,H1,I1,r,z,q⟩=>⟨by rw [← r.length];exact z,?_⟩)
 have hf:H1 s1.heap.objs.size=none:=I1.hok.fresh (Xaf _)
 refine ⟨.ref s1.heap.objs.size,upd H1 s1.heap.objs.size (.tup xs),I1.laid (t':=s1.toks) (fun b u e=>Xad _ e) (Xaf _) ?_,rfl,q _ hf⟩
 exact ⟨⟨z,_,Xam _ rfl,rfl⟩,us,r,⟨_,Xam _ rfl,rfl,_,rfl⟩⟩
theorem zaq (h:PA X es t):PE X (.List es pos) (tLst t):=by
 intro pins s σ H Q I hq
 refine wpAny_List_spliced (thn (h pos pins s σ H _ I hq) fun us s1 ⟨xs,H1,I1,r,z,q⟩=>⟨by rw [← r.length];exact z,?_⟩)
 have hf:H1 s1.heap.objs.size=none:=I1.hok.fresh (Xaf _)
 refine ⟨.ref s1.heap.objs.size,upd H1 s1.heap.objs.size (.lst xs),I1.laid (t':=s1.toks) (fun b u e=>Xad _ e) (Xaf _) ?_,rfl,q _ hf⟩
 exact ⟨z,us,0,r,Xam _ rfl⟩
end
abbrev Sp:=List V→Hp→VK→XK→Prop
abbrev CXT:=List Env→Hp→Shared→XK→Value→Shared→Prop
structure Env0 (P:Program)(w:World)(K:W.Frag)(mg:Str→Option Value)(base:Heap)(A:Around)(outer:List Env)(s:Shared)(H:Hp):Prop where
 frames:A.frames=some outer
 mod:Mod K mg base
 bs:∀ b o,base.get? b=some o→s.heap.get? b=some o∧H b=none
 bsz:base.objs.size≤s.heap.objs.size
 funs:s.heap.FunFrames base outer
 frf:∀ b∈frs outer,H b=none
 hok:HOk P w H s.heap
 bare:AllBare s.gens
def CE (outer:List Env)(P:Program)(w:World)(H:Hp)(s:Shared)(Q:VK)(u:Value)(s':Shared):Prop:=
 ∃ v H',s'.os=s.os∧AllBare s'.gens∧Un (frs outer) [] H H' s.heap s'.heap∧HOk P w H' s'.heap∧RelV v u∧Q v H'
def CR (CX:CXT)(outer:List Env)(P:Program)(w:World)(H:Hp)(s:Shared)(Q:VK)(E:XK)(r:Result)(s':Shared):Prop:=
 match r with
 | .ok (.ret u)=>CE outer P w H s Q u s'
 | .ok _=>False
 | .error e=>CX outer H s E e s'
structure FnOk (P:Program)(w:World)(K:W.Frag)(mg:Str→Option Value)(base:Heap)(CX:CXT)(k:Nat)(f:Addr)(fd:FuncData)(ps:List Str)(sp:Sp):Prop where
 len:∀ vs H Q E,sp vs H Q E→vs.length=ps.length
 run:∀ (A:Around) (outer:List Env) (s:Shared) (H:Hp) (args:Args) (us:List Value) (vs:List V) (Q:VK) (E:XK),Room k A→Env0 P w K mg base A outer s H→BindsTo s fd args (ps.zip us)→Vals vs us→sp vs H Q E →
  codeAny (model P w) A (.call (.ref f) args) (CR CX outer P w H s Q E) s
theorem FnOk.imp {P:Program}{w:World}{K:W.Frag}{mg:Str→Option Value}{base:Heap}{CX:CXT}{k:Nat}{f:Addr}{fd:FuncData}{ps:List Str}{sp sp':Sp}(F:FnOk P w K mg base CX k f fd ps sp)
  (h:∀ vs H Q E,sp' vs H Q E→sp vs H Q E):FnOk P w K mg base CX k f fd ps sp':=
 ⟨fun vs H Q E q=>F.len vs H Q E (h _ _ _ _ q),fun A outer s H args us vs Q E hr he hb hv hs=>F.run A outer s H args us vs Q E hr he hb hv (h _ _ _ _ hs)⟩
theorem Env0.make {P:Program}{w:World}{K:W.Frag}{mg:Str→Option Value}{base:Heap}{A:Around}{outer:List Env}{s:Shared}{H:Hp}(e:Env0 P w K mg base A outer s H)(C:Addr)(us:List Value)(kw:List (Str×Value)) :
  Env0 P w K mg base (A.under (.builtin "type.__call__" ⟨.ref C :: us,kw⟩)) outer s H:=⟨by first | exact e.frames | (simpa [Around.under,Code.envs,Code.isFrame,pushEnvs] using e.frames),e.mod,e.bs,e.bsz,e.funs,e.frf,e.hok,e.bare⟩
theorem Env0.in1 {P:Program}{w:World}{K:W.Frag}{mg:Str→Option Value}{base:Heap}{A:Around}{outer:List Env}{s:Shared}{H:Hp}(e:Env0 P w K mg base A outer s H) :
  Env0 P w K mg base A.in1 outer s H:=⟨e.frames,e.mod,e.bs,e.bsz,e.funs,e.frf,e.hok,e.bare⟩
section
variable {X:Cx}{pins:List (Addr×Obj)}{σ:St}{H:Hp}{s s':Shared}
theorem Inv.env0 (I:Inv X pins σ H s):Env0 X.prog X.w X.K X.mg X.base X.A X.stack s H:=
 ⟨I.ok.frames,I.ok.mod,I.bs,Xar I.ok.bsz I.sz,I.stack,I.stkFree,I.hok,I.bare⟩
theorem Inv.after {Q:VK}{u:Value}(I:Inv X pins σ H s)(h:CE X.stack X.prog X.w H s Q u s'):EP X pins σ Q u s':=by
 obtain ⟨v,H',os,bare,un,hok,r,q⟩:=h
 obtain ⟨hh,g,d,t,os'⟩:=s'
 obtain rfl:os'=s.os:=os
 exact ⟨v,H',I.call (h':=hh) (g':=g) (d':=d) (t':=t) (ch:=[]) un hok bare (fun b z=>absurd z (by simp)),r,q⟩
end
def zeD (sp:Sp)(dvs:List V)(E:XK)(t:TA):TE:=fun σ H Q=>t σ H fun vs H1=>sp (vs ++ dvs) H1 Q E
def Binds (K:W.Frag)(fd:FuncData)(ps:List Str)(ds:List Value):Prop:=
 ∀ (s:Shared) (us:List Value),K.In s.heap→(us ++ ds).length=ps.length→BindsTo s fd ⟨us,[]⟩ (ps.zip (us ++ ds))
theorem Binds.all {K:W.Frag}{fd:FuncData}{ps:List Str}(h:∀ us:List Value,us.length=ps.length→bindArgs fd ⟨us,[]⟩=pure (ps.zip us)):Binds K fd ps []:=fun s us _ hl=>by
 rw [Xbb] at hl ⊢
 exact .of_eq (h us hl)
def Passes (CX:CXT)(X:Cx)(E:XK):Prop:=∀ (pins:List (Addr×Obj)) (σ:St) (H:Hp) (s:Shared) (e:Value) (s':Shared),Inv X pins σ H s→CX X.stack H s E e s'→X.xe e s'
section
variable {X:Cx}{CX:CXT}{k:Nat}{f C:Addr}{fd:FuncData}{ps:List Str}{sp:Sp}{dvs:List V}{ds:List Value}{E:XK}{x m:Str}{p pos apos:Pos}{e o:Expr}{es:List Expr}{ta:TE}{t:TA}
theorem zhn {pins:List (Addr×Obj)}{σ:St}{H:Hp}{s:Shared}{Q:VK}{us:List Value}{vs:List V}(F:FnOk X.prog X.w X.K X.mg X.base CX k f fd ps sp)(hr:Room k X.A)(hb:Binds X.K fd ps ds)(hd:Vals dvs ds)(hx:Passes CX X E)
  (I:Inv X pins σ H s) (r:Vals vs us) (h:sp (vs ++ dvs) H Q E):wpAny (model X.prog X.w) X.A (call (.ref f) us) (EP X pins σ Q) X.xe s:=by
 have r2:Vals (vs ++ dvs) (us ++ ds):=r.append hd
 have hl:(us ++ ds).length=ps.length:=by rw [← r2.length];exact F.len _ _ _ _ h
 refine Xbm (Xbn (F.run X.A X.stack s H ⟨us,[]⟩ (us ++ ds) (vs ++ dvs) Q E hr I.env0 (hb s us I.kIn hl) r2 h) fun r s' hq=>?_)
 cases r with
 | error e=>exact hx pins σ H s e s' I hq
 | ok fl =>
  cases fl with
  | ret u=>exact I.after hq
  | next=>exact False.elim hq
  | brk=>exact False.elim hq
  | cont=>exact False.elim hq
theorem zka (F:FnOk X.prog X.w X.K X.mg X.base CX k f fd ps sp)(hr:Room k X.A)(hg:Gl X x)(hm:X.mg x=some (.ref f))(hk:W.keepIn X.K (.ref f)=true)(hb:Binds X.K fd ps ds)(hd:Vals dvs ds)(hx:Passes CX X E)
  (ha:PA X (e :: es) t) (hdb:(x == ("__debug__" : Str))=false:=by decide) (he:starEach (e :: es) X.env=(false,eval e X.env) :: starEach es X.env:=by rfl) (hpl:(backTo pos (starEach es X.env)).any (·.1)=false:=by rfl) :
  PE X (.Call (.Name x p) (e :: es) [] pos) (zeD sp dvs E t):=by
 intro pins s σ H Q I h
 refine Xa1 (za4 I hg hm ?_ hdb)
 refine W.callWith_K (h₀:=X.base) I.ok.mod.kin hk (thn (ha pos pins s σ H _ I h) fun us s1 ⟨vs,H1,I1,r,q⟩=>⟨I1.kIn,?_⟩) he hpl
 exact zhn F hr hb hd hx I1 r q
theorem ziT (F:FnOk X.prog X.w X.K X.mg X.base CX k f fd ps sp)(hr:Room k X.A)(hg:Gl X x)(hm:X.mg x=some (.ref f))(hk:W.keepIn X.K (.ref f)=true)(hb:Binds X.K fd ps ds)(hd:Vals dvs ds)(hx:Passes CX X E)
  (hdb:(x == ("__debug__" : Str))=false:=by decide):PE X (.Call (.Name x p) [] [] pos) (zeD sp dvs E tNil):=by
 intro pins s σ H Q I h
 refine Xa1 (za4 I hg hm ?_ hdb)
 exact W.callWith_K0 I.kIn hk (zhn (us:=[]) F hr hb hd hx I .nil h)
structure Mk (K:W.Frag)(C f:Addr):Prop where
 makes:W.makesIn K C=true
 init:W.findIn K (.ref C) "__init__" = some (some (.ref f))
 fn:W.isFn K (.ref f)=true
 kp:W.keepIn K (.ref C)=true
end
section
variable {X:Cx}{CX:CXT}{k:Nat}{f C:Addr}{fd:FuncData}{ps ks:List Str}{sp:Sp}{E:XK}{x m:Str}{p pos apos kpos:Pos}{e o:Expr}{es:List Expr}{kws:List Keyword}{te ta:TE}{t tk:TA}{nm:Option Str}
structure KBinds (K:W.Frag)(fd:FuncData)(ps ks:List Str)(g:List Value→List Value→List Value)(gV:List V→List V→List V):Prop where
 to:∀ (s:Shared) (us ws:List Value),K.In s.heap→(g us ws).length=ps.length→BindsTo s fd ⟨us,ks.zip ws⟩ (ps.zip (g us ws))
 rel:∀ {vs:List V} {us:List Value} {zs:List V} {ws:List Value},Vals vs us→Vals zs ws→Vals (gV vs zs) (g us ws)
variable {g:List Value→List Value→List Value}{gV:List V→List V→List V}
theorem zj3 {pins:List (Addr×Obj)}{σ:St}{H:Hp}{s:Shared}{Q:VK}{us ws:List Value}{vs zs:List V}(F:FnOk X.prog X.w X.K X.mg X.base CX k f fd ps sp)(hr:Room k X.A)(hb:KBinds X.K fd ps ks g gV)(hx:Passes CX X E)
  (I:Inv X pins σ H s) (r:Vals vs us) (rz:Vals zs ws) (h:sp (gV vs zs) H Q E):wpAny (model X.prog X.w) X.A (call (.ref f) us (ks.zip ws)) (EP X pins σ Q) X.xe s:=by
 have r2:=hb.rel r rz
 have hl:(g us ws).length=ps.length:=by rw [← r2.length];exact F.len _ _ _ _ h
 refine Xbm (Xbn (F.run X.A X.stack s H ⟨us,ks.zip ws⟩ (g us ws) (gV vs zs) Q E hr I.env0 (hb.to s us ws I.kIn hl) r2 h) fun r s' hq=>?_)
 cases r with
 | error e=>exact hx pins σ H s e s' I hq
 | ok fl =>
  cases fl with
  | ret u=>exact I.after hq
  | next=>exact False.elim hq
  | brk=>exact False.elim hq
  | cont=>exact False.elim hq
end
structure FnScope (N P:List Str)(sc:Scope):Prop where
 kind:sc.kind = .function
 co:sc.isCoroutine=false
 gen:sc.isGenerator=false
 nd:N.Nodup
 pre:N.take P.length=P
 par:∀ x∈P,sc.names.lookup x=some .local∨sc.names.lookup x=some .cell
 nofree:∀ y∈sc.names,y.2≠.free
theorem zfn {kindOf:Str→Option NameKind}{x:Str}:∀ {binds:List (Str×Value)} {m:Str→Option Value},(∀ v,(x,v) ∉ binds)→bindL kindOf binds m x=m x
 | [],_,_=>rfl
 | (n,v) :: r,m,h=>by
  unfold bindL
  rw [zfn fun w hw=>h w (Xax _ hw)]
  split
  ·have:x≠n:=by rintro rfl;exact h v XaE
   simp [this]
  ·rfl
theorem zfp {kindOf:Str→Option NameKind}{x:Str}:∀ {binds:List (Str×Value)} {m:Str→Option Value},(∀ v,(x,v) ∉ binds)→bindC kindOf binds m x=m x
 | [],_,_=>rfl
 | (n,v) :: r,m,h=>by
  unfold bindC
  rw [zfp fun w hw=>h w (Xax _ hw)]
  split
  ·rfl
  ·have:x≠n:=by rintro rfl;exact h v XaE
   simp [this]
theorem zfo {kindOf:Str→Option NameKind}{x:Str}{v:Value}:∀ {P:List Str} {vs:List Value} {i:Nat} {m:Str→Option Value},P.Nodup→P[i]? = some x→vs[i]? = some v→kindOf x=some .local →
  bindL kindOf (P.zip vs) m x=some v
 | [],_,_,_,_,h,_,_=>by simp at h
 | _ :: _,[],_,_,_,_,h,_=>by simp at h
 | p :: P,w :: vs,0,m,nd,h1,h2,hk=>by
  simp at h1 h2;subst h1;subst h2
  show bindL kindOf ((p,w) :: P.zip vs) m p=_
  unfold bindL
  rw [zfn fun v hv=>(XbC.mp nd).1 (List.of_mem_zip hv).1,if_pos hk]
  simp
 | p :: P,w :: vs,i+1,m,nd,h1,h2,hk=>by
  show bindL kindOf ((p,w) :: P.zip vs) m x=_
  unfold bindL
  exact zfo (i:=i) (XbC.mp nd).2 (by simpa using h1) (by simpa using h2) hk
theorem zfq {kindOf:Str→Option NameKind}{x:Str}{v:Value}:∀ {P:List Str} {vs:List Value} {i:Nat} {m:Str→Option Value},P.Nodup→P[i]? = some x→vs[i]? = some v→kindOf x≠some .local →
  bindC kindOf (P.zip vs) m x=some v
 | [],_,_,_,_,h,_,_=>by simp at h
 | _ :: _,[],_,_,_,_,h,_=>by simp at h
 | p :: P,w :: vs,0,m,nd,h1,h2,hk=>by
  simp at h1 h2;subst h1;subst h2
  show bindC kindOf ((p,w) :: P.zip vs) m p=_
  unfold bindC
  rw [zfp fun v hv=>(XbC.mp nd).1 (List.of_mem_zip hv).1,if_neg hk]
  simp
 | p :: P,w :: vs,i+1,m,nd,h1,h2,hk=>by
  show bindC kindOf ((p,w) :: P.zip vs) m x=_
  unfold bindC
  exact zfq (i:=i) (XbC.mp nd).2 (by simpa using h1) (by simpa using h2) hk
def start (N:List Str)(vs:List V):St:=vs.map some ++ List.replicate (N.length - vs.length) none
def cxOf (CX:CXT)(P:Program)(w:World)(K:W.Frag)(mg:Str→Option Value)(base:Heap)(N:List Str)(qual:Str)(scope:Scope)(f:Addr)(cd:Value)(A:Around)(outer:List Env)(s:Shared)(H:Hp)(E:XK):Cx where
 prog:=P
 w:=w
 K:=K
 mg:=mg
 base:=base
 A:=A.deeper (envOfC qual scope s.heap.objs.size f cd)
 N:=N
 s₀:=s
 H₀:=H
 env:=envOfC qual scope s.heap.objs.size f cd
 outer:=outer
 stack:=envOfC qual scope s.heap.objs.size f cd :: outer
 ex:=[]
 calm:=true
 fn:=fun _=>true
 pn:=[]
 xe:=fun e s'=>wpAny (model P w) (A.deeper (envOfC qual scope s.heap.objs.size f cd)) (leaving (envOfC qual scope s.heap.objs.size f cd) e) (fun _ s''=>CX outer H s E e s'') (fun e' s''=>CX outer H s E e' s'') s'
theorem zgn {sc:Scope}{n:Nat}{x:Str}(h:sc.names.lookup x=some .cell):∃ c,(cellsFrom n sc.names []).lookup x=some c:=by
 have q:=W.cellsFrom_some sc.names n [] (.inl h)
 exact Option.isSome_iff_exists.mp q
theorem zhZ {CX:CXT}{P:Program}{w:World}{K:W.Frag}{mg:Str→Option Value}{base:Heap}{N ps:List Str}{qual:Str}{scope:Scope}{f:Addr}{cd:Value}{A:Around}{outer:List Env}{s s1:Shared}{H:Hp}{E:XK}{us:List Value}{vs:List V}
  (S:FnScope N ps scope) (hd:A.handled=none) (e0:Env0 P w K mg base A outer s H) (hl:vs.length=ps.length) (r:Vals vs us)
  (x:InCallC s s.heap.objs.size (bindL (envOfC qual scope s.heap.objs.size f cd).kindOf (ps.zip us) fun _=>none) (cellsFrom (s.heap.objs.size+1) scope.names []) (bindC (envOfC qual scope s.heap.objs.size f cd).kindOf (ps.zip us) fun _=>none) s1) :
  Inv (cxOf CX P w K mg base N qual scope f cd A outer s H E) [] (start N vs) H s1:=by
 have hpl:ps.length≤N.length:=by have:=congrArg List.length S.pre;rw [XaW] at this;omega
 obtain ⟨h1,tk,rfl,hk⟩:=x.done
 have noA:∀ b:Addr,b ∉ (cxOf CX P w K mg base N qual scope f cd A outer s H E).ex:=fun b z=>absurd (show b∈([]:List Addr) from z) (by simp)
 refine ⟨⟨e0.mod,S.kind,rfl,rfl,Xaf _,fun y z c h1 h2=>?_,fun y hy=>?_,fun y c _ h=>?_,fun _=>hd,Around.frames_deeper e0.frames,.inr ⟨rfl,rfl⟩,fun b z=>absurd z (noA b),e0.bs,e0.bsz,fun b _ _=>noA b,fun b z=>absurd z (noA b),e0.funs,e0.frf⟩,
  rfl,e0.bare,Un.kept hk,⟨_,x.toInCall.ns,fun i y v h1 h2 h3=>?_⟩,fun y c h=>⟨_,x.cell y c h⟩,e0.hok.fresh (Xaf _),fun y c h=>?_,fun p hp=>absurd (show p∈([]:List (Addr×Obj)) from hp) (by simp),e0.hok.kept hk,?_⟩
 ·exact name_of_addr x.apart (PySem.mem_of_lookup h1) (PySem.mem_of_lookup h2)
 ·have hy:scope.names.lookup y=some .cell∨scope.names.lookup y=some .free:=hy
  rcases hy with hy | hy
  ·exact zgn hy
  ·exact absurd rfl (S.nofree _ (PySem.mem_of_lookup hy))
 ·exact Nat.le_of_lt (x.above y c (PySem.mem_of_lookup h))
 ·have hi:i<vs.length:=by
   unfold start at h2
   by_cases hi:i<vs.length
   ·exact hi
   ·rw [List.getElem?_append_right (by simpa using hi)] at h2
    rw [List.getElem?_replicate] at h2
    split at h2 <;> cases h2
  have ha:vs[i]? = some v:=by
   unfold start at h2
   rw [Xbx (by simpa using hi),Xat] at h2
   cases e:vs[i]? with
   | none=>rw [e] at h2;cases h2
   | some a=>rw [e] at h2;cases h2;rfl
  obtain ⟨u,hu,rv⟩:=r.get ha
  have hp:ps[i]? = some y:=by
   rw [← S.pre,List.getElem?_take_of_lt (by omega)];exact h1
  have ndP:ps.Nodup:=by rw [← S.pre];exact S.nd.sublist (List.take_sublist _ _)
  refine ⟨u,rv,?_⟩
  rcases S.par y (XaB hp) with k | k
  ·exact .inl ⟨k,zfo ndP hp hu k⟩
  ·obtain ⟨c,e⟩:=zgn (n:=s.heap.objs.size+1) k
   refine .inr ⟨.inl k,c,e,?_⟩
   have q:=x.cell y c e
   rw [zfq ndP hp hu (by show scope.names.lookup y≠_;rw [k];decide)] at q
   exact q
 ·exact e0.hok.fresh (Nat.le_of_lt (x.above y c (PySem.mem_of_lookup h)))
 ·unfold start
  show _=N.length
  rw [Xaq,Xah,Xbe]
  omega
theorem zja {CX:CXT}{P:Program}{w:World}{K:W.Frag}{mg:Str→Option Value}{base:Heap}{k:Nat}{f:Addr}{name qual:Str}{params:Arguments}{body:List Stmt}{scope:Scope}{dV kV doc pm cdv ct oc:Value}{an od:Option Addr}
  {osl:Array (Option Value)} {N ps:List Str} {sp:Sp} (lk:K.lookup f=some ⟨oc,od,.func (W.fnOf name qual params body scope dV kV doc pm an cdv ct),osl⟩) (hcd:W.codeIn K cdv qual=true) (S:FnScope N ps scope)
  (len:∀ vs H Q E,sp vs H Q E→vs.length=ps.length)
  (hbody:∀ (A:Around) (outer:List Env) (s:Shared) (H:Hp) (vs:List V) (Q:VK) (E:XK),Room k (A.deeper (envOfC qual scope s.heap.objs.size f cdv))→sp vs H Q E →
   ∃ t,PSs (cxOf CX P w K mg base N qual scope f cdv A outer s H E) body t∧t { nx:=fun _ H'=>Q .non H',rt:=Q } (start N vs) H) :
  FnOk P w K mg base CX (k+1) f (W.fnOf name qual params body scope dV kV doc pm an cdv ct) ps sp:=by
 refine ⟨len,fun A outer s H args us vs Q E hr e0 hb r hsp=>?_⟩
 have hl:=len _ _ _ _ hsp
 have KX:K.In s.heap:=e0.mod.kin.keeps fun b o e=>(e0.bs b o e).1
 have lim:s.heap.NoLimit:=e0.mod.nolimit.keeps fun b o e=>(e0.bs b o e).1
 have hkind:∀ y∈ps.zip us,scope.names.lookup y.1=some .local∨(scope.names.lookup y.1=some .cell∧((cellsFrom (s.heap.objs.size+1) scope.names []).lookup y.1).isSome=true):=fun ⟨n,v⟩ hy=>by
  rcases S.par n (List.of_mem_zip hy).1 with q | q
  ·exact .inl q
  ·exact .inr ⟨q,W.cellsFrom_some _ _ _ (.inl q)⟩
 refine codeAny_call_function hr.depth (KX _ _ lk) rfl S.co S.gen rfl (W.codeRec_of KX hcd) (hb _ _ _ _ ?_)
 refine wpAny_newFunctionEnv_cells S.kind hkind fun env he s1 x=>?_
 subst he
 refine ⟨lim.keeps x.toInCall.keep,codeAny_func ?_⟩
 obtain ⟨t,ht,hq⟩:=hbody A outer s H vs Q E (hr.deeper _) hsp
 have I:Inv (cxOf CX P w K mg base N qual scope f cdv A outer s H E) [] (start N vs) H s1:=zhZ S hr.hd e0 hl r x
 refine Xas (ht [] s1 (start N vs) H _ I hq) (fun fl s' hs=>?_) fun e s' hs=>hs
 have fin:∀ {σ':St} {H':Hp} {v:V} {u:Value},Inv (cxOf CX P w K mg base N qual scope f cdv A outer s H E) [] σ' H' s'→RelV v u→Q v H'→CE outer P w H s Q u s':=
  fun {σ' H' v u} J rv q=>⟨v,H',J.os,J.bare,J.base,J.hok,rv,q⟩
 cases fl with
 | ret u =>
  obtain ⟨v,σ',H',J,rv,q⟩:=hs
  exact fin J rv q
 | next =>
  obtain ⟨σ',H',J,q⟩:=hs
  exact fin (v:=V.non) (u:=Value.none) J rfl q
 | brk =>
  obtain ⟨_,_,_,q⟩:=hs
  exact False.elim q
 | cont =>
  obtain ⟨_,_,_,q⟩:=hs
  exact False.elim q
section
variable {X:Cx}{x:Str}{p pos:Pos}{e:Expr}{es:List Expr}{t:TA}{id T:String}{r:List V→Hp→VK→Prop}
def tCB (r:List V→Hp→VK→Prop)(t:TA):TE:=fun σ H Q=>t σ H fun vs H1=>r vs H1 Q
theorem zao (hc:zbx X (.builtin id) r)(hg:Gl X x)(hm:X.mg x=none)(hv:bootBuiltins x=some (.builtin id))(ha:PA X (e :: es) t)(hn:x ≠ "__name__" := by decide)(hdb:(x == ("__debug__" : Str))=false:=by decide)
  (he:starEach (e :: es) X.env=(false,eval e X.env) :: starEach es X.env:=by rfl) (hpl:(backTo pos (starEach es X.env)).any (·.1)=false:=by rfl):PE X (.Call (.Name x p) (e :: es) [] pos) (tCB r t):=by
 intro pins s σ H Q I h
 refine Xa1 (zdC I hg hm hv ?_ hn hdb)
 exact PyProof.Rows.callWith_builtin1 (thn (ha pos pins s σ H _ I h) fun us s1 ⟨vs,H1,I1,r1,q1⟩=>hc pins s1 σ H1 vs us Q I1 r1 q1) he hpl
theorem zaL (hc:zbx X (.type T) r)(hg:Gl X x)(hm:X.mg x=none)(hv:bootBuiltins x=some (.type T))(ha:PA X (e :: es) t)(hn:x ≠ "__name__" := by decide)(hdb:(x == ("__debug__" : Str))=false:=by decide)
  (he:starEach (e :: es) X.env=(false,eval e X.env) :: starEach es X.env:=by rfl) (hpl:(backTo pos (starEach es X.env)).any (·.1)=false:=by rfl):PE X (.Call (.Name x p) (e :: es) [] pos) (tCB r t):=by
 intro pins s σ H Q I h
 refine Xa1 (zdC I hg hm hv ?_ hn hdb)
 exact PyProof.Rows.callWith_type1 (thn (ha pos pins s σ H _ I h) fun us s1 ⟨vs,H1,I1,r1,q1⟩=>hc pins s1 σ H1 vs us Q I1 r1 q1) he hpl
end
end L2
namespace HT
open PySem PyProof.Rows
section
open PySem.SeqAt
open PySem.AutoSeq1 (wpAny_loadPart')
open PySem.MeetsSeq PySem.MeetsSeq2 PySem.MeetsSeq3
end
section
variable {prog:Program}{w:World}{A:Around}{E:Value→Shared→Prop}{s:Shared}
theorem cat_tup {t b:Addr}{vs ws:List Value}{Q:Value→Shared→Prop}(ht:IsTup s.heap t vs.toArray)(hb:IsTup s.heap b ws.toArray)(hv:vs≠[])
  (h1:ws=[]→Q (.ref t) s) (h2:ws≠[]→Q (.ref s.heap.objs.size) { s with heap:=s.heap.push { cls:=.type "tuple",data:=.seq (vs ++ ws).toArray } })
  (hsz:vs.length+ws.length≤sizeLine):wpAny (model prog w) A (binaryOp .Add (.ref t) (.ref b)) Q E s:=by
 obtain ⟨⟨cls,dd,data,sl⟩,ho,hc,n,hd⟩:=id ht
 obtain ⟨⟨cls2,dd2,data2,sl2⟩,ho2,hc2,n2,hd2⟩:=id hb
 simp only at hc hd hc2 hd2
 subst hc hd hc2 hd2
 have e:vs.toArray ++ ws.toArray=(vs ++ ws).toArray:=by simp
 by_cases hw:ws=[]
 ·exact concat_meets ⟨_,ho,rfl⟩ ⟨_,ho2,rfl⟩ noFill_tuple_add seq_tuple_add PySem.F.slot_tuple_add PySem.F.entry_tuple_add (PySem.F.args_tuple_add_2 _ _)
   (tuple_addW1 t b vs.toArray ws.toArray n n2 dd dd2 sl sl2 (by simpa using hv) (by simp [hw])) ⟨ho,ho2,h1 hw⟩
 ·refine concat_meets ⟨_,ho,rfl⟩ ⟨_,ho2,rfl⟩ noFill_tuple_add seq_tuple_add PySem.F.slot_tuple_add PySem.F.entry_tuple_add (PySem.F.args_tuple_add_2 _ _)
   (tuple_addW2 t b vs.toArray ws.toArray n n2 dd dd2 sl sl2 (by simpa using hv) (by simpa using hw) (by rw [Xal,Xal];exact hsz)) ⟨ho,ho2,?_⟩
  rw [e]
  exact h2 hw
def sIx (n d:Nat):Option Int→Nat
 | none=>d
 | some v=>if v<0 then (v+(n:Int)).toNat else min v.toNat n
theorem sIx_none (n d:Nat):sIx n d none=d:=rfl
theorem sIx_nat (n d k:Nat):sIx n d (some (k:Int))=min k n:=by
 show (if (k:Int)<0 then ((k:Int)+(n:Int)).toNat else min (k:Int).toNat n)=min k n
 rw [if_neg (by omega),Xak]
theorem sIx_le (n d:Nat)(hd:d≤n)(o:Option Int):sIx n d o≤n:=by
 cases o with
 | none=>exact hd
 | some v =>
  show (if v<0 then (v+(n:Int)).toNat else min v.toNat n)≤n
  by_cases hv:v<0
  ·rw [if_pos hv];omega
  ·rw [if_neg hv];exact Nat.min_le_right _ _
theorem zic (v:Int)(n d:Nat):(if v<0 then max (v+(n:Int)) 0 else min v (n:Int))=((sIx n d (some v):Nat):Int):=by
 show (if v<0 then max (v+(n:Int)) 0 else min v (n:Int))=(((if v<0 then (v+(n:Int)).toNat else min v.toNat n):Nat):Int)
 by_cases hv:v<0
 ·simp only [if_pos hv];omega
 ·simp only [if_neg hv];omega
theorem zg6 (lo hi:Option Int)(n:Nat):Builtin.Slice.sliceAdjust lo hi 1 (n:Int)=(((sIx n 0 lo:Nat):Int),((sIx n n hi:Nat):Int)):=by
 have h1:¬ ((1:Int)<0):=by omega
 unfold Builtin.Slice.sliceAdjust
 simp only [h1,if_false]
 refine Prod.ext ?_ ?_
 ·cases lo with
  | none=>rfl
  | some v=>exact zic v n 0
 ·cases hi with
  | none=>rfl
  | some v=>exact zic v n n
theorem zgD (i j:Nat):Builtin.Slice.slicePlaces (i:Int) (j:Int) 1=j - i:=by
 unfold Builtin.Slice.slicePlaces
 have h1:(1:Int) > 0:=by omega
 simp only [h1,if_true,Int.ediv_one]
 split <;> omega
theorem zdT {v:Value}{o:Option Int}{Q:Option Int→Shared→Prop}(p:IsPart v o)(h:Q o s):wpAny (model prog w) A (Builtin.Slice.slicePartIndex v) Q E s:=by
 cases p with
 | none=>exact slicePart_none h
 | int i t=>exact slicePart_int h
theorem zbI {sl:Addr}{vl vu:Value}{lo hi:Option Int}{n:Nat}{Q:Int×Int×Nat→Shared→Prop}(hs:s.heap.IsSliceOf sl vl vu .none)(pl:IsPart vl lo)(pu:IsPart vu hi)
  (h:Q (((sIx n 0 lo:Nat):Int),1,sIx n n hi - sIx n 0 lo) s):wpAny (model prog w) A (Builtin.Slice.sliceApplied (.ref sl) (pure (n:Int))) Q E s:=by
 obtain ⟨os,hos,hcs,hds⟩:=id hs
 unfold Builtin.Slice.sliceApplied Builtin.Slice.sliceFields
 refine Xaa (Xaa (Xa8 hos hds (x:=vl) rfl (Xaa (Xa8 hos hds (x:=vu) rfl (Xaa (Xa8 hos hds (x:=.none) rfl (Xac ?_)))))))
 refine Xaa (slicePart_none ?_)
 show wpAny _ _ (if ((1:Int) == 0)=true then _ else _) _ _ s
 rw [if_neg (by decide)]
 refine Xaa (zdT pl (Xaa (zdT pu (Xaa (Xac ?_)))))
 show wpAny _ _ (match Builtin.Slice.sliceAdjust lo hi 1 (n:Int) with | (lo,hi)=>pure (lo,(1:Int),Builtin.Slice.slicePlaces lo hi 1)) _ _ s
 rw [zg6 lo hi n]
 show wpAny _ _ (pure (((sIx n 0 lo:Nat):Int),(1:Int),Builtin.Slice.slicePlaces ((sIx n 0 lo:Nat):Int) ((sIx n n hi:Nat):Int) 1)) _ _ s
 rw [zgD]
 exact Xac h
theorem ziN (xs:Array Value)(i k:Nat):((List.range k).filterMap fun (m:Nat)=>xs[((i:Int)+(m:Int) * 1).toNat]?).toArray=((xs.toList.drop i).take k).toArray:=by
 have e:(fun (m:Nat)=>xs[((i:Int)+(m:Int) * 1).toNat]?)=fun m=>xs[i+m]?:=by
  funext m
  have:((i:Int)+(m:Int) * 1).toNat=i+m:=by omega
  rw [this]
 rw [e]
 have:=pick_run xs i k
 rw [List.filterMap_map] at this
 have e2:((fun x=>xs[x]?) ∘ fun x=>i+x)=fun m=>xs[i+m]?:=rfl
 rw [e2] at this
 rw [this]
theorem getItem_tuple_cut {t sl:Addr}{items:Array Value}{vl vu:Value}{lo hi:Option Int}{Q:Value→Shared→Prop}(ht:IsTup s.heap t items)(hs:s.heap.IsSliceOf sl vl vu .none)(pl:IsPart vl lo)(pu:IsPart vu hi)
  (hw:¬ (sIx items.size 0 lo=0∧sIx items.size items.size hi=items.size))
  (h:Q (.ref s.heap.objs.size) { s with heap:=s.heap.push { cls:=.type "tuple",data:=.seq ((items.toList.drop (sIx items.size 0 lo)).take (sIx items.size items.size hi - sIx items.size 0 lo)).toArray } })
  (hsz:items.size≤sizeLine):wpAny (model prog w) A (getItem (.ref t) (.ref sl)) Q E s:=by
 have htake:sizeOk (.seq ((items.toList.drop (sIx items.size 0 lo)).take (sIx items.size items.size hi - sIx items.size 0 lo)).toArray):=by
  show ((items.toList.drop (sIx items.size 0 lo)).take (sIx items.size items.size hi - sIx items.size 0 lo)).toArray.size≤sizeLine
  rw [Xal,XaW,Xa3,Array.length_toList]
  omega
 have hj:sIx items.size items.size hi≤items.size:=sIx_le _ _ (Xaf _) hi
 obtain ⟨os,hos,hcs,hds⟩:=id hs
 have hTs:s.TypeIs (.ref sl) "slice" := ⟨os,hos,hcs⟩
 unfold getItem
 try with_reducible refine XaK ?_
 first | refine Xaa (Xac ?_) | skip
 refine Xaa (wpAny_sequenceKey ht.typeIs (by decide) ?_)
 refine Xaa (wpAny_callSpecial?_slot (name:=Str.ofString "__getitem__") ht.typeIs PyProof.Rows.slot_tuple_getitem
  (Xa4 PyProof.Rows.slot_tuple_getitem ht.typeIs entry_tuple_getitem ?_ (args_tuple_getitem _ _)))
 show wpAny _ _ (Builtin.Tuple.tupleItemsOf (.ref t) >>= _) _ _ s
 refine Xaa (tupleItemsOf_ ht ?_)
 refine Xaa (wpAny_typeOf hTs ?_)
 rw [if_pos (by decide)]
 refine Xaa (zbI hs pl pu ?_)
 have hno:¬ ((((sIx items.size 0 lo:Nat):Int) == 0 && (1:Int) == 1 && (sIx items.size items.size hi - sIx items.size 0 lo) == items.size)=true):=by
  intro q
  rw [XaD,XaD] at q
  have q1:((sIx items.size 0 lo:Nat):Int)=0:=eq_of_beq q.1.1
  have q2:sIx items.size items.size hi - sIx items.size 0 lo=items.size:=eq_of_beq q.2
  exact hw ⟨by omega,by omega⟩
 show wpAny _ _ (if (((sIx items.size 0 lo:Nat):Int) == 0 && (1:Int) == 1 && (sIx items.size items.size hi - sIx items.size 0 lo) == items.size)=true then _ else _) _ _ s
 rw [if_neg hno,ziN]
 first
  | exact Xaa (m:=Builtin.Tuple.tupleExact _) (XaL (Xac ⟨_,rfl,Xac h⟩) htake)
  | exact Xaa (m:=Builtin.Tuple.tupleExact _) (XaL (Xaa (Xac (Xac ⟨_,rfl,Xac h⟩))) htake)
  | exact Xaa (Xaa (m:=Builtin.Tuple.tupleExact _) (XaL (Xac (Xac ⟨_,rfl,Xac h⟩)) htake))
  | exact Xaa (Xaa (m:=Builtin.Tuple.tupleExact _) (XaL (Xac ⟨_,rfl,Xac h⟩) htake))
end
end HT
namespace L2
open PySem PySem.Spec PyProof.Rows
abbrev TO:=St→Hp→(Option Int→Hp→Prop)→Prop
def PO (X:Cx)(e:Option Expr)(t:TO):Prop:=
 ∀ (pins:List (Addr×Obj)) (s:Shared) (σ:St) (H:Hp) (Q:Option Int→Hp→Prop),Inv X pins σ H s→t σ H Q →
  wpAny (model X.prog X.w) X.A (evalPart e X.env) (fun u s'=>∃ o H',Inv X pins σ H' s'∧IsPart u o∧Q o H') X.xe s
def zjV:TO:=fun _ H Q=>Q none H
inductive tPart_1 (Q:Option Int→Hp→Prop)(x:V)(H1:Hp):Prop
 | mk (i:_) (z0_:x = .int i) (z1_:Q (some i) H1)
def tPart (t:TE):TO:=fun σ H Q=>t σ H (tPart_1 Q)
theorem zgU {ns:List Int}:∀ {us:List Value},Vals (ns.map V.int) us→IntsAre us ns:=by
 induction ns with
 | nil=>intro us r;rw [List.map_nil] at r;cases r;exact .nil
 | cons n ns ih =>
  intro us r
  rw [XaN] at r
  cases r with
  | cons r1 r2 =>
   obtain ⟨t,e⟩:=r1
   subst e
   exact .cons n t (ih r2)
section
variable {X:Cx}{e:Expr}{te:TE}{lo hi:Option Expr}{tl th:TO}{pos p2:Pos}
theorem zcG:PO X none zjV:=by
 intro pins s σ H Q I h
 rw [evalPart_none]
 exact Xac ⟨none,H,I,.none,h⟩
theorem zaS (h:PE X e te):PO X (some e) (tPart te):=by
 intro pins s σ H Q I hw
 rw [evalPart_some]
 refine thn (h pins s σ H _ I hw) fun u s1 hh_=>?_
 obtain ⟨x,H1,I1,r1,q1⟩:=hh_
 obtain ⟨i,rfl,q⟩:=q1
 obtain ⟨t,rfl⟩:=r1
 exact ⟨some i,H1,I1,.int i t,q⟩
def SlR (X:Cx)(r:V→Option Int→Option Int→Hp→VK→Prop):Prop:=
 ∀ (pins:List (Addr×Obj)) (s:Shared) (σ:St) (H:Hp) (x:V) (v vl vu:Value) (lo hi:Option Int) (sl:Addr) (Q:VK),Inv X pins σ H s→RelV x v→s.heap.IsSliceOf sl vl vu .none→IsPart vl lo→IsPart vu hi→r x lo hi H Q →
  ∃ T id,typeLookup (.type T) "__getitem__" = pure (some (.builtin id))∧s.TypeIs v T∧wpAny (model X.prog X.w) X.A (getItem v (.ref sl)) (EP X pins σ Q) X.xe s
def tSl (r:V→Option Int→Option Int→Hp→VK→Prop)(te:TE)(tl th:TO):TE:=fun σ H Q=>te σ H fun x H1=>tl σ H1 fun l H2=>th σ H2 fun u H3=>r x l u H3 Q
theorem zaX {r:V→Option Int→Option Int→Hp→VK→Prop}(hr:SlR X r)(he:PE X e te)(hl:PO X lo tl)(hu:PO X hi th):PE X (.Subscript e (.Slice lo hi none p2) pos) (tSl r te tl th):=by
 intro pins s σ H Q I h
 refine Subscript_ (thn (he pins s σ H _ I h) fun v s1 hh_=>?_)
 obtain ⟨x,H1,I1,r1,q1⟩:=hh_
 refine wpAny_Slice (thn (hl pins s1 σ H1 _ I1 q1) fun vl s2 ⟨l,H2,I2,pl,q2⟩=>thn (hu pins s2 σ H2 _ I2 q2) fun vu s3 hh_=>?_)
 obtain ⟨u,H3,I3,pu,q3⟩:=hh_
 rw [evalPart_none]
 refine Xac ?_
 have I4:Inv X pins σ H3 { s3 with heap:=s3.heap.push { cls:=.type "slice",data:=.fields #[vl,vu,.none] } }:=I3.kept (t':=s3.toks) fun b ob q=>Xad _ q
 obtain ⟨T,id,hT,ht,hg⟩:=hr pins { s3 with heap:=s3.heap.push { cls:=.type "slice",data:=.fields #[vl,vu,.none] } } σ H3 x v vl vu l u s3.heap.objs.size Q I4 r1 (Heap.IsSliceOf.new ..) pl pu q3
 show wpAny (model X.prog X.w) X.A (subscriptTail e (.Slice lo hi none p2) v (.ref s3.heap.objs.size)) (EP X pins σ Q) X.xe { s3 with heap:=s3.heap.push { cls:=.type "slice",data:=.fields #[vl,vu,.none] } }
 exact tail_any (ops:=[.ref s3.heap.objs.size,v]) ht hT hg (by with_unfolding_all rfl)
def cutV (xs:List V)(lo hi:Option Int):List V:=(xs.drop (HT.sIx xs.length 0 lo)).take (HT.sIx xs.length xs.length hi - HT.sIx xs.length 0 lo)
theorem zcg (xs:List V)(lo hi:Option Int):(cutV xs lo hi).length≤xs.length:=by
 unfold cutV
 rw [XaW,Xa3]
 omega
inductive rSlT (K:W.Frag)(x:V)(lo:Option Int)(hi:Option Int)(H:Hp)(Q:VK):Prop
 | mk (a:_) (xs:_) (z0_:x = .ref a) (z1_:SqT K H a xs) (z2_:¬ (HT.sIx xs.length 0 lo=0∧HT.sIx xs.length xs.length hi=xs.length)) (z3_:∀ p,H p=none→Q (.ref p) (upd H p (.tup (cutV xs lo hi))))
theorem sl_tup:SlR X (rSlT X.K):=by
 intro pins s σ H x v vl vu lo hi sl Q I rx hs pl pu h
 obtain ⟨a,xs,rfl,hx,hw,q⟩:=h
 cases rx
 obtain ⟨its,r,ht,hz⟩:=I.tuple hx
 have hlen:its.toArray.size=xs.length:=by rw [Xal];exact r.length.symm
 refine ⟨"tuple",_,PyProof.Rows.slot_tuple_getitem.lookup,ht.typeIs,?_⟩
 refine HT.getItem_tuple_cut ht hs pl pu (by rw [hlen];exact hw) ?_ (by rw [hlen];exact hz)
 rw [hlen]
 refine ⟨.ref s.heap.objs.size,_,I.laid (t':=s.toks) (o:=.tup (cutV xs lo hi)) (fun b ob q=>Xad _ q) (Xaf _) ?_,rfl,q _ (I.hok.fresh (Xaf _))⟩
 exact ⟨⟨Xar (zcg xs lo hi) hz,_,Xam _ rfl,rfl⟩,_,(r.drop (HT.sIx xs.length 0 lo)).take (HT.sIx xs.length xs.length hi - HT.sIx xs.length 0 lo),IsTup.new _ _⟩
inductive rCatT (K:W.Frag)(x:V)(y:V)(H:Hp)(Q:VK):Prop
 | mk (a:_) (b:_) (xs:_) (ys:_) (z0_:x = .ref a) (z1_:y = .ref b) (z2_:SqT K H a xs) (z3_:SqT K H b ys) (z4_:xs≠[]) (z5_:xs.length+ys.length≤sizeLine) (z6_:(ys=[]→Q (.ref a) H)) (z7_:(ys≠[]→∀ p,H p=none→Q (.ref p) (upd H p (.tup (xs ++ ys)))))
theorem Vals.nil_iff {xs:List V}{us:List Value}(r:Vals xs us):us=[]↔xs=[]:=by
 cases r with
 | nil=>simp
 | cons _ _=>simp
theorem zke:OpR X (binaryOp .Add) (rCatT X.K):=by
 intro pins s σ H x y v u Q I rx ry h
 obtain ⟨a,b,xs,ys,rfl,rfl,ha,hb,hx,hz,q1,q2⟩:=h
 cases rx
 cases ry
 obtain ⟨its,r1,p1,_⟩:=I.tuple ha
 obtain ⟨its2,r2,p2,_⟩:=I.tuple hb
 refine HT.cat_tup p1 p2 (fun z=>hx (r1.nil_iff.mp z)) (fun z=>⟨.ref a,H,I,rfl,q1 (r2.nil_iff.mp z)⟩) (fun z=>?_) (by rw [← r1.length,← r2.length];exact hz)
 refine ⟨.ref s.heap.objs.size,_,I.laid (t':=s.toks) (o:=.tup (xs ++ ys)) (fun b ob q=>Xad _ q) (Xaf _) ?_,rfl,q2 (fun w=>z (r2.nil_iff.mpr w)) _ (I.hok.fresh (Xaf _))⟩
 exact ⟨⟨by rw [Xaq];exact hz,_,Xam _ rfl,rfl⟩,_,r1.append r2,IsTup.new _ _⟩
end
def ixN (n:Nat)(i:Int):Option Nat:=if 0≤i then (if i<n then some i.toNat else none) else if -(n:Int)≤i then some (i+n).toNat else none
def atI {α:Type}(xs:List α)(i:Int):Option α:=(ixN xs.length i).bind fun j=>xs[j]?
theorem zhX {n:Nat}{i:Int}{j:Nat}(h:ixN n i=some j):seqIndex? i n=some j∧j<n∧-(n:Int)≤i∧i<n:=by
 unfold ixN at h
 by_cases h0:0≤i
 ·rw [if_pos h0] at h
  by_cases h1:i<n
  ·rw [if_pos h1] at h
   have e:i.toNat=j:=Option.some.inj h
   exact ⟨by rw [seqIndex_of h0 h1,e],by omega,by omega,h1⟩
  ·rw [if_neg h1] at h;cases h
 ·rw [if_neg h0] at h
  by_cases h1:-(n:Int)≤i
  ·rw [if_pos h1] at h
   have e:(i+n).toNat=j:=Option.some.inj h
   exact ⟨by rw [seqIndex_neg (by omega) h1,e],by omega,h1,by omega⟩
  ·rw [if_neg h1] at h;cases h
theorem zfW {α:Type}{xs:List α}{i:Int}{v:α}(h:atI xs i=some v):∃ j,seqIndex? i xs.length=some j∧xs[j]? = some v∧j<xs.length∧-(xs.length:Int)≤i∧i<xs.length:=by
 unfold atI at h
 cases e:ixN xs.length i with
 | none=>rw [e] at h;cases h
 | some j =>
  rw [e] at h
  obtain ⟨h1,h2,h3,h4⟩:=zhX e
  exact ⟨j,h1,h,h2,h3,h4⟩
theorem zbj {α:Type}{xs:List α}{j:Nat}{v:α}(h:xs[j]? = some v):atI xs (j:Int)=some v:=by
 have hj:j<xs.length:=(Xae.mp h).1
 have e:ixN xs.length (j:Int)=some j:=by
  unfold ixN
  rw [if_pos (by omega),if_pos (by omega)];simp
 unfold atI;rw [e];exact h
theorem zct {α:Type}(xs:List α)(v:α):atI (xs ++ [v]) (-1)=some v:=by
 have hl:(xs ++ [v]).length=xs.length+1:=by simp
 have e:ixN (xs ++ [v]).length (-1)=some xs.length:=by
  unfold ixN
  rw [hl,if_neg (by decide),if_pos (by omega)]
  congr 1
  omega
 unfold atI
 rw [e]
 show (xs ++ [v])[xs.length]? = some v
 simp
def zir (b:Expr):Prop:=∀ o i,subscripted b false o i=operate [o,i] (getItem o i)
def IxR (X:Cx)(r:R2):Prop:=
 ∀ (value slice:Expr) (pins:List (Addr×Obj)) (s:Shared) (σ:St) (H:Hp) (x y:V) (v u:Value) (Q:VK),Inv X pins σ H s→RelV x v→RelV y u→r x y H Q →
  subscripted slice false v u=operate [v,u] (getItem v u)→wpAny (model X.prog X.w) X.A (subscriptTail value slice v u) (EP X pins σ Q) X.xe s
def MtR (X:Cx)(id:String)(r:V→List V→Hp→VK→Prop):Prop:=
 ∀ (pins:List (Addr×Obj)) (s:Shared) (σ:St) (H:Hp) (x:V) (xs:List V) (v:Value) (us:List Value) (Q:VK),Inv X pins σ H s→RelV x v→Vals xs us→r x xs H Q →
  wpAny (model X.prog X.w) X.A (call (.builtin id) (v :: us)) (EP X pins σ Q) X.xe s
section
variable {X:Cx}{a b:Expr}{ta tb:TE}{pos:Pos}
theorem pe_ix {r:R2}(hr:IxR X r)(ha:PE X a ta)(hb:PE X b tb)(hs:zir b):PE X (.Subscript a b pos) (tOp r ta tb):=by
 intro pins s σ H Q I h
 exact Subscript_ (binT ha hb I h fun v u s2 x y H2 I2 rx ry q=>hr a b pins s2 σ H2 x y v u Q I2 rx ry q (hs _ _))
inductive rIxL (K:W.Frag)(x:V)(y:V)(H:Hp)(Q:VK):Prop
 | mk (p:_) (xs:_) (i:_) (v:_) (z0_:x = .ref p) (z1_:y = .int i) (z2_:SqL K H p xs) (z3_:atI xs i=some v) (z4_:Q v H)
inductive rIxT (K:W.Frag)(x:V)(y:V)(H:Hp)(Q:VK):Prop
 | mk (p:_) (xs:_) (i:_) (v:_) (z0_:x = .ref p) (z1_:y = .int i) (z2_:SqT K H p xs) (z3_:atI xs i=some v) (z4_:Q v H)
inductive rIxS (x:V)(y:V)(H:Hp)(Q:VK):Prop
 | mk (z:_) (i:_) (c:_) (z0_:x = .str z) (z1_:y = .int i) (z2_:z.length≤sizeLine) (z3_:atI z.cps.toList i=some c) (z4_:Q (.str ⟨#[c]⟩) H)
theorem zal:IxR X (rIxL X.K):=by
 intro value slice pins s σ H x y v u Q I rx ry h hs
 obtain ⟨p,xs,i,z,rfl,rfl,hq,he,q⟩:=h
 cases rx
 obtain ⟨t,rfl⟩:=ry
 obtain ⟨its,r,pl,hz⟩:=I.list hq
 obtain ⟨j,h1,h2,h3,h4,h5⟩:=zfW he
 obtain ⟨w,ew,rw'⟩:=r.get h2
 have hl:=r.length
 have hn:=zdY
 have fin:EP X pins σ Q w s:=⟨z,H,I,rw',q⟩
 by_cases h0:0≤i
 ·have hj:i.toNat=j:=by
   rw [seqIndex_of h0 h5] at h1
   exact Option.some.inj h1
  exact item_listR pl.isList h0 (by omega) (by rw [hj];simpa using ew) fin hs
 ·have hj:(i+(its.toArray.size:Int)).toNat=j:=by
   rw [seqIndex_neg (by omega) h4] at h1
   rw [Xal,← hl]
   exact Option.some.inj h1
  exact subscriptTail_builtinR (x:=w) pl.isList.typeIs slot_list_getitem.lookup
   (wpAny_getItem_list_neg (Q:=fun r s'=>r=w∧EP X pins σ Q r s') pl.isList (by omega) (by rw [Xal] <;> omega) (by omega) (by rw [hj];simpa using ew) ⟨rfl,fin⟩) hs
theorem zaB:IxR X (rIxT X.K):=by
 intro value slice pins s σ H x y v u Q I rx ry h hs
 obtain ⟨p,xs,i,z,rfl,rfl,hq,he,q⟩:=h
 cases rx
 obtain ⟨t,rfl⟩:=ry
 obtain ⟨its,r,pl,hz⟩:=I.tuple hq
 obtain ⟨j,h1,h2,h3,h4,h5⟩:=zfW he
 obtain ⟨w,ew,rw'⟩:=r.get h2
 have hl:=r.length
 have hn:=zdY
 have fin:EP X pins σ Q w s:=⟨z,H,I,rw',q⟩
 exact subscriptTail_builtinR (x:=w) pl.typeIs slot_tuple_getitem.lookup
  (getItem_tuple (j:=j) (Q:=fun r s'=>r=w∧EP X pins σ Q r s') pl (by omega) (by omega) (by rw [Xal,← hl];exact h1) (by simpa using ew) ⟨rfl,fin⟩) hs
theorem ix_str:IxR X rIxS:=by
 intro value slice pins s σ H x y v u Q I rx ry h hs
 obtain ⟨z,i,c,rfl,rfl,hz,he,q⟩:=h
 obtain ⟨t,rfl⟩:=rx
 obtain ⟨t',rfl⟩:=ry
 obtain ⟨j,h1,h2,h3,h4,h5⟩:=zfW he
 have hl:z.cps.toList.length=z.length:=by simp [Str.length]
 rw [hl] at h1 h4 h5
 have hn:=zdY
 exact tail_any (typeIs_str s z t) slot_str_getitem.lookup (getItem_str (c:=c) (by
  have e1:decide (i < -(2 ^ 63:Int))=false:=Xag (by omega)
  have e2:decide (i ≥ 2 ^ 63)=false:=Xag (by omega)
  rw [e1,e2,Bool.or_false]) (by rw [h1];simpa using h2) ⟨.str ⟨#[c]⟩,H,I.tok _,⟨_,rfl⟩,q⟩) hs
theorem zgP (its:List Value)(n j:Nat)(u:Value):Obj.mapSeq (·.setIfInBounds j u) { cls:=.type "list",data:=.seq its.toArray n }={ cls:=.type "list",data:=.seq (its.set j u).toArray n }:=by
 simp [Obj.mapSeq]
theorem Inv.lst {pins:List (Addr×Obj)}{σ:St}{H:Hp}{s:Shared}{p:Addr}{xs:List V}(I:Inv X pins σ H s)(h:H p=some (.lst xs)) :
  ∃ (its:List Value) (n:Nat),Vals xs its∧s.heap.get? p=some { cls:=.type "list",data:=.seq its.toArray n }∧xs.length≤sizeLine:=by
 obtain ⟨z,its,n,r,e⟩:=I.hok p _ h
 exact ⟨its,n,r,e,z⟩
theorem Inv.lstUpd {pins:List (Addr×Obj)}{σ:St}{H:Hp}{s:Shared}{p:Addr}{xs ys:List V}{its its':List Value}{n n':Nat}{f:Obj→Obj}(I:Inv X pins σ H s)(h:H p=some (.lst xs))
  (ho:s.heap.get? p=some { cls:=.type "list",data:=.seq its.toArray n }) (hf:f { cls:=.type "list",data:=.seq its.toArray n }={ cls:=.type "list",data:=.seq its'.toArray n' }) (r:Vals ys its') (hz:ys.length≤sizeLine) (t:Nat) :
  Inv X pins σ (upd H p (.lst ys)) { s with heap:=s.heap.update p f,toks:=t }:=by
 have e:(s.heap.update p f).get? p=some { cls:=.type "list",data:=.seq its'.toArray n' }:=by
  rw [XaH f ho (by rw [hf] <;> rfl),hf]
 refine I.write (x:=p) (e:=p) (by rw [h];trivial) (.inl rfl) (fun b u hb q=>(XaG _ _ (Ne.symm hb)).trans q) ⟨_,e⟩ ?_
 exact ⟨hz,its',n',r,e⟩
inductive rSetL (o:V)(i:V)(v:V)(H:Hp)(Q:(Hp→Prop)):Prop
 | mk (p:_) (xs:_) (k:_) (j:_) (z0_:o = .ref p) (z1_:i = .int k) (z2_:H p=some (.lst xs)) (z3_:ixN xs.length k=some j) (z4_:Q (upd H p (.lst (xs.set j v))))
theorem ziB:PSet X rSetL:=by
 intro pins s σ H o i v ov iv u Q I ro ri rv h
 obtain ⟨p,xs,k,j,rfl,rfl,hp,hj,q⟩:=h
 cases ro
 obtain ⟨t,rfl⟩:=ri
 obtain ⟨its,n,r,ho,hz⟩:=I.lst hp
 obtain ⟨h1,h2,h3,h4⟩:=zhX hj
 have hl:=r.length
 have hn:=zdY
 have I':Inv X pins σ (upd H p (.lst (xs.set j v))) { s with heap:=s.heap.update p (Obj.mapSeq (·.setIfInBounds j u)) }:=
  I.lstUpd hp ho (zgP its n j u) (r.set rv j) (by rw [List.length_set];exact hz) s.toks
 by_cases h0:0≤k
 ·have hk:k.toNat=j:=by
   rw [seqIndex_of h0 h4] at h1
   exact Option.some.inj h1
  exact W.ki_setAt ho h0 (by omega) (by rw [Xal,← hl];exact h4) (by rw [hk];exact ⟨_,I',q⟩)
 ·have hk:(k+(its.toArray.size:Int)).toNat=j:=by
   rw [seqIndex_neg (by omega) h3] at h1
   rw [Xal,← hl]
   exact Option.some.inj h1
  exact W.ki_setBack ho (by omega) (by rw [Xal,← hl];exact h3) (by omega) (by rw [hk];exact ⟨_,I',q⟩)
theorem zeI (lo hi:Option Int)(n:Nat):(sliceBounds lo hi none n).1=((HT.sIx n 0 lo:Nat):Int)∧(sliceBounds lo hi none n).2.1=((HT.sIx n n hi:Nat):Int)∧(sliceBounds lo hi none n).2.2=1:=by
 refine ⟨?_,?_,rfl⟩
 ·cases lo with
  | none=>simp [sliceBounds,HT.sIx]
  | some i =>
   simp only [sliceBounds,HT.sIx,Option.getD_none,show (1:Int) > 0 by decide,if_true]
   by_cases h:i<0
   ·simp only [h,if_true] <;> omega
   ·simp only [h,if_false] <;> omega
 ·cases hi with
  | none=>simp [sliceBounds,HT.sIx]
  | some i =>
   simp only [sliceBounds,HT.sIx,Option.getD_none,show (1:Int) > 0 by decide,if_true]
   by_cases h:i<0
   ·simp only [h,if_true] <;> omega
   ·simp only [h,if_false] <;> omega
theorem zd8 (its:List Value)(lo hi:Option Int):slicePick its.toArray lo hi none=((its.drop (HT.sIx its.length 0 lo)).take (HT.sIx its.length its.length hi - HT.sIx its.length 0 lo)).toArray:=by
 obtain ⟨h1,h2,h3⟩:=zeI lo hi its.toArray.size
 unfold slicePick
 rw [h1,h2,h3]
 simp only [sliceRange_one,pick_run,Xal] <;> rfl
inductive rSlL (K:W.Frag)(x:V)(lo:Option Int)(hi:Option Int)(H:Hp)(Q:VK):Prop
 | mk (a:_) (xs:_) (z0_:x = .ref a) (z1_:SqL K H a xs) (z2_:∀ p,H p=none→Q (.ref p) (upd H p (.lst (cutV xs lo hi))))
theorem zcu:SlR X (rSlL X.K):=by
 intro pins s σ H x v vl vu lo hi sl Q I rx hs pl pu h
 obtain ⟨a,xs,rfl,hx,q⟩:=h
 cases rx
 obtain ⟨its,r,ht,hz⟩:=I.list hx
 have hlen:=r.length
 refine ⟨"list",_,slot_list_getitem.lookup,ht.isList.typeIs,?_⟩
 refine wpAny_getItem_list_slice ht.isList hs pl pu .none (by simp) ?_ (by rw [Xal] <;> omega)
 rw [zd8,← hlen]
 refine ⟨.ref s.heap.objs.size,_,I.laid (t':=s.toks) (o:=.lst (cutV xs lo hi)) (fun b ob q=>Xad _ q) (Xaf _) ?_,rfl,q _ (I.hok.fresh (Xaf _))⟩
 exact ⟨Xar (zcg xs lo hi) hz,_,0,(r.drop (HT.sIx xs.length 0 lo)).take (HT.sIx xs.length xs.length hi - HT.sIx xs.length 0 lo),Xam _ rfl⟩
theorem zam:zbx X (.builtin "len") (fun xs H Q=>∃ p ys,xs=[.ref p]∧(SqL X.K H p ys∨SqT X.K H p ys)∧Q (.int ys.length) H):=by
 intro pins s σ H xs us Q I r h
 obtain ⟨p,ys,rfl,hq,q⟩:=h
 obtain ⟨u,rfl,rx⟩:=zdL r
 cases rx
 have hn:=zdY
 rcases hq with hq | hq
 ·obtain ⟨its,r',pl,hz⟩:=I.list hq
  have hlen:=r'.length
  exact Calls.call_len_list pl.isList (by simp only [Xal] <;> omega) ⟨.int ys.length,H,I.tok _,⟨s.toks+1,by rw [Xal,hlen]⟩,q⟩
 ·obtain ⟨its,r',pl,hz⟩:=I.tuple hq
  have hlen:=r'.length
  exact len_tuple pl (by simp only [Xal] <;> omega) ⟨.int ys.length,H,I.tok _,⟨s.toks+1,by rw [Xal,hlen]⟩,q⟩
theorem zbo:zbx X (.type "list") (fun xs H Q=>∃ p ys,xs=[.ref p]∧(SqL X.K H p ys∨SqT X.K H p ys)∧∀ l,H l=none→Q (.ref l) (upd H l (.lst ys))):=by
 intro pins s σ H xs us Q I r h
 obtain ⟨p,ys,rfl,hq,q⟩:=h
 obtain ⟨u,rfl,rx⟩:=zdL r
 cases rx
 have fin:∀ (its:List Value),Vals ys its→ys.length≤sizeLine→∀ (h':Heap) (c':Nat),(∀ b o',s.heap.get? b=some o'→h'.get? b=some o') →
   h'.get? s.heap.objs.size=some { cls:=.type "list",dict:=none,data:=.seq its.toArray c',slots:=#[] }→EP X pins σ Q (.ref s.heap.objs.size) { s with heap:=h' }:=fun its r' hz h' c' kp e =>
  ⟨.ref s.heap.objs.size,_,I.laid (t':=s.toks) kp (Xaf _) (show ObjOk X.prog X.w _ h' _ (.lst ys) from ⟨hz,its,c',r',e⟩),rfl,q _ (I.hok.fresh (Xaf _))⟩
 rcases hq with hq | hq
 ·obtain ⟨its,r',pl,hz⟩:=I.list hq
  have hlen:=r'.length
  obtain ⟨o,ho,hc,n,hd⟩:=pl.isList
  exact call_list_seq p (.inl rfl) ho hc hd (fun h' c' kp e=>fin its r' hz h' c' kp e) (by simp only [Xal] <;> omega)
 ·obtain ⟨its,r',pl,hz⟩:=I.tuple hq
  have hlen:=r'.length
  obtain ⟨o,ho,hc,n,hd⟩:=pl
  exact call_list_seq p (.inr rfl) ho hc hd (fun h' c' kp e=>fin its r' hz h' c' kp e) (by simp only [Xal] <;> omega)
theorem zbH:zbx X (.type "tuple") (fun xs H Q=>∃ p ys,xs=[.ref p]∧((SqL X.K H p ys∧∀ l,H l=none→Q (.ref l) (upd H l (.tup ys)))∨(SqT X.K H p ys∧Q (.ref p) H))):=by
 intro pins s σ H xs us Q I r h
 obtain ⟨p,ys,rfl,h⟩:=h
 obtain ⟨u,rfl,rx⟩:=zdL r
 cases rx
 rcases h with ⟨hq,q⟩ | ⟨hq,q⟩
 ·obtain ⟨its,r',pl,hz⟩:=I.list hq
  have hlen:=r'.length
  refine call_tuple_list pl.isList (fun h' kp=>?_) (by simp only [Xal] <;> omega)
  have I1:Inv X pins σ H { s with heap:=h' }:=I.kept (t':=s.toks) kp
  have I2:Inv X pins σ (upd H h'.objs.size (.tup ys)) { s with heap:=h'.push { cls:=.type "tuple",data:=.seq its.toArray } }:=
   I1.laid (t':=s.toks) (fun b o e=>Xad _ e) (Xaf _) (show ObjOk X.prog X.w _ _ _ (.tup ys) from ⟨⟨hz,_,Xam _ rfl,rfl⟩,its,r',IsTup.new _ _⟩)
  exact ⟨.ref h'.objs.size,_,I2,rfl,q _ (I1.hok.fresh (Xaf _))⟩
 ·obtain ⟨its,r',pl,hz⟩:=I.tuple hq
  exact call_tuple_same pl ⟨.ref p,H,I,rfl,q⟩
def tyV (K:W.Frag)(T:String)(x:V)(H:Hp):Prop:=match x with
 | .str _=>T = "str"
 | .int _=>T = "int"
 | .ref p=>(T = "list" ∧ ∃ xs,SqL K H p xs)∨(T = "tuple" ∧ ∃ o,K.lookup p=some o∧o.cls = .type "tuple" ∧ o.dict=none) ∨
   (T = "dict" ∧ ((∃ kvs,H p=some (.dK kvs))∨∃ kvs,H p=some (.dT kvs)))∨(T = "set" ∧ ∃ S n,H p=some (.set S n))
 | _=>False
theorem tyV_is {pins:List (Addr×Obj)}{σ:St}{H:Hp}{s:Shared}{T:String}{x:V}{v:Value}(I:Inv X pins σ H s)(r:RelV x v)(ty:tyV X.K T x H) :
  s.TypeIs v T∧∀ a,v = .ref a→∃ ob,s.heap.get? a=some ob∧ob.dict=none:=by
 cases x with
 | str z =>
  obtain ⟨t,rfl⟩:=r
  cases (show T = "str" from ty)
  exact ⟨typeIs_str s z t,fun _ e=>nomatch e⟩
 | int i =>
  obtain ⟨t,rfl⟩:=r
  cases (show T = "int" from ty)
  exact ⟨typeIs_int s i t,fun _ e=>nomatch e⟩
 | ref p =>
  cases r
  rcases ty with ⟨rfl,xs,hq⟩ | ⟨rfl,o,hk,hc,hd⟩ | ⟨rfl,hk⟩ | ⟨rfl,S,n,hk⟩
  ·obtain ⟨its,_,pl,_⟩:=I.list hq
   refine ⟨pl.isList.typeIs,fun a e=>?_⟩
   cases e
   obtain ⟨o,n,e,c,hd,_⟩:=pl
   exact ⟨o,e,hd⟩
  ·refine ⟨⟨o,I.kIn p o hk,hc⟩,fun a e=>?_⟩
   cases e
   exact ⟨o,I.kIn _ o hk,hd⟩
  ·have z:∃ o,s.heap.get? p=some o∧o.ExactDict:=by
    rcases hk with ⟨kvs,hk⟩ | ⟨kvs,hk⟩
    ·obtain ⟨_,_,_,_,o,_,_,e,ex,_⟩:=I.hok p _ hk
     exact ⟨o,e,ex⟩
    ·obtain ⟨_,_,_,_,o,_,_,e,ex,_⟩:=I.hok p _ hk
     exact ⟨o,e,ex⟩
   obtain ⟨o,e,ex⟩:=z
   refine ⟨⟨o,e,ex.1⟩,fun a e2=>?_⟩
   cases e2
   exact ⟨o,e,ex.2.1⟩
  ·obtain ⟨o,_,_,_,e,ex,_⟩:=I.hok p _ hk
   refine ⟨⟨o,e,ex.1⟩,fun a e2=>?_⟩
   cases e2
   exact ⟨o,e,ex.2.1⟩
 | _=>exact False.elim ty
def tBM (K:W.Frag)(T:String)(r:V→List V→Hp→VK→Prop)(to:TE)(t:TA):TE:=fun σ H Q=>to σ H fun x H1=>tyV K T x H1∧t σ H1 fun xs H2=>r x xs H2 Q
variable {o e:Expr}{es:List Expr}{to:TE}{t:TA}{name:Str}{apos cpos:Pos}{T id:String}{r:V→List V→Hp→VK→Prop}
theorem zdO (pa:PlainAttrs T)(slot:Slot T name id)(hty:typeOf (.builtin id)=pure (.type "method_descriptor"))(hm:MtR X id r)(ho:PE X o to)(ha:PA X (e :: es) t)
  (hbase:attributeBase o name X.env (eval o X.env)=eval o X.env:=by rfl)
  (hfew:((backTo cpos (starEach (e :: es) X.env)).all (fun x=>!x.1) && (backToKw cpos (keywordEach [] X.env)).all (fun x=>x.1.isSome)
   && decide ((e :: es).length+([]:List Keyword).length+(if ([]:List Keyword).isEmpty then 0 else 1)<30))=true:=by rfl)
  (hline:(apos.endLine == cpos.line)=true:=by rfl) (hs:starEach (e :: es) X.env=(false,eval e X.env) :: starEach es X.env:=by rfl) (hplain:(backTo cpos (starEach es X.env)).any (·.1)=false:=by rfl) :
  PE X (.Call (.Attribute o name apos) (e :: es) [] cpos) (tBM X.K T r to t):=by
 intro pins s σ H Q I h
 refine wpAny_Call_method_late hbase hfew hline rfl (thn (ho pins s σ H _ I h) fun v s1 hh_=>?_)
 obtain ⟨x,H1,I1,r1,ty,q1⟩:=hh_
 obtain ⟨h1,h2⟩:=tyV_is I1 r1 ty
 refine ⟨T,id,pa,slot,hty,h1,h2,?_⟩
 have hA:=ha cpos pins s1 σ H1 _ I1 q1
 rw [hs] at hA ⊢
 refine Calls.callWith_builtin (by show (false || (backTo cpos (starEach es X.env)).any (·.1))=false;rw [hplain] <;> rfl) (Calls.evalArgs_plain ?_)
 exact thn hA fun us s2 ⟨vs,H2,I2,r2,q2⟩=>hm pins s2 σ H2 x vs v us Q I2 r1 r2 q2
end
def MtM (X:Cx)(id:String)(r:V→List V→Hp→VK→Prop):Prop:=
 ∀ (pins:List (Addr×Obj)) (s:Shared) (σ:St) (H:Hp) (x:V) (xs:List V) (v:Value) (us:List Value) (Q:VK),Inv X pins σ H s→RelV x v→Vals xs us→r x xs H Q →
  wpAny (model X.prog X.w) X.A (call (.builtin id) (v :: us)) (EP X pins σ Q) X.xe s
theorem Vals.one:∀ {x:V} {us:List Value},Vals [x] us→∃ u,us=[u]∧RelV x u
 | _,_,.cons r .nil=>⟨_,rfl,r⟩
theorem Vals.rep {xs:List V}{us:List Value}(h:Vals xs us):∀ k:Nat,Vals (List.replicate k xs).flatten (List.replicate k us).flatten
 | 0=>.nil
 | k+1=>by
  rw [XaZ,XaZ,List.flatten_cons,List.flatten_cons]
  exact Vals.append h (Vals.rep h k)
theorem zfc (its:List Value):∀ (k:Nat) (acc:List Value),
  List.foldl (fun x1 x2=>x1 ++ x2) acc.toArray (List.replicate k its.toArray)=(acc ++ (List.replicate k its).flatten).toArray
 | 0,acc=>by simp
 | k+1,acc=>by
  have e:acc.toArray ++ its.toArray=(acc ++ its).toArray:=by simp
  have e2:(acc ++ its) ++ (List.replicate k its).flatten=acc ++ (List.replicate (k+1) its).flatten:=by
   rw [XaZ,List.flatten_cons,List.append_assoc]
  rw [← e2,← zfc its k (acc ++ its),← e,XaZ,List.foldl_cons]
section
variable {X:Cx}{pins:List (Addr×Obj)}{σ:St}{H:Hp}{s:Shared}{l b:Addr}{xs ys zs:List V}
theorem Inv.lset {its its':List Value}{n:Nat}{f:Array Value→Array Value}{t':Nat}(I:Inv X pins σ H s)(hH:H l=some (.lst xs))
  (e:s.heap.get? l=some { cls:=.type "list",data:=.seq its.toArray n }) (hf:f its.toArray=its'.toArray) (hv:Vals ys its') (hz:ys.length≤sizeLine) :
  Inv X pins σ (upd H l (.lst ys)) { s with heap:=s.heap.update l (Obj.mapSeq f),toks:=t' }:=by
 have q:=PySem.IsL.update e f
 rw [hf] at q
 refine I.write (x:=l) (e:=l) (by rw [hH];exact trivial) (.inl rfl) (fun b' u hb hu=>(XaG s.heap (Obj.mapSeq f) (Ne.symm hb)).trans hu) ⟨_,q⟩ ?_
 exact ⟨hz,its',_,hv,q⟩
theorem Inv.lnew {its:List Value}{t':Nat}(I:Inv X pins σ H s)(hv:Vals ys its)(hz:ys.length≤sizeLine) :
  Inv X pins σ (upd H s.heap.objs.size (.lst ys)) { s with heap:=s.heap.push { cls:=.type "list",data:=.seq its.toArray },toks:=t' }:=
 I.laid (fun _ _ q=>Xad _ q) (Xaf _) ⟨hz,its,0,hv,Xam _ rfl⟩
theorem Inv.fresh (I:Inv X pins σ H s):H s.heap.objs.size=none:=I.hok.fresh (Xaf _)
theorem Inv.lstM (I:Inv X pins σ H s)(hH:H l=some (.lst xs)):xs.length≤sizeLine∧∃ (its:List Value) (n:Nat),Vals xs its∧xs.length=its.length∧s.heap.get? l=some { cls:=.type "list",data:=.seq its.toArray n }:=by
 obtain ⟨z,its,n,r,e⟩:=I.hok l _ hH
 exact ⟨z,its,n,r,r.length,e⟩
theorem zi0 {n:Nat}(h:n≤sizeLine):Builtin.List.listTooLong n=false:=by
 unfold Builtin.List.listTooLong
 exact Xag (by omega)
end
section
variable {X:Cx}
inductive rAppend (x:V)(vs:List V)(H:Hp)(Q:VK):Prop
 | mk (l:_) (xs:_) (y:_) (z0_:x = .ref l) (z1_:vs=[y]) (z2_:H l=some (.lst xs)) (z3_:xs.length<sizeLine) (z4_:Q .non (upd H l (.lst (xs ++ [y]))))
theorem zaV:MtM X "list.append" rAppend:=by
 intro pins s σ H x vs v us Q I rx rv h
 obtain ⟨l,xs,y,rfl,rfl,hH,hz,q⟩:=h
 cases rx
 obtain ⟨u,rfl,ru⟩:=rv.one
 obtain ⟨z,its,n,r,hl,e⟩:=I.lstM hH
 refine call_meets F.slot_list_append ⟨_,e,rfl⟩ F.entry_list_append (F.args_list_append_2 _ _) (PySem.list_append l its.toArray n u (by rw [Xal];omega)) ⟨e,?_⟩
 refine ⟨.non,_,I.lset (its':=its ++ [u]) hH e (by simp) (r.append (.cons ru .nil)) ?_,rfl,q⟩
 rw [Xaq,List.length_singleton]
 omega
inductive rRep (x:V)(y:V)(H:Hp)(Q:VK):Prop
 | mk (l:_) (k:_) (xs:_) (z0_:x = .ref l) (z1_:y = .int k) (z2_:H l=some (.lst xs)) (z3_:-(2 ^ 63)≤k) (z4_:k<2 ^ 63) (z5_:xs.length * k.toNat≤sizeLine) (z6_:∀ p,H p=none→Q (.ref p) (upd H p (.lst (List.replicate k.toNat xs).flatten)))
theorem zkr {α:Type}(xs:List α)(k:Nat):(List.replicate k xs).flatten.length=k * xs.length:=by
 induction k with
 | zero=>simp
 | succ k ih=>rw [XaZ,List.flatten_cons,Xaq,ih,Nat.succ_mul,Nat.add_comm]
theorem zjw:OpR X (binaryOp .Mult) rRep:=by
 intro pins s σ H x y v u Q I rx ry h
 obtain ⟨l,k,xs,rfl,rfl,hH,h1,h2,hz,q⟩:=h
 cases rx
 obtain ⟨t,rfl⟩:=ry
 obtain ⟨z,its,n,r,hl,e⟩:=I.lstM hH
 have hlen:its.toArray.size * k.toNat≤sizeLine:=by rw [Xal,← hl];exact hz
 have hcap:¬ its.toArray.size * k.toNat > (2 ^ 63 - 1) / 8:=by
  have:(sizeLine:Nat)≤(2 ^ 63 - 1) / 8:=by decide
  omega
 have hfit:¬ (!Builtin.List.listFitsIndex k)=true:=by
  rw [fitsIndex_both h1 h2]
  exact Xao
 have hlong:¬ Builtin.List.listTooLong (its.toArray.size * k.toNat)=true:=by
  rw [zi0 hlen]
  exact Xao
 have hnew:List.foldl (fun x1 x2=>x1 ++ x2) #[] (List.replicate (if its.toArray.isEmpty=true then 0 else k.toNat) its.toArray)=(List.replicate k.toNat its).flatten.toArray:=by
  have f0:∀ m:Nat,List.foldl (fun x1 x2=>x1 ++ x2) #[] (List.replicate m its.toArray)=(List.replicate m its).flatten.toArray:=fun m=>by
   have:=zfc its m []
   rw [List.nil_append] at this
   exact this
  rw [f0]
  cases its with
  | nil=>simp
  | cons a r'=>rw [if_neg (by simp)]
 refine wpAny_binaryOp_repeat_ref (T := "list") (U := "int") (by decide) ⟨_,e,rfl⟩ (fun s'=>typeIs_int s' k t) noFill_list_mul F.fills_int_mul F.slot_int_rmul repeat_list F.slot_int_index.lookup
  (call_meets F.slot_int_rmul (typeIs_int s k t) F.entry_int_rmul (F.args_int_rmul_2 _ _) (int___rmul___int_list k t l its.toArray n)
   ⟨e,rfl,⟨_,e,rfl⟩,call_meets F.slot_list_mul ⟨_,e,rfl⟩ F.entry_list_mul (F.args_list_mul_2 _ _) (AutoListH.list___mul___list_int_3 l its.toArray n k t hfit hcap hlong) ⟨e,?_⟩⟩)
 rw [hnew]
 exact ⟨.ref _,_,I.lnew (t':=s.toks) (r.rep k.toNat) (by rw [zkr,Nat.mul_comm];exact hz),rfl,q _ I.fresh⟩
end
section
variable {prog:Program}{w:World}{A:Around}{E:Value→Shared→Prop}{s:Shared}
end
section
variable {X:Cx}
end
section
variable {κ:Type}[DecidableEq κ]
def valV (kvs:List (κ×V))(k:κ):Option V:=(kvs.find? fun kv=>decide (kv.1=k)).map (·.2)
def putK (kvs:List (κ×V))(k:κ)(v:V):List (κ×V):=
 if (kvs.any fun kv=>decide (kv.1=k))=true then kvs.map (fun kv=>if kv.1=k then (kv.1,v) else kv) else kvs ++ [(k,v)]
theorem zaJ {p:κ×V}{r:List (κ×V)}{k:κ}(e:p.1=k):valV (p :: r) k=some p.2:=by simp [valV,List.find?_cons,e]
theorem zaN {p:κ×V}{r:List (κ×V)}{k:κ}(e:¬ p.1=k):valV (p :: r) k=valV r k:=by simp [valV,List.find?_cons,e]
theorem zck (k:κ):∀ kvs:List (κ×V),(kvs.any fun kv=>decide (kv.1=k))=(valV kvs k).isSome
 | []=>rfl
 | p :: r=>by
  rw [List.any_cons]
  by_cases e:p.1=k
  ·simp only [zaJ e,Xai e,Bool.true_or,Option.isSome_some]
  ·rw [zaN e,Xag e,Bool.false_or];exact zck k r
theorem zf0 (k j:κ)(y:V):∀ kvs:List (κ×V),valV (kvs.map fun kv=>if kv.1=k then (kv.1,y) else kv) j=(valV kvs j).map fun x=>if j=k then y else x
 | []=>rfl
 | p :: r=>by
  have ih:=zf0 k j y r
  rw [XaN]
  by_cases h:p.1=k
  ·rw [if_pos h]
   by_cases e:p.1=j
   ·rw [zaJ (p:=(p.1,y)) e,zaJ e,Option.map_some,if_pos (e.symm.trans h)]
   ·rw [zaN (p:=(p.1,y)) e,zaN e,ih]
  ·rw [if_neg h]
   by_cases e:p.1=j
   ·rw [zaJ (p:=p) e,zaJ e,Option.map_some,if_neg (fun z=>h (e.trans z))]
   ·rw [zaN (p:=p) e,zaN e,ih]
theorem zeC (k j:κ)(y:V):∀ kvs:List (κ×V),valV kvs k=none→valV (kvs ++ [(k,y)]) j=if j=k then some y else valV kvs j
 | [],_=>by
  by_cases e:k=j
  ·rw [if_pos e.symm];exact zaJ (p:=(k,y)) e
  ·rw [if_neg (fun z=>e z.symm)];exact zaN (p:=(k,y)) e
 | p :: r,hn=>by
  rw [List.cons_append]
  have hk:¬ p.1=k:=fun z=>by rw [zaJ z] at hn;cases hn
  rw [zaN hk] at hn
  have ih:=zeC k j y r hn
  by_cases e:p.1=j
  ·rw [zaJ e,zaJ e,if_neg (fun z=>hk (e.trans z))]
  ·rw [zaN e,zaN e,ih]
theorem ziw (kvs:List (κ×V))(k j:κ)(y:V):valV (putK kvs k y) j=if j=k then some y else valV kvs j:=by
 unfold putK
 by_cases a:(kvs.any fun kv=>decide (kv.1=k))=true
 ·rw [if_pos a,zf0]
  rw [zck] at a
  by_cases e:j=k
  ·obtain ⟨x,hx⟩:=Option.isSome_iff_exists.mp a
   rw [if_pos e,e,hx,Option.map_some,if_pos rfl]
  ·rw [if_neg e]
   cases valV kvs j with
   | none=>rfl
   | some x=>rw [Option.map_some,if_neg e]
 ·rw [if_neg a]
  refine zeC k j y kvs ?_
  rw [zck] at a
  cases q:valV kvs k with
  | none=>rfl
  | some x=>rw [q] at a;exact (a rfl).elim
theorem KV.val {kvs:List (κ×V)}{vs:List (κ×Value)}(r:KV kvs vs)(k:κ):RelO (valV kvs k) (valueAt vs k):=by
 unfold KV at r
 induction r with
 | nil=>exact True.intro
 | @cons p q ps qs h t ih =>
  obtain ⟨h1,h2⟩:=h
  by_cases e:p.1=k
  ·have e':q.1=k:=h1.symm.trans e
   have b:valueAt (q :: qs) k=some q.2:=by simp [valueAt,List.find?_cons,e']
   rw [zaJ e,b];exact h2
  ·have e':¬ q.1=k:=fun z=>e (h1.trans z)
   have b:valueAt (q :: qs) k=valueAt qs k:=by simp [valueAt,List.find?_cons,e']
   rw [zaN e,b];exact ih
theorem KV.any {kvs:List (κ×V)}{vs:List (κ×Value)}(r:KV kvs vs)(k:κ):(kvs.any fun kv=>decide (kv.1=k))=vs.any fun kv=>decide (kv.1=k):=by
 unfold KV at r
 induction r with
 | nil=>rfl
 | cons h t ih=>rw [List.any_cons,List.any_cons,ih,h.1]
theorem KV.repl {kvs:List (κ×V)}{vs:List (κ×Value)}(r:KV kvs vs)(k:κ){y:V}{u:Value}(ry:RelV y u) :
  KV (kvs.map fun kv=>if kv.1=k then (kv.1,y) else kv) (vs.map fun kv=>if kv.1=k then (kv.1,u) else kv):=by
 unfold KV at r ⊢
 induction r with
 | nil=>exact .nil
 | @cons p q ps qs h t ih =>
  rw [XaN,XaN]
  refine .cons ?_ ih
  obtain ⟨h1,h2⟩:=h
  by_cases e:p.1=k
  ·rw [if_pos e,if_pos (h1.symm.trans e)];exact ⟨h1,ry⟩
  ·rw [if_neg e,if_neg (fun z=>e (h1.trans z))];exact ⟨h1,h2⟩
theorem KV.put {kvs:List (κ×V)}{vs:List (κ×Value)}(r:KV kvs vs)(k:κ){y:V}{u:Value}(ry:RelV y u):KV (putK kvs k y) (stored vs k u):=by
 unfold putK stored
 rw [r.any k]
 by_cases e:(vs.any fun kv=>decide (kv.1=k))=true
 ·rw [if_pos e,if_pos e];exact r.repl k ry
 ·rw [if_neg e,if_neg e];exact Paired.snoc r ⟨rfl,ry⟩
theorem KV.length {kvs:List (κ×V)}{vs:List (κ×Value)}(r:KV kvs vs):kvs.length=vs.length:=Paired.length r
end
theorem zkt {P:Program}{w:World}{k:Key}{u:Value}(r:RelV (kV k) u):(zaO P w).is k u=true:=by
 cases k with
 | inl i=>obtain ⟨t,e⟩:=(show ∃ t,u=Value.int i t from r);subst e;exact zfP P w i t
 | inr x=>obtain ⟨t,e⟩:=(show ∃ t,u=Value.str x t from r);subst e;exact zfO P w x t
theorem ze7 {P:Program}{w:World}:∀ {ks:List Key} {us:List Value},Vals (ks.map kV) us→ItemsAre (zaO P w) ks us
 | [],_,r=>by rw [List.map_nil] at r;cases r;exact .nil
 | k :: ks,_,r=>by
  rw [XaN] at r
  cases r with
  | cons h t=>exact .cons (zkt h) (ze7 t)
abbrev KT (H:Hp):List (List Key×V)→List (List Key×Addr×Value)→Prop:=Paired fun p q=>p.1=q.1∧H q.2.1=some (.tup (p.1.map kV))∧RelV p.2 q.2.2
theorem KT.val {H:Hp}{kvs:List (List Key×V)}{xs:List (List Key×Addr×Value)}(r:KT H kvs xs)(k:List Key):RelO (valV kvs k) ((atKey xs k).map (·.2)):=by
 induction r with
 | nil=>exact True.intro
 | @cons p q ps qs h t ih =>
  obtain ⟨h1,_,h2⟩:=h
  by_cases e:p.1=k
  ·have e':q.1=k:=h1.symm.trans e
   have b:atKey (q :: qs) k=some q.2:=by simp [atKey,List.find?_cons,e']
   rw [zaJ e,b];exact h2
  ·have e':¬ q.1=k:=fun z=>e (h1.trans z)
   have b:atKey (q :: qs) k=atKey qs k:=by simp [atKey,List.find?_cons,e']
   rw [zaN e,b];exact ih
section
variable {P:Program}{w:World}{H:Hp}{h:Heap}{a:Addr}
theorem rd_of {u:HO}(ok:HOk P w H h)(e:Rd H a u):ObjOk P w H h a u:=e.ok ok
theorem zkA {kvs:List (Key×V)}(ok:HOk P w H h)(e:Rd H a (.dK kvs)):kvs.length≤sizeLine∧(a == sysModules)=false∧∃ vs,KV kvs vs∧h.DictOf (zaO P w) a vs:=
 show ObjOk P w H h a (.dK kvs) from rd_of ok e
theorem dk_of {kvs:List (Key×V)}(ok:HOk P w H h)(e:H a=some (.dK kvs)):kvs.length≤sizeLine∧(a == sysModules)=false∧∃ vs,KV kvs vs∧h.DictOf (zaO P w) a vs:=zkA ok (.inl e)
theorem zjA {ks:List Key}(ok:HOk P w H h)(e:H a=some (.tup (ks.map kV))):(tupleKind (zaO P w)).is h ks a:=by
 obtain ⟨_,its,r,o,h1,h2,n,h3⟩:=(show ObjOk P w H h a (.tup (ks.map kV)) from ok a _ e)
 exact ⟨o,its.toArray,n,h1,h2,h3,by simpa using ze7 r⟩
theorem dt_rd {kvs:List (List Key×V)}(ok:HOk P w H h)(e:Rd H a (.dT kvs)):kvs.length≤sizeLine∧(a == sysModules)=false ∧
  ∃ xs,KT H kvs xs∧h.DictOfH (tupleKind (zaO P w)) a xs:=by
 obtain ⟨z,y,xs,r,o,es,ep,h1,h2,h3,h4,h5⟩:=(show ObjOk P w H h a (.dT kvs) from rd_of ok e)
 refine ⟨z,y,xs,r,o,es,ep,h1,h2,h3,h4,fun x hx=>?_,h5⟩
 have all:∀ {l:List (List Key×V)} {m:List (List Key×Addr×Value)},KT H l m→∀ x∈m,(tupleKind (zaO P w)).is h x.1 x.2.1:=by
  intro l m q
  induction q with
  | nil=>intro x hx;exact nomatch hx
  | @cons p q ps qs hq t ih =>
   intro x hx
   rcases Xap.mp hx with e | hx
   ·subst e
    exact zjA ok (by rw [← hq.1];exact hq.2.1)
   ·exact ih x hx
 exact all r x hx
end
def DGet (H:Hp)(a:Addr)(y:V)(r:Option V):Prop:=
 (∃ kvs k,Rd H a (.dK kvs)∧y=kV k∧r=valV kvs k)∨∃ kvs k b,Rd H a (.dT kvs)∧y = .ref b∧H b=some (.tup (k.map kV))∧r=valV kvs k
theorem DGet.k {H:Hp}{a:Addr}{kvs:List (Key×V)}{k:Key}(e:H a=some (.dK kvs)):DGet H a (kV k) (valV kvs k):=.inl ⟨kvs,k,.inl e,rfl,rfl⟩
section
variable {X:Cx}{pins:List (Addr×Obj)}{σ:St}{H:Hp}{s:Shared}{a:Addr}{y v:V}{u r:Value}{o:Option V}{A:Around}{E:Value→Shared→Prop}
theorem Inv.big (I:Inv X pins σ H s):sysModules<s.heap.objs.size:=by
 have h:mainGlobals<s.heap.objs.size:=(I.mod.glob.keeps I.bk).lt
 exact Xbt (by decide) h
theorem zia {Q:Value→Shared→Prop}(hu:A.units+1<cLine)(I:Inv X pins σ H s)(g:DGet H a y (some v))(ry:RelV y u)(h:∀ w' s',Inv X pins σ H s'→RelV v w'→Q w' s') :
  wpAny (model X.prog X.w) A (getItem (.ref a) u) Q E s:=by
 rcases g with ⟨kvs,k,e,ey,l⟩ | ⟨kvs,k,b,e,ey,eb,l⟩
 ·subst ey
  obtain ⟨z,hd,vs,rel,dd⟩:=zkA I.hok e
  obtain ⟨w',hw,rw'⟩:=RelO.some_of (v:=v) (o:=valueAt vs k) (by rw [l];exact rel.val k)
  exact wpAny_getItem_of (zkt ry) dd.mapOf hw (h w' _ (I.tok _) rw')
 ·subst ey
  cases (show u=Value.ref b from ry)
  obtain ⟨z,hd,xs,rel,dd⟩:=dt_rd I.hok e
  obtain ⟨w',hw,rw'⟩:=RelO.some_of (v:=v) (o:=(atKey xs k).map (·.2)) (by rw [l];exact rel.val k)
  obtain ⟨p,hp,hp2⟩:=XaJ.mp hw
  refine wpAny_getItem_heap (tupleKind_room_in1 hu) (zjA I.hok eb) dd hp ?_
  rw [hp2]
  exact h w' _ (I.tok _) rw'
theorem zkD {h':Heap}{t':Nat}{ob:HO}(I:Inv X pins σ H s)(mu:Mut (H a))(hs:Heap.SameBut a s.heap h')(he:∃ q,h'.get? a=some q)(new:ObjOk X.prog X.w (upd H a ob) h' a ob) :
  Inv X pins σ (upd H a ob) { s with heap:=h',toks:=t' }:=
 I.write (x:=a) (e:=a) mu (.inl rfl) (fun b q hb z=>(hs.2 b hb).trans z) he new
theorem dk_new {P:Program}{w:World}{H':Hp}{h':Heap}{kvs:List (Key×V)}{vs:List (Key×Value)}(z:kvs.length≤sizeLine)(hd:(a == sysModules)=false)(rel:KV kvs vs)(dd:h'.DictOf (zaO P w) a vs) :
  ObjOk P w H' h' a (.dK kvs):=⟨z,hd,vs,rel,dd⟩
end
section
variable {X:Cx}{pins:List (Addr×Obj)}{σ:St}{H:Hp}{s:Shared}{a:Addr}{kvs:List (Key×V)}{k:Key}{u:Value}{A:Around}{E:Value→Shared→Prop}
end
def NoSl (i:Expr):Prop:=∀ ov iv,subscripted i false ov iv=operate [ov,iv] (getItem ov iv)
theorem zjW {prog:Program}{w:World}{A:Around}{E:Value→Shared→Prop}{s:Shared}{env:Env}{value slice:Expr}{pos:Pos}{T id:String}{Q:Value→Shared→Prop}
  (hl:typeLookup (.type T) "__getitem__" = pure (some (.builtin id))) (hs:NoSl slice)
  (h:wpAny (model prog w) A (eval value env) (fun o s₁=>wpAny (model prog w) A (eval slice env) (fun i s₂=>s₂.TypeIs o T∧wpAny (model prog w) A (getItem o i) Q E s₂) E s₁) E s) :
  wpAny (model prog w) A (eval (.Subscript value slice pos) env) Q E s:=by
 refine Subscript_ (Xas h (fun o s₁ h₁=>Xas h₁ (fun i s₂ h₂=>?_) fun _ _ x=>x) fun _ _ x=>x)
 obtain ⟨hT,h₂⟩:=h₂
 unfold subscriptTail
 refine Xaa ?_
 rw [getitemInPython_of_ne hT.not_modules]
 refine Xaa (wpAny_specialOf hT hl ?_)
 have fin:wpAny (model prog w) A (subscripted slice false o i) (fun r s₃=>wpAny (model prog w) A (letTemporaryGo value o r >>= fun _=>pure r) Q E s₃) E s₂:=by
  rw [hs o i]
  exact wpAny_operating (Xas h₂ (fun r s₃ h₃=>Xaa (wpAny_letTemporaryGo (Xac h₃))) fun _ _ x=>x)
 first
  | exact Xac (Xaa fin)
  | exact Xaa (Xac (Xaa fin))
  | exact Xaa fin
theorem zfV {X:Cx}{pins:List (Addr×Obj)}{σ:St}{H:Hp}{s:Shared}{a:Addr}{y:V}{o:Option V}(I:Inv X pins σ H s)(g:DGet H a y o):s.TypeIs (.ref a) "dict" := by
 rcases g with ⟨kvs,k,e,_,_⟩ | ⟨kvs,k,b,e,_,_,_⟩
 ·obtain ⟨_,_,vs,_,dd⟩:=zkA I.hok e
  exact dd.typeIs
 ·obtain ⟨_,_,xs,_,dd⟩:=dt_rd I.hok e
  exact dd.typeIs
inductive tDGet_1 (Q:VK)(x:V)(y:V)(H2:Hp):Prop
 | mk (a:_) (v:_) (z0_:x = .ref a) (z1_:DGet H2 a y (some v)) (z2_:Q v H2)
def tDGet (td ty:TE):TE:=fun σ H Q=>td σ H fun x H1=>ty σ H1 (tDGet_1 Q x)
section
variable {X:Cx}{o i e value:Expr}{pos pos' tpos:Pos}{td ty tv:TE}
theorem zfD (hu:X.A.units+1<cLine)(ho:PE X o td)(hi:PE X i ty)(hs:NoSl i):PE X (.Subscript o i pos) (tDGet td ty):=by
 intro pins s σ H Q I h
 refine zjW PySem.F.slot_dict_getitem.lookup hs (thn (ho pins s σ H _ I h) fun u s1 ⟨x,H1,I1,rx,q1⟩=>thn (hi pins s1 σ H1 _ I1 q1) fun iv s2 hh_=>?_)
 obtain ⟨y,H2,I2,ry,a,v,ex,g,q2⟩:=hh_
 subst ex
 obtain rfl:u=Value.ref a:=rx
 exact ⟨zfV I2 g,zia hu I2 g ry fun w' s3 I3 rw'=>⟨v,H2,I3,rw',q2⟩⟩
end
theorem zjb {P:Program}{w:World}{H:Hp}(h:Heap)(hb:sysModules<h.objs.size):ObjOk P w H (h.push { cls:=.type "dict",data:=.dict #[] }) h.objs.size (.dK []):=
 ⟨Nat.zero_le _,beq_eq_false_iff_ne.mpr (Ne.symm (Xav hb)),[],.nil,Heap.DictOf.new h⟩
def tDNewK:TE:=fun _ H Q=>∀ p,H p=none→Q (.ref p) (upd H p (.dK []))
section
variable {X:Cx}{pos:Pos}
theorem zgb:PE X (.Dict [] [] pos) tDNewK:=fun pins s σ H Q I h =>
 wpAny_Dict_empty ⟨.ref s.heap.objs.size,_,I.laid (a:=s.heap.objs.size) (o:=.dK []) (t':=s.toks) (fun _ _ q=>Xad _ q) (Xaf _) (zjb s.heap I.big),rfl,h _ (I.hok.fresh (Xaf _))⟩
end
section
variable {X:Cx}{pins:List (Addr×Obj)}{σ:St}{H:Hp}{s:Shared}{a:Addr}{y d:V}{u r:Value}{o:Option V}{A:Around}{E:Value→Shared→Prop}
end
section
variable {X:Cx}{o e f:Expr}{apos cpos:Pos}{td ty tx:TE}
end
section
variable {X:Cx}{pins:List (Addr×Obj)}{σ:St}{H:Hp}{s:Shared}{a:Addr}{kvs:List (Key×V)}{A:Around}{E:Value→Shared→Prop}
end
section
variable {X:Cx}{pins:List (Addr×Obj)}{σ:St}{H:Hp}{s:Shared}{a:Addr}{y:V}{u:Value}{A:Around}{E:Value→Shared→Prop}
end
end L2
namespace Att
open PySem PySem.W PySem.Calls PyProof.Rows
theorem zdF {P:Params}{h:Heap}:∀ (ns:List Int) (vs:List Value),WellAll P h vs (ns.map WData.int)→IntsAre vs ns:=by
 intro ns
 induction ns with
 | nil =>
  intro vs w
  rw [List.map_nil] at w
  cases w
  exact .nil
 | cons n ns ih =>
  intro vs w
  rw [XaN] at w
  cases w with
  | cons a b =>
   cases a
   exact .cons _ _ (ih _ b)
theorem zhj {l:OpenLaw}{n:Nat}(hn:l.most=some n){P:Params}{h:Heap}{args:List WData}{vals:List Value}
  (hpre:l.row.toRowW.claim.pre args=true) (hwl:WellAll P h vals args) :
  ∃ a vs ns,vals=[Value.ref a]∧args=[WData.list (ns.map WData.int)]∧h.get? a=some { cls:=.type "list",data:=.seq vs.toArray }∧IntsAre vs ns∧ns.length≤n:=by
 have hsh:WShape.hasAll [] args [.list .int]=true:=(pre_splitW hpre).1
 have hc:l.pre.holds [] { args:=args }=true:=(pre_splitW hpre).2
 obtain ⟨d,r,rfl,h1,h2⟩:=hasAllW_cons hsh
 obtain rfl:=hasAllW_nil h2
 obtain ⟨xs,rfl,h3⟩:=hasW_list h1
 obtain ⟨ns,rfl⟩:=items_int h3
 have hlen:ns.length≤n:=by
  unfold OpenLaw.pre at hc
  have h4:(WTm.not (.lt (.lit (.int (n:Int))) (.len (.arg 0)))).holds [] { args:=[.list (ns.map .int)] }=true:=by
   have h4:=(holds_andW hc).1
   rw [hn] at h4
   exact h4
  have h5:=condW_of h4 (w_not (w_lt w_lit (w_len_list (w_arg rfl))))
  rw [Xah] at h5
  refine Nat.le_of_not_lt fun q=>?_
  have q':(n:Int)<((ns.length:Nat):Int):=by omega
  first
   | (rw [Xai q'] at h5;exact absurd h5 (by decide))
   | (simp at h5;omega)
 cases hwl with
 | cons w1 w2 =>
  cases w2
  cases w1 with
  | list ho hall=>exact ⟨_,_,ns,rfl,rfl,ho,zdF ns _ hall,hlen⟩
theorem zhx (l:OpenLaw)(args:List WData):l.row.toRowW.claim.post args (.bool true) args=true:=
 postW_of (r:=l.row.toRowW) (X:=(true == true))
  (show WShape.has [] (.bool true) .bool=true by first | rfl | decide | simp [WShape.has,WShape.arms,WShape.armsAll])
  (show (WTm.eq .res (.lit (.bool true))).value [] { args:=args,res:=some (.bool true),after:=args }=some (.bool (true == true)) from w_eq_bool (w_res rfl) w_lit) rfl
section
variable {prog:Program}{w:World}{A:Around}{E:Value→Shared→Prop}{s:Shared}{K:Frag}
end
end Att
namespace L2
open PySem PySem.Spec PyProof.Rows
theorem zcj:∀ {vs:List Value} {ns:List Int},IntsAre vs ns→Vals (ns.map V.int) vs
 | _,_,.nil=>.nil
 | _,_,.cons n t h=>.cons ⟨t,rfl⟩ (zcj h)
def Only (H:Hp):Prop:=∀ b,H b=none∨∃ o xs,H b=some (.frz o (.lst xs))
theorem zi3 {P:Program}{w:World}{K:W.Frag}{mg mb:Str→Option Value}{CX:CXT}{k:Nat}{fa a:Addr}{fd:FuncData}{x:Str}{sp:Sp}{s₁:Shared}{vs:List Value}{ns:List Int}
  (KX:K.In s₁.heap) (hns:s₁.heap.Ns mainGlobals mg) (hb:s₁.heap.Ns builtinsNs mb) (hbb:∀ x:Str,x ≠ "__name__" → mb x=bootBuiltins x) (hlim:s₁.heap.NoLimit) (hg:s₁.gens = #[])
  (ha:s₁.heap.get? a=some { cls:=.type "list",data:=.seq vs.toArray }) (hi:IntsAre vs ns) (hl:ns.length≤sizeLine) (hr:Room k callerA)
  (F:∀ base:Heap,K.In base→base.Ns mainGlobals mg→FnOk P w K mg base CX k fa fd [x] sp) (hbind:∀ (s:Shared) (u:Value),BindsTo s fd ⟨[u],[]⟩ [(x,u)])
  (hsp:∀ H:Hp,Only H→SqL K H a (ns.map V.int)→sp [.ref a] H (fun v _=>v = .bl true) fun _ _ _=>False)
  (hCX:∀ H e s',CX [] H s₁ (fun _ _ _=>False) e s'→False) :
  codeAny (model P w) callerA (.call (.ref fa) ⟨[.ref a],[]⟩) (fun r s'=>r = .ok (.ret (.bool true))∧OldK s₁.heap s'.heap∧s'.os=s₁.os∧AllBare s'.gens) s₁:=by
 have rv:=zcj hi
 have lenV:=hi.length
 
 have core:∀ H:Hp,Only H→SqL K H a (ns.map V.int)→HOk P w H s₁.heap→(∀ b,H b≠none→b=a)→(H a≠none→K.lookup a=none) →
   codeAny (model P w) callerA (.call (.ref fa) ⟨[.ref a],[]⟩) (fun r s'=>r = .ok (.ret (.bool true))∧OldK s₁.heap s'.heap∧s'.os=s₁.os∧AllBare s'.gens) s₁:=by
  intro H hO hS hok hA hK
  have base_of:∀ {b:Addr} {o:Obj},s₁.heap.get? b=some o→H b=none→(hidT s₁.heap H).get? b=some o:=fun e n=>zi7 e n
  have noA:∀ {b:Addr} {o:Obj} {es:Array DictEntry} {ep:Nat},s₁.heap.get? b=some o→o.data = .dict es ep→H b=none:=fun {b o es ep} e d=>by
   cases q:H b with
   | none=>rfl
   | some u =>
    have e':b=a:=hA b (by rw [q];simp)
    subst e'
    rw [ha] at e;cases e
    have d':Data.seq vs.toArray _=Data.dict es ep:=d
    cases d'
  have nsK:∀ {b:Addr} {m:Str→Option Value},s₁.heap.Ns b m→(hidT s₁.heap H).Ns b m:=fun {b m} ⟨o,es,ep,e,d,r⟩=>⟨o,es,ep,base_of e (noA e d),d,r⟩
  have hKb:K.In (hidT s₁.heap H):=fun b o e=>base_of (KX b o e) (by
   cases q:H b with
   | none=>rfl
   | some u =>
    have e':b=a:=hA b (by rw [q];simp)
    subst e'
    rw [hK (by rw [q];simp)] at e;cases e)
  have hM:Mod K mg (hidT s₁.heap H):=⟨hKb,nsK hns,⟨mb,nsK hb,hbb⟩,let ⟨mc,h1,h2⟩:=hlim;⟨mc,nsK h1,h2⟩⟩
  have e0:Env0 P w K mg (hidT s₁.heap H) callerA [] s₁ H:=⟨rfl,hM,fun b o e=>zkj e,Nat.le_of_eq (zh0 _ _),trivial,fun b hb=>absurd (show b∈([]:List Addr) from hb) (by simp),hok,.of_eq hg⟩
  refine Xbn ((F _ hKb (nsK hns)).run callerA [] s₁ H ⟨[.ref a],[]⟩ [.ref a] [.ref a] _ _ hr e0 (hbind s₁ (.ref a)) (.cons rfl .nil) (hsp H hO hS)) fun r s' h=>?_
  cases r with
  | error e=>exact (hCX H e s' h).elim
  | ok fl =>
   cases fl with
   | next=>exact False.elim h
   | brk=>exact False.elim h
   | cont=>exact False.elim h
   | ret u =>
    obtain ⟨v,H',os,bare,un,hok',r',q⟩:=h
    have q':v = .bl true:=q
    subst q'
    obtain rfl:u=Value.bool true:=r'
    refine ⟨rfl,OldK.of_keep fun b o e=>?_,os,bare⟩
    cases q:H b with
    | none=>exact un.keep b o e q (by intro z;exact absurd (show b∈([]:List Addr) from z) (by simp)) (by simp)
    | some u =>
     rcases hO b with z | ⟨ob,xs,z⟩
     ·rw [q] at z;cases z
     ·have z2:=un.frzs b ob _ z
      obtain ⟨e1,_⟩:=hok b _ z
      obtain ⟨e2,_⟩:=hok' b _ z2
      rw [e] at e1;cases e1
      exact e2
 cases hk:K.lookup a with
 | some o =>
  
  have e:=KX a o hk
  rw [ha] at e
  cases e
  refine core (fun _=>none) (fun _=>.inl rfl) (.inr ⟨_,vs.toArray,_,hk,rfl,rfl,rfl,by rw [Xal,lenV];exact hl,by simpa using rv⟩) (fun b u z=>by have z':(none:Option HO)=some u:=z;cases z') (fun b z=>absurd rfl z) fun z=>absurd rfl z
 | none =>
  refine core (fun b=>if b=a then some (.frz { cls:=.type "list",data:=.seq vs.toArray } (.lst (ns.map V.int))) else none) (fun b=>?_) (.inl (.inr ⟨{ cls:=.type "list",data:=.seq vs.toArray },if_pos rfl⟩)) (fun b u z=>?_) (fun b z=>?_) fun _=>hk
  ·by_cases hb:b=a
   ·exact .inr ⟨_,_,if_pos hb⟩
   ·exact .inl (if_neg hb)
  ·by_cases hb:b=a
   ·have z':=(if_pos hb).symm.trans z
    cases z'
    subst hb
    exact ⟨ha,by rw [Xah];exact hl,vs,_,rv,ha⟩
   ·have z':=(if_neg hb).symm.trans z
    cases z'
  ·by_cases hb:b=a
   ·exact hb
   ·exact absurd (if_neg hb) z
def zbh (s:Stmt)(j:Nat):Stmt:=match s with
 | .ClassDef _ _ _ body _ _ _ _ _ _ _=>body.getD j (.Pass ⟨0,0,0,0⟩)
 | _=>.Pass ⟨0,0,0,0⟩
def zbi (s:Stmt):Arguments:=match s with
 | .FunctionDef _ a _ _ _ _ _ _ _ _=>a
 | _=>{ posonlyargs:=[],args:=[],vararg:=none,kwonlyargs:=[],kw_defaults:=[],kwarg:=none,defaults:=[] }
def zaP (s:Stmt):List Stmt:=match s with
 | .FunctionDef _ _ b _ _ _ _ _ _ _=>b
 | _=>[]
def zak (s:Stmt):Scope:=match s with
 | .FunctionDef _ _ _ _ _ _ sc _ _ _=>sc
 | _=>{ kind:=.function,names:=[],isGenerator:=false,isCoroutine:=false }
abbrev CX0:CXT:=fun _ _ _ _ _ _=>False
abbrev E0:XK:=fun _ _ _=>False
theorem zgF {X:Cx}:Passes CX0 X E0:=fun _ _ _ _ _ _ _ h=>h.elim
structure Fun (K:W.Frag)(x qual:Str)(st:Stmt)(f:Addr)(fd:FuncData):Prop where
 ex:∃ (oc:Value) (od:Option Addr) (kV doc pm:Value) (an:Option Addr) (cdv ct:Value) (osl:Array (Option Value)),
  fd=W.fnOf x qual (zbi st) (zaP st) (zak st) .none kV doc pm an cdv ct∧K.lookup f=some ⟨oc,od,.func fd,osl⟩∧W.codeIn K cdv qual=true
 kp:W.keepIn K (.ref f)=true
section
variable {P:Program}{w:World}{K:W.Frag}{mg:Str→Option Value}{base:Heap}
theorem Fun.ok {x qual:Str}{st:Stmt}{f:Addr}{fd:FuncData}{N ps:List Str}{k:Nat}{sp:Sp}(F:Fun K x qual st f fd)(S:FnScope N ps (zak st))(len:∀ vs H Q E,sp vs H Q E→vs.length=ps.length)
  (hbody:∀ (cdv:Value) (A:Around) (outer:List Env) (s:Shared) (H:Hp) (vs:List V) (Q:VK) (E:XK),Room k (A.deeper (envOfC qual (zak st) s.heap.objs.size f cdv))→sp vs H Q E →
   ∃ t,PSs (cxOf CX0 P w K mg base N qual (zak st) f cdv A outer s H E).nox (zaP st) t∧t { nx:=fun _ H'=>Q .non H',rt:=Q } (start N vs) H):FnOk P w K mg base CX0 (k+1) f fd ps sp:=by
 obtain ⟨oc,od,kV,doc,pm,an,cdv,ct,osl,rfl,lk,hcd⟩:=F.ex
 refine zja lk hcd S len fun A outer s H vs Q E hr hsp=>?_
 obtain ⟨t,h,q⟩:=hbody cdv A outer s H vs Q E hr hsp
 exact ⟨t,h.nox,q⟩
theorem Fun.binds {x qual:Str}{st:Stmt}{f:Addr}{fd:FuncData}{ps:List Str}(F:Fun K x qual st f fd)
  (h:∀ (kV doc pm:Value) (an:Option Addr) (cdv ct:Value) (us:List Value),us.length=ps.length→bindArgs (W.fnOf x qual (zbi st) (zaP st) (zak st) .none kV doc pm an cdv ct) ⟨us,[]⟩=pure (ps.zip us)):Binds K fd ps []:=by
 obtain ⟨oc,od,kV,doc,pm,an,cdv,ct,osl,rfl,lk,hcd⟩:=F.ex
 exact .all (h kV doc pm an cdv ct)
theorem zjE {x qual:Str}{st:Stmt}{f:Addr}{oc:Value}{od an:Option Addr}{osl:Array (Option Value)}{kV doc pm cdv ct:Value}(l:K.lookup f=some ⟨oc,od,.func (W.fnOf x qual (zbi st) (zaP st) (zak st) .none kV doc pm an cdv ct),osl⟩)
  (c:W.codeIn K cdv qual=true) (k:W.keepIn K (.ref f)=true):Fun K x qual st f (W.fnOf x qual (zbi st) (zaP st) (zak st) .none kV doc pm an cdv ct):=⟨⟨oc,od,kV,doc,pm,an,cdv,ct,osl,rfl,l,c⟩,k⟩
end
theorem zcf {A:Around}{k:Nat}(hr:Room k A):A.units+1<cLine:=Xaz (Nat.add_le_add_left (by decide:1≤64) _) hr.units
theorem zdb {n:Nat}(h:n≤1000):n<sizeLine:=Xaz h (by decide)
section
variable {X:Cx}
theorem pv (i:Nat){x:Str}{pos:Pos}(hN:X.N[i]? = some x:=by rfl)(hv:Vis X.env.scope x:=by first | exact Or.inl rfl | exact Or.inr (Or.inl rfl) | exact Or.inr (Or.inr rfl))(hd:(x == ("__debug__" : Str))=false:=by decide)
  (hcd:(x == ("__classdict__" : Str))=false:=by decide):PE X (.Name x pos) (tVar i):=pe_var hN hv hd hcd
end
theorem iteF {A B:Prop}(h:B):if false=true then A else B:=by
 rw [if_neg Xao]
 exact h
theorem iteT {A B:Prop}(h:A):if true=true then A else B:=by
 rw [if_pos rfl]
 exact h
theorem ite2 {c A B:Prop}[Decidable c](h1:c→A)(h2:¬ c→B):if c then A else B:=by
 by_cases h:c
 ·rw [if_pos h]
  exact h1 h
 ·rw [if_neg h]
  exact h2 h
theorem zku {c A B:Prop}[Decidable c](hc:c)(h:B):if (!decide c)=true then A else B:=by
 rw [Xai hc]
 exact iteF h
def Same (H H':Hp):Prop:=∀ b o,H b=some o→H' b=some o
theorem Same.refl (H:Hp):Same H H:=fun _ _ h=>h
theorem Same.trans {H H1 H2:Hp}(a:Same H H1)(b:Same H1 H2):Same H H2:=fun c o h=>b c o (a c o h)
theorem Same.free {H H':Hp}(e:Same H H'){l:Addr}(h:H' l=Option.none):H l=Option.none:=by
 cases q:H l with
 | none=>rfl
 | some o =>
  rw [e l o q] at h
  cases h
theorem Same.seq {K:W.Frag}{H H':Hp}{a:Addr}{xs:List V}(e:Same H H')(h:SqL K H a xs):SqL K H' a xs:=by
 rcases h with (h | ⟨o,h⟩) | h
 ·exact .inl (.inl (e _ _ h))
 ·exact .inl (.inr ⟨o,e _ _ h⟩)
 ·exact .inr h
section
variable {X:Cx}
end
section
variable {κ:Type}[DecidableEq κ]
theorem zjR {kvs:List (κ×V)}{k:κ}{v:V}(h:valV kvs k=some v):k∈kvs.map (·.1):=by
 have q:(kvs.any fun kv=>decide (kv.1=k))=true:=by
  rw [zck,h]
  all_goals rfl
 obtain ⟨p,hp,e⟩:=List.any_eq_true.mp q
 exact XaC.mpr ⟨p,hp,XaO e⟩
end
theorem zkq {prog:Program}{w:World}{A:Around}{R:Result→Shared→Prop}{s:Shared}{elt target iter:Expr}{ifs:List Expr}{scope:Scope}{pos:Pos}{it acc:Value}{env:Env}(I:Nat→Shared→Prop)
  (turn:∀ n s,I n s→wpAny (model prog w) A (pyNext it) (fun r s1=>match r with
   | none=>R (.ok .next) s1
   | some v=>wpAny (model prog w) A (letOwnedTupleGo target it v) (fun _ s2=>wpAny (model prog w) A (assign target env v) (fun _ s3 =>
     wpAny (model prog w) A (forIn ifs true fun c r=>if r=true then do let ok ← isTrue c env (eval c env);pure (ForInStep.yield ok) else pure (ForInStep.yield r)) (fun ok s4 =>
      if ok=true then wpAny (model prog w) A (eval elt env) (fun x s5 =>
       wpAny (model prog w) A (call (.builtin "list.append") [acc,x]) (fun _ s6=>∃ m,m<n∧I m s6) (fun _ _=>False) s5) (fun _ _=>False) s4
      else ∃ m,m<n∧I m s4) (fun _ _=>False) s3) (fun _ _=>False) s2) (fun _ _=>False) s1) (fun _ _=>False) s)
  (n:Nat) (h:I n s) :
  codeAny (model prog w) A (.compLoop (.ListComp elt [⟨target,iter,ifs,0⟩] scope pos) 0 it acc env) R s:=by
 refine codeAny_loop rfl I (fun n s hI=>?_) n h
 show wpAny _ A ((compTurn (.ListComp elt [⟨target,iter,ifs,0⟩] scope pos) 0 it acc env).onRaise (fun x=>do noteFrame x env;theTreesLotGoes x)) _ _ s
 refine wpAny_noted ?_
 rw [compTurn_list]
 refine Xaa (Xbh (Xaa (Xas (turn n s hI) (fun r s1 h1=>?_) fun _ _ h'=>h'.elim)))
 cases r with
 | none=>exact Xac h1
 | some v =>
  refine Xaa (Xas h1 (fun _ s2 h2=>?_) fun _ _ h'=>h'.elim)
  refine Xaa (Xas h2 (fun _ s3 h3=>Xaa (Xas h3 (fun ok s4 h4=>?_) fun _ _ h'=>h'.elim)) fun _ _ h'=>h'.elim)
  cases ok with
  | false=>exact Xac ⟨rfl,h4⟩
  | true =>
   exact Xaa (Xaa (Xas h4 (fun x s5 h5=>Xaa (Xas h5 (fun _ s6 h6=>Xac (Xac ⟨rfl,h6⟩)) fun _ _ h'=>h'.elim)) fun _ _ h'=>h'.elim))
def PF (X:Cx)(ifs:List Expr)(t:TT):Prop:=
 ∀ (pins:List (Addr×Obj)) (s:Shared) (σ:St) (H:Hp) (Q:Bool→Hp→Prop),Inv X pins σ H s→t σ H Q →
  wpAny (model X.prog X.w) X.A (forIn ifs true fun c r=>if r=true then do let ok ← isTrue c X.env (eval c X.env);pure (ForInStep.yield ok) else pure (ForInStep.yield r)) (TP X pins σ Q) X.xe s
def tYes:TT:=fun _ H Q=>Q true H
theorem zeS {X:Cx}:PF X [] tYes:=fun pins s σ H Q I h=>wpAny_tests_nil ⟨H,I,h⟩
theorem zeR {X:Cx}{c:Expr}{t:TT}(hc:PT X c t):PF X [c] t:=fun pins s σ H Q I h=>wpAny_tests_one (hc pins s σ H Q I h)
def cxC (X:Cx)(Nc:List Str)(scope:Scope)(cl:List (Str×Addr))(C:Addr)(fp:List Addr)(s2:Shared)(H2:Hp):Cx where
 prog:=X.prog
 w:=X.w
 K:=X.K
 mg:=X.mg
 base:=X.base
 A:=X.A
 N:=Nc
 s₀:=s2
 H₀:=H2
 env:=compEnvC scope cl C X.env
 outer:=X.stack
 stack:=X.stack
 ex:=fp
 fn:=fun _=>false
 calm:=X.calm
 pn:=[]
 xe:=fun _ _=>False
def zb1 (src:List (Option Nat))(σ:St):St:=src.map fun o=>match o with
 | none=>none
 | some i=>(σ[i]?).getD none
structure CompOk (N:List Str)(osc:Scope)(Nc:List Str)(src:List (Option Nat))(scope:Scope):Prop where
 kind:scope.kind = .function
 nocell:∀ x∈scope.names,x.2≠.cell
 nodup:scope.names.Pairwise fun x y=>x.1≠y.1
 free:∀ x∈scope.names,x.2 = .free→osc.names.lookup x.1=some .cell∨osc.names.lookup x.1=some .free
 len:src.length=Nc.length
 src:∀ (j i:Nat),src[j]? = some (some i)→∃ x,Nc[j]? = some x∧N[i]? = some x∧scope.names.lookup x=some .free
set_option tactic.hygienic true in
theorem zcI {α:Type}{l:List (Str×α)}{x:Str}{k:α}(h:l.lookup x=some k):(x,k)∈l:=by
 induction l with
 | nil=>cases h
 | cons p r ih =>
  obtain ⟨y,j⟩:=p
  rw [List.lookup_cons] at h
  split at h
  ·rename_i hb
   have e:=eq_of_beq hb
   cases h;subst e;exact XaE
  ·exact Xax _ (ih h)
theorem zbE {α:Type}{l:List (Str×α)}(nd:l.Pairwise fun x y=>x.1≠y.1){x:Str}{k:α}(h:(x,k)∈l):l.lookup x=some k:=by
 induction l with
 | nil=>cases h
 | cons p r ih =>
  obtain ⟨y,j⟩:=p
  rw [List.pairwise_cons] at nd
  rw [List.lookup_cons]
  rcases Xap.mp h with e | h
  ·cases e;simp
  ·have ne:=nd.1 _ h
   have:(x == y)=false:=beq_eq_false_iff_ne.mpr (Ne.symm ne)
   rw [this];exact ih nd.2 h
theorem zgZ {X:Cx}(ok:X.Ok){scope:Scope}:∀ (names:List (Str×NameKind)) (acc:List (Str×Addr)),(∀ x∈names,x.2 = .free→∃ c,X.env.cells.lookup x.1=some c) →
  (∀ x c,(x,c)∈acc→X.env.cells.lookup x=some c) →
  ∃ cl,(forIn names acc (fun (p:Str×NameKind) (cs:List (Str×Addr))=>(do
   if p.2 == NameKind.free then
    let c ← cellOf X.env p.1
    pure (ForInStep.yield ((p.1,c) :: cs))
   else pure (ForInStep.yield cs):Sem (ForInStep (List (Str×Addr))))))=pure cl∧(∀ x c,(x,c)∈cl→X.env.cells.lookup x=some c)∧(∀ x∈names,x.2 = .free→∃ c,(x.1,c)∈cl)∧(∀ p∈acc,p∈cl):=by
 intro names
 induction names with
 | nil=>intro acc _ ha;exact ⟨acc,(by rw [List.forIn_nil]),ha,(fun _ h=>nomatch h),fun _ h=>h⟩
 | cons p r ih =>
  intro acc hf ha
  obtain ⟨x,k⟩:=p
  rw [List.forIn_cons]
  by_cases hk:k = .free
  ·subst hk
   obtain ⟨c,hc⟩:=hf _ XaE rfl
   obtain ⟨cl,e,h1,h2,h3⟩:=ih ((x,c) :: acc) (fun y hy=>hf y (Xax _ hy)) (fun y d hy=>by
    rcases Xap.mp hy with e | hy
    ·cases e;exact hc
    ·exact ha y d hy)
   have hcell:cellOf X.env x=pure c:=by unfold cellOf;rw [show X.env.cells.lookup x=some c from hc]
   refine ⟨cl,?_,h1,fun y hy hk=>?_,fun q hq=>h3 q (Xax _ hq)⟩
   ·simp only [beq_self_eq_true,if_true,hcell,pure_bind];exact e
   ·rcases Xap.mp hy with e | hy
    ·cases e;exact ⟨c,h3 _ XaE⟩
    ·exact h2 y hy hk
  ·obtain ⟨cl,e,h1,h2,h3⟩:=ih acc (fun y hy=>hf y (Xax _ hy)) ha
   have hb:(k == NameKind.free)=false:=by simpa using hk
   refine ⟨cl,?_,h1,fun y hy hk'=>?_,h3⟩
   ·simp only [hb,Bool.false_eq_true,if_false,pure_bind];exact e
   ·rcases Xap.mp hy with e | hy
    ·cases e;exact absurd hk' hk
    ·exact h2 y hy hk'
theorem zbG {X:Cx}(ok:X.Ok){scope:Scope}(hf:∀ x∈scope.names,x.2 = .free→X.env.scope.names.lookup x.1=some .cell∨X.env.scope.names.lookup x.1=some .free) :
  ∃ cl:List (Str×Addr),closureFor scope X.env=pure cl∧(∀ (x:Str) (c:Addr),cl.lookup x=some c→X.env.cells.lookup x=some c)∧(∀ x∈scope.names,x.2 = .free→∃ c,cl.lookup x.1=some c):=by
 obtain ⟨cl,e,h1,h2,_⟩:=zgZ ok (scope:=scope) scope.names [] (fun x hx hk=>ok.has x.1 (hf x hx hk)) (fun _ _ h=>nomatch h)
 refine ⟨cl,?_,fun x c h=>h1 x c (zcI h),fun x hx hk=>?_⟩
 ·unfold closureFor
  exact (bind_pure _).trans e
 ·obtain ⟨c,hc⟩:=h2 x hx hk
  have:∀ l:List (Str×Addr),(x.1,c)∈l→∃ d,l.lookup x.1=some d:=by
   intro l
   induction l with
   | nil=>intro h;cases h
   | cons p r ih =>
    intro h
    obtain ⟨y,d⟩:=p
    rw [List.lookup_cons]
    cases hb:x.1 == y with
    | true=>exact ⟨d,rfl⟩
    | false =>
     rcases Xap.mp h with e | h
     ·cases e;simp at hb
     ·exact ih h
  exact this cl hc
theorem zb0 {scope:Scope}{env:Env}(x:Str):(relabel scope env).names.lookup x=(scope.names.lookup x).map fun k=>if (k == .free && env.scope.kind == .function && env.kindOf x == some .cell) then .cell else k:=by
 unfold relabel
 show List.lookup x (scope.names.map _)=_
 induction scope.names with
 | nil=>rfl
 | cons p r ih =>
  obtain ⟨n,k⟩:=p
  rw [XaN]
  cases hb:x == n with
  | true =>
   have e:=eq_of_beq hb
   subst e
   show List.lookup x ((if (k == NameKind.free && env.scope.kind == .function && env.kindOf x == some .cell)=true then (x,NameKind.cell) else (x,k)) :: _)=_
   by_cases hc:(k == NameKind.free && env.scope.kind == .function && env.kindOf x == some .cell)=true
   ·rw [if_pos hc,List.lookup_cons,List.lookup_cons]
    simp only [beq_self_eq_true,Option.map_some]
    rw [if_pos hc]
   ·rw [if_neg hc,List.lookup_cons,List.lookup_cons]
    simp only [beq_self_eq_true,Option.map_some]
    rw [if_neg hc]
  | false =>
   show List.lookup x ((if (k == NameKind.free && env.scope.kind == .function && env.kindOf n == some .cell)=true then (n,NameKind.cell) else (n,k)) :: _)=_
   by_cases hc:(k == NameKind.free && env.scope.kind == .function && env.kindOf n == some .cell)=true
   ·rw [if_pos hc,List.lookup_cons,List.lookup_cons,hb];exact ih
   ·rw [if_neg hc,List.lookup_cons,List.lookup_cons,hb];exact ih
theorem HOk.track {P:Program}{w:World}{H:Hp}{h:Heap}{a:Addr}{o:HO}(x:HOk P w H h)(hn:H a=none)(new:ObjOk P w (upd H a o) h a o):HOk P w (upd H a o) h:=fun b u e=>by
 by_cases hb:b=a
 ·subst hb;rw [zab] at e;cases e;exact new
 ·rw [zai hb] at e
  exact (x b u e).stay (fun c v _ q=>q) (fun c q=>by rw [zai (zah q hn)];exact q) fun c xs q=>by rw [zai (zah q hn)];exact q
theorem Un.track {fs ex:List Addr}{H H':Hp}{h h':Heap}{a:Addr}{o:HO}(u:Un fs ex H H' h h')(hp:h.objs.size≤a)(hl:∀ b v,H b=some v→b<h.objs.size):Un fs ex H (upd H' a o) h h' where
 keep:=u.keep
 slot:=u.slot
 free:=fun b v q n x=>by rw [zai (Xav (Xaj (Xan q) hp))];exact u.free b v q n x
 there:=u.there
 tups:=fun b xs q=>by rw [zai (Xav (Xaj (hl b _ q) hp))];exact u.tups b xs q
 frzs:=fun b v xs q=>by rw [zai (Xav (Xaj (hl b _ q) hp))];exact u.frzs b v xs q
 tbls:=fun b ps q=>by rw [zai (Xav (Xaj (hl b _ q) hp))];exact u.tbls b ps q
theorem cxC_ok {X:Cx}{pins:List (Addr×Obj)}{σ:St}{H2:Hp}{s2:Shared}{Nc:List Str}{src:List (Option Nat)}{scope:Scope}{cl:List (Str×Addr)}{C:Addr}{fp:List Addr}(I2:Inv X pins σ H2 s2)(S:CompOk X.N X.env.scope Nc src scope)
  (hcl1:∀ (x:Str) (c:Addr),cl.lookup x=some c→X.env.cells.lookup x=some c) (hcl2:∀ x∈scope.names,x.2 = .free→∃ c,cl.lookup x.1=some c) (hC:s2.heap.objs.size≤C)
  (hfp:∀ b∈fp,b<s2.heap.objs.size) (f2:∀ b∈fp,FpOk X pins H2 b):(cxC X Nc scope cl C fp s2 H2).Ok where
 mod:=I2.ok.mod
 kind:=S.kind
 glob:=I2.ok.glob
 blt:=I2.ok.blt
 above:=hC
 inj:=fun x y c h1 h2=>I2.ok.inj x y c (hcl1 _ _ h1) (hcl1 _ _ h2)
 has:=fun x h=>by
  have h':(relabel scope X.env).names.lookup x=some .cell∨(relabel scope X.env).names.lookup x=some .free:=h
  rw [zb0] at h'
  cases hk:scope.names.lookup x with
  | none=>rw [hk] at h';rcases h' with h' | h' <;> cases h'
  | some k =>
   have hm:=zcI hk
   have hkf:k = .free:=by
    rw [hk] at h'
    simp only [Option.map_some] at h'
    cases k with
    | free=>rfl
    | cell=>exact absurd rfl (S.nocell _ hm)
    | _=>exfalso;revert h';simp
   subst hkf
   exact hcl2 _ hm rfl
 cab:=fun x c h=>nomatch h
 hd:=I2.ok.hd
 frames:=I2.ok.frames
 stk:=.inl rfl
 exf:=fun b hb=>⟨Xav (Xaj (hfp b hb) hC),fun x c e=>(f2 b hb).2.2.2.2.1 x c (hcl1 _ _ e)⟩
 bs:=I2.bs
 bsz:=Xar I2.ok.bsz I2.sz
 noex:=fun b o e hb=>by
  rcases (f2 b hb).2.2.2.1 with z | z
  ·exact I2.ok.noex b o e z
  ·exact absurd (Xaj (Xan e) (Xar I2.ok.bsz z)) (XaT _)
 exfs:=fun b hb hs=>by
  obtain ⟨_,f1,f3,_⟩:=f2 b hb
  rcases Xap.mp (I2.stkSub b hs) with z | z
  ·exact f1 z
  ·exact f3 z
 funs:=I2.stack
 frf:=I2.stkFree
abbrev TEm (α:Type):=St→Hp→(α→Hp→Prop)→Prop
def PEm {α:Type}(B:Nat)(Y:Cx)(EM:Env→Addr→(Shared→Prop)→Shared→Prop)(AO:List α→Obj→Prop)(em:TEm α):Prop:=
 ∀ (D:Addr) (pins:List (Addr×Obj)) (s:Shared) (σ:St) (H:Hp) (Q:α→Hp→Prop) (ys:List α) (o:Obj),Inv Y pins σ H s→(D,o)∈pins→AO ys o→ys.length<B→em σ H Q →
  EM Y.env D (fun s'=>∃ y H8 s8 h' o' tk,Inv Y pins σ H8 s8∧AO (ys ++ [y]) o'∧Heap.SameBut D s8.heap h'∧h'.get? D=some o'∧s'={ s8 with heap:=h',toks:=tk }∧Q y H8) s
def zgs {α:Type}(B:Nat)(J:It)(g:TG)(tf:TT)(em:TEm α)(Q:List α→Hp→Prop)(σ0:St)(H1:Hp):Prop:=
 ∃ W:Nat→Nat→List α→St→Hp→Prop,(∃ m,W 0 m [] σ0 H1)∧∀ i m ys σc Hc,W i m ys σc Hc →
  (J.stop i Hc∧ys.length≤B∧Q ys Hc) ∨
  (J.go i Hc∧ys.length<B∧∃ N:List α→St→Hp→Prop,(∀ ys' σ' H',N ys' σ' H'→∃ m',m'<m∧W (i+1) m' ys' σ' H') ∧
   ∀ x H',J.yld i Hc x H'→g x σc H' fun σ2 H2=>tf σ2 H2 fun b H3=>if b=true then em σ2 H3 fun y H4=>N (ys ++ [y]) σ2 H4 else N ys σ2 H3)
structure CLoop (prog:Program)(w:World)(A:Around)(tg:Expr)(ifs:List Expr)(ce:Expr)(it:Value)(EM:Env→Addr→(Shared→Prop)→Shared→Prop):Prop where
 mono:∀ (env:Env) (D:Addr) (p q:Shared→Prop) (s:Shared),EM env D p s→(∀ s',p s'→q s')→EM env D q s
 loop:∀ (env:Env) (D:Addr) (I:Nat→Shared→Prop) {R:Result→Shared→Prop} (turn:∀ n s,I n s→wpAny (model prog w) A (pyNext it) (fun r s1=>match r with
   | none=>R (.ok .next) s1
   | some v=>wpAny (model prog w) A (letOwnedTupleGo tg it v) (fun _ s2=>wpAny (model prog w) A (assign tg env v) (fun _ s3 =>
     wpAny (model prog w) A (forIn ifs true fun c r=>if r=true then do let ok ← isTrue c env (eval c env);pure (ForInStep.yield ok) else pure (ForInStep.yield r)) (fun ok s4 =>
      if ok=true then EM env D (fun s6=>∃ m,m<n∧I m s6) s4 else ∃ m,m<n∧I m s4) (fun _ _=>False) s3) (fun _ _=>False) s2) (fun _ _=>False) s1) (fun _ _=>False) s)
  (n:Nat) (s:Shared) (h:I n s),codeAny (model prog w) A (.compLoop ce 0 it (.ref D) env) R s
 start:∀ (env:Env) (D:Addr) (R:Result→Shared→Prop) (s:Shared),codeAny (model prog w) A (.compLoop ce 0 it (.ref D) env) R s →
  wpAny (model prog w) A (pyIter it) (fun it' s'=>codeAny (model prog w) A (.compLoop ce 0 it' (.ref D) env) R s') (notedBy (model prog w) A env fun x s'=>R (.error x) s') s→codeAny (model prog w) A (.compStart ce 0 it (.ref D) env) R s
theorem zd2 {α:Type}{X:Cx}{pins:List (Addr×Obj)}{σ:St}{H2:Hp}{s2:Shared}{Nc:List Str}{src:List (Option Nat)}{scope:Scope}{cl:List (Str×Addr)}{fp:List Addr}{tg ce:Expr}{ifs:List Expr}
  {it:Addr} {tn:Nat→Heap→Prop} {J:It} {g:TG} {tf:TT} {em:TEm α} {Qf:List α→Hp→Prop} {E:Value→Shared→Prop} {RR:Value→Addr→Result→Shared→Prop} {mk:Sem Value} {o0:Obj} {AO:List α→Obj→Prop} {ho:Addr→List α→HO} {B:Nat} {EM:Env→Addr→(Shared→Prop)→Shared→Prop}
  (hc:X.calm=true) (I2:Inv X pins σ H2 s2) (S:CompOk X.N X.env.scope Nc src scope)
  (hcl1:∀ (x:Str) (c:Addr),cl.lookup x=some c→X.env.cells.lookup x=some c) (hcl2:∀ x∈scope.names,x.2 = .free→∃ c,cl.lookup x.1=some c)
  (T:Turn X.prog X.w X.K tg J fp it tn) (st2:tn 0 s2.heap) (f2:∀ b∈fp,FpOk X pins H2 b)
  (hg:∀ cl C fp s2 H2,PG (cxC X Nc scope cl C fp s2 H2) tg g) (hf:∀ cl C fp s2 H2,PF (cxC X Nc scope cl C fp s2 H2) ifs tf) (he:∀ cl C fp s2 H2,PEm B (cxC X Nc scope cl C fp s2 H2) EM AO em)
  (hmk:∀ (Q:Value→Shared→Prop) (s:Shared),Q (.ref s.heap.objs.size) { s with heap:=s.heap.push o0 }→wpAny (model X.prog X.w) X.A mk Q E s) (hfr:o0.isFreed=false) (h0:AO [] o0) (hcell:∀ ys o v,AO ys o→o.data≠.cell v)
  (hho:∀ ys o H h D,AO ys o→ys.length≤B→s2.heap.objs.size≤D→h.get? D=some o→ObjOk X.prog X.w (upd H D (ho D ys)) h D (ho D ys))
  (hlp:CLoop X.prog X.w X.A tg ifs ce (.ref it) EM)
  (hw:zgs B J g tf em Qf (zb1 src σ) H2)
  (fin:∀ (H4:Hp) (s4:Shared) (ys:List α) (m:Str→Option Value) (C:Addr),s2.heap.objs.size≤C→H4 s2.heap.objs.size=none→Inv X pins σ (upd H4 s2.heap.objs.size (ho s2.heap.objs.size ys)) s4→s4.heap.Ns C m→upd H4 s2.heap.objs.size (ho s2.heap.objs.size ys) C=none→Qf ys H4→RR (.ref s2.heap.objs.size) C (.ok .next) s4) :
  wpAny (model X.prog X.w) X.A mk (fun acc s3=>wpAny (model X.prog X.w) X.A (newFunctionEnv scope X.env.globals cl [] X.env.qual none .none (some X.env)) (fun cenv s4 =>
   codeAny (model X.prog X.w) X.A (.compStart ce 0 (.ref it) acc { cenv with scope:=relabel scope X.env }) (RR acc cenv.locals) s4) E s3) E s2:=by
 refine hmk _ s2 (wpAny_newFunctionEnv S.nocell (by intro y hy;simp at hy) (fun h1 hns1 hsb1=>?_) S.kind)
 dsimp only at hns1 hsb1 ⊢
 generalize hH2:s2.heap.push o0=G2 at hns1 hsb1 ⊢
 have hCz:G2.objs.size=s2.heap.objs.size+1:=by rw [← hH2,XaU]
 generalize hCe:G2.objs.size=C at hns1 hsb1 hCz ⊢
 generalize hDe:s2.heap.objs.size=D at fin hCz ⊢
 have hDC:D≠C:=by omega
 have hCle:s2.heap.objs.size≤C:=by omega
 have hDle:s2.heap.objs.size≤D:=by omega
 have old:∀ b o,s2.heap.get? b=some o→h1.get? b=some o:=fun b o e=>hsb1.extBut b o (Xav (Xaj (Xan e) hCle)) (Xad _ (hH2 ▸ Xad _ e))
 have hacc:h1.get? D=some o0:=by
  refine hsb1.extBut _ _ hDC (Xad _ ?_)
  rw [← hH2,← hDe]
  exact Xam _ hfr
 have hfp:∀ b∈fp,b<s2.heap.objs.size:=fun b hb=>by
  obtain ⟨o,e,_⟩:=T.obj 0 _ st2 b hb
  exact Xan e
 have ok:=cxC_ok (Nc:=Nc) (src:=src) (scope:=scope) (cl:=cl) (C:=C) (fp:=fp) I2 S hcl1 hcl2 hCle hfp f2
 generalize hXC:cxC X Nc scope cl C fp s2 H2=Y at ok
 have hYN:Y.N=Nc:=by rw [← hXC];rfl
 
 have I0:Inv (cxC X Nc scope cl C fp s2 H2) [] (zb1 src σ) H2 { s2 with heap:=h1,toks:=s2.toks+([]:List (Str×Value)).length }:=by
  rw [← hXC] at ok
  refine ⟨ok,rfl,I2.bare,Un.kept old,⟨_,hns1,fun j x v e1 e2 _=>?_⟩,fun x c e=>?_,I2.hok.fresh hCle,fun x c e=>I2.freeC x c (hcl1 _ _ e),(fun p hp=>nomatch hp),I2.hok.kept old,?_⟩
  ·
   have e2':(zb1 src σ)[j]? = some (some v):=e2
   have e1':Nc[j]? = some x:=e1
   unfold zb1 at e2'
   rw [Xat] at e2'
   cases hs:src[j]? with
   | none=>rw [hs] at e2';cases e2'
   | some o =>
    rw [hs] at e2'
    cases o with
    | none=>cases e2'
    | some i =>
     simp only [Option.map_some,Option.some.injEq] at e2'
     obtain ⟨y,hy1,hy2,hy3⟩:=S.src j i hs
     rw [e1'] at hy1;cases hy1
     have hσ:σ[i]? = some (some v):=by
      cases hq:σ[i]? with
      | none=>rw [hq] at e2';cases e2'
      | some z=>rw [hq] at e2';simp only [Option.getD_some] at e2';rw [e2']
     have hm:=zcI hy3
     have hfr:=S.free _ hm rfl
     obtain ⟨m0,hn0,hl0⟩:=I2.loc
     obtain ⟨u,r,l⟩:=hl0 i x v hy2 hσ (Or.inr hfr)
     refine ⟨u,r,.inr ⟨?_,?_⟩⟩
     ·show (relabel scope X.env).names.lookup x=some .cell∨(relabel scope X.env).names.lookup x=some .free
      rw [zb0,hy3]
      simp only [Option.map_some]
      split
      ·exact .inl rfl
      ·exact .inr rfl
     ·rcases l with ⟨k,_⟩ | ⟨_,c,hc1,hc2⟩
      ·have k':X.env.scope.names.lookup x=some .local:=k
       rw [k'] at hfr;rcases hfr with z | z <;> cases z
      ·obtain ⟨c',hc'⟩:=hcl2 _ hm rfl
       have:=hcl1 _ _ hc'
       rw [hc1] at this;cases this
       exact ⟨c,hc',hc2.keeps old⟩
  ·obtain ⟨v,z⟩:=I2.cell x c (hcl1 _ _ e)
   exact ⟨v,z.keeps old⟩
  ·show (zb1 src σ).length=Nc.length
   unfold zb1;rw [Xah];exact S.len
 obtain ⟨W,⟨m0,w0⟩,turn⟩:=hw
 have loop:codeAny (model X.prog X.w) X.A (.compLoop ce 0 (.ref it) (.ref D) (compEnvC scope cl C X.env)) (RR (.ref D) C) { s2 with heap:=h1,toks:=s2.toks+([]:List (Str×Value)).length }:=by
  have fpk:∀ {H':Hp} {ob:Obj},(∀ b∈fp,H' b=none)→∀ b∈fp,FpOk (cxC X Nc scope cl C fp s2 H2) [(D,ob)] H' b:=fun {H' ob} hn b hb =>
   ⟨hn b hb,(I0.ok.exf b hb).1,I0.ok.exfs b hb,.inl hb,(I0.ok.exf b hb).2,fun p hp=>by
    have e:p=(D,ob):=Xab.mp hp
    subst e
    exact Nat.ne_of_gt (Xaj (hfp b hb) hDle)⟩
  have hDfs:D ∉ frs X.stack:=fun hs=>by
   rcases Xap.mp (I2.stkSub D hs) with z | z
   ·exact absurd (Xaj I2.lt hDle) (by rw [z];exact XaT _)
   ·exact I2.nofs hDle z
  refine hlp.loop (compEnvC scope cl C X.env) D (fun n s'=>∃ i ys σ' H' ob,Inv (cxC X Nc scope cl C fp s2 H2) [] σ' H' s'∧tn i s'.heap∧(∀ b∈fp,H' b=none)∧H' D=none∧s'.heap.get? D=some ob∧AO ys ob∧W i n ys σ' H') ?_ m0 _
   ⟨0,[],zb1 src σ,H2,o0,I0,T.keep _ _ _ st2 fun b hb o e=>old b o e,fun b hb=>(f2 b hb).1,I2.hok.fresh hDle,hacc,h0,w0⟩
  rintro n s3 ⟨i,ys,σ3,H3,ob,I3,st3,fr3,hD3,hO3,vs3,w3⟩
  have I3':Inv (cxC X Nc scope cl C fp s2 H2) [(D,ob)] σ3 H3 s3:=I3.pins_of fun p hp=>by
   have e:=Xab.mp hp
   subst e
   exact ⟨hO3,hD3,hDC,hDfs,fun v z=>hcell ys ob v vs3 z⟩
  rcases turn i n ys σ3 H3 w3 with ⟨stop,hlen,qn⟩ | ⟨go,hlen,N,hN,step⟩
  ·refine thn (T.done (cxC X Nc scope cl C fp s2 H2) rfl rfl rfl hc i _ s3 σ3 H3 _ I3' (fpk fr3) st3 stop) fun r s4 ⟨hr,I4⟩=>?_
   subst hr
   have hO4:=(I4.pin (D,_) (Xay _ (Xab.mpr rfl))).1
   obtain ⟨m4,hn4,_⟩:=I4.loc
   have fC:H3 C=none:=I4.free
   have uD:upd H3 D (ho D ys) C=none:=by rw [zai hDC.symm];exact fC
   have hl2:∀ b v,H2 b=some v→b<s2.heap.objs.size:=fun b v e=>I2.hok.lt e
   have Iout:Inv X pins σ (upd H3 D (ho D ys)) s4:=by
    refine I2.call' (ch:=fp) I4.os (Un.track I4.base hDle hl2) (HOk.track I4.hok hD3 (hho ys ob H3 s4.heap D vs3 hlen hDle hO4)) I4.bare fun b hb=>?_
    obtain ⟨_,a1,_,a3,a4,a5⟩:=f2 b hb
    exact ⟨a3,a1,a4,a5⟩
   exact fin H3 s4 ys m4 C (by omega) hD3 Iout hn4 uD qn
  ·refine thn (T.item (cxC X Nc scope cl C fp s2 H2) rfl rfl rfl hc i _ s3 σ3 H3 _ I3' (fpk fr3) st3 go) fun r s4 ⟨u,hr,h4⟩=>?_
   subst hr
   refine thn h4 fun _ s5 hh_=>?_
   obtain ⟨x,H5,I5,r5,y5,st5,fr5⟩:=hh_
   have I5':=I5.pinned (fpk fr5) (T.obj _ _ st5)
   refine thn (hg cl C fp s2 H2 _ s5 σ3 H5 x u _ I5' r5 (step x H5 y5)) fun _ s6 ⟨σ6,H6,I6,q6⟩=>?_
   refine thn (hf cl C fp s2 H2 _ s6 σ6 H6 _ I6 q6) fun ok s7 ⟨H7,I7,q7⟩=>?_
   have back:∀ {s8:Shared} {σ8:St} {H8:Hp},Inv (cxC X Nc scope cl C fp s2 H2) ([(D,ob)] ++ zeO fp s5.heap) σ8 H8 s8 →
     tn (i+1) s8.heap∧(∀ b∈fp,H8 b=none)∧H8 D=none∧s8.heap.get? D=some ob:=fun {s8 σ8 H8} I8=>by
    refine ⟨T.keep _ _ _ st5 fun b hb o e=>(I8.pin (b,o) (Xay _ (Xay _ (zbS hb e)))).1,fun b hb=>?_,?_,?_⟩
    ·obtain ⟨o,e,d⟩:=T.obj _ _ st5 b hb
     exact (I8.pin (b,o) (Xay _ (Xay _ (zbS hb e)))).2.1
    ·exact (I8.pin (D,_) (Xay _ (Xbl _ (Xab.mpr rfl)))).2.1
    ·exact (I8.pin (D,_) (Xay _ (Xbl _ (Xab.mpr rfl)))).1
   cases ok with
   | false =>
    obtain ⟨m',hm',w7⟩:=hN _ _ _ q7
    obtain ⟨b1,b2,b3,b4⟩:=back I7
    exact ⟨m',hm',i+1,ys,σ6,H7,ob,I7.pins_of (fun p hp=>nomatch hp),b1,b2,b3,b4,vs3,w7⟩
   | true =>
    refine hlp.mono _ _ _ _ _ (he cl C fp s2 H2 D _ s7 σ6 H7 _ ys ob I7 (Xbl _ (Xab.mpr rfl)) vs3 hlen q7) fun s9 hh_=>?_
    obtain ⟨y,H8,s8,h9,o9,tk9,I8,a9,sb9,g9,e9,q8⟩:=hh_
    subst e9
    obtain ⟨m',hm',w8⟩:=hN _ _ _ q8
    obtain ⟨b1,b2,b3,b4⟩:=back I8
    have I8n:Inv (cxC X Nc scope cl C fp s2 H2) [] σ6 H8 s8:=I8.pins_of fun p hp=>nomatch hp
    have I9:Inv (cxC X Nc scope cl C fp s2 H2) [] σ6 H8 { s8 with heap:=h9,toks:=tk9 }:=
     I8n.turned (it:=D) (fun b o hb e=>sb9.extBut b o hb e) b3 hDC (.inr hDle) (fun x c e z=>by
      obtain ⟨w',z'⟩:=I2.cell x c (hcl1 _ _ e)
      exact absurd (Xaj z'.lt hDle) (by rw [z];exact XaT _)) (fun p hp=>nomatch hp)
    refine ⟨m',hm',i+1,ys ++ [y],σ6,H8,o9,I9,T.keep _ _ _ b1 fun b hb o e=>sb9.extBut b o (Xav (Xaj (hfp b hb) hDle)) e,b2,b3,g9,a9,w8⟩
 exact hlp.start _ D _ _ loop (T.self X.A 0 _ _ _ (T.keep _ _ _ st2 fun b hb o e=>old b o e) loop)
def zeA (J:It)(g:TG)(tf:TT)(te:TE)(Q:List V→Hp→Prop)(σ0:St)(H1:Hp):Prop:=zgs (α:=V) sizeLine J g tf te Q σ0 H1
def tComp (src:List (Option Nat))(wi:TI)(g:TG)(tf:TT)(te:TE):TE:=fun σ H Q=>wi σ H fun J H1 =>
 zeA J g tf te (fun ys H2=>∀ D,H2 D=none→Q (.ref D) (upd H2 D (.lst ys))) (zb1 src σ) H1
def EMl (prog:Program)(w:World)(A:Around)(elt:Expr)(env:Env)(D:Addr)(p:Shared→Prop)(s:Shared):Prop:=
 wpAny (model prog w) A (eval elt env) (fun v s5=>wpAny (model prog w) A (call (.builtin "list.append") [.ref D,v]) (fun _ s6=>p s6) (fun _ _=>False) s5) (fun _ _=>False) s
theorem zhQ {prog:Program}{w:World}{A:Around}{elt target iter:Expr}{ifs:List Expr}{scope:Scope}{pos:Pos}{it:Value}:CLoop prog w A target ifs (.ListComp elt [⟨target,iter,ifs,0⟩] scope pos) it (EMl prog w A elt) where
 mono:=fun env D p q s h k=>Xas h (fun v s5 h5=>Xas h5 (fun _ s6 h6=>k s6 h6) fun _ _ e=>e) fun _ _ e=>e
 loop:=fun env D I {R} turn n s h=>zkq I turn n h
 start:=fun env D R s h0 h=>codeAny_compStart_list h0 h
inductive AOl (ys:List V):Obj→Prop
 | mk (its:List Value) (k:Nat):Vals ys its→AOl ys { cls:=.type "list",data:=.seq its.toArray k }
theorem ziO {Y:Cx}{elt:Expr}{te:TE}(he:PE Y elt te)(hxe:Y.xe=fun _ _=>False):PEm sizeLine Y (EMl Y.prog Y.w Y.A elt) AOl te:=by
 intro D pins s σ H Q ys o I hp ao hl h
 refine Xas (he pins s σ H _ I h) (fun v s8 hh_=>?_) fun e s' z=>by rw [hxe] at z;exact z
 obtain ⟨y,H8,I8,r8,q8⟩:=hh_
 have g8:=(I8.pin (D,o) (Xay _ hp)).1
 obtain ⟨its,k,vs3⟩:=ao
 have hl8:=vs3.length
 refine call_meets F.slot_list_append ⟨_,g8,rfl⟩ F.entry_list_append (F.args_list_append_2 _ _) (PySem.list_append D its.toArray k v (by rw [Xal];omega)) ⟨g8,?_⟩
 have qn:=PySem.IsL.update g8 (·.push v)
 rw [show its.toArray.push v=(its ++ [v]).toArray by simp] at qn
 exact ⟨y,H8,s8,_,_,_,I8,.mk (its ++ [v]) _ (vs3.append (.cons r8 .nil)),Heap.SameBut.update _ _ _,qn,rfl,q8⟩
theorem zff {X:Cx}{pins:List (Addr×Obj)}{σ:St}{H2:Hp}{s2:Shared}{Nc:List Str}{src:List (Option Nat)}{scope:Scope}{cl:List (Str×Addr)}{fp:List Addr}{elt tg iter:Expr}{ifs:List Expr}{pos:Pos}
  {it:Addr} {tn:Nat→Heap→Prop} {J:It} {g:TG} {tf:TT} {te:TE} {Qf:List V→Hp→Prop} {E:Value→Shared→Prop} {RR:Value→Addr→Result→Shared→Prop}
  (hc:X.calm=true) (I2:Inv X pins σ H2 s2) (S:CompOk X.N X.env.scope Nc src scope)
  (hcl1:∀ (x:Str) (c:Addr),cl.lookup x=some c→X.env.cells.lookup x=some c) (hcl2:∀ x∈scope.names,x.2 = .free→∃ c,cl.lookup x.1=some c)
  (T:Turn X.prog X.w X.K tg J fp it tn) (st2:tn 0 s2.heap) (f2:∀ b∈fp,FpOk X pins H2 b)
  (hg:∀ cl C fp s2 H2,PG (cxC X Nc scope cl C fp s2 H2) tg g) (hf:∀ cl C fp s2 H2,PF (cxC X Nc scope cl C fp s2 H2) ifs tf) (he:∀ cl C fp s2 H2,PE (cxC X Nc scope cl C fp s2 H2) elt te)
  (hw:zeA J g tf te Qf (zb1 src σ) H2)
  (fin:∀ (H4:Hp) (s4:Shared) (ys:List V) (m:Str→Option Value) (C:Addr),s2.heap.objs.size≤C→H4 s2.heap.objs.size=none→Inv X pins σ (upd H4 s2.heap.objs.size (.lst ys)) s4→s4.heap.Ns C m→upd H4 s2.heap.objs.size (.lst ys) C=none→Qf ys H4→RR (.ref s2.heap.objs.size) C (.ok .next) s4) :
  wpAny (model X.prog X.w) X.A (newList []) (fun acc s3=>wpAny (model X.prog X.w) X.A (newFunctionEnv scope X.env.globals cl [] X.env.qual none .none (some X.env)) (fun cenv s4 =>
   codeAny (model X.prog X.w) X.A (.compStart (.ListComp elt [⟨tg,iter,ifs,0⟩] scope pos) 0 (.ref it) acc { cenv with scope:=relabel scope X.env }) (RR acc cenv.locals) s4) E s3) E s2:=zd2 (α:=V) (B:=sizeLine) (ho:=fun _ ys=>.lst ys) (AO:=AOl) hc I2 S hcl1 hcl2 T st2 f2 hg hf (fun cl C fp s2 H2=>ziO (he cl C fp s2 H2) rfl) (fun _ _ q=>XaL q) rfl (.mk [] 0 .nil) (fun _ _ _ x z=>by cases x;cases z)
  (fun _ _ _ _ _ x hl _ e=>by obtain ⟨its,k,v⟩:=x;exact ⟨hl,its,k,v,e⟩) zhQ hw fin
section
variable {X:Cx}{Nc:List Str}{src:List (Option Nat)}{scope:Scope}{elt tg iter:Expr}{ifs:List Expr}{pos:Pos}{wi:TI}{g:TG}{tf:TT}{te:TE}
theorem zej (src:List (Option Nat))(hc:X.calm=true)(S:CompOk X.N X.env.scope Nc src scope)(hi:PI X tg iter wi)
  (hg:∀ cl C fp s2 H2,PG (cxC X Nc scope cl C fp s2 H2) tg g) (hf:∀ cl C fp s2 H2,PF (cxC X Nc scope cl C fp s2 H2) ifs tf) (he:∀ cl C fp s2 H2,PE (cxC X Nc scope cl C fp s2 H2) elt te)
  (hs:∀ x,foldedSetIterable iter X.env x=pure x:=by intro _;rfl):PE X (.ListComp elt [⟨tg,iter,ifs,0⟩] scope pos) (tComp src wi g tf te):=by
 intro pins s σ H Q I h
 obtain ⟨cl,hclos,hcl1,hcl2⟩:=zbG I.ok (scope:=scope) S.free
 rw [eval_ListComp]
 refine wpAny_comprehension_free (use:=none) rfl hs hclos S.kind (fun x hx hl=>by obtain ⟨n,k⟩:=x;cases hl;exact zbE S.nodup hx) (thn (hi pins s σ H _ I h) fun xv s1 h1=>thn h1 fun itv s2 h2=>?_)
 obtain ⟨it,fp,tn,J,H2,e,I2,T,st2,f2,hw⟩:=h2
 subst e
 refine zff (RR:=fun acc C=>compPost (model X.prog X.w) X.A X.xe none (EP X pins σ Q) acc C) hc I2 S hcl1 hcl2 T st2 f2 hg hf he hw ?_
 intro H4 s4 ys m C hC hD Iout hn hCn q
 refine ⟨m,hn,fun h' sb=>⟨.ref s2.heap.objs.size,_,?_,rfl,q _ hD⟩⟩
 obtain ⟨f0,f1,f3,f4,f5,f6⟩:=I2.fpOk (H':=upd H4 s2.heap.objs.size (.lst ys)) hC hCn
 exact Iout.turned (t':=s4.toks) (it:=C) (fun b o hb e=>(sb.2 b hb).trans e) f0 f1 f4 f5 f6
theorem zbu {i:Nat}{y:Str}{pos' spos:Pos}(src:List (Option Nat))(hN:X.N.Nodup)(hi':X.N[i]? = some y)(hy:X.env.scope.names.lookup y=some .local)
  (hc:X.calm=true) (S:CompOk X.N X.env.scope Nc src scope) (hi:PI X tg iter wi)
  (hg:∀ cl C fp s2 H2,PG (cxC X Nc scope cl C fp s2 H2) tg g) (hf:∀ cl C fp s2 H2,PF (cxC X Nc scope cl C fp s2 H2) ifs tf) (he:∀ cl C fp s2 H2,PE (cxC X Nc scope cl C fp s2 H2) elt te)
  (hsw:swapsWith (.ListComp elt [⟨tg,iter,ifs,0⟩] scope pos) (some (.Name y pos')) spos.line X.env=pure true:=by rfl)
  (hs:∀ x,foldedSetIterable iter X.env x=pure x:=by intro _;rfl):PS X (.Assign [.Name y pos'] (.ListComp elt [⟨tg,iter,ifs,0⟩] scope pos) spos) (tAsg (tComp src wi g tf te) (zaE i)):=by
 intro pins s σ H D I h
 obtain ⟨cl,hclos,hcl1,hcl2⟩:=zbG I.ok (scope:=scope) S.free
 rw [exec_Assign_Name_used _ _ _ _ hsw]
 refine Xaa (Xbh (Xaa ?_))
 show wpAny _ X.A (do let _ ← comprehension (.ListComp elt [⟨tg,iter,ifs,0⟩] scope pos) scope X.env _ (newList []) false (eval iter X.env) (some (assign (.Name y pos') X.env))) _ _ s
 refine Xaa (Xas (wpAny_comprehension_free (use:=some (assign (.Name y pos') X.env)) (Q:=fun _ s'=>SP X pins D .next s') rfl hs hclos S.kind (fun x hx hl=>by obtain ⟨n,k⟩:=x;cases hl;exact zbE S.nodup hx)
  (thn (hi pins s σ H _ I h) fun xv s1 h1=>thn h1 fun itv s2 h2=>?_)) (fun _ s' hq=>Xac (Xac hq)) fun _ _ e=>e)
 obtain ⟨it,fp,tn,J,H2,e,I2,T,st2,f2,hw⟩:=h2
 subst e
 refine zff (RR:=fun acc C=>compPost (model X.prog X.w) X.A X.xe (some (assign (.Name y pos') X.env)) (fun _ s'=>SP X pins D .next s') acc C) hc I2 S hcl1 hcl2 T st2 f2 hg hf he hw ?_
 intro H4 s4 ys m C hC hD Iout hn hCn q
 show wpAny _ X.A (assign (.Name y pos') X.env (.ref s2.heap.objs.size)) _ _ _
 refine wpAny_assign_Name (zeE (i:=i) Iout hN hi' (.inl hy) (v:=.ref s2.heap.objs.size) rfl (fun s5 I5 ch=>?_) (.inr hy))
 obtain ⟨f0,f1,f3,f4,f5,f6⟩:=I2.fpOk (H':=upd H4 s2.heap.objs.size (.lst ys)) hC hCn
 obtain ⟨a,sb,ha⟩:=ch
 have hCa:C≠a:=by
  rcases ha with ha | ha
  ·rw [ha];exact f1
  ·exact fun z=>f5 _ _ ha z.symm
 refine ⟨m,hn.sameBut sb hCa,fun h' sb'=>⟨_,_,I5.turned (t':=s5.toks) (it:=C) (fun b o hb e=>(sb'.2 b hb).trans e) f0 f1 f4 f5 f6,q _ hD⟩⟩
end
section
variable {X:Cx}{pins:List (Addr×Obj)}{σ:St}{H:Hp}{s:Shared}
theorem Inv.turnedL {h':Heap}{t':Nat}{ch:List Addr}(I:Inv X pins σ H s)(k:∀ b o,b ∉ ch→s.heap.get? b=some o→h'.get? b=some o)(hf:∀ b∈ch,FpOk X pins H b):Inv X pins σ H { s with heap:=h',toks:=t' }:=by
 have nit:∀ b u,H b=some u→b ∉ ch:=fun b u e z=>by rw [(hf b z).1] at e;cases e
 refine I.step (g':=s.gens) (d':=s.drawn) (ch:=ch) (fun b hb=>?_) (fun b o _ _ hc e _=>k b o hc e) (fun b o _ _ hc e _=>⟨o.slots,k b o hc e⟩) (fun _ _ _ _ n=>n)
  (fun b o hc e=>⟨o,k b o hc e⟩) (fun _ _ e=>e) (fun _ _ _ e=>e) (fun b ps e=>⟨#[],by rw [e];simp⟩) (fun m hm=>?_) (fun b u e=>?_) I.bare
 ·obtain ⟨_,a1,_,a3,a4,a5⟩:=hf b hb
  exact ⟨a3,a1,a4,a5⟩
 ·obtain ⟨o,es,ep,ho,r⟩:=hm
  exact ⟨o,es,ep,k _ o (fun z=>(hf _ z).2.1 rfl) ho,r⟩
 ·refine (I.hok b u e).stay (fun c v hc q=>k c v ?_ q) (fun _ q=>q) fun _ _ q=>q
  rcases hc with z | z
  ·rw [z];exact nit b u e
  ·exact nit c _ z
theorem Un.track' {fs ex:List Addr}{H H':Hp}{h h':Heap}{a:Addr}{o:HO}(u:Un fs ex H H' h h')(hp:h.objs.size≤a)(hn:H' a=none):Un fs ex H (upd H' a o) h h' where
 keep:=u.keep
 slot:=u.slot
 free:=fun b v q n x=>by rw [zai (Xav (Xaj (Xan q) hp))];exact u.free b v q n x
 there:=u.there
 tups:=fun b xs q=>by rw [zai (zah (u.tups b xs q) hn)];exact u.tups b xs q
 frzs:=fun b v xs q=>by rw [zai (zah (u.frzs b v xs q) hn)];exact u.frzs b v xs q
 tbls:=fun b ps q=>by
  obtain ⟨m,e⟩:=u.tbls b ps q
  exact ⟨m,by rw [zai (zah e hn)];exact e⟩
theorem Inv.track {a:Addr}{o:HO}(I:Inv X pins σ H s)(f:FpOk X pins H a)(hs:X.s₀.heap.objs.size≤a)(new:ObjOk X.prog X.w (upd H a o) s.heap a o):Inv X pins σ (upd H a o) s:=by
 obtain ⟨hn,h1,_,_,h4,h5⟩:=f
 refine ⟨I.ok,I.os,I.bare,Un.track' I.base hs hn,I.loc,I.cell,by rw [zai (Ne.symm h1)];exact I.free,fun x c e=>by rw [zai (h4 x c e)];exact I.freeC x c e,fun p hp=>?_,HOk.track I.hok hn new,I.len⟩
 obtain ⟨a1,a2,a3⟩:=I.pin p hp
 exact ⟨a1,by rw [zai (h5 p hp)];exact a2,a3⟩
end
theorem zjS {P:Program}{w:World}{H:Hp}{h:Heap}{T:Addr}{x y:V}{u v:Value}(r:RelV x u)(q:RelV y v)(e:h.get? T=some { cls:=.type "tuple",data:=.seq #[u,v] }):ObjOk P w H h T (.tup [x,y]):=
 ⟨⟨by show 2≤sizeLine;decide,_,e,rfl⟩,[u,v],.cons r (.cons q .nil),⟨_,e,rfl,_,rfl⟩⟩
section
variable {X:Cx}{CX:CXT}{k:Nat}{f:Addr}{fd:FuncData}{ps ks:List Str}{sp:Sp}{E:XK}{x:Str}{p pos:Pos}{kws:List Keyword}{tk:TA}{g:List Value→List Value→List Value}{gV:List V→List V→List V}
theorem Fun.kbinds {K:W.Frag}{x qual:Str}{st:Stmt}{f:Addr}{fd:FuncData}{ps ks:List Str}{g:List Value→List Value→List Value}{gV:List V→List V→List V}(F:Fun K x qual st f fd)
  (h:∀ (kV doc pm:Value) (an:Option Addr) (cdv ct:Value) (us ws:List Value),(g us ws).length=ps.length→bindArgs (W.fnOf x qual (zbi st) (zaP st) (zak st) .none kV doc pm an cdv ct) ⟨us,ks.zip ws⟩=pure (ps.zip (g us ws)))
  (rel:∀ {vs:List V} {us:List Value} {zs:List V} {ws:List Value},Vals vs us→Vals zs ws→Vals (gV vs zs) (g us ws)):KBinds K fd ps ks g gV:=by
 obtain ⟨oc,od,kV,doc,pm,an,cdv,ct,osl,rfl,lk,hcd⟩:=F.ex
 exact ⟨fun s us ws _ hl=>.of_eq (h kV doc pm an cdv ct us ws hl),rel⟩
end
section
variable {X:Cx}
theorem zfC (val:Nat→Int)(ns:List Int)(h:∀ i n,ns[i]? = some n→val i=n):∀ j,j≤ns.length→preSum val j=(ns.take j).sum:=by
 intro j
 induction j with
 | zero=>intro _;rfl
 | succ j ih =>
  intro hj
  have hlt:j<ns.length:=hj
  show preSum val j+val j=_
  rw [ih (Nat.le_of_lt hlt),h j ns[j] (by simp [hlt]),List.take_succ,List.sum_append]
  simp [hlt]
theorem zif (hc:X.calm=true):zbx X (.builtin "sum") (fun xs H Q=>∃ (a:Addr) (ns:List Int),xs=[.ref a]∧SqL X.K H a (ns.map V.int)∧Q (.int ns.sum) H):=by
 intro pins s σ H xs us Q I r h
 obtain ⟨a,ns,rfl,hq,q⟩:=h
 obtain ⟨u,rfl,ru⟩:=zdL r
 cases ru
 obtain ⟨its,rv,p,hz⟩:=I.list hq
 have hi:=zgU rv
 have hl:=hi.length
 refine call_sum_walkG (wpAny_pyIter_list p.isList ?_)
 have hne:a≠s.heap.objs.size:=by
  obtain ⟨o,ho,_⟩:=p.isList
  exact Xav (Xan ho)
 refine ⟨s.heap.objs.size,_,_,_,_,_,fun i=>(ns[i]?).getD 0,rfl,Walks.list (A:=X.A.in1) (I.ok.hd hc) s.heap.objs.size a hne its.toArray,⟨⟨_,Xam _ rfl,rfl,rfl⟩,p.isList.push _⟩,?_,?_,fun h' tk t' kk=>?_⟩
 ·intro b hb
  simp only [Xap,List.mem_nil_iff,or_false] at hb
  rw [show ({ s with heap:=s.heap.push _ }:Shared).heap.objs.size=s.heap.objs.size+1 from XaU ..]
  rcases hb with rfl | rfl
  ·exact Xa2 _
  ·obtain ⟨o,ho,_⟩:=p.isList
   exact Nat.lt_succ_of_lt (Xan ho)
 ·intro i v hv
  have hv':its[i]? = some v:=by simpa using hv
  cases hn:ns[i]? with
  | none =>
   exfalso
   rw [List.getElem?_eq_none_iff,← hl] at hn
   rw [XaR hn] at hv'
   cases hv'
  | some n =>
   obtain ⟨t,ht⟩:=hi.get i n hn
   rw [ht] at hv';cases hv'
   exact ⟨t,by show Value.int n t=Value.int ((ns[i]?).getD 0) t;rw [hn];rfl⟩
 ·have e:preSum (fun i=>(ns[i]?).getD 0) its.toArray.size=ns.sum:=by
   rw [zfC _ ns (fun i n h=>by rw [h];rfl) _ (by simp;omega),XaX (by simp;omega)]
  rw [e]
  refine ⟨.int ns.sum,H,I.kept (t':=tk) fun b o e1=>kk b o (fun hb=>?_) (Xad _ e1),⟨t',rfl⟩,q⟩
  have hb:=Xab.mp hb
  exact absurd (Xan e1) (by rw [hb];exact XaT _)
theorem ziq (bs:List Bool)(tr:Nat→Bool)(h:∀ i b,bs[i]? = some b→tr i=b):(List.range bs.length).all tr=bs.all id:=by
 induction bs generalizing tr with
 | nil=>rfl
 | cons b r ih =>
  rw [Xaw,List.range_succ_eq_map,List.all_cons,List.all_map,List.all_cons,h 0 b rfl]
  have:=ih (tr ∘ Nat.succ) (fun i c hi=>h (i+1) c (by simpa using hi))
  rw [this];rfl
theorem zfj (hc:X.calm=true):zbx X (.builtin "all") (fun xs H Q=>∃ (a:Addr) (bs:List Bool),xs=[.ref a]∧SqL X.K H a (bs.map V.bl)∧Q (.bl (bs.all id)) H):=by
 intro pins s σ H xs us Q I r h
 obtain ⟨a,bs,rfl,hq,q⟩:=h
 obtain ⟨u,rfl,ru⟩:=zdL r
 cases ru
 obtain ⟨its,rv,p,hz⟩:=I.list hq
 have hl:=rv.length
 rw [Xah] at hl
 refine call_all_walk (wpAny_pyIter_list p.isList ?_)
 have hne:a≠s.heap.objs.size:=by
  obtain ⟨o,ho,_⟩:=p.isList
  exact Xav (Xan ho)
 refine ⟨s.heap.objs.size,_,_,_,_,_,fun i=>(bs[i]?).getD true,rfl,Walks.list (A:=X.A.in1) (I.ok.hd hc) s.heap.objs.size a hne its.toArray,⟨⟨_,Xam _ rfl,rfl,rfl⟩,p.isList.push _⟩,?_,fun h' tk kk=>?_⟩
 ·intro i v s' Q' E' hv hq'
  have hv':its[i]? = some v:=by simpa using hv
  cases hn:bs[i]? with
  | none =>
   exfalso
   rw [List.getElem?_eq_none_iff,hl] at hn
   rw [XaR hn] at hv'
   cases hv'
  | some b =>
   obtain ⟨u',hu',ru'⟩:=rv.get (i:=i) (x:=V.bl b) (by simp [hn])
   obtain rfl:u'=Value.bool b:=ru'
   rw [hu'] at hv';cases hv'
   have hq2:Q' ((bs[i]?).getD true) s':=hq'
   rw [hn] at hq2
   exact XaS hq2
 ·have e:(List.range its.toArray.size).all (fun i=>(bs[i]?).getD true)=bs.all id:=by
   rw [show its.toArray.size=bs.length by simp;omega]
   exact ziq bs _ fun i b h=>by rw [h];rfl
  rw [e]
  refine ⟨.bl _,H,I.kept (t':=tk) fun b o e1=>kk b o (fun hb=>?_) (Xad _ e1),rfl,q⟩
  have hb:=Xab.mp hb
  exact absurd (Xan e1) (by rw [hb];exact XaT _)
theorem rl_int:RelV (.ty "int") (.type "int"):=rfl
theorem zhq:RelV (.ty "bool") (.type "bool"):=rfl
theorem zgo:bootBuiltins "int" = some (.type "int"):=by decide +kernel
theorem zik:bootBuiltins "bool" = some (.type "bool"):=by decide +kernel
theorem zbQ:bootBuiltins "isinstance" = some (.builtin "isinstance"):=by decide +kernel
theorem zjJ:bootBuiltins "all" = some (.builtin "all"):=by decide +kernel
inductive rCatS (K:W.Frag)(x:V)(y:V)(H:Hp)(Q:VK):Prop
 | mk (a:_) (b:_) (xs:_) (ys:_) (z0_:x = .ref a) (z1_:y = .ref b) (z2_:SqL K H a xs) (z3_:SqL K H b ys) (z4_:xs.length+ys.length≤sizeLine) (z5_:∀ p,H p=none→Q (.ref p) (upd H p (.lst (xs ++ ys))))
theorem zkf:OpR X (binaryOp .Add) (rCatS X.K):=by
 intro pins s σ H x y v u Q I rx ry h
 obtain ⟨a,b,xs,ys,rfl,rfl,hq,hq2,hz,q⟩:=h
 cases rx
 cases ry
 obtain ⟨its,rv,p,_⟩:=I.list hq
 obtain ⟨its2,rv2,p2,_⟩:=I.list hq2
 have e1:=rv.length
 have e2:=rv2.length
 obtain ⟨⟨cls,dd,data,sl⟩,ho,hc,n,hd⟩:=id p.isList
 obtain ⟨⟨cls2,dd2,data2,sl2⟩,ho2,hc2,n2,hd2⟩:=id p2.isList
 simp only at hc hd hc2 hd2
 subst hc hd hc2 hd2
 have ea:its.toArray ++ its2.toArray=(its ++ its2).toArray:=by simp
 refine concat_meets ⟨_,ho,rfl⟩ ⟨_,ho2,rfl⟩ noFill_list_add seq_list_add PySem.F.slot_list_add PySem.F.entry_list_add (PySem.F.args_list_add_2 _ _) (list_addW a b its.toArray its2.toArray n n2 dd dd2 sl sl2 (by rw [Xal,Xal];omega)) ⟨ho,ho2,?_⟩
 rw [ea]
 exact ⟨.ref _,_,I.lnew (t':=s.toks) (rv.append rv2) (by rw [Xaq];omega),rfl,q _ I.fresh⟩
theorem zce:OpR X (binaryOp .Mult) (rI IntMulOk fun i j=>.int (i * j)):=opI fun _ _ _ _ _ _ _ hc q=>mul_int q hc
theorem zay:OpR X (binaryOp .FloorDiv) (rI (fun _ j=>0<j∧j.natAbs.log2<9000) fun i j=>.int (i / j)):=opI fun i j _ _ _ _ _ hc q=>by
 have e:i.fdiv j=i / j:=Int.fdiv_eq_ediv_of_nonneg _ (Int.le_of_lt hc.1)
 exact floordiv_int (by have:=hc.1;omega) (by rw [e];exact q) (.inl (PyProof.noPylong_of_log2 hc.2))
end
theorem bits_script {ns:List Int}(h:W.WData.layableAll [W.WData.list (ns.map W.WData.int)]=true):∀ n∈ns,Builtin.Int.intBits n≤2 ^ 20:=by
 intro n hn
 have h1:(W.WData.list (ns.map W.WData.int)).layable=true:=by
  have:=Xa5.mp h _ XaE
  exact this
 have hw:=(W.layableW_iff.mp h1).2.2
 have key:∀ l:List Int,n∈l→Builtin.Int.intBits n≤W.WData.weightAll (l.map W.WData.int):=by
  intro l
  induction l with
  | nil=>intro h;cases h
  | cons m r ih =>
   intro hm
   rw [XaN,W.WData.weightAll]
   rcases Xap.mp hm with e | hm
   ·subst e
    have:Builtin.Int.intBits n≤(W.WData.int n).weight:=by
     simp only [W.WData.weight,Builtin.Int.intBits]
     omega
    omega
   ·have:=ih hm
    omega
 have h2:=key ns hn
 rw [W.WData.weight] at hw
 omega
end L2
namespace Att
open PySem PySem.W PyProof.Rows PySem.Calls
theorem attach_callB {l:OpenLaw}{n:Nat}{q:Program}{loose:List Str}{XP:(Str→Option Value)→Heap→Prop}{YP:World→Heap→Prop}{d:DefRec}
  (hn:l.most=some n) (hdf:d.params.defaults=[])
  (call:∀ (w:World) (s₀ s₁:Shared) (mg mb:Str→Option Value) (fa:Addr) (o:Obj) (pm cd doc:Value) (a:Addr) (vs:List Value) (ns:List Int),
   Ground q loose [] XP w s₀ mg mb s₁.heap→YP w s₁.heap →
   s₁.heap.get? fa=some o→o.data = .func (docDef d.name d.params d.body d.scope pm cd doc)→s₁.heap.CodeRec cd d.name→mg d.name=some (.ref fa) →
   s₁.heap.get? a=some { cls:=.type "list",data:=.seq vs.toArray }→IntsAre vs ns→ns.length≤n→(∀ m∈ns,Builtin.Int.intBits m≤2 ^ 20)→s₁.gens = #[] →
   codeAny (model l.prog w) callerA (.call (.ref fa) ⟨[.ref a],[]⟩) (fun r s'=>r = .ok (.ret (.bool true))∧OldK s₁.heap s'.heap∧s'.os=s₁.os∧AllBare s'.gens) s₁) :
  WalkO q loose XP YP l.row.toRowW d [] (fun f vs=>PySem.call f vs):=by
 intro w s₀ s₁ mg mb G Y fa o pm cd doc dV kV ho hd hcd hD hmg hg args vals as hpre hlay hrd hwl hlo
 obtain rfl:dV = .none:=Dflts.none hD hdf
 obtain rfl:kV = .none:=Dflts.noKw hD
 obtain ⟨a,vs,ns,rfl,rfl,hobj,hints,hlen⟩:=zhj hn hpre hwl
 refine enter_call (Xbn (call w s₀ s₁ mg mb fa o pm cd doc a vs ns G Y ho (fd_plain hd) hcd hmg hobj hints hlen (L2.bits_script hlay) hg) fun r s' hq=>?_)
 obtain ⟨rfl,h2,h3,h4⟩:=hq
 exact ⟨.inl ⟨.bool true,.bool true,[],rfl,fun _=>rfl,.bool true,zhx l _,fun _=>⟨List.Pairwise.nil,fun _ hm=>(nomatch hm)⟩⟩,h2,h3,h4⟩
end Att
namespace L2
open PySem PySem.Spec PyProof.Rows
theorem walk_ofB {l:W.OpenLaw}{n k:Nat}{q:Program}{loose:List Str}{XP:(Str→Option Value)→Heap→Prop}{YP:World→Heap→Prop}{d:DefRec}{K:Params→W.Frag}{CX:World→CXT}{sp:World→Sp}{x:Str}
  (hn:l.most=some n) (hn2:n≤sizeLine) (hdf:d.params.defaults=[]) (hr:Room k callerA)
  (hY:∀ (w:World) (h:Heap),YP w h→(K w.params).In h)
  (F:∀ (w:World) (mg:Str→Option Value) (fa:Addr) (h:Heap),(K w.params).In h→h.Ns mainGlobals mg→mg d.name=some (.ref fa) →
   ∃ fd:FuncData,(∀ (s:Shared) (u:Value),BindsTo s fd ⟨[u],[]⟩ [(x,u)]) ∧
    ∀ base:Heap,(K w.params).In base→base.Ns mainGlobals mg→FnOk l.prog w (K w.params) mg base (CX w) k fa fd [x] (sp w))
  (hsp:∀ (w:World) (H:Hp) (a:Addr) (ns:List Int),ns.length≤n→(∀ m∈ns,Builtin.Int.intBits m≤2 ^ 20)→Only H→SqL (K w.params) H a (ns.map V.int)→sp w [.ref a] H (fun v _=>v = .bl true) fun _ _ _=>False)
  (hCX:∀ (w:World) (H:Hp) (s:Shared) (e:Value) (s':Shared),CX w [] H s (fun _ _ _=>False) e s'→False) :
  W.WalkO q loose XP YP l.row.toRowW d [] (fun f vs=>PySem.call f vs):=by
 refine Att.attach_callB hn hdf fun w s₀ s₁ mg mb fa o pm cd doc a vs ns G Y ho hd hcd hmg hobj hints hlen hbits hg=>?_
 have KX:=hY w _ Y
 obtain ⟨fd,hb,hF⟩:=F w mg fa _ KX G.T.g hmg
 exact zi3 KX G.T.g G.T.b G.T.builtins G.T.nolimit hg hobj hints (Xar hlen hn2) hr hF hb (fun H hO hS=>hsp w H a ns hlen hbits hO hS) fun H e s'=>hCX w H s₁ e s'
section
variable {K:W.Frag}{g:TG}{tf:TT}{te:TE}{Q:List V→Hp→Prop}{σ:St}{H:Hp}
theorem zbT {lo:Int}{n:Nat}(Pv:Nat→List V→St→Hp→Prop)(hn:n≤sizeLine)(h0:Pv 0 [] σ H)(hz:∀ i ys σ H,Pv i ys σ H→ys.length≤i)
  (hs:∀ i ys σ H,i<n→Pv i ys σ H→g (.int (lo+i)) σ H fun σ2 H2=>tf σ2 H2 fun b H3=>if b=true then te σ2 H3 fun y H4=>Pv (i+1) (ys ++ [y]) σ2 H4 else Pv (i+1) ys σ2 H3)
  (hd:∀ ys σ H,Pv n ys σ H→Q ys H):zeA (Itr lo n) g tf te Q σ H:=by
 refine ⟨fun i m ys σ H=>m=n - i∧i≤n∧Pv i ys σ H,⟨n,by simp,Nat.zero_le _,h0⟩,?_⟩
 rintro i m ys σ H ⟨rfl,hi,p⟩
 have hl:=hz i ys σ H p
 by_cases hlt:i<n
 ·refine .inr ⟨hlt,by omega,Pv (i+1),fun ys' σ' H' p'=>⟨n - (i+1),by omega,rfl,hlt,p'⟩,fun x H' y=>?_⟩
  obtain ⟨e,y⟩:=y
  subst e y
  exact hs i ys σ _ hlt p
 ·have e:i=n:=by omega
  subst e
  exact .inl ⟨Xaf _,by omega,hd ys σ H p⟩
theorem zdI {a:Addr}{xs:List V}(Pv:Nat→List V→St→Hp→Prop)(hn:xs.length≤sizeLine)(h0:Pv 0 [] σ H)(hl:∀ i ys σ H,i≤xs.length→Pv i ys σ H→SqL K H a xs∧ys.length≤i)
  (hs:∀ i x ys σ H,xs[i]? = some x→Pv i ys σ H→g x σ H fun σ2 H2=>tf σ2 H2 fun b H3=>if b=true then te σ2 H3 fun y H4=>Pv (i+1) (ys ++ [y]) σ2 H4 else Pv (i+1) ys σ2 H3)
  (hd:∀ ys σ H,Pv xs.length ys σ H→Q ys H):zeA (Itl K a) g tf te Q σ H:=by
 refine ⟨fun i m ys σ H=>m=xs.length - i∧i≤xs.length∧Pv i ys σ H,⟨xs.length,by simp,Nat.zero_le _,h0⟩,?_⟩
 rintro i m ys σ H ⟨rfl,hi,p⟩
 obtain ⟨q,hz⟩:=hl i ys σ H hi p
 by_cases hlt:i<xs.length
 ·refine .inr ⟨⟨xs,xs[i],q,by simp [hlt]⟩,by omega,Pv (i+1),fun ys' σ' H' p'=>⟨xs.length - (i+1),by omega,rfl,hlt,p'⟩,fun x H' y=>?_⟩
  obtain ⟨e,y⟩:=y
  subst e
  exact hs i x ys σ _ (y xs q) p
 ·have e:i=xs.length:=by omega
  subst e
  exact .inl ⟨⟨xs,q,Xaf _⟩,by omega,hd ys σ H p⟩
end
theorem zh1 {K:W.Frag}{i j:Nat}{T:Addr}{x y:V}{σ:St}{H:Hp}{Q:St→Hp→Prop}(h:Q ((σ.set i (some x)).set j (some y)) (upd H T (.tup [x,y]))) :
  gTup K 2 (gCons (zaE i) (gCons (zaE j) gNil)) (.ref T) σ (upd H T (.tup [x,y])) Q:=
 ⟨T,[x,y],rfl,SqT.of zab,rfl,x,[y],rfl,y,[],rfl,rfl,h⟩
end L2
end
section
namespace Cb
open PySem
def zbX:Nat→Nat→List Nat
 | _,0=>[]
 | n,m+1=>(n % 2) :: zbX (n / 2) m
def num:List Nat→Nat
 | []=>0
 | b :: r=>b+2 * num r
def Bit (l:List Nat):Prop:=∀ b∈l,b≤1
theorem zcR:∀ m n,(zbX n m).length=m
 | 0,_=>rfl
 | m+1,n=>by simp [zbX,zcR m]
theorem zfm:∀ m n,Bit (zbX n m)
 | 0,_=>fun b h=>by simp [zbX] at h
 | m+1,n=>fun b h=>by
  rcases Xap.mp (show b∈(n % 2) :: zbX (n / 2) m from h) with e | h
  ·omega
  ·exact zfm m (n / 2) b h
theorem zd3:∀ k n,zbX n (k+1)=zbX n k ++ [n / 2 ^ k % 2]
 | 0,n=>by simp [zbX]
 | k+1,n=>by
  show (n % 2) :: zbX (n / 2) (k+1)=((n % 2) :: zbX (n / 2) k) ++ _
  rw [zd3 k (n / 2),Nat.div_div_eq_div_mul,Xbg,Nat.mul_comm (2 ^ k) 2]
  rfl
theorem zdx:∀ m n,num (zbX n m)=n % 2 ^ m
 | 0,n=>by simp [zbX,num,Nat.mod_one]
 | m+1,n=>by
  simp only [zbX,num,zdx m,Xbg]
  rw [Nat.mul_comm (2 ^ m) 2,Nat.mod_mul]
def ones:Nat→Nat
 | 0=>0
 | n+1=>(n+1) % 2+ones ((n+1) / 2)
decreasing_by omega
theorem zds (n:Nat):ones n=n % 2+ones (n / 2):=by
 cases n with
 | zero=>simp [ones]
 | succ n=>rw [ones]
def sgl:Nat→List Nat
 | 0=>[]
 | n+1=>if (n+1) % 2=1 then 1 :: (sgl ((n+1) / 2)).map (2 * ·) else (sgl ((n+1) / 2)).map (2 * ·)
decreasing_by all_goals omega
theorem zc3:sgl 0=[]:=by simp [sgl]
theorem zdd (n:Nat):sgl (2 * n+1)=1 :: (sgl n).map (2 * ·):=by
 rw [sgl,if_pos (by omega),show (2 * n+1) / 2=n by omega]
theorem zbR (n:Nat):sgl (2 * n)=(sgl n).map (2 * ·):=by
 cases n with
 | zero=>simp [sgl]
 | succ n =>
  rw [show 2 * (n+1)=(2 * n+1)+1 by omega,sgl,if_neg (by omega),show (2 * n+1+1) / 2=n+1 by omega]
theorem zbt:∀ n,(sgl n).length=ones n:=by
 intro n
 induction n using Nat.strongRecOn with
 | _ n ih =>
  rcases Nat.mod_two_eq_zero_or_one n with h | h
  ·by_cases h0:n=0
   ·subst h0;simp [sgl,ones]
   ·have e:n=2 * (n / 2):=by omega
    rw [zds,h]
    conv=>lhs;rw [e]
    rw [zbR,Xah,ih _ (by omega)];omega
  ·have e:n=2 * (n / 2)+1:=by omega
   rw [zds,h]
   conv=>lhs;rw [e]
   rw [zdd,Xaw,Xah,ih _ (by omega)];omega
theorem zhT (a b:Nat):(2 * a) &&& (2 * b)=2 * (a &&& b):=by
 apply Nat.eq_of_testBit_eq;intro i
 cases i with
 | zero=>simp [XaA]
 | succ i =>
  rw [XaA,Xa6,Xa6,Xa6,show (2 * a) / 2=a by omega,show (2 * b) / 2=b by omega,show (2 * (a &&& b)) / 2=(a &&& b) by omega,XaA]
theorem zi6 (a b:Nat):(2 * a+1) &&& (2 * b+1)=2 * (a &&& b)+1:=by
 apply Nat.eq_of_testBit_eq;intro i
 cases i with
 | zero=>simp [XaA]
 | succ i =>
  rw [XaA,Xa6,Xa6,Xa6,show (2 * a+1) / 2=a by omega,show (2 * b+1) / 2=b by omega,show (2 * (a &&& b)+1) / 2=(a &&& b) by omega,XaA]
theorem zfS (a b:Nat):(2 * a+1) &&& (2 * b)=2 * (a &&& b):=by
 apply Nat.eq_of_testBit_eq;intro i
 cases i with
 | zero=>simp [XaA]
 | succ i =>
  rw [XaA,Xa6,Xa6,Xa6,show (2 * a+1) / 2=a by omega,show (2 * b) / 2=b by omega,show (2 * (a &&& b)) / 2=(a &&& b) by omega,XaA]
theorem zhU (a b:Nat):(2 * a) &&& (2 * b+1)=2 * (a &&& b):=by rw [Nat.and_comm,zfS,Nat.and_comm]
theorem ziA:∀ n,0<n→(n &&& (n - 1))<n∧sgl n=(n - (n &&& (n - 1))) :: sgl (n &&& (n - 1)):=by
 intro n
 induction n using Nat.strongRecOn with
 | _ n ih =>
  intro hn
  rcases Nat.mod_two_eq_zero_or_one n with h | h
  ·have e:n=2 * (n / 2):=by omega
   obtain ⟨h1,h2⟩:=ih (n / 2) (by omega) (by omega)
   generalize n / 2=m at *
   subst e
   have e2:2 * m - 1=2 * (m - 1)+1:=by omega
   rw [e2,zhU]
   refine ⟨by omega,?_⟩
   rw [zbR,zbR,h2,XaN]
   congr 1
   omega
  ·have e:n=2 * (n / 2)+1:=by omega
   generalize n / 2=m at *
   subst e
   have e2:2 * m+1 - 1=2 * m:=by omega
   rw [e2,zfS,Nat.and_self]
   exact ⟨by omega,by rw [zdd,zbR];congr 1;omega⟩
theorem zdr:∀ m n,n<2 ^ m→ones n≤m
 | 0,n,h=>by simp at h;subst h;simp [ones]
 | m+1,n,h=>by
  have:=zdr m (n / 2) (by rw [Xbg] at h;omega)
  rw [zds];omega
theorem band (a b:Nat):Builtin.bitAnd (a:Int) (b:Int)=((a &&& b:Nat):Int):=by
 unfold Builtin.bitAnd
 simp
end Cb
end
section
namespace L2
open PySem PySem.Spec PyProof.Rows
def zcn (N:List Str)(names:List (Str×NameKind)):List (Option Nat)→List Str→Bool
 | [],[]=>true
 | none :: r,_ :: s=>zcn N names r s
 | some i :: r,x :: s=>(N[i]? == some x) && (names.lookup x == some .free) && zcn N names r s
 | _,_=>false
def ndOk:List (Str×NameKind)→Bool
 | []=>true
 | x :: r=>(r.all fun y=>x.1 != y.1) && ndOk r
def zfg (N:List Str)(osc:Scope)(Nc:List Str)(src:List (Option Nat))(scope:Scope):Bool:=
 scope.kind == .function && (scope.names.all fun x=>x.2 != .cell) && ndOk scope.names &&
 (scope.names.all fun x=>x.2 != .free || osc.names.lookup x.1 == some .cell || osc.names.lookup x.1 == some .free) && zcn N scope.names src Nc
theorem zda {N:List Str}{names:List (Str×NameKind)}:∀ {src:List (Option Nat)} {Nc:List Str},zcn N names src Nc=true→src.length=Nc.length
 | [],[],_=>rfl
 | none :: r,_ :: s,h=>by simp only [Xaw];rw [zda (src:=r) (Nc:=s) h]
 | some i :: r,x :: s,h=>by
  simp only [zcn,XaD] at h
  simp only [Xaw];rw [zda h.2]
 | [],_ :: _,h=>by simp [zcn] at h
 | none :: _,[],h=>by simp [zcn] at h
 | some _ :: _,[],h=>by simp [zcn] at h
theorem zc9 {N:List Str}{names:List (Str×NameKind)}:∀ {src:List (Option Nat)} {Nc:List Str},zcn N names src Nc=true→∀ (j i:Nat),src[j]? = some (some i)→∃ x,Nc[j]? = some x∧N[i]? = some x∧names.lookup x=some .free
 | [],[],_,j,i,e=>by simp at e
 | none :: r,y :: s,h,0,i,e=>by simp at e
 | none :: r,y :: s,h,j+1,i,e=>by
  have:=zc9 (src:=r) (Nc:=s) h j i (by simpa using e)
  simpa using this
 | some k :: r,x :: s,h,0,i,e=>by
  simp only [zcn,XaD,beq_iff_eq] at h
  simp only [List.getElem?_cons_zero,Option.some.injEq] at e
  subst e
  exact ⟨x,rfl,h.1.1,h.1.2⟩
 | some k :: r,x :: s,h,j+1,i,e=>by
  simp only [zcn,XaD] at h
  have:=zc9 (src:=r) (Nc:=s) h.2 j i (by simpa using e)
  simpa using this
 | [],_ :: _,h,_,_,_=>by simp [zcn] at h
 | none :: _,[],h,_,_,_=>by simp [zcn] at h
 | some _ :: _,[],h,_,_,_=>by simp [zcn] at h
theorem zhP:∀ {l:List (Str×NameKind)},ndOk l=true→l.Pairwise fun x y=>x.1≠y.1
 | [],_=>.nil
 | x :: r,h=>by
  simp only [ndOk,XaD,Xa5,bne_iff_ne] at h
  exact .cons h.1 (zhP h.2)
theorem zaM {N:List Str}{osc:Scope}{Nc:List Str}{src:List (Option Nat)}{scope:Scope}(h:zfg N osc Nc src scope=true):CompOk N osc Nc src scope:=by
 simp only [zfg,XaD,beq_iff_eq,Xa5,bne_iff_ne] at h
 obtain ⟨⟨⟨⟨h1,h2⟩,h3⟩,h4⟩,h5⟩:=h
 refine ⟨h1,h2,zhP h3,fun x hx hf=>?_,zda h5,zc9 h5⟩
 have:=h4 x hx
 simp only [Bool.or_eq_true,bne_iff_ne,beq_iff_eq] at this
 rcases this with (z | z) | z
 ·exact absurd hf z
 ·exact .inl z
 ·exact .inr z
structure Cal (P:Program)(w:World)(K:W.Frag)(mg:Str→Option Value)(base:Heap)(k:Nat)(x:Str)(ps:List Str)(sp:Sp):Prop where
 ex:∃ f fd,FnOk P w K mg base CX0 k f fd ps sp∧mg x=some (.ref f)∧W.keepIn K (.ref f)=true∧Binds K fd ps []
section
variable {X:Cx}{k:Nat}{ps ks:List Str}{sp:Sp}{x:Str}{p pos:Pos}{e:Expr}{es:List Expr}{t tk:TA}{kws:List Keyword}{gV:List V→List V→List V}
theorem pe_cal (C:Cal X.prog X.w X.K X.mg X.base k x ps sp)(hr:Room k X.A)(hg:Gl X x)(ha:PA X (e :: es) t)(hdb:(x == ("__debug__" : Str))=false:=by decide)
  (he:starEach (e :: es) X.env=(false,eval e X.env) :: starEach es X.env:=by rfl) (hpl:(backTo pos (starEach es X.env)).any (·.1)=false:=by rfl):PE X (.Call (.Name x p) (e :: es) [] pos) (zeD sp [] E0 t):=by
 obtain ⟨f,fd,F,hm,hk,hb⟩:=C.ex
 exact zka F hr hg hm hk hb .nil zgF ha hdb he hpl
end
end L2
namespace Cb
open PySem L2
def KeepP (p:Addr)(H H':Hp):Prop:=∀ b o,b≠p→H b=some o→H' b=some o
theorem KeepP.of {p:Addr}{H H':Hp}(h:Same H H'):KeepP p H H':=fun b o _ e=>h b o e
theorem zad {H:Hp}{p:Addr}{o:HO}(h:H p=none):Same H (upd H p o):=fun b u e=>by rw [zai (zah e h)];exact e
def vN (l:List Nat):List V:=l.map fun (b:Nat)=>V.int (b:Int)
theorem zax (l:List Nat):(vN l).length=l.length:=Xah ..
theorem zb2 (l:List Nat)(b:Nat):vN (l ++ [b])=vN l ++ [V.int (b:Int)]:=by simp [vN]
theorem vN_get {l:List Nat}{i:Nat}{x:V}(h:(vN l)[i]? = some x):∃ b,l[i]? = some b∧x=V.int (b:Int):=by
 unfold vN at h
 rw [Xat] at h
 cases e:l[i]? with
 | none=>rw [e] at h;cases h
 | some b=>rw [e] at h;exact ⟨b,rfl,(Option.some.inj h).symm⟩
inductive spLaw (K:W.Frag)(vs:List V)(H:Hp)(Q:VK)(u3_:XK):Prop
 | mk (a:Addr) (ns:List Int) (z0_:vs=[.ref a]) (z1_:SqL K H a (ns.map V.int)) (z2_:ns.length≤63) (z3_:(∀ m∈ns,Builtin.Int.intBits m≤2 ^ 20)) (z4_:∀ H',Q (.bl true) H')
inductive spSingles (vs:List V)(H:Hp)(Q:VK)(u3_:XK):Prop
 | mk (n:Nat) (z0_:vs=[.int (n:Int)]) (z1_:n<2 ^ 64) (z2_:∀ (p:Addr) (H':Hp),H p=none→H' p=some (.lst (vN (sgl n)))→Same H H'→Q (.ref p) H')
inductive spOnes (vs:List V)(H:Hp)(Q:VK)(u3_:XK):Prop
 | mk (n:Nat) (z0_:vs=[.int (n:Int)]) (z1_:n<2 ^ 64) (z2_:∀ H',Same H H'→Q (.int (ones n:Int)) H')
end Cb
end
section
namespace L2
open PySem PySem.Spec PyProof.Rows
section
variable {X:Cx}{K:W.Frag}
theorem zcq (hK:X.K=K):IxR X (rIxL K):=by subst hK;exact zal
theorem zfU (hK:X.K=K):IxR X (rIxT K):=by subst hK;exact zaB
theorem zih (hK:X.K=K):zbx X (.builtin "len") (fun xs H Q=>∃ p ys,xs=[.ref p]∧(SqL K H p ys∨SqT K H p ys)∧Q (.int ys.length) H):=by subst hK;exact zam
end
section
variable {prog:Program}{w:World}{A:Around}{E:Value→Shared→Prop}{s:Shared}
end
end L2
end
section
namespace L2
open PySem PySem.Spec PyProof.Rows Builtin
structure FunD (K:W.Frag)(x qual:Str)(st:Stmt)(dV:Value)(f:Addr)(fd:FuncData):Prop where
 ex:∃ (oc:Value) (od:Option Addr) (kV doc pm:Value) (an:Option Addr) (cdv ct:Value) (osl:Array (Option Value)),
  fd=W.fnOf x qual (zbi st) (zaP st) (zak st) dV kV doc pm an cdv ct∧K.lookup f=some ⟨oc,od,.func fd,osl⟩∧W.codeIn K cdv qual=true
 kp:W.keepIn K (.ref f)=true
section
variable {P:Program}{w:World}{K:W.Frag}{mg:Str→Option Value}{base:Heap}
theorem FunD.ok {x qual:Str}{st:Stmt}{dV:Value}{f:Addr}{fd:FuncData}{N ps:List Str}{k:Nat}{sp:Sp}(F:FunD K x qual st dV f fd)(S:FnScope N ps (zak st))(len:∀ vs H Q E,sp vs H Q E→vs.length=ps.length)
  (hbody:∀ (cdv:Value) (A:Around) (outer:List Env) (s:Shared) (H:Hp) (vs:List V) (Q:VK) (E:XK),Room k (A.deeper (envOfC qual (zak st) s.heap.objs.size f cdv))→sp vs H Q E →
   ∃ t,PSs (cxOf CX0 P w K mg base N qual (zak st) f cdv A outer s H E).nox (zaP st) t∧t { nx:=fun _ H'=>Q .non H',rt:=Q } (start N vs) H):FnOk P w K mg base CX0 (k+1) f fd ps sp:=by
 obtain ⟨oc,od,kV,doc,pm,an,cdv,ct,osl,rfl,lk,hcd⟩:=F.ex
 refine zja lk hcd S len fun A outer s H vs Q E hr hsp=>?_
 obtain ⟨t,h,q⟩:=hbody cdv A outer s H vs Q E hr hsp
 exact ⟨t,h.nox,q⟩
theorem zky {x qual:Str}{st:Stmt}{dV:Value}{f:Addr}{oc:Value}{od an:Option Addr}{osl:Array (Option Value)}{kV doc pm cdv ct:Value}(l:K.lookup f=some ⟨oc,od,.func (W.fnOf x qual (zbi st) (zaP st) (zak st) dV kV doc pm an cdv ct),osl⟩)
  (c:W.codeIn K cdv qual=true) (k:W.keepIn K (.ref f)=true):FunD K x qual st dV f (W.fnOf x qual (zbi st) (zaP st) (zak st) dV kV doc pm an cdv ct):=⟨⟨oc,od,kV,doc,pm,an,cdv,ct,osl,rfl,l,c⟩,k⟩
theorem FunD.kbinds {x qual:Str}{st:Stmt}{T:Addr}{o:Obj}{items:Array Value}{n:Nat}{f:Addr}{fd:FuncData}{ps ks:List Str}{g:List Value→List Value→List Value}{gV:List V→List V→List V}(F:FunD K x qual st (.ref T) f fd)
  (ho:K.lookup T=some o) (hs:o.data = .seq items n)
  (h:∀ (kV doc pm:Value) (an:Option Addr) (cdv ct:Value) (us ws:List Value),(g us ws).length=ps.length→∃ q,bindArgs (W.fnOf x qual (zbi st) (zaP st) (zak st) (.ref T) kV doc pm an cdv ct) ⟨us,ks.zip ws⟩=seqItems? (.ref T) >>= q∧q (some items)=pure (ps.zip (g us ws)))
  (rel:∀ {vs:List V} {us:List Value} {zs:List V} {ws:List Value},Vals vs us→Vals zs ws→Vals (gV vs zs) (g us ws)):KBinds K fd ps ks g gV:=by
 obtain ⟨oc,od,kV,doc,pm,an,cdv,ct,osl,rfl,lk,hcd⟩:=F.ex
 refine ⟨fun s us ws X hl=>?_,rel⟩
 obtain ⟨q,h1,h2⟩:=h kV doc pm an cdv ct us ws hl
 exact W.binds_K X rfl ho hs h1 h2
theorem KBinds.pos {fd:FuncData}{ps:List Str}(b:Binds K fd ps []):KBinds K fd ps [] (fun us _=>us) (fun vs _=>vs):=
 ⟨fun s us ws X hl=>by have:=b s us X (by rw [Xbb];exact hl);rw [Xbb] at this;exact this,fun r _=>r⟩
end
def swS {α:Type}(us zs:List α):List α:=match zs with
 | [a,b]=>us ++ [b,a]
 | _=>[]
structure Mth (P:Program)(w:World)(K:W.Frag)(mg:Str→Option Value)(base:Heap)(k:Nat)(C:Addr)(m:Str)(ks:List Str)(gV:List V→List V→List V)(sp:Sp):Prop where
 cls:Cls K C
 ex:∃ f fd ps g,Meth K C m f∧FnOk P w K mg base CX0 k f fd ps sp∧KBinds K fd ps ks g gV
inductive tMth_1 (P:Program)(w:World)(K:W.Frag)(mg:Str→Option Value)(base:Heap)(k:Nat)(m:Str)(ks:List Str)(t:TA)(tk:TA)(σ:St)(Q:VK)(x:V)(H1:Hp):Prop
 | mk (a:_) (C:_) (dx:_) (fs:_) (gV:_) (sp:_) (z0_:x = .ref a) (z1_:H1 a=some (.ins C dx fs)) (z2_:Mth P w K mg base k C m ks gV sp) (z3_:fs.lookup m=none) (z4_:t σ H1 fun vs H2=>tk σ H2 fun zs H3=>sp (gV (x :: vs) zs) H3 Q E0)
def tMth (P:Program)(w:World)(K:W.Frag)(mg:Str→Option Value)(base:Heap)(k:Nat)(m:Str)(ks:List Str)(ta:TE)(t tk:TA):TE:=fun σ H Q=>ta σ H (tMth_1 P w K mg base k m ks t tk σ Q)
section
variable {X:Cx}{k:Nat}{C:Addr}{ks:List Str}{x m:Str}{p pos apos:Pos}{e o:Expr}{es:List Expr}{kws:List Keyword}{ta:TE}{t tk:TA}
theorem zhB {P:Program}{w:World}{K:W.Frag}{mg:Str→Option Value}{base:Heap}(k:Nat)(hX:X.prog=P∧X.w=w∧X.K=K∧X.mg=mg∧X.base=base)(hr:Room k X.A){pl:Sem Bool}(he:PE X o ta)
  (ht:eval (.Call (.Attribute o m apos) [] [] pos) X.env=(do
   let ov ← eval o X.env
   standAt apos.atName
   let (f,first) ← holding [ov] (getMethod ov m pl)
   callWith pos f first (backTo pos (starEach [] X.env)) (backToKw pos (keywordEach [] X.env))):=by rfl) :
  PE X (.Call (.Attribute o m apos) [] [] pos) (tMth P w K mg base k m [] ta tNil tNil):=by
 obtain ⟨rfl,rfl,rfl,rfl,rfl⟩:=hX
 intro pins s σ H Q I h
 refine W.methodCall_KW (pl:=pl) (thn (he pins s σ H _ I h) fun u s1 hh_=>?_) ht
 obtain ⟨x,H1,I1,rx,a,C,dx,fs,gV,sp,ex,ea,M,l,q⟩:=hh_
 obtain ⟨c,f,fd,ps,g,hm,F,hb⟩:=M
 subst ex
 obtain rfl:u=Value.ref a:=rx
 refine zgW I1 ea c hm l ?_
 exact W.callWith_K0 (first:=[.ref a]) I1.kIn hm.kp (zj3 (us:=[.ref a]) (vs:=[.ref a]) (ws:=[]) (zs:=[]) F hr hb zgF I1 (.cons rfl .nil) .nil q)
end
def tLenO (P:Program)(w:World)(K:W.Frag)(mg:Str→Option Value)(base:Heap)(k:Nat)(ta:TE):TE:=fun σ H Q=>ta σ H fun x H1=>∃ a C dx fs gV sp,x = .ref a∧H1 a=some (.ins C dx fs)∧Mth P w K mg base k C "__len__" [] gV sp ∧
 sp (gV [x] []) H1 (fun v H2=>∃ n:Int,v = .int n∧0≤n∧n<2 ^ 63∧Q (.int n) H2) E0
section
variable {X:Cx}{e:Expr}{p pos:Pos}{ta:TE}
def lenQ (X:Cx)(k:Nat)(Q:VK)(vs:List V)(H1:Hp):Prop:=match vs with
 | [x]=>∃ a C dx fs gV sp,x = .ref a∧H1 a=some (.ins C dx fs)∧Mth X.prog X.w X.K X.mg X.base k C "__len__" [] gV sp∧sp (gV [x] []) H1 (fun v H2=>∃ n:Int,v = .int n∧0≤n∧n<2 ^ 63∧Q (.int n) H2) E0
 | _=>False
def LenIs (Q:Value→Shared→Prop):Value→Shared→Prop
 | .int n _,s'=>0≤n∧n<2 ^ 63∧Q (.int n s'.toks) { s' with toks:=s'.toks+1 }
 | _,_=>False
theorem lenOwn {prog:Program}{w:World}{A:Around}{E:Value→Shared→Prop}{s:Shared}{K:W.Frag}{a C f:Addr}{ob:Obj}{od:Option Obj}{Q:Value→Shared→Prop}(X:K.In s.heap)(I:W.InstAt s.heap a ob C od)
  (hs:W.findIn K (.ref C) "__len__" = some (some (.ref f))) (ht:W.typeIn K (.ref f)=some (.type "function"))
  (h:wpAny (model prog w) A.in1 (call (.ref f) [.ref a]) (LenIs Q) E s):wpAny (model prog w) A (call (.builtin "len") [.ref a]) Q E s:=by
 refine Calls.call_function_entry kind_len plain_len entry_len (args_len1 _) ?_
 delta Builtin.«len»
 refine Xaa (m:=oneArg "len" _) (Xac (Xaa (m:=callSpecial? (.ref a) (Str.ofString "__len__")) (W.special_fn X I hs ht (Xas h (fun r s' hr=>?_) (fun _ _ z=>z)))))
 cases r with
 | int n t =>
  obtain ⟨h0,h1,hq⟩:=hr
  refine Xaa (XaK (Xac (Xaa (wpAny_letGo ?_))))
  have e1:¬ n<0:=by omega
  have e2:¬ n ≥ 2 ^ 63:=by omega
  dsimp only
  rw [if_neg e1,if_neg e2]
  exact Xaa (wpAny_mkInt (Xac ⟨_,rfl,hq⟩))
 | _=>exact hr.elim
theorem mtyp {K:W.Frag}{C f:Addr}{m:Str}(h:Meth K C m f):W.typeIn K (.ref f)=some (.type "function"):=beq_iff_eq.mp h.fn
theorem zj8 {P:Program}{w:World}{K:PySem.W.Frag}{mg:Str→Option Value}{base:Heap}(k:Nat)(hX:X.prog=P∧X.w=w∧X.K=K∧X.mg=mg∧X.base=base)(hr:Room (k+1) X.A)(hg:Gl X "len")(hm:X.mg "len" = none)(he:PE X e ta)
  (hst:starEach [e] X.env=(false,eval e X.env) :: starEach [] X.env:=by rfl):PE X (.Call (.Name "len" p) [e] [] pos) (tLenO P w K mg base k ta):=by
 obtain ⟨rfl,rfl,rfl,rfl,rfl⟩:=hX
 intro pins s σ H Q I h
 refine Xa1 (zdC I hg hm PySem.boot_len ?_ (by decide) (by decide))
 refine PyProof.Rows.callWith_builtin1 (thn (zaa (t:=tNil) he zae hst pos pins s σ H (lenQ X k Q) I h) fun us s1 hh_=>?_) hst rfl
 obtain ⟨vs,H1,I1,r1,q1⟩:=hh_
 cases r1 with
 | nil=>exact q1.elim
 | cons ra rr=>cases rr with
  | cons _ _=>exact q1.elim
  | nil =>
   obtain ⟨a,C,dx,fs,gV,sp,ex,ea,M,q⟩:=q1
   obtain ⟨c,f,fd,ps,g,hm,F,hb⟩:=M
   subst ex
   cases ra
   obtain ⟨mA,O,_⟩:=zdG I1.hok ea
   obtain ⟨od,J,_⟩:=O.look
   refine lenOwn I1.kIn J hm.at_ (mtyp hm) ?_
   have rv:Vals (gV [V.ref a] []) (g [Value.ref a] []):=hb.rel (vs:=[V.ref a]) (us:=[Value.ref a]) (zs:=[]) (ws:=[]) (.cons rfl .nil) .nil
   have hl:(g [Value.ref a] []).length=ps.length:=by rw [← rv.length];exact F.len _ _ _ _ q
   have W:wpAny (model X.prog X.w) X.A.in1 (call (.ref f) [.ref a]) (EP X pins σ (fun v H2=>∃ n:Int,v = .int n∧0≤n∧n<2 ^ 63∧Q (.int n) H2)) X.xe s1:=by
    refine Xbm (Xbn (F.run X.A.in1 X.stack s1 H1 ⟨[.ref a],[]⟩ (g [.ref a] []) (gV [.ref a] []) _ E0 hr.in1 I1.env0.in1 (hb.to s1 [.ref a] [] I1.kIn hl) rv q) fun r s' hq=>?_)
    cases r with
    | error e=>exact zgF pins σ H1 s1 e s' I1 hq
    | ok fl =>
     cases fl with
     | ret u=>exact I1.after hq
     | next=>exact False.elim hq
     | brk=>exact False.elim hq
     | cont=>exact False.elim hq
   refine Xas W (fun u s' hu=>?_) fun _ _ z=>z
   ·obtain ⟨v,H2,I2,rv,n,rfl,h0,h1,qn⟩:=hu
    obtain ⟨t,rfl⟩:=(show ∃ t,u=Value.int n t from rv)
    exact ⟨h0,h1,⟨.int n,H2,I2.tok _,⟨_,rfl⟩,qn⟩⟩
end
structure Mak (P:Program)(w:World)(K:W.Frag)(mg:Str→Option Value)(base:Heap)(k:Nat)(x:Str)(C:Addr)(ks:List Str)(gV:List V→List V→List V)(sp:Sp):Prop where
 at_:mg x=some (.ref C)
 ex:∃ f fd ps g,Mk K C f∧FnOk P w K mg base CX0 k f fd ps sp∧KBinds K fd ps ks g gV
def tMak (C:Addr)(gV:List V→List V→List V)(sp:Sp)(t tk:TA):TE:=fun σ H Q=>t σ H fun vs H1=>tk σ H1 fun zs H2=>∀ x dx,H2 x=none→H2 dx=none→dx≠x →
 sp (gV (.ref x :: vs) zs) (upd (upd H2 dx (.own x)) x (.ins C dx [])) (fun v H3=>v = .non∧Q (.ref x) H3) E0
section
variable {X:Cx}{k:Nat}{C:Addr}{ks:List Str}{gV:List V→List V→List V}{sp:Sp}{x:Str}{p pos:Pos}{e:Expr}{es:List Expr}{kws:List Keyword}{t tk:TA}
theorem zf5 {pins:List (Addr×Obj)}{σ:St}{H:Hp}{s:Shared}{Q:VK}{us ws:List Value}{vs zs:List V}(M:Mak X.prog X.w X.K X.mg X.base k x C ks gV sp)(hr:Room (k+1) X.A)(I:Inv X pins σ H s)(r:Vals vs us)(rz:Vals zs ws)
  (h:∀ y dy,H y=none→H dy=none→dy≠y→sp (gV (.ref y :: vs) zs) (upd (upd H dy (.own y)) y (.ins C dy [])) (fun v H2=>v = .non∧Q (.ref y) H2) E0) :
  wpAny (model X.prog X.w) X.A (call (.ref C) us (ks.zip ws)) (EP X pins σ Q) X.xe s:=by
 obtain ⟨hm,f,fd,ps,g,M,F,hb⟩:=M
 have hq:=h (s.heap.objs.size+1) s.heap.objs.size (I.hok.fresh (Xby _)) (I.hok.fresh (Xaf _)) (Xav (Xa2 _))
 have I2:=Inv.made (C:=C) I
 have r2:Vals (gV (V.ref (s.heap.objs.size+1) :: vs) zs) (g (Value.ref (s.heap.objs.size+1) :: us) ws):=hb.rel (.cons rfl r) rz
 have hl:(g (Value.ref (s.heap.objs.size+1) :: us) ws).length=ps.length:=by rw [← r2.length];exact F.len _ _ _ _ hq
 refine Xbm (zgg (f:=f) I.kIn M.makes M.init (beq_iff_eq.mp M.fn) (Xbn (F.run _ X.stack _ _ ⟨Value.ref (s.heap.objs.size+1) :: us,ks.zip ws⟩ _ _ _ E0 (hr.make C us (ks.zip ws))
  (I2.env0.make C us (ks.zip ws)) (hb.to _ (Value.ref (s.heap.objs.size+1) :: us) ws I2.kIn hl) r2 hq) fun r s' hq'=>?_))
 cases r with
 | error e=>exact zgF pins σ _ _ e s' I2 hq'
 | ok fl =>
  cases fl with
  | ret u =>
   obtain ⟨v,H',I3,rv,ev,q3⟩:=I2.after hq'
   subst ev
   exact ⟨rv,⟨V.ref (s.heap.objs.size+1),H',I3,rfl,q3⟩⟩
  | next=>exact False.elim hq'
  | brk=>exact False.elim hq'
  | cont=>exact False.elim hq'
theorem Mak.kp {P:Program}{w:World}{K:W.Frag}{mg:Str→Option Value}{base:Heap}(M:Mak P w K mg base k x C ks gV sp):W.keepIn K (.ref C)=true:=by
 obtain ⟨_,_,_,_,_,M,_⟩:=M
 exact M.kp
theorem zdn (M:Mak X.prog X.w X.K X.mg X.base k x C [] gV sp)(hr:Room (k+1) X.A)(hg:Gl X x)(ha:PA X (e :: es) t)(hdb:(x == ("__debug__" : Str))=false:=by decide)
  (he:starEach (e :: es) X.env=(false,eval e X.env) :: starEach es X.env:=by rfl) (hpl:(backTo pos (starEach es X.env)).any (·.1)=false:=by rfl):PE X (.Call (.Name x p) (e :: es) [] pos) (tMak C gV sp t tNil):=by
 intro pins s σ H Q I h
 refine Xa1 (za4 I hg M.at_ ?_ hdb)
 refine W.callWith_K (h₀:=X.base) I.ok.mod.kin M.kp (thn (ha pos pins s σ H _ I h) fun us s1 ⟨vs,H1,I1,r,q⟩=>⟨I1.kIn,?_⟩) he hpl
 exact zf5 (ws:=[]) (zs:=[]) M hr I1 r .nil q
theorem zhD (M:Mak X.prog X.w X.K X.mg X.base k x C [] gV sp)(hr:Room (k+1) X.A)(hg:Gl X x)(hdb:(x == ("__debug__" : Str))=false:=by decide):PE X (.Call (.Name x p) [] [] pos) (tMak C gV sp tNil tNil):=by
 intro pins s σ H Q I h
 refine Xa1 (za4 I hg M.at_ ?_ hdb)
 exact W.callWith_K0 I.kIn M.kp (zf5 (us:=[]) (vs:=[]) (ws:=[]) (zs:=[]) M hr I .nil .nil h)
end
structure Clm (P:Program)(w:World)(K:W.Frag)(mg:Str→Option Value)(base:Heap)(k:Nat)(x m:Str)(sp:Sp):Prop where
 ex:∃ C f fd ps mc,mg x=some (.ref C)∧W.specialIn K (.ref C) "__getattribute__" = some (some (.builtin "type.__getattribute__"))∧W.readsIn K C mc=true∧W.findCls K (.ref C) mc m=some (.val (.ref f)) ∧
  W.keepIn K (.ref f)=true∧FnOk P w K mg base CX0 k f fd ps sp∧Binds K fd ps []
section
variable {X:Cx}{k:Nat}{sp:Sp}{x m:Str}{p pos apos:Pos}{e:Expr}{es:List Expr}{t:TA}
theorem zeT (M:Clm X.prog X.w X.K X.mg X.base k x m sp)(hr:Room k X.A)(hg:Gl X x){pl:Sem Bool}(ha:PA X (e :: es) t)(hdb:(x == ("__debug__" : Str))=false:=by decide)
  (hst:starEach (e :: es) X.env=(false,eval e X.env) :: starEach es X.env:=by rfl) (hpl:(backTo pos (starEach es X.env)).any (·.1)=false:=by rfl)
  (ht:eval (.Call (.Attribute (.Name x p) m apos) (e :: es) [] pos) X.env=(do
   let ov ← eval (.Name x p) X.env
   standAt apos.atName
   let (f,first) ← holding [ov] (getMethod ov m pl)
   callWith pos f first (backTo pos (starEach (e :: es) X.env)) (backToKw pos (keywordEach [] X.env))):=by rfl) :
  PE X (.Call (.Attribute (.Name x p) m apos) (e :: es) [] pos) (zeD sp [] E0 t):=by
 obtain ⟨C,f,fd,ps,mc,hm,hs,hrd,hf,hk,F,hb⟩:=M
 intro pins s σ H Q I h
 refine W.methodCall_KW (pl:=pl) ?_ ht
 refine za4 I hg hm ?_ hdb
 refine W.method_cls I.kIn hs (W.cls_value I.kIn hrd hf rfl ?_)
 have I0:=I.tok (s.toks+1)
 refine W.callWith_K (first:=[]) (h₀:=X.base) I.ok.mod.kin hk (thn (ha pos pins _ σ H _ I0 h) fun us s2 ⟨vs,H2,I2,r,q2⟩=>⟨I2.kIn,?_⟩) hst hpl
 exact zhn F hr hb .nil zgF I2 r q2
end
def itC (t:Bool):String:=if t then "tuple_iterator" else "list_iterator"
def sqC (t:Bool):String:=if t then "tuple" else "list"
def IsIt (t:Bool)(h:Heap)(a l:Addr)(i:Nat):Prop:=∃ o,h.get? a=some o∧o.cls = .type (itC t)∧o.data = .fields #[.ref l,.int i 0]
def IsSq (t:Bool)(h:Heap)(a:Addr)(xs:Array Value):Prop:=∃ o,h.get? a=some o∧o.cls = .type (sqC t)∧∃ n,o.data = .seq xs n
theorem IsIt.at {t:Bool}{h h':Heap}{a l:Addr}{i:Nat}(x:IsIt t h a l i)(e:∀ o,h.get? a=some o→h'.get? a=some o):IsIt t h' a l i:=let ⟨o,ho,r⟩:=x;⟨o,e _ ho,r⟩
theorem IsSq.at {t:Bool}{h h':Heap}{a:Addr}{xs:Array Value}(x:IsSq t h a xs)(e:∀ o,h.get? a=some o→h'.get? a=some o):IsSq t h' a xs:=let ⟨o,ho,r⟩:=x;⟨o,e _ ho,r⟩
section
variable {prog:Program}{w:World}{A:Around}{E:Value→Shared→Prop}{s:Shared}
theorem zkl {t:Bool}{it l:Addr}{i:Nat}{xs:Array Value}{x:Value}{Q:Value→Shared→Prop}(hi:IsIt t s.heap it l i)(hl:IsSq t s.heap l xs)(hx:xs[i]? = some x)
  (q:∀ h',IsIt t h' it l (i+1)→Heap.SameBut it s.heap h'→Q x { s with heap:=h' }):wpAny (model prog w) A (Builtin.SmallTypes.nextOf (.ref it)) Q E s:=by
 cases t with
 | false=>exact wpAny_nextOf_list_item hi hl hx q
 | true =>
  have ht:s.TypeIs (.ref it) "tuple_iterator" := let ⟨o,ho,hc,_⟩:=hi;⟨o,ho,hc⟩
  obtain ⟨o,ho,hc,hd⟩:=id hi;obtain ⟨ol,hol,_,nl,hdl⟩:=hl
  delta Builtin.SmallTypes.nextOf
  refine Xaa (wpAny_callSpecial?_slot (name:=Str.ofString "__next__") ht F.slot_tuple_iterator_next (Xa4 F.slot_tuple_iterator_next ht F.entry_tuple_iterator_next ?_ (F.args_tuple_iterator_next_1 _)))
  show wpAny _ _ (field (.ref it) 0 >>= _) _ _ s;refine Xaa (Xa8 ho hd (x:=.ref l) rfl ?_)
  show wpAny _ _ (if (Value.ref l == Value.none)=true then _ else _) _ _ s;rw [if_neg (show ¬ ((Value.ref l == Value.none)=true) from Xao)]
  show wpAny _ _ (field (.ref it) 1 >>= _) _ _ s;refine Xaa (Xa8 ho hd (x:=.int i 0) rfl ?_)
  show wpAny _ _ (seqItems? (.ref l) >>= _) _ _ s;refine Xaa (wpAny_seqItems hol hdl ?_);simp only [Xak,hx]
  refine Xaa (XaQ ho hd (by simp) (Xac ⟨x,rfl,Xac (q _ ⟨_,XaH _ ho (Obj.isFreed_of_fields (Obj.data_mapFields hd _)),(Obj.cls_mapFields ..).trans hc,by rw [Obj.data_mapFields hd];simp [rawInt]⟩ (Heap.SameBut.update ..))⟩))
theorem nx_end {t:Bool}{it l:Addr}{i:Nat}{xs:Array Value}{Q:Value→Shared→Prop}(hh:A.handled=none)(hi:IsIt t s.heap it l i)(hl:IsSq t s.heap l xs)(hx:xs[i]? = none)
  (q:∀ h' e,Heap.ExtBut it s.heap h'→(∃ o,h'.get? e=some o∧o.cls = .type "StopIteration")→E (.ref e) { s with heap:=h' }):wpAny (model prog w) A (Builtin.SmallTypes.nextOf (.ref it)) Q E s:=by
 cases t with
 | false=>exact wpAny_nextOf_list_end hh hi hl hx q
 | true =>
  have ht:s.TypeIs (.ref it) "tuple_iterator" := let ⟨o,ho,hc,_⟩:=hi;⟨o,ho,hc⟩
  obtain ⟨o,ho,hc,hd⟩:=id hi;obtain ⟨ol,hol,_,nl,hdl⟩:=hl
  delta Builtin.SmallTypes.nextOf
  refine Xaa (wpAny_callSpecial?_slot (name:=Str.ofString "__next__") ht F.slot_tuple_iterator_next (Xa4 F.slot_tuple_iterator_next ht F.entry_tuple_iterator_next ?_ (F.args_tuple_iterator_next_1 _)))
  show wpAny _ _ (field (.ref it) 0 >>= _) _ _ s;refine Xaa (Xa8 ho hd (x:=.ref l) rfl ?_)
  show wpAny _ _ (if (Value.ref l == Value.none)=true then _ else _) _ _ s;rw [if_neg (show ¬ ((Value.ref l == Value.none)=true) from Xao)]
  show wpAny _ _ (field (.ref it) 1 >>= _) _ _ s;refine Xaa (Xa8 ho hd (x:=.int i 0) rfl ?_)
  show wpAny _ _ (seqItems? (.ref l) >>= _) _ _ s;refine Xaa (wpAny_seqItems hol hdl ?_);simp only [Xak,hx]
  refine Xaa (wpAny_rule (Xaa (XaQ ho hd (by simp) ?_)));show wpAny _ _ (newExc (.type "StopIteration") [] >>= _) _ _ _
  refine Xaa ?_;simp only [newExc,newTuple];refine Xaa (XaL ?_ (by size_fits))
  refine Xaa (m:=firstArgMember _ _) (wpAny_of_eq (a:=Value.none) (by first | rfl | (simp only [firstArgMember];rfl)) ?_);refine XaL ?_ (by size_fits)
  simp only [raiseNew];refine Xaa (wpAny_handled ?_);rw [show A.in1.handled=none from hh];refine Xaa (Xac (wpAny_throw ?_))
  exact q _ _ (((Heap.SameBut.update ..).extBut.push _).push _) ⟨_,Xam _ rfl,rfl⟩
end
theorem zbU (T:String){X:Cx}{K:W.Frag}(hK:X.K=K):zbx X (.builtin "isinstance") (fun xs H Q=>∃ x t b,xs=[x,.ty T]∧TyOf K H x t∧W.kitOne K t (.type T)=some b∧Q (.bl b) H):=by
 subst hK
 intro pins s σ H xs us Q I r h
 obtain ⟨x,t,b,rfl,ty,e,q⟩:=h
 obtain ⟨u,u2,rfl,rx,r2⟩:=zeB r
 obtain rfl:u2=Value.type T:=r2
 exact ze8 I rx ty e fun tk=>⟨.bl b,H,I.tok _,rfl,q⟩
section
variable {X:Cx}{K:W.Frag}
theorem zbn {x:Str}{n:Int}{pos:Pos}(hg:Gl X x)(h:∃ t,X.mg x=some (.int n t))(hd:(x == ("__debug__" : Str))=false:=by decide):PE X (.Name x pos) (tC (.int n)):=by
 obtain ⟨t,h⟩:=h
 exact zei hg h ⟨_,rfl⟩ hd
end
def dP {α:Type}(ds us zs:List α):List α:=us ++ ds
theorem Vals.dP {ds:List V}{es:List Value}(d:Vals ds es){vs zs:List V}{us ws:List Value}(g:Vals vs us)(h:Vals zs ws):Vals (dP ds vs zs) (dP es us ws):=g.append d
theorem zec:RelV (.ty "tuple") (.type "tuple"):=rfl
theorem zbV:bootBuiltins "tuple" = some (.type "tuple"):=by decide +kernel
theorem zev:bootBuiltins "list" = some (.type "list"):=by decide +kernel
end L2
namespace Cb
open PySem L2
structure Blt (mg:Str→Option Value):Prop where
 len:mg "len" = none
 sum:mg "sum" = none
 all:mg "all" = none
 max:mg "max" = none
 min:mg "min" = none
 int:mg "int" = none
 bool:mg "bool" = none
 isinstance:mg "isinstance" = none
 range:mg "range" = none
 enumerate:mg "enumerate" = none
 zip:mg "zip" = none
 str:mg "str" = none
 tuple:mg "tuple" = none
 list:mg "list" = none
def NN (ext:List (Str×V)):Prop:=ext=[]∨∃ r:Int,ext=[(("room" : Str),V.int r)]
structure Ob (C:Addr)(H:Hp)(a p:Addr)(ws:List V)(ext:List (Str×V)):Prop where
 ex:∃ dx hd,H a=some (.ins C dx (("head",.str hd) :: ("held",.ref p) :: ext))
 ls:H p=some (.lst ws)
 nn:NN ext
structure ClsOk (K:W.Frag)(C:Addr):Prop where
 cl:Cls K C
 head:NoAttr K C "head"
 held:NoAttr K C "held"
 room:NoAttr K C "room"
inductive spIsNum (vs:List V)(H:Hp)(Q:VK)(u3_:XK):Prop
 | mk (a b:Int) (z0_:vs=[.int a,.int b]) (z1_:Q (.bl (decide (0≤a∧a≤b))) H)
inductive spIsWord (vs:List V)(H:Hp)(Q:VK)(u3_:XK):Prop
 | mk (a:Int) (z0_:vs=[.int a]) (z1_:Q (.bl (decide (0≤a∧a≤255))) H)
inductive spLen (C:Addr)(L:List V→Nat)(vs:List V)(H:Hp)(Q:VK)(u3_:XK):Prop
 | mk (a:_) (p:_) (ws:_) (ext:_) (z0_:vs=[.ref a]) (z1_:Ob C H a p ws ext) (z2_:Q (.int (L ws:Int)) H)
inductive spState (C:Addr)(vs:List V)(H:Hp)(Q:VK)(u3_:XK):Prop
 | mk (a:_) (p:_) (ws:_) (ext:_) (z0_:vs=[.ref a]) (z1_:Ob C H a p ws ext) (z2_:∀ q,H q=none→Q (.ref q) (upd H q (.tup ws)))
inductive spInit (K:W.Frag)(vs:List V)(H:Hp)(Q:VK)(u3_:XK):Prop
 | mk (a:_) (C:_) (dx:_) (p:_) (hd:_) (z0_:vs=[.ref a,.str hd,.ref p]) (z1_:H a=some (.ins C dx [])) (z2_:ClsOk K C) (z3_:∀ H',H' a=some (.ins C dx [("head",.str hd),("held",.ref p)])→(∀ b,b≠a→H' b=H b)→Q .non H')
end Cb
end
section
namespace L2
open PySem PySem.Spec PyProof.Rows PySem.SeqAt
section
variable {X:Cx}{K:W.Frag}
inductive tFs2_1 (Q:VK)(a:Str)(y:V)(H2:Hp):Prop
 | mk (b:Str) (z0_:y = .str b) (z1_:b.length≤1000) (z2_:Q (.str (Str.empty ++ a ++ b)) H2)
inductive tFs2_2 (tb:TE)(σ:St)(Q:VK)(x:V)(H1:Hp):Prop
 | mk (a:Str) (z0_:x = .str a) (z1_:a.length≤1000) (z2_:tb σ H1 (tFs2_1 Q a))
def tFs2 (ta tb:TE):TE:=fun σ H Q=>ta σ H (tFs2_2 tb σ Q)
theorem pe_fs2 {e v:Expr}{pos p2:Pos}{ta tb:TE}(he:PE X e ta)(hv:PE X v tb)(hE:evalEach [] X.env=[]:=by rfl):PE X (.JoinedStr [e,.FormattedValue v (-1) none p2] pos) (tFs2 ta tb):=by
 intro pins s σ H Q I h
 refine JoinedStr_many ?_
 rw [hE]
 have l0:Str.empty.length=0:=rfl
 have hz:(3000:Nat)≤sizeLine:=by decide
 refine joinParts_cons (thn (he pins s σ H _ I h) fun u s1 hh_=>?_)
 obtain ⟨x,H1,I1,rx,a,ex,la,q⟩:=hh_
 subst ex
 obtain ⟨t,rfl⟩:=(show ∃ t,u=Value.str a t from rx)
 refine ⟨by rw [strLen_append];omega,?_⟩
 refine joinParts_cons (FormattedValue_plain (thn (hv pins s1 σ H1 _ I1 q) fun u2 s2 hh_=>?_))
 obtain ⟨y,H2,I2,ry,b,ey,lb,q2⟩:=hh_
 subst ey
 obtain ⟨t2,rfl⟩:=(show ∃ t,u2=Value.str b t from ry)
 refine formatField_str (fun t' tk=>⟨by rw [strLen_append,strLen_append];omega,?_⟩) (by omega)
 exact joinParts_nil ⟨.str (Str.empty ++ a ++ b),H2,(I2.tok _).tok _,⟨_,rfl⟩,q2⟩ (by rw [strLen_append,strLen_append];omega)
end
end L2
end
section
namespace L2
open PySem PySem.Spec PyProof.Rows Builtin
section
variable {prog:Program}{w:World}{A:Around}{E:Value→Shared→Prop}{s:Shared}{K:W.Frag}{x y C f:Addr}{ox oy:Obj}{od oe:Option Obj}
end
section
variable {X:Cx}
end
section
variable {prog:Program}{w:World}{A:Around}{E:Value→Shared→Prop}{s:Shared}
end
section
variable {X:Cx}{o:Expr}{td:TE}{pos p1 p2 p3:Pos}{k0:Nat}
end
section
variable {X:Cx}{K:W.Frag}
theorem ziP {x:Str}{z:Str}{pos:Pos}(hg:Gl X x)(h:∃ t,X.mg x=some (.str z t))(hd:(x == ("__debug__" : Str))=false:=by decide):PE X (.Name x pos) (tC (.str z)):=by
 obtain ⟨t,h⟩:=h
 exact zei hg h ⟨_,rfl⟩ hd
theorem ziQ {x:Str}{a:Addr}{pos:Pos}(hg:Gl X x)(h:X.mg x=some (.ref a))(hd:(x == ("__debug__" : Str))=false:=by decide):PE X (.Name x pos) (tC (.ref a)):=zei hg h rfl hd
theorem zji (hK:X.K=K):zbx X (.builtin "isinstance") (fun xs H Q=>∃ x t D b,xs=[x,.ref D]∧TyOf K H x t∧W.kitOne K t (.ref D)=some b∧Q (.bl b) H):=by
 subst hK
 intro pins s σ H xs us Q I r h
 obtain ⟨x,t,D,b,rfl,ty,e,q⟩:=h
 obtain ⟨u,u2,rfl,rx,r2⟩:=zeB r
 obtain rfl:u2=Value.ref D:=r2
 exact ze8 I rx ty e fun tk=>⟨.bl b,H,I.tok _,rfl,q⟩
end
section
variable {X:Cx}{e:Expr}{p pos:Pos}{ta:TE}
end
section
variable {prog:Program}{w:World}{A:Around}{E:Value→Shared→Prop}{s:Shared}
end
section
variable {X:Cx}{o:Expr}{td tv:TE}{pos p1 p2 p3:Pos}{k0:Nat}
end
end L2
end
section
namespace L2
open PySem PySem.Spec PyProof.Rows HT PySem.SeqAt
section
section
variable {prog:Program}{w:World}{A:Around}{E:Value→Shared→Prop}{s:Shared}
theorem zjg {t b:Addr}{ws:List Value}{Q:Value→Shared→Prop}(ht:IsTup s.heap t #[])(hb:IsTup s.heap b ws.toArray)(h:Q (.ref b) s):wpAny (model prog w) A (binaryOp .Add (.ref t) (.ref b)) Q E s:=by
 obtain ⟨⟨cls,dd,data,sl⟩,ho,hc,n,hd⟩:=id ht
 obtain ⟨⟨cls2,dd2,data2,sl2⟩,ho2,hc2,n2,hd2⟩:=id hb
 simp only at hc hd hc2 hd2
 subst hc hd hc2 hd2
 exact concat_meets ⟨_,ho,rfl⟩ ⟨_,ho2,rfl⟩ noFill_tuple_add seq_tuple_add PySem.F.slot_tuple_add PySem.F.entry_tuple_add (PySem.F.args_tuple_add_2 _ _)
   (tuple_addW0 t b #[] ws.toArray n n2 dd dd2 sl sl2 rfl) ⟨ho,ho2,h⟩
theorem zcJ {t sl:Addr}{items:Array Value}{vl vu:Value}{lo hi:Option Int}{Q:Value→Shared→Prop}(ht:IsTup s.heap t items)(hs:s.heap.IsSliceOf sl vl vu .none)(pl:IsPart vl lo)(pu:IsPart vu hi)
  (hw:sIx items.size 0 lo=0∧sIx items.size items.size hi=items.size) (h:Q (.ref t) s):wpAny (model prog w) A (getItem (.ref t) (.ref sl)) Q E s:=by
 obtain ⟨os,hos,hcs,hds⟩:=id hs
 have hTs:s.TypeIs (.ref sl) "slice" := ⟨os,hos,hcs⟩
 unfold getItem
 try with_reducible refine XaK ?_
 first | refine Xaa (Xac ?_) | skip
 refine Xaa (wpAny_sequenceKey ht.typeIs (by decide) ?_)
 refine Xaa (wpAny_callSpecial?_slot (name:=Str.ofString "__getitem__") ht.typeIs PyProof.Rows.slot_tuple_getitem
  (Xa4 PyProof.Rows.slot_tuple_getitem ht.typeIs entry_tuple_getitem ?_ (args_tuple_getitem _ _)))
 show wpAny _ _ (Builtin.Tuple.tupleItemsOf (.ref t) >>= _) _ _ s
 refine Xaa (tupleItemsOf_ ht ?_)
 refine Xaa (wpAny_typeOf hTs ?_)
 rw [if_pos (by decide)]
 refine Xaa (zbI hs pl pu ?_)
 rw [hw.1,hw.2,Nat.sub_zero]
 have hyes:((((0:Nat):Int) == 0 && (1:Int) == 1 && items.size == items.size)=true):=by simp
 show wpAny _ _ (if (((0:Nat):Int) == 0 && (1:Int) == 1 && items.size == items.size)=true then _ else _) _ _ s
 rw [if_pos hyes]
 refine Xaa (m:=Builtin.Tuple.tupleIsExact _) ?_
 unfold Builtin.Tuple.tupleIsExact
 refine Xaa (wpAny_typeOf ht.typeIs (Xac ?_))
 rw [if_pos (by decide)]
 refine Xaa (wpAny_rule ?_)
 exact Xac ⟨_,rfl,Xac h⟩
end
end
section
variable {X:Cx}{K:W.Frag}
inductive rSlT2 (K:W.Frag)(x:V)(lo:Option Int)(hi:Option Int)(H:Hp)(Q:VK):Prop
 | mk (a:_) (xs:_) (z0_:x = .ref a) (z1_:SqT K H a xs) (z2_:(cutV xs lo hi=xs→Q (.ref a) H)) (z3_:∀ p,H p=none→Q (.ref p) (upd H p (.tup (cutV xs lo hi))))
theorem zd9 (hK:X.K=K):SlR X (rSlT2 K):=by
 subst hK
 intro pins s σ H x v vl vu lo hi sl Q I rx hs pl pu h
 obtain ⟨a,xs,rfl,hx,q0,q⟩:=h
 by_cases hw:sIx xs.length 0 lo=0∧sIx xs.length xs.length hi=xs.length
 ·cases rx
  obtain ⟨its,r,ht,hz⟩:=I.tuple hx
  have hlen:its.toArray.size=xs.length:=by rw [Xal];exact r.length.symm
  refine ⟨"tuple",_,PyProof.Rows.slot_tuple_getitem.lookup,ht.typeIs,?_⟩
  refine zcJ ht hs pl pu (by rw [hlen];exact hw) ?_
  exact ⟨.ref a,H,I,rfl,q0 (by unfold cutV;rw [hw.1,hw.2];simp)⟩
 ·exact sl_tup pins s σ H _ v vl vu lo hi sl Q I rx hs pl pu ⟨a,xs,rfl,hx,hw,q⟩
inductive rCatT2 (K:W.Frag)(x:V)(y:V)(H:Hp)(Q:VK):Prop
 | mk (a:_) (b:_) (xs:_) (ys:_) (z0_:x = .ref a) (z1_:y = .ref b) (z2_:SqT K H a xs) (z3_:SqT K H b ys) (z4_:xs.length+ys.length≤sizeLine) (z5_:(xs=[]→Q (.ref b) H)) (z6_:(ys=[]→Q (.ref a) H)) (z7_:(∀ p,H p=none→Q (.ref p) (upd H p (.tup (xs ++ ys)))))
theorem zge (hK:X.K=K):OpR X (binaryOp .Add) (rCatT2 K):=by
 subst hK
 intro pins s σ H x y v u Q I rx ry h
 obtain ⟨a,b,xs,ys,rfl,rfl,ha,hb,hz,q0,q1,q2⟩:=h
 by_cases hx:xs=[]
 ·cases rx
  cases ry
  obtain ⟨its,r1,p1,_⟩:=I.tuple ha
  obtain ⟨its2,r2,p2,_⟩:=I.tuple hb
  rw [r1.nil_iff.mpr hx] at p1
  exact zjg p1 p2 ⟨.ref b,H,I,rfl,q0 hx⟩
 ·exact zke pins s σ H _ _ v u Q I rx ry ⟨a,b,xs,ys,rfl,rfl,ha,hb,hx,hz,q1,fun _=>q2⟩
inductive rNeL0 (K:W.Frag)(x:V)(y:V)(H:Hp)(Q:VK):Prop
 | mk (a:_) (b:_) (xs:_) (z0_:x = .ref a) (z1_:y = .ref b) (z2_:SqL K H a xs) (z3_:SqL K H b []) (z4_:Q (.bl (!xs.isEmpty)) H)
theorem zem (hu:X.A.units<cLine)(hK:X.K=K):OpR X (compareOp .NotEq) (rNeL0 K):=by
 subst hK
 rintro pins s σ H x y v u Q I rx ry ⟨a,b,xs,rfl,rfl,ha,hb,q⟩
 cases rx;cases ry
 obtain ⟨its,r1,p1,_⟩:=I.list ha
 obtain ⟨its2,r2,p2,_⟩:=I.list hb
 obtain rfl:=r2.nil_iff.mpr rfl
 have e:its.toArray.size=xs.length:=by rw [Xal];exact r1.length.symm
 cases xs with
 | nil =>
  refine RcNeAt.lists (e:=fun _=>true) p1.isList p2.isList (by rw [e];rfl) hu (fun j h1 h2=>absurd h2 (by simp)) _ _ _ _ ⟨.bl false,H,I,?_,q⟩
  rw [e];rfl
 | cons z zs=>exact RcNeAt.lists_lengths p1.isList p2.isList (by rw [e];exact bne_iff_ne.mpr (by simp)) hu _ _ _ _ ⟨.bl true,H,I,rfl,q⟩
theorem zjf {g:TG}{tf:TT}{te:TE}{Q:List V→Hp→Prop}{σ:St}{H:Hp}{a:Addr}{xs:List V}(Pv:Nat→List V→St→Hp→Prop)(hn:xs.length≤sizeLine)(h0:Pv 0 [] σ H)(hl:∀ i ys σ H,i≤xs.length→Pv i ys σ H→SqT K H a xs∧ys.length≤i)
  (hs:∀ i x ys σ H,xs[i]? = some x→Pv i ys σ H→g x σ H fun σ2 H2=>tf σ2 H2 fun b H3=>if b=true then te σ2 H3 fun y H4=>Pv (i+1) (ys ++ [y]) σ2 H4 else Pv (i+1) ys σ2 H3)
  (hd:∀ ys σ H,Pv xs.length ys σ H→Q ys H):zeA (Itt K a) g tf te Q σ H:=by
 refine ⟨fun i m ys σ H=>m=xs.length - i∧i≤xs.length∧Pv i ys σ H,⟨xs.length,by simp,Nat.zero_le _,h0⟩,?_⟩
 rintro i m ys σ H ⟨rfl,hi,p⟩
 obtain ⟨q,hz⟩:=hl i ys σ H hi p
 by_cases hlt:i<xs.length
 ·refine .inr ⟨⟨xs,xs[i],q,by simp [hlt]⟩,by omega,Pv (i+1),fun ys' σ' H' p'=>⟨xs.length - (i+1),by omega,rfl,hlt,p'⟩,fun x H' y=>?_⟩
  obtain ⟨e,y⟩:=y
  subst e
  exact hs i x ys σ _ (y xs q) p
 ·have e:i=xs.length:=by omega
  subst e
  exact .inl ⟨⟨xs,q,Xaf _⟩,by omega,hd ys σ H p⟩
end
end L2
end
section
namespace L2
open PySem PySem.Spec PyProof.Rows HT
def Slid (fs ch:List Addr)(h h':Heap):Prop:=∀ b o,h.get? b=some o→b ∉ ch→(b ∉ fs→h'.get? b=some o)∧∃ sl,h'.get? b=some { o with slots:=sl }
theorem Slid.of {fs ch:List Addr}{h h':Heap}(k:∀ b o,h.get? b=some o→b ∉ ch→h'.get? b=some o):Slid fs ch h h':=fun b o e hc=>⟨fun _=>k b o e hc,o.slots,k b o e hc⟩
theorem Slid.trans {fs ch:List Addr}{h1 h2 h3:Heap}(x:Slid fs ch h1 h2)(y:Slid fs ch h2 h3):Slid fs ch h1 h3:=fun b o e hc=>by
 obtain ⟨x1,sl,x2⟩:=x b o e hc
 refine ⟨fun hf=>(y b o (x1 hf) hc).1 hf,?_⟩
 obtain ⟨_,sl2,y2⟩:=y b _ x2 hc
 exact ⟨sl2,y2⟩
theorem Slid.mono {fs fs' ch ch':List Addr}{h h':Heap}(x:Slid fs ch h h')(hf:∀ b∈fs,b∈fs')(hc:∀ b∈ch,b∈ch'):Slid fs' ch' h h':=fun b o e n=>⟨fun z=>(x b o e fun q=>n (hc b q)).1 fun q=>z (hf b q),(x b o e fun q=>n (hc b q)).2⟩
def XAt (h:Heap)(e T:Addr)(cls fl:Value)(od:Option Addr):Prop:=∃ oe vs oT ts,h.get? e=some oe∧(oe.cls=cls∧oe.dict=od)∧oe.data = .fields vs∧vs[1]? = some (.ref T)∧T≠e∧h.get? T=some oT∧oT.data = .fields ts∧ts[3]? = some fl
section
variable {M:Model}{A:Around}{E:Value→Shared→Prop}{s:Shared}
theorem zdS (f:Array Value→Array Value)(o:Obj):(Obj.mapFields f o).dict=o.dict:=by
 obtain ⟨c,d,dt,sl⟩:=o
 cases dt <;> rfl
theorem zhb {base:Heap}{env:Env}{outer:List Env}{L e:Addr}{oe:Obj}{vs:Array Value}{head:Value}{hadNext:Bool}{Q:Unit→Shared→Prop}
  (hfr:A.frames=some (env :: outer)) (hl:s.heap.FunFrames base (env :: outer)) (hf:env.frame=some L)
  (he:s.heap.get? e=some oe) (hd:oe.data = .fields vs) (hsz:1<vs.size)
  (h:∀ h' T,s.heap.get? T=none→Slid ((env :: outer).filterMap (·.frame)) [e] s.heap h'→XAt h' e T oe.cls (rawInt L) oe.dict→Q () { s with heap:=h' }) :
  wpAny M A (do let a ← frameOf env;let pl ← entryPlaceOf L hadNext;let b ← EntryCells.newEntry head a .none (rawInt L) .none pl;setField (.ref e) 1 b) Q E s:=by
 have hene:e ∉ (env :: outer).filterMap (·.frame):=fun hm=>by
  obtain ⟨_,o,ho,hnf⟩:=hl.mem hm
  rw [he] at ho;injection ho with ho;subst ho;exact hnf vs hd
 refine Xaa (wpAny_frameOf_fun hfr hl hf fun h₁ hs₁=>?_)
 refine Xaa (wpAny_entryPlaceOf fun pl hpl=>?_)
 unfold EntryCells.newEntry newFields
 refine Xaa (XaL ?_ (hpl.sizeOk5 _ _ _ _ _))
 have he₁:h₁.get? e=some oe:=(hs₁.2.1 e hene).trans he
 have he₂:=Xad (h:=h₁) { cls:=.type "traceback",dict:=none,data:=.fields ([head,.ref L,.none,rawInt L,.none] ++ (if pl.isEmpty then List.replicate 6 Value.none else pl)).toArray } he₁
 refine XaQ he₂ hd hsz (h _ h₁.objs.size ?_ ?_ ?_)
 ·rw [hs₁.1];exact Xbw (Xaf _)
 ·intro b o hb hc
  have hbe:b≠e:=fun z=>hc (by rw [z];exact Xbr _)
  have keep:∀ o',h₁.get? b=some o' →
    ((h₁.push { cls:=.type "traceback",dict:=none,data:=.fields ([head,.ref L,.none,rawInt L,.none] ++ (if pl.isEmpty then List.replicate 6 Value.none else pl)).toArray }).update e (Obj.mapFields (·.setIfInBounds 1 (Value.ref h₁.objs.size)))).get? b=some o':=fun o' hb=>by
   rw [XaG _ _ (Ne.symm hbe)]
   exact Xad _ hb
  refine ⟨fun hn=>keep o ((hs₁.2.1 b hn).trans hb),?_⟩
  obtain ⟨sl,hs⟩:=hs₁.2.2 b o hb
  exact ⟨sl,keep _ hs⟩
 ·have hTe:h₁.objs.size≠e:=Nat.ne_of_gt (Xan he₁)
  have hd₃:=Obj.data_mapFields hd (·.setIfInBounds 1 (Value.ref h₁.objs.size))
  have he₃:=XaH (Obj.mapFields (·.setIfInBounds 1 (Value.ref h₁.objs.size))) he₂ (Obj.isFreed_of_fields hd₃)
  have hT₃:=(XaG (h₁.push { cls:=.type "traceback",dict:=none,data:=.fields ([head,.ref L,.none,rawInt L,.none] ++ (if pl.isEmpty then List.replicate 6 Value.none else pl)).toArray })
   (Obj.mapFields (·.setIfInBounds 1 (Value.ref h₁.objs.size))) (Ne.symm hTe)).trans (Xam h₁ rfl)
  exact ⟨_,_,_,_,he₃,⟨Obj.cls_mapFields _ _,zdS _ _⟩,hd₃,by simp [hsz],hTe,hT₃,rfl,by first | (simp;done) | (rcases hpl with rfl | ⟨_,_,_,_,_,_,_,rfl⟩ <;> simp)⟩
theorem zcM {base:Heap}{env:Env}{outer:List Env}{L e:Addr}{oe:Obj}{vs:Array Value}{Q:Unit→Shared→Prop}(hfr:A.frames=some (env :: outer))(hl:s.heap.FunFrames base (env :: outer))(hf:env.frame=some L)
  (he:s.heap.get? e=some oe) (hd:oe.data = .fields vs) (h1:vs[1]? = some .none)
  (h:∀ h' T,s.heap.get? T=none→Slid ((env :: outer).filterMap (·.frame)) [e] s.heap h'→XAt h' e T oe.cls (rawInt L) oe.dict→Q () { s with heap:=h' }):wpAny M A (noteFrame (.ref e) env) Q E s:=by
 unfold noteFrame
 simp only [hf]
 refine Xaa (Xa8 he hd h1 ?_)
 rw [if_neg (by decide)]
 exact zhb hfr hl hf he hd (Xbi.mp h1).1 h
theorem zc6 {base:Heap}{env:Env}{outer:List Env}{L e T:Addr}{cls:Value}{od:Option Addr}{Q:Unit→Shared→Prop}(hfr:A.frames=some (env :: outer))(hl:s.heap.FunFrames base (env :: outer))(hf:env.frame=some L)
  (x:XAt s.heap e T cls .none od)
  (h:∀ h' T',s.heap.get? T'=none→Slid ((env :: outer).filterMap (·.frame)) [e,T] s.heap h'→XAt h' e T' cls (rawInt L) od→Q () { s with heap:=h' }):wpAny M A (noteFrame (.ref e) env) Q E s:=by
 obtain ⟨oe,vs,oT,ts,he,⟨hcls,hdn⟩,hd,h1,hTe,hT,hdT,h3⟩:=x
 subst hcls hdn
 unfold noteFrame
 simp only [hf]
 refine Xaa (Xa8 he hd h1 ?_)
 rw [if_pos (show (Value.ref T != Value.none)=true from by simp)]
 refine Xaa (Xa8 hT hdT h3 ?_)
 rw [if_neg (show ¬ ((Value.none == rawInt L)=true) from by simp [rawInt])]
 refine Xaa (XaQ hT hdT (Xbi.mp h3).1 ?_)
 have other:∀ b,b≠T→(s.heap.update T (Obj.mapFields (·.setIfInBounds 3 Value.none))).get? b=s.heap.get? b:=fun b hb=>XaG _ _ (Ne.symm hb)
 have noRecord:∀ b o,s.heap.get? b=some o→(∀ vs,o.data≠.fields vs)→b≠T:=fun b o hb hnf q=>by
  rw [q,hT] at hb;injection hb with hb;subst hb;exact hnf ts hdT
 refine zhb hfr (hl.of_keeps fun b o hb hnf=>⟨o,(other b (noRecord b o hb hnf)).trans hb,rfl⟩) hf ((other e (Ne.symm hTe)).trans he) hd (Xbi.mp h1).1 fun h' T' fT sl x'=>h h' T' ?_ ?_ x'
 ·by_cases z:T'=T
  ·have hd':=Obj.data_mapFields hdT (·.setIfInBounds 3 Value.none)
   have q:=XaH (Obj.mapFields (·.setIfInBounds 3 Value.none)) hT (Obj.isFreed_of_fields hd')
   rw [z,q] at fT;cases fT
  ·exact (other T' z).symm.trans fT
 ·refine Slid.trans (Slid.of fun b o e hc=>(other b fun z=>hc (by rw [z];simp)).trans e) (sl.mono (fun _ z=>z) fun b z=>by rw [Xab.mp z];simp)
theorem zci {e T:Addr}{cls fl:Value}{od:Option Addr}{Q:Unit→Shared→Prop}(x:XAt s.heap e T cls fl od)(h:∀ h',Slid [] [T] s.heap h'→XAt h' e T cls .none od→Q () { s with heap:=h' }):wpAny M A (setFlight (.ref e) none) Q E s:=by
 obtain ⟨oe,vs,oT,ts,he,hcls,hd,h1,hTe,hT,hdT,h3⟩:=x
 have hsz:=(Xbi.mp h3).1
 refine wpAny_setFlight_none he hd h1 hT hdT hsz (h _ ?_ ?_)
 ·exact Slid.of fun b o e hc=>(XaG _ _ fun z=>hc (by rw [z];exact Xbr _)).trans e
 ·have hd':=Obj.data_mapFields hdT (·.setIfInBounds 3 Value.none)
  have q:=XaH (Obj.mapFields (·.setIfInBounds 3 Value.none)) hT (Obj.isFreed_of_fields hd')
  exact ⟨oe,vs,_,_,(XaG _ _ hTe).trans he,hcls,hd,h1,hTe,q,hd',by simp [hsz]⟩
theorem zch {base:Heap}{env:Env}{outer:List Env}{L e:Addr}{oe:Obj}{vs:Array Value}{Q:Unit→Shared→Prop}(hfr:A.frames=some (env :: outer))(hl:s.heap.FunFrames base (env :: outer))(hf:env.frame=some L)
  (he:s.heap.get? e=some oe) (hd:oe.data = .fields vs) (h1:vs[1]? = some .none)
  (h:∀ h' T,s.heap.get? T=none→Slid ((env :: outer).filterMap (·.frame)) [e] s.heap h'→XAt h' e T oe.cls .none oe.dict→Q () { s with heap:=h' }):wpAny M A (leaving env (.ref e)) Q E s:=by
 unfold leaving
 refine Xaa (zcM hfr hl hf he hd h1 fun h' T fT sl x=>zci x fun h'' sl2 x2=>h h'' T fT ?_ x2)
 intro b o e hc
 obtain ⟨s1,t1,s2⟩:=sl b o e hc
 have nT:b ∉ [T]:=fun z=>by rw [Xab.mp z,fT] at e;cases e
 refine ⟨fun hn=>(sl2 b o (s1 hn) nT).1 (by simp),?_⟩
 exact (sl2 b _ s2 nT).2
end
end L2
end
section
namespace L2
open PySem PySem.Spec PyProof.Rows HT
section
variable {P:Program}{w:World}{H H':Hp}{h h':Heap}{fs ch:List Addr}
theorem ObjOk.there {a:Addr}{o:HO}(x:ObjOk P w H h a o):∃ u,h.get? a=some u:=by
 cases o with
 | lst xs=>obtain ⟨_,_,_,_,e⟩:=x;exact ⟨_,e⟩
 | tup xs=>obtain ⟨_,_,_,p⟩:=x;obtain ⟨o,e,_⟩:=p;exact ⟨_,e⟩
 | dK kvs=>obtain ⟨_,_,_,_,o,_,_,e,_⟩:=x;exact ⟨_,e⟩
 | dT kvs=>obtain ⟨_,_,_,_,o,_,_,e,_⟩:=x;exact ⟨_,e⟩
 | set S n=>obtain ⟨o,_,_,_,e,_⟩:=x;exact ⟨_,e⟩
 | ins C dx fs=>obtain ⟨_,_,_,e,_⟩:=x;exact ⟨_,e⟩
 | own y=>obtain ⟨_,e⟩:=x;exact ⟨_,e⟩
 | xd fs=>obtain ⟨_,⟨_,_,_,e,_⟩,_⟩:=x;exact ⟨_,e⟩
 | rng lo hi=>obtain ⟨_,_,_,e⟩:=x;exact ⟨_,e⟩
 | frz ob u=>obtain ⟨e,_⟩:=x;exact ⟨_,e⟩
 | tbl ps=>exact ⟨_,x⟩
 | met f y=>exact ⟨_,x⟩
 | ext φ=>obtain ⟨_,⟨_,e⟩,_⟩:=x;exact ⟨_,e⟩
theorem HOk.none_of {a:Addr}(x:HOk P w H h)(e:h.get? a=none):H a=none:=by
 cases q:H a with
 | none=>rfl
 | some o=>obtain ⟨u,z⟩:=(x a o q).there;rw [e] at z;cases z
theorem HOk.slid (x:HOk P w H h)(sl:Slid fs ch h h')(hf:∀ b∈fs,H b=none)(hc:∀ b∈ch,H b=none):HOk P w H h':=fun a o e=>by
 refine (x a o e).stay (fun b u hb q=>?_) (fun _ z=>z) (fun _ _ z=>z)
 have hs:∃ o',H b=some o':=by
  rcases hb with rfl | z
  ·exact ⟨_,e⟩
  ·exact ⟨_,z⟩
 obtain ⟨o',hs⟩:=hs
 exact (sl b u q fun z=>by rw [hc b z] at hs;cases hs).1 fun z=>by rw [hf b z] at hs;cases hs
end
section
variable {X:Cx}{pins:List (Addr×Obj)}{σ:St}{H:Hp}{s:Shared}{h':Heap}{ch:List Addr}
theorem Inv.slid (I:Inv X pins σ H s)(sl:Slid (frs X.stack) ch s.heap h')
  (hc:∀ b∈ch,H b=none∧X.s₀.heap.get? b=none∧b≠X.env.locals∧(∀ x c,X.env.cells.lookup x=some c→c≠b)∧∀ p∈X.pn ++ pins,p.1≠b):Inv X pins σ H { s with heap:=h' }:=by
 have nch:∀ b o,X.s₀.heap.get? b=some o→b ∉ ch:=fun b o e z=>by rw [(hc b z).2.1] at e;cases e
 have nst:∀ b o,X.s₀.heap.get? b=some o→b ∉ X.fs→b ∉ frs X.stack:=fun b o e hb z=>by
  rcases Xap.mp (I.stkSub b z) with q | q
  ·exact absurd q (Xav (Xaj (Xan e) I.ok.above))
  ·exact hb q
 have slot:∀ b o,s.heap.get? b=some o→b ∉ ch→∃ sl,h'.get? b=some { o with slots:=sl }:=fun b o e n=>(sl b o e n).2
 refine ⟨I.ok,I.os,I.bare,⟨fun b o e n hb hx=>?_,fun b o e n hb hx=>?_,I.base.free,fun b o e hx=>?_,I.base.tups,I.base.frzs,I.base.tbls⟩,?_,fun y c e=>?_,I.free,I.freeC,fun p hp=>?_,I.hok.slid sl (fun b hb=>I.stkFree b hb) (fun b hb=>(hc b hb).1),I.len⟩
 ·exact (sl b o (I.base.keep b o e n hb hx) (nch b o e)).1 (nst b o e hb)
 ·obtain ⟨t,e1⟩:=I.base.slot b o e n hb hx
  obtain ⟨t2,e2⟩:=slot b _ e1 (nch b o e)
  exact ⟨t2,e2⟩
 ·obtain ⟨o',e1⟩:=I.base.there b o e hx
  obtain ⟨t2,e2⟩:=slot b _ e1 (nch b o e)
  exact ⟨_,e2⟩
 ·obtain ⟨m,⟨o,es,ep,ho,hd,r⟩,hl⟩:=I.loc
  obtain ⟨t,e1⟩:=slot _ _ ho fun z=>(hc _ z).2.2.1 rfl
  refine ⟨m,⟨_,es,ep,e1,hd,r⟩,fun i x v e2 e3 e4=>?_⟩
  obtain ⟨u,ru,q⟩:=hl i x v e2 e3 e4
  refine ⟨u,ru,?_⟩
  rcases q with q | ⟨k,c,e,oc,hoc,hod⟩
  ·exact .inl q
  ·obtain ⟨t2,e5⟩:=slot _ _ hoc fun z=>(hc _ z).2.2.2.1 x c e rfl
   exact .inr ⟨k,c,e,_,e5,hod⟩
 ·obtain ⟨v,oc,hoc,hod⟩:=I.cell y c e
  obtain ⟨t2,e5⟩:=slot _ _ hoc fun z=>(hc _ z).2.2.2.1 y c e rfl
  exact ⟨v,_,e5,hod⟩
 ·obtain ⟨e,n,ne,nf,d⟩:=I.pin p hp
  refine ⟨(sl p.1 p.2 e fun z=>(hc _ z).2.2.2.2 p hp rfl).1 fun z=>?_,n,ne,nf,d⟩
  rcases Xap.mp (I.stkSub _ z) with q | q
  ·exact ne q
  ·exact nf q
theorem Inv.none_ours (I:Inv X pins σ H s){b:Addr}(hb:s.heap.get? b=none)(hx:b ∉ X.ex):X.s₀.heap.get? b=none∧b≠X.env.locals∧(∀ x c,X.env.cells.lookup x=some c→c≠b)∧∀ p∈X.pn ++ pins,p.1≠b:=by
 refine ⟨?_,fun z=>?_,fun x c e z=>?_,fun p hp z=>?_⟩
 ·cases q:X.s₀.heap.get? b with
  | none=>rfl
  | some o=>obtain ⟨o',e⟩:=I.base.there b o q hx;rw [e] at hb;cases hb
 ·obtain ⟨m,⟨o,es,ep,ho,_⟩,_⟩:=I.loc
  rw [← z,hb] at ho;cases ho
 ·obtain ⟨v,oc,hoc,_⟩:=I.cell x c e
  rw [z,hb] at hoc;cases hoc
 ·obtain ⟨e,_⟩:=I.pin p hp
  rw [z,hb] at e;cases e
end
inductive CX1 (P:Program)(w:World)(outer:List Env)(H:Hp)(s:Shared)(E:XK)(e:Value)(s':Shared):Prop
 | mk (ea:_) (T:_) (H':_) (C:_) (od:_) (z0_:e = .ref ea) (z1_:s'.os=s.os) (z2_:AllBare s'.gens) (z3_:Un (frs outer) [] H H' s.heap s'.heap) (z4_:HOk P w H' s'.heap) (z5_:XAt s'.heap ea T (.ref C) .none od) (z6_:s.heap.get? ea=none) (z7_:s.heap.get? T=none) (z8_:H' ea=none) (z9_:H' T=none) (z10_:E (.ref C) od H')
theorem zfZ {P:Program}{w:World}{K:W.Frag}{mg:Str→Option Value}{base:Heap}{N:List Str}{qual:Str}{scope:Scope}{f:Addr}{cd:Value}{A:Around}{outer:List Env}{s:Shared}{H:Hp}{E:XK}
  {pins:List (Addr×Obj)} {σ:St} {H1:Hp} {s2:Shared} {h':Heap} {e C:Addr} {vs:List Value} (I:Inv (cxOf (CX1 P w) P w K mg base N qual scope f cd A outer s H E) pins σ H1 s2) (m:Heap.MadeExcOf s2.heap h' e (.ref C) vs) (hE:E (.ref C) none H1) :
  (cxOf (CX1 P w) P w K mg base N qual scope f cd A outer s H E).xe (.ref e) { s2 with heap:=h' }:=by
 have I':Inv (cxOf (CX1 P w) P w K mg base N qual scope f cd A outer s H E) pins σ H1 { s2 with heap:=h' }:=I.kept (t':=s2.toks) m.keeps
 obtain ⟨t,he,_,_⟩:=m.there
 have b1:=I.base
 refine zch I'.ok.frames I'.stack (L:=s.heap.objs.size) rfl he rfl rfl fun h'' T fT sl x=>?_
 have ne:∀ b o,s.heap.get? b=some o→b ∉ [e]:=fun b o q z=>by
  obtain ⟨o',q'⟩:=b1.there b o q (by show b ∉ ([]:List Addr);simp)
  rw [Xab.mp z,m.new] at q';cases q'
 have nL:∀ b o,s.heap.get? b=some o→b ∉ frs outer→b ∉ ((envOfC qual scope s.heap.objs.size f cd) :: outer).filterMap (·.frame):=fun b o q hb z=>by
  rcases Xap.mp (show b∈s.heap.objs.size :: outer.filterMap (·.frame) from z) with r | r
  ·exact absurd r (Xav (Xan q))
  ·exact hb r
 have kb:∀ b o,s2.heap.get? b=some o→h'.get? b=some o:=m.keeps
 refine ⟨e,T,H1,C,none,rfl,I.os,I.bare,⟨fun b o q n hb _=>?_,fun b o q n hb _=>?_,fun b o q n _=>b1.free b o q n (by show b ∉ ([]:List Addr);simp),fun b o q _=>?_,b1.tups,b1.frzs,b1.tbls⟩,?_,x,?_,?_,?_,?_,hE⟩
 ·exact (sl b o (kb _ _ (b1.keep b o q n hb (by show b ∉ ([]:List Addr);simp))) (ne b o q)).1 (nL b o q hb)
 ·obtain ⟨t1,e1⟩:=b1.slot b o q n hb (by show b ∉ ([]:List Addr);simp)
  obtain ⟨t2,e2⟩:=(sl b _ (kb _ _ e1) (ne b o q)).2
  exact ⟨t2,e2⟩
 ·obtain ⟨o',e1⟩:=b1.there b o q (by show b ∉ ([]:List Addr);simp)
  obtain ⟨t2,e2⟩:=(sl b _ (kb _ _ e1) (ne b o q)).2
  exact ⟨_,e2⟩
 ·refine I'.hok.slid sl (fun b hb=>I'.stkFree b hb) fun b hb=>?_
  rw [Xab.mp hb]
  exact I.hok.none_of m.new
 ·cases q:s.heap.get? e with
  | none=>rfl
  | some o=>exact absurd (Xbr e) (ne e o q)
 ·cases q:s.heap.get? T with
  | none=>rfl
  | some o =>
   obtain ⟨o',q'⟩:=b1.there T o q (by show T ∉ ([]:List Addr);simp)
   have:=kb _ _ q'
   rw [show h'.get? T=none from fT] at this;cases this
 ·exact I.hok.none_of m.new
 ·exact I'.hok.none_of fT
end L2
end
section
namespace L2
open PySem PySem.Spec PyProof.Rows HT
def NsK (K:W.Frag)(N:Addr):Prop:=∃ c d es ep sl,K.lookup N=some ⟨c,d,.dict es ep,sl⟩∧StrKeys es∧nsFind es "__init__" = none
def bmV:List Value:=[.type "ValueError",.type "Exception",.type "BaseException",.type "object"]
inductive TailK (K:W.Frag):List Value→Prop
 | base:TailK K bmV
 | own {A:Addr} {c0:Value} {dd:Option Addr} {cd:ClassData} {sl:Array (Option Value)} {tl:List Value}:K.lookup A=some ⟨c0,dd,.cls cd,sl⟩→NsK K cd.ns→TailK K tl→TailK K (.ref A :: tl)
structure ExcK (K:W.Frag)(C:Addr):Prop where
 ex:∃ nm q N bs bm hdct sn sub ab col dd k0 k1 k2 k3 k5,K.lookup C=some (excClassObj nm q C N bs bm hdct sn sub ab col dd k0 k1 k2 k3 k5 "ValueError.__new__")∧NsK K N∧TailK K bm
theorem NsK.ns {K:W.Frag}{N:Addr}{h:Heap}(x:NsK K N)(k:K.In h):∃ m,h.Ns N m∧m "__init__" = none:=by
 obtain ⟨c,d,es,ep,sl,e,hs,hi⟩:=x
 exact ⟨nsFind es,⟨_,es,ep,k _ _ e,rfl,hs,fun _=>rfl⟩,hi⟩
theorem TailK.tail {K:W.Frag}{bm:List Value}{h:Heap}(x:TailK K bm)(k:K.In h):OwnTail h bmV bm:=by
 induction x with
 | base=>exact .base
 | own e n _ ih =>
  obtain ⟨m,hn,hi⟩:=n.ns k
  exact .own (k _ _ e) hn hi ih
section
variable {X:Cx}{x:Str}{C:Addr}{e:Expr}{te:TE}{np cpos pos:Pos}{R:Hp→Prop}
def one1 (R:Hp→Prop):List V→Hp→Prop
 | [_],H=>R H
 | _,_=>False
theorem ziW {R:Hp→Prop}{vs:List V}{H:Hp}(h:one1 R vs H):∃ v,vs=[v]∧R H:=by
 match vs,h with
 | [v],h=>exact ⟨v,rfl,h⟩
theorem zdm (hg:Gl X x)(hm:X.mg x=some (.ref C))(hk:ExcK X.K C)(hc:X.calm=true)(he:PE X e te)
  (hx:∀ (pins:List (Addr×Obj)) (σ:St) (H1:Hp) (s2:Shared) (h':Heap) (ea:Addr) (vs:List Value),Inv X pins σ H1 s2→Heap.MadeExcOf s2.heap h' ea (.ref C) vs→R H1→X.xe (.ref ea) { s2 with heap:=h' })
  (hd:(x == ("__debug__" : Str))=false:=by decide) (hst:starEach [e] X.env=(false,eval e X.env) :: starEach [] X.env:=by rfl) (hpl:(backTo cpos (starEach [] X.env)).any (·.1)=false:=by rfl) :
  PS X (.Raise (some (.Call (.Name x np) [e] [] cpos)) none pos) (fun _ σ H=>te σ H fun _ H1=>R H1):=by
 intro pins s σ H D I h
 obtain ⟨nm,q,N,bs,bm,hdct,sn,sub,ab,col,dd,k0,k1,k2,k3,k5,hC,hN,hT⟩:=hk.ex
 obtain ⟨c,d,es,ep,sl,hNl,hNs,hi⟩:=hN
 have T:=hT.tail I.kIn
 refine wpAny_Raise_call_subT (C:=C) (nm:=nm) (q:=q) (N:=N) (bs:=bs) (bm:=bm) (hdct:=hdct) (sn:=sn) (sub:=sub) (ab:=ab) (col:=col) (dd:=dd) (k0:=k0) (k1:=k1) (k2:=k2) (k3:=k3) (k5:=k5)
  PySem.F.excBase_ValueError (mN:=nsFind es) (T.hasType PySem.F.excBase_ValueError.hasBase) (I.ok.hd hc) (by rw [hst];show (false || (backTo cpos (starEach [] X.env)).any (·.1))=false;rw [hpl];rfl) hi (za4 I hg hm ⟨rfl,?_⟩ hd)
 have h2:=(zaa (t:=tNil) he zae hst) cpos pins s σ H (one1 R) I h
 rw [hst] at h2 ⊢
 refine Calls.evalArgs_plain (thn h2 fun us s2 h3=>?_)
 obtain ⟨vs,H1,I2,r,q1⟩:=h3
 obtain ⟨v,rfl,q1⟩:=ziW q1
 have hl:us.length=1:=r.length.symm
 refine ⟨rfl,by show us.length≤sizeLine;rw [hl];decide,I2.kIn _ _ hC,⟨_,es,ep,I2.kIn _ _ hNl,rfl,hNs,fun _=>rfl⟩,hT.tail I2.kIn,fun h' ea hm'=>hx pins σ H1 s2 h' ea us I2 hm' q1⟩
end
end L2
end
section
namespace L2
open PySem PySem.Spec PyProof.Rows HT
theorem PS.nox {X:Cx}{st:Stmt}{t:TS}(h:PS X.nox st t):PS X st t:=fun pins s σ H D I hw =>
 Xas (h pins s σ H D (I.wish _) hw) (fun _ _ q=>q.unwish) fun _ _ z=>False.elim z
theorem Fun.okX {P:Program}{w:World}{K:W.Frag}{mg:Str→Option Value}{base:Heap}{x qual:Str}{st:Stmt}{f:Addr}{fd:FuncData}{N ps:List Str}{k:Nat}{sp:Sp}(F:Fun K x qual st f fd)(S:FnScope N ps (zak st))(len:∀ vs H Q E,sp vs H Q E→vs.length=ps.length)
  (hbody:∀ (cdv:Value) (A:Around) (outer:List Env) (s:Shared) (H:Hp) (vs:List V) (Q:VK) (E:XK),Room k (A.deeper (envOfC qual (zak st) s.heap.objs.size f cdv))→sp vs H Q E →
   ∃ t,PSs (cxOf (CX1 P w) P w K mg base N qual (zak st) f cdv A outer s H E) (zaP st) t∧t { nx:=fun _ H'=>Q .non H',rt:=Q } (start N vs) H):FnOk P w K mg base (CX1 P w) (k+1) f fd ps sp:=by
 obtain ⟨oc,od,kV,doc,pm,an,cdv,ct,osl,rfl,lk,hcd⟩:=F.ex
 exact zja lk hcd S len fun A outer s H vs Q E hr hsp=>hbody cdv A outer s H vs Q E hr hsp
structure CalX (P:Program)(w:World)(K:W.Frag)(mg:Str→Option Value)(base:Heap)(k:Nat)(x:Str)(ps:List Str)(sp:Sp):Prop where
 ex:∃ f fd,FnOk P w K mg base (CX1 P w) k f fd ps sp∧mg x=some (.ref f)∧W.keepIn K (.ref f)=true∧Binds K fd ps []
abbrev Cx.marked (X:Cx)(e:Value):Cx:={ X with A:=X.A.mark (some e),calm:=false }
theorem Inv.marked {X:Cx}{pins:List (Addr×Obj)}{σ:St}{H:Hp}{s:Shared}(I:Inv X pins σ H s)(e:Value):Inv (X.marked e) pins σ H s:=
 ⟨⟨I.ok.mod,I.ok.kind,I.ok.glob,I.ok.blt,I.ok.above,I.ok.inj,I.ok.has,I.ok.cab,(fun z=>nomatch z),I.ok.frames,I.ok.stk,I.ok.exf,I.ok.bs,I.ok.bsz,I.ok.noex,I.ok.exfs,I.ok.funs,I.ok.frf⟩,I.os,I.bare,I.base,I.loc,I.cell,I.free,I.freeC,I.pin,I.hok,I.len⟩
theorem Inv.unmarked {X:Cx}{pins:List (Addr×Obj)}{σ:St}{H:Hp}{s:Shared}{e:Value}(hd:X.calm=true→X.A.handled=none)(I:Inv (X.marked e) pins σ H s):Inv X pins σ H s:=
 ⟨⟨I.ok.mod,I.ok.kind,I.ok.glob,I.ok.blt,I.ok.above,I.ok.inj,I.ok.has,I.ok.cab,hd,I.ok.frames,I.ok.stk,I.ok.exf,I.ok.bs,I.ok.bsz,I.ok.noex,I.ok.exfs,I.ok.funs,I.ok.frf⟩,I.os,I.bare,I.base,I.loc,I.cell,I.free,I.freeC,I.pin,I.hok,I.len⟩
def xIs (ea:Addr)(cls:Value)(od:Option Addr):Heap→Prop:=fun h=>∃ o vs,h.get? ea=some o∧(o.cls=cls∧o.dict=od)∧o.data = .fields vs
section
variable {X:Cx}{pins:List (Addr×Obj)}{σ:St}{H:Hp}{s:Shared}
theorem Inv.trackX {ea:Addr}{cls:Value}{od:Option Addr}(I:Inv X pins σ H s)(hn:H ea=none)(ho:xIs ea cls od s.heap)(h:X.s₀.heap.get? ea=none∧ea≠X.env.locals∧(∀ x c,X.env.cells.lookup x=some c→c≠ea)∧∀ p∈X.pn ++ pins,p.1≠ea):Inv X pins σ (upd H ea (.ext (xIs ea cls od))) s:=by
 have up:∀ b o,H b=some o→upd H ea (.ext (xIs ea cls od)) b=some o:=fun b o e=>by rw [zai (fun z=>by rw [z,hn] at e;cases e)];exact e
 refine ⟨I.ok,I.os,I.bare,⟨I.base.keep,I.base.slot,fun b o e n hx=>?_,I.base.there,fun b xs e=>up _ _ (I.base.tups b xs e),fun b o u e=>up _ _ (I.base.frzs b o u e),fun b ps e=>?_⟩,I.loc,I.cell,?_,fun x c e=>?_,fun p hp=>?_,fun a o e=>?_,I.len⟩
 ·rw [zai (fun z=>by rw [z,h.1] at e;cases e)];exact I.base.free b o e n hx
 ·obtain ⟨more,q⟩:=I.base.tbls b ps e
  exact ⟨more,up _ _ q⟩
 ·rw [zai (Ne.symm h.2.1)];exact I.free
 ·rw [zai (h.2.2.1 x c e)];exact I.freeC x c e
 ·obtain ⟨e,n,r⟩:=I.pin p hp
  exact ⟨e,by rw [zai (h.2.2.2 p hp)];exact n,r⟩
 ·by_cases z:a=ea
  ·subst z
   rw [zab] at e
   cases e
   obtain ⟨oo,vs,e1,e2,e3⟩:=id ho
   refine ⟨ho,⟨oo,e1⟩,fun h1 h2 ⟨o1,v1,q1,q2,q3⟩ k=>⟨o1,v1,k _ q1,q2,q3⟩⟩
  ·rw [zai z] at e
   exact (I.hok a o e).stay (fun _ _ _ q=>q) (fun b q=>up _ _ q) fun b xs q=>up _ _ q
theorem Inv.unname {h':Heap}{m:Str→Option Value}{j:Nat}{n:Str}{u:Option Value}{t':Nat}(I:Inv X pins σ H s)(hN:X.N.Nodup)(hj:X.N[j]? = some n)(hk:X.env.scope.names.lookup n=some .local)
  (hm:s.heap.Ns X.env.locals m) (hn':h'.Ns X.env.locals (fun x=>if x=n then u else m x)) (hs:Heap.SameBut X.env.locals s.heap h'):Inv X pins (σ.set j none) H { s with heap:=h',toks:=t' }:=by
 have hjσ:j<σ.length:=by rw [I.len];exact (Xae.mp hj).1
 have nl:∀ b o,X.s₀.heap.get? b=some o→b≠X.env.locals:=fun b o e=>Xav (Xaj (Xan e) I.ok.above)
 have cne:=I.cne
 refine ⟨I.ok,I.os,I.bare,⟨fun b o e n hb hx=>(hs.2 b (nl b o e)).trans (I.base.keep b o e n hb hx),fun b o e n hb hx=>?_,I.base.free,fun b o e hx=>?_,I.base.tups,I.base.frzs,I.base.tbls⟩,⟨_,hn',fun i y v' e1 e2 e3=>?_⟩,fun y c e=>?_,I.free,I.freeC,fun p hp=>?_,fun b ob e=>?_,by simpa using I.len⟩
 ·obtain ⟨sl,e1⟩:=I.base.slot b o e n hb hx
  exact ⟨sl,(hs.2 b (nl b o e)).trans e1⟩
 ·obtain ⟨o',e1⟩:=I.base.there b o e hx
  exact ⟨o',(hs.2 b (nl b o e)).trans e1⟩
 ·have hi:i≠j:=fun z=>by rw [z,XbD hjσ] at e2;cases e2
  rw [List.getElem?_set_ne (Ne.symm hi)] at e2
  obtain ⟨m0,hn0,hl⟩:=I.loc
  obtain ⟨u',r',q⟩:=hl i y v' e1 e2 e3
  refine ⟨u',r',?_⟩
  rcases q with ⟨k,e⟩ | ⟨k,c,e,z⟩
  ·refine .inl ⟨k,?_⟩
   have ny:y≠n:=fun e=>hi (zeq hN e1 (e ▸ hj))
   have em:m0=m:=by
    obtain ⟨o1,es1,ep1,g1,d1,_,f1⟩:=hn0
    obtain ⟨o2,es2,ep2,g2,d2,_,f2⟩:=hm
    rw [g1] at g2;cases g2
    rw [d1] at d2;cases d2
    funext x;rw [← f1,← f2]
   show (if y=n then u else m y)=_
   rw [if_neg ny,← em];exact e
  ·exact .inr ⟨k,c,e,z.sameBut hs (cne y c e)⟩
 ·obtain ⟨w',z⟩:=I.cell y c e
  exact ⟨w',z.sameBut hs (cne y c e)⟩
 ·obtain ⟨e,n,ne,nf,d⟩:=I.pin p hp
  exact ⟨(hs.2 p.1 ne).trans e,n,ne,nf,d⟩
 ·refine (I.hok b ob e).stay (fun c w' hc q=>(hs.2 c ?_).trans q) (fun _ q=>q) fun _ _ q=>q
  rintro rfl
  have hf:=I.free
  rcases hc with z | hc
  ·rw [z] at hf;rw [hf] at e;cases e
  ·rw [hf] at hc;cases hc
end
end L2
end
section
namespace L2
open PySem PySem.Spec PyProof.Rows HT
section
variable {X:Cx}{k:Nat}{ps:List Str}{sp:Sp}{x fn cn n y:Str}{i j l:Nat}{Cb:Addr}{e:Expr}{t:TA}{px p1 p2 p3 p4 p5 p6 p7 p8 p9:Pos}
end
end L2
end
section
namespace L2
open PySem PySem.Spec PyProof.Rows HT PySem.W PySem.Calls
section
variable {prog:Program}{w:World}{A:Around}{E:Value→Shared→Prop}{s:Shared}{K:Frag}{x C:Addr}{ox:Obj}{oD:Option Obj}
theorem zhc {Q:Option Value→Shared→Prop}(X:K.In s.heap)(I:InstAt s.heap x ox C oD)(hga:findIn K (.ref C) "__getattribute__" = some (some (.builtin "BaseException.__getattribute__")))(hgr:findIn K (.ref C) "__getattr__" = some none)
  (hf:findObj K C oD "__class__" = some (.bind (.builtin "getset_descriptor.__get__") (.builtin "object.__class__"))) (hsub:subIn K (.ref C) (.type "BaseException")=some true) (hm:mroIn K C (.type "object")=some true)
  (h:Q (some (.ref C)) { s with toks:=s.toks+1 }):wpAny (model prog w) A (getAttr? (.ref x) "__class__") Q E s:=by
 obtain ⟨hh,g,d,t,os⟩:=s
 have L0:=I.type (M:=model prog w)
 have L1:=looks_findIn (M:=model prog w) X hga
 have L2:=looks_findIn (M:=model prog w) X hgr
 unfold getAttr? getAttrBy? getAttrBy
 refine Xaa (wpAny_mkText (Xaa (wpAny_attempt (XaK (Xaa (L0.at (Xaa (L1.at ?_))))))))
 have hx2:(Value.builtin "BaseException.__getattribute__" == Value.builtin "object.__getattribute__")=false:=by decide +kernel
 have hx:(onTheHeap (Value.ref C) && Value.builtin "BaseException.__getattribute__" == Value.builtin "object.__getattribute__")=false:=by rw [hx2];rfl
 show wpAny _ _ (if (onTheHeap (Value.ref C) && Value.builtin "BaseException.__getattribute__" == Value.builtin "object.__getattribute__")=true then _ else _) _ _ _
 rw [hx,if_neg Xao]
 unfold getAttrByItsOwn
 have hb:hookBefore (Value.ref C)=typeLookup (Value.ref C) "__getattr__" := rfl
 rw [hb]
 refine Xaa (L2.at ?_)
 refine Xaa (wpAny_attempt (XaK ?_))
 have hc:callGetattribute (Value.ref x) (Value.str "__class__" t) (Value.builtin "BaseException.__getattribute__") false=boundAndCalled (Value.builtin "BaseException.__getattribute__") (Value.ref x) (Value.str "__class__" t):=rfl
 rw [hc]
 unfold boundAndCalled
 rw [PySem.F.excAttr_ValueError.ga.bind (.ref x)]
 refine Xaa (Xac ?_)
 show wpAny _ _ (call (.builtin "BaseException.__getattribute__") [.ref x,.str "__class__" t]) _ _ _
 refine Xbm ?_
 have hk:builtinKind "BaseException.__getattribute__" = some .slot:=by decide +kernel
 have hs:splitId "BaseException.__getattribute__" = some ("BaseException","__getattribute__"):=by decide +kernel
 refine codeAny_call_builtin PySem.F.excAttr_ValueError.ga.plain PySem.F.entry_bexc_ga ?_
 have hi:Looks (model prog w) hh (isInstance (.ref x) (.type "BaseException")) true:=L0.andThen (looks_subIn X hsub)
 have ha:=PySem.F.args_bexc_ga (.ref x) (.str "__class__" t)
 have LF:=looks_find (M:=model prog w) X I hf
 refine @check_slot _ _ _ _ _ _ _ _ _ _ _ hk hs hi ha ?_
 unfold Builtin.«object.__getattribute__»
 refine Xaa (wpAny_of_eq (a:=(Value.ref x,[Value.str (Str.ofString "__class__") t])) rfl ?_)
 dsimp only
 refine Xaa (Xac (Xaa (L0.at (Xaa (LF.at ?_)))))
 show wpAny _ _ (holding [Value.builtin "object.__class__"] (call (.builtin "getset_descriptor.__get__") [.builtin "object.__class__",.ref x,.ref C]) >>= ret) _ _ _
 refine Xaa (XaK (Xbm (class_get (s:={ heap:=hh,gens:=g,drawn:=d,toks:=t+1,os:=os }) X I hm ?_)))
 exact Xac (handed_on rfl (Xac h))
structure XCls (K:Frag)(C:Addr):Prop where
 look:∃ c d cd sl,K.lookup C=some ⟨c,d,.cls cd,sl⟩
 ga:findIn K (.ref C) "__getattribute__" = some (some (.builtin "BaseException.__getattribute__"))
 gr:findIn K (.ref C) "__getattr__" = some none
 cf:∀ oD:Option Obj,findObj K C oD "__class__" = some (.bind (.builtin "getset_descriptor.__get__") (.builtin "object.__class__"))
 sub:subIn K (.ref C) (.type "BaseException")=some true
 mro:mroIn K C (.type "object")=some true
theorem zgi (c:XCls K C):KitX K (.ref x) (.ref C) (xIs x (.ref C) none) where
 ty:=fun M h _ p=>by
  obtain ⟨o,vs,h1,⟨h2,_⟩,_⟩:=p
  rw [← h2]
  exact (Looks.ld h1).andThen .now
 it:=fun _ _ X _=>by
  obtain ⟨c',d',cd',sl',ho⟩:=c.look
  intro A' Q' E' s' k q
  unfold isType loadHead
  exact Xaa (wpAny_loadPart (k _ _ (X _ _ ho)) (Xac q))
 ne:=fun h tp dd its n sl X htp=>by
  obtain ⟨c',d',cd',sl',ho⟩:=c.look
  refine Bool.eq_false_iff.mpr fun q=>?_
  have e:C=tp:=Value.ref.inj (beq_iff_eq.mp q)
  subst e
  have z:=(X _ _ ho).symm.trans htp
  cases z
 ca:=fun {prog w A E Q s} X p k=>by
  obtain ⟨o,vs,h1,⟨h2,h3⟩,h4⟩:=p
  have I:InstAt s.heap x o C none:=⟨h1,h2,by unfold notCls;rw [h4],by rw [h3];trivial⟩
  exact zhc X I c.ga c.gr (c.cf _) c.sub c.mro k
end
section
variable {X:Cx}{K:Frag}
theorem zjh (hK:X.K=K):zbx X (.builtin "isinstance") (fun xs H Q=>∃ ea C c u b,xs=[.ref ea,c]∧H ea=some (.ext (xIs ea (.ref C) none))∧XCls K C∧((∃ D,c = .ref D∧u=Value.ref D)∨∃ T,c = .ty T∧u=Value.type T)∧kitOne K (.ref C) u=some b∧Q (.bl b) H):=by
 subst hK
 intro pins s σ H xs us Q I r h
 obtain ⟨ea,C,c,u,b,rfl,e,xc,hc,hk,q⟩:=h
 obtain ⟨v1,v2,rfl,r1,r2⟩:=zeB r
 obtain rfl:v1=Value.ref ea:=r1
 obtain rfl:v2=u:=by
  rcases hc with ⟨D,rfl,rfl⟩ | ⟨T,rfl,rfl⟩
  ·exact r2
  ·exact r2
 have p:xIs ea (.ref C) none s.heap:=(I.hok ea _ e).1
 exact kia_one (zgi xc) I.kIn p hk (fun z=>nomatch z) fun tk=>⟨.bl b,H,I.tok _,rfl,q⟩
theorem zfB:∀ {Ds:List Addr} {its:List Value},Vals (Ds.map V.ref) its→its=Ds.map Value.ref
 | [],_,r=>by cases r;rfl
 | D :: Ds,_,r=>by
  cases r with
  | cons a b=>rw [zfB b];rw [show _=Value.ref D from a];rfl
theorem zii (hK:X.K=K):zbx X (.builtin "isinstance") (fun xs H Q=>∃ (ea C tp:Addr) (Ds:List Addr) (b:Bool),xs=[.ref ea,.ref tp]∧H ea=some (.ext (xIs ea (.ref C) none))∧XCls K C∧H tp=some (.tup (Ds.map V.ref))∧kitAny K (.ref C) (Ds.map Value.ref)=some b∧Q (.bl b) H):=by
 subst hK
 intro pins s σ H xs us Q I r h
 obtain ⟨ea,C,tp,Ds,b,rfl,e,xc,ht,hk,q⟩:=h
 obtain ⟨v1,v2,rfl,r1,r2⟩:=zeB r
 obtain rfl:v1=Value.ref ea:=r1
 obtain rfl:v2=Value.ref tp:=r2
 have p:xIs ea (.ref C) none s.heap:=(I.hok ea _ e).1
 obtain ⟨_,its,rv,⟨c0,d0,dt0,sl0⟩,g1,g2,n,g3⟩:=(show ObjOk X.prog X.w H s.heap tp (.tup (Ds.map V.ref)) from I.hok tp _ ht)
 simp only at g2 g3
 subst g2 g3
 have ei:its=Ds.map Value.ref:=zfB rv
 subst ei
 exact kia_tup (zgi xc) I.kIn p g1 hk (fun z=>nomatch z) fun tk=>⟨.bl b,H,I.tok _,rfl,q⟩
end
end L2
end
section
namespace L2
open PySem PySem.Spec PyProof.Rows HT
theorem FnOk.calm {P:Program}{w:World}{K:W.Frag}{mg:Str→Option Value}{base:Heap}{k:Nat}{f:Addr}{fd:FuncData}{ps:List Str}{sp:Sp}(F:FnOk P w K mg base (CX1 P w) k f fd ps sp) :
  FnOk P w K mg base CX0 k f fd ps (fun vs H Q _=>sp vs H Q fun _ _ _=>False):=
 ⟨fun vs H Q E h=>F.len vs H Q _ h,fun A outer s H args us vs Q E hr he hb hv hs=>Xbn (F.run A outer s H args us vs Q _ hr he hb hv hs) fun r s' h=>by
  cases r with
  | ok fl=>cases fl <;> exact h
  | error e=>obtain ⟨_,_,_,_,_,_,_,_,_,_,_,_,_,_,_,z⟩:=h;exact z.elim⟩
section
variable {X:Cx}{K:W.Frag}
theorem zaT {x:Str}{a:Addr}{pos:Pos}(hg:Gl X x)(h:X.mg x=some (.ref a))(hd:(x == ("__debug__" : Str))=false:=by decide):PE X (.Name x pos) (tC (.ref a)):=zei hg h rfl hd
theorem zed:RelV (.ty "ValueError") (.type "ValueError"):=rfl
theorem zew:bootBuiltins "ValueError" = some (.type "ValueError"):=by decide +kernel
end
end L2
end
section
namespace L2
open PySem PySem.Spec PyProof.Rows HT
theorem zfY {P:Program}{w:World}{K:W.Frag}{mg:Str→Option Value}{base:Heap}{N:List Str}{qual:Str}{scope:Scope}{f:Addr}{cd:Value}{A:Around}{outer:List Env}{s:Shared}{H:Hp}{E:XK} :
  Passes (CX1 P w) (cxOf (CX1 P w) P w K mg base N qual scope f cd A outer s H E) E:=by
 intro pins σ H1 s1 ev s' I hq
 obtain ⟨ea,T,H',C,od,rfl,os,bare,un,hok,xa,f1,f2,n1,n2,hE⟩:=hq
 have J:Inv (cxOf (CX1 P w) P w K mg base N qual scope f cd A outer s H E) pins σ H' s':=I.call' (ch:=[]) os un hok bare (fun b z=>absurd z (by simp))
 have b1:=J.base
 have o1:=I.none_ours f1 (show ea ∉ ([]:List Addr) by simp)
 have o2:=I.none_ours f2 (show T ∉ ([]:List Addr) by simp)
 show wpAny _ _ (leaving _ (.ref ea)) _ _ s'
 unfold leaving
 refine Xaa (zc6 J.ok.frames J.stack (L:=s.heap.objs.size) rfl xa fun h1 T2 fT2 sl x2=>zci x2 fun h2 sl2 x3=>?_)
 have oT:s.heap.get? T2=none:=(J.none_ours fT2 (show T2 ∉ ([]:List Addr) by simp)).1
 have o1':s.heap.get? ea=none:=o1.1
 have o2':s.heap.get? T=none:=o2.1
 have nT2:∀ b o,s.heap.get? b=some o→b ∉ [T2]:=fun b o q z=>by rw [Xab.mp z,oT] at q;cases q
 have ne:∀ b o,s.heap.get? b=some o→b ∉ [ea,T]:=fun b o q z=>by
  rcases Xap.mp z with r | r
  ·rw [r,o1'] at q;cases q
  ·rw [Xab.mp r,o2'] at q;cases q
 have nL:∀ b o,s.heap.get? b=some o→b ∉ frs outer→b ∉ ((envOfC qual scope s.heap.objs.size f cd) :: outer).filterMap (·.frame):=fun b o q hb z=>by
  rcases Xap.mp (show b∈s.heap.objs.size :: outer.filterMap (·.frame) from z) with r | r
  ·exact absurd r (Xav (Xan q))
  ·exact hb r
 have J1:HOk P w H' h1:=J.hok.slid sl (fun b hb=>J.stkFree b hb) fun b hb=>by
  rcases Xap.mp hb with rfl | hb
  ·exact n1
  ·rw [Xab.mp hb];exact n2
 have n3:H' T2=none:=J.hok.none_of fT2
 refine ⟨ea,T2,H',C,od,rfl,J.os,J.bare,⟨fun b o q n hb _=>?_,fun b o q n hb _=>?_,fun b o q n _=>b1.free b o q n (by show b ∉ ([]:List Addr);simp),fun b o q _=>?_,b1.tups,b1.frzs,b1.tbls⟩,?_,x3,o1',oT,n1,n3,hE⟩
 ·have q1:=(sl b o (b1.keep b o q n hb (by show b ∉ ([]:List Addr);simp)) (ne b o q)).1 (nL b o q hb)
  exact (sl2 b o q1 (nT2 b o q)).1 (by simp)
 ·obtain ⟨t1,e1⟩:=b1.slot b o q n hb (by show b ∉ ([]:List Addr);simp)
  obtain ⟨t2,e2⟩:=(sl b _ e1 (ne b o q)).2
  exact (sl2 b _ e2 (nT2 b o q)).2.elim fun t3 e3=>⟨t3,e3⟩
 ·obtain ⟨o',e1⟩:=b1.there b o q (by show b ∉ ([]:List Addr);simp)
  obtain ⟨t2,e2⟩:=(sl b _ e1 (ne b o q)).2
  obtain ⟨t3,e3⟩:=(sl2 b _ e2 (nT2 b o q)).2
  exact ⟨_,e3⟩
 ·exact J1.slid sl2 (fun b hb=>nomatch hb) fun b hb=>by rw [Xab.mp hb];exact n3
section
variable {P:Program}{w:World}{K:W.Frag}{mg:Str→Option Value}{base:Heap}{N:List Str}{qual:Str}{scope:Scope}{f:Addr}{cd:Value}{A:Around}{outer:List Env}{s:Shared}{H:Hp}{E:XK}
variable {k:Nat}{ps:List Str}{sp:Sp}{x:Str}{p pos:Pos}{e:Expr}{es:List Expr}{t:TA}
end
end L2
end
section
namespace L2
open PySem PySem.Spec PyProof.Rows HT
section
variable {X:Cx}{k:Nat}{ps:List Str}{sp:Sp}{x fn cn n y:Str}{i j l:Nat}{Cb:Addr}{e:Expr}{es:List Expr}{t:TA}{px p1 p2 p3 p4 p5 p6 p7 p8 p9:Pos}
end
end L2
end
section
namespace L2
open PySem PySem.Spec PyProof.Rows HT
theorem zfe {prog:Program}{w:World}{A:Around}(hh:A.handled=none)(it l:Addr)(hne:l≠it)(items:Array Value) :
  Draws prog w A it [it,l] items.size (fun i v=>items[i]? = some v) (fun i h=>IsIt true h it l i∧IsSq true h l items) where
 live:=fun _ _ st=>let ⟨o,ho,_⟩:=st.1;⟨o,ho⟩
 frame:=fun _ _ _ st hk=>⟨st.1.at fun o e=>hk it (by simp) o e,st.2.at fun o e=>hk l (by simp) o e⟩
 item:=fun i s Q E hi st hQ=>by
  refine zkl st.1 st.2 (x:=items[i]) (by simp [hi]) fun h' hit' hs'=>?_
  exact hQ _ h' s.toks (by simp [hi]) ⟨hit',st.2.at fun o e=>hs'.extBut l o hne e⟩ hs'
 done:=fun s Q E st hE=>nx_end hh st.1 st.2 (by simp) hE
set_option tactic.hygienic true in
theorem zbW (l:Addr)(items:Array Value)(n:Nat)(dct:Option Addr)(sl:Array (Option Value)) :
  Meets (Builtin.«enumerate.__new__» ⟨[.type "enumerate",.ref l],[]⟩) (fun _ R s=>s.heap.get? l=some { cls:=.type "tuple",dict:=dct,data:=.seq items n,slots:=sl } ∧
   R (.ok (.ret (.ref (s.heap.push { cls:=.type "tuple_iterator",data:=.fields #[.ref l,.int 0 0] }).objs.size)))
    { s with heap:=(s.heap.push { cls:=.type "tuple_iterator",data:=.fields #[.ref l,.int 0 0] }).push { cls:=.type "enumerate",data:=.fields #[.none,.bool false,.ref s.heap.objs.size,rawInt 0,.none,.none] } }):=
 .of_wp fun prog w A R s h=>by
  obtain ⟨hp,g,d,tk,os⟩:=s;obtain ⟨hl,h⟩:=h
  have hsub:=sub_enumerate
  have hL:Heap.IsTuple (Shared.heap ⟨hp,g,d,tk,os⟩) l items:=⟨_,hl,rfl,n,rfl⟩
  wp_walk using wpAny_loadPart' hl
  refine wpAny_stack_any fun st=>Xac ?_
  split
  ·rename_i c _ _ _ _ _
   cases (c == Value.type "enumerate")
   ·wp_walk using wpAny_loadPart' hl,wpAny_pyIter_tuple hL
    exact ⟨_,rfl,h⟩
   ·wp_walk using wpAny_loadPart' hl,wpAny_pyIter_tuple hL
    exact ⟨_,rfl,h⟩
  ·wp_walk using wpAny_loadPart' hl,wpAny_pyIter_tuple hL
   exact ⟨_,rfl,h⟩
theorem zcs {prog:Program}{w:World}{A:Around}{E:Value→Shared→Prop}{s:Shared}{l:Addr}{items:Array Value}{Q:Value→Shared→Prop}(hL:IsSq true s.heap l items)
  (h:∀ h',IsEnum h' (s.heap.objs.size+1) s.heap.objs.size 0 .none→IsIt true h' s.heap.objs.size l 0→h'.objs.size=s.heap.objs.size+2 →
   (∀ b o,s.heap.get? b=some o→h'.get? b=some o)→Q (.ref (s.heap.objs.size+1)) { s with heap:=h' }) :
  wpAny (model prog w) A (call (.type "enumerate") [.ref l]) Q E s:=by
 obtain ⟨⟨c,dct,dt,sl⟩,hl,hc,n,hd⟩:=hL
 replace hc:c = .type "tuple" := hc
 replace hd:dt = .seq items n:=hd
 subst hc hd
 refine callType_new F.called_enumerate (by decide) (F.typeCall_enumerate_1 _) (F.newCall_enumerate_1 _) (fun obj=>F.args_object_init_2 obj _) F.entry_enumerate_new
  (zbW l items n dct sl) ⟨hl,?_⟩
 have hz:(s.heap.push { cls:=.type "tuple_iterator",data:=.fields #[.ref l,.int 0 0] }).objs.size=s.heap.objs.size+1:=XaU ..
 show _∧_
 rw [hz]
 have he:IsEnum ((s.heap.push { cls:=.type "tuple_iterator",data:=.fields #[.ref l,.int 0 0] }).push
   { cls:=.type "enumerate",data:=.fields #[.none,.bool false,.ref s.heap.objs.size,rawInt 0,.none,.none] }) (s.heap.objs.size+1) s.heap.objs.size 0 .none:=by
  have:=Xam (s.heap.push { cls:=.type "tuple_iterator",data:=.fields #[.ref l,.int 0 0] })
   (o:={ cls:=.type "enumerate",data:=.fields #[.none,.bool false,.ref s.heap.objs.size,rawInt 0,.none,.none] }) rfl
  rw [hz] at this;exact this
 refine ⟨⟨_,he,rfl⟩,h _ he ⟨_,Xad _ (Xam _ rfl),rfl,rfl⟩ (by rw [XaU,hz]) fun b o x=>Xad _ (Xad _ x)⟩
def IteT (K:W.Frag)(a:Addr):It:=
 ⟨fun i H=>∃ xs x,SqT K H a xs∧xs[i]? = some x,
  fun i H v H'=>∃ T x,H T=none∧v = .ref T∧H'=upd H T (.tup [.int i,x])∧∀ xs,SqT K H a xs→xs[i]? = some x,
  fun i H=>∃ xs,SqT K H a xs∧xs.length=i⟩
theorem zgy {P:Program}{w:World}{K:W.Frag}{elts:List Expr}{kt:Nat}{tp:Pos}(a e it:Addr)(hne:e≠it) :
  Turn P w K (.Tuple elts kt tp) (IteT K a) [e,it] e (fun i h=>(∃ old,IsEnum h e it i old)∧IsIt true h it a i) where
 mem:=by simp
 obj:=fun i h st b hb=>by
  obtain ⟨⟨old,he⟩,hi⟩:=st
  rcases Xap.mp hb with z | z
  ·subst z
   exact ⟨_,he,fun v z=>by
    have z':Data.fields _=Data.cell v:=z
    cases z'⟩
  ·have z:=Xab.mp z
   subst z
   obtain ⟨o,e1,c,d⟩:=hi
   exact ⟨o,e1,fun v z=>by rw [d] at z;cases z⟩
 keep:=fun i h h' st k=>by
  obtain ⟨⟨old,he⟩,hi⟩:=st
  exact ⟨⟨old,k e (by simp) _ he⟩,hi.at fun o e1=>k it (by simp) o e1⟩
 item:=by
  intro X hP hw hK hc i pins s σ H E I hf st hg
  subst hP hw hK
  obtain ⟨xs,x,hq,hx⟩:=hg
  obtain ⟨its,rv,p,hz⟩:=I.tuple hq
  obtain ⟨u,hu,ru⟩:=rv.get hx
  obtain ⟨⟨old,he⟩,hi⟩:=st
  have hsq:IsSq true s.heap a its.toArray:=p
  have cls:∀ b o,s.heap.get? b=some o→o.cls≠.type "tuple" → a≠b:=fun b o e nc z=>by
   obtain ⟨oa,ea,ca,_⟩:=hsq
   rw [z,e] at ea;cases ea;exact nc ca
  have hai:a≠it:=by
   obtain ⟨o,e1,c,_⟩:=id hi
   exact cls it o e1 (by rw [c];decide)
  have hae:a≠e:=cls e _ he (by show Value.type "enumerate" ≠ Value.type "tuple"; decide)
  have hlt:i<its.toArray.size:=by
   have:=(Xae.mp hu).1
   simpa using this
  refine wpAny_pyNext_enum_itemD (zfe (prog:=X.prog) (w:=X.w) (A:=X.A.in1) (show X.A.in1.handled=none from I.ok.hd hc) it a hai its.toArray) he ⟨hi,hsq⟩ hlt hne (by simp [hne,Ne.symm hae]) fun x' h' tk hx' ho st' ht hsz kk=>⟨_,rfl,?_⟩
  have ex:x'=u:=by
   have e1:its[i]? = some x':=by simpa using hx'
   rw [hu] at e1;cases e1;rfl
  subst ex
  refine wpAny_letOwnedTupleGo_enum ho fun h2 he2 sb=>?_
  have fT:FpOk X pins H s.heap.objs.size:=I.fpOk (Xaf _) (I.hok.fresh (Xaf _))
  have k2:∀ b o,b ∉ [e,it]→s.heap.get? b=some o→h2.get? b=some o:=fun b o hb e1=>by
   simp only [Xap,List.mem_nil_iff,or_false,not_or] at hb
   exact (sb.2 b hb.1).trans (kk b o hb.1 hb.2 e1)
  have I1:Inv X pins σ H { s with heap:=h2,toks:=tk+1 }:=I.turnedL (ch:=[e,it]) k2 hf
  have eT:h2.get? s.heap.objs.size=some { cls:=.type "tuple",data:=.seq #[.int i tk,x'] }:=(sb.2 _ (Nat.ne_of_gt (Xan he))).trans ht
  have I2:=I1.track (o:=.tup [.int i,x]) fT (Xar I.sz (Xaf _)) (zjS ⟨_,rfl⟩ ru eT)
  refine ⟨.ref s.heap.objs.size,_,I2,rfl,⟨_,x,fT.1,rfl,rfl,fun ys hy=>by rw [I.tuple_inj hy hq];exact hx⟩,⟨⟨x',by exact_mod_cast he2⟩,st'.1.at fun o e1=>sb.extBut it o (Ne.symm hne) e1⟩,fun b hb=>?_⟩
  obtain ⟨o,eb⟩:∃ o,s.heap.get? b=some o:=by
   rcases Xap.mp hb with z | z
   ·subst z;exact ⟨_,he⟩
   ·have z:=Xab.mp z
    subst z
    obtain ⟨o,e1,_⟩:=hi
    exact ⟨o,e1⟩
  rw [zai (Xav (Xan eb))]
  exact (hf b hb).1
 done:=by
  intro X hP hw hK hc i pins s σ H E I hf st hg
  subst hP hw hK
  obtain ⟨xs,hq,hx⟩:=hg
  obtain ⟨its,rv,p,hz⟩:=I.tuple hq
  obtain ⟨⟨old,he⟩,hi⟩:=st
  have hl:=rv.length
  have hsq:IsSq true s.heap a its.toArray:=p
  have hai:a≠it:=fun z=>by
   obtain ⟨oa,ea,ca,_⟩:=id hsq
   obtain ⟨o,e1,c,_⟩:=id hi
   rw [z,e1] at ea;cases ea
   rw [c] at ca;exact absurd ca (by decide)
  have en:its.toArray.size=i:=by rw [Xal];omega
  refine wpAny_pyNext_enum_endD (zfe (prog:=X.prog) (w:=X.w) (A:=X.A.in1) (show X.A.in1.handled=none from I.ok.hd hc) it a hai its.toArray) he (by rw [en];exact ⟨hi,hsq⟩) fun h' eb=>⟨rfl,I.turnedL (t':=s.toks) (ch:=[e,it]) (fun b o hb e1=>eb b o (fun z=>hb (by simp [z])) e1) hf⟩
 self:=fun _ _ _ _ _ st h=>by
  obtain ⟨⟨old,he⟩,hi⟩:=st
  exact wpAny_pyIter_enum he h
inductive iEnumT_1 (K:W.Frag)(R:It→Hp→Prop)(vs:List V)(H1:Hp):Prop
 | mk (a:_) (z0_:vs=[.ref a]) (z1_:(∃ xs,SqT K H1 a xs)) (z2_:R (IteT K a) H1)
def iEnumT (K:W.Frag)(ta:TA):TI:=fun σ H R=>ta σ H (iEnumT_1 K R)
theorem zeg {X:Cx}{a:Expr}{ta:TA}{p pos:Pos}{elts:List Expr}{kt:Nat}{tp:Pos}(hg:Gl X "enumerate")(hm:X.mg "enumerate" = none)(ha:PA X [a] ta)(hs:starEach [a] X.env=[(false,eval a X.env)]:=by rfl) :
  PI X (.Tuple elts kt tp) (.Call (.Name "enumerate" p) [a] [] pos) (iEnumT X.K ta):=by
 intro pins s σ H R I h
 refine Call_ (zdC I hg hm boot_enumerate (PyProof.Rows.callWith_type1 (thn (ha pos pins s σ H _ I h) fun us s1 hh_=>?_) hs rfl))
 obtain ⟨vs,H1,I1,r1,q1⟩:=hh_
 obtain ⟨l,e,⟨xs,hq⟩,q⟩:=q1
 subst e
 obtain ⟨u,rfl,ru⟩:=zdL r1
 cases ru
 obtain ⟨its,rv,pl,hz⟩:=I1.tuple hq
 refine zcs (items:=its.toArray) pl fun h' he hi hsz kk=>?_
 refine wpAny_pyIter_enum he ?_
 have I2:Inv X pins σ H1 { s1 with heap:=h',toks:=s1.toks }:=I1.kept kk
 refine ⟨s1.heap.objs.size+1,[s1.heap.objs.size+1,s1.heap.objs.size],_,_,H1,rfl,I2,zgy l _ _ (Nat.succ_ne_self _),⟨⟨_,he⟩,hi⟩,fun b hb=>?_,q⟩
 rcases Xap.mp hb with z | z
 ·subst z;exact I1.fpOk (Xby _) (I1.hok.fresh (Xby _))
 ·have z:=Xab.mp z
  subst z;exact I1.fpOk (Xaf _) (I1.hok.fresh (Xaf _))
theorem zdH {K:PySem.W.Frag}{a:Addr}{xs:List V}{g:TG}{tb:TS}{D:Ends}{σ:St}{H:Hp}(Pv:Nat→St→Hp→Prop)(h0:Pv 0 σ H)(hl:∀ i σ H,i≤xs.length→Pv i σ H→SqT K H a xs)
  (hs:∀ i x T σ H,xs[i]? = some x→H T=none→Pv i σ H→g (.ref T) σ (upd H T (.tup [.int i,x])) fun σ2 H2=>tb { D with nx:=Pv (i+1),ct:=Pv (i+1),bk:=D.nx } σ2 H2) (hd:∀ σ H,Pv xs.length σ H→D.nx σ H) :
  ∃ W:Nat→Nat→St→Hp→Prop,(∃ m,W 0 m σ H)∧∀ i m σ H,W i m σ H →
   ((IteT K a).stop i H∧D.nx σ H)∨((IteT K a).go i H∧∃ N:St→Hp→Prop,(∀ σ' H',N σ' H'→∃ m',m'<m∧W (i+1) m' σ' H')∧∀ x H',(IteT K a).yld i H x H'→g x σ H' fun σ2 H2=>tb { D with nx:=N,ct:=N,bk:=D.nx } σ2 H2):=by
 refine ⟨fun i m σ H=>m=xs.length - i∧i≤xs.length∧Pv i σ H,⟨xs.length,by simp,Nat.zero_le _,h0⟩,?_⟩
 rintro i m σ H ⟨rfl,hi,p⟩
 have q:=hl i σ H hi p
 by_cases hlt:i<xs.length
 ·refine .inr ⟨⟨xs,xs[i],q,by simp [hlt]⟩,Pv (i+1),fun σ' H' p'=>⟨xs.length - (i+1),by omega,rfl,hlt,p'⟩,fun v H' y=>?_⟩
  obtain ⟨T,x,hT,rfl,rfl,y⟩:=y
  exact hs i x T σ _ (y xs q) hT p
 ·have e:i=xs.length:=by omega
  subst e
  exact .inl ⟨⟨xs,q,rfl⟩,hd σ H p⟩
end L2
end
section
namespace L2
open PySem PySem.Spec PyProof.Rows HT
section
variable {prog:Program}{w:World}{A:Around}{E:Value→Shared→Prop}{s:Shared}
theorem zeH {r:Addr}{Q:Value→Shared→Prop}(h:wpAny (model prog w) A.in1 (collect (.ref r)) (fun vs s1=>vs.length≤sizeLine∧wpAny (model prog w) A.in1.in1 (Builtin.«list.sort» ⟨[.ref s1.heap.objs.size],[]⟩)
   (fun fin s2=>fin = .done (.ret .none)∧Q (.ref s1.heap.objs.size) s2) E { s1 with heap:=s1.heap.push (seqObj "list" vs.toArray 0) }) E s) :
  wpAny (model prog w) A (call (.builtin "sorted") [.ref r]) Q E s:=by
 refine Calls.call_function_entry kind_sorted plain_sorted entry_sorted (args_sorted1 _) ?_
 unfold Builtin.«sorted»
 refine Xaa (m:=checkCount "sorted" 1 1 _) (Xac ?_)
 refine Xaa (Xas h (fun vs s1 ⟨hz,h⟩=>?_) fun _ _ e=>e)
 refine Xaa (wpAny_newList ?_ hz)
 refine Xaa (XaK (Xa4 slot_list_sort ⟨_,Xam _ rfl,rfl⟩ entry_list_sort (Xas h (fun fin s2 ⟨e,q⟩=>?_) fun _ _ e=>e) (args_list_sort _)))
 subst e
 exact ⟨_,rfl,Xac ⟨_,rfl,q⟩⟩
end
theorem zgj:∀ {vs:List Value} {ns:List Int},vs.length=ns.length→(∀ (j:Nat) (v:Value),vs[j]? = some v→∃ n t,ns[j]? = some n∧v = .int n t)→IntsAre vs ns
 | [],[],_,_=>.nil
 | v :: vs,n :: ns,hl,h=>by
  obtain ⟨m,t,e,rfl⟩:=h 0 v rfl
  cases e
  exact .cons _ _ (zgj (by simpa using hl) fun j v hv=>h (j+1) v hv)
 | [],_ :: _,hl,_=>by simp at hl
 | _ :: _,[],hl,_=>by simp at hl
theorem ze5 {κ:Type}:∀ {kvs:List (κ×V)} {vs:List (κ×Value)},KV kvs vs→vs.length=kvs.length
 | _,_,.nil=>rfl
 | _,_,.cons _ r=>by rw [Xaw,Xaw,ze5 r]
theorem zjz {κ:Type}:∀ {kvs:List (κ×V)} {vs:List (κ×Value)},KV kvs vs→∀ (j:Nat) (k:κ) (x:Value),vs[j]? = some (k,x)→∃ y,kvs[j]? = some (k,y)∧RelV y x
 | _,_,.nil,j,k,x,h=>by simp at h
 | _,_,.cons (a:=a) hp r,0,k,x,h=>by
  obtain ⟨a1,a2⟩:=a
  cases h
  obtain ⟨e,rr⟩:=hp
  exact ⟨a2,by rw [show a1=k from e];rfl,rr⟩
 | _,_,.cons _ r,j+1,k,x,h=>zjz r j k x h
section
variable {X:Cx}
theorem zfi (hc:X.calm=true):zbx X (.builtin "sorted") (fun xs H Q=>∃ (a:Addr) (kvs:List (Key×V)) (ks:List Int),xs=[.ref a]∧H a=some (.dK kvs)∧kvs.map (·.1)=ks.map Sum.inl∧ks.length<64 ∧
  ∀ (l:Addr) (ns:List Int),H l=none→ns.Perm ks→ns.Pairwise (·≤·)→Q (.ref l) (upd H l (.lst (ns.map V.int)))):=by
 intro pins s σ H xs us Q I r h
 obtain ⟨a,kvs,ks,rfl,e,hk,h64,q⟩:=h
 obtain ⟨u,rfl,r1⟩:=zdL r
 obtain rfl:u=Value.ref a:=r1
 obtain ⟨hz,lo,vs,rel,dd⟩:=dk_of I.hok e
 obtain ⟨ep,hat⟩:=dd.dictAt
 have hl:vs.length=kvs.length:=ze5 rel
 have hl2:kvs.length=ks.length:=by have:=congrArg List.length hk;simpa using this
 refine zeH (W.kdu_collect (W.kdl_dict (knd:=zaO X.prog X.w) (kvs:=vs) (ep:=ep) lo) (I.ok.hd hc) hat (by omega) fun h' tk acc kp it=>⟨by rw [Array.length_toList,it.1,hl];exact hz,?_⟩)
 have hI:IntsAre acc.toList ks:=zgj (by rw [Array.length_toList,it.1];omega) fun j v hv=>by
  obtain ⟨k,x,hx,hkey⟩:=it.2 j v (by rw [← Xbj];exact hv)
  obtain ⟨y,hy,_⟩:=zjz rel j k x hx
  have e1:(kvs.map (·.1))[j]? = some k:=by rw [Xat,hy];rfl
  rw [hk,Xat] at e1
  obtain ⟨n,hn,rfl⟩:=XaJ.mp e1
  rcases zaG (show zfT (Sum.inl n) v=true from hkey) with ⟨i,t,e2,e3⟩ | ⟨_,_,e2,_⟩
  ·cases e2;exact ⟨_,t,hn,e3⟩
  ·cases e2
 refine list_sort_tree (s:={ s with heap:=h'.push (seqObj "list" acc.toList.toArray 0),toks:=tk }) (Xam _ rfl) hI (by rw [Array.length_toList,it.1];omega) fun out ns a1 a2 a3=>⟨rfl,?_⟩
 have hsz:h'.objs.size<(h'.push (seqObj "list" acc.toList.toArray 0)).objs.size:=by rw [XaU];exact Xa2 _
 have I2:Inv X pins σ H { s with heap:=h',toks:=tk }:=I.kept kp
 obtain ⟨c,hc'⟩:=sortedHeap_at (a:=h'.objs.size) (vs:=acc.toList) (out:=out) (Xam (h:=h') (o:=seqObj "list" acc.toList.toArray 0) rfl)
 refine ⟨.ref _,_,I2.laid (t':=tk) (o:=.lst (ns.map V.int)) (fun b o eb=>?_) (Xaf _) ?_,rfl,q _ ns (I2.hok.fresh (Xaf _)) a2 a3⟩
 ·have hb:=Xan eb
  rw [sortedHeap_old (Xav hb) (Xbt hb hsz)]
  exact Xad _ eb
 ·refine ⟨?_,out.toList,_,zcj a1,by simpa [seqObj] using hc'⟩
  rw [Xah,a2.length_eq]
  exact Xar (Nat.le_of_lt h64) (by decide)
end
end L2
end
section
namespace L2
open PySem PySem.Spec PyProof.Rows HT
section
variable {prog:Program}{w:World}{A:Around}{E:Value→Shared→Prop}{s:Shared}
end
end L2
end
section
set_option autoImplicit false
namespace L2
open PySem PySem.Spec PyProof.Rows HT Cb
section
variable {prog:Program}{w:World}{A:Around}{E:Value→Shared→Prop}{s:Shared}
end
section
variable {X:Cx}
end
end L2
end
section
set_option autoImplicit false
namespace L2
open PySem PySem.Spec PyProof.Rows HT Cb
section
variable {prog:Program}{w:World}{A:Around}{E:Value→Shared→Prop}
end
section
variable {X:Cx}
end
section
variable {prog:Program}{w:World}{A:Around}{E:Value→Shared→Prop}{s:Shared}
end
end L2
end
section
namespace L2
open PySem PySem.Spec PyProof.Rows PySem.SeqAt
section
variable {X:Cx}{tg:Expr}
end
inductive Eqv (K:W.Frag)(H:Hp):Nat→V→V→Prop where
 | int (n:Nat) (i:Int):Eqv K H n (.int i) (.int i)
 | tup {n:Nat} {a b:Addr} {xs ys:List V} (ha:SqT K H a xs) (hb:SqT K H b ys) (hl:xs.length=ys.length) (h:∀ (i:Nat) (x y:V),xs[i]? = some x→ys[i]? = some y→Eqv K H n x y):Eqv K H (n+1) (.ref a) (.ref b)
theorem Eqv.eqAt {X:Cx}{pins:List (Addr×Obj)}{s:Shared}{σ:St}{H:Hp}(I:Inv X pins σ H s){n:Nat}{x y:V}(h:Eqv X.K H n x y):∀ (A:Around) {u v:Value},A.units+n<cLine→RelV x u→RelV y v→EqAt A s u v true:=by
 induction h with
 | int n i =>
  intro A u v _ r1 r2
  obtain ⟨t,rfl⟩:=(show ∃ t,u=Value.int i t from r1)
  obtain ⟨t2,rfl⟩:=(show ∃ t,v=Value.int i t from r2)
  have:=EqAt.int_int (A:=A) (s:=s) i t i t2
  rw [beq_self_eq_true] at this
  exact this
 | @tup n a b xs ys ha hb hl h ih =>
  intro A u v hu r1 r2
  cases r1;cases r2
  by_cases hab:a=b
  ·subst hab;exact EqAt.same _
  obtain ⟨t1,w1,p1,_⟩:=I.tuple ha
  obtain ⟨t2,w2,p2,_⟩:=I.tuple hb
  have l1:=w1.length
  have l2:=w2.length
  have:=RcAt.tuples (A:=A) (s:=s) (e:=fun _=>true) p1 p2 (by omega) fun j h1 h2=>by
   have g1:j<t1.length:=by simpa using h1
   have g2:j<t2.length:=by simpa using h2
   have ex:xs[j]? = some (xs[j]'(by omega)):=Xau (by omega)
   have ey:ys[j]? = some (ys[j]'(by omega)):=Xau (by omega)
   obtain ⟨v1,z1,rx⟩:=w1.get ex
   obtain ⟨v2,z2,ry⟩:=w2.get ey
   have q1:t1.toArray[j]=v1:=by rw [Xa7];exact (Xae.mp z1).2
   have q2:t2.toArray[j]=v2:=by rw [Xa7];exact (Xae.mp z2).2
   rw [q1,q2]
   exact ih j _ _ ex ey A.in1 (by show A.units+1+n<cLine;omega) rx ry
  refine EqAt.of_refs hab ?_
  have e:((List.range (min t1.toArray.size t2.toArray.size)).all (fun _=>true) && t1.toArray.size == t2.toArray.size)=true:=by
   rw [XaD]
   refine ⟨Xa5.mpr fun _ _=>rfl,?_⟩
   rw [Xal,Xal,beq_iff_eq];omega
  rw [e] at this
  exact this
end L2
end
section
namespace L2
open PySem PySem.Spec PyProof.Rows PySem.SeqAt
section
variable {X:Cx}{K:W.Frag}
inductive rEqL0 (K:W.Frag)(x:V)(y:V)(H:Hp)(Q:VK):Prop
 | mk (a:_) (b:_) (xs:_) (z0_:x = .ref a) (z1_:y = .ref b) (z2_:SqL K H a xs) (z3_:SqL K H b []) (z4_:Q (.bl xs.isEmpty) H)
theorem zkd (hu:X.A.units<cLine)(hK:X.K=K):OpR X (compareOp .Eq) (rEqL0 K):=by
 subst hK
 rintro pins s σ H x y v u Q I rx ry ⟨a,b,xs,rfl,rfl,ha,hb,q⟩
 cases rx;cases ry
 obtain ⟨its,r1,p1,_⟩:=I.list ha
 obtain ⟨its2,r2,p2,_⟩:=I.list hb
 obtain rfl:=r2.nil_iff.mpr rfl
 have e:its.toArray.size=xs.length:=by rw [Xal];exact r1.length.symm
 cases xs with
 | nil =>
  refine RcAt.lists (e:=fun _=>true) p1.isList p2.isList (by rw [e];rfl) hu (fun j h1 h2=>absurd h2 (by simp)) _ _ _ _ ⟨.bl true,H,I,?_,q⟩
  rw [e];rfl
 | cons z zs=>exact RcAt.lists_lengths p1.isList p2.isList (by rw [e];simp) hu _ _ _ _ ⟨.bl false,H,I,rfl,q⟩
end
end L2
end
section
namespace L2
open PySem PySem.Spec PyProof.Rows PySem.SeqAt
section
variable {X:Cx}
end
end L2
end
section
namespace L2
open PySem PySem.Spec PyProof.Rows PySem.SeqAt
end L2
end
section
namespace L2
open PySem PySem.Spec PyProof.Rows PySem.SeqAt
section
variable {X:Cx}{K:W.Frag}
end
section
variable {X:Cx}{Nc:List Str}{src:List (Option Nat)}{scope:Scope}{elt tg iter:Expr}{ifs:List Expr}{pos:Pos}{wi:TI}{g:TG}{tf:TT}{te:TE}
end
section
variable {X:Cx}{K:W.Frag}{tg l:Expr}{tl:TE}
end
end L2
end
section
namespace L2
open PySem PySem.Spec PyProof.Rows HT
section
variable {X:Cx}{o e:Expr}{es:List Expr}{to:TE}{t:TA}{T:String}{id:String}{name:Str}{apos cpos:Pos}{r:V→List V→Hp→VK→Prop}
theorem pe_bmE {K:W.Frag}(hK:X.K=K)(pa:PlainAttrs T)(slot:Slot T name id)(hty:typeOf (.builtin id)=pure (.type "method_descriptor"))(hm:MtR X id r)(ho:PE X o to)(ha:PA X (e :: es) t)
  (hbase:attributeBase o name X.env (eval o X.env)=eval o X.env:=by rfl)
  (hfew:((backTo cpos (starEach (e :: es) X.env)).all (fun x=>!x.1) && (backToKw cpos (keywordEach [] X.env)).all (fun x=>x.1.isSome)
   && decide ((e :: es).length+([]:List Keyword).length+(if ([]:List Keyword).isEmpty then 0 else 1)<30))=true:=by rfl)
  (hline:(apos.endLine == cpos.line)=true:=by rfl) (hs:starEach (e :: es) X.env=(false,eval e X.env) :: starEach es X.env:=by rfl) (hplain:(backTo cpos (starEach es X.env)).any (·.1)=false:=by rfl) :
  PE X (.Call (.Attribute o name apos) (e :: es) [] cpos) (tBM K T r to t):=by
 subst hK;exact zdO pa slot hty hm ho ha hbase hfew hline hs hplain
end
end L2
end
section
namespace L2
open PySem PySem.Spec PyProof.Rows HT
def zis (CX:CXT)(X:Cx)(E:St→XK):Prop:=∀ (pins:List (Addr×Obj)) (σ:St) (H:Hp) (s:Shared) (e:Value) (s':Shared),Inv X pins σ H s→CX X.stack H s (E σ) e s'→X.xe e s'
theorem Passes.s {CX:CXT}{X:Cx}{E:XK}(h:Passes CX X E):zis CX X fun _=>E:=fun pins σ H s e s'=>h pins σ H s e s'
def tCallS (sp:Sp)(E:St→XK)(t:TA):TE:=fun σ H Q=>t σ H fun vs H1=>sp (vs ++ []) H1 Q (E σ)
section
variable {X:Cx}{CX:CXT}{k:Nat}{f C:Addr}{fd:FuncData}{ps ks:List Str}{sp:Sp}{E:St→XK}{x m:Str}{p pos apos:Pos}{e o:Expr}{es:List Expr}{kws:List Keyword}{ta:TE}{t tk:TA}{g:List Value→List Value→List Value}{gV:List V→List V→List V}
theorem zhE (Cl:CalX X.prog X.w X.K X.mg X.base k x ps sp)(hr:Room k X.A)(hg:Gl X x)(hx:zis (CX1 X.prog X.w) X E)(ha:PA X (e :: es) t)(hdb:(x == ("__debug__" : Str))=false:=by decide)
  (he:starEach (e :: es) X.env=(false,eval e X.env) :: starEach es X.env:=by rfl) (hpl:(backTo pos (starEach es X.env)).any (·.1)=false:=by rfl):PE X (.Call (.Name x p) (e :: es) [] pos) (tCallS sp E t):=by
 obtain ⟨f,fd,F,hm,hk,hb⟩:=Cl.ex
 intro pins s σ H Q I h
 refine Xa1 (za4 I hg hm ?_ hdb)
 refine W.callWith_K (h₀:=X.base) I.ok.mod.kin hk (thn (ha pos pins s σ H _ I h) fun us s1 ⟨vs,H1,I1,r,q⟩=>⟨I1.kIn,?_⟩) he hpl
 have r2:Vals (vs ++ []) (us ++ []):=r.append .nil
 have hl:(us ++ []).length=ps.length:=by rw [← r2.length];exact F.len _ _ _ _ q
 refine Xbm (Xbn (F.run X.A X.stack s1 H1 ⟨us,[]⟩ (us ++ []) (vs ++ []) Q (E σ) hr I1.env0 (hb s1 us I1.kIn hl) r2 q) fun r s' hq=>?_)
 cases r with
 | error e=>exact hx pins σ H1 s1 e s' I1 hq
 | ok fl =>
  cases fl with
  | ret u=>exact I1.after hq
  | next=>exact False.elim hq
  | brk=>exact False.elim hq
  | cont=>exact False.elim hq
end
structure MakX (P:Program)(w:World)(K:W.Frag)(mg:Str→Option Value)(base:Heap)(k:Nat)(x:Str)(C:Addr)(ks:List Str)(gV:List V→List V→List V)(sp:Sp):Prop where
 at_:mg x=some (.ref C)
 ex:∃ f fd ps g,Mk K C f∧FnOk P w K mg base (CX1 P w) k f fd ps sp∧KBinds K fd ps ks g gV
theorem MakX.kp {P:Program}{w:World}{K:W.Frag}{mg:Str→Option Value}{base:Heap}{k:Nat}{x:Str}{C:Addr}{ks:List Str}{gV:List V→List V→List V}{sp:Sp}(M:MakX P w K mg base k x C ks gV sp):W.keepIn K (.ref C)=true:=by
 obtain ⟨_,_,_,_,_,M,_⟩:=M
 exact M.kp
def tMakS (C:Addr)(gV:List V→List V→List V)(sp:Sp)(E:St→XK)(t tk:TA):TE:=fun σ H Q=>t σ H fun vs H1=>tk σ H1 fun zs H2=>∀ x dx,H2 x=none→H2 dx=none→dx≠x →
 sp (gV (.ref x :: vs) zs) (upd (upd H2 dx (.own x)) x (.ins C dx [])) (fun v H3=>v = .non∧Q (.ref x) H3) (E σ)
section
variable {X:Cx}{k:Nat}{C:Addr}{ks:List Str}{gV:List V→List V→List V}{sp:Sp}{E:St→XK}{x:Str}{p pos:Pos}{e:Expr}{es:List Expr}{kws:List Keyword}{t tk:TA}
theorem ziF {pins:List (Addr×Obj)}{σ:St}{H:Hp}{s:Shared}{Q:VK}{us ws:List Value}{vs zs:List V}(M:MakX X.prog X.w X.K X.mg X.base k x C ks gV sp)(hr:Room (k+1) X.A)(hx:zis (CX1 X.prog X.w) X E)(I:Inv X pins σ H s)(r:Vals vs us)(rz:Vals zs ws)
  (h:∀ y dy,H y=none→H dy=none→dy≠y→sp (gV (.ref y :: vs) zs) (upd (upd H dy (.own y)) y (.ins C dy [])) (fun v H2=>v = .non∧Q (.ref y) H2) (E σ)) :
  wpAny (model X.prog X.w) X.A (call (.ref C) us (ks.zip ws)) (EP X pins σ Q) X.xe s:=by
 obtain ⟨hm,f,fd,ps,g,M,F,hb⟩:=M
 have hq:=h (s.heap.objs.size+1) s.heap.objs.size (I.hok.fresh (Xby _)) (I.hok.fresh (Xaf _)) (Xav (Xa2 _))
 have I2:=Inv.made (C:=C) I
 have r2:Vals (gV (V.ref (s.heap.objs.size+1) :: vs) zs) (g (Value.ref (s.heap.objs.size+1) :: us) ws):=hb.rel (.cons rfl r) rz
 have hl:(g (Value.ref (s.heap.objs.size+1) :: us) ws).length=ps.length:=by rw [← r2.length];exact F.len _ _ _ _ hq
 refine Xbm (zgg (f:=f) I.kIn M.makes M.init (beq_iff_eq.mp M.fn) (Xbn (F.run _ X.stack _ _ ⟨Value.ref (s.heap.objs.size+1) :: us,ks.zip ws⟩ _ _ _ (E σ) (hr.make C us (ks.zip ws))
  (I2.env0.make C us (ks.zip ws)) (hb.to _ (Value.ref (s.heap.objs.size+1) :: us) ws I2.kIn hl) r2 hq) fun r s' hq'=>?_))
 cases r with
 | error e=>exact hx pins σ _ _ e s' I2 hq'
 | ok fl =>
  cases fl with
  | ret u =>
   obtain ⟨v,H',I3,rv,ev,q3⟩:=I2.after hq'
   subst ev
   exact ⟨rv,⟨V.ref (s.heap.objs.size+1),H',I3,rfl,q3⟩⟩
  | next=>exact False.elim hq'
  | brk=>exact False.elim hq'
  | cont=>exact False.elim hq'
theorem zhC (M:MakX X.prog X.w X.K X.mg X.base k x C [] gV sp)(hr:Room (k+1) X.A)(hg:Gl X x)(hx:zis (CX1 X.prog X.w) X E)(ha:PA X (e :: es) t)(hdb:(x == ("__debug__" : Str))=false:=by decide)
  (he:starEach (e :: es) X.env=(false,eval e X.env) :: starEach es X.env:=by rfl) (hpl:(backTo pos (starEach es X.env)).any (·.1)=false:=by rfl):PE X (.Call (.Name x p) (e :: es) [] pos) (tMakS C gV sp E t tNil):=by
 intro pins s σ H Q I h
 refine Xa1 (za4 I hg M.at_ ?_ hdb)
 refine W.callWith_K (h₀:=X.base) I.ok.mod.kin M.kp (thn (ha pos pins s σ H _ I h) fun us s1 ⟨vs,H1,I1,r,q⟩=>⟨I1.kIn,?_⟩) he hpl
 exact ziF (ws:=[]) (zs:=[]) M hr hx I1 r .nil q
end
section
variable {X:Cx}{k:Nat}{C:Addr}{ks:List Str}{E:St→XK}{x m:Str}{p pos apos:Pos}{e o:Expr}{es:List Expr}{kws:List Keyword}{ta:TE}{t tk:TA}
end
abbrev zfX (X:Cx)(pins:List (Addr×Obj))(b:Addr):Prop:=X.s₀.heap.get? b=none∧b≠X.env.locals∧(∀ x c,X.env.cells.lookup x=some c→c≠b)∧∀ p∈X.pn ++ pins,p.1≠b
abbrev Cx.tried (X:Cx)(pins:List (Addr×Obj))(E:St→XK):Cx:={ X with pn:=X.pn ++ pins,xe:=fun e s'=>∃ σ ea T H' C od,e = .ref ea∧Inv X pins σ H' s'∧XAt s'.heap ea T (.ref C) .none od∧H' ea=none∧H' T=none∧zfX X pins ea∧zfX X pins T∧E σ (.ref C) od H' }
section
variable {X:Cx}{pins pins2:List (Addr×Obj)}{σ:St}{H:Hp}{s:Shared}{E:St→XK}
theorem Cx.Ok.tried (ok:X.Ok):(X.tried pins E).Ok:=⟨ok.mod,ok.kind,ok.glob,ok.blt,ok.above,ok.inj,ok.has,ok.cab,ok.hd,ok.frames,ok.stk,ok.exf,ok.bs,ok.bsz,ok.noex,ok.exfs,ok.funs,ok.frf⟩
theorem Cx.Ok.untried (ok:(X.tried pins E).Ok):X.Ok:=⟨ok.mod,ok.kind,ok.glob,ok.blt,ok.above,ok.inj,ok.has,ok.cab,ok.hd,ok.frames,ok.stk,ok.exf,ok.bs,ok.bsz,ok.noex,ok.exfs,ok.funs,ok.frf⟩
theorem Inv.tried (I:Inv X pins σ H s)(E:St→XK):Inv (X.tried pins E) [] σ H s:=⟨I.ok.tried,I.os,I.bare,I.base,I.loc,I.cell,I.free,I.freeC,by
 intro p hp
 rw [Xbb] at hp
 exact I.pin p hp,I.hok,I.len⟩
theorem Inv.untried (I:Inv (X.tried pins E) pins2 σ H s):Inv X pins σ H s:=⟨I.ok.untried,I.os,I.bare,I.base,I.loc,I.cell,I.free,I.freeC,fun p hp=>I.pin p (Xbl _ hp),I.hok,I.len⟩
theorem SP.untried {D:Ends}{f:Flow}{s':Shared}(h:SP (X.tried pins E) pins2 D f s'):SP X pins D f s':=by
 cases f with
 | next=>obtain ⟨σ',H',I,q⟩:=h;exact ⟨σ',H',I.untried,q⟩
 | brk=>obtain ⟨σ',H',I,q⟩:=h;exact ⟨σ',H',I.untried,q⟩
 | cont=>obtain ⟨σ',H',I,q⟩:=h;exact ⟨σ',H',I.untried,q⟩
 | ret u=>obtain ⟨v,σ',H',I,r,q⟩:=h;exact ⟨v,σ',H',I.untried,r,q⟩
theorem zdX (hex:X.ex=[]):zis (CX1 X.prog X.w) (X.tried pins E) E:=by
 intro pins2 σ H1 s1 ev s' I hq
 obtain ⟨ea,T,H',C',od',rfl,os,bare,un,hok,xa,f1,f2,n1,n2,hE⟩:=hq
 have J:Inv (X.tried pins E) pins2 σ H' s':=I.call' (ch:=[]) os un hok bare (fun b z=>absurd z (by simp))
 have nex:∀ b:Addr,b ∉ (X.tried pins E).ex:=fun b z=>by
  have z:b∈X.ex:=z
  rw [hex] at z;cases z
 have o1:=I.untried.none_ours f1 (nex ea)
 have o2:=I.untried.none_ours f2 (nex T)
 exact ⟨σ,ea,T,H',C',od',rfl,J.untried,xa,n1,n2,o1,o2,hE⟩
end
def tTry1 (K:W.Frag)(tb:(St→XK)→TS)(j:Nat)(Cb:Addr)(th:TS):TS:=fun D σ H =>
 tb (fun σ' cls od H2=>W.exmOne K cls (.ref Cb)=some true∧∀ ea,H2 ea=none→th { nx:=fun σ2 H3=>D.nx ((σ2.set j (some .non)).set j none) H3,rt:=fun _ _=>False } (σ'.set j (some (.ref ea))) (upd H2 ea (.ext (xIs ea cls od)))) D σ H
section
variable {X:Cx}{cn n:Str}{j:Nat}{Cb:Addr}{body hbody:List Stmt}{b₀:Stmt}{tb:(St→XK)→TS}{th:TS}{p4 p8 p9:Pos}
theorem zhu (hb:∀ (pins:List (Addr×Obj)) (E:St→XK),PSs (X.tried pins E) body (tb E))(hD:∀ ea,PSs (X.marked (.ref ea)).nox (b₀ :: hbody) th)(hc:X.calm=true)(hN:X.N.Nodup)(hj:X.N[j]? = some n)(kn:X.env.scope.names.lookup n=some .local)
  (hmc:X.mg cn=some (.ref Cb)) (hst:X.stack=X.env :: X.outer∧X.env.frame=some X.env.locals) (hex:X.ex=[]) (hgm:∀ ea,Gl (X.marked (.ref ea)) cn) (hdc:(cn == ("__debug__" : Str))=false:=by decide) :
  PS X (.Try body [.ExceptHandler (some (.Name cn p4)) (some n) (b₀ :: hbody) p8] [] [] p9) (tTry1 X.K tb j Cb th):=by
 intro pins s σ H D I h
 refine wpAny_Try_except (Xas (hb pins _ [] s σ H D (I.tried _) h) (fun fl s' q=>?_) fun e s' q=>?_)
 ·have q:=q.untried
  cases fl with
  | next=>exact wpAny_execs_nil q
  | brk=>exact q
  | cont=>exact q
  | ret u=>exact q
 ·obtain ⟨σ',ea,T,H',C',od',rfl,J,xa,n1,n2,o1,o2,hm2,k2⟩:=q
  have fr:X.A.frames=some (X.env :: X.outer):=by rw [← hst.1];exact J.ok.frames
  have fl:s'.heap.FunFrames X.base (X.env :: X.outer):=by rw [← hst.1];exact J.stack
  refine zc6 fr fl hst.2 xa fun h1 T2 fT2 sl x2=>?_
  have sl':Slid (frs X.stack) [ea,T] s'.heap h1:=by rw [hst.1];exact sl
  have J1:Inv X pins σ' H' { s' with heap:=h1 }:=J.slid sl' fun b hb=>by
   rcases Xap.mp hb with rfl | hb
   ·exact ⟨n1,o1⟩
   ·rw [Xab.mp hb];exact ⟨n2,o2⟩
  have n3:H' T2=none:=J.hok.none_of fT2
  have nex:∀ b:Addr,b ∉ X.ex:=fun b z=>by rw [hex] at z;cases z
  have o3:=J.none_ours fT2 (nex T2)
  have cT2:∀ b∈[T2],H' b=none∧X.s₀.heap.get? b=none∧b≠X.env.locals∧(∀ x c,X.env.cells.lookup x=some c→c≠b)∧∀ p∈X.pn ++ pins,p.1≠b:=fun b hb=>by rw [Xab.mp hb];exact ⟨n3,o3⟩
  refine zci x2 fun h2 sl2 x3=>?_
  have J2:Inv X pins σ' H' { s' with heap:=h2 }:=J1.slid (sl2.mono (fun b z=>nomatch z) fun _ z=>z) cT2
  have ty:W.Looks (model X.prog X.w) h2 (typeOf (.ref ea)) (.ref C'):=by
   obtain ⟨oe,vs,oT,ts,g1,⟨g2,_⟩,_⟩:=x3
   rw [← g2]
   exact (W.Looks.ld g1).andThen .now
  have Jm:=J2.marked (.ref ea)
  refine wpAny_handleBy_cons (codeAny_handlers_test (za4 Jm (hgm ea) hmc ?_ hdc)) (by intro z;cases z)
  refine (W.exm_one Jm.kIn ty hm2).here ?_
  refine codeAny_handlers_suite_as (zci x3 fun h3 sl3 x4=>?_)
  have J3:Inv X pins σ' H' { s' with heap:=h3 }:=J2.slid (sl3.mono (fun b z=>nomatch z) fun _ z=>z) cT2
  have xo:xIs ea (.ref C') od' h3:=by
   obtain ⟨oe,vs,oT,ts,g1,g2,g3,_⟩:=x4
   exact ⟨oe,vs,g1,g2,g3⟩
  have J4:Inv X pins σ' (upd H' ea (.ext (xIs ea (.ref C') od'))) { s' with heap:=h3 }:=J3.trackX n1 xo o1
  have k3:=k2 ea n1
  clear k2
  generalize upd H' ea (.ext (xIs ea (.ref C') od'))=H3 at J4 k3
  refine zcm (v:=.ref ea) J4 hN hj (.inl kn) rfl (fun s4 J5=>?_) (.inr kn)
  refine Xas (hD ea pins s4 _ H3 _ ((J5.marked (.ref ea)).wish _) k3) (fun fl s5 hq=>?_) fun _ _ z=>False.elim z
  cases fl with
  | ret u=>obtain ⟨_,_,_,_,_,z⟩:=hq;exact False.elim z
  | brk=>obtain ⟨_,_,_,z⟩:=hq;exact False.elim z
  | cont=>obtain ⟨_,_,_,z⟩:=hq;exact False.elim z
  | next =>
   obtain ⟨σ6,H6,J6,q6⟩:=hq
   have J7:Inv X pins σ6 H6 s5:=J6.unwish.unmarked I.ok.hd
   have hjσ:j<σ6.length:=by rw [J7.len];exact (Xae.mp hj).1
   show wpAny (model X.prog X.w) X.A (do bindName X.env n .none;unbindBehindTheSuite X.env n p8) (fun _ s₃=>SP X pins D .next s₃) X.xe s5
   refine Xaa (wpAny_bindName (zcm (v:=.non) J7 hN hj (.inl kn) rfl (fun s8 J8=>?_) (.inr kn)))
   unfold unbindBehindTheSuite
   refine wpAny_onRaise ?_
   obtain ⟨m,hm8,hl8⟩:=id J8.loc
   have hb8:∃ v,m n=some v:=by
    obtain ⟨u,ru,q⟩:=hl8 j n .non hj (by rw [XbD hjσ]) (.inl kn)
    rcases q with ⟨_,q⟩ | ⟨z,_⟩
    ·exact ⟨_,q⟩
    ·rcases z with z | z
     ·have z:X.env.scope.names.lookup n=some .cell:=z
      rw [kn] at z;cases z
     ·have z:X.env.scope.names.lookup n=some .free:=z
      rw [kn] at z;cases z
   obtain ⟨vn,hvn8⟩:=hb8
   refine wpAny_unbindName_local kn hm8 hvn8 (by rw [J8.ok.kind];rfl) fun h9 u9 hn9 hs9=>?_
   exact ⟨_,H6,J8.unname (t':=s8.toks) hN hj kn hm8 hn9 hs9,q6⟩
end
end L2
end
section
namespace L2
open PySem PySem.Spec PyProof.Rows HT
abbrev TJ:=St→Hp→(Hp→Prop)→Prop
def PJ (X:Cx)(es:List Expr)(t:TJ):Prop:=∀ (out:Str) (pins:List (Addr×Obj)) (s:Shared) (σ:St) (H:Hp) (R:Hp→Prop),out.length+2000 * es.length≤100000→Inv X pins σ H s→t σ H R →
 wpAny (model X.prog X.w) X.A (joinParts out (evalEach es X.env)) (fun u s'=>∃ (z:Str) (tk:Tok) (H':Hp),u = .str z tk∧Inv X pins σ H' s'∧R H') X.xe s
def jNil:TJ:=fun _ H R=>R H
inductive jStr_1 (t:TJ)(σ:St)(R:Hp→Prop)(x:V)(H1:Hp):Prop
 | mk (a:Str) (z0_:x = .str a) (z1_:a.length≤1000) (z2_:t σ H1 R)
def jStr (ta:TE)(t:TJ):TJ:=fun σ H R=>ta σ H (jStr_1 t σ R)
inductive jInt_1 (t:TJ)(σ:St)(R:Hp→Prop)(x:V)(H1:Hp):Prop
 | mk (i:Int) (z0_:x = .int i) (z1_:i.natAbs<2 ^ 1000) (z2_:t σ H1 R)
def jInt (ta:TE)(t:TJ):TJ:=fun σ H R=>ta σ H (jInt_1 t σ R)
def tFsN (t:TJ):TE:=fun σ H Q=>t σ H fun H1=>∀ z:Str,Q (.str z) H1
section
variable {X:Cx}{e v:Expr}{es:List Expr}{pos p2:Pos}{ta:TE}{t:TJ}
theorem zf8:PJ X [] jNil:=fun out pins s σ H R hl I h=>by
 refine joinParts_nilE (joinParts_nil ⟨out,_,H,rfl,I.tok _,h⟩ ?_)
 have hz:(100000:Nat)≤sizeLine:=by decide
 simp only [Xbc] at hl
 omega
theorem zdW (he:PE X e ta)(hs:PJ X es t):PJ X (e :: es) (jStr ta t):=fun out pins s σ H R hl I h=>by
 refine joinParts_consE (joinParts_cons (thn (he pins s σ H _ I h) fun u s1 hh_=>?_))
 obtain ⟨x,H1,I1,rx,a,ex,la,q⟩:=hh_
 subst ex
 obtain ⟨t,rfl⟩:=(show ∃ t,u=Value.str a t from rx)
 have hz:(100000:Nat)≤sizeLine:=by decide
 simp only [Xaw] at hl
 exact ⟨by rw [strLen_append];omega,hs _ pins s1 σ H1 R (by rw [strLen_append];omega) I1 q⟩
theorem zf9 (hv:PE X v ta)(hs:PJ X es t):PJ X (.FormattedValue v (-1) none p2 :: es) (jInt ta t):=fun out pins s σ H R hl I h=>by
 refine joinParts_consE (joinParts_cons (FormattedValue_plain (thn (hv pins s σ H _ I h) fun u s1 hh_=>?_)))
 obtain ⟨x,H1,I1,rx,i,ex,hi,q⟩:=hh_
 subst ex
 obtain ⟨t,rfl⟩:=(show ∃ t,u=Value.int i t from rx)
 have hz:(100000:Nat)≤sizeLine:=by decide
 simp only [Xaw] at hl
 have hlog:i.natAbs.log2<1000:=by
  by_cases z:i.natAbs=0
  ·rw [z];decide
  ·exact (Nat.log2_lt z).mpr hi
 have hlen:(Str.ofString (toString i)).length≤1001:=by
  rw [PySem.ofString_length]
  exact int_text_length_le (by decide) hlog
 refine formatField_int_small (Xbt hlog (by decide)) ⟨by rw [strLen_append];omega,?_⟩
 exact hs _ pins _ σ H1 R (by rw [strLen_append];omega) ((I1.tok _).tok _) q
theorem zga (h2:∃ a b r,es=a :: b :: r)(hs:PJ X es t)(hz:es.length≤40:=by decide):PE X (.JoinedStr es pos) (tFsN t):=by
 obtain ⟨a,b,r,rfl⟩:=h2
 intro pins s σ H Q I h
 refine JoinedStr_many ?_
 refine thn (hs Str.empty pins s σ H _ ?_ I h) fun u s' ⟨z,tk,H',eu,I',q⟩=>⟨.str z,H',I',⟨tk,eu⟩,q z⟩
 have l0:Str.empty.length=0:=rfl
 omega
end
theorem FunD.okX {P:Program}{w:World}{K:W.Frag}{mg:Str→Option Value}{base:Heap}{x qual:Str}{st:Stmt}{dV:Value}{f:Addr}{fd:FuncData}{N ps:List Str}{k:Nat}{sp:Sp}(F:FunD K x qual st dV f fd)(S:FnScope N ps (zak st))(len:∀ vs H Q E,sp vs H Q E→vs.length=ps.length)
  (hbody:∀ (cdv:Value) (A:Around) (outer:List Env) (s:Shared) (H:Hp) (vs:List V) (Q:VK) (E:XK),Room k (A.deeper (envOfC qual (zak st) s.heap.objs.size f cdv))→sp vs H Q E →
   ∃ t,PSs (cxOf (CX1 P w) P w K mg base N qual (zak st) f cdv A outer s H E) (zaP st) t∧t { nx:=fun _ H'=>Q .non H',rt:=Q } (start N vs) H):FnOk P w K mg base (CX1 P w) (k+1) f fd ps sp:=by
 obtain ⟨oc,od,kV,doc,pm,an,cdv,ct,osl,rfl,lk,hcd⟩:=F.ex
 refine zja lk hcd S len fun A outer s H vs Q E hr hsp=>?_
 obtain ⟨t,h,q⟩:=hbody cdv A outer s H vs Q E hr hsp
 exact ⟨t,h,q⟩
inductive rNeLB (K:W.Frag)(x:V)(y:V)(H:Hp)(Q:VK):Prop
 | mk (a:_) (b:_) (bs:List Bool) (z0_:x = .ref a) (z1_:y = .ref b) (z2_:SqL K H a (bs.map V.bl)) (z3_:SqL K H b (bs.map V.bl)) (z4_:Q (.bl false) H)
open PySem.SeqAt in
theorem zel {X:Cx}{K:W.Frag}(hu:X.A.units<cLine)(hK:X.K=K):OpR X (compareOp .NotEq) (rNeLB K):=by
 subst hK
 rintro pins s σ H x y v u Q I rx ry ⟨a,b,bs,rfl,rfl,ha,hb,q⟩
 cases rx;cases ry
 obtain ⟨t1,r1,p1,_⟩:=I.list ha
 obtain ⟨t2,r2,p2,_⟩:=I.list hb
 have l1:=r1.length
 have l2:=r2.length
 refine RcNeAt.lists (e:=fun _=>true) p1.isList p2.isList (by rw [Xal,Xal];omega) hu (fun j h1 h2=>?_) _ _ _ _ ⟨.bl false,H,I,?_,q⟩
 ·have g1:j<t1.length:=by simpa using h1
  have g2:j<t2.length:=by simpa using h2
  have ex:(bs.map V.bl)[j]? = some ((bs.map V.bl)[j]'(by omega)):=Xau (by omega)
  obtain ⟨v1,z1,rx⟩:=r1.get ex
  obtain ⟨v2,z2,ry⟩:=r2.get ex
  have q1:t1.toArray[j]=v1:=by rw [Xa7];exact (Xae.mp z1).2
  have q2:t2.toArray[j]=v2:=by rw [Xa7];exact (Xae.mp z2).2
  rw [q1,q2]
  obtain ⟨c,_,e⟩:=XaC.mp (XaB ex)
  rw [← e] at rx ry
  cases rx;cases ry
  exact EqAt.same _
 ·show _=Value.bool false
  rw [show ((List.range t1.toArray.size).all fun _=>true)=true from Xa5.mpr fun _ _=>rfl]
  rfl
end L2
end
section
namespace L2
open PySem PySem.Spec PyProof.Rows HT
section
variable {prog:Program}{w:World}{A:Around}{E:Value→Shared→Prop}{h:Heap}{g:Array GenState}{d:Drawn}{t:Nat}{os:OsState}
variable {nm q:Str}{C N:Addr}{bs bm:List Value}{hdct:Bool}{sn:List Str}{sub:List Value}{ab:Bool}{col:Option Bool}{dd:Option Addr}{k0 k1 k2 k3 k5:Option Value}{mN:Str→Option Value}{rest:List Value}{fI:Addr}{oI:Obj}
theorem zfs {Q:Fin→Shared→Prop}(T:OwnTail h bmV bm)(hC:h.get? C=some (excClassObj nm q C N bs bm hdct sn sub ab col dd k0 k1 k2 k3 k5 "ValueError.__new__"))(hn:h.Ns N mN)(hi:mN "__init__" = some (.ref fI))
  (hfI:h.get? fI=some oI) (hfc:oI.cls = .type "function") (hrest:rest.length≤sizeLine)
  (hq:∀ h' e,Heap.MadeExcOf h h' e (.ref C) rest→wpAny (model prog w) A (call (.ref fI) (.ref e :: rest)) (fun r s'=>r = .none∧Q (.done (.ret (.ref e))) s') E ⟨h',g,d,t,os⟩) :
  wpAny (model prog w) A (Builtin.«type.__call__» ⟨.ref C :: rest,[]⟩) Q E ⟨h,g,d,t,os⟩:=by
 have F:=PySem.F.excBase_ValueError
 repeat (first | with_reducible refine wpAny_loadPart_at hC ?_ | with_reducible refine wpAny_madeBy_exc hC ?_ | wp_step)
 refine codeAny_call_builtin_code (Code.quiet_builtin _ F.quiet) (wpAny_check_new_subT F T hC ?_)
 refine codeAny_exc_new_subT F T hC ?_ hrest
 show wpAny _ _ _ _ _ _
 have kp:∀ b o,h.get? b=some o→((h.push { cls:=.type "tuple",data:=.seq rest.toArray }).push { cls:=.ref C,data:=.fields #[.ref h.objs.size,.none,.none,.none,.bool false,.none] }).get? b=some o:=
  fun b o e=>Xad _ (Xad _ e)
 have hC₁:=kp _ _ hC
 have hf₁:=kp _ _ hfI
 have hn₁:((h.push { cls:=.type "tuple",data:=.seq rest.toArray }).push { cls:=.ref C,data:=.fields #[.ref h.objs.size,.none,.none,.none,.bool false,.none] }).Ns N mN:=
  let ⟨o,es,ep,e,r⟩:=hn;⟨o,es,ep,kp _ _ e,r⟩
 have hget:((h.push { cls:=.type "tuple",data:=.seq rest.toArray }).push { cls:=.ref C,data:=.fields #[.ref h.objs.size,.none,.none,.none,.bool false,.none] }).get? (h.objs.size+1)=some
   { cls:=.ref C,data:=.fields #[.ref h.objs.size,.none,.none,.none,.bool false,.none] }:=by heap_get
 have hcC:(Value.ref C :: bm).contains (.ref C)=true:=by simp
 have T₁:=T.keeps kp
 unfold isInstance
 repeat (first | with_reducible refine wpAny_loadPart_at hget ?_ | (with_reducible refine wpAny_isSubtype_exc hC₁ ?_;rw [hcC]) | wp_step)
 show wpAny _ _ (typeLookup (.ref C) _) _ _ _
 refine wpAny_typeLookup_tail hC₁ hn₁ T₁ F.mroIs F.init.lookup ?_
 rw [hi]
 refine XaK (Xaa ?_)
 unfold bindSpecial
 refine Xaa (wpAny_typeOf (T := "function") ⟨_,hf₁,hfc⟩ ?_)
 rw [if_pos (by decide)]
 refine Xac (Xaa (Xas (hq _ (h.objs.size+1) ⟨kp,Xbw (Xby _),h.objs.size,hget,Xbw (Xaf _),Xad _ (Heap.get?_push_at rfl rfl)⟩) (fun r s' hr=>?_) fun _ _ x=>x))
 obtain ⟨rfl,hQ⟩:=hr
 wp_walk
 exact hQ
theorem zjP {Q:Value→Shared→Prop}(T:OwnTail h bmV bm)(hC:h.get? C=some (excClassObj nm q C N bs bm hdct sn sub ab col dd k0 k1 k2 k3 k5 "ValueError.__new__"))(hn:h.Ns N mN)(hi:mN "__init__" = some (.ref fI))
  (hfI:h.get? fI=some oI) (hfc:oI.cls = .type "function") (hrest:rest.length≤sizeLine)
  (hq:∀ h' e,Heap.MadeExcOf h h' e (.ref C) rest→wpAny (model prog w) (A.under (.builtin "type.__call__" ⟨.ref C :: rest,[]⟩)) (call (.ref fI) (.ref e :: rest)) (fun r s'=>r = .none∧Q (.ref e) s') E ⟨h',g,d,t,os⟩) :
  wpAny (model prog w) A (call (.ref C) rest) Q E ⟨h,g,d,t,os⟩:=by
 have f1:=tc_lookup
 have f2:=tc_bind (.ref C)
 have hT:(⟨h,g,d,t,os⟩:Shared).TypeIs (.ref C) "type" := ⟨_,hC,rfl⟩
 refine Xbm (codeAny_of_tree ?_)
 show wpAny _ _ (callAny (.ref C) _) _ _ _
 repeat (any_goals (first | assumption | with_reducible refine wpAny_loadPart_at hC ?_ | wp_step))
 refine ⟨rfl,?_⟩
 exact codeAny_call_builtin_at (Code.quiet_builtin _ (by decide +kernel)) entry_typeCall (wpAny_check_type_call_sub hC (zfs T hC hn hi hfI hfc hrest fun h' e hm=>hq h' e hm))
end
section
variable {M:Model}{A:Around}{E:Value→Shared→Prop}{s:Shared}{env:Env}
variable {nm q:Str}{C N:Addr}{bs bm:List Value}{hdct:Bool}{sn:List Str}{sub:List Value}{ab:Bool}{col:Option Bool}{dd:Option Addr}{k0 k1 k2 k3 k5:Option Value}
theorem ziv {x:Sem Value}{Q:Flow→Shared→Prop}(hbase:bm.contains (.type "BaseException")=true)(hh:A.handled=none)
  (h:wpAny M A x (fun v s₁=>∃ e t od,v = .ref e∧s₁.heap.get? C=some (excClassObj nm q C N bs bm hdct sn sub ab col dd k0 k1 k2 k3 k5 "ValueError.__new__") ∧
   s₁.heap.get? e=some { cls:=.ref C,dict:=od,data:=.fields #[.ref t,.none,.none,.none,.bool false,.none] }∧E (.ref e) s₁) E s) :
  wpAny M A (raiseStmt env (some x) none) Q E s:=by
 have hcB:(Value.ref C :: bm).contains (.type "BaseException")=true:=by rw [List.contains_cons,hbase,Bool.or_true]
 unfold raiseStmt
 refine Xaa (Xas h (fun v s₁ h₁=>?_) fun _ _ x=>x)
 obtain ⟨e,t,od,rfl,hC,he,hE⟩:=h₁
 obtain ⟨hp,g,d,tk,os⟩:=s₁
 repeat (first | with_reducible refine wpAny_loadPart_at he ?_ | with_reducible refine wpAny_loadPart_at hC ?_ | (with_reducible refine wpAny_isSubtype_exc hC ?_;rw [hcB]) | wp_step)
 exact wpAny_raiseNew_none hh hE
end
section
variable {prog:Program}{w:World}{A:Around}{E:Value→Shared→Prop}{s:Shared}{env:Env}
variable {nm q:Str}{C N:Addr}{bs bm:List Value}{hdct:Bool}{sn:List Str}{sub:List Value}{ab:Bool}{col:Option Bool}{dd:Option Addr}{k0 k1 k2 k3 k5:Option Value}{mN:Str→Option Value}{fI:Addr}{oI:Obj}
theorem zjO {x:Str}{np cpos pos:Pos}{args:List Expr}{Q:Flow→Shared→Prop}(hbase:bm.contains (.type "BaseException")=true)(hh:A.handled=none)(hplain:(backTo cpos (starEach args env)).any (·.1)=false)(hi:mN "__init__" = some (.ref fI))(hfc:oI.cls = .type "function")
  (h:wpAny (model prog w) A (eval (.Name x np) env) (fun f s₁=>f = .ref C∧wpAny (model prog w) A (evalArgs (.ref C) true (backTo cpos (starEach args env)) [])
   (fun a s₂=>a.kw=[]∧a.pos.length≤sizeLine∧s₂.heap.get? C=some (excClassObj nm q C N bs bm hdct sn sub ab col dd k0 k1 k2 k3 k5 "ValueError.__new__")∧s₂.heap.Ns N mN∧OwnTail s₂.heap bmV bm∧s₂.heap.get? fI=some oI ∧
    ∀ h' e,Heap.MadeExcOf s₂.heap h' e (.ref C) a.pos→wpAny (model prog w) (A.under (.builtin "type.__call__" ⟨.ref C :: a.pos,[]⟩)) (call (.ref fI) (.ref e :: a.pos))
     (fun r s'=>r = .none∧∃ t od,s'.heap.get? C=some (excClassObj nm q C N bs bm hdct sn sub ab col dd k0 k1 k2 k3 k5 "ValueError.__new__")∧s'.heap.get? e=some { cls:=.ref C,dict:=od,data:=.fields #[.ref t,.none,.none,.none,.bool false,.none] }∧E (.ref e) s') E { s₂ with heap:=h' }) E s₁) E s) :
  wpAny (model prog w) A (exec (.Raise (some (.Call (.Name x np) args [] cpos)) none pos) env) Q E s:=by
 rw [arm_exec_Raise]
 simp only [evalOpt,Option.map]
 refine Xaa (Xbh (ziv (C:=C) (nm:=nm) (q:=q) (N:=N) (bs:=bs) (bm:=bm) (hdct:=hdct) (sn:=sn) (sub:=sub) (ab:=ab) (col:=col) (dd:=dd) (k0:=k0) (k1:=k1) (k2:=k2) (k3:=k3) (k5:=k5) hbase hh (Xaa (Xas (wpAny_Call_ofName (Xas h (fun f s₁ h₁=>?_) fun _ _ x=>x)) (fun v s₃ h₃=>Xaa (Xbh (Xac h₃))) fun _ _ x=>x))))
 obtain ⟨rfl,h₁⟩:=h₁
 unfold callWith
 refine Xaa (XaK (Xas h₁ (fun a s₂ h₂=>Xaa (Xbh ?_)) fun _ _ x=>x))
 obtain ⟨apos,akw⟩:=a
 obtain ⟨hkw,hlen,hC,hn,T,hfI,h₂⟩:=h₂
 obtain rfl:akw=[]:=hkw
 obtain ⟨hp,g,d,tk,os⟩:=s₂
 simp only [hplain]
 refine Xaa (wpAny_keeperOf_exc hC ?_)
 refine Xaa (zjP T hC hn hi hfI hfc hlen fun h' e hm=>Xas (h₂ h' e hm) (fun r s' hr=>?_) fun _ _ x=>x)
 obtain ⟨rfl,t,od,hC',he,hE⟩:=hr
 exact ⟨rfl,Xaa (XaK (wpAny_point (Xac ⟨e,t,od,rfl,hC',he,hE⟩)))⟩
end
end L2
end
section
namespace L2
open PySem PySem.Spec PyProof.Rows HT
end L2
end
section
namespace L2
open PySem PySem.Spec PyProof.Rows HT PySem.W PySem.Calls PySem.NumText
end L2
end
section
namespace L2
open PySem PySem.Spec PyProof.Rows HT
end L2
end
section
namespace L2
open PySem PySem.Spec PyProof.Rows HT
section
variable {X:Cx}{x:Str}{p pos:Pos}{e:Expr}{es:List Expr}{tv:TE}{t:TA}
end
end L2
end
section
namespace L2
open PySem PySem.Spec PyProof.Rows HT PySem.W PySem.Calls
end L2
end
section
namespace L2
open PySem PySem.Spec PyProof.Rows HT
section
variable {X:Cx}{x:Str}{a:Addr}{e:Expr}{p apos cpos:Pos}{ty:TE}{kvs:List (Key×V)}
end
end L2
end
section
namespace L2
open PySem PySem.Spec PyProof.Rows HT
end L2
end
section
namespace L2
open PySem PySem.Spec PyProof.Rows PySem.SeqAt
section
variable {X:Cx}{K:W.Frag}
end
section
variable {X:Cx}
end
end L2
end
section
namespace L2
open PySem PySem.Spec PyProof.Rows Builtin
section
variable {prog:Program}{w:World}{A:Around}{E:Value→Shared→Prop}{s:Shared}{K:W.Frag}{x y C D f:Addr}{ox oy:Obj}{od oe:Option Obj}
end
section
variable {X:Cx}
end
section
variable {prog:Program}{w:World}{A:Around}{E:Value→Shared→Prop}{s:Shared}
end
structure Tab (L:Bool)(t:SetTable)(n:Nat):Prop where
 fits:t.fits n=true
 ris:t.place.toList.Pairwise (· < ·)
 led:t.led=L
theorem zkx {xs:Array Nat}{i j:Nat}(h:i<xs.size):xs.getD i j=xs.toList[i]'(by simpa using h):=by
 rw [Array.getD_eq_getD_getElem?,XaI h];simp
theorem ziI {l:List Nat}(h:l.Pairwise (· < ·)){i k:Nat}(hk:k<l.length)(hik:i<k):l[i]'(by omega)<l[k]:=(List.pairwise_iff_getElem.mp h) i k (by omega) hk hik
theorem zez {xs:Array Nat}{j:Nat}(hr:xs.toList.Pairwise (· < ·)):∀ (fuel lo hi:Nat),hi≤xs.size→lo≤hi→hi - lo≤fuel→(∀ i (h:i<xs.toList.length),i<lo→xs.toList[i]<j)→(∀ i (h:i<xs.toList.length),hi≤i→j≤xs.toList[i]) →
  SetTable.below.go xs j fuel lo hi≤xs.size∧(∀ i (h:i<xs.toList.length),i<SetTable.below.go xs j fuel lo hi→xs.toList[i]<j)∧∀ i (h:i<xs.toList.length),SetTable.below.go xs j fuel lo hi≤i→j≤xs.toList[i]
 | 0,lo,hi,h1,h2,h3,a,b=>by
  obtain rfl:lo=hi:=by omega
  exact ⟨h1,a,b⟩
 | fuel+1,lo,hi,h1,h2,h3,a,b=>by
  unfold SetTable.below.go
  by_cases hlt:lo<hi
  ·rw [if_pos hlt]
   have hm:(lo+hi) / 2<xs.size:=by omega
   have hml:(lo+hi) / 2<xs.toList.length:=by simpa using hm
   dsimp only
   rw [zkx hm]
   by_cases hc:xs.toList[(lo+hi) / 2]<j
   ·rw [if_pos hc]
    refine zez hr fuel _ hi h1 (by omega) (by omega) (fun i h hi'=>?_) b
    rcases (show i<(lo+hi) / 2∨i=(lo+hi) / 2 by omega) with e | e
    ·exact Xbt (ziI hr hml e) hc
    ·subst e;exact hc
   ·rw [if_neg hc]
    refine zez hr fuel lo _ (by omega) (by omega) (by omega) a (fun i h hi'=>?_)
    rcases (show (lo+hi) / 2<i∨i=(lo+hi) / 2 by omega) with e | e
    ·exact Nat.le_of_lt (Xaz (Nat.not_lt.mp hc) (ziI hr h e))
    ·subst e;exact Nat.not_lt.mp hc
  ·rw [if_neg hlt]
   obtain rfl:lo=hi:=by omega
   exact ⟨h1,a,b⟩
theorem zc5 {xs:Array Nat}{j:Nat}(hr:xs.toList.Pairwise (· < ·)):SetTable.below xs j≤xs.size∧(∀ i (h:i<xs.toList.length),i<SetTable.below xs j→xs.toList[i]<j)∧∀ i (h:i<xs.toList.length),SetTable.below xs j≤i→j≤xs.toList[i]:=
 zez hr xs.size 0 xs.size (Xaf _) (Nat.zero_le _) (Xaf _) (fun i h z=>absurd z (Xbd _)) fun i h z=>absurd (show i<xs.size by simpa using h) (Nat.not_lt.mpr z)
theorem zjk {xs:Array Nat}(hr:xs.toList.Pairwise (· < ·)){i:Nat}(h:i<xs.size):SetTable.below xs xs[i]=i:=by
 obtain ⟨b1,b2,b3⟩:=zc5 (j:=xs[i]) hr
 have hl:i<xs.toList.length:=by simpa using h
 have e:xs.toList[i]=xs[i]:=by simp
 rcases Nat.lt_trichotomy (SetTable.below xs xs[i]) i with z | z | z
 ·have h2:SetTable.below xs xs[i]<xs.toList.length:=by omega
  have q1:=b3 _ h2 (Xaf _)
  have q2:=ziI hr hl z
  rw [e] at q2
  exact absurd q1 (Nat.not_le.mpr q2)
 ·exact z
 ·have q1:=b2 i hl z
  rw [e] at q1
  exact absurd q1 (XaT _)
theorem zg4 {xs:Array Nat}(hr:xs.toList.Pairwise (· < ·)){i:Nat}(h:i<xs.size):SetTable.below xs (xs[i]+1)=i+1:=by
 obtain ⟨b1,b2,b3⟩:=zc5 (j:=xs[i]+1) hr
 have hl:i<xs.toList.length:=by simpa using h
 have e:xs.toList[i]=xs[i]:=by simp
 rcases Nat.lt_trichotomy (SetTable.below xs (xs[i]+1)) (i+1) with z | z | z
 ·have q1:=b3 i hl (by omega)
  rw [e] at q1;omega
 ·exact z
 ·have hls:xs.toList.length=xs.size:=by simp
  have h2:i+1<xs.toList.length:=by omega
  have q1:=b2 (i+1) h2 z
  have q2:=ziI hr h2 (Xa2 i)
  rw [e] at q2;omega
theorem zg3 {xs:Array Nat}(hr:xs.toList.Pairwise (· < ·)):SetTable.below xs 0=0:=by
 obtain ⟨b1,b2,b3⟩:=zc5 (j:=0) hr
 rcases Nat.eq_zero_or_pos (SetTable.below xs 0) with z | z
 ·exact z
 ·have hls:xs.toList.length=xs.size:=by simp
  have h2:0<xs.toList.length:=by omega
  exact absurd (b2 0 h2 z) (Xbd _)
theorem zjx {t:SetTable}(hr:t.place.toList.Pairwise (· < ·)){j:Nat}(h:∀ i,t.slot j≠.live i):j ∉ t.place.toList:=fun hm=>by
 obtain ⟨i,hi,e⟩:=List.getElem_of_mem hm
 have hi':i<t.place.size:=by simpa using hi
 have e':t.place[i]=j:=by simpa using e
 refine h (SetTable.below t.place j) ?_
 unfold SetTable.slot
 dsimp only
 rw [if_pos]
 rw [← e',zjk hr hi',XaI hi',beq_self_eq_true]
theorem zcF {t:SetTable}{hs:Nat→Int}{h:Int}:∀ (fuel:Nat) (p:SetTable.Probe) (j:Nat) (d:Option Nat),(∀ x,p.dummy=some x→∀ i,t.slot x≠.live i)→SetTable.probe.go t hs h fuel p=some (.empty j d)→(∀ i,t.slot j≠.live i)∧∀ x,d=some x→∀ i,t.slot x≠.live i
 | 0,p,j,d,_,e=>by cases e
 | fuel+1,p,j,d,hd,e=>by
  have adv:∀ q:SetTable.Probe,(t.advance q).dummy=q.dummy:=fun q=>by unfold SetTable.advance;split <;> rfl
  unfold SetTable.probe.go at e
  cases hq:t.slot p.j with
  | empty =>
   rw [hq] at e
   have e:=Option.some.inj e
   injection e with e1 e2
   subst e1 e2
   exact ⟨fun i z=>(by rw [hq] at z;cases z),hd⟩
  | dummy =>
   rw [hq] at e
   refine zcF fuel _ j d (fun x hx i z=>?_) e
   rw [adv] at hx
   have hx:p.j=x:=Option.some.inj hx
   subst hx
   rw [hq] at z;cases z
  | live i =>
   rw [hq] at e
   dsimp only at e
   split at e
   ·cases e
   ·exact zcF fuel _ j d (fun x hx=>hd x (by rw [adv] at hx;exact hx)) e
set_option tactic.hygienic true in
theorem zfa {t:SetTable}(hr:t.place.toList.Pairwise (· < ·)){h:Int}{j:Nat}{b:Bool}(e:t.freeSlot h=some (j,b)):j ∉ t.place.toList:=by
 unfold SetTable.freeSlot at e
 split at e
 ·rename_i j' d hp
  have e:=Option.some.inj e
  injection e with e1 _
  obtain ⟨a1,a2⟩:=zcF _ _ _ _ (fun x hx=>by cases hx) hp
  cases d with
  | none=>rw [← e1];exact zjx hr a1
  | some x=>rw [← e1];exact zjx hr (a2 x rfl)
 ·cases e
theorem zgV {xs:Array Nat}(hr:xs.toList.Pairwise (· < ·)){j:Nat}(hj:j ∉ xs.toList):(SetTable.insertAt xs (SetTable.below xs j) j).toList.Pairwise (· < ·):=by
 obtain ⟨b1,b2,b3⟩:=zc5 (j:=j) hr
 rw [SetTable.toList_insertAt,List.pairwise_append]
 refine ⟨hr.sublist (List.take_sublist _ _),List.pairwise_cons.mpr ⟨fun x hx=>?_,hr.sublist (List.drop_sublist _ _)⟩,fun x hx y hy=>?_⟩
 ·obtain ⟨i,hi,rfl⟩:=List.getElem_of_mem hx
  rw [List.getElem_drop]
  rw [Xa3] at hi
  have q:=b3 (SetTable.below xs j+i) (by omega) (by omega)
  exact Nat.lt_of_le_of_ne q fun z=>hj (by rw [z];exact XbA _)
 ·obtain ⟨i,hi,rfl⟩:=List.getElem_of_mem hx
  rw [List.getElem_take]
  rw [XaW] at hi
  have q:=b2 i (by omega) (by omega)
  rcases Xap.mp hy with rfl | hy
  ·exact q
  ·obtain ⟨k,hk,rfl⟩:=List.getElem_of_mem hy
   rw [List.getElem_drop]
   rw [Xa3] at hk
   exact Xaj q (b3 _ (by omega) (by omega))
theorem zbl (n:Nat):(Array.range n).toList.Pairwise (· < ·):=by
 rw [Array.toList_range]
 exact List.pairwise_lt_range
theorem or_tab {L:Bool}{t:SetTable}(hr:t.place.toList.Pairwise (· < ·))(hl:t.led=L)(n:Nat):(t.orStandIn n).place.toList.Pairwise (· < ·)∧(t.orStandIn n).led=L:=by
 unfold SetTable.orStandIn
 by_cases h:t.fits n=true
 ·rw [if_pos h];exact ⟨hr,hl⟩
 ·rw [if_neg h];exact ⟨zbl n,hl⟩
set_option tactic.hygienic true in
theorem zgS {L:Bool}{t:SetTable}{es:Array (Int×Value)}(T:Tab L t es.size)(h:Int)(x:Value):Tab L (layNew t es h x).2.1 (layNew t es h x).1.size:=by
 have ft:=layNew_fits t es h x
 have q:(layNew t es h x).2.1.place.toList.Pairwise (· < ·)∧(layNew t es h x).2.1.led=L:=by
  unfold layNew
  split
  ·rename_i j b e
   exact or_tab (t:=(t.put j).1) (zgV T.ris (zfa T.ris e)) T.led _
  ·exact ⟨zbl _,T.led⟩
 exact ⟨ft,q.1,q.2⟩
theorem zdD {mask finger moves:Nat}{led plain:Bool}{hashes:Array Int}{t:SetTable}{o:Array Nat}(e:SetTable.laid mask finger moves led plain hashes=some (t,o)):t.place.toList.Pairwise (· < ·)∧t.led=led:=by
 unfold SetTable.laid at e
 obtain ⟨owner,_,e⟩:=Option.bind_eq_some_iff.mp e
 have e:=Option.some.inj e
 injection e with e1 _
 subst e1
 refine ⟨?_,rfl⟩
 show ((((List.range (mask+1)).filterMap fun j=>(owner.getD j none).map (j,·)).map (·.1)).toArray).toList.Pairwise (· < ·)
 rw [List.map_filterMap,List.toList_toArray]
 refine List.Pairwise.filterMap _ (R:=(· < ·)) (S:=(· < ·)) (fun a a' hl b hb b' hb'=>?_) List.pairwise_lt_range
 ·cases h1:owner.getD a none with
  | none=>rw [h1] at hb;cases hb
  | some u =>
   rw [h1] at hb
   cases h2:owner.getD a' none with
   | none=>rw [h2] at hb';cases hb'
   | some v =>
    rw [h2] at hb'
    have q1:a=b:=Option.some.inj hb
    have q2:a'=b':=Option.some.inj hb'
    omega
set_option tactic.hygienic true in
theorem zhs {L:Bool}{t:SetTable}{es:Array (Int×Value)}(T:t.led=L)(n:Nat):Tab L (relayAll t es n).2.1 (relayAll t es n).1.size:=by
 refine ⟨relayAll_fits t es n,?_,?_⟩
 ·unfold relayAll
  split
  ·rename_i t' o e
   dsimp only
   split
   ·exact (zdD e).1
   ·exact zbl _
  ·exact zbl _
 ·unfold relayAll
  split
  ·rename_i t' o e
   dsimp only
   split
   ·exact (zdD e).2.trans T
   ·exact T
  ·exact T
def sObj (es:Array (Int×Value))(ep:Nat)(t:SetTable):Obj:={ cls:=.type "set",data:=.set es ep t }
def EOk (e:Int×Value):Prop:=∃ (n:Int) (t:Tok),e=(hashInt n,.int n t)
def eInt (e:Int×Value):Int:=match e.2 with
 | .int n _=>n
 | _=>0
def zh5 (l:List (Int×Value)):List Int:=l.map eInt
def SetI (L:Bool)(h:Heap)(a:Addr)(S:List Int):Prop:=∃ es ep t,h.get? a=some (sObj es ep t)∧(∀ e∈es.toList,EOk e)∧(zh5 es.toList).Perm S∧S.Nodup∧Tab L t es.size
theorem SetI.at {L:Bool}{h h':Heap}{a:Addr}{S:List Int}(x:SetI L h a S)(e:∀ o,h.get? a=some o→h'.get? a=some o):SetI L h' a S:=by
 obtain ⟨es,ep,t,g,r⟩:=x
 exact ⟨es,ep,t,e _ g,r⟩
theorem zh4 {prog:Program}{w:World}{l:List (Int×Value)}(h:∀ e∈l,EOk e):ElemsOf (intKind prog w) l:=fun e he=>by
 obtain ⟨n,t,rfl⟩:=h e he
 exact ⟨⟨n,intKind_is _ _ _ _,rfl⟩,rfl⟩
theorem zjB {prog:Program}{w:World}{e:Int×Value}(h:EOk e)(n:Int):(intKind prog w).is n e.2=decide (n=eInt e):=by
 obtain ⟨m,t,rfl⟩:=h
 show Value.isInt n (.int m t)=decide (n=m)
 unfold Value.isInt
 by_cases e:n=m
 ·subst e;simp
 ·rw [Xag e];simpa using fun z=>e z.symm
section
variable {prog:Program}{w:World}{A:Around}{E:Value→Shared→Prop}{s:Shared}
theorem zjq {h:Heap}{a:Addr}{es es':Array (Int×Value)}{ep:Nat}{t t':SetTable}(g:h.get? a=some (sObj es ep t)):(h.update a (Obj.putSet es' t')).get? a=some (sObj es' (ep+1) t'):=by
 have e:=putSet_of es' t' (show (sObj es ep t).data = .set es ep t from rfl)
 have:=XaH (Obj.putSet es' t') g (by rw [e];rfl)
 rw [e] at this;exact this
theorem zgq {L:Bool}{g:Bool→Sem Unit}(hg:∀ (b:Bool) (s₁:Shared) (Q':Unit→Shared→Prop),Q' () s₁→wpAny (model prog w) A (g b) Q' E s₁){a:Addr}{es es1:Array (Int×Value)}{ep:Nat}{t t2:SetTable}(ho:s.heap.get? a=some (sObj es ep t))
  (hz:es1.size<scanBound) (T2:Tab L t2 es1.size) {wd:Bool} {R:Option Bool→Shared→Prop}
  (h:∀ h' es' ep' t',Heap.SameBut a s.heap h'→h'.get? a=some (sObj es' ep' t')→es'.toList.Perm es1.toList→Tab L t' es'.size→R (some true) { s with heap:=h' }) :
  wpAny (model prog w) A (do
   storeSet a es1 t2
   if (!wd && t2.tooFull)=true then do
    g (relayAll t2 es1 (SetTable.grown es1.size)).2.2
    storeSet a (relayAll t2 es1 (SetTable.grown es1.size)).1 (relayAll t2 es1 (SetTable.grown es1.size)).2.1
    pure (some true)
   else pure (some true)) R E s:=by
 refine Xaa (wpAny_storeSet_of ho rfl ?_ (fits_of_scanBound hz))
 have g1:=zjq (es':=es1) (t':=t2) ho
 have b1:=Heap.SameBut.update s.heap a (Obj.putSet es1 t2)
 split
 ·have pm:=relayAll_perm t2 es1 (SetTable.grown es1.size)
  have T3:=zhs (es:=es1) T2.led (SetTable.grown es1.size)
  generalize relayAll t2 es1 (SetTable.grown es1.size)=Y at pm T3 ⊢
  obtain ⟨es2,t3,gv⟩:=Y
  have sz:es2.size=es1.size:=by rw [← Array.length_toList,pm.length_eq,Array.length_toList]
  refine Xaa (hg _ _ _ (Xaa (wpAny_storeSet_of g1 rfl ?_ (fits_of_scanBound (by rw [sz];exact hz)))))
  exact Xac (h _ es2 _ t3 (b1.trans (Heap.SameBut.update _ a _)) (zjq g1) pm T3)
 ·exact Xac (h _ es1 _ t2 b1 g1 .rfl T2)
theorem zj0 {L:Bool}{a:Addr}{S:List Int}{n:Int}{tok:Tok}{Q:Value→Shared→Prop}(hS:SetI L s.heap a S)(hz:S.length<1000)
  (h:∀ h',Heap.SameBut a s.heap h'→SetI L h' a (if n∈S then S else S ++ [n])→Q .none { s with heap:=h',toks:=s.toks+1 }) :
  wpAny (model prog w) A (call (.builtin "set.add") [.ref a,.int n tok]) Q E s:=by
 obtain ⟨es,ep,t,ho,hE,hP,hN,T⟩:=hS
 have hel:=zh4 (prog:=prog) (w:=w) hE
 have hsz:es.size=S.length:=by rw [← Array.length_toList,← hP.length_eq];unfold zh5;rw [Xah]
 have hb:es.size<scanBound:=Xbt (show es.size<1000 by omega) (by decide)
 have hk:(intKind prog w).is n (.int n tok)=true:=intKind_is _ _ _ _
 have hsc:(Value.int n tok).scannable=true:=rfl
 refine Xa4 F.slot_set_add (show s.TypeIs (.ref a) "set" from ⟨_,ho,rfl⟩) F.entry_set_add ?_ (F.args_set_add_2 _ _)
 unfold Builtin.«set.add» Builtin.Frozenset.oneOther;simp only [List.isEmpty_nil,bind_assoc]
 unfold Builtin.Frozenset.addrOf setAdd;refine Xaa (Xac ?_)
 try dsimp only
 refine Xaa (Xac (Xaa (XaK (Xaa ((intKind prog w).pyHash hk ?_)))))
 generalize hs1:({ s with toks:=s.toks+1 }:Shared)=s1
 have ho1:s1.heap.get? a=some (sObj es ep t):=by rw [← hs1];exact ho
 have fin:∀ (b:Bool) h',Heap.SameBut a s.heap h'→SetI L h' a (if n∈S then S else S ++ [n])→(fun (_:Bool) s'=>wpAny (model prog w) A.in1 (ret Value.none) (fun fin s'=>∃ v,fin = .done (.ret v)∧Q v s') E s') b { s1 with heap:=h' }:=fun b h' hb' x=>by
  have:=h h' hb' x
  rw [← hs1]
  exact Xac ⟨_,rfl,this⟩
 show wpAny (model prog w) A.in1 (setAddHashed a (.int n tok) ((intKind prog w).hash n)) (fun _ s'=>wpAny (model prog w) A.in1 (ret Value.none) (fun fin s'=>∃ v,fin = .done (.ret v)∧Q v s') E s') E s1
 unfold setAddHashed setAddHashedIn;refine XaK (Xaa (Xa9 ho1 rfl T.fits ?_))
 dsimp only
 rw [byScan_of hsc hb hel,if_pos rfl]
 unfold setAddByScan;refine Xaa (Xaa (wpAny_rule (Xaa (wpAny_setScan_of hk ho1 rfl T.fits hel ?_))))
 have s1h:s1.heap=s.heap:=by rw [← hs1]
 have mem:n∈S↔∃ e∈es.toList,(intKind prog w).is n e.2=true:=by
  rw [← hP.mem_iff]
  constructor
  ·intro hm
   obtain ⟨e,he,z⟩:=XaC.mp hm
   exact ⟨e,he,by rw [zjB (hE e he)];exact Xai z.symm⟩
  ·rintro ⟨e,he,z⟩
   rw [zjB (hE e he)] at z
   rw [XaO z]
   exact XaC.mpr ⟨e,he,rfl⟩
 cases hr:List.findIdx? (fun e=>(intKind prog w).is n e.2) es.toList with
 | some j =>
  obtain ⟨hj,pj,_⟩:=List.findIdx?_eq_some_iff_getElem.mp hr
  have hm:n∈S:=mem.mpr ⟨_,XbA hj,pj⟩
  refine Xac (Xac ?_)
  have:=fin false s.heap (Heap.SameBut.refl a s.heap) (by rw [if_pos hm];exact ⟨es,ep,t,ho,hE,hP,hN,T⟩)
  rw [← hs1] at this ⊢
  exact this
 | none =>
  have hm:n ∉ S:=fun z=>by
   obtain ⟨e,he,p⟩:=mem.mp z
   have:=List.findIdx?_eq_none_iff.mp hr e he
   rw [p] at this;cases this
  rw [if_neg hm] at fin
  have pm:=layNew_perm t es ((intKind prog w).hash n) (.int n tok)
  have T1:=zgS T ((intKind prog w).hash n) (.int n tok)
  generalize layNew t es ((intKind prog w).hash n) (.int n tok)=Y at pm T1 ⊢
  obtain ⟨es1,t1,wd,gv⟩:=Y
  dsimp only at pm T1 ⊢
  rw [Array.toList_push] at pm
  have sz1:es1.size=es.size+1:=by rw [← Array.length_toList,pm.length_eq,Xaq,Array.length_toList];rfl
  have hz1:es1.size<scanBound:=Xbt (show es1.size<1001 by omega) (by decide)
  have last:∀ h' es' ep' t',Heap.SameBut a s1.heap h'→h'.get? a=some (sObj es' ep' t')→es'.toList.Perm es1.toList→Tab L t' es'.size→SetI L h' a (S ++ [n]):=fun h' es' ep' t' hb' g' p' T'=>by
   have p2:=p'.trans pm
   refine ⟨es',ep',t',g',fun e he=>?_,?_,?_,T'⟩
   ·rcases XaF.mp (p2.mem_iff.mp he) with z | z
    ·exact hE e z
    ·rw [Xab.mp z];exact ⟨n,tok,rfl⟩
   ·have q:=p2.map eInt
    rw [XaV] at q
    exact q.trans (hP.append_right _)
   ·exact Xba.mpr ⟨hN,XbC.mpr ⟨(fun z=>nomatch z),Xbz⟩,fun x hx y hy z=>hm (by rw [← Xab.mp hy,← z];exact hx)⟩
  refine Xaa (m:=(match gv with | true=>rule "set.scan.the-table-gave-way" | false=>pure ())) ?_
  have hgw:∀ (b:Bool) (s₁:Shared) (Q':Unit→Shared→Prop),Q' () s₁→wpAny (model prog w) A.in1 (match b with | true=>rule "set.scan.the-table-gave-way" | false=>pure ()) Q' E s₁:=fun b s₁ Q' q=>by
   cases b
   ·exact Xac q
   ·exact wpAny_rule q
  refine hgw gv _ _ ?_
  have off:Tab L { t1 with plain:=false } es1.size:=⟨SetTable.fits_plain_off T1.fits,T1.ris,T1.led⟩
  split
  ·refine Xaa ?_
   rw [hashByValue_scannable 8 hsc]
   refine Xac (zgq (L:=L) hgw ho1 hz1 ?_ fun h' es' ep' t' hb' g' p' T'=>Xac (fin true h' (by rw [← s1h];exact hb') (last h' es' ep' t' hb' g' p' T')))
   split
   ·exact T1
   ·exact off
  ·refine Xaa (Xac ?_)
   rw [if_pos rfl]
   exact zgq (L:=L) hgw ho1 hz1 T1 fun h' es' ep' t' hb' g' p' T'=>Xac (fin true h' (by rw [← s1h];exact hb') (last h' es' ep' t' hb' g' p' T'))
end
theorem slot_si_next:Slot "set_iterator" "__next__" "set_iterator.__next__" :=
 .of (owner := "set_iterator") (n := "__next__") (by rw [typeLookup_type,builtinLookup_eq_fast];kernel_rfl) (by decide +kernel) (by decide +kernel) (by decide +kernel) (by first | exact .inl (by decide +kernel) | exact .inr (by decide +kernel)) (by rw [isSubtype_type];kernel_rfl)
theorem zcr:entryFor table "set_iterator.__next__" = some Builtin.«set_iterator.__next__»:=entryFor_of_tree (by kernel_rfl)
theorem zgd:Manifest.owners.lookup (String.ofList ['r','o','t','a','r','e','t','i','_','t','e','s'].reverse)=some Manifest.sig_set_iterator:=by kernel_rfl
theorem zcS (a:Value):argsOk "set_iterator.__next__" ⟨[a],[]⟩:=by
 unfold argsOk;rw [signature?_of (id := "set_iterator.__next__") (n:=['_','_','t','x','e','n','_','_']) (o:=['r','o','t','a','r','e','t','i','_','t','e','s']) (by kernel_rfl) zgd];kernel_rfl
theorem zfd:entryFor table "set.__iter__" = some Builtin.«frozenset.__iter__»:=entryFor_alias (id' := "frozenset.__iter__") (by kernel_rfl) rfl (by decide +kernel) (by kernel_rfl)
theorem zcK {α:Type}:∀ {l:List α} {i:Nat} (h:i<l.length),(l[i] :: l.eraseIdx i).Perm l
 | a :: l,0,h=>.rfl
 | a :: l,i+1,h=>(List.Perm.swap _ _ _).trans ((zcK (l:=l) (i:=i) (by simpa using h)).cons a)
theorem zhz {α:Type}(next:Nat→Nat):∀ (fuel k:Nat) (left:List α) (out:Array α),left.length=fuel→(pickOrder.go next fuel k left out).toList.Perm (out.toList ++ left)
 | 0,k,left,out,h=>by rw [List.eq_nil_of_length_eq_zero h,Xbb];exact .rfl
 | fuel+1,k,left,out,h=>by
  have hl:next k % left.length<left.length:=Xa0 _ (by omega)
  unfold pickOrder.go
  rw [Xau hl]
  dsimp only
  refine (zhz next fuel (k+1) _ _ (by rw [List.length_eraseIdx_of_lt hl];omega)).trans ?_
  rw [Array.toList_push,List.append_assoc]
  exact (List.Perm.refl _).append (zcK hl)
theorem zhy {α:Type}(next:Nat→Nat)(xs:Array α):(pickOrder next xs).toList.Perm xs.toList:=by
 have:=zhz next xs.size 0 xs.toList #[] (by simp)
 simpa [pickOrder] using this
section
variable {prog:Program}{w:World}{A:Around}{E:Value→Shared→Prop}{s:Shared}
theorem zg5 {src:Source}{n:Nat}{Q:Nat→Shared→Prop}(hn:n≠0)(h:∀ i d,i<n→Q i { s with drawn:=d }):wpAny (model prog w) A (choose src n) Q E s:=fun Γ p _ =>
 ⟨hn,h _ _ (Xa0 _ (Nat.pos_of_ne_zero hn))⟩
theorem zd1 {α:Type}:∀ (n:Nat) (xs:List α) (s:Shared) (Q:List α→Shared→Prop),xs.length=n→(∀ ys d,ys.Perm xs→Q ys { s with drawn:=d })→wpAny (model prog w) A (drawOrder n xs) Q E s
 | 0,xs,s,Q,h,q=>by
  unfold drawOrder
  exact Xac (by have:=q [] s.drawn (by rw [List.eq_nil_of_length_eq_zero h]);exact this)
 | n+1,[],s,Q,h,q=>by cases h
 | n+1,x :: xs,s,Q,h,q=>by
  unfold drawOrder
  refine Xaa (zg5 (by simp) fun i d hi=>?_)
  rw [Xau hi]
  dsimp only
  refine Xaa (zd1 n _ _ _ (by rw [List.length_eraseIdx_of_lt hi];simp at h ⊢;exact h) fun ys d' p=>Xac (q _ d' ?_))
  exact (List.Perm.cons _ p).trans (zcK hi)
def zg7 (w:World)(a:Addr)(es:Array (Int×Value))(ep:Nat)(t:SetTable)(vs:List Value)(h:Heap)(i:Nat)(first:Value):Prop:=
 (w.params.followText "set-order" = true∧(∃ k:Nat,first = .int (k:Int) 0)∧vs=(pickOrder (w.params.setOrder a ep) es).toList.map (·.2)) ∨
 (w.params.followText "set-order" = false∧(!t.plain && decide (es.size > 1))=false∧t.led=true∧(∃ k:Nat,first = .int (k:Int) 0∧SetTable.below t.place k=i)∧vs=es.toList.map (·.2)) ∨
 (w.params.followText "set-order" = false∧∃ (T:Addr) (ps:List Nat),first = .ref T∧h.get? T=some { cls:=.type "tuple",data:=.seq (ps.map fun (p:Nat)=>Value.int (p:Int) 0).toArray }∧ps.length=es.size∧(∀ p∈ps,p<es.size)∧vs=ps.map fun p=>((es[p]?).getD (0,.none)).2)
end
def siO (first:Value)(i:Int)(a:Value)(n:Int)(ep:Int):Obj:={ cls:=.type "set_iterator",data:=.fields #[first,.int i 0,a,.int n 0,.int ep 0] }
section
variable {prog:Program}{w:World}{A:Around}{E:Value→Shared→Prop}{s:Shared}
theorem zdU {h:Heap}{I:Addr}{vs:Array Value}{j:Nat}{x:Value}(hI:h.get? I=some { cls:=.type "set_iterator",data:=.fields vs }):(h.update I (Obj.mapFields (·.setIfInBounds j x))).get? I=some { cls:=.type "set_iterator",data:=.fields (vs.setIfInBounds j x) }:=by
 have:=XaH (Obj.mapFields (·.setIfInBounds j x)) hI rfl
 exact this
theorem zjX {I a:Addr}{es:Array (Int×Value)}{ep i:Nat}{t:SetTable}{vs:List Value}{first x:Value}{Q:Option Value→Shared→Prop}(hI:s.heap.get? I=some (siO first (i:Int) (.ref a) (es.size:Int) (ep:Int)))(ha:s.heap.get? a=some (sObj es ep t))(hf:t.fits es.size=true)(hr:t.place.toList.Pairwise (· < ·))
  (m:zg7 w a es ep t vs s.heap i first) (hx:vs[i]? = some x)
  (hq:∀ h' first',Heap.SameBut I s.heap h'→h'.get? I=some (siO first' ((i+1:Nat):Int) (.ref a) (es.size:Int) (ep:Int))→zg7 w a es ep t vs h' (i+1) first'→(∀ T:Addr,first' = .ref T→first = .ref T)→Q (some x) { s with heap:=h' }):wpAny (model prog w) A (pyNext (.ref I)) Q E s:=by
 have hT:s.TypeIs (.ref I) "set_iterator" := ⟨_,hI,rfl⟩
 have ps:t.place.size=es.size:=by
  have:=hf;unfold SetTable.fits at this
  exact beq_iff_eq.mp (Bool.and_eq_true_iff.mp this).1
 unfold pyNext
 refine Xaa (wpAny_attempt (wpAny_callSpecial?_slot (name:=Str.ofString "__next__") hT slot_si_next (Xa4 slot_si_next hT zcr ?_ (zcS _))))
 delta Builtin.«set_iterator.__next__»
 refine Xaa (m:=slotArgs "__next__" 0 _) (Xac ?_)
 dsimp only
 refine Xaa (wpAny_fieldsOf hI rfl ?_)
 show wpAny _ _ (setEntries a >>= _) _ _ s
 refine Xaa (wpAny_setEntries_of ha rfl hf ?_)
 rw [if_neg (by simp)]
 have far:∀ {T:Addr} {o:Obj},s.heap.get? T=some o→o.cls = .type "tuple" → T≠I:=fun {T o} e c z=>by rw [z,hI] at e;cases e;exact absurd (show ("set_iterator" : String) = "tuple" by injection c) (by decide)
 rcases m with ⟨bt,⟨k,rfl⟩,ev⟩ | ⟨bt,dr,led,⟨k,rfl,bk⟩,ev⟩ | ⟨bt,T,pl,rfl,eT,hl,hp,ev⟩
 ·
  show wpAny _ _ (setNext a (k:Int).toNat (i:Int).toNat (ep:Int).toNat >>= _) _ _ s
  rw [Xak,Xak,Xak]
  unfold setNext setsByText setWalk
  refine Xaa (Xaa (Xa9 ha rfl hf ?_))
  refine Xaa (Xaa (XaY (Xac ?_)))
  rw [show (model prog w).w.params.followText "set-order" = true from bt,if_pos rfl,show (ep != ep)=false by simp,if_neg Xao]
  refine Xaa (Xaa (Xa9 ha rfl hf ?_))
  unfold setsByText
  refine Xaa (Xaa (XaY (Xac ?_)))
  rw [show (model prog w).w.params.followText "set-order" = true from bt,if_pos rfl]
  refine Xaa (XaY (Xac (Xac ?_)))
  have e1:(pickOrder ((model prog w).w.params.setOrder a ep) es)[i]?.map (fun e=>(e.2,k))=some (x,k):=by
   rw [ev,Xat,Xbj] at hx
   obtain ⟨e,h1,h2⟩:=XaJ.mp hx
   show (pickOrder (w.params.setOrder a ep) es)[i]?.map _=_
   rw [h1,← h2];rfl
  rw [e1]
  refine Xaa (XaQ hI rfl (by simp) ?_)
  have h1:=zdU (j:=0) (x:=.int (k:Int) 0) hI
  refine Xaa (XaQ h1 rfl (by simp) ?_)
  have h2:=zdU (j:=1) (x:=.int ((i:Int)+1) 0) h1
  refine Xac ⟨_,rfl,?_⟩
  refine Xac (hq _ (.int (k:Int) 0) ((Heap.SameBut.update _ _ _).trans (Heap.SameBut.update _ _ _)) h2 (.inl ⟨bt,⟨k,rfl⟩,ev⟩) fun T z=>by cases z)
 ·
  have hi:i<es.size:=by
   have:=(Xae.mp hx).1
   rw [ev,Xah] at this;simpa using this
  have hip:i<t.place.size:=by omega
  show wpAny _ _ (setNext a (k:Int).toNat (i:Int).toNat (ep:Int).toNat >>= _) _ _ s
  rw [Xak,Xak,Xak]
  unfold setNext setsByText
  refine Xaa (Xaa (Xa9 ha rfl hf ?_))
  refine Xaa (Xaa (XaY (Xac ?_)))
  rw [show (model prog w).w.params.followText "set-order" = false from bt,if_neg Xao]
  rw (transparency:=.default) [if_neg (fun z=>Xao (dr.symm.trans z))]
  refine Xaa ?_
  show wpAny _ _ (if (!t.led && !es.isEmpty)=true then (unsupported "set:maker-not-led" : Sem Unit) else pure ()) _ _ s
  rw [if_neg (by rw [led];exact Xao)]
  refine Xac (Xac ?_)
  have e1:es[i]? = some (es[i].1,x):=by
   rw [ev,Xat,Xbj,XaI hi] at hx
   rw [XaI hi,← Option.some.inj hx]
  rw [bk,e1,XaI hip]
  refine Xaa (XaQ hI rfl (by simp) ?_)
  have h1:=zdU (j:=0) (x:=.int ((t.place[i]+1:Nat):Int) 0) hI
  refine Xaa (XaQ h1 rfl (by simp) ?_)
  have h2:=zdU (j:=1) (x:=.int ((i:Int)+1) 0) h1
  refine Xac ⟨_,rfl,?_⟩
  refine Xac (hq _ (.int ((t.place[i]+1:Nat):Int) 0) ((Heap.SameBut.update _ _ _).trans (Heap.SameBut.update _ _ _)) h2 (.inr (.inl ⟨bt,dr,led,⟨t.place[i]+1,rfl,zg4 hr hip⟩,ev⟩)) fun T z=>by cases z)
 ·
  have hip:i<pl.length:=by
   have:=(Xae.mp hx).1
   rw [ev,Xah] at this;exact this
  have hpi:pl[i]<es.size:=hp _ (XbA hip)
  show wpAny _ _ (seqItems? (.ref T) >>= _) _ _ s
  refine Xaa (wpAny_seqItems eT rfl ?_)
  dsimp only
  rw [Xak,List.getElem?_toArray,Xat,Xau hip]
  show wpAny _ _ (setNextDrawn a ((pl[i]:Nat):Int).toNat (ep:Int).toNat >>= _) _ _ s
  rw [Xak,Xak]
  unfold setNextDrawn
  refine Xaa (Xaa (Xa9 ha rfl hf ?_))
  dsimp only
  rw [show (ep != ep)=false by simp,if_neg Xao]
  have e1:es[pl[i]]? = some (es[pl[i]].1,x):=by
   rw [ev,Xat,Xau hip,Option.map_some,XaI hpi] at hx
   rw [XaI hpi,← Option.some.inj hx];rfl
  rw [e1]
  refine Xac ?_
  refine Xaa (XaQ hI rfl (by simp) ?_)
  have h1:=zdU (j:=1) (x:=.int ((i:Int)+1) 0) hI
  refine Xac ⟨_,rfl,?_⟩
  refine Xac (hq _ (.ref T) (Heap.SameBut.update _ _ _) h1 (.inr (.inr ⟨bt,T,pl,rfl,?_,hl,hp,ev⟩)) fun T' z=>z)
  exact (Heap.SameBut.update s.heap I _).extBut T _ (far eT rfl) eT
end
theorem zcN:Slot "set_iterator" "__iter__" "set_iterator.__iter__" :=
 .of (owner := "set_iterator") (n := "__iter__") (by rw [typeLookup_type,builtinLookup_eq_fast];kernel_rfl) (by decide +kernel) (by decide +kernel) (by decide +kernel) (by first | exact .inl (by decide +kernel) | exact .inr (by decide +kernel)) (by rw [isSubtype_type];kernel_rfl)
theorem zet:entryFor table "set_iterator.__iter__" = some Builtin.«dict_keyiterator.__iter__»:=entryFor_alias (id' := "dict_keyiterator.__iter__") (by kernel_rfl) rfl (by decide +kernel) (by kernel_rfl)
theorem zfr (a:Value):argsOk "set_iterator.__iter__" ⟨[a],[]⟩:=by
 unfold argsOk;rw [signature?_of (id := "set_iterator.__iter__") (n:=['_','_','r','e','t','i','_','_']) (o:=['r','o','t','a','r','e','t','i','_','t','e','s']) (by kernel_rfl) zgd];kernel_rfl
section
variable {prog:Program}{w:World}{A:Around}{E:Value→Shared→Prop}{s:Shared}
theorem zfu {α:Type}{Q:α→Shared→Prop}(hh:A.handled=none)(q:∀ e,(∃ o,(s.heap.push (seqObj "tuple" #[] 0)).push o=(s.heap.push (seqObj "tuple" #[] 0)).push o)→∀ h',Heap.ExtBut s.heap.objs.size s.heap h'→(∀ b o,s.heap.get? b=some o→h'.get? b=some o)→(∃ o,h'.get? e=some o∧o.cls = .type "StopIteration")→E (.ref e) { s with heap:=h' }) :
  wpAny (model prog w) A (do raiseNew (← newExc (.type "StopIteration") [])) Q E s:=by
 refine Xaa ?_;simp only [newExc,newTuple];refine Xaa (XaL ?_ (by size_fits))
 refine Xaa (m:=firstArgMember _ _) (wpAny_of_eq (a:=Value.none) (by first | rfl | (simp only [firstArgMember];rfl)) ?_);refine XaL ?_ (by size_fits)
 simp only [raiseNew];refine Xaa (wpAny_handled ?_);rw [hh];refine Xaa (Xac (wpAny_throw ?_))
 refine q _ ⟨default,rfl⟩ _ (fun b o _ e=>Xad _ (Xad _ e)) (fun b o e=>Xad _ (Xad _ e)) ⟨_,Xam _ rfl,rfl⟩
theorem zjY {I a:Addr}{es:Array (Int×Value)}{ep:Nat}{t:SetTable}{vs:List Value}{first:Value}{Q:Option Value→Shared→Prop}(hh:A.handled=none)(hI:s.heap.get? I=some (siO first (vs.length:Int) (.ref a) (es.size:Int) (ep:Int)))(ha:s.heap.get? a=some (sObj es ep t))(hf:t.fits es.size=true)(hr:t.place.toList.Pairwise (· < ·))
  (m:zg7 w a es ep t vs s.heap vs.length first)
  (hq:∀ h',Heap.ExtBut I s.heap h'→Q none { s with heap:=h' }):wpAny (model prog w) A (pyNext (.ref I)) Q E s:=by
 have hT:s.TypeIs (.ref I) "set_iterator" := ⟨_,hI,rfl⟩
 unfold pyNext
 refine Xaa (wpAny_attempt (wpAny_callSpecial?_slot (name:=Str.ofString "__next__") hT slot_si_next (Xa4 slot_si_next hT zcr ?_ (zcS _))))
 delta Builtin.«set_iterator.__next__»
 refine Xaa (m:=slotArgs "__next__" 0 _) (Xac ?_)
 dsimp only
 refine Xaa (wpAny_fieldsOf hI rfl ?_)
 show wpAny _ _ (setEntries a >>= _) _ _ s
 refine Xaa (wpAny_setEntries_of ha rfl hf ?_)
 rw [if_neg (by simp)]
 
 have last:∀ {Q':PySem.Fin→Shared→Prop} (h1:Heap),Heap.SameBut I s.heap h1→wpAny (model prog w) A.in1 (do raiseNew (← newExc (.type "StopIteration") [])) Q' (fun e s'=>wpAny (model prog w) A (do let __do_lift ← isInstance e (Value.type "StopIteration");if __do_lift=true then pure none else throw e) Q E s') { s with heap:=h1 }:=fun {Q'} h1 b1=>by
  refine zfu hh fun e _ h' _ k he=>?_
  obtain ⟨o,ho,hcl⟩:=he
  refine Xaa (wpAny_isInstance (T := "StopIteration") (b:=true) ⟨o,ho,hcl⟩ isSubtype_stop ?_)
  exact Xac (hq h' fun b o hb e=>k b o (b1.extBut b o hb e))
 rcases m with ⟨bt,⟨k,rfl⟩,ev⟩ | ⟨bt,dr,led,⟨k,rfl,bk⟩,ev⟩ | ⟨bt,T,pl,rfl,eT,hl,hp,ev⟩
 ·show wpAny _ _ (setNext a (k:Int).toNat (vs.length:Int).toNat (ep:Int).toNat >>= _) _ _ s
  rw [Xak,Xak,Xak]
  unfold setNext setsByText setWalk
  refine Xaa (Xaa (Xa9 ha rfl hf ?_))
  refine Xaa (Xaa (XaY (Xac ?_)))
  rw [show (model prog w).w.params.followText "set-order" = true from bt,if_pos rfl,show (ep != ep)=false by simp,if_neg Xao]
  refine Xaa (Xaa (Xa9 ha rfl hf ?_))
  unfold setsByText
  refine Xaa (Xaa (XaY (Xac ?_)))
  rw [show (model prog w).w.params.followText "set-order" = true from bt,if_pos rfl]
  refine Xaa (XaY (Xac (Xac ?_)))
  have e1:(pickOrder ((model prog w).w.params.setOrder a ep) es)[vs.length]? = none:=by
   rw [← Xbj,XaR]
   rw [ev,Xah];exact Xaf _
  rw [e1]
  refine Xaa (XaQ hI rfl (by simp) ?_)
  exact last _ (Heap.SameBut.update _ _ _)
 ·show wpAny _ _ (setNext a (k:Int).toNat (vs.length:Int).toNat (ep:Int).toNat >>= _) _ _ s
  rw [Xak,Xak,Xak]
  unfold setNext setsByText
  refine Xaa (Xaa (Xa9 ha rfl hf ?_))
  refine Xaa (Xaa (XaY (Xac ?_)))
  rw [show (model prog w).w.params.followText "set-order" = false from bt,if_neg Xao]
  rw (transparency:=.default) [if_neg (fun z=>Xao (dr.symm.trans z))]
  refine Xaa ?_
  show wpAny _ _ (if (!t.led && !es.isEmpty)=true then (unsupported "set:maker-not-led" : Sem Unit) else pure ()) _ _ s
  rw [if_neg (by rw [led];exact Xao)]
  refine Xac (Xac ?_)
  have e1:es[vs.length]? = none:=by
   rw [← Xbj,XaR]
   rw [ev,Xah];exact Xaf _
  rw [bk,e1]
  refine Xaa (XaQ hI rfl (by simp) ?_)
  exact last _ (Heap.SameBut.update _ _ _)
 ·show wpAny _ _ (seqItems? (.ref T) >>= _) _ _ s
  refine Xaa (wpAny_seqItems eT rfl ?_)
  dsimp only
  have e1:(pl.map fun (p:Nat)=>Value.int (p:Int) 0).toArray[vs.length]? = none:=by
   rw [List.getElem?_toArray,XaR]
   rw [ev,Xah,Xah];exact Xaf _
  rw [Xak,e1]
  refine Xaa (XaQ hI rfl (by simp) ?_)
  have h1:=zdU (j:=0) (x:=.int 0 0) hI
  refine Xaa (XaQ h1 rfl (by simp) ?_)
  exact last _ ((Heap.SameBut.update _ _ _).trans (Heap.SameBut.update _ _ _))
theorem ziz {I a:Addr}{es:Array (Int×Value)}{ep:Nat}{t:SetTable}{vs:List Value}{fp:List Addr}(hh:A.handled=none)(hf:t.fits es.size=true)(hr:t.place.toList.Pairwise (· < ·))(hIa:I≠a)(hI:I∈fp)(ha:a∈fp) :
  Walks prog w A I fp [I] vs.length (fun i v=>vs[i]? = some v) (fun i h=>∃ first,h.get? I=some (siO first (i:Int) (.ref a) (es.size:Int) (ep:Int))∧h.get? a=some (sObj es ep t)∧zg7 w a es ep t vs h i first∧∀ T:Addr,first = .ref T→T∈fp) where
 sub:=fun b hb=>by rw [Xab.mp hb];exact hI
 frame:=fun i h h' ⟨first,e1,e2,m,m2⟩ k=>by
  refine ⟨first,k I hI _ e1,k a ha _ e2,?_,m2⟩
  rcases m with z | z | ⟨bt,T,pl,ef,eT,r⟩
  ·exact .inl z
  ·exact .inr (.inl z)
  ·exact .inr (.inr ⟨bt,T,pl,ef,k T (m2 T ef) _ eT,r⟩)
 item:=fun i s Q E hi ⟨first,e1,e2,m,m2⟩ q=>by
  have hx:vs[i]? = some vs[i]:=Xau hi
  refine zjX e1 e2 hf hr m hx fun h' first' b g m' mt=>?_
  have:=q vs[i] h' s.toks hx ⟨first',g,b.extBut a _ (Ne.symm hIa) e2,m',?_⟩ fun b' o hb' e=>b.extBut b' o (fun z=>hb' (by rw [z];exact Xab.mpr rfl)) e
  ·exact this
  ·exact fun T z=>m2 T (mt T z)
 done:=fun s Q E ⟨first,e1,e2,m,m2⟩ q=>zjY hh e1 e2 hf hr m fun h' k=>q h' s.toks fun b o hb e=>k b o (fun z=>hb (by rw [z];exact Xab.mpr rfl)) e
 self:=fun i s Q E ⟨first,e1,e2,m,m2⟩ q=>by
  have hT:s.TypeIs (.ref I) "set_iterator" := ⟨_,e1,rfl⟩
  refine wpAny_pyIter_slot hT zcN (Xa4 zcN hT zet ?_ (zfr _))
  delta Builtin.«dict_keyiterator.__iter__»
  refine Xaa (m:=slotArgs "__iter__" 0 _) (Xac ?_)
  exact Xac ⟨_,rfl,"set_iterator",_,hT,slot_si_next.lookup,q⟩
end
section
variable {prog:Program}{w:World}{A:Around}{E:Value→Shared→Prop}{s:Shared}
theorem zgC (es:Array (Int×Value)):(List.range es.size).map (fun p=>((es[p]?).getD (0,.none)).2)=es.toList.map (·.2):=by
 apply List.ext_getElem
 ·simp
 ·intro i h1 h2
  have hi:i<es.size:=by simpa using h1
  simp [XaI hi]
theorem ziC {a:Addr}{es:Array (Int×Value)}{ep:Nat}{t:SetTable}{Q:Value→Shared→Prop}(ha:s.heap.get? a=some (sObj es ep t))(Tb:Tab (!w.params.followText "set-order") t es.size)(hz:es.size≤sizeLine)
  (q:∀ (h':Heap) (d:Drawn) (I:Addr) (first:Value) (vs:List Value),(∀ b o,s.heap.get? b=some o→h'.get? b=some o)→h'.get? I=some (siO first 0 (.ref a) (es.size:Int) (ep:Int))→zg7 w a es ep t vs h' 0 first→vs.Perm (es.toList.map (·.2))→s.heap.objs.size≤I→I<h'.objs.size→(∀ T:Addr,first = .ref T→s.heap.objs.size≤T∧T<h'.objs.size)→Q (.ref I) { s with heap:=h',drawn:=d }) :
  wpAny (model prog w) A (pyIter (.ref a)) Q E s:=by
 have hT:s.TypeIs (.ref a) "set" := ⟨_,ha,rfl⟩
 refine wpAny_pyIter_slot hT F.slot_set_iter (Xa4 F.slot_set_iter hT zfd ?_ (F.args_set_iter_1 _))
 delta Builtin.«frozenset.__iter__»
 unfold Builtin.Frozenset.slot0
 refine Xaa (Xaa (m:=slotArgs "__iter__" 0 _) (Xac ?_))
 unfold Builtin.Frozenset.addrOf
 refine Xac ?_
 dsimp only
 unfold Builtin.Frozenset.sizeOf
 refine Xaa (Xaa (wpAny_setEntries_of ha rfl Tb.fits (Xac ?_)))
 unfold setDrawn setsByText
 refine Xaa (Xaa (Xa9 ha rfl Tb.fits ?_))
 refine Xaa (Xaa (XaY (Xac (Xac ?_))))
 rw [show (model prog w).w.params.followText "set-order" = w.params.followText "set-order" from rfl]
 have fin:∀ (s1:Shared) (first:Value),s1.heap.get? a=some (sObj es ep t)→(Q (.ref s1.heap.objs.size) { s1 with heap:=s1.heap.push (siO first 0 (.ref a) (es.size:Int) (ep:Int)) }) →
   wpAny (model prog w) A.in1 (do let __do_lift ← setEpoch a;let __do_lift ← newFields "set_iterator" [first,rawInt 0,.ref a,rawInt (es.size:Int),rawInt (__do_lift:Int)];ret __do_lift) (fun fin s'=>∃ v,fin = .done (.ret v)∧∃ T' r,s'.TypeIs v T'∧typeLookup (.type T') (Str.ofString "__next__")=pure (some r)∧Q v s') E s1:=fun s1 first h1 hq=>by
  refine Xaa (wpAny_setEpoch_of h1 rfl Tb.fits ?_)
  refine Xaa (XaL ?_)
  exact Xac ⟨_,rfl,"set_iterator",_,⟨_,Xam _ rfl,rfl⟩,slot_si_next.lookup,hq⟩
 have plain:∀ vs:List Value,zg7 w a es ep t vs (s.heap.push (siO (.int 0 0) 0 (.ref a) (es.size:Int) (ep:Int))) 0 (.int 0 0)→vs.Perm (es.toList.map (·.2))→Q (.ref s.heap.objs.size) { s with heap:=s.heap.push (siO (.int 0 0) 0 (.ref a) (es.size:Int) (ep:Int)) }:=fun vs m p =>
  q _ s.drawn s.heap.objs.size (.int 0 0) vs (fun b o e=>Xad _ e) (Xam _ rfl) m p (Xaf _) (by rw [XaU];exact Xa2 _) (fun T z=>by cases z)
 cases bt:w.params.followText "set-order" with
 | true =>
  rw (transparency:=.default) [if_neg (show ¬ (!true && (!t.plain && decide (es.size > 1)))=true from Xao)]
  refine Xaa (Xac (fin s (rawInt 0) ha (plain _ (.inl ⟨bt,⟨0,rfl⟩,rfl⟩) ((zhy _ es).map _))))
 | false =>
  have led:t.led=true:=by have:=Tb.led;rw [bt] at this;exact this
  cases hd:(!t.plain && decide (es.size > 1)) with
  | false =>
   rw (transparency:=.default) [if_neg (show ¬ (!false && (!t.plain && decide (es.size > 1)))=true by rw [hd];exact Xao)]
   refine Xaa (Xac (fin s (rawInt 0) ha (plain _ (.inr (.inl ⟨bt,hd,led,⟨0,rfl,zg3 Tb.ris⟩,rfl⟩)) .rfl)))
  | true =>
   rw (transparency:=.default) [if_pos (show (!false && (!t.plain && decide (es.size > 1)))=true by rw [hd];rfl)]
   refine Xaa (zd1 es.size (List.range es.size) s _ (by simp) fun ps d pp=>?_)
   refine Xaa (wpAny_newTuple ?_ ?_)
   ·refine fin { s with heap:=s.heap.push { cls:=.type "tuple",data:=.seq (ps.map fun (i:Nat)=>rawInt (i:Int)).toArray },drawn:=d } (.ref s.heap.objs.size) (Xad _ ha) ?_
    have hps:∀ p∈ps,p<es.size:=fun p hp=>List.mem_range.mp (pp.mem_iff.mp hp)
    refine q _ d _ (.ref s.heap.objs.size) (ps.map fun p=>((es[p]?).getD (0,.none)).2) (fun b o e=>Xad _ (Xad _ e)) (Xam _ rfl) (.inr (.inr ⟨bt,s.heap.objs.size,ps,rfl,Xad _ (Xam _ rfl),by rw [pp.length_eq,List.length_range],hps,rfl⟩)) ?_ ?_ ?_ ?_
    ·rw [← zgC];exact pp.map _
    ·show s.heap.objs.size≤(s.heap.push _).objs.size
     rw [XaU];exact Xby _
    ·show (s.heap.push _).objs.size<((s.heap.push _).push _).objs.size
     simp only [XaU];exact Xa2 _
    ·intro T z
     cases z
     refine ⟨Xaf _,?_⟩
     show s.heap.objs.size<((s.heap.push _).push _).objs.size
     simp only [XaU];exact Nat.lt_succ_of_lt (Xa2 _)
   ·rw [Xah,pp.length_eq,List.length_range];exact hz
def fpOf:Value→List Addr
 | .ref T=>[T]
 | _=>[]
theorem zd7:typeLookup (.type "set") (Str.ofString "__len__")=pure (some (.builtin "set.__len__")):=F.slot_set_len.lookup
theorem ziD {a:Addr}(hT:s.TypeIs (.ref a) "set"){Q:Bool→Shared→Prop}(h:Q false s):wpAny (model prog w) A (Builtin.List.listLengthHint (.ref a)) Q E s:=by
 unfold Builtin.List.listLengthHint;refine Xaa (wpAny_specialOf hT zd7 ?_)
 generalize hid:("set.__len__" : String)=id1;wp_delta
 rw [show splitId id1=some ("set","__len__") from by subst hid;decide +kernel];subst hid
 refine Xaa (wpAny_isInstance (T := "set") (b:=true) hT (by rw [isSubtype_type];kernel_rfl) ?_);refine wpAny_ite_split (fun z=>absurd z (by decide)) (fun _=>?_)
 refine wpAny_ite_split (fun _=>?_) (fun z=>absurd (by decide +kernel) z);exact Xaa (wpAny_typeOf hT (Xac h))
theorem zjQ {es:List (Int×Value)}(h:∀ e∈es,EOk e):∀ {vs:List Value},vs.Perm (es.map (·.2))→∃ ns,IntsAre vs ns∧ns.Perm (zh5 es):=fun {vs} p=>by
 have vI:∀ v∈vs,∃ n t,v=Value.int n t:=fun v hv=>by
  obtain ⟨e,he,rfl⟩:=XaC.mp (p.mem_iff.mp hv)
  obtain ⟨n,t,rfl⟩:=h e he
  exact ⟨n,t,rfl⟩
 have g:∀ l:List Value,(∀ v∈l,∃ n t,v=Value.int n t)→IntsAre l (l.map fun v=>eInt (0,v)):=fun l=>by
  induction l with
  | nil=>exact fun _=>.nil
  | cons v l ih =>
   intro hl
   obtain ⟨n,t,rfl⟩:=hl v (XaE ..)
   exact .cons _ _ (ih fun v hv=>hl v (Xax _ hv))
 refine ⟨vs.map fun v=>eInt (0,v),g vs vI,?_⟩
 have q:=p.map fun v=>eInt (0,v)
 rw [Xbf] at q
 exact q
theorem zfx {a:Addr}{S:List Int}{R:List Value→Shared→Prop}(hh:A.handled=none)(hS:SetI (!w.params.followText "set-order") s.heap a S)(hz:S.length<1000)
  (h:∀ (h':Heap) (tk:Nat) (d:Drawn) (ns:List Int) (vs:List Value),(∀ b o,s.heap.get? b=some o→h'.get? b=some o)→IntsAre vs ns→ns.Perm S→R vs { s with heap:=h',toks:=tk,drawn:=d }) :
  wpAny (model prog w) A (collect (.ref a)) R E s:=by
 obtain ⟨es,ep,t,ha,hE,hP,hN,Tb⟩:=hS
 have hsz:es.size=S.length:=by rw [← Array.length_toList,← hP.length_eq];unfold zh5;rw [Xah]
 have hzl:es.size≤sizeLine:=Xar (show es.size≤1000 by omega) (by decide)
 have hal:a<s.heap.objs.size:=Xan ha
 unfold collect
 refine Xaa (wpAny_runValue (codeAny_builtin F.entry_proto_collect ?_));rw [Around.under_plainId F.plain_proto_collect _]
 show wpAny _ A.in1 (newList [] >>= fun l=>again (.builtin "list.__iadd__" ⟨[l,.ref a],[]⟩)) _ _ s;refine Xaa (XaL ?_)
 refine Xac ⟨plainId_quiet F.plain_list_iadd _,codeAny_builtin F.entry_list_iadd ?_⟩;rw [Around.under_plainId F.plain_list_iadd _]
 generalize hD:s.heap.objs.size=D
 have hg:s.heap.push { cls:=.type "list",data:=.seq ([]:List Value).toArray }=s.heap.push (seqObj "list" #[] 0):=rfl
 generalize hh1:s.heap.push { cls:=.type "list",dict:=none,data:=.seq ([]:List Value).toArray }=h1
 have k1:∀ b o,s.heap.get? b=some o→h1.get? b=some o:=fun b o e=>by rw [← hh1];exact Xad _ e
 have eD:h1.get? D=some { cls:=.type "list",data:=.seq #[] }:=by rw [← hh1,← hD];exact Xam _ rfl
 have sz1:h1.objs.size=D+1:=by rw [← hh1,XaU,hD]
 have ha1:=k1 _ _ ha
 show wpAny _ A.in1 (Builtin.List.listExtendWith (.ref D) (.ref a) (.ref D)) _ _ { s with heap:=h1 }
 unfold Builtin.List.listExtendWith
 refine Xaa (wpAny_typeOf (show Shared.TypeIs { s with heap:=h1 } (.ref a) "set" from ⟨_,ha1,rfl⟩) ?_)
 have ns:Builtin.List.listSameRef (.ref D) (.ref a)=false:=by
  have hne:D≠a:=by rw [← hD];exact Nat.ne_of_gt hal
  simp [Builtin.List.listSameRef,hne]
 rw [if_neg (by rw [ns];decide)]
 refine Xaa (ziC (s:={ s with heap:=h1 }) ha1 Tb hzl fun h2 d I first vs k2 eI m pv hI hI2 hT=>?_)
 have k12:∀ b o,s.heap.get? b=some o→h2.get? b=some o:=fun b o e=>k2 b o (k1 b o e)
 have ha2:=k12 _ _ ha
 refine Xaa (XaK ?_)
 refine ziD (show Shared.TypeIs { s with heap:=h2,drawn:=d } (.ref a) "set" from ⟨_,ha2,rfl⟩) ?_
 have eD2:=k2 _ _ eD
 refine wpAny_ite_split (fun _=>?_) (fun z=>absurd (by decide +kernel) z)
 refine Xaa (wpAny_rule (Xaa ?_))
 show wpAny _ A.in1 (updateSeq D (·.push .none) >>= fun _=>updateSeq D (·.pop)) _ _ { s with heap:=h2,drawn:=d }
 refine Xaa (wpAny_updateSeq eD2 rfl ?_)
 have eD3:=XaH (Obj.mapSeq (·.push Value.none)) eD2 rfl
 refine wpAny_updateSeq eD3 rfl ?_
 have eD4:=XaH (Obj.mapSeq (·.pop)) eD3 rfl
 generalize hh4:(h2.update D (Obj.mapSeq (·.push Value.none))).update D (Obj.mapSeq (·.pop))=h4 at eD4
 have k24:∀ b o,b≠D→h2.get? b=some o→h4.get? b=some o:=fun b o hb e=>by
  rw [← hh4]
  exact (XaG _ _ (Ne.symm hb)).trans ((XaG _ _ (Ne.symm hb)).trans e)
 have naD:a≠D:=by rw [← hD];exact Xav hal
 have hI':h1.objs.size≤I:=hI
 have hT':∀ T:Addr,first = .ref T→h1.objs.size≤T:=fun T z=>(hT T z).1
 have nID:I≠D:=fun z=>by rw [z,sz1] at hI';exact absurd hI' (Nat.not_succ_le_self D)
 have nTD:∀ T:Addr,first = .ref T→T≠D:=fun T z z2=>by have q:=hT' T z;rw [z2,sz1] at q;exact absurd q (Nat.not_succ_le_self D)
 have hIa:I≠a:=fun z=>by rw [z,sz1,← hD] at hI';exact absurd (Xaj hal (Xar (Xby _) hI')) (XaT _)
 have W:Walks prog w A.in1 I (I :: a :: fpOf first) [I] vs.length (fun i v=>vs[i]? = some v) _:=ziz (es:=es) (ep:=ep) (t:=t) (vs:=vs) hh Tb.fits Tb.ris hIa (XaE ..) (Xax _ (XaE ..))
 have hSf:D ∉ I :: a :: fpOf first:=fun z=>by
  rcases Xap.mp z with z | z
  ·exact nID z.symm
  ·rcases Xap.mp z with z | z
   ·exact naD z.symm
   ·cases first with
    | ref T=>exact nTD T rfl (Xab.mp z).symm
    | _=>cases z
 refine Xac ⟨plainId_quiet F.plain_extend_loop _,codeAny_extend_loopS W.toS (by rw [pv.length_eq,Xah,Array.length_toList];exact hzl) D hSf (.ref D) vs.length 0 { s with heap:=h4,drawn:=d } _ _ rfl (Nat.zero_le _) ?_ eD4 (ItemsOf.nil _) fun s' acc' c' hm hS' hacc=>?_⟩
 ·refine ⟨first,k24 _ _ nID eI,k24 _ _ naD ha2,?_,fun T z=>?_⟩
  ·rcases m with z | z | ⟨bt,T,pl,ef,eT,r⟩
   ·exact .inl z
   ·exact .inr (.inl z)
   ·exact .inr (.inr ⟨bt,T,pl,ef,k24 _ _ (nTD T ef) eT,r⟩)
  ·subst z;exact Xax _ (Xax _ (Xab.mpr rfl))
 ·show wpAny _ A (load D >>= _) _ _ s'
  refine Xaa (wpAny_load hS' (Xac ?_))
  have ev:acc'.toList=vs:=by
   obtain ⟨z1,z2⟩:=hacc
   apply List.ext_getElem?
   intro j
   by_cases hj:j<acc'.size
   ·have e1:acc'.toList[j]? = some acc'[j]:=by rw [Xbj,XaI hj]
    rw [e1,z2 j acc'[j] (XaI hj)]
   ·rw [XaR (by rw [Array.length_toList];exact Nat.not_lt.mp hj),XaR (by rw [← z1];exact Nat.not_lt.mp hj)]
  rw [ev]
  obtain ⟨nn,hi,hp⟩:=zjQ (es:=es.toList) hE pv
  have kk:∀ b o,s.heap.get? b=some o→s'.heap.get? b=some o:=fun b o e=>by
   have hb:=Xan e
   have nb:b≠D:=fun z=>by rw [z,hD] at hb;exact absurd hb (XaT _)
   refine hm.heap b o (fun z=>?_) (k24 b o nb (k12 b o e))
   rcases Xap.mp z with z | z
   ·exact nb z
   ·rw [Xab.mp z] at hb
    rw [sz1,← hD] at hI'
    exact absurd (Xaj hb (Xar (Xby _) hI')) (XaT _)
  have fin:=h s'.heap s'.toks d nn vs kk hi (hp.trans hP)
  have g:s'.gens=s.gens:=hm.gens
  have dd:s'.drawn=d:=hm.drawn
  have oo:s'.os=s.os:=hm.os
  have e':s'={ s with heap:=s'.heap,toks:=s'.toks,drawn:=d }:=by
   rw [← g,← dd,← oo]
  rw [e'];exact fin
end
end L2
end
section
namespace L2
open PySem PySem.Spec PyProof.Rows HT
theorem Inv.draw {X:Cx}{pins:List (Addr×Obj)}{σ:St}{H:Hp}{s:Shared}(I:Inv X pins σ H s)(d:Drawn):Inv X pins σ H { s with drawn:=d }:=⟨I.ok,I.os,I.bare,I.base,I.loc,I.cell,I.free,I.freeC,I.pin,I.hok,I.len⟩
def stI (w:World)(a:Addr)(S:List Int):Heap→Prop:=fun h=>SetI (!w.params.followText "set-order") h a S
theorem stI_ok {P:Program}{w:World}{H:Hp}{h:Heap}{a:Addr}{S:List Int}(x:stI w a S h):ObjOk P w H h a (.ext (stI w a S)):=by
 refine ⟨x,?_,fun h1 h2 y k=>y.at k⟩
 obtain ⟨es,ep,t,g,_⟩:=x
 exact ⟨_,g⟩
theorem zfh {X:Cx}(hc:X.calm=true):zbx X (.builtin "sorted") (fun xs H Q=>∃ (a:Addr) (S:List Int),xs=[.ref a]∧H a=some (.ext (stI X.w a S))∧S.length<64 ∧
  ∀ (l:Addr) (ns:List Int),H l=none→ns.Perm S→ns.Pairwise (·≤·)→Q (.ref l) (upd H l (.lst (ns.map V.int)))):=by
 intro pins s σ H xs us Q I r h
 obtain ⟨a,S,rfl,ea,h64,q⟩:=h
 obtain ⟨u,rfl,r1⟩:=zdL r
 obtain rfl:u=Value.ref a:=r1
 obtain ⟨hS,_,_⟩:=(show ObjOk X.prog X.w H s.heap a (.ext (stI X.w a S)) from I.hok a _ ea)
 refine zeH (zfx (I.ok.hd hc) hS (by omega) fun h' tk d ks vs kp hI hP=>?_)
 have hl:vs.length=ks.length:=hI.length
 have hk:ks.length<64:=by rw [hP.length_eq];exact h64
 refine ⟨Xar (show vs.length≤64 by omega) (by decide),?_⟩
 refine list_sort_tree (s:={ s with heap:=h'.push (seqObj "list" vs.toArray 0),toks:=tk,drawn:=d }) (Xam _ rfl) hI (by omega) fun out ns a1 a2 a3=>⟨rfl,?_⟩
 have hsz:h'.objs.size<(h'.push (seqObj "list" vs.toArray 0)).objs.size:=by rw [XaU];exact Xa2 _
 have I2:Inv X pins σ H { s with heap:=h',toks:=tk,drawn:=d }:=(I.kept (t':=tk) kp).draw d
 obtain ⟨c,hc'⟩:=sortedHeap_at (a:=h'.objs.size) (vs:=vs) (out:=out) (Xam (h:=h') (o:=seqObj "list" vs.toArray 0) rfl)
 refine ⟨.ref _,_,I2.laid (t':=tk) (o:=.lst (ns.map V.int)) (fun b o eb=>?_) (Xaf _) ?_,rfl,q _ ns (I2.hok.fresh (Xaf _)) (a2.trans hP) a3⟩
 ·have hb:=Xan eb
  rw [sortedHeap_old (Xav hb) (Xbt hb hsz)];exact Xad _ eb
 ·refine ⟨?_,out.toList,_,zcj a1,by simpa [seqObj] using hc'⟩
  rw [Xah,a2.length_eq];exact Xar (Nat.le_of_lt hk) (by decide)
theorem zix (elt target iter:Expr)(ifs:List Expr)(scope:Scope)(pos:Pos)(it acc:Value)(env:Env):compTurn (.SetComp elt [⟨target,iter,ifs,0⟩] scope pos) 0 it acc env=(do
   standAt iter.pos;match ← pyNext it with
   | none=>pure (.done .next)
   | some v=>do
    letOwnedTupleGo target it v;assign target env v;let mut ok:=true
    for c in ifs do if ok then ok ← isTrue c env (eval c env)
    if ok then (do let v ← eval elt env;standAt elt.pos;let _ ← call (.builtin "set.add") [acc,v])
    again (.compLoop (.SetComp elt [⟨target,iter,ifs,0⟩] scope pos) 0 it acc env)):=by rfl
section
variable {prog:Program}{w:World}{A:Around}{E:Value→Shared→Prop}{R:Result→Shared→Prop}{s:Shared}
theorem zhg {elt target iter ifs rest scope pos it acc env}
  (h0:codeAny (model prog w) A (.compLoop (.SetComp elt (⟨target,iter,ifs,0⟩ :: rest) scope pos) 0 it acc env) R s)
  (h:wpAny (model prog w) A (pyIter it) (fun it' s'=>codeAny (model prog w) A (.compLoop (.SetComp elt (⟨target,iter,ifs,0⟩ :: rest) scope pos) 0 it' acc env) R s') (notedBy (model prog w) A env fun x s'=>R (.error x) s') s) :
  codeAny (model prog w) A (.compStart (.SetComp elt (⟨target,iter,ifs,0⟩ :: rest) scope pos) 0 it acc env) R s:=by
 refine codeAny_of_tree ?_
 show wpAny _ A ((compStart (.SetComp elt (⟨target,iter,ifs,0⟩ :: rest) scope pos) 0 it acc env).onRaise (fun x=>do noteFrame x env;standAt theWindowsPlace)) _ _ s
 refine wpAny_notedAt ?_;unfold compStart;show wpAny _ A (ask >>= _) _ _ s;refine Xaa (XaY (wpAny_ite ?_))
 split
 ·first | exact Xaa (Xac (Xac (And.intro rfl h0))) | exact Xac (And.intro rfl h0)
 ·first | exact Xaa (wpAny_rule (Xaa (Xbh (Xaa (Xas h (fun it' s' h'=>Xac (And.intro rfl h')) fun _ _ x=>x))))) | (refine Xaa (wpAny_rule ?_);show wpAny _ _ (standAt iter.pos >>= _) _ _ s;exact Xaa (Xbh (Xaa (Xas h (fun it' s' h'=>Xac (And.intro rfl h')) fun _ _ x=>x))))
def EMs (prog:Program)(w:World)(A:Around)(elt:Expr)(env:Env)(D:Addr)(p:Shared→Prop)(s:Shared):Prop:=
 wpAny (model prog w) A (eval elt env) (fun v s5=>wpAny (model prog w) A (call (.builtin "set.add") [.ref D,v]) (fun _ s6=>p s6) (fun _ _=>False) s5) (fun _ _=>False) s
theorem zi1 {elt target iter:Expr}{ifs:List Expr}{scope:Scope}{pos:Pos}{it:Value}:CLoop prog w A target ifs (.SetComp elt [⟨target,iter,ifs,0⟩] scope pos) it (EMs prog w A elt) where
 mono:=fun env D p q s h k=>Xas h (fun v s5 h5=>Xas h5 (fun _ s6 h6=>k s6 h6) fun _ _ e=>e) fun _ _ e=>e
 loop:=fun env D I {R} turn n s h=>by
  refine codeAny_loop rfl I (fun n s hI=>?_) n h
  show wpAny _ A ((compTurn (.SetComp elt [⟨target,iter,ifs,0⟩] scope pos) 0 it (.ref D) env).onRaise (fun x=>do noteFrame x env;theTreesLotGoes x)) _ _ s
  refine wpAny_noted ?_
  rw [zix]
  refine Xaa (Xbh (Xaa (Xas (turn n s hI) (fun r s1 h1=>?_) fun _ _ h'=>h'.elim)))
  cases r with
  | none=>exact Xac h1
  | some v =>
   refine Xaa (Xas h1 (fun _ s2 h2=>?_) fun _ _ h'=>h'.elim)
   refine Xaa (Xas h2 (fun _ s3 h3=>Xaa (Xas h3 (fun ok s4 h4=>?_) fun _ _ h'=>h'.elim)) fun _ _ h'=>h'.elim)
   cases ok with
   | false=>exact Xac ⟨rfl,h4⟩
   | true =>
    exact Xaa (Xaa (Xas h4 (fun x s5 h5=>Xaa (Xbh (Xaa (Xas h5 (fun _ s6 h6=>Xac (Xac ⟨rfl,h6⟩)) fun _ _ h'=>h'.elim)))) fun _ _ h'=>h'.elim))
 start:=fun env D R s h0 h=>zhg h0 h
end
def dd (ys:List Int):List Int:=ys.foldl (fun S n=>if n∈S then S else S ++ [n]) []
theorem zkC (ys:List Int)(n:Int):dd (ys ++ [n])=if n∈dd ys then dd ys else dd ys ++ [n]:=by unfold dd;rw [List.foldl_append];rfl
theorem zjH (ys:List Int):(dd ys).length≤ys.length:=by
 have g:∀ (l:List Int) (S:List Int),(l.foldl (fun S n=>if n∈S then S else S ++ [n]) S).length≤S.length+l.length:=by
  intro l
  induction l with
  | nil=>intro S;exact Xaf _
  | cons a l ih =>
   intro S
   refine Xar (ih _) ?_
   dsimp only
   split
   ·rw [Xaw];omega
   ·have e1:(S ++ [a]).length=S.length+1:=by rw [Xaq];rfl
    have e2:(a :: l).length=l.length+1:=rfl
    omega
 have:=g ys []
 simpa [dd] using this
theorem mem_dd {ys:List Int}{n:Int}:n∈dd ys↔n∈ys:=by
 have g:∀ (l:List Int) (S:List Int),n∈(l.foldl (fun S n=>if n∈S then S else S ++ [n]) S)↔n∈S∨n∈l:=by
  intro l
  induction l with
  | nil=>intro S;simp
  | cons a l ih =>
   intro S
   rw [List.foldl_cons,ih]
   by_cases h:a∈S
   ·rw [if_pos h]
    constructor
    ·rintro (z | z)
     ·exact .inl z
     ·exact .inr (Xax _ z)
    ·rintro (z | z)
     ·exact .inl z
     ·rcases Xap.mp z with rfl | z
      ·exact .inl h
      ·exact .inr z
   ·rw [if_neg h];simp [or_assoc]
 have:=g ys []
 simpa [dd] using this
def AOs (w:World)(ys:List Int)(o:Obj):Prop:=∃ es ep t,o=sObj es ep t∧(∀ e∈es.toList,EOk e)∧(zh5 es.toList).Perm (dd ys)∧(dd ys).Nodup∧Tab (!w.params.followText "set-order") t es.size
theorem AOs.at {w:World}{ys:List Int}{o:Obj}(x:AOs w ys o){h:Heap}{a:Addr}(e:h.get? a=some o):SetI (!w.params.followText "set-order") h a (dd ys):=by
 obtain ⟨es,ep,t,rfl,r⟩:=x
 exact ⟨es,ep,t,e,r⟩
def emS (te:TE):TEm Int:=fun σ H Q=>te σ H fun v H1=>∃ i,v = .int i∧Q i H1
theorem zj5 {Y:Cx}{elt:Expr}{te:TE}(he:PE Y elt te)(hxe:Y.xe=fun _ _=>False):PEm 500 Y (EMs Y.prog Y.w Y.A elt) (AOs Y.w) (emS te):=by
 intro D pins s σ H Q ys o I hp ao hl h
 refine Xas (he pins s σ H _ I h) (fun v s5 hh_=>?_) fun e s' z=>by rw [hxe] at z;exact z
 obtain ⟨x,H5,I5,rx,i,ex,q⟩:=hh_
 subst ex
 obtain ⟨t,rfl⟩:=(show ∃ t,v=Value.int i t from rx)
 have g5:=(I5.pin (D,o) (Xay _ hp)).1
 refine zj0 (ao.at g5) (Xaz (zjH ys) (by omega)) fun h' sb x=>?_
 rw [← zkC] at x
 obtain ⟨es,ep,t',g',r'⟩:=x
 exact ⟨i,H5,s5,h',_,_,I5,⟨es,ep,t',rfl,r'⟩,sb,g',rfl,q⟩
section
variable {X:Cx}{Nc:List Str}{src:List (Option Nat)}{scope:Scope}{elt tg iter:Expr}{ifs:List Expr}{pos:Pos}{wi:TI}{g:TG}{tf:TT}{te:TE}
theorem cxC_xe (cl:List (Str×Addr))(C:Addr)(fp:List Addr)(s2:Shared)(H2:Hp):(cxC X Nc scope cl C fp s2 H2).xe=fun _ _=>False:=rfl
def tSetC (w:World)(src:List (Option Nat))(wi:TI)(g:TG)(tf:TT)(te:TE):TE:=fun σ H Q=>wi σ H fun J H1 =>
 zgs 500 J g tf (emS te) (fun ys H2=>∀ D,H2 D=none→Q (.ref D) (upd H2 D (.ext (stI w D (dd ys))))) (zb1 src σ) H1
theorem mk_set {prog:Program}{w:World}{A:Around}{E:Value→Shared→Prop}(Q:Value→Shared→Prop)(s:Shared)(q:Q (.ref s.heap.objs.size) { s with heap:=s.heap.push (sObj #[] 0 (.fresh 0 0 (!w.params.followText "set-order"))) }):wpAny (model prog w) A (newSet (.type "set")) Q E s:=by
 unfold newSet setsByText
 exact Xaa (Xaa (XaY (Xac (XaL q))))
theorem ev_set (elt:Expr)(gens:List Comprehension)(scope:Scope)(pos:Pos)(env:Env):eval (.SetComp elt gens scope pos) env=comprehension (.SetComp elt gens scope pos) scope env (firstIterPos gens pos) (newSet (.type "set")) (firstAsync gens) (firstIter gens env):=rfl
theorem zgE (src:List (Option Nat))(hc:X.calm=true)(S:CompOk X.N X.env.scope Nc src scope)(hi:PI X tg iter wi)
  (hg:∀ cl C fp s2 H2,PG (cxC X Nc scope cl C fp s2 H2) tg g) (hf:∀ cl C fp s2 H2,PF (cxC X Nc scope cl C fp s2 H2) ifs tf) (he:∀ cl C fp s2 H2,PE (cxC X Nc scope cl C fp s2 H2) elt te)
  (hs:∀ x,foldedSetIterable iter X.env x=pure x:=by intro _;rfl):PE X (.SetComp elt [⟨tg,iter,ifs,0⟩] scope pos) (tSetC X.w src wi g tf te):=by
 intro pins s σ H Q I h
 obtain ⟨cl,hclos,hcl1,hcl2⟩:=zbG I.ok (scope:=scope) S.free
 rw [ev_set]
 refine wpAny_comprehension_free (use:=none) rfl hs hclos S.kind (fun x hx hl=>by obtain ⟨n,k⟩:=x;cases hl;exact zbE S.nodup hx) (thn (hi pins s σ H _ I h) fun xv s1 h1=>thn h1 fun itv s2 h2=>?_)
 obtain ⟨it,fp,tn,J,H2,e,I2,T,st2,f2,hw⟩:=h2
 subst e
 refine zd2 (α:=Int) (B:=500) (ho:=fun D ys=>.ext (stI X.w D (dd ys))) (AO:=AOs X.w) (RR:=fun acc C=>compPost (model X.prog X.w) X.A X.xe none (EP X pins σ Q) acc C) hc I2 S hcl1 hcl2 T st2 f2 hg hf (fun cl C fp s2 H2=>zj5 (he cl C fp s2 H2) (cxC_xe cl C fp s2 H2)) mk_set rfl ?_ ?_ ?_ zi1 hw ?_
 ·exact ⟨#[],0,_,rfl,(fun e he=>nomatch he),.rfl,Xbz,⟨rfl,List.Pairwise.nil,rfl⟩⟩
 ·rintro ys o v ⟨es,ep,t,rfl,_⟩ z
  have z':Data.set es ep t=Data.cell v:=z
  cases z'
 ·intro ys o H h D ao _ _ g'
  exact stI_ok (ao.at g')
 intro H4 s4 ys m C hC hD Iout hn hCn q
 refine ⟨m,hn,fun h' sb=>⟨.ref s2.heap.objs.size,_,?_,rfl,q _ hD⟩⟩
 obtain ⟨f0,f1,f3,f4,f5,f6⟩:=I2.fpOk (H':=upd H4 s2.heap.objs.size (.ext (stI X.w s2.heap.objs.size (dd ys)))) hC hCn
 exact Iout.turned (t':=s4.toks) (it:=C) (fun b o hb e=>(sb.2 b hb).trans e) f0 f1 f4 f5 f6
end
section
variable {prog:Program}{w:World}{A:Around}{E:Value→Shared→Prop}{R:Result→Shared→Prop}{s:Shared}
end
theorem ziJ (kvs:List (Key×V))(k:Key)(v:V):(putK kvs k v).length≤kvs.length+1:=by
 unfold putK
 split
 ·rw [Xah];exact Xby _
 ·rw [Xaq];exact Xaf _
section
variable {X:Cx}{Nc:List Str}{src:List (Option Nat)}{scope:Scope}{kx vx tg iter:Expr}{ifs:List Expr}{pos:Pos}{wi:TI}{g:TG}{tf:TT}{tk tv:TE}
end
section
variable {X:Cx}{Nc:List Str}{src:List (Option Nat)}{scope:Scope}{kx vx tg iter:Expr}{ifs:List Expr}{pos:Pos}{wi:TI}{g:TG}{tf:TT}{tk tv:TE}
end
section
variable {X:Cx}
inductive rSetD (x:V)(vs:List V)(H:Hp)(Q:VK):Prop
 | mk (a:Addr) (kvs:List (Key×V)) (k:Key) (y:V) (z0_:x = .ref a) (z1_:vs=[kV k,y]) (z2_:H a=some (.dK kvs)) (z3_:kvs.length<1000) (z4_:(∀ v,valV kvs k=some v→Q v H)) (z5_:(valV kvs k=none→Q y (upd H a (.dK (putK kvs k y)))))
theorem zer:MtR X "dict.setdefault" rSetD:=by
 rintro pins s σ H x vs v us Q I rx rv ⟨a,kvs,k,y,rfl,rfl,e,hl,q1,q2⟩
 obtain rfl:v=Value.ref a:=rx
 cases rv with
 | cons ry rr =>
  obtain ⟨u,rfl,ru⟩:=Vals.one rr
  obtain ⟨z,hd,vs,rel,dd⟩:=dk_of I.hok e
  refine call_meetsIn PySem.F.slot_dict_setdefault dd.typeIs PySem.F.entry_dict_setdefault (PySem.F.args_dict_setdefault_3 _ _ _) (kt_meets_setdefault (zaO X.prog X.w) a (zkt ry) hd u) ⟨vs,dd,by rw [← rel.length];exact z,fun w' hw=>?_,fun hn h' dd' hs=>?_⟩
  ·have r:=rel.val k
   rw [hw] at r
   cases hv:valV kvs k with
   | none=>rw [hv] at r;exact r.elim
   | some v=>rw [hv] at r;exact ⟨v,H,I.tok _,r,q1 v hv⟩
  ·have r:=rel.val k
   rw [hn] at r
   have hv:valV kvs k=none:=by
    cases hv:valV kvs k with
    | none=>rfl
    | some v=>rw [hv] at r;exact r.elim
   have he:∃ q,h'.get? a=some q:=let ⟨q,_,_,hq,_⟩:=dd';⟨q,hq⟩
   exact ⟨y,_,zkD (t':=s.toks+1) I (by rw [e];exact True.intro) hs he (dk_new (Xar (ziJ kvs k y) (Xar hl (by decide))) hd (rel.put k ru) dd'),ru,q2 hv⟩
end
section
variable {K:W.Frag}{α:Type}{B:Nat}{g:TG}{tf:TT}{em:TEm α}{Q:List α→Hp→Prop}{σ:St}{H:Hp}
theorem zib {a:Addr}{xs:List V}(Pv:Nat→List α→St→Hp→Prop)(hn:xs.length≤B)(h0:Pv 0 [] σ H)(hl:∀ i ys σ H,i≤xs.length→Pv i ys σ H→SqT K H a xs∧ys.length≤i)
  (hs:∀ i x ys σ H,xs[i]? = some x→Pv i ys σ H→g x σ H fun σ2 H2=>tf σ2 H2 fun b H3=>if b=true then em σ2 H3 fun y H4=>Pv (i+1) (ys ++ [y]) σ2 H4 else Pv (i+1) ys σ2 H3)
  (hd:∀ ys σ H,Pv xs.length ys σ H→Q ys H):zgs B (Itt K a) g tf em Q σ H:=by
 refine ⟨fun i m ys σ H=>m=xs.length - i∧i≤xs.length∧Pv i ys σ H,⟨xs.length,by simp,Nat.zero_le _,h0⟩,?_⟩
 rintro i m ys σ H ⟨rfl,hi,p⟩
 obtain ⟨q,hz⟩:=hl i ys σ H hi p
 by_cases hlt:i<xs.length
 ·refine .inr ⟨⟨xs,xs[i],q,by simp [hlt]⟩,by omega,Pv (i+1),fun ys' σ' H' p'=>⟨xs.length - (i+1),by omega,rfl,hlt,p'⟩,fun x H' y=>?_⟩
  obtain ⟨e,y⟩:=y
  subst e
  exact hs i x ys σ _ (y xs q) p
 ·have e:i=xs.length:=by omega
  subst e
  exact .inl ⟨⟨xs,q,Xaf _⟩,by omega,hd ys σ H p⟩
end
section
variable {X:Cx}{k:Nat}{ks:List Str}{m:Str}{pos apos:Pos}{e o:Expr}{es:List Expr}{kws:List Keyword}{ta:TE}{t tk:TA}
end
section
variable {X:Cx}
end
end L2
end
section
namespace L2
open PySem PySem.Spec PyProof.Rows PySem.SeqAt
section
variable {X:Cx}{K:W.Frag}
inductive rEqT0 (K:W.Frag)(x:V)(y:V)(H:Hp)(Q:VK):Prop
 | mk (a:_) (b:_) (xs:_) (z0_:x = .ref a) (z1_:y = .ref b) (z2_:SqT K H a xs) (z3_:SqT K H b []) (z4_:Q (.bl xs.isEmpty) H)
theorem zkc (hu:X.A.units<cLine)(hK:X.K=K):OpR X (compareOp .Eq) (rEqT0 K):=by
 subst hK
 rintro pins s σ H x y v u Q I rx ry ⟨a,b,xs,rfl,rfl,ha,hb,q⟩
 cases rx;cases ry
 obtain ⟨its,r1,p1,_⟩:=I.tuple ha
 obtain ⟨its2,r2,p2,_⟩:=I.tuple hb
 obtain rfl:=r2.nil_iff.mpr rfl
 refine RcAt.tuples (e:=fun _=>true) p1 p2 hu (fun j h1 h2=>absurd h2 (by simp)) _ _ _ _ ⟨.bl xs.isEmpty,H,I,?_,q⟩
 have e:its.toArray.size=xs.length:=by rw [Xal];exact r1.length.symm
 show _=Value.bool _
 rw [e]
 cases xs <;> simp
end
end L2
end
section
namespace L2
open PySem PySem.Spec PyProof.Rows HT PySem.W PySem.Calls
def xFr (e C:Addr)(od:Option Addr):Heap→Prop:=fun h=>∃ t,h.get? e=some { cls:=.ref C,dict:=od,data:=.fields #[.ref t,.none,.none,.none,.bool false,.none] }
def xDc (dx:Addr)(fs:List (Str×V)):Heap→Prop:=fun h=>fs.length≤100∧∃ mA,h.Ns1 dx mA∧(∀ f,RelO (fs.lookup f) (mA f))∧PySem.Within mA (fs.map (·.1))
section
variable {P:Program}{w:World}{H:Hp}{h:Heap}{e C dx:Addr}{od:Option Addr}{fs:List (Str×V)}
theorem zki (x:xFr e C od h):ObjOk P w H h e (.ext (xFr e C od)):=by
 obtain ⟨t,g⟩:=id x
 exact ⟨x,⟨_,g⟩,fun h1 h2 ⟨t1,q⟩ k=>⟨t1,k _ q⟩⟩
theorem ok_dc (x:xDc dx fs h):ObjOk P w H h dx (.ext (xDc dx fs)):=by
 obtain ⟨l,mA,⟨o,es,ep,e,r⟩,r1,r2⟩:=id x
 exact ⟨x,⟨_,e⟩,fun h1 h2 ⟨l,mA,⟨o,es,ep,e,r⟩,r1,r2⟩ k=>⟨l,mA,⟨o,es,ep,k _ e,r⟩,r1,r2⟩⟩
end
def NsKI (K:W.Frag)(N fI:Addr):Prop:=∃ c d es ep sl,K.lookup N=some ⟨c,d,.dict es ep,sl⟩∧StrKeys es∧nsFind es "__init__" = some (.ref fI)
structure ExcI (K:W.Frag)(C fI:Addr):Prop where
 ex:∃ nm q N bs bm sn sub ab col dd k0 k1 k2 k3 k5,K.lookup C=some (excClassObj nm q C N bs bm true sn sub ab col dd k0 k1 k2 k3 k5 "ValueError.__new__")∧NsKI K N fI∧TailK K bm
 sa:findIn K (.ref C) "__setattr__" = some (some (.builtin "object.__setattr__"))
theorem TailK.pass {K:W.Frag}{bm:List Value}(x:TailK K bm)(self:Value):refuseLoop self "__setattr__" bm=pure ():=by
 induction x with
 | base=>exact PySem.F.store_ValueError.passes self
 | own e n _ ih=>rw [refuseLoop_ref];exact ih
theorem TailK.has {K:W.Frag}{bm:List Value}(x:TailK K bm):bm.contains (.type "object")=true:=by
 induction x with
 | base=>decide +kernel
 | own e n _ ih=>rw [List.contains_cons,ih,Bool.or_true]
section
variable {prog:Program}{w:World}{A:Around}{E:Value→Shared→Prop}{s:Shared}{K:W.Frag}{x dx C fI:Addr}{mA:Str→Option Value}{name:Str}{v:Value}{ox:Obj}{od:Option Obj}
theorem zg8 {tk:Tok}{R:Result→Shared→Prop}(X:K.In s.heap)(I:InstAt s.heap x ox C od)(c:ExcI K C fI)(ht:takerIn K C name=some none)
  (h:∀ b,wpAny (model prog w) A.in1 (Builtin.ObjectAttr.storeInOwnDict (.ref x) (.ref C) (.str name tk) name v b)
   (fun fin s'=>match fin with | .done f=>R (.ok f) s' | .again c'=>c'.quiet=true∧codeAny (model prog w) A c' R s') (fun e s'=>R (.error e) s') s) :
  codeAny (model prog w) A (.call (.builtin "object.__setattr__") ⟨[.ref x,.str name tk,v],[]⟩) R s:=by
 have SF:=PySem.F.store_object
 obtain ⟨nm,q,N,bs,bm,sn,sub,ab,col,dd,k0,k1,k2,k3,k5,hC,hN,hT⟩:=c.ex
 have hc:∃ cd,clsIn K C=some cd∧cd.mro = .ref C :: bm:=⟨_,by unfold clsIn;rw [hC],rfl⟩
 obtain ⟨cd,hc,hmr⟩:=hc
 have hcon:cd.mro.contains (.type "object")=true:=by rw [hmr,List.contains_cons,hT.has,Bool.or_true]
 have ne:cd.mro.isEmpty=false:=by rw [hmr];rfl
 have sub:Looks (model prog w) s.heap (isInstance (.ref x) (.type "object")) true:=I.type.andThen (looks_mroIn X (by unfold mroIn;rw [hc,Option.bind_some,if_neg (by rw [ne];decide),hcon]))
 refine codeAny_call_builtin SF.slot.plain SF.entry (@check_slot (model prog w) _ _ s "object.__setattr__" "object" "__setattr__" (.ref x) [.str name tk,v] [] _ SF.kind SF.split sub (SF.args (.ref x) (.str name tk) v) ?_)
 obtain ⟨attr,ha,hr⟩:=Option.bind_eq_some_iff.mp ht
 have hm:Looks (model prog w) s.heap (mroOf (.ref C)) cd.mro:=(looks_clsIn X hc).andThen .now
 have L3:Looks (model prog w) s.heap (Builtin.ObjectAttr.storeTaker? attr) none:=by
  cases attr with
  | none=>exact .now
  | some a =>
   obtain ⟨b,hb,hb2⟩:=XaJ.mp hr
   refine (looks_takesIn X hb).andThen ?_
   cases b with
   | true=>cases hb2
   | false=>exact .now
 rw [osa_eq,refuse_eq]
 refine Xaa (Xaa (I.type.here (Xaa (hm.here ?_))))
 rw [hmr,refuseLoop_ref,hT.pass]
 refine Xac (Xaa (I.type.here (Xaa ((looks_findIn X ha).here (Xaa (L3.here ?_))))))
 exact h _
theorem zgt {vs:Array Value}{Q:Unit→Shared→Prop}(X:K.In s.heap)(hx:s.heap.get? x=some { cls:=.ref C,dict:=none,data:=.fields vs })(c:ExcI K C fI)(ht:takerIn K C name=some none)
  (h:∀ h',(∀ b o,b≠x→s.heap.get? b=some o→h'.get? b=some o)→h'.get? x=some { cls:=.ref C,dict:=some s.heap.objs.size,data:=.fields vs }→h'.Ns1 s.heap.objs.size (fun y=>if y=name then some v else none)→Q () { s with heap:=h',toks:=s.toks+2 }) :
  wpAny (model prog w) A (setAttr (.ref x) name v) Q E s:=by
 have J:InstAt s.heap x { cls:=.ref C,dict:=none,data:=.fields vs } C none:=⟨hx,rfl,rfl,trivial⟩
 refine set_plain X J c.sa (zg8 (s:={ s with toks:=s.toks+1 }) X J c ht fun b=>?_)
 obtain ⟨nm,q,N,bs,bm,sn,sub,ab,col,dd,k0,k1,k2,k3,k5,hC,hN,hT⟩:=c.ex
 have hc:∃ cd,clsIn K C=some cd∧cd.hasDict=true:=⟨_,by unfold clsIn;rw [hC],rfl⟩
 obtain ⟨cd,hc,hd'⟩:=hc
 have hxs:x≠s.heap.objs.size:=Xav (Xan hx)
 refine Xaa (Xac (Xaa (Xaa (wpAny_loadPart hx (Xaa (Looks.here (s:={ s with toks:=s.toks+1 }) (looks_clsIn X hc) ?_))))))
 rw [hd']
 have hx₁:(s.heap.push { cls:=.type "dict",data:=.dict #[] }).get? x=some { cls:=.ref C,dict:=none,data:=.fields vs }:=Xad _ hx
 obtain ⟨hp,g,d,t,os⟩:=s
 refine Xaa (wpAny_alloc' ?_)
 refine Xaa (wpAny_update' hx₁ ?_)
 refine Xac ?_
 have hgd:((hp.push { cls:=.type "dict",data:=.dict #[] }).update x fun o=>{ cls:=o.cls,dict:=some hp.objs.size,data:=o.data,slots:=o.slots }).get? hp.objs.size=some { cls:=.type "dict",data:=.dict #[] }:=
  (Heap.get?_update_ne _ _ _ _ hxs.symm).trans (Heap.get?_push_at rfl rfl)
 have hnd:((hp.push { cls:=.type "dict",data:=.dict #[] }).update x fun o=>{ cls:=o.cls,dict:=some hp.objs.size,data:=o.data,slots:=o.slots }).Ns hp.objs.size (fun _=>none):=
  ⟨_,#[],_,hgd,rfl,fun e he=>absurd he (by simp),fun _=>rfl⟩
 show wpAny _ _ (Builtin.ObjectAttr.storeInDict hp.objs.size (.str name t) name v) _ _ _
 unfold Builtin.ObjectAttr.storeInDict Builtin.ObjectAttr.newKeyGuard
 refine Xaa (Xac (Xaa (wpAny_nsSet1 (Heap.Ns1.of_empty hnd) fun h' hn' hs=>?_)))
 obtain ⟨oD,esD,epD,hoD,hdD,hcD⟩:=hn'.count (Within.cons name v Within.nil)
 refine Xaa (wpAny_lookBehind hoD (by rw [hdD];exact pastItsLine_dict (Xar hcD (by rw [Xaw,Xbc,sizeLine_eq];omega))) ?_)
 refine Xac (h h' (fun b o hb e=>?_) ?_ ?_)
 ·exact (hs.2 b (Xav (Xan e))).trans ((Heap.get?_update_ne _ _ _ _ hb).trans (Xad _ e))
 ·exact (hs.2 x hxs).trans (XaH _ hx₁ rfl)
 ·exact hn'
theorem xget {Q:Value→Shared→Prop}{expr:Bool}(X:K.In s.heap)(I:InstAt s.heap x ox C od)(hga:findIn K (.ref C) "__getattribute__" = some (some (.builtin "BaseException.__getattribute__")))(hgr:findIn K (.ref C) "__getattr__" = some none)
  (hf:findObj K C od name=some (.value v)) (hsub:subIn K (.ref C) (.type "BaseException")=some true) (hv:handedIn v=true)
  (h:Q v { s with toks:=s.toks+1 }):wpAny (model prog w) A (getAttr (.ref x) name expr) Q E s:=by
 obtain ⟨hh,g,d,t,os⟩:=s
 have L0:=I.type (M:=model prog w)
 have L1:=looks_findIn (M:=model prog w) X hga
 have L2:=looks_findIn (M:=model prog w) X hgr
 unfold getAttr getAttrBy
 refine Xaa (wpAny_mkText (XaK (Xaa (L0.at (Xaa (L1.at ?_))))))
 have hx2:(Value.builtin "BaseException.__getattribute__" == Value.builtin "object.__getattribute__")=false:=by decide +kernel
 have hx:(onTheHeap (Value.ref C) && Value.builtin "BaseException.__getattribute__" == Value.builtin "object.__getattribute__")=false:=by rw [hx2];rfl
 show wpAny _ _ (if (onTheHeap (Value.ref C) && Value.builtin "BaseException.__getattribute__" == Value.builtin "object.__getattribute__")=true then _ else _) _ _ _
 rw [hx,if_neg Xao]
 unfold getAttrByItsOwn
 have hb:hookBefore (Value.ref C)=typeLookup (Value.ref C) "__getattr__" := rfl
 rw [hb]
 refine Xaa (L2.at ?_)
 refine Xaa (wpAny_attempt (XaK ?_))
 have hc:callGetattribute (Value.ref x) (Value.str name t) (Value.builtin "BaseException.__getattribute__") expr=boundAndCalled (Value.builtin "BaseException.__getattribute__") (Value.ref x) (Value.str name t):=by
  unfold callGetattribute
  rw [if_neg (by cases expr <;> decide +kernel)]
 rw [hc]
 unfold boundAndCalled
 rw [PySem.F.excAttr_ValueError.ga.bind (.ref x)]
 refine Xaa (Xac ?_)
 show wpAny _ _ (call (.builtin "BaseException.__getattribute__") [.ref x,.str name t]) _ _ _
 refine Xbm ?_
 have hk:builtinKind "BaseException.__getattribute__" = some .slot:=by decide +kernel
 have hs:splitId "BaseException.__getattribute__" = some ("BaseException","__getattribute__"):=by decide +kernel
 refine codeAny_call_builtin PySem.F.excAttr_ValueError.ga.plain PySem.F.entry_bexc_ga ?_
 have hi:Looks (model prog w) hh (isInstance (.ref x) (.type "BaseException")) true:=L0.andThen (looks_subIn X hsub)
 have ha:=PySem.F.args_bexc_ga (.ref x) (.str name t)
 have LF:=looks_find (M:=model prog w) X I hf
 refine @check_slot _ _ _ _ _ _ _ _ _ _ _ hk hs hi ha ?_
 unfold Builtin.«object.__getattribute__»
 refine Xaa (wpAny_of_eq (a:=(Value.ref x,[Value.str name t])) rfl ?_)
 dsimp only
 refine Xaa (Xac (Xaa (L0.at (Xaa (LF.at ?_)))))
 refine Xac ?_
 show wpAny _ _ (handedOut v) _ _ _
 rw [handedOut_of hv]
 exact Xac h
end
end L2
end
section
namespace L2
open PySem PySem.Spec PyProof.Rows HT PySem.W PySem.Calls
section
variable {X:Cx}{pins:List (Addr×Obj)}{σ:St}{H:Hp}{s:Shared}
theorem Inv.trackE {ea:Addr}{φ:Heap→Prop}(I:Inv X pins σ H s)(hn:H ea=none)(ho:∀ H',ObjOk X.prog X.w H' s.heap ea (.ext φ))(h:zfX X pins ea):Inv X pins σ (upd H ea (.ext φ)) s:=by
 have up:∀ b o,H b=some o→upd H ea (.ext φ) b=some o:=fun b o e=>by rw [zai (fun z=>by rw [z,hn] at e;cases e)];exact e
 refine ⟨I.ok,I.os,I.bare,⟨I.base.keep,I.base.slot,fun b o e n hx=>?_,I.base.there,fun b xs e=>up _ _ (I.base.tups b xs e),fun b o u e=>up _ _ (I.base.frzs b o u e),fun b ps e=>?_⟩,I.loc,I.cell,?_,fun x c e=>?_,fun p hp=>?_,fun a o e=>?_,I.len⟩
 ·rw [zai (fun z=>by rw [z,h.1] at e;cases e)];exact I.base.free b o e n hx
 ·obtain ⟨more,q⟩:=I.base.tbls b ps e
  exact ⟨more,up _ _ q⟩
 ·rw [zai (Ne.symm h.2.1)];exact I.free
 ·rw [zai (h.2.2.1 x c e)];exact I.freeC x c e
 ·obtain ⟨e,n,r⟩:=I.pin p hp
  exact ⟨e,by rw [zai (h.2.2.2 p hp)];exact n,r⟩
 ·by_cases z:a=ea
  ·subst z
   rw [zab] at e
   cases e
   exact ho _
  ·rw [zai z] at e
   exact (I.hok a o e).stay (fun _ _ _ q=>q) (fun b q=>up _ _ q) fun b xs q=>up _ _ q
end
inductive sFldX0_1 (K:W.Frag)(f:Str)(D:Ends)(σ:St)(y:V)(x:V)(H2:Hp):Prop
 | mk (a:_) (C:_) (fI:_) (z0_:x = .ref a) (z1_:H2 a=some (.ext (xFr a C none))) (z2_:ExcI K C fI) (z3_:takerIn K C f=some none) (z4_:∀ dx,H2 dx=none→dx≠a→D.nx σ (upd (upd H2 a (.ext (xFr a C (some dx)))) dx (.ext (xDc dx [(f,y)]))))
def sFldX0 (K:W.Frag)(ta tv:TE)(f:Str):TS:=fun D σ H=>tv σ H fun y H1=>ta σ H1 (sFldX0_1 K f D σ y)
inductive tFldX_1 (K:W.Frag)(f:Str)(Q:VK)(x:V)(H1:Hp):Prop
 | mk (a:_) (C:_) (dx:_) (fs:_) (v:_) (z0_:x = .ref a) (z1_:H1 a=some (.ext (xIs a (.ref C) (some dx)))) (z2_:H1 dx=some (.ext (xDc dx fs))) (z3_:XCls K C) (z4_:hasDictIn K C=true) (z5_:findIn K (.ref C) f=some none) (z6_:fs.lookup f=some v) (z7_:Q v H1)
def tFldX (K:W.Frag)(ta:TE)(f:Str):TE:=fun σ H Q=>ta σ H (tFldX_1 K f Q)
section
variable {X:Cx}{o e value:Expr}{f:Str}{pos pos':Pos}{ta tv:TE}
theorem ziM (hex:X.ex=[])(ha:PE X o ta)(hv:PE X value tv)(hs:swapsWith value (some (.Attribute o f pos')) pos.line X.env=pure false):PS X (.Assign [.Attribute o f pos'] value pos) (sFldX0 X.K ta tv f):=by
 intro pins s σ H D I h
 refine plainObj_wpAny_Assign_Attribute (thn (hv pins s σ H _ I h) fun u s1 ⟨y,H1,I1,ry,q⟩=>thn (ha pins s1 σ H1 _ I1 q) fun ov s2 hh_=>?_) hs
 obtain ⟨x,H2,I2,rx,a,C,fI,ex,ea,c,ht,q2⟩:=hh_
 subst ex
 obtain rfl:ov=Value.ref a:=rx
 obtain ⟨t,g⟩:=(show xFr a C none s2.heap from (I2.hok a _ ea).1)
 have hnew:s2.heap.get? s2.heap.objs.size=none:=Xbw (Xaf _)
 have ne:s2.heap.objs.size≠a:=fun z=>by rw [z,g] at hnew;cases hnew
 refine zgt I2.kIn g c ht fun h' k1 k2 k3=>⟨σ,_,?_,q2 s2.heap.objs.size (I2.hok.fresh (Xaf _)) ne⟩
 have J:Inv X pins σ (upd H2 a (.ext (xFr a C (some s2.heap.objs.size)))) { s2 with heap:=h',toks:=s2.toks+2 }:=
  I2.write (x:=a) (e:=a) (by rw [ea];exact True.intro) (.inl rfl) k1 ⟨_,k2⟩ (zki ⟨t,k2⟩)
 refine J.trackE (by rw [zai ne];exact I2.hok.fresh (Xaf _)) (fun H'=>ok_dc ⟨by show 1≤100;decide,_,k3,fun g=>?_,fun g hg=>?_⟩) (I2.none_ours hnew (by rw [hex];simp))
 ·show RelO (List.lookup g [(f,y)]) (if g=f then some u else none)
  by_cases q:g=f
  ·subst q
   rw [if_pos rfl]
   simp only [List.lookup,beq_self_eq_true]
   exact ry
  ·rw [if_neg q]
   have:(g == f)=false:=by simpa using q
   simp only [List.lookup,this]
   exact True.intro
 ·by_cases q:g=f
  ·rw [q];simp
  ·exact absurd (show (if g=f then some u else none)=none by rw [if_neg q]) hg
theorem zj9 (he:PE X e ta)(hb:attributeBase e f X.env (eval e X.env)=eval e X.env):PE X (.Attribute e f pos) (tFldX X.K ta f):=by
 intro pins s σ H Q I h
 refine zio hb (thn (he pins s σ H _ I h) fun u s1 hh_=>?_)
 obtain ⟨x,H1,I1,rx,a,C,dx,fs,v,ex,ea,ed,c,hh,ha,l,q⟩:=hh_
 subst ex
 obtain rfl:u=Value.ref a:=rx
 obtain ⟨oe,vs,g1,⟨g2,g3⟩,g4⟩:=(show xIs a (.ref C) (some dx) s1.heap from (I1.hok a _ ea).1)
 obtain ⟨_,mA,hn,r,wi⟩:=(show xDc dx fs s1.heap from (I1.hok dx _ ed).1)
 obtain ⟨oD,hoD,hl⟩:=zdA hn
 have J:InstAt s1.heap a oe C (some oD):=⟨g1,g2,by unfold notCls;rw [g4],by rw [g3];exact hoD⟩
 obtain ⟨u',hu,ru⟩:=RelO.some_of (v:=v) (o:=mA f) (by rw [← l];exact r f)
 exact xget I1.kIn J c.ga c.gr (findObj_own hh ha rfl (by rw [hl,hu])) c.sub (ze9 ru) ⟨v,H1,I1.tok _,ru,q⟩
end
structure SupI (K:W.Frag)(mg:Str→Option Value)(x:Str):Prop where
 ex:∃ B,mg x=some (.ref B)∧specialIn K (.ref B) "__getattribute__" = some (some (.builtin "type.__getattribute__"))∧readsIn K B (.type "type")=true∧findCls K (.ref B) (.type "type") "__init__" = some (.val (.builtin "ValueError.__init__"))
inductive tXini_1 (K:W.Frag)(Q:VK)(vs:List V)(H1:Hp):Prop
 | mk (a:_) (C:_) (fI:_) (od:_) (z:_) (z0_:vs=[.ref a,z]) (z1_:H1 a=some (.ext (xFr a C od))) (z2_:ExcI K C fI) (z3_:Q .non H1)
def tXini (K:W.Frag)(t:TA):TE:=fun σ H Q=>t σ H (tXini_1 K Q)
section
variable {X:Cx}{x:Str}{p pos apos:Pos}{e e2:Expr}{t:TA}
theorem zj6 (M:SupI X.K X.mg x)(hg:Gl X x){pl:Sem Bool}(ha:PA X [e,e2] t)(hdb:(x == ("__debug__" : Str))=false:=by decide)
  (hst:starEach [e,e2] X.env=(false,eval e X.env) :: starEach [e2] X.env:=by rfl) (hpl:(backTo pos (starEach [e2] X.env)).any (·.1)=false:=by rfl)
  (ht:eval (.Call (.Attribute (.Name x p) "__init__" apos) [e,e2] [] pos) X.env=(do
   let ov ← eval (.Name x p) X.env
   standAt apos.atName
   let (f,first) ← holding [ov] (getMethod ov "__init__" pl)
   callWith pos f first (backTo pos (starEach [e,e2] X.env)) (backToKw pos (keywordEach [] X.env))):=by rfl) :
  PE X (.Call (.Attribute (.Name x p) "__init__" apos) [e,e2] [] pos) (tXini X.K t):=by
 obtain ⟨B,hm,hs,hrd,hf⟩:=M.ex
 intro pins s σ H Q I h
 refine W.methodCall_KW (pl:=pl) ?_ ht
 refine za4 I hg hm ?_ hdb
 refine W.method_cls I.kIn hs (W.cls_value I.kIn hrd hf rfl ?_)
 have I0:=I.tok (s.toks+1)
 have h2:=ha pos pins _ σ H _ I0 h
 rw [hst] at h2 ⊢
 refine Calls.callWith_builtin (by show (false || (backTo pos (starEach [e2] X.env)).any (·.1))=false;rw [hpl];rfl) (Calls.evalArgs_plain (thn h2 fun us s2 hh_=>?_))
 obtain ⟨vs,H2,I2,r,a,C,fI,od,z,ev,ea,c,q2⟩:=hh_
 subst ev
 obtain ⟨v1,v2,rfl,r1,r2⟩:=zeB r
 obtain rfl:v1=Value.ref a:=r1
 obtain ⟨t,g⟩:=(show xFr a C od s2.heap from (I2.hok a _ ea).1)
 obtain ⟨nm,q,N,bs,bm,sn,sub,ab,col,dd,k0,k1,k2,k3,k5,hC,hN,hT⟩:=c.ex
 have F:=PySem.F.excBase_ValueError
 have T:=hT.tail I2.kIn
 have hC':=I2.kIn _ _ hC
 have I3:=I2
 obtain ⟨hp,gg,dr,tk,os⟩:=s2
 show wpAny _ _ (call (.builtin "ValueError.__init__") [.ref a,v2]) _ _ _
 refine Xbm (codeAny_call_builtin F.init.plain F.initEntry (wpAny_check_init_subT F T hC' g rfl ?_))
 wp_walk
 have g1:(hp.push { cls:=.type "tuple",data:=.seq #[v2] }).get? a=some { cls:=.ref C,dict:=od,data:=.fields #[.ref t,.none,.none,.none,.bool false,.none] }:=Xad _ g
 have g2:=XaH (Obj.mapFields fun x=>x.setIfInBounds 0 (Value.ref hp.objs.size)) g1 rfl
 refine ⟨.non,H2,?_,rfl,q2⟩
 have hu:upd H2 a (.ext (xFr a C od))=H2:=by
  funext b
  by_cases hb:b=a
  ·rw [hb,zab,ea]
  ·rw [zai hb]
 have J:=I2.write (x:=a) (e:=a) (o:=.ext (xFr a C od)) (t':=tk) (h':=(hp.push { cls:=.type "tuple",data:=.seq #[v2] }).update a (Obj.mapFields fun x=>x.setIfInBounds 0 (Value.ref hp.objs.size))) (by rw [ea];exact True.intro) (.inl rfl)
  (fun b u hb z=>(XaG _ _ (Ne.symm hb)).trans (Xad _ z)) ⟨_,g2⟩ (zki ⟨hp.objs.size,g2⟩)
 rw [hu] at J
 exact J
end
theorem PA.nox {X:Cx}{es:List Expr}{t:TA}(h:PA X.nox es t):PA X es t:=fun p pins s σ H Q I hw =>
 Xas (h p pins s σ H Q (I.wish _) hw) (fun _ _ ⟨vs,H',I',r,q⟩=>⟨vs,H',I'.unwish,r,q⟩) fun _ _ z=>False.elim z
def unt (H:Hp)(e:Addr):Hp:=fun b=>if b=e then none else H b
theorem zf1 {H:Hp}{e:Addr}:unt H e e=none:=by unfold unt;rw [if_pos rfl]
theorem zf2 {H:Hp}{e b:Addr}(h:b≠e):unt H e b=H b:=by unfold unt;rw [if_neg h]
theorem zg9 {P:Program}{w:World}{K:W.Frag}{mg:Str→Option Value}{base:Heap}{N:List Str}{qual:Str}{scope:Scope}{f:Addr}{cd:Value}{A:Around}{outer:List Env}{s:Shared}{H:Hp}{E:XK}
  {pins:List (Addr×Obj)} {σ:St} {H2:Hp} {s2:Shared} {e C:Addr} {od:Option Addr} (I:Inv (cxOf (CX1 P w) P w K mg base N qual scope f cd A outer s H E) pins σ H2 s2) (ee:H2 e=some (.ext (xFr e C od))) (hn:s.heap.get? e=none) (hE:E (.ref C) od (unt H2 e)) :
  (cxOf (CX1 P w) P w K mg base N qual scope f cd A outer s H E).xe (.ref e) s2:=by
 obtain ⟨t,he⟩:=(show xFr e C od s2.heap from (I.hok e _ ee).1)
 have b1:=I.base
 refine zch I.ok.frames I.stack (L:=s.heap.objs.size) rfl he rfl rfl fun h'' T fT sl x=>?_
 have ne:∀ b o,s.heap.get? b=some o→b ∉ [e]:=fun b o q z=>by rw [Xab.mp z,hn] at q;cases q
 have nL:∀ b o,s.heap.get? b=some o→b ∉ frs outer→b ∉ ((envOfC qual scope s.heap.objs.size f cd) :: outer).filterMap (·.frame):=fun b o q hb z=>by
  rcases Xap.mp (show b∈s.heap.objs.size :: outer.filterMap (·.frame) from z) with r | r
  ·exact absurd r (Xav (Xan q))
  ·exact hb r
 have nex:∀ b,b ∉ (cxOf (CX1 P w) P w K mg base N qual scope f cd A outer s H E).ex:=fun b=>by show b ∉ ([]:List Addr);simp
 have dif:∀ b o,H2 b=some o→o≠.ext (xFr e C od)→unt H2 e b=some o:=fun b o q hne=>by
  rw [zf2 fun z=>hne (by rw [z,ee] at q;exact (Option.some.inj q).symm)];exact q
 refine ⟨e,T,unt H2 e,C,od,rfl,I.os,I.bare,⟨fun b o q n hb _=>?_,fun b o q n hb _=>?_,fun b o q n _=>?_,fun b o q _=>?_,fun b xs q=>dif _ _ (b1.tups b xs q) (fun z=>nomatch z),fun b o u q=>dif _ _ (b1.frzs b o u q) (fun z=>nomatch z),fun b ps q=>?_⟩,?_,x,hn,?_,zf1,?_,hE⟩
 ·exact (sl b o (b1.keep b o q n hb (nex b)) (ne b o q)).1 (nL b o q hb)
 ·obtain ⟨t1,e1⟩:=b1.slot b o q n hb (nex b)
  obtain ⟨t2,e2⟩:=(sl b _ e1 (ne b o q)).2
  exact ⟨t2,e2⟩
 ·have:=b1.free b o q n (nex b)
  unfold unt
  split
  ·rfl
  ·exact this
 ·obtain ⟨o',e1⟩:=b1.there b o q (nex b)
  obtain ⟨t2,e2⟩:=(sl b _ e1 (ne b o q)).2
  exact ⟨_,e2⟩
 ·obtain ⟨more,q'⟩:=b1.tbls b ps q
  exact ⟨more,dif _ _ q' (fun z=>nomatch z)⟩
 ·intro a o q
  have hae:a≠e:=fun z=>by rw [z,zf1] at q;cases q
  rw [zf2 hae] at q
  refine (I.hok a o q).stay (fun b u hb hu=>?_) (fun b z=>dif _ _ z (fun z=>nomatch z)) fun b xs z=>dif _ _ z (fun z=>nomatch z)
  have hbe:b≠e:=by
   rcases hb with rfl | hb
   ·exact hae
   ·exact fun z=>by rw [z,ee] at hb;cases hb
  refine (sl b u hu fun z=>hbe (Xab.mp z)).1 fun z=>?_
  have hf:H2 b=none:=I.stkFree b z
  rcases hb with rfl | hb
  ·rw [hf] at q;cases q
  ·rw [hf] at hb;cases hb
 ·cases q:s.heap.get? T with
  | none=>rfl
  | some o =>
   obtain ⟨o',q'⟩:=b1.there T o q (nex T)
   rw [fT] at q';cases q'
 ·have:=I.hok.none_of fT
  unfold unt
  split
  ·rfl
  ·exact this
structure XIni (P:Program)(w:World)(K:W.Frag)(mg:Str→Option Value)(base:Heap)(k:Nat)(x:Str)(C:Addr)(sp:Sp):Prop where
 at_:mg x=some (.ref C)
 ex:∃ fI fd ps oI,ExcI K C fI∧(K.lookup fI=some oI∧oI.cls = .type "function")∧FnOk P w K mg base CX0 k fI fd ps sp∧Binds K fd ps []
def zjU (C:Addr)(sp:Sp)(E:XK)(t:TA):TS:=fun _ σ H=>t σ H fun vs H1=>vs.length≤1000∧∀ e,H1 e=none→sp ((.ref e :: vs) ++ []) (upd H1 e (.ext (xFr e C none))) (fun v H2=>v = .non∧∃ od,H2 e=some (.ext (xFr e C od))∧E (.ref C) od (unt H2 e)) E0
section
variable {X:Cx}{x:Str}{C:Addr}{e:Expr}{es:List Expr}{t:TA}{np cpos pos:Pos}{k:Nat}{sp:Sp}{E:XK}
theorem zhw (M:XIni X.prog X.w X.K X.mg X.base k x C sp)(hr:Room (k+1) X.A)(hg:Gl X x)(hc:X.calm=true)(hex:X.ex=[])(ha:PA X (e :: es) t)
  (hx:∀ (pins:List (Addr×Obj)) (σ:St) (H2:Hp) (s2:Shared) (ea:Addr) (od:Option Addr),Inv X pins σ H2 s2→H2 ea=some (.ext (xFr ea C od))→X.s₀.heap.get? ea=none→E (.ref C) od (unt H2 ea)→X.xe (.ref ea) s2)
  (hd:(x == ("__debug__" : Str))=false:=by decide) (hst:starEach (e :: es) X.env=(false,eval e X.env) :: starEach es X.env:=by rfl) (hpl:(backTo cpos (starEach es X.env)).any (·.1)=false:=by rfl) :
  PS X (.Raise (some (.Call (.Name x np) (e :: es) [] cpos)) none pos) (zjU C sp E t):=by
 intro pins s σ H D I h
 obtain ⟨hm,fI,fd,ps,oI,c,⟨hfI,hfc⟩,F,hb⟩:=M
 obtain ⟨nm,q,N,bs,bm,sn,sub,ab,col,dd,k0,k1,k2,k3,k5,hC,hN,hT⟩:=id c.ex
 obtain ⟨cN,d,es',ep,sl,hNl,hNs,hi⟩:=hN
 have T:=hT.tail I.kIn
 have hbase:bm.contains (.type "BaseException")=true:=T.hasType PySem.F.excBase_ValueError.hasBase
 refine zjO (C:=C) (nm:=nm) (q:=q) (N:=N) (bs:=bs) (bm:=bm) (hdct:=true) (sn:=sn) (sub:=sub) (ab:=ab) (col:=col) (dd:=dd) (k0:=k0) (k1:=k1) (k2:=k2) (k3:=k3) (k5:=k5) (mN:=nsFind es') (fI:=fI) (oI:=oI)
  hbase (I.ok.hd hc) (by rw [hst];show (false || (backTo cpos (starEach es X.env)).any (·.1))=false;rw [hpl];rfl) hi hfc (za4 I hg hm ⟨rfl,?_⟩ hd)
 have h2:=ha cpos pins s σ H _ I h
 rw [hst] at h2 ⊢
 refine Calls.evalArgs_plain (thn h2 fun us s2 h3=>?_)
 obtain ⟨vs,H1,I2,r,hl,q1⟩:=h3
 have hlen:us.length=vs.length:=r.length.symm
 refine ⟨rfl,by show us.length≤sizeLine;rw [hlen,sizeLine_eq];omega,I2.kIn _ _ hC,⟨_,es',ep,I2.kIn _ _ hNl,rfl,hNs,fun _=>rfl⟩,hT.tail I2.kIn,I2.kIn _ _ hfI,fun h' ea hm'=>?_⟩
 have hnone:H1 ea=none:=I2.hok.none_of hm'.new
 have ours:=I2.none_ours hm'.new (by rw [hex];simp)
 have J:Inv X pins σ H1 { s2 with heap:=h' }:=I2.kept (t':=s2.toks) hm'.keeps
 obtain ⟨tt,ht,_⟩:=hm'.there
 have J2:Inv X pins σ (upd H1 ea (.ext (xFr ea C none))) { s2 with heap:=h' }:=J.trackE hnone (fun H'=>zki ⟨tt,ht⟩) ours
 have q2:=q1 ea hnone
 have r2:Vals ((V.ref ea :: vs) ++ []) ((Value.ref ea :: us) ++ []):=(show Vals (V.ref ea :: vs) (Value.ref ea :: us) from .cons rfl r).append .nil
 have hl2:((Value.ref ea :: us) ++ []).length=ps.length:=by rw [← r2.length];exact F.len _ _ _ _ q2
 refine Xbm (Xbn (F.run _ X.stack _ _ ⟨Value.ref ea :: us,[]⟩ _ _ _ E0 (hr.make C us []) (J2.env0.make C us []) (hb _ (Value.ref ea :: us) J2.kIn hl2) r2 q2) fun rr s' hq=>?_)
 cases rr with
 | error ex=>exact False.elim hq
 | ok fl =>
  cases fl with
  | ret u =>
   obtain ⟨v,H',J3,rv,ev,od,e2,hE⟩:=J2.after hq
   subst ev
   obtain ⟨t3,g3⟩:=(show xFr ea C od s'.heap from (J3.hok ea _ e2).1)
   exact ⟨rv,t3,od,J3.kIn _ _ hC,g3,hx pins σ H' s' ea od J3 e2 ours.1 hE⟩
  | next=>exact False.elim hq
  | brk=>exact False.elim hq
  | cont=>exact False.elim hq
end
section
variable {X:Cx}{v:Expr}{es:List Expr}{p2:Pos}{ta:TE}{t:TJ}
end
end L2
end
section
namespace L2
open PySem PySem.Spec PyProof.Rows HT PySem.W PySem.Calls
section
variable {prog:Program}{w:World}{A:Around}
end
section
variable {X:Cx}
end
end L2
end
section
namespace L2
open PySem PySem.Spec PyProof.Rows PySem.SeqAt
def Itu (lo st:Int)(n:Nat):It:=⟨fun i _=>i<n,fun i H x H'=>H'=H∧x = .int (lo+i * st),fun i _=>n≤i⟩
theorem zft {P:Program}{w:World}{K:PySem.W.Frag}{tg:Expr}(it:Addr)(lo st:Int)(n:Nat):Turn P w K tg (Itu lo st n) [it] it (fun i h=>IsRangeIter h it (lo+(i:Nat) * st) ((n:Int) - (i:Nat)) st) where
 mem:=by simp
 obj:=fun i h st b hb=>by
  have e:b=it:=by simpa using hb
  subst e
  exact ⟨_,st,fun v z=>by
   have z':Data.fields _=Data.cell v:=z
   cases z'⟩
 keep:=fun i h h' st k=>k it (by simp) _ st
 item:=by
  intro X hP hw hK hc i pins s σ H E I hf st' hg
  subst hP hw hK
  obtain ⟨f0,f1,f2,f3,f4,f5⟩:=hf it (by simp)
  have W:=Walks.range (prog:=X.prog) (w:=X.w) (I.ok.hd hc) it lo st n
  refine W.item i s _ _ hg st' fun v h' tk hv st'' kk=>?_
  obtain ⟨t,rfl⟩:=hv
  have I1:Inv X pins σ H { s with heap:=h',toks:=tk }:=I.turned (fun b o hb e=>kk b o (by simpa using hb) e) f0 f1 f3 f4 f5
  exact ⟨_,rfl,zi8 (s:={ s with heap:=h',toks:=tk }) (n := "range_iterator") st'' rfl rfl (by decide) ⟨.int (lo+i * st),H,I1,⟨t,rfl⟩,⟨rfl,rfl⟩,st'',fun b hb=>(hf b hb).1⟩⟩
 done:=by
  intro X hP hw hK hc i pins s σ H E I hf st' hg
  subst hP hw hK
  obtain ⟨f0,f1,f2,f3,f4,f5⟩:=hf it (by simp)
  exact wpAny_pyNext_range_end (I.ok.hd hc) st' (by have:n≤i:=hg;omega) fun h' eb=>⟨rfl,I.turned (t':=s.toks) (fun b o hb e=>eb b o hb e) f0 f1 f3 f4 f5⟩
 self:=fun _ _ _ _ _ st h=>wpAny_pyIter_rangeiter st h
section
variable {X:Cx}{tg:Expr}
theorem zht {pins:List (Addr×Obj)}{σ:St}{H:Hp}{s:Shared}{R:It→Hp→Prop}{E:Value→Shared→Prop}{lo hi st:Int}{n:Nat}{t u v:Tok}{tk:Nat}(I:Inv X pins σ H s)(h1:Builtin.Range.small lo hi st=true)(hn:Builtin.Range.rangeSize lo hi st=(n:Int))
  (q:R (Itu lo st n) H):wpAny (model X.prog X.w) X.A (pyIter (.ref s.heap.objs.size)) (PIE X pins σ tg R) E { s with heap:=s.heap.push { cls:=.type "range",data:=.fields #[.int lo t,.int hi u,.int st v] },toks:=tk }:=by
 refine wpAny_pyIter_range (IsRange.new ..) h1 ?_
 have I1:Inv X pins σ H { s with heap:=s.heap.push { cls:=.type "range",data:=.fields #[.int lo t,.int hi u,.int st v] },toks:=tk }:=I.kept fun b o e=>Xad _ e
 refine ⟨(s.heap.push { cls:=.type "range",data:=.fields #[.int lo t,.int hi u,.int st v] }).objs.size,[(s.heap.push { cls:=.type "range",data:=.fields #[.int lo t,.int hi u,.int st v] }).objs.size],_,_,H,rfl,
  I1.kept (t':=tk) fun b o e=>Xad _ e,zft _ lo st n,?_,fun b hb=>?_,q⟩
 ·have e1:lo+((0:Nat):Int) * st=lo:=by simp
  have e2:(n:Int) - ((0:Nat):Int)=Builtin.Range.rangeSize lo hi st:=by rw [hn];simp
  show IsRangeIter _ _ (lo+((0:Nat):Int) * st) ((n:Int) - ((0:Nat):Int)) st
  rw [e1,e2]
  exact Xam _ rfl
 ·have e:b=(s.heap.push { cls:=.type "range",data:=.fields #[.int lo t,.int hi u,.int st v] }).objs.size:=by simpa using hb
  subst e
  exact I1.fpOk (Xaf _) (I1.hok.fresh (Xaf _))
inductive iRngS_1 (R:It→Hp→Prop)(vs:List V)(H1:Hp):Prop
 | mk (i j st:Int) (n:Nat) (z0_:vs=[.int i,.int j,.int st]) (z1_:st≠0) (z2_:Builtin.Range.small i j st=true) (z3_:Builtin.divisionGoesByPylong (j - i) st=false) (z4_:Builtin.Range.rangeSize i j st=(n:Int)) (z5_:R (Itu i st n) H1)
def iRngS (ta:TA):TI:=fun σ H R=>ta σ H (iRngS_1 R)
theorem zeQ {a b c:Expr}{ta:TA}{p pos:Pos}(hg:Gl X "range")(hm:X.mg "range" = none)(ha:PA X [a,b,c] ta)(hs:starEach [a,b,c] X.env=(false,eval a X.env) :: starEach [b,c] X.env:=by rfl)(hs2:(backTo pos (starEach [b,c] X.env)).any (·.1)=false:=by rfl) :
  PI X tg (.Call (.Name "range" p) [a,b,c] [] pos) (iRngS ta):=by
 intro pins s σ H R I h
 refine Call_ (zdC I hg hm boot_range (PyProof.Rows.callWith_type1 (thn (ha pos pins s σ H _ I h) fun us s1 hh_=>?_) hs hs2))
 obtain ⟨vs,H1,I1,r1,q1⟩:=hh_
 obtain ⟨i,j,st,n,e,hne,q1,q2,q3,q⟩:=q1
 subst e
 cases r1 with
 | cons r rr =>
  cases rr with
  | cons r' rr =>
   cases rr with
   | cons r'' rr =>
    cases rr
    obtain ⟨t,rfl⟩:=r
    obtain ⟨t',rfl⟩:=r'
    obtain ⟨t'',rfl⟩:=r''
    exact call_range_3 hne (zht I1 q1 q3 q) (.inl q2)
end
theorem zd0 {lo st:Int}{n:Nat}{g:TG}{tb:TS}{D:Ends}{σ:St}{H:Hp}(Pv:Nat→St→Hp→Prop)(h0:Pv 0 σ H)
  (hs:∀ i σ H,i<n→Pv i σ H→g (.int (lo+i * st)) σ H fun σ2 H2=>tb { D with nx:=Pv (i+1),ct:=Pv (i+1),bk:=D.nx } σ2 H2) (hd:∀ σ H,Pv n σ H→D.nx σ H) :
  ∃ W:Nat→Nat→St→Hp→Prop,(∃ m,W 0 m σ H)∧∀ i m σ H,W i m σ H →
   ((Itu lo st n).stop i H∧D.nx σ H)∨((Itu lo st n).go i H∧∃ N:St→Hp→Prop,(∀ σ' H',N σ' H'→∃ m',m'<m∧W (i+1) m' σ' H')∧∀ x H',(Itu lo st n).yld i H x H'→g x σ H' fun σ2 H2=>tb { D with nx:=N,ct:=N,bk:=D.nx } σ2 H2):=by
 refine ⟨fun i m σ H=>m=n - i∧i≤n∧Pv i σ H,⟨n,by simp,Nat.zero_le _,h0⟩,?_⟩
 rintro i m σ H ⟨rfl,hi,p⟩
 by_cases hlt:i<n
 ·refine .inr ⟨hlt,Pv (i+1),fun σ' H' p'=>⟨n - (i+1),by omega,rfl,hlt,p'⟩,fun x H' y=>?_⟩
  obtain ⟨e,y⟩:=y
  subst e y
  exact hs i σ _ hlt p
 ·have e:i=n:=by omega
  subst e
  exact .inl ⟨Xaf _,hd σ H p⟩
theorem zf7 {j st n:Nat}(hj:j≤1000)(hs:0<st)(hs2:st≤1000)(hn:n=(j+st - 1) / st):Builtin.Range.small 0 (j:Int) (st:Int)=true∧Builtin.divisionGoesByPylong ((j:Int) - 0) (st:Int)=false∧Builtin.Range.rangeSize 0 (j:Int) (st:Int)=(n:Int):=by
 have e:Builtin.Range.rangeSize 0 (j:Int) (st:Int)=(n:Int):=by
  unfold Builtin.Range.rangeSize
  rw [if_pos (show (st:Int) > 0 by omega)]
  by_cases h:j=0
  ·subst h
   rw [if_neg (by omega),hn,show 0+st - 1=st - 1 by omega,Nat.div_eq_of_lt (by omega)];rfl
  ·rw [if_pos (by omega),hn,show (j:Int) - 0 - 1=((j - 1:Nat):Int) by omega,show j+st - 1=(j - 1)+st by omega,Nat.add_div_right _ hs]
   rfl
 have hn2:n≤2000:=by rw [hn];exact Xar (Nat.div_le_self _ _) (by omega)
 have fits:∀ k:Int,0≤k→k≤100000→Builtin.Range.rangeFitsLong k=true:=fun k h1 h2=>by unfold Builtin.Range.rangeFitsLong;simp;omega
 refine ⟨?_,PyProof.noPylong_small (by omega),e⟩
 unfold Builtin.Range.small
 simp [e,fits 0 (by omega) (by omega),fits (st:Int) (by omega) (by omega),fits (n:Int) (by omega) (by omega),fits (j:Int) (by omega) (by omega)]
 right
 rw [if_pos hs]
 exact fits _ (by omega) (by omega)
end L2
end
section
namespace L2
open PySem
section
variable {X:Cx}
theorem ziR {K:W.Frag}{e:Expr}{ta:TE}{f:Str}{pos:Pos}(hK:X.K=K)(he:PE X e ta)(hb:attributeBase e f X.env (eval e X.env)=eval e X.env):PE X (.Attribute e f pos) (tFldX K ta f):=by
 subst hK;exact zj9 he hb
end
section
variable {P:Program}{w:World}{K:W.Frag}{mg:Str→Option Value}{base:Heap}{k:Nat}{C f:Addr}{fd:FuncData}{m:Str}{ps ks:List Str}{gV:List V→List V→List V}{sp:Sp}
end
end L2
end
section
namespace L2
open PySem
section
variable {P:Program}{w:World}{K:W.Frag}{mg:Str→Option Value}{base:Heap}{k:Nat}{C f:Addr}{fd:FuncData}{m:Str}{ps ks:List Str}{g:List Value→List Value→List Value}{gV:List V→List V→List V}{sp:Sp}
end
section
variable {X:Cx}{cn n:Str}{j:Nat}{Cb:Addr}{body hbody:List Stmt}{b₀:Stmt}{tb:(St→XK)→TS}{th:TS}{tr t:THd}{p4 p8 p9:Pos}{hs:List ExceptHandler}{h0:ExceptHandler}
end
section
variable {X:Cx}{k:Nat}{ks:List Str}{x:Str}{C:Addr}{gV:List V→List V→List V}{sp:Sp}{p pos:Pos}{e:Expr}{es:List Expr}{kws:List Keyword}{t tk:TA}
end
section
variable {X:Cx}{pins:List (Addr×Obj)}{σ:St}{H:Hp}{s:Shared}{a:Addr}
end
section
variable {X:Cx}{tg:Expr}
end
section
variable {X:Cx}{K:W.Frag}
end
section
variable {X:Cx}{a b e:Expr}{ta tb te:TE}{pos pos':Pos}{x:Str}
theorem pe_x {r:R2}(hr:IxR X r)(ha:PE X a ta)(hb:PE X b tb)(hs:zir b:=by exact fun _ _=>rfl):PE X (.Subscript a b pos) (tOp r ta tb):=pe_ix hr ha hb hs
theorem ps_L (i:Nat)(hN:X.N.Nodup)(he:PE X e te)(hi:X.N[i]? = some x:=by rfl)(hx:Loc X.env.scope x:=by exact Or.inl rfl)(hs:swapsWith e (some (.Name x pos')) pos.line X.env=pure false:=by rfl)(hf:X.fn x=true∨X.env.scope.names.lookup x=some .local:=by first | exact .inl rfl | exact .inr rfl | assumption):PS X (.Assign [.Name x pos'] e pos) (tAsg te (zaE i)):=zhv hN hi hx he hs hf
theorem pg_L (i:Nat)(hN:X.N.Nodup)(hi:X.N[i]? = some x:=by rfl)(hx:Loc X.env.scope x:=by exact Or.inl rfl)(hf:X.fn x=true∨X.env.scope.names.lookup x=some .local:=by first | exact .inl rfl | exact .inr rfl | assumption):PG X (.Name x pos) (zaE i):=zhA hN hi hx hf
theorem hrm {j k:Nat}{A:Around}(r:Room k A)(h:j≤k:=by first | exact Nat.le_of_ble_eq_true rfl | omega):Room j A:=r.mono h
theorem pe_c {k:Nat}{ps:List Str}{sp:Sp}{p:Pos}{e:Expr}{es:List Expr}{t:TA}(C:Cal X.prog X.w X.K X.mg X.base k x ps sp)(ha:PA X (e :: es) t)(hr:Room k X.A:=by exact hrm (by assumption))(hg:Gl X x:=by rfl)(hdb:(x == ("__debug__" : Str))=false:=by decide)
  (he:starEach (e :: es) X.env=(false,eval e X.env) :: starEach es X.env:=by rfl) (hpl:(backTo pos (starEach es X.env)).any (·.1)=false:=by rfl):PE X (.Call (.Name x p) (e :: es) [] pos) (zeD sp [] E0 t):=pe_cal C hr hg ha hdb he hpl
theorem sck {N P:List Str}{sc:Scope}(h1:sc.kind = .function)(h2:sc.isCoroutine=false)(h3:sc.isGenerator=false)(h:N.Nodup∧N.take P.length=P∧(∀ x∈P,sc.names.lookup x=some .local∨sc.names.lookup x=some .cell)∧∀ y∈sc.names,y.2≠.free):FnScope N P sc:=⟨h1,h2,h3,h.1,h.2.1,h.2.2.1,h.2.2.2⟩
end
end L2
end
section
namespace L2
open PySem PySem.Spec PyProof.Rows PySem.SeqAt
section
variable {X:Cx}{K:W.Frag}
inductive rEqLB (K:W.Frag)(x:V)(y:V)(H:Hp)(Q:VK):Prop
 | mk (a:_) (b:_) (bs:List Bool) (z0_:x = .ref a) (z1_:y = .ref b) (z2_:SqL K H a (bs.map V.bl)) (z3_:SqL K H b (bs.map V.bl)) (z4_:Q (.bl true) H)
theorem zhI (hu:X.A.units<cLine)(hK:X.K=K):OpR X (compareOp .Eq) (rEqLB K):=by
 subst hK
 rintro pins s σ H x y v u Q I rx ry ⟨a,b,bs,rfl,rfl,ha,hb,q⟩
 cases rx;cases ry
 obtain ⟨t1,r1,p1,_⟩:=I.list ha
 obtain ⟨t2,r2,p2,_⟩:=I.list hb
 have l1:=r1.length
 have l2:=r2.length
 refine RcAt.lists (e:=fun _=>true) p1.isList p2.isList (by rw [Xal,Xal];omega) hu (fun j h1 h2=>?_) _ _ _ _ ⟨.bl true,H,I,?_,q⟩
 ·have g1:j<t1.length:=by simpa using h1
  have g2:j<t2.length:=by simpa using h2
  have ex:(bs.map V.bl)[j]? = some ((bs.map V.bl)[j]'(by omega)):=Xau (by omega)
  obtain ⟨v1,z1,rx⟩:=r1.get ex
  obtain ⟨v2,z2,ry⟩:=r2.get ex
  have q1:t1.toArray[j]=v1:=by rw [Xa7];exact (Xae.mp z1).2
  have q2:t2.toArray[j]=v2:=by rw [Xa7];exact (Xae.mp z2).2
  rw [q1,q2]
  obtain ⟨c,_,e⟩:=XaC.mp (XaB ex)
  rw [← e] at rx ry
  cases rx;cases ry
  exact EqAt.same _
 ·show _=Value.bool true
  rw [show ((List.range t1.toArray.size).all fun _=>true)=true from Xa5.mpr fun _ _=>rfl]
end
section
open PySem.W PySem.Calls
variable {K:Frag}{x C:Addr}
def xIsD (x C:Addr)(h:Heap):Prop:=∃ oe vs dx oD,h.get? x=some oe∧(oe.cls = .ref C∧oe.dict=some dx)∧oe.data = .fields vs∧h.get? dx=some oD
theorem ze6 (c:XCls K C):KitX K (.ref x) (.ref C) (xIsD x C) where
 ty:=fun M h _ p=>by
  obtain ⟨o,vs,_,_,h1,⟨h2,_⟩,_⟩:=p
  rw [← h2]
  exact (Looks.ld h1).andThen .now
 it:=fun _ _ X _=>by
  obtain ⟨c',d',cd',sl',ho⟩:=c.look
  intro A' Q' E' s' k q
  unfold isType loadHead
  exact Xaa (wpAny_loadPart (k _ _ (X _ _ ho)) (Xac q))
 ne:=fun h tp dd its n sl X htp=>by
  obtain ⟨c',d',cd',sl',ho⟩:=c.look
  refine Bool.eq_false_iff.mpr fun q=>?_
  have e:C=tp:=Value.ref.inj (beq_iff_eq.mp q)
  subst e
  have z:=(X _ _ ho).symm.trans htp
  cases z
 ca:=fun {prog w A E Q s} X p k=>by
  obtain ⟨o,vs,dx,oD,h1,⟨h2,h3⟩,h4,h5⟩:=p
  have I:InstAt s.heap x o C (some oD):=⟨h1,h2,by unfold notCls;rw [h4],by rw [h3];exact h5⟩
  exact zhc X I c.ga c.gr (c.cf _) c.sub c.mro k
variable {X:Cx}
theorem zjC {pins:List (Addr×Obj)}{s:Shared}{σ:St}{H:Hp}{ea dx:Addr}{fs:List (Str×V)}(I:Inv X pins σ H s)(e:H ea=some (.ext (xIs ea (.ref C) (some dx))))(ed:H dx=some (.ext (xDc dx fs))):xIsD ea C s.heap:=by
 obtain ⟨oe,vs,g1,g2,g4⟩:=(show xIs ea (.ref C) (some dx) s.heap from (I.hok ea _ e).1)
 obtain ⟨_,mA,hn,r,wi⟩:=(show xDc dx fs s.heap from (I.hok dx _ ed).1)
 obtain ⟨oD,hoD,hl⟩:=zdA hn
 exact ⟨oe,vs,dx,oD,g1,g2,g4,hoD⟩
theorem zij (hK:X.K=K):zbx X (.builtin "isinstance") (fun xs H Q=>∃ (ea C dx:Addr) (fs:List (Str×V)) (c:V) (u:Value) (b:Bool),xs=[.ref ea,c]∧H ea=some (.ext (xIs ea (.ref C) (some dx)))∧H dx=some (.ext (xDc dx fs))∧XCls K C∧((∃ D,c = .ref D∧u=Value.ref D)∨∃ T,c = .ty T∧u=Value.type T)∧kitOne K (.ref C) u=some b∧Q (.bl b) H):=by
 subst hK
 intro pins s σ H xs us Q I r h
 obtain ⟨ea,C,dx,fs,c,u,b,rfl,e,ed,xc,hc,hk,q⟩:=h
 obtain ⟨v1,v2,rfl,r1,r2⟩:=zeB r
 obtain rfl:v1=Value.ref ea:=r1
 obtain rfl:v2=u:=by
  rcases hc with ⟨D,rfl,rfl⟩ | ⟨T,rfl,rfl⟩
  ·exact r2
  ·exact r2
 exact kia_one (ze6 xc) I.kIn (zjC I e ed) hk (fun z=>nomatch z) fun tk=>⟨.bl b,H,I.tok _,rfl,q⟩
theorem zg1 (hK:X.K=K):zbx X (.builtin "isinstance") (fun xs H Q=>∃ (ea C dx tp:Addr) (fs:List (Str×V)) (Ds:List Addr) (b:Bool),xs=[.ref ea,.ref tp]∧H ea=some (.ext (xIs ea (.ref C) (some dx)))∧H dx=some (.ext (xDc dx fs))∧XCls K C∧H tp=some (.tup (Ds.map V.ref))∧kitAny K (.ref C) (Ds.map Value.ref)=some b∧Q (.bl b) H):=by
 subst hK
 intro pins s σ H xs us Q I r h
 obtain ⟨ea,C,dx,tp,fs,Ds,b,rfl,e,ed,xc,ht,hk,q⟩:=h
 obtain ⟨v1,v2,rfl,r1,r2⟩:=zeB r
 obtain rfl:v1=Value.ref ea:=r1
 obtain rfl:v2=Value.ref tp:=r2
 obtain ⟨_,its,rv,⟨c0,d0,dt0,sl0⟩,g1,g2,n,g3⟩:=(show ObjOk X.prog X.w H s.heap tp (.tup (Ds.map V.ref)) from I.hok tp _ ht)
 simp only at g2 g3
 subst g2 g3
 have ei:its=Ds.map Value.ref:=zfB rv
 subst ei
 exact kia_tup (ze6 xc) I.kIn (zjC I e ed) g1 hk (fun z=>nomatch z) fun tk=>⟨.bl b,H,I.tok _,rfl,q⟩
end
section
variable {P:Program}{w:World}{K:W.Frag}{mg:Str→Option Value}{base:Heap}{k:Nat}{x:Str}{C:Addr}{ks:List Str}{gV:List V→List V→List V}{sp:Sp}
end
section
variable {prog:Program}{w:World}{A:Around}{E:Value→Shared→Prop}{s:Shared}
end
section
variable {X:Cx}{o:Expr}{td tv:TE}{pos p1 p2 p3:Pos}{k0:Nat}
end
end L2
end
section
namespace L2
open PySem PySem.Spec PyProof.Rows HT
section
variable {M:Model}{A:Around}{E:Value→Shared→Prop}{s:Shared}
theorem zgu {env:Env}{L e T:Addr}{cls:Value}{od:Option Addr}{Q:Unit→Shared→Prop}(hf:env.frame=some L)(x:XAt s.heap e T cls (rawInt L) od)(h:Q () s):wpAny M A (noteFrame (.ref e) env) Q E s:=by
 obtain ⟨oe,vs,oT,ts,he,hcls,hd,h1,hTe,hT,hdT,h3⟩:=x
 unfold noteFrame
 simp only [hf]
 refine Xaa (Xa8 he hd h1 ?_)
 rw [if_pos (show (Value.ref T != Value.none)=true from by simp)]
 refine Xaa (Xa8 hT hdT h3 ?_)
 rw [if_pos (show (rawInt L == rawInt L)=true from by simp)]
 exact Xac h
theorem zha {L e T:Addr}{cls fl:Value}{od:Option Addr}{Q:Unit→Shared→Prop}(x:XAt s.heap e T cls fl od)(h:∀ h',Slid [] [T] s.heap h'→XAt h' e T cls (rawInt L) od→Q () { s with heap:=h' }):wpAny M A (setFlight (.ref e) (some L)) Q E s:=by
 obtain ⟨oe,vs,oT,ts,he,hcls,hd,h1,hTe,hT,hdT,h3⟩:=x
 have hsz:=(Xbi.mp h3).1
 unfold setFlight
 refine Xaa (Xa8 he hd h1 ?_)
 rw [if_pos (show (Value.ref T != Value.none)=true from by simp)]
 refine XaQ hT hdT hsz (h _ ?_ ?_)
 ·exact Slid.of fun b o e hc=>(XaG _ _ fun z=>hc (by rw [z];exact Xbr _)).trans e
 ·have hd':=Obj.data_mapFields hdT (·.setIfInBounds 3 (rawInt L))
  have q:=XaH (Obj.mapFields (·.setIfInBounds 3 (rawInt L))) hT (Obj.isFreed_of_fields hd')
  exact ⟨oe,vs,_,_,(XaG _ _ hTe).trans he,hcls,hd,h1,hTe,q,hd',by simp [hsz]⟩
end
inductive Nt1 (P:Program)(w:World)(outer:List Env)(L:Addr)(H:Hp)(s:Shared)(E:XK)(e:Value)(s':Shared):Prop
 | mk (ea T:Addr) (H':Hp) (C:Addr) (od:Option Addr) (z0_:e = .ref ea) (z1_:s'.os=s.os) (z2_:AllBare s'.gens) (z3_:Un (frs outer) [] H H' s.heap s'.heap) (z4_:HOk P w H' s'.heap) (z5_:XAt s'.heap ea T (.ref C) (rawInt L) od) (z6_:s.heap.get? ea=none) (z7_:s.heap.get? T=none) (z8_:H' ea=none) (z9_:H' T=none) (z10_:E (.ref C) od H')
theorem Un.flight {outer:List Env}{H H':Hp}{h0 h1 h2:Heap}{T:Addr}(u:Un (frs outer) [] H H' h0 h1)(sl:Slid [] [T] h1 h2)(hT:h0.get? T=none):Un (frs outer) [] H H' h0 h2:=by
 have nT:∀ b o,h0.get? b=some o→b ∉ [T]:=fun b o q z=>by
  rw [Xab.mp z,hT] at q
  cases q
 refine ⟨fun b o q n hb z=>(sl b o (u.keep b o q n hb z) (nT b o q)).1 (by simp),fun b o q n hb z=>?_,u.free,fun b o q z=>?_,u.tups,u.frzs,u.tbls⟩
 ·obtain ⟨t1,e1⟩:=u.slot b o q n hb z
  exact (sl b _ e1 (nT b o q)).2.elim fun t3 e3=>⟨t3,e3⟩
 ·obtain ⟨o',e1⟩:=u.there b o q z
  obtain ⟨t3,e3⟩:=(sl b _ e1 (nT b o q)).2
  exact ⟨_,e3⟩
section
variable {P:Program}{w:World}{K:W.Frag}{mg:Str→Option Value}{base:Heap}{N:List Str}{qual:Str}{scope:Scope}{f:Addr}{cd:Value}{A:Around}{outer:List Env}{s:Shared}{H:Hp}{E:XK}
def flyE (P:Program)(w:World)(qual:Str)(scope:Scope)(f:Addr)(cd:Value)(A:Around)(outer:List Env)(s:Shared)(H:Hp)(E:XK):Value→Shared→Prop:=fun e s' =>
 wpAny (model P w) (A.deeper (envOfC qual scope s.heap.objs.size f cd)) (noteFrame e (envOfC qual scope s.heap.objs.size f cd)) (fun _ s''=>Nt1 P w outer s.heap.objs.size H s E e s'') (fun _ _=>False) s'
theorem Nt1.fly {e:Value}{s':Shared}(h:Nt1 P w outer s.heap.objs.size H s E e s'):flyE P w qual scope f cd A outer s H E e s':=by
 obtain ⟨ea,T,H',C,od,rfl,z1,z2,z3,z4,z5,z6,z7,z8,z9,z10⟩:=h
 exact zgu rfl z5 ⟨ea,T,H',C,od,rfl,z1,z2,z3,z4,z5,z6,z7,z8,z9,z10⟩
theorem zkz:PassesOwn (model P w) (A.deeper (envOfC qual scope s.heap.objs.size f cd)) (envOfC qual scope s.heap.objs.size f cd) (flyE P w qual scope f cd A outer s H E):=by
 intro e s' h
 refine Xas h (fun _ s'' q=>?_) fun _ _ z=>False.elim z
 obtain ⟨ea,T,H',C,od,rfl,z1,z2,z3,z4,z5,z6,z7,z8,z9,z10⟩:=q
 obtain ⟨oe,vs,oT,ts,he,hcls,hd,h1,hTe,hT,hdT,h3⟩:=id z5
 unfold cameBackBy
 refine Xaa (Xa8 he hd h1 ?_)
 rw [if_neg (show ¬ (Value.ref T == Value.none)=true from by simp)]
 refine zha (L:=s.heap.objs.size) z5 fun h' sl x=>Nt1.fly ⟨ea,T,H',C,od,rfl,z1,z2,z3.flight sl z7,?_,x,z6,z7,z8,z9,z10⟩
 exact z4.slid sl (fun b hb=>nomatch hb) fun b hb=>by rw [Xab.mp hb];exact z9
theorem zgY {e:Value}{s':Shared}(h:flyE P w qual scope f cd A outer s H E e s'):(cxOf (CX1 P w) P w K mg base N qual scope f cd A outer s H E).xe e s':=by
 show wpAny _ _ (leaving _ e) _ _ s'
 unfold leaving
 refine Xaa (Xas h (fun _ s'' q=>?_) fun _ _ z=>False.elim z)
 obtain ⟨ea,T,H',C,od,rfl,z1,z2,z3,z4,z5,z6,z7,z8,z9,z10⟩:=q
 refine zci z5 fun h' sl x=>⟨ea,T,H',C,od,rfl,z1,z2,z3.flight sl z7,?_,x,z6,z7,z8,z9,z10⟩
 exact z4.slid sl (fun b hb=>nomatch hb) fun b hb=>by rw [Xab.mp hb];exact z9
theorem zh3 {pins:List (Addr×Obj)}{σ:St}{H1:Hp}{s2:Shared}{h':Heap}{e C:Addr}{vs:List Value}(I:Inv ((cxOf (CX1 P w) P w K mg base N qual scope f cd A outer s H E).wish (flyE P w qual scope f cd A outer s H E)) pins σ H1 s2)(m:Heap.MadeExcOf s2.heap h' e (.ref C) vs)(hE:E (.ref C) none H1) :
  flyE P w qual scope f cd A outer s H E (.ref e) { s2 with heap:=h' }:=by
 have I:=I.unwish
 have I':Inv (cxOf (CX1 P w) P w K mg base N qual scope f cd A outer s H E) pins σ H1 { s2 with heap:=h' }:=I.kept (t':=s2.toks) m.keeps
 obtain ⟨t,he,_,_⟩:=m.there
 have b1:=I.base
 refine zcM I'.ok.frames I'.stack (L:=s.heap.objs.size) rfl he rfl rfl fun h'' T fT sl x=>?_
 have ne:∀ b o,s.heap.get? b=some o→b ∉ [e]:=fun b o q z=>by
  obtain ⟨o',q'⟩:=b1.there b o q (by show b ∉ ([]:List Addr);simp)
  rw [Xab.mp z,m.new] at q';cases q'
 have nL:∀ b o,s.heap.get? b=some o→b ∉ frs outer→b ∉ ((envOfC qual scope s.heap.objs.size f cd) :: outer).filterMap (·.frame):=fun b o q hb z=>by
  rcases Xap.mp (show b∈s.heap.objs.size :: outer.filterMap (·.frame) from z) with r | r
  ·exact absurd r (Xav (Xan q))
  ·exact hb r
 have kb:∀ b o,s2.heap.get? b=some o→h'.get? b=some o:=m.keeps
 refine ⟨e,T,H1,C,none,rfl,I.os,I.bare,⟨fun b o q n hb _=>?_,fun b o q n hb _=>?_,fun b o q n _=>b1.free b o q n (by show b ∉ ([]:List Addr);simp),fun b o q _=>?_,b1.tups,b1.frzs,b1.tbls⟩,?_,x,?_,?_,?_,?_,hE⟩
 ·exact (sl b o (kb _ _ (b1.keep b o q n hb (by show b ∉ ([]:List Addr);simp))) (ne b o q)).1 (nL b o q hb)
 ·obtain ⟨t1,e1⟩:=b1.slot b o q n hb (by show b ∉ ([]:List Addr);simp)
  obtain ⟨t2,e2⟩:=(sl b _ (kb _ _ e1) (ne b o q)).2
  exact ⟨t2,e2⟩
 ·obtain ⟨o',e1⟩:=b1.there b o q (by show b ∉ ([]:List Addr);simp)
  obtain ⟨t2,e2⟩:=(sl b _ (kb _ _ e1) (ne b o q)).2
  exact ⟨_,e2⟩
 ·refine I'.hok.slid sl (fun b hb=>I'.stkFree b hb) fun b hb=>?_
  rw [Xab.mp hb]
  exact I.hok.none_of m.new
 ·cases q:s.heap.get? e with
  | none=>rfl
  | some o=>exact absurd (Xbr e) (ne e o q)
 ·cases q:s.heap.get? T with
  | none=>rfl
  | some o =>
   obtain ⟨o',q'⟩:=b1.there T o q (by show T ∉ ([]:List Addr);simp)
   have:=kb _ _ q'
   rw [show h'.get? T=none from fT] at this;cases this
 ·exact I.hok.none_of m.new
 ·exact I'.hok.none_of fT
theorem PS.fly {st:Stmt}{t:TS}(h:PS ((cxOf (CX1 P w) P w K mg base N qual scope f cd A outer s H E).wish (flyE P w qual scope f cd A outer s H E)) st t):PS (cxOf (CX1 P w) P w K mg base N qual scope f cd A outer s H E) st t:=fun pins s σ H D I hw =>
 Xas (h pins s σ H D (I.wish _) hw) (fun _ _ q=>q.unwish) fun _ _ z=>zgY z
end
section
variable {X:Cx}{tg:Expr}
end
end L2
end
section
namespace L2
open PySem PySem.Spec PyProof.Rows PySem.SeqAt
section
variable {X:Cx}
end
end L2
end
section
namespace L2
open PySem PySem.Spec PyProof.Rows PySem.SeqAt
section
variable {X:Cx}
end
end L2
end
section
namespace L2
open PySem PySem.Spec PyProof.Rows PySem.SeqAt
section
variable {X:Cx}
end
end L2
end
section
namespace L2
open PySem PySem.Spec PyProof.Rows PySem.SeqAt
section
variable {X:Cx}
end
end L2
end
section
namespace L2
open PySem PySem.Spec PyProof.Rows PySem.SeqAt PySem.W
section
variable {X:Cx}{K:W.Frag}
theorem zdJ (hK:X.K=K):zbx X (.builtin "isinstance") (fun xs H Q=>∃ (ea C:Addr) (od:Option Addr) (c:V) (u:Value) (b:Bool),xs=[.ref ea,c]∧H ea=some (.ext (xIs ea (.ref C) od))∧(∀ dx,od=some dx→∃ fs,H dx=some (.ext (xDc dx fs)))∧XCls K C∧((∃ D,c = .ref D∧u=Value.ref D)∨∃ T,c = .ty T∧u=Value.type T)∧kitOne K (.ref C) u=some b∧Q (.bl b) H):=by
 intro pins s σ H xs us Q I r h
 obtain ⟨ea,C,od,c,u,b,e,e1,e2,xc,hc,hk,q⟩:=h
 cases od with
 | none=>exact zjh hK pins s σ H xs us Q I r ⟨ea,C,c,u,b,e,e1,xc,hc,hk,q⟩
 | some dx =>
  obtain ⟨fs,ef⟩:=e2 dx rfl
  exact zij hK pins s σ H xs us Q I r ⟨ea,C,dx,fs,c,u,b,e,e1,ef,xc,hc,hk,q⟩
theorem zg2 (hK:X.K=K):zbx X (.builtin "isinstance") (fun xs H Q=>∃ (ea C tp:Addr) (od:Option Addr) (Ds:List Addr) (b:Bool),xs=[.ref ea,.ref tp]∧H ea=some (.ext (xIs ea (.ref C) od))∧(∀ dx,od=some dx→∃ fs,H dx=some (.ext (xDc dx fs)))∧XCls K C∧H tp=some (.tup (Ds.map V.ref))∧kitAny K (.ref C) (Ds.map Value.ref)=some b∧Q (.bl b) H):=by
 intro pins s σ H xs us Q I r h
 obtain ⟨ea,C,tp,od,Ds,b,e,e1,e2,xc,ht,hk,q⟩:=h
 cases od with
 | none=>exact zii hK pins s σ H xs us Q I r ⟨ea,C,tp,Ds,b,e,e1,xc,ht,hk,q⟩
 | some dx =>
  obtain ⟨fs,ef⟩:=e2 dx rfl
  exact zg1 hK pins s σ H xs us Q I r ⟨ea,C,dx,tp,fs,Ds,b,e,e1,ef,xc,ht,hk,q⟩
end
end L2
end
section
namespace L2
open PySem PySem.Spec PyProof.Rows PySem.SeqAt PySem.W
section
variable {X:Cx}
theorem pe_c0 {k:Nat}{sp:Sp}{x:Str}{p pos:Pos}(C:Cal X.prog X.w X.K X.mg X.base k x [] sp)(hr:Room k X.A:=by exact hrm (by assumption))(hg:Gl X x:=by rfl)(hdb:(x == ("__debug__" : Str))=false:=by decide):PE X (.Call (.Name x p) [] [] pos) (zeD sp [] E0 tNil):=by
 obtain ⟨f,fd,F,hm,hk,hb⟩:=C.ex
 exact ziT F hr hg hm hk hb .nil zgF hdb
end
end L2
end
section
namespace L2
open PySem PySem.Spec PyProof.Rows PySem.SeqAt
inductive rNeLT (K:W.Frag)(x y:V)(H:Hp)(Q:VK):Prop
 | mk (a b:Addr) (xs ys:List V) (z0_:x = .ref a) (z1_:y = .ref b) (z2_:SqL K H a xs) (z3_:SqL K H b ys) (z4_:xs.length=ys.length) (z5_:(∀ (i:Nat) (x y:V),xs[i]? = some x→ys[i]? = some y→Eqv K H 8 x y)) (z6_:Q (.bl false) H)
theorem zkb {X:Cx}{K:W.Frag}(hu:X.A.units+9<cLine)(hK:X.K=K):OpR X (compareOp .NotEq) (rNeLT K):=by
 subst hK
 rintro pins s σ H x y v u Q I rx ry ⟨a,b,xs,ys,rfl,rfl,ha,hb,hl,h,q⟩
 cases rx;cases ry
 obtain ⟨t1,w1,p1,_⟩:=I.list ha
 obtain ⟨t2,w2,p2,_⟩:=I.list hb
 have l1:=w1.length
 have l2:=w2.length
 refine RcNeAt.lists (e:=fun _=>true) p1.isList p2.isList (by simp;omega) (by omega) (fun j h1 h2=>?_) _ _ _ _ ⟨.bl false,H,I,?_,q⟩
 ·have g1:j<t1.length:=by simpa using h1
  have g2:j<t2.length:=by simpa using h2
  have ex:xs[j]? = some (xs[j]'(by omega)):=Xau (by omega)
  have ey:ys[j]? = some (ys[j]'(by omega)):=Xau (by omega)
  obtain ⟨v1,z1,rx⟩:=w1.get ex
  obtain ⟨v2,z2,ry⟩:=w2.get ey
  have q1:t1.toArray[j]=v1:=by rw [Xa7];exact (Xae.mp z1).2
  have q2:t2.toArray[j]=v2:=by rw [Xa7];exact (Xae.mp z2).2
  rw [q1,q2]
  exact (h j _ _ ex ey).eqAt I X.A.in1 (by show X.A.units+1+8<cLine;omega) rx ry
 ·show _=Value.bool false
  rw [show (List.range t1.toArray.size).all (fun _=>true)=true from Xa5.mpr fun _ _=>rfl]
  rfl
end L2
end
local macro_rules | `(tactic| omega)=>`(tactic| lia)
set_option maxHeartbeats 8000000
namespace Cb
open PySem L2
def top (i:Nat):Stmt:=PySem.Challenge.pw_chipbus_k32_no_map.main.body.getD i (.Pass ⟨0,0,0,0⟩)
set_option tactic.hygienic true in
theorem zim {b:Int}{k:Nat}(h:b.natAbs<2 ^ k):Builtin.Int.intBits b≤k:=by
 unfold Builtin.Int.intBits
 split
 ·omega
 ·rename_i h0
  have h1:b.natAbs≠0:=by first | omega | (intro z;simp_all)
  have:=(Nat.log2_lt h1).mpr h
  omega
theorem zcQ {a b:Int}(ha:a.natAbs<2 ^ 200)(hb:b.natAbs<2 ^ 200):IntMulOk a b:=IntMulOk.of_bits (Xar (zim ha) (by decide)) (Xar (zim hb) (by decide))
theorem log_ok {m:Int}(h:0<m)(h2:m≤2 ^ 64):m.natAbs.log2<9000:=by
 have h1:m.natAbs≠0:=by omega
 exact Xaj ((Nat.log2_lt h1).mpr (show m.natAbs<2 ^ 65 by omega)) (by decide)
local macro_rules | `(tactic| walk_at "l")=>`(tactic| (rintro _ _ _ _ ⟨⟩;subst_vars;rfl))
local macro_rules | `(tactic| walk_at "sd")=>`(tactic| first | assumption | (exact ⟨by decide,by decide,by decide⟩) | (exact ⟨by assumption,by assumption⟩) | (exact ⟨by decide,by decide +kernel⟩) | (show (0:Int)<_;decide))
local macro_rules | `(tactic| walk_at "hp")=>`(tactic| first | assumption | exact zab)
local macro_rules | `(tactic| walk_at "vc")=>`(tactic| repeat (first | refine ⟨_,rfl,?_⟩ | refine ⟨_,_,rfl,rfl,?_⟩ | refine ⟨_,_,rfl,?_⟩ | refine ⟨_,_,_,_,rfl,rfl,SqL.of (by walk_at "hp"),rfl,?_⟩ | refine ⟨_,_,_,_,rfl,rfl,(by walk_at "hp"),rfl,?_⟩ | refine And.intro (by walk_at "sd") ?_))
theorem zf4 {t u:TS}{D:Ends}(S S':St→Hp→Prop)(h1:∀ σ H,S σ H→∀ N:St→Hp→Prop,(∀ σ' H',S' σ' H'→N σ' H')→t { D with nx:=N } σ H)(h2:∀ σ' H',S' σ' H'→u D σ' H'):∀ σ H,S σ H→tSeq t u D σ H:=
 fun σ H s=>h1 σ H s _ h2
theorem zaK {t u:TS}{D:Ends}{σ:St}{H:Hp}(S':St→Hp→Prop)(h1:∀ N:St→Hp→Prop,(∀ σ' H',S' σ' H'→N σ' H')→t { D with nx:=N } σ H)(h2:∀ σ' H',S' σ' H'→u D σ' H'):tSeq t u D σ H:=h1 _ h2
theorem ziG (m:Nat)(x:Nat):((List.replicate m [V.int (x:Int)]).flatten:List V)=vN (List.replicate m x):=by
 unfold vN
 rw [List.map_replicate]
 induction m with
 | zero=>rfl
 | succ m ih=>rw [XaZ,List.flatten_cons,ih,XaZ];rfl
theorem ln0 {α:Type}{P:List α→Prop}(us:List α)(h:us.length=0)(k:P []):P us:=by
 rw [List.eq_nil_of_length_eq_zero h];exact k
theorem lnS {α:Type}{P:List α→Prop}{n:Nat}(us:List α)(h:us.length=n+1)(k:∀ a (r:List α),r.length=n→P (a :: r)):P us:=by
 cases us with
 | nil=>cases h
 | cons a r=>exact k a r (Nat.succ.inj h)
theorem ln1 {α:Type}{P:List α→Prop}(us:List α)(h:us.length=1)(k:∀ a,P [a]):P us:=lnS us h fun a r h=>ln0 (P:=fun r=>P (a :: r)) r h (k a)
theorem ln2 {α:Type}{P:List α→Prop}(us:List α)(h:us.length=2)(k:∀ a b,P [a,b]):P us:=lnS us h fun a r h=>ln1 (P:=fun r=>P (a :: r)) r h (k a)
theorem ln3 {α:Type}{P:List α→Prop}(us:List α)(h:us.length=3)(k:∀ a b c,P [a,b,c]):P us:=lnS us h fun a r h=>ln2 (P:=fun r=>P (a :: r)) r h (k a)
theorem ln4 {α:Type}{P:List α→Prop}(us:List α)(h:us.length=4)(k:∀ a b c d,P [a,b,c,d]):P us:=lnS us h fun a r h=>ln3 (P:=fun r=>P (a :: r)) r h (k a)
theorem ln5 {α:Type}{P:List α→Prop}(us:List α)(h:us.length=5)(k:∀ a b c d e,P [a,b,c,d,e]):P us:=lnS us h fun a r h=>ln4 (P:=fun r=>P (a :: r)) r h (k a)
local macro_rules | `(tactic| walk_at "o")=>`(tactic| first | exact Or.inl rfl | exact Or.inr (Or.inl rfl) | exact Or.inr (Or.inr rfl))
local macro_rules | `(tactic| walk_at "p")=>`(tactic| first | exact .inl rfl | exact .inr rfl | assumption)
local macro_rules | `(tactic| walk_at "m")=>`(tactic| first | decide | omega)
theorem zhr {α:Type}(n:Nat)(x:α):(List.replicate n [x]).flatten=List.replicate n x:=by
 induction n with
 | zero=>rfl
 | succ n ih=>rw [XaZ,List.flatten_cons,ih,XaZ];rfl
theorem zeu {xs:List V}{m:Nat}(h:m≤xs.length):cutV xs none (some (m:Int))=xs.take m:=by
 unfold cutV HT.sIx
 have e:((m:Int)).toNat=m:=by omega
 simp only [List.drop_zero,Nat.sub_zero]
 split
 ·omega
 ·rw [e,Nat.min_eq_left h]
theorem zcL {P:Hp→Prop}{Hr:Hp}(R:Hp→Prop)(hr:R Hr)(h:∀ H',R H'→P H'):P Hr:=h _ hr
theorem zaz {D:Ends}{σ:St}{H:Hp}(h:D.nx σ H):tNext D σ H:=h
def mulL:List Nat→List Nat→List Nat
 | a :: r,b :: s=>(a * b) :: mulL r s
 | _,_=>[]
inductive D where
 | non | bl (b:Bool) | int (i:Int) | str | oth | tup (l:List D)
inductive Dv (p:Addr)(H:Hp):V→D→Prop where
 | non:Dv p H .non .non
 | bl (b:Bool):Dv p H (.bl b) (.bl b)
 | int (i:Int):Dv p H (.int i) (.int i)
 | str (x:Str):Dv p H (.str x) .str
 | lst {a:Addr} {xs:List V} (e:H a=some (.lst xs)) (ha:a≠p):Dv p H (.ref a) .oth
 | dic {a:Addr} {kvs:List (Key×V)} (e:H a=some (.dK kvs)) (ha:a≠p):Dv p H (.ref a) .oth
 | tup {a:Addr} {xs:List V} {ds:List D} (e:H a=some (.tup xs)) (ha:a≠p) (hl:xs.length=ds.length) (h:∀ (i:Nat) (x:V) (d:D),xs[i]? = some x→ds[i]? = some d→Dv p H x d):Dv p H (.ref a) (.tup ds)
theorem Dv.keep {p:Addr}{H H':Hp}{v:V}{d:D}(h:Dv p H v d)(k:KeepP p H H'):Dv p H' v d:=by
 induction h with
 | non=>exact .non
 | bl b=>exact .bl b
 | int i=>exact .int i
 | str x=>exact .str x
 | lst e ha=>exact .lst (k _ _ ha e) ha
 | dic e ha=>exact .dic (k _ _ ha e) ha
 | tup e ha hl _ ih=>exact .tup (k _ _ ha e) ha hl ih
theorem Dv.same {p:Addr}{H H':Hp}{v:V}{d:D}(h:Dv p H v d)(s:Same H H'):Dv p H' v d:=h.keep (.of s)
def tl:D→Nat
 | .tup l=>l.length
 | _=>0
def isI:D→Bool
 | .int _=>true
 | .bl _=>true
 | _=>false
def isB:D→Bool
 | .bl _=>true
 | _=>false
def isT:D→Bool
 | .tup _=>true
 | _=>false
theorem Dv.ty {K:W.Frag}{p:Addr}{H:Hp}{v:V}{d:D}(h:Dv p H v d):∃ t,TyOf K H v t∧W.kitOne K t (.type "int")=some (isI d)∧W.kitOne K t (.type "bool")=some (isB d)∧W.kitOne K t (.type "tuple")=some (isT d):=by
 cases h with
 | non=>exact ⟨_,.non,rfl,rfl,rfl⟩
 | bl b=>exact ⟨_,.bl b,rfl,rfl,rfl⟩
 | int i=>exact ⟨_,.int i,rfl,rfl,rfl⟩
 | str x=>exact ⟨_,.str x,rfl,rfl,rfl⟩
 | lst e _=>exact ⟨_,.lst e,rfl,rfl,rfl⟩
 | dic e _=>exact ⟨_,.dK e,rfl,rfl,rfl⟩
 | tup e _ _ _=>exact ⟨_,.tup e,rfl,rfl,rfl⟩
def numD (last:Int):D→Bool
 | .int i=>decide (0≤i∧i≤last)
 | _=>false
def natD:D→Nat
 | .int i=>i.toNat
 | _=>0
theorem za9 {last:Int}{d:D}(h:numD last d=true):∃ n:Nat,d = .int (n:Int)∧(n:Int)≤last:=by
 cases d with
 | int i =>
  have h:=XaO h
  exact ⟨i.toNat,by rw [Int.toNat_of_nonneg h.1],by rw [Int.toNat_of_nonneg h.1];exact h.2⟩
 | _=>cases h
def chD (last:Int)(m w:D):Bool:=numD last m && numD last w && decide (natD w &&& natD m=natD w)
def latD:D→Bool
 | .tup [c,m,w]=>numD 99 c && chD 255 m w
 | _=>false
def latN:D→Bool
 | .non=>true
 | d=>latD d
def rowD (last:Int):D→Bool
 | .tup [m,w,i,c,l]=>chD last m w && numD last i && decide (natD i &&& natD m=0) && numD 99 c && latN l
 | _=>false
inductive spIsNumD (vs:List V)(H:Hp)(Q:VK)(u3_:XK):Prop
 | mk (p:_) (v:_) (d:_) (last:_) (z0_:vs=[v,.int last]) (z1_:Dv p H v d) (z2_:Q (.bl (numD last d)) H)
inductive spChoice (vs:List V)(H:Hp)(Q:VK)(u3_:XK):Prop
 | mk (p:_) (v:_) (w:_) (d:_) (e:_) (last:_) (z0_:vs=[v,w,.int last]) (z1_:Dv p H v d) (z2_:Dv p H w e) (z3_:Q (.bl (chD last d e)) H)
inductive spLatD (vs:List V)(H:Hp)(Q:VK)(u3_:XK):Prop
 | mk (p:_) (v:_) (d:_) (z0_:vs=[v]) (z1_:Dv p H v d) (z2_:Q (.bl (latD d)) H)
inductive spRowD (vs:List V)(H:Hp)(Q:VK)(u3_:XK):Prop
 | mk (p:_) (v:_) (d:_) (n:Nat) (z0_:vs=[.int (n:Int),v]) (z1_:Dv p H v d) (z2_:1≤n) (z3_:n≤16) (z4_:∀ H',Same H H'→Q (.bl (rowD (2 ^ n - 1) d)) H')
inductive spSize (vs:List V)(H:Hp)(Q:VK)(u3_:XK):Prop
 | mk (n:Nat) (z0_:vs=[.int (n:Int)]) (z1_:n≤16) (z2_:Q (.int (2 ^ n)) H)
theorem zkE {xs:List V}{lo hi:Option Int}{x:V}(h:x∈cutV xs lo hi):x∈xs:=Xbo (Xbp h)
theorem zeJ:∀ l:List Nat,Bit l→sgl (num (l ++ [1]))=sgl (num l) ++ [2 ^ l.length]
 | [],_=>by
  show sgl (2 * 0+1)=sgl 0 ++ [1]
  rw [zdd,zc3];rfl
 | b :: l,h=>by
  have ih:=zeJ l fun x hx=>h x (Xax _ hx)
  have hb:=h b XaE
  have e1:num (b :: (l ++ [1]))=b+2 * num (l ++ [1]):=rfl
  have e2:num (b :: l)=b+2 * num l:=rfl
  rw [List.cons_append,e1,e2]
  rcases (show b=0∨b=1 by omega) with rfl | rfl
  ·rw [Nat.zero_add,Nat.zero_add,zbR,zbR,ih,XaV,Xaw,Xbg,Nat.mul_comm];rfl
  ·rw [Nat.add_comm 1,Nat.add_comm 1,zdd,zdd,ih,XaV,Xaw,Xbg,Nat.mul_comm];rfl
theorem ze3:∀ l:List Nat,num (l ++ [0])=num l
 | []=>rfl
 | b :: l=>by
  have e1:num (b :: (l ++ [0]))=b+2 * num (l ++ [0]):=rfl
  rw [List.cons_append,e1,ze3 l];rfl
theorem strKey {v:Value}(h:(match v with | .str _ _=>true | _=>false)=true):∃ n t,v = .str n t:=by
 cases v with
 | str n t=>exact ⟨n,t,rfl⟩
 | _=>cases h
theorem zbw (m:Nat):ones (2 * m)=ones m:=by rw [zds,show 2 * m % 2=0 by omega,show 2 * m / 2=m by omega];omega
theorem zcp (m:Nat):ones (2 * m+1)=ones m+1:=by rw [zds,show (2 * m+1) % 2=1 by omega,show (2 * m+1) / 2=m by omega];omega
theorem zdq:ones 0=0:=by simp [ones]
theorem zkB {P:Nat→Nat→Prop}(h0:P 0 0)(hee:∀ m o,P m o→P (2 * m) (2 * o))(hoe:∀ m o,P m o→P (2 * m+1) (2 * o))(heo:∀ m o,P m o→P (2 * m) (2 * o+1)):∀ m o,m &&& o=0→P m o:=by
 have key:∀ k m o,m+o≤k→m &&& o=0→P m o:=by
  intro k
  induction k with
  | zero =>
   intro m o h _
   obtain ⟨rfl,rfl⟩:m=0∧o=0:=by omega
   exact h0
  | succ k ih =>
   intro m o hk hd
   by_cases hz:m+o=0
   ·obtain ⟨rfl,rfl⟩:m=0∧o=0:=by omega
    exact h0
   obtain ⟨x,hx⟩:∃ x,m=2 * x∨m=2 * x+1:=⟨m / 2,by omega⟩
   obtain ⟨y,hy⟩:∃ y,o=2 * y∨o=2 * y+1:=⟨o / 2,by omega⟩
   rcases hx with rfl | rfl <;> rcases hy with rfl | rfl
   ·rw [zhT] at hd;exact hee x y (ih x y (by omega) (by omega))
   ·rw [zhU] at hd;exact heo x y (ih x y (by omega) (by omega))
   ·rw [zfS] at hd;exact hoe x y (ih x y (by omega) (by omega))
   ·rw [zi6] at hd;omega
 exact fun m o h=>key _ m o (Xaf _) h
theorem zjc:∀ m o,m &&& o=0→ones (m+o)=ones m+ones o:=by
 refine zkB ?_ ?_ ?_ ?_
 ·rw [zdq]
 ·intro m o ih;rw [show 2 * m+2 * o=2 * (m+o) by omega,zbw,zbw,zbw,ih]
 ·intro m o ih;rw [show 2 * m+1+2 * o=2 * (m+o)+1 by omega,zcp,zcp,zbw,ih];omega
 ·intro m o ih;rw [show 2 * m+(2 * o+1)=2 * (m+o)+1 by omega,zcp,zcp,zbw,ih];omega
theorem bor (a b:Nat):Builtin.bitOr (a:Int) (b:Int)=((a ||| b:Nat):Int):=by
 unfold Builtin.bitOr Builtin.bitAnd Builtin.bitNot
 rw [Xag (show ¬ (0:Int)≤-(a:Int) - 1 by omega),Xag (show ¬ (0:Int)≤-(b:Int) - 1 by omega)]
 show -(-((((-(-(a:Int) - 1) - 1).toNat ||| (-(-(b:Int) - 1) - 1).toNat:Nat)):Int) - 1) - 1=_
 rw [show -(-(a:Int) - 1) - 1=(a:Int) by omega,show -(-(b:Int) - 1) - 1=(b:Int) by omega,Xak,Xak]
 omega
theorem zhm {H H':Hp}{p:Addr}(s:Same H H')(h:H' p=none):H p=none:=by
 cases e:H p with
 | none=>rfl
 | some o=>rw [s _ _ e] at h;cases h
theorem zey (op:Nat→Nat→Nat)(f:Bool→Bool→Bool)(hop:∀ a b i,(op a b).testBit i=f (a.testBit i) (b.testBit i))(hf:f false false=false)(x y:Nat) :
  op x y=(f (x % 2 == 1) (y % 2 == 1)).toNat+2 * op (x / 2) (y / 2):=by
 apply Nat.eq_of_testBit_eq
 intro i
 cases i with
 | zero =>
  rw [hop]
  simp only [Nat.testBit_zero]
  cases h:f (x % 2 == 1) (y % 2 == 1) <;> simp_all [Nat.add_mod]
 | succ i =>
  rw [hop]
  simp only [Xa6]
  rw [show ((f (x % 2 == 1) (y % 2 == 1)).toNat+2 * op (x / 2) (y / 2)) / 2=op (x / 2) (y / 2) by cases f (x % 2 == 1) (y % 2 == 1) <;> simp <;> omega,hop]
theorem or_is:∀ a b:Nat,a ||| b=(a ^^^ b)+(a &&& b):=by
 intro a
 induction a using Nat.strongRecOn with
 | _ a ih =>
  intro b
  by_cases h0:a=0
  ·subst h0;simp
  have e1:a ||| b=((a % 2 == 1) || (b % 2 == 1)).toNat+2 * (a / 2 ||| b / 2):=zey (· ||| ·) (· || ·) Nat.testBit_or rfl a b
  have e2:a ^^^ b=(Bool.xor (a % 2 == 1) (b % 2 == 1)).toNat+2 * (a / 2 ^^^ b / 2):=zey (· ^^^ ·) Bool.xor Nat.testBit_xor rfl a b
  have e3:a &&& b=((a % 2 == 1) && (b % 2 == 1)).toNat+2 * (a / 2 &&& b / 2):=zey (· &&& ·) (· && ·) XaA rfl a b
  have e4:=ih (a / 2) (by omega) (b / 2)
  rw [e1,e2,e3,e4]
  cases (a % 2 == 1) <;> cases (b % 2 == 1) <;> simp <;> omega
theorem bxor (a b:Nat):Builtin.bitXor (a:Int) (b:Int)=((a ^^^ b:Nat):Int):=by
 unfold Builtin.bitXor
 rw [bor,band,or_is]
 omega
def agr (m w n v:Nat):Bool:=decide ((w ^^^ v) &&& m &&& n=0)
inductive spAgr (vs:List V)(H:Hp)(Q:VK)(u3_:XK):Prop
 | mk (m w n v:Nat) (z0_:vs=[.int (m:Int),.int (w:Int),.int (n:Int),.int (v:Int)]) (z1_:Q (.bl (agr m w n v)) H)
def LatV (H:Hp)(v:V):Option (Nat×Nat×Nat)→Prop
 | none=>v = .non
 | some (c,a,b)=>∃ u:Addr,v = .ref u∧H u=some (.tup [.int (c:Int),.int (a:Int),.int (b:Int)])
def latA:Option (Nat×Nat×Nat)→Option (Nat×Nat×Nat)→Bool
 | some (c,a,b),some (d,x,y)=>if c=d then agr a b x y else true
 | _,_=>true
inductive spLatA (vs:List V)(H:Hp)(Q:VK)(u3_:XK):Prop
 | mk (x:_) (y:_) (o:_) (p:_) (z0_:vs=[x,y]) (z1_:LatV H x o) (z2_:LatV H y p) (z3_:Q (.bl (latA o p)) H)
structure Rw where
 m:Nat
 w:Nat
 i:Nat
 c:Nat
 l:Option (Nat×Nat×Nat)
def RwAt (H:Hp)(t:Addr)(r:Rw):Prop:=∃ lt:V,H t=some (.tup [.int (r.m:Int),.int (r.w:Int),.int (r.i:Int),.int (r.c:Int),lt])∧LatV H lt r.l
def zba (r q:Rw):Bool:=agr r.m r.w q.m q.w && latA r.l q.l
inductive spClash (vs:List V)(H:Hp)(Q:VK)(u3_:XK):Prop
 | mk (t:_) (u:_) (r:_) (q:_) (z0_:vs=[.ref t,.ref u]) (z1_:RwAt H t r) (z2_:RwAt H u q) (z3_:Q (.bl (zba r q)) H)
theorem zfl:bootBuiltins "sorted" = some (.builtin "sorted"):=by decide +kernel
theorem LatV.same {H H':Hp}{v:V}{o:Option (Nat×Nat×Nat)}(h:LatV H v o)(s:Same H H'):LatV H' v o:=by
 match o,h with
 | none,h=>exact h
 | some (c,a,b),⟨u,e,eu⟩=>exact ⟨u,e,s _ _ eu⟩
theorem RwAt.same {H H':Hp}{t:Addr}{r:Rw}(h:RwAt H t r)(s:Same H H'):RwAt H' t r:=by
 obtain ⟨lt,e,hl⟩:=h
 exact ⟨lt,s _ _ e,hl.same s⟩
def ziu:Option (Nat×Nat×Nat)→Prop
 | none=>True
 | some (c,a,b)=>c<100∧a<256∧b &&& a=b
structure RwOk (m:Nat)(r:Rw):Prop where
 m0:r.m<2 ^ m
 w0:r.w<2 ^ m
 wm:r.w &&& r.m=r.w
 i0:r.i<2 ^ m
 im:r.i &&& r.m=0
 c0:r.c<100
 l0:ziu r.l
theorem hu9_of {A:Around}{k:Nat}(hr:Room k A):A.units+9<cLine:=by have:=hr.un;omega
def NC (r q:Rw):Prop:=zba r q=false∧zba q r=false
theorem zje {xs:List V}{m:Nat}(h:m≤xs.length):cutV xs (some (m:Int)) none=xs.drop m:=by
 unfold cutV HT.sIx
 have e:((m:Int)).toNat=m:=by omega
 simp only
 split
 ·omega
 ·rw [e,Nat.min_eq_left h]
  exact XaX (by rw [Xa3];exact Xaf _)
def RwsAt2 (m:Nat)(X:Hp)(ws:List (Addr×Rw)):Prop:=∀ z∈ws,RwAt X z.1 z.2∧RwOk m z.2
theorem RwsAt2.same {m:Nat}{X Y:Hp}{ws:List (Addr×Rw)}(h:RwsAt2 m X ws)(s:Same X Y):RwsAt2 m Y ws:=fun z hz=>⟨(h z hz).1.same s,(h z hz).2⟩
def refs {α:Type}(ws:List (Addr×α)):List V:=ws.map fun z=>.ref z.1
theorem zat {α:Type}(ws:List (Addr×α)):(refs ws).length=ws.length:=Xah ..
theorem zjD {K:W.Frag}{i j:Nat}{T:Addr}{x y:V}{σ:St}{H:Hp}{Q:St→Hp→Prop}(e:H T=some (.tup [x,y]))(h:Q ((σ.set i (some x)).set j (some y)) H) :
  gTup K 2 (gCons (zaE i) (gCons (zaE j) gNil)) (.ref T) σ H Q:=
 ⟨T,[x,y],rfl,SqT.of e,rfl,x,[y],rfl,y,[],rfl,rfl,h⟩
theorem LatV.updL {X:Hp}{l:Addr}{v:V}{o:Option (Nat×Nat×Nat)}{xs ys:List V}(h:LatV X v o)(hl:X l=some (.lst xs)):LatV (upd X l (.lst ys)) v o:=by
 match o,h with
 | none,h=>exact h
 | some (c,a,b),⟨u,e,eu⟩=>exact ⟨u,e,by rw [zai (fun z=>by rw [z,hl] at eu;cases eu)];exact eu⟩
theorem RwAt.updL {X:Hp}{l t:Addr}{r:Rw}{xs ys:List V}(h:RwAt X t r)(hl:X l=some (.lst xs)):RwAt (upd X l (.lst ys)) t r:=by
 obtain ⟨lt,e,hlt⟩:=h
 exact ⟨lt,by rw [zai (fun z=>by rw [z,hl] at e;cases e)];exact e,hlt.updL hl⟩
theorem zj4 {α:Type}{ws:List (Addr×α)}{k:Nat}{z:Addr×α}(h:ws[k]? = some z):(refs ws)[k]? = some (.ref z.1):=by unfold refs;rw [Xat,h];rfl
theorem zbC {α:Type}{ws:List (Addr×α)}{k:Nat}{x:V}(h:(refs ws)[k]? = some x):∃ z,ws[k]? = some z∧x = .ref z.1:=by
 unfold refs at h
 rw [Xat] at h
 obtain ⟨z,h1,h2⟩:=XaJ.mp h
 exact ⟨z,h1,h2.symm⟩
def mapD (last:Int):D→Bool
 | .tup l=>l.all (rowD last)
 | _=>false
inductive spMapD (vs:List V)(H:Hp)(Q:VK)(u3_:XK):Prop
 | mk (p:_) (v:_) (d:_) (n:Nat) (z0_:vs=[.int (n:Int),v]) (z1_:Dv p H v d) (z2_:tl d≤300) (z3_:1≤n) (z4_:n≤16) (z5_:∀ H',Same H H'→Q (.bl (mapD (2 ^ n - 1) d)) H')
def zc2:Option (Nat×Nat×Nat)→D
 | none=>.non
 | some (c,a,b)=>.tup [.int (c:Int),.int (a:Int),.int (b:Int)]
def zaI (r:Rw):D:=.tup [.int (r.m:Int),.int (r.w:Int),.int (r.i:Int),.int (r.c:Int),zc2 r.l]
theorem zko {m n:Nat}(h:n<2 ^ m):numD (2 ^ m - 1) (.int (n:Int))=true:=by
 refine Xai ⟨by omega,?_⟩
 have:((2 ^ m:Nat):Int)=(2:Int) ^ m:=by norm_cast
 have h2:(n:Int)<((2 ^ m:Nat):Int):=Int.ofNat_lt.mpr h
 omega
theorem map_ok {m:Nat}{ws:List (Addr×Rw)}(h:∀ z∈ws,RwOk m z.2):mapD (2 ^ m - 1) (.tup (ws.map fun z=>zaI z.2))=true:=by
 show (ws.map fun z=>zaI z.2).all (rowD (2 ^ m - 1))=true
 rw [List.all_map,Xa5]
 intro z hz
 have ok:=h z hz
 show (chD (2 ^ m - 1) (.int (z.2.m:Int)) (.int (z.2.w:Int)) && numD (2 ^ m - 1) (.int (z.2.i:Int)) && decide (natD (.int (z.2.i:Int)) &&& natD (.int (z.2.m:Int))=0) && numD 99 (.int (z.2.c:Int)) && latN (zc2 z.2.l))=true
 have hc:numD 99 (.int (z.2.c:Int))=true:=Xai ⟨by omega,by have:=ok.c0;omega⟩
 have hl:latN (zc2 z.2.l)=true:=by
  have l0:=ok.l0
  cases hl:z.2.l with
  | none=>rfl
  | some o =>
   obtain ⟨c,a,b⟩:=o
   rw [hl] at l0
   obtain ⟨h1,h2,h3⟩:=l0
   show (numD 99 (.int (c:Int)) && chD 255 (.int (a:Int)) (.int (b:Int)))=true
   have hb:b≤a:=by rw [← h3];exact XbB
   have g1:numD 99 (.int (c:Int))=true:=Xai ⟨by omega,by omega⟩
   have g2:numD 255 (.int (a:Int))=true:=Xai ⟨by omega,by omega⟩
   have g3:numD 255 (.int (b:Int))=true:=Xai ⟨by omega,by omega⟩
   unfold chD
   rw [g1,g2,g3]
   simp only [natD,Xak,h3,Bool.true_and,decide_true]
 unfold chD
 rw [zko ok.m0,zko ok.w0,zko ok.i0,hc,hl]
 simp only [natD,Xak,ok.wm,ok.im,Bool.true_and,Bool.and_true,decide_true]
theorem lnB0 {α:Type}{P:List α→Prop}(k:P []):∀ us:List α,us.length=0→P us:=fun us h=>by
 cases us with
 | nil=>exact k
 | cons _ _=>cases h
theorem lnB1 {α:Type}{P:List α→Prop}(k:∀ a,P [a]):∀ us:List α,us.length=1→P us:=fun us h=>ln1 us h k
theorem lnB2 {α:Type}{P:List α→Prop}(k:∀ a b,P [a,b]):∀ us:List α,us.length=2→P us:=fun us h=>ln2 us h k
theorem lnB3 {α:Type}{P:List α→Prop}(k:∀ a b c,P [a,b,c]):∀ us:List α,us.length=3→P us:=fun us h=>ln3 us h k
theorem lnB4 {α:Type}{P:List α→Prop}(k:∀ a b c d,P [a,b,c,d]):∀ us:List α,us.length=4→P us:=fun us h=>ln4 us h k
section
variable {P:Program}{w:World}{K:W.Frag}{mg:Str→Option Value}{base:Heap}{k:Nat}{f C:Addr}{fd:FuncData}{ps ks:List Str}{sp:Sp}{x m:Str}{g:List Value→List Value→List Value}{gV:List V→List V→List V}
theorem zfk (G:FnOk P w K mg base CX0 k f fd ps sp)(a:mg x=some (.ref f))(kp:W.keepIn K (.ref f)=true)(b:Binds K fd ps []):Cal P w K mg base k x ps sp:=⟨f,fd,G,a,kp,b⟩
theorem zkp (c:Cls K C)(a:W.findIn K (.ref C) m=some (some (.ref f)))(fn:W.isFn K (.ref f)=true)(kp:W.keepIn K (.ref f)=true)(G:FnOk P w K mg base CX0 k f fd ps sp)(b:KBinds K fd ps ks g gV):Mth P w K mg base k C m ks gV sp:=⟨c,f,fd,ps,g,⟨a,fn,kp⟩,G,b⟩
theorem mth_mk (c:Cls K C)(a:W.findIn K (.ref C) m=some (some (.ref f)))(fn:W.isFn K (.ref f)=true)(kp:W.keepIn K (.ref f)=true)(G:FnOk P w K mg base CX0 k f fd ps sp)(b:Binds K fd ps []):Mth P w K mg base k C m [] (fun vs _=>vs) sp:=zkp c a fn kp G (.pos b)
theorem zdy (a:mg x=some (.ref C))(mk:W.makesIn K C=true)(at_:W.findIn K (.ref C) "__init__" = some (some (.ref f)))(fn:W.isFn K (.ref f)=true)(kc:W.keepIn K (.ref C)=true)(G:FnOk P w K mg base CX0 k f fd ps sp)(b:KBinds K fd ps ks g gV):Mak P w K mg base k x C ks gV sp:=⟨a,f,fd,ps,g,⟨mk,at_,fn,kc⟩,G,b⟩
end
local macro_rules | `(tactic| walk_at "bd")=>`(tactic| (refine Fun.binds (by assumption) ?_;intro _ _ _ _ _ _;first | exact lnB1 fun _=>rfl | exact lnB2 fun _ _=>rfl | exact lnB3 fun _ _ _=>rfl | exact lnB4 fun _ _ _ _=>rfl | exact lnB5 fun _ _ _ _ _=>rfl | exact lnB6 fun _ _ _ _ _ _=>rfl | exact lnB7 fun _ _ _ _ _ _ _=>rfl | exact lnB0 rfl))
structure Nums (mg:Str→Option Value):Prop where
 MOST_BITS:∃ t,mg "MOST_BITS" = some (.int 16 t)
 LAST_CHIP:∃ t,mg "LAST_CHIP" = some (.int 99 t)
 LAST_WORD:∃ t,mg "LAST_WORD" = some (.int 255 t)
 MOST_CELLS:∃ t,mg "MOST_CELLS" = some (.int 4096 t)
 MOST_ROOM:∃ t,mg "MOST_ROOM" = some (.int 255 t)
 SIXTEEN:∃ t,mg "SIXTEEN" = some (.str "0123456789abcdef" t)
 READ:∃ t,mg "READ" = some (.str "read" t)
 WRITE:∃ t,mg "WRITE" = some (.str "write" t)
 BOTH:∃ t,mg "BOTH" = some (.str "both" t)
abbrev zbL:Stmt:=top 15
theorem scsingle_ones:FnScope ["mask","singles","rest"] ["mask"] (zak zbL):=sck rfl rfl rfl (by decide +kernel)
section
variable {P:Program}{w:World}{K:W.Frag}{mg:Str→Option Value}{base:Heap}
theorem zeo {f:Addr}{fd:FuncData}(F:Fun K "single_ones" "single_ones" zbL f fd)(T:Blt mg):FnOk P w K mg base CX0 1 f fd ["mask"] spSingles:=by
 refine F.ok scsingle_ones (by walk_at "l") (fun cdv A outer s H vs Q E hr h=>?_)
 ·obtain ⟨n,rfl,hn,k⟩:=h
  refine ⟨_,(zaf (ps_L 1 scsingle_ones.nd (zaq zae))
   (zaf (zef PassesOwn.never (zan zdp (pv 0) zac (zar _)) (zaf (ps_L 2 scsingle_ones.nd (zaj zaU (pv 0) (zaj za0 (pv 0) zac)))
   (zaf (zaF (zdO PySem.F.plainAttrs_list PySem.F.slot_list_append PySem.F.type_list_append zaV (pv 1) (zaa (zaj za0 (pv 0) (pv 2)) zae)))
   (zag (ps_L 0 scsingle_ones.nd (pv 2))))))
   (zag (zas (pv 1))))),?rd⟩
  refine ⟨by show 0≤sizeLine;decide,fun l hl=>?_⟩
  refine zd4 (fun σ H2=>∃ (m:Nat) (r:Option V) (d:List Nat),σ=[some (.int (m:Int)),some (.ref l),r]∧m<2 ^ 64∧Same H H2∧H2 l=some (.lst (vN d))∧d ++ sgl m=sgl n) (fun σ _=>match σ with | some (.int i) :: _=>i.toNat | _=>0)
   ⟨n,none,[],rfl,hn,zad hl,zab,rfl⟩ ?_ ?_
  ·rintro σ H2 ⟨m,r,d,rfl,hm,hs,hL,hd⟩
   walk_at "vc"
   refine ite2 (fun h1=>?_) (fun h1=>?_)
   ·have h1:0<m:=by have:=XaO h1;omega
    obtain ⟨s1,s2⟩:=ziA m h1
    have e1:((m:Int) - 1)=((m - 1:Nat):Int):=by omega
    walk_at "vc"
    have hlen:(vN d).length<sizeLine:=by
     have h2:=congrArg List.length hd
     rw [Xaq,zbt,zbt] at h2
     have h3:=zdr 64 n hn
     rw [zax];exact zdb (by omega)
    refine ⟨.inl ⟨rfl,_,SqL.of hL⟩,?_⟩
    walk_at "vc"
    refine ⟨l,_,_,rfl,rfl,hL,hlen,?_⟩
    walk_at "vc"
    have e2:Builtin.bitAnd (m:Int) ((m:Int) - 1)=((m &&& (m - 1):Nat):Int):=by rw [e1,band]
    have e3:(m:Int) - Builtin.bitAnd (m:Int) ((m:Int) - 1)=((m - (m &&& (m - 1)):Nat):Int):=by rw [e2];omega
    refine ⟨⟨m &&& (m - 1),some (.int ((m &&& (m - 1):Nat):Int)),d ++ [m - (m &&& (m - 1))],?_,by omega,fun b o e=>?_,?_,?_⟩,?_⟩
    ·show List.set (List.set _ _ _) _ _=_
     simp only [List.set]
     rw [e2]
    ·rw [zai (zah e hl)];exact hs b o e
    ·rw [zab,zb2,← e3]
    ·rw [← hd,s2];simp
    ·show (Builtin.bitAnd (m:Int) ((m:Int) - 1)).toNat<((m:Nat):Int).toNat
     rw [e2];simpa using s1
   ·have h1:m=0:=by have:=h1;simp at this;omega
    subst h1
    walk_at "vc"
    rw [zc3,Xbb] at hd
    subst hd
    exact k l H2 hl hL hs
  ·rintro σ H2 Q1 Q2 hq h
   obtain ⟨v,e,i,j,e1,e2,c,e3,h⟩:=h
   exact ⟨v,e,i,j,e1,e2,c,e3,hq _ _ h⟩
abbrev zd6:Stmt:=top 16
theorem zhk:FnScope ["mask"] ["mask"] (zak zd6):=sck rfl rfl rfl (by decide +kernel)
theorem zhM {f:Addr}{fd:FuncData}(F:Fun K "ones_of" "ones_of" zd6 f fd)(T:Blt mg)(Gsingle_ones:Cal P w K mg base 1 "single_ones" ["mask"] spSingles):FnOk P w K mg base CX0 2 f fd ["mask"] spOnes:=by
 refine F.ok zhk (by walk_at "l") (fun cdv A outer s H vs Q E hr h=>?_)
 ·obtain ⟨n,rfl,hn,k⟩:=h
  refine ⟨_,(zag (zas (zao zam (by rfl) T.len PySem.boot_len (zaa (pe_c Gsingle_ones (zaa (pv 0) zae)) zae)))),?rd⟩
  refine ⟨_,rfl,n,rfl,hn,fun p H' hp hL hs=>?_⟩
  refine ⟨p,_,rfl,.inl (SqL.of hL),?_⟩
  rw [zax,zbt]
  exact k H' hs
abbrev zcv:Stmt:=top 24
theorem zfy:FnScope ["thing","last"] ["thing","last"] (zak zcv):=sck rfl rfl rfl (by decide +kernel)
theorem zfF {f:Addr}{fd:FuncData}(F:Fun K "is_number" "is_number" zcv f fd)(T:Blt mg):FnOk P w K mg base CX0 1 f fd ["thing","last"] spIsNumD:=by
 refine F.ok zfy (by walk_at "l") (fun cdv A outer s H vs Q E hr h=>?_)
 ·obtain ⟨p,v,d,l,rfl,hd,k⟩:=h
  refine ⟨_,(zag (zas (zbP (zao (zbU "int" (K:=K) rfl) (by rfl) T.isinstance zbQ (zaa (pv 0) (zaa (zcd rfl T.int zgo rl_int) zae))) (zbP (zjt (zao (zbU "bool" (K:=K) rfl) (by rfl) T.isinstance zbQ (zaa (pv 0) (zaa (zcd rfl T.bool zik zhq) zae)))) (zbJ (ziS zgH zgH zac (pv 0) (pv 1))))))),?rd⟩
  have no:isI d=false→numD l d=false:=fun z=>by cases d <;> first | rfl | cases z
  have nb:isB d=true→numD l d=false:=fun z=>by cases d <;> first | rfl | cases z
  obtain ⟨t,ty,k1,k2,_⟩:=hd.ty (K:=K)
  refine ⟨_,rfl,_,_,_,rfl,ty,k1,_,rfl,ite2 (fun h1=>?_) (fun h1=>?_)⟩
  ·refine ⟨_,rfl,_,_,_,rfl,ty,k2,_,rfl,_,rfl,ite2 (fun h2=>?_) (fun h2=>?_)⟩
   ·cases hd with
    | int a =>
     refine ⟨_,rfl,_,_,rfl,rfl,_,rfl,ite2 (fun h=>?_) (fun h=>?_)⟩
     ·have h:=XaO h
      refine ⟨_,rfl,_,_,rfl,rfl,?_⟩
      rw [show numD l (.int a)=decide (a≤l) from decide_eq_decide.mpr ⟨fun z=>z.2,fun z=>⟨h,z⟩⟩] at k
      exact k
     ·have h:¬ 0≤a:=fun z=>h (Xai z)
      rw [show numD l (.int a)=false from Xag fun z=>h z.1] at k
      exact k
    | bl b=>cases h2
    | _=>cases h1
   ·rw [nb (by cases e:isB d with | true=>rfl | false=>rw [e] at h2;exact absurd rfl h2)] at k
    exact k
  ·have e:isI d=false:=by cases e:isI d with | true=>exact absurd e h1 | false=>rfl
   rw [no e] at k
   exact k
abbrev zd5:Stmt:=top 38
theorem zhi:FnScope ["bits"] ["bits"] (zak zd5):=sck rfl rfl rfl (by decide +kernel)
theorem zhL {f:Addr}{fd:FuncData}(F:Fun K "size_of" "size_of" zd5 f fd)(T:Blt mg):FnOk P w K mg base CX0 1 f fd ["bits"] spSize:=by
 refine F.ok zhi (by walk_at "l") (fun cdv A outer s H vs Q E hr h=>?_)
 ·obtain ⟨n,rfl,hn,k⟩:=h
  refine ⟨_,(zag (zas (zaj zcP zac (zao (zig rfl) (by rfl) T.max PyProof.Rows.boot_max (zaa (pv 0) (zaa zac zae)))))),?rd⟩
  refine ⟨_,rfl,_,_,rfl,?_⟩
  refine ⟨_,_,rfl,rfl,?_,?_⟩
  ·rw [if_neg (by omega)]
   exact ⟨by omega,by omega,by decide⟩
  ·have e:(1:Int) * 2 ^ (if (0:Int) > (n:Int) then 0 else (n:Int)).toNat=2 ^ n:=by
    rw [if_neg (by omega),Int.one_mul,Xak]
   show Q (V.int ((1:Int) * 2 ^ (if (0:Int) > (n:Int) then 0 else (n:Int)).toNat)) H
   rw [e]
   exact k
abbrev zcw:Stmt:=top 39
theorem zfz:FnScope ["mask","want","last"] ["mask","want","last"] (zak zcw):=sck rfl rfl rfl (by decide +kernel)
theorem zfG {f:Addr}{fd:FuncData}(F:Fun K "is_choice" "is_choice" zcw f fd)(T:Blt mg)(Gis_number:Cal P w K mg base 1 "is_number" ["thing","last"] spIsNumD):FnOk P w K mg base CX0 2 f fd ["mask","want","last"] spChoice:=by
 refine F.ok zfz (by walk_at "l") (fun cdv A outer s H vs Q E hr h=>?_)
 ·obtain ⟨p,v,w,d,e,l,rfl,hd,he,k⟩:=h
  refine ⟨_,(zag (zas (zbP (pe_c Gis_number (zaa (pv 0) (zaa (pv 2) zae))) (zbP (pe_c Gis_number (zaa (pv 1) (zaa (pv 2) zae))) (zbJ (za3 za8 (zaj zaU (pv 1) (pv 0)) (pv 1) (zar _))))))),?rd⟩
  refine ⟨_,rfl,_,rfl,p,v,d,l,rfl,hd,_,rfl,ite2 (fun h1=>?_) (fun h1=>?_)⟩
  ·refine ⟨_,rfl,_,rfl,p,w,e,l,rfl,he,_,rfl,ite2 (fun h2=>?_) (fun h2=>?_)⟩
   ·obtain ⟨a,rfl,_⟩:=za9 h1
    obtain ⟨b,rfl,_⟩:=za9 h2
    cases hd
    cases he
    refine ⟨_,rfl,_,rfl,_,_,rfl,rfl,_,rfl,rfl,?_⟩
    have e:chD l (.int (a:Int)) (.int (b:Int))=decide (V.int (Builtin.bitAnd (b:Int) (a:Int))=V.int (b:Int)):=by
     unfold chD
     rw [h1,h2]
     rw [band,Bool.true_and,Bool.true_and]
     refine decide_eq_decide.mpr ⟨fun z=>?_,fun z=>?_⟩
     ·have z:(b &&& a)=b:=z
      rw [z]
     ·have z:=V.int.inj z
      show (b &&& a)=b
      omega
    rw [← e]
    exact k
   ·unfold chD at k
    rw [h1,eq_false_of_ne_true h2] at k
    exact k
  ·unfold chD at k
   rw [eq_false_of_ne_true h1] at k
   exact k
abbrev zdc:Stmt:=top 40
theorem scis_latch:FnScope ["thing","chip","mask","want"] ["thing"] (zak zdc):=sck rfl rfl rfl (by decide +kernel)
theorem zi5 {ds:List D}(h:ds.length≠3):latD (.tup ds)=false:=by
 match ds,h with
 | [],_=>rfl
 | [_],_=>rfl
 | [_,_],_=>rfl
 | [_,_,_],h=>exact absurd rfl h
 | _ :: _ :: _ :: _ :: _,_=>rfl
theorem zgK {f:Addr}{fd:FuncData}(F:Fun K "is_latch" "is_latch" zdc f fd)(T:Blt mg)(N:Nums mg)(Gis_number:Cal P w K mg base 1 "is_number" ["thing","last"] spIsNumD)(Gis_choice:Cal P w K mg base 2 "is_choice" ["mask","want","last"] spChoice):FnOk P w K mg base CX0 3 f fd ["thing"] spLatD:=by
 refine F.ok scis_latch (by walk_at "l") (fun cdv A outer s H vs Q E hr h=>?_)
 ·obtain ⟨p,v,d,rfl,hd,k⟩:=h
  refine ⟨_,(zaf (zaA (PW.pt (zbN (zaR (zaQ (zao (zbU "tuple" (K:=K) rfl) (by rfl) T.isinstance zbQ (zaa (pv 0) (zaa (zcd rfl T.tuple zbV zec) zae))))) (zbm (zan zhH (zao zam (by rfl) T.len PySem.boot_len (zaa (pv 0) zae)) zac (zar _))))) (zag (zas zaZ)) zap)
   (zaf (zco (pv 0) (zbO rfl (zau (pg_L 1 scis_latch.nd) (zau (pg_L 2 scis_latch.nd) (zau (pg_L 3 scis_latch.nd) zbg)))))
   (zag (zas (zbP (pe_c Gis_number (zaa (pv 1) (zaa (zbn rfl N.LAST_CHIP) zae))) (zbJ (pe_c Gis_choice (zaa (pv 2) (zaa (pv 3) (zaa (zbn rfl N.LAST_WORD) zae)))))))))),?rd⟩
  obtain ⟨t,ty,_,_,k3⟩:=hd.ty (K:=K)
  refine ⟨_,rfl,_,_,_,rfl,ty,k3,_,rfl,?_⟩
  cases hd with
  | @tup a xs ds e ha hl h =>
   refine iteF ⟨_,rfl,a,xs,rfl,.inr (SqT.of e),rfl,_,rfl,ite2 (fun h1=>?_) (fun h1=>?_)⟩
   ·have n3:ds.length≠3:=fun z=>by
     rw [Xai (show V.int (xs.length:Int)=V.int 3 by rw [hl,z];rfl)] at h1
     cases h1
    rw [zi5 n3] at k
    exact k
   ·have n3:xs.length=3:=by
     by_cases z:xs.length=3
     ·exact z
     ·rw [Xag (show ¬ V.int (xs.length:Int)=V.int 3 from fun q=>z (by have:=V.int.inj q;omega))] at h1
      exact absurd rfl h1
    match xs,ds,n3,hl,h,e with
    | [x,y,z],[c,m,w_],_,_,h,e =>
     refine ⟨_,rfl,a,_,rfl,SqT.of e,rfl,x,_,rfl,y,_,rfl,z,_,rfl,rfl,?_⟩
     refine ⟨_,rfl,p,x,c,99,rfl,h 0 x c rfl rfl,_,rfl,ite2 (fun h1=>?_) (fun h1=>?_)⟩
     ·refine ⟨_,rfl,_,rfl,p,y,z,m,w_,255,rfl,h 1 y m rfl rfl,h 2 z w_ rfl rfl,?_⟩
      rw [show latD (.tup [c,m,w_])=(numD 99 c && chD 255 m w_) from rfl,h1] at k
      exact k
     ·rw [show latD (.tup [c,m,w_])=(numD 99 c && chD 255 m w_) from rfl,eq_false_of_ne_true h1] at k
      exact k
  | _=>exact iteT (iteT k)
abbrev zfv:Stmt:=top 41
theorem scis_row:FnScope ["bits","thing","mask","want","inner","chip","latch","last"] ["bits","thing"] (zak zfv):=sck rfl rfl rfl (by decide +kernel)
theorem zf6 {l:Int}{ds:List D}(h:ds.length≠5):rowD l (.tup ds)=false:=by
 match ds,h with
 | [],_=>rfl
 | [_],_=>rfl
 | [_,_],_=>rfl
 | [_,_,_],_=>rfl
 | [_,_,_,_],_=>rfl
 | [_,_,_,_,_],h=>exact absurd rfl h
 | _ :: _ :: _ :: _ :: _ :: _ :: _,_=>rfl
theorem zgh {n m:Nat}{A B:Prop}(h1:n≠m→A)(h2:n=m→B):if (!decide (V.int (n:Int)=V.int (m:Int)))=true then A else B:=by
 by_cases z:n=m
 ·rw [Xai (by rw [z])]
  exact iteF (h2 z)
 ·rw [Xag (fun q=>z (by have:=V.int.inj q;omega))]
  exact iteT (h1 z)
theorem zjK {b:Bool}(h:(!b)=true):b=false:=by cases b <;> first | rfl | cases h
theorem zjL {b:Bool}(h:¬ (!b)=true):b=true:=by cases b <;> first | rfl | exact absurd rfl h
theorem ziX {f:Addr}{fd:FuncData}(F:Fun K "is_row" "is_row" zfv f fd)(T:Blt mg)(N:Nums mg)(Gis_number:Cal P w K mg base 1 "is_number" ["thing","last"] spIsNumD)(Gsize_of:Cal P w K mg base 1 "size_of" ["bits"] spSize)(Gis_choice:Cal P w K mg base 2 "is_choice" ["mask","want","last"] spChoice)(Gis_latch:Cal P w K mg base 3 "is_latch" ["thing"] spLatD):FnOk P w K mg base CX0 4 f fd ["bits","thing"] spRowD:=by
 refine F.ok scis_row (by walk_at "l") (fun cdv A outer s H vs Q E hr h=>?_)
 ·obtain ⟨p,v,d,n,rfl,hd,hn,hn2,k⟩:=h
  refine ⟨_,(zaf (zaA (PW.pt (zbN (zaR (zaQ (zao (zbU "tuple" (K:=K) rfl) (by rfl) T.isinstance zbQ (zaa (pv 1) (zaa (zcd rfl T.tuple zbV zec) zae))))) (zbm (zan zhH (zao zam (by rfl) T.len PySem.boot_len (zaa (pv 1) zae)) zac (zar _))))) (zag (zas zaZ)) zap)
   (zaf (zco (pv 1) (zbO rfl (zau (pg_L 2 scis_row.nd) (zau (pg_L 3 scis_row.nd) (zau (pg_L 4 scis_row.nd) (zau (pg_L 5 scis_row.nd) (zau (pg_L 6 scis_row.nd) zbg)))))))
   (zaf (ps_L 7 scis_row.nd (zaj za0 (pe_c Gsize_of (zaa (pv 0) zae)) zac))
   (zaf (zaA (PW.pt (zbN (zaR (zaQ (pe_c Gis_choice (zaa (pv 2) (zaa (pv 3) (zaa (pv 7) zae)))))) (zbN (zaR (zaQ (pe_c Gis_number (zaa (pv 4) (zaa (pv 7) zae))))) (zbm (zan zhH (zaj zaU (pv 4) (pv 2)) zac (zar _)))))) (zag (zas zaZ)) zap)
   (zag (zas (zbP (pe_c Gis_number (zaa (pv 5) (zaa (zbn rfl N.LAST_CHIP) zae))) (zbJ (zj7 (zjv (zgc (pv 6))) (zbJ (pe_c Gis_latch (zaa (pv 6) zae)))))))))))),?rd⟩
  have k:=k H (Same.refl _)
  obtain ⟨t,ty,_,_,k3⟩:=hd.ty (K:=K)
  refine ⟨_,rfl,_,_,_,rfl,ty,k3,_,rfl,?_⟩
  cases hd with
  | @tup a xs ds e ha hl h =>
   refine iteF ⟨_,rfl,a,xs,rfl,.inr (SqT.of e),rfl,_,rfl,zgh (m:=5) (fun h1=>?_) (fun h1=>?_)⟩
   ·rw [zf6 (by omega)] at k
    exact k
   ·match xs,ds,h1,hl,h,e with
    | [x0,x1,x2,x3,x4],[m,w_,i,c,l],_,_,h,e =>
     refine ⟨_,rfl,a,_,rfl,SqT.of e,rfl,x0,_,rfl,x1,_,rfl,x2,_,rfl,x3,_,rfl,x4,_,rfl,rfl,?_⟩
     refine ⟨_,rfl,n,rfl,hn2,_,_,rfl,rfl,?_⟩
     have d0:=h 0 x0 m rfl rfl
     have d1:=h 1 x1 w_ rfl rfl
     have d2:=h 2 x2 i rfl rfl
     have d3:=h 3 x3 c rfl rfl
     have d4:=h 4 x4 l rfl rfl
     have ek:rowD (2 ^ n - 1) (.tup [m,w_,i,c,l])=(chD (2 ^ n - 1) m w_ && numD (2 ^ n - 1) i && decide (natD i &&& natD m=0) && numD 99 c && latN l):=rfl
     rw [ek] at k
     refine ⟨_,rfl,_,rfl,_,rfl,p,x0,x1,m,w_,_,rfl,d0,d1,?_⟩
     refine ⟨_,rfl,ite2 (fun h1=>?_) (fun h1=>?_)⟩
     ·rw [zjK h1] at k
      exact iteT k
     have c1:=zjL h1
     have c1':=c1
     unfold chD at c1'
     rw [XaD,XaD] at c1'
     obtain ⟨m',rfl,_⟩:=za9 c1'.1.1
     rw [c1] at k
     refine ⟨_,rfl,_,rfl,p,x2,i,_,rfl,d2,_,rfl,ite2 (fun h2=>?_) (fun h2=>?_)⟩
     ·rw [zjK h2] at k
      exact iteT k
     have c2:=zjL h2
     obtain ⟨i',rfl,_⟩:=za9 c2
     rw [c2] at k
     cases d0
     cases d2
     refine ⟨_,rfl,_,rfl,_,_,rfl,rfl,rfl,_,rfl,?_⟩
     rw [show V.int (Builtin.bitAnd (i':Int) (m':Int))=V.int ((i' &&& m':Nat):Int) from congrArg V.int (band _ _)]
     refine zgh (m:=0) (fun h3=>?_) (fun h3=>?_)
     ·rw [show decide (natD (.int (i':Int)) &&& natD (.int (m':Int))=0)=false from Xag h3] at k
      exact k
     rw [show decide (natD (.int (i':Int)) &&& natD (.int (m':Int))=0)=true from Xai h3] at k
     refine ⟨_,rfl,p,x3,c,99,rfl,d3,_,rfl,ite2 (fun h4=>?_) (fun h4=>?_)⟩
     ·rw [h4] at k
      cases d4 with
      | non=>exact ⟨_,rfl,_,rfl,iteT k⟩
      | bl b=>exact ⟨_,rfl,_,rfl,iteF ⟨_,rfl,p,_,_,rfl,.bl b,k⟩⟩
      | int b=>exact ⟨_,rfl,_,rfl,iteF ⟨_,rfl,p,_,_,rfl,.int b,k⟩⟩
      | str b=>exact ⟨_,rfl,_,rfl,iteF ⟨_,rfl,p,_,_,rfl,.str b,k⟩⟩
      | lst e5 h5=>exact ⟨_,rfl,_,rfl,iteF ⟨_,rfl,p,_,_,rfl,.lst e5 h5,k⟩⟩
      | dic e5 h5=>exact ⟨_,rfl,_,rfl,iteF ⟨_,rfl,p,_,_,rfl,.dic e5 h5,k⟩⟩
      | tup e5 h5 l5 g5=>exact ⟨_,rfl,_,rfl,iteF ⟨_,rfl,p,_,_,rfl,.tup e5 h5 l5 g5,k⟩⟩
     ·rw [eq_false_of_ne_true h4] at k
      exact k
  | _=>exact iteT (iteT k)
abbrev zfw:Stmt:=top 42
theorem ziE:FnScope ["bits","thing"] ["bits","thing"] (zak zfw):=sck rfl rfl rfl (by decide +kernel)
theorem ziY {f:Addr}{fd:FuncData}(F:Fun K "is_map" "is_map" zfw f fd)(T:Blt mg)(Gis_row:Cal P w K mg base 4 "is_row" ["bits","thing"] spRowD):FnOk P w K mg base CX0 5 f fd ["bits","thing"] spMapD:=by
 refine F.ok ziE (by walk_at "l") (fun cdv A outer s H vs Q E hr h=>?_)
 ·obtain ⟨p,v,d,n,rfl,hd,htl,hn,hn2,k⟩:=h
  refine' ⟨_,(zag (zas (zbP (zao (zbU "tuple" (K:=K) rfl) (by rfl) T.isinstance zbQ (zaa (pv 1) (zaa (zcd rfl T.tuple zbV zec) zae))) (zbJ (zao (zfj rfl) (by rfl) T.all zjJ (zaa ?c1 zae)))))),?rd⟩
  (case c1=>exact (zej (Nc:=["row","bits"]) [none,some 0] rfl (zaM (by rfl)) (zjs (pv 1)) (fun _ _ _ _ _=>(pg_L 0 (show (["row","bits"]:List Str).Nodup by decide +kernel))) (fun _ _ _ _ _=>zeS) (fun _ _ _ _ _=>(pe_c Gis_row (zaa (pv 1) (zaa (pv 0) zae))))))
  obtain ⟨t,ty,_,_,t3⟩:=hd.ty (K:=K)
  refine ⟨_,rfl,_,_,_,rfl,ty,t3,_,rfl,?_⟩
  cases hd with
  | @tup a xs ds e ha hl h =>
   have hl3:ds.length≤300:=htl
   refine iteT ⟨_,rfl,a,rfl,⟨_,SqT.of e⟩,?_⟩
   refine zjf (K:=K) (xs:=xs) (fun j rs σ H1=>∃ v0,σ=[v0,some (.int (n:Int))]∧rs=(ds.take j).map (fun d=>V.bl (rowD (2 ^ n - 1) d))∧Same H H1) (Xar (show _≤300 by omega) (by decide)) ⟨none,rfl,rfl,Same.refl _⟩ ?_ ?_ ?_
   ·rintro j rs σ H1 hj ⟨v0,rfl,rfl,s1⟩
    exact ⟨SqT.of (s1 _ _ e),by rw [Xah,XaW];omega⟩
   ·rintro j x rs σ H1 hx ⟨v0,rfl,rfl,s1⟩
    have hj:j<xs.length:=(Xae.mp hx).1
    have hd:ds[j]? = some (ds[j]'(by omega)):=Xau (by omega)
    refine ⟨_,rfl,_,rfl,p,x,_,n,rfl,(h j x _ hx hd).same s1,hn,hn2,fun H2 s2=>⟨_,rfl,?_,s1.trans s2⟩⟩
    rw [List.take_succ,hd,XaV]
    rfl
   ·rintro rs σ H1 ⟨v0,rfl,rfl,s1⟩ Dd hD
    refine ⟨Dd,ds.map (rowD (2 ^ n - 1)),rfl,SqL.of (by rw [hl,XaX (Xaf _),Xbf];exact zab),?_⟩
    have e2:(ds.map (rowD (2 ^ n - 1))).all id=mapD (2 ^ n - 1) (.tup ds):=by rw [List.all_map];rfl
    rw [e2]
    exact k _ (s1.trans (zad hD))
  | _=>exact iteF (k H (Same.refl _))
abbrev zbq:Stmt:=top 46
theorem zdg:FnScope ["mask","want","other_mask","other_want"] ["mask","want","other_mask","other_want"] (zak zbq):=sck rfl rfl rfl (by decide +kernel)
theorem zdu {f:Addr}{fd:FuncData}(F:Fun K "choices_agree" "choices_agree" zbq f fd)(T:Blt mg):FnOk P w K mg base CX0 1 f fd ["mask","want","other_mask","other_want"] spAgr:=by
 refine F.ok zdg (by walk_at "l") (fun cdv A outer s H vs Q E hr h=>?_)
 ·obtain ⟨m,x,n,v,rfl,k⟩:=h
  refine ⟨_,(zag (zas (za3 za8 (zaj zaU (zaj zaU (zaj zhG (pv 1) (pv 3)) (pv 0)) (pv 2)) zac (zar _)))),?rd⟩
  refine ⟨_,rfl,_,rfl,_,_,rfl,rfl,_,rfl,_,_,rfl,rfl,_,rfl,_,_,rfl,rfl,rfl,?_⟩
  have e:decide (V.int (Builtin.bitAnd (Builtin.bitAnd (Builtin.bitXor (x:Int) (v:Int)) (m:Int)) (n:Int))=V.int 0)=agr m x n v:=by
   rw [bxor,band,band]
   unfold agr
   exact decide_eq_decide.mpr ⟨fun h=>by have:=V.int.inj h;omega,fun h=>by rw [h];rfl⟩
  exact Eq.mpr (congrArg (fun b=>Q (V.bl b) H) e) k
abbrev zbp:Stmt:=top 47
theorem zde:FnScope ["latch","other"] ["latch","other"] (zak zbp):=sck rfl rfl rfl (by decide +kernel)
theorem zdt {f:Addr}{fd:FuncData}(F:Fun K "latches_agree" "latches_agree" zbp f fd)(T:Blt mg)(Gchoices_agree:Cal P w K mg base 1 "choices_agree" ["mask","want","other_mask","other_want"] spAgr):FnOk P w K mg base CX0 2 f fd ["latch","other"] spLatA:=by
 refine F.ok zde (by walk_at "l") (fun cdv A outer s H vs Q E hr h=>?_)
 ·obtain ⟨x,y,o,p,rfl,hx,hy,k⟩:=h
  refine ⟨_,(zaf (zaA (PW.pt (zbN (zdV (zgc (pv 0))) (zbN (zdV (zgc (pv 1))) (zbm (zan zhH (pe_x zaB (pv 0) zac) (pe_x zaB (pv 1) zac) (zar _)))))) (zag (zas zaZ)) zap)
   (zag (zas (pe_c Gchoices_agree (zaa (pe_x zaB (pv 0) zac) (zaa (pe_x zaB (pv 0) zac) (zaa (pe_x zaB (pv 1) zac) (zaa (pe_x zaB (pv 1) zac) zae)))))))),?rd⟩
  cases o with
  | none =>
   obtain rfl:x = .non:=hx
   exact ⟨_,rfl,_,rfl,iteT (iteT k)⟩
  | some o =>
   obtain ⟨c,a,b⟩:=o
   obtain ⟨u,rfl,eu⟩:=hx
   refine ⟨_,rfl,_,rfl,iteF ?_⟩
   cases p with
   | none =>
    obtain rfl:y = .non:=hy
    exact ⟨_,rfl,_,rfl,iteT (iteT k)⟩
   | some p =>
    obtain ⟨d,x',y'⟩:=p
    obtain ⟨u',rfl,eu'⟩:=hy
    refine ⟨_,rfl,_,rfl,iteF ?_⟩
    refine ⟨_,rfl,u,_,_,_,rfl,rfl,SqT.of eu,rfl,_,rfl,u',_,_,_,rfl,rfl,SqT.of eu',rfl,rfl,_,rfl,?_⟩
    by_cases h:c=d
    ·subst h
     rw [show (!decide (V.int (c:Int)=V.int (c:Int)))=false by simp]
     refine iteF ?_
     refine ⟨_,rfl,u,_,_,_,rfl,rfl,SqT.of eu,rfl,_,rfl,u,_,_,_,rfl,rfl,SqT.of eu,rfl,_,rfl,u',_,_,_,rfl,rfl,SqT.of eu',rfl,_,rfl,u',_,_,_,rfl,rfl,SqT.of eu',rfl,a,b,x',y',rfl,?_⟩
     rw [show latA (some (c,a,b)) (some (c,x',y'))=agr a b x' y' from if_pos rfl] at k
     exact k
    ·rw [show (!decide (V.int (c:Int)=V.int (d:Int)))=true by simp;omega]
     rw [show latA (some (c,a,b)) (some (d,x',y'))=true from if_neg h] at k
     exact iteT k
abbrev zb3:Stmt:=top 48
theorem zeK:FnScope ["row","other"] ["row","other"] (zak zb3):=sck rfl rfl rfl (by decide +kernel)
theorem zeV {f:Addr}{fd:FuncData}(F:Fun K "rows_clash" "rows_clash" zb3 f fd)(T:Blt mg)(Gchoices_agree:Cal P w K mg base 1 "choices_agree" ["mask","want","other_mask","other_want"] spAgr)(Glatches_agree:Cal P w K mg base 2 "latches_agree" ["latch","other"] spLatA):FnOk P w K mg base CX0 3 f fd ["row","other"] spClash:=by
 refine F.ok zeK (by walk_at "l") (fun cdv A outer s H vs Q E hr h=>?_)
 ·obtain ⟨t,u,r,q,rfl,⟨lt,et,hl⟩,⟨lu,eu,hk⟩,k⟩:=h
  refine ⟨_,(zag (zas (zbP (pe_c Gchoices_agree (zaa (pe_x zaB (pv 0) zac) (zaa (pe_x zaB (pv 0) zac) (zaa (pe_x zaB (pv 1) zac) (zaa (pe_x zaB (pv 1) zac) zae))))) (zbJ (pe_c Glatches_agree (zaa (pe_x zaB (pv 0) zac) (zaa (pe_x zaB (pv 1) zac) zae))))))),?rd⟩
  refine ⟨_,rfl,t,_,_,_,rfl,rfl,SqT.of et,rfl,_,rfl,t,_,_,_,rfl,rfl,SqT.of et,rfl,_,rfl,u,_,_,_,rfl,rfl,SqT.of eu,rfl,_,rfl,u,_,_,_,rfl,rfl,SqT.of eu,rfl,r.m,r.w,q.m,q.w,rfl,_,rfl,?_⟩
  unfold zba at k
  cases h:agr r.m r.w q.m q.w with
  | false =>
   rw [h] at k
   exact iteF k
  | true =>
   rw [h] at k
   exact iteT ⟨_,rfl,t,_,_,_,rfl,rfl,SqT.of et,rfl,_,rfl,u,_,_,_,rfl,rfl,SqT.of eu,rfl,lt,lu,r.l,q.l,rfl,hl,hk,k⟩
abbrev zdf:Stmt:=top 50
theorem scclash_of:FnScope ["rows","found","second","other","first","row","address"] ["rows"] (zak zdf):=sck rfl rfl rfl (by decide +kernel)
inductive spClashV (vs:List V)(H:Hp)(Q:VK)(u3_:XK):Prop
 | mk (m:Nat) (R:Addr) (ws:List (Addr×Rw)) (z0_:vs=[.ref R]) (z1_:H R=some (.tup (refs ws))) (z2_:RwsAt2 m H ws) (z3_:(ws.Pairwise fun a b=>NC a.2 b.2)) (z4_:ws.length≤300) (z5_:∀ H',Same H H'→Q .non H')
set_option tactic.hygienic true in
theorem zgL {f:Addr}{fd:FuncData}(F:Fun K "clash_of" "clash_of" zdf f fd)(T:Blt mg)(Grows_clash:Cal P w K mg base 3 "rows_clash" ["row","other"] spClash):FnOk P w K mg base CX0 4 f fd ["rows"] spClashV:=by
 refine F.ok scclash_of (by walk_at "l") (fun cdv A outer s H vs Q E hr h=>?_)
 ·obtain ⟨m,p,ws,rfl,hp,hw,nc,hl,k⟩:=h
  refine ⟨_,(zaf (ps_L 1 scclash_of.nd (zaq zae))
   (zaf (zbY PassesOwn.never rfl (zeg rfl T.enumerate (zaa (pv 0) zae)) (zbO rfl (zau (pg_L 2 scclash_of.nd) (zau (pg_L 3 scclash_of.nd) zbg)))
   (zag (zbY PassesOwn.never rfl (zeg rfl T.enumerate (zaa (zaX (zd9 (K:=K) rfl) (pv 0) zcG (zaS (pv 2))) zae)) (zbO rfl (zau (pg_L 4 scclash_of.nd) (zau (pg_L 5 scclash_of.nd) zbg)))
   (zag (zaA (zaQ (pe_c Grows_clash (zaa (pv 5) (zaa (pv 3) zae)))) (zag za7) zap)))))
   (zaf (zaA (zaR (ziK (pv 1) (fun _=>rfl))) (zag (zas za5)) zap)
   (zaf za7
   (zag za7))))),?rd⟩
  refine ⟨by show 0≤sizeLine;decide,fun fa hfa=>?_⟩
  refine ⟨_,rfl,p,rfl,⟨_,SqT.of (zad hfa _ _ hp)⟩,?_⟩
  refine zdH (K:=K) (a:=p) (xs:=refs ws) (fun j σ X=>∃ (v2 v3 v4 v5:Option V),σ=[some (.ref p),some (.ref fa),v2,v3,v4,v5,none]∧X fa=some (.lst [])∧Same H X)
   ⟨none,none,none,none,rfl,zab,zad hfa⟩ (fun i σ X hi ⟨_,_,_,_,_,_,s⟩=>SqT.of (s _ _ hp)) ?_ ?_
  ·rintro j x T0 σ X hx hT0 ⟨v2,v3,v4,v5,rfl,efa,sX⟩
   obtain ⟨q,hq,rfl⟩:=zbC hx
   obtain ⟨hj,ej⟩:=Xae.mp hq
   refine zh1 ?_
   have sT:Same H (upd X T0 (.tup [.int (j:Int),.ref q.1])):=sX.trans (zad hT0)
   refine ⟨_,rfl,_,rfl,_,rfl,p,_,rfl,SqT.of (sT _ _ hp),fun z=>?_,fun u hu=>?_⟩
   ·exfalso
    rw [zeu (by rw [zat];omega)] at z
    have:=congrArg List.length z
    rw [XaW,zat] at this
    omega
   have ecut:cutV (refs ws) none (some (j:Int))=refs (ws.take j):=by rw [zeu (by rw [zat];omega)];exact (List.map_take ..).symm
   refine ⟨u,rfl,⟨_,SqT.of zab⟩,?_⟩
   rw [ecut] at *
   have sU:Same X (upd (upd X T0 (.tup [.int (j:Int),.ref q.1])) u (.tup (refs (ws.take j)))):=(zad hT0).trans (zad hu)
   refine zdH (K:=K) (a:=u) (xs:=refs (ws.take j)) (fun i σ Y=>∃ (v4 v5:Option V),σ=[some (.ref p),some (.ref fa),some (.int (j:Int)),some (.ref q.1),v4,v5,none]∧Y fa=some (.lst [])∧Y u=some (.tup (refs (ws.take j)))∧Same H Y)
    ⟨v4,v5,rfl,sU _ _ efa,zab,sX.trans sU⟩ (fun i σ Y hi ⟨_,_,_,_,e,_⟩=>SqT.of e) ?_ ?_
   ·rintro i y T1 σ Y hy hT1 ⟨v4,v5,rfl,efa,eu,sY⟩
    obtain ⟨r,hr',rfl⟩:=zbC hy
    rw [List.getElem?_take] at hr'
    split at hr'
    ·rename_i hij
     obtain ⟨hi,ei⟩:=Xae.mp hr'
     have c:zba r.2 q.2=false:=by
      have:=(List.pairwise_iff_getElem.mp nc i j hi hj hij).1
      rw [ei,ej] at this
      exact this
     refine zh1 ?_
     have s1:Same Y (upd Y T1 (.tup [.int (i:Int),.ref r.1])):=zad hT1
     have s2:=sY.trans s1
     refine ⟨_,rfl,_,rfl,r.1,q.1,r.2,q.2,rfl,(hw r (XaB hr')).1.same s2,(hw q (XaB hq)).1.same s2,_,rfl,?_⟩
     rw [c]
     exact iteF ⟨_,_,rfl,s1 _ _ efa,s1 _ _ eu,s2⟩
    ·cases hr'
   ·rintro σ Y ⟨v4,v5,rfl,efa,eu,sY⟩
    exact ⟨_,_,_,_,rfl,efa,sY⟩
  ·rintro σ X ⟨v2,v3,v4,v5,rfl,efa,sX⟩
   exact ⟨_,rfl,_,.inl ⟨_,SqL.of efa,rfl⟩,iteT (k X sX)⟩
theorem zkm:∀ vs H Q E,spIsNum vs H Q E→spIsNumD vs H Q E:=by
 rintro vs H Q E ⟨a,b,rfl,q⟩
 exact ⟨0,_,.int a,b,rfl,.int a,q⟩
abbrev zea:Stmt:=top 25
theorem zhl:FnScope ["thing"] ["thing"] (zak zea):=sck rfl rfl rfl (by decide +kernel)
theorem zhN {f:Addr}{fd:FuncData}(F:Fun K "is_word" "is_word" zea f fd)(T:Blt mg)(N:Nums mg)(Gis_number:Cal P w K mg base 1 "is_number" ["thing","last"] spIsNum):FnOk P w K mg base CX0 2 f fd ["thing"] spIsWord:=by
 refine F.ok zhl (by walk_at "l") (fun cdv A outer s H vs Q E hr h=>?_)
 ·obtain ⟨a,rfl,k⟩:=h
  refine ⟨_,(zag (zas (pe_c Gis_number (zaa (pv 0) (zaa (zbn rfl N.LAST_WORD) zae))))),?rd⟩
  exact ⟨_,rfl,a,255,rfl,k⟩
abbrev zbs:Stmt:=zbh (top 30) 0
theorem zdi:FnScope ["self","head","held"] ["self","head","held"] (zak zbs):=sck rfl rfl rfl (by decide +kernel)
theorem zdw {f:Addr}{fd:FuncData}(F:Fun K "__init__" "Chip.__init__" zbs f fd)(T:Blt mg):FnOk P w K mg base CX0 1 f fd ["self","head","held"] (spInit K):=by
 refine F.ok zdi (by walk_at "l") (fun cdv A outer s H vs Q E hr h=>?_)
 ·obtain ⟨a,C,dx,p,hd,rfl,ha,c,k⟩:=h
  refine ⟨_,(zaf (zbZ (pv 0) (pv 1) rfl)
   (zag (zbZ (pv 0) (pv 2) rfl))),?rd⟩
  refine ⟨_,rfl,_,rfl,a,C,dx,_,rfl,ha,c.cl,c.head,by show 0<1000;decide,?_⟩
  refine ⟨_,rfl,_,rfl,a,C,dx,_,rfl,zab,c.cl,c.held,by show 1<1000;decide,?_⟩
  exact k _ zab fun b hb=>by rw [zai hb,zai hb]
abbrev zb5:Stmt:=top 20
theorem scby_figures:FnScope ["number","many","text","place"] ["number","many"] (zak zb5):=sck rfl rfl rfl (by decide +kernel)
def FIG:Str := "0123456789abcdef"
def figc (k:Nat):Nat:=(FIG.cps.toList[k]?).getD 0
def fig2 (n:Nat):Str:=(⟨#[figc (n / 16)]⟩:Str) ++ (⟨#[figc (n % 16)]⟩:Str)
def phead (r:Nat):Str:=Str.empty ++ ("pipe " : Str) ++ fig2 r
theorem zjF {k:Nat}(h:k<16):atI FIG.cps.toList (k:Int)=some (figc k):=by
 have e:FIG.cps.toList.length=16:=by decide
 refine zbj ?_
 unfold figc
 rw [Xau (by omega)]
 rfl
structure ObP (C:Addr)(H:Hp)(a p:Addr)(r:Nat)(ws:List Nat):Prop where
 ex:∃ dx,H a=some (.ins C dx [("head",.str (phead r)),("held",.ref p),("room",.int (r:Int))])
 ls:H p=some (.lst (vN ws))
def two (_:List V):Nat:=2
inductive sp2fig (vs:List V)(H:Hp)(Q:VK)(u3_:XK):Prop
 | mk (n:Nat) (z0_:vs=[.int (n:Int)]) (z1_:n≤255) (z2_:Q (.str (fig2 n)) H)
inductive spMkP (C:Addr)(vs:List V)(H:Hp)(Q:VK)(u3_:XK):Prop
 | mk (a:_) (dx:_) (r:Nat) (z0_:vs=[.ref a,.int (r:Int)]) (z1_:1≤r) (z2_:r≤255) (z3_:H a=some (.ins C dx [])) (z4_:∀ (p:Addr) (H':Hp),H p=none→ObP C H' a p r []→KeepP a H H'→Q .non H')
inductive spByFig (vs:List V)(H:Hp)(Q:VK)(u3_:XK):Prop
 | mk (n:Nat) (z0_:vs=[.int (n:Int),.int 2]) (z1_:n≤255) (z2_:Q (.str (fig2 n)) H)
def figs (n:Nat):Nat→Str
 | 0=>("" : Str)
 | 1=>(⟨#[figc (n % 16)]⟩:Str) ++ ("" : Str)
 | _=>(⟨#[figc (n / 16)]⟩:Str) ++ ((⟨#[figc (n % 16)]⟩:Str) ++ ("" : Str))
theorem and15 (n:Nat):n &&& 15=n % 16:=Nat.and_two_pow_sub_one_eq_mod n 4
theorem zeX {f:Addr}{fd:FuncData}(F:Fun K "by_figures" "by_figures" zb5 f fd)(T:Blt mg)(N:Nums mg):FnOk P w K mg base CX0 1 f fd ["number","many"] spByFig:=by
 refine F.ok scby_figures (by walk_at "l") (fun cdv A outer s H vs Q E hr h=>?_)
 ·obtain ⟨n,rfl,hn,k⟩:=h
  refine ⟨_,(zaf (ps_L 2 scby_figures.nd zaC)
   (zaf (zbY PassesOwn.never rfl (zbv rfl T.range (zaa (pv 1) zae)) (pg_L 3 scby_figures.nd)
   (zag (ps_L 2 scby_figures.nd (zaj zgI (pe_x ix_str (ziP rfl N.SIXTEEN) (zaj zaU (zaj op_shr (pv 0) (zaj zce zac (pv 3))) zac)) (pv 2)))))
   (zag (zas (pv 2))))),?rd⟩
  refine ⟨_,rfl,2,rfl,by decide,by decide,?_⟩
  refine zfb (n:=2) (fun i σ H2=>∃ v3,σ=[some (.int (n:Int)),some (.int 2),some (.str (figs n i)),v3]∧H2=H) ⟨none,rfl,rfl⟩ ?_ ?_
  ·rintro i σ H2 hi ⟨v3,rfl,rfl⟩
   rcases (show i=0∨i=1 by omega) with rfl | rfl
   ·refine ⟨_,rfl,_,rfl,_,_,rfl,rfl,zcQ (by decide) (by decide),_,_,rfl,rfl,(show (0:Int)≤4 * (0+((0:Nat):Int)) by decide),_,_,rfl,rfl,FIG,((n % 16:Nat):Int),_,rfl,congrArg V.int ?_,by decide,zjF (by omega),?_⟩
    ·show Builtin.bitAnd ((n:Int) / 1) ((15:Nat):Int)=_
     rw [Int.ediv_one,band,and15]
    ·exact ⟨_,rfl,_,_,rfl,rfl,by show 1+0≤sizeLine;decide,⟨_,rfl,rfl⟩⟩
   ·refine ⟨_,rfl,_,rfl,_,_,rfl,rfl,zcQ (by decide) (by decide),_,_,rfl,rfl,(show (0:Int)≤4 * (0+((1:Nat):Int)) by decide),_,_,rfl,rfl,FIG,((n / 16:Nat):Int),_,rfl,congrArg V.int ?_,by decide,zjF (by omega),?_⟩
    ·have e:(n:Int) / 2 ^ (4 * (0+((1:Nat):Int))).toNat=((n / 16:Nat):Int):=by
      show (n:Int) / 16=_
      omega
     show Builtin.bitAnd ((n:Int) / 2 ^ (4 * (0+((1:Nat):Int))).toNat) ((15:Nat):Int)=_
     rw [e,band,and15,Nat.mod_eq_of_lt (by omega)]
    ·exact ⟨_,rfl,_,_,rfl,rfl,by show 1+1≤sizeLine;decide,⟨_,rfl,rfl⟩⟩
  ·rintro σ H2 ⟨v3,rfl,rfl⟩
   exact ⟨_,rfl,k⟩
abbrev zbK:Stmt:=top 21
theorem zeb:FnScope ["word"] ["word"] (zak zbK):=sck rfl rfl rfl (by decide +kernel)
theorem zen {f:Addr}{fd:FuncData}(F:Fun K "two_figures" "two_figures" zbK f fd)(T:Blt mg)(Gby_figures:Cal P w K mg base 1 "by_figures" ["number","many"] spByFig):FnOk P w K mg base CX0 2 f fd ["word"] sp2fig:=by
 refine F.ok zeb (by walk_at "l") (fun cdv A outer s H vs Q E hr h=>?_)
 ·obtain ⟨n,rfl,hn,k⟩:=h
  refine ⟨_,(zag (zas (pe_c Gby_figures (zaa (pv 0) (zaa zac zae))))),?rd⟩
  exact ⟨_,rfl,n,rfl,hn,k⟩
def zit (C:Addr)(H:Hp)(a:Addr)(ws:List V)(hd:Str)(Q:VK):Prop:=∀ (p:Addr) (H':Hp),H p=none→(∃ dx,H' a=some (.ins C dx [("head",.str hd),("held",.ref p)]))→H' p=some (.lst ws)→KeepP a H H'→Q .non H'
inductive spMk1H (C:Addr)(hd:Str)(vs:List V)(H:Hp)(Q:VK)(u3_:XK):Prop
 | mk (a:_) (dx:_) (v:Int) (z0_:vs=[.ref a,.int v]) (z1_:0≤v) (z2_:v≤255) (z3_:H a=some (.ins C dx [])) (z4_:zit C H a [.int v] hd Q)
inductive spMkSH (C:Addr)(vs:List V)(H:Hp)(Q:VK)(u3_:XK):Prop
 | mk (a:_) (dx:_) (n:Nat) (v:Int) (z0_:vs=[.ref a,.int (n:Int),.int v]) (z1_:1≤n) (z2_:n≤4096) (z3_:0≤v) (z4_:v≤255) (z5_:H a=some (.ins C dx [])) (z6_:zit C H a (List.replicate n (.int v)) "store" Q)
inductive spMkFH (C:Addr)(vs:List V)(H:Hp)(Q:VK)(u3_:XK):Prop
 | mk (a:_) (dx:_) (l:_) (ws:List Nat) (z0_:vs=[.ref a,.ref l]) (z1_:H l=some (.lst (vN ws))) (z2_:1≤ws.length) (z3_:ws.length≤4096) (z4_:(∀ w∈ws,w≤255)) (z5_:H a=some (.ins C dx [])) (z6_:zit C H a (vN ws) "fixed" Q)
def zbk:Nat→Str
 | 0 => "store"
 | 1 => "fixed"
 | 2 => "latch"
 | 3 => "meter"
 | _ => "pipe"
def khead (kd n:Nat):Str:=if kd=4 then phead n else zbk kd
def kext (kd n:Nat):List (Str×V):=if kd=4 then [("room",.int (n:Int))] else []
def ksize (kd:Nat)(ws:List Nat):Nat:=if kd=4 then 2 else ws.length
structure Kd (kd n:Nat)(ws:List Nat):Prop where
 k5:kd<5
 w5:∀ v∈ws,v≤255
 ln:ws.length≤4096
 l1:kd≠4→1≤ws.length
 l3:kd=3→ws.length=1
 pi:kd=4→ws.length≤n∧1≤n
 n2:n≤255
structure Chp (cs:Nat→Addr)(H:Hp)(x p:Addr)(kd n:Nat)(ws:List Nat):Prop where
 ex:∃ dx,H x=some (.ins (cs kd) dx (("head",.str (khead kd n)) :: ("held",.ref p) :: kext kd n))
 ls:H p=some (.lst (vN ws))
theorem Chp.same {cs:Nat→Addr}{H H':Hp}{x p:Addr}{kd n:Nat}{ws:List Nat}(o:Chp cs H x p kd n ws)(s:Same H H'):Chp cs H' x p kd n ws:=by
 obtain ⟨⟨dx,e⟩,l⟩:=o
 exact ⟨⟨dx,s _ _ e⟩,s _ _ l⟩
theorem zbF {kd j:Nat}(h:kd<5)(hj:j<5):decide (V.str (zbk kd)=V.str (zbk j))=decide (kd=j):=by
 rcases (show kd=0∨kd=1∨kd=2∨kd=3∨kd=4 by omega) with rfl | rfl | rfl | rfl | rfl <;> rcases (show j=0∨j=1∨j=2∨j=3∨j=4 by omega) with rfl | rfl | rfl | rfl | rfl <;> decide
def csOf (a b c d e:Addr):Nat→Addr
 | 0=>a
 | 1=>b
 | 2=>c
 | 3=>d
 | _=>e
abbrev zbA:Stmt:=zbh (top 30) 1
theorem zdN:FnScope ["self"] ["self"] (zak zbA):=sck rfl rfl rfl (by decide +kernel)
theorem zaY {f C:Addr}{fd:FuncData}(F:Fun K "__len__" "Chip.__len__" zbA f fd)(T:Blt mg)(c:ClsOk K C):FnOk P w K mg base CX0 1 f fd ["self"] (spLen C List.length):=by
 refine F.ok zdN (by walk_at "l") (fun cdv A outer s H vs Q E hr h=>?_)
 ·obtain ⟨a,p,ws,ext,rfl,o,k⟩:=h
  refine ⟨_,(zag (zas (zao zam (by rfl) T.len PySem.boot_len (zaa (zju (pv 0) rfl) zae)))),?rd⟩
  obtain ⟨⟨dx,hd,e⟩,l,nn⟩:=o
  exact ⟨_,rfl,a,C,dx,_,_,rfl,e,c.cl,c.held,rfl,p,ws,rfl,.inl (SqL.of l),k⟩
abbrev zcb:Stmt:=zbh (top 30) 4
theorem zeM:FnScope ["self"] ["self"] (zak zcb):=sck rfl rfl rfl (by decide +kernel)
theorem za1 {f C:Addr}{fd:FuncData}(F:Fun K "state" "Chip.state" zcb f fd)(T:Blt mg)(c:ClsOk K C):FnOk P w K mg base CX0 1 f fd ["self"] (spState C):=by
 refine F.ok zeM (by walk_at "l") (fun cdv A outer s H vs Q E hr h=>?_)
 ·obtain ⟨a,p,ws,ext,rfl,o,k⟩:=h
  refine ⟨_,(zag (zas (zaL zbH (by rfl) T.tuple zbV (zaa (zju (pv 0) rfl) zae)))),?rd⟩
  obtain ⟨⟨dx,hd,e⟩,l,nn⟩:=o
  exact ⟨_,rfl,a,C,dx,_,_,rfl,e,c.cl,c.held,rfl,p,ws,rfl,.inl ⟨SqL.of l,k⟩⟩
abbrev zbz:Stmt:=zbh (top 35) 1
theorem zdM:FnScope ["self"] ["self"] (zak zbz):=sck rfl rfl rfl (by decide +kernel)
theorem zdR {f C:Addr}{fd:FuncData}(F:Fun K "__len__" "Pipe.__len__" zbz f fd)(T:Blt mg)(c:ClsOk K C):FnOk P w K mg base CX0 1 f fd ["self"] (spLen C two):=by
 refine F.ok zdM (by walk_at "l") (fun cdv A outer s H vs Q E hr h=>?_)
 ·obtain ⟨a,p,ws,ext,rfl,o,k⟩:=h
  refine ⟨_,(zag (zas zac)),?rd⟩
  exact k
abbrev zbb:Stmt:=zbh (top 31) 0
theorem zcT:FnScope ["self","cells","word"] ["self","cells","word"] (zak zbb):=sck rfl rfl rfl (by decide +kernel)
theorem zcX {f C:Addr}{fd:FuncData}{dV:Value}(F:FunD K "__init__" "Store.__init__" zbb dV f fd)(T:Blt mg)(N:Nums mg)(c:ClsOk K C)(Gis_number:Cal P w K mg base 1 "is_number" ["thing","last"] spIsNum)(Gis_word:Cal P w K mg base 2 "is_word" ["thing"] spIsWord)(GCChip___init__:Clm P w K mg base 1 "Chip" "__init__" (spInit K)):FnOk P w K mg base CX0 3 f fd ["self","cells","word"] (spMkSH C):=by
 refine F.ok zcT (by walk_at "l") (fun cdv A outer s H vs Q E hr h=>?_)
 ·obtain ⟨a,dx,n,v,rfl,h0,h1,h2,h3,ha,k⟩:=h
  refine ⟨_,(zaf (zaA (PW.pt (zbN (zaR (zaQ (pe_c Gis_number (zaa (pv 1) (zaa (zbn rfl N.MOST_CELLS) zae))))) (zbN (zan zdP (pv 1) zac (zar _)) (zbm (zaR (zaQ (pe_c Gis_word (zaa (pv 2) zae)))))))) (zag za7) zap)
   (zag (zaF (zeT GCChip___init__ (hrm hr) rfl (zaa (pv 0) (zaa zaC (zaa (zaj zjw (zaq (zaa (pv 2) zae)) (pv 1)) zae))))))),?rd⟩
  refine ⟨_,rfl,(n:Int),4096,rfl,_,rfl,?_⟩
  rw [Xai (show (0:Int)≤(n:Int)∧(n:Int)≤4096 by omega)]
  refine iteF ⟨_,rfl,_,_,rfl,rfl,_,rfl,?_⟩
  rw [Xag (show ¬ (n:Int)<1 by omega)]
  refine iteF ⟨_,rfl,v,rfl,_,rfl,zku ⟨h2,h3⟩ ?_⟩
  refine ⟨_,rfl,_,rfl,by show 1≤sizeLine;decide,fun l hl=>?_⟩
  have en:((n:Int)).toNat=n:=by omega
  refine ⟨_,rfl,l,_,_,rfl,rfl,zab,by omega,by omega,?_,fun p hp=>?_⟩
  ·rw [en];show 1 * n≤sizeLine;exact Xar (by omega) (show 4096≤sizeLine by decide)
  rw [en,show (List.replicate n [V.int v]).flatten=List.replicate n (V.int v) from zhr n _]
  have nl:l≠a:=fun z=>by rw [z,ha] at hl;cases hl
  have hpl:p≠l:=fun z=>by rw [z,zab] at hp;cases hp
  have hp0:H p=none:=by rw [zai hpl] at hp;exact hp
  have ne:p≠a:=fun z=>by rw [z,ha] at hp0;cases hp0
  refine ⟨a,C,dx,p,_,rfl,by rw [zai (Ne.symm ne),zai (Ne.symm nl)];exact ha,c,fun H' e1 e2=>?_⟩
  refine k p H' hp0 ⟨dx,e1⟩ (by rw [e2 p ne];exact zab) fun b o hb e=>?_
  rw [e2 b hb,zai (zah e hp0),zai (zah e hl)];exact e
abbrev zbe:Stmt:=zbh (top 32) 0
theorem scFixed___init__:FnScope ["self","words","held"] ["self","words"] (zak zbe):=sck rfl rfl rfl (by decide +kernel)
theorem zc0 {f C:Addr}{fd:FuncData}(F:Fun K "__init__" "Fixed.__init__" zbe f fd)(T:Blt mg)(N:Nums mg)(c:ClsOk K C)(Gis_word:Cal P w K mg base 2 "is_word" ["thing"] spIsWord)(GCChip___init__:Clm P w K mg base 1 "Chip" "__init__" (spInit K)):FnOk P w K mg base CX0 3 f fd ["self","words"] (spMkFH C):=by
 refine F.ok scFixed___init__ (by walk_at "l") (fun cdv A outer s H vs Q E hr h=>?_)
 ·obtain ⟨a,dx,l,ws,rfl,hl,h1,h2,h3,ha,k⟩:=h
  refine' ⟨_,(zaf (ps_L 2 scFixed___init__.nd (zaL zbo (by rfl) T.list zev (zaa (pv 1) zae)))
   (zaf (zaA (PW.pt (zbN (zaR (ziL zgH zgH zac (zao zam (by rfl) T.len PySem.boot_len (zaa (pv 2) zae)) (zbn rfl N.MOST_CELLS))) (zbm (zaR (zaQ (zao (zfj rfl) (by rfl) T.all zjJ (zaa ?c1 zae))))))) (zag za7) zap)
   (zag (zaF (zeT GCChip___init__ (hrm hr) rfl (zaa (pv 0) (zaa zaC (zaa (pv 2) zae)))))))),?rd⟩
  (case c1=>exact (zej (Nc:=["word"]) [none] rfl (zaM (by rfl)) (zcc (pv 2)) (fun _ _ _ _ _=>(pg_L 0 (show (["word"]:List Str).Nodup by decide +kernel))) (fun _ _ _ _ _=>zeS) (fun _ _ _ _ _=>(pe_c Gis_word (zaa (pv 0) zae)))))
  refine ⟨_,rfl,l,_,rfl,.inl (SqL.of hl),fun p hp=>?_⟩
  have nl:p≠a:=fun z=>by rw [z,ha] at hp;cases hp
  refine ⟨_,rfl,p,_,rfl,.inl (SqL.of zab),_,_,rfl,rfl,_,rfl,?_⟩
  rw [zax,Xai (show (1:Int)≤(ws.length:Int) by omega)]
  refine iteT ⟨_,_,rfl,rfl,_,rfl,?_⟩
  rw [Xai (show (ws.length:Int)≤4096 by omega)]
  refine iteF ⟨_,rfl,p,rfl,⟨_,SqL.of zab⟩,?_⟩
  refine zdI (K:=K) (a:=p) (xs:=vN ws) (fun j rs σ H1=>∃ v1,σ=[v1]∧rs=List.replicate j (V.bl true)∧H1=upd H p (.lst (vN ws))) (by rw [zax];exact Xar h2 (by decide)) ⟨none,rfl,rfl,rfl⟩ ?_ ?_ ?_
  ·rintro j rs σ H1 hj ⟨v1,rfl,rfl,rfl⟩
   exact ⟨SqL.of zab,by rw [Xbe];exact Xaf _⟩
  ·rintro j x rs σ H1 ex ⟨v1,rfl,rfl,rfl⟩
   obtain ⟨b,hb,rfl⟩:=vN_get ex
   have:=h3 b (XaB hb)
   refine ⟨_,rfl,(b:Int),rfl,?_⟩
   rw [Xai (show (0:Int)≤(b:Int)∧(b:Int)≤255 by omega)]
   exact ⟨_,rfl,List.replicate_succ'.symm,rfl⟩
  ·rintro rs σ H1 ⟨v1,rfl,rfl,rfl⟩ D hD
   refine ⟨D,List.replicate (vN ws).length true,rfl,SqL.of (by rw [List.map_replicate];exact zab),_,rfl,?_⟩
   rw [show (List.replicate (vN ws).length true).all id=true by simp]
   refine iteF ⟨_,rfl,_,rfl,a,C,dx,p,_,rfl,?_,c,fun H' e1 e2=>?_⟩
   ·exact zad hD _ _ (zad hp _ _ ha)
   ·refine k p H' hp ⟨dx,e1⟩ (by rw [e2 p nl];exact zad hD _ _ zab) fun b o hb e=>?_
    rw [e2 b hb];exact zad hD _ _ (zad hp _ _ e)
abbrev zbd:Stmt:=zbh (top 33) 0
theorem zcV:FnScope ["self","word"] ["self","word"] (zak zbd):=sck rfl rfl rfl (by decide +kernel)
theorem zcZ {f C:Addr}{fd:FuncData}{dV:Value}(F:FunD K "__init__" "Latch.__init__" zbd dV f fd)(T:Blt mg)(c:ClsOk K C)(Gis_word:Cal P w K mg base 2 "is_word" ["thing"] spIsWord)(GCChip___init__:Clm P w K mg base 1 "Chip" "__init__" (spInit K)):FnOk P w K mg base CX0 3 f fd ["self","word"] (spMk1H C "latch"):=by
 refine F.ok zcV (by walk_at "l") (fun cdv A outer s H vs Q E hr h=>?_)
 ·obtain ⟨a,dx,v,rfl,h0,h1,ha,k⟩:=h
  refine ⟨_,(zaf (zaA (zaR (zaQ (pe_c Gis_word (zaa (pv 1) zae)))) (zag za7) zap)
   (zag (zaF (zeT GCChip___init__ (hrm hr) rfl (zaa (pv 0) (zaa zaC (zaa (zaq (zaa (pv 1) zae)) zae))))))),?rd⟩
  refine ⟨_,rfl,v,rfl,_,rfl,zku ⟨h0,h1⟩ ?_⟩
  refine ⟨_,rfl,_,rfl,by show 1≤sizeLine;decide,fun p hp=>?_⟩
  have ne:p≠a:=fun z=>by rw [z,ha] at hp;cases hp
  refine ⟨a,C,dx,p,_,rfl,by rw [zai (Ne.symm ne)];exact ha,c,fun H' e1 e2=>?_⟩
  refine k p H' hp ⟨dx,e1⟩ (by rw [e2 p ne];exact zab) fun b o hb e=>?_
  rw [e2 b hb,zai (zah e hp)];exact e
abbrev zbc:Stmt:=zbh (top 34) 0
theorem zcU:FnScope ["self","word"] ["self","word"] (zak zbc):=sck rfl rfl rfl (by decide +kernel)
theorem zcY {f C:Addr}{fd:FuncData}{dV:Value}(F:FunD K "__init__" "Meter.__init__" zbc dV f fd)(T:Blt mg)(c:ClsOk K C)(Gis_word:Cal P w K mg base 2 "is_word" ["thing"] spIsWord)(GCChip___init__:Clm P w K mg base 1 "Chip" "__init__" (spInit K)):FnOk P w K mg base CX0 3 f fd ["self","word"] (spMk1H C "meter"):=by
 refine F.ok zcU (by walk_at "l") (fun cdv A outer s H vs Q E hr h=>?_)
 ·obtain ⟨a,dx,v,rfl,h0,h1,ha,k⟩:=h
  refine ⟨_,(zaf (zaA (zaR (zaQ (pe_c Gis_word (zaa (pv 1) zae)))) (zag za7) zap)
   (zag (zaF (zeT GCChip___init__ (hrm hr) rfl (zaa (pv 0) (zaa zaC (zaa (zaq (zaa (pv 1) zae)) zae))))))),?rd⟩
  refine ⟨_,rfl,v,rfl,_,rfl,zku ⟨h0,h1⟩ ?_⟩
  refine ⟨_,rfl,_,rfl,by show 1≤sizeLine;decide,fun p hp=>?_⟩
  have ne:p≠a:=fun z=>by rw [z,ha] at hp;cases hp
  refine ⟨a,C,dx,p,_,rfl,by rw [zai (Ne.symm ne)];exact ha,c,fun H' e1 e2=>?_⟩
  refine k p H' hp ⟨dx,e1⟩ (by rw [e2 p ne];exact zab) fun b o hb e=>?_
  rw [e2 b hb,zai (zah e hp)];exact e
abbrev zbr:Stmt:=zbh (top 35) 0
theorem zdh:FnScope ["self","room"] ["self","room"] (zak zbr):=sck rfl rfl rfl (by decide +kernel)
theorem zdv {f C:Addr}{fd:FuncData}{dV:Value}(F:FunD K "__init__" "Pipe.__init__" zbr dV f fd)(T:Blt mg)(N:Nums mg)(c:ClsOk K C)(Gis_number:Cal P w K mg base 1 "is_number" ["thing","last"] spIsNum)(Gtwo_figures:Cal P w K mg base 2 "two_figures" ["word"] sp2fig)(GCChip___init__:Clm P w K mg base 1 "Chip" "__init__" (spInit K)):FnOk P w K mg base CX0 3 f fd ["self","room"] (spMkP C):=by
 refine F.ok zdh (by walk_at "l") (fun cdv A outer s H vs Q E hr h=>?_)
 ·obtain ⟨a,dx,r,rfl,h0,h1,ha,k⟩:=h
  refine ⟨_,(zaf (zaA (PW.pt (zbN (zaR (zaQ (pe_c Gis_number (zaa (pv 1) (zaa (zbn rfl N.MOST_ROOM) zae))))) (zbm (zan zdP (pv 1) zac (zar _))))) (zag za7) zap)
   (zaf (zaF (zeT GCChip___init__ (hrm hr) rfl (zaa (pv 0) (zaa (pe_fs2 zaC (pe_c Gtwo_figures (zaa (pv 1) zae))) (zaa (zaq zae) zae)))))
   (zag (zbZ (pv 0) (pv 1) rfl)))),?rd⟩
  refine ⟨_,rfl,(r:Int),255,rfl,_,rfl,?_⟩
  rw [Xai (show (0:Int)≤(r:Int)∧(r:Int)≤255 by omega)]
  refine iteF ⟨_,rfl,_,_,rfl,rfl,_,rfl,?_⟩
  rw [Xag (show ¬ (r:Int)<1 by omega)]
  refine iteF ⟨_,rfl,_,rfl,by show 5≤1000;decide,_,rfl,r,rfl,h1,_,rfl,by show 1+1≤1000;decide,?_⟩
  refine ⟨by show 0≤sizeLine;decide,fun p hp=>?_⟩
  have ne:p≠a:=fun z=>by rw [z,ha] at hp;cases hp
  refine ⟨a,C,dx,p,_,rfl,by rw [zai (Ne.symm ne)];exact ha,c,fun H' e1 e2=>?_⟩
  refine ⟨_,rfl,_,rfl,a,C,dx,_,rfl,e1,c.cl,c.room,by show 2<1000;decide,?_⟩
  refine k p _ hp ⟨⟨dx,zab⟩,by rw [zai ne,e2 p ne];exact zab⟩ fun b o hb e=>?_
  rw [zai hb,e2 b hb,zai (zah e hp)];exact e
theorem zh2 {f:Addr}(h:W.isFn K (.ref f)=true):∃ oI,K.lookup f=some oI∧oI.cls = .type "function" := by
 have h:W.typeIn K (.ref f)=some (.type "function"):=beq_iff_eq.mp h
 unfold W.typeIn at h
 obtain ⟨oI,h1,h2⟩:=XaJ.mp h
 exact ⟨oI,h1,h2⟩
abbrev za2:Stmt:=zbh (top 10) 0
theorem zcy:FnScope ["self","word"] ["self","word"] (zak za2):=sck rfl rfl rfl (by decide +kernel)
inductive spNwI (C:Addr)(vs:List V)(H:Hp)(Q:VK)(u3_:XK):Prop
 | mk (e:Addr) (x:Int) (z0_:vs=[.ref e,.int x]) (z1_:x.natAbs<2 ^ 100) (z2_:H e=some (.ext (xFr e C none))) (z3_:∀ (dx:Addr) (H':Hp),H dx=none→dx≠e→H' e=some (.ext (xFr e C (some dx)))→H' dx=some (.ext (xDc dx [("word",.int x)]))→(∀ b o,b≠e→H b=some o→H' b=some o)→Q .non H')
theorem zcH {f C fI:Addr}{fd:FuncData}(F:Fun K "__init__" "NoWord.__init__" za2 f fd)(T:Blt mg)(GSBusError:SupI K mg "BusError")(c:ExcI K C fI)(t1:W.takerIn K C "word" = some none):FnOk P w K mg base CX0 1 f fd ["self","word"] (spNwI C):=by
 refine F.ok zcy (by walk_at "l") (fun cdv A outer s H vs Q E hr h=>?_)
 ·obtain ⟨e,x,rfl,hx,ee,k⟩:=h
  refine ⟨_,(zaf (zaF (zj6 GSBusError rfl (zaa (pv 0) (zaa (zga ⟨_,_,_,rfl⟩ (zdW zaC (zf9 (pv 1) zf8))) zae))))
   (zag (ziM rfl (pv 0) (pv 1) rfl))),?rd⟩
  refine ⟨_,rfl,_,rfl,(by decide:(9:Nat)≤1000),_,rfl,x,rfl,Xaj hx (XaM (by decide) (by decide)),fun z=>?_⟩
  refine ⟨e,C,fI,none,_,rfl,ee,c,?_⟩
  refine ⟨_,rfl,_,rfl,e,C,fI,rfl,ee,c,t1,fun dx hdx ne=>?_⟩
  refine k dx _ hdx ne (by rw [zai (Ne.symm ne)];exact zab) zab fun b o hb eb=>?_
  rw [zai (zah eb hdx),zai hb]
  exact eb
abbrev zc8:Stmt:=top 58
theorem scrow_fits:FnScope ["row","chips","inner","chip","latch"] ["row","chips"] (zak zc8):=sck rfl rfl rfl (by decide +kernel)
def lenK (kd:Nat):List V→Nat:=if kd=4 then two else List.length
theorem Chp.ob {cs:Nat→Addr}{H:Hp}{x p:Addr}{kd n:Nat}{ws:List Nat}(o:Chp cs H x p kd n ws):Ob (cs kd) H x p (vN ws) (kext kd n):=by
 obtain ⟨dx,e⟩:=o.ex
 refine ⟨⟨dx,_,e⟩,o.ls,?_⟩
 unfold kext
 split
 ·exact .inr ⟨_,rfl⟩
 ·exact .inl rfl
structure Dt where
 m:Nat
 x:Nat→Addr
 p:Nat→Addr
 kd:Nat→Nat
 n:Nat→Nat
 sz:Nat→Nat
structure Chs (cs:Nat→Addr)(D:Dt)(Y:Hp)(us:Nat→List Nat):Prop where
 o:∀ i,i<D.m→Chp cs Y (D.x i) (D.p i) (D.kd i) (D.n i) (us i)
 k:∀ i,i<D.m→Kd (D.kd i) (D.n i) (us i)
 h1:∀ i,i<D.m→D.kd i=2∨D.kd i=3→(us i).length=1
 z:∀ i,i<D.m→ksize (D.kd i) (us i)=D.sz i
 inj:∀ i j,i<D.m→j<D.m→D.p i=D.p j→i=j
 m1:D.m≤200
theorem Chs.same {cs:Nat→Addr}{D:Dt}{Y Z:Hp}{us:Nat→List Nat}(S:Chs cs D Y us)(s:Same Y Z):Chs cs D Z us:=⟨fun i h=>(S.o i h).same s,S.k,S.h1,S.z,S.inj,S.m1⟩
def chL (D:Dt):List V:=(List.range D.m).map fun i=>.ref (D.x i)
theorem zid (D:Dt):(chL D).length=D.m:=by unfold chL;rw [Xah,List.length_range]
theorem zjI {D:Dt}{i:Nat}(h:i<D.m):(chL D)[i]? = some (.ref (D.x i)):=by unfold chL;rw [Xat,List.getElem?_range h];rfl
def Fit (D:Dt)(r:Rw):Prop:=r.c<D.m∧2 ^ ones r.i≤D.sz r.c∧∀ c a b,r.l=some (c,a,b)→c<D.m∧D.kd c=2
inductive spFits (cs:Nat→Addr)(vs:List V)(H:Hp)(Q:VK)(u3_:XK):Prop
 | mk (t L:Addr) (r:Rw) (D:Dt) (us:Nat→List Nat) (z0_:vs=[.ref t,.ref L]) (z1_:RwAt H t r) (z2_:r.i<2 ^ 16) (z3_:H L=some (.lst (chL D))) (z4_:Chs cs D H us) (z5_:(∀ b:Bool,(b=true↔Fit D r)→∀ H',Same H H'→Q (.bl b) H'))
theorem lkn {p:Addr}{kd n:Nat}{z:Str}(nm:Str)(h1:nm ≠ "head" := by decide)(h2:nm ≠ "held" := by decide)(h3:nm ≠ "room" := by decide):(("head",V.str z) :: ("held",V.ref p) :: kext kd n:List (Str×V)).lookup nm=none:=by
 unfold kext
 have e1:(nm == "head")=false:=beq_eq_false_iff_ne.mpr h1
 have e2:(nm == "held")=false:=beq_eq_false_iff_ne.mpr h2
 have e3:(nm == "room")=false:=beq_eq_false_iff_ne.mpr h3
 split <;> simp [List.lookup_cons,e1,e2,e3]
theorem zkg {n:Nat}(h:n<2 ^ 16):ones n≤16:=zdr 16 n h
theorem zgJ {f:Addr}{cs:Nat→Addr}{fd:FuncData}(F:Fun K "row_fits" "row_fits" zc8 f fd)(T:Blt mg)(Gones_of:Cal P w K mg base 2 "ones_of" ["mask"] spOnes)(GLatch:mg "Latch" = some (.ref (cs 2)))(kk:∀ kd,kd<5→W.kitOne K (.ref (cs kd)) (.ref (cs 2))=some (decide (kd=2)))(TL:∀ kd,kd<5→∀ {H:Hp} {a dx:Addr} {fs:List (Str×V)},H a=some (.ins (cs kd) dx fs)→TyOf K H (.ref a) (.ref (cs kd)))
  (ML:∀ kd,kd<5→Mth P w K mg base 1 (cs kd) "__len__" [] (fun vs _=>vs) (spLen (cs kd) (lenK kd))):FnOk P w K mg base CX0 3 f fd ["row","chips"] (spFits cs):=by
 refine F.ok scrow_fits (by walk_at "l") (fun cdv A outer s H vs Q E hr h=>?_)
 ·obtain ⟨t,L,r,D,us,rfl,⟨lt,et,hlt⟩,hi,eL,S,k⟩:=h
  refine ⟨_,(zaf (zco (zaX (zd9 (K:=K) rfl) (pv 0) (zaS zac) zcG) (zbO rfl (zau (pg_L 2 scrow_fits.nd) (zau (pg_L 3 scrow_fits.nd) (zau (pg_L 4 scrow_fits.nd) zbg)))))
   (zaf (zaA (PW.pt (zbN (zan op_ge (pv 3) (zao zam (by rfl) T.len PySem.boot_len (zaa (pv 1) zae)) (zar _)) (zbm (zan zdp (zaj zcP zac (pe_c Gones_of (zaa (pv 2) zae))) (zj8 1 ⟨rfl,rfl,rfl,rfl,rfl⟩ (hrm hr) rfl T.len (pe_x zal (pv 1) (pv 3))) (zar _))))) (zag (zas zaZ)) zap)
   (zag (zas (zj7 (zjv (zgc (pv 4))) (zbJ (zbP (za3 zdP (pe_x zaB (pv 4) zac) (zao zam (by rfl) T.len PySem.boot_len (zaa (pv 1) zae)) (zar _)) (zbJ (zao (zji (K:=K) rfl) (by rfl) T.isinstance zbQ (zaa (pe_x zal (pv 1) (pe_x zaB (pv 4) zac)) (zaa (ziQ rfl GLatch) zae))))))))))),?rd⟩
  have ec:cutV [V.int (r.m:Int),.int (r.w:Int),.int (r.i:Int),.int (r.c:Int),lt] (some 2) none=[.int (r.i:Int),.int (r.c:Int),lt]:=rfl
  have hsz:∀ i,i<D.m→D.sz i≤5000:=fun i h=>by
   rw [← S.z i h]
   unfold ksize
   split
   ·decide
   ·have:=(S.k i h).ln;omega
  refine ⟨_,rfl,2,rfl,t,_,rfl,SqT.of et,(fun e=>absurd (congrArg List.length e) (by rw [ec];simp)),fun tp htp=>?_⟩
  rw [ec]
  have s1:=zad (H:=H) (o:=HO.tup [.int (r.i:Int),.int (r.c:Int),lt]) htp
  refine ⟨tp,_,rfl,SqT.of zab,rfl,_,_,rfl,_,_,rfl,_,_,rfl,rfl,?_⟩
  refine ⟨_,rfl,_,rfl,L,_,rfl,.inl (SqL.of (s1 _ _ eL)),_,_,rfl,rfl,_,rfl,?_⟩
  rw [zid]
  by_cases f1:r.c<D.m
  rotate_left
  ·rw [Xai (show (D.m:Int)≤(r.c:Int) by omega)]
   exact iteT (iteT (k false ⟨(fun h=>nomatch h),fun h=>absurd h.1 f1⟩ _ s1))
  rw [Xag (show ¬ (D.m:Int)≤(r.c:Int) by omega)]
  refine iteF ⟨_,rfl,r.i,rfl,Xaj hi (by decide),fun H2 s2=>?_⟩
  have s12:=s1.trans s2
  have S2:=S.same s12
  have h16:ones r.i≤16:=zkg hi
  obtain ⟨dx,ex⟩:=(S2.o _ f1).ex
  have k5:=(S2.k _ f1).k5
  have hlen:lenK (D.kd r.c) (vN (us r.c))=D.sz r.c:=by
   rw [← S.z _ f1]
   unfold lenK ksize
   split
   ·rfl
   ·exact zax _
  refine ⟨_,_,rfl,rfl,⟨by omega,by omega,by decide⟩,_,rfl,_,rfl,L,_,_,_,rfl,rfl,SqL.of (s2 _ _ (s1 _ _ eL)),zbj (zjI f1),?_⟩
  refine ⟨_,cs (D.kd r.c),dx,_,_,_,rfl,ex,ML _ k5,_,_,_,_,rfl,(S2.o _ f1).ob,?_⟩
  rw [hlen]
  have hz:=hsz _ f1
  refine ⟨_,rfl,by omega,by omega,_,_,rfl,rfl,_,rfl,?_⟩
  have e1:(1:Int) * 2 ^ ((ones r.i:Nat):Int).toNat=((2 ^ ones r.i:Nat):Int):=by rw [Int.one_mul,Xak];norm_cast
  by_cases f2:2 ^ ones r.i≤D.sz r.c
  rotate_left
  ·rw [Xai (show ((D.sz r.c:Nat):Int)<(1:Int) * 2 ^ ((ones r.i:Nat):Int).toNat by rw [e1];omega)]
   exact iteT (k false ⟨(fun h=>nomatch h),fun h=>absurd h.2.1 f2⟩ _ s12)
  rw [Xag (show ¬ ((D.sz r.c:Nat):Int)<(1:Int) * 2 ^ ((ones r.i:Nat):Int).toNat by rw [e1];omega)]
  refine iteF ?_
  refine zaz ?_
  try dsimp only
  cases hl:r.l with
  | none =>
   rw [hl] at hlt
   obtain rfl:lt = .non:=hlt
   exact ⟨_,rfl,_,rfl,iteT (k true ⟨fun _=>⟨f1,f2,fun c a b e=>by rw [hl] at e;cases e⟩,fun _=>rfl⟩ _ s12)⟩
  | some o =>
   obtain ⟨c,a,b⟩:=o
   rw [hl] at hlt
   obtain ⟨u,rfl,eu⟩:=hlt
   have eu2:=s12 _ _ eu
   have eL2:=s12 _ _ eL
   refine ⟨_,rfl,_,rfl,iteF ⟨_,rfl,u,_,_,_,rfl,rfl,SqT.of eu2,rfl,_,rfl,L,_,rfl,.inl (SqL.of eL2),_,_,rfl,rfl,_,rfl,?_⟩⟩
   rw [zid]
   by_cases g1:c<D.m
   rotate_left
   ·rw [Xag (show ¬ (c:Int)<(D.m:Int) by omega)]
    exact iteF (k false ⟨(fun h=>nomatch h),fun h=>absurd (h.2.2 c a b hl).1 g1⟩ _ s12)
   rw [Xai (show (c:Int)<(D.m:Int) by omega)]
   obtain ⟨dy,ey⟩:=(S2.o _ g1).ex
   have k5c:=(S2.k _ g1).k5
   refine iteT ⟨_,rfl,_,rfl,u,_,_,_,rfl,rfl,SqT.of eu2,rfl,L,_,_,_,rfl,rfl,SqL.of eL2,zbj (zjI g1),_,_,_,_,rfl,TL _ k5c ey,kk _ k5c,k _ ⟨fun h=>⟨f1,f2,fun c' a' b' e=>?_⟩,fun h=>Xai (h.2.2 c a b hl).2⟩ _ s12⟩
   rw [hl] at e
   cases e
   exact ⟨g1,XaO h⟩
structure RwsFor (D:Dt)(m:Nat)(Y:Hp)(R:Addr)(ws:List (Addr×Rw)):Prop where
 e:Y R=some (.tup (refs ws))
 r:RwsAt2 m Y ws
 f:∀ z∈ws,Fit D z.2
 nc:ws.Pairwise fun a b=>NC a.2 b.2
 ln:ws.length≤60
theorem RwsFor.same {D:Dt}{m:Nat}{Y Z:Hp}{R:Addr}{ws:List (Addr×Rw)}(h:RwsFor D m Y R ws)(s:Same Y Z):RwsFor D m Z R ws:=⟨s _ _ h.e,h.r.same s,h.f,h.nc,h.ln⟩
structure ClsBd (K:W.Frag)(C:Addr):Prop where
 cls:Cls K C
 bits:NoAttr K C "bits"
 rows:NoAttr K C "rows"
 chips:NoAttr K C "chips"
 floating:NoAttr K C "floating"
 latches:NoAttr K C "latches"
 watches:NoAttr K C "watches"
 next_watch:NoAttr K C "next_watch"
abbrev zcx:Stmt:=top 59
theorem sccheck_map:FnScope ["bits","rows","chips","number","row"] ["bits","rows","chips"] (zak zcx):=sck rfl rfl rfl (by decide +kernel)
theorem zhR {p:Addr}{l:List V}{H:Hp}{v:V}(hF:H p=some (.lst l)):∀ {o:Option (Nat×Nat×Nat)},LatV H v o→Dv p H v (zc2 o)
 | none,h=>by rw [show v = .non from h];exact .non
 | some (c,a,b),⟨u,e,eu⟩=>by
  rw [e]
  have nu:u≠p:=fun z=>by rw [z,hF] at eu;cases eu
  refine .tup eu nu rfl fun i x d hx hd=>?_
  rcases (show i=0∨i=1∨i=2 by have:=(Xae.mp hx).1;simp at this;omega) with rfl | rfl | rfl <;> cases hx <;> cases hd <;> exact .int _
theorem zho {p t:Addr}{l:List V}{H:Hp}{r:Rw}(hF:H p=some (.lst l))(h:RwAt H t r):Dv p H (.ref t) (zaI r):=by
 obtain ⟨lt,et,hlt⟩:=h
 have nt:t≠p:=fun z=>by rw [z,hF] at et;cases et
 refine .tup et nt rfl fun i x d hx hd=>?_
 rcases (show i=0∨i=1∨i=2∨i=3∨i=4 by have:=(Xae.mp hx).1;simp at this;omega) with rfl | rfl | rfl | rfl | rfl <;> cases hx <;> cases hd <;> first | exact .int _ | exact zhR hF hlt
theorem zbD {p t:Addr}{m:Nat}{l:List V}{H:Hp}{ws:List (Addr×Rw)}(hF:H p=some (.lst l))(et:H t=some (.tup (refs ws)))(h:RwsAt2 m H ws):Dv p H (.ref t) (.tup (ws.map fun z=>zaI z.2)):=by
 have nt:t≠p:=fun z=>by rw [z,hF] at et;cases et
 refine .tup et nt (by rw [zat,Xah]) fun i x d hx hd=>?_
 obtain ⟨z,hz,rfl⟩:=zbC hx
 rw [Xat,hz] at hd
 cases hd
 exact zho hF (h z (XaB hz)).1
theorem ch_of {last:Int}{m w:D}(h:chD last m w=true):∃ a b:Nat,m = .int (a:Int)∧w = .int (b:Int)∧(a:Int)≤last∧(b:Int)≤last∧b &&& a=b:=by
 unfold chD at h
 rw [XaD,XaD] at h
 obtain ⟨a,rfl,h1⟩:=za9 h.1.1
 obtain ⟨b,rfl,h2⟩:=za9 h.1.2
 exact ⟨a,b,rfl,rfl,h1,h2,XaO h.2⟩
theorem lat_of {p:Addr}{H:Hp}{v:V}{d:D}(h:Dv p H v d)(e:latN d=true):∃ o,d=zc2 o∧LatV H v o∧ziu o:=by
 cases h with
 | non=>exact ⟨none,rfl,rfl,trivial⟩
 | @tup a xs ds et ha hl h =>
  match xs,ds,hl,h,et,e with
  | [x0,x1,x2],[c,m,w_],_,h,et,e =>
   have e:(numD 99 c && chD 255 m w_)=true:=e
   rw [XaD] at e
   obtain ⟨c',rfl,hc⟩:=za9 e.1
   obtain ⟨a',b',rfl,rfl,ha',hb',hab⟩:=ch_of e.2
   have d0:=h 0 x0 _ rfl rfl
   have d1:=h 1 x1 _ rfl rfl
   have d2:=h 2 x2 _ rfl rfl
   cases d0
   cases d1
   cases d2
   exact ⟨some (c',a',b'),rfl,⟨a,rfl,et⟩,by omega,by omega,hab⟩
  | [],ds,hl,_,_,e=>cases ds with | nil=>cases e | cons _ _=>cases hl
  | [_],ds,hl,_,_,e=>match ds,hl,e with | [_],_,e=>cases e
  | [_,_],ds,hl,_,_,e=>match ds,hl,e with | [_,_],_,e=>cases e
  | _ :: _ :: _ :: _ :: _,ds,hl,_,_,e=>match ds,hl,e with | _ :: _ :: _ :: _ :: _,_,e=>cases e
 | _=>cases e
theorem row_of {p:Addr}{H:Hp}{v:V}{d:D}{n:Nat}(h:Dv p H v d)(e:rowD (2 ^ n - 1) d=true):∃ t r,v = .ref t∧d=zaI r∧RwAt H t r∧RwOk n r:=by
 cases h with
 | @tup a xs ds et ha hl h =>
  by_cases h5:ds.length=5
  rotate_left
  ·rw [zf6 h5] at e;cases e
  have h5:xs.length=5:=by omega
  match xs,ds,h5,hl,h,et,e with
  | [x0,x1,x2,x3,x4],[m,w_,i,c,l],_,_,h,et,e =>
   have e:(chD (2 ^ n - 1) m w_ && numD (2 ^ n - 1) i && decide (natD i &&& natD m=0) && numD 99 c && latN l)=true:=e
   rw [XaD,XaD,XaD,XaD] at e
   obtain ⟨⟨⟨⟨e1,e2⟩,e3⟩,e4⟩,e5⟩:=e
   obtain ⟨m',w',rfl,rfl,hm,hw,hmw⟩:=ch_of e1
   obtain ⟨i',rfl,hi⟩:=za9 e2
   obtain ⟨c',rfl,hc⟩:=za9 e4
   obtain ⟨o,rfl,lo,lk⟩:=lat_of (h 4 x4 _ rfl rfl) e5
   have d0:=h 0 x0 _ rfl rfl
   have d1:=h 1 x1 _ rfl rfl
   have d2:=h 2 x2 _ rfl rfl
   have d3:=h 3 x3 _ rfl rfl
   cases d0
   cases d1
   cases d2
   cases d3
   have hp:(2:Int) ^ n=((2 ^ n:Nat):Int):=by norm_cast
   rw [hp] at hm hw hi
   have h2:=Xbq n
   exact ⟨a,⟨m',w',i',c',o⟩,rfl,rfl,⟨x4,et,lo⟩,⟨by show m'<_;omega,by show w'<_;omega,hmw,by show i'<_;omega,XaO e3,by show c'<100;omega,lk⟩⟩
 | _=>cases e
theorem map_of {p:Addr}{H:Hp}{v:V}{d:D}{n:Nat}(h:Dv p H v d)(e:mapD (2 ^ n - 1) d=true):∃ (R:Addr) (ws:List (Addr×Rw)),v = .ref R∧d = .tup (ws.map fun z=>zaI z.2)∧H R=some (.tup (refs ws))∧RwsAt2 n H ws:=by
 cases h with
 | @tup a xs ds et ha hl h =>
  have e:=Xa5.mp (show ds.all (rowD (2 ^ n - 1))=true from e)
  have g:∀ (xs:List V) (ds:List D),xs.length=ds.length→(∀ (i:Nat) (x:V) (d:D),xs[i]? = some x→ds[i]? = some d→Dv p H x d)→(∀ d∈ds,rowD (2 ^ n - 1) d=true)→∃ ws:List (Addr×Rw),xs=refs ws∧ds=ws.map (fun z=>zaI z.2)∧RwsAt2 n H ws:=by
   intro xs
   induction xs with
   | nil=>intro ds hl _ _;cases ds with
    | nil=>exact ⟨[],rfl,rfl,fun _ h=>nomatch h⟩
    | cons _ _=>cases hl
   | cons x xs ih=>intro ds hl h e;cases ds with
    | nil=>cases hl
    | cons d ds =>
     obtain ⟨ws,rfl,rfl,hw⟩:=ih ds (Nat.succ.inj hl) (fun i x d h1 h2=>h (i+1) x d h1 h2) (fun d hd=>e d (Xax _ hd))
     obtain ⟨t,r,rfl,rfl,ra,ro⟩:=row_of (h 0 x d rfl rfl) (e d XaE)
     exact ⟨(t,r) :: ws,rfl,rfl,fun z hz=>by
      rcases Xap.mp hz with rfl | hz
      ·exact ⟨ra,ro⟩
      ·exact hw z hz⟩
  obtain ⟨ws,rfl,rfl,hw⟩:=g xs ds hl h e
  exact ⟨a,ws,rfl,rfl,et,hw⟩
 | _=>cases e
theorem zhS {o o':Option (Nat×Nat×Nat)}(h:zc2 o=zc2 o'):o=o':=by
 cases o with
 | none=>cases o' with
  | none=>rfl
  | some x=>obtain ⟨a,b,c⟩:=x;cases h
 | some x =>
  obtain ⟨a,b,c⟩:=x
  cases o' with
  | none=>cases h
  | some y =>
   obtain ⟨a',b',c'⟩:=y
   have h:=D.tup.inj h
   injection h with h1 h
   injection h with h2 h
   injection h with h3 h
   rw [Int.ofNat.inj (D.int.inj h1),Int.ofNat.inj (D.int.inj h2),Int.ofNat.inj (D.int.inj h3)]
theorem zhp {r s:Rw}(h:zaI r=zaI s):r=s:=by
 have h:=D.tup.inj h
 injection h with h1 h
 injection h with h2 h
 injection h with h3 h
 injection h with h4 h
 injection h with h5 h
 obtain ⟨m,w,i,c,l⟩:=r
 obtain ⟨m',w',i',c',l'⟩:=s
 have h1:m=m':=Int.ofNat.inj (D.int.inj h1)
 have h2:w=w':=Int.ofNat.inj (D.int.inj h2)
 have h3:i=i':=Int.ofNat.inj (D.int.inj h3)
 have h4:c=c':=Int.ofNat.inj (D.int.inj h4)
 have h5:l=l':=zhS h5
 rw [h1,h2,h3,h4,h5]
def MapFor (D:Dt)(b:Int)(d:Cb.D):Prop:=∃ (m:Nat) (rs:List Rw),b=(m:Int)∧1≤m∧m≤16∧d = .tup (rs.map zaI)∧∀ r∈rs,RwOk m r∧Fit D r
theorem MapFor.row {D:Dt}{b:Int}{rs:List Rw}(h:MapFor D b (.tup (rs.map zaI))):∀ r∈rs,Fit D r:=by
 obtain ⟨m,rs',_,_,_,e,hr⟩:=h
 have e:=Cb.D.tup.inj e
 have:rs=rs':=by
  have g:∀ (a b:List Rw),a.map zaI=b.map zaI→a=b:=by
   intro a
   induction a with
   | nil=>intro b h;cases b with | nil=>rfl | cons _ _=>cases h
   | cons x a ih=>intro b h;cases b with
    | nil=>cases h
    | cons y b =>
     rw [XaN,XaN] at h
     injection h with h1 h2
     rw [zhp h1,ih b h2]
  exact g _ _ e
 rw [this]
 exact fun r hr'=>(hr r hr').2
theorem MapFor.ok {D:Dt}{m:Nat}{d:Cb.D}(h:MapFor D (m:Int) d):mapD (2 ^ m - 1) d=true:=by
 obtain ⟨m',rs,e,_,_,rfl,hr⟩:=h
 obtain rfl:=Int.ofNat.inj e
 have:=map_ok (ws:=rs.map fun r=>((0:Addr),r)) (m:=m) (fun z hz=>by
  obtain ⟨r,hr',rfl⟩:=XaC.mp hz
  exact (hr r hr').1)
 rw [Xbf] at this
 exact this
inductive spChkMap (CT:Addr)(cs:Nat→Addr)(vs:List V)(H:Hp)(Q:VK)(E:XK):Prop
 | mk (b:Int) (v:V) (p L:Addr) (d:Cb.D) (D:Dt) (us:Nat→List Nat) (z0_:vs=[.int b,v,.ref L]) (z1_:b.natAbs<2 ^ 100) (z2_:Dv p H v d) (z3_:tl d≤300) (z4_:H L=some (.lst (chL D))) (z5_:Chs cs D H us) (z6_:(MapFor D b d→∀ H',Same H H'→Q .non H')) (z7_:(¬ MapFor D b d→∀ H',Same H H'→E (.ref CT) none H'))
theorem zfH {f CT_NoMap:Addr}{cs:Nat→Addr}{fd:FuncData}(F:Fun K "check_map" "check_map" zcx f fd)(T:Blt mg)(N:Nums mg)(Gis_number:Cal P w K mg base 1 "is_number" ["thing","last"] spIsNumD)(Gis_map:Cal P w K mg base 5 "is_map" ["bits","thing"] spMapD)(Grow_fits:Cal P w K mg base 3 "row_fits" ["row","chips"] (spFits cs))(GX_NoMap:mg "NoMap" = some (.ref CT_NoMap))(xk_NoMap:ExcK K CT_NoMap):FnOk P w K mg base (CX1 P w) 6 f fd ["bits","rows","chips"] (spChkMap CT_NoMap cs):=by
 refine F.okX sccheck_map (by walk_at "l") (fun cdv A outer s H vs Q E hr h=>?_)
 ·obtain ⟨b,v,p,L,d,D,us,rfl,hb,hd,htl,eL,S,kg,kb⟩:=h
  refine ⟨_,(zaf (zaA (PT.nox (PW.pt (zbN (zaR (zaQ (pe_c Gis_number (zaa (pv 0) (zaa (zbn rfl N.MOST_BITS) zae))))) (zbm (zan zdP (pv 0) zac (zar _)))))) (zag (zdm (R:=fun H1=>E (.ref CT_NoMap) none H1) rfl GX_NoMap xk_NoMap rfl (PE.nox (zga ⟨_,_,_,rfl⟩ (zdW zaC (zf9 (pv 0) zf8)))) (fun pins σ H1 s2 h' ea vs I m r=>zfZ I m r))) zap)
   (zaf (zaA (PT.nox (zaR (zaQ (pe_c Gis_map (zaa (pv 0) (zaa (pv 1) zae)))))) (zag (zdm (R:=fun H1=>E (.ref CT_NoMap) none H1) rfl GX_NoMap xk_NoMap rfl (PE.nox (zga ⟨_,_,_,rfl⟩ (zdW zaC (zf9 (pv 0) (zdW zaC zf8))))) (fun pins σ H1 s2 h' ea vs I m r=>zfZ I m r))) zap)
   (zag (PS.fly (zbY zkz rfl (zeg rfl T.enumerate (zaa (pv 1) zae)) (zbO rfl (zau (pg_L 3 sccheck_map.nd) (zau (pg_L 4 sccheck_map.nd) zbg)))
   (zag (zaA (PT.nox (zaR (zaQ (pe_c Grow_fits (zaa (pv 4) (zaa (pv 2) zae)))))) (zag (zdm (R:=fun H1=>E (.ref CT_NoMap) none H1) rfl GX_NoMap xk_NoMap rfl (PE.nox (zga ⟨_,_,_,rfl⟩ (zdW zaC (zf9 (pv 3) (zdW zaC zf8))))) (fun pins σ H1 s2 h' ea vs I m r=>zh3 I m r))) zap))))))),?rd⟩
  have hb1000:b.natAbs<2 ^ 1000:=Xaj hb (XaM (by decide) (by decide))
  refine ⟨_,rfl,p,_,.int b,16,rfl,.int _,_,rfl,?_⟩
  by_cases h16:0≤b∧b≤16
  rotate_left
  ·rw [show numD 16 (.int b)=false from Xag h16]
   exact iteT (iteT ⟨_,rfl,by decide,_,rfl,b,rfl,hb1000,fun _=>kb (fun ⟨m,_,e,h1,h2,_⟩=>h16 (by omega)) _ (Same.refl _)⟩)
  rw [show numD 16 (.int b)=true from Xai h16]
  refine iteF ⟨_,rfl,_,_,rfl,rfl,_,rfl,?_⟩
  by_cases h1:1≤b
  rotate_left
  ·rw [Xai (show b<1 by omega)]
   exact iteT ⟨_,rfl,by decide,_,rfl,b,rfl,hb1000,fun _=>kb (fun ⟨m,_,e,h1,h2,_⟩=>by omega) _ (Same.refl _)⟩
  rw [Xag (show ¬ b<1 by omega)]
  refine iteF (zaz ?_)
  try dsimp only
  obtain ⟨m,rfl⟩:∃ m:Nat,b=(m:Int):=⟨b.toNat,by omega⟩
  refine ⟨_,rfl,_,rfl,p,v,d,m,rfl,hd,htl,by omega,by omega,fun H1 s1=>⟨_,rfl,?_⟩⟩
  cases hm:mapD (2 ^ m - 1) d with
  | false =>
   refine iteT ⟨_,rfl,by decide,_,rfl,(m:Int),rfl,hb1000,_,rfl,by decide,fun _=>kb (fun h=>by rw [h.ok] at hm;cases hm) _ s1⟩
  | true =>
   refine iteF (zaz ?_)
   try dsimp only
   obtain ⟨R,ws,rfl,rfl,eR,hR⟩:=map_of hd hm
   have eR1:=s1 _ _ eR
   refine ⟨_,rfl,R,rfl,⟨_,SqT.of eR1⟩,?_⟩
   refine zdH (K:=K) (a:=R) (xs:=refs ws) (fun i σ X=>∃ (v3 v4:Option V),σ=[some (.int (m:Int)),some (.ref R),some (.ref L),v3,v4]∧Same H X∧∀ z∈ws.take i,Fit D z.2) ⟨_,_,rfl,s1,fun _ h=>nomatch h⟩ ?_ ?_ ?_
   ·rintro i σ X _ ⟨_,_,_,sX,_⟩
    exact SqT.of (sX _ _ eR)
   ·rintro i y U σ X hy hU ⟨v3,v4,rfl,sX,hf⟩
    obtain ⟨z,hz,rfl⟩:=zbC hy
    have hzm:=XaB hz
    have sU:=sX.trans (zad (o:=.tup [.int (i:Int),.ref z.1]) hU)
    refine zh1 ?_
    refine ⟨_,rfl,_,rfl,z.1,L,z.2,D,us,rfl,(hR z hzm).1.same sU,Xaj (hR z hzm).2.i0 (XaM (by decide) (by omega)),sU _ _ eL,S.same sU,fun b hbf H2 s2=>⟨_,rfl,?_⟩⟩
    cases b with
    | true =>
     refine iteF ⟨_,_,rfl,sU.trans s2,fun y hy=>?_⟩
     rw [List.take_add_one,hz] at hy
     rcases XaF.mp hy with hy | hy
     ·exact hf y hy
     ·have:y=z:=by simpa using hy
      rw [this];exact hbf.mp rfl
    | false =>
     refine iteT ⟨_,rfl,by decide,_,rfl,(i:Int),rfl,?_,_,rfl,by decide,fun _=>kb (fun h=>?_) _ (sU.trans s2)⟩
     ·have h1:i<300:=by
       have:=(Xae.mp hz).1
       have htl:(ws.map fun z=>zaI z.2).length≤300:=htl
       rw [Xah] at htl
       omega
      rw [Int.natAbs_natCast]
      exact Xaj h1 (Xar (show 300≤2 ^ 10 by decide) (XaM (by decide) (by decide)))
     ·have h:MapFor D (m:Int) (.tup ((ws.map fun z=>z.2).map zaI)):=by rw [Xbf];exact h
      have:=hbf.mpr (h.row z.2 (XaC.mpr ⟨z,hzm,rfl⟩))
      cases this
   ·rintro σ X ⟨_,_,_,sX,hf⟩
    rw [zat,XaX (Xaf _)] at hf
    exact kg ⟨m,ws.map fun z=>z.2,rfl,by omega,by omega,by rw [Xbf];rfl,fun r hr=>by
     obtain ⟨z,hz,rfl⟩:=XaC.mp hr
     exact ⟨(hR z hz).2,hf z hz⟩⟩ X sX
abbrev zbM:Stmt:=top 60
theorem sccheck_clash:FnScope ["rows","clash","address","first","second","words"] ["rows"] (zak zbM):=sck rfl rfl rfl (by decide +kernel)
inductive spChkCl (vs:List V)(H:Hp)(Q:VK)(u3_:XK):Prop
 | mk (m:Nat) (R:Addr) (D:Dt) (ws:List (Addr×Rw)) (z0_:vs=[.ref R]) (z1_:RwsFor D m H R ws) (z2_:∀ H',Same H H'→Q .non H')
theorem zep {f:Addr}{fd:FuncData}(F:Fun K "check_clash" "check_clash" zbM f fd)(T:Blt mg)(Gclash_of:Cal P w K mg base 4 "clash_of" ["rows"] spClashV):FnOk P w K mg base CX0 5 f fd ["rows"] spChkCl:=by
 refine F.ok sccheck_clash (by walk_at "l") (fun cdv A outer s H vs Q E hr h=>?_)
 ·obtain ⟨m,R,D,ws,rfl,hR,k⟩:=h
  refine ⟨_,(zaf (ps_L 1 sccheck_clash.nd (pe_c Gclash_of (zaa (pv 0) zae)))
   (zag (zaA (zdV (zek (pv 1))) (zaf (zco (pv 1) (zbO rfl (zau (pg_L 2 sccheck_clash.nd) (zau (pg_L 3 sccheck_clash.nd) (zau (pg_L 4 sccheck_clash.nd) (zau (pg_L 5 sccheck_clash.nd) zbg))))))
   (zag za7)) zap))),?rd⟩
  exact ⟨_,rfl,m,R,ws,rfl,hR.e,hR.r,hR.nc,Xar hR.ln (by decide),fun H1 s1=>⟨_,rfl,_,rfl,iteF (k H1 s1)⟩⟩
abbrev zb4:Stmt:=top 26
theorem zeL:FnScope ["word"] ["word"] (zak zb4):=sck rfl rfl rfl (by decide +kernel)
inductive spChkWX (CT:Addr)(vs:List V)(H:Hp)(Q:VK)(E:XK):Prop
 | mk (x:Int) (z0_:vs=[.int x]) (z1_:x.natAbs<2 ^ 100) (z2_:((0≤x∧x≤255∧Q .non H)∨((¬ (0≤x∧x≤255))∧∀ (dx:Addr) (H':Hp),H' dx=some (.ext (xDc dx [("word",.int x)]))→Same H H'→E (.ref CT) (some dx) H')))
theorem zeW {f CT:Addr}{fd:FuncData}(F:Fun K "check_word" "check_word" zb4 f fd)(T:Blt mg)(Gis_word:Cal P w K mg base 2 "is_word" ["thing"] spIsWord)(GI_NoWord:XIni P w K mg base 1 "NoWord" CT (spNwI CT)):FnOk P w K mg base (CX1 P w) 3 f fd ["word"] (spChkWX CT):=by
 refine F.okX zeL (by walk_at "l") (fun cdv A outer s H vs Q E hr h=>?_)
 ·obtain ⟨x,rfl,hx,k⟩:=h
  refine ⟨_,(zag (zaA (PT.nox (zaR (zaQ (pe_c Gis_word (zaa (pv 0) zae))))) (zag (zhw (E:=E) GI_NoWord (hrm hr) rfl rfl rfl (PA.nox (zaa (pv 0) zae)) (fun pins σ H2 s2 ea od I e n hE=>zg9 I e n hE))) zap)),?rd⟩
  refine ⟨_,rfl,x,rfl,_,rfl,?_⟩
  rcases k with ⟨h1,h2,k⟩ | ⟨hn,k⟩
  ·rw [Xai ⟨h1,h2⟩]
   exact iteF k
  ·rw [Xag hn]
   refine iteT ⟨_,rfl,(by decide:(1:Nat)≤1000),fun e he=>?_⟩
   refine ⟨e,x,rfl,hx,zab,fun dx H2 hdx ne e1 e2 fr=>⟨rfl,some dx,e1,?_⟩⟩
   refine k dx _ (by rw [zf2 ne];exact e2) fun b o eb=>?_
   have hb:b≠e:=zah eb he
   rw [zf2 hb]
   exact fr b o hb (by rw [zai hb];exact eb)
abbrev zbf:Stmt:=zbh (top 62) 0
theorem zcW:FnScope ["self","bits","rows","chips","floating"] ["self","bits","rows","chips","floating"] (zak zbf):=sck rfl rfl rfl (by decide +kernel)
def lcs (ws:List (Addr×Rw)):List Nat:=ws.filterMap fun z=>z.2.l.map (·.1)
set_option tactic.hygienic true in
theorem zjd (ys:List Int):(dd ys).Nodup:=by
 have g:∀ (l S:List Int),S.Nodup→(l.foldl (fun S n=>if n∈S then S else S ++ [n]) S).Nodup:=by
  intro l
  induction l with
  | nil=>intro S h;exact h
  | cons a l ih =>
   intro S h
   rw [List.foldl_cons]
   refine ih _ ?_
   split
   ·exact h
   ·rename_i ha
    rw [Xba]
    exact ⟨h,by simp,fun x hx y hy=>by rw [Xab] at hy;subst hy;exact fun z=>ha (z ▸ hx)⟩
 exact g ys [] Xbz
theorem zi2 {ws:List (Addr×Rw)}{j:Nat}{z:Addr×Rw}(h:ws[j]? = some z):lcs (ws.take (j+1))=lcs (ws.take j) ++ (z.2.l.map (·.1)).toList:=by
 unfold lcs
 rw [List.take_succ,h,List.filterMap_append]
 congr 1
inductive spInitX (C CM CW:Addr)(cs:Nat→Addr)(vs:List V)(H:Hp)(Q:VK)(E:XK):Prop
 | mk (b db p L:Addr) (bits fl:Int) (v:V) (d:Cb.D) (D:Dt) (us:Nat→List Nat) (z0_:vs=[.ref b,.int bits,v,.ref L,.int fl]) (z1_:H b=some (.ins C db [])) (z2_:bits.natAbs<2 ^ 100) (z3_:fl.natAbs<2 ^ 100) (z4_:Dv p H v d) (z5_:tl d≤300) (z6_:H L=some (.lst (chL D))) (z7_:Chs cs D H us) (z8_:((¬ MapFor D bits d∧∀ H':Hp,Same H H'→E (.ref CM) none H')∨∃ (m:Nat) (R:Addr) (ws:List (Addr×Rw)),bits=(m:Int)∧v = .ref R∧1≤m∧m≤16∧RwsFor D m H R ws∧d = .tup (ws.map fun z=>zaI z.2)∧((0≤fl∧fl≤255)→∀ H':Hp,(∀ a o,a≠b→H a=some o→H' a=some o)→Q .non H')∧((¬ (0≤fl∧fl≤255))→∀ (dx:Addr) (H':Hp),H' dx=some (.ext (xDc dx [("word",.int fl)]))→Same H H'→E (.ref CW) (some dx) H')))
theorem zc1 {f:Addr}{C CM CW:Addr}{cs:Nat→Addr}{fd:FuncData}{dV:Value}(F:FunD K "__init__" "Board.__init__" zbf dV f fd)(T:Blt mg)(GBsorted:mg "sorted" = none)(cl:ClsBd K C)(GXcheck_map:CalX P w K mg base 6 "check_map" ["bits","rows","chips"] (spChkMap CM cs))(Gcheck_clash:Cal P w K mg base 5 "check_clash" ["rows"] spChkCl)(GXcheck_word:CalX P w K mg base 3 "check_word" ["word"] (spChkWX CW)):FnOk P w K mg base (CX1 P w) 7 f fd ["self","bits","rows","chips","floating"] (spInitX C CM CW cs):=by
 refine F.okX zcW (by walk_at "l") (fun cdv A outer s H vs Q E hr h=>?_)
 ·obtain ⟨b,db,p,L,bits,fl,v,d,D,us,rfl,eb,hbits,hf,hd,htl,eL,S,hk⟩:=h
  refine' ⟨_,(zaf (zaF (zhE GXcheck_map (hrm hr) rfl (Passes.s zfY) (zaa (pv 1) (zaa (pv 2) (zaa (pv 3) zae)))))
   (zaf (PS.nox (zaF (pe_c Gcheck_clash (zaa (pv 2) zae))))
   (zaf (zaF (zhE GXcheck_word (hrm hr) rfl (Passes.s zfY) (zaa (pv 4) zae)))
   (zaf (PS.nox (zbZ (pv 0) (pv 1) rfl))
   (zaf (PS.nox (zbZ (pv 0) (pv 2) rfl))
   (zaf (PS.nox (zbZ (pv 0) (zaL zbo (by rfl) T.list zev (zaa (pv 3) zae)) rfl))
   (zaf (PS.nox (zbZ (pv 0) (pv 4) rfl))
   (zaf (PS.nox (zbZ (pv 0) (zao (zfh rfl) (by rfl) GBsorted zfl (zaa ?c1 zae)) rfl))
   (zaf (PS.nox (zbZ (pv 0) zgb rfl))
   (zag (PS.nox (zbZ (pv 0) zac rfl)))))))))))),?rd⟩
  (case c1=>exact (zgE (Nc:=["row"]) [none] rfl (zaM (by rfl)) (zjs (pv 2)) (fun _ _ _ _ _=>(pg_L 0 (show (["row"]:List Str).Nodup by decide +kernel))) (fun _ _ _ _ _=>(zeR (zdV (zek (pe_x (zfU (K:=K) rfl) (pv 0) zac))))) (fun _ _ _ _ _=>(pe_x (zfU (K:=K) rfl) (pe_x (zfU (K:=K) rfl) (pv 0) zac) zac))))
  refine ⟨_,rfl,_,rfl,_,rfl,bits,v,p,L,d,D,us,rfl,hbits,hd,htl,eL,S,fun hm H1 s1=>?_,fun hm H1 s1=>?_⟩
  rotate_left
  ·rcases hk with ⟨_,hk⟩ | ⟨m,R,ws,rfl,rfl,h1,h2,hR,rfl,_⟩
   ·exact hk H1 s1
   ·exact absurd ⟨m,ws.map fun z=>z.2,rfl,h1,h2,by rw [Xbf];rfl,fun r hr=>by
     obtain ⟨z,hz,rfl⟩:=XaC.mp hr
     exact ⟨(hR.r z hz).2,hR.f z hz⟩⟩ hm
  rcases hk with ⟨hn,_⟩ | ⟨m,R,ws,rfl,rfl,h1,h2,hR,rfl,k,kw⟩
  ·exact absurd hm hn
  refine ⟨_,rfl,m,R,D,ws,rfl,hR.same s1,fun H2 s2=>?_⟩
  have s12:=s1.trans s2
  refine ⟨_,rfl,fl,rfl,hf,?_⟩
  by_cases hw:0≤fl∧fl≤255
  rotate_left
  ·exact .inr ⟨hw,fun dx H3 e3 s3=>kw hw dx H3 e3 (s12.trans s3)⟩
  have k:=k hw
  refine .inl ⟨hw.1,hw.2,?_⟩
  refine ⟨_,rfl,_,rfl,b,C,db,_,rfl,s12 _ _ eb,cl.cls,cl.bits,by show 0<1000;decide,?_⟩
  refine ⟨_,rfl,_,rfl,b,C,db,_,rfl,zab,cl.cls,cl.rows,by show 1<1000;decide,?_⟩
  have nLb:L≠b:=fun z=>by rw [z,eb] at eL;cases eL
  refine ⟨_,rfl,L,chL D,rfl,.inl (SqL.of (by rw [zai nLb,zai nLb];exact s12 _ _ eL)),fun l hl=>?_⟩
  have nlb:l≠b:=fun z=>by rw [z,zab] at hl;cases hl
  refine ⟨_,rfl,b,C,db,_,rfl,by rw [zai (Ne.symm nlb)];exact zab,cl.cls,cl.chips,by show 2<1000;decide,?_⟩
  refine ⟨_,rfl,_,rfl,b,C,db,_,rfl,zab,cl.cls,cl.floating,by show 3<1000;decide,?_⟩
  have hl2:H2 l=none:=by rw [zai nlb,zai nlb] at hl;exact hl
  refine zcL (fun Y=>Y b=some (.ins C db [("bits",.int (m:Int)),("rows",.ref R),("chips",.ref l),("floating",.int fl)])∧Y l=some (.lst (chL D))∧∀ a o,a≠b→H2 a=some o→Y a=some o) ⟨zab,by rw [zai nlb,zai nlb];exact zab,fun a o ha ea=>by rw [zai ha,zai ha,zai (zah ea hl2),zai ha,zai ha];exact ea⟩ ?_
  rintro Y ⟨yb,yl,fr⟩
  have nRb:R≠b:=fun z=>by have:=hR.e;rw [z,eb] at this;cases this
  have yR:=fr _ _ nRb (s12 _ _ hR.e)
  refine ⟨_,rfl,R,rfl,⟨_,SqT.of yR⟩,?_⟩
  refine zib (K:=K) (xs:=refs ws) (fun j ys σ H1=>∃ v0,σ=[v0]∧ys=(lcs (ws.take j)).map (fun (n:Nat)=>(n:Int))∧ys.length≤j∧H1=Y) (by rw [zat];have:=hR.ln;omega) ⟨none,rfl,rfl,Xaf _,rfl⟩ ?_ ?_ ?_
  ·rintro j ys σ H1 hj ⟨v0,rfl,_,hl',rfl⟩
   exact ⟨SqT.of yR,hl'⟩
  ·rintro j y ys σ H1 hy ⟨v0,rfl,hys,hl',rfl⟩
   obtain ⟨z,hz,rfl⟩:=zbC hy
   have hm:=XaB hz
   obtain ⟨lt,et,hlt⟩:=(hR.r z hm).1
   have yt:=fr _ _ (fun e=>by rw [e,eb] at et;cases et) (s12 _ _ et)
   rw [zi2 hz]
   cases hl:z.2.l with
   | none =>
    rw [hl] at hlt
    obtain rfl:lt = .non:=hlt
    exact ⟨_,rfl,z.1,_,_,_,rfl,rfl,SqT.of yt,rfl,_,rfl,iteF ⟨_,rfl,by rw [hys];simp,by omega,rfl⟩⟩
   | some o =>
    obtain ⟨c,a,b'⟩:=o
    rw [hl] at hlt
    obtain ⟨u,rfl,eu⟩:=hlt
    have yu:=fr _ _ (fun e=>by rw [e,eb] at eu;cases eu) (s12 _ _ eu)
    refine ⟨_,rfl,z.1,_,_,_,rfl,rfl,SqT.of yt,rfl,_,rfl,iteT ⟨_,rfl,z.1,_,_,_,rfl,rfl,SqT.of yt,rfl,u,_,_,_,rfl,rfl,SqT.of yu,rfl,(c:Int),rfl,_,rfl,by rw [hys];simp,by rw [Xaq];simp;omega,rfl⟩⟩
  ·rintro ys σ H1 ⟨v0,rfl,hys,hl',rfl⟩ d hd
   rw [zat,XaX (Xaf _)] at hys
   have hln:=hR.ln
   have hdl:=zjH ys
   rw [zat] at hl'
   have ndb:d≠b:=fun e=>by rw [e,yb] at hd;cases hd
   refine ⟨d,dd ys,rfl,zab,by omega,fun la ns hla pm _=>?_⟩
   have hns:∀ n∈ns,∃ c:Nat,n=(c:Int)∧c∈lcs ws:=fun n hn=>by
    have:=mem_dd.mp (pm.mem_iff.mp hn)
    rw [hys,XaC] at this
    obtain ⟨c,hc,e⟩:=this
    exact ⟨c,e.symm,hc⟩
   obtain ⟨keys,hk⟩:∃ keys:List Nat,ns=keys.map fun (n:Nat)=>(n:Int):=⟨ns.map Int.toNat,by
    rw [Xbf]
    conv=>lhs;rw [← List.map_id ns]
    refine List.map_congr_left fun n hn=>?_
    obtain ⟨c,e,_⟩:=hns n hn
    show n=((n.toNat:Nat):Int)
    omega⟩
   have knd:keys.Nodup:=by
    have h1:ns.Nodup:=pm.nodup_iff.mpr (zjd ys)
    rw [hk] at h1
    exact (List.pairwise_map.mp h1).imp fun h e=>h (by rw [e])
   have kmem:∀ c,c∈keys↔c∈lcs ws:=fun c=>by
    constructor
    ·intro hc
     obtain ⟨c',e,hc'⟩:=hns (c:Int) (by rw [hk];exact List.mem_map_of_mem hc)
     rw [show c=c' by omega];exact hc'
    ·intro hc
     have:(c:Int)∈ns:=pm.mem_iff.mpr (mem_dd.mpr (by rw [hys];exact List.mem_map_of_mem hc))
     rw [hk,XaC] at this
     obtain ⟨c',hc',e⟩:=this
     rw [show c=c' by omega];exact hc'
   have nlab:la≠b:=fun e=>by rw [e,zai (Ne.symm ndb),yb] at hla;cases hla
   have nlad:la≠d:=fun e=>by rw [e,zab] at hla;cases hla
   have yla:H1 la=none:=by rw [zai nlad] at hla;exact hla
   have eV:ns.map V.int=vN keys:=by rw [hk,Xbf];rfl
   rw [eV]
   refine ⟨_,rfl,b,C,db,_,rfl,by rw [zai (Ne.symm nlab),zai (Ne.symm ndb)];exact yb,cl.cls,cl.latches,by show 4<1000;decide,?_⟩
   refine zcL (fun Z=>Z b=some (.ins C db [("bits",.int (m:Int)),("rows",.ref R),("chips",.ref l),("floating",.int fl),("latches",.ref la)])∧Z la=some (.lst (vN keys))∧∀ a o,a≠b→H1 a=some o→Z a=some o) ⟨zab,by rw [zai nlab];exact zab,fun a o ha ea=>by rw [zai ha,zai (zah ea yla),zai (zah ea hd)];exact ea⟩ ?_
   rintro Z ⟨zb,zla,frZ⟩ wd hwd
   have nwb:wd≠b:=fun e=>by rw [e,zb] at hwd;cases hwd
   refine ⟨_,rfl,b,C,db,_,rfl,by rw [zai (Ne.symm nwb)];exact zb,cl.cls,cl.watches,by show 5<1000;decide,?_⟩
   refine ⟨_,rfl,b,C,db,_,rfl,zab,cl.cls,cl.next_watch,by show 6<1000;decide,?_⟩
   refine k _ fun a o ha ea=>?_
   have ez:=frZ a o ha (fr a o ha (s12 _ _ ea))
   rw [zai ha,zai ha,zai (zah ez hwd)]
   exact ez
abbrev zb8:Stmt:=top 64
theorem sc_law_draws:FnScope ["cell","count","row","rest","base","more","k","stir"] ["cell","count"] (zak zb8):=sck rfl rfl rfl (by decide +kernel)
inductive spDraws (vs:List V)(H:Hp)(Q:VK)(u3_:XK):Prop
 | mk (c:Int) (n:Nat) (z0_:vs=[.int c,.int (n:Int)]) (z1_:n≤200) (z2_:∀ (p:Addr) (H':Hp) (row:List Nat),H p=none→H' p=some (.lst (vN row))→row.length=n→(∀ v∈row,v<2 ^ 31)→Same H H'→Q (.ref p) H')
theorem ze0 {f:Addr}{fd:FuncData}(F:Fun K "_law_draws" "_law_draws" zb8 f fd)(T:Blt mg):FnOk P w K mg base CX0 1 f fd ["cell","count"] spDraws:=by
 refine F.ok sc_law_draws (by walk_at "l") (fun cdv A outer s H vs Q E hr h=>?_)
 ·obtain ⟨c,n,rfl,hn,k⟩:=h
  refine ⟨_,(zaf (ps_L 2 sc_law_draws.nd (zaq zae))
   (zaf (ps_L 3 sc_law_draws.nd (zaj za0 (pv 0) (zaj zdo zac zac)))
   (zaf (ps_L 4 sc_law_draws.nd (zaj zaH (zaj zaw (pv 0) zac) zac))
   (zaf (ps_L 5 sc_law_draws.nd (zaj zaw (pv 0) zac))
   (zaf (zbY PassesOwn.never rfl (zbv rfl T.range (zaa (pv 1) zae)) (pg_L 6 sc_law_draws.nd)
   (zaf (ps_L 7 sc_law_draws.nd (zaj zaw (zaj zce (pv 4) (zaj zaH (zaj zce zac (pv 6)) zac)) zac))
   (zaf (ps_L 7 sc_law_draws.nd (zaj zaw (zaj zaH (zaj zdo (pv 7) zac) (zaj zdo (zaj zaH (pv 6) zac) zac)) zac))
   (zaf (ps_L 7 sc_law_draws.nd (zaj zay (zaj zaw (zaj zdo (zaj zaH (pv 7) (pv 5)) zac) zac) zac))
   (zaf (zaA (zan zdp (pv 3) zac (zar _)) (zaf (ps_L 7 sc_law_draws.nd (zaj zaw (pv 3) zac))
   (zag (ps_L 3 sc_law_draws.nd (zaj zay (pv 3) zac)))) zap)
   (zag (zaF (zdO PySem.F.plainAttrs_list PySem.F.slot_list_append PySem.F.type_list_append zaV (pv 2) (zaa (pv 7) zae)))))))))
   (zag (zas (pv 2)))))))),?rd⟩
  refine ⟨by show 0≤sizeLine;decide,fun l hl=>?_⟩
  refine ⟨_,rfl,_,_,rfl,rfl,⟨by decide,by decide,by decide⟩,_,_,rfl,rfl,?_⟩
  refine ⟨_,rfl,_,_,rfl,rfl,(show (0:Int)<1000000007 by decide),_,_,rfl,rfl,?_⟩
  refine ⟨_,rfl,_,_,rfl,rfl,(show (0:Int)<999983 by decide),?_⟩
  refine ⟨_,rfl,_,rfl,by omega,by omega,?_⟩
  have b0:=Xbv c (show (1000000007:Int)≠0 by decide)
  have b1:=Xbk c (show (0:Int)<1000000007 by decide)
  have m0:=Xbv c (show (999983:Int)≠0 by decide)
  have m1:=Xbk c (show (0:Int)<999983 by decide)
  rw [Xak]
  refine zfb (n:=n) (fun i σ X=>∃ (v6 v7:Option V) (rest:Int) (row:List Nat),σ=[some (.int c),some (.int (n:Int)),some (.ref l),some (.int rest),some (.int (c % 1000000007+1)),some (.int (c % 999983)),v6,v7]∧X l=some (.lst (vN row))∧row.length=i∧(∀ v∈row,v<2 ^ 31)∧Same H X) ⟨none,none,_,[],rfl,zab,rfl,(fun v hv=>by cases hv),zad hl⟩ ?_ ?_
  ·rintro i σ X hi ⟨v6,v7,rest,row,rfl,eX,hlen,hrow,sX⟩
   refine ⟨_,rfl,_,rfl,_,_,rfl,rfl,zcQ (by decide) (by omega),_,_,rfl,rfl,_,_,rfl,rfl,zcQ (by omega) (by omega),_,_,rfl,rfl,(show (0:Int)<2147483647 by decide),?_⟩
   generalize hs1:(c % 1000000007+1) * (2 * (0+(i:Int))+3) % 2147483647=st1
   have s10:0≤st1:=by rw [← hs1];exact Xbv _ (by decide)
   have s11:st1<2147483647:=by rw [← hs1];exact Xbk _ (by decide)
   refine ⟨_,rfl,_,_,rfl,rfl,⟨by decide,by decide,by omega⟩,_,rfl,_,_,rfl,rfl,_,_,rfl,rfl,⟨by decide,by decide,by omega⟩,_,_,rfl,rfl,_,_,rfl,rfl,(show (0:Int)<2147483629 by decide),?_⟩
   show zaE 7 (V.int ((st1 ^ (5:Int).toNat+(0+(i:Int)+1) ^ (3:Int).toNat) % 2147483629)) _ _ _
   generalize hs2:(st1 ^ (5:Int).toNat+(0+(i:Int)+1) ^ (3:Int).toNat) % 2147483629=st2
   have s20:0≤st2:=by rw [← hs2];exact Xbv _ (by decide)
   have s21:st2<2147483629:=by rw [← hs2];exact Xbk _ (by decide)
   refine ⟨_,rfl,_,rfl,_,_,rfl,rfl,_,_,rfl,rfl,⟨by decide,by decide,by omega⟩,_,_,rfl,rfl,(show (0:Int)<2147483587 by decide),_,_,rfl,rfl,(show (0:Int)<16∧(16:Int).natAbs.log2<9000 by decide),?_⟩
   show zaE 7 (V.int ((st2+c % 999983) ^ (3:Int).toNat % 2147483587 / 16)) _ _ _
   generalize hs3:(st2+c % 999983) ^ (3:Int).toNat % 2147483587=st3
   have s30:0≤st3:=by rw [← hs3];exact Xbv _ (by decide)
   have s31:st3<2147483587:=by rw [← hs3];exact Xbk _ (by decide)
   have app:∀ v:Int,0≤v→v<2147483587→∃ row':List Nat,upd X l (.lst (vN row ++ [V.int v])) l=some (.lst (vN row'))∧row'.length=i+1∧(∀ u∈row',u<2 ^ 31)∧Same H (upd X l (.lst (vN row ++ [V.int v]))):=fun v h0 h1=>by
    obtain ⟨u,rfl⟩:=Int.eq_ofNat_of_zero_le h0
    refine ⟨row ++ [u],by rw [zab,zb2],by rw [Xaq,hlen];rfl,fun z hz=>?_,fun b o e=>by rw [zai (zah e hl)];exact sX b o e⟩
    rcases XaF.mp hz with hz | hz
    ·exact hrow z hz
    ·rw [Xab] at hz;omega
   have hsz:(vN row).length<sizeLine:=by rw [zax,hlen];exact zdb (by omega)
   refine ⟨_,rfl,_,_,rfl,rfl,_,rfl,ite2 (fun h1=>?_) (fun h1=>zaz ?_)⟩
   ·refine ⟨_,rfl,_,_,rfl,rfl,(show (0:Int)<1000003 by decide),?_⟩
    refine ⟨_,rfl,_,_,rfl,rfl,(show (0:Int)<1000003∧(1000003:Int).natAbs.log2<9000 by decide),?_⟩
    have r0:=Xbv rest (show (1000003:Int)≠0 by decide)
    have r1:=Xbk rest (show (0:Int)<1000003 by decide)
    obtain ⟨row',g1,g2,g3,g4⟩:=app (rest % 1000003) r0 (by omega)
    exact ⟨_,rfl,.inl ⟨rfl,_,SqL.of eX⟩,_,rfl,l,_,_,rfl,rfl,eX,hsz,_,_,_,row',rfl,g1,g2,g3,g4⟩
   ·dsimp only
    obtain ⟨row',g1,g2,g3,g4⟩:=app (st3 / 16) (by omega) (by omega)
    exact ⟨_,rfl,.inl ⟨rfl,_,SqL.of eX⟩,_,rfl,l,_,_,rfl,rfl,eX,hsz,_,_,_,row',rfl,g1,g2,g3,g4⟩
  ·rintro σ X ⟨v6,v7,rest,row,rfl,eX,hlen,hrow,sX⟩
   exact ⟨_,rfl,k l X row hl eX hlen hrow sX⟩
abbrev zcC:Stmt:=top 65
theorem sc_law_ones:FnScope ["mask","found","bit"] ["mask"] (zak zcC):=sck rfl rfl rfl (by decide +kernel)
theorem zjo (m i:Nat):sgl (m % 2 ^ (i+1))=sgl (m % 2 ^ i) ++ (if m &&& 2 ^ i=0 then [] else [2 ^ i]):=by
 rw [← zdx,← zdx,show zbX m (i+1)=zbX m i ++ [m / 2 ^ i % 2] from zd3 i m]
 have e:m &&& 2 ^ i=2 ^ i * (m / 2 ^ i % 2):=by
  apply Nat.eq_of_testBit_eq
  intro j
  rw [XaA,Xbs]
  rcases (show m / 2 ^ i % 2=0∨m / 2 ^ i % 2=1 by omega) with h | h
  ·rw [h,Nat.mul_zero,Nat.zero_testBit]
   by_cases e:i=j
   ·subst e
    rw [Nat.testBit_eq_decide_div_mod_eq,h];rfl
   ·rw [Xag e,Bool.and_false]
  ·rw [h,Nat.mul_one,Xbs]
   by_cases e:i=j
   ·subst e
    rw [Nat.testBit_eq_decide_div_mod_eq,h];simp
   ·rw [Xag e,Bool.and_false]
 rw [e]
 rcases (show m / 2 ^ i % 2=0∨m / 2 ^ i % 2=1 by omega) with h | h
 ·rw [h,if_pos (by omega),Xbb,ze3]
 ·rw [h,if_neg (by have:=Xbq i;omega),zeJ _ (zfm i m),zcR]
inductive spOnesL (vs:List V)(H:Hp)(Q:VK)(u3_:XK):Prop
 | mk (n:Nat) (z0_:vs=[.int (n:Int)]) (z1_:n<2 ^ 32) (z2_:∀ (p:Addr) (H':Hp),H p=none→H' p=some (.lst (vN (sgl n)))→Same H H'→Q (.ref p) H')
theorem zfL {f:Addr}{fd:FuncData}(F:Fun K "_law_ones" "_law_ones" zcC f fd)(T:Blt mg):FnOk P w K mg base CX0 1 f fd ["mask"] spOnesL:=by
 refine F.ok sc_law_ones (by walk_at "l") (fun cdv A outer s H vs Q E hr h=>?_)
 ·obtain ⟨n,rfl,hn,k⟩:=h
  refine ⟨_,(zaf (ps_L 1 sc_law_ones.nd (zaq zae))
   (zaf (ps_L 2 sc_law_ones.nd zac)
   (zaf (zef PassesOwn.never (zan zgH (pv 2) (pv 0) (zar _)) (zaf (zaA (zan zdp (zaj zaU (pv 0) (pv 2)) zac (zar _)) (zag (zaF (zdO PySem.F.plainAttrs_list PySem.F.slot_list_append PySem.F.type_list_append zaV (pv 1) (zaa (pv 2) zae)))) zap)
   (zag (zjr (i:=2) sc_law_ones.nd rfl (Or.inl rfl) (pv 2) zhY))))
   (zag (zas (pv 1)))))),?rd⟩
  refine ⟨by show 0≤sizeLine;decide,fun l hl=>?_⟩
  refine zd4 (fun σ X=>∃ (i:Nat),σ=[some (.int (n:Int)),some (.ref l),some (.int ((2 ^ i:Nat):Int))]∧i≤33∧X l=some (.lst (vN (sgl (n % 2 ^ i))))∧Same H X) (fun σ _=>match σ with | [_,_,some (.int b)]=>(2 * n+2 - b.toNat) | _=>0)
   ⟨0,rfl,by decide,by rw [Nat.pow_zero,Nat.mod_one,zc3];exact zab,zad hl⟩ ?_ ?_
  ·rintro σ X ⟨i,rfl,hi,eX,sX⟩
   have hsz:(vN (sgl (n % 2 ^ i))).length<sizeLine:=by
    rw [zax,zbt]
    have:=zdr 64 (n % 2 ^ i) (Xaz (Nat.mod_le _ _) (Xaj hn (by decide)))
    exact zdb (by omega)
   have hp:=Xbq i
   refine ⟨_,rfl,_,rfl,_,_,rfl,rfl,_,rfl,ite2 (fun h1=>?_) (fun h1=>?_)⟩
   ·have h1:2 ^ i≤n:=by have:=XaO h1;omega
    have hi32:i<32:=by
     by_cases h:i<32
     ·exact h
     ·have:2 ^ 32≤2 ^ i:=XaM (by decide) (by omega)
      omega
    have st:=zjo n i
    have e2:((2 ^ i:Nat):Int)+((2 ^ i:Nat):Int)=((2 ^ (i+1):Nat):Int):=by rw [Xbg];omega
    have e3:Builtin.bitAnd (n:Int) ((2 ^ i:Nat):Int)=((n &&& 2 ^ i:Nat):Int):=band _ _
    have hms:2 * n+2 - (((2 ^ i:Nat):Int)+((2 ^ i:Nat):Int)).toNat<2 * n+2 - ((2 ^ i:Nat):Int).toNat:=by rw [Xak,e2,Xak,Xbg];omega
    refine ⟨_,rfl,_,rfl,_,_,rfl,rfl,_,_,rfl,rfl,_,rfl,ite2 (fun h2=>?_) (fun h2=>zaz ?_)⟩
    ·have h2:¬ n &&& 2 ^ i=0:=fun z=>by
      have h2:=XaO h2
      rw [e3,z] at h2
      exact absurd h2 (by decide)
     rw [if_neg h2] at st
     refine ⟨_,rfl,.inl ⟨rfl,_,SqL.of eX⟩,_,rfl,l,_,_,rfl,rfl,eX,hsz,?_⟩
     refine ⟨_,rfl,_,rfl,_,_,rfl,rfl,⟨⟨i+1,?_,by omega,by rw [zab,st,zb2],fun b o e=>by rw [zai (zah e hl)];exact sX b o e⟩,hms⟩⟩
     rw [← e2];rfl
    ·have h2:n &&& 2 ^ i=0:=by
      by_cases z:n &&& 2 ^ i=0
      ·exact z
      ·exact absurd (Xai (show (0:Int)<Builtin.bitAnd (n:Int) ((2 ^ i:Nat):Int) by rw [e3];omega)) h2
     rw [if_pos h2,Xbb] at st
     try dsimp only
     refine ⟨_,rfl,_,rfl,_,_,rfl,rfl,⟨⟨i+1,?_,by omega,by rw [st];exact eX,sX⟩,hms⟩⟩
     rw [← e2];rfl
   ·have h1:n<2 ^ i:=by
     by_cases z:2 ^ i≤n
     ·exact absurd (Xai (show ((2 ^ i:Nat):Int)≤(n:Int) by omega)) h1
     ·omega
    rw [Nat.mod_eq_of_lt h1] at eX
    exact ⟨_,rfl,k l X hl eX sX⟩
  ·rintro σ X Q1 Q2 hq h
   obtain ⟨v,e,v2,e',i,j,e1,e2,c,e3,h⟩:=h
   exact ⟨v,e,v2,e',i,j,e1,e2,c,e3,hq _ _ h⟩
structure MdB (H:Hp)(m row:Addr)(kd n:Nat)(ws:List Nat):Prop where
 at_:H m=some (.lst [.str (zbk kd),.ref row,.int (n:Int)])
 ls:H row=some (.lst (vN ws))
theorem MdB.same {H H':Hp}{m row:Addr}{kd n:Nat}{ws:List Nat}(d:MdB H m row kd n ws)(s:Same H H'):MdB H' m row kd n ws:=⟨s _ _ d.at_,s _ _ d.ls⟩
theorem zhF:∀ a b:Nat,a &&& b=0→a ||| b=a+b:=by
 intro a
 induction a using Nat.strongRecOn with
 | _ a ih =>
  intro b h
  by_cases ha:a=0
  ·subst ha;simp
  ·have h2:(a / 2) &&& (b / 2)=0:=by rw [← Nat.and_div_two,h]
   have e1:(a ||| b) / 2=a / 2+b / 2:=(Nat.or_div_two (a:=a) (b:=b)).trans (ih (a / 2) (by omega) (b / 2) h2)
   have e2:(a ||| b) % 2=(a % 2 ||| b % 2):=Nat.or_mod_two_pow (n:=1)
   have e3:(a &&& b) % 2=(a % 2 &&& b % 2):=Nat.and_mod_two_pow (n:=1)
   rw [h] at e3
   have e4:a % 2 ||| b % 2=a % 2+b % 2:=by
    rcases (show a % 2=0∨a % 2=1 by omega) with x | x <;> rcases (show b % 2=0∨b % 2=1 by omega) with y | y <;> rw [x,y] at e3 ⊢ <;> first | rfl | (exact absurd e3 (by decide))
   omega
theorem ziV (i:Nat):ones (2 ^ i)=1:=by
 induction i with
 | zero=>rw [show 2 ^ 0=2 * 0+1 from rfl,zcp,zdq]
 | succ i ih=>rw [Xbg,Nat.mul_comm,zbw,ih]
theorem zfE {i p:Nat}(h:i.testBit p=false):ones (i ||| 2 ^ p)=ones i+1:=by
 have hd:i &&& 2 ^ p=0:=Nat.eq_of_testBit_eq fun j=>by
  rw [XaA,Xbs,Nat.zero_testBit]
  by_cases e:p=j
  ·subst e;rw [h];rfl
  ·rw [Xag e,Bool.and_false]
 rw [zhF _ _ hd,zjc _ _ hd,ziV]
def Few (n m r:Nat):Prop:=r &&& n=r∧ones r≤m
inductive spFew (vs:List V)(H:Hp)(Q:VK)(u3_:XK):Prop
 | mk (n m:Nat) (z0_:vs=[.int (n:Int),.int (m:Int)]) (z1_:n<2 ^ 32) (z2_:∀ (r:Nat) (H':Hp),Few n m r→Same H H'→Q (.int (r:Int)) H')
theorem zc4 (n:Nat):∀ i k,∃ r,((sgl (n % 2 ^ i)).take k).sum=r∧r &&& n=r∧r<2 ^ i∧ones r≤k
 | 0,k=>⟨0,by rw [Nat.pow_zero,Nat.mod_one,zc3];simp,by simp,by simp,by rw [zdq];omega⟩
 | i+1,k=>by
  have hp:2 ^ (i+1)=2 * 2 ^ i:=by rw [Xbg];omega
  have h0:=Xbq i
  rw [zjo]
  by_cases hb:n &&& 2 ^ i=0
  ·rw [if_pos hb,Xbb]
   obtain ⟨r,h1,h2,h3,h4⟩:=zc4 n i k
   exact ⟨r,h1,h2,by omega,h4⟩
  ·rw [if_neg hb]
   by_cases hk:k≤(sgl (n % 2 ^ i)).length
   ·rw [List.take_append_of_le_length hk]
    obtain ⟨r,h1,h2,h3,h4⟩:=zc4 n i k
    exact ⟨r,h1,h2,by omega,h4⟩
   ·obtain ⟨r,h1,h2,h3,h4⟩:=zc4 n i (sgl (n % 2 ^ i)).length
    rw [List.take_length] at h1
    have hf:r.testBit i=false:=Nat.testBit_lt_two_pow h3
    have hd:r &&& 2 ^ i=0:=Nat.eq_of_testBit_eq fun j=>by
     rw [XaA,Xbs,Nat.zero_testBit]
     by_cases e:i=j
     ·subst e;rw [hf];rfl
     ·rw [Xag e,Bool.and_false]
    have hbt:n.testBit i=true:=by
     cases h:n.testBit i with
     | true=>rfl
     | false =>
      refine absurd (Nat.eq_of_testBit_eq fun j=>?_) hb
      rw [XaA,Xbs,Nat.zero_testBit]
      by_cases e:i=j
      ·subst e;rw [h];rfl
      ·rw [Xag e,Bool.and_false]
    refine ⟨r ||| 2 ^ i,?_,?_,?_,?_⟩
    ·rw [XaX (by rw [Xaq];simp;omega),List.sum_append,h1,zhF _ _ hd];simp
    ·refine Nat.eq_of_testBit_eq fun j=>?_
     have:=congrArg (fun x=>Nat.testBit x j) h2
     simp only [XaA] at this
     rw [XaA,Nat.testBit_or,Xbs]
     by_cases e:i=j
     ·subst e;rw [hbt];simp
     ·rw [Xag e,Bool.or_false];exact this
    ·rw [zhF _ _ hd];omega
    ·rw [zfE hf];omega
theorem few_is {n:Nat}(hn:n<2 ^ 32)(k:Nat):Few n k ((sgl n).take k).sum:=by
 obtain ⟨r,h1,h2,_,h4⟩:=zc4 n 32 k
 rw [Nat.mod_eq_of_lt hn] at h1
 rw [h1]
 exact ⟨h2,h4⟩
structure Cm where
 x:Addr
 p:Addr
 m:Addr
 r:Addr
 kd:Nat
 n:Nat
 us:List Nat
structure CmOk (cs:Nat→Addr)(X:Hp)(c:Cm):Prop where
 ch:Chp cs X c.x c.p c.kd c.n c.us
 md:MdB X c.m c.r c.kd c.n c.us
 k:Kd c.kd c.n c.us
 h1:c.kd=2∨c.kd=3→c.us.length=1
 ne:c.p≠c.r
theorem CmOk.same {cs:Nat→Addr}{X Y:Hp}{c:Cm}(h:CmOk cs X c)(s:Same X Y):CmOk cs Y c:=⟨h.ch.same s,h.md.same s,h.k,h.h1,h.ne⟩
structure CMs (cs:Nat→Addr)(X:Hp)(cl:List Cm):Prop where
 o:∀ c∈cl,CmOk cs X c
 nd:((cl.map (·.p)) ++ (cl.map (·.r))).Nodup
theorem CMs.same {cs:Nat→Addr}{X Y:Hp}{cl:List Cm}(h:CMs cs X cl)(s:Same X Y):CMs cs Y cl:=⟨fun c hc=>(h.o c hc).same s,h.nd⟩
theorem CMs.add {cs:Nat→Addr}{X Y:Hp}{cl:List Cm}{c:Cm}(h:CMs cs X cl)(s:Same X Y)(hp:X c.p=none)(hr:X c.r=none)(ho:CmOk cs Y c):CMs cs Y (cl ++ [c]):=by
 have fp:∀ d∈cl,d.p≠c.p∧d.p≠c.r∧d.r≠c.p∧d.r≠c.r:=fun d hd=>by
  have e1:=(h.o d hd).ch.ls
  have e2:=(h.o d hd).md.ls
  exact ⟨(fun z=>by rw [z,hp] at e1;cases e1),(fun z=>by rw [z,hr] at e1;cases e1),(fun z=>by rw [z,hp] at e2;cases e2),(fun z=>by rw [z,hr] at e2;cases e2)⟩
 refine ⟨fun d hd=>?_,?_⟩
 ·rcases XaF.mp hd with hd | hd
  ·exact (h.same s).o d hd
  ·rw [Xab.mp hd];exact ho
 ·obtain ⟨n1,n2,n3⟩:=Xba.mp h.nd
  rw [XaV,XaV]
  refine Xba.mpr ⟨Xba.mpr ⟨n1,by simp,fun a ha b hb=>?_⟩,Xba.mpr ⟨n2,by simp,fun a ha b hb=>?_⟩,fun a ha b hb=>?_⟩
  ·obtain ⟨d,hd,rfl⟩:=XaC.mp ha
   have hb:b=c.p:=by simpa using hb
   rw [hb];exact (fp d hd).1
  ·obtain ⟨d,hd,rfl⟩:=XaC.mp ha
   have hb:b=c.r:=by simpa using hb
   rw [hb];exact (fp d hd).2.2.2
  ·rcases XaF.mp ha with ha | ha <;> rcases XaF.mp hb with hb | hb
   ·exact n3 a ha b hb
   ·obtain ⟨d,hd,rfl⟩:=XaC.mp ha
    have hb:b=c.r:=by simpa using hb
    rw [hb];exact (fp d hd).2.1
   ·obtain ⟨d,hd,rfl⟩:=XaC.mp hb
    have ha:a=c.p:=by simpa using ha
    rw [ha];exact Ne.symm (fp d hd).2.2.1
   ·have ha:a=c.p:=by simpa using ha
    have hb:b=c.r:=by simpa using hb
    rw [ha,hb];exact ho.ne
theorem CMs.updL {cs:Nat→Addr}{X:Hp}{cl:List Cm}{L:Addr}{o:HO}(h:CMs cs X cl)(hL:∀ c∈cl,c.x≠L∧c.p≠L∧c.m≠L∧c.r≠L):CMs cs (upd X L o) cl:=by
 refine ⟨fun c hc=>?_,h.nd⟩
 obtain ⟨a1,a2,a3,a4⟩:=hL c hc
 have ok:=h.o c hc
 obtain ⟨dx,e⟩:=ok.ch.ex
 exact ⟨⟨⟨dx,by rw [zai a1];exact e⟩,by rw [zai a2];exact ok.ch.ls⟩,⟨by rw [zai a3];exact ok.md.at_,by rw [zai a4];exact ok.md.ls⟩,ok.k,ok.h1,ok.ne⟩
def dfCm:Cm:=⟨0,0,0,0,0,0,[]⟩
def dtC (cl:List Cm):Dt:=⟨cl.length,fun i=>(cl.getD i dfCm).x,fun i=>(cl.getD i dfCm).p,fun i=>(cl.getD i dfCm).kd,fun i=>(cl.getD i dfCm).n,fun i=>ksize (cl.getD i dfCm).kd (cl.getD i dfCm).us⟩
def usC (cl:List Cm)(i:Nat):List Nat:=(cl.getD i dfCm).us
theorem za6 {cl:List Cm}{i:Nat}(h:i<cl.length):cl.getD i dfCm∈cl∧cl[i]? = some (cl.getD i dfCm):=by
 rw [List.getD_eq_getElem?_getD,Xau h]
 exact ⟨XbA _,rfl⟩
theorem nd_at {l:List Addr}(h:l.Nodup){i j:Nat}{a:Addr}(h1:l[i]? = some a)(h2:l[j]? = some a):i=j:=by
 obtain ⟨l1,e1⟩:=Xae.mp h1
 obtain ⟨l2,e2⟩:=Xae.mp h2
 exact (List.getElem_inj h).mp (e1.trans e2.symm)
theorem CMs.chs {cs:Nat→Addr}{X:Hp}{cl:List Cm}(h:CMs cs X cl)(hl:cl.length≤200):Chs cs (dtC cl) X (usC cl):=by
 refine ⟨fun i hi=>(h.o _ (za6 hi).1).ch,fun i hi=>(h.o _ (za6 hi).1).k,fun i hi=>(h.o _ (za6 hi).1).h1,fun i hi=>rfl,fun i j hi hj e=>?_,hl⟩
 have h1:(cl.map (·.p))[i]? = some (cl.getD i dfCm).p:=by rw [Xat,(za6 hi).2];rfl
 have h2:(cl.map (·.p))[j]? = some (cl.getD j dfCm).p:=by rw [Xat,(za6 hj).2];rfl
 rw [← show (cl.getD i dfCm).p=(cl.getD j dfCm).p from e] at h2
 exact nd_at (Xba.mp h.nd).1 h1 h2
theorem zie (cl:List Cm):chL (dtC cl)=cl.map fun c=>V.ref c.x:=by
 unfold chL
 apply List.ext_getElem?
 intro i
 rw [Xat,Xat]
 by_cases h:i<cl.length
 ·rw [(za6 h).2,List.getElem?_range (show i<(dtC cl).m from h)]
  rfl
 ·rw [XaR (Nat.le_of_not_lt h),XaR (show (List.range (dtC cl).m).length≤i by rw [List.length_range];exact Nat.le_of_not_lt h)]
  rfl
theorem zaW {H2 H':Hp}{x dx:Addr}{C:Addr}(hx:H2 x=none)(hdx:H2 dx=none)(ne:dx≠x)(k:KeepP x (upd (upd H2 dx (.own x)) x (.ins C dx [])) H'):Same H2 H':=fun a o e=>by
 have na:a≠x:=zah e hx
 exact k a o na (by rw [zai na,zai (zah e hdx)];exact e)
theorem drw {row:List Nat}(n:Nat)(hl:n≤row.length)(hw:∀ v∈row,v<2 ^ 31):∃ dr:Nat→Nat,∀ j:Nat,j<n→atI (vN row) (j:Int)=some (.int (dr j:Int))∧dr j<2 ^ 31:=⟨fun j=>row.getD j 0,fun j hj=>by
 have hj':j<row.length:=by omega
 have e:row.getD j 0=row[j]:=by rw [List.getD_eq_getElem?_getD,Xau hj'];rfl
 show _=some (V.int ((row.getD j 0:Nat):Int))∧row.getD j 0<2 ^ 31
 rw [e]
 exact ⟨zbj (by unfold vN;rw [Xat,Xau hj'];rfl),hw _ (XbA _)⟩⟩
abbrev zdl:Stmt:=top 73
theorem zgB:FnScope ["number","most"] ["number","most"] (zak zdl):=sck rfl rfl rfl (by decide +kernel)
theorem zgO {f:Addr}{fd:FuncData}(F:Fun K "_law_few" "_law_few" zdl f fd)(T:Blt mg)(G_law_ones:Cal P w K mg base 1 "_law_ones" ["mask"] spOnesL):FnOk P w K mg base CX0 2 f fd ["number","most"] spFew:=by
 refine F.ok zgB (by walk_at "l") (fun cdv A outer s H vs Q E hr h=>?_)
 ·obtain ⟨n,m,rfl,hn,k⟩:=h
  refine ⟨_,(zag (zas (zao (zif rfl) (by rfl) T.sum PyProof.Rows.boot_sum (zaa (zaX zcu (pe_c G_law_ones (zaa (pv 0) zae)) zcG (zaS (pv 1))) zae)))),?rd⟩
  refine ⟨_,rfl,n,rfl,hn,fun p H1 hp ep s1=>?_⟩
  have ec:cutV (vN (sgl n)) none (some (m:Int))=(((sgl n).take m).map fun (a:Nat)=>(a:Int)).map V.int:=by
   unfold cutV
   rw [HT.sIx_nat,HT.sIx_none,zax,Nat.sub_zero,List.drop_zero]
   unfold vN
   rw [List.map_take,List.map_take,Xbf]
   by_cases h:m≤(sgl n).length
   ·rw [Nat.min_eq_left h];rfl
   ·rw [Nat.min_eq_right (by omega),XaX (by rw [Xah];exact Xaf _),XaX (by rw [Xah];omega)];rfl
  have sm:∀ l:List Nat,(l.map fun (a:Nat)=>(a:Int)).sum=((l.sum:Nat):Int):=fun l=>by
   induction l with
   | nil=>rfl
   | cons a l ih=>rw [XaN,List.sum_cons,List.sum_cons,ih];omega
  refine ⟨_,rfl,m,rfl,p,_,rfl,SqL.of ep,fun q hq=>?_⟩
  rw [ec]
  refine ⟨q,_,rfl,SqL.of zab,?_⟩
  rw [sm]
  exact k _ _ (few_is hn m) (s1.trans (zad hq))
abbrev zcA:Stmt:=top 69
theorem zfA:FnScope ["model"] ["model"] (zak zcA):=sck rfl rfl rfl (by decide +kernel)
inductive spSz34 (vs:List V)(H:Hp)(Q:VK)(u3_:XK):Prop
 | mk (m r:Addr) (kd n:Nat) (us:List Nat) (z0_:vs=[.ref m]) (z1_:MdB H m r kd n us) (z2_:kd<5) (z3_:Q (.int (ksize kd us:Int)) H)
theorem zfJ {f:Addr}{fd:FuncData}(F:Fun K "_law_size" "_law_size" zcA f fd)(T:Blt mg):FnOk P w K mg base CX0 1 f fd ["model"] spSz34:=by
 refine F.ok zfA (by walk_at "l") (fun cdv A outer s H vs Q E hr h=>?_)
 ·obtain ⟨m,r,kd,n,us,rfl,hM,hk,k⟩:=h
  refine ⟨_,(zaf (zaA (zan za8 (pe_x zal (pv 0) zac) zaC (zar _)) (zag (zas zac)) zap)
   (zag (zas (zao zam (by rfl) T.len PySem.boot_len (zaa (pe_x zal (pv 0) zac) zae))))),?rd⟩
  refine ⟨_,rfl,m,_,_,_,rfl,rfl,SqL.of hM.at_,rfl,rfl,_,rfl,?_⟩
  rw [show decide (V.str (zbk kd)=V.str "pipe")=decide (kd=4) from zbF (j:=4) hk (by decide)]
  unfold ksize at k
  by_cases e:kd=4
  ·rw [if_pos e] at k
   rw [Xai e]
   exact iteT k
  ·rw [if_neg e] at k
   rw [Xag e]
   refine iteF (zaz ?_)
   try dsimp only
   refine ⟨_,rfl,m,_,_,_,rfl,rfl,SqL.of hM.at_,rfl,r,_,rfl,.inl (SqL.of hM.ls),?_⟩
   rw [zax]
   exact k
abbrev zcE:Stmt:=top 67
theorem sc_law_chip:FnScope ["one","other","kind","word","cells","words","room"] ["one","other"] (zak zcE):=sck rfl rfl rfl (by decide +kernel)
inductive spChip34 (cs:Nat→Addr)(vs:List V)(H:Hp)(Q:VK)(u3_:XK):Prop
 | mk (one other:Nat) (z0_:vs=[.int (one:Int),.int (other:Int)]) (z1_:one<2 ^ 31) (z2_:other<2 ^ 31) (z3_:∀ (t:Addr) (c:Cm) (H':Hp),H t=none→H' t=some (.tup [.ref c.x,.ref c.m])→H c.p=none→H c.r=none→H c.m=none→CmOk cs H' c→Same H H'→Q (.ref t) H')
theorem zfN {f:Addr}{cs:Nat→Addr}{fd:FuncData}(F:Fun K "_law_chip" "_law_chip" zcE f fd)(T:Blt mg)
  (GMFixed_1:Mak P w K mg base 3 "Fixed" (cs 1) [] (dP []) (spMkFH (cs 1))) (GMPipe_1:Mak P w K mg base 3 "Pipe" (cs 4) [] (dP []) (spMkP (cs 4))) (GMLatch_1:Mak P w K mg base 3 "Latch" (cs 2) [] (dP []) (spMk1H (cs 2) "latch")) (GMMeter_1:Mak P w K mg base 3 "Meter" (cs 3) [] (dP []) (spMk1H (cs 3) "meter")) (GMStore_2:Mak P w K mg base 3 "Store" (cs 0) [] (dP []) (spMkSH (cs 0))):FnOk P w K mg base CX0 5 f fd ["one","other"] (spChip34 cs):=by
 refine F.ok sc_law_chip (by walk_at "l") (fun cdv A outer s H vs Q E hr h=>?_)
 ·obtain ⟨one,other,rfl,h1,h2,k⟩:=h
  refine ⟨_,(zaf (ps_L 2 sc_law_chip.nd (pe_x zal (zaq (zaa zaC (zaa zaC (zaa zaC (zaa zaC (zaa zaC (zaa zaC (zaa zaC zae)))))))) (zaj zaw (pv 0) zac)))
   (zaf (ps_L 3 sc_law_chip.nd (zaj zaw (pv 1) zac))
   (zaf (zaA (zan za8 (pv 2) zaC (zar _)) (zaf (ps_L 4 sc_law_chip.nd (pe_x zal (zaq (zaa (zaj zaH zac (zaj zaw (zaj zay (pv 0) zac) zac)) (zaa zac (zaa zac (zaa zac zae))))) (zaj zaw (zaj zay (pv 0) zac) zac)))
   (zag (zas (zav (zaa (zdn GMStore_2 (hrm hr) rfl (zaa (pv 4) (zaa (pv 3) zae))) (zaa (zaq (zaa (pv 2) (zaa (zaj zjw (zaq (zaa (pv 3) zae)) (pv 4)) (zaa zac zae)))) zae)))))) zap)
   (zaf (zaA (zan za8 (pv 2) zaC (zar _)) (zaf (zbu (i:=5) (Nc:=["k","other"]) [none,some 1] sc_law_chip.nd rfl rfl rfl (zaM (by rfl)) (zbv rfl T.range (zaa (zaj zaH zac (zaj zaw (zaj zay (pv 0) zac) zac)) zae)) (fun _ _ _ _ _=>(pg_L 0 (show (["k","other"]:List Str).Nodup by decide +kernel))) (fun _ _ _ _ _=>zeS) (fun _ _ _ _ _=>(zaj zaw (zaj zaH (zaj zay (pv 1) (zaj zaH zac (pv 0))) (zaj zce zac (pv 0))) zac)))
   (zag (zas (zav (zaa (zdn GMFixed_1 (hrm hr) rfl (zaa (pv 5) zae)) (zaa (zaq (zaa (pv 2) (zaa (pv 5) (zaa zac zae)))) zae)))))) zap)
   (zaf (zaA (zan za8 (pv 2) zaC (zar _)) (zag (zas (zav (zaa (zdn GMLatch_1 (hrm hr) rfl (zaa (pv 3) zae)) (zaa (zaq (zaa (pv 2) (zaa (zaq (zaa (pv 3) zae)) (zaa zac zae)))) zae))))) zap)
   (zaf (zaA (zan za8 (pv 2) zaC (zar _)) (zag (zas (zav (zaa (zdn GMMeter_1 (hrm hr) rfl (zaa (pv 3) zae)) (zaa (zaq (zaa (pv 2) (zaa (zaq (zaa (pv 3) zae)) (zaa zac zae)))) zae))))) zap)
   (zaf (ps_L 6 sc_law_chip.nd (pe_x zal (zaq (zaa (zaj zaH zac (zaj zaw (zaj zay (pv 0) zac) zac)) (zaa zac zae))) (zaL zdK (by rfl) T.int zgo (zaa (za3 za8 (zaj zaw (zaj zay (pv 0) zac) zac) zac (zar _)) zae))))
   (zag (zas (zav (zaa (zdn GMPipe_1 (hrm hr) rfl (zaa (pv 6) zae)) (zaa (zaq (zaa (pv 2) (zaa (zaq zae) (zaa (pv 6) zae)))) zae)))))))))))),?rd⟩
  have hv:other % 256≤255:=by omega
  have ev:(other:Int) % 256=((other % 256:Nat):Int):=by omega
  refine zaK (fun σ X=>∃ kd:Nat,kd<5∧σ=[some (.int (one:Int)),some (.int (other:Int)),some (.str (zbk kd)),none,none,none,none]∧Same H X) (fun N hN=>?_) ?_
  ·refine ⟨by show 7≤sizeLine;decide,fun l hl=>⟨_,rfl,_,_,rfl,rfl,(show (0:Int)<7 by decide),?_⟩⟩
   obtain ⟨kd,hkd,ek⟩:∃ kd:Nat,kd<5∧atI [V.str "store",V.str "fixed",V.str "latch",V.str "meter",V.str "pipe",V.str "latch",V.str "store"] ((one:Int) % 7)=some (.str (zbk kd)):=by
    rw [show (one:Int) % 7=((one % 7:Nat):Int) by omega]
    rcases (show one % 7=0∨one % 7=1∨one % 7=2∨one % 7=3∨one % 7=4∨one % 7=5∨one % 7=6 by omega) with h | h | h | h | h | h | h <;> rw [h]
    ·exact ⟨0,by decide,rfl⟩
    ·exact ⟨1,by decide,rfl⟩
    ·exact ⟨2,by decide,rfl⟩
    ·exact ⟨3,by decide,rfl⟩
    ·exact ⟨4,by decide,rfl⟩
    ·exact ⟨2,by decide,rfl⟩
    ·exact ⟨0,by decide,rfl⟩
   exact ⟨l,_,_,_,rfl,rfl,SqL.of zab,ek,hN _ _ ⟨kd,hkd,rfl,zad hl⟩⟩
  rintro σ X ⟨kd,hkd,rfl,sX⟩
  refine zaK (fun σ Y=>σ=[some (.int (one:Int)),some (.int (other:Int)),some (.str (zbk kd)),some (.int ((other % 256:Nat):Int)),none,none,none]∧Y=X) (fun N hN=>?_) ?_
  ·refine ⟨_,rfl,_,_,rfl,rfl,(show (0:Int)<256 by decide),hN _ _ ⟨?_,rfl⟩⟩
   try dsimp only
   rw [ev]
   rfl
  rintro σ Y ⟨rfl,rfl⟩
  generalize other % 256=v at *
  have same_p:∀ {Z:Hp} {x dx p:Addr} {C:Addr},Z x=none→Z dx=none→dx≠x→upd (upd Z dx (.own x)) x (.ins C dx []) p=none→Z p=none:=fun {Z x dx p C} hx hdx ne h=>zhm ((zad (o:=.own x) hdx).trans (zad (o:=.ins C dx []) (by rw [zai (Ne.symm ne)];exact hx))) h
  have fin:∀ (x p r:Addr) (kd n:Nat) (us:List Nat) (Z:Hp),Same H Z→H p=none→H r=none→Chp cs Z x p kd n us→Z r=some (.lst (vN us))→Kd kd n us→(kd=2∨kd=3→us.length=1)→p≠r→3≤sizeLine∧∀ a,Z a=none→2≤sizeLine∧∀ t,upd Z a (.lst [.str (zbk kd),.ref r,.int (n:Int)]) t=none→Q (.ref t) (upd (upd Z a (.lst [.str (zbk kd),.ref r,.int (n:Int)])) t (.tup [.ref x,.ref a])):=fun x p r kd n us Z sZ hp hr' hc er hk h1' hne=>by
   refine ⟨by decide,fun a ha=>⟨by decide,fun t ht=>?_⟩⟩
   have sa:=zad (o:=.lst [V.str (zbk kd),.ref r,.int (n:Int)]) ha
   have st:=zad (o:=.tup [.ref x,.ref a]) ht
   exact k t ⟨x,p,a,r,kd,n,us⟩ _ (sZ.trans sa |>.free ht) zab hp hr' (sZ.free ha) ⟨hc.same (sa.trans st),⟨st _ _ zab,st _ _ (sa _ _ er)⟩,hk,h1',hne⟩ ((sZ.trans sa).trans st)
  
  refine zaK (fun σ Z=>σ=[some (.int (one:Int)),some (.int (other:Int)),some (.str (zbk kd)),some (.int (v:Int)),none,none,none]∧Z=Y∧kd≠0) (fun N hN=>?_) ?_
  ·refine ⟨_,rfl,rfl,_,rfl,?_⟩
   rw [show decide (V.str (zbk kd)=V.str "store")=decide (kd=0) from zbF (j:=0) hkd (by decide)]
   by_cases e:kd=0
   ·subst e
    rw [Xai rfl]
    refine iteT ⟨_,rfl,_,_,rfl,rfl,⟨by decide,by decide +kernel⟩,_,_,rfl,rfl,(show (0:Int)<40 by decide),_,_,rfl,rfl,by show 4≤sizeLine;decide,fun l hl=>⟨_,rfl,_,_,rfl,rfl,⟨by decide,by decide +kernel⟩,_,_,rfl,rfl,(show (0:Int)<4 by decide),?_⟩⟩
    obtain ⟨cn,c1,c2,ec⟩:∃ cn:Nat,1≤cn∧cn≤300∧atI [V.int ((1:Int)+(one:Int) / 7 % 40),V.int 2,V.int 64,V.int 300] ((one:Int) / 280 % 4)=some (.int (cn:Int)):=by
     rw [show (one:Int) / 280 % 4=((one / 280 % 4:Nat):Int) by omega]
     rcases (show one / 280 % 4=0∨one / 280 % 4=1∨one / 280 % 4=2∨one / 280 % 4=3 by omega) with h | h | h | h <;> rw [h]
     ·exact ⟨1+one / 7 % 40,by omega,by omega,by show some (V.int ((1:Int)+(one:Int) / 7 % 40))=_;rw [show (1:Int)+(one:Int) / 7 % 40=((1+one / 7 % 40:Nat):Int) by omega]⟩
     ·exact ⟨2,by decide,by decide,rfl⟩
     ·exact ⟨64,by decide,by decide,rfl⟩
     ·exact ⟨300,by decide,by decide,rfl⟩
    refine ⟨l,_,_,_,rfl,rfl,SqL.of zab,ec,?_⟩
    have sl:=sX.trans (zad (o:=.lst [V.int ((1:Int)+(one:Int) / 7 % 40),V.int 2,V.int 64,V.int 300]) hl)
    refine ⟨_,rfl,_,rfl,fun x dx hx hdx ne=>⟨x,dx,cn,(v:Int),rfl,c1,by omega,by omega,by omega,zab,fun p Z1 hp ex el kp=>⟨rfl,?_⟩⟩⟩
    have sm:=zaW hx hdx ne kp
    have hp1:=same_p hx hdx ne hp
    refine ⟨_,rfl,_,rfl,by show 1≤sizeLine;decide,fun g hg=>⟨_,rfl,g,_,_,rfl,rfl,zab,by omega,by omega,?_,fun r hr'=>?_⟩⟩
    ·rw [Xak];exact Xar (show 1 * cn≤300 by omega) (by decide)
    have sg:=zad (o:=.lst [V.int (v:Int)]) hg
    have er:(List.replicate ((cn:Int)).toNat [V.int (v:Int)]).flatten=vN (List.replicate cn v):=by rw [Xak];exact ziG cn v
    rw [er]
    have sr:=zad (o:=.lst (vN (List.replicate cn v))) hr'
    have elv:Z1 p=some (.lst (vN (List.replicate cn v))):=by rw [el];unfold vN;rw [List.map_replicate]
    refine fin x p r 0 0 (List.replicate cn v) _ (sl.trans sm |>.trans sg |>.trans sr) (sl.free hp1) ((sl.trans sm).trans sg |>.free hr') ⟨?_,(sg.trans sr) _ _ elv⟩ zab ⟨by decide,fun w hw=>by rw [List.eq_of_mem_replicate hw];exact hv,by rw [Xbe];omega,fun _=>by rw [Xbe];exact c1,(fun h=>absurd h (by decide)),(fun h=>absurd h (by decide)),by decide⟩ (fun h=>by rcases h with h | h <;> cases h) ?_
    ·obtain ⟨d0,e0⟩:=ex
     exact ⟨d0,(sg.trans sr) _ _ e0⟩
    ·intro z
     have:=sg _ _ elv
     rw [z,hr'] at this;cases this
   ·rw [Xag e]
    exact iteF (hN _ _ ⟨rfl,rfl,e⟩)
  rintro σ Z ⟨rfl,rfl,e0⟩
  
  refine zaK (fun σ Y=>σ=[some (.int (one:Int)),some (.int (other:Int)),some (.str (zbk kd)),some (.int (v:Int)),none,none,none]∧Y=Z∧kd≠1) (fun N hN=>?_) ?_
  ·refine ⟨_,rfl,rfl,_,rfl,?_⟩
   rw [show decide (V.str (zbk kd)=V.str "fixed")=decide (kd=1) from zbF (j:=1) hkd (by decide)]
   by_cases e:kd=1
   ·subst e
    rw [Xai rfl]
    refine iteT ⟨_,rfl,_,_,rfl,rfl,⟨by decide,by decide +kernel⟩,_,_,rfl,rfl,(show (0:Int)<20 by decide),_,_,rfl,rfl,_,rfl,by omega,by omega,?_⟩
    rw [show ((1:Int)+(one:Int) / 7 % 20).toNat=1+one / 7 % 20 by omega]
    generalize hc:1+one / 7 % 20=cn
    have c1:1≤cn∧cn≤20:=by omega
    refine zbT (n:=cn) (fun i ys σ X'=>∃ (v0:Option V) (l:List Nat),σ=[v0,some (.int (other:Int))]∧ys=vN l∧l.length=i∧(∀ w∈l,w≤255)∧X'=Z) (Xar c1.2 (by decide)) ⟨none,[],rfl,rfl,rfl,(fun _ h=>nomatch h),rfl⟩ ?_ ?_ ?_
    ·rintro i ys σ X' ⟨v0,l,rfl,rfl,hl,_⟩
     rw [zax,hl];exact Xaf _
    ·rintro i ys σ X' hi ⟨v0,l,rfl,rfl,hl,hw,rfl⟩
     rw [Int.zero_add]
     refine ⟨_,rfl,_,rfl,_,_,rfl,rfl,_,_,rfl,rfl,⟨by omega,log_ok (by omega) (by omega)⟩,_,rfl,_,_,rfl,rfl,zcQ (by decide) (by omega),_,_,rfl,rfl,_,_,rfl,rfl,(show (0:Int)<256 by decide),?_⟩
     refine ⟨_,l ++ [((other / (1+i)+7 * i) % 256:Nat)],rfl,?_,by simp [hl],fun w hw'=>?_,rfl⟩
     ·rw [zb2]
      congr 2
     ·rcases XaF.mp hw' with h | h
      ·exact hw w h
      ·rw [Xab.mp h];omega
    ·rintro ys σ X' ⟨v0,l,rfl,rfl,hl,hw,rfl⟩ r hr'
     have sr:=sX.trans (zad (o:=.lst (vN l)) hr')
     refine ⟨_,rfl,fun x dx hx hdx ne=>⟨x,dx,r,l,rfl,?_,by omega,by omega,hw,zab,fun p Z1 hp ex el kp=>⟨rfl,?_⟩⟩⟩
     ·rw [zai (fun z=>by rw [← z,zab] at hx;cases hx),zai (fun z=>by rw [← z,zab] at hdx;cases hdx)];exact zab
     have sm:=zaW hx hdx ne kp
     have hp1:=same_p hx hdx ne hp
     have er:=sm _ _ (zab (H:=X') (a:=r) (o:=.lst (vN l)))
     refine ⟨_,rfl,_,rfl,fin x p r 1 0 l Z1 (sr.trans sm) (sr.free hp1) (sX.free hr') ⟨ex,el⟩ er ⟨by decide,hw,by omega,fun _=>by omega,(fun h=>absurd h (by decide)),(fun h=>absurd h (by decide)),by decide⟩ (fun h=>by rcases h with h | h <;> cases h) ?_⟩
     intro z
     rw [z,zab] at hp1;cases hp1
   ·rw [Xag e]
    exact iteF (hN _ _ ⟨rfl,rfl,e⟩)
  rintro σ Y ⟨rfl,rfl,e1⟩
  refine zaK (fun σ Z=>σ=[some (.int (one:Int)),some (.int (other:Int)),some (.str (zbk kd)),some (.int (v:Int)),none,none,none]∧Z=Y∧kd≠2) (fun N hN=>?_) ?_
  ·refine ⟨_,rfl,rfl,_,rfl,?_⟩
   rw [show decide (V.str (zbk kd)=V.str "latch")=decide (kd=2) from zbF (j:=2) hkd (by decide)]
   by_cases e:kd=2
   ·subst e
    rw [Xai rfl]
    refine iteT ⟨_,rfl,fun x dx hx hdx ne=>⟨x,dx,(v:Int),rfl,by omega,by omega,zab,fun p Z1 hp ex el kp=>⟨rfl,?_⟩⟩⟩
    have sm:=zaW hx hdx ne kp
    have hp1:=same_p hx hdx ne hp
    refine ⟨_,rfl,_,rfl,by show 1≤sizeLine;decide,fun r hr'=>?_⟩
    have sr:=zad (o:=.lst [V.int (v:Int)]) hr'
    refine fin x p r 2 0 [v] _ ((sX.trans sm).trans sr) (sX.free hp1) ((sX.trans sm).free hr') ⟨?_,sr _ _ el⟩ zab ⟨by decide,fun w hw=>by rw [Xab] at hw;omega,by show 1≤4096;decide,fun _=>Xaf _,fun _=>rfl,(fun h=>absurd h (by decide)),by decide⟩ (fun _=>rfl) ?_
    ·obtain ⟨d0,e0⟩:=ex
     exact ⟨d0,sr _ _ e0⟩
    ·intro z
     rw [z,hr'] at el;cases el
   ·rw [Xag e]
    exact iteF (hN _ _ ⟨rfl,rfl,e⟩)
  rintro σ Y' ⟨rfl,rfl,e2⟩
  refine zf4 (fun σ Z=>σ=[some (.int (one:Int)),some (.int (other:Int)),some (.str (zbk kd)),some (.int (v:Int)),none,none,none]∧Z=Y') (fun σ Z=>σ=[some (.int (one:Int)),some (.int (other:Int)),some (.str (zbk kd)),some (.int (v:Int)),none,none,none]∧Z=Y'∧kd≠3) ?_ ?_ _ _ ⟨rfl,rfl⟩
  ·rintro σ Z ⟨rfl,rfl⟩ N hN
   refine ⟨_,rfl,rfl,_,rfl,?_⟩
   rw [show decide (V.str (zbk kd)=V.str "meter")=decide (kd=3) from zbF (j:=3) hkd (by decide)]
   by_cases e:kd=3
   ·subst e
    rw [Xai rfl]
    refine iteT ⟨_,rfl,fun x dx hx hdx ne=>⟨x,dx,(v:Int),rfl,by omega,by omega,zab,fun p Z1 hp ex el kp=>⟨rfl,?_⟩⟩⟩
    have sm:=zaW hx hdx ne kp
    have hp1:=same_p hx hdx ne hp
    refine ⟨_,rfl,_,rfl,by show 1≤sizeLine;decide,fun r hr'=>?_⟩
    have sr:=zad (o:=.lst [V.int (v:Int)]) hr'
    refine fin x p r 3 0 [v] _ ((sX.trans sm).trans sr) (sX.free hp1) ((sX.trans sm).free hr') ⟨?_,sr _ _ el⟩ zab ⟨by decide,fun w hw=>by rw [Xab] at hw;omega,by show 1≤4096;decide,fun _=>Xaf _,fun _=>rfl,(fun h=>absurd h (by decide)),by decide⟩ (fun _=>rfl) ?_
    ·obtain ⟨d0,e0⟩:=ex
     exact ⟨d0,sr _ _ e0⟩
    ·intro z
     rw [z,hr'] at el;cases el
   ·rw [Xag e]
    exact iteF (hN _ _ ⟨rfl,rfl,e⟩)
  rintro σ Z ⟨rfl,rfl,e3⟩
  obtain rfl:kd=4:=by omega
  refine ⟨_,rfl,_,_,rfl,rfl,⟨by decide,by decide +kernel⟩,_,_,rfl,rfl,(show (0:Int)<9 by decide),_,_,rfl,rfl,by show 2≤sizeLine;decide,fun l hl=>⟨_,rfl,_,_,rfl,rfl,⟨by decide,by decide +kernel⟩,_,_,rfl,rfl,(show (0:Int)<8 by decide),rfl,.inr ⟨_,rfl,?_⟩⟩⟩
  obtain ⟨rm,c1,c2,ec⟩:∃ rm:Nat,1≤rm∧rm≤255∧atI [V.int ((1:Int)+(one:Int) / 7 % 9),V.int 255] (if decide (V.int ((one:Int) / 63 % 8)=V.int 3)=true then 1 else 0)=some (.int (rm:Int)):=by
   by_cases h:decide (V.int ((one:Int) / 63 % 8)=V.int 3)=true
   ·rw [if_pos h];exact ⟨255,by decide,by decide,rfl⟩
   ·rw [if_neg h]
    exact ⟨1+one / 7 % 9,by omega,by omega,by show some (V.int ((1:Int)+(one:Int) / 7 % 9))=_;rw [show (1:Int)+(one:Int) / 7 % 9=((1+one / 7 % 9:Nat):Int) by omega]⟩
  have sl:=sX.trans (zad (o:=.lst [V.int ((1:Int)+(one:Int) / 7 % 9),V.int 255]) hl)
  refine ⟨l,_,_,_,rfl,rfl,SqL.of zab,ec,?_⟩
  refine ⟨_,rfl,fun x dx hx hdx ne=>⟨x,dx,rm,rfl,c1,c2,zab,fun p Z1 hp ob kp=>⟨rfl,?_⟩⟩⟩
  have sm:=zaW hx hdx ne kp
  have hp1:=same_p hx hdx ne hp
  refine ⟨_,rfl,by show 0≤sizeLine;decide,fun r hr'=>⟨_,rfl,?_⟩⟩
  have sr:=zad (o:=.lst []) hr'
  refine fin x p r 4 rm [] _ ((sl.trans sm).trans sr) (sl.free hp1) ((sl.trans sm).free hr') ⟨?_,sr _ _ ob.ls⟩ zab ⟨by decide,(fun w hw=>nomatch hw),by decide,(fun h=>absurd rfl h),(fun h=>absurd h (by decide)),fun _=>⟨Nat.zero_le _,c1⟩,c2⟩ (fun h=>by rcases h with h | h <;> cases h) ?_
  ·obtain ⟨d0,e0⟩:=ob.ex
   exact ⟨d0,sr _ _ e0⟩
  ·intro z
   have:=ob.ls
   rw [z,hr'] at this;cases this
abbrev zb9:Stmt:=top 68
theorem sc_law_chips:FnScope ["row","chips","models","k","chip","model"] ["row"] (zak zb9):=sck rfl rfl rfl (by decide +kernel)
inductive spChips34 (cs:Nat→Addr)(vs:List V)(H:Hp)(Q:VK)(u3_:XK):Prop
 | mk (L:Addr) (row:List Nat) (c:Nat) (z0_:vs=[.ref L]) (z1_:H L=some (.lst (vN row))) (z2_:row.length=2 * c) (z3_:1≤c) (z4_:c≤9) (z5_:(∀ v∈row,v<2 ^ 31)) (z6_:∀ (t CL ML:Addr) (cl:List Cm) (H':Hp),H t=none→H CL=none→H ML=none→CL≠ML→H' t=some (.tup [.ref CL,.ref ML])→H' CL=some (.lst (cl.map fun c=>.ref c.x))→H' ML=some (.lst (cl.map fun c=>.ref c.m))→cl.length=c→CMs cs H' cl→(∀ c∈cl,H c.p=none∧H c.r=none∧c.p≠CL∧c.p≠ML∧c.r≠CL∧c.r≠ML)→Same H H'→Q (.ref t) H')
theorem ze1 {f:Addr}{cs:Nat→Addr}{fd:FuncData}(F:Fun K "_law_chips" "_law_chips" zb9 f fd)(T:Blt mg)(G_law_chip:Cal P w K mg base 5 "_law_chip" ["one","other"] (spChip34 cs)):FnOk P w K mg base CX0 6 f fd ["row"] (spChips34 cs):=by
 refine F.ok sc_law_chips (by walk_at "l") (fun cdv A outer s H vs Q E hr h=>?_)
 ·obtain ⟨L,row,c,rfl,eL,hl,c1,c9,hw,k⟩:=h
  refine ⟨_,(zaf (ps_L 1 sc_law_chips.nd (zaq zae))
   (zaf (ps_L 2 sc_law_chips.nd (zaq zae))
   (zaf (zbY PassesOwn.never rfl (zeQ rfl T.range (zaa zac (zaa (zaj za0 (zao zam (by rfl) T.len PySem.boot_len (zaa (pv 0) zae)) zac) (zaa zac zae)))) (pg_L 3 sc_law_chips.nd)
   (zaf (zco (pe_c G_law_chip (zaa (pe_x zal (pv 0) (pv 3)) (zaa (pe_x zal (pv 0) (zaj zaH (pv 3) zac)) zae))) (zbO rfl (zau (pg_L 4 sc_law_chips.nd) (zau (pg_L 5 sc_law_chips.nd) zbg))))
   (zaf (zaF (zdO PySem.F.plainAttrs_list PySem.F.slot_list_append PySem.F.type_list_append zaV (pv 1) (zaa (pv 4) zae)))
   (zag (zaF (zdO PySem.F.plainAttrs_list PySem.F.slot_list_append PySem.F.type_list_append zaV (pv 2) (zaa (pv 5) zae)))))))
   (zag (zas (zav (zaa (pv 1) (zaa (pv 2) zae)))))))),?rd⟩
  refine ⟨by show 0≤sizeLine;decide,fun CL hCL=>⟨by show 0≤sizeLine;decide,fun ML hML=>?_⟩⟩
  have s1:=zad (o:=.lst []) hCL
  have s2:=s1.trans (zad (o:=.lst []) hML)
  have nCM:CL≠ML:=fun z=>by rw [← z,zab] at hML;cases hML
  have hMH:H ML=none:=s1.free hML
  have nLC:L≠CL:=zah eL hCL
  have nLM:L≠ML:=zah eL hMH
  obtain ⟨r1,r2,r3⟩:=zf7 (j:=2 * c - 1) (st:=2) (n:=c) (by omega) (by decide) (by decide) (by omega)
  have ej:(((vN row).length:Nat):Int) - 1=((2 * c - 1:Nat):Int):=by rw [zax,hl];omega
  rw [← ej] at r1 r2 r3
  refine ⟨_,rfl,L,_,rfl,.inl (SqL.of (s2 _ _ eL)),_,_,rfl,rfl,0,_,2,c,rfl,by decide,r1,r2,r3,?_⟩
  refine zd0 (n:=c) (fun i σ X=>∃ (v:Option V×Option V×Option V) (cl:List Cm),σ=[some (.ref L),some (.ref CL),some (.ref ML),v.1,v.2.1,v.2.2]∧X CL=some (.lst (cl.map fun c=>.ref c.x))∧X ML=some (.lst (cl.map fun c=>.ref c.m))∧cl.length=i∧CMs cs X cl∧(∀ c∈cl,H c.p=none∧H c.r=none∧c.p≠CL∧c.p≠ML∧c.r≠CL∧c.r≠ML∧c.x≠CL∧c.x≠ML∧c.m≠CL∧c.m≠ML)∧Same H X) ⟨(_,_,_),[],rfl,zad hML _ _ zab,zab,rfl,⟨(fun _ h=>nomatch h),Xbz⟩,(fun _ h=>nomatch h),s2⟩ ?_ ?_
  ·rintro i σ X hi ⟨v,cl,rfl,hh⟩
   have eC:=hh.1
   have eM:=hh.2.1
   have hlen:=hh.2.2.1
   have hC:=hh.2.2.2.1
   have hF:=hh.2.2.2.2.1
   have sX:=hh.2.2.2.2.2
   obtain ⟨dr,hdr⟩:=drw (row:=row) (2 * c) (by omega) hw
   have eX:=sX _ _ eL
   have e1:(0:Int)+(i:Int) * 2=((2 * i:Nat):Int):=by omega
   rw [e1]
   have eb':atI (vN row) (((2 * i:Nat):Int)+1)=some (.int (dr (2 * i+1):Int)):=by rw [show ((2 * i:Nat):Int)+1=((2 * i+1:Nat):Int) by omega];exact (hdr _ (by omega)).1
   refine ⟨_,rfl,_,rfl,L,_,_,_,rfl,rfl,SqL.of eX,(hdr (2 * i) (by omega)).1,_,rfl,_,rfl,_,_,rfl,rfl,L,_,_,_,rfl,rfl,SqL.of eX,eb',?_⟩
   refine ⟨dr (2 * i),dr (2 * i+1),rfl,(hdr _ (by omega)).2,(hdr _ (by omega)).2,fun t cm X1 ht et hp hr' hm ok s1=>zjD et ?_⟩
   have hC1:=hC.add s1 hp hr' ok
   have eC1:=s1 _ _ eC
   have eM1:=s1 _ _ eM
   have nx:∀ {q:Addr} {l:List V},X1 q=some (.lst l)→cm.x≠q:=fun {q l} h z=>by
    obtain ⟨dx,e⟩:=ok.ch.ex;rw [z,h] at e;cases e
   have nn:∀ {q z:Addr} {o:HO},X q=some o→X z=none→z≠q:=fun {q z o} h1 h2 e=>by rw [e,h1] at h2;cases h2
   have hF1:∀ c∈cl ++ [cm],H c.p=none∧H c.r=none∧c.p≠CL∧c.p≠ML∧c.r≠CL∧c.r≠ML∧c.x≠CL∧c.x≠ML∧c.m≠CL∧c.m≠ML:=fun c hc=>by
    rcases XaF.mp hc with hc | hc
    ·exact hF c hc
    ·rw [Xab.mp hc]
     exact ⟨sX.free hp,sX.free hr',nn eC hp,nn eM hp,nn eC hr',nn eM hr',nx eC1,nx eM1,nn eC hm,nn eM hm⟩
   try dsimp only [zaE,List.set]
   refine ⟨_,rfl,.inl ⟨rfl,_,SqL.of eC1⟩,_,rfl,CL,_,_,rfl,rfl,eC1,?_,?_⟩
   ·rw [Xah];exact Xaz (show cl.length≤9 by omega) (by decide)
   have eM2:upd X1 CL (.lst ((cl.map fun c=>V.ref c.x) ++ [.ref cm.x])) ML=some (.lst (cl.map fun c=>.ref c.m)):=by rw [zai (Ne.symm nCM)];exact eM1
   refine ⟨_,rfl,.inl ⟨rfl,_,SqL.of eM2⟩,_,rfl,ML,_,_,rfl,rfl,eM2,?_,?_⟩
   ·rw [Xah];exact Xaz (show cl.length≤9 by omega) (by decide)
   refine ⟨(_,_,_),cl ++ [cm],rfl,?_,?_,by simp [hlen],?_,hF1,fun z o ez=>?_⟩
   ·rw [zai nCM,zab,XaV];rfl
   ·rw [zab,XaV];rfl
   ·exact (hC1.updL fun c hc=>let f:=hF1 c hc;⟨f.2.2.2.2.2.2.1,f.2.2.1,f.2.2.2.2.2.2.2.2.1,f.2.2.2.2.1⟩).updL fun c hc=>let f:=hF1 c hc;⟨f.2.2.2.2.2.2.2.1,f.2.2.2.1,f.2.2.2.2.2.2.2.2.2,f.2.2.2.2.2.1⟩
   ·rw [zai (zah ez hMH),zai (zah ez hCL)];exact s1 _ _ (sX _ _ ez)
  ·rintro σ X ⟨v,cl,rfl,eC,eM,hlen,hC,hF,sX⟩
   refine ⟨_,rfl,_,rfl,by show 2≤sizeLine;decide,fun t ht=>?_⟩
   have st:=zad (o:=.tup [.ref CL,.ref ML]) ht
   exact k t CL ML cl _ (sX.free ht) hCL hMH nCM zab (st _ _ eC) (st _ _ eM) hlen (hC.same st) (fun c hc=>let f:=hF c hc;⟨f.1,f.2.1,f.2.2.1,f.2.2.2.1,f.2.2.2.2.1,f.2.2.2.2.2.1⟩) (sX.trans st)
abbrev zdj:Stmt:=top 74
theorem sc_law_row:FnScope ["r","bits","models","top","high","mask","chip","most","inner","latches","latch","asked"] ["r","bits","models"] (zak zdj):=sck rfl rfl rfl (by decide +kernel)
theorem andnot (a b:Nat):a - (a &&& b)=a ^^^ (a &&& b):=by
 have h:=or_is a (a &&& b)
 have h1:a ||| (a &&& b)=a:=by apply Nat.eq_of_testBit_eq;intro i;simp;cases a.testBit i <;> simp
 have h2:a &&& (a &&& b)=a &&& b:=by apply Nat.eq_of_testBit_eq;intro i;simp
 rw [h1,h2] at h
 omega
theorem left_of {T mask A i:Nat}(hm:T &&& mask=mask)(hA:A &&& (T - mask)=A)(hi:i &&& A=i):i≤T∧i &&& mask=0:=by
 have e:T - mask=T ^^^ (T &&& mask):=by rw [← andnot,hm]
 have h1:i≤A:=by rw [← hi];exact XbB
 have h2:A≤T - mask:=by rw [← hA];exact XbB
 refine ⟨by omega,?_⟩
 apply Nat.eq_of_testBit_eq
 intro j
 have b1:=congrArg (fun x=>Nat.testBit x j) hi
 have b2:=congrArg (fun x=>Nat.testBit x j) hA
 rw [e] at b2
 simp only [XaA,Nat.testBit_xor,Nat.zero_testBit] at b1 b2 ⊢
 revert b1 b2
 cases i.testBit j <;> cases A.testBit j <;> cases mask.testBit j <;> cases T.testBit j <;> simp
theorem zkH {x m:Nat}:x &&& (2 ^ m - 1)<2 ^ m:=by
 have h:=Xbq m
 have h2:x &&& (2 ^ m - 1)≤2 ^ m - 1:=XbB
 omega
theorem zjT {mask m:Nat}(h:mask<2 ^ m):(2 ^ m - 1) &&& mask=mask:=by
 rw [Nat.and_comm,Nat.and_two_pow_sub_one_eq_mod,Nat.mod_eq_of_lt h]
theorem zeP {ns:List Nat}{a k:Nat}(hl:ns.length=k)(hk:0<k):∃ u∈ns,atI (vN ns) ((a:Int) % (k:Int))=some (.int (u:Int)):=by
 have h:a % k<ns.length:=by rw [hl];exact Xa0 _ hk
 refine ⟨ns[a % k],XbA _,?_⟩
 rw [show (a:Int) % (k:Int)=((a % k:Nat):Int) by norm_cast]
 refine zbj ?_
 unfold vN
 rw [Xat,Xau h]
 rfl
theorem zi4 {cs:Nat→Addr}{H:Hp}{cl:List Cm}{ML:Addr}{Q:List V→Hp→Prop}(eM:H ML=some (.lst (cl.map fun c=>.ref c.m)))(hC:CMs cs H cl)(c9:cl.length≤9)(k:∀ l:List Nat,l.length≤9→(∀ x∈l,x<cl.length∧(cl.getD x dfCm).kd=2)→Q (vN l) H) :
  zeA (Itr 0 cl.length) (zaE 0) (zhf (tOp rEq (tOp (rIxL K) (tOp (rIxL K) (tVar 1) (tVar 0)) (tC (.int 0))) (tC (.str "latch")))) (tVar 0) Q [none,some (.ref ML)] H:=by
 refine zbT (n:=cl.length) (fun j ys σ Y=>∃ (v0:Option V) (l:List Nat),σ=[v0,some (.ref ML)]∧ys=vN l∧l.length≤j∧(∀ x∈l,x<cl.length∧(cl.getD x dfCm).kd=2)∧Y=H) (Xar c9 (by decide)) ⟨none,[],rfl,rfl,Xaf _,(fun x h=>nomatch h),rfl⟩ ?_ ?_ ?_
 ·rintro j ys σ Y ⟨_,l,_,rfl,hl,_⟩
  rw [zax];exact hl
 ·rintro j ys σ Y hj ⟨v0,l,rfl,rfl,hl,hx,rfl⟩
  rw [Int.zero_add]
  have okj:=hC.o _ (za6 hj).1
  have hat:atI (cl.map fun c=>V.ref c.m) (j:Int)=some (.ref (cl.getD j dfCm).m):=zbj (by rw [Xat,(za6 hj).2];rfl)
  have kn:decide (V.str (zbk (cl.getD j dfCm).kd)=V.str "latch")=decide ((cl.getD j dfCm).kd=2):=zbF (j:=2) okj.k.k5 (by decide)
  refine ⟨_,rfl,_,rfl,ML,_,_,_,rfl,rfl,SqL.of eM,hat,(cl.getD j dfCm).m,_,_,_,rfl,rfl,SqL.of okj.md.at_,rfl,rfl,_,rfl,?_⟩
  rw [kn]
  by_cases h2:(cl.getD j dfCm).kd=2
  ·rw [Xai h2]
   refine iteT ⟨_,rfl,_,l ++ [j],rfl,by rw [zb2],by rw [Xaq];simp;omega,fun x h=>?_,rfl⟩
   rcases XaF.mp h with h | h
   ·exact hx x h
   ·obtain rfl:=Xab.mp h;exact ⟨hj,h2⟩
  ·rw [Xag h2]
   exact iteF ⟨_,l,rfl,rfl,by omega,hx,rfl⟩
 ·rintro ys σ Y ⟨v0,l,rfl,rfl,hl,hx,rfl⟩
  exact k l (by omega) hx
inductive spRow34 (cs:Nat→Addr)(vs:List V)(H:Hp)(Q:VK)(u3_:XK):Prop
 | mk (L ML:Addr) (row:List Nat) (m:Nat) (cl:List Cm) (z0_:vs=[.ref L,.int (m:Int),.ref ML]) (z1_:H L=some (.lst (vN row))) (z2_:row.length=8) (z3_:(∀ v∈row,v<2 ^ 31)) (z4_:1≤m) (z5_:m≤16) (z6_:H ML=some (.lst (cl.map fun c=>.ref c.m))) (z7_:1≤cl.length) (z8_:cl.length≤9) (z9_:CMs cs H cl) (z10_:∀ (t:Addr) (r:Rw) (H':Hp),H t=none→RwAt H' t r→RwOk m r→Fit (dtC cl) r→Same H H'→Q (.ref t) H')
set_option tactic.hygienic true in
theorem zgM {f:Addr}{cs:Nat→Addr}{fd:FuncData}(F:Fun K "_law_row" "_law_row" zdj f fd)(T:Blt mg)(G_law_few:Cal P w K mg base 2 "_law_few" ["number","most"] spFew)(G_law_size:Cal P w K mg base 1 "_law_size" ["model"] spSz34):FnOk P w K mg base CX0 3 f fd ["r","bits","models"] (spRow34 cs):=by
 refine F.ok sc_law_row (by walk_at "l") (fun cdv A outer s H vs Q E hr h=>?_)
 ·obtain ⟨L,ML,row,m,cl,rfl,eL,hl,hw,m1,m2,eM,c1,c9,hC,k⟩:=h
  refine ⟨_,(zaf (ps_L 3 sc_law_row.nd (zaj za0 (zaj zcP zac (pv 1)) zac))
   (zaf (ps_L 4 sc_law_row.nd (zaj zaH (zaj za0 (pv 3) (zaj zcP zac (zaj zaw (zaj zay (pe_x zal (pv 0) zac) zac) (pv 1)))) zac))
   (zaf (ps_L 5 sc_law_row.nd (zaj zaU (pe_x zal (zaq (zaa (pe_x zal (pv 0) zac) (zaa (zaj zgG (pe_x zal (pv 0) zac) (pe_x zal (pv 0) zac)) (zaa (zaj zaU (pe_x zal (pv 0) zac) (pe_x zal (pv 0) zac)) (zaa (pv 4) (zaa (pe_c G_law_few (zaa (zaj zaU (pe_x zal (pv 0) zac) (pv 3)) (zaa (zaj zaw (pe_x zal (pv 0) zac) zac) zae))) zae)))))) (zaj zaw (pe_x zal (pv 0) zac) zac)) (pv 3)))
   (zaf (ps_L 6 sc_law_row.nd (zaj zaw (pe_x zal (pv 0) zac) (zao zam (by rfl) T.len PySem.boot_len (zaa (pv 2) zae))))
   (zaf (ps_L 7 sc_law_row.nd zac)
   (zaf (zef PassesOwn.never (zan zgH (zaj zcP zac (pv 7)) (pe_c G_law_size (zaa (pe_x zal (pv 2) (pv 6)) zae)) (zar _)) (zag (zjr (i:=7) sc_law_row.nd rfl (Or.inl rfl) zac zhY)))
   (zaf (ps_L 8 sc_law_row.nd (pe_c G_law_few (zaa (pe_x zal (zaq (zaa (zaj za0 (pv 3) (pv 5)) (zaa (zaj zaU (pe_x zal (pv 0) zac) (zaj za0 (pv 3) (pv 5))) zae))) (zaj zaw (pe_x zal (pv 0) zac) zac)) (zaa (pe_x zal (zaq (zaa (pv 7) (zaa (zaj zaw (zaj zay (pe_x zal (pv 0) zac) zac) (zaj zaH (pv 7) zac)) zae))) (zaj zaw (zaj zay (pe_x zal (pv 0) zac) zac) zac)) zae))))
   (zaf (zbu (i:=9) (Nc:=["k","models"]) [none,some 2] sc_law_row.nd rfl rfl rfl (zaM (by rfl)) (zbv rfl T.range (zaa (zao zam (by rfl) T.len PySem.boot_len (zaa (pv 2) zae)) zae)) (fun _ _ _ _ _=>(pg_L 0 (show (["k","models"]:List Str).Nodup by decide +kernel))) (fun _ _ _ _ _=>(zeR (zan za8 (pe_x (zcq (K:=K) rfl) (pe_x (zcq (K:=K) rfl) (pv 1) (pv 0)) zac) zaC (zar _)))) (fun _ _ _ _ _=>(pv 0)))
   (zaf (ps_L 10 sc_law_row.nd za5)
   (zaf (zaA (PW.pt (zeN (zan (zem (XaP (zcf hr)) (K:=K) rfl) (pv 9) (zaq zae) (zar _)) (zee (zan zdp (zaj zaw (pe_x zal (pv 0) zac) zac) zac (zar _))))) (zaf (ps_L 11 sc_law_row.nd (zaj zaw (pe_x zal (zaq (zaa (zaj zay (pe_x zal (pv 0) zac) zac) (zaa (zaj zcP zac (zaj zaw (zaj zay (pe_x zal (pv 0) zac) zac) zac)) (zaa zac zae)))) (zaj zaw (pe_x zal (pv 0) zac) zac)) zac))
   (zag (ps_L 10 sc_law_row.nd (zav (zaa (pe_x zal (pv 9) (zaj zaw (zaj zay (pe_x zal (pv 0) zac) zac) (zao zam (by rfl) T.len PySem.boot_len (zaa (pv 9) zae)))) (zaa (pv 11) (zaa (zaj zaU (zaj zay (pe_x zal (pv 0) zac) zac) (pv 11)) zae))))))) zap)
   (zag (zas (zav (zaa (pv 5) (zaa (zaj zaU (pe_x zal (pv 0) zac) (pv 5)) (zaa (pv 8) (zaa (pv 6) (zaa (pv 10) zae)))))))))))))))))),?rd⟩
  have e1:(1:Int) * 2 ^ ((m:Nat):Int).toNat=((2 ^ m:Nat):Int):=by rw [Int.one_mul,Xak];norm_cast
  have h0m:0<2 ^ m:=Xbq m
  have h2m:2 ^ m≤2 ^ 16:=XaM (by decide) m2
  obtain ⟨dr,hdr⟩:=drw (row:=row) 8 (by omega) hw
  have y0:atI (vN row) 0=some (.int (dr 0:Int)):=(hdr 0 (by decide)).1
  have y1:atI (vN row) 1=some (.int (dr 1:Int)):=(hdr 1 (by decide)).1
  have y2:atI (vN row) 2=some (.int (dr 2:Int)):=(hdr 2 (by decide)).1
  have y3:atI (vN row) 3=some (.int (dr 3:Int)):=(hdr 3 (by decide)).1
  have y4:atI (vN row) 4=some (.int (dr 4:Int)):=(hdr 4 (by decide)).1
  have y5:atI (vN row) 5=some (.int (dr 5:Int)):=(hdr 5 (by decide)).1
  have y6:atI (vN row) 6=some (.int (dr 6:Int)):=(hdr 6 (by decide)).1
  have y7:atI (vN row) 7=some (.int (dr 7:Int)):=(hdr 7 (by decide)).1
  have ix:∀ {X:Hp},Same H X→SqL K X L (vN row):=fun s=>SqL.of (s _ _ eL)
  generalize hT:2 ^ m - 1=T
  
  refine zaK (fun σ X=>σ=[some (.ref L),some (.int (m:Int)),some (.ref ML),some (.int (T:Int)),none,none,none,none,none,none,none,none]∧X=H) (fun N hN=>?_) ?_
  ·refine ⟨_,rfl,_,_,rfl,rfl,⟨by omega,by omega,by decide⟩,_,_,rfl,rfl,hN _ _ ⟨?_,rfl⟩⟩
   try dsimp only
   rw [e1,show ((2 ^ m:Nat):Int) - 1=(T:Int) by omega]
   rfl
  rintro σ X ⟨rfl,rfl⟩
  
  refine zaK (fun σ Y=>∃ hh:Nat,hh≤2 ^ 31∧σ=[some (.ref L),some (.int (m:Int)),some (.ref ML),some (.int (T:Int)),some (.int (hh:Int)),none,none,none,none,none,none,none]∧Y=X) (fun N hN=>?_) ?_
  ·refine ⟨_,rfl,_,rfl,L,_,_,_,rfl,rfl,ix (Same.refl _),y0,_,_,rfl,rfl,⟨by decide,by decide +kernel⟩,_,rfl,_,_,rfl,rfl,(by show (0:Int)<(m:Int);omega),_,_,rfl,rfl,⟨?_,?_,by decide⟩,_,_,rfl,rfl,_,_,rfl,rfl,?_⟩
   ·exact Xbv _ (by omega)
   ·have:=Xbk ((dr 0:Int) / 16) (show (0:Int)<(m:Int) by omega);omega
   have ek:(dr 0:Int) / 16 % (m:Int)=((dr 0 / 16 % m:Nat):Int):=by norm_cast
   have hk:dr 0 / 16 % m<m:=Xa0 _ (by omega)
   have hk2:2 ^ (dr 0 / 16 % m)≤T:=by
    have:2 ^ (dr 0 / 16 % m)≤2 ^ (m - 1):=XaM (by decide) (by omega)
    have e:2 ^ m=2 * 2 ^ (m - 1):=by rw [← Nat.pow_succ'];congr 1;omega
    have:=Xbq (m - 1)
    omega
   refine hN _ _ ⟨T - 2 ^ (dr 0 / 16 % m)+1,?_,?_,rfl⟩
   ·have:=Nat.sub_le T (2 ^ (dr 0 / 16 % m));have:(2:Nat) ^ 16=65536:=by decide
    have:(2:Nat) ^ 31=2147483648:=by decide
    omega
   try dsimp only
   rw [ek,show (1:Int) * 2 ^ ((dr 0 / 16 % m:Nat):Int).toNat=((2 ^ (dr 0 / 16 % m):Nat):Int) by rw [Int.one_mul,Xak];norm_cast]
   rw [show (T:Int) - ((2 ^ (dr 0 / 16 % m):Nat):Int)+1=((T - 2 ^ (dr 0 / 16 % m)+1:Nat):Int) by omega]
   rfl
  rintro σ Y ⟨hh,hh1,rfl,rfl⟩
  
  refine zaK (fun σ X=>∃ mask:Nat,mask<2 ^ m∧σ=[some (.ref L),some (.int (m:Int)),some (.ref ML),some (.int (T:Int)),some (.int (hh:Int)),some (.int (mask:Int)),none,none,none,none,none,none]∧Same Y X) (fun N hN=>?_) ?_
  ·have i0:=ix (Same.refl Y)
   refine ⟨_,rfl,L,_,_,_,rfl,rfl,i0,y0,_,rfl,L,_,_,_,rfl,rfl,i0,y0,_,rfl,L,_,_,_,rfl,rfl,i0,y1,_,_,rfl,rfl,_,rfl,L,_,_,_,rfl,rfl,i0,y0,_,rfl,L,_,_,_,rfl,rfl,i0,y1,_,_,rfl,rfl,_,rfl,_,rfl,L,_,_,_,rfl,rfl,i0,y0,_,rfl,_,_,rfl,rfl,_,rfl,L,_,_,_,rfl,rfl,i0,y1,_,_,rfl,rfl,(show (0:Int)<4 by decide),?_⟩
   refine ⟨dr 0 &&& T,dr 1 % 4,?_,?_,fun r H1 hr s1=>⟨by show 5≤sizeLine;decide,fun p hp=>?_⟩⟩
   ·show [V.int (Builtin.bitAnd (dr 0:Int) (T:Int)),V.int ((dr 1:Int) % 4)]=_
    rw [band,show (dr 1:Int) % 4=((dr 1 % 4:Nat):Int) by omega]
   ·exact Xaz Nat.and_le_left (Xbt (hdr 0 (by decide)).2 (by decide))
   obtain ⟨u,_,eu⟩:=zeP (ns:=[dr 0,dr 0 ||| dr 1,dr 0 &&& dr 1,hh,r]) (a:=dr 2) (k:=5) rfl (by decide)
   refine ⟨_,rfl,L,_,_,_,rfl,rfl,ix (s1.trans (zad hp)),y2,_,_,rfl,rfl,(show (0:Int)<5 by decide),p,_,_,.int (u:Int),rfl,rfl,SqL.of zab,?_,_,rfl,_,_,rfl,rfl,?_⟩
   ·show atI [V.int (dr 0:Int),V.int (Builtin.bitOr (dr 0:Int) (dr 1:Int)),V.int (Builtin.bitAnd (dr 0:Int) (dr 1:Int)),V.int (hh:Int),V.int (r:Int)] ((dr 2:Int) % 5)=_
    rw [bor,band]
    exact eu
   refine hN _ _ ⟨u &&& T,by rw [← hT];exact zkH,?_,s1.trans (zad hp)⟩
   try dsimp only
   rw [band]
   rfl
  rintro σ X ⟨mask,hmask,rfl,sX⟩
  
  refine zaK (fun σ Z=>σ=[some (.ref L),some (.int (m:Int)),some (.ref ML),some (.int (T:Int)),some (.int (hh:Int)),some (.int (mask:Int)),some (.int ((dr 3 % cl.length:Nat):Int)),none,none,none,none,none]∧Z=X) (fun N hN=>?_) ?_
  ·refine ⟨_,rfl,L,_,_,_,rfl,rfl,ix sX,y3,_,rfl,ML,_,rfl,.inl (SqL.of (sX _ _ eM)),_,_,rfl,rfl,?_,hN _ _ ⟨?_,rfl⟩⟩
   ·rw [Xah];omega
   try dsimp only
   rw [Xah,show (dr 3:Int) % (cl.length:Int)=((dr 3 % cl.length:Nat):Int) by norm_cast]
   rfl
  rintro σ Z ⟨rfl,rfl⟩
  have hch:dr 3 % cl.length<cl.length:=Xa0 _ (by omega)
  generalize dr 3 % cl.length=ch at hch ⊢
  refine zaK (fun σ Y=>σ=[some (.ref L),some (.int (m:Int)),some (.ref ML),some (.int (T:Int)),some (.int (hh:Int)),some (.int (mask:Int)),some (.int (ch:Int)),some (.int (0:Int)),none,none,none,none]∧Y=Z) (fun N hN=>?_) ?_
  ·exact hN _ _ ⟨rfl,rfl⟩
  rintro σ Y ⟨rfl,rfl⟩
  
  refine zaK (fun σ X=>∃ mo:Nat,2 ^ mo≤ksize (cl.getD ch dfCm).kd (cl.getD ch dfCm).us∧mo≤16∧σ=[some (.ref L),some (.int (m:Int)),some (.ref ML),some (.int (T:Int)),some (.int (hh:Int)),some (.int (mask:Int)),some (.int (ch:Int)),some (.int (mo:Int)),none,none,none,none]∧X=Y) (fun N hN=>?_) ?_
  ·have okc:=hC.o _ (za6 hch).1
   have eMX:=sX _ _ eM
   have hat:atI (cl.map fun c=>V.ref c.m) (ch:Int)=some (.ref (cl.getD ch dfCm).m):=zbj (by rw [Xat,(za6 hch).2];rfl)
   have kz1:1≤ksize (cl.getD ch dfCm).kd (cl.getD ch dfCm).us∧ksize (cl.getD ch dfCm).kd (cl.getD ch dfCm).us≤4096:=by
    have kk:=okc.k
    unfold ksize
    split
    ·exact ⟨by decide,by decide⟩
    ·rename_i h;exact ⟨kk.l1 h,kk.ln⟩
   have okX:=okc.same sX
   refine zd4 (fun σ W=>∃ mo:Nat,2 ^ mo≤ksize (cl.getD ch dfCm).kd (cl.getD ch dfCm).us∧σ=[some (.ref L),some (.int (m:Int)),some (.ref ML),some (.int (T:Int)),some (.int (hh:Int)),some (.int (mask:Int)),some (.int (ch:Int)),some (.int (mo:Int)),none,none,none,none]∧W=Y) (fun σ _=>match σ with | [_,_,_,_,_,_,_,some (.int b),_,_,_,_]=>13 - b.toNat | _=>0) ⟨0,kz1.1,rfl,rfl⟩ ?_ ?_
   ·rintro σ W ⟨mo,hmo,rfl,rfl⟩
    have mo12:mo<13:=by
     by_cases h:mo<13
     ·exact h
     ·have:2 ^ 13≤2 ^ mo:=XaM (by decide) (by omega)
      omega
    have e2:(2:Int) * 2 ^ ((mo:Nat):Int).toNat=((2 ^ (mo+1):Nat):Int):=by rw [Xak,Xbg];push_cast;omega
    refine ⟨_,rfl,_,_,rfl,rfl,⟨by omega,by omega,by decide⟩,_,rfl,_,rfl,ML,_,_,_,rfl,rfl,SqL.of eMX,hat,_,_,_,_,_,rfl,okX.md,okX.k.k5,_,_,rfl,rfl,_,rfl,ite2 (fun h1=>?_) (fun h1=>?_)⟩
    ·have h1:2 ^ (mo+1)≤ksize (cl.getD ch dfCm).kd (cl.getD ch dfCm).us:=by
      have:=XaO h1;rw [e2] at this;omega
     refine ⟨_,rfl,_,_,rfl,rfl,⟨mo+1,h1,?_,rfl⟩,?_⟩
     ·rfl
     ·show 13 - ((mo:Int)+1).toNat<13 - ((mo:Nat):Int).toNat
      omega
    ·exact hN _ _ ⟨mo,hmo,by omega,rfl,rfl⟩
   ·rintro σ W Q1 Q2 hq h
    obtain ⟨v,e,i,j,ei,ej,c,v2,e2,v3,e3,a,b,c1_,d,f1,f2,f3,f4,m1_,r1,kd1,n1,us1,g1,g2,g3,i2,j2,g4,g5,b2,g6,h⟩:=h
    exact ⟨v,e,i,j,ei,ej,c,v2,e2,v3,e3,a,b,c1_,d,f1,f2,f3,f4,m1_,r1,kd1,n1,us1,g1,g2,g3,i2,j2,g4,g5,b2,g6,hq _ _ h⟩
  rintro σ X ⟨mo,hmo,hmo16,rfl,rfl⟩
  have hTm:T &&& mask=mask:=by rw [← hT];exact zjT hmask
  have hmT:mask≤T:=by omega
  
  refine zaK (fun σ Y=>∃ inn:Nat,inn≤T∧inn &&& mask=0∧ones inn≤mo∧σ=[some (.ref L),some (.int (m:Int)),some (.ref ML),some (.int (T:Int)),some (.int (hh:Int)),some (.int (mask:Int)),some (.int (ch:Int)),some (.int (mo:Int)),some (.int (inn:Int)),none,none,none]∧Same X Y) (fun N hN=>?_) ?_
  ·have eTm:(T:Int) - (mask:Int)=((T - mask:Nat):Int):=by omega
   refine ⟨_,rfl,_,rfl,_,_,rfl,rfl,_,rfl,L,_,_,_,rfl,rfl,ix sX,y4,_,rfl,_,rfl,_,_,rfl,rfl,_,_,rfl,rfl,by show 2≤sizeLine;decide,fun p hp=>?_⟩
   have sp:=sX.trans (zad (o:=.lst [V.int ((T:Int) - (mask:Int)),V.int (Builtin.bitAnd (dr 4:Int) ((T:Int) - (mask:Int)))]) hp)
   obtain ⟨u,hu,eu⟩:=zeP (ns:=[T - mask,dr 4 &&& (T - mask)]) (a:=dr 5) (k:=2) rfl (by decide)
   have hu':u &&& (T - mask)=u:=by
    rcases Xap.mp hu with rfl | hu
    ·exact Nat.and_self _
    ·rw [Xab.mp hu,Nat.and_assoc,Nat.and_self]
   refine ⟨_,rfl,L,_,_,_,rfl,rfl,ix sp,y5,_,_,rfl,rfl,(show (0:Int)<2 by decide),p,_,_,.int (u:Int),rfl,rfl,SqL.of zab,?_,?_⟩
   ·show atI [V.int ((T:Int) - (mask:Int)),V.int (Builtin.bitAnd (dr 4:Int) ((T:Int) - (mask:Int)))] ((dr 5:Int) % 2)=_
    rw [eTm,band]
    exact eu
   refine ⟨_,rfl,_,rfl,L,_,_,_,rfl,rfl,ix sp,y4,_,_,rfl,rfl,⟨by decide,by decide +kernel⟩,_,rfl,_,_,rfl,rfl,_,_,rfl,rfl,(show (0:Int)<(mo:Int)+1 by omega),by show 2≤sizeLine;decide,fun p2 hp2=>?_⟩
   have sp2:=sp.trans (zad (o:=.lst [V.int (mo:Int),V.int ((dr 4:Int) / 64 % ((mo:Int)+1))]) hp2)
   obtain ⟨u2,hu2,eu2⟩:=zeP (ns:=[mo,dr 4 / 64 % (mo+1)]) (a:=dr 5 / 2) (k:=2) rfl (by decide)
   have hu2':u2≤mo:=by
    rcases Xap.mp hu2 with rfl | hu
    ·exact Xaf _
    ·rw [Xab.mp hu];have:=Xa0 (dr 4 / 64) (show 0<mo+1 by omega);omega
   refine ⟨_,rfl,L,_,_,_,rfl,rfl,ix sp2,y5,_,_,rfl,rfl,⟨by decide,by decide +kernel⟩,_,_,rfl,rfl,(show (0:Int)<2 by decide),p2,_,_,.int (u2:Int),rfl,rfl,SqL.of zab,?_,?_⟩
   ·show atI [V.int (mo:Int),V.int ((dr 4:Int) / 64 % ((mo:Int)+1))] ((dr 5:Int) / 2 % 2)=_
    rw [show (dr 4:Int) / 64 % ((mo:Int)+1)=((dr 4 / 64 % (mo+1):Nat):Int) by push_cast;rfl,show (dr 5:Int) / 2=((dr 5 / 2:Nat):Int) by omega]
    exact eu2
   refine ⟨u,u2,rfl,?_,fun r H1 hr s1=>?_⟩
   ·have:u≤T - mask:=by rw [← hu'];exact XbB
    have:(2:Nat) ^ 16=65536:=by decide
    have:(2:Nat) ^ 32=4294967296:=by decide
    omega
   obtain ⟨l1,l2⟩:=left_of hTm hu' hr.1
   exact hN _ _ ⟨r,l1,l2,Xar hr.2 hu2',rfl,((zad hp).trans (zad hp2)).trans s1⟩
  rintro σ Y ⟨inn,hiT,him,hio,rfl,sXY⟩
  have sY:=sX.trans sXY
  
  refine zaK (fun σ X=>∃ (LL:Addr) (l:List Nat),σ=[some (.ref L),some (.int (m:Int)),some (.ref ML),some (.int (T:Int)),some (.int (hh:Int)),some (.int (mask:Int)),some (.int (ch:Int)),some (.int (mo:Int)),some (.int (inn:Int)),some (.ref LL),none,none]∧X LL=some (.lst (vN l))∧l.length≤9∧(∀ x∈l,x<cl.length∧(cl.getD x dfCm).kd=2)∧Same Y X) (fun N hN=>?_) ?_
  ·have eMX:=sY _ _ eM
   refine ⟨_,rfl,ML,_,rfl,.inl (SqL.of eMX),_,rfl,by rw [Xah];omega,by rw [Xah];omega,?_⟩
   rw [Xah,Xak]
   exact zi4 eMX (hC.same sY) c9 fun l hl hx LL hLL=>hN _ _ ⟨LL,l,rfl,zab,hl,hx,zad hLL⟩
  rintro σ X ⟨LL,l,rfl,eLL,hl9,hlx,sYX⟩
  have sX2:=sY.trans sYX
  clear sX sXY sY sYX
  refine zaK (fun σ Y=>σ=[some (.ref L),some (.int (m:Int)),some (.ref ML),some (.int (T:Int)),some (.int (hh:Int)),some (.int (mask:Int)),some (.int (ch:Int)),some (.int (mo:Int)),some (.int (inn:Int)),some (.ref LL),some .non,none]∧Y=X) (fun N hN=>?_) ?_
  ·exact hN _ _ ⟨rfl,rfl⟩
  rintro σ Y ⟨rfl,rfl⟩
  
  refine zaK (fun σ X=>∃ (lo:Option (Nat×Nat×Nat)) (lv:V) (v11:Option V),LatV X lv lo∧ziu lo∧(∀ c a b,lo=some (c,a,b)→c<cl.length∧(cl.getD c dfCm).kd=2)∧σ=[some (.ref L),some (.int (m:Int)),some (.ref ML),some (.int (T:Int)),some (.int (hh:Int)),some (.int (mask:Int)),some (.int (ch:Int)),some (.int (mo:Int)),some (.int (inn:Int)),some (.ref LL),some lv,v11]∧Same Y X) (fun N hN=>?_) ?_
  ·refine ⟨_,rfl,by show 0≤sizeLine;decide,fun e he=>⟨LL,e,_,rfl,rfl,SqL.of (zad he _ _ eLL),SqL.of zab,_,rfl,ite2 (fun h1=>?_) (fun h1=>?_)⟩⟩
   ·have se:=sX2.trans (zad (o:=.lst []) he)
    have sne:=zad (o:=.lst []) he
    have l1:1≤l.length:=by
     cases l with
     | nil=>exact absurd h1 (by decide)
     | cons _ _=>simp
    have eL2:=sne _ _ eLL
    generalize upd Y e (.lst [])=Z at *
    refine ⟨_,rfl,L,_,_,_,rfl,rfl,ix se,y6,_,_,rfl,rfl,(show (0:Int)<3 by decide),_,_,rfl,rfl,_,rfl,ite2 (fun h2=>?_) (fun h2=>?_)⟩
    ·refine ⟨_,rfl,L,_,_,_,rfl,rfl,ix se,y6,_,_,rfl,rfl,⟨by decide,by decide +kernel⟩,_,rfl,L,_,_,_,rfl,rfl,ix se,y6,_,_,rfl,rfl,⟨by decide,by decide +kernel⟩,_,_,rfl,rfl,(show (0:Int)<8 by decide),_,_,rfl,rfl,⟨by omega,by omega,by decide⟩,by show 3≤sizeLine;decide,fun p hp=>?_⟩
     have e6:(dr 6:Int) / 3=((dr 6 / 3:Nat):Int):=by omega
     have e68:(1:Int) * 2 ^ ((dr 6:Int) / 3 % 8).toNat=((2 ^ (dr 6 / 3 % 8):Nat):Int):=by rw [show (dr 6:Int) / 3 % 8=((dr 6 / 3 % 8:Nat):Int) by omega,Int.one_mul,Xak];norm_cast
     obtain ⟨u,_,eu⟩:=zeP (ns:=[dr 6 / 3,2 ^ (dr 6 / 3 % 8),3]) (a:=dr 7) (k:=3) rfl (by decide)
     have snp:=sne.trans (zad (o:=.lst [V.int ((dr 6:Int) / 3),V.int ((1:Int) * 2 ^ ((dr 6:Int) / 3 % 8).toNat),V.int 3]) hp)
     have sp:=sX2.trans snp
     have eL3:=zad (o:=.lst [V.int ((dr 6:Int) / 3),V.int ((1:Int) * 2 ^ ((dr 6:Int) / 3 % 8).toNat),V.int 3]) hp _ _ eL2
     refine ⟨_,rfl,L,_,_,_,rfl,rfl,ix sp,y7,_,_,rfl,rfl,(show (0:Int)<3 by decide),p,_,_,.int (u:Int),rfl,rfl,SqL.of zab,?_,_,_,rfl,rfl,(show (0:Int)<256 by decide),?_⟩
     ·show atI [V.int ((dr 6:Int) / 3),V.int ((1:Int) * 2 ^ ((dr 6:Int) / 3 % 8).toNat),V.int 3] ((dr 7:Int) % 3)=_
      rw [e68,e6]
      exact eu
     try dsimp only [zaE,List.set]
     rw [show (u:Int) % 256=((u % 256:Nat):Int) by omega]
     have hll:(0:Int)<((vN l).length:Int):=by rw [zax];omega
     obtain ⟨x,hx,ex⟩:=zeP (ns:=l) (a:=dr 7 / 3) (k:=l.length) rfl (by omega)
     refine ⟨_,rfl,_,rfl,L,_,_,_,rfl,rfl,ix sp,y7,_,_,rfl,rfl,⟨by decide,by decide +kernel⟩,_,rfl,LL,_,rfl,.inl (SqL.of eL3),_,_,rfl,rfl,hll,LL,_,_,.int (x:Int),rfl,rfl,SqL.of eL3,?_,?_⟩
     ·rw [zax,show (dr 7:Int) / 3=((dr 7 / 3:Nat):Int) by omega];exact ex
     refine ⟨_,rfl,_,rfl,L,_,_,_,rfl,rfl,ix sp,y7,_,_,rfl,rfl,⟨by decide,by decide +kernel⟩,_,rfl,_,_,rfl,rfl,by show 3≤sizeLine;decide,fun q hq=>?_⟩
     obtain ⟨hx1,hx2⟩:=hlx x hx
     refine hN _ _ ⟨some (x,u % 256,dr 7 / 30 &&& (u % 256)),.ref q,_,⟨q,rfl,?_⟩,⟨by omega,by omega,by rw [Nat.and_assoc,Nat.and_self]⟩,fun c a b h=>?_,rfl,snp.trans (zad hq)⟩
     ·rw [zab]
      try dsimp only
      rw [show (dr 7:Int) / 30=((dr 7 / 30:Nat):Int) by omega,band]
     ·obtain ⟨rfl,rfl⟩:=Prod.mk.inj (Option.some.inj h) |>.imp_right (fun h=>(Prod.mk.inj h).1)
      exact ⟨hx1,hx2⟩
    ·exact zaz (hN _ _ ⟨none,.non,_,rfl,trivial,(fun _ _ _ h=>nomatch h),rfl,sne⟩)
   ·exact iteF (zaz (hN _ _ ⟨none,.non,_,rfl,trivial,(fun _ _ _ h=>nomatch h),rfl,zad he⟩))
  rintro σ X ⟨lo,lv,v11,hlv,hlo,hlc,rfl,sYX⟩
  refine ⟨_,rfl,_,rfl,L,_,_,_,rfl,rfl,ix (sX2.trans sYX),y1,_,rfl,_,_,rfl,rfl,_,rfl,_,rfl,_,rfl,by show 5≤sizeLine;decide,fun t ht=>?_⟩
  have st:=(sX2.trans sYX).trans (zad (o:=.tup [V.int (mask:Int),V.int (Builtin.bitAnd (dr 1:Int) (mask:Int)),V.int (inn:Int),V.int (ch:Int),lv]) ht)
  refine k t ⟨mask,dr 1 &&& mask,inn,ch,lo⟩ _ ((sX2.trans sYX).free ht) ⟨lv,?_,?_⟩ ⟨hmask,Xaz XbB hmask,by rw [Nat.and_assoc,Nat.and_self],by show inn<2 ^ m;omega,him,by show ch<100;omega,hlo⟩ ⟨hch,?_,hlc⟩ st
  ·rw [zab]
   try dsimp only
   rw [band]
  ·exact LatV.same hlv (zad ht)
  ·exact Xar (XaM (by decide) hio) hmo
abbrev zcB:Stmt:=top 75
theorem sc_law_pair:FnScope ["one","other","words","latch","told","chip","first","last"] ["one","other"] (zak zcB):=sck rfl rfl rfl (by decide +kernel)
inductive spPairL (vs:List V)(H:Hp)(Q:VK)(u3_:XK):Prop
 | mk (t u:Addr) (r q:Rw) (z0_:vs=[.ref t,.ref u]) (z1_:RwAt H t r) (z2_:RwAt H u q) (z3_:(zba r q=false→∀ H',Same H H'→Q .non H')) (z4_:(zba r q=true→∀ (p:Addr) (H':Hp),Same H H'→Q (.ref p) H'))
structure Grp (X:Hp)(d:Addr)(g:List (Nat×Addr×List V)):Prop where
 e:X d=some (.dK (g.map fun y=>((Sum.inl (y.1:Int):Key),V.ref y.2.1)))
 l:∀ y∈g,X y.2.1=some (.lst y.2.2)
 nd:(g.map (·.1)).Nodup
 na:(g.map (·.2.1)).Nodup
def gOne (A:Addr)(lt:V):Option (Nat×Nat×Nat)→List (Nat×Addr×List V)
 | none=>[]
 | some (c,_,_)=>[(c,A,[lt])]
def gTwo (A B:Addr)(lt lu:V):Option (Nat×Nat×Nat)→Option (Nat×Nat×Nat)→List (Nat×Addr×List V)
 | none,o=>gOne B lu o
 | some (c,_,_),none=>[(c,A,[lt])]
 | some (c,_,_),some (d,_,_)=>if c=d then [(c,A,[lt,lu])] else [(c,A,[lt]),(d,B,[lu])]
def Gi (lt lu:V)(o p:Option (Nat×Nat×Nat))(i:Nat)(g:List (Nat×Addr×List V)):Prop:=match i with
 | 0=>g=[]
 | 1=>∃ A,g=gOne A lt o
 | _=>∃ A B,g=gTwo A B lt lu o p
theorem zhd:∀ {g:List (Nat×Addr×List V)} {y:Nat×Addr×List V},(g.map (·.1)).Nodup→y∈g→valV (g.map fun y=>((Sum.inl (y.1:Int):Key),V.ref y.2.1)) (Sum.inl (y.1:Int))=some (V.ref y.2.1)
 | [],_,_,h=>by cases h
 | z :: g,y,hn,h=>by
  rw [XaN,XbC] at hn
  rw [XaN]
  by_cases e:z.1=y.1
  ·rcases Xap.mp h with rfl | h
   ·exact zaJ rfl
   ·exact absurd (XaC.mpr ⟨y,h,e.symm⟩) hn.1
  ·rw [zaN (fun q=>e (by have:=Sum.inl.inj q;omega))]
   rcases Xap.mp h with rfl | h
   ·exact absurd rfl e
   ·exact zhd hn.2 h
theorem zfK {f:Addr}{fd:FuncData}(F:Fun K "_law_pair" "_law_pair" zcB f fd)(T:Blt mg)(GBsorted:mg "sorted" = none):FnOk P w K mg base CX0 1 f fd ["one","other"] spPairL:=by
 refine F.ok sc_law_pair (by walk_at "l") (fun cdv A outer s H vs Q E hr h=>?_)
 ·obtain ⟨t,u,r,q,rfl,⟨lt,et,hlt⟩,⟨lu,eu,hlu⟩,k1,k2⟩:=h
  refine ⟨_,(zaf (zaA (zan zdp (zaj zaU (zaj zaU (zaj zhG (pe_x zaB (pv 0) zac) (pe_x zaB (pv 1) zac)) (pe_x zaB (pv 0) zac)) (pe_x zaB (pv 1) zac)) zac (zar _)) (zag (zas za5)) zap)
   (zaf (ps_L 2 sc_law_pair.nd zgb)
   (zaf (zbY PassesOwn.never rfl (zcc (zaq (zaa (pe_x zaB (pv 0) zac) (zaa (pe_x zaB (pv 1) zac) zae)))) (pg_L 3 sc_law_pair.nd)
   (zag (zaA (zdV (zek (pv 3))) (zaf (zaF (zdO PySem.F.plainAttrs_dict PySem.F.slot_dict_setdefault PySem.F.type_dict_setdefault zer (pv 2) (zaa (pe_x zaB (pv 3) zac) (zaa (zaq zae) zae))))
   (zag (zaF (zdO PySem.F.plainAttrs_list PySem.F.slot_list_append PySem.F.type_list_append zaV (zfD (zcf hr) (pv 2) (pe_x zaB (pv 3) zac) (fun _ _=>rfl)) (zaa (pv 3) zae))))) zap)))
   (zaf (ps_L 4 sc_law_pair.nd (zaq zae))
   (zaf (zbY PassesOwn.never rfl (zcc (zao (zfi rfl) (by rfl) GBsorted zfl (zaa (pv 2) zae))) (pg_L 5 sc_law_pair.nd)
   (zaf (ps_L 6 sc_law_pair.nd (pe_x zal (zfD (zcf hr) (pv 2) (pv 5) (fun _ _=>rfl)) zac))
   (zaf (ps_L 7 sc_law_pair.nd (pe_x zal (zfD (zcf hr) (pv 2) (pv 5) (fun _ _=>rfl)) (zeh zcl zac)))
   (zaf (zaA (zan zdp (zaj zaU (zaj zaU (zaj zhG (pe_x zaB (pv 6) zac) (pe_x zaB (pv 7) zac)) (pe_x zaB (pv 6) zac)) (pe_x zaB (pv 7) zac)) zac (zar _)) (zag (zas za5)) zap)
   (zag (zaF (zdO PySem.F.plainAttrs_list PySem.F.slot_list_append PySem.F.type_list_append zaV (pv 4) (zaa (zav (zaa (pv 5) (zaa (zaj zgG (pe_x zaB (pv 6) zac) (pe_x zaB (pv 7) zac)) zae))) zae))))))))
   (zag (zas (zav (zaa (zaj zgG (pe_x zaB (pv 0) zac) (pe_x zaB (pv 1) zac)) (zaa (zaL zbH (by rfl) T.tuple zbV (zaa (pv 4) zae)) zae)))))))))),?rd⟩
  have eA:decide ((0:Int)<Builtin.bitAnd (Builtin.bitAnd (Builtin.bitXor (r.w:Int) (q.w:Int)) (r.m:Int)) (q.m:Int)) = !agr r.m r.w q.m q.w:=by
   rw [bxor,band,band]
   unfold agr
   by_cases h:(r.w ^^^ q.w) &&& r.m &&& q.m=0
   ·rw [Xai h,h];rfl
   ·rw [Xag h];exact Xai (by omega)
  refine ⟨_,rfl,t,_,_,_,rfl,rfl,SqT.of et,rfl,_,rfl,u,_,_,_,rfl,rfl,SqT.of eu,rfl,_,_,rfl,rfl,_,rfl,t,_,_,_,rfl,rfl,SqT.of et,rfl,_,_,rfl,rfl,_,rfl,u,_,_,_,rfl,rfl,SqT.of eu,rfl,_,_,rfl,rfl,_,_,rfl,rfl,_,rfl,?_⟩
  rw [eA]
  cases hA:agr r.m r.w q.m q.w with
  | false=>exact iteT (k1 (by unfold zba;rw [hA,Bool.false_and]) H (Same.refl _))
  | true =>
   refine iteF (zaz ?_)
   try dsimp only
   have hcl:zba r q=latA r.l q.l:=by unfold zba;rw [hA,Bool.true_and]
   intro d hd
   have s1:=zad (H:=H) (o:=HO.dK []) hd
   refine ⟨_,rfl,t,_,_,_,rfl,rfl,SqT.of (s1 _ _ et),rfl,_,rfl,u,_,_,_,rfl,rfl,SqT.of (s1 _ _ eu),rfl,by show 2≤sizeLine;decide,fun L hL=>⟨L,rfl,⟨_,SqL.of zab⟩,?_⟩⟩
   have s2:=s1.trans (zad (o:=.lst [lt,lu]) hL)
   refine zes (K:=K) (xs:=[lt,lu]) (fun i σ X=>∃ (v3:Option V) (g:List (Nat×Addr×List V)),σ=[some (.ref t),some (.ref u),some (.ref d),v3,none,none,none,none]∧X L=some (.lst [lt,lu])∧Same H X∧Grp X d g∧(∀ y∈g,H y.2.1=none∧y.2.1≠L)∧Gi lt lu r.l q.l i g) ⟨none,[],rfl,zab,s2,⟨zad hL _ _ zab,(fun y hy=>by cases hy),Xbz,Xbz⟩,(fun y hy=>by cases hy),rfl⟩ ?_ ?_ ?_
   ·rintro i σ X _ ⟨_,_,_,e,_⟩
    exact SqL.of e
   ·rintro i x σ X hx ⟨v3,g,rfl,eL,sX,G,gN,gi⟩
    obtain ⟨o,ho,hnone,hnew,hold⟩:∃ o,LatV H x o∧(o=none→Gi lt lu r.l q.l (i+1) g)∧(∀ c a b N,o=some (c,a,b)→c ∉ g.map (·.1)→Gi lt lu r.l q.l (i+1) (g ++ [(c,N,[x])]))∧(∀ c a b,o=some (c,a,b)→c∈g.map (·.1)→∃ A,g=[(c,A,[lt])]∧Gi lt lu r.l q.l (i+1) [(c,A,[lt,x])]):=by
     rcases (show i=0∨i=1 by have:=(Xae.mp hx).1;simp at this;omega) with rfl | rfl
     ·cases hx
      obtain rfl:g=[]:=gi
      refine ⟨r.l,hlt,fun e=>⟨d,by rw [e];rfl⟩,fun c a b N e _=>⟨N,by rw [e];rfl⟩,fun c a b e hc=>by cases hc⟩
     ·cases hx
      obtain ⟨A,rfl⟩:=gi
      refine ⟨q.l,hlu,fun e=>⟨A,A,?_⟩,fun c a b N e hc=>⟨A,N,?_⟩,fun c a b e hc=>?_⟩
      ·rw [e]
       cases r.l with
       | none=>rfl
       | some o=>rfl
      ·rw [e]
       cases hr:r.l with
       | none=>rfl
       | some o =>
        obtain ⟨c',a',b'⟩:=o
        rw [hr] at hc
        have hne:c'≠c:=fun z=>hc (by rw [← z];exact Xab.mpr rfl)
        show _=if c'=c then _ else _
        rw [if_neg hne];rfl
      ·cases hr:r.l with
       | none=>rw [hr] at hc;cases hc
       | some o =>
        obtain ⟨c',a',b'⟩:=o
        rw [hr] at hc
        obtain rfl:c=c':=Xab.mp hc
        refine ⟨A,rfl,A,A,?_⟩
        rw [e]
        show _=if c=c then _ else _
        rw [if_pos rfl]
    have hdg:∀ y∈g,y.2.1≠d:=fun y hy e=>by have:=G.l y hy;rw [e,G.e] at this;cases this
    cases ho':o with
    | none =>
     rw [ho'] at ho
     obtain rfl:x = .non:=ho
     exact ⟨_,rfl,_,rfl,iteF (zaz ⟨_,g,rfl,eL,sX,G,gN,hnone ho'⟩)⟩
    | some o1 =>
     obtain ⟨c,a,b⟩:=o1
     rw [ho'] at ho
     obtain ⟨uu,rfl,euu⟩:=ho
     have eu1:=sX _ _ euu
     refine ⟨_,rfl,_,rfl,iteT ?_⟩
     refine ⟨_,rfl,.inr (.inr (.inl ⟨rfl,.inl ⟨_,G.e⟩⟩)),_,rfl,uu,_,_,_,rfl,rfl,SqT.of eu1,rfl,by show 0≤sizeLine;decide,fun N hN=>?_⟩
     have sN:=zad (H:=X) (o:=HO.lst []) hN
     have nNL:L≠N:=fun e=>by rw [e,hN] at eL;cases eL
     have nNd:d≠N:=fun e=>by have:=G.e;rw [e,hN] at this;cases this
     have ndL:L≠d:=fun e=>by have:=G.e;rw [← e,eL] at this;cases this
     have hNn:H N=none:=by cases h:H N with | none=>rfl | some o=>have:=sX _ _ h;rw [hN] at this;cases this
     have hgl:g.length≤1:=by
      rcases (show i=0∨i=1 by have:=(Xae.mp hx).1;simp at this;omega) with rfl | rfl
      ·obtain rfl:g=[]:=gi
       exact Nat.zero_le _
      ·obtain ⟨A,rfl⟩:=gi
       cases r.l with
       | none=>exact Nat.zero_le _
       | some o=>exact Xaf _
     by_cases hc:c∈g.map (·.1)
     ·obtain ⟨A1,rfl,gi'⟩:=hold c a b ho' hc
      have hA1:=gN _ (Xab.mpr rfl)
      have nA1:A1≠d:=hdg _ (Xab.mpr rfl)
      have hv:valV [((Sum.inl (c:Int):Key),V.ref A1)] (Sum.inl (c:Int))=some (V.ref A1):=zaJ rfl
      refine ⟨d,_,Sum.inl (c:Int),.ref N,rfl,rfl,sN _ _ G.e,by simp,fun v' hv'=>?_,fun hn=>?_⟩
      ·have eA1:=sN _ _ (G.l _ (Xab.mpr rfl))
       refine ⟨_,rfl,_,rfl,uu,_,_,_,rfl,rfl,SqT.of (sN _ _ eu1),rfl,d,.ref A1,rfl,(by rw [← hv];exact DGet.k (k:=Sum.inl (c:Int)) (sN _ _ G.e)),.inl ⟨rfl,_,SqL.of eA1⟩,_,rfl,A1,_,_,rfl,rfl,eA1,by show 1<sizeLine;decide,?_⟩
       refine ⟨_,[(c,A1,[lt,.ref uu])],rfl,by rw [zai (Ne.symm hA1.2),zai nNL];exact eL,fun b' o' e=>by rw [zai (zah e hA1.1)];exact sN _ _ (sX _ _ e),⟨by rw [zai (Ne.symm nA1),zai nNd];exact G.e,fun y hy=>?_,by simp,by simp⟩,fun y hy=>?_,gi'⟩
       ·obtain rfl:=Xab.mp hy
        exact zab
       ·obtain rfl:=Xab.mp hy
        exact hA1
      ·exact absurd (hv.symm.trans hn) (by simp)
     ·have hv:valV (g.map fun y=>((Sum.inl (y.1:Int):Key),V.ref y.2.1)) (Sum.inl (c:Int))=none:=by
       cases h:valV (g.map fun y=>((Sum.inl (y.1:Int):Key),V.ref y.2.1)) (Sum.inl (c:Int)) with
       | none=>rfl
       | some v =>
        have:=zjR h
        rw [Xbf,XaC] at this
        obtain ⟨y,hy,e⟩:=this
        have e:(y.1:Int)=(c:Int):=Sum.inl.inj e
        exact absurd (XaC.mpr ⟨y,hy,show y.1=c by omega⟩) hc
      have ep:putK (g.map fun y=>((Sum.inl (y.1:Int):Key),V.ref y.2.1)) (Sum.inl (c:Int)) (.ref N)=(g ++ [(c,N,[V.ref uu])]:List (Nat×Addr×List V)).map fun y=>((Sum.inl (y.1:Int):Key),V.ref y.2.1):=by
       unfold putK
       rw [zck,hv,XaV]
       rfl
      refine ⟨d,_,Sum.inl (c:Int),.ref N,rfl,rfl,sN _ _ G.e,by rw [Xah];omega,fun v' hv'=>absurd (hv.symm.trans hv') (by simp),fun _=>?_⟩
      have hv2:valV ((g ++ [(c,N,[V.ref uu])]:List (Nat×Addr×List V)).map fun y=>((Sum.inl (y.1:Int):Key),V.ref y.2.1)) (Sum.inl (c:Int))=some (.ref N):=by rw [← ep,ziw,if_pos rfl]
      rw [ep]
      have nud:uu≠d:=fun e=>by have:=G.e;rw [← e,eu1] at this;cases this
      refine ⟨_,rfl,_,rfl,uu,_,_,_,rfl,rfl,SqT.of (by rw [zai nud];exact sN _ _ eu1),rfl,d,.ref N,rfl,(by rw [← hv2];exact DGet.k (k:=Sum.inl (c:Int)) zab),.inl ⟨rfl,_,SqL.of (by rw [zai (Ne.symm nNd)];exact zab)⟩,_,rfl,N,[],_,rfl,rfl,by rw [zai (Ne.symm nNd)];exact zab,by show 0<sizeLine;decide,?_⟩
      have hNg:∀ y∈g,y.2.1≠N:=fun y hy e=>by have:=G.l y hy;rw [e,hN] at this;cases this
      refine ⟨_,g ++ [(c,N,[.ref uu])],rfl,by rw [zai nNL,zai ndL,zai nNL];exact eL,fun b' o' e=>by rw [zai (zah e hNn),zai (zah e hd)];exact sN _ _ (sX _ _ e),⟨by rw [zai nNd];exact zab,fun y hy=>?_,?_,?_⟩,fun y hy=>?_,hnew c a b N ho' hc⟩
      ·rcases XaF.mp hy with hy | hy
       ·rw [zai (hNg y hy),zai (hdg y hy),zai (hNg y hy)];exact G.l y hy
       ·obtain rfl:=Xab.mp hy
        exact zab
      ·rw [XaV,Xba]
       exact ⟨G.nd,by simp,fun z hz z' hz'=>by obtain rfl:=Xab.mp hz';exact fun e=>hc (e ▸ hz)⟩
      ·rw [XaV,Xba]
       refine ⟨G.na,by simp,fun z hz z' hz'=>?_⟩
       obtain rfl:=Xab.mp hz'
       obtain ⟨y,hy,rfl⟩:=XaC.mp hz
       exact hNg y hy
      ·rcases XaF.mp hy with hy | hy
       ·exact gN y hy
       ·obtain rfl:=Xab.mp hy
        exact ⟨hNn,Ne.symm nNL⟩
   ·rintro σ X ⟨v3,g,rfl,eL,sX,G,gN,gi⟩
    obtain ⟨A,B,hgi⟩:=gi
    
    have hgood:∀ y∈g,∃ (u1 u2:Addr) (c1 a1 b1 c2 a2 b2:Nat),y.2.2[0]? = some (V.ref u1)∧atI y.2.2 (-1)=some (V.ref u2)∧H u1=some (.tup [.int (c1:Int),.int (a1:Int),.int (b1:Int)])∧H u2=some (.tup [.int (c2:Int),.int (a2:Int),.int (b2:Int)])∧(zba r q=true→agr a1 b1 a2 b2=true)∧(zba r q=false→agr a1 b1 a2 b2=false):=by
     have self:∀ a b:Nat,agr a b a b=true:=fun a b=>by unfold agr;rw [Nat.xor_self];simp
     rw [hgi]
     intro y hy
     cases hr:r.l with
     | none =>
      cases hq:q.l with
      | none=>rw [hr,hq] at hy;cases hy
      | some o =>
       obtain ⟨c,a,b⟩:=o
       rw [hr,hq] at hy
       rw [hq] at hlu
       obtain ⟨u1,rfl,e1⟩:=hlu
       obtain rfl:=Xab.mp hy
       exact ⟨u1,u1,c,a,b,c,a,b,rfl,zct [] _,e1,e1,fun _=>self a b,fun h=>by rw [hcl,hr,hq] at h;cases h⟩
     | some o =>
      obtain ⟨c,a,b⟩:=o
      rw [hr] at hlt
      obtain ⟨u1,rfl,e1⟩:=hlt
      cases hq:q.l with
      | none =>
       rw [hr,hq] at hy
       obtain rfl:=Xab.mp hy
       exact ⟨u1,u1,c,a,b,c,a,b,rfl,zct [] _,e1,e1,fun _=>self a b,fun h=>by rw [hcl,hr,hq] at h;cases h⟩
      | some o2 =>
       obtain ⟨d',x,y'⟩:=o2
       rw [hr,hq] at hy
       rw [hq] at hlu
       obtain ⟨u2,rfl,e2⟩:=hlu
       have hlA:zba r q=if c=d' then agr a b x y' else true:=by rw [hcl,hr,hq];rfl
       by_cases hcd:c=d'
       ·rw [show gTwo A B (V.ref u1) (V.ref u2) (some (c,a,b)) (some (d',x,y'))=[(c,A,[.ref u1,.ref u2])] from if_pos hcd] at hy
        obtain rfl:=Xab.mp hy
        rw [if_pos hcd] at hlA
        exact ⟨u1,u2,c,a,b,d',x,y',rfl,zct [V.ref u1] _,e1,e2,fun h=>by rw [← hlA];exact h,fun h=>by rw [← hlA];exact h⟩
       ·rw [if_neg hcd] at hlA
        rw [show gTwo A B (V.ref u1) (V.ref u2) (some (c,a,b)) (some (d',x,y'))=[(c,A,[.ref u1]),(d',B,[.ref u2])] from if_neg hcd] at hy
        rcases Xap.mp hy with rfl | hy
        ·exact ⟨u1,u1,c,a,b,c,a,b,rfl,zct [] _,e1,e1,fun _=>self a b,fun h=>by rw [hlA] at h;cases h⟩
        ·obtain rfl:=Xab.mp hy
         exact ⟨u2,u2,d',x,y',d',x,y',rfl,zct [] _,e2,e2,fun _=>self x y',fun h=>by rw [hlA] at h;cases h⟩
    have hne:zba r q=false→g≠[]:=fun h e=>by
     rw [e] at hgi
     rw [hcl] at h
     cases hr:r.l with
     | none=>rw [hr] at h;cases h
     | some o =>
      cases hq:q.l with
      | none=>rw [hr,hq] at h;cases h
      | some o2 =>
       rw [hr,hq] at hgi
       have hgi:([]:List (Nat×Addr×List V))=if o.1=o2.1 then _ else _:=hgi
       split at hgi <;> cases hgi
    have hg2:g.length≤2:=by
     rw [hgi]
     cases r.l with
     | none=>cases q.l with
      | none=>exact Nat.zero_le _
      | some o=>show 1≤2;decide
     | some o=>cases q.l with
      | none=>show 1≤2;decide
      | some o2 =>
       show (if o.1=o2.1 then _ else _:List (Nat×Addr×List V)).length≤2
       split <;> simp
    refine ⟨by show 0≤sizeLine;decide,fun TL hTL=>?_⟩
    have sT:=zad (H:=X) (o:=HO.lst []) hTL
    have nTd:TL≠d:=fun e=>by have:=G.e;rw [← e,hTL] at this;cases this
    have hTn:H TL=none:=sX.free hTL
    refine ⟨_,rfl,d,_,g.map fun y=>(y.1:Int),rfl,sT _ _ G.e,by rw [Xbf,Xbf];rfl,by rw [Xah];omega,fun l ns hl pm _=>⟨l,rfl,⟨_,SqL.of zab⟩,?_⟩⟩
    have sl:=sT.trans (zad (o:=.lst (ns.map V.int)) hl)
    have nlT:TL≠l:=fun e=>by rw [← e,zab] at hl;cases hl
    have hpl:ns.length=g.length:=by rw [pm.length_eq,Xah]
    refine zes (K:=K) (xs:=ns.map V.int) (fun i σ Y=>∃ (v5 v6 v7:Option V) (ts:List V),σ=[some (.ref t),some (.ref u),some (.ref d),v3,some (.ref TL),v5,v6,v7]∧(zba r q=true∨i=0)∧Y TL=some (.lst ts)∧ts.length≤i∧∀ a o,a≠TL→upd (upd X TL (.lst [])) l (.lst (ns.map V.int)) a=some o→Y a=some o) ⟨none,none,none,[],rfl,.inr rfl,by rw [zai nlT];exact zab,Xaf _,fun a o _ e=>e⟩ ?_ ?_ ?_
    ·rintro i σ Y _ ⟨_,_,_,_,_,_,_,_,fr⟩
     exact SqL.of (fr _ _ (Ne.symm nlT) zab)
    ·rintro i x σ Y hx ⟨v5,v6,v7,ts,rfl,hci,eT,htl,fr⟩
     rw [Xat] at hx
     obtain ⟨n,hn,rfl⟩:=XaJ.mp hx
     obtain ⟨y,hy,rfl⟩:=XaC.mp (pm.mem_iff.mp (XaB hn))
     obtain ⟨u1,u2,c1,a1,b1,c2,a2,b2,g1,g2,g3,g4,g5,g6⟩:=hgood y hy
     have frH:∀ a o,H a=some o→Y a=some o:=fun a o e=>fr a o (zah e hTn) (sl _ _ (sX _ _ e))
     have eD:Y d=some (.dK (g.map fun y=>((Sum.inl (y.1:Int):Key),V.ref y.2.1))):=fr _ _ (Ne.symm nTd) (sl _ _ G.e)
     have eY:Y y.2.1=some (.lst y.2.2):=fr _ _ (fun e=>by have:=G.l y hy;rw [e,hTL] at this;cases this) (sl _ _ (G.l y hy))
     have hv:valV (g.map fun y=>((Sum.inl (y.1:Int):Key),V.ref y.2.1)) (Sum.inl (y.1:Int))=some (V.ref y.2.1):=zhd G.nd hy
     have eA2:decide ((0:Int)<Builtin.bitAnd (Builtin.bitAnd (Builtin.bitXor (b1:Int) (b2:Int)) (a1:Int)) (a2:Int)) = !agr a1 b1 a2 b2:=by
      rw [bxor,band,band]
      unfold agr
      by_cases h:(b1 ^^^ b2) &&& a1 &&& a2=0
      ·rw [Xai h,h];rfl
      ·rw [Xag h];exact Xai (by omega)
     refine ⟨_,rfl,_,rfl,d,_,rfl,(by rw [← hv];exact DGet.k (k:=Sum.inl (y.1:Int)) eD),y.2.1,_,_,_,rfl,rfl,SqL.of eY,(zbj (j:=0) g1:atI _ ((0:Nat):Int)=_),?_⟩
     refine ⟨_,rfl,_,rfl,d,_,rfl,(by rw [← hv];exact DGet.k (k:=Sum.inl (y.1:Int)) eD),?_⟩
     refine ⟨1,rfl,y.2.1,_,_,_,rfl,rfl,SqL.of eY,g2,?_⟩
     have h3:=frH _ _ g3
     have h4:=frH _ _ g4
     refine ⟨_,rfl,u1,_,_,_,rfl,rfl,SqT.of h3,rfl,_,rfl,u2,_,_,_,rfl,rfl,SqT.of h4,rfl,_,_,rfl,rfl,_,rfl,u1,_,_,_,rfl,rfl,SqT.of h3,rfl,_,_,rfl,rfl,_,rfl,u2,_,_,_,rfl,rfl,SqT.of h4,rfl,_,_,rfl,rfl,_,_,rfl,rfl,_,rfl,?_⟩
     rw [eA2]
     cases hA2:agr a1 b1 a2 b2 with
     | false =>
      refine iteT (k1 ?_ Y frH)
      cases h:zba r q with
      | false=>rfl
      | true=>rw [g5 h] at hA2;cases hA2
     | true =>
      have hct:zba r q=true:=by
       cases h:zba r q with
       | true=>rfl
       | false=>rw [g6 h] at hA2;cases hA2
      have hil:i<ns.length:=(Xae.mp hn).1
      refine iteF (zaz ?_)
      try dsimp only
      refine ⟨_,rfl,.inl ⟨rfl,_,SqL.of eT⟩,_,rfl,_,rfl,u1,_,_,_,rfl,rfl,SqT.of h3,rfl,_,rfl,u2,_,_,_,rfl,rfl,SqT.of h4,rfl,_,_,rfl,rfl,by show 2≤sizeLine;decide,fun tp htp=>?_⟩
      have sp:=zad (H:=Y) (o:=HO.tup [.int (y.1:Int),.int (Builtin.bitOr (b1:Int) (b2:Int))]) htp
      refine ⟨TL,ts,_,rfl,rfl,sp _ _ eT,by rw [sizeLine_eq];omega,?_⟩
      exact ⟨_,_,_,ts ++ [.ref tp],rfl,.inl hct,zab,by rw [Xaq];simp;omega,fun a o ha e=>by rw [zai ha];exact sp _ _ (fr a o ha e)⟩
    ·rintro σ Y ⟨v5,v6,v7,ts,rfl,hci,eT,htl,fr⟩
     have frH:∀ a o,H a=some o→Y a=some o:=fun a o e=>fr a o (zah e hTn) (sl _ _ (sX _ _ e))
     have hct:zba r q=true:=by
      cases h:zba r q with
      | true=>rfl
      | false =>
       rcases hci with e | e
       ·rw [h] at e;cases e
       ·rw [Xah,hpl] at e
        exact absurd (List.length_eq_zero_iff.mp e) (hne h)
     refine ⟨_,rfl,t,_,_,_,rfl,rfl,SqT.of (frH _ _ et),rfl,_,rfl,u,_,_,_,rfl,rfl,SqT.of (frH _ _ eu),rfl,_,_,rfl,rfl,_,rfl,TL,ts,rfl,.inl ⟨SqL.of eT,fun tp htp=>⟨by show 2≤sizeLine;decide,fun p hp=>?_⟩⟩⟩
     exact k2 hct p _ ((show Same H Y from frH).trans ((zad htp).trans (zad hp)))
abbrev zdk:Stmt:=top 76
theorem sc_law_map:FnScope ["row","bits","models","rows","k","one"] ["row","bits","models"] (zak zdk):=sck rfl rfl rfl (by decide +kernel)
theorem zgp (m w n v:Nat):agr m w n v=agr n v m w:=by unfold agr;rw [Nat.xor_comm,Nat.and_assoc,Nat.and_comm m n,← Nat.and_assoc]
theorem zg0 (r q:Rw):zba r q=zba q r:=by
 unfold zba
 rw [zgp]
 congr 1
 cases r.l with
 | none=>cases q.l <;> rfl
 | some o =>
  cases q.l with
  | none=>rfl
  | some o2 =>
   show (if o.1=o2.1 then agr o.2.1 o.2.2 o2.2.1 o2.2.2 else true)=if o2.1=o.1 then agr o2.2.1 o2.2.2 o.2.1 o.2.2 else true
   by_cases e:o.1=o2.1
   ·rw [if_pos e,if_pos e.symm,zgp]
   ·rw [if_neg e,if_neg (Ne.symm e)]
theorem zgm {row:List Nat}{a n:Nat}(h:a+n≤row.length):cutV (vN row) (some (a:Int)) (some ((a+n:Nat):Int))=vN ((row.drop a).take n):=by
 unfold cutV
 rw [HT.sIx_nat,HT.sIx_nat,zax,Nat.min_eq_left (by omega),Nat.min_eq_left (by omega),show a+n - a=n by omega]
 unfold vN
 rw [List.map_take,List.map_drop]
inductive spMap34 (cs:Nat→Addr)(vs:List V)(H:Hp)(Q:VK)(u3_:XK):Prop
 | mk (L ML:Addr) (row:List Nat) (c m:Nat) (cl:List Cm) (z0_:vs=[.ref L,.int (m:Int),.ref ML]) (z1_:H L=some (.lst (vN row))) (z2_:row.length=8 * c) (z3_:c≤6) (z4_:(∀ v∈row,v<2 ^ 31)) (z5_:1≤m) (z6_:m≤16) (z7_:H ML=some (.lst (cl.map fun c=>.ref c.m))) (z8_:1≤cl.length) (z9_:cl.length≤9) (z10_:CMs cs H cl) (z11_:∀ (R:Addr) (ws:List (Addr×Rw)) (H':Hp),H R=none→RwsFor (dtC cl) m H' R ws→ws.length≤6→Same H H'→Q (.ref R) H')
theorem zgN {f:Addr}{cs:Nat→Addr}{fd:FuncData}(F:Fun K "_law_map" "_law_map" zdk f fd)(T:Blt mg)(G_law_row:Cal P w K mg base 3 "_law_row" ["r","bits","models"] (spRow34 cs))(G_law_pair:Cal P w K mg base 1 "_law_pair" ["one","other"] spPairL):FnOk P w K mg base CX0 4 f fd ["row","bits","models"] (spMap34 cs):=by
 refine F.ok sc_law_map (by walk_at "l") (fun cdv A outer s H vs Q E hr h=>?_)
 ·obtain ⟨L,ML,row,c,m,cl,rfl,eL,hl,c6,hw,m1,m2,eM,c1,c9,hC,k⟩:=h
  refine' ⟨_,(zaf (ps_L 3 sc_law_map.nd (zaq zae))
   (zaf (zbY PassesOwn.never rfl (zeQ rfl T.range (zaa zac (zaa (zaj za0 (zao zam (by rfl) T.len PySem.boot_len (zaa (pv 0) zae)) zac) (zaa zac zae)))) (pg_L 4 sc_law_map.nd)
   (zaf (zhv (i:=5) sc_law_map.nd rfl (Or.inr rfl) (pe_c G_law_row (zaa (zaX zcu (pv 0) (zaS (pv 4)) (zaS (zaj zaH (pv 4) zac))) (zaa (pv 1) (zaa (pv 2) zae)))))
   (zag (zaA (zan (zkd (XaP (zcf hr)) (K:=K) rfl) ?c1 (zaq zae) (zar _)) (zag (zaF (zdO PySem.F.plainAttrs_list PySem.F.slot_list_append PySem.F.type_list_append zaV (pv 3) (zaa (pv 5) zae)))) zap))))
   (zag (zas (zaL zbH (by rfl) T.tuple zbV (zaa (pv 3) zae)))))),?rd⟩
  (case c1=>exact (zej (Nc:=["other","one"]) [none,some 5] rfl (zaM (by rfl)) (zcc (pv 3)) (fun _ _ _ _ _=>(pg_L 0 (show (["other","one"]:List Str).Nodup by decide +kernel))) (fun _ _ _ _ _=>(zeR (zdV (zek (pe_c G_law_pair (zaa (pv 1) (zaa (pv 0) zae))))))) (fun _ _ _ _ _=>(pv 0))))
  refine ⟨by show 0≤sizeLine;decide,fun RL hRL=>?_⟩
  have s1:=zad (o:=.lst []) hRL
  obtain ⟨r1,r2,r3⟩:Builtin.Range.small 0 (((vN row).length:Int) - 7) 8=true∧Builtin.divisionGoesByPylong ((((vN row).length:Int) - 7) - 0) 8=false∧Builtin.Range.rangeSize 0 (((vN row).length:Int) - 7) 8=(c:Int):=by
   by_cases h0:c=0
   ·rw [zax,hl,h0];exact ⟨by decide,by decide,by decide⟩
   ·rw [zax,hl,show ((8 * c:Nat):Int) - 7=((8 * c - 7:Nat):Int) by omega]
    exact zf7 (j:=8 * c - 7) (st:=8) (n:=c) (by omega) (by decide) (by decide) (by omega)
  refine ⟨_,rfl,L,_,rfl,.inl (SqL.of (s1 _ _ eL)),_,_,rfl,rfl,0,_,8,c,rfl,by decide,r1,r2,r3,?_⟩
  refine zd0 (n:=c) (fun i σ X=>∃ (v:Option V×Option V) (ws:List (Addr×Rw)),σ=[some (.ref L),some (.int (m:Int)),some (.ref ML),some (.ref RL),v.1,v.2]∧X RL=some (.lst (refs ws))∧RwsAt2 m X ws∧(∀ z∈ws,Fit (dtC cl) z.2)∧ws.Pairwise (fun a b=>NC a.2 b.2)∧ws.length≤i∧Same H X) ⟨(_,_),[],rfl,zab,(fun _ h=>nomatch h),(fun _ h=>nomatch h),List.Pairwise.nil,Xaf _,s1⟩ ?_ ?_
  ·rintro i σ X hi ⟨v,ws,rfl,hh⟩
   have eRL:=hh.1
   have hat2:=hh.2.1
   have hfit:=hh.2.2.1
   have hnc:=hh.2.2.2.1
   have hlen:=hh.2.2.2.2.1
   have sX:=hh.2.2.2.2.2
   rw [show (0:Int)+(i:Int) * 8=((8 * i:Nat):Int) by omega]
   have e8:((8 * i:Nat):Int)+8=((8 * i+8:Nat):Int):=by omega
   refine ⟨_,rfl,_,rfl,((8 * i:Nat):Int),rfl,_,rfl,_,_,rfl,rfl,((8 * i+8:Nat):Int),congrArg V.int e8,L,_,rfl,SqL.of (sX _ _ eL),fun g hg=>?_⟩
   rw [zgm (by omega)]
   have sg:=zad (o:=.lst (vN ((row.drop (8 * i)).take 8))) hg
   refine ⟨_,rfl,_,rfl,g,ML,_,m,cl,rfl,zab,by rw [XaW,Xa3];omega,(fun v hv=>hw v (Xbo (Xbp hv))),m1,m2,(sX.trans sg) _ _ eM,c1,c9,hC.same (sX.trans sg),fun ta rN Z hta raN okN fitN s2=>?_⟩
   have sZ:=sg.trans s2
   try dsimp only [zaE,List.set]
   have eRZ:=sZ _ _ eRL
   refine ⟨_,rfl,RL,rfl,⟨_,SqL.of eRZ⟩,?_⟩
   refine zdI (K:=K) (xs:=refs ws) (fun j ys σ U=>∃ v0,σ=[v0,some (.ref ta)]∧ys.length≤j∧(ys=[]→∀ (k:Nat) (z:Addr×Rw),k<j→ws[k]? = some z→zba rN z.2=false)∧Same Z U) (by rw [zat,sizeLine_eq];omega) ⟨none,rfl,Xaf _,(fun _ k z hk=>absurd hk (Xbd _)),Same.refl _⟩ ?_ ?_ ?_
   ·rintro j ys σ U _ ⟨_,_,hl,_,sU⟩
    exact ⟨SqL.of (sU _ _ eRZ),hl⟩
   ·rintro j x ys σ U hx ⟨v0,rfl,hl,hcl,sU⟩
    obtain ⟨z,hz,rfl⟩:=zbC hx
    have raz:=((hat2 z (XaB hz)).1.same sZ).same sU
    refine ⟨_,rfl,_,rfl,ta,z.1,rN,z.2,rfl,raN.same sU,raz,fun hc U1 s1=>⟨_,rfl,iteF ?_⟩,fun hc p U1 s1=>⟨_,rfl,iteT ⟨_,rfl,?_⟩⟩⟩
    ·refine ⟨_,rfl,by omega,fun he k z' hk hz'=>?_,sU.trans s1⟩
     rcases (show k<j∨k=j by omega) with e | e
     ·exact hcl he k z' e hz'
     ·rw [e,hz] at hz';cases hz';exact hc
    ·exact ⟨_,rfl,by rw [Xaq];simp;omega,fun he=>absurd he (by simp),sU.trans s1⟩
   ·rintro ys σ U ⟨v0,rfl,hl,hcl,sU⟩ Dc hDc
    rw [zat] at hcl
    refine ⟨by show 0≤sizeLine;decide,fun e0 he0=>?_⟩
    have y1:=(sZ.trans sU).trans ((zad (o:=.lst ys) hDc).trans (zad (o:=.lst []) he0))
    refine ⟨Dc,e0,ys,rfl,rfl,SqL.of (zad he0 _ _ zab),SqL.of zab,_,rfl,ite2 (fun h1=>?_) (fun h1=>zaz ?_)⟩
    ·have hys:ys=[]:=List.isEmpty_iff.mp h1
     have eR2:=y1 _ _ eRL
     refine ⟨_,rfl,.inl ⟨rfl,_,SqL.of eR2⟩,_,rfl,RL,_,_,rfl,rfl,eR2,by rw [zat,sizeLine_eq];omega,?_⟩
     refine ⟨(_,_),ws ++ [(ta,rN)],rfl,?_,fun z hz=>?_,fun z hz=>?_,?_,by rw [Xaq];simp;omega,fun a q' e=>by rw [zai (zah e hRL)];exact y1 _ _ (sX _ _ e)⟩
     ·rw [zab];unfold refs;rw [XaV];rfl
     ·rcases XaF.mp hz with hz | hz
      ·exact ⟨((hat2 z hz).1.same y1).updL eR2,(hat2 z hz).2⟩
      ·obtain rfl:=Xab.mp hz
       exact ⟨((raN.same sU).same ((zad hDc).trans (zad he0))).updL eR2,okN⟩
     ·rcases XaF.mp hz with hz | hz
      ·exact hfit z hz
      ·obtain rfl:=Xab.mp hz
       exact fitN
     ·rw [List.pairwise_append]
      refine ⟨hnc,List.pairwise_singleton _ _,fun a ha b hb=>?_⟩
      obtain rfl:=Xab.mp hb
      obtain ⟨k',hk'⟩:=List.mem_iff_getElem?.mp ha
      have hcf:=hcl hys k' a (Xae.mp hk').1 hk'
      exact ⟨by rw [zg0];exact hcf,hcf⟩
    ·exact ⟨(_,_),ws,rfl,y1 _ _ eRL,hat2.same y1,hfit,hnc,by omega,sX.trans y1⟩
  ·rintro σ X ⟨v,ws,rfl,eRL,hat2,hfit,hnc,hlen,sX⟩
   refine ⟨_,rfl,RL,refs ws,rfl,.inl ⟨SqL.of eRL,fun R hR=>?_⟩⟩
   have sR:=zad (H:=X) (o:=HO.tup (refs ws)) hR
   exact k R ws _ (sX.free hR) ⟨zab,hat2.same sR,hfit,hnc,by omega⟩ (by omega) (sX.trans sR)
abbrev zca:Stmt:=top 78
theorem sc_law_board:FnScope ["row","bits","chips","models","rows"] ["row"] (zak zca):=sck rfl rfl rfl (by decide +kernel)
structure Bo34 (cs:Nat→Addr)(H:Hp)(R CL ML:Addr)(m:Nat)(cl:List Cm)(ws:List (Addr×Rw))(X:Hp):Prop where
 m1:1≤m
 m2:m≤16
 rf:RwsFor (dtC cl) m X R ws
 l6:ws.length≤6
 eC:X CL=some (.lst (cl.map fun c=>.ref c.x))
 eM:X ML=some (.lst (cl.map fun c=>.ref c.m))
 nCM:CL≠ML
 c9:cl.length≤9
 C:CMs cs X cl
 fr:∀ c∈cl,H c.p=none∧H c.r=none∧c.p≠CL∧c.p≠ML∧c.r≠CL∧c.r≠ML
 s:Same H X
theorem Bo34.same {cs:Nat→Addr}{H X Y:Hp}{R CL ML:Addr}{m:Nat}{cl:List Cm}{ws:List (Addr×Rw)}(h:Bo34 cs H R CL ML m cl ws X)(s:Same X Y):Bo34 cs H R CL ML m cl ws Y:=⟨h.m1,h.m2,h.rf.same s,h.l6,s _ _ h.eC,s _ _ h.eM,h.nCM,h.c9,h.C.same s,h.fr,h.s.trans s⟩
inductive spBoard34 (cs:Nat→Addr)(vs:List V)(H:Hp)(Q:VK)(u3_:XK):Prop
 | mk (L:Addr) (row:List Nat) (z0_:vs=[.ref L]) (z1_:H L=some (.lst (vN row))) (z2_:80≤row.length) (z3_:(∀ v∈row,v<2 ^ 31)) (z4_:∀ (t R CL ML:Addr) (m:Nat) (cl:List Cm) (ws:List (Addr×Rw)) (H':Hp),H' t=some (.tup [.int (m:Int),.ref R,.ref CL,.ref ML])→Bo34 cs H R CL ML m cl ws H'→Q (.ref t) H')
theorem ze2 {f:Addr}{cs:Nat→Addr}{fd:FuncData}(F:Fun K "_law_board" "_law_board" zca f fd)(T:Blt mg)(G_law_chips:Cal P w K mg base 6 "_law_chips" ["row"] (spChips34 cs))(G_law_map:Cal P w K mg base 4 "_law_map" ["row","bits","models"] (spMap34 cs)):FnOk P w K mg base CX0 7 f fd ["row"] (spBoard34 cs):=by
 refine F.ok sc_law_board (by walk_at "l") (fun cdv A outer s H vs Q E hr h=>?_)
 ·obtain ⟨L,row,rfl,eL,hl,hw,k⟩:=h
  refine ⟨_,(zaf (ps_L 1 sc_law_board.nd (pe_x zal (zaq (zaa zac (zaa (zaj zaH zac (zaj zaw (zaj zay (pe_x zal (pv 0) zac) zac) zac)) (zaa zac (zaa (zaj zaH zac (zaj zaw (zaj zay (pe_x zal (pv 0) zac) zac) zac)) zae))))) (zaj zaw (pe_x zal (pv 0) zac) zac)))
   (zaf (zaA (zan za8 (zaj zaw (zaj zay (pe_x zal (pv 0) zac) zac) zac) zac (zar _)) (zag (zas (zav (zaa (pv 1) (zaa (zav zae) (zaa (zaq zae) (zaa (zaq zae) zae))))))) zap)
   (zaf (zco (pe_c G_law_chips (zaa (zaX zcu (pv 0) (zaS zac) (zaS (zaj zaH zac (zaj zce zac (zaj zaH zac (zaj zaw (pe_x zal (pv 0) zac) zac)))))) zae)) (zbO rfl (zau (pg_L 2 sc_law_board.nd) (zau (pg_L 3 sc_law_board.nd) zbg))))
   (zaf (ps_L 4 sc_law_board.nd (pe_c G_law_map (zaa (zaX zcu (pv 0) (zaS zac) (zaS (zaj zaH zac (zaj zce zac (zaj zaw (zaj zay (pe_x zal (pv 0) zac) zac) zac))))) (zaa (pv 1) (zaa (pv 3) zae)))))
   (zag (zas (zav (zaa (pv 1) (zaa (pv 4) (zaa (pv 2) (zaa (pv 3) zae))))))))))),?rd⟩
  obtain ⟨dr,hdr⟩:=drw (row:=row) 80 (by omega) hw
  have y0:atI (vN row) 0=some (.int (dr 0:Int)):=(hdr 0 (by decide)).1
  have y1:atI (vN row) 1=some (.int (dr 1:Int)):=(hdr 1 (by decide)).1
  
  refine zaK (fun σ X=>∃ m:Nat,1≤m∧m≤16∧σ=[some (.ref L),some (.int (m:Int)),none,none,none]∧Same H X) (fun N hN=>?_) ?_
  ·have i0:SqL K H L (vN row):=SqL.of eL
   refine ⟨_,rfl,L,_,_,_,rfl,rfl,i0,y0,_,_,rfl,rfl,⟨by decide,by decide +kernel⟩,_,_,rfl,rfl,(show (0:Int)<16 by decide),_,_,rfl,rfl,_,rfl,L,_,_,_,rfl,rfl,i0,y0,_,_,rfl,rfl,⟨by decide,by decide +kernel⟩,_,_,rfl,rfl,(show (0:Int)<6 by decide),_,_,rfl,rfl,by show 4≤sizeLine;decide,fun p hp=>?_⟩
   have sp:=zad (o:=.lst [V.int 16,V.int ((1:Int)+(dr 0:Int) / 4 % 16),V.int 8,V.int ((4:Int)+(dr 0:Int) / 4 % 6)]) hp
   obtain ⟨u,hu,eu⟩:=zeP (ns:=[16,1+dr 0 / 4 % 16,8,4+dr 0 / 4 % 6]) (a:=dr 0) (k:=4) rfl (by decide)
   refine ⟨_,rfl,L,_,_,_,rfl,rfl,SqL.of (sp _ _ eL),y0,_,_,rfl,rfl,(show (0:Int)<4 by decide),p,_,_,.int (u:Int),rfl,rfl,SqL.of zab,?_,?_⟩
   ·show atI [V.int 16,V.int ((1:Int)+(dr 0:Int) / 4 % 16),V.int 8,V.int ((4:Int)+(dr 0:Int) / 4 % 6)] ((dr 0:Int) % 4)=_
    rw [show (1:Int)+(dr 0:Int) / 4 % 16=((1+dr 0 / 4 % 16:Nat):Int) by omega,show (4:Int)+(dr 0:Int) / 4 % 6=((4+dr 0 / 4 % 6:Nat):Int) by omega]
    exact eu
   have hu2:1≤u∧u≤16:=by
    simp only [Xap,List.mem_nil_iff,or_false] at hu
    omega
   exact hN _ _ ⟨u,hu2.1,hu2.2,rfl,sp⟩
  rintro σ X ⟨m,m1,m2,rfl,sX⟩
  
  refine zaK (fun σ Y=>σ=[some (.ref L),some (.int (m:Int)),none,none,none]∧Y=X) (fun N hN=>?_) ?_
  ·refine ⟨_,rfl,L,_,_,_,rfl,rfl,SqL.of (sX _ _ eL),y1,_,_,rfl,rfl,⟨by decide,by decide +kernel⟩,_,_,rfl,rfl,(show (0:Int)<12 by decide),rfl,_,rfl,ite2 (fun h1=>?_) (fun h1=>zaz (hN _ _ ⟨rfl,rfl⟩))⟩
   refine ⟨_,rfl,by show 0≤sizeLine;decide,fun R hR=>⟨by show 0≤sizeLine;decide,fun CL hCL=>⟨by show 0≤sizeLine;decide,fun ML hML=>⟨by show 4≤sizeLine;decide,fun t ht=>?_⟩⟩⟩⟩
   have q1:=zad (o:=.tup []) hR
   have q2:=zad (o:=.lst []) hCL
   have q3:=zad (o:=.lst []) hML
   have q4:=zad (o:=.tup [.int (m:Int),.ref R,.ref CL,.ref ML]) ht
   have nCM:CL≠ML:=fun z=>by rw [← z,zab] at hML;cases hML
   exact k t R CL ML m [] [] _ zab ⟨m1,m2,⟨q4 _ _ (q3 _ _ (q2 _ _ zab)),(fun _ h=>nomatch h),(fun _ h=>nomatch h),List.Pairwise.nil,by decide⟩,by decide,q4 _ _ (q3 _ _ zab),q4 _ _ zab,nCM,by decide,⟨(fun _ h=>nomatch h),Xbz⟩,(fun _ h=>nomatch h),sX.trans (q1.trans (q2.trans (q3.trans q4)))⟩
  rintro σ Y ⟨rfl,rfl⟩
  have c1:dr 1 % 9<9:=Xa0 _ (by decide)
  have c2:dr 1 / 9 % 7<7:=Xa0 _ (by decide)
  have e1:(2:Int)+2 * (1+(dr 1:Int) % 9)=((2+2 * (1+dr 1 % 9):Nat):Int):=by omega
  have e2:(20:Int)+8 * ((dr 1:Int) / 9 % 7)=((20+8 * (dr 1 / 9 % 7):Nat):Int):=by omega
  refine ⟨_,rfl,(2:Nat),rfl,_,rfl,L,_,_,_,rfl,rfl,SqL.of (sX _ _ eL),y1,_,_,rfl,rfl,(show (0:Int)<9 by decide),_,_,rfl,rfl,_,_,rfl,rfl,?_,_,_,rfl,rfl,((2+2 * (1+dr 1 % 9):Nat):Int),congrArg V.int e1,L,_,rfl,SqL.of (sX _ _ eL),fun g hg=>?_⟩
  ·exact zcQ (by decide) (by omega)
  rw [zgm (by omega)]
  have sg:=zad (o:=.lst (vN ((row.drop 2).take (2 * (1+dr 1 % 9))))) hg
  refine ⟨g,_,1+dr 1 % 9,rfl,zab,by rw [XaW,Xa3];omega,by omega,by omega,(fun v hv=>hw v (Xbo (Xbp hv))),fun t CL ML cl Z ht hCL hML nCM et eC eM hlen hC hfr s2=>zjD et ?_⟩
  try dsimp only [zaE,List.set]
  have sZ:=sX.trans (sg.trans s2)
  refine ⟨_,rfl,(20:Nat),rfl,_,rfl,L,_,_,_,rfl,rfl,SqL.of (sZ _ _ eL),y1,_,_,rfl,rfl,⟨by decide,by decide +kernel⟩,_,_,rfl,rfl,(show (0:Int)<7 by decide),_,_,rfl,rfl,?_,_,_,rfl,rfl,((20+8 * (dr 1 / 9 % 7):Nat):Int),congrArg V.int e2,L,_,rfl,SqL.of (sZ _ _ eL),fun g2 hg2=>?_⟩
  ·exact zcQ (by decide) (by omega)
  rw [zgm (by omega)]
  have sg2:=zad (o:=.lst (vN ((row.drop 20).take (8 * (dr 1 / 9 % 7))))) hg2
  refine ⟨_,rfl,_,rfl,g2,ML,_,dr 1 / 9 % 7,m,cl,rfl,zab,by rw [XaW,Xa3];omega,by omega,(fun v hv=>hw v (Xbo (Xbp hv))),m1,m2,sg2 _ _ eM,by omega,by omega,hC.same sg2,fun R ws W hR hrf l6 s3=>?_⟩
  refine ⟨_,rfl,_,rfl,_,rfl,_,rfl,by show 4≤sizeLine;decide,fun t2 ht2=>?_⟩
  have sW:=sg2.trans s3
  have st:=zad (o:=.tup [.int (m:Int),.ref R,.ref CL,.ref ML]) ht2
  have sf:=sX.trans sg
  refine k t2 R CL ML m cl ws _ zab (Bo34.same ⟨m1,m2,hrf,l6,sW _ _ eC,sW _ _ eM,nCM,by omega,hC.same sW,fun c hc=>?_,sZ.trans sW⟩ st)
  obtain ⟨f1,f2,f3⟩:=hfr c hc
  exact ⟨sf.free f1,sf.free f2,f3⟩
abbrev zby:Stmt:=top 79
theorem sc_law_bad_row:FnScope ["rows","bits","models","r","mask","want","inner","chip","latch","top","way","more","odd","others","small"] ["rows","bits","models","r"] (zak zby):=sck rfl rfl rfl (by decide +kernel)
def BadD (D:Dt)(m:Nat)(d:Cb.D):Prop:=∀ r,d=zaI r→¬ (RwOk m r∧Fit D r)
inductive spBad32 (cs:Nat→Addr)(vs:List V)(H:Hp)(Q:VK)(u3_:XK):Prop
 | mk (R ML L CL:Addr) (m:Nat) (cl:List Cm) (ws:List (Addr×Rw)) (a b:Nat) (z0_:vs=[.ref R,.int (m:Int),.ref ML,.ref L]) (z1_:H L=some (.lst (vN [a,b]))) (z2_:a<2 ^ 31) (z3_:b<2 ^ 31) (z4_:ws≠[]) (z5_:1≤m) (z6_:m≤16) (z7_:RwsFor (dtC cl) m H R ws) (z8_:ws.length≤6) (z9_:H ML=some (.lst (cl.map fun c=>.ref c.m))) (z10_:cl.length≤9) (z11_:CMs cs H cl) (z12_:∀ (v:V) (d:Cb.D) (X:Hp),Same H X→Dv ML X v d→BadD (dtC cl) m d→Q v X)
theorem bad5 {D:Dt}{m:Nat}{dm dw di dc dl:Cb.D}(h:∀ r:Rw,dm = .int (r.m:Int)→dw = .int (r.w:Int)→di = .int (r.i:Int)→dc = .int (r.c:Int)→dl=zc2 r.l→RwOk m r→Fit D r→False):BadD D m (.tup [dm,dw,di,dc,dl]):=fun r e=>by
 unfold zaI at e
 simp only [Cb.D.tup.injEq,List.cons.injEq,and_true] at e
 exact fun g=>h r e.1 e.2.1 e.2.2.1 e.2.2.2.1 e.2.2.2.2 g.1 g.2
theorem dv5 {p a:Addr}{X:Hp}{v1 v2 v3 v4 v5:V}{d1 d2 d3 d4 d5:Cb.D}(e:X a=some (.tup [v1,v2,v3,v4,v5]))(n:a≠p)(h1:Dv p X v1 d1)(h2:Dv p X v2 d2)(h3:Dv p X v3 d3)(h4:Dv p X v4 d4)(h5:Dv p X v5 d5):Dv p X (.ref a) (.tup [d1,d2,d3,d4,d5]):=by
 refine .tup e n rfl fun i x d hx hd=>?_
 rcases (show i=0∨i=1∨i=2∨i=3∨i=4 by have:=(Xae.mp hx).1;simp at this;omega) with rfl | rfl | rfl | rfl | rfl <;> cases hx <;> cases hd <;> assumption
theorem end5 {H X:Hp}{ML q:Addr}{l:List V}{v1 v2 v3 v4 v5:V}{d1 d2 d3 d4 d5:Cb.D}(S:Same H X)(eM:H ML=some (.lst l))(hq:X q=none)(h1:Dv ML X v1 d1)(h2:Dv ML X v2 d2)(h3:Dv ML X v3 d3)(h4:Dv ML X v4 d4)(h5:Dv ML X v5 d5):Dv ML (upd X q (.tup [v1,v2,v3,v4,v5])) (.ref q) (.tup [d1,d2,d3,d4,d5]):=dv5 zab (Ne.symm (zah (S _ _ eM) hq)) (h1.same (zad hq)) (h2.same (zad hq)) (h3.same (zad hq)) (h4.same (zad hq)) (h5.same (zad hq))
theorem eqI (n:Nat)(k:Int):decide (V.int (n:Int)=V.int k)=decide ((n:Int)=k):=by simp only [V.int.injEq]
theorem zks {p:Addr}{l:List V}{X:Hp}{v:V}{q:Option (Nat×Nat×Nat)}(hF:X p=some (.lst l))(h:LatV X v q):Dv p X v (zc2 q):=zhR hF h
theorem zkn (b:Nat):∃ (v:V) (d:Cb.D),atI [V.int (-1),.int 100,.int ((2:Int) ^ ((63:Int)).toNat),.bl true,.non,.str "0"] ((b:Int) / 9 % 6)=some v∧(∀ p X,Dv p X v d)∧∀ c:Nat,c<100→d≠.int (c:Int):=by
 rw [show (b:Int) / 9 % 6=((b / 9 % 6:Nat):Int) by omega]
 have h:b / 9 % 6<6:=Xa0 _ (by decide)
 generalize b / 9 % 6=u at *
 have e63:(2:Int) ^ ((63:Int)).toNat=9223372036854775808:=by decide +kernel
 rw [e63]
 rcases (show u=0∨u=1∨u=2∨u=3∨u=4∨u=5 by omega) with rfl | rfl | rfl | rfl | rfl | rfl
 ·exact ⟨_,_,rfl,fun _ _=>.int _,fun c h e=>by have:=Cb.D.int.inj e;omega⟩
 ·exact ⟨_,_,rfl,fun _ _=>.int _,fun c h e=>by have:=Cb.D.int.inj e;omega⟩
 ·exact ⟨_,_,rfl,fun _ _=>.int _,fun c h e=>by have:=Cb.D.int.inj e;omega⟩
 ·exact ⟨_,_,rfl,fun _ _=>.bl _,fun c h e=>nomatch e⟩
 ·exact ⟨_,_,rfl,fun _ _=>.non,fun c h e=>nomatch e⟩
 ·exact ⟨_,_,rfl,fun _ _=>.str _,fun c h e=>nomatch e⟩
theorem zc7 {p a:Addr}{X:Hp}{i j k:Int}(e:X a=some (.tup [.int i,.int j,.int k]))(n:a≠p):Dv p X (.ref a) (.tup [.int i,.int j,.int k]):=by
 refine .tup e n rfl fun u x d hx hd=>?_
 rcases (show u=0∨u=1∨u=2 by have:=(Xae.mp hx).1;simp at this;omega) with rfl | rfl | rfl <;> cases hx <;> cases hd <;> exact .int _
theorem lat3 {o:Option (Nat×Nat×Nat)}{i j k:Int}(h:Cb.D.tup [.int i,.int j,.int k]=zc2 o)(hl:ziu o):∃ c a b:Nat,i=c∧j=a∧k=b∧o=some (c,a,b)∧c<100∧a<256∧b &&& a=b:=by
 cases o with
 | none=>cases h
 | some x =>
  obtain ⟨c,a,b⟩:=x
  have h:=Cb.D.tup.inj h
  injection h with h1 h
  injection h with h2 h
  injection h with h3 h
  exact ⟨c,a,b,Cb.D.int.inj h1,Cb.D.int.inj h2,Cb.D.int.inj h3,rfl,hl.1,hl.2.1,hl.2.2⟩
theorem zkk {p:Addr}{X:Hp}{z0 z1 z2 z3 z4 z5:Addr}{ch:Nat}(b:Nat)(c0:X z0=some (.tup []))(c1:X z1=some (.tup [.int (ch:Int)]))(c2:X z2=some (.lst [.int 0,.int 0,.int 0]))(c3:X z3=some (.tup [.int 0,.int 256,.int 0]))(c4:X z4=some (.tup [.int 0,.int 1,.int 2]))(c5:X z5=some (.tup [.int (-1),.int 0,.int 0]))(hp:∀ z∈[z0,z1,z2,z3,z4,z5],z≠p):∃ (v:V) (d:Cb.D),atI [V.ref z0,.ref z1,.ref z2,.int 0,.ref z3,.ref z4,.ref z5] ((b:Int) / 9 % 7)=some v∧Dv p X v d∧∀ o,d=zc2 o→ziu o→False:=by
 simp only [Xap,List.mem_nil_iff,or_false,forall_eq_or_imp,forall_eq] at hp
 obtain ⟨n0,n1,n2,n3,n4,n5⟩:=hp
 rw [show (b:Int) / 9 % 7=((b / 9 % 7:Nat):Int) by omega]
 have h:b / 9 % 7<7:=Xa0 _ (by decide)
 generalize b / 9 % 7=u at *
 rcases (show u=0∨u=1∨u=2∨u=3∨u=4∨u=5∨u=6 by omega) with rfl | rfl | rfl | rfl | rfl | rfl | rfl
 ·exact ⟨_,.tup [],rfl,.tup c0 n0 rfl fun i x d hx _=>(by simp at hx),fun o h _=>by cases o <;> cases h⟩
 ·refine ⟨_,.tup [.int (ch:Int)],rfl,.tup c1 n1 rfl fun i x d hx hd=>?_,fun o h _=>by cases o <;> cases h⟩
  obtain rfl:i=0:=by have:=(Xae.mp hx).1;simp at this;omega
  cases hx;cases hd;exact .int _
 ·exact ⟨_,_,rfl,.lst c2 n2,fun o h _=>by cases o <;> cases h⟩
 ·exact ⟨_,_,rfl,.int _,fun o h _=>by cases o <;> cases h⟩
 ·exact ⟨_,_,rfl,zc7 c3 n3,fun o h hl=>by obtain ⟨c,a,b,e1,e2,e3,_,h1,h2,h3⟩:=lat3 h hl;omega⟩
 ·refine ⟨_,_,rfl,zc7 c4 n4,fun o h hl=>?_⟩
  obtain ⟨c,a,b,e1,e2,e3,_,h1,h2,h3⟩:=lat3 h hl
  obtain rfl:a=1:=by omega
  obtain rfl:b=2:=by omega
  exact absurd h3 (by decide)
 ·exact ⟨_,_,rfl,zc7 c5 n5,fun o h hl=>by obtain ⟨c,a,b,e1,e2,e3,_,h1,h2,h3⟩:=lat3 h hl;omega⟩
theorem odd4 (b:Nat):∃ (v:V) (d:Cb.D),atI [V.int (-1),.bl true,.non,.str "1"] ((b:Int) / 9 % 4)=some v∧(∀ p X,Dv p X v d)∧∀ c:Nat,d≠.int (c:Int):=by
 rw [show (b:Int) / 9 % 4=((b / 9 % 4:Nat):Int) by omega]
 have h:b / 9 % 4<4:=Xa0 _ (by decide)
 generalize b / 9 % 4=u at *
 rcases (show u=0∨u=1∨u=2∨u=3 by omega) with rfl | rfl | rfl | rfl
 ·exact ⟨_,_,rfl,fun _ _=>.int _,fun c e=>by have:=Cb.D.int.inj e;omega⟩
 ·exact ⟨_,_,rfl,fun _ _=>.bl _,fun c e=>nomatch e⟩
 ·exact ⟨_,_,rfl,fun _ _=>.non,fun c e=>nomatch e⟩
 ·exact ⟨_,_,rfl,fun _ _=>.str _,fun c e=>nomatch e⟩
theorem ziU {cs:Nat→Addr}{H:Hp}{cl:List Cm}{ML:Addr}{Q:List V→Hp→Prop}(eM:H ML=some (.lst (cl.map fun c=>.ref c.m)))(hC:CMs cs H cl)(c9:cl.length≤9)(k:∀ l:List Nat,l.length≤9→(∀ x∈l,x<cl.length∧(cl.getD x dfCm).kd≠2)→Q (vN l) H) :
  zeA (Itr 0 cl.length) (zaE 0) (zhf (tOp rNe (tOp (rIxL K) (tOp (rIxL K) (tVar 1) (tVar 0)) (tC (.int 0))) (tC (.str "latch")))) (tVar 0) Q [none,some (.ref ML)] H:=by
 refine zbT (n:=cl.length) (fun j ys σ Y=>∃ (v0:Option V) (l:List Nat),σ=[v0,some (.ref ML)]∧ys=vN l∧l.length≤j∧(∀ x∈l,x<cl.length∧(cl.getD x dfCm).kd≠2)∧Y=H) (Xar c9 (by decide)) ⟨none,[],rfl,rfl,Xaf _,(fun x h=>nomatch h),rfl⟩ ?_ ?_ ?_
 ·rintro j ys σ Y ⟨_,l,_,rfl,hl,_⟩
  rw [zax];exact hl
 ·rintro j ys σ Y hj ⟨v0,l,rfl,rfl,hl,hx,rfl⟩
  rw [Int.zero_add]
  have okj:=hC.o _ (za6 hj).1
  have hat:atI (cl.map fun c=>V.ref c.m) (j:Int)=some (.ref (cl.getD j dfCm).m):=zbj (by rw [Xat,(za6 hj).2];rfl)
  have kn:decide (V.str (zbk (cl.getD j dfCm).kd)=V.str "latch")=decide ((cl.getD j dfCm).kd=2):=zbF (j:=2) okj.k.k5 (by decide)
  refine ⟨_,rfl,_,rfl,ML,_,_,_,rfl,rfl,SqL.of eM,hat,(cl.getD j dfCm).m,_,_,_,rfl,rfl,SqL.of okj.md.at_,rfl,rfl,_,rfl,?_⟩
  rw [kn]
  by_cases h2:(cl.getD j dfCm).kd=2
  ·rw [Xai h2]
   exact iteF ⟨_,l,rfl,rfl,by omega,hx,rfl⟩
  ·rw [Xag h2]
   refine iteT ⟨_,rfl,_,l ++ [j],rfl,by rw [zb2],by rw [Xaq];simp;omega,fun x h=>?_,rfl⟩
   rcases XaF.mp h with h | h
   ·exact hx x h
   ·obtain rfl:=Xab.mp h;exact ⟨hj,h2⟩
 ·rintro ys σ Y ⟨v0,l,rfl,rfl,hl,hx,rfl⟩
  exact k l (by omega) hx
theorem zgz {cs:Nat→Addr}{H:Hp}{cl:List Cm}{ML:Addr}{tp mk:Nat}{Q:List V→Hp→Prop}(eM:H ML=some (.lst (cl.map fun c=>.ref c.m)))(hC:CMs cs H cl)(c9:cl.length≤9)(ht:tp<2 ^ 16)(hm:mk≤tp)(k:∀ (l:List Nat) (X:Hp),l.length≤9→(∀ x∈l,x<cl.length∧ksize (cl.getD x dfCm).kd (cl.getD x dfCm).us<2 ^ ones (tp - mk))→Same H X→Q (vN l) X) :
  zeA (Itr 0 cl.length) (zaE 0) (zhf (tOp (rI0 fun i j=>V.bl (decide (i<j))) (zeD spSz34 [] E0 (ziy (tOp (rIxL K) (tVar 1) (tVar 0)) tNil)) (tOp (rI CPow fun i j=>V.int (i * 2 ^ j.toNat)) (tC (V.int 1)) (tCB (fun xs H Q=>∃ p ys,xs=[V.ref p]∧(SqL K H p ys∨SqT K H p ys)∧Q (V.int (ys.length:Int)) H) (ziy (zeD spOnesL [] E0 (ziy (tOp (rI0 fun i j=>V.int (i - j)) (tVar 2) (tVar 3)) tNil)) tNil))))) (tVar 0) Q [none,some (.ref ML),some (.int (tp:Int)),some (.int (mk:Int))] H:=by
 refine zbT (n:=cl.length) (fun j ys σ Y=>∃ (v0:Option V) (l:List Nat),σ=[v0,some (.ref ML),some (.int (tp:Int)),some (.int (mk:Int))]∧ys=vN l∧l.length≤j∧(∀ x∈l,x<cl.length∧ksize (cl.getD x dfCm).kd (cl.getD x dfCm).us<2 ^ ones (tp - mk))∧Same H Y) (Xar c9 (by decide)) ⟨none,[],rfl,rfl,Xaf _,(fun x h=>nomatch h),Same.refl _⟩ ?_ ?_ ?_
 ·rintro j ys σ Y ⟨_,l,_,rfl,hl,_⟩
  rw [zax];exact hl
 ·rintro j ys σ Y hj ⟨v0,l,rfl,rfl,hl,hx,sY⟩
  rw [Int.zero_add]
  have okj:=(hC.same sY).o _ (za6 hj).1
  have hat:atI (cl.map fun c=>V.ref c.m) (j:Int)=some (.ref (cl.getD j dfCm).m):=zbj (by rw [Xat,(za6 hj).2];rfl)
  have ed:(tp:Int) - (mk:Int)=((tp - mk:Nat):Int):=by omega
  have hb:ones (tp - mk)≤16:=zdr _ _ (Xaz (Nat.sub_le _ _) ht)
  refine ⟨_,rfl,_,rfl,ML,_,_,_,rfl,rfl,SqL.of (sY _ _ eM),hat,_,_,_,_,_,rfl,okj.md,okj.k.k5,_,rfl,_,rfl,_,_,rfl,rfl,tp - mk,congrArg (fun z=>[V.int z]) ed,Xaz (Nat.sub_le _ _) (Xbt ht (by decide)),fun p X hp ep s1=>⟨p,_,rfl,.inl (SqL.of ep),?_⟩⟩
  rw [zax,zbt]
  refine ⟨_,_,rfl,rfl,⟨by omega,by omega,by decide⟩,_,_,rfl,rfl,_,rfl,?_⟩
  rw [show (1:Int) * 2 ^ ((ones (tp - mk):Nat):Int).toNat=((2 ^ ones (tp - mk):Nat):Int) by rw [Int.one_mul,Xak];norm_cast]
  refine ite2 (fun h1=>?_) (fun h1=>⟨_,l,rfl,rfl,by omega,hx,sY.trans s1⟩)
  have h1:=XaO h1
  refine ⟨_,rfl,_,l ++ [j],rfl,by rw [zb2],by rw [Xaq];simp;omega,fun x h=>?_,sY.trans s1⟩
  rcases XaF.mp h with h | h
  ·exact hx x h
  ·obtain rfl:=Xab.mp h;exact ⟨hj,by omega⟩
 ·rintro ys σ Y ⟨v0,l,rfl,rfl,hl,hx,sY⟩
  exact k l Y (by omega) hx sY
theorem zdQ {f:Addr}{cs:Nat→Addr}{fd:FuncData}(F:Fun K "_law_bad_row" "_law_bad_row" zby f fd)(T:Blt mg)(G_law_size:Cal P w K mg base 1 "_law_size" ["model"] spSz34)(G_law_ones:Cal P w K mg base 1 "_law_ones" ["mask"] spOnesL):FnOk P w K mg base CX0 2 f fd ["rows","bits","models","r"] (spBad32 cs):=by
 refine F.ok sc_law_bad_row (by walk_at "l") (fun cdv A outer s H vs Q E hr h=>?_)
 ·obtain ⟨R,ML,L,CL,m,cl,ws,a,b,rfl,eL,ha,hb,hn,m1,m2,rf,l6,eM,c9,C,k⟩:=h
  refine ⟨_,(zaf (@zco _ _ _ _ _ _ (@pe_x _ _ _ _ _ _ _ zaB (@pv _ 0 _ _ (by rfl) (by walk_at "o") (by decide) (by decide)) (@zaj _ _ _ _ _ _ _ _ zaw (@pe_x _ _ _ _ _ _ _ zal (@pv _ 3 _ _ (by rfl) (by walk_at "o") (by decide) (by decide)) (@zac _ _ _ _) (by exact fun _ _=>rfl)) (@zao _ _ _ _ _ _ _ _ _ zam (by rfl) T.len PySem.boot_len (@zaa _ _ _ _ _ (@pv _ 0 _ _ (by rfl) (by walk_at "o") (by decide) (by decide)) (@zae _) (by rfl)) (by decide) (by decide) (by rfl) (by rfl))) (by exact fun _ _=>rfl)) (@zbO _ _ _ _ _ _ rfl (@zau _ _ _ _ _ (@zhA _ _ (4) _ sc_law_bad_row.nd rfl (Or.inr rfl) (by walk_at "p")) (@zau _ _ _ _ _ (@pg_L _ _ _ 5 sc_law_bad_row.nd (by rfl) (by exact Or.inl rfl) (by walk_at "p")) (@zau _ _ _ _ _ (@pg_L _ _ _ 6 sc_law_bad_row.nd (by rfl) (by exact Or.inl rfl) (by walk_at "p")) (@zau _ _ _ _ _ (@pg_L _ _ _ 7 sc_law_bad_row.nd (by rfl) (by exact Or.inl rfl) (by walk_at "p")) (@zau _ _ _ _ _ (@pg_L _ _ _ 8 sc_law_bad_row.nd (by rfl) (by exact Or.inl rfl) (by walk_at "p")) (@zbg _) (by rfl)) (by rfl)) (by rfl)) (by rfl)) (by rfl)) (by rfl) (by rfl)) (by rfl) (by rfl) (by rfl))
   (zaf (@zhv _ _ (9) _ _ _ _ sc_law_bad_row.nd rfl (Or.inr rfl) (@zaj _ _ _ _ _ _ _ _ za0 (@zaj _ _ _ _ _ _ _ _ zcP (@zac _ _ _ _) (@pv _ 1 _ _ (by rfl) (by walk_at "o") (by decide) (by decide))) (@zac _ _ _ _)) (by rfl) (by walk_at "p"))
   (zaf (@ps_L _ _ _ _ _ _ 10 sc_law_bad_row.nd (@zaj _ _ _ _ _ _ _ _ zaw (@pe_x _ _ _ _ _ _ _ zal (@pv _ 3 _ _ (by rfl) (by walk_at "o") (by decide) (by decide)) (@zac _ _ _ _) (by exact fun _ _=>rfl)) (@zac _ _ _ _)) (by rfl) (by exact Or.inl rfl) (by rfl) (by walk_at "p"))
   (zaf (@zaA _ _ _ _ _ _ _ _ (@zan _ _ _ _ _ _ _ _ zdP (@pv _ 10 _ _ (by rfl) (by walk_at "o") (by decide) (by decide)) (@zac _ _ _ _) (zar _)) (@zaf _ _ _ _ _ (@ps_L _ _ _ _ _ _ 11 sc_law_bad_row.nd (@zaq _ _ _ _ (@zaa _ _ _ _ _ (@zac _ _ _ _) (@zaa _ _ _ _ _ (@zac _ _ _ _) (@zaa _ _ _ _ _ (@zac _ _ _ _) (@zae _) (by rfl)) (by rfl)) (by rfl))) (by rfl) (by exact Or.inl rfl) (by rfl) (by walk_at "p")) (@zaf _ _ _ _ _ (@zco _ _ _ _ _ _ (@zaj _ _ _ _ _ _ _ _ zaH (@pv _ 9 _ _ (by rfl) (by walk_at "o") (by decide) (by decide)) (@zac _ _ _ _)) (@pg_sub _ _ _ _ _ _ _ (@pv _ 11 _ _ (by rfl) (by walk_at "o") (by decide) (by decide)) (@pv _ 10 _ _ (by rfl) (by walk_at "o") (by decide) (by decide)) ziB (by intro _;rfl)) (by rfl) (by rfl) (by rfl)) (@zag _ _ _ (@zas _ _ _ _ (@zav _ _ _ _ _ (@zaa _ _ _ _ _ (@zaj _ _ _ _ _ _ _ _ zaH (@pv _ 4 _ _ (by rfl) (by walk_at "o") (by decide) (by decide)) (@pe_x _ _ _ _ _ _ _ zal (@pv _ 11 _ _ (by rfl) (by walk_at "o") (by decide) (by decide)) (@zac _ _ _ _) (by exact fun _ _=>rfl))) (@zaa _ _ _ _ _ (@zaj _ _ _ _ _ _ _ _ zaH (@pv _ 5 _ _ (by rfl) (by walk_at "o") (by decide) (by decide)) (@pe_x _ _ _ _ _ _ _ zal (@pv _ 11 _ _ (by rfl) (by walk_at "o") (by decide) (by decide)) (@zac _ _ _ _) (by exact fun _ _=>rfl))) (@zaa _ _ _ _ _ (@zaj _ _ _ _ _ _ _ _ zaH (@pv _ 6 _ _ (by rfl) (by walk_at "o") (by decide) (by decide)) (@pe_x _ _ _ _ _ _ _ zal (@pv _ 11 _ _ (by rfl) (by walk_at "o") (by decide) (by decide)) (@zac _ _ _ _) (by exact fun _ _=>rfl))) (@zaa _ _ _ _ _ (@pv _ 7 _ _ (by rfl) (by walk_at "o") (by decide) (by decide)) (@zaa _ _ _ _ _ (@pv _ 8 _ _ (by rfl) (by walk_at "o") (by decide) (by decide)) (@zae _) (by rfl)) (by rfl)) (by rfl)) (by rfl)) (by rfl))))))) (@zap _))
   (zaf (@zaA _ _ _ _ _ _ _ _ (@zan _ _ _ _ _ _ _ _ za8 (@pv _ 10 _ _ (by rfl) (by walk_at "o") (by decide) (by decide)) (@zac _ _ _ _) (zar _)) (@zag _ _ _ (@zas _ _ _ _ (@zav _ _ _ _ _ (@zaa _ _ _ _ _ (@zaj _ _ _ _ _ _ _ _ zaU (@pv _ 4 _ _ (by rfl) (by walk_at "o") (by decide) (by decide)) (@zaj _ _ _ _ _ _ _ _ za0 (@pv _ 9 _ _ (by rfl) (by walk_at "o") (by decide) (by decide)) (@zac _ _ _ _))) (@zaa _ _ _ _ _ (@zaj _ _ _ _ _ _ _ _ zgG (@pv _ 5 _ _ (by rfl) (by walk_at "o") (by decide) (by decide)) (@zac _ _ _ _)) (@zaa _ _ _ _ _ (@zaj _ _ _ _ _ _ _ _ zaU (@pv _ 6 _ _ (by rfl) (by walk_at "o") (by decide) (by decide)) (@zaj _ _ _ _ _ _ _ _ za0 (@pv _ 9 _ _ (by rfl) (by walk_at "o") (by decide) (by decide)) (@zac _ _ _ _))) (@zaa _ _ _ _ _ (@pv _ 7 _ _ (by rfl) (by walk_at "o") (by decide) (by decide)) (@zaa _ _ _ _ _ (@pv _ 8 _ _ (by rfl) (by walk_at "o") (by decide) (by decide)) (@zae _) (by rfl)) (by rfl)) (by rfl)) (by rfl)) (by rfl))))) (@zap _))
   (zaf (@zaA _ _ _ _ _ _ _ _ (@zan _ _ _ _ _ _ _ _ za8 (@pv _ 10 _ _ (by rfl) (by walk_at "o") (by decide) (by decide)) (@zac _ _ _ _) (zar _)) (@zag _ _ _ (@zas _ _ _ _ (@zav _ _ _ _ _ (@zaa _ _ _ _ _ (@zaj _ _ _ _ _ _ _ _ zgG (@pv _ 4 _ _ (by rfl) (by walk_at "o") (by decide) (by decide)) (@zac _ _ _ _)) (@zaa _ _ _ _ _ (@pv _ 5 _ _ (by rfl) (by walk_at "o") (by decide) (by decide)) (@zaa _ _ _ _ _ (@zaj _ _ _ _ _ _ _ _ zgG (@pv _ 6 _ _ (by rfl) (by walk_at "o") (by decide) (by decide)) (@zac _ _ _ _)) (@zaa _ _ _ _ _ (@pv _ 7 _ _ (by rfl) (by walk_at "o") (by decide) (by decide)) (@zaa _ _ _ _ _ (@pv _ 8 _ _ (by rfl) (by walk_at "o") (by decide) (by decide)) (@zae _) (by rfl)) (by rfl)) (by rfl)) (by rfl)) (by rfl))))) (@zap _))
   (zaf (@zaA _ _ _ _ _ _ _ _ (@zan _ _ _ _ _ _ _ _ za8 (@pv _ 10 _ _ (by rfl) (by walk_at "o") (by decide) (by decide)) (@zac _ _ _ _) (zar _)) (@zag _ _ _ (@zas _ _ _ _ (@zav _ _ _ _ _ (@zaa _ _ _ _ _ (@pv _ 4 _ _ (by rfl) (by walk_at "o") (by decide) (by decide)) (@zaa _ _ _ _ _ (@pv _ 5 _ _ (by rfl) (by walk_at "o") (by decide) (by decide)) (@zaa _ _ _ _ _ (@pv _ 6 _ _ (by rfl) (by walk_at "o") (by decide) (by decide)) (@zaa _ _ _ _ _ (@pe_x _ _ _ _ _ _ _ zal (@zaq _ _ _ _ (@zaa _ _ _ _ _ (@zeh _ _ _ _ _ _ zcl (@zac _ _ _ _)) (@zaa _ _ _ _ _ (@zac _ _ _ _) (@zaa _ _ _ _ _ (@zaj _ _ _ _ _ _ _ _ zdo (@zac _ _ _ _) (@zac _ _ _ _)) (@zaa _ _ _ _ _ (@zaZ _ _ _ _) (@zaa _ _ _ _ _ (@za5 _ _ _) (@zaa _ _ _ _ _ (@zaC _ _ _ _) (@zae _) (by rfl)) (by rfl)) (by rfl)) (by rfl)) (by rfl)) (by rfl))) (@zaj _ _ _ _ _ _ _ _ zaw (@zaj _ _ _ _ _ _ _ _ zay (@pe_x _ _ _ _ _ _ _ zal (@pv _ 3 _ _ (by rfl) (by walk_at "o") (by decide) (by decide)) (@zac _ _ _ _) (by exact fun _ _=>rfl)) (@zac _ _ _ _)) (@zac _ _ _ _)) (by exact fun _ _=>rfl)) (@zaa _ _ _ _ _ (@pv _ 8 _ _ (by rfl) (by walk_at "o") (by decide) (by decide)) (@zae _) (by rfl)) (by rfl)) (by rfl)) (by rfl)) (by rfl))))) (@zap _))
   (zaf (@zaA _ _ _ _ _ _ _ _ (@PW.pt _ _ _ (@zbN _ _ _ _ _ _ _ (@zan _ _ _ _ _ _ _ _ za8 (@pv _ 10 _ _ (by rfl) (by walk_at "o") (by decide) (by decide)) (@zac _ _ _ _) (zar _)) (@zbm _ _ _ _ (@zan _ _ _ _ _ _ _ _ za8 (@pv _ 10 _ _ (by rfl) (by walk_at "o") (by decide) (by decide)) (@zac _ _ _ _) (zar _))))) (@zag _ _ _ (@zas _ _ _ _ (@pe_x _ _ _ _ _ _ _ zal (@zaq _ _ _ _ (@zaa _ _ _ _ _ (@zav _ _ _ _ _ (@zaa _ _ _ _ _ (@pv _ 4 _ _ (by rfl) (by walk_at "o") (by decide) (by decide)) (@zaa _ _ _ _ _ (@pv _ 5 _ _ (by rfl) (by walk_at "o") (by decide) (by decide)) (@zaa _ _ _ _ _ (@pv _ 6 _ _ (by rfl) (by walk_at "o") (by decide) (by decide)) (@zaa _ _ _ _ _ (@zaj _ _ _ _ _ _ _ _ zaH (@zao _ _ _ _ _ _ _ _ _ zam (by rfl) T.len PySem.boot_len (@zaa _ _ _ _ _ (@pv _ 2 _ _ (by rfl) (by walk_at "o") (by decide) (by decide)) (@zae _) (by rfl)) (by decide) (by decide) (by rfl) (by rfl)) (@zaj _ _ _ _ _ _ _ _ zaw (@zaj _ _ _ _ _ _ _ _ zay (@pe_x _ _ _ _ _ _ _ zal (@pv _ 3 _ _ (by rfl) (by walk_at "o") (by decide) (by decide)) (@zac _ _ _ _) (by exact fun _ _=>rfl)) (@zac _ _ _ _)) (@zac _ _ _ _))) (@zaa _ _ _ _ _ (@pv _ 8 _ _ (by rfl) (by walk_at "o") (by decide) (by decide)) (@zae _) (by rfl)) (by rfl)) (by rfl)) (by rfl)) (by rfl))) (@zaa _ _ _ _ _ (@zaq _ _ _ _ (@zaa _ _ _ _ _ (@pv _ 4 _ _ (by rfl) (by walk_at "o") (by decide) (by decide)) (@zaa _ _ _ _ _ (@pv _ 5 _ _ (by rfl) (by walk_at "o") (by decide) (by decide)) (@zaa _ _ _ _ _ (@pv _ 6 _ _ (by rfl) (by walk_at "o") (by decide) (by decide)) (@zaa _ _ _ _ _ (@pv _ 7 _ _ (by rfl) (by walk_at "o") (by decide) (by decide)) (@zaa _ _ _ _ _ (@pv _ 8 _ _ (by rfl) (by walk_at "o") (by decide) (by decide)) (@zae _) (by rfl)) (by rfl)) (by rfl)) (by rfl)) (by rfl))) (@zae _) (by rfl)) (by rfl))) (@zaj _ _ _ _ _ _ _ _ za0 (@pv _ 10 _ _ (by rfl) (by walk_at "o") (by decide) (by decide)) (@zac _ _ _ _)) (by exact fun _ _=>rfl)))) (@zap _))
   (zaf (@zaA _ _ _ _ _ _ _ _ (@zan _ _ _ _ _ _ _ _ za8 (@pv _ 10 _ _ (by rfl) (by walk_at "o") (by decide) (by decide)) (@zac _ _ _ _) (zar _)) (@zag _ _ _ (@zas _ _ _ _ (@pe_x _ _ _ _ _ _ _ zal (@zaq _ _ _ _ (@zaa _ _ _ _ _ (@za5 _ _ _) (@zaa _ _ _ _ _ (@pv _ 4 _ _ (by rfl) (by walk_at "o") (by decide) (by decide)) (@zaa _ _ _ _ _ (@zav _ _ _ _ _ (@zae _)) (@zaa _ _ _ _ _ (@zav _ _ _ _ _ (@zaa _ _ _ _ _ (@pv _ 4 _ _ (by rfl) (by walk_at "o") (by decide) (by decide)) (@zaa _ _ _ _ _ (@pv _ 5 _ _ (by rfl) (by walk_at "o") (by decide) (by decide)) (@zaa _ _ _ _ _ (@pv _ 6 _ _ (by rfl) (by walk_at "o") (by decide) (by decide)) (@zaa _ _ _ _ _ (@pv _ 7 _ _ (by rfl) (by walk_at "o") (by decide) (by decide)) (@zae _) (by rfl)) (by rfl)) (by rfl)) (by rfl))) (@zaa _ _ _ _ _ (@zav _ _ _ _ _ (@zaa _ _ _ _ _ (@pv _ 4 _ _ (by rfl) (by walk_at "o") (by decide) (by decide)) (@zaa _ _ _ _ _ (@pv _ 5 _ _ (by rfl) (by walk_at "o") (by decide) (by decide)) (@zaa _ _ _ _ _ (@pv _ 6 _ _ (by rfl) (by walk_at "o") (by decide) (by decide)) (@zaa _ _ _ _ _ (@pv _ 7 _ _ (by rfl) (by walk_at "o") (by decide) (by decide)) (@zaa _ _ _ _ _ (@pv _ 8 _ _ (by rfl) (by walk_at "o") (by decide) (by decide)) (@zaa _ _ _ _ _ (@za5 _ _ _) (@zae _) (by rfl)) (by rfl)) (by rfl)) (by rfl)) (by rfl)) (by rfl))) (@zaa _ _ _ _ _ (@zaC _ _ _ _) (@zae _) (by rfl)) (by rfl)) (by rfl)) (by rfl)) (by rfl)) (by rfl))) (@zaj _ _ _ _ _ _ _ _ zaw (@zaj _ _ _ _ _ _ _ _ zay (@pe_x _ _ _ _ _ _ _ zal (@pv _ 3 _ _ (by rfl) (by walk_at "o") (by decide) (by decide)) (@zac _ _ _ _) (by exact fun _ _=>rfl)) (@zac _ _ _ _)) (@zac _ _ _ _)) (by exact fun _ _=>rfl)))) (@zap _))
   (zaf (@zaA _ _ _ _ _ _ _ _ (@zan _ _ _ _ _ _ _ _ za8 (@pv _ 10 _ _ (by rfl) (by walk_at "o") (by decide) (by decide)) (@zac _ _ _ _) (zar _)) (@zag _ _ _ (@zas _ _ _ _ (@zav _ _ _ _ _ (@zaa _ _ _ _ _ (@pv _ 4 _ _ (by rfl) (by walk_at "o") (by decide) (by decide)) (@zaa _ _ _ _ _ (@pv _ 5 _ _ (by rfl) (by walk_at "o") (by decide) (by decide)) (@zaa _ _ _ _ _ (@pv _ 6 _ _ (by rfl) (by walk_at "o") (by decide) (by decide)) (@zaa _ _ _ _ _ (@pv _ 7 _ _ (by rfl) (by walk_at "o") (by decide) (by decide)) (@zaa _ _ _ _ _ (@pe_x _ _ _ _ _ _ _ zal (@zaq _ _ _ _ (@zaa _ _ _ _ _ (@zav _ _ _ _ _ (@zae _)) (@zaa _ _ _ _ _ (@zav _ _ _ _ _ (@zaa _ _ _ _ _ (@pv _ 7 _ _ (by rfl) (by walk_at "o") (by decide) (by decide)) (@zae _) (by rfl))) (@zaa _ _ _ _ _ (@zaq _ _ _ _ (@zaa _ _ _ _ _ (@zac _ _ _ _) (@zaa _ _ _ _ _ (@zac _ _ _ _) (@zaa _ _ _ _ _ (@zac _ _ _ _) (@zae _) (by rfl)) (by rfl)) (by rfl))) (@zaa _ _ _ _ _ (@zac _ _ _ _) (@zaa _ _ _ _ _ (@zav _ _ _ _ _ (@zaa _ _ _ _ _ (@zac _ _ _ _) (@zaa _ _ _ _ _ (@zac _ _ _ _) (@zaa _ _ _ _ _ (@zac _ _ _ _) (@zae _) (by rfl)) (by rfl)) (by rfl))) (@zaa _ _ _ _ _ (@zav _ _ _ _ _ (@zaa _ _ _ _ _ (@zac _ _ _ _) (@zaa _ _ _ _ _ (@zac _ _ _ _) (@zaa _ _ _ _ _ (@zac _ _ _ _) (@zae _) (by rfl)) (by rfl)) (by rfl))) (@zaa _ _ _ _ _ (@zav _ _ _ _ _ (@zaa _ _ _ _ _ (@zeh _ _ _ _ _ _ zcl (@zac _ _ _ _)) (@zaa _ _ _ _ _ (@zac _ _ _ _) (@zaa _ _ _ _ _ (@zac _ _ _ _) (@zae _) (by rfl)) (by rfl)) (by rfl))) (@zae _) (by rfl)) (by rfl)) (by rfl)) (by rfl)) (by rfl)) (by rfl)) (by rfl))) (@zaj _ _ _ _ _ _ _ _ zaw (@zaj _ _ _ _ _ _ _ _ zay (@pe_x _ _ _ _ _ _ _ zal (@pv _ 3 _ _ (by rfl) (by walk_at "o") (by decide) (by decide)) (@zac _ _ _ _) (by exact fun _ _=>rfl)) (@zac _ _ _ _)) (@zac _ _ _ _)) (by exact fun _ _=>rfl)) (@zae _) (by rfl)) (by rfl)) (by rfl)) (by rfl)) (by rfl))))) (@zap _))
   (zaf (@zaA _ _ _ _ _ _ _ _ (@zan _ _ _ _ _ _ _ _ za8 (@pv _ 10 _ _ (by rfl) (by walk_at "o") (by decide) (by decide)) (@zac _ _ _ _) (zar _)) (@zag _ _ _ (@zas _ _ _ _ (@zav _ _ _ _ _ (@zaa _ _ _ _ _ (@pv _ 4 _ _ (by rfl) (by walk_at "o") (by decide) (by decide)) (@zaa _ _ _ _ _ (@pv _ 5 _ _ (by rfl) (by walk_at "o") (by decide) (by decide)) (@zaa _ _ _ _ _ (@pv _ 6 _ _ (by rfl) (by walk_at "o") (by decide) (by decide)) (@zaa _ _ _ _ _ (@pv _ 7 _ _ (by rfl) (by walk_at "o") (by decide) (by decide)) (@zaa _ _ _ _ _ (@zav _ _ _ _ _ (@zaa _ _ _ _ _ (@zaj _ _ _ _ _ _ _ _ zaH (@zao _ _ _ _ _ _ _ _ _ zam (by rfl) T.len PySem.boot_len (@zaa _ _ _ _ _ (@pv _ 2 _ _ (by rfl) (by walk_at "o") (by decide) (by decide)) (@zae _) (by rfl)) (by decide) (by decide) (by rfl) (by rfl)) (@zaj _ _ _ _ _ _ _ _ zaw (@zaj _ _ _ _ _ _ _ _ zay (@pe_x _ _ _ _ _ _ _ zal (@pv _ 3 _ _ (by rfl) (by walk_at "o") (by decide) (by decide)) (@zac _ _ _ _) (by exact fun _ _=>rfl)) (@zac _ _ _ _)) (@zac _ _ _ _))) (@zaa _ _ _ _ _ (@zac _ _ _ _) (@zaa _ _ _ _ _ (@zac _ _ _ _) (@zae _) (by rfl)) (by rfl)) (by rfl))) (@zae _) (by rfl)) (by rfl)) (by rfl)) (by rfl)) (by rfl))))) (@zap _))
   (zaf (@zaA _ _ _ _ _ _ _ _ (@zan _ _ _ _ _ _ _ _ zdP (@pv _ 10 _ _ (by rfl) (by walk_at "o") (by decide) (by decide)) (@zac _ _ _ _) (zar _)) (@zaf _ _ _ _ _ (@ps_L _ _ _ _ _ _ 12 sc_law_bad_row.nd (@pe_x _ _ _ _ _ _ _ zal (@zaq _ _ _ _ (@zaa _ _ _ _ _ (@zeh _ _ _ _ _ _ zcl (@zac _ _ _ _)) (@zaa _ _ _ _ _ (@zaZ _ _ _ _) (@zaa _ _ _ _ _ (@za5 _ _ _) (@zaa _ _ _ _ _ (@zaC _ _ _ _) (@zae _) (by rfl)) (by rfl)) (by rfl)) (by rfl))) (@zaj _ _ _ _ _ _ _ _ zaw (@zaj _ _ _ _ _ _ _ _ zay (@pe_x _ _ _ _ _ _ _ zal (@pv _ 3 _ _ (by rfl) (by walk_at "o") (by decide) (by decide)) (@zac _ _ _ _) (by exact fun _ _=>rfl)) (@zac _ _ _ _)) (@zac _ _ _ _)) (by exact fun _ _=>rfl)) (by rfl) (by exact Or.inl rfl) (by rfl) (by walk_at "p")) (@zag _ _ _ (@zas _ _ _ _ (@pe_x _ _ _ _ _ _ _ zal (@zaq _ _ _ _ (@zaa _ _ _ _ _ (@zav _ _ _ _ _ (@zaa _ _ _ _ _ (@pv _ 12 _ _ (by rfl) (by walk_at "o") (by decide) (by decide)) (@zaa _ _ _ _ _ (@pv _ 5 _ _ (by rfl) (by walk_at "o") (by decide) (by decide)) (@zaa _ _ _ _ _ (@pv _ 6 _ _ (by rfl) (by walk_at "o") (by decide) (by decide)) (@zaa _ _ _ _ _ (@pv _ 7 _ _ (by rfl) (by walk_at "o") (by decide) (by decide)) (@zaa _ _ _ _ _ (@pv _ 8 _ _ (by rfl) (by walk_at "o") (by decide) (by decide)) (@zae _) (by rfl)) (by rfl)) (by rfl)) (by rfl)) (by rfl))) (@zaa _ _ _ _ _ (@zav _ _ _ _ _ (@zaa _ _ _ _ _ (@pv _ 4 _ _ (by rfl) (by walk_at "o") (by decide) (by decide)) (@zaa _ _ _ _ _ (@pv _ 12 _ _ (by rfl) (by walk_at "o") (by decide) (by decide)) (@zaa _ _ _ _ _ (@pv _ 6 _ _ (by rfl) (by walk_at "o") (by decide) (by decide)) (@zaa _ _ _ _ _ (@pv _ 7 _ _ (by rfl) (by walk_at "o") (by decide) (by decide)) (@zaa _ _ _ _ _ (@pv _ 8 _ _ (by rfl) (by walk_at "o") (by decide) (by decide)) (@zae _) (by rfl)) (by rfl)) (by rfl)) (by rfl)) (by rfl))) (@zae _) (by rfl)) (by rfl))) (@zaj _ _ _ _ _ _ _ _ za0 (@pv _ 10 _ _ (by rfl) (by walk_at "o") (by decide) (by decide)) (@zac _ _ _ _)) (by exact fun _ _=>rfl))))) (@zap _))
   (zaf (@zbu _ (["k","models"]) _ _ _ _ _ _ _ _ _ _ (13) _ _ _ [none,some 2] sc_law_bad_row.nd rfl rfl rfl (zaM (by rfl)) (@zbv _ _ _ _ _ _ rfl T.range (@zaa _ _ _ _ _ (@zao _ _ _ _ _ _ _ _ _ zam (by rfl) T.len PySem.boot_len (@zaa _ _ _ _ _ (@pv _ 2 _ _ (by rfl) (by walk_at "o") (by decide) (by decide)) (@zae _) (by rfl)) (by decide) (by decide) (by rfl) (by rfl)) (@zae _) (by rfl)) (by rfl)) (fun _ _ _ _ _=>(@pg_L _ _ _ 0 (show (["k","models"]:List Str).Nodup by decide +kernel) (by rfl) (by exact Or.inl rfl) (by walk_at "p"))) (fun _ _ _ _ _=>(@zeR _ _ _ (@zan _ _ _ _ _ _ _ _ zhH (@pe_x _ _ _ _ _ _ _ (zcq (K:=K) rfl) (@pe_x _ _ _ _ _ _ _ (zcq (K:=K) rfl) (@pv _ 1 _ _ (by rfl) (by walk_at "o") (by decide) (by decide)) (@pv _ 0 _ _ (by rfl) (by walk_at "o") (by decide) (by decide)) (by exact fun _ _=>rfl)) (@zac _ _ _ _) (by exact fun _ _=>rfl)) (@zaC _ _ _ _) (zar _)))) (fun _ _ _ _ _=>(@pv _ 0 _ _ (by rfl) (by walk_at "o") (by decide) (by decide))) (by rfl) (by intro _;rfl))
   (zaf (@zaA _ _ _ _ _ _ _ _ (@PW.pt _ _ _ (@zeN _ _ _ _ _ _ _ (@zan _ _ _ _ _ _ _ _ zdP (@pv _ 10 _ _ (by rfl) (by walk_at "o") (by decide) (by decide)) (@zac _ _ _ _) (zar _)) (@zee _ _ _ _ (@zan _ _ _ _ _ _ _ _ (zem (XaP (zcf hr)) (K:=K) rfl) (@pv _ 13 _ _ (by rfl) (by walk_at "o") (by decide) (by decide)) (@zaq _ _ _ _ (@zae _)) (zar _))))) (@zag _ _ _ (@zas _ _ _ _ (@zav _ _ _ _ _ (@zaa _ _ _ _ _ (@pv _ 4 _ _ (by rfl) (by walk_at "o") (by decide) (by decide)) (@zaa _ _ _ _ _ (@pv _ 5 _ _ (by rfl) (by walk_at "o") (by decide) (by decide)) (@zaa _ _ _ _ _ (@pv _ 6 _ _ (by rfl) (by walk_at "o") (by decide) (by decide)) (@zaa _ _ _ _ _ (@pv _ 7 _ _ (by rfl) (by walk_at "o") (by decide) (by decide)) (@zaa _ _ _ _ _ (@zav _ _ _ _ _ (@zaa _ _ _ _ _ (@pe_x _ _ _ _ _ _ _ zal (@pv _ 13 _ _ (by rfl) (by walk_at "o") (by decide) (by decide)) (@zaj _ _ _ _ _ _ _ _ zaw (@zaj _ _ _ _ _ _ _ _ zay (@pe_x _ _ _ _ _ _ _ zal (@pv _ 3 _ _ (by rfl) (by walk_at "o") (by decide) (by decide)) (@zac _ _ _ _) (by exact fun _ _=>rfl)) (@zac _ _ _ _)) (@zao _ _ _ _ _ _ _ _ _ zam (by rfl) T.len PySem.boot_len (@zaa _ _ _ _ _ (@pv _ 13 _ _ (by rfl) (by walk_at "o") (by decide) (by decide)) (@zae _) (by rfl)) (by decide) (by decide) (by rfl) (by rfl))) (by exact fun _ _=>rfl)) (@zaa _ _ _ _ _ (@zac _ _ _ _) (@zaa _ _ _ _ _ (@zac _ _ _ _) (@zae _) (by rfl)) (by rfl)) (by rfl))) (@zae _) (by rfl)) (by rfl)) (by rfl)) (by rfl)) (by rfl))))) (@zap _))
   (zaf (@zbu _ (["k","models","top","mask"]) _ _ _ _ _ _ _ _ _ _ (14) _ _ _ [none,some 2,some 9,some 4] sc_law_bad_row.nd rfl rfl rfl (zaM (by rfl)) (@zbv _ _ _ _ _ _ rfl T.range (@zaa _ _ _ _ _ (@zao _ _ _ _ _ _ _ _ _ zam (by rfl) T.len PySem.boot_len (@zaa _ _ _ _ _ (@pv _ 2 _ _ (by rfl) (by walk_at "o") (by decide) (by decide)) (@zae _) (by rfl)) (by decide) (by decide) (by rfl) (by rfl)) (@zae _) (by rfl)) (by rfl)) (fun _ _ _ _ _=>(@pg_L _ _ _ 0 (show (["k","models","top","mask"]:List Str).Nodup by decide +kernel) (by rfl) (by exact Or.inl rfl) (by walk_at "p"))) (fun _ _ _ _ _=>(@zeR _ _ _ (@zan _ _ _ _ _ _ _ _ zdP (@pe_c _ _ _ _ _ _ _ _ _ _ G_law_size (@zaa _ _ _ _ _ (@pe_x _ _ _ _ _ _ _ (zcq (K:=K) rfl) (@pv _ 1 _ _ (by rfl) (by walk_at "o") (by decide) (by decide)) (@pv _ 0 _ _ (by rfl) (by walk_at "o") (by decide) (by decide)) (by exact fun _ _=>rfl)) (@zae _) (by rfl)) (by exact hrm ( by assumption )) (by rfl) (by decide) (by rfl) (by rfl)) (@zaj _ _ _ _ _ _ _ _ zcP (@zac _ _ _ _) (@zao _ _ _ _ _ _ _ _ _ (zih (K:=K) rfl) (by rfl) T.len PySem.boot_len (@zaa _ _ _ _ _ (@pe_c _ _ _ _ _ _ _ _ _ _ G_law_ones (@zaa _ _ _ _ _ (@zaj _ _ _ _ _ _ _ _ za0 (@pv _ 2 _ _ (by rfl) (by walk_at "o") (by decide) (by decide)) (@pv _ 3 _ _ (by rfl) (by walk_at "o") (by decide) (by decide))) (@zae _) (by rfl)) (by exact hrm ( by assumption )) (by rfl) (by decide) (by rfl) (by rfl)) (@zae _) (by rfl)) (by decide) (by decide) (by rfl) (by rfl))) (zar _)))) (fun _ _ _ _ _=>(@pv _ 0 _ _ (by rfl) (by walk_at "o") (by decide) (by decide))) (by rfl) (by intro _;rfl))
   (zaf (@zaA _ _ _ _ _ _ _ _ (@zan _ _ _ _ _ _ _ _ (zem (XaP (zcf hr)) (K:=K) rfl) (@pv _ 14 _ _ (by rfl) (by walk_at "o") (by decide) (by decide)) (@zaq _ _ _ _ (@zae _)) (zar _)) (@zag _ _ _ (@zas _ _ _ _ (@zav _ _ _ _ _ (@zaa _ _ _ _ _ (@pv _ 4 _ _ (by rfl) (by walk_at "o") (by decide) (by decide)) (@zaa _ _ _ _ _ (@pv _ 5 _ _ (by rfl) (by walk_at "o") (by decide) (by decide)) (@zaa _ _ _ _ _ (@zaj _ _ _ _ _ _ _ _ za0 (@pv _ 9 _ _ (by rfl) (by walk_at "o") (by decide) (by decide)) (@pv _ 4 _ _ (by rfl) (by walk_at "o") (by decide) (by decide))) (@zaa _ _ _ _ _ (@pe_x _ _ _ _ _ _ _ zal (@pv _ 14 _ _ (by rfl) (by walk_at "o") (by decide) (by decide)) (@zaj _ _ _ _ _ _ _ _ zaw (@zaj _ _ _ _ _ _ _ _ zay (@pe_x _ _ _ _ _ _ _ zal (@pv _ 3 _ _ (by rfl) (by walk_at "o") (by decide) (by decide)) (@zac _ _ _ _) (by exact fun _ _=>rfl)) (@zac _ _ _ _)) (@zao _ _ _ _ _ _ _ _ _ zam (by rfl) T.len PySem.boot_len (@zaa _ _ _ _ _ (@pv _ 14 _ _ (by rfl) (by walk_at "o") (by decide) (by decide)) (@zae _) (by rfl)) (by decide) (by decide) (by rfl) (by rfl))) (by exact fun _ _=>rfl)) (@zaa _ _ _ _ _ (@pv _ 8 _ _ (by rfl) (by walk_at "o") (by decide) (by decide)) (@zae _) (by rfl)) (by rfl)) (by rfl)) (by rfl)) (by rfl))))) (@zap _))
   (zag (@zas _ _ _ _ (@zav _ _ _ _ _ (@zaa _ _ _ _ _ (@pv _ 4 _ _ (by rfl) (by walk_at "o") (by decide) (by decide)) (@zaa _ _ _ _ _ (@pv _ 5 _ _ (by rfl) (by walk_at "o") (by decide) (by decide)) (@zaa _ _ _ _ _ (@zeh _ _ _ _ _ _ zcl (@zac _ _ _ _)) (@zaa _ _ _ _ _ (@pv _ 7 _ _ (by rfl) (by walk_at "o") (by decide) (by decide)) (@zaa _ _ _ _ _ (@pv _ 8 _ _ (by rfl) (by walk_at "o") (by decide) (by decide)) (@zae _) (by rfl)) (by rfl)) (by rfl)) (by rfl)) (by rfl))))))))))))))))))))),?rd⟩
  have l0:0<ws.length:=List.length_pos_iff.mpr hn
  have i0:SqL K H L (vN [a,b]):=SqL.of eL
  have y0:atI (vN [a,b]) 0=some (.int (a:Int)):=rfl
  have y1:atI (vN [a,b]) 1=some (.int (b:Int)):=rfl
  have hlt:=Xa0 b l0
  obtain ⟨z,hz⟩:∃ z,ws[b % ws.length]? = some z:=⟨_,Xau hlt⟩
  have hat:atI (refs ws) ((b:Int) % ((refs ws).length:Int))=some (.ref z.1):=by
   rw [zat,← Int.natCast_emod]
   exact zbj (zj4 hz)
  have mz:=XaB hz
  obtain ⟨⟨lv,et,hlv⟩,ok⟩:=rf.r z mz
  have hfit:=rf.f z mz
  have dl:=zks eM hlv
  obtain ⟨t,⟨mk,wt,iN,ch,lt⟩⟩:=z
  dsimp only at et hlv ok hfit dl hat
  have o0:=ok.m0;have o1:=ok.w0;have o2:=ok.i0;have o3:=ok.c0;have o4:=ok.wm;have o5:=ok.im
  dsimp only at o0 o1 o2 o3 o4 o5
  refine ⟨_,rfl,_,rfl,L,_,_,_,rfl,rfl,i0,y1,_,rfl,R,_,rfl,.inr (SqT.of rf.e),_,_,rfl,rfl,by rw [zat];omega,R,_,_,_,rfl,rfl,SqT.of rf.e,hat,t,_,rfl,SqT.of et,rfl,_,_,rfl,_,_,rfl,_,_,rfl,_,_,rfl,_,_,rfl,rfl,?_⟩
  try dsimp only [zaE,List.set]
  have h0m:=Xbq m
  have eT:(1:Int) * 2 ^ ((m:Int)).toNat - 1=((2 ^ m - 1:Nat):Int):=by
   rw [Xak,show (2:Int) ^ m=((2 ^ m:Nat):Int) by push_cast;rfl];omega
  obtain ⟨tp,htp,hT⟩:∃ tp,tp=2 ^ m - 1∧tp+1=2 ^ m:=⟨_,rfl,by omega⟩
  have tp1:1≤tp:=by have:=XaM (show 0<2 by decide) m1;omega
  rw [← htp] at eT
  refine ⟨_,rfl,_,_,rfl,rfl,⟨by omega,by omega,by decide⟩,_,_,rfl,rfl,?_⟩
  rw [eT]
  try dsimp only [zaE,List.set]
  have eW:(a:Int) % 17=((a % 17:Nat):Int):=by omega
  obtain ⟨wy,hwy,hw17⟩:∃ wy,wy=a % 17∧wy<17:=⟨_,rfl,by omega⟩
  rw [← hwy] at eW
  refine ⟨_,rfl,L,_,_,_,rfl,rfl,i0,y0,_,_,rfl,rfl,(show (0:Int)<17 by decide),?_⟩
  rw [eW]
  try dsimp only [zaE,List.set]
  
  refine ⟨_,rfl,_,_,rfl,rfl,_,rfl,?_⟩
  by_cases w3:wy<3
  ·rw [Xai (show (wy:Int)<3 by omega)]
   refine iteT ⟨by show 3≤sizeLine;decide,fun p hp=>?_⟩
   rcases (show wy=0∨wy=1∨wy=2 by omega) with e | e | e <;> rw [e]
   all_goals
    refine ⟨_,rfl,_,_,rfl,rfl,_,rfl,_,rfl,p,_,_,_,rfl,rfl,zab,rfl,?_⟩
    have sp:Same H (upd (upd H p (.lst [.int 0,.int 0,.int 0])) p (.lst ([V.int 0,.int 0,.int 0].set wy (.int ((tp:Int)+1))))):=fun x o eo=>by rw [zai (zah eo hp),zai (zah eo hp)];exact eo
    rw [e] at sp
    refine ⟨_,rfl,_,rfl,p,_,_,_,rfl,rfl,SqL.of zab,rfl,_,_,rfl,rfl,_,rfl,_,rfl,p,_,_,_,rfl,rfl,SqL.of zab,rfl,_,_,rfl,rfl,_,rfl,_,rfl,p,_,_,_,rfl,rfl,SqL.of zab,rfl,_,_,rfl,rfl,_,rfl,_,rfl,by show 5≤sizeLine;decide,fun q hq=>?_⟩
    refine k _ _ _ (sp.trans (zad hq)) (end5 sp eM hq (.int _) (.int _) (.int _) (.int _) (dl.same sp)) (bad5 fun r a1 a2 a3 a4 a5 ok' fit'=>?_)
    have b0:=ok'.m0
    have b1:=ok'.w0
    have b2:=ok'.i0
    have a1:=Cb.D.int.inj a1
    have a2:=Cb.D.int.inj a2
    have a3:=Cb.D.int.inj a3
    omega
  rw [Xag (show ¬ (wy:Int)<3 by omega)]
  refine iteF ?_
  refine zaz ?_
  try dsimp only
  
  refine ⟨_,rfl,rfl,_,rfl,?_⟩
  rw [eqI]
  by_cases w4:wy=3
  ·rw [Xai (show (wy:Int)=3 by omega)]
   refine iteT ⟨_,rfl,_,rfl,_,_,rfl,rfl,_,_,rfl,rfl,_,rfl,_,_,rfl,rfl,_,rfl,_,rfl,_,_,rfl,rfl,_,_,rfl,rfl,_,rfl,_,rfl,by show 5≤sizeLine;decide,fun q hq=>?_⟩
   refine k _ _ _ (zad hq) (end5 (Same.refl _) eM hq (.int _) (.int _) (.int _) (.int _) dl) (bad5 fun r a1 a2 a3 a4 a5 ok' fit'=>?_)
   rw [show (tp:Int) - 1=((tp - 1:Nat):Int) by omega,band] at a1
   rw [show Builtin.bitOr (wt:Int) 1=((wt ||| 1:Nat):Int) from bor wt 1] at a2
   have a1:=Int.ofNat.inj (Cb.D.int.inj a1)
   have a2:=Int.ofNat.inj (Cb.D.int.inj a2)
   have h:=congrArg (fun n=>Nat.testBit n 0) ok'.wm
   rw [← a1,← a2] at h
   have ht:(tp - 1) % 2=0:=by rw [show m=(m - 1)+1 by omega,Xbg] at hT;omega
   simp [XaA,Nat.testBit_or,Nat.testBit_zero,ht] at h
  rw [Xag (show ¬ (wy:Int)=3 by omega)]
  refine iteF (zaz ?_)
  try dsimp only
  
  refine ⟨_,rfl,rfl,_,rfl,?_⟩
  rw [eqI]
  by_cases w5:wy=4
  ·rw [Xai (show (wy:Int)=4 by omega)]
   refine iteT ⟨_,rfl,_,_,rfl,rfl,_,rfl,_,rfl,_,_,rfl,rfl,_,rfl,_,rfl,by show 5≤sizeLine;decide,fun q hq=>?_⟩
   refine k _ _ _ (zad hq) (end5 (Same.refl _) eM hq (.int _) (.int _) (.int _) (.int _) dl) (bad5 fun r a1 a2 a3 a4 a5 ok' fit'=>?_)
   rw [show Builtin.bitOr (mk:Int) 1=((mk ||| 1:Nat):Int) from bor mk 1] at a1
   rw [show Builtin.bitOr (iN:Int) 1=((iN ||| 1:Nat):Int) from bor iN 1] at a3
   have a1:=Int.ofNat.inj (Cb.D.int.inj a1)
   have a3:=Int.ofNat.inj (Cb.D.int.inj a3)
   have h:=congrArg (fun n=>Nat.testBit n 0) ok'.im
   rw [← a1,← a3] at h
   simp [XaA,Nat.testBit_or,Nat.testBit_zero] at h
  rw [Xag (show ¬ (wy:Int)=4 by omega)]
  refine iteF (zaz ?_)
  try dsimp only
  
  refine ⟨_,rfl,rfl,_,rfl,?_⟩
  rw [eqI]
  by_cases w6:wy=5
  ·rw [Xai (show (wy:Int)=5 by omega)]
   obtain ⟨cv,cd,hcv,hcd,hcn⟩:=zkn b
   refine iteT ⟨_,rfl,_,rfl,_,rfl,_,rfl,_,_,rfl,rfl,⟨by decide,by decide,by decide⟩,by show 6≤sizeLine;decide,fun p hp=>?_⟩
   have sp:=zad (o:=.lst [.int (-1),.int 100,.int ((2:Int) ^ ((63:Int)).toNat),.bl true,.non,.str "0"]) hp
   refine ⟨_,rfl,L,_,_,_,rfl,rfl,SqL.of (sp _ _ eL),y1,_,_,rfl,rfl,⟨by decide,by decide +kernel⟩,_,_,rfl,rfl,(show (0:Int)<6 by decide),p,_,_,_,rfl,rfl,SqL.of zab,hcv,_,rfl,by show 5≤sizeLine;decide,fun q hq=>?_⟩
   exact k _ _ _ (sp.trans (zad hq)) (end5 sp eM hq (.int _) (.int _) (.int _) (hcd _ _) (dl.same sp)) (bad5 fun r a1 a2 a3 a4 a5 ok' fit'=>hcn _ ok'.c0 a4)
  rw [Xag (show ¬ (wy:Int)=5 by omega)]
  refine iteF (zaz ?_)
  try dsimp only
  
  by_cases w7:wy=6∨wy=7
  ·refine ⟨_,rfl,rfl,_,rfl,?_⟩
   rw [eqI]
   rcases w7 with e | e
   ·rw [Xai (show (wy:Int)=6 by omega)]
    refine iteT (iteT ⟨_,rfl,_,rfl,_,rfl,_,rfl,ML,_,rfl,.inl (SqL.of eM),_,rfl,L,_,_,_,rfl,rfl,i0,y1,_,_,rfl,rfl,⟨by decide,by decide +kernel⟩,_,_,rfl,rfl,(show (0:Int)<90 by decide),_,_,rfl,rfl,_,rfl,by show 5≤sizeLine;decide,fun q hq=>?_⟩)
    refine ⟨_,rfl,_,rfl,_,rfl,_,rfl,_,rfl,by show 5≤sizeLine;decide,fun u hu=>⟨by show 2≤sizeLine;decide,fun g hg=>⟨_,rfl,_,_,rfl,rfl,g,_,_,V.ref q,rfl,rfl,SqL.of zab,by rw [e];rfl,?_⟩⟩⟩
    have dq:=end5 (Same.refl _) eM hq (.int (mk:Int)) (.int (wt:Int)) (.int (iN:Int)) (.int (((cl.map fun c=>V.ref c.m).length:Int)+(b:Int) / 9 % 90)) dl
    refine k _ _ _ ((zad hq).trans ((zad hu).trans (zad hg))) (dq.same ((zad hu).trans (zad hg))) (bad5 fun r a1 a2 a3 a4 a5 ok' fit'=>?_)
    have h1:r.c<cl.length:=fit'.1
    have a4:=Cb.D.int.inj a4
    rw [Xah] at a4
    omega
   ·rw [Xag (show ¬ (wy:Int)=6 by omega)]
    refine iteF ⟨_,rfl,rfl,_,rfl,?_⟩
    rw [eqI,Xai (show (wy:Int)=7 by omega)]
    refine iteT ⟨_,rfl,_,rfl,_,rfl,_,rfl,ML,_,rfl,.inl (SqL.of eM),_,rfl,L,_,_,_,rfl,rfl,i0,y1,_,_,rfl,rfl,⟨by decide,by decide +kernel⟩,_,_,rfl,rfl,(show (0:Int)<90 by decide),_,_,rfl,rfl,_,rfl,by show 5≤sizeLine;decide,fun q hq=>?_⟩
    refine ⟨_,rfl,_,rfl,_,rfl,_,rfl,_,rfl,by show 5≤sizeLine;decide,fun u hu=>⟨by show 2≤sizeLine;decide,fun g hg=>⟨_,rfl,_,_,rfl,rfl,g,_,_,V.ref u,rfl,rfl,SqL.of zab,by rw [e];rfl,?_⟩⟩⟩
    exact k _ .oth _ ((zad hq).trans ((zad hu).trans (zad hg))) (.lst (zad hg _ _ zab) (Ne.symm (zah (zad hq _ _ eM) hu))) fun r e=>by unfold zaI at e;cases e
  refine ⟨_,rfl,rfl,_,rfl,?_⟩
  rw [eqI,Xag (show ¬ (wy:Int)=6 by omega)]
  refine iteF ⟨_,rfl,rfl,_,rfl,?_⟩
  rw [eqI,Xag (show ¬ (wy:Int)=7 by omega)]
  refine iteF (zaz ?_)
  try dsimp only
  
  refine ⟨_,rfl,rfl,_,rfl,?_⟩
  rw [eqI]
  by_cases w8:wy=8
  ·rw [Xai (show (wy:Int)=8 by omega)]
   have e6:(b:Int) / 9 % 6=((b / 9 % 6:Nat):Int):=by omega
   obtain ⟨u6,hu6,h6⟩:∃ u6,u6=b / 9 % 6∧u6<6:=⟨_,rfl,Xa0 _ (by decide)⟩
   rw [← hu6] at e6
   refine iteT ⟨_,rfl,by show 0≤sizeLine;decide,fun z0 h0=>⟨_,rfl,_,rfl,_,rfl,_,rfl,by show 4≤sizeLine;decide,fun z1 h1=>⟨_,rfl,_,rfl,_,rfl,_,rfl,_,rfl,by show 6≤sizeLine;decide,fun z2 h2=>⟨by show 6≤sizeLine;decide,fun g hg=>?_⟩⟩⟩⟩
   have s0:=zad (o:=.tup []) h0
   have s1:=zad (o:=.tup [.int (mk:Int),.int (wt:Int),.int (iN:Int),.int (ch:Int)]) h1
   have s2:=zad (o:=.tup [.int (mk:Int),.int (wt:Int),.int (iN:Int),.int (ch:Int),lv,.non]) h2
   have s3:=zad (o:=.lst [.non,.int (mk:Int),.ref z0,.ref z1,.ref z2,.str "row"]) hg
   have S:=s0.trans (s1.trans (s2.trans s3))
   have n0:=Ne.symm (zah eM h0)
   have n1:=Ne.symm (zah (s0 _ _ eM) h1)
   have n2:=Ne.symm (zah ((s0.trans s1) _ _ eM) h2)
   have c0:=(s1.trans (s2.trans s3)) _ _ (zab (H:=H) (a:=z0) (o:=.tup []))
   have c1:=(s2.trans s3) _ _ (zab (H:=upd H z0 (.tup [])) (a:=z1) (o:=.tup [.int (mk:Int),.int (wt:Int),.int (iN:Int),.int (ch:Int)]))
   have c2:=s3 _ _ (zab (H:=upd (upd H z0 (.tup [])) z1 (.tup [.int (mk:Int),.int (wt:Int),.int (iN:Int),.int (ch:Int)])) (a:=z2) (o:=.tup [.int (mk:Int),.int (wt:Int),.int (iN:Int),.int (ch:Int),lv,.non]))
   have dl2:=dl.same S
   refine ⟨_,rfl,L,_,_,_,rfl,rfl,SqL.of (S _ _ eL),y1,_,_,rfl,rfl,⟨by decide,by decide +kernel⟩,_,_,rfl,rfl,(show (0:Int)<6 by decide),?_⟩
   rw [e6]
   rcases (show u6=0∨u6=1∨u6=2∨u6=3∨u6=4∨u6=5 by omega) with e | e | e | e | e | e <;> rw [e]
   ·exact ⟨g,_,_,V.non,rfl,rfl,SqL.of zab,rfl,k _ _ _ S .non fun r e=>by unfold zaI at e;cases e⟩
   ·exact ⟨g,_,_,V.int (mk:Int),rfl,rfl,SqL.of zab,rfl,k _ _ _ S (.int _) fun r e=>by unfold zaI at e;cases e⟩
   ·exact ⟨g,_,_,V.ref z0,rfl,rfl,SqL.of zab,rfl,k _ (.tup []) _ S (.tup c0 n0 rfl fun i x d hx _=>by simp at hx) fun r e=>by unfold zaI at e;cases e⟩
   ·refine ⟨g,_,_,V.ref z1,rfl,rfl,SqL.of zab,rfl,k _ (.tup [.int (mk:Int),.int (wt:Int),.int (iN:Int),.int (ch:Int)]) _ S (.tup c1 n1 rfl fun i x d hx hd=>?_) fun r e=>by unfold zaI at e;cases e⟩
    rcases (show i=0∨i=1∨i=2∨i=3 by have:=(Xae.mp hx).1;simp at this;omega) with rfl | rfl | rfl | rfl <;> cases hx <;> cases hd <;> exact .int _
   ·refine ⟨g,_,_,V.ref z2,rfl,rfl,SqL.of zab,rfl,k _ (.tup [.int (mk:Int),.int (wt:Int),.int (iN:Int),.int (ch:Int),zc2 lt,.non]) _ S (.tup c2 n2 rfl fun i x d hx hd=>?_) fun r e=>absurd (show (6:Nat)=5 from congrArg tl e) (by decide)⟩
    rcases (show i=0∨i=1∨i=2∨i=3∨i=4∨i=5 by have:=(Xae.mp hx).1;simp at this;omega) with rfl | rfl | rfl | rfl | rfl | rfl <;> cases hx <;> cases hd <;> first | exact .int _ | exact dl2 | exact .non
   ·exact ⟨g,_,_,V.str "row",rfl,rfl,SqL.of zab,rfl,k _ _ _ S (.str _) fun r e=>by unfold zaI at e;cases e⟩
  rw [Xag (show ¬ (wy:Int)=8 by omega)]
  refine iteF (zaz ?_)
  try dsimp only
  
  refine ⟨_,rfl,rfl,_,rfl,?_⟩
  rw [eqI]
  by_cases w9:wy=9
  ·rw [Xai (show (wy:Int)=9 by omega)]
   refine iteT ⟨_,rfl,_,rfl,_,rfl,_,rfl,by show 0≤sizeLine;decide,fun z0 h0=>⟨_,rfl,by show 1≤sizeLine;decide,fun z1 h1=>⟨by show 3≤sizeLine;decide,fun z2 h2=>⟨by show 3≤sizeLine;decide,fun z3 h3=>⟨by show 3≤sizeLine;decide,fun z4 h4=>⟨_,rfl,by show 3≤sizeLine;decide,fun z5 h5=>⟨by show 7≤sizeLine;decide,fun g hg=>?_⟩⟩⟩⟩⟩⟩⟩
   have s0:=zad (o:=.tup []) h0
   have s1:=zad (o:=.tup [.int (ch:Int)]) h1
   have s2:=zad (o:=.lst [.int 0,.int 0,.int 0]) h2
   have s3:=zad (o:=.tup [.int 0,.int 256,.int 0]) h3
   have s4:=zad (o:=.tup [.int 0,.int 1,.int 2]) h4
   have s5:=zad (o:=.tup [.int (-1),.int 0,.int 0]) h5
   have s6:=zad (o:=.lst [V.ref z0,.ref z1,.ref z2,.int 0,.ref z3,.ref z4,.ref z5]) hg
   refine zcL (fun B=>Same H B∧B z0=some (.tup [])∧B z1=some (.tup [.int (ch:Int)])∧B z2=some (.lst [.int 0,.int 0,.int 0])∧B z3=some (.tup [.int 0,.int 256,.int 0])∧B z4=some (.tup [.int 0,.int 1,.int 2])∧B z5=some (.tup [.int (-1),.int 0,.int 0])∧B g=some (.lst [V.ref z0,.ref z1,.ref z2,.int 0,.ref z3,.ref z4,.ref z5])) ⟨s0.trans (s1.trans (s2.trans (s3.trans (s4.trans (s5.trans s6))))),(s1.trans (s2.trans (s3.trans (s4.trans (s5.trans s6))))) _ _ zab,(s2.trans (s3.trans (s4.trans (s5.trans s6)))) _ _ zab,(s3.trans (s4.trans (s5.trans s6))) _ _ zab,(s4.trans (s5.trans s6)) _ _ zab,(s5.trans s6) _ _ zab,s6 _ _ zab,zab⟩ fun B hh_=>?_
   obtain ⟨S,c0,c1,c2,c3,c4,c5,cg⟩:=hh_
   have nM:∀ z∈[z0,z1,z2,z3,z4,z5],z≠ML:=fun z hz e=>by
    simp only [Xap,List.mem_nil_iff,or_false] at hz
    rcases hz with rfl | rfl | rfl | rfl | rfl | rfl
    ·exact zah eM h0 e.symm
    ·exact zah (s0 _ _ eM) h1 e.symm
    ·exact zah ((s0.trans s1) _ _ eM) h2 e.symm
    ·exact zah ((s0.trans (s1.trans s2)) _ _ eM) h3 e.symm
    ·exact zah ((s0.trans (s1.trans (s2.trans s3))) _ _ eM) h4 e.symm
    ·exact zah ((s0.trans (s1.trans (s2.trans (s3.trans s4)))) _ _ eM) h5 e.symm
   obtain ⟨ov,od,hov,hod,hno⟩:=zkk (p:=ML) b c0 c1 c2 c3 c4 c5 nM
   refine ⟨_,rfl,L,_,_,_,rfl,rfl,SqL.of (S _ _ eL),y1,_,_,rfl,rfl,⟨by decide,by decide +kernel⟩,_,_,rfl,rfl,(show (0:Int)<7 by decide),g,_,_,_,rfl,rfl,SqL.of cg,hov,by show 5≤sizeLine;decide,fun q hq=>?_⟩
   exact k _ _ _ (S.trans (zad hq)) (end5 S (eM) hq (.int _) (.int _) (.int _) (.int _) hod) (bad5 fun r a1 a2 a3 a4 a5 ok' fit'=>hno _ a5 ok'.l0)
  rw [Xag (show ¬ (wy:Int)=9 by omega)]
  refine iteF (zaz ?_)
  try dsimp only
  
  refine ⟨_,rfl,rfl,_,rfl,?_⟩
  rw [eqI]
  by_cases w10:wy=10
  ·rw [Xai (show (wy:Int)=10 by omega)]
   refine iteT ⟨_,rfl,_,rfl,_,rfl,_,rfl,_,rfl,ML,_,rfl,.inl (SqL.of eM),_,rfl,L,_,_,_,rfl,rfl,i0,y1,_,_,rfl,rfl,⟨by decide,by decide +kernel⟩,_,_,rfl,rfl,(show (0:Int)<90 by decide),_,_,rfl,rfl,by show 3≤sizeLine;decide,fun z hz=>⟨by show 5≤sizeLine;decide,fun q hq=>?_⟩⟩
   have sz:=zad (o:=.tup [V.int (((cl.map fun c=>V.ref c.m).length:Int)+(b:Int) / 9 % 90),.int 1,.int 1]) hz
   refine k _ _ _ (sz.trans (zad hq)) (end5 sz eM hq (.int _) (.int _) (.int _) (.int _) (zc7 zab (Ne.symm (zah eM hz)))) (bad5 fun r a1 a2 a3 a4 a5 ok' fit'=>?_)
   obtain ⟨c,x,y,e1,e2,e3,e4,_⟩:=lat3 a5 ok'.l0
   have h1:c<cl.length:=(fit'.2.2 _ _ _ e4).1
   rw [Xah] at e1
   omega
  rw [Xag (show ¬ (wy:Int)=10 by omega)]
  refine iteF (zaz ?_)
  try dsimp only
  
  refine ⟨_,rfl,_,_,rfl,rfl,_,rfl,?_⟩
  by_cases w13:wy<13
  ·rw [Xai (show (wy:Int)<13 by omega)]
   obtain ⟨ov,od,hov,hod,hno⟩:=odd4 b
   refine iteT ⟨_,rfl,by show 4≤sizeLine;decide,fun p hp=>?_⟩
   have sp:=zad (o:=.lst [V.int (-1),.bl true,.non,.str "1"]) hp
   refine ⟨_,rfl,L,_,_,_,rfl,rfl,SqL.of (sp _ _ eL),y1,_,_,rfl,rfl,⟨by decide,by decide +kernel⟩,_,_,rfl,rfl,(show (0:Int)<4 by decide),p,_,_,_,rfl,rfl,SqL.of zab,hov,?_⟩
   try dsimp only [zaE,List.set]
   refine ⟨_,rfl,_,rfl,_,rfl,_,rfl,_,rfl,by show 5≤sizeLine;decide,fun q hq=>⟨_,rfl,_,rfl,_,rfl,_,rfl,_,rfl,by show 5≤sizeLine;decide,fun u hu=>⟨by show 2≤sizeLine;decide,fun g hg=>?_⟩⟩⟩
   have sq:=zad (o:=.tup [ov,.int (wt:Int),.int (iN:Int),.int (ch:Int),lv]) hq
   have su:=zad (o:=.tup [.int (mk:Int),ov,.int (iN:Int),.int (ch:Int),lv]) hu
   have sg:=zad (o:=.lst [V.ref q,.ref u]) hg
   have S:=sp.trans (sq.trans (su.trans sg))
   rcases (show wy=11∨wy=12 by omega) with e | e <;> rw [e]
   ·exact ⟨_,rfl,_,_,rfl,rfl,g,_,_,V.ref q,rfl,rfl,SqL.of zab,rfl,k _ _ _ S ((end5 sp eM hq (hod _ _) (.int _) (.int _) (.int _) (dl.same sp)).same (su.trans sg)) (bad5 fun r a1 a2 a3 a4 a5 ok' fit'=>hno _ a1)⟩
   ·exact ⟨_,rfl,_,_,rfl,rfl,g,_,_,V.ref u,rfl,rfl,SqL.of zab,rfl,k _ _ _ S ((end5 (sp.trans sq) eM hu (.int _) (hod _ _) (.int _) (.int _) (dl.same (sp.trans sq))).same sg) (bad5 fun r a1 a2 a3 a4 a5 ok' fit'=>hno _ a2)⟩
  rw [Xag (show ¬ (wy:Int)<13 by omega)]
  refine iteF (zaz ?_)
  try dsimp only
  refine ⟨_,rfl,ML,_,rfl,.inl (SqL.of eM),_,rfl,by rw [Xah];omega,by rw [Xah];omega,?_⟩
  rw [Xah,Xak]
  refine ziU eM C c9 fun lo hlo hox OL hOL=>?_
  try dsimp only [zaE,List.set]
  have so:=zad (o:=.lst (vN lo)) hOL
  have eo:=zab (H:=H) (a:=OL) (o:=.lst (vN lo))
  refine zf4 (fun σ Y=>σ=[some (.ref R),some (.int (m:Int)),some (.ref ML),some (.ref L),some (.int (mk:Int)),some (.int (wt:Int)),some (.int (iN:Int)),some (.int (ch:Int)),some lv,some (.int (tp:Int)),some (.int (wy:Int)),none,none,some (.ref OL),none]∧Y=upd H OL (.lst (vN lo))) (fun σ Y=>σ=[some (.ref R),some (.int (m:Int)),some (.ref ML),some (.ref L),some (.int (mk:Int)),some (.int (wt:Int)),some (.int (iN:Int)),some (.int (ch:Int)),some lv,some (.int (tp:Int)),some (.int (wy:Int)),none,none,some (.ref OL),none]∧Same H Y) ?_ ?_ _ _ ⟨rfl,rfl⟩
  ·rintro σ Y ⟨rfl,rfl⟩ N hN
   refine ⟨_,rfl,_,_,rfl,rfl,_,rfl,ite2 (fun h1=>?_) (fun h1=>iteF (zaz (hN _ _ ⟨rfl,so⟩)))⟩
   refine ⟨_,rfl,by show 0≤sizeLine;decide,fun e he=>?_⟩
   have se:=so.trans (zad (o:=.lst []) he)
   have ee:=zad (o:=.lst []) he _ _ eo
   refine ⟨OL,e,_,rfl,rfl,SqL.of ee,SqL.of zab,_,rfl,ite2 (fun h2=>?_) (fun h2=>zaz (hN _ _ ⟨rfl,se⟩))⟩
   have hll:0<lo.length:=by cases lo with | nil=>cases h2 | cons _ _=>exact Nat.succ_pos _
   obtain ⟨x,hx,ex⟩:=zeP (ns:=lo) (a:=b / 9) (k:=lo.length) rfl hll
   refine ⟨_,rfl,_,rfl,_,rfl,_,rfl,_,rfl,_,rfl,L,_,_,_,rfl,rfl,SqL.of (se _ _ eL),y1,_,_,rfl,rfl,⟨by decide,by decide +kernel⟩,_,rfl,OL,_,rfl,.inl (SqL.of ee),_,_,rfl,rfl,(by rw [zax];omega),OL,_,_,.int (x:Int),rfl,rfl,SqL.of ee,(by rw [zax,show (b:Int) / 9=((b / 9:Nat):Int) by omega];exact ex),by show 3≤sizeLine;decide,fun z hz=>⟨by show 5≤sizeLine;decide,fun q hq=>?_⟩⟩
   have sz:=se.trans (zad (o:=.tup [V.int (x:Int),.int 3,.int 1]) hz)
   refine k _ _ _ (sz.trans (zad hq)) (end5 sz eM hq (.int _) (.int _) (.int _) (.int _) (zc7 zab (Ne.symm (zah (se _ _ eM) hz)))) (bad5 fun r a1 a2 a3 a4 a5 ok' fit'=>?_)
   obtain ⟨c,y,u,e1,e2,e3,e4,_⟩:=lat3 a5 ok'.l0
   have h5:(cl.getD c dfCm).kd=2:=(fit'.2.2 _ _ _ e4).2
   obtain rfl:x=c:=by omega
   exact (hox x hx).2 h5
  rintro σ Y ⟨rfl,sY⟩
  refine ⟨_,rfl,ML,_,rfl,.inl (SqL.of (sY _ _ eM)),_,rfl,by rw [Xah];omega,by rw [Xah];omega,?_⟩
  rw [Xah,Xak]
  have mk1:mk≤tp:=by omega
  refine zgz (sY _ _ eM) (C.same sY) c9 (by have:=XaM (show 0<2 by decide) m2;omega) mk1 fun ls X hls hsx sX ZL hZL=>?_
  try dsimp only [zaE,List.set]
  have sz:=(sY.trans sX).trans (zad (o:=.lst (vN ls)) hZL)
  have ez:=zab (H:=X) (a:=ZL) (o:=.lst (vN ls))
  refine ⟨_,rfl,by show 0≤sizeLine;decide,fun e he=>?_⟩
  have se:=sz.trans (zad (o:=.lst []) he)
  have ee:=zad (o:=.lst []) he _ _ ez
  refine ⟨ZL,e,_,rfl,rfl,SqL.of ee,SqL.of zab,_,rfl,ite2 (fun h2=>?_) (fun h2=>zaz ?_)⟩
  ·have hll:0<ls.length:=by cases ls with | nil=>cases h2 | cons _ _=>exact Nat.succ_pos _
   obtain ⟨x,hx,ex⟩:=zeP (ns:=ls) (a:=b / 9) (k:=ls.length) rfl hll
   refine ⟨_,rfl,_,rfl,_,rfl,_,rfl,_,_,rfl,rfl,_,rfl,_,rfl,L,_,_,_,rfl,rfl,SqL.of (se _ _ eL),y1,_,_,rfl,rfl,⟨by decide,by decide +kernel⟩,_,rfl,ZL,_,rfl,.inl (SqL.of ee),_,_,rfl,rfl,(by rw [zax];omega),ZL,_,_,.int (x:Int),rfl,rfl,SqL.of ee,(by rw [zax,show (b:Int) / 9=((b / 9:Nat):Int) by omega];exact ex),_,rfl,by show 5≤sizeLine;decide,fun q hq=>?_⟩
   refine k _ _ _ (se.trans (zad hq)) (end5 se eM hq (.int _) (.int _) (.int _) (.int _) (dl.same se)) (bad5 fun r a1 a2 a3 a4 a5 ok' fit'=>?_)
   have a3:=Cb.D.int.inj a3
   have a4:=Cb.D.int.inj a4
   obtain rfl:x=r.c:=by omega
   have ei:tp - mk=r.i:=by omega
   rw [ei] at hsx
   have h5:2 ^ ones r.i≤ksize (cl.getD r.c dfCm).kd (cl.getD r.c dfCm).us:=fit'.2.1
   have h6:=(hsx _ hx).2
   omega
  refine ⟨_,rfl,_,rfl,_,rfl,_,rfl,_,rfl,by show 5≤sizeLine;decide,fun q hq=>?_⟩
  exact k _ _ _ (se.trans (zad hq)) (end5 se eM hq (.int _) (.int _) (.int _) (.int _) (dl.same se)) (bad5 fun r a1 a2 a3 a4 a5 ok' fit'=>by have a3:=Cb.D.int.inj a3;omega)
abbrev zcz:Stmt:=top 80
theorem sc_law_word:FnScope ["bits","rows","chips","floating","told","e"] ["bits","rows","chips","floating"] (zak zcz):=sck rfl rfl rfl (by decide +kernel)
def zjM (D:Dt)(bits fl:Int)(H:Hp)(v:V)(d:Cb.D)(bs:List Bool):Prop:=(¬ MapFor D bits d∧bs=[true,false,true,false])∨∃ (m:Nat) (R:Addr) (ws:List (Addr×Rw)),bits=(m:Int)∧v = .ref R∧1≤m∧m≤16∧RwsFor D m H R ws∧d = .tup (ws.map fun z=>zaI z.2)∧bs=if 0≤fl∧fl≤255 then [] else [false,true,true,false]
inductive spWord32 (cs:Nat→Addr)(vs:List V)(H:Hp)(Q:VK)(u3_:XK):Prop
 | mk (p L:Addr) (bits fl:Int) (v:V) (d:Cb.D) (D:Dt) (us:Nat→List Nat) (bs:List Bool) (z0_:vs=[.int bits,v,.ref L,.int fl]) (z1_:bits.natAbs<2 ^ 100) (z2_:fl.natAbs<2 ^ 100) (z3_:Dv p H v d) (z4_:tl d≤300) (z5_:H L=some (.lst (chL D))) (z6_:Chs cs D H us) (z7_:zjM D bits fl H v d bs) (z8_:∀ (t:Addr) (H':Hp),H t=none→H' t=some (.lst (bs.map V.bl))→Same H H'→Q (.ref t) H')
theorem zfI {f C CM CW CB c1 c2 c3 c4 c5 c6 c7 c8 c9:Addr}{cs:Nat→Addr}{fd:FuncData}(F:Fun K "_law_word" "_law_word" zcz f fd)(T:Blt mg)(GBValueError:mg "ValueError" = none)(GMXBoard_4:MakX P w K mg base 7 "Board" C [] (dP []) (spInitX C CM CW cs))(GEBusError:mg "BusError" = some (.ref CB))(GNoMap:mg "NoMap" = some (.ref CM))(GNoWord:mg "NoWord" = some (.ref CW))
  (GBadRow:mg "BadRow" = some (.ref c1)) (GClash:mg "Clash" = some (.ref c2)) (GNoAddress:mg "NoAddress" = some (.ref c3)) (GNoCell:mg "NoCell" = some (.ref c4)) (GNoChip:mg "NoChip" = some (.ref c5)) (GNoMover:mg "NoMover" = some (.ref c6)) (GNoText:mg "NoText" = some (.ref c7)) (GNoWatch:mg "NoWatch" = some (.ref c8)) (GTooMany:mg "TooMany" = some (.ref c9))
  (xb:W.exmOne K (.ref CM) (.ref CB)=some true) (xb2:W.exmOne K (.ref CW) (.ref CB)=some true) (xc:XCls K CM) (xw:XCls K CW) (mm:W.kitOne K (.ref CM) (.ref CM)=some true) (mw:W.kitOne K (.ref CM) (.ref CW)=some false) (mv:W.kitOne K (.ref CM) (.type "ValueError")=some true) (wm:W.kitOne K (.ref CW) (.ref CM)=some false) (ww:W.kitOne K (.ref CW) (.ref CW)=some true) (wv:W.kitOne K (.ref CW) (.type "ValueError")=some true)
  (ym:W.kitAny K (.ref CM) [.ref c1,.ref c2,.ref c3,.ref c4,.ref c5,.ref c6,.ref c7,.ref c8,.ref c9]=some false) (yw:W.kitAny K (.ref CW) [.ref c1,.ref c2,.ref c3,.ref c4,.ref c5,.ref c6,.ref c7,.ref c8,.ref c9]=some false):FnOk P w K mg base CX0 9 f fd ["bits","rows","chips","floating"] (spWord32 cs):=by
 refine F.ok sc_law_word (by walk_at "l") (fun cdv A outer s H vs Q E hr h=>?_)
 ·obtain ⟨p,L,bits,fl,v,d,D,us,bs,rfl,hb,hf,hd,htl,eL,S,hw,k⟩:=h
  refine ⟨_,(zaf (ps_L 4 sc_law_word.nd (zaq zae))
   (zaf (zhu (j:=5) (fun pins E=>(zag (zaF (zhC GMXBoard_4 (hrm hr) rfl (zdX rfl) (zaa (pv 0) (zaa (pv 1) (zaa (pv 2) (zaa (pv 3) zae)))))))) (fun ea=>(zaf (ps_L 4 sc_law_word.nd (zaq (zaa (zao (zdJ (K:=K) rfl) (by rfl) T.isinstance zbQ (zaa (pv 5) (zaa (zaT rfl GNoMap) zae))) (zaa (zao (zdJ (K:=K) rfl) (by rfl) T.isinstance zbQ (zaa (pv 5) (zaa (zaT rfl GNoWord) zae))) (zaa (zao (zdJ (K:=K) rfl) (by rfl) T.isinstance zbQ (zaa (pv 5) (zaa (zcd rfl GBValueError zew zed) zae))) zae)))))
   (zag (zaF (pe_bmE (K:=K) rfl PySem.F.plainAttrs_list PySem.F.slot_list_append PySem.F.type_list_append zaV (pv 4) (zaa (zao (zg2 (K:=K) rfl) (by rfl) T.isinstance zbQ (zaa (pv 5) (zaa (zav (zaa (zaT rfl GBadRow) (zaa (zaT rfl GClash) (zaa (zaT rfl GNoAddress) (zaa (zaT rfl GNoCell) (zaa (zaT rfl GNoChip) (zaa (zaT rfl GNoMover) (zaa (zaT rfl GNoText) (zaa (zaT rfl GNoWatch) (zaa (zaT rfl GTooMany) zae)))))))))) zae))) zae)))))) rfl sc_law_word.nd rfl rfl GEBusError ⟨rfl,rfl⟩ rfl (fun ea=>rfl))
   (zag (zas (pv 4))))),?rd⟩
  refine ⟨by show 0≤sizeLine;decide,fun t0 ht0=>?_⟩
  have s0:=zad (o:=.lst []) ht0
  refine ⟨_,rfl,_,rfl,_,rfl,_,rfl,fun b db hb' hdb ne=>?_⟩
  have s1:Same H (upd (upd (upd H t0 (.lst [])) db (.own b)) b (.ins C db [])):=(s0.trans (zad hdb)).trans (zad (by rw [zai (Ne.symm ne)];exact hb'))
  refine ⟨b,db,p,L,bits,fl,v,d,D,us,rfl,zab,hb,hf,hd.same s1,htl,s1 _ _ eL,S.same s1,?_⟩
  rcases hw with ⟨hn,rfl⟩ | ⟨m,R,ws,rfl,rfl,h1,h2,hR,rfl,rfl⟩
  ·refine .inl ⟨hn,fun H1 s2=>⟨xb,fun ea hea=>?_⟩⟩
   have sA:=zad (o:=.ext (xIs ea (.ref CM) (none))) hea
   refine zcL (fun B=>Same H B∧B ea=some (.ext (xIs ea (.ref CM) (none)))∧∀ dx',none=some dx'→∃ fs,B dx'=some (.ext (xDc dx' fs))) ⟨(s1.trans s2).trans sA,zab,fun _ h=>nomatch h⟩ fun B ⟨sB,eB,xB⟩=>?_
   refine ⟨_,rfl,ea,CM,none,_,_,true,rfl,eB,xB,xc,.inl ⟨CM,rfl,rfl⟩,mm,_,rfl,ea,CM,none,_,_,false,rfl,eB,xB,xc,.inl ⟨CW,rfl,rfl⟩,mw,_,rfl,ea,CM,none,_,_,true,rfl,eB,xB,xc,.inr ⟨"ValueError",rfl,rfl⟩,mv,by show 3≤sizeLine;decide,fun q1 hq1=>?_⟩
   have sq:=zad (o:=.lst [.bl true,.bl false,.bl true]) hq1
   refine ⟨_,rfl,.inl ⟨rfl,_,SqL.of zab⟩,_,rfl,by show 9≤sizeLine;decide,fun q2 hq2=>?_⟩
   have sq2:=zad (o:=.tup [.ref c1,.ref c2,.ref c3,.ref c4,.ref c5,.ref c6,.ref c7,.ref c8,.ref c9]) hq2
   have sq3:=sq.trans sq2
   have eq1:=sq2 _ _ (zab (H:=B) (a:=q1) (o:=.lst [.bl true,.bl false,.bl true]))
   refine ⟨ea,CM,q2,none,[c1,c2,c3,c4,c5,c6,c7,c8,c9],false,rfl,sq3 _ _ eB,(fun dx' h=>by obtain ⟨fs,e⟩:=xB dx' h;exact ⟨fs,sq3 _ _ e⟩),xc,zab,ym,q1,_,_,rfl,rfl,eq1,by show 3<sizeLine;decide,_,rfl,?_⟩
   exact k q1 _ (sB.free hq1) zab fun a o e=>by rw [zai (zah (sB _ _ e) hq1)];exact sq3 _ _ (sB _ _ e)
  ·refine .inr ⟨m,R,ws,rfl,rfl,h1,h2,hR.same s1,rfl,fun hw' H1 fr=>⟨rfl,?_⟩,fun hw' dx H1 e1 s2=>⟨xb2,fun ea hea=>?_⟩⟩
   ·have nt:t0≠b:=fun z=>by rw [← z,zab] at hb';cases hb'
    have nd:t0≠db:=fun z=>by rw [← z,zab] at hdb;cases hdb
    rw [if_pos hw'] at k
    exact ⟨_,rfl,k t0 H1 ht0 (fr _ _ nt (by rw [zai nt,zai nd];exact zab)) fun a o e=>fr a o (zah (s0 _ _ e) hb') (s1 _ _ e)⟩
   rw [if_neg hw'] at k
   have sA:=zad (o:=.ext (xIs ea (.ref CW) ((some dx)))) hea
   refine zcL (fun B=>Same H B∧B ea=some (.ext (xIs ea (.ref CW) ((some dx))))∧∀ dx',(some dx)=some dx'→∃ fs,B dx'=some (.ext (xDc dx' fs))) ⟨(s1.trans s2).trans sA,zab,fun dx' h=>by cases h;exact ⟨_,sA _ _ e1⟩⟩ fun B ⟨sB,eB,xB⟩=>?_
   refine ⟨_,rfl,ea,CW,(some dx),_,_,false,rfl,eB,xB,xw,.inl ⟨CM,rfl,rfl⟩,wm,_,rfl,ea,CW,(some dx),_,_,true,rfl,eB,xB,xw,.inl ⟨CW,rfl,rfl⟩,ww,_,rfl,ea,CW,(some dx),_,_,true,rfl,eB,xB,xw,.inr ⟨"ValueError",rfl,rfl⟩,wv,by show 3≤sizeLine;decide,fun q1 hq1=>?_⟩
   have sq:=zad (o:=.lst [.bl false,.bl true,.bl true]) hq1
   refine ⟨_,rfl,.inl ⟨rfl,_,SqL.of zab⟩,_,rfl,by show 9≤sizeLine;decide,fun q2 hq2=>?_⟩
   have sq2:=zad (o:=.tup [.ref c1,.ref c2,.ref c3,.ref c4,.ref c5,.ref c6,.ref c7,.ref c8,.ref c9]) hq2
   have sq3:=sq.trans sq2
   have eq1:=sq2 _ _ (zab (H:=B) (a:=q1) (o:=.lst [.bl false,.bl true,.bl true]))
   refine ⟨ea,CW,q2,(some dx),[c1,c2,c3,c4,c5,c6,c7,c8,c9],false,rfl,sq3 _ _ eB,(fun dx' h=>by obtain ⟨fs,e⟩:=xB dx' h;exact ⟨fs,sq3 _ _ e⟩),xw,zab,yw,q1,_,_,rfl,rfl,eq1,by show 3<sizeLine;decide,_,rfl,?_⟩
   exact k q1 _ (sB.free hq1) zab fun a o e=>by rw [zai (zah (sB _ _ e) hq1)];exact sq3 _ _ (sB _ _ e)
abbrev zb7:Stmt:=top 83
theorem sc_law_field:FnScope ["bits","rows","chips","floating","told","e"] ["bits","rows","chips","floating"] (zak zb7):=sck rfl rfl rfl (by decide +kernel)
inductive spField32 (cs:Nat→Addr)(vs:List V)(H:Hp)(Q:VK)(u3_:XK):Prop
 | mk (p L R:Addr) (m:Nat) (fl:Int) (D:Dt) (us:Nat→List Nat) (ws:List (Addr×Rw)) (z0_:vs=[.int (m:Int),.ref R,.ref L,.int fl]) (z1_:1≤m) (z2_:m≤16) (z3_:fl.natAbs<2 ^ 100) (z4_:RwsFor D m H R ws) (z5_:H L=some (.lst (chL D))) (z6_:Chs cs D H us) (z7_:¬ (0≤fl∧fl≤255)) (z8_:∀ H',Same H H'→Q (.bl true) H')
theorem zeZ {f C CM CW:Addr}{cs:Nat→Addr}{fd:FuncData}(F:Fun K "_law_field" "_law_field" zb7 f fd)(T:Blt mg)(GMXBoard_4:MakX P w K mg base 7 "Board" C [] (dP []) (spInitX C CM CW cs))(GENoWord:mg "NoWord" = some (.ref CW))(xm:W.exmOne K (.ref CW) (.ref CW)=some true)(xc:XCls K CW)(hh:W.hasDictIn K CW=true)(f1:W.findIn K (.ref CW) "word" = some none):FnOk P w K mg base CX0 9 f fd ["bits","rows","chips","floating"] (spField32 cs):=by
 refine F.ok sc_law_field (by walk_at "l") (fun cdv A outer s H vs Q E hr h=>?_)
 ·obtain ⟨p,L,R,m,fl,D,us,ws,rfl,h1,h2,hf,hR,eL,S,hw,k⟩:=h
  refine ⟨_,(zaf (ps_L 4 sc_law_field.nd za5)
   (zaf (zhu (j:=5) (fun pins E=>(zag (zaF (zhC GMXBoard_4 (hrm hr) rfl (zdX rfl) (zaa (pv 0) (zaa (pv 1) (zaa (pv 2) (zaa (pv 3) zae)))))))) (fun ea=>(zag (ps_L 4 sc_law_field.nd (ziR (K:=K) rfl (pv 5) rfl)))) rfl sc_law_field.nd rfl rfl GENoWord ⟨rfl,rfl⟩ rfl (fun ea=>rfl))
   (zag (zas (zbP (za3 za8 (pv 4) (pv 3) (zar _)) (zbJ (zjt (zao (zbU "bool" (K:=K) rfl) (by rfl) T.isinstance zbQ (zaa (pv 4) (zaa (zcd rfl T.bool zik zhq) zae)))))))))),?rd⟩
  refine ⟨_,rfl,_,rfl,_,rfl,_,rfl,fun b db hb' hdb ne=>?_⟩
  have s1:Same H (upd (upd H db (.own b)) b (.ins C db [])):=(zad hdb).trans (zad (by rw [zai (Ne.symm ne)];exact hb'))
  refine ⟨b,db,L,L,m,fl,.ref R,.tup (ws.map fun z=>zaI z.2),D,us,rfl,zab,Xaz (show ((m:Int)).natAbs≤16 by omega) (by decide),hf,zbD (s1 _ _ eL) (s1 _ _ hR.e) (hR.same s1).r,(by show (ws.map _).length≤300;rw [Xah];have:=hR.ln;omega),s1 _ _ eL,S.same s1,.inr ⟨m,R,ws,rfl,rfl,h1,h2,hR.same s1,rfl,(fun h=>absurd h hw),fun _ dx H1 e1 s2=>⟨xm,fun ea hea=>?_⟩⟩⟩
  have sA:=zad (o:=.ext (xIs ea (.ref CW) (some dx))) hea
  refine ⟨_,rfl,ea,CW,dx,_,_,rfl,zab,sA _ _ e1,xc,hh,f1,rfl,?_⟩
  refine ⟨_,rfl,_,rfl,rfl,_,rfl,?_⟩
  rw [Xai rfl]
  refine iteT ⟨_,rfl,_,_,_,rfl,.int fl,rfl,_,rfl,k _ ((s1.trans s2).trans sA)⟩
abbrev zb6:Stmt:=top 81
theorem sc_law_great:FnScope ["inner","rows","more","one","refused","twice"] [] (zak zb6):=sck rfl rfl rfl (by decide +kernel)
def oneD (x p:Addr)(kd n:Nat)(us:List Nat):Dt:=⟨1,fun _=>x,fun _=>p,fun _=>kd,fun _=>n,fun _=>ksize kd us⟩
theorem zhK {cs:Nat→Addr}{X:Hp}{x p:Addr}{kd n:Nat}{us:List Nat}(o:Chp cs X x p kd n us)(k:Kd kd n us)(h1:kd=2∨kd=3→us.length=1):Chs cs (oneD x p kd n us) X fun _=>us:=⟨fun _ _=>o,fun _ _=>k,fun _ _=>h1,fun _ _=>rfl,fun i j (hi:i<1) (hj:j<1) _=>by omega,(by show 1≤200;decide)⟩
def noD:Dt:=⟨0,fun _=>0,fun _=>0,fun _=>0,fun _=>0,fun _=>0⟩
theorem no_chs {cs:Nat→Addr}{X:Hp}:Chs cs noD X fun _=>[]:=⟨fun _ h=>absurd h (Xbd _),fun _ h=>absurd h (Xbd _),fun _ h=>absurd h (Xbd _),fun _ h=>absurd h (Xbd _),fun _ _ h=>absurd h (Xbd _),Nat.zero_le _⟩
theorem zin {D:Dt}{bits:Int}{r:Rw}{rs:List Rw}(hr:r∈rs)(h:¬ Fit D r):¬ MapFor D bits (.tup (rs.map zaI)):=fun g=>h (g.row r hr)
theorem zbB {X:Hp}{t:Addr}{m w i c:Nat}(e:X t=some (.tup [.int (m:Int),.int (w:Int),.int (i:Int),.int (c:Int),.non])):RwAt X t ⟨m,w,i,c,none⟩:=⟨_,e,rfl⟩
theorem zeU {X:Hp}{t:Addr}{r:Rw}(h:RwAt X t r)(o:RwOk 16 r):RwsAt2 16 X [(t,r)]:=fun z hz=>by rw [Xab.mp hz];exact ⟨h,o⟩
theorem zcO {n:Nat}(h:n<2 ^ 16):RwOk 16 ⟨0,0,n,0,none⟩:=⟨by show (0:Nat)<2 ^ 16;decide,by show (0:Nat)<2 ^ 16;decide,Nat.zero_and 0,h,Nat.and_zero n,by show 0<100;decide,trivial⟩
theorem ze4 {cs:Nat→Addr}{Z:Hp}{y q:Addr}(ey:∃ dx,Z y=some (.ins (cs 2) dx [("head",.str "latch"),("held",.ref q)]))(el:Z q=some (.lst [.int 0])):Chs cs (oneD y q 2 0 [0]) Z fun _=>[0]:=zhK ⟨ey,el⟩ ⟨by decide,fun v hv=>by rw [Xab.mp hv];decide,by decide,fun _=>by decide,fun h=>absurd h (by decide),fun h=>absurd h (by decide),by decide⟩ fun _=>rfl
theorem zeF {cs:Nat→Addr}{Z:Hp}{y q:Addr}{N:Nat}(ey:∃ dx,Z y=some (.ins (cs 0) dx [("head",.str "store"),("held",.ref q)]))(el:Z q=some (.lst (List.replicate N (.int 0))))(h1:1≤N)(hN:N≤4096):Chs cs (oneD y q 0 0 (List.replicate N 0)) Z fun _=>List.replicate N 0:=zhK ⟨ey,by rw [el];unfold vN;rw [List.map_replicate];rfl⟩ ⟨by decide,fun w hw=>by rw [List.eq_of_mem_replicate hw];decide,by rw [Xbe];exact hN,fun _=>by rw [Xbe];exact h1,(fun h=>absurd h (by decide)),(fun h=>absurd h (by decide)),by decide⟩ fun h=>by rcases h with h | h <;> cases h
theorem zjl {X:Hp}{t u:Addr}{r q:Rw}(h:RwAt X t r)(g:RwAt X u q)(o:RwOk 16 r)(o2:RwOk 16 q):RwsAt2 16 X [(t,r),(u,q)]:=fun z hz=>by
 rcases Xap.mp hz with e | e
 ·rw [e];exact ⟨h,o⟩
 ·rw [Xab.mp e];exact ⟨g,o2⟩
theorem zf3 {x p:Addr}{N c:Nat}:(oneD x p 0 0 (List.replicate N 0)).sz c=N:=by
 show ksize 0 (List.replicate N 0)=N
 unfold ksize;rw [if_neg (by decide),Xbe]
theorem zjy {x p:Addr}{N n:Nat}(h:N<2 ^ ones n):¬ Fit (oneD x p 0 0 (List.replicate N 0)) ⟨0,0,n,0,none⟩:=fun g=>by
 have:=g.2.1
 rw [zf3] at this
 exact absurd h (Nat.not_lt.mpr this)
theorem zhJ:ones 4095=12:=by decide +kernel
theorem zkh:ones 8191=13:=by decide +kernel
theorem zj2 {D:Dt}{X:Hp}{R t:Addr}{r:Rw}(e:X R=some (.tup [.ref t]))(h:RwAt X t r)(o:RwOk 16 r)(f:Fit D r):RwsFor D 16 X R [(t,r)]:=⟨e,zeU h o,fun z hz=>by rw [Xab.mp hz];exact f,List.pairwise_singleton _ _,by show 1≤60;decide⟩
theorem fit_12 {x p:Addr}:Fit (oneD x p 0 0 (List.replicate 4096 0)) ⟨0,0,4095,0,none⟩:=⟨by show 0<1;decide,by rw [zf3];show 2 ^ ones 4095≤4096;rw [zhJ];decide,fun _ _ _ h=>nomatch h⟩
def zeG:Sp:=fun vs H Q _=>vs=[]∧∀ X,Same H X→Q (.bl true) X
theorem zeY {f:Addr}{cs:Nat→Addr}{fd:FuncData}(F:Fun K "_law_great" "_law_great" zb6 f fd)(T:Blt mg)(GMStore_1:Mak P w K mg base 3 "Store" (cs 0) [] (dP [.int 0]) (spMkSH (cs 0)))(GMLatch_0:Mak P w K mg base 3 "Latch" (cs 2) [] (dP [.int 0]) (spMk1H (cs 2) "latch"))(G_law_word:Cal P w K mg base 9 "_law_word" ["bits","rows","chips","floating"] (spWord32 cs)):FnOk P w K mg base CX0 10 f fd [] zeG:=by
 refine F.ok sc_law_great (by walk_at "l") (fun cdv A outer s H vs Q E hr h=>?_)
 ·obtain ⟨rfl,k⟩:=h
  refine ⟨_,(zaf (@ps_L _ _ _ _ _ _ 0 sc_law_great.nd (@zac _ _ _ _) (by rfl) (by exact Or.inl rfl) (by rfl) (by walk_at "p"))
   (zaf (@ps_L _ _ _ _ _ _ 1 sc_law_great.nd (@zav _ _ _ _ _ (@zaa _ _ _ _ _ (@zav _ _ _ _ _ (@zaa _ _ _ _ _ (@zac _ _ _ _) (@zaa _ _ _ _ _ (@zac _ _ _ _) (@zaa _ _ _ _ _ (@pv _ 0 _ _ (by rfl) (by walk_at "o") (by decide) (by decide)) (@zaa _ _ _ _ _ (@zac _ _ _ _) (@zaa _ _ _ _ _ (@za5 _ _ _) (@zae _) (by rfl)) (by rfl)) (by rfl)) (by rfl)) (by rfl))) (@zae _) (by rfl))) (by rfl) (by exact Or.inl rfl) (by rfl) (by walk_at "p"))
   (zaf (@ps_L _ _ _ _ _ _ 2 sc_law_great.nd (@zav _ _ _ _ _ (@zaa _ _ _ _ _ (@zav _ _ _ _ _ (@zaa _ _ _ _ _ (@zac _ _ _ _) (@zaa _ _ _ _ _ (@zac _ _ _ _) (@zaa _ _ _ _ _ (@zaj _ _ _ _ _ _ _ _ zaH (@zaj _ _ _ _ _ _ _ _ zce (@zac _ _ _ _) (@pv _ 0 _ _ (by rfl) (by walk_at "o") (by decide) (by decide))) (@zac _ _ _ _)) (@zaa _ _ _ _ _ (@zac _ _ _ _) (@zaa _ _ _ _ _ (@za5 _ _ _) (@zae _) (by rfl)) (by rfl)) (by rfl)) (by rfl)) (by rfl))) (@zae _) (by rfl))) (by rfl) (by exact Or.inl rfl) (by rfl) (by walk_at "p"))
   (zaf (@ps_L _ _ _ _ _ _ 3 sc_law_great.nd (@zdn _ _ _ _ _ _ _ _ _ _ _ GMStore_1 (hrm hr) rfl (@zaa _ _ _ _ _ (@zac _ _ _ _) (@zae _) (by rfl)) (by decide) (by rfl) (by rfl)) (by rfl) (by exact Or.inl rfl) (by rfl) (by walk_at "p"))
   (zaf (@ps_L _ _ _ _ _ _ 4 sc_law_great.nd (@zaq _ _ _ _ (@zaa _ _ _ _ _ (@zaZ _ _ _ _) (@zaa _ _ _ _ _ (@zaZ _ _ _ _) (@zaa _ _ _ _ _ (@zaZ _ _ _ _) (@zaa _ _ _ _ _ (@zaZ _ _ _ _) (@zae _) (by rfl)) (by rfl)) (by rfl)) (by rfl))) (by rfl) (by exact Or.inl rfl) (by rfl) (by walk_at "p"))
   (zaf (@ps_L _ _ _ _ _ _ 5 sc_law_great.nd (@zav _ _ _ _ _ (@zaa _ _ _ _ _ (@zav _ _ _ _ _ (@zaa _ _ _ _ _ (@zac _ _ _ _) (@zaa _ _ _ _ _ (@zac _ _ _ _) (@zaa _ _ _ _ _ (@zac _ _ _ _) (@zaa _ _ _ _ _ (@zac _ _ _ _) (@zaa _ _ _ _ _ (@za5 _ _ _) (@zae _) (by rfl)) (by rfl)) (by rfl)) (by rfl)) (by rfl))) (@zaa _ _ _ _ _ (@zav _ _ _ _ _ (@zaa _ _ _ _ _ (@zac _ _ _ _) (@zaa _ _ _ _ _ (@zac _ _ _ _) (@zaa _ _ _ _ _ (@zac _ _ _ _) (@zaa _ _ _ _ _ (@zac _ _ _ _) (@zaa _ _ _ _ _ (@za5 _ _ _) (@zae _) (by rfl)) (by rfl)) (by rfl)) (by rfl)) (by rfl))) (@zae _) (by rfl)) (by rfl))) (by rfl) (by exact Or.inl rfl) (by rfl) (by walk_at "p"))
   (zaf (@zaA _ _ _ _ _ _ _ _ (@PW.pt _ _ _ (@zbN _ _ _ _ _ _ _ (@zan _ _ _ _ _ _ _ _ (zel (XaP (zcf hr)) (K:=K) rfl) (@pe_c _ _ _ _ _ _ _ _ _ _ G_law_word (@zaa _ _ _ _ _ (@zac _ _ _ _) (@zaa _ _ _ _ _ (@pv _ 5 _ _ (by rfl) (by walk_at "o") (by decide) (by decide)) (@zaa _ _ _ _ _ (@zaq _ _ _ _ (@zaa _ _ _ _ _ (@zhD _ _ _ _ _ _ _ _ GMLatch_0 (hrm hr) rfl (by decide)) (@zae _) (by rfl))) (@zaa _ _ _ _ _ (@zac _ _ _ _) (@zae _) (by rfl)) (by rfl)) (by rfl)) (by rfl)) (by exact hrm ( by assumption )) (by rfl) (by decide) (by rfl) (by rfl)) (@pv _ 4 _ _ (by rfl) (by walk_at "o") (by decide) (by decide)) (zar _)) (@zbm _ _ _ _ (@zan _ _ _ _ _ _ _ _ (zel (XaP (zcf hr)) (K:=K) rfl) (@pe_c _ _ _ _ _ _ _ _ _ _ G_law_word (@zaa _ _ _ _ _ (@zac _ _ _ _) (@zaa _ _ _ _ _ (@pv _ 5 _ _ (by rfl) (by walk_at "o") (by decide) (by decide)) (@zaa _ _ _ _ _ (@zaq _ _ _ _ (@zaa _ _ _ _ _ (@zhD _ _ _ _ _ _ _ _ GMLatch_0 (hrm hr) rfl (by decide)) (@zae _) (by rfl))) (@zaa _ _ _ _ _ (@zac _ _ _ _) (@zae _) (by rfl)) (by rfl)) (by rfl)) (by rfl)) (by exact hrm ( by assumption )) (by rfl) (by decide) (by rfl) (by rfl)) (@pv _ 4 _ _ (by rfl) (by walk_at "o") (by decide) (by decide)) (zar _))))) (@zag _ _ _ (@zas _ _ _ _ (@zaZ _ _ _ _))) (@zap _))
   (zaf (@zaA _ _ _ _ _ _ _ _ (@PW.pt _ _ _ (@zbN _ _ _ _ _ _ _ (@zan _ _ _ _ _ _ _ _ (zem (XaP (zcf hr)) (K:=K) rfl) (@pe_c _ _ _ _ _ _ _ _ _ _ G_law_word (@zaa _ _ _ _ _ (@zac _ _ _ _) (@zaa _ _ _ _ _ (@pv _ 1 _ _ (by rfl) (by walk_at "o") (by decide) (by decide)) (@zaa _ _ _ _ _ (@zaq _ _ _ _ (@zaa _ _ _ _ _ (@pv _ 3 _ _ (by rfl) (by walk_at "o") (by decide) (by decide)) (@zae _) (by rfl))) (@zaa _ _ _ _ _ (@zac _ _ _ _) (@zae _) (by rfl)) (by rfl)) (by rfl)) (by rfl)) (by exact hrm ( by assumption )) (by rfl) (by decide) (by rfl) (by rfl)) (@zaq _ _ _ _ (@zae _)) (zar _)) (@zbm _ _ _ _ (@zan _ _ _ _ _ _ _ _ (zel (XaP (zcf hr)) (K:=K) rfl) (@pe_c _ _ _ _ _ _ _ _ _ _ G_law_word (@zaa _ _ _ _ _ (@zac _ _ _ _) (@zaa _ _ _ _ _ (@pv _ 2 _ _ (by rfl) (by walk_at "o") (by decide) (by decide)) (@zaa _ _ _ _ _ (@zaq _ _ _ _ (@zaa _ _ _ _ _ (@pv _ 3 _ _ (by rfl) (by walk_at "o") (by decide) (by decide)) (@zae _) (by rfl))) (@zaa _ _ _ _ _ (@zac _ _ _ _) (@zae _) (by rfl)) (by rfl)) (by rfl)) (by rfl)) (by exact hrm ( by assumption )) (by rfl) (by decide) (by rfl) (by rfl)) (@pv _ 4 _ _ (by rfl) (by walk_at "o") (by decide) (by decide)) (zar _))))) (@zag _ _ _ (@zas _ _ _ _ (@zaZ _ _ _ _))) (@zap _))
   (zag (@zas _ _ _ _ (@zbP _ _ _ _ _ _ _ (@za3 _ _ _ _ _ _ _ _ (zhI (XaP (zcf hr)) (K:=K) rfl) (@pe_c _ _ _ _ _ _ _ _ _ _ G_law_word (@zaa _ _ _ _ _ (@zac _ _ _ _) (@zaa _ _ _ _ _ (@pv _ 1 _ _ (by rfl) (by walk_at "o") (by decide) (by decide)) (@zaa _ _ _ _ _ (@zaq _ _ _ _ (@zaa _ _ _ _ _ (@zdn _ _ _ _ _ _ _ _ _ _ _ GMStore_1 (hrm hr) rfl (@zaa _ _ _ _ _ (@zac _ _ _ _) (@zae _) (by rfl)) (by decide) (by rfl) (by rfl)) (@zae _) (by rfl))) (@zaa _ _ _ _ _ (@zac _ _ _ _) (@zae _) (by rfl)) (by rfl)) (by rfl)) (by rfl)) (by exact hrm ( by assumption )) (by rfl) (by decide) (by rfl) (by rfl)) (@pv _ 4 _ _ (by rfl) (by walk_at "o") (by decide) (by decide)) (zar _)) (@zbJ _ _ _ _ _ (@za3 _ _ _ _ _ _ _ _ (zhI (XaP (zcf hr)) (K:=K) rfl) (@pe_c _ _ _ _ _ _ _ _ _ _ G_law_word (@zaa _ _ _ _ _ (@zac _ _ _ _) (@zaa _ _ _ _ _ (@zav _ _ _ _ _ (@zaa _ _ _ _ _ (@zav _ _ _ _ _ (@zaa _ _ _ _ _ (@zac _ _ _ _) (@zaa _ _ _ _ _ (@zac _ _ _ _) (@zaa _ _ _ _ _ (@zac _ _ _ _) (@zaa _ _ _ _ _ (@zac _ _ _ _) (@zaa _ _ _ _ _ (@za5 _ _ _) (@zae _) (by rfl)) (by rfl)) (by rfl)) (by rfl)) (by rfl))) (@zae _) (by rfl))) (@zaa _ _ _ _ _ (@zaq _ _ _ _ (@zae _)) (@zaa _ _ _ _ _ (@zac _ _ _ _) (@zae _) (by rfl)) (by rfl)) (by rfl)) (by rfl)) (by exact hrm ( by assumption )) (by rfl) (by decide) (by rfl) (by rfl)) (@pv _ 4 _ _ (by rfl) (by walk_at "o") (by decide) (by decide)) (zar _)))))))))))))),?rd⟩
  try dsimp only [zaE,List.set]
  refine ⟨_,rfl,by show 5≤sizeLine;decide,fun r1 hr1=>⟨by show 1≤sizeLine;decide,fun R1 hR1=>?_⟩⟩
  have q1:=zad (o:=.tup [.int 0,.int 0,.int 4095,.int 0,.non]) hr1
  have q2:=zad (o:=.tup [.ref r1]) hR1
  have e1:=q2 _ _ (zab (H:=H) (a:=r1) (o:=.tup [.int 0,.int 0,.int 4095,.int 0,.non]))
  have e2:=zab (H:=upd H r1 (.tup [.int 0,.int 0,.int 4095,.int 0,.non])) (a:=R1) (o:=.tup [.ref r1])
  have s1:=q1.trans q2
  generalize upd (upd H r1 (.tup [.int 0,.int 0,.int 4095,.int 0,.non])) R1 (.tup [.ref r1])=X1 at *
  clear q1 q2 hr1 hR1
  try dsimp only [zaE,List.set]
  refine ⟨_,rfl,_,_,rfl,rfl,zcQ (by decide) (by decide),_,_,rfl,rfl,by show 5≤sizeLine;decide,fun r2 hr2=>⟨by show 1≤sizeLine;decide,fun R2 hR2=>?_⟩⟩
  have q1:=zad (o:=.tup [.int 0,.int 0,.int ((2:Int) * 4095+1),.int 0,.non]) hr2
  have q2:=zad (o:=.tup [.ref r2]) hR2
  have e3:=q2 _ _ (zab (H:=X1) (a:=r2) (o:=.tup [.int 0,.int 0,.int ((2:Int) * 4095+1),.int 0,.non]))
  have e4:=zab (H:=upd X1 r2 (.tup [.int 0,.int 0,.int ((2:Int) * 4095+1),.int 0,.non])) (a:=R2) (o:=.tup [.ref r2])
  have s2:=q1.trans q2
  replace e1:=s2 _ _ e1
  replace e2:=s2 _ _ e2
  replace s1:=s1.trans s2
  generalize upd (upd X1 r2 (.tup [.int 0,.int 0,.int ((2:Int) * 4095+1),.int 0,.non])) R2 (.tup [.ref r2])=X2 at *
  clear q1 q2 hr2 hR2 s2
  try dsimp only [zaE,List.set]
  obtain ⟨N,hN⟩:∃ N:Nat,N=4096:=⟨_,rfl⟩
  refine fun x dx hx hdx ne=>⟨x,dx,N,0,by rw [hN];rfl,by omega,by omega,by decide,by decide,zab,fun p Z1 hp ex el kp=>⟨rfl,?_⟩⟩
  have ch:=zeF (cs:=cs) ex el (by omega) (by omega)
  have sx:=zaW hx hdx ne kp
  replace e1:=sx _ _ e1
  replace e2:=sx _ _ e2
  replace e3:=sx _ _ e3
  replace e4:=sx _ _ e4
  replace s1:=s1.trans sx
  clear kp ex el hp sx
  try dsimp only [zaE,List.set]
  refine ⟨by show 4≤sizeLine;decide,fun F hF=>?_⟩
  have sF:=zad (o:=.lst [.bl true,.bl false,.bl true,.bl false]) hF
  have eF:=zab (H:=Z1) (a:=F) (o:=.lst [.bl true,.bl false,.bl true,.bl false])
  refine ⟨by show 5≤sizeLine;decide,fun t1 ht1=>⟨by show 5≤sizeLine;decide,fun t2 ht2=>⟨by show 2≤sizeLine;decide,fun T2 hT2=>?_⟩⟩⟩
  have sa:=zad (o:=.tup [.int 0,.int 0,.int 0,.int 0,.non]) ht1
  have sb:=zad (o:=.tup [.int 0,.int 0,.int 0,.int 0,.non]) ht2
  have sc:=zad (o:=.tup [.ref t1,.ref t2]) hT2
  have a1:=(sb.trans sc) _ _ zab
  have a2:=sc _ _ zab
  have a3:=zab (H:=upd (upd (upd Z1 F (.lst [.bl true,.bl false,.bl true,.bl false])) t1 (.tup [.int 0,.int 0,.int 0,.int 0,.non])) t2 (.tup [.int 0,.int 0,.int 0,.int 0,.non])) (a:=T2) (o:=.tup [.ref t1,.ref t2])
  have sd:=(sa.trans sb).trans sc
  replace eF:=sd _ _ eF
  have se:=sF.trans sd
  replace e1:=se _ _ e1
  replace e2:=se _ _ e2
  replace e3:=se _ _ e3
  replace e4:=se _ _ e4
  replace ch:=ch.same se
  replace s1:=s1.trans se
  generalize upd (upd (upd (upd Z1 F (.lst [.bl true,.bl false,.bl true,.bl false])) t1 (.tup [.int 0,.int 0,.int 0,.int 0,.non])) t2 (.tup [.int 0,.int 0,.int 0,.int 0,.non])) T2 (.tup [.ref t1,.ref t2])=X at *
  clear sa sb sc sd se sF hF ht1 ht2 hT2
  try dsimp only [zaE,List.set]
  
  refine ⟨_,rfl,fun y dy hy hdy ny=>⟨y,dy,0,rfl,by decide,by decide,zab,fun q Z2 hq ey ely kq=>⟨rfl,?_⟩⟩⟩
  have ch2:=ze4 (cs:=cs) ey ely
  have sy:=zaW hy hdy ny kq
  refine ⟨by show 1≤sizeLine;decide,fun L hL=>?_⟩
  have sL:=zad (o:=.lst [.ref y]) hL
  have eL:=zab (H:=Z2) (a:=L) (o:=.lst [.ref y])
  have sz:=sy.trans sL
  have dv:=zbD eL (sz _ _ a3) (zjl (zbB (sz _ _ a1)) (zbB (sz _ _ a2)) (zcO (by decide)) (zcO (by decide)))
  refine ⟨L,L,17,0,_,_,oneD y q 2 0 [0],_,[true,false,true,false],rfl,by decide,by decide,dv,by show 2≤300;decide,eL,ch2.same sL,.inl ⟨fun ⟨m,rs,e,h1,h2,_⟩=>by omega,rfl⟩,fun b1 H1 hb1 eb1 sb1=>?_⟩
  have so:=sz.trans sb1
  refine ⟨_,rfl,b1,F,_,rfl,rfl,SqL.of eb1,SqL.of (so _ _ eF),false,rfl,iteF ?_⟩
  replace e1:=so _ _ e1
  replace e2:=so _ _ e2
  replace e3:=so _ _ e3
  replace e4:=so _ _ e4
  replace a1:=so _ _ a1
  replace a2:=so _ _ a2
  replace a3:=so _ _ a3
  replace eF:=so _ _ eF
  replace ch:=ch.same so
  replace s1:=s1.trans so
  clear so sz sy sL sb1 eb1 hb1 hL ely ey kq hq hy hdy ny eL dv ch2
  
  refine ⟨_,rfl,fun y dy hy hdy ny=>⟨y,dy,0,rfl,by decide,by decide,zab,fun q Z2 hq ey ely kq=>⟨rfl,?_⟩⟩⟩
  have ch2:=ze4 (cs:=cs) ey ely
  have sy:=zaW hy hdy ny kq
  refine ⟨by show 1≤sizeLine;decide,fun L hL=>?_⟩
  have sL:=zad (o:=.lst [.ref y]) hL
  have eL:=zab (H:=Z2) (a:=L) (o:=.lst [.ref y])
  have sz:=sy.trans sL
  have dv:=zbD eL (sz _ _ a3) (zjl (zbB (sz _ _ a1)) (zbB (sz _ _ a2)) (zcO (by decide)) (zcO (by decide)))
  refine ⟨L,L,0,256,_,_,oneD y q 2 0 [0],_,[true,false,true,false],rfl,by decide,by decide,dv,by show 2≤300;decide,eL,ch2.same sL,.inl ⟨fun ⟨m,rs,e,h1,h2,_⟩=>by omega,rfl⟩,fun b1 H1 hb1 eb1 sb1=>?_⟩
  have so:=sz.trans sb1
  refine ⟨_,rfl,b1,F,_,rfl,rfl,SqL.of eb1,SqL.of (so _ _ eF),false,rfl,iteF ?_⟩
  replace e1:=so _ _ e1
  replace e2:=so _ _ e2
  replace e3:=so _ _ e3
  replace e4:=so _ _ e4
  replace eF:=so _ _ eF
  replace ch:=ch.same so
  replace s1:=s1.trans so
  clear a1 a2 a3 so sz sy sL sb1 eb1 hb1 hL ely ey kq hq hy hdy ny eL dv ch2
  subst hN
  
  refine ⟨_,rfl,_,rfl,by show 1≤sizeLine;decide,fun L hL=>?_⟩
  have sL:=zad (o:=.lst [.ref x]) hL
  have eL:=zab (H:=H1) (a:=L) (o:=.lst [.ref x])
  refine ⟨L,L,16,0,_,_,oneD x p 0 0 (List.replicate 4096 0),_,[],rfl,by decide,by decide,zbD (ws:=[(r1,⟨0,0,4095,0,none⟩)]) eL (sL _ _ e2) (zeU (zbB (sL _ _ e1)) (zcO (by decide))),by show 1≤300;decide,eL,ch.same sL,.inr ⟨16,R1,[(r1,⟨0,0,4095,0,none⟩)],rfl,rfl,by decide,by decide,zj2 (sL _ _ e2) (zbB (sL _ _ e1)) (zcO (by decide)) fit_12,rfl,(if_pos ⟨by decide,by decide⟩).symm⟩,fun b1 H1 hb1 eb1 sb1=>?_⟩
  refine ⟨by show 0≤sizeLine;decide,fun g hg=>?_⟩
  have sg:=zad (o:=.lst []) hg
  have so:=(sL.trans sb1).trans sg
  refine ⟨b1,g,_,rfl,rfl,SqL.of (sg _ _ eb1),SqL.of zab,false,rfl,iteF ?_⟩
  replace e1:=so _ _ e1
  replace e2:=so _ _ e2
  replace e3:=so _ _ e3
  replace e4:=so _ _ e4
  replace eF:=so _ _ eF
  replace ch:=ch.same so
  replace s1:=s1.trans so
  generalize upd H1 g (.lst [])=Y at *
  clear so sL sb1 eb1 hb1 hL eL sg hg
  
  refine ⟨_,rfl,_,rfl,by show 1≤sizeLine;decide,fun L hL=>?_⟩
  have sL:=zad (o:=.lst [.ref x]) hL
  have eL:=zab (H:=Y) (a:=L) (o:=.lst [.ref x])
  refine ⟨L,L,16,0,_,_,oneD x p 0 0 (List.replicate 4096 0),_,[true,false,true,false],rfl,by decide,by decide,zbD (ws:=[(r2,⟨0,0,8191,0,none⟩)]) eL (sL _ _ e4) (zeU (zbB (sL _ _ e3)) (zcO (by decide))),by show 1≤300;decide,eL,ch.same sL,.inl ⟨zin (r:=⟨0,0,8191,0,none⟩) (rs:=[⟨0,0,8191,0,none⟩]) XaE (zjy (by rw [zkh];decide)),rfl⟩,fun b1 H2 hb1 eb1 sb1=>?_⟩
  have so:=sL.trans sb1
  refine ⟨_,rfl,b1,F,_,rfl,rfl,SqL.of eb1,SqL.of (so _ _ eF),false,rfl,iteF ?_⟩
  replace e1:=so _ _ e1
  replace e2:=so _ _ e2
  replace e3:=so _ _ e3
  replace e4:=so _ _ e4
  replace eF:=so _ _ eF
  replace s1:=s1.trans so
  clear so sL sb1 eb1 hb1 hL eL ch e3 e4
  
  obtain ⟨N,hN⟩:∃ N:Nat,N=4095:=⟨_,rfl⟩
  refine ⟨_,rfl,fun y dy hy hdy ny=>⟨y,dy,N,0,by rw [hN];rfl,by omega,by omega,by decide,by decide,zab,fun q Z2 hq ey ely kq=>⟨rfl,?_⟩⟩⟩
  have ch2:=zeF (cs:=cs) ey ely (by omega) (by omega)
  have sy:=zaW hy hdy ny kq
  refine ⟨by show 1≤sizeLine;decide,fun L hL=>?_⟩
  have sL:=zad (o:=.lst [.ref y]) hL
  have eL:=zab (H:=Z2) (a:=L) (o:=.lst [.ref y])
  have sz:=sy.trans sL
  refine ⟨L,L,16,0,_,_,oneD y q 0 0 (List.replicate N 0),_,[true,false,true,false],rfl,by decide,by decide,zbD (ws:=[(r1,⟨0,0,4095,0,none⟩)]) eL (sz _ _ e2) (zeU (zbB (sz _ _ e1)) (zcO (by decide))),by show 1≤300;decide,eL,ch2.same sL,.inl ⟨zin (r:=⟨0,0,4095,0,none⟩) (rs:=[⟨0,0,4095,0,none⟩]) XaE (zjy (by rw [zhJ,hN];decide)),rfl⟩,fun b1 H3 hb1 eb1 sb1=>?_⟩
  have so:=sz.trans sb1
  refine ⟨_,rfl,b1,F,_,rfl,rfl,SqL.of eb1,SqL.of (so _ _ eF),_,rfl,iteT ?_⟩
  replace eF:=so _ _ eF
  replace s1:=s1.trans so
  clear so sz sy sL sb1 eb1 hb1 hL ely ey kq hq hy hdy ny eL ch2 e1 e2
  
  refine ⟨by show 5≤sizeLine;decide,fun u1 hu1=>⟨by show 1≤sizeLine;decide,fun U hU=>⟨by show 0≤sizeLine;decide,fun L hL=>?_⟩⟩⟩
  have q1:=zad (o:=.tup [.int 1,.int 1,.int 0,.int 0,.non]) hu1
  have q2:=zad (o:=.tup [.ref u1]) hU
  have q3:=zad (o:=.lst []) hL
  have e1:=(q2.trans q3) _ _ (zab (H:=H3) (a:=u1) (o:=.tup [.int 1,.int 1,.int 0,.int 0,.non]))
  have e2:=q3 _ _ (zab (H:=upd H3 u1 (.tup [.int 1,.int 1,.int 0,.int 0,.non])) (a:=U) (o:=.tup [.ref u1]))
  have sz:=(q1.trans q2).trans q3
  refine ⟨L,L,16,0,_,_,noD,_,[true,false,true,false],rfl,by decide,by decide,zbD (ws:=[(u1,⟨1,1,0,0,none⟩)]) zab e2 (zeU (zbB e1) ⟨by show 1<2 ^ 16;decide,by show 1<2 ^ 16;decide,by decide,by show 0<2 ^ 16;decide,by decide,by show 0<100;decide,trivial⟩),by show 1≤300;decide,zab,no_chs,.inl ⟨zin (r:=⟨1,1,0,0,none⟩) (rs:=[⟨1,1,0,0,none⟩]) XaE (fun g=>absurd g.1 (Xbd _)),rfl⟩,fun b1 H4 hb1 eb1 sb1=>?_⟩
  have so:=sz.trans sb1
  exact ⟨_,rfl,b1,F,_,rfl,rfl,SqL.of eb1,SqL.of (so _ _ eF),k _ (s1.trans so)⟩
abbrev zcD:Stmt:=top 82
theorem sc_law_held:FnScope ["cell","row","bits","rows","chips","models","way","good","at","floating","handed","states","due"] ["cell"] (zak zcD):=sck rfl rfl rfl (by decide +kernel)
inductive spHeld32 (vs:List V)(H:Hp)(Q:VK)(u3_:XK):Prop
 | mk (c:Int) (z0_:vs=[.int c]) (z1_:∀ X,Same H X→Q (.bl true) X)
def Md32 (m:Nat)(cl:List Cm)(ws:List (Addr×Rw))(R ML:Addr)(g:Bool)(bits:Int)(v:V)(d:Cb.D)(X:Hp):Prop:=bits.natAbs<2 ^ 100∧Dv ML X v d∧tl d≤300∧((g=true∧bits=(m:Int)∧v = .ref R∧d = .tup (ws.map fun z=>zaI z.2))∨(g=false∧¬ MapFor (dtC cl) bits d))
theorem Md32.same {m:Nat}{cl:List Cm}{ws:List (Addr×Rw)}{R ML:Addr}{g:Bool}{bits:Int}{v:V}{d:Cb.D}{X Y:Hp}(h:Md32 m cl ws R ML g bits v d X)(s:Same X Y):Md32 m cl ws R ML g bits v d Y:=⟨h.1,h.2.1.same s,h.2.2.1,h.2.2.2⟩
theorem zkG (b:Nat):∃ n:Int,atI [V.int 0,.int 17,.int 64,.int ((2:Int) ^ ((63:Int)).toNat),.int (-1),.int (-16)] ((b:Int) % 6)=some (.int n)∧n.natAbs<2 ^ 100∧(n<1∨16<n):=by
 rw [show (b:Int) % 6=((b % 6:Nat):Int) by omega]
 have h:b % 6<6:=Xa0 _ (by decide)
 generalize b % 6=u at *
 have e63:(2:Int) ^ ((63:Int)).toNat=9223372036854775808:=by decide +kernel
 rw [e63]
 rcases (show u=0∨u=1∨u=2∨u=3∨u=4∨u=5 by omega) with rfl | rfl | rfl | rfl | rfl | rfl <;> exact ⟨_,rfl,by decide,by decide⟩
theorem fl4 (a b:Nat):∃ n:Int,atI [V.int 256,.int ((2:Int) ^ ((63:Int)).toNat),.int (-1),.int (-256)] ((b:Int) / 3 % 4)=some (.int n)∧n.natAbs<2 ^ 100:=by
 rw [show (b:Int) / 3 % 4=((b / 3 % 4:Nat):Int) by omega]
 have h:b / 3 % 4<4:=Xa0 _ (by decide)
 generalize b / 3 % 4=u at *
 have e63:(2:Int) ^ ((63:Int)).toNat=9223372036854775808:=by decide +kernel
 rw [e63]
 rcases (show u=0∨u=1∨u=2∨u=3 by omega) with rfl | rfl | rfl | rfl <;> exact ⟨_,rfl,by decide⟩
theorem slT2 {a:Addr}{xs:List V}{lo hi:Option Int}{H:Hp}{Q:VK}(e:H a=some (.tup xs))(k:∀ p X,Same H X→X p=some (.tup (cutV xs lo hi))→Q (.ref p) X):rSlT2 K (.ref a) lo hi H Q:=⟨a,xs,rfl,SqT.of e,fun h=>k a H (Same.refl _) (by rw [h];exact e),fun p hp=>k p _ (zad hp) zab⟩
theorem catT2 {a b:Addr}{xs ys:List V}{H:Hp}{Q:VK}(e1:H a=some (.tup xs))(e2:H b=some (.tup ys))(hl:xs.length+ys.length≤sizeLine)(k:∀ p X,Same H X→X p=some (.tup (xs ++ ys))→Q (.ref p) X):rCatT2 K (.ref a) (.ref b) H Q:=⟨a,b,xs,ys,rfl,rfl,SqT.of e1,SqT.of e2,hl,fun h=>k b H (Same.refl _) (by rw [h];exact e2),fun h=>k a H (Same.refl _) (by rw [h,Xbb];exact e1),fun p hp=>k p _ (zad hp) zab⟩
theorem zh6 {p:Addr}{X:Hp}{xs ys:List V}{ds es:List Cb.D}(l:xs.length=ds.length)(h1:∀ (i:Nat) (x:V) (d:Cb.D),xs[i]? = some x→ds[i]? = some d→Dv p X x d)(h2:∀ (i:Nat) (x:V) (d:Cb.D),ys[i]? = some x→es[i]? = some d→Dv p X x d):∀ (i:Nat) (x:V) (d:Cb.D),(xs ++ ys)[i]? = some x→(ds ++ es)[i]? = some d→Dv p X x d:=fun i x d hx hd=>by
 by_cases hi:i<xs.length
 ·rw [Xbx hi] at hx
  rw [Xbx (by omega)] at hd
  exact h1 _ _ _ hx hd
 ·rw [List.getElem?_append_right (by omega)] at hx hd
  rw [l] at hx
  exact h2 _ _ _ hx hd
theorem zgl {p:Addr}{l:List V}{m:Nat}{X:Hp}{zs:List (Addr×Rw)}(eM:X p=some (.lst l))(h:∀ z∈zs,RwAt X z.1 z.2):∀ (i:Nat) (x:V) (d:Cb.D),(refs zs)[i]? = some x→(zs.map fun z=>zaI z.2)[i]? = some d→Dv p X x d:=fun i x d hx hd=>by
 obtain ⟨z,hz,rfl⟩:=zbC hx
 rw [Xat,hz] at hd
 cases hd
 exact zho eM (h z (XaB hz))
theorem ziZ {p z1 z2 z3 z4:Addr}{X:Hp}(b:Nat)(c1:X z1=some (.lst []))(c2:X z2=some (.tup []))(c3:X z3=some (.tup [.ref z2]))(c4:X z4=some (.tup [.non]))(n1:z1≠p)(n2:z2≠p)(n3:z3≠p)(n4:z4≠p):∃ (v:V) (d:Cb.D),atI [V.non,.ref z1,.int 0,.str "",.ref z3,.ref z4] ((b:Int) % 6)=some v∧Dv p X v d∧tl d≤300∧∀ D bits,¬ MapFor D bits d:=by
 have one:∀ {d:Cb.D} {rs:List Rw},Cb.D.tup [d] = .tup (rs.map zaI)→∃ r,d=zaI r:=fun {d rs} e=>by
  cases rs with
  | nil=>cases e
  | cons r rs=>exact ⟨r,(List.cons.inj (Cb.D.tup.inj e)).1⟩
 rw [show (b:Int) % 6=((b % 6:Nat):Int) by omega]
 have h:b % 6<6:=Xa0 _ (by decide)
 generalize b % 6=u at *
 have t0:Dv p X (.ref z2) (.tup []):=.tup c2 n2 rfl fun i x d hx _=>(by simp at hx)
 rcases (show u=0∨u=1∨u=2∨u=3∨u=4∨u=5 by omega) with rfl | rfl | rfl | rfl | rfl | rfl
 ·exact ⟨_,_,rfl,.non,by decide,fun D bits h=>by obtain ⟨m,rs,_,_,_,e,_⟩:=h;cases e⟩
 ·exact ⟨_,_,rfl,.lst c1 n1,by decide,fun D bits h=>by obtain ⟨m,rs,_,_,_,e,_⟩:=h;cases e⟩
 ·exact ⟨_,_,rfl,.int _,by decide,fun D bits h=>by obtain ⟨m,rs,_,_,_,e,_⟩:=h;cases e⟩
 ·exact ⟨_,_,rfl,.str _,by decide,fun D bits h=>by obtain ⟨m,rs,_,_,_,e,_⟩:=h;cases e⟩
 ·refine ⟨_,.tup [.tup []],rfl,.tup c3 n3 rfl fun i x d hx hd=>?_,by decide,fun D bits h=>?_⟩
  ·obtain rfl:i=0:=by have:=(Xae.mp hx).1;simp at this;omega
   cases hx;cases hd;exact t0
  ·obtain ⟨m,rs,_,_,_,e,_⟩:=h
   obtain ⟨r,e⟩:=one e
   unfold zaI at e;cases e
 ·refine ⟨_,.tup [.non],rfl,.tup c4 n4 rfl fun i x d hx hd=>?_,by decide,fun D bits h=>?_⟩
  ·obtain rfl:i=0:=by have:=(Xae.mp hx).1;simp at this;omega
   cases hx;cases hd;exact .non
  ·obtain ⟨m,rs,_,_,_,e,_⟩:=h
   obtain ⟨r,e⟩:=one e
   unfold zaI at e;cases e
def StL (cl:List Cm)(X:Hp)(j:Nat)(ys:List V):Prop:=ys.length=j∧∀ i,i<j→∃ q,ys[i]? = some (.ref q)∧X q=some (.tup (vN (cl.getD i dfCm).us))
theorem zhh {CL:Addr}{cs:Nat→Addr}{H:Hp}{cl:List Cm}{Q:List V→Hp→Prop}(MS:∀ kd,kd<5→Mth P w K mg base 1 (cs kd) "state" [] (fun vs _=>vs) (spState (cs kd)))(eL:H CL=some (.lst (cl.map fun c=>.ref c.x)))(hC:CMs cs H cl)(c9:cl.length≤9)(k:∀ ys X,Same H X→StL cl X cl.length ys→Q ys X) :
  zeA (Itl K CL) (zaE 0) tYes (tMth P w K mg base 1 "state" [] (tVar 0) tNil tNil) Q [none] H:=by
 refine zdI (K:=K) (a:=CL) (xs:=cl.map fun c=>V.ref c.x) (fun j ys σ Y=>∃ (v0:Option V),σ=[v0]∧StL cl Y j ys∧Same H Y) (by rw [Xah];exact Xar c9 (by decide)) ⟨none,rfl,⟨rfl,fun i hi=>absurd hi (Xbd _)⟩,Same.refl _⟩ ?_ ?_ ?_
 ·rintro j ys σ Y hj ⟨_,_,hl,sY⟩
  exact ⟨SqL.of (sY _ _ eL),Nat.le_of_eq hl.1⟩
 ·rintro j x ys σ Y hx ⟨v0,rfl,hl,sY⟩
  have hj:j<cl.length:=by have:=(Xae.mp hx).1;rwa [Xah] at this
  rw [Xat,(za6 hj).2] at hx
  cases hx
  have okj:=(hC.same sY).o _ (za6 hj).1
  obtain ⟨dx,ex⟩:=okj.ch.ex
  refine ⟨_,rfl,(cl.getD j dfCm).x,cs (cl.getD j dfCm).kd,dx,_,_,_,rfl,ex,MS _ okj.k.k5,lkn _,_,_,_,_,rfl,okj.ch.ob,fun q hq=>?_⟩
  have sq:=zad (o:=.tup (vN (cl.getD j dfCm).us)) hq
  refine ⟨_,rfl,⟨by rw [Xaq,hl.1];rfl,fun i hi=>?_⟩,sY.trans sq⟩
  by_cases hij:i<j
  ·obtain ⟨q',e1,e2⟩:=hl.2 i hij
   exact ⟨q',by rw [Xbx (by rw [hl.1];exact hij)];exact e1,sq _ _ e2⟩
  ·obtain rfl:i=j:=by omega
   exact ⟨q,by rw [List.getElem?_append_right (by rw [hl.1];exact Xaf _),hl.1,Nat.sub_self];rfl,zab⟩
 ·rintro ys σ Y ⟨v0,rfl,hl,sY⟩
  rw [Xah] at hl
  exact k ys Y sY hl
theorem StL.same {cl:List Cm}{X Y:Hp}{j:Nat}{ys:List V}(h:StL cl X j ys)(s:Same X Y):StL cl Y j ys:=⟨h.1,fun i hi=>by obtain ⟨q,e1,e2⟩:=h.2 i hi;exact ⟨q,e1,s _ _ e2⟩⟩
theorem StL.eqv {cl:List Cm}{X:Hp}{ys zs:List V}(h1:StL cl X cl.length ys)(h2:StL cl X cl.length zs):∀ (i:Nat) (x y:V),ys[i]? = some x→zs[i]? = some y→Eqv K X 8 x y:=fun i x y hx hy=>by
 have hi:i<cl.length:=by have:=(Xae.mp hx).1;rwa [h1.1] at this
 obtain ⟨q,e1,e2⟩:=h1.2 i hi
 obtain ⟨r,f1,f2⟩:=h2.2 i hi
 rw [e1] at hx;cases hx
 rw [f1] at hy;cases hy
 refine .tup (SqT.of e2) (SqT.of f2) rfl fun j x y h1 h2=>?_
 rw [h1] at h2;cases h2
 unfold vN at h1
 rw [Xat] at h1
 obtain ⟨n,_,rfl⟩:=XaJ.mp h1
 exact .int _ _
theorem zfM {f:Addr}{cs:Nat→Addr}{fd:FuncData}(F:Fun K "_law_held" "_law_held" zcD f fd)(T:Blt mg)(G_law_draws:Cal P w K mg base 1 "_law_draws" ["cell","count"] spDraws)(G_law_board:Cal P w K mg base 7 "_law_board" ["row"] (spBoard34 cs))(G_law_bad_row:Cal P w K mg base 2 "_law_bad_row" ["rows","bits","models","r"] (spBad32 cs))(G_law_word:Cal P w K mg base 9 "_law_word" ["bits","rows","chips","floating"] (spWord32 cs))(G_law_field:Cal P w K mg base 9 "_law_field" ["bits","rows","chips","floating"] (spField32 cs))
  (MS:∀ kd,kd<5→Mth P w K mg base 1 (cs kd) "state" [] (fun vs _=>vs) (spState (cs kd))):FnOk P w K mg base CX0 10 f fd ["cell"] spHeld32:=by
 refine F.ok sc_law_held (by walk_at "l") (fun cdv A outer s H vs Q E hr h=>?_)
 ·obtain ⟨c,rfl,k⟩:=h
  refine' ⟨_,(zaf (@ps_L _ _ _ _ _ _ 1 sc_law_held.nd (@pe_c _ _ _ _ _ _ _ _ _ _ G_law_draws (@zaa _ _ _ _ _ (@pv _ 0 _ _ (by rfl) (by walk_at "o") (by decide) (by decide)) (@zaa _ _ _ _ _ (@zac _ _ _ _) (@zae _) (by rfl)) (by rfl)) (by exact hrm ( by assumption )) (by rfl) (by decide) (by rfl) (by rfl)) (by rfl) (by exact Or.inl rfl) (by rfl) (by walk_at "p"))
   (zaf (@zco _ _ _ _ _ _ (@pe_c _ _ _ _ _ _ _ _ _ _ G_law_board (@zaa _ _ _ _ _ (@pv _ 1 _ _ (by rfl) (by walk_at "o") (by decide) (by decide)) (@zae _) (by rfl)) (by exact hrm ( by assumption )) (by rfl) (by decide) (by rfl) (by rfl)) (@zbO _ _ _ _ _ _ rfl (@zau _ _ _ _ _ (@pg_L _ _ _ 2 sc_law_held.nd (by rfl) (by exact Or.inl rfl) (by walk_at "p")) (@zau _ _ _ _ _ (@pg_L _ _ _ 3 sc_law_held.nd (by rfl) (by exact Or.inl rfl) (by walk_at "p")) (@zau _ _ _ _ _ (@pg_L _ _ _ 4 sc_law_held.nd (by rfl) (by exact Or.inl rfl) (by walk_at "p")) (@zau _ _ _ _ _ (@pg_L _ _ _ 5 sc_law_held.nd (by rfl) (by exact Or.inl rfl) (by walk_at "p")) (@zbg _) (by rfl)) (by rfl)) (by rfl)) (by rfl)) (by rfl) (by rfl)) (by rfl) (by rfl) (by rfl))
   (zaf (@ps_L _ _ _ _ _ _ 6 sc_law_held.nd (@zaj _ _ _ _ _ _ _ _ zaw (@pe_x _ _ _ _ _ _ _ zal (@pv _ 1 _ _ (by rfl) (by walk_at "o") (by decide) (by decide)) (@zac _ _ _ _) (by exact fun _ _=>rfl)) (@zac _ _ _ _)) (by rfl) (by exact Or.inl rfl) (by rfl) (by walk_at "p"))
   (zaf (@ps_L _ _ _ _ _ _ 7 sc_law_held.nd (@za3 _ _ _ _ _ _ _ _ za8 (@pv _ 6 _ _ (by rfl) (by walk_at "o") (by decide) (by decide)) (@zac _ _ _ _) (zar _)) (by rfl) (by exact Or.inl rfl) (by rfl) (by walk_at "p"))
   (zaf (@zaA _ _ _ _ _ _ _ _ (@zan _ _ _ _ _ _ _ _ za8 (@pv _ 6 _ _ (by rfl) (by walk_at "o") (by decide) (by decide)) (@zac _ _ _ _) (zar _)) (@zag _ _ _ (@ps_L _ _ _ _ _ _ 2 sc_law_held.nd (@pe_x _ _ _ _ _ _ _ zal (@zaq _ _ _ _ (@zaa _ _ _ _ _ (@zac _ _ _ _) (@zaa _ _ _ _ _ (@zac _ _ _ _) (@zaa _ _ _ _ _ (@zac _ _ _ _) (@zaa _ _ _ _ _ (@zaj _ _ _ _ _ _ _ _ zdo (@zac _ _ _ _) (@zac _ _ _ _)) (@zaa _ _ _ _ _ (@zeh _ _ _ _ _ _ zcl (@zac _ _ _ _)) (@zaa _ _ _ _ _ (@zeh _ _ _ _ _ _ zcl (@zac _ _ _ _)) (@zae _) (by rfl)) (by rfl)) (by rfl)) (by rfl)) (by rfl)) (by rfl))) (@zaj _ _ _ _ _ _ _ _ zaw (@pe_x _ _ _ _ _ _ _ zal (@pv _ 1 _ _ (by rfl) (by walk_at "o") (by decide) (by decide)) (@zac _ _ _ _) (by exact fun _ _=>rfl)) (@zac _ _ _ _)) (by exact fun _ _=>rfl)) (by rfl) (by exact Or.inl rfl) (by rfl) (by walk_at "p"))) (@zag _ _ _ (@zaA _ _ _ _ _ _ _ _ (@PW.pt _ _ _ (@zeN _ _ _ _ _ _ _ (@zan _ _ _ _ _ _ _ _ zdp (@pv _ 6 _ _ (by rfl) (by walk_at "o") (by decide) (by decide)) (@zac _ _ _ _) (zar _)) (@zee _ _ _ _ (@zan _ _ _ _ _ _ _ _ (zkc (XaP (zcf hr)) (K:=K) rfl) (@pv _ 3 _ _ (by rfl) (by walk_at "o") (by decide) (by decide)) (@zav _ _ _ _ _ (@zae _)) (zar _))))) (@zag _ _ _ (@ps_L _ _ _ _ _ _ 3 sc_law_held.nd (@pe_x _ _ _ _ _ _ _ zal (@zaq _ _ _ _ (@zaa _ _ _ _ _ (@za5 _ _ _) (@zaa _ _ _ _ _ (@zaq _ _ _ _ (@zae _)) (@zaa _ _ _ _ _ (@zac _ _ _ _) (@zaa _ _ _ _ _ (@zaC _ _ _ _) (@zaa _ _ _ _ _ (@zav _ _ _ _ _ (@zaa _ _ _ _ _ (@zav _ _ _ _ _ (@zae _)) (@zae _) (by rfl))) (@zaa _ _ _ _ _ (@zav _ _ _ _ _ (@zaa _ _ _ _ _ (@za5 _ _ _) (@zae _) (by rfl))) (@zae _) (by rfl)) (by rfl)) (by rfl)) (by rfl)) (by rfl)) (by rfl))) (@zaj _ _ _ _ _ _ _ _ zaw (@pe_x _ _ _ _ _ _ _ zal (@pv _ 1 _ _ (by rfl) (by walk_at "o") (by decide) (by decide)) (@zac _ _ _ _) (by exact fun _ _=>rfl)) (@zac _ _ _ _)) (by exact fun _ _=>rfl)) (by rfl) (by exact Or.inl rfl) (by rfl) (by walk_at "p"))) (@zag _ _ _ (@zaA _ _ _ _ _ _ _ _ (@zan _ _ _ _ _ _ _ _ zdp (@pv _ 6 _ _ (by rfl) (by walk_at "o") (by decide) (by decide)) (@zac _ _ _ _) (zar _)) (@zaf _ _ _ _ _ (@ps_L _ _ _ _ _ _ 8 sc_law_held.nd (@zaj _ _ _ _ _ _ _ _ zaw (@pe_x _ _ _ _ _ _ _ zal (@pv _ 1 _ _ (by rfl) (by walk_at "o") (by decide) (by decide)) (@zac _ _ _ _) (by exact fun _ _=>rfl)) (@zaj _ _ _ _ _ _ _ _ zaH (@zao _ _ _ _ _ _ _ _ _ zam (by rfl) T.len PySem.boot_len (@zaa _ _ _ _ _ (@pv _ 3 _ _ (by rfl) (by walk_at "o") (by decide) (by decide)) (@zae _) (by rfl)) (by decide) (by decide) (by rfl) (by rfl)) (@zac _ _ _ _))) (by rfl) (by exact Or.inl rfl) (by rfl) (by walk_at "p")) (@zaf _ _ _ _ _ (@ps_L _ _ _ _ _ _ 3 sc_law_held.nd (@zaj _ _ _ _ _ _ _ _ (zge (K:=K) rfl) (@zaj _ _ _ _ _ _ _ _ (zge (K:=K) rfl) (@zaX _ _ _ _ _ _ _ _ _ _ (zd9 (K:=K) rfl) (@pv _ 3 _ _ (by rfl) (by walk_at "o") (by decide) (by decide)) (@zcG _) (@zaS _ _ _ (@pv _ 8 _ _ (by rfl) (by walk_at "o") (by decide) (by decide)))) (@zav _ _ _ _ _ (@zaa _ _ _ _ _ (@pe_c _ _ _ _ _ _ _ _ _ _ G_law_bad_row (@zaa _ _ _ _ _ (@pv _ 3 _ _ (by rfl) (by walk_at "o") (by decide) (by decide)) (@zaa _ _ _ _ _ (@pv _ 2 _ _ (by rfl) (by walk_at "o") (by decide) (by decide)) (@zaa _ _ _ _ _ (@pv _ 5 _ _ (by rfl) (by walk_at "o") (by decide) (by decide)) (@zaa _ _ _ _ _ (@zaX _ _ _ _ _ _ _ _ _ _ zcu (@pv _ 1 _ _ (by rfl) (by walk_at "o") (by decide) (by decide)) (@zaS _ _ _ (@zac _ _ _ _)) (@zaS _ _ _ (@zac _ _ _ _))) (@zae _) (by rfl)) (by rfl)) (by rfl)) (by rfl)) (by exact hrm (by assumption)) (by rfl) (by decide) (by rfl) (by rfl)) (@zae _) (by rfl)))) (@zaX _ _ _ _ _ _ _ _ _ _ (zd9 (K:=K) rfl) (@pv _ 3 _ _ (by rfl) (by walk_at "o") (by decide) (by decide)) (@zaS _ _ _ (@pv _ 8 _ _ (by rfl) (by walk_at "o") (by decide) (by decide))) (@zcG _))) (by rfl) (by exact Or.inl rfl) (by rfl) (by walk_at "p")) (@zag _ _ _ (@zaA _ _ _ _ _ _ _ _ (@zan _ _ _ _ _ _ _ _ za8 (@zaj _ _ _ _ _ _ _ _ zaw (@pe_x _ _ _ _ _ _ _ zal (@pv _ 1 _ _ (by rfl) (by walk_at "o") (by decide) (by decide)) (@zac _ _ _ _) (by exact fun _ _=>rfl)) (@zac _ _ _ _)) (@zac _ _ _ _) (zar _)) (@zag _ _ _ (@ps_L _ _ _ _ _ _ 3 sc_law_held.nd (@zaL _ _ _ _ _ _ _ _ _ zbo (by rfl) T.list zev (@zaa _ _ _ _ _ (@pv _ 3 _ _ (by rfl) (by walk_at "o") (by decide) (by decide)) (@zae _) (by rfl)) (by decide) (by decide) (by rfl) (by rfl)) (by rfl) (by exact Or.inl rfl) (by rfl) (by walk_at "p"))) (@zap _))))) (@zap _))))))
   (zaf (@ps_L _ _ _ _ _ _ 9 sc_law_held.nd (@pe_x _ _ _ _ _ _ _ zal (@zaq _ _ _ _ (@zaa _ _ _ _ _ (@zaj _ _ _ _ _ _ _ _ zaw (@pe_x _ _ _ _ _ _ _ zal (@pv _ 1 _ _ (by rfl) (by walk_at "o") (by decide) (by decide)) (@zac _ _ _ _) (by exact fun _ _=>rfl)) (@zac _ _ _ _)) (@zaa _ _ _ _ _ (@pe_x _ _ _ _ _ _ _ zal (@zaq _ _ _ _ (@zaa _ _ _ _ _ (@zac _ _ _ _) (@zaa _ _ _ _ _ (@zaj _ _ _ _ _ _ _ _ zdo (@zac _ _ _ _) (@zac _ _ _ _)) (@zaa _ _ _ _ _ (@zeh _ _ _ _ _ _ zcl (@zac _ _ _ _)) (@zaa _ _ _ _ _ (@zeh _ _ _ _ _ _ zcl (@zac _ _ _ _)) (@zae _) (by rfl)) (by rfl)) (by rfl)) (by rfl))) (@zaj _ _ _ _ _ _ _ _ zaw (@zaj _ _ _ _ _ _ _ _ zay (@pe_x _ _ _ _ _ _ _ zal (@pv _ 1 _ _ (by rfl) (by walk_at "o") (by decide) (by decide)) (@zac _ _ _ _) (by exact fun _ _=>rfl)) (@zac _ _ _ _)) (@zac _ _ _ _)) (by exact fun _ _=>rfl)) (@zae _) (by rfl)) (by rfl))) (@zaL _ _ _ _ _ _ _ _ _ zdK (by rfl) T.int zgo (@zaa _ _ _ _ _ (@za3 _ _ _ _ _ _ _ _ za8 (@zaj _ _ _ _ _ _ _ _ zaw (@pe_x _ _ _ _ _ _ _ zal (@pv _ 1 _ _ (by rfl) (by walk_at "o") (by decide) (by decide)) (@zac _ _ _ _) (by exact fun _ _=>rfl)) (@zac _ _ _ _)) (@zac _ _ _ _) (zar _)) (@zae _) (by rfl)) (by decide) (by decide) (by rfl) (by rfl)) (by exact fun _ _=>rfl)) (by rfl) (by exact Or.inl rfl) (by rfl) (by walk_at "p"))
   (zaf (@ps_L _ _ _ _ _ _ 10 sc_law_held.nd (@zaL _ _ _ _ _ _ _ _ _ zbo (by rfl) T.list zev (@zaa _ _ _ _ _ (@pv _ 4 _ _ (by rfl) (by walk_at "o") (by decide) (by decide)) (@zae _) (by rfl)) (by decide) (by decide) (by rfl) (by rfl)) (by rfl) (by exact Or.inl rfl) (by rfl) (by walk_at "p"))
   (zaf (zbu (i:=11) (Nc:=["chip"]) [none] sc_law_held.nd rfl rfl rfl (zaM (by rfl)) (zcc (pv 4)) (fun _ _ _ _ _=>(pg_L 0 (show (["chip"]:List Str).Nodup by decide +kernel))) (fun _ _ _ _ _=>zeS) (fun _ _ _ _ _=>(zhB 1 ⟨rfl,rfl,rfl,rfl,rfl⟩ (hrm hr) (pv 0))))
   (zaf (@ps_L _ _ _ _ _ _ 12 sc_law_held.nd (@zaq _ _ _ _ (@zaa _ _ _ _ _ (@zaZ _ _ _ _) (@zaa _ _ _ _ _ (@zaZ _ _ _ _) (@zaa _ _ _ _ _ (@zaZ _ _ _ _) (@zaa _ _ _ _ _ (@zaZ _ _ _ _) (@zae _) (by rfl)) (by rfl)) (by rfl)) (by rfl))) (by rfl) (by exact Or.inl rfl) (by rfl) (by walk_at "p"))
   (zaf (@zaA _ _ _ _ _ _ _ _ (@zaQ _ _ _ (@pv _ 7 _ _ (by rfl) (by walk_at "o") (by decide) (by decide)) (by intro _;rfl)) (@zag _ _ _ (@ps_L _ _ _ _ _ _ 12 sc_law_held.nd (@pe_x _ _ _ _ _ _ _ zal (@zaq _ _ _ _ (@zaa _ _ _ _ _ (@zaq _ _ _ _ (@zae _)) (@zaa _ _ _ _ _ (@zaq _ _ _ _ (@zaa _ _ _ _ _ (@zaZ _ _ _ _) (@zaa _ _ _ _ _ (@zaZ _ _ _ _) (@zaa _ _ _ _ _ (@zaZ _ _ _ _) (@zaa _ _ _ _ _ (@zaZ _ _ _ _) (@zae _) (by rfl)) (by rfl)) (by rfl)) (by rfl))) (@zae _) (by rfl)) (by rfl))) (@zaL _ _ _ _ _ _ _ _ _ zdK (by rfl) T.int zgo (@zaa _ _ _ _ _ (@zj7 _ _ _ _ _ _ _ (@za3 _ _ _ _ _ _ _ _ zdp (@pv _ 9 _ _ (by rfl) (by walk_at "o") (by decide) (by decide)) (@zac _ _ _ _) (zar _)) (@zbJ _ _ _ _ _ (@za3 _ _ _ _ _ _ _ _ zdP (@pv _ 9 _ _ (by rfl) (by walk_at "o") (by decide) (by decide)) (@zac _ _ _ _) (zar _)))) (@zae _) (by rfl)) (by decide) (by decide) (by rfl) (by rfl)) (by exact fun _ _=>rfl)) (by rfl) (by exact Or.inl rfl) (by rfl) (by walk_at "p"))) (@zap _))
   (zaf (zaA (PW.pt (zbN (zan (zel (XaP (zcf hr)) (K:=K) rfl) (pe_c G_law_word (zaa (pv 2) (zaa (pv 3) (zaa (pv 10) (zaa (pv 9) zae))))) (pv 12) (zar _)) (zbm (zan (zkb (hu9_of hr) (K:=K) rfl) ?c1 (pv 11) (zar _))))) (zag (@zas _ _ _ _ (@zaZ _ _ _ _))) zap)
   (zaf (@zaA _ _ _ _ _ _ _ _ (@PW.pt _ _ _ (@zeN _ _ _ _ _ _ _ (@zaQ _ _ _ (@pv _ 7 _ _ (by rfl) (by walk_at "o") (by decide) (by decide)) (by intro _;rfl)) (@zeN _ _ _ _ _ _ _ (@PW.pt _ _ _ (@zbN _ _ _ _ _ _ _ (@zan _ _ _ _ _ _ _ _ zdp (@pv _ 9 _ _ (by rfl) (by walk_at "o") (by decide) (by decide)) (@zac _ _ _ _) (zar _)) (@zbm _ _ _ _ (@zan _ _ _ _ _ _ _ _ zdP (@pv _ 9 _ _ (by rfl) (by walk_at "o") (by decide) (by decide)) (@zac _ _ _ _) (zar _))))) (@zee _ _ _ _ (@zaR _ _ _ _ (@zaQ _ _ _ (@pe_c _ _ _ _ _ _ _ _ _ _ G_law_field (@zaa _ _ _ _ _ (@pv _ 2 _ _ (by rfl) (by walk_at "o") (by decide) (by decide)) (@zaa _ _ _ _ _ (@pv _ 3 _ _ (by rfl) (by walk_at "o") (by decide) (by decide)) (@zaa _ _ _ _ _ (@pv _ 4 _ _ (by rfl) (by walk_at "o") (by decide) (by decide)) (@zaa _ _ _ _ _ (@pv _ 9 _ _ (by rfl) (by walk_at "o") (by decide) (by decide)) (@zae _) (by rfl)) (by rfl)) (by rfl)) (by rfl)) (by exact hrm ( by assumption )) (by rfl) (by decide) (by rfl) (by rfl)) (by intro _;rfl))))))) (@zag _ _ _ (@zas _ _ _ _ (@zaZ _ _ _ _))) (@zap _))
   (zag (@zas _ _ _ _ (@za3 _ _ _ _ _ _ _ _ za8 (@zao _ _ _ _ _ _ _ _ _ zam (by rfl) T.len PySem.boot_len (@zaa _ _ _ _ _ (@pv _ 10 _ _ (by rfl) (by walk_at "o") (by decide) (by decide)) (@zae _) (by rfl)) (by decide) (by decide) (by rfl) (by rfl)) (@zao _ _ _ _ _ _ _ _ _ zam (by rfl) T.len PySem.boot_len (@zaa _ _ _ _ _ (@pv _ 4 _ _ (by rfl) (by walk_at "o") (by decide) (by decide)) (@zae _) (by rfl)) (by decide) (by decide) (by rfl) (by rfl)) (zar _)))))))))))))))),?rd⟩
  (case c1=>exact (zej (Nc:=["chip"]) [none] rfl (zaM (by rfl)) (zcc (pv 10)) (fun _ _ _ _ _=>(pg_L 0 (show (["chip"]:List Str).Nodup by decide +kernel))) (fun _ _ _ _ _=>zeS) (fun _ _ _ _ _=>(zhB 1 ⟨rfl,rfl,rfl,rfl,rfl⟩ (hrm hr) (pv 0)))))
  refine ⟨_,rfl,c,84,rfl,by decide,fun row H1 vals hrow er hlen hv s1=>?_⟩
  refine ⟨_,rfl,row,vals,rfl,er,by omega,hv,fun t R CL ML m cl ws H2 et bo=>?_⟩
  refine ⟨t,_,rfl,SqT.of et,rfl,_,_,rfl,_,_,rfl,_,_,rfl,_,_,rfl,rfl,?_⟩
  obtain ⟨dv,hdv⟩:=drw (row:=vals) 84 (by omega) hv
  have y76:atI (vN vals) 76=some (.int (dv 76:Int)):=(hdv 76 (by decide)).1
  have y77:atI (vN vals) 77=some (.int (dv 77:Int)):=(hdv 77 (by decide)).1
  have y78:atI (vN vals) 78=some (.int (dv 78:Int)):=(hdv 78 (by decide)).1
  have y79:atI (vN vals) 79=some (.int (dv 79:Int)):=(hdv 79 (by decide)).1
  have y80:atI (vN vals) 80=some (.int (dv 80:Int)):=(hdv 80 (by decide)).1
  have er2:=bo.s _ _ er
  try dsimp only [zaE,List.set]
  have i0:SqL K H2 row (vN vals):=SqL.of er2
  have e6:(dv 78:Int) % 6=((dv 78 % 6:Nat):Int):=by omega
  obtain ⟨wy,hwy,hw6⟩:∃ wy,wy=dv 78 % 6∧wy<6:=⟨_,rfl,by omega⟩
  rw [← hwy] at e6
  refine ⟨_,rfl,row,_,_,_,rfl,rfl,i0,y78,_,_,rfl,rfl,(show (0:Int)<6 by decide),?_⟩
  rw [e6]
  try dsimp only [zaE,List.set]
  refine ⟨_,rfl,rfl,?_⟩
  rw [eqI]
  rw [show decide ((wy:Int)=0)=decide (wy=0) by simp]
  try dsimp only [zaE,List.set]
  
  refine zaK (fun σ X=>∃ (bits:Int) (v:V) (d:Cb.D) (v8:Option V),σ=[some (.int c),some (.ref row),some (.int bits),some v,some (.ref CL),some (.ref ML),some (.int (wy:Int)),some (.bl (decide (wy=0))),v8,none,none,none,none]∧Same H2 X∧Md32 m cl ws R ML (decide (wy=0)) bits v d X) (fun N hN=>?_) ?_
  ·refine ⟨_,rfl,rfl,_,rfl,?_⟩
   rw [eqI]
   by_cases w1:wy=1
   ·rw [Xai (show (wy:Int)=1 by omega)]
    obtain ⟨n,hn,hn1,hn2⟩:=zkG (dv 79)
    refine iteT ⟨_,_,rfl,rfl,⟨by decide,by decide,by decide⟩,_,rfl,_,rfl,by show 6≤sizeLine;decide,fun p hp=>?_⟩
    have sp:=zad (o:=.lst [V.int 0,.int 17,.int 64,.int ((2:Int) ^ ((63:Int)).toNat),.int (-1),.int (-16)]) hp
    refine ⟨_,rfl,row,_,_,_,rfl,rfl,SqL.of (sp _ _ er2),y79,_,_,rfl,rfl,(show (0:Int)<6 by decide),p,_,_,.int n,rfl,rfl,SqL.of zab,hn,?_⟩
    try dsimp only [zaE,List.set]
    refine hN _ _ ⟨n,.ref R,_,none,rfl,sp,hn1,zbD (sp _ _ bo.eM) (sp _ _ bo.rf.e) (bo.rf.same sp).r,?_,.inr ⟨Xag (by omega),?_⟩⟩
    ·show (ws.map _).length≤300
     rw [Xah];have:=bo.l6;omega
    ·rintro ⟨m',rs,rfl,h1,h2,_⟩
     omega
   rw [Xag (show ¬ (wy:Int)=1 by omega)]
   refine iteF ?_
   refine ⟨_,rfl,_,_,rfl,rfl,?_⟩
   by_cases w0:wy=0
   ·rw [Xag (show ¬ (1:Int)<(wy:Int) by omega)]
    refine ⟨_,rfl,iteF (iteF ⟨_,rfl,_,_,rfl,rfl,_,rfl,?_⟩)⟩
    rw [Xag (show ¬ (1:Int)<(wy:Int) by omega)]
    refine iteF (zaz (hN _ _ ⟨_,_,_,none,rfl,Same.refl _,?_,zbD bo.eM bo.rf.e bo.rf.r,?_,.inl ⟨Xai w0,rfl,rfl,rfl⟩⟩))
    ·exact Xaz (show ((m:Int)).natAbs≤16 by have:=bo.m2;omega) (by decide)
    ·show (ws.map _).length≤300
     rw [Xah];have:=bo.l6;omega
   rw [Xai (show (1:Int)<(wy:Int) by omega)]
   have dg:decide (wy=0)=false:=Xag w0
   refine ⟨_,rfl,iteT ⟨_,rfl,by show 0≤sizeLine;decide,fun e he=>⟨R,e,_,rfl,rfl,SqT.of (zad he _ _ bo.rf.e),SqT.of zab,_,rfl,?_⟩⟩⟩
   have se:=zad (o:=.tup []) he
   by_cases hws:ws=[]
   ·rw [show (refs ws).isEmpty=true by rw [hws];rfl]
    refine iteT ⟨by show 0≤sizeLine;decide,fun z1 h1=>⟨by show 0≤sizeLine;decide,fun z2 h2=>⟨by show 1≤sizeLine;decide,fun z3 h3=>⟨by show 1≤sizeLine;decide,fun z4 h4=>⟨by show 6≤sizeLine;decide,fun g hg=>?_⟩⟩⟩⟩⟩
    have a1:=zad (o:=.lst []) h1
    have a2:=zad (o:=.tup []) h2
    have a3:=zad (o:=.tup [.ref z2]) h3
    have a4:=zad (o:=.tup [.non]) h4
    have a5:=zad (o:=.lst [V.non,.ref z1,.int 0,.str "",.ref z3,.ref z4]) hg
    have eM:=bo.eM
    refine zcL (fun B=>Same H2 B∧B z1=some (.lst [])∧B z2=some (.tup [])∧B z3=some (.tup [.ref z2])∧B z4=some (.tup [.non])∧B g=some (.lst [V.non,.ref z1,.int 0,.str "",.ref z3,.ref z4])) ⟨se.trans (a1.trans (a2.trans (a3.trans (a4.trans a5)))),(a2.trans (a3.trans (a4.trans a5))) _ _ zab,(a3.trans (a4.trans a5)) _ _ zab,(a4.trans a5) _ _ zab,a5 _ _ zab,zab⟩ fun B hh_=>?_
    obtain ⟨S,c1,c2,c3,c4,cg⟩:=hh_
    obtain ⟨ov,od,hov,hod,htl,hno⟩:=ziZ (p:=ML) (dv 79) c1 c2 c3 c4 (Ne.symm (zah (se _ _ eM) h1)) (Ne.symm (zah ((se.trans a1) _ _ eM) h2)) (Ne.symm (zah ((se.trans (a1.trans a2)) _ _ eM) h3)) (Ne.symm (zah ((se.trans (a1.trans (a2.trans a3))) _ _ eM) h4))
    refine ⟨_,rfl,row,_,_,_,rfl,rfl,SqL.of (S _ _ er2),y79,_,_,rfl,rfl,(show (0:Int)<6 by decide),g,_,_,_,rfl,rfl,SqL.of cg,hov,?_⟩
    try dsimp only [zaE,List.set]
    exact hN _ _ ⟨_,_,_,none,rfl,S,Xaz (show ((m:Int)).natAbs≤16 by have:=bo.m2;omega) (by decide),hod,htl,.inr ⟨dg,hno _ _⟩⟩
   rw [show (refs ws).isEmpty=false by cases ws with | nil=>exact absurd rfl hws | cons _ _=>rfl]
   refine iteF ⟨_,rfl,_,_,rfl,rfl,_,rfl,?_⟩
   rw [Xai (show (1:Int)<(wy:Int) by omega)]
   refine iteT ⟨_,rfl,row,_,_,_,rfl,rfl,SqL.of (se _ _ er2),y80,_,rfl,R,_,rfl,.inr (SqT.of (se _ _ bo.rf.e)),_,_,rfl,rfl,_,_,rfl,rfl,by omega,?_⟩
   rw [zat]
   have eat:(dv 80:Int) % ((ws.length:Int)+1)=((dv 80 % (ws.length+1):Nat):Int):=by norm_cast
   obtain ⟨at_,hat,hat2⟩:∃ at_,at_=dv 80 % (ws.length+1)∧at_<ws.length+1:=⟨_,rfl,Xa0 _ (Nat.succ_pos _)⟩
   rw [eat,← hat]
   try dsimp only [zaE,List.set]
   have f1:R≠e:=zah bo.rf.e he
   refine ⟨_,rfl,_,rfl,(at_:Int),rfl,slT2 (se _ _ bo.rf.e) fun q1 X1 t1 e1=>?_⟩
   rw [zeu (by rw [zat];omega),show (refs ws).take at_=refs (ws.take at_) from (List.map_take ..).symm] at e1
   have S1:=se.trans t1
   refine ⟨_,rfl,_,rfl,_,rfl,_,rfl,(81:Int),rfl,(83:Int),rfl,row,_,rfl,SqL.of (S1 _ _ er2),fun L hL=>?_⟩
   have ec:cutV (vN vals) (some (81:Int)) (some (83:Int))=vN ((vals.drop 81).take 2):=zgm (a:=81) (n:=2) (by omega)
   rw [ec]
   have l2:((vals.drop 81).take 2).length=2:=by rw [XaW,Xa3];omega
   have m2_:∀ x∈(vals.drop 81).take 2,x<2 ^ 31:=fun x hx=>hv x (Xbo (Xbp hx))
   generalize (vals.drop 81).take 2=two at l2 m2_
   match two,l2,m2_ with
   | [a,b],_,m2_ =>
   have S2:=S1.trans (zad (o:=.lst (vN [a,b])) hL)
   refine ⟨R,ML,L,CL,m,cl,ws,a,b,rfl,zab,m2_ _ (by simp),m2_ _ (by simp),hws,bo.m1,bo.m2,bo.rf.same S2,bo.l6,S2 _ _ bo.eM,bo.c9,bo.C.same S2,fun bv bd X2 t2 hbv hbad=>?_⟩
   refine ⟨by show 1≤sizeLine;decide,fun q2 hq2=>?_⟩
   have t3:=zad (o:=.tup [bv]) hq2
   have hta:(ws.take at_).length≤6:=by rw [XaW];have:=bo.l6;omega
   have htd:(ws.drop at_).length≤6:=by rw [Xa3];have:=bo.l6;omega
   have S3:=S2.trans (t2.trans t3)
   refine catT2 (t3 _ _ (t2 _ _ (zad hL _ _ e1))) (zab (H:=X2) (a:=q2) (o:=.tup [bv])) (by rw [zat,sizeLine_eq,List.length_singleton];omega) fun q3 X3 t4 e3=>?_
   have S4:=S3.trans t4
   refine ⟨_,rfl,_,rfl,(at_:Int),rfl,slT2 (S4 _ _ bo.rf.e) fun q4 X4 t5 e4=>?_⟩
   rw [zje (by rw [zat];omega),show (refs ws).drop at_=refs (ws.drop at_) from (List.map_drop ..).symm] at e4
   refine catT2 (t5 _ _ e3) e4 (by rw [Xaq,zat,zat,sizeLine_eq,List.length_singleton];omega) fun q5 X5 t6 e5=>?_
   have S5:=S4.trans (t5.trans t6)
   have hbv5:=hbv.same (t3.trans (t4.trans (t5.trans t6)))
   clear e1 e3 e4 t1 t2 t3 t4 t5 t6 S1 S2 S3 S4
   try dsimp only [zaE,List.set]
   have hrw:∀ z∈ws,RwAt X5 z.1 z.2:=fun z hz=>((bo.rf.same S5).r z hz).1
   have nq:q5≠ML:=fun z=>by rw [z,S5 _ _ bo.eM] at e5;cases e5
   have dq:Dv ML X5 (.ref q5) (.tup (((ws.take at_).map fun z=>zaI z.2) ++ [bd] ++ ((ws.drop at_).map fun z=>zaI z.2))):=by
    refine .tup e5 nq (by simp [zat]) (zh6 (by simp [zat]) (zh6 (by simp [zat]) (zgl (m:=m) (S5 _ _ bo.eM) fun z hz=>hrw z (Xbp hz)) fun i x d hx hd=>?_) (zgl (m:=m) (S5 _ _ bo.eM) fun z hz=>hrw z (Xbo hz)))
    obtain rfl:i=0:=by have:=(Xae.mp hx).1;simp at this;omega
    cases hx;cases hd;exact hbv5
   have b1:((m:Int)).natAbs<2 ^ 100:=Xaz (show ((m:Int)).natAbs≤16 by have:=bo.m2;omega) (by decide)
   refine ⟨_,rfl,row,_,_,_,rfl,rfl,SqL.of (S5 _ _ er2),y79,_,_,rfl,rfl,(show (0:Int)<8 by decide),rfl,_,rfl,ite2 (fun h8=>⟨_,rfl,q5,_,rfl,.inr (SqT.of e5),fun g hg=>?_⟩) (fun h8=>zaz ?_)⟩
   ·try dsimp only [zaE,List.set]
    exact hN _ _ ⟨_,_,.oth,_,rfl,S5.trans (zad hg),b1,.lst zab (Ne.symm (zah (S5 _ _ bo.eM) hg)),by decide,.inr ⟨dg,fun h=>by obtain ⟨m',rs,_,_,_,e,_⟩:=h;cases e⟩⟩
   ·refine hN _ _ ⟨_,_,_,_,rfl,S5,b1,dq,?_,.inr ⟨dg,fun h=>?_⟩⟩
    ·show (_ ++ [bd] ++ _:List Cb.D).length≤300
     simp only [Xaq,Xah,List.length_singleton]
     omega
    ·obtain ⟨m',rs,em,_,_,e,hr'⟩:=h
     obtain rfl:=Int.ofNat.inj em
     have hm:bd∈rs.map zaI:=by rw [← Cb.D.tup.inj e];simp
     obtain ⟨r,hr1,hr2⟩:=XaC.mp hm
     exact hbad r hr2.symm (hr' r hr1)
  rintro σ X ⟨bits,v,d,v8,rfl,s2,hM⟩
  try dsimp only [zaE,List.set]
  clear hw6 hwy e6
  generalize decide (wy=0)=gd at *
  
  refine zaK (fun σ Y=>∃ fl:Int,fl.natAbs<2 ^ 100∧σ=[some (.int c),some (.ref row),some (.int bits),some v,some (.ref CL),some (.ref ML),some (.int (wy:Int)),some (.bl gd),v8,some (.int fl),none,none,none]∧Same X Y) (fun N hN=>?_) ?_
  ·have i1:=s2 _ _ er2
   obtain ⟨n,hn,hn1⟩:=fl4 0 (dv 76)
   refine ⟨_,rfl,row,_,_,_,rfl,rfl,SqL.of i1,y76,_,_,rfl,rfl,(show (0:Int)<256 by decide),_,_,rfl,rfl,⟨by decide,by decide,by decide⟩,_,rfl,_,rfl,by show 4≤sizeLine;decide,fun p hp=>?_⟩
   have sp:=zad (o:=.lst [V.int 256,.int ((2:Int) ^ ((63:Int)).toNat),.int (-1),.int (-256)]) hp
   refine ⟨_,rfl,row,_,_,_,rfl,rfl,SqL.of (sp _ _ i1),y76,_,_,rfl,rfl,⟨by decide,by decide +kernel⟩,_,_,rfl,rfl,(show (0:Int)<4 by decide),p,_,_,.int n,rfl,rfl,SqL.of zab,hn,by show 2≤sizeLine;decide,fun q hq=>?_⟩
   have sq:=zad (o:=.lst [V.int ((dv 76:Int) % 256),.int n]) hq
   have pick:∀ k:Bool,∃ fl:Int,atI [V.int ((dv 76:Int) % 256),.int n] (if k=true then 1 else 0)=some (.int fl)∧fl.natAbs<2 ^ 100:=fun k=>by
    cases k
    ·exact ⟨_,rfl,Xaz (show _≤256 by omega) (by decide)⟩
    ·exact ⟨_,rfl,hn1⟩
   obtain ⟨fl,hfl,hfl1⟩:=pick (decide (V.int ((dv 77:Int) % 3)=V.int 0))
   refine ⟨_,rfl,row,_,_,_,rfl,rfl,SqL.of (sq _ _ (sp _ _ i1)),y77,_,_,rfl,rfl,(show (0:Int)<3 by decide),rfl,.inr ⟨_,rfl,q,_,_,.int fl,rfl,rfl,SqL.of zab,hfl,?_⟩⟩
   exact hN _ _ ⟨fl,hfl1,rfl,sp.trans sq⟩
  rintro σ Y ⟨fl,hfl,rfl,sXY⟩
  have S:=s2.trans sXY
  have hM:=hM.same sXY
  clear s2 sXY
  
  refine ⟨_,rfl,CL,_,rfl,.inl (SqL.of (S _ _ bo.eC)),fun hi hhi=>?_⟩
  have eh:=zab (H:=Y) (a:=hi) (o:=.lst (cl.map fun c=>V.ref c.x))
  have S:=S.trans (zad (o:=.lst (cl.map fun c=>V.ref c.x)) hhi)
  have hM:=hM.same (zad (o:=.lst (cl.map fun c=>V.ref c.x)) hhi)
  generalize upd Y hi (.lst (cl.map fun c=>V.ref c.x))=Z at *
  try dsimp only [zaE,List.set]
  refine ⟨_,rfl,CL,rfl,⟨_,SqL.of (S _ _ bo.eC)⟩,zhh MS (S _ _ bo.eC) (bo.C.same S) bo.c9 fun ys X1 sZ1 hys SL hSL=>?_⟩
  have eS:=zab (H:=X1) (a:=SL) (o:=.lst ys)
  have t1:=sZ1.trans (zad (o:=.lst ys) hSL)
  have hys:=hys.same (zad (o:=.lst ys) hSL)
  have S:=S.trans t1
  have hM:=hM.same t1
  have eh:=t1 _ _ eh
  generalize upd X1 SL (.lst ys)=Z1 at *
  try dsimp only [zaE,List.set]
  refine ⟨by show 4≤sizeLine;decide,fun du hdu=>?_⟩
  have ed:=zab (H:=Z1) (a:=du) (o:=.lst [.bl true,.bl false,.bl true,.bl false])
  have t2:=zad (o:=.lst [V.bl true,.bl false,.bl true,.bl false]) hdu
  have S:=S.trans t2
  have hM:=hM.same t2
  have eh:=t2 _ _ eh
  have eS:=t2 _ _ eS
  have hys:=hys.same t2
  generalize upd Z1 du (.lst [.bl true,.bl false,.bl true,.bl false])=Z2 at *
  try dsimp only [zaE,List.set]
  
  refine zaK (fun σ Y=>∃ (da:Addr) (bs:List Bool),σ=[some (.int c),some (.ref row),some (.int bits),some v,some (.ref CL),some (.ref ML),some (.int (wy:Int)),some (.bl gd),v8,some (.int fl),some (.ref hi),some (.ref SL),some (.ref da)]∧Y da=some (.lst (bs.map V.bl))∧(bs=if gd=true then (if 0≤fl∧fl≤255 then [] else [false,true,true,false]) else [true,false,true,false])∧Same Z2 Y) (fun N hN=>?_) ?_
  ·refine ⟨_,rfl,_,rfl,?_⟩
   cases gd
   rotate_left
   ·refine iteT ⟨by show 0≤sizeLine;decide,fun a ha=>⟨by show 4≤sizeLine;decide,fun b hb=>⟨by show 2≤sizeLine;decide,fun g hg=>?_⟩⟩⟩
    have a1:=zad (o:=.lst []) ha
    have a2:=zad (o:=.lst [V.bl false,.bl true,.bl true,.bl false]) hb
    have a3:=zad (o:=.lst [V.ref a,.ref b]) hg
    have ea:=(a2.trans a3) _ _ (zab (H:=Z2) (a:=a) (o:=.lst []))
    have eb:=a3 _ _ (zab (H:=upd Z2 a (.lst [])) (a:=b) (o:=.lst [V.bl false,.bl true,.bl true,.bl false]))
    have S3:=a1.trans (a2.trans a3)
    refine ⟨_,rfl,_,_,rfl,rfl,_,rfl,?_⟩
    by_cases hhi:(255:Int)<fl
    ·rw [Xai hhi]
     refine iteT (.inr ⟨_,rfl,g,_,_,.ref b,rfl,rfl,SqL.of zab,rfl,?_⟩)
     try dsimp only [zaE,List.set]
     exact hN _ _ ⟨b,[false,true,true,false],rfl,eb,by rw [if_pos rfl,if_neg (by omega)],S3⟩
    rw [Xag hhi]
    refine iteF ⟨_,rfl,_,_,rfl,rfl,?_⟩
    by_cases hlo:fl<0
    ·rw [Xai hlo]
     refine .inr ⟨_,rfl,g,_,_,.ref b,rfl,rfl,SqL.of zab,rfl,?_⟩
     try dsimp only [zaE,List.set]
     exact hN _ _ ⟨b,[false,true,true,false],rfl,eb,by rw [if_pos rfl,if_neg (by omega)],S3⟩
    ·rw [Xag hlo]
     refine .inr ⟨_,rfl,g,_,_,.ref a,rfl,rfl,SqL.of zab,rfl,?_⟩
     try dsimp only [zaE,List.set]
     exact hN _ _ ⟨a,[],rfl,ea,by rw [if_pos rfl,if_pos (by omega)],S3⟩
   ·exact iteF (zaz (hN _ _ ⟨du,[true,false,true,false],rfl,ed,rfl,Same.refl _⟩))
  rintro σ Y ⟨da,bs,rfl,eda,hbs,sZ⟩
  have S:=S.trans sZ
  have hM:=hM.same sZ
  have eh:=sZ _ _ eh
  have eS:=sZ _ _ eS
  have hys:=hys.same sZ
  have hw:zjM (dtC cl) bits fl Y v d bs:=by
   rcases hM.2.2.2 with ⟨hg,rfl,rfl,rfl⟩ | ⟨hg,hn⟩
   ·refine .inr ⟨m,R,ws,rfl,rfl,bo.m1,bo.m2,bo.rf.same S,rfl,?_⟩
    rw [hbs,if_pos hg]
   ·refine .inl ⟨hn,?_⟩
    rw [hbs,hg,if_neg Xao]
  have hchs:=bo.C.chs (Xar bo.c9 (by decide))
  refine ⟨_,rfl,_,rfl,_,rfl,_,rfl,ML,hi,bits,fl,v,d,dtC cl,usC cl,bs,rfl,hM.1,hfl,hM.2.1,hM.2.2.1,by rw [zie];exact eh,hchs.same S,hw,fun t H' ht et st=>⟨_,rfl,t,da,bs,rfl,rfl,SqL.of et,SqL.of (st _ _ eda),_,rfl,iteF ?_⟩⟩
  have S:=S.trans st
  refine ⟨_,rfl,hi,rfl,⟨_,SqL.of (st _ _ eh)⟩,zhh MS (st _ _ eh) (bo.C.same S) bo.c9 fun zs X3 t3 hzs ZL hZL=>?_⟩
  have t4:=zad (o:=.lst zs) hZL
  have S:=S.trans (t3.trans t4)
  have hys:=hys.same (st.trans (t3.trans t4))
  have hzs:=hzs.same t4
  have eh:=(t3.trans t4) _ _ (st _ _ eh)
  refine ⟨_,rfl,ZL,SL,zs,ys,rfl,rfl,SqL.of zab,SqL.of (t4 _ _ (t3 _ _ (st _ _ eS))),by rw [hys.1,hzs.1],hzs.eqv hys,_,rfl,iteF (zaz ?_)⟩
  have hM:=hM.same (st.trans (t3.trans t4))
  generalize upd X3 ZL (.lst zs)=X4 at *
  try dsimp only
  
  refine zaK (fun σ Y=>σ=[some (.int c),some (.ref row),some (.int bits),some v,some (.ref CL),some (.ref ML),some (.int (wy:Int)),some (.bl gd),v8,some (.int fl),some (.ref hi),some (.ref SL),some (.ref da)]∧Same X4 Y) (fun N hN=>?_) ?_
  ·refine ⟨_,rfl,_,rfl,?_⟩
   cases gd
   rotate_left
   ·rcases hM.2.2.2 with ⟨hg,rfl,rfl,rfl⟩ | ⟨hg,hn⟩
    rotate_left
    ·cases hg
    refine iteT ⟨_,rfl,_,_,rfl,rfl,_,rfl,?_⟩
    by_cases hhi:(255:Int)<fl
    ·rw [Xai hhi]
     exact iteT (iteT ⟨_,rfl,_,rfl,_,rfl,_,rfl,ML,CL,R,m,fl,dtC cl,usC cl,ws,rfl,bo.m1,bo.m2,hfl,bo.rf.same S,by rw [zie];exact S _ _ bo.eC,hchs.same S,by omega,fun H' s=>⟨_,rfl,iteF (zaz (hN _ _ ⟨rfl,s⟩))⟩⟩)
    rw [Xag hhi]
    refine iteF ⟨_,rfl,_,_,rfl,rfl,_,rfl,?_⟩
    by_cases hlo:fl<0
    ·rw [Xai hlo]
     exact iteT ⟨_,rfl,_,rfl,_,rfl,_,rfl,ML,CL,R,m,fl,dtC cl,usC cl,ws,rfl,bo.m1,bo.m2,hfl,bo.rf.same S,by rw [zie];exact S _ _ bo.eC,hchs.same S,by omega,fun H' s=>⟨_,rfl,iteF (zaz (hN _ _ ⟨rfl,s⟩))⟩⟩
    rw [Xag hlo]
    exact iteF (iteF (zaz (hN _ _ ⟨rfl,Same.refl _⟩)))
   ·exact iteF (iteF (zaz (hN _ _ ⟨rfl,Same.refl _⟩)))
  rintro σ Y ⟨rfl,sY⟩
  have S:=S.trans sY
  refine ⟨_,rfl,hi,_,rfl,.inl (SqL.of (sY _ _ eh)),_,rfl,CL,_,rfl,.inl (SqL.of (S _ _ bo.eC)),rfl,?_⟩
  rw [Xai rfl]
  exact k _ (s1.trans (bo.s.trans S))
abbrev slaw:Stmt:=top 84
theorem sclaw:FnScope ["script","cell"] ["script"] (zak slaw):=sck rfl rfl rfl (by decide +kernel)
theorem oklaw {f:Addr}{fd:FuncData}(F:Fun K "law" "law" slaw f fd)(T:Blt mg)(G_law_great:Cal P w K mg base 10 "_law_great" [] zeG)(G_law_held:Cal P w K mg base 10 "_law_held" ["cell"] spHeld32):FnOk P w K mg base CX0 11 f fd ["script"] (spLaw K):=by
 refine F.ok sclaw (by walk_at "l") (fun cdv A outer s H vs Q E hr h=>?_)
 ·obtain ⟨a,ns,rfl,hs,hln,_,k⟩:=h
  refine ⟨_,(zaf (@zaA _ _ _ _ _ _ _ _ (@zaR _ _ _ _ (@zaQ _ _ _ (pe_c0 G_law_great) (by intro _;rfl))) (@zag _ _ _ (@zas _ _ _ _ (@zaZ _ _ _ _))) (@zap _))
   (zaf (@zbY _ _ _ _ _ _ _ _ PassesOwn.never rfl (@zcc _ _ _ _ (@zaj _ _ _ _ _ _ _ _ zkf (@zaq _ _ _ _ (@zaa _ _ _ _ _ (@zao _ _ _ _ _ _ _ _ _ zam (by rfl) T.len PySem.boot_len (@zaa _ _ _ _ _ (@pv _ 0 _ _ (by rfl) (by walk_at "o") (by decide) (by decide)) (@zae _) (by rfl)) (by decide) (by decide) (by rfl) (by rfl)) (@zae _) (by rfl))) (@zaX _ _ _ _ _ _ _ _ _ _ zcu (@pv _ 0 _ _ (by rfl) (by walk_at "o") (by decide) (by decide)) (@zcG _) (@zaS _ _ _ (@zac _ _ _ _))))) (@pg_L _ _ _ 1 sclaw.nd (by rfl) (by exact Or.inl rfl) (by walk_at "p")) (@zag _ _ _ (@zaA _ _ _ _ _ _ _ _ (@zaR _ _ _ _ (@zaQ _ _ _ (@pe_c _ _ _ _ _ _ _ _ _ _ G_law_held (@zaa _ _ _ _ _ (@pv _ 1 _ _ (by rfl) (by walk_at "o") (by decide) (by decide)) (@zae _) (by rfl)) (by exact hrm (by assumption)) (by rfl) (by decide) (by rfl) (by rfl)) (by intro _;rfl))) (@zag _ _ _ (@zas _ _ _ _ (@zaZ _ _ _ _))) (@zap _))) (by intro _;rfl))
   (zag (@zas _ _ _ _ (@zaZ _ _ _ _))))),?rd⟩
  refine ⟨rfl,fun X0 s0=>⟨_,rfl,iteF ?_⟩⟩
  replace hs:=s0.seq hs
  clear s0 hr
  refine ⟨_,rfl,a,_,rfl,.inl hs,by show 1≤sizeLine;decide,fun q1 h1=>?_⟩
  refine ⟨_,rfl,30,rfl,a,_,rfl,(zad h1).seq hs,fun q2 h2=>?_⟩
  refine ⟨q1,q2,_,_,rfl,rfl,SqL.of (zad h2 _ _ zab),SqL.of zab,?_,fun q3 h3=>⟨q3,rfl,⟨_,SqL.of zab⟩,?_⟩⟩
  ·have:=zcg (ns.map V.int) none (some 30)
   rw [Xah] at this
   rw [sizeLine_eq];simp;omega
  have xi:∀ x∈[V.int ((ns.map V.int).length:Int)] ++ cutV (ns.map V.int) none (some 30),∃ c,x = .int c:=fun x hx=>by
   rcases XaF.mp hx with h | h
   ·exact ⟨_,Xab.mp h⟩
   ·obtain ⟨m,_,rfl⟩:=XaC.mp (zkE h)
    exact ⟨m,rfl⟩
  have e3:=zab (H:=upd (upd X0 q1 (.lst [V.int ((ns.map V.int).length:Int)])) q2 (.lst (cutV (ns.map V.int) none (some 30)))) (a:=q3) (o:=.lst ([V.int ((ns.map V.int).length:Int)] ++ cutV (ns.map V.int) none (some 30)))
  generalize upd (upd (upd X0 q1 (.lst [V.int ((ns.map V.int).length:Int)])) q2 (.lst (cutV (ns.map V.int) none (some 30)))) q3 (.lst ([V.int ((ns.map V.int).length:Int)] ++ cutV (ns.map V.int) none (some 30)))=B at e3 ⊢
  generalize [V.int ((ns.map V.int).length:Int)] ++ cutV (ns.map V.int) none (some 30)=xs at e3 xi ⊢
  refine zes (K:=K) (a:=q3) (xs:=xs) (fun i σ Y=>(∃ v1:Option V,σ=[some (.ref a),v1])∧Same B Y) ⟨⟨_,rfl⟩,Same.refl _⟩ (fun i σ Y hi ⟨_,sY⟩=>SqL.of (sY _ _ e3)) ?_ ?_
  ·rintro i x σ Y hx ⟨⟨v1,rfl⟩,sY⟩
   obtain ⟨c,rfl⟩:=xi x (XaB hx)
   exact ⟨_,rfl,c,rfl,fun Y2 s2=>⟨_,rfl,iteF (zaz ⟨⟨_,rfl⟩,sY.trans s2⟩)⟩⟩
  ·rintro σ Y ⟨_,sY⟩
   exact k Y
end
abbrev NsR (K:W.Frag)(x:Str)(f:Addr):Prop:=W.nsIn K mainGlobals x=some (some (.ref f))
abbrev FiR (K:W.Frag)(C:Addr)(m:Str)(f:Addr):Prop:=W.findIn K (.ref C) m=some (some (.ref f))
abbrev IsF (K:W.Frag)(f:Addr):Prop:=W.isFn K (.ref f)=true
theorem all_mk {l:W.OpenLaw}{w:World}{K:W.Frag}{h:Heap}{mg:Str→Option Value}{fa:Addr}(X:K.In h)(G:h.Ns mainGlobals mg)(hfa:mg "law" = some (.ref fa))
 {f_0 f_1 f_2 f_3 f_4 f_5 f_6 f_7 f_8 f_9 bi bj bn ay aO bp bq ac ap am ad aa ae af aP aF br aG aH bu aI bw aJ bx NT ag ai aq NTn ah aT aU aV aW aX aY aZ a0 a6 bz aK bA aL aj az bB bC bD bE bF bG bH bI bJ bK bL bM bN bO bP bQ a7:Addr} {dE dF dG dH dI dJ dL dM dN dO dQ dR dS dU dW dX dY dZ d6 d7 eG eH eP fc fm fL fM fN fO fP fW fX fY fZ f9 gb gc ge gf gh gj gk gl gm gn:FuncData} {d8 eJ eQ fe cN1 cB cN2 fG fQ gp bR bS bT a8 bU:Value} {d9 eK eU ff ddT dN1 ddB dN2 fz fH fR gq bV:Option Addr} {eg eN eZ fg ep1 ep2 fJ fS:Nat} {eE eO e7 fh sl1 slB sl2 fK fU gt:Array (Option Value)} {aQ aR fb fi fV gu gw gx gy gz gA gB gC gD:Tok} {nmT qT fo qTn:Str} {bsT fj fq fw:List Value} {snT fv:List Str} {abT fu fx:Bool} {fk fy:Option Bool} {k0T k1T k2T k3T k5T fA fB fD fE fF:Option Value} {es1 es2 aS:Array DictEntry} {cdB:ClassData}
  (zS:W.nsIn K mainGlobals "sorted" = some none)
  (gE:NsR K "single_ones" f_0)
  (F_0:Fun K "single_ones" "single_ones" zbL f_0 dE)
  (gF:NsR K "ones_of" f_1)
  (F_1:Fun K "ones_of" "ones_of" zd6 f_1 dF)
  (bW:NsR K "is_number" f_2)
  (F_2:Fun K "is_number" "is_number" zcv f_2 dG)
  (gG:NsR K "size_of" f_3)
  (F_3:Fun K "size_of" "size_of" zd5 f_3 dH)
  (gH:NsR K "is_choice" f_4)
  (F_4:Fun K "is_choice" "is_choice" zcw f_4 dI)
  (gI:NsR K "is_latch" f_5)
  (F_5:Fun K "is_latch" "is_latch" zdc f_5 dJ)
  (gJ:NsR K "is_row" f_6)
  (F_6:Fun K "is_row" "is_row" zfv f_6 dL)
  (gK:NsR K "is_map" f_7)
  (F_7:Fun K "is_map" "is_map" zfw f_7 dM)
  (gL:NsR K "choices_agree" f_8)
  (F_8:Fun K "choices_agree" "choices_agree" zbq f_8 dN)
  (gM:NsR K "latches_agree" f_9)
  (F_9:Fun K "latches_agree" "latches_agree" zbp f_9 dO)
  (gO:NsR K "rows_clash" bi)
  (bX:Fun K "rows_clash" "rows_clash" zb3 bi dQ)
  (gP:NsR K "clash_of" bj)
  (bY:Fun K "clash_of" "clash_of" zdf bj dR)
  (gQ:NsR K "is_word" bn)
  (bZ:Fun K "is_word" "is_word" zea bn dS)
  (gR:NsR K "Chip" ay)
  (gS:W.specialIn K (.ref ay) "__getattribute__" = some (some (.builtin "type.__getattribute__")))
  (gT:W.readsIn K ay (.type "type")=true)
  (gU:W.findCls K (.ref ay) (.type "type") "__init__" = some (.val (.ref aO)))
  (b5:Fun K "__init__" "Chip.__init__" zbs aO dU)
  (gW:NsR K "by_figures" bp)
  (b6:Fun K "by_figures" "by_figures" zb5 bp dW)
  (gX:NsR K "two_figures" bq)
  (b7:Fun K "two_figures" "two_figures" zbK bq dX)
  (b8:NsR K "Store" ac)
  (ar:ClsOk K ac)
  (gY:FiR K ac "__len__" ap)
  (al:Fun K "__len__" "Chip.__len__" zbA ap dY)
  (aM:IsF K ap)
  (gZ:FiR K ac "state" am)
  (ak:Fun K "state" "Chip.state" zcb am dZ)
  (aA:IsF K am)
  (g7:NsR K "Fixed" ad)
  (au:ClsOk K ad)
  (hB:FiR K ad "__len__" ap)
  (hG:FiR K ad "state" am)
  (ba:NsR K "Latch" aa)
  (av:ClsOk K aa)
  (hJ:FiR K aa "__len__" ap)
  (hV:FiR K aa "state" am)
  (hW:NsR K "Meter" ae)
  (aw:ClsOk K ae)
  (hZ:FiR K ae "__len__" ap)
  (h7:FiR K ae "state" am)
  (ia:NsR K "Pipe" af)
  (ax:ClsOk K af)
  (ib:FiR K af "__len__" aP)
  (b9:Fun K "__len__" "Pipe.__len__" zbz aP d6)
  (ic:IsF K aP)
  (ie:FiR K af "state" am)
  (cb:W.makesIn K ac=true)
  (cc:W.keepIn K (.ref ac)=true)
  (ci:FiR K ac "__init__" aF)
  (bb:FunD K "__init__" "Store.__init__" zbb (.ref br) aF d7)
  (cj:K.lookup br=some ⟨d8,d9,.seq #[.int 0 aQ] eg,eE⟩)
  (ck:IsF K aF)
  (ig:W.makesIn K ad=true)
  (ii:W.keepIn K (.ref ad)=true)
  (ij:FiR K ad "__init__" aG)
  (cp:Fun K "__init__" "Fixed.__init__" zbe aG eG)
  (ik:IsF K aG)
  (cq:W.makesIn K aa=true)
  (cr:W.keepIn K (.ref aa)=true)
  (cu:FiR K aa "__init__" aH)
  (bc:FunD K "__init__" "Latch.__init__" zbd (.ref bu) aH eH)
  (cw:K.lookup bu=some ⟨eJ,eK,.seq #[.int 0 aR] eN,eO⟩)
  (cx:IsF K aH)
  (il:W.makesIn K ae=true)
  (io:W.keepIn K (.ref ae)=true)
  (ip:FiR K ae "__init__" aI)
  (cy:FunD K "__init__" "Meter.__init__" zbc (.ref bw) aI eP)
  (iq:K.lookup bw=some ⟨eQ,eU,.seq #[.int 0 fb] eZ,e7⟩)
  (ir:IsF K aI)
  (iu:W.makesIn K af=true)
  (iw:W.keepIn K (.ref af)=true)
  (iy:FiR K af "__init__" aJ)
  (cz:FunD K "__init__" "Pipe.__init__" zbr (.ref bx) aJ fc)
  (iz:K.lookup bx=some ⟨fe,ff,.seq #[.int 4 fi] fg,fh⟩)
  (iA:IsF K aJ)
  (be:NsR K "NoWord" ag)
  (cA:NsR K "BusError" ai)
  (xl:K.lookup ag=some (excClassObj nmT qT ag NT bsT [.ref ai,.type "ValueError",.type "Exception",.type "BaseException",.type "object"] true snT fj abT fk ddT k0T k1T k2T k3T k5T "ValueError.__new__"))
  (xn:K.lookup NT=some ⟨cN1,dN1,.dict es1 ep1,sl1⟩)
  (xs:es1.toList.all (fun e=>match e.key with | .str _ _=>true | _=>false)=true)
  (yl:K.lookup ai=some ⟨cB,ddB,.cls cdB,slB⟩)
  (yn:K.lookup cdB.ns=some ⟨cN2,dN2,.dict es2 ep2,sl2⟩)
  (ys:es2.toList.all (fun e=>match e.key with | .str _ _=>true | _=>false)=true)
  (yi:nsFind es2 "__init__" = none)
  (xa:W.findIn K (.ref ag) "__setattr__" = some (some (.builtin "object.__setattr__")))
  (iB:W.takerIn K ag "word" = some none)
  (c1_:W.findIn K (.ref ag) "__getattribute__" = some (some (.builtin "BaseException.__getattribute__")))
  (c2_:W.findIn K (.ref ag) "__getattr__" = some none)
  (c4_:W.subIn K (.ref ag) (.type "BaseException")=some true)
  (c5_:W.mroIn K ag (.type "object")=some true)
  (c3_:∀ oD:Option Obj,W.findObj K ag oD "__class__" = some (.bind (.builtin "getset_descriptor.__get__") (.builtin "object.__class__")))
  (m1_:W.exmOne K (.ref ag) (.ref ag)=some true)
  (xh:W.hasDictIn K ag=true)
  (iC:W.findIn K (.ref ag) "word" = some none)
  (s1_:W.specialIn K (.ref ai) "__getattribute__" = some (some (.builtin "type.__getattribute__")))
  (s2_:W.readsIn K ai (.type "type")=true)
  (s3_:W.findCls K (.ref ai) (.type "type") "__init__" = some (.val (.builtin "ValueError.__init__")))
  (ll:FiR K ag "__init__" aq)
  (iD:nsFind es1 "__init__" = some (.ref aq))
  (iE:Fun K "__init__" "NoWord.__init__" za2 aq fm)
  (iF:IsF K aq)
  (cC:NsR K "NoMap" ah)
  (xln:K.lookup ah=some (excClassObj fo qTn ah NTn fq [.ref ai,.type "ValueError",.type "Exception",.type "BaseException",.type "object"] fu fv fw fx fy fz fA fB fD fE fF "ValueError.__new__"))
  (xnn:K.lookup NTn=some ⟨fG,fH,.dict aS fJ,fK⟩)
  (xsn:aS.toList.all (fun e=>match e.key with | .str _ _=>true | _=>false)=true)
  (xin:nsFind aS "__init__" = none)
  (iG:NsR K "BadRow" aT)
  (iH:NsR K "Clash" aU)
  (iI:NsR K "NoAddress" aV)
  (iJ:NsR K "NoCell" aW)
  (iK:NsR K "NoChip" aX)
  (iL:NsR K "NoMover" aY)
  (iM:NsR K "NoText" aZ)
  (iO:NsR K "NoWatch" a0)
  (iP:NsR K "TooMany" a6)
  (zV:W.nsIn K mainGlobals "ValueError" = some none)
  (iQ:W.findIn K (.ref ah) "__getattribute__" = some (some (.builtin "BaseException.__getattribute__")))
  (iR:W.findIn K (.ref ah) "__getattr__" = some none)
  (iS:∀ oD:Option Obj,W.findObj K ah oD "__class__" = some (.bind (.builtin "getset_descriptor.__get__") (.builtin "object.__class__")))
  (iT:W.subIn K (.ref ah) (.type "BaseException")=some true)
  (iU:W.mroIn K ah (.type "object")=some true)
  (iV:W.exmOne K (.ref ah) (.ref ai)=some true)
  (iW:W.kitOne K (.ref ah) (.ref ah)=some true)
  (iX:W.kitOne K (.ref ah) (.type "ValueError")=some true)
  (iY:W.kitAny K (.ref ah) [.ref aT,.ref aU,.ref aV,.ref aW,.ref aX,.ref aY,.ref aZ,.ref a0,.ref a6]=some false)
  (m6_:W.exmOne K (.ref ag) (.ref ai)=some true)
  (m7_:W.kitOne K (.ref ah) (.ref ag)=some false)
  (m8_:W.kitOne K (.ref ag) (.ref ah)=some false)
  (m9_:W.kitOne K (.ref ag) (.ref ag)=some true)
  (iZ:W.kitOne K (.ref ag) (.type "ValueError")=some true)
  (m5_:W.kitAny K (.ref ag) [.ref aT,.ref aU,.ref aV,.ref aW,.ref aX,.ref aY,.ref aZ,.ref a0,.ref a6]=some false)
  (i3:W.findIn K (.ref ac) "__class__" = some (some (.builtin "object.__class__")))
  (aB:W.specialIn K (.builtin "object.__class__") "__get__" = some (some (.builtin "getset_descriptor.__get__")))
  (aC:W.takesIn K (.builtin "object.__class__")=some true)
  (i4:W.mroIn K ac (.type "object")=some true)
  (i5:W.kitOne K (.ref ac) (.ref aa)=some false)
  (i6:W.findIn K (.ref ad) "__class__" = some (some (.builtin "object.__class__")))
  (i7:W.mroIn K ad (.type "object")=some true)
  (i8:W.kitOne K (.ref ad) (.ref aa)=some false)
  (i9:W.findIn K (.ref aa) "__class__" = some (some (.builtin "object.__class__")))
  (ja:W.mroIn K aa (.type "object")=some true)
  (jb:W.kitOne K (.ref aa) (.ref aa)=some true)
  (jc:W.findIn K (.ref ae) "__class__" = some (some (.builtin "object.__class__")))
  (jd:W.mroIn K ae (.type "object")=some true)
  (je:W.kitOne K (.ref ae) (.ref aa)=some false)
  (jf:W.findIn K (.ref af) "__class__" = some (some (.builtin "object.__class__")))
  (jg:W.mroIn K af (.type "object")=some true)
  (jh:W.kitOne K (.ref af) (.ref aa)=some false)
  (ji:NsR K "row_fits" bz)
  (cD:Fun K "row_fits" "row_fits" zc8 bz fL)
  (cE:NsR K "check_map" aK)
  (bf:Fun K "check_map" "check_map" zcx aK fM)
  (jj:NsR K "check_clash" bA)
  (cF:Fun K "check_clash" "check_clash" zbM bA fN)
  (cG:NsR K "check_word" aL)
  (bg:Fun K "check_word" "check_word" zb4 aL fO)
  (jk:NsR K "Board" aj)
  (jl:ClsBd K aj)
  (jm:W.makesIn K aj=true)
  (jn:W.keepIn K (.ref aj)=true)
  (jo:FiR K aj "__init__" az)
  (cH:FunD K "__init__" "Board.__init__" zbf (.ref bB) az fP)
  (jp:K.lookup bB=some ⟨fQ,fR,.seq #[.int 0 fV] fS,fU⟩)
  (jq:IsF K az)
  (jr:NsR K "_law_draws" bC)
  (cI:Fun K "_law_draws" "_law_draws" zb8 bC fW)
  (js:NsR K "_law_ones" bD)
  (cJ:Fun K "_law_ones" "_law_ones" zcC bD fX)
  (jt:NsR K "_law_few" bE)
  (cK:Fun K "_law_few" "_law_few" zdl bE fY)
  (ju:NsR K "_law_size" bF)
  (cL:Fun K "_law_size" "_law_size" zcA bF fZ)
  (jv:NsR K "_law_chip" bG)
  (cM:Fun K "_law_chip" "_law_chip" zcE bG f9)
  (jw:NsR K "_law_chips" bH)
  (cO:Fun K "_law_chips" "_law_chips" zb9 bH gb)
  (jx:NsR K "_law_row" bI)
  (cP:Fun K "_law_row" "_law_row" zdj bI gc)
  (jy:NsR K "_law_pair" bJ)
  (cQ:Fun K "_law_pair" "_law_pair" zcB bJ ge)
  (jz:NsR K "_law_map" bK)
  (cR:Fun K "_law_map" "_law_map" zdk bK gf)
  (jA:NsR K "_law_board" bL)
  (cS:Fun K "_law_board" "_law_board" zca bL gh)
  (jB:NsR K "_law_bad_row" bM)
  (cT:Fun K "_law_bad_row" "_law_bad_row" zby bM gj)
  (jC:NsR K "_law_word" bN)
  (cU:Fun K "_law_word" "_law_word" zcz bN gk)
  (jD:NsR K "_law_field" bO)
  (cV:Fun K "_law_field" "_law_field" zb7 bO gl)
  (jE:NsR K "_law_great" bP)
  (cW:Fun K "_law_great" "_law_great" zb6 bP gm)
  (jF:NsR K "_law_held" bQ)
  (cX:Fun K "_law_held" "_law_held" zcD bQ gn)
  (jG:NsR K "law" a7)
  (jH:K.lookup a7=some ⟨gp,gq,.func (W.fnOf "law" "law" (zbi slaw) (zaP slaw) (zak slaw) .none bR bS bT bV a8 bU),gt⟩)
  (jI:W.codeIn K a8 "law" = true)
  (jJ:W.keepIn K (.ref a7)=true)
  (jK:W.nsIn K mainGlobals "MOST_BITS" = some (some (.int 16 gu)))
  (jL:W.nsIn K mainGlobals "LAST_CHIP" = some (some (.int 99 gw)))
  (jM:W.nsIn K mainGlobals "LAST_WORD" = some (some (.int 255 gx)))
  (jN:W.nsIn K mainGlobals "MOST_CELLS" = some (some (.int 4096 gy)))
  (jO:W.nsIn K mainGlobals "MOST_ROOM" = some (some (.int 255 gz)))
  (jP:W.nsIn K mainGlobals "SIXTEEN" = some (some (.str "0123456789abcdef" gA)))
  (jQ:W.nsIn K mainGlobals "READ" = some (some (.str "read" gB)))
  (jR:W.nsIn K mainGlobals "WRITE" = some (some (.str "write" gC)))
  (jS:W.nsIn K mainGlobals "BOTH" = some (some (.str "both" gD)))
  (jT:W.nsIn K mainGlobals "len" = some none)
  (jU:W.nsIn K mainGlobals "sum" = some none)
  (jV:W.nsIn K mainGlobals "all" = some none)
  (jW:W.nsIn K mainGlobals "max" = some none)
  (jX:W.nsIn K mainGlobals "min" = some none)
  (jY:W.nsIn K mainGlobals "int" = some none)
  (jZ:W.nsIn K mainGlobals "bool" = some none)
  (j0:W.nsIn K mainGlobals "isinstance" = some none)
  (j1:W.nsIn K mainGlobals "range" = some none)
  (j3:W.nsIn K mainGlobals "enumerate" = some none)
  (j4:W.nsIn K mainGlobals "zip" = some none)
  (j5:W.nsIn K mainGlobals "str" = some none)
  (j6:W.nsIn K mainGlobals "tuple" = some none)
  (j7:W.nsIn K mainGlobals "list" = some none) :
  ∃ fd:FuncData,(∀ (s:Shared) (v:Value),BindsTo s fd ⟨[v],[]⟩ [("script",v)])∧∀ base:Heap,K.In base→base.Ns mainGlobals mg→FnOk l.prog w K mg base CX0 11 fa fd ["script"] (spLaw K):=by
 have mo:∀ {x:Str} {v:Value},W.nsIn K mainGlobals x=some (some v)→mg x=some v:=fun a=>W.mg_of X G a
 have mn:∀ {x:Str},W.nsIn K mainGlobals x=some none→mg x=none:=fun a=>W.mg_none_of X G a
 have T:Blt mg:=⟨mn jT,mn jU,mn jV,mn jW,mn jX,mn jY,mn jZ,mn j0,mn j1,mn j3,mn j4,mn j5,mn j6,mn j7⟩
 have N:Nums mg:=⟨⟨_,mo jK⟩,⟨_,mo jL⟩,⟨_,mo jM⟩,⟨_,mo jN⟩,⟨_,mo jO⟩,⟨_,mo jP⟩,⟨_,mo jQ⟩,⟨_,mo jR⟩,⟨_,mo jS⟩⟩
 have j8:=zjE (st:=slaw) jH jI jJ
 have e:=hfa.symm.trans (mo jG)
 cases e
 refine ⟨W.fnOf "law" "law" (zbi slaw) (zaP slaw) (zak slaw) .none bR bS bT bV a8 bU,fun s v=>.of_eq rfl,fun base _ _=>?_⟩
 have cm:=@zfk l.prog w K mg base
 have mm:=@mth_mk l.prog w K mg base
 have j9:=cm (zeo F_0 T) (mo gE) F_0.kp (by walk_at "bd")
 have ka:=cm (zhM F_1 T j9) (mo gF) F_1.kp (by walk_at "bd")
 have cY:FnOk l.prog w K mg base CX0 1 f_2 _ ["thing","last"] spIsNumD:=zfF F_2 T
 have aN:=zfk cY (mo bW) F_2.kp (by walk_at "bd")
 have ke:=cm (zhL F_3 T) (mo gG) F_3.kp (by walk_at "bd")
 have cZ:=cm (zfG F_4 T aN) (mo gH) F_4.kp (by walk_at "bd")
 have kf:=cm (zgK F_5 T N aN cZ) (mo gI) F_5.kp (by walk_at "bd")
 have kh:=cm (ziX F_6 T N aN ke cZ kf) (mo gJ) F_6.kp (by walk_at "bd")
 have ki:=cm (ziY F_7 T kh) (mo gK) F_7.kp (by walk_at "bd")
 have de:=cm (zdu F_8 T) (mo gL) F_8.kp (by walk_at "bd")
 have kj:=cm (zdt F_9 T de) (mo gM) F_9.kp (by walk_at "bd")
 have kl:=cm (zeV bX T de kj) (mo gO) bX.kp (by walk_at "bd")
 have km:=cm (zgL bY T kl) (mo gP) bY.kp (by walk_at "bd")
 have bh:Cal l.prog w K mg base 1 "is_number" ["thing","last"] spIsNum:=zfk (cY.imp zkm) (mo bW) F_2.kp (by walk_at "bd")
 have aD:=cm (zhN bZ T N bh) (mo gQ) bZ.kp (by walk_at "bd")
 have aE:Clm l.prog w K mg base 1 "Chip" "__init__" (spInit K):=⟨⟨ay,aO,_,_,_,mo gR,gS,gT,gU,b5.kp,zdw b5 T,(by walk_at "bd")⟩⟩
 have ko:=cm (zeX b6 T N) (mo gW) b6.kp (by walk_at "bd")
 have kr:=cm (zen b7 T ko) (mo gX) b7.kp (by walk_at "bd")
 have ku:=mm ar.cl gY aM al.kp (zaY (C:=ac) al T ar) (by walk_at "bd")
 have ky:=mm ar.cl gZ aA ak.kp (za1 (C:=ac) ak T ar) (by walk_at "bd")
 have kz:=mm au.cl hB aM al.kp (zaY (C:=ad) al T au) (by walk_at "bd")
 have kA:=mm au.cl hG aA ak.kp (za1 (C:=ad) ak T au) (by walk_at "bd")
 have kB:=mm av.cl hJ aM al.kp (zaY (C:=aa) al T av) (by walk_at "bd")
 have kC:=mm av.cl hV aA ak.kp (za1 (C:=aa) ak T av) (by walk_at "bd")
 have kD:=mm aw.cl hZ aM al.kp (zaY (C:=ae) al T aw) (by walk_at "bd")
 have kE:=mm aw.cl h7 aA ak.kp (za1 (C:=ae) ak T aw) (by walk_at "bd")
 have kF:=mm ax.cl ib ic b9.kp (zdR (C:=af) b9 T ax) (by walk_at "bd")
 have kG:=mm ax.cl ie aA ak.kp (za1 (C:=af) ak T ax) (by walk_at "bd")
 have df:FnOk l.prog w K mg base CX0 3 aF _ ["self","cells","word"] (spMkSH ac):=zcX (C:=ac) bb T N ar bh aD aE
 have kH:Mak l.prog w K mg base 3 "Store" ac [] (dP []) (spMkSH ac):=zdy (mo b8) cb ci ck cc df (bb.kbinds (ps:=["self","cells","word"]) (ks:=[]) (g:=dP []) cj rfl (fun _ _ _ _ _ _ us ws hl=>(by have hl':us.length=3:=(by have h:=hl;unfold dP at h;rw [Xaq] at h;have h2:(["self","cells","word"]:List Str).length=3:=rfl;simp only [Xaw,Xbc] at h;omega);exact (by apply ln3 us hl';intro _ _ _;exact ⟨_,rfl,rfl⟩))) (Vals.dP (show Vals ([]:List V) ([]:List Value) from .nil)))
 have kI:Mak l.prog w K mg base 3 "Store" ac [] (dP [.int 0]) (spMkSH ac):=zdy (mo b8) cb ci ck cc df (bb.kbinds (ps:=["self","cells","word"]) (ks:=[]) (g:=dP [.int 0 aQ]) cj rfl (fun _ _ _ _ _ _ us ws hl=>(by have hl':us.length=2:=(by have h:=hl;unfold dP at h;rw [Xaq] at h;have h2:(["self","cells","word"]:List Str).length=3:=rfl;simp only [Xaw,Xbc] at h;omega);exact (by apply ln2 us hl';intro _ _;exact ⟨_,rfl,rfl⟩))) (Vals.dP (show Vals [V.int 0] [Value.int 0 aQ] from .cons ⟨_,rfl⟩ .nil)))
 have kJ:FnOk l.prog w K mg base CX0 3 aG _ ["self","words"] (spMkFH ad):=zc0 (C:=ad) cp T N au aD aE
 have kK:Mak l.prog w K mg base 3 "Fixed" ad [] (dP []) (spMkFH ad):=zdy (mo g7) ig ij ik ii kJ (cp.kbinds (ps:=["self","words"]) (ks:=[]) (g:=dP []) (fun _ _ _ _ _ _ us ws hl=>(by have hl':us.length=2:=(by have h:=hl;unfold dP at h;rw [Xaq] at h;have h2:(["self","words"]:List Str).length=2:=rfl;simp only [Xaw,Xbc] at h;omega);exact (by apply ln2 us hl';intro _ _;exact rfl))) (Vals.dP (show Vals ([]:List V) ([]:List Value) from .nil)))
 have dh:FnOk l.prog w K mg base CX0 3 aH _ ["self","word"] (spMk1H aa "latch"):=zcZ (C:=aa) bc T av aD aE
 have kL:Mak l.prog w K mg base 3 "Latch" aa [] (dP []) (spMk1H aa "latch"):=zdy (mo ba) cq cu cx cr dh (bc.kbinds (ps:=["self","word"]) (ks:=[]) (g:=dP []) cw rfl (fun _ _ _ _ _ _ us ws hl=>(by have hl':us.length=2:=(by have h:=hl;unfold dP at h;rw [Xaq] at h;have h2:(["self","word"]:List Str).length=2:=rfl;simp only [Xaw,Xbc] at h;omega);exact (by apply ln2 us hl';intro _ _;exact ⟨_,rfl,rfl⟩))) (Vals.dP (show Vals ([]:List V) ([]:List Value) from .nil)))
 have kM:Mak l.prog w K mg base 3 "Latch" aa [] (dP [.int 0]) (spMk1H aa "latch"):=zdy (mo ba) cq cu cx cr dh (bc.kbinds (ps:=["self","word"]) (ks:=[]) (g:=dP [.int 0 aR]) cw rfl (fun _ _ _ _ _ _ us ws hl=>(by have hl':us.length=1:=(by have h:=hl;unfold dP at h;rw [Xaq] at h;have h2:(["self","word"]:List Str).length=2:=rfl;simp only [Xaw,Xbc] at h;omega);exact (by apply ln1 us hl';intro _;exact ⟨_,rfl,rfl⟩))) (Vals.dP (show Vals [V.int 0] [Value.int 0 aR] from .cons ⟨_,rfl⟩ .nil)))
 have kN:FnOk l.prog w K mg base CX0 3 aI _ ["self","word"] (spMk1H ae "meter"):=zcY (C:=ae) cy T aw aD aE
 have kO:Mak l.prog w K mg base 3 "Meter" ae [] (dP []) (spMk1H ae "meter"):=zdy (mo hW) il ip ir io kN (cy.kbinds (ps:=["self","word"]) (ks:=[]) (g:=dP []) iq rfl (fun _ _ _ _ _ _ us ws hl=>(by have hl':us.length=2:=(by have h:=hl;unfold dP at h;rw [Xaq] at h;have h2:(["self","word"]:List Str).length=2:=rfl;simp only [Xaw,Xbc] at h;omega);exact (by apply ln2 us hl';intro _ _;exact ⟨_,rfl,rfl⟩))) (Vals.dP (show Vals ([]:List V) ([]:List Value) from .nil)))
 have kP:FnOk l.prog w K mg base CX0 3 aJ _ ["self","room"] (spMkP af):=zdv (C:=af) cz T N ax bh kr aE
 have kQ:Mak l.prog w K mg base 3 "Pipe" af [] (dP []) (spMkP af):=zdy (mo ia) iu iy iA iw kP (cz.kbinds (ps:=["self","room"]) (ks:=[]) (g:=dP []) iz rfl (fun _ _ _ _ _ _ us ws hl=>(by have hl':us.length=2:=(by have h:=hl;unfold dP at h;rw [Xaq] at h;have h2:(["self","room"]:List Str).length=2:=rfl;simp only [Xaw,Xbc] at h;omega);exact (by apply ln2 us hl';intro _ _;exact ⟨_,rfl,rfl⟩))) (Vals.dP (show Vals ([]:List V) ([]:List Value) from .nil)))
 have sk:∀ es:Array DictEntry,es.toList.all (fun e=>match e.key with | .str _ _=>true | _=>false)=true→StrKeys es:=fun es h e he=>strKey (Xa5.mp h e (Array.mem_toList_iff.mpr he))
 have xc:XCls K ag:=⟨⟨_,_,_,_,xl⟩,c1_,c2_,c3_,c4_,c5_⟩
 have GS:SupI K mg "BusError" := ⟨⟨ai,mo cA,s1_,s2_,s3_⟩⟩
 have dj:ExcI K ag aq:=⟨⟨_,_,_,_,_,_,_,_,_,_,_,_,_,_,_,xl,⟨_,_,_,_,_,xn,sk _ xs,iD⟩,.own yl ⟨_,_,_,_,_,yn,sk _ ys,yi⟩ .base⟩,xa⟩
 have kR:XIni l.prog w K mg base 1 "NoWord" ag (spNwI ag):=by
  obtain ⟨oI,h1,h2⟩:=zh2 iF
  exact ⟨mo be,aq,_,_,oI,dj,⟨h1,h2⟩,zcH iE T GS dj iB,(by walk_at "bd")⟩
 have xkn:ExcK K ah:=⟨⟨_,_,_,_,_,_,_,_,_,_,_,_,_,_,_,_,xln,⟨_,_,_,_,_,xnn,sk _ xsn,xin⟩,.own yl ⟨_,_,_,_,_,yn,sk _ ys,yi⟩ .base⟩⟩
 have xcn:XCls K ah:=⟨⟨_,_,_,_,xln⟩,iQ,iR,iS,iT,iU⟩
 have MS:∀ kd,kd<5→Mth l.prog w K mg base 1 ((csOf ac ad aa ae af) kd) "state" [] (fun vs _=>vs) (spState ((csOf ac ad aa ae af) kd)):=fun kd h=>by
  rcases (show kd=0∨kd=1∨kd=2∨kd=3∨kd=4 by omega) with rfl | rfl | rfl | rfl | rfl
  ·exact ky
  ·exact kA
  ·exact kC
  ·exact kE
  ·exact kG
 have ML:∀ kd,kd<5→Mth l.prog w K mg base 1 ((csOf ac ad aa ae af) kd) "__len__" [] (fun vs _=>vs) (spLen ((csOf ac ad aa ae af) kd) (lenK kd)):=fun kd h=>by
  rcases (show kd=0∨kd=1∨kd=2∨kd=3∨kd=4 by omega) with rfl | rfl | rfl | rfl | rfl
  ·exact ku
  ·exact kz
  ·exact kB
  ·exact kD
  ·exact kF
 have KL5:∀ kd,kd<5→W.kitOne K (.ref ((csOf ac ad aa ae af) kd)) (.ref ((csOf ac ad aa ae af) 2))=some (decide (kd=2)):=fun kd h=>by
  rcases (show kd=0∨kd=1∨kd=2∨kd=3∨kd=4 by omega) with rfl | rfl | rfl | rfl | rfl
  ·exact i5
  ·exact i8
  ·exact jb
  ·exact je
  ·exact jh
 have TL5:∀ kd,kd<5→∀ {H:Hp} {a dx:Addr} {fs:List (Str×V)},H a=some (.ins ((csOf ac ad aa ae af) kd) dx fs)→TyOf K H (.ref a) (.ref ((csOf ac ad aa ae af) kd)):=fun kd h=>by
  rcases (show kd=0∨kd=1∨kd=2∨kd=3∨kd=4 by omega) with rfl | rfl | rfl | rfl | rfl
  ·exact fun e=>.ins e ar.cl i3 aB aC i4
  ·exact fun e=>.ins e au.cl i6 aB aC i7
  ·exact fun e=>.ins e av.cl i9 aB aC ja
  ·exact fun e=>.ins e aw.cl jc aB aC jd
  ·exact fun e=>.ins e ax.cl jf aB aC jg
 have kS:=cm (zgJ (cs:=(csOf ac ad aa ae af)) cD T ka (mo ba) KL5 TL5 ML) (mo ji) cD.kp (by walk_at "bd")
 have dk:FnOk l.prog w K mg base (CX1 l.prog w) 6 aK _ ["bits","rows","chips"] (spChkMap ah (csOf ac ad aa ae af)):=zfH (CT_NoMap:=ah) (cs:=(csOf ac ad aa ae af)) bf T N aN ki kS (mo cC) xkn
 have kT:CalX l.prog w K mg base 6 "check_map" ["bits","rows","chips"] (spChkMap ah (csOf ac ad aa ae af)):=⟨aK,_,dk,mo cE,bf.kp,(by walk_at "bd")⟩
 have kU:=dk.calm
 have lm:=zfk kU (mo cE) bf.kp (by walk_at "bd")
 have kW:=cm (zep cF T km) (mo jj) cF.kp (by walk_at "bd")
 have dz:FnOk l.prog w K mg base (CX1 l.prog w) 3 aL _ ["word"] (spChkWX ag):=zeW (CT:=ag) bg T aD kR
 have kX:CalX l.prog w K mg base 3 "check_word" ["word"] (spChkWX ag):=⟨aL,_,dz,mo cG,bg.kp,(by walk_at "bd")⟩
 have kY:=dz.calm
 have lp:=zfk kY (mo cG) bg.kp (by walk_at "bd")
 have kZ:FnOk l.prog w K mg base (CX1 l.prog w) 7 az _ ["self","bits","rows","chips","floating"] (spInitX aj ah ag (csOf ac ad aa ae af)):=zc1 (C:=aj) cH T (mn zS) jl kT kW kX
 have dA:MakX l.prog w K mg base 7 "Board" aj [] (dP []) (spInitX aj ah ag (csOf ac ad aa ae af)):=⟨mo jk,az,_,_,_,⟨jm,jo,jq,jn⟩,kZ,(cH.kbinds (ps:=["self","bits","rows","chips","floating"]) (ks:=[]) (g:=dP []) jp rfl (fun _ _ _ _ _ _ us ws hl=>(by have hl':us.length=5:=(by have h:=hl;unfold dP at h;rw [Xaq] at h;have h2:(["self","bits","rows","chips","floating"]:List Str).length=5:=rfl;simp only [Xaw,Xbc] at h;omega);exact (by apply ln5 us hl';intro _ _ _ _ _;exact ⟨_,rfl,rfl⟩))) (Vals.dP (show Vals ([]:List V) ([]:List Value) from .nil)))⟩
 have k4:=cm (ze0 cI T) (mo jr) cI.kp (by walk_at "bd")
 have dB:=cm (zfL cJ T) (mo js) cJ.kp (by walk_at "bd")
 have k6:=cm (zgO cK T dB) (mo jt) cK.kp (by walk_at "bd")
 have dC:=cm (zfJ cL T) (mo ju) cL.kp (by walk_at "bd")
 have k7:=cm (zfN (cs:=(csOf ac ad aa ae af)) cM T kK kQ kL kO kH) (mo jv) cM.kp (by walk_at "bd")
 have k8:=cm (ze1 (cs:=(csOf ac ad aa ae af)) cO T k7) (mo jw) cO.kp (by walk_at "bd")
 have k9:=cm (zgM (cs:=(csOf ac ad aa ae af)) cP T k6 dC) (mo jx) cP.kp (by walk_at "bd")
 have lc:=cm (zfK cQ T (mn zS)) (mo jy) cQ.kp (by walk_at "bd")
 have le:=cm (zgN (cs:=(csOf ac ad aa ae af)) cR T k9 lc) (mo jz) cR.kp (by walk_at "bd")
 have lf:=cm (ze2 (cs:=(csOf ac ad aa ae af)) cS T k8 le) (mo jA) cS.kp (by walk_at "bd")
 have lg:=cm (zdQ (cs:=(csOf ac ad aa ae af)) cT T dC dB) (mo jB) cT.kp (by walk_at "bd")
 have dD:=cm (zfI (C:=aj) (CM:=ah) (CW:=ag) (CB:=ai) (cs:=(csOf ac ad aa ae af)) cU T (mn zV) dA (mo cA) (mo cC) (mo be) (mo iG) (mo iH) (mo iI) (mo iJ) (mo iK) (mo iL) (mo iM) (mo iO) (mo iP) iV m6_ xcn xc iW m7_ iX m8_ m9_ iZ iY m5_) (mo jC) cU.kp (by walk_at "bd")
 have lh:=cm (zeZ (C:=aj) (CM:=ah) (CW:=ag) (cs:=(csOf ac ad aa ae af)) cV T dA (mo be) m1_ xc xh iC) (mo jD) cV.kp (by walk_at "bd")
 have li:=cm (zeY (cs:=(csOf ac ad aa ae af)) cW T kI kM dD) (mo jE) cW.kp (by walk_at "bd")
 have lj:=cm (zfM (cs:=(csOf ac ad aa ae af)) cX T k4 lf lg dD lh MS) (mo jF) cX.kp (by walk_at "bd")
 exact oklaw j8 T li lj
theorem walk {l:W.OpenLaw}{q:Program}{loose:List Str}{XP:(Str→Option Value)→Heap→Prop}{YP:World→Heap→Prop}{d:DefRec}{K:Params→W.Frag}(hn:l.most=some 63)(hdf:d.params.defaults=[])
  (hY:∀ (w:World) (h:Heap),YP w h→(K w.params).In h)
  (F:∀ (w:World) (mg:Str→Option Value) (fa:Addr) (h:Heap),(K w.params).In h→h.Ns mainGlobals mg→mg d.name=some (.ref fa) →
   ∃ fd:FuncData,(∀ (s:Shared) (u:Value),BindsTo s fd ⟨[u],[]⟩ [("script",u)])∧∀ base:Heap,(K w.params).In base→base.Ns mainGlobals mg→FnOk l.prog w (K w.params) mg base CX0 11 fa fd ["script"] (spLaw (K w.params))) :
  W.WalkO q loose XP YP l.row.toRowW d [] (fun f vs=>PySem.call f vs):=
 L2.walk_ofB (n:=63) (k:=11) (x := "script") (CX:=fun _=>CX0) (sp:=fun w=>spLaw (K w.params)) hn (by decide) hdf ⟨rfl,by decide,by decide,rfl⟩ hY F (fun _ _ a ns hl hb _ hS=>⟨a,ns,rfl,hS,hl,hb,fun _=>rfl⟩) fun _ _ _ _ _ z=>z
end Cb
open PySem PySem.W PyProof.Rows Cb L2
local macro_rules | `(tactic| walk_at "fm")=>`(tactic| (refine' zjE ?l ?c ?k;(case l=>k_is);(case c=>k_is);(case k=>k_is)))
local macro_rules | `(tactic| walk_at "fd")=>`(tactic| (refine' zky ?l ?c ?k;(case l=>k_is);(case c=>k_is);(case k=>k_is)))
local macro_rules | `(tactic| walk_at "na")=>`(tactic| (show W.findIn _ _ _=_;k_is))
local macro_rules | `(tactic| walk_at "nr")=>`(tactic| (show W.nsIn _ _ _=some (some _);k_is))
local macro_rules | `(tactic| walk_at "nf")=>`(tactic| (show W.findIn _ _ _=some (some _);k_is))
local macro_rules | `(tactic| walk_at "ni")=>`(tactic| (show W.isFn _ _=true;k_is))
local macro_rules | `(tactic| walk_at "cs")=>`(tactic| exact ⟨by k_is,by k_is,by k_is,by k_is⟩)
local macro_rules | `(tactic| walk_at "cl")=>`(tactic| exact ⟨by walk_at "cs",by walk_at "na",by walk_at "na",by walk_at "na"⟩)
local macro_rules | `(tactic| walk_at "cb")=>`(tactic| exact ⟨by walk_at "cs",by walk_at "na",by walk_at "na",by walk_at "na",by walk_at "na",by walk_at "na",by walk_at "na",by walk_at "na"⟩)
local macro_rules | `(tactic| walk_at "cw")=>`(tactic| exact ⟨by walk_at "cs",by walk_at "na",by walk_at "na",by walk_at "na",by walk_at "na"⟩)
local macro_rules | `(tactic| walk_at "cv")=>`(tactic| exact ⟨by walk_at "cs",by walk_at "na",by walk_at "na",by walk_at "na",by walk_at "na",by walk_at "na",by walk_at "na"⟩)
set_option maxRecDepth 1000000 in
set_option maxHeartbeats 0 in
theorem PySem.Challenge.cw_chipbus_k32_no_map_holds : PySem.Challenge.rw_chipbus_k32_no_map.Holds := by
 refine Hd.top ?_
 k_fill
 refine Cb.walk (l:=PySem.Challenge.rw_chipbus_k32_no_map) rfl rfl (fun w h Y=>PySem.W.kIn_of Y) ?F
 case F =>
  intro w mg fa h KX G hmg
  refine' Cb.all_mk KX G hmg ?_ ?_ ?_ ?_ ?_ ?_ ?_ ?_ ?_ ?_ ?_ ?_ ?_ ?_ ?_ ?_ ?_ ?_ ?_ ?_ ?_ ?_ ?_ ?_ ?_ ?_ ?_ ?_ ?_ ?_ ?_ ?_ ?_ ?_ ?_ ?_ ?_ ?_ ?_ ?_ ?_ ?_ ?_ ?_ ?_ ?_ ?_ ?_ ?_ ?_ ?_ ?_ ?_ ?_ ?_ ?_ ?_ ?_ ?_ ?_ ?_ ?_ ?_ ?_ ?_ ?_ ?_ ?_ ?_ ?_ ?_ ?_ ?_ ?_ ?_ ?_ ?_ ?_ ?_ ?_ ?_ ?_ ?_ ?_ ?_ ?_ ?_ ?_ ?_ ?_ ?_ ?_ ?_ ?_ ?_ ?_ ?_ ?_ ?_ ?_ ?_ ?_ ?_ ?_ ?_ ?_ ?_ ?_ ?_ ?_ ?_ ?_ ?_ ?_ ?_ ?_ ?_ ?_ ?_ ?_ ?_ ?_ ?_ ?_ ?_ ?_ ?_ ?_ ?_ ?_ ?_ ?_ ?_ ?_ ?_ ?_ ?_ ?_ ?_ ?_ ?_ ?_ ?_ ?_ ?_ ?_ ?_ ?_ ?_ ?_ ?_ ?_ ?_ ?_ ?_ ?_ ?_ ?_ ?_ ?_ ?_ ?_ ?_ ?_ ?_ ?_ ?_ ?_ ?_ ?_ ?_ ?_ ?_ ?_ ?_ ?_ ?_ ?_ ?_ ?_ ?_ ?_ ?_ ?_ ?_ ?_ ?_ ?_ ?_ ?_ ?_ ?_ ?_ ?_ ?_ ?_ ?_ ?_ ?_ ?_ ?_ ?_ ?_ ?_ ?_ ?_ ?_ ?_ ?_ ?_ ?_ ?_ ?_ ?_ ?_ ?_ ?_ ?_ ?_ ?_ ?_ ?_ ?_ ?_ ?_ ?_ ?_ ?_ ?_ ?_ ?_ ?_ ?_ ?_ ?_ ?_ ?_
  all_goals first | walk_at "nr" | walk_at "fm" | walk_at "cl" | walk_at "nf" | walk_at "ni" | walk_at "fd" | walk_at "cb" | k_is | rfl | (intro _;rfl) | skip
#print axioms PySem.Challenge.cw_chipbus_k32_no_map_holds
