import PyProof.Rows.All
import Wide.All
import OpenK.AllK
import Wide.FinOn
import Lean
import PyProof.EqAt
import PyProof.EqKinds
import PyProof.TupleCall
import PyProof.NeKinds
import PyProof.DelItemList
import PyProof.StationsW
import PyProof.Rows.Own
import PyProof.RulesDel
import PyProof.RulesAs
import PyProof.ExcBaseAll.ValueError
import KE.KTryMore
import PyProof.ExcArgs
import KE.KIsAll
import PyProof.ListRange
import PyProof.Rows.RuleM_int
import PyProof.Draws
import PyProof.EnumMake
import KE.KDictSum
import KE.KItemsList
import KE.KSortTup
import PyProof.MinMaxWalk
import PyProof.WalkInts
import PyProof.CallTypeRange
import KE.KEqDict
import PyProof.FitsInt
import PyProof.Rows.StrNews
import KE.KIntText
import PyProof.StrWalks
import PyProof.Rows.StrRules
import KE.KUnpackStar
import PyProof.StrLawsTight
import PyProof.StrLawsChain
import PyProof.Rows.StrClose
import PyProof.SetRoads
import PyProof.DictCompW
import PySem.Challenge.RW_chipbus_k61_whole_great_chips
section
set_option Elab.async false
set_option linter.all false
set_option maxRecDepth 1000000
set_option maxHeartbeats 0
namespace Hd
open PySem PySem.W
noncomputable def runQ (p:Program) (w:World) (n₀:Nat) (ann:Option Value) (N:Nat):SharedT→Thread→Option SharedT:=
 @Nat.rec (fun _=>SharedT→Thread→Option SharedT) (fun _ _=>none) (fun _ ih s t=>match through t with
  | true=>some s
  | false=>match Fast.tw6613529449190102663 n₀ ann t with
   | false=>none
   | true=>match Fast.tw10156331382660048174 (Fast.tw11892475500146522536 Fast.tw14364793385576792824) p w s t with
    | some (s',t')=>ih s' t'
    | none=>none) N
theorem zkU {p:Program} {w:World} {n₀:Nat} {ann:Option Value}:∀ {N:Nat} {s s':SharedT} {t:Thread},runQ p w n₀ ann N s t=some s'→topRun treeTable p w n₀ ann N s.abs t=some s'.abs
 | 0,s,s',t,h=>by cases h
 | N+1,s,s',t,h=>by
  have h:(match through t with
  | true=>some s
  | false=>match Fast.tw6613529449190102663 n₀ ann t with
   | false=>none
   | true=>match Fast.tw10156331382660048174 (Fast.tw11892475500146522536 Fast.tw14364793385576792824) p w s t with
    | some (s',t')=>runQ p w n₀ ann N s' t'
    | none=>none)=some s':=h
  rw [← Fast.te6613529449190102663,← Fast.te10156331382660048174,← Fast.te11892475500146522536,← Fast.te14364793385576792824] at h
  unfold topRun
  cases ht:through t with
  | true=>rw [ht] at h;cases h;rfl
  | false =>
   rw [ht] at h
   cases hk:stepOk n₀ ann t with
   | false=>rw [hk] at h;cases h
   | true =>
    rw [hk] at h
    cases hs:stepT (denote treeTable) p w s t with
    | none=>rw [hs] at h;cases h
    | some r=>obtain ⟨s₂,t₂⟩:=r;rw [hs] at h;dsimp only;rw [stepT_spec hs];exact zkU h
noncomputable def treeL:List Obj→Nat→BT→BT:=@List.rec Obj (fun _=>Nat→BT→BT) (fun _ t=>t) (fun o _ ih n t=>ih (n+1) (t.ins n o))
noncomputable def zl7 (P:Params):BT:=treeL (boot_heap P).objs.toList 0 .nil
theorem zkK (P:Params):absHeap (zl7 P) 11 (boot_heap P).life=boot_heap P:=by kernel_rfl
theorem zjF (P:Params):((boot_heap P).isNs mainGlobals && (Array.mk []:Array GenState).size == 0,(boot_heap P).objs.size,(boot_heap P).nsMap mainGlobals "__annotations__")=(true,11,some (.ref 6)):=by kernel_rfl
noncomputable def zh4 (P:Params) (os:OsState):SharedT:=⟨zl7 P,11,(boot_heap P).life,Array.mk [],boot_drawn,boot_toks,os⟩
noncomputable def getT (s:SharedT) (a:Addr):Option Obj:=match Nat.blt a s.n with
 | true=>match s.tree.get a with
  | some o=>alive o
  | none=>none
 | false=>none
theorem zlY {s:SharedT} {a:Addr} {o:Obj} (h:getT s a=some o):s.abs.heap.get? a=some o:=by
 unfold getT at h
 cases e:Nat.blt a s.n with
 | false=>rw [e] at h;cases h
 | true =>
  rw [e] at h
  cases g:s.tree.get a with
  | none=>rw [g] at h;cases h
  | some x=>rw [g] at h;exact (abs_get (Nat.le_of_ble_eq_true e) g).trans h
theorem zhr {s:SharedT}:∀ {as:List Addr} {L:List (Nat×Obj)},as.map (getT s)=L.map (fun p=>some p.2)→as.map s.abs.heap.get? = L.map (fun p=>some p.2)
 | [],[],_=>rfl
 | [],_ :: _,h=>by cases h
 | _ :: _,[],h=>by cases h
 | a :: as,p :: L,h=>by
  obtain ⟨h1,h2⟩:=List.cons.inj h
  exact List.cons_eq_cons.mpr ⟨zlY h1,zhr h2⟩
abbrev zjJ (p q:Program) (loose:List Str) (Xt:Shared→Bool) (N:Nat) (g0:Bool) (w:World) (os:OsState):Prop:=(runQ p w 11 (some (.ref 6)) N (zh4 w.params os) (topStub p)).map (fun s =>
   ((staticsOk (importedModules p.main.body) (boot_heap w.params) s.abs.heap && namesBound p s.abs.heap && gensDone s.abs && laidKept (boot_heap w.params) s.abs.heap),openSeen q loose (importedModules p.main.body) Xt g0 s.abs))=some (true,openGood q loose)
def zlm (p q:Program) (loose:List Str) (Xt:Shared→Bool) (N:Nat) (g0:Bool):Prop:=∀ (w:World) (os:OsState),zjJ p q loose Xt N g0 w os
def SeenF (row:String) (b:Bool) (p q:Program) (loose:List Str) (Xt:Shared→Bool) (N:Nat) (g0:Bool):Prop:=∀ (w:World) (os:OsState),zjJ p q loose Xt N g0 (w.withFollow row b) os
theorem zgS {p q:Program} {loose:List Str} {Xt:Shared→Bool} {K:Params→Frag} {as:List Addr} {ex:∀ P,as=(K P).map (·.1)} {N:Nat} {g0:Bool} {w:World} (h:∀ os,zjJ p q loose Xt N g0 w os) (e:opening p=plainProg p.main.scope.names) (f:∀ s,fenceModules? p s=some s) (hN:Nat.ble 600 N=true)
  (hK:∀ os:OsState,(runQ p w 11 (some (.ref 6)) N (zh4 w.params os) (topStub p)).map (fun s=>as.map (getT s))=some ((K w.params).map fun p=>some p.2)) :
  (openEnds treeTable p w N).map (fun s=>(openSeen q loose (importedModules p.main.body) Xt g0 s,(kHook K as ex).obs s))=some (openGood q loose,(kHook K as ex).val w):=by
 have ho:=boot_open e hN f w
 obtain ⟨⟨hh,gs,d,k,os⟩,e1,e2⟩:=Option.map_eq_some_iff.mp ho
 obtain ⟨rfl,rfl,rfl,rfl⟩:hh=boot_heap w.params∧gs=Array.mk []∧d=boot_drawn∧k=boot_toks:=by simpa using e2
 obtain ⟨z1,z2,z3⟩:_∧_∧_:=by simpa only [Prod.mk.injEq] using zjF w.params
 obtain ⟨s,r,l⟩:=Option.map_eq_some_iff.mp (h os)
 obtain ⟨s',r',l'⟩:=Option.map_eq_some_iff.mp (hK os)
 rw [r] at r'
 cases r'
 have l3:=zhr l'
 obtain ⟨l1,l2⟩:_∧_:=by simpa only [Prod.mk.injEq] using l
 have r:=zkU r
 have ea:(zh4 w.params os).abs=⟨boot_heap w.params,Array.mk [],boot_drawn,boot_toks,os⟩:=by
  show (⟨absHeap (zl7 w.params) 11 (boot_heap w.params).life,Array.mk [],boot_drawn,boot_toks,os⟩:Shared)=_
  rw [zkK]
 rw [ea] at r
 have t:topFrom treeTable p w N ⟨boot_heap w.params,Array.mk [],boot_drawn,boot_toks,os⟩=some s.abs:=by
  unfold topFrom
  dsimp only
  rw [z1,z2,z3,r]
  show (match staticsOk (importedModules p.main.body) (boot_heap w.params) s.abs.heap && namesBound p s.abs.heap && gensDone s.abs && laidKept (boot_heap w.params) s.abs.heap with | true=>_ | false=>_)=_
  rw [l1]
 unfold openEnds
 rw [e1]
 show (topFrom treeTable p w N _).map _=_
 rw [t]
 exact congrArg some (Prod.ext l2 l3)
theorem left_of {p q:Program} {loose:List Str} {Xt:Shared→Bool} {K:Params→Frag} {as:List Addr} {ex:∀ P,as=(K P).map (·.1)} {N:Nat} {g0:Bool} (h:zlm p q loose Xt N g0) (e:opening p=plainProg p.main.scope.names) (f:∀ s,fenceModules? p s=some s) (hN:Nat.ble 600 N=true)
  (hK:∀ (w:World) (os:OsState),(runQ p w 11 (some (.ref 6)) N (zh4 w.params os) (topStub p)).map (fun s=>as.map (getT s))=some ((K w.params).map fun p=>some p.2)) :
  LeftO p q loose Xt (kHook K as ex).obs (kHook K as ex).val N g0:=fun w=>zgS (h w) e f hN (hK w)
theorem left_split {p q:Program} {loose:List Str} {Xt:Shared→Bool} {K:Params→Frag} {as:List Addr} {ex:∀ P,as=(K P).map (·.1)} {N:Nat} {g0:Bool} (row:String) (h:SeenF row false p q loose Xt N g0) (h':SeenF row true p q loose Xt N g0) (e:opening p=plainProg p.main.scope.names) (f:∀ s,fenceModules? p s=some s) (hN:Nat.ble 600 N=true)
  (hK:∀ (w:World) (os:OsState),(runQ p (w.withFollow row false) 11 (some (.ref 6)) N (zh4 (w.withFollow row false).params os) (topStub p)).map (fun s=>as.map (getT s))=some ((K (w.withFollow row false).params).map fun p=>some p.2))
  (hK':∀ (w:World) (os:OsState),(runQ p (w.withFollow row true) 11 (some (.ref 6)) N (zh4 (w.withFollow row true).params os) (topStub p)).map (fun s=>as.map (getT s))=some ((K (w.withFollow row true).params).map fun p=>some p.2)) :
  LeftO p q loose Xt (kHook K as ex).obs (kHook K as ex).val N g0:=fun w=>by
 have z:=World.withFollow_self w row
 cases hb:w.params.followText row <;> rw [hb] at z
 ·have:=zgS (ex:=ex) (h w) e f hN (hK w)
  rw [z] at this;exact this
 ·have:=zgS (ex:=ex) (h' w) e f hN (hK' w)
  rw [z] at this;exact this
end Hd
end
set_option Elab.async false
section
set_option maxRecDepth 1000000
set_option maxHeartbeats 0
namespace Hd
open PySem PySem.W
def vw:Program:=PySem.W.view PySem.Challenge.pw_chipbus_k61_whole_great_chips [0,2,3,4,5,6,7,8,9,11,12,13,15,16,17,19,20,21,22,24,25,26,27,28,29,31,32,33,34,35,36,37,38,40,41,42,43,44,45,46,48,49,50,51,52,53,54,55,56,58,59,60,61,62,63,64,65,66,67,68,69]
def ls:List Str:=["Store","Latch","Meter","Board"]
theorem h1:zlm PySem.Challenge.rw_chipbus_k61_whole_great_chips.row.prog vw ls (fun s=>xlAt vw [] s && recOk (RowW.records (OpenRow.toRowW (OpenLaw.row PySem.Challenge.rw_chipbus_k61_whole_great_chips))) s) 11452 true:=by
 intro w os
 kernel_rfl
end Hd
open PySem PySem.W in
local macro_rules | `(tactic| o_head $H)=>`(tactic| (
 refine holds_open (q:=Hd.vw) (loose:=Hd.ls) (Xt:=fun s=>xlAt Hd.vw [] s && recOk (RowW.records (OpenRow.toRowW (OpenLaw.row PySem.Challenge.rw_chipbus_k61_whole_great_chips))) s) (XP:=XL Hd.vw []) (Yf:=Hook.obs $H) (Ya:=Hook.val $H) (YP:=Hook.says $H) (N:=11452) ?hl (Hook.of $H) (Hook.keeps $H) (fun s e=>xl_of s (Bool.and_eq_true_iff.mp e).1) XL.keeps (by rfl) (by rfl) (by rfl) (fun s e=>recFacts_of (Bool.and_eq_true_iff.mp e).2) (by rfl) (by first | assumption | decide +kernel) (by decide +kernel) ⟨rfl,rfl,rfl,rfl,rfl,by decide +kernel⟩ ?hw ?hc
 (case hl=>refine Hd.left_of Hd.h1 (by kernel_rfl) (fun s=>by kernel_rfl) rfl ?h2;(case h2=>(intro w os;kernel_rfl)))))
open_top Hd.top for PySem.Challenge.rw_chipbus_k61_whole_great_chips
end
section
set_option Elab.async false
set_option linter.all false
set_option maxRecDepth 100000
namespace L2
open PySem PySem.Spec PyProof.Rows
abbrev Key:=Sum Int Str
def zgU:Key→Value→Bool
 | .inl k,v=>Value.isInt k v
 | .inr x,v=>Value.isStrOf x v
def keyH (w:World):Key→Int
 | .inl k=>hashInt k
 | .inr x=>hashStr w x
theorem zaK:∀ {k:Key} {v:Value},zgU k v=true→(∃ i t,k=Sum.inl i∧v=Value.int i t)∨(∃ x t,k=Sum.inr x∧v=Value.str x t)
 | .inl i,v,h=>by
  obtain ⟨t,e⟩:=Value.isInt_shape (k:=i) (v:=v) h
  exact .inl ⟨i,t,rfl,e⟩
 | .inr x,v,h=>by
  obtain ⟨t,e⟩:=Value.isStrOf_shape (x:=x) (v:=v) h
  exact .inr ⟨x,t,rfl,e⟩
theorem zja (i:Int) (t:Tok):zgU (.inl i) (.int i t)=true:=by simp [zgU,Value.isInt]
theorem zi9 (x:Str) (t:Tok):zgU (.inr x) (.str x t)=true:=by simp [zgU,Value.isStrOf]
theorem key_ll (a b:Int):decide ((Sum.inl a:Key)=Sum.inl b)=(a == b):=by
 by_cases e:a=b
 ·subst e;simp
 ·have h:¬ (Sum.inl a:Key)=Sum.inl b:=fun q=>e (Sum.inl.inj q)
  rw [decide_eq_false h]
  exact (beq_eq_false_iff_ne.mpr e).symm
theorem key_rr (a b:Str):decide ((Sum.inr a:Key)=Sum.inr b)=decide (a=b):=by
 by_cases e:a=b
 ·subst e;simp
 ·have h:¬ (Sum.inr a:Key)=Sum.inr b:=fun q=>e (Sum.inr.inj q)
  rw [decide_eq_false h,decide_eq_false e]
theorem key_lr (a:Int) (b:Str):decide ((Sum.inl a:Key)=Sum.inr b)=false:=decide_eq_false (fun q=>nomatch q)
theorem key_rl (a:Str) (b:Int):decide ((Sum.inr a:Key)=Sum.inl b)=false:=decide_eq_false (fun q=>nomatch q)
def zaH (prog:Program) (w:World):PySem.KeyKind prog w Key where
 is:=zgU
 hash:=keyH w
 inj:=fun v a b ha hb=>by
  rcases zaK ha with ⟨i,t,rfl,rfl⟩ | ⟨x,t,rfl,rfl⟩
  ·rcases zaK hb with ⟨j,u,rfl,e⟩ | ⟨y,u,rfl,e⟩
   ·injection e with e1 _;rw [e1]
   ·exact nomatch e
  ·rcases zaK hb with ⟨j,u,rfl,e⟩ | ⟨y,u,rfl,e⟩
   ·exact nomatch e
   ·injection e with e1 _;rw [e1]
 byValue:=fun k v h=>by
  rcases zaK h with ⟨i,t,rfl,rfl⟩ | ⟨x,t,rfl,rfl⟩ <;> rfl
 pyHash:=fun hv h=>by
  rcases zaK hv with ⟨i,t,rfl,rfl⟩ | ⟨x,t,rfl,rfl⟩
  ·exact wpAny_pyHash_int h
  ·exact wpAny_pyHash_str h
 eqBool:=fun hu hv h=>by
  rcases zaK hu with ⟨i,t,rfl,rfl⟩ | ⟨x,t,rfl,rfl⟩
  ·rcases zaK hv with ⟨j,u,rfl,rfl⟩ | ⟨y,u,rfl,rfl⟩
   ·rw [key_ll] at h;exact wpAny_eqBool_int h
   ·rw [key_lr] at h;exact SeqAt.EqAt.int_str i t y u _ _ _ _ h
  ·rcases zaK hv with ⟨j,u,rfl,rfl⟩ | ⟨y,u,rfl,rfl⟩
   ·rw [key_rl] at h;exact SeqAt.EqAt.str_int x t j u _ _ _ _ h
   ·rw [key_rr] at h;exact wpAny_eqBool_str h
 «strs»:=fun k x t v h=>by
  rcases zaK h with ⟨i,u,rfl,e⟩ | ⟨y,u,rfl,e⟩
  ·exact nomatch e
  ·injection e with e1 _
   subst e1
   cases v <;> rfl
theorem zgQ (prog:Program) (w:World) (i:Int) (t:Tok):(zaH prog w).is (.inl i) (.int i t)=true:=zja i t
theorem zgP (prog:Program) (w:World) (x:Str) (t:Tok):(zaH prog w).is (.inr x) (.str x t)=true:=zi9 x t
end L2
namespace L2
open PySem PySem.Spec PyProof.Rows
inductive V where
 | non | bl (b:Bool) | int (i:Int) | str (x:Str) | byt (b:Array UInt8) | flt (b:UInt64) | ref (a:Addr) | ty (n:String)
 deriving DecidableEq
def RelV:V→Value→Prop
 | .non,u=>u=Value.none
 | .bl b,u=>u=Value.bool b
 | .int i,u=>∃ t,u=Value.int i t
 | .str x,u=>∃ t,u=Value.str x t
 | .byt b,u=>∃ t,u=Value.bytes b t
 | .flt b,u=>∃ t,u=Value.float b t
 | .ref a,u=>u=Value.ref a
 | .ty n,u=>u=Value.type n
abbrev Vals:List V→List Value→Prop:=Paired RelV
theorem Vals.length {xs:List V} {us:List Value} (r:Vals xs us):xs.length=us.length:=Paired.length r
theorem Vals.get:∀ {xs:List V} {us:List Value} {i:Nat} {x:V},Vals xs us→xs[i]? = some x→∃ u,us[i]? = some u∧RelV x u
 | _,_,_,_,.nil,e=>by simp at e
 | _,_,0,_,.cons r _,e=>by simp at e;subst e;exact ⟨_,rfl,r⟩
 | _,_,i+1,x,.cons _ t,e=>by
  obtain ⟨u,h1,h2⟩:=Vals.get (i:=i) (x:=x) t (by simpa using e)
  exact ⟨u,by simpa using h1,h2⟩
theorem Vals.set {x:V} {u:Value} (r:RelV x u):∀ {xs:List V} {us:List Value} (i:Nat),Vals xs us→Vals (xs.set i x) (us.set i u)
 | _,_,_,.nil=>.nil
 | _,_,0,.cons _ t=>.cons r t
 | _,_,i+1,.cons q t=>.cons q (Vals.set r i t)
theorem Vals.append:∀ {xs ys:List V} {us ws:List Value},Vals xs us→Vals ys ws→Vals (xs ++ ys) (us ++ ws)
 | _,_,_,_,.nil,s=>s
 | _,_,_,_,.cons r t,s=>.cons r (Vals.append t s)
theorem Vals.take:∀ {xs:List V} {us:List Value} (n:Nat),Vals xs us→Vals (xs.take n) (us.take n)
 | _,_,0,_=>.nil
 | _,_,_+1,.nil=>.nil
 | _,_,n+1,.cons r t=>.cons r (Vals.take n t)
theorem Vals.drop:∀ {xs:List V} {us:List Value} (n:Nat),Vals xs us→Vals (xs.drop n) (us.drop n)
 | _,_,0,r=>r
 | _,_,_+1,.nil=>.nil
 | _,_,n+1,.cons _ t=>Vals.drop n t
def RelO:Option V→Option Value→Prop
 | some v,some u=>RelV v u
 | none,none=>True
 | _,_=>False
def KV {κ:Type}:List (κ×V)→List (κ×Value)→Prop:=Paired fun (p:κ×V) (q:κ×Value)=>p.1=q.1∧RelV p.2 q.2
def kV:Key→V
 | .inl i=>.int i
 | .inr x=>.str x
inductive HO where
 
 | lst (xs:List V)
 
 | tup (xs:List V)
 
 | dK (kvs:List (Key×V)) | dT (kvs:List (List Key×V))
 
 | set (S:Int→Bool) (n:Nat)
 
 | ins (C dx:Addr) (fs:List (Str×V))
 
 | own (x:Addr)
 
 | xd (fs:List (Str×V))
 
 | met (f x:Addr)
 
 | rng (lo hi:Int)
 
 | frz (o:Obj) (u:HO)
 
 | tbl (ps:Array Value)
 
 | ext (φ:Heap→Prop)
abbrev Hp:=Addr→Option HO
def upd (H:Hp) (a:Addr) (o:HO):Hp:=fun b=>if b=a then some o else H b
theorem zad {H:Hp} {a:Addr} {o:HO}:upd H a o a=some o:=by unfold upd;rw [if_pos rfl]
theorem zai {H:Hp} {a b:Addr} {o:HO} (h:b≠a):upd H a o b=H b:=by unfold upd;rw [if_neg h]
theorem ne_of {H:Hp} {a b:Addr} {o u:HO} (h:H a=some o) (h':H b=some u) (d:o≠u):a≠b:=by
 intro e;subst e;rw [h] at h';exact d (Option.some.inj h')
theorem zam {H:Hp} {a b:Addr} {o:HO} (h:H a=some o) (h':H b=none):a≠b:=by
 intro e;subst e;rw [h] at h';cases h'
section
variable (P:Program) (w:World)
def ObjOk (H:Hp) (h:Heap) (a:Addr):HO→Prop
 | .lst xs=>xs.length≤sizeLine∧∃ (its:List Value) (n:Nat),Vals xs its∧h.get? a=some { cls:=.type "list",data:=.seq its.toArray n }
 | .tup xs=>xs.length≤sizeLine∧∃ its:List Value,Vals xs its∧IsTup h a its.toArray
 | .dK kvs=>kvs.length≤sizeLine∧(a == sysModules)=false∧∃ vs,KV kvs vs∧h.DictOf (zaH P w) a vs
 | .dT kvs=>kvs.length≤sizeLine∧(a == sysModules)=false∧∃ xs:List (List Key×Addr×Value),
   Paired (fun (p:List Key×V) (q:List Key×Addr×Value)=>p.1=q.1∧H q.2.1=some (.tup (p.1.map kV))∧RelV p.2 q.2.2) kvs xs ∧
   ∃ o es ep,h.get? a=some o∧o.ExactDict∧o.data = .dict es ep∧es.toList=xs.map (entryOfKey (tupleKind (zaH P w)))∧(xs.map (·.1)).Nodup
 | .set S n=>h.SetOf (intKind P w) a S n
 | .ins C dx fs=>H dx=some (.own a)∧fs.length≤1000∧dx≠a∧h.get? a=some (PySem.W.instObj C dx) ∧
   ∃ mA,h.Ns1 dx mA∧(∀ f,RelO (fs.lookup f) (mA f))∧PySem.Within mA (fs.map (·.1))
 | .own _=>∃ o,h.get? a=some o
 | .xd fs=>∃ mA,h.Ns1 a mA∧∀ f,RelO (fs.lookup f) (mA f)
 | .rng lo hi=>∃ t u v,h.get? a=some { cls:=.type "range",data:=.fields #[.int lo t,.int hi u,.int 1 v] }
 | .frz o u=>h.get? a=some o∧ObjOk H h a u
 | .tbl ps=>h.get? a=some { cls:=.none,data:=.fields ps }
 | .met f x=>h.get? a=some (PySem.W.methodObj (.ref f) (.ref x))
 | .ext φ=>φ h∧(∃ o,h.get? a=some o)∧∀ h1 h2:Heap,φ h1→(∀ o,h1.get? a=some o→h2.get? a=some o)→φ h2
def HOk (H:Hp) (h:Heap):Prop:=∀ a o,H a=some o→ObjOk P w H h a o
end
section
variable {P:Program} {w:World} {H H':Hp} {h h':Heap} {a:Addr} {o:HO}
theorem ObjOk.lt (x:ObjOk P w H h a o):a<h.objs.size:=by
 cases o with
 | lst xs=>obtain ⟨_,_,_,_,e⟩:=x;exact Heap.lt_size e
 | tup xs=>obtain ⟨_,_,_,p⟩:=x;exact p.lt
 | dK kvs=>obtain ⟨_,_,_,_,o,_,_,e,_⟩:=x;exact Heap.lt_size e
 | dT kvs=>obtain ⟨_,_,_,_,o,_,_,e,_⟩:=x;exact Heap.lt_size e
 | set S n=>obtain ⟨o,_,_,_,e,_⟩:=x;exact Heap.lt_size e
 | ins C dx fs=>obtain ⟨_,_,_,e,_⟩:=x;exact Heap.lt_size e
 | own y=>obtain ⟨_,e⟩:=x;exact Heap.lt_size e
 | xd fs=>obtain ⟨_,⟨_,_,_,e,_⟩,_⟩:=x;exact Heap.lt_size e
 | rng lo hi=>obtain ⟨_,_,_,e⟩:=x;exact Heap.lt_size e
 | frz ob u=>obtain ⟨e,_⟩:=x;exact Heap.lt_size e
 | tbl ps=>exact Heap.lt_size (show h.get? a=some _ from x)
 | met f y=>exact Heap.lt_size (show h.get? a=some _ from x)
 | ext φ=>obtain ⟨_,⟨_,e⟩,_⟩:=x;exact Heap.lt_size e
theorem Paired.mapP {α β:Type} {F G:α→β→Prop}:∀ {l₁:List α} {l₂:List β},Paired F l₁ l₂→(∀ a b,F a b→G a b)→Paired G l₁ l₂
 | _,_,.nil,_=>.nil
 | _,_,.cons r t,f=>.cons (f _ _ r) (Paired.mapP t f)
theorem ObjOk.stay (x:ObjOk P w H h a o) (k:∀ b u,(b=a∨H b=some (.own a))→h.get? b=some u→h'.get? b=some u)
  (ho:∀ b,H b=some (.own a)→H' b=some (.own a)) (ht:∀ b xs,H b=some (.tup xs)→H' b=some (.tup xs)):ObjOk P w H' h' a o:=by
 induction o with
 | lst xs=>obtain ⟨z,its,n,r,e⟩:=x;exact ⟨z,its,n,r,k _ _ (.inl rfl) e⟩
 | tup xs=>obtain ⟨z,its,r,ob,e,c⟩:=x;exact ⟨z,its,r,ob,k _ _ (.inl rfl) e,c⟩
 | dK kvs=>obtain ⟨z,y,vs,r,ob,es,ep,e,c⟩:=x;exact ⟨z,y,vs,r,ob,es,ep,k _ _ (.inl rfl) e,c⟩
 | dT kvs =>
  obtain ⟨z,y,xs,r,ob,es,ep,e,c⟩:=x
  exact ⟨z,y,xs,Paired.mapP r fun p q z=>⟨z.1,ht _ _ z.2.1,z.2.2⟩,ob,es,ep,k _ _ (.inl rfl) e,c⟩
 | set S n=>obtain ⟨ob,es,ep,t,e,c⟩:=x;exact ⟨ob,es,ep,t,k _ _ (.inl rfl) e,c⟩
 | ins C dx fs =>
  obtain ⟨d,z,ne,e,mA,⟨od,es,ep,e2,c⟩,r⟩:=x
  exact ⟨ho _ d,z,ne,k _ _ (.inl rfl) e,mA,⟨od,es,ep,k _ _ (.inr d) e2,c⟩,r⟩
 | own y=>obtain ⟨ob,e⟩:=x;exact ⟨ob,k _ _ (.inl rfl) e⟩
 | xd fs=>obtain ⟨mA,⟨od,es,ep,e,c⟩,r⟩:=x;exact ⟨mA,⟨od,es,ep,k _ _ (.inl rfl) e,c⟩,r⟩
 | rng lo hi=>obtain ⟨t,u,v,e⟩:=x;exact ⟨t,u,v,k _ _ (.inl rfl) e⟩
 | frz ob u ih=>obtain ⟨e,q⟩:=x;exact ⟨k _ _ (.inl rfl) e,ih q⟩
 | tbl ps =>
  have e:h.get? a=some { cls:=.none,data:=.fields ps }:=x
  show h'.get? a=some { cls:=.none,data:=.fields ps }
  exact k a _ (.inl rfl) e
 | met f y =>
  have e:h.get? a=some (PySem.W.methodObj (.ref f) (.ref y)):=x
  show h'.get? a=some (PySem.W.methodObj (.ref f) (.ref y))
  exact k a _ (.inl rfl) e
 | ext φ=>obtain ⟨p,⟨o,e⟩,st⟩:=x;exact ⟨st _ _ p fun o q=>k _ _ (.inl rfl) q,⟨o,k _ _ (.inl rfl) e⟩,st⟩
theorem HOk.lt (x:HOk P w H h) (e:H a=some o):a<h.objs.size:=(x a o e).lt
theorem HOk.fresh (x:HOk P w H h) (e:h.objs.size≤a):H a=none:=by
 cases q:H a with
 | none=>rfl
 | some u=>exact absurd (Nat.lt_of_lt_of_le (x.lt q) e) (Nat.lt_irrefl _)
theorem HOk.kept (x:HOk P w H h) (k:∀ b u,h.get? b=some u→h'.get? b=some u):HOk P w H h':=fun a o e =>
 (x a o e).stay (fun b u _ q=>k b u q) (fun _ q=>q) fun _ _ q=>q
theorem HOk.laid (x:HOk P w H h) (k:∀ b u,h.get? b=some u→h'.get? b=some u) (hp:h.objs.size≤a) (new:ObjOk P w (upd H a o) h' a o):HOk P w (upd H a o) h':=fun b u e=>by
 have hn:=x.fresh hp
 by_cases hb:b=a
 ·subst hb;rw [zad] at e;cases e;exact new
 ·rw [zai hb] at e
  exact (x b u e).stay (fun c v _ q=>k c v q) (fun c q=>by rw [zai (zam q hn)];exact q) fun c xs q=>by rw [zai (zam q hn)];exact q
end
def Rd (H:Hp) (a:Addr) (u:HO):Prop:=H a=some u∨∃ o,H a=some (.frz o u)
theorem Rd.ok {P:Program} {w:World} {H:Hp} {h:Heap} {a:Addr} {u:HO} (r:Rd H a u) (x:HOk P w H h):ObjOk P w H h a u:=by
 rcases r with r | ⟨o,r⟩
 ·exact x a u r
 ·obtain ⟨_,q⟩:=x a _ r
  exact q
def Mut:Option HO→Prop
 | some (.lst _)=>True
 | some (.dK _)=>True
 | some (.dT _)=>True
 | some (.set _ _)=>True
 | some (.ins _ _ _)=>True
 | some (.ext _)=>True
 | _=>False
section
variable {P:Program} {w:World} {H:Hp} {h h':Heap} {x e:Addr} {o':HO}
theorem HOk.write (ok:HOk P w H h) (mu:Mut (H x)) (he:e=x∨H e=some (.own x)) (k:∀ b u,b≠e→h.get? b=some u→h'.get? b=some u) (heo:∃ u,h'.get? e=some u)
  (new:ObjOk P w (upd H x o') h' x o'):HOk P w (upd H x o') h':=fun b u q=>by
 have nown:∀ c y,H c=some (.own y)→c≠x:=fun c y r z=>by subst z;rw [r] at mu;exact mu
 have ntup:∀ c xs,H c=some (.tup xs)→c≠x:=fun c xs r z=>by subst z;rw [r] at mu;exact mu
 by_cases hb:b=x
 ·subst hb;rw [zad] at q;cases q;exact new
 ·rw [zai hb] at q
  by_cases hbe:b=e
  ·have q':H b=some (.own x):=by
    rcases he with z | z
    ·exact absurd (hbe.trans z) hb
    ·rw [hbe];exact z
   rw [q] at q';cases q'
   obtain ⟨v,hv⟩:=heo
   exact ⟨v,by rw [hbe];exact hv⟩
  ·refine (ok b u q).stay (fun c v hc r=>k c v ?_ r) (fun c r=>by rw [zai (nown c b r)];exact r) fun c xs r=>by rw [zai (ntup c xs r)];exact r
   rcases hc with rfl | hc
   ·exact hbe
   ·rintro rfl
    rcases he with z | z
    ·exact nown c b hc z
    ·rw [hc] at z;cases z;exact hb rfl
end
structure Un (fs ex:List Addr) (H H':Hp) (h h':Heap):Prop where
 keep:∀ b o,h.get? b=some o→H b=none→b ∉ fs→b ∉ ex→h'.get? b=some o
 slot:∀ b o,h.get? b=some o→H b=none→b∈fs→b ∉ ex→∃ sl,h'.get? b=some { o with slots:=sl }
 free:∀ b o,h.get? b=some o→H b=none→b ∉ ex→H' b=none
 there:∀ b o,h.get? b=some o→b ∉ ex→∃ o',h'.get? b=some o'
 tups:∀ b xs,H b=some (.tup xs)→H' b=some (.tup xs)
 frzs:∀ b o u,H b=some (.frz o u)→H' b=some (.frz o u)
 tbls:∀ b ps,H b=some (.tbl ps)→∃ more,H' b=some (.tbl (ps ++ more))
section
variable {fs fs' ex ex':List Addr} {H H1 H2:Hp} {h h1 h2 h':Heap} {a x e:Addr} {o:HO}
theorem Un.any (u:Un fs ex H H1 h h1) {b:Addr} {ob:Obj} (q:h.get? b=some ob) (n:H b=none) (hx:b ∉ ex):∃ sl,h1.get? b=some { ob with slots:=sl }:=by
 by_cases hb:b∈fs
 ·exact u.slot b ob q n hb hx
 ·exact ⟨ob.slots,u.keep b ob q n hb hx⟩
theorem Un.kept (k:∀ b u,h.get? b=some u→h'.get? b=some u):Un fs ex H H h h':=
 ⟨fun b ob q _ _ _=>k b ob q,fun b ob q _ _ _=>⟨ob.slots,k b ob q⟩,fun _ _ _ n _=>n,fun b ob q _=>⟨ob,k b ob q⟩,fun _ _ q=>q,fun _ _ _ q=>q,fun _ ps q=>⟨#[],by rw [q];simp⟩⟩
theorem Un.refl:Un fs ex H H h h:=Un.kept fun _ _ q=>q
theorem Un.laid (k:∀ b u,h.get? b=some u→h'.get? b=some u) (hp:h.objs.size≤a) (hn:H a=none):Un fs ex H (upd H a o) h h' where
 keep:=fun b u q _ _ _=>k b u q
 slot:=fun b u q _ _ _=>⟨u.slots,k b u q⟩
 free:=fun b u q n _=>by rw [zai (Nat.ne_of_lt (Nat.lt_of_lt_of_le (Heap.lt_size q) hp))];exact n
 there:=fun b u q _=>⟨u,k b u q⟩
 tups:=fun b xs q=>by rw [zai (zam q hn)];exact q
 frzs:=fun b u xs q=>by rw [zai (zam q hn)];exact q
 tbls:=fun b ps q=>⟨#[],by rw [zai (zam q hn),q];simp⟩
theorem Un.write (mu:Mut (H x)) (he:e=x∨H e=some (.own x)) (k:∀ b u,b≠e→h.get? b=some u→h'.get? b=some u) (heo:∃ u,h'.get? e=some u):Un fs ex H (upd H x o) h h':=by
 have hx:∀ b,H b=none→b≠x:=fun b n z=>by subst z;rw [n] at mu;exact mu
 have hb:∀ b,H b=none→b≠e:=fun b n z=>by
  subst z
  rcases he with r | r
  ·exact hx b n r
  ·rw [n] at r;cases r
 have hm:∀ b u,H b=some u→¬ Mut (some u)→b≠x:=fun b u q nm z=>by subst z;rw [q] at mu;exact nm mu
 refine ⟨fun b u q n _ _=>k b u (hb b n) q,fun b u q n _ _=>⟨u.slots,k b u (hb b n) q⟩,fun b u q n _=>by rw [zai (hx b n)];exact n,fun b u q _=>?_,
  fun b xs q=>by rw [zai (hm b _ q fun z=>z)];exact q,fun b u xs q=>by rw [zai (hm b _ q fun z=>z)];exact q,fun b ps q=>⟨#[],by rw [zai (hm b _ q fun z=>z),q];simp⟩⟩
 by_cases hbe:b=e
 ·subst hbe;exact heo
 ·exact ⟨u,k b u hbe q⟩
end
def trk (h:Heap) (H:Hp):List Addr:=(List.range h.objs.size).filter fun a=>(H a).isSome
def hidT (h:Heap) (H:Hp):Heap:=PySem.W.hideAll h (trk h H)
theorem zjd (h:Heap) (H:Hp):(hidT h H).objs.size=h.objs.size:=PySem.W.hideAll_size _ _
theorem zkv {h:Heap} {H:Hp} {b:Addr} {o:Obj} (e:h.get? b=some o) (n:H b=none):(hidT h H).get? b=some o:=
 PySem.W.hideAll_get _ e fun hm=>by
  have q:(H b).isSome=true:=(List.mem_filter.mp hm).2
  rw [n] at q;simp at q
theorem zlI {h:Heap} {H:Hp} {b:Addr} {o:Obj} (e:(hidT h H).get? b=some o):h.get? b=some o∧H b=none:=by
 have e':h.get? b=some o:=PySem.W.of_hideAll (trk h H) e
 refine ⟨e',?_⟩
 cases q:H b with
 | none=>rfl
 | some x =>
  have hm:b∈trk h H:=List.mem_filter.mpr ⟨List.mem_range.mpr (Heap.lt_size e'),by simp [q]⟩
  have z:(hidT h H).get? b=none:=PySem.W.hideAll_none (trk h H) hm
  rw [z] at e;cases e
end L2
namespace L2
open PySem PySem.Spec PyProof.Rows
structure Mod (K:PySem.W.Frag) (mg:Str→Option Value) (base:Heap):Prop where
 kin:K.In base
 glob:base.Ns mainGlobals mg
 blt:∃ mb,base.Ns builtinsNs mb∧∀ x:Str,x ≠ "__name__" → mb x=bootBuiltins x
 nolimit:base.NoLimit
structure Cx where
 prog:Program
 w:World
 K:PySem.W.Frag
 mg:Str→Option Value
 base:Heap
 A:Around
 N:List Str
 s₀:Shared
 H₀:Hp
 env:Env
 outer:List Env
 stack:List Env
 ex:List Addr
 fn:Str→Bool
 calm:Bool
 pn:List (Addr×Obj)
 xe:Value→Shared→Prop
def frs (l:List Env):List Addr:=l.filterMap (·.frame)
abbrev Cx.fs (X:Cx):List Addr:=frs X.outer
def Vis (sc:Scope) (x:Str):Prop:=sc.names.lookup x=some .local∨sc.names.lookup x=some .cell∨sc.names.lookup x=some .free
def Loc (sc:Scope) (x:Str):Prop:=sc.names.lookup x=some .local∨sc.names.lookup x=some .cell
def Look (env:Env) (h:Heap) (m:Str→Option Value) (x:Str) (u:Value):Prop:=
 (env.kindOf x=some .local∧m x=some u)∨((env.kindOf x=some .cell∨env.kindOf x=some .free)∧∃ c,env.cells.lookup x=some c∧h.IsCell c (some u))
structure Cx.Ok (X:Cx):Prop where
 mod:Mod X.K X.mg X.base
 kind:X.env.scope.kind = .function
 glob:X.env.globals=mainGlobals
 blt:X.env.builtins=builtinsNs
 above:X.s₀.heap.objs.size≤X.env.locals
 inj:∀ x y c,X.env.cells.lookup x=some c→X.env.cells.lookup y=some c→x=y
 has:∀ x,(X.env.kindOf x=some .cell∨X.env.kindOf x=some .free)→∃ c,X.env.cells.lookup x=some c
 cab:∀ x c,X.fn x=true→X.env.cells.lookup x=some c→X.s₀.heap.objs.size≤c
 hd:X.calm=true→X.A.handled=none
 frames:X.A.frames=some X.stack
 stk:X.stack=X.outer∨(X.stack=X.env :: X.outer∧X.env.frame=some X.env.locals)
 exf:∀ b∈X.ex,b≠X.env.locals∧∀ x c,X.env.cells.lookup x=some c→c≠b
 bs:∀ b o,X.base.get? b=some o→X.s₀.heap.get? b=some o∧X.H₀ b=none
 bsz:X.base.objs.size≤X.s₀.heap.objs.size
 noex:∀ b o,X.base.get? b=some o→b ∉ X.ex
 exfs:∀ b∈X.ex,b ∉ X.fs
 funs:X.s₀.heap.FunFrames X.base X.outer
 frf:∀ b∈X.fs,X.H₀ b=none
structure Inv (X:Cx) (pins:List (Addr×Obj)) (σ:List (Option V)) (H:Hp) (s:Shared):Prop where
 ok:X.Ok
 os:s.os=X.s₀.os
 bare:AllBare s.gens
 base:Un X.fs X.ex X.H₀ H X.s₀.heap s.heap
 loc:∃ m,s.heap.Ns X.env.locals m∧∀ (i:Nat) (x:Str) (v:V),X.N[i]? = some x→σ[i]? = some (some v)→Vis X.env.scope x→∃ u,RelV v u∧Look X.env s.heap m x u
 cell:∀ x c,X.env.cells.lookup x=some c→∃ v,s.heap.IsCell c v
 free:H X.env.locals=none
 freeC:∀ x c,X.env.cells.lookup x=some c→H c=none
 pin:∀ p∈X.pn ++ pins,s.heap.get? p.1=some p.2∧H p.1=none∧p.1≠X.env.locals∧p.1 ∉ X.fs∧∀ v,p.2.data≠.cell v
 hok:HOk X.prog X.w H s.heap
 len:σ.length=X.N.length
section
variable {X:Cx} {pins:List (Addr×Obj)} {σ:List (Option V)} {H H':Hp} {s:Shared} {h':Heap}
theorem Cx.Ok.nofr (ok:X.Ok) {b:Addr} {o:Obj} (e:X.base.get? b=some o):b ∉ X.fs:=fun hb=>by
 have:=(ok.funs.mem hb).1
 rw [e] at this;cases this
theorem Inv.bs (I:Inv X pins σ H s):∀ b o,X.base.get? b=some o→s.heap.get? b=some o∧H b=none:=fun b o e =>
 ⟨I.base.keep b o (I.ok.bs b o e).1 (I.ok.bs b o e).2 (I.ok.nofr e) (I.ok.noex b o e),I.base.free b o (I.ok.bs b o e).1 (I.ok.bs b o e).2 (I.ok.noex b o e)⟩
theorem Inv.bk (I:Inv X pins σ H s):∀ b o,X.base.get? b=some o→s.heap.get? b=some o:=fun b o e=>(I.bs b o e).1
theorem Inv.mod (I:Inv X pins σ H s):Mod X.K X.mg X.base:=I.ok.mod
theorem Inv.kIn (I:Inv X pins σ H s):X.K.In s.heap:=I.ok.mod.kin.keeps I.bk
theorem Inv.lt (I:Inv X pins σ H s):X.env.locals<s.heap.objs.size:=let ⟨_,hn,_⟩:=I.loc;hn.lt
theorem Inv.sz (I:Inv X pins σ H s):X.s₀.heap.objs.size≤s.heap.objs.size:=Nat.le_trans I.ok.above (Nat.le_of_lt I.lt)
theorem Inv.nofs (I:Inv X pins σ H s) {a:Addr} (h:s.heap.objs.size≤a):a ∉ X.fs:=fun hb=>by
 obtain ⟨_,o,ho,_⟩:=I.ok.funs.mem hb
 exact absurd (Nat.lt_of_lt_of_le (Heap.lt_size ho) (Nat.le_trans I.sz h)) (Nat.lt_irrefl _)
theorem Inv.cne (I:Inv X pins σ H s):∀ x c,X.env.cells.lookup x=some c→c≠X.env.locals:=fun x c e z=>by
 obtain ⟨v,o,ho,hd⟩:=I.cell x c e
 obtain ⟨m,⟨o',es,ep,ho',hd',_⟩,_⟩:=I.loc
 rw [z,ho'] at ho;cases ho;rw [hd'] at hd;cases hd
theorem Inv.funs (I:Inv X pins σ H s):s.heap.FunFrames X.base X.outer:=by
 have all:∀ (l:List Env),(∀ b∈frs l,b∈X.fs)→X.s₀.heap.FunFrames X.base l→s.heap.FunFrames X.base l:=by
  intro l
  induction l with
  | nil=>intro _ _;trivial
  | cons env r ih =>
   intro hs hl
   obtain ⟨hk,⟨L,o,hf,hn,ho,hd⟩,hr⟩:=hl
   have hL:L∈X.fs:=hs L (by unfold frs;rw [List.filterMap_cons,hf];exact List.mem_cons_self)
   obtain ⟨sl,e⟩:=I.base.slot L o ho (I.ok.frf L hL) hL fun z=>I.ok.exfs L z hL
   exact ⟨hk,⟨L,_,hf,hn,e,hd⟩,ih (fun b hb=>hs b (by unfold frs;rw [List.filterMap_cons,hf];exact List.mem_cons_of_mem _ hb)) hr⟩
 exact all X.outer (fun _ hb=>hb) I.ok.funs
theorem Inv.stack (I:Inv X pins σ H s):s.heap.FunFrames X.base X.stack:=by
 rcases I.ok.stk with e | ⟨e,hf⟩
 ·rw [e];exact I.funs
 ·rw [e]
  obtain ⟨m,hn,_⟩:=I.loc
  refine .cons (by rw [I.ok.kind];decide) hf hn ?_ I.funs
  exact Heap.get?_none_of_le (Nat.le_trans I.ok.bsz I.ok.above)
theorem Inv.stkSub (I:Inv X pins σ H s):∀ b∈frs X.stack,b∈X.env.locals :: X.fs:=fun b hb=>by
 rcases I.ok.stk with e | ⟨e,hf⟩
 ·rw [e] at hb;exact List.mem_cons_of_mem _ hb
 ·rw [e] at hb
  unfold frs at hb
  rw [List.filterMap_cons,hf] at hb
  exact hb
theorem Inv.stkFree (I:Inv X pins σ H s):∀ b∈frs X.stack,H b=none:=fun b hb=>by
 rcases List.mem_cons.mp (I.stkSub b hb) with e | hb
 ·rw [e];exact I.free
 ·obtain ⟨_,o,ho,_⟩:=I.ok.funs.mem hb
  exact I.base.free b o ho (I.ok.frf b hb) fun z=>I.ok.exfs b z hb
theorem Inv.step {g':Array GenState} {t':Nat} {d':Drawn} {ch:List Addr} (I:Inv X pins σ H s)
  (hch:∀ b∈ch,(b∈X.ex∨X.s₀.heap.objs.size≤b)∧b≠X.env.locals∧(∀ x c,X.env.cells.lookup x=some c→c≠b)∧∀ p∈X.pn ++ pins,p.1≠b)
  (keep:∀ b o,b≠X.env.locals→b ∉ X.fs→b ∉ ch→s.heap.get? b=some o→H b=none→h'.get? b=some o)
  (slot:∀ b o,b≠X.env.locals→b∈X.fs→b ∉ ch→s.heap.get? b=some o→H b=none→∃ sl,h'.get? b=some { o with slots:=sl }) (free:∀ b o,b ∉ ch→s.heap.get? b=some o→H b=none→H' b=none)
  (there:∀ b o,b ∉ ch→s.heap.get? b=some o→∃ o',h'.get? b=some o')
  (tups:∀ b xs,H b=some (.tup xs)→H' b=some (.tup xs)) (frzs:∀ b o u,H b=some (.frz o u)→H' b=some (.frz o u)) (tbls:∀ b ps,H b=some (.tbl ps)→∃ more,H' b=some (.tbl (ps ++ more)))
  (ns:∀ m,s.heap.Ns X.env.locals m→h'.Ns X.env.locals m) (hok:HOk X.prog X.w H' h') (hg:AllBare g') :
  Inv X pins σ H' { s with heap:=h',gens:=g',drawn:=d',toks:=t' }:=by
 have neL:∀ b o,X.s₀.heap.get? b=some o→b≠X.env.locals:=fun b o e=>Nat.ne_of_lt (Nat.lt_of_lt_of_le (Heap.lt_size e) I.ok.above)
 have neC:∀ b o,X.s₀.heap.get? b=some o→b ∉ X.ex→b ∉ ch:=fun b o e hx hb=>by
  rcases (hch b hb).1 with z | z
  ·exact hx z
  ·exact absurd (Nat.lt_of_lt_of_le (Heap.lt_size e) z) (Nat.lt_irrefl _)
 have cellK:∀ x c,X.env.cells.lookup x=some c→∀ v,s.heap.IsCell c v→h'.IsCell c v:=fun x c e v ⟨o,ho,hd⟩=>by
  have nch:c ∉ ch:=fun z=>(hch c z).2.2.1 x c e rfl
  by_cases hc:c∈X.fs
  ·obtain ⟨sl,q⟩:=slot c o (I.cne x c e) hc nch ho (I.freeC x c e)
   exact ⟨_,q,hd⟩
  ·exact ⟨o,keep c o (I.cne x c e) hc nch ho (I.freeC x c e),hd⟩
 refine ⟨I.ok,I.os,hg,⟨fun b o e n hb hx=>?_,fun b o e n hb hx=>?_,fun b o e n hx=>?_,fun b o e hx=>?_,fun b xs e=>tups b xs (I.base.tups b xs e),fun b o xs e=>frzs b o xs (I.base.frzs b o xs e),fun b ps e=>?_⟩,?_,fun x c e=>?_,?_,fun x c e=>?_,fun p hp=>?_,hok,I.len⟩
 ·exact keep b o (neL b o e) hb (neC b o e hx) (I.base.keep b o e n hb hx) (I.base.free b o e n hx)
 ·obtain ⟨sl,e1⟩:=I.base.slot b o e n hb hx
  obtain ⟨sl',e2⟩:=slot b _ (neL b o e) hb (neC b o e hx) e1 (I.base.free b o e n hx)
  exact ⟨sl',e2⟩
 ·obtain ⟨o',e1⟩:=I.base.there b o e hx
  exact free b o' (neC b o e hx) e1 (I.base.free b o e n hx)
 ·obtain ⟨o',e1⟩:=I.base.there b o e hx
  exact there b o' (neC b o e hx) e1
 ·obtain ⟨m1,e1⟩:=I.base.tbls b ps e
  obtain ⟨m2,e2⟩:=tbls b _ e1
  exact ⟨m1 ++ m2,by rw [e2,Array.append_assoc]⟩
 ·obtain ⟨m,hn,hl⟩:=I.loc
  refine ⟨m,ns m hn,fun i x v e1 e2 e3=>?_⟩
  obtain ⟨u,r,l⟩:=hl i x v e1 e2 e3
  refine ⟨u,r,?_⟩
  rcases l with l | ⟨k,c,e,z⟩
  ·exact .inl l
  ·exact .inr ⟨k,c,e,cellK x c e _ z⟩
 ·obtain ⟨v,z⟩:=I.cell x c e
  exact ⟨v,cellK x c e v z⟩
 ·obtain ⟨m,⟨o,_,_,ho,_⟩,_⟩:=I.loc
  exact free _ o (fun z=>(hch _ z).2.1 rfl) ho I.free
 ·obtain ⟨v,o,ho,hd⟩:=I.cell x c e
  exact free c o (fun z=>(hch c z).2.2.1 x c e rfl) ho (I.freeC x c e)
 ·obtain ⟨e,n,ne,nf,d⟩:=I.pin p hp
  have nch:p.1 ∉ ch:=fun z=>(hch p.1 z).2.2.2 p hp rfl
  exact ⟨keep p.1 p.2 ne nf nch e n,free p.1 p.2 nch e n,ne,nf,d⟩
theorem Inv.un {t':Nat} (I:Inv X pins σ H s) (u:Un X.fs [] H H' s.heap h') (hok:HOk X.prog X.w H' h'):Inv X pins σ H' { s with heap:=h',toks:=t' }:=by
 obtain ⟨m,⟨o,es,ep,ho,r⟩,_⟩:=id I.loc
 obtain ⟨sl,hL⟩:=u.any ho I.free (by simp)
 exact I.step (g':=s.gens) (d':=s.drawn) (ch:=[]) (fun _ z=>nomatch z) (fun b o _ hb _ e n=>u.keep b o e n hb (by simp)) (fun b o _ hb _ e n=>u.slot b o e n hb (by simp)) (fun b o _ e n=>u.free b o e n (by simp)) (fun b o _ e=>u.there b o e (by simp)) u.tups u.frzs u.tbls (fun m' hm=>by
  obtain ⟨o',es',ep',ho',r'⟩:=hm
  rw [ho] at ho';cases ho'
  exact ⟨_,es',ep',hL,r'⟩) hok I.bare
theorem Inv.call {g':Array GenState} {t':Nat} {d':Drawn} {ch:List Addr} (I:Inv X pins σ H s) (u:Un (frs X.stack) ch H H' s.heap h') (hok:HOk X.prog X.w H' h') (hg:AllBare g')
  (hch:∀ b∈ch,(b∈X.ex∨X.s₀.heap.objs.size≤b)∧b≠X.env.locals∧(∀ x c,X.env.cells.lookup x=some c→c≠b)∧∀ p∈X.pn ++ pins,p.1≠b) :
  Inv X pins σ H' { s with heap:=h',gens:=g',drawn:=d',toks:=t' }:=by
 obtain ⟨m,⟨o,es,ep,ho,r⟩,_⟩:=id I.loc
 obtain ⟨sl,hL⟩:=u.any ho I.free fun z=>(hch _ z).2.1 rfl
 exact I.step (ch:=ch) hch (fun b o hL hb hc e n=>u.keep b o e n (fun z=>(List.mem_cons.mp (I.stkSub b z)).elim hL hb) hc) (fun b o _ _ hc e n=>u.any e n hc) (fun b o hc e n=>u.free b o e n hc) (fun b o hc e=>u.there b o e hc) u.tups u.frzs u.tbls (fun m' hm=>by
  obtain ⟨o',es',ep',ho',r'⟩:=hm
  rw [ho] at ho';cases ho'
  exact ⟨_,es',ep',hL,r'⟩) hok hg
theorem Inv.turned {t':Nat} {it:Addr} (I:Inv X pins σ H s) (k:∀ b o,b≠it→s.heap.get? b=some o→h'.get? b=some o) (hn:H it=none) (hL:it≠X.env.locals)
  (h1:it∈X.ex∨X.s₀.heap.objs.size≤it) (h2:∀ x c,X.env.cells.lookup x=some c→c≠it) (h3:∀ p∈X.pn ++ pins,p.1≠it):Inv X pins σ H { s with heap:=h',toks:=t' }:=by
 have nit:∀ b u,H b=some u→b≠it:=fun b u e z=>by rw [z,hn] at e;cases e
 refine I.step (g':=s.gens) (d':=s.drawn) (ch:=[it]) (fun b hb=>?_) (fun b o _ _ hc e _=>k b o (fun z=>hc (by simp [z])) e) (fun b o _ _ hc e _=>⟨o.slots,k b o (fun z=>hc (by simp [z])) e⟩) (fun _ _ _ _ n=>n)
  (fun b o hc e=>⟨o,k b o (fun z=>hc (by simp [z])) e⟩) (fun _ _ e=>e) (fun _ _ _ e=>e) (fun b ps e=>⟨#[],by rw [e];simp⟩) (fun m hm=>?_) (fun b u e=>?_) I.bare
 ·have e:b=it:=by simpa using hb
  subst e
  exact ⟨h1,hL,h2,h3⟩
 ·obtain ⟨o,es,ep,ho,r⟩:=hm
  exact ⟨o,es,ep,k _ o (Ne.symm hL) ho,r⟩
 ·refine (I.hok b u e).stay (fun c v hc q=>k c v ?_ q) (fun _ q=>q) fun _ _ q=>q
  rcases hc with z | z
  ·rw [z];exact nit b u e
  ·exact nit c _ z
theorem Inv.tok (I:Inv X pins σ H s) (t:Nat):Inv X pins σ H { s with toks:=t }:=I.un (h':=s.heap) (t':=t) Un.refl I.hok
theorem Inv.kept {t':Nat} (I:Inv X pins σ H s) (k:∀ b u,s.heap.get? b=some u→h'.get? b=some u):Inv X pins σ H { s with heap:=h',toks:=t' }:=I.un (Un.kept k) (I.hok.kept k)
theorem Inv.laid {a:Addr} {o:HO} {t':Nat} (I:Inv X pins σ H s) (k:∀ b u,s.heap.get? b=some u→h'.get? b=some u) (hp:s.heap.objs.size≤a) (new:ObjOk X.prog X.w (upd H a o) h' a o) :
  Inv X pins σ (upd H a o) { s with heap:=h',toks:=t' }:=I.un (Un.laid k hp (I.hok.fresh hp)) (I.hok.laid k hp new)
theorem Inv.write {x e:Addr} {o:HO} {t':Nat} (I:Inv X pins σ H s) (mu:Mut (H x)) (he:e=x∨H e=some (.own x)) (k:∀ b u,b≠e→s.heap.get? b=some u→h'.get? b=some u) (heo:∃ u,h'.get? e=some u)
  (new:ObjOk X.prog X.w (upd H x o) h' x o):Inv X pins σ (upd H x o) { s with heap:=h',toks:=t' }:=I.un (Un.write mu he k heo) (I.hok.write mu he k heo new)
theorem Inv.pins_of {pins':List (Addr×Obj)} (I:Inv X pins σ H s) (h:∀ p∈pins',s.heap.get? p.1=some p.2∧H p.1=none∧p.1≠X.env.locals∧p.1 ∉ X.fs∧∀ v,p.2.data≠.cell v):Inv X pins' σ H s:=
 ⟨I.ok,I.os,I.bare,I.base,I.loc,I.cell,I.free,I.freeC,fun p hp=>(List.mem_append.mp hp).elim (fun z=>I.pin p (List.mem_append_left _ z)) (h p),I.hok,I.len⟩
theorem zhk {N:List Str} (hN:N.Nodup) {i j:Nat} {x:Str} (a:N[i]? = some x) (b:N[j]? = some x):i=j:=by
 obtain ⟨h1,e1⟩:=List.getElem?_eq_some_iff.mp a
 obtain ⟨h2,e2⟩:=List.getElem?_eq_some_iff.mp b
 exact (List.getElem_inj hN).mp (e1.trans e2.symm)
theorem zdy {M:Model} {A:Around} {E:Value→Shared→Prop} {i:Nat} {x:Str} {v:V} {u:Value} {Q:Unit→Shared→Prop} (I:Inv X pins σ H s) (hN:X.N.Nodup) (hi:X.N[i]? = some x) (hx:Loc X.env.scope x) (r:RelV v u)
  (h:∀ s',Inv X pins (σ.set i (some v)) H s'→(∃ a,Heap.SameBut a s.heap s'.heap∧(a=X.env.locals∨X.env.cells.lookup x=some a))→Q () s') (hf:X.fn x=true∨X.env.scope.names.lookup x=some .local:=by first | exact .inl rfl | exact .inr rfl | assumption):wpAny M A (storeName X.env x u) Q E s:=by
 obtain ⟨m,hn,hl⟩:=id I.loc
 have hcls:(X.env.scope.kind == .class || (X.env.scope.kind == .module && X.env.locals != X.env.globals))=false:=by rw [I.ok.kind];rfl
 have hiσ:i<σ.length:=by rw [I.len];exact (List.getElem?_eq_some_iff.mp hi).1
 have cne:=I.cne
 have tracked:∀ {a:Addr} {h':Heap},(∃ o,s.heap.get? a=some o∧H a=none)→Heap.SameBut a s.heap h'→HOk X.prog X.w H h':=fun {a h'} ha hs b ob e=>by
  obtain ⟨_,_,hfree⟩:=ha
  refine (I.hok b ob e).stay (fun c w' hc q=>(hs.2 c ?_).trans q) (fun _ q=>q) fun _ _ q=>q
  rintro rfl
  rcases hc with rfl | hc
  ·rw [hfree] at e;cases e
  ·rw [hfree] at hc;cases hc
 rcases hx with hk | hk
 ·refine wpAny_storeName_local hk hn (fun h' hn' hs=>?_) hcls
  obtain ⟨oL,_,_,hoL,_⟩:=id hn
  refine h _ ⟨I.ok,I.os,I.bare,⟨fun b o e n hb hx=>?_,fun b o e n hb hx=>?_,I.base.free,fun b o e hx=>?_,I.base.tups,I.base.frzs,I.base.tbls⟩,⟨_,hn',fun j y v' e1 e2 e3=>?_⟩,fun y c e=>?_,I.free,I.freeC,fun p hp=>?_,tracked ⟨oL,hoL,I.free⟩ hs,by simpa using I.len⟩ ⟨_,hs,.inl rfl⟩
  ·exact (hs.2 b (Nat.ne_of_lt (Nat.lt_of_lt_of_le (Heap.lt_size e) I.ok.above))).trans (I.base.keep b o e n hb hx)
  ·obtain ⟨sl,e1⟩:=I.base.slot b o e n hb hx
   exact ⟨sl,(hs.2 b (Nat.ne_of_lt (Nat.lt_of_lt_of_le (Heap.lt_size e) I.ok.above))).trans e1⟩
  ·obtain ⟨o',e1⟩:=I.base.there b o e hx
   exact ⟨o',(hs.2 b (Nat.ne_of_lt (Nat.lt_of_lt_of_le (Heap.lt_size e) I.ok.above))).trans e1⟩
  ·by_cases hj:j=i
   ·subst hj
    rw [hi] at e1;cases e1
    rw [List.getElem?_set_self hiσ] at e2
    cases e2
    exact ⟨u,r,.inl ⟨hk,by simp⟩⟩
   ·rw [List.getElem?_set_ne (Ne.symm hj)] at e2
    obtain ⟨u',r',q⟩:=hl j y v' e1 e2 e3
    refine ⟨u',r',?_⟩
    rcases q with ⟨k,e⟩ | ⟨k,c,e,z⟩
    ·refine .inl ⟨k,?_⟩
     have:y≠x:=fun e=>hj (zhk hN e1 (e ▸ hi))
     simp [this,e]
    ·exact .inr ⟨k,c,e,z.sameBut hs (cne y c e)⟩
  ·obtain ⟨w',z⟩:=I.cell y c e
   exact ⟨w',z.sameBut hs (cne y c e)⟩
  ·obtain ⟨e,n,ne,nf,d⟩:=I.pin p hp
   exact ⟨(hs.2 p.1 ne).trans e,n,ne,nf,d⟩
 ·have hfn:X.fn x=true:=by
   rcases hf with z | z
   ·exact z
   ·rw [z] at hk;cases hk
  obtain ⟨c,hc⟩:=I.ok.has x (.inl hk)
  obtain ⟨w',z⟩:=I.cell x c hc
  refine wpAny_storeName_cell I.ok.kind hk hc z (fun h' hc' hs=>?_)
  obtain ⟨oc,hoc,hocd⟩:=id z
  refine h { s with heap:=h' } ⟨I.ok,I.os,I.bare,⟨fun b o e n hb hx=>?_,fun b o e n hb hx=>?_,I.base.free,fun b o e hx=>?_,I.base.tups,I.base.frzs,I.base.tbls⟩,⟨m,hn.sameBut hs (Ne.symm (cne x c hc)),fun j y v' e1 e2 e3=>?_⟩,fun y c' e=>?_,I.free,I.freeC,fun p hp=>?_,tracked ⟨oc,hoc,I.freeC x c hc⟩ hs,by simpa using I.len⟩ ⟨c,hs,.inr hc⟩
  ·exact (hs.2 b (Nat.ne_of_lt (Nat.lt_of_lt_of_le (Heap.lt_size e) (I.ok.cab x c hfn hc)))).trans (I.base.keep b o e n hb hx)
  ·obtain ⟨sl,e1⟩:=I.base.slot b o e n hb hx
   exact ⟨sl,(hs.2 b (Nat.ne_of_lt (Nat.lt_of_lt_of_le (Heap.lt_size e) (I.ok.cab x c hfn hc)))).trans e1⟩
  ·obtain ⟨o',e1⟩:=I.base.there b o e hx
   exact ⟨o',(hs.2 b (Nat.ne_of_lt (Nat.lt_of_lt_of_le (Heap.lt_size e) (I.ok.cab x c hfn hc)))).trans e1⟩
  ·by_cases hj:j=i
   ·subst hj
    rw [hi] at e1;cases e1
    rw [List.getElem?_set_self hiσ] at e2
    cases e2
    exact ⟨u,r,.inr ⟨.inl hk,c,hc,hc'⟩⟩
   ·rw [List.getElem?_set_ne (Ne.symm hj)] at e2
    obtain ⟨u',r',q⟩:=hl j y v' e1 e2 e3
    refine ⟨u',r',?_⟩
    rcases q with q | ⟨k,c',e,z'⟩
    ·exact .inl q
    ·refine .inr ⟨k,c',e,z'.sameBut hs ?_⟩
     rintro rfl
     exact hj (zhk hN e1 (I.ok.inj _ _ _ e hc ▸ hi))
  ·by_cases hcc:c'=c
   ·subst hcc;exact ⟨_,hc'⟩
   ·obtain ⟨w2,z2⟩:=I.cell y c' e
    exact ⟨w2,z2.sameBut hs hcc⟩
  ·obtain ⟨e,n,ne,nf,d⟩:=I.pin p hp
   refine ⟨(hs.2 p.1 ?_).trans e,n,ne,nf,d⟩
   intro q
   rw [q,hoc] at e
   have q':oc=p.2:=Option.some.inj e
   exact d w' (by rw [← q'];exact hocd)
theorem zeK {M:Model} {A:Around} {E:Value→Shared→Prop} {i:Nat} {x:Str} {v:V} {u:Value} {Q:Unit→Shared→Prop} (I:Inv X pins σ H s) (hN:X.N.Nodup) (hi:X.N[i]? = some x) (hx:Loc X.env.scope x) (r:RelV v u)
  (h:∀ s',Inv X pins (σ.set i (some v)) H s'→Q () s') (hf:X.fn x=true∨X.env.scope.names.lookup x=some .local:=by first | exact .inl rfl | exact .inr rfl | assumption):wpAny M A (storeName X.env x u) Q E s:=
 zdy I hN hi hx r (fun s' I' _=>h s' I') hf
theorem Inv.call' {s':Shared} {ch:List Addr} (I:Inv X pins σ H s) (ho:s'.os=s.os) (u:Un (frs X.stack) ch H H' s.heap s'.heap) (hok:HOk X.prog X.w H' s'.heap) (hg:AllBare s'.gens)
  (hch:∀ b∈ch,(b∈X.ex∨X.s₀.heap.objs.size≤b)∧b≠X.env.locals∧(∀ x c,X.env.cells.lookup x=some c→c≠b)∧∀ p∈X.pn ++ pins,p.1≠b):Inv X pins σ H' s':=by
 obtain ⟨h',g',d',t',o'⟩:=s'
 have e:o'=s.os:=ho
 subst e
 exact I.call (g':=g') (t':=t') (d':=d') u hok hg hch
end
abbrev XK:=Value→Option Addr→Hp→Prop
abbrev St:=List (Option V)
abbrev VK:=V→Hp→Prop
abbrev TE:=St→Hp→VK→Prop
abbrev TT:=St→Hp→(Bool→Hp→Prop)→Prop
abbrev TA:=St→Hp→(List V→Hp→Prop)→Prop
structure Ends where
 nx:St→Hp→Prop
 rt:VK
 bk:St→Hp→Prop:=fun _ _=>False
 ct:St→Hp→Prop:=fun _ _=>False
abbrev TS:=Ends→St→Hp→Prop
def EP (X:Cx) (pins:List (Addr×Obj)) (σ:St) (Q:VK) (u:Value) (s':Shared):Prop:=∃ v H',Inv X pins σ H' s'∧RelV v u∧Q v H'
def TP (X:Cx) (pins:List (Addr×Obj)) (σ:St) (Q:Bool→Hp→Prop) (b:Bool) (s':Shared):Prop:=∃ H',Inv X pins σ H' s'∧Q b H'
def AP (X:Cx) (pins:List (Addr×Obj)) (σ:St) (Q:List V→Hp→Prop) (us:List Value) (s':Shared):Prop:=∃ vs H',Inv X pins σ H' s'∧Vals vs us∧Q vs H'
def SP (X:Cx) (pins:List (Addr×Obj)) (D:Ends) (f:Flow) (s':Shared):Prop:=
 match f with
 | .next=>∃ σ' H',Inv X pins σ' H' s'∧D.nx σ' H'
 | .brk=>∃ σ' H',Inv X pins σ' H' s'∧D.bk σ' H'
 | .cont=>∃ σ' H',Inv X pins σ' H' s'∧D.ct σ' H'
 | .ret u=>∃ v σ' H',Inv X pins σ' H' s'∧RelV v u∧D.rt v H'
def PE (X:Cx) (e:Expr) (t:TE):Prop:=
 ∀ (pins:List (Addr×Obj)) (s:Shared) (σ:St) (H:Hp) (Q:VK),Inv X pins σ H s→t σ H Q→wpAny (model X.prog X.w) X.A (eval e X.env) (EP X pins σ Q) X.xe s
def PT (X:Cx) (e:Expr) (t:TT):Prop:=
 ∀ (pins:List (Addr×Obj)) (s:Shared) (σ:St) (H:Hp) (Q:Bool→Hp→Prop),Inv X pins σ H s→t σ H Q→wpAny (model X.prog X.w) X.A (isTrue e X.env (eval e X.env)) (TP X pins σ Q) X.xe s
def PW (X:Cx) (e:Expr) (t:TT):Prop:=
 ∀ (whole:Sem Value) (pins:List (Addr×Obj)) (s:Shared) (σ:St) (H:Hp) (Q:Bool→Hp→Prop),Inv X pins σ H s→t σ H Q→wpAny (model X.prog X.w) X.A (isTrue e X.env whole) (TP X pins σ Q) X.xe s
theorem PW.pt {X:Cx} {e:Expr} {t:TT} (h:PW X e t):PT X e t:=h _
def PA (X:Cx) (es:List Expr) (t:TA):Prop:=
 ∀ (pos:Pos) (pins:List (Addr×Obj)) (s:Shared) (σ:St) (H:Hp) (Q:List V→Hp→Prop),Inv X pins σ H s→t σ H Q→wpAny (model X.prog X.w) X.A (spliced (backTo pos (starEach es X.env))) (AP X pins σ Q) X.xe s
def PS (X:Cx) (st:Stmt) (t:TS):Prop:=
 ∀ (pins:List (Addr×Obj)) (s:Shared) (σ:St) (H:Hp) (D:Ends),Inv X pins σ H s→t D σ H→wpAny (model X.prog X.w) X.A (exec st X.env) (SP X pins D) X.xe s
def PSs (X:Cx) (st:List Stmt) (t:TS):Prop:=
 ∀ (pins:List (Addr×Obj)) (s:Shared) (σ:St) (H:Hp) (D:Ends),Inv X pins σ H s→t D σ H→wpAny (model X.prog X.w) X.A (execs st X.env) (SP X pins D) X.xe s
theorem thn {α:Type} {t:Sem α} {Q Q':α→Shared→Prop} {M:Model} {A:Around} {E:Value→Shared→Prop} {s:Shared} (h:wpAny M A t Q E s) (hQ:∀ a s,Q a s→Q' a s):wpAny M A t Q' E s:=wpAny_mono h hQ fun _ _ x=>x
end L2
namespace L2
open PySem PySem.Spec PyProof.Rows
section
variable {X:Cx}
def tVar (i:Nat):TE:=fun σ H Q=>∃ v,σ[i]? = some (some v)∧Q v H
def tC (v:V):TE:=fun _ H Q=>Q v H
theorem pe_var {i:Nat} {x:Str} {pos:Pos} (hN:X.N[i]? = some x) (hv:Vis X.env.scope x) (hd:(x == ("__debug__" : Str))=false:=by decide) (hcd:(x == ("__classdict__" : Str))=false:=by decide):PE X (.Name x pos) (tVar i):=by
 intro pins s σ H Q I h
 obtain ⟨v,e,h⟩:=h
 obtain ⟨m,hn,hl⟩:=I.loc
 obtain ⟨u,r,l⟩:=hl i x v hN e hv
 have fin:EP X pins σ Q u s:=⟨v,H,I,r,h⟩
 rcases l with ⟨hk,hm⟩ | ⟨hk,c,hc,hcell⟩
 ·exact wpAny_Name (wpAny_loadName_local I.ok.kind hk hn hm fin) hd
 ·rcases hk with hk | hk
  ·exact wpAny_Name (wpAny_loadName_cell I.ok.kind hk hc hcell fin) hd
  ·exact wpAny_Name (wpAny_loadName_free I.ok.kind hk hc hcell fin hcd) hd
theorem zab {i j pos}:PE X (.Constant (.int i) j pos) (tC (.int i)):=fun _ _ _ H _ I h=>wpAny_Constant_int ⟨.int i,H,I.tok _,⟨_,rfl⟩,h⟩
theorem zcB {b j pos}:PE X (.Constant (.bool b) j pos) (tC (.bl b)):=fun _ _ _ H _ I h=>Constant_bool ⟨.bl b,H,I,rfl,h⟩
theorem zdZ {j pos}:PE X (.Constant .none j pos) (tC .non):=fun _ _ _ H _ I h=>Constant_none ⟨.non,H,I,rfl,h⟩
theorem zhd {x j pos}:PE X (.Constant (.str x) j pos) (tC (.str x)):=fun _ _ _ H _ I h=>Calls.Constant_str ⟨.str x,H,I.tok _,⟨_,rfl⟩,h⟩
def Gl (X:Cx) (x:Str):Prop:=X.env.kindOf x=some .globalImplicit
theorem zfb {E:Value→Shared→Prop} {pins:List (Addr×Obj)} {s:Shared} {σ:St} {H:Hp} {x:Str} {u:Value} {pos:Pos} {Q:Value→Shared→Prop} (I:Inv X pins σ H s) (hg:Gl X x) (hm:X.mg x=some u) (h:Q u s)
  (hd:(x == ("__debug__" : Str))=false:=by decide):wpAny (model X.prog X.w) X.A (eval (.Name x pos) X.env) Q E s:=
 Calls.Name_function_global I.ok.kind hg (Calls.loadGlobal_global (by rw [I.ok.glob];exact I.mod.glob.keeps I.bk) hm h) hd
theorem zc1 {E:Value→Shared→Prop} {pins:List (Addr×Obj)} {s:Shared} {σ:St} {H:Hp} {x:Str} {u:Value} {pos:Pos} {Q:Value→Shared→Prop} (I:Inv X pins σ H s) (hg:Gl X x) (hm:X.mg x=none) (hv:bootBuiltins x=some u) (h:Q u s)
  (hn:x ≠ "__name__" := by decide) (hd:(x == ("__debug__" : Str))=false:=by decide):wpAny (model X.prog X.w) X.A (eval (.Name x pos) X.env) Q E s:=by
 obtain ⟨mb,h1,h2⟩:=I.mod.blt
 exact Calls.Name_function_global I.ok.kind hg (Calls.loadGlobal_builtin (by rw [I.ok.glob];exact I.mod.glob.keeps I.bk) hm (by rw [I.ok.blt];exact h1.keeps I.bk) ((h2 x hn).trans hv) h) hd
theorem zgB {x:Str} {v:V} {u:Value} {pos:Pos} (hg:Gl X x) (hm:X.mg x=some u) (r:RelV v u) (hd:(x == ("__debug__" : Str))=false:=by decide):PE X (.Name x pos) (tC v):=
 fun _ _ _ H _ I h=>zfb I hg hm ⟨v,H,I,r,h⟩ hd
theorem zaS {x:Str} {v:V} {u:Value} {pos:Pos} (hg:Gl X x) (hm:X.mg x=none) (hv:bootBuiltins x=some u) (r:RelV v u) (hn:x ≠ "__name__" := by decide) (hd:(x == ("__debug__" : Str))=false:=by decide):PE X (.Name x pos) (tC v):=
 fun _ _ _ H _ I h=>zc1 I hg hm hv ⟨v,H,I,r,h⟩ hn hd
variable {a b:Expr} {ta tb:TE} {pos:Pos}
def PC (X:Cx) (op:CmpOp) (a b:Expr) (t:TE):Prop:=
 ∀ (pins:List (Addr×Obj)) (s:Shared) (σ:St) (H:Hp) (Q:VK),Inv X pins σ H s→t σ H Q →
  wpAny (model X.prog X.w) X.A (eval a X.env) (fun v s₁=>wpAny (model X.prog X.w) X.A (eval b X.env) (fun u s₂=>wpAny (model X.prog X.w) X.A (compareOp op v u) (EP X pins σ Q) X.xe s₂) X.xe s₁) X.xe s
theorem zhl (b:Expr) {op:CmpOp} (h:op≠.In) (h2:op≠.NotIn):behindInMarks op b=false:=by
 have e1:(op == CmpOp.In)=false:=by cases op <;> first | rfl | exact absurd rfl h
 have e2:(op == CmpOp.NotIn)=false:=by cases op <;> first | rfl | exact absurd rfl h2
 cases b <;> simp [behindInMarks,e1,e2]
def tIsN (ta:TE):TE:=fun σ H Q=>ta σ H fun x H1=>Q (.bl (decide (x = .non))) H1
def tNotN (ta:TE):TE:=fun σ H Q=>ta σ H fun x H1=>Q (.bl (!decide (x = .non))) H1
theorem RelV.none_iff {x:V} {v:Value} (r:RelV x v):(v == Value.none)=decide (x = .non):=by
 cases x with
 | non=>cases r;rfl
 | bl _=>cases r;rfl
 | int _=>obtain ⟨t,rfl⟩:=r;rfl
 | str _=>obtain ⟨t,rfl⟩:=r;rfl
 | byt _=>obtain ⟨t,rfl⟩:=r;rfl
 | flt _=>obtain ⟨t,rfl⟩:=r;rfl
 | ref _=>cases r;rfl
 | ty _=>cases r;rfl
theorem zch {j pos'} (ha:PE X a ta):PC X .Is a (.Constant .none j pos') (tIsN ta):=by
 intro pins s σ H Q I h
 refine thn (ha pins s σ H _ I h) fun v s1 ⟨x,H1,I1,r1,q1⟩=>?_
 exact Constant_none (is_none_gen ⟨.bl _,H1,I1,by rw [r1.none_iff];rfl,q1⟩)
theorem zcr {j pos'} (ha:PE X a ta):PC X .IsNot a (.Constant .none j pos') (tNotN ta):=by
 intro pins s σ H Q I h
 refine thn (ha pins s σ H _ I h) fun v s1 ⟨x,H1,I1,r1,q1⟩=>?_
 exact Constant_none (isnot_none_gen ⟨.bl _,H1,I1,by rw [r1.none_iff];rfl,q1⟩)
def tB (t:TE):TT:=fun σ H Q=>t σ H fun x H1=>∃ c,x = .bl c∧Q c H1
theorem ziU {op:CmpOp} {t:TE} (h:PC X op a b t) (h1:behindInMarks op b=false:=by first | exact zhl _ (by decide) (by decide) | rfl):PE X (.Compare a [op] [b] pos) t:=fun pins s σ H Q I hw=>wpAny_Compare1 (h pins s σ H Q I hw) h1
theorem zbq {op:CmpOp} {t:TE} (h:PC X op a b t) (h1:behindInMarks op b=false:=by first | exact zhl _ (by decide) (by decide) | rfl):PT X (.Compare a [op] [b] pos) (tB t):=by
 intro pins s σ H Q I hw
 refine wpAny_isTrue_Compare1 (thn (h pins s σ H _ I hw) fun v s1 h1=>thn h1 fun u s2 h2=>thn h2 fun c s3 ⟨x,H1,I1,r1,q1⟩=>?_) h1
 obtain ⟨d,rfl,q⟩:=q1
 cases r1
 exact wpAny_truthy_bool ⟨H1,I1,q⟩
theorem zaL {e:Expr} {t:TE} (h:PE X e t) (he:∀ whole,isTrue e X.env whole=(do let v ← whole;standAt e.pos;holding [v] (truthy v)):=by intro _;rfl):PT X e (tB t):=by
 intro pins s σ H Q I hw
 refine isTrue_plain (thn (h pins s σ H _ I hw) fun v s1 ⟨x,H1,I1,r1,q1⟩=>?_) (he _)
 obtain ⟨d,rfl,q⟩:=q1
 cases r1
 exact wpAny_truthy_bool ⟨H1,I1,q⟩
variable {tA tB':TT} {rest:List Expr}
def tAnd (t u:TT):TT:=fun σ H Q=>t σ H fun c H1=>if c=true then u σ H1 Q else Q false H1
def tOr (t u:TT):TT:=fun σ H Q=>t σ H fun c H1=>if c=true then Q true H1 else u σ H1 Q
def tNot (t:TT):TT:=fun σ H Q=>t σ H fun c H1=>Q (!c) H1
theorem zgy (ha:PT X a tA):PW X (.BoolOp .And [a] pos) tA:=by
 intro wh pins s σ H Q I h
 refine isTrue_and (thn (ha pins s σ H Q I h) fun c s1 e=>?_)
 cases c with
 | true=>exact isTrue_and_nil e
 | false=>exact e
theorem zb3 (ha:PT X a tA):PW X (.BoolOp .Or [a] pos) tA:=by
 intro wh pins s σ H Q I h
 refine isTrue_or (thn (ha pins s σ H Q I h) fun c s1 e=>?_)
 cases c with
 | false=>exact isTrue_or_nil e
 | true=>exact e
theorem zg9 (ha:PT X a tA) (hb:PW X (.BoolOp .And (b :: rest) pos) tB'):PW X (.BoolOp .And (a :: b :: rest) pos) (tAnd tA tB'):=by
 intro wh pins s σ H Q I h
 refine isTrue_and (thn (ha pins s σ H _ I h) fun c s1 ⟨H1,I1,q1⟩=>?_)
 cases c with
 | true=>exact hb wh pins s1 σ H1 Q I1 q1
 | false=>exact ⟨H1,I1,q1⟩
theorem zcz (ha:PT X a tA) (hb:PW X (.BoolOp .Or (b :: rest) pos) tB'):PW X (.BoolOp .Or (a :: b :: rest) pos) (tOr tA tB'):=by
 intro wh pins s σ H Q I h
 refine isTrue_or (thn (ha pins s σ H _ I h) fun c s1 ⟨H1,I1,q1⟩=>?_)
 cases c with
 | true=>exact ⟨H1,I1,q1⟩
 | false=>exact hb wh pins s1 σ H1 Q I1 q1
theorem zaX (ha:PT X a tA):PT X (.UnaryOp .Not a pos) (tNot tA):=by
 intro pins s σ H Q I h
 exact isTrue_not (ha pins s σ H (fun c H1=>Q (!c) H1) I h)
def tAndV (ta tb:TE):TE:=fun σ H Q=>ta σ H fun x H1=>∃ c,x = .bl c∧if c=true then tb σ H1 Q else Q (.bl false) H1
def tOrV (ta tb:TE):TE:=fun σ H Q=>ta σ H fun x H1=>∃ c,x = .bl c∧if c=true then Q (.bl true) H1 else tb σ H1 Q
def tNotV (ta:TE):TE:=fun σ H Q=>ta σ H fun x H1=>∃ c,x = .bl c∧Q (.bl (!c)) H1
theorem zbI {op} {t:TE} (h:PE X a t):PE X (.BoolOp op [a] pos) t:=fun pins s σ H Q I hw=>BoolOp_one (h pins s σ H Q I hw)
theorem zbv (ha:PE X a ta) (hb:PE X (.BoolOp .And (b :: rest) pos) tb):PE X (.BoolOp .And (a :: b :: rest) pos) (tAndV ta tb):=by
 intro pins s σ H Q I h
 refine BoolOp_and (thn (ha pins s σ H _ I h) fun v s1 ⟨x,H1,I1,r1,q1⟩=>?_)
 obtain ⟨c,rfl,q1⟩:=q1
 cases r1
 refine wpAny_truthy_bool ?_
 cases c with
 | true=>exact hb pins s1 σ H1 Q I1 q1
 | false=>exact ⟨.bl false,H1,I1,rfl,q1⟩
theorem pe_or (ha:PE X a ta) (hb:PE X (.BoolOp .Or (b :: rest) pos) tb):PE X (.BoolOp .Or (a :: b :: rest) pos) (tOrV ta tb):=by
 intro pins s σ H Q I h
 refine BoolOp_or (thn (ha pins s σ H _ I h) fun v s1 ⟨x,H1,I1,r1,q1⟩=>?_)
 obtain ⟨c,rfl,q1⟩:=q1
 cases r1
 refine wpAny_truthy_bool ?_
 cases c with
 | false=>exact hb pins s1 σ H1 Q I1 q1
 | true=>exact ⟨.bl true,H1,I1,rfl,q1⟩
theorem zkZ (ha:PE X a ta):PE X (.UnaryOp .Not a pos) (tNotV ta):=by
 intro pins s σ H Q I h
 refine UnaryOp_ (thn (ha pins s σ H _ I h) fun v s1 ⟨x,H1,I1,r1,q1⟩=>?_)
 obtain ⟨c,rfl,q1⟩:=q1
 cases r1
 exact not_of (wpAny_truthy_bool ⟨.bl (!c),H1,I1,rfl,q1⟩)
def tIf (t:TT) (ta tb:TE):TE:=fun σ H Q=>t σ H fun c H1=>if c=true then ta σ H1 Q else tb σ H1 Q
theorem zkc {c:Expr} (hc:PT X c tA) (ha:PE X a ta) (hb:PE X b tb):PE X (.IfExp c a b pos) (tIf tA ta tb):=by
 intro pins s σ H Q I h
 refine wpAny_IfExp (thn (hc pins s σ H _ I h) fun d s1 ⟨H1,I1,q1⟩=>?_)
 cases d with
 | true=>exact ha pins s1 σ H1 Q I1 q1
 | false=>exact hb pins s1 σ H1 Q I1 q1
end
end L2
namespace L2
open PySem PySem.Spec PyProof.Rows
def SqL (K:PySem.W.Frag) (H:Hp) (a:Addr) (xs:List V):Prop:=
 Rd H a (.lst xs) ∨
  ∃ (o:Obj) (its:Array Value) (n:Nat),K.lookup a=some o∧o.cls = .type "list" ∧ o.dict=none∧o.data = .seq its n∧its.size≤sizeLine∧Vals xs its.toList
def SqT (K:PySem.W.Frag) (H:Hp) (a:Addr) (xs:List V):Prop:=
 Rd H a (.tup xs) ∨
  ∃ (o:Obj) (its:Array Value) (n:Nat),K.lookup a=some o∧o.cls = .type "tuple" ∧ o.data = .seq its n∧its.size≤sizeLine∧Vals xs its.toList
def absV:Value→Option V
 | .none=>some .non
 | .bool b=>some (.bl b)
 | .int i _=>some (.int i)
 | .str x _=>some (.str x)
 | .bytes b _=>some (.byt b)
 | .float b _=>some (.flt b)
 | .ref a=>some (.ref a)
 | .type n=>some (.ty n)
 | _=>none
theorem RelV.abs {x:V} {u:Value} (r:RelV x u):absV u=some x:=by
 cases x with
 | non=>cases r;rfl
 | bl _=>cases r;rfl
 | int _=>obtain ⟨t,rfl⟩:=r;rfl
 | str _=>obtain ⟨t,rfl⟩:=r;rfl
 | byt _=>obtain ⟨t,rfl⟩:=r;rfl
 | flt _=>obtain ⟨t,rfl⟩:=r;rfl
 | ref _=>cases r;rfl
 | ty _=>cases r;rfl
theorem RelV.inj {x y:V} {u:Value} (r:RelV x u) (q:RelV y u):x=y:=Option.some.inj (r.abs.symm.trans q.abs)
theorem Vals.inj:∀ {xs ys:List V} {us:List Value},Vals xs us→Vals ys us→xs=ys
 | _,_,_,.nil,.nil=>rfl
 | _,_,_,.cons r t,.cons r' t'=>by rw [r.inj r',Vals.inj t t']
section
variable {X:Cx} {pins:List (Addr×Obj)} {σ:St} {H:Hp} {s:Shared} {a:Addr} {xs ys:List V}
theorem SqL.of {K:PySem.W.Frag} (h:H a=some (.lst xs)):SqL K H a xs:=.inl (.inl h)
theorem SqT.of {K:PySem.W.Frag} (h:H a=some (.tup xs)):SqT K H a xs:=.inl (.inl h)
theorem Inv.list (I:Inv X pins σ H s) (h:SqL X.K H a xs):∃ its:List Value,Vals xs its∧PlainL s.heap a its.toArray∧xs.length≤sizeLine:=by
 rcases h with h | ⟨o,its,n,hk,hc,hd,hs,hz,r⟩
 ·obtain ⟨z,its,n,r,e⟩:=h.ok I.hok
  exact ⟨its,r,⟨_,n,e,rfl,rfl,rfl⟩,z⟩
 ·refine ⟨its.toList,r,⟨o,n,I.kIn a o hk,hc,hd,by simpa using hs⟩,?_⟩
  have e:=r.length
  simp only [Array.length_toList] at e
  omega
theorem Inv.tuple (I:Inv X pins σ H s) (h:SqT X.K H a xs):∃ its:List Value,Vals xs its∧IsTup s.heap a its.toArray∧xs.length≤sizeLine:=by
 rcases h with h | ⟨o,its,n,hk,hc,hs,hz,r⟩
 ·obtain ⟨z,its,r,p⟩:=h.ok I.hok
  exact ⟨its,r,p,z⟩
 ·refine ⟨its.toList,r,⟨o,I.kIn a o hk,hc,n,by simpa using hs⟩,?_⟩
  have e:=r.length
  simp only [Array.length_toList] at e
  omega
theorem Inv.list_inj (I:Inv X pins σ H s) (h:SqL X.K H a xs) (h':SqL X.K H a ys):xs=ys:=by
 obtain ⟨its,r,⟨o,n,e,_,_,d⟩,_⟩:=I.list h
 obtain ⟨its',r',⟨o',n',e',_,_,d'⟩,_⟩:=I.list h'
 rw [e] at e';cases e'
 rw [d] at d'
 injection d' with d1 _
 have:its=its':=by simpa using congrArg Array.toList d1
 subst this
 exact r.inj r'
theorem Inv.tuple_inj (I:Inv X pins σ H s) (h:SqT X.K H a xs) (h':SqT X.K H a ys):xs=ys:=by
 obtain ⟨its,r,⟨o,e,_,n,d⟩,_⟩:=I.tuple h
 obtain ⟨its',r',⟨o',e',_,n',d'⟩,_⟩:=I.tuple h'
 rw [e] at e';cases e'
 rw [d] at d'
 injection d' with d1 _
 have:its=its':=by simpa using congrArg Array.toList d1
 subst this
 exact r.inj r'
end
abbrev Cx.wish (X:Cx) (E:Value→Shared→Prop):Cx:={ X with xe:=E }
abbrev Cx.nox (X:Cx):Cx:=X.wish fun _ _=>False
theorem Cx.Ok.wish {X:Cx} (ok:X.Ok) (E:Value→Shared→Prop):(X.wish E).Ok:=
 ⟨ok.mod,ok.kind,ok.glob,ok.blt,ok.above,ok.inj,ok.has,ok.cab,ok.hd,ok.frames,ok.stk,ok.exf,ok.bs,ok.bsz,ok.noex,ok.exfs,ok.funs,ok.frf⟩
theorem Cx.Ok.unwish {X:Cx} {E:Value→Shared→Prop} (ok:(X.wish E).Ok):X.Ok:=
 ⟨ok.mod,ok.kind,ok.glob,ok.blt,ok.above,ok.inj,ok.has,ok.cab,ok.hd,ok.frames,ok.stk,ok.exf,ok.bs,ok.bsz,ok.noex,ok.exfs,ok.funs,ok.frf⟩
section
variable {X:Cx} {pins:List (Addr×Obj)} {σ:St} {H:Hp} {s:Shared} {E:Value→Shared→Prop}
theorem Inv.wish (I:Inv X pins σ H s) (E:Value→Shared→Prop):Inv (X.wish E) pins σ H s:=⟨I.ok.wish E,I.os,I.bare,I.base,I.loc,I.cell,I.free,I.freeC,I.pin,I.hok,I.len⟩
theorem Inv.unwish (I:Inv (X.wish E) pins σ H s):Inv X pins σ H s:=⟨I.ok.unwish,I.os,I.bare,I.base,I.loc,I.cell,I.free,I.freeC,I.pin,I.hok,I.len⟩
theorem SP.unwish {D:Ends} {f:Flow} {s':Shared} (h:SP (X.wish E) pins D f s'):SP X pins D f s':=by
 cases f with
 | next=>obtain ⟨σ',H',I,q⟩:=h;exact ⟨σ',H',I.unwish,q⟩
 | brk=>obtain ⟨σ',H',I,q⟩:=h;exact ⟨σ',H',I.unwish,q⟩
 | cont=>obtain ⟨σ',H',I,q⟩:=h;exact ⟨σ',H',I.unwish,q⟩
 | ret u=>obtain ⟨v,σ',H',I,r,q⟩:=h;exact ⟨v,σ',H',I.unwish,r,q⟩
theorem PSs.nox {st:List Stmt} {t:TS} (h:PSs X.nox st t):PSs X st t:=fun pins s σ H D I hw =>
 wpAny_mono (h pins s σ H D (I.wish _) hw) (fun _ _ q=>q.unwish) fun _ _ z=>False.elim z
end
section
variable {X:Cx} {st:Stmt} {rest:List Stmt} {t u:TS} {e:Expr} {te:TE} {pos:Pos}
def tNext:TS:=fun D σ H=>D.nx σ H
def tSeq (t u:TS):TS:=fun D σ H=>t { D with nx:=u D } σ H
theorem zaq:PSs X [] tNext:=fun _ _ σ H _ I h=>wpAny_execs_nil ⟨σ,H,I,h⟩
theorem zac (h1:PS X st t) (h2:PSs X rest u):PSs X (st :: rest) (tSeq t u):=by
 intro pins s σ H D I h
 refine wpAny_execs_cons (thn (h1 pins s σ H { D with nx:=u D } I h) fun f s1 q=>?_)
 cases f with
 | next =>
  obtain ⟨σ',H',I',q⟩:=q
  exact h2 pins s1 σ' H' D I' q
 | ret v=>exact q
 | brk=>exact q
 | cont=>exact q
theorem zag (h1:PS X st t):PSs X [st] t:=by
 intro pins s σ H D I h
 refine wpAny_execs_cons (thn (h1 pins s σ H D I h) fun f s1 q=>?_)
 cases f with
 | next=>exact wpAny_execs_nil q
 | ret v=>exact q
 | brk=>exact q
 | cont=>exact q
theorem Inv.quiet {pins:List (Addr×Obj)} {σ:St} {H:Hp} {s:Shared} (I:Inv X pins σ H s):interactive X.env=false:=by simp [interactive,I.ok.kind]
def tDrop (te:TE):TS:=fun D σ H=>te σ H fun _ H1=>D.nx σ H1
theorem zax (he:PE X e te) (hs:swapsWith e none pos.line X.env=pure false:=by rfl):PS X (.Expr e pos) (tDrop te):=by
 intro pins s σ H D I h
 exact wpAny_Expr_any (thn (he pins s σ H _ I h) fun v s1 ⟨x,H1,I1,r1,q1⟩=>⟨σ,H1,I1,q1⟩) I.quiet hs
def tRet (te:TE):TS:=fun D σ H=>te σ H D.rt
theorem zat (he:PE X e te):PS X (.Return (some e) pos) (tRet te):=by
 intro pins s σ H D I h
 exact wpAny_Return_some (thn (he pins s σ H _ I h) fun v s1 ⟨x,H1,I1,r1,q1⟩=>⟨x,σ,H1,I1,r1,q1⟩)
def tIfS (c:TT) (t u:TS):TS:=fun D σ H=>c σ H fun b H1=>if b=true then t D σ H1 else u D σ H1
theorem zaE {c:Expr} {a b:List Stmt} {tc:TT} (hc:PT X c tc) (ha:PSs X a t) (hb:PSs X b u):PS X (.If c a b pos) (tIfS tc t u):=by
 intro pins s σ H D I h
 refine wpAny_If (thn (hc pins s σ H _ I h) fun d s1 ⟨H1,I1,q1⟩=>?_)
 cases d with
 | true=>exact ha pins s1 σ H1 D I1 q1
 | false=>exact hb pins s1 σ H1 D I1 q1
def tNever:TS:=fun _ _ _=>False
theorem za1:PS X st tNever:=fun _ _ _ _ _ _ h=>h.elim
end
abbrev TG:=V→St→Hp→(St→Hp→Prop)→Prop
abbrev TGs:=List V→St→Hp→(St→Hp→Prop)→Prop
def PG (X:Cx) (target:Expr) (t:TG):Prop:=
 ∀ (pins:List (Addr×Obj)) (s:Shared) (σ:St) (H:Hp) (v:V) (u:Value) (Q:St→Hp→Prop),Inv X pins σ H s→RelV v u→t v σ H Q →
  wpAny (model X.prog X.w) X.A (assign target X.env u) (fun _ s'=>∃ σ' H',Inv X pins σ' H' s'∧Q σ' H') X.xe s
def PGs (X:Cx) (ts:List Expr) (t:TGs):Prop:=
 ∀ (pins:List (Addr×Obj)) (s:Shared) (σ:St) (H:Hp) (vs:List V) (us:List Value) (Q:St→Hp→Prop),Inv X pins σ H s→Vals vs us→t vs σ H Q →
  wpAny (model X.prog X.w) X.A (assignInOrder ((assignEach ts X.env).map (·.2)) us) (fun _ s'=>∃ σ' H',Inv X pins σ' H' s'∧Q σ' H') X.xe s
abbrev TSet:=V→V→V→Hp→(Hp→Prop)→Prop
def PSet (X:Cx) (t:TSet):Prop:=
 ∀ (pins:List (Addr×Obj)) (s:Shared) (σ:St) (H:Hp) (o i v:V) (ov iv u:Value) (Q:Hp→Prop),Inv X pins σ H s→RelV o ov→RelV i iv→RelV v u→t o i v H Q →
  wpAny (model X.prog X.w) X.A (setItem ov iv u) (fun _ s'=>∃ H',Inv X pins σ H' s'∧Q H') X.xe s
abbrev TIp:=V→V→Hp→VK→Prop
def PIp (X:Cx) (op:Operator) (t:TIp):Prop:=
 ∀ (pins:List (Addr×Obj)) (s:Shared) (σ:St) (H:Hp) (x y:V) (v u:Value) (Q:VK),Inv X pins σ H s→RelV x v→RelV y u→t x y H Q →
  wpAny (model X.prog X.w) X.A (inplaceOp op v u) (EP X pins σ Q) X.xe s
section
variable {X:Cx} {pos:Pos}
def za5 (i:Nat):TG:=fun v σ H Q=>Q (σ.set i (some v)) H
theorem zaj {i:Nat} {x:Str} (hN:X.N.Nodup) (hi:X.N[i]? = some x) (hx:Loc X.env.scope x) (hf:X.fn x=true∨X.env.scope.names.lookup x=some .local:=by first | exact .inl rfl | exact .inr rfl | assumption):PG X (.Name x pos) (za5 i):=by
 intro pins s σ H v u Q I r h
 exact wpAny_assign_Name (zeK I hN hi hx r (fun s' I'=>⟨_,H,I',h⟩) hf)
def gNil:TGs:=fun vs σ H Q=>vs=[]∧Q σ H
def zjg (t:TG) (u:TGs):TGs:=fun vs σ H Q=>∃ v r,vs=v :: r∧t v σ H fun σ' H'=>u r σ' H' Q
theorem zaR:PGs X [] gNil:=by
 intro pins s σ H vs us Q I r h
 obtain ⟨e,h⟩:=h
 subst e
 cases r
 exact assignInOrder_nil ⟨σ,H,I,h⟩
theorem zak {e:Expr} {es:List Expr} {t:TG} {u:TGs} (h1:PG X e t) (h2:PGs X es u)
  (hs:(assignEach (e :: es) X.env).map (·.2)=assign e X.env :: (assignEach es X.env).map (·.2):=by rfl):PGs X (e :: es) (zjg t u):=by
 intro pins s σ H vs us Q I r h
 obtain ⟨v,vr,e1,h⟩:=h
 subst e1
 cases r with
 | cons r rr =>
  rw [hs]
  refine assignInOrder_cons (thn (h1 pins s σ H _ _ _ I r h) fun _ s1 ⟨σ1,H1,I1,q1⟩=>?_)
  exact h2 pins s1 σ1 H1 _ _ Q I1 rr q1
def gTup (K:PySem.W.Frag) (n:Nat) (t:TGs):TG:=fun v σ H Q=>∃ a xs,v = .ref a∧SqT K H a xs∧xs.length=n∧t xs σ H Q
theorem zbc {es:List Expr} {k:Nat} {t:TGs} {n:Nat} (hc:X.calm=true) (h:PGs X es t)
  (hn:(assignEach es X.env).length=n:=by rfl) (hst:(assignEach es X.env).findIdx? (·.1)=none:=by rfl):PG X (.Tuple es k pos) (gTup X.K n t):=by
 intro pins s σ H v u Q I r hw
 obtain ⟨a,xs,e1,hq,hl,hw⟩:=hw
 subst e1
 cases r
 obtain ⟨its,rv,ht,hz⟩:=I.tuple hq
 refine assign_Tuple_tuple (I.ok.hd hc) ht (by simp [hn,← hl,rv.length]) hst fun h' hx=>?_
 have I1:Inv X pins σ H { s with heap:=h' }:=I.kept (t':=s.toks) fun b o e=>hx b o (Nat.ne_of_lt (Heap.lt_size e)) e
 exact h pins _ σ H xs _ Q I1 (by simpa using rv) hw
def gSub (to ti:TE) (t:TSet):TG:=fun v σ H Q=>to σ H fun o H1=>ti σ H1 fun i H2=>t o i v H2 fun H3=>Q σ H3
theorem zhc {o i:Expr} {to ti:TE} {t:TSet} (ho:PE X o to) (hi:PE X i ti) (hs:PSet X t)
  (ha:∀ v,assign (.Subscript o i pos) X.env v=(do
   let ov ← holding [v] (eval o X.env)
   let iv ← holding [v,ov] (eval i X.env)
   standAt pos
   holding [v,ov,iv] (setItem ov iv v)
   release [v,ov,iv] []):=by intro _;rfl):PG X (.Subscript o i pos) (gSub to ti t):=by
 intro pins s σ H v u Q I r h
 rw [ha]
 refine wpAny_bind (wpAny_holding (thn (ho pins s σ H _ I h) fun ov s1 ⟨x,H1,I1,r1,q1⟩=>?_))
 refine wpAny_bind (wpAny_holding (thn (hi pins s1 σ H1 _ I1 q1) fun iv s2 ⟨y,H2,I2,r2,q2⟩=>?_))
 refine wpAny_bind (wpAny_standAt (wpAny_bind (wpAny_holding (thn (hs pins s2 σ H2 x y v ov iv u _ I2 r1 r2 r q2) fun _ s3 ⟨H3,I3,q3⟩=>?_))))
 exact wpAny_release ⟨σ,H3,I3,q3⟩
def tAsg (te:TE) (g:TG):TS:=fun D σ H=>te σ H fun x H1=>g x σ H1 D.nx
theorem zbs {tg e:Expr} {te:TE} {g:TG} (he:PE X e te) (hg:PG X tg g) (hs:swapsWithSole [tg] e pos.line X.env=pure false:=by rfl) (hw:swappedStores [tg] e X.env=pure none:=by rfl)
  (h1:(assignEach [tg] X.env).map (·.2)=[assign tg X.env]:=by rfl):PS X (.Assign [tg] e pos) (tAsg te g):=by
 intro pins s σ H D I h
 refine wpAny_Assign_stores (thn (he pins s σ H _ I h) fun v s1 ⟨x,H1,I1,r1,q1⟩=>?_) hs hw
 rw [h1]
 exact thn (hg pins s1 σ H1 x v _ I1 r1 q1) fun _ s2 q=>q
theorem zau {i:Nat} {x:Str} {e:Expr} {te:TE} {pos':Pos} (hN:X.N.Nodup) (hi:X.N[i]? = some x) (hx:Loc X.env.scope x) (he:PE X e te) (hs:swapsWith e (some (.Name x pos')) pos.line X.env=pure false:=by rfl) (hf:X.fn x=true∨X.env.scope.names.lookup x=some .local:=by first | exact .inl rfl | exact .inr rfl | assumption) :
  PS X (.Assign [.Name x pos'] e pos) (tAsg te (za5 i)):=by
 intro pins s σ H D I h
 refine wpAny_Assign_Name (thn (he pins s σ H _ I h) fun v s1 ⟨y,H1,I1,r1,q1⟩=>?_) hs
 exact zeK I1 hN hi hx r1 (fun s2 I2=>⟨_,H1,I2,q1⟩) hf
def tAug (i:Nat) (te:TE) (ti:TIp):TS:=fun D σ H=>∃ x,σ[i]? = some (some x)∧te σ H fun y H1=>ti x y H1 fun z H2=>D.nx (σ.set i (some z)) H2
theorem ziK {i:Nat} {x:Str} {e:Expr} {te:TE} {op:Operator} {ti:TIp} {pos':Pos} (hN:X.N.Nodup) (hi:X.N[i]? = some x) (hx:Loc X.env.scope x) (he:PE X e te) (ho:PIp X op ti) (hf:X.fn x=true∨X.env.scope.names.lookup x=some .local:=by first | exact .inl rfl | exact .inr rfl | assumption) :
  PS X (.AugAssign (.Name x pos') op e pos) (tAug i te ti):=by
 intro pins s σ H D I h
 obtain ⟨v,e1,h⟩:=h
 obtain ⟨m,hn,hl⟩:=I.loc
 have vis:Vis X.env.scope x:=by rcases hx with k | k;exact .inl k;exact .inr (.inl k)
 obtain ⟨u,r,l⟩:=hl i x v hi e1 vis
 refine wpAny_AugAssign_Name ?_
 have go:wpAny (model X.prog X.w) X.A (eval e X.env) (fun w s₂=>wpAny (model X.prog X.w) X.A (inplaceOp op u w) (fun r s₃=>wpAny (model X.prog X.w) X.A (storeName X.env x r) (fun _=>SP X pins D .next) X.xe s₃) X.xe s₂) X.xe s:=by
  refine thn (he pins s σ H _ I h) fun w s1 ⟨y,H1,I1,r1,q1⟩=>?_
  refine thn (ho pins s1 σ H1 v y u w _ I1 r r1 q1) fun z s2 ⟨zv,H2,I2,r2,q2⟩=>?_
  exact zeK I2 hN hi hx r2 (fun s3 I3=>⟨_,H2,I3,q2⟩) hf
 rcases l with ⟨hk,hm⟩ | ⟨hk,c,hc,hcell⟩
 ·exact wpAny_loadName_local I.ok.kind hk hn hm go
 ·rcases hk with hk | hk
  ·exact wpAny_loadName_cell I.ok.kind hk hc hcell go
  ·rcases hx with k | k
   ·have:X.env.scope.names.lookup x=some .free:=hk
    rw [k] at this;cases this
   ·have:X.env.scope.names.lookup x=some .free:=hk
    rw [k] at this;cases this
end
section
variable {X:Cx} {pos:Pos}
def zkR (c:TT) (tb:TS):TS:=fun D σ H=>∃ W:Nat→St→Hp→Prop,(∃ m,W m σ H)∧∀ m σ H,W m σ H →
 c σ H fun b H1=>if b=true then ∃ N:St→Hp→Prop,(∀ σ' H',N σ' H'→∃ m',m'<m∧W m' σ' H')∧tb { D with nx:=N,ct:=N,bk:=D.nx } σ H1 else D.nx σ H1
theorem zeZ {c:Expr} {body:List Stmt} {tc:TT} {tb:TS} (hp:PassesOwn (model X.prog X.w) X.A X.env X.xe) (hc:PT X c tc) (hb:PSs X body tb):PS X (.While c body [] pos) (zkR tc tb):=by
 intro pins s σ H D I h
 obtain ⟨W,⟨m0,w0⟩,turn⟩:=h
 refine wpAny_While (codeAny_whileLoop (fun n s'=>∃ σ' H',Inv X pins σ' H' s'∧W n σ' H') ?_ m0 ⟨σ,H,I,w0⟩)
 rintro n s1 ⟨σ1,H1,I1,w1⟩
 refine wpAny_passesOwn hp (thn (hc pins s1 σ1 H1 _ I1 (turn n σ1 H1 w1)) fun b s2 ⟨H2,I2,q2⟩=>?_)
 cases b with
 | true =>
  obtain ⟨N,hN,q2⟩:=q2
  rw [if_pos rfl]
  refine wpAny_passesOwn hp (thn (hb pins s2 σ1 H2 _ I2 q2) fun f s3 q3=>?_)
  cases f with
  | next =>
   obtain ⟨σ3,H3,I3,n3⟩:=q3
   obtain ⟨m',hm,w3⟩:=hN σ3 H3 n3
   exact ⟨m',hm,σ3,H3,I3,w3⟩
  | cont =>
   obtain ⟨σ3,H3,I3,n3⟩:=q3
   obtain ⟨m',hm,w3⟩:=hN σ3 H3 n3
   exact ⟨m',hm,σ3,H3,I3,w3⟩
  | brk=>exact q3
  | ret v=>exact q3
 | false =>
  rw [if_neg Bool.false_ne_true]
  exact wpAny_execs_nil ⟨σ1,H2,I2,q2⟩
end
structure It where
 go:Nat→Hp→Prop
 yld:Nat→Hp→V→Hp→Prop
 stop:Nat→Hp→Prop
def FpOk (X:Cx) (pins:List (Addr×Obj)) (H:Hp) (b:Addr):Prop:=
 H b=none∧b≠X.env.locals∧b ∉ X.fs∧(b∈X.ex∨X.s₀.heap.objs.size≤b)∧(∀ x c,X.env.cells.lookup x=some c→c≠b)∧∀ p∈X.pn ++ pins,p.1≠b
theorem Inv.fpOk {X:Cx} {pins:List (Addr×Obj)} {σ:St} {H H':Hp} {s:Shared} {b:Addr} (I:Inv X pins σ H s) (hb:s.heap.objs.size≤b) (hn:H' b=none):FpOk X pins H' b:=by
 refine ⟨hn,Nat.ne_of_gt (Nat.lt_of_lt_of_le I.lt hb),I.nofs hb,.inr (Nat.le_trans I.sz hb),fun x c e z=>?_,fun p hp z=>?_⟩
 ·obtain ⟨v,q⟩:=I.cell x c e
  exact absurd (Nat.lt_of_lt_of_le q.lt (by rw [z];exact hb)) (Nat.lt_irrefl _)
 ·exact absurd (Nat.lt_of_lt_of_le (Heap.lt_size (I.pin p hp).1) (by rw [z];exact hb)) (Nat.lt_irrefl _)
structure Turn (P:Program) (w:World) (K:PySem.W.Frag) (tg:Expr) (J:It) (fp:List Addr) (it:Addr) (tn:Nat→Heap→Prop):Prop where
 mem:it∈fp
 obj:∀ i h,tn i h→∀ b∈fp,∃ o,h.get? b=some o∧∀ v,o.data≠.cell v
 keep:∀ i h h',tn i h→(∀ b∈fp,∀ o,h.get? b=some o→h'.get? b=some o)→tn i h'
 item:∀ (X:Cx),X.prog=P→X.w=w→X.K=K→X.calm=true→∀ (i:Nat) (pins:List (Addr×Obj)) (s:Shared) (σ:St) (H:Hp) (E:Value→Shared→Prop),Inv X pins σ H s→(∀ b∈fp,FpOk X pins H b)→tn i s.heap→J.go i H →
  wpAny (model P w) X.A (pyNext (.ref it)) (fun r s1=>∃ u,r=some u ∧
   wpAny (model P w) X.A (letOwnedTupleGo tg (.ref it) u) (fun _ s2=>∃ x H',Inv X pins σ H' s2∧RelV x u∧J.yld i H x H'∧tn (i+1) s2.heap∧∀ b∈fp,H' b=none) E s1) E s
 done:∀ (X:Cx),X.prog=P→X.w=w→X.K=K→X.calm=true→∀ (i:Nat) (pins:List (Addr×Obj)) (s:Shared) (σ:St) (H:Hp) (E:Value→Shared→Prop),Inv X pins σ H s→(∀ b∈fp,FpOk X pins H b)→tn i s.heap→J.stop i H →
  wpAny (model P w) X.A (pyNext (.ref it)) (fun r s1=>r=none∧Inv X pins σ H s1) E s
 self:∀ (A:Around) (i:Nat) (s:Shared) (Q:Value→Shared→Prop) (E:Value→Shared→Prop),tn i s.heap→Q (.ref it) s→wpAny (model P w) A (pyIter (.ref it)) Q E s
abbrev TI:=St→Hp→(It→Hp→Prop)→Prop
def PIE (X:Cx) (pins:List (Addr×Obj)) (σ:St) (tg:Expr) (R:It→Hp→Prop) (itv:Value) (s2:Shared):Prop:=
 ∃ (it:Addr) (fp:List Addr) (tn:Nat→Heap→Prop) (J:It) (H':Hp),itv = .ref it∧Inv X pins σ H' s2∧Turn X.prog X.w X.K tg J fp it tn∧tn 0 s2.heap∧(∀ b∈fp,FpOk X pins H' b)∧R J H'
def PI (X:Cx) (tg iter:Expr) (wi:TI):Prop:=
 ∀ (pins:List (Addr×Obj)) (s:Shared) (σ:St) (H:Hp) (R:It→Hp→Prop),Inv X pins σ H s→wi σ H R →
  wpAny (model X.prog X.w) X.A (eval iter X.env) (fun v s1=>wpAny (model X.prog X.w) X.A (pyIter v) (PIE X pins σ tg R) X.xe s1) X.xe s
theorem zlW {M:Model} {A:Around} {E:Value→Shared→Prop} {s:Shared} {tg:Expr} {it:Addr} {u:Value} {o:Obj} {n:String} {vs:Array Value} {Q:Unit→Shared→Prop} (ho:s.heap.get? it=some o) (hc:o.cls = .type n) (hd:o.data = .fields vs)
    (hn:["enumerate","zip","dict_itemiterator","dict_reverseitemiterator","odict_iterator","itertools.zip_longest","itertools.pairwise"].contains n=false) (hQ:Q () s):wpAny M A (letOwnedTupleGo tg (.ref it) u) Q E s:=by
  unfold letOwnedTupleGo
  cases tg <;> first
    | exact wpAny_pure hQ
    | (cases u <;> first
        | exact wpAny_pure hQ
        | (refine wpAny_bind (wpAny_load ho ?_)
           rw [hc,hd]
           show wpAny M A (if (["enumerate","zip","dict_itemiterator","dict_reverseitemiterator","odict_iterator","itertools.zip_longest","itertools.pairwise"].contains n && vs[0]? == some (rawInt _))=true then _ else _) Q E s
           rw [if_neg (by intro h;rw [hn,Bool.false_and] at h;cases h)]
           exact wpAny_pure hQ))
def Itl (K:PySem.W.Frag) (a:Addr):It:=
 ⟨fun i H=>∃ xs x,SqL K H a xs∧xs[i]? = some x,fun i H x H'=>H'=H∧∀ xs,SqL K H a xs→xs[i]? = some x,fun i H=>∃ xs,SqL K H a xs∧xs.length≤i⟩
def Itt (K:PySem.W.Frag) (a:Addr):It:=
 ⟨fun i H=>∃ xs x,SqT K H a xs∧xs[i]? = some x,fun i H x H'=>H'=H∧∀ xs,SqT K H a xs→xs[i]? = some x,fun i H=>∃ xs,SqT K H a xs∧xs.length≤i⟩
def Itr (lo:Int) (n:Nat):It:=⟨fun i _=>i<n,fun i H x H'=>H'=H∧x = .int (lo+i),fun i _=>n≤i⟩
theorem zid {P:Program} {w:World} {K:PySem.W.Frag} {tg:Expr} (a it:Addr):Turn P w K tg (Itl K a) [it] it (fun i h=>h.IsListIter it a i) where
 mem:=by simp
 obj:=fun i h st b hb=>by
  have e:b=it:=by simpa using hb
  subst e
  obtain ⟨o,e,c,d⟩:=st
  exact ⟨o,e,fun v z=>by rw [d] at z;cases z⟩
 keep:=fun i h h' st k=>st.at fun o e=>k it (by simp) o e
 item:=by
  intro X hP hw hK hc i pins s σ H E I hf st hg
  subst hP hw hK
  obtain ⟨xs,x,hq,hx⟩:=hg
  obtain ⟨its,rv,p,hz⟩:=I.list hq
  obtain ⟨u,hu,ru⟩:=rv.get hx
  obtain ⟨f0,f1,f2,f3,f4,f5⟩:=hf it (by simp)
  refine wpAny_pyNext_list_item st p.isList (x:=u) (by simpa using hu) fun h' st' sb=>?_
  have I1:Inv X pins σ H { s with heap:=h' }:=I.turned (t':=s.toks) (fun b o hb e=>(sb.2 b hb).trans e) f0 f1 f3 f4 f5
  obtain ⟨o,e,c,d⟩:=id st'
  exact ⟨u,rfl,zlW (s:={ s with heap:=h' }) e c d (by decide) ⟨x,H,I1,ru,⟨rfl,fun ys hy=>by rw [I.list_inj hy hq];exact hx⟩,st',fun b hb=>(hf b hb).1⟩⟩
 done:=by
  intro X hP hw hK hc i pins s σ H E I hf st hg
  subst hP hw hK
  obtain ⟨xs,hq,hx⟩:=hg
  obtain ⟨its,rv,p,hz⟩:=I.list hq
  obtain ⟨f0,f1,f2,f3,f4,f5⟩:=hf it (by simp)
  have hl:=rv.length
  exact wpAny_pyNext_list_end (I.ok.hd hc) st p.isList (by simp;omega) fun h' eb=>⟨rfl,I.turned (t':=s.toks) (fun b o hb e=>eb b o hb e) f0 f1 f3 f4 f5⟩
 self:=fun _ _ _ _ _ st h=>wpAny_pyIter_listiter st h
theorem zhz {P:Program} {w:World} {K:PySem.W.Frag} {tg:Expr} (a it:Addr):Turn P w K tg (Itt K a) [it] it (fun i h=>h.IsTupleIter it a i) where
 mem:=by simp
 obj:=fun i h st b hb=>by
  have e:b=it:=by simpa using hb
  subst e
  obtain ⟨o,e,c,d⟩:=st
  exact ⟨o,e,fun v z=>by rw [d] at z;cases z⟩
 keep:=fun i h h' st k=>st.at fun o e=>k it (by simp) o e
 item:=by
  intro X hP hw hK hc i pins s σ H E I hf st hg
  subst hP hw hK
  obtain ⟨xs,x,hq,hx⟩:=hg
  obtain ⟨its,rv,p,hz⟩:=I.tuple hq
  obtain ⟨u,hu,ru⟩:=rv.get hx
  obtain ⟨f0,f1,f2,f3,f4,f5⟩:=hf it (by simp)
  refine wpAny_pyNext_tuple_item st (show s.heap.IsTuple a its.toArray from p) (x:=u) (by simpa using hu) fun h' st' sb=>?_
  have I1:Inv X pins σ H { s with heap:=h' }:=I.turned (t':=s.toks) (fun b o hb e=>(sb.2 b hb).trans e) f0 f1 f3 f4 f5
  obtain ⟨o,e,c,d⟩:=id st'
  exact ⟨u,rfl,zlW (s:={ s with heap:=h' }) e c d (by decide) ⟨x,H,I1,ru,⟨rfl,fun ys hy=>by rw [I.tuple_inj hy hq];exact hx⟩,st',fun b hb=>(hf b hb).1⟩⟩
 done:=by
  intro X hP hw hK hc i pins s σ H E I hf st hg
  subst hP hw hK
  obtain ⟨xs,hq,hx⟩:=hg
  obtain ⟨its,rv,p,hz⟩:=I.tuple hq
  obtain ⟨f0,f1,f2,f3,f4,f5⟩:=hf it (by simp)
  have hl:=rv.length
  exact wpAny_pyNext_tuple_end (I.ok.hd hc) st (show s.heap.IsTuple a its.toArray from p) (by simp;omega) fun h' eb=>⟨rfl,I.turned (t':=s.toks) (fun b o hb e=>eb b o hb e) f0 f1 f3 f4 f5⟩
 self:=fun _ _ _ _ _ st h=>wpAny_pyIter_tupleiter st h
theorem zhA {P:Program} {w:World} {K:PySem.W.Frag} {tg:Expr} (it:Addr) (lo:Int) (n:Nat):Turn P w K tg (Itr lo n) [it] it (fun i h=>IsRangeIter h it (lo+(i:Nat) * 1) ((n:Int) - (i:Nat)) 1) where
 mem:=by simp
 obj:=fun i h st b hb=>by
  have e:b=it:=by simpa using hb
  subst e
  exact ⟨_,st,fun v z=>by
   have z':Data.fields _=Data.cell v:=z
   cases z'⟩
 keep:=fun i h h' st k=>k it (by simp) _ st
 item:=by
  intro X hP hw hK hc i pins s σ H E I hf st hg
  subst hP hw hK
  obtain ⟨f0,f1,f2,f3,f4,f5⟩:=hf it (by simp)
  have W:=Walks.range (prog:=X.prog) (w:=X.w) (I.ok.hd hc) it lo 1 n
  refine W.item i s _ _ hg st fun v h' tk hv st' kk=>?_
  obtain ⟨t,rfl⟩:=hv
  have I1:Inv X pins σ H { s with heap:=h',toks:=tk }:=I.turned (fun b o hb e=>kk b o (by simpa using hb) e) f0 f1 f3 f4 f5
  refine ⟨_,rfl,zlW (s:={ s with heap:=h',toks:=tk }) (n := "range_iterator") st' rfl rfl (by decide) ⟨.int (lo+i),H,I1,⟨t,?_⟩,⟨rfl,rfl⟩,st',fun b hb=>(hf b hb).1⟩⟩
  rw [Int.mul_one]
 done:=by
  intro X hP hw hK hc i pins s σ H E I hf st hg
  subst hP hw hK
  obtain ⟨f0,f1,f2,f3,f4,f5⟩:=hf it (by simp)
  exact wpAny_pyNext_range_end (I.ok.hd hc) st (by have:n≤i:=hg;omega) fun h' eb=>⟨rfl,I.turned (t':=s.toks) (fun b o hb e=>eb b o hb e) f0 f1 f3 f4 f5⟩
 self:=fun _ _ _ _ _ st h=>wpAny_pyIter_rangeiter st h
end L2
namespace L2
open PySem PySem.Spec PyProof.Rows
section
variable {X:Cx} {tg:Expr}
def iList (K:PySem.W.Frag) (tl:TE):TI:=fun σ H R=>tl σ H fun x H1=>∃ a,x = .ref a∧(∃ xs,SqL K H1 a xs)∧R (Itl K a) H1
def iTup (K:PySem.W.Frag) (tl:TE):TI:=fun σ H R=>tl σ H fun x H1=>∃ a,x = .ref a∧(∃ xs,SqT K H1 a xs)∧R (Itt K a) H1
theorem zdX {l:Expr} {tl:TE} (hl:PE X l tl):PI X tg l (iList X.K tl):=by
 intro pins s σ H R I h
 refine thn (hl pins s σ H _ I h) fun v s1 ⟨x,H1,I1,r1,q1⟩=>?_
 obtain ⟨a,e,⟨xs,hq⟩,q⟩:=q1
 subst e
 cases r1
 obtain ⟨its,rv,p,hz⟩:=I1.list hq
 refine wpAny_pyIter_list p.isList ?_
 refine ⟨s1.heap.objs.size,[s1.heap.objs.size],_,_,H1,rfl,I1.kept (t':=s1.toks) fun b o e=>Heap.get?_push_of_some _ e,zid a _,⟨_,Heap.get?_push_size _ rfl,rfl,rfl⟩,fun b hb=>?_,q⟩
 have e:b=s1.heap.objs.size:=by simpa using hb
 subst e
 exact I1.fpOk (Nat.le_refl _) (I1.hok.fresh (Nat.le_refl _))
theorem ziP {l:Expr} {tl:TE} (hl:PE X l tl):PI X tg l (iTup X.K tl):=by
 intro pins s σ H R I h
 refine thn (hl pins s σ H _ I h) fun v s1 ⟨x,H1,I1,r1,q1⟩=>?_
 obtain ⟨a,e,⟨xs,hq⟩,q⟩:=q1
 subst e
 cases r1
 obtain ⟨its,rv,p,hz⟩:=I1.tuple hq
 refine wpAny_pyIter_tuple (show s1.heap.IsTuple a its.toArray from p) ?_
 refine ⟨s1.heap.objs.size,[s1.heap.objs.size],_,_,H1,rfl,I1.kept (t':=s1.toks) fun b o e=>Heap.get?_push_of_some _ e,zhz a _,⟨_,Heap.get?_push_size _ rfl,rfl,rfl⟩,fun b hb=>?_,q⟩
 have e:b=s1.heap.objs.size:=by simpa using hb
 subst e
 exact I1.fpOk (Nat.le_refl _) (I1.hok.fresh (Nat.le_refl _))
theorem zj6 {pins:List (Addr×Obj)} {σ:St} {H:Hp} {s:Shared} {R:It→Hp→Prop} {E:Value→Shared→Prop} {lo hi:Int} {t u v:Tok} {tk:Nat} (I:Inv X pins σ H s) (h1:-(2 ^ 62)≤lo) (h2:lo<2 ^ 62) (h3:-(2 ^ 62)≤hi) (h4:hi<2 ^ 62)
  (q:R (Itr lo (hi - lo).toNat) H):wpAny (model X.prog X.w) X.A (pyIter (.ref s.heap.objs.size)) (PIE X pins σ tg R) E { s with heap:=s.heap.push { cls:=.type "range",data:=.fields #[.int lo t,.int hi u,.int 1 v] },toks:=tk }:=by
 refine wpAny_pyIter_range (IsRange.new ..) (small_one h1 h2 h3 h4) ?_
 have I1:Inv X pins σ H { s with heap:=s.heap.push { cls:=.type "range",data:=.fields #[.int lo t,.int hi u,.int 1 v] },toks:=tk }:=I.kept fun b o e=>Heap.get?_push_of_some _ e
 refine ⟨(s.heap.push { cls:=.type "range",data:=.fields #[.int lo t,.int hi u,.int 1 v] }).objs.size,[(s.heap.push { cls:=.type "range",data:=.fields #[.int lo t,.int hi u,.int 1 v] }).objs.size],_,_,H,rfl,
  I1.kept (t':=tk) fun b o e=>Heap.get?_push_of_some _ e,zhA _ lo (hi - lo).toNat,?_,fun b hb=>?_,q⟩
 ·have e1:lo+((0:Nat):Int) * 1=lo:=by simp
  have e2:(((hi - lo).toNat:Nat):Int) - ((0:Nat):Int)=Builtin.Range.rangeSize lo hi 1:=by rw [rangeSize_one];split <;> omega
  show IsRangeIter _ _ (lo+((0:Nat):Int) * 1) ((((hi - lo).toNat:Nat):Int) - ((0:Nat):Int)) 1
  rw [e1,e2]
  exact Heap.get?_push_size _ rfl
 ·have e:b=(s.heap.push { cls:=.type "range",data:=.fields #[.int lo t,.int hi u,.int 1 v] }).objs.size:=by simpa using hb
  subst e
  exact I1.fpOk (Nat.le_refl _) (I1.hok.fresh (Nat.le_refl _))
def iRng1 (ta:TA):TI:=fun σ H R=>ta σ H fun vs H1=>∃ j:Int,vs=[.int j]∧-(2 ^ 62)≤j∧j<2 ^ 62∧R (Itr 0 j.toNat) H1
theorem za2 {a:Expr} {ta:TA} {p pos:Pos} (hg:Gl X "range") (hm:X.mg "range" = none) (ha:PA X [a] ta) (hs:starEach [a] X.env=[(false,eval a X.env)]:=by rfl):PI X tg (.Call (.Name "range" p) [a] [] pos) (iRng1 ta):=by
 intro pins s σ H R I h
 refine Call_ (zc1 I hg hm boot_range (PyProof.Rows.callWith_type1 (thn (ha pos pins s σ H _ I h) fun us s1 ⟨vs,H1,I1,r1,q1⟩=>?_) hs rfl))
 obtain ⟨j,e,q1,q2,q⟩:=q1
 subst e
 cases r1 with
 | cons r rr =>
  cases rr
  obtain ⟨t,rfl⟩:=r
  exact call_range_1 (zj6 I1 (by omega) (by omega) q1 q2 (by simpa using q))
def tFor (wi:TI) (g:TG) (tb:TS):TS:=fun D σ H=>wi σ H fun J H1=>∃ W:Nat→Nat→St→Hp→Prop,(∃ m,W 0 m σ H1)∧∀ i m σ H,W i m σ H →
 (J.stop i H∧D.nx σ H)∨(J.go i H∧∃ N:St→Hp→Prop,(∀ σ' H',N σ' H'→∃ m',m'<m∧W (i+1) m' σ' H')∧∀ x H',J.yld i H x H'→g x σ H' fun σ2 H2=>tb { D with nx:=N,ct:=N,bk:=D.nx } σ2 H2)
def zey (fp:List Addr) (h:Heap):List (Addr×Obj):=fp.filterMap fun b=>(h.get? b).map fun o=>(b,o)
theorem zbh {fp:List Addr} {h:Heap} {b:Addr} {o:Obj} (hb:b∈fp) (e:h.get? b=some o):(b,o)∈zey fp h:=List.mem_filterMap.mpr ⟨b,hb,by rw [e];rfl⟩
theorem zi1 {fp:List Addr} {h:Heap} {p:Addr×Obj} (hp:p∈zey fp h):p.1∈fp∧h.get? p.1=some p.2:=by
 obtain ⟨b,hb,e⟩:=List.mem_filterMap.mp hp
 cases q:h.get? b with
 | none=>rw [q] at e;cases e
 | some o =>
  rw [q] at e
  have e':(b,o)=p:=Option.some.inj e
  subst e'
  exact ⟨hb,q⟩
theorem Inv.pinned {pins:List (Addr×Obj)} {σ:St} {H:Hp} {s:Shared} {fp:List Addr} (I:Inv X pins σ H s) (hf:∀ b∈fp,FpOk X pins H b) (ho:∀ b∈fp,∃ o,s.heap.get? b=some o∧∀ v,o.data≠.cell v):Inv X (pins ++ zey fp s.heap) σ H s:=
 I.pins_of fun p hp=>(List.mem_append.mp hp).elim (fun z=>I.pin p (List.mem_append_right _ z)) fun z=>by
  obtain ⟨hb,e⟩:=zi1 z
  obtain ⟨f0,f1,f2,_⟩:=hf p.1 hb
  obtain ⟨o,e',d⟩:=ho p.1 hb
  rw [e] at e';cases e'
  exact ⟨e,f0,f1,f2,d⟩
theorem Inv.unpinned {pins pl:List (Addr×Obj)} {σ:St} {H:Hp} {s:Shared} (I:Inv X (pins ++ pl) σ H s):Inv X pins σ H s:=I.pins_of fun p hp=>I.pin p (List.mem_append_right _ (List.mem_append_left _ hp))
theorem zbr {iter:Expr} {body:List Stmt} {wi:TI} {g:TG} {tb:TS} {pos:Pos} (hp:PassesOwn (model X.prog X.w) X.A X.env X.xe) (hc:X.calm=true) (hi:PI X tg iter wi) (hg:PG X tg g) (hb:PSs X body tb)
  (hs:∀ x,foldedSetIterable iter X.env x=pure x:=by intro _;rfl):PS X (.For tg iter body [] pos) (tFor wi g tb):=by
 intro pins s σ H D I h
 refine wpAny_For (thn (hi pins s σ H _ I h) fun v s1 h1=>thn h1 fun itv s2 h2=>?_) hs
 obtain ⟨it,fp,tn,J,H2,e,I2,T,st2,f2,W,⟨m0,w0⟩,turn⟩:=h2
 subst e
 
 have stat:∀ {H':Hp},(∀ b∈fp,H' b=none)→∀ b∈fp,FpOk X pins H' b:=fun hn b hb=>⟨hn b hb,(f2 b hb).2⟩
 refine codeAny_forLoop_any (fun n s'=>∃ i σ' H',Inv X pins σ' H' s'∧tn i s'.heap∧(∀ b∈fp,H' b=none)∧W i n σ' H') ?_ m0 ⟨0,σ,H2,I2,st2,fun b hb=>(f2 b hb).1,w0⟩
 rintro n s3 ⟨i,σ3,H3,I3,st3,fr3,w3⟩
 rcases turn i n σ3 H3 w3 with ⟨stop,qn⟩ | ⟨go,N,hN,step⟩
 ·refine wpAny_passesOwn hp (thn (T.done X rfl rfl rfl hc i pins s3 σ3 H3 X.xe I3 (stat fr3) st3 stop) fun r s4 ⟨hr,I4⟩=>?_)
  subst hr
  exact wpAny_execs_nil ⟨σ3,H3,I4,qn⟩
 ·refine wpAny_passesOwn hp (thn (T.item X rfl rfl rfl hc i pins s3 σ3 H3 X.xe I3 (stat fr3) st3 go) fun r s4 ⟨u,hr,h4⟩=>?_)
  subst hr
  refine wpAny_passesOwn hp (thn h4 fun _ s5 ⟨x,H5,I5,r5,y5,st5,fr5⟩=>?_)
  have I5':=I5.pinned (stat fr5) (T.obj _ _ st5)
  refine wpAny_passesOwn hp (thn (hg _ s5 σ3 H5 x u _ I5' r5 (step x H5 y5)) fun _ s6 ⟨σ6,H6,I6,q6⟩=>?_)
  refine wpAny_passesOwn hp (thn (hb _ s6 σ6 H6 _ I6 q6) fun f s7 q7=>?_)
  have again:∀ {σ7:St} {H7:Hp},Inv X (pins ++ zey fp s5.heap) σ7 H7 s7→N σ7 H7→∃ m,m<n∧∃ i σ' H',Inv X pins σ' H' s7∧tn i s7.heap∧(∀ b∈fp,H' b=none)∧W i m σ' H':=fun {σ7 H7} I7 n7=>by
   obtain ⟨m',hm,w7⟩:=hN σ7 H7 n7
   refine ⟨m',hm,i+1,σ7,H7,I7.unpinned,T.keep _ _ _ st5 fun b hb o e=>(I7.pin (b,o) (List.mem_append_right _ (List.mem_append_right _ (zbh hb e)))).1,fun b hb=>?_,w7⟩
   obtain ⟨o,e,d⟩:=T.obj _ _ st5 b hb
   exact (I7.pin (b,o) (List.mem_append_right _ (List.mem_append_right _ (zbh hb e)))).2.1
  cases f with
  | next=>obtain ⟨σ7,H7,I7,n7⟩:=q7;exact again I7 n7
  | cont=>obtain ⟨σ7,H7,I7,n7⟩:=q7;exact again I7 n7
  | brk=>obtain ⟨σ7,H7,I7,q7⟩:=q7;exact ⟨σ7,H7,I7.unpinned,q7⟩
  | ret v=>obtain ⟨x7,σ7,H7,I7,r7,q7⟩:=q7;exact ⟨x7,σ7,H7,I7.unpinned,r7,q7⟩
end
theorem zfe {K:PySem.W.Frag} {a:Addr} {xs:List V} {g:TG} {tb:TS} {D:Ends} {σ:St} {H:Hp} (Pv:Nat→St→Hp→Prop) (h0:Pv 0 σ H) (hl:∀ i σ H,i≤xs.length→Pv i σ H→SqL K H a xs)
  (hs:∀ i x σ H,xs[i]? = some x→Pv i σ H→g x σ H fun σ2 H2=>tb { D with nx:=Pv (i+1),ct:=Pv (i+1),bk:=D.nx } σ2 H2) (hd:∀ σ H,Pv xs.length σ H→D.nx σ H) :
  ∃ W:Nat→Nat→St→Hp→Prop,(∃ m,W 0 m σ H)∧∀ i m σ H,W i m σ H →
   ((Itl K a).stop i H∧D.nx σ H)∨((Itl K a).go i H∧∃ N:St→Hp→Prop,(∀ σ' H',N σ' H'→∃ m',m'<m∧W (i+1) m' σ' H')∧∀ x H',(Itl K a).yld i H x H'→g x σ H' fun σ2 H2=>tb { D with nx:=N,ct:=N,bk:=D.nx } σ2 H2):=by
 refine ⟨fun i m σ H=>m=xs.length - i∧i≤xs.length∧Pv i σ H,⟨xs.length,by simp,Nat.zero_le _,h0⟩,?_⟩
 rintro i m σ H ⟨rfl,hi,p⟩
 have q:=hl i σ H hi p
 by_cases hlt:i<xs.length
 ·refine .inr ⟨⟨xs,xs[i],q,by simp [hlt]⟩,Pv (i+1),fun σ' H' p'=>⟨xs.length - (i+1),by omega,rfl,hlt,p'⟩,fun x H' y=>?_⟩
  obtain ⟨e,y⟩:=y
  subst e
  exact hs i x σ _ (y xs q) p
 ·have e:i=xs.length:=by omega
  subst e
  exact .inl ⟨⟨xs,q,Nat.le_refl _⟩,hd σ H p⟩
theorem zl1 {K:PySem.W.Frag} {a:Addr} {xs:List V} {g:TG} {tb:TS} {D:Ends} {σ:St} {H:Hp} (Pv:Nat→St→Hp→Prop) (h0:Pv 0 σ H) (hl:∀ i σ H,i≤xs.length→Pv i σ H→SqT K H a xs)
  (hs:∀ i x σ H,xs[i]? = some x→Pv i σ H→g x σ H fun σ2 H2=>tb { D with nx:=Pv (i+1),ct:=Pv (i+1),bk:=D.nx } σ2 H2) (hd:∀ σ H,Pv xs.length σ H→D.nx σ H) :
  ∃ W:Nat→Nat→St→Hp→Prop,(∃ m,W 0 m σ H)∧∀ i m σ H,W i m σ H →
   ((Itt K a).stop i H∧D.nx σ H)∨((Itt K a).go i H∧∃ N:St→Hp→Prop,(∀ σ' H',N σ' H'→∃ m',m'<m∧W (i+1) m' σ' H')∧∀ x H',(Itt K a).yld i H x H'→g x σ H' fun σ2 H2=>tb { D with nx:=N,ct:=N,bk:=D.nx } σ2 H2):=by
 refine ⟨fun i m σ H=>m=xs.length - i∧i≤xs.length∧Pv i σ H,⟨xs.length,by simp,Nat.zero_le _,h0⟩,?_⟩
 rintro i m σ H ⟨rfl,hi,p⟩
 have q:=hl i σ H hi p
 by_cases hlt:i<xs.length
 ·refine .inr ⟨⟨xs,xs[i],q,by simp [hlt]⟩,Pv (i+1),fun σ' H' p'=>⟨xs.length - (i+1),by omega,rfl,hlt,p'⟩,fun x H' y=>?_⟩
  obtain ⟨e,y⟩:=y
  subst e
  exact hs i x σ _ (y xs q) p
 ·have e:i=xs.length:=by omega
  subst e
  exact .inl ⟨⟨xs,q,Nat.le_refl _⟩,hd σ H p⟩
theorem zca {lo:Int} {n:Nat} {g:TG} {tb:TS} {D:Ends} {σ:St} {H:Hp} (Pv:Nat→St→Hp→Prop) (h0:Pv 0 σ H)
  (hs:∀ i σ H,i<n→Pv i σ H→g (.int (lo+i)) σ H fun σ2 H2=>tb { D with nx:=Pv (i+1),ct:=Pv (i+1),bk:=D.nx } σ2 H2) (hd:∀ σ H,Pv n σ H→D.nx σ H) :
  ∃ W:Nat→Nat→St→Hp→Prop,(∃ m,W 0 m σ H)∧∀ i m σ H,W i m σ H →
   ((Itr lo n).stop i H∧D.nx σ H)∨((Itr lo n).go i H∧∃ N:St→Hp→Prop,(∀ σ' H',N σ' H'→∃ m',m'<m∧W (i+1) m' σ' H')∧∀ x H',(Itr lo n).yld i H x H'→g x σ H' fun σ2 H2=>tb { D with nx:=N,ct:=N,bk:=D.nx } σ2 H2):=by
 refine ⟨fun i m σ H=>m=n - i∧i≤n∧Pv i σ H,⟨n,by simp,Nat.zero_le _,h0⟩,?_⟩
 rintro i m σ H ⟨rfl,hi,p⟩
 by_cases hlt:i<n
 ·refine .inr ⟨hlt,Pv (i+1),fun σ' H' p'=>⟨n - (i+1),by omega,rfl,hlt,p'⟩,fun x H' y=>?_⟩
  obtain ⟨e,y⟩:=y
  subst e y
  exact hs i σ _ hlt p
 ·have e:i=n:=by omega
  subst e
  exact .inl ⟨Nat.le_refl _,hd σ H p⟩
theorem zeI {c:TT} {tb:TS} {D:Ends} {σ:St} {H:Hp} (Pv:St→Hp→Prop) (μ:St→Hp→Nat) (h0:Pv σ H)
  (hs:∀ σ H,Pv σ H→c σ H fun b H1=>if b=true then tb { D with nx:=fun σ' H'=>Pv σ' H'∧μ σ' H'<μ σ H,ct:=fun σ' H'=>Pv σ' H'∧μ σ' H'<μ σ H,bk:=D.nx } σ H1 else D.nx σ H1)
  (mono:∀ σ H Q Q',(∀ b H1,Q b H1→Q' b H1)→c σ H Q→c σ H Q'):zkR c tb D σ H:=by
 refine ⟨fun m σ H=>m=μ σ H∧Pv σ H,⟨_,rfl,h0⟩,?_⟩
 rintro m σ H ⟨rfl,p⟩
 refine mono σ H _ _ (fun b H1 q=>?_) (hs σ H p)
 cases b with
 | true=>exact ⟨_,fun σ' H' ⟨p',l⟩=>⟨_,l,rfl,p'⟩,q⟩
 | false=>exact q
end L2
namespace L2
open PySem PySem.Spec PyProof.Rows
abbrev R2:=V→V→Hp→VK→Prop
def OpR (X:Cx) (f:Value→Value→Sem Value) (r:R2):Prop:=
 ∀ (pins:List (Addr×Obj)) (s:Shared) (σ:St) (H:Hp) (x y:V) (v u:Value) (Q:VK),Inv X pins σ H s→RelV x v→RelV y u→r x y H Q →
  wpAny (model X.prog X.w) X.A (f v u) (EP X pins σ Q) X.xe s
def UnR (X:Cx) (f:Value→Sem Value) (r:V→Hp→VK→Prop):Prop:=
 ∀ (pins:List (Addr×Obj)) (s:Shared) (σ:St) (H:Hp) (x:V) (v:Value) (Q:VK),Inv X pins σ H s→RelV x v→r x H Q →
  wpAny (model X.prog X.w) X.A (f v) (EP X pins σ Q) X.xe s
def zcu (X:Cx) (f:Value) (r:List V→Hp→VK→Prop):Prop:=
 ∀ (pins:List (Addr×Obj)) (s:Shared) (σ:St) (H:Hp) (xs:List V) (us:List Value) (Q:VK),Inv X pins σ H s→Vals xs us→r xs H Q →
  wpAny (model X.prog X.w) X.A (call f us) (EP X pins σ Q) X.xe s
def TruR (X:Cx) (r:V→Hp→(Bool→Hp→Prop)→Prop):Prop:=
 ∀ (pins:List (Addr×Obj)) (s:Shared) (σ:St) (H:Hp) (x:V) (v:Value) (Q:Bool→Hp→Prop),Inv X pins σ H s→RelV x v→r x H Q →
  wpAny (model X.prog X.w) X.A (truthy v) (TP X pins σ Q) X.xe s
def tOp (r:R2) (ta tb:TE):TE:=fun σ H Q=>ta σ H fun x H1=>tb σ H1 fun y H2=>r x y H2 Q
def tUn (r:V→Hp→VK→Prop) (ta:TE):TE:=fun σ H Q=>ta σ H fun x H1=>r x H1 Q
def rI (C:Int→Int→Prop) (g:Int→Int→V):R2:=fun x y H Q=>∃ i j,x = .int i∧y = .int j∧C i j∧Q (g i j) H
def rI0 (g:Int→Int→V):R2:=fun x y H Q=>∃ i j,x = .int i∧y = .int j∧Q (g i j) H
def rU (g:Int→V):V→Hp→VK→Prop:=fun x H Q=>∃ i,x = .int i∧Q (g i) H
section
variable {X:Cx} {a b c:Expr} {ta tb tc:TE} {pos:Pos}
theorem binT (ha:PE X a ta) (hb:PE X b tb) {pins:List (Addr×Obj)} {s:Shared} {σ:St} {H:Hp} {R:V→V→Hp→Prop} (I:Inv X pins σ H s)
  (h:ta σ H fun x H1=>tb σ H1 fun y H2=>R x y H2) {Q:Value→Shared→Prop} {f:Value→Value→Sem Value}
  (hf:∀ v u s2 x y H2,Inv X pins σ H2 s2→RelV x v→RelV y u→R x y H2→wpAny (model X.prog X.w) X.A (f v u) Q X.xe s2) :
  wpAny (model X.prog X.w) X.A (eval a X.env) (fun v s₁=>wpAny (model X.prog X.w) X.A (eval b X.env) (fun u s₂=>wpAny (model X.prog X.w) X.A (f v u) Q X.xe s₂) X.xe s₁) X.xe s:=by
 refine thn (ha pins s σ H _ I h) fun v s1 ⟨x,H1,I1,r1,q1⟩=>?_
 refine thn (hb pins s1 σ H1 _ I1 q1) fun u s2 ⟨y,H2,I2,r2,q2⟩=>?_
 exact hf v u s2 x y H2 I2 r1 r2 q2
theorem zan {op:Operator} {r:R2} (ho:OpR X (binaryOp op) r) (ha:PE X a ta) (hb:PE X b tb):PE X (.BinOp a op b pos) (tOp r ta tb):=by
 intro pins s σ H Q I h
 exact wpAny_BinOp (binT ha hb I h fun v u s2 x y H2 I2 rx ry q=>ho pins s2 σ H2 x y v u Q I2 rx ry q)
theorem pe_un {op:UnaryOp} {r:V→Hp→VK→Prop} (ho:UnR X (unaryOp op) r) (ha:PE X a ta):PE X (.UnaryOp op a pos) (tUn r ta):=by
 intro pins s σ H Q I h
 exact UnaryOp_ (thn (ha pins s σ H _ I h) fun v s1 ⟨x,H1,I1,r1,q1⟩=>ho pins s1 σ H1 x v Q I1 r1 q1)
theorem opI {f:Value→Value→Sem Value} {C:Int→Int→Prop} {g:Int→Int→Int}
  (rule:∀ (i j:Int) (t u:Tok) (s:Shared) (Q:Value→Shared→Prop) (E:Value→Shared→Prop),C i j→Q (.int (g i j) s.toks) { s with toks:=s.toks+1 }→wpAny (model X.prog X.w) X.A (f (.int i t) (.int j u)) Q E s) :
  OpR X f (rI C fun i j=>.int (g i j)):=by
 intro pins s σ H x y v u Q I rx ry h
 obtain ⟨i,j,rfl,rfl,hc,q⟩:=h
 obtain ⟨t,rfl⟩:=rx
 obtain ⟨t',rfl⟩:=ry
 exact rule i j t t' s _ _ hc ⟨.int (g i j),H,I.tok _,⟨_,rfl⟩,q⟩
theorem opI0 {f:Value→Value→Sem Value} {g:Int→Int→Int}
  (rule:∀ (i j:Int) (t u:Tok) (s:Shared) (Q:Value→Shared→Prop) (E:Value→Shared→Prop),Q (.int (g i j) s.toks) { s with toks:=s.toks+1 }→wpAny (model X.prog X.w) X.A (f (.int i t) (.int j u)) Q E s) :
  OpR X f (rI0 fun i j=>.int (g i j)):=by
 intro pins s σ H x y v u Q I rx ry h
 obtain ⟨i,j,rfl,rfl,q⟩:=h
 obtain ⟨t,rfl⟩:=rx
 obtain ⟨t',rfl⟩:=ry
 exact rule i j t t' s _ _ ⟨.int (g i j),H,I.tok _,⟨_,rfl⟩,q⟩
theorem opB0 {f:Value→Value→Sem Value} {g:Int→Int→Bool}
  (rule:∀ (i j:Int) (t u:Tok) (s:Shared) (Q:Value→Shared→Prop) (E:Value→Shared→Prop),Q (.bool (g i j)) s→wpAny (model X.prog X.w) X.A (f (.int i t) (.int j u)) Q E s) :
  OpR X f (rI0 fun i j=>.bl (g i j)):=by
 intro pins s σ H x y v u Q I rx ry h
 obtain ⟨i,j,rfl,rfl,q⟩:=h
 obtain ⟨t,rfl⟩:=rx
 obtain ⟨t',rfl⟩:=ry
 exact rule i j t t' s _ _ ⟨.bl (g i j),H,I,rfl,q⟩
def CPow (i j:Int):Prop:=0≤j∧j≤1000000∧i.natAbs<2 ^ 64
theorem zbd:OpR X (binaryOp .Add) (rI0 fun i j=>.int (i+j)):=opI0 fun _ _ _ _ _ _ _ q=>add_int q
theorem zb5:OpR X (binaryOp .Sub) (rI0 fun i j=>.int (i - j)):=opI0 fun _ _ _ _ _ _ _ q=>sub_int q
theorem zaC:OpR X (binaryOp .Mod) (rI (fun _ j=>0<j) fun i j=>.int (i % j)):=opI fun i j _ _ _ _ _ hc q=>by
 have h1:(0:Int)<j:=hc
 exact mod_int' (by omega) (by rw [Int.fmod_eq_emod_of_nonneg i (by omega)];exact q)
theorem zhh:OpR X (binaryOp .Pow) (rI CPow fun i j=>.int (i ^ j.toNat)):=opI fun _ _ _ _ _ _ _ hc q=>pow_int_small hc.1 hc.2.1 hc.2.2 q
theorem zbR:OpR X (binaryOp .LShift) (rI CPow fun i j=>.int (i * 2 ^ j.toNat)):=opI fun _ _ _ _ _ _ _ hc q=>lshift_int_small hc.1 hc.2.1 hc.2.2 q
theorem zbS:OpR X (binaryOp .BitAnd) (rI0 fun i j=>.int (Builtin.bitAnd i j)):=opI0 fun _ _ _ _ _ _ _ q=>and_int q
theorem zhJ:OpR X (binaryOp .BitOr) (rI0 fun i j=>.int (Builtin.bitOr i j)):=opI0 fun _ _ _ _ _ _ _ q=>or_int q
theorem zk1:OpR X (binaryOp .BitXor) (rI0 fun i j=>.int (Builtin.bitXor i j)):=opI0 fun _ _ _ _ _ _ _ q=>xor_int q
theorem zgW:OpR X (inplaceOp .Add) (rI0 fun i j=>.int (i+j)):=opI0 fun _ _ _ _ _ _ _ q=>iadd_int q
theorem unI {f:Value→Sem Value} {g:Int→Int}
  (rule:∀ (i:Int) (t:Tok) (s:Shared) (Q:Value→Shared→Prop) (E:Value→Shared→Prop),Q (.int (g i) s.toks) { s with toks:=s.toks+1 }→wpAny (model X.prog X.w) X.A (f (.int i t)) Q E s) :
  UnR X f (rU fun i=>.int (g i)):=by
 intro pins s σ H x v Q I rx h
 obtain ⟨i,rfl,q⟩:=h
 obtain ⟨t,rfl⟩:=rx
 exact rule i t s _ _ ⟨.int (g i),H,I.tok _,⟨_,rfl⟩,q⟩
theorem un_neg:UnR X (unaryOp .USub) (rU fun i=>.int (-i)):=unI fun _ _ _ _ _ q=>neg_int q
end
def scal:V→V→Bool
 | .non,.non=>true | .non,.int _=>true | .int _,.non=>true | .non,.bl _=>true | .bl _,.non=>true | .non,.str _=>true | .str _,.non=>true
 | .int _,.int _=>true | .bl _,.bl _=>true | .str _,.str _=>true | .byt _,.byt _=>true
 | .int _,.str _=>true | .str _,.int _=>true | .bl _,.str _=>true | .str _,.bl _=>true
 | _,_=>false
def rEq:R2:=fun x y H Q=>scal x y=true∧Q (.bl (decide (x=y))) H
def rNe:R2:=fun x y H Q=>scal x y=true∧Q (.bl (!decide (x=y))) H
theorem zjp {i j:Int}:decide (V.int i=V.int j)=(i == j):=by
 rw [Bool.eq_iff_iff]
 simp
theorem zld {i j:Bool}:decide (V.bl i=V.bl j)=(i == j):=by
 rw [Bool.eq_iff_iff]
 simp
theorem zjo {i j:Str}:decide (V.str i=V.str j)=(i == j):=by
 rw [Bool.eq_iff_iff]
 simp
theorem zjq {i j:Array UInt8}:decide (V.byt i=V.byt j)=(i.toList == j.toList):=by
 rw [Bool.eq_iff_iff]
 cases i
 cases j
 simp
section
variable {X:Cx} {a b c:Expr} {ta tb tc:TE} {pos:Pos}
theorem zaG {pins:List (Addr×Obj)} {σ:St} {H:Hp} {s:Shared} {Q:VK} {k k':Bool} (I:Inv X pins σ H s) (q:Q (.bl k) H) (e:k=k'):EP X pins σ Q (.bool k') s:=by
 subst e
 exact ⟨.bl k,H,I,rfl,q⟩
theorem zb6:OpR X (compareOp .Eq) rEq:=by
 intro pins s σ H x y v u Q I rx ry h
 obtain ⟨hs,q⟩:=h
 cases x with
 | non =>
  cases rx
  cases y with
  | non=>cases ry;exact PySem.EqNone.eq_none_none (zaG I q (by simp))
  | bl j=>cases ry;exact PySem.EqNone.eq_none_bool (zaG I q (by simp))
  | int j=>obtain ⟨t',rfl⟩:=ry;exact PySem.EqNone.eq_none_int (zaG I q (by simp))
  | str j=>obtain ⟨t',rfl⟩:=ry;exact PySem.EqNone.eq_none_str (zaG I q (by simp))
  | _=>exact absurd (show false=true from hs) Bool.false_ne_true
 | bl i =>
  cases rx
  cases y with
  | non=>cases ry;exact PySem.EqNone.eq_bool_none (zaG I q (by simp))
  | bl j=>cases ry;exact eq_bool (zaG I q zld)
  | str j=>obtain ⟨t',rfl⟩:=ry;exact PySem.EqMixed.eq_bool_str (zaG I q (by simp))
  | _=>exact absurd (show false=true from hs) Bool.false_ne_true
 | int i =>
  obtain ⟨t,rfl⟩:=rx
  cases y with
  | non=>cases ry;exact PySem.EqNone.eq_int_none (zaG I q (by simp))
  | int j=>obtain ⟨t',rfl⟩:=ry;exact eq_int (zaG I q zjp)
  | str j=>obtain ⟨t',rfl⟩:=ry;exact PySem.EqMixed.eq_int_str (zaG I q (by simp))
  | _=>exact absurd (show false=true from hs) Bool.false_ne_true
 | str i =>
  obtain ⟨t,rfl⟩:=rx
  cases y with
  | non=>cases ry;exact PySem.EqNone.eq_str_none (zaG I q (by simp))
  | bl j=>cases ry;exact PySem.EqMixed.eq_str_bool (zaG I q (by simp))
  | int j=>obtain ⟨t',rfl⟩:=ry;exact PySem.EqMixed.eq_str_int (zaG I q (by simp))
  | str j=>obtain ⟨t',rfl⟩:=ry;exact eq_str (zaG I q zjo)
  | _=>exact absurd (show false=true from hs) Bool.false_ne_true
 | byt i =>
  obtain ⟨t,rfl⟩:=rx
  cases y with
  | byt j=>obtain ⟨t',rfl⟩:=ry;exact PySem.W.eq_bytes (zaG I q zjq)
  | _=>exact absurd (show false=true from hs) Bool.false_ne_true
 | _=>cases y <;> exact absurd (show false=true from hs) Bool.false_ne_true
theorem zgD:OpR X (compareOp .NotEq) rNe:=by
 intro pins s σ H x y v u Q I rx ry h
 obtain ⟨hs,q⟩:=h
 cases x with
 | non =>
  cases rx
  cases y with
  | non=>cases ry;exact PySem.EqNone.ne_none_none (zaG I q (by simp))
  | bl j=>cases ry;exact PySem.EqNone.ne_none_bool (zaG I q (by simp))
  | int j=>obtain ⟨t',rfl⟩:=ry;exact PySem.EqNone.ne_none_int (zaG I q (by simp))
  | str j=>obtain ⟨t',rfl⟩:=ry;exact PySem.EqNone.ne_none_str (zaG I q (by simp))
  | _=>exact absurd (show false=true from hs) Bool.false_ne_true
 | bl i =>
  cases rx
  cases y with
  | non=>cases ry;exact PySem.EqNone.ne_bool_none (zaG I q (by simp))
  | bl j=>cases ry;exact ne_bool (zaG I q (congrArg not zld))
  | str j=>obtain ⟨t',rfl⟩:=ry;exact PySem.EqMixed.ne_bool_str (zaG I q (by simp))
  | _=>exact absurd (show false=true from hs) Bool.false_ne_true
 | int i =>
  obtain ⟨t,rfl⟩:=rx
  cases y with
  | non=>cases ry;exact PySem.EqNone.ne_int_none (zaG I q (by simp))
  | int j=>obtain ⟨t',rfl⟩:=ry;exact ne_int (zaG I q (congrArg not zjp))
  | str j=>obtain ⟨t',rfl⟩:=ry;exact PySem.EqMixed.ne_int_str (zaG I q (by simp))
  | _=>exact absurd (show false=true from hs) Bool.false_ne_true
 | str i =>
  obtain ⟨t,rfl⟩:=rx
  cases y with
  | non=>cases ry;exact PySem.EqNone.ne_str_none (zaG I q (by simp))
  | bl j=>cases ry;exact PySem.EqMixed.ne_str_bool (zaG I q (by simp))
  | int j=>obtain ⟨t',rfl⟩:=ry;exact PySem.EqMixed.ne_str_int (zaG I q (by simp))
  | str j=>obtain ⟨t',rfl⟩:=ry;exact ne_str (zaG I q (congrArg not zjo))
  | _=>exact absurd (show false=true from hs) Bool.false_ne_true
 | byt i =>
  obtain ⟨t,rfl⟩:=rx
  cases y with
  | byt j=>obtain ⟨t',rfl⟩:=ry;exact PySem.W.ne_bytes (zaG I q (congrArg not zjq))
  | _=>exact absurd (show false=true from hs) Bool.false_ne_true
 | _=>cases y <;> exact absurd (show false=true from hs) Bool.false_ne_true
theorem zlG:OpR X (compareOp .Lt) (rI0 fun i j=>.bl (decide (i<j))):=opB0 fun _ _ _ _ _ _ _ q=>lt_int q
theorem ziV:OpR X (compareOp .LtE) (rI0 fun i j=>.bl (decide (i≤j))):=opB0 fun _ _ _ _ _ _ _ q=>le_int q
theorem zfz:OpR X (compareOp .Gt) (rI0 fun i j=>.bl (decide (j<i))):=opB0 fun _ _ _ _ _ _ _ q=>gt_int q
theorem op_ge:OpR X (compareOp .GtE) (rI0 fun i j=>.bl (decide (j≤i))):=opB0 fun _ _ _ _ _ _ _ q=>ge_int q
theorem zaz (b:Expr) {op:CmpOp} (h:op≠.In:=by decide) (h2:op≠.NotIn:=by decide):behindInMarks op b=false:=by
 have e1:(op == CmpOp.In)=false:=by cases op <;> first | rfl | exact absurd rfl h
 have e2:(op == CmpOp.NotIn)=false:=by cases op <;> first | rfl | exact absurd rfl h2
 cases b <;> simp [behindInMarks,e1,e2]
theorem zbE {op:CmpOp} {r:R2} (ho:OpR X (compareOp op) r) (ha:PE X a ta) (hb:PE X b tb) (hm:behindInMarks op b=false):PE X (.Compare a [op] [b] pos) (tOp r ta tb):=by
 intro pins s σ H Q I h
 exact wpAny_Compare1 (binT ha hb I h fun v u s2 x y H2 I2 rx ry q=>ho pins s2 σ H2 x y v u Q I2 rx ry q) hm
def tTest (t:TE):TT:=fun σ H Q=>t σ H fun x H'=>∃ k,x = .bl k∧Q k H'
theorem zay {op:CmpOp} {r:R2} (ho:OpR X (compareOp op) r) (ha:PE X a ta) (hb:PE X b tb) (hm:behindInMarks op b=false):PT X (.Compare a [op] [b] pos) (tTest (tOp r ta tb)):=by
 intro pins s σ H Q I h
 refine wpAny_isTrue_Compare1 (thn (ha pins s σ H _ I h) fun v s1 ⟨x,H1,I1,r1,q1⟩=>thn (hb pins s1 σ H1 _ I1 q1) fun u s2 ⟨y,H2,I2,r2,q2⟩ =>
  thn (ho pins s2 σ H2 x y v u _ I2 r1 r2 q2) fun c s3 ⟨z,H3,I3,r3,k,e,q3⟩=>?_) hm
 subst e
 cases r3
 exact wpAny_truthy_bool ⟨H3,I3,q3⟩
def zkS (r r':R2) (ta tb tc:TE):TE:=fun σ H Q=>ta σ H fun x H1=>tb σ H1 fun y H2=>r x y H2 fun z H3=>∃ k,z = .bl k ∧
 (if k=true then tc σ H3 fun w' H4=>r' y w' H4 Q else Q (.bl false) H3)
theorem zke {op op':CmpOp} {r r':R2} (ho:OpR X (compareOp op) r) (ho':OpR X (compareOp op') r') (ha:PE X a ta) (hb:PE X b tb) (hc:PE X c tc)
  (hm:lastMarks [op,op'] [b,c]=false:=by with_unfolding_all rfl):PE X (.Compare a [op,op'] [b,c] pos) (zkS r r' ta tb tc):=by
 intro pins s σ H Q I h
 refine Compare_chain (thn (ha pins s σ H _ I h) fun v s1 ⟨x,H1,I1,r1,q1⟩=>chain_link (thn (hb pins s1 σ H1 _ I1 q1) fun u s2 ⟨y,H2,I2,r2,q2⟩ =>
  thn (ho pins s2 σ H2 x y v u _ I2 r1 r2 q2) fun d s3 ⟨z,H3,I3,r3,k,e,q3⟩=>?_)) hm
 subst e
 cases r3
 refine wpAny_truthy_bool ?_
 cases k with
 | false=>exact ite_ff ⟨.bl false,H3,I3,rfl,q3⟩
 | true=>exact ite_tt (chain_last (thn (hc pins s3 σ H3 _ I3 q3) fun w' s4 ⟨z',H4,I4,r4,q4⟩=>ho' pins s4 σ H4 y z' u w' Q I4 r2 r4 q4))
theorem zj8 {op op':CmpOp} {r r':R2} (ho:OpR X (compareOp op) r) (ho':OpR X (compareOp op') r') (ha:PE X a ta) (hb:PE X b tb) (hc:PE X c tc)
  (hm:lastMarks [op,op'] [b,c]=false:=by with_unfolding_all rfl):PT X (.Compare a [op,op'] [b,c] pos) (tTest (zkS r r' ta tb tc)):=by
 intro pins s σ H Q I h
 refine isTrue_chain (thn (ha pins s σ H _ I h) fun v s1 ⟨x,H1,I1,r1,q1⟩=>test_link (thn (hb pins s1 σ H1 _ I1 q1) fun u s2 ⟨y,H2,I2,r2,q2⟩ =>
  thn (ho pins s2 σ H2 x y v u _ I2 r1 r2 q2) fun d s3 ⟨z,H3,I3,r3,k,e,q3⟩=>?_)) hm
 subst e
 cases r3
 refine wpAny_truthy_bool ?_
 cases k with
 | false =>
  obtain ⟨k',e',q'⟩:=q3
  cases e'
  exact ite_ff ⟨H3,I3,q'⟩
 | true =>
  refine ite_tt (test_last (thn (hc pins s3 σ H3 _ I3 q3) fun w' s4 ⟨z',H4,I4,r4,q4⟩=>thn (ho' pins s4 σ H4 y z' u w' _ I4 r2 r4 q4) fun d' s5 ⟨z2,H5,I5,r5,k2,e2,q5⟩=>?_))
  subst e2
  cases r5
  exact wpAny_truthy_bool ⟨H5,I5,q5⟩
def TruV (K:PySem.W.Frag) (x:V) (H:Hp) (k:Bool):Prop:=
 match x with
 | .non=>k=false
 | .bl b=>k=b
 | .int i=>k=(i != 0)
 | .str y=>y.length≤sizeLine∧k=((y.length:Int) != 0)
 | .byt y=>y.size≤sizeLine∧k=((y.size:Int) != 0)
 | .ref p=>(∃ xs,SqL K H p xs∧k = !xs.isEmpty)∨(∃ xs,SqT K H p xs∧k = !xs.isEmpty)∨∃ kvs,H p=some (.dK kvs)∧k = !kvs.isEmpty
 | _=>False
theorem zhW {κ:Type} {kvs:List (κ×V)} {vs:List (κ×Value)} (r:KV kvs vs):(!vs.isEmpty) = !kvs.isEmpty:=by
 cases r <;> rfl
theorem zeA {xs:List V} {its:List Value} (r:Vals xs its):(!its.toArray.isEmpty) = !xs.isEmpty:=by
 cases r <;> simp
theorem zfL:(sizeLine:Nat)<2 ^ 63:=by rw [sizeLine_eq];decide
theorem tru_ok:TruR X (fun x H Q=>∃ k,TruV X.K x H k∧Q k H):=by
 intro pins s σ H x v Q I rx h
 obtain ⟨k,e,q⟩:=h
 have hl:=zfL
 have hs:sizeLine=16777216:=sizeLine_eq
 cases x with
 | non =>
  cases rx
  have e':k=false:=e
  subst e'
  exact truthy_none ⟨H,I,q⟩
 | bl b =>
  cases rx
  have e':k=b:=e
  subst e'
  exact wpAny_truthy_bool ⟨H,I,q⟩
 | int i =>
  obtain ⟨t,rfl⟩:=rx
  have e':k=(i != 0):=e
  subst e'
  exact PySem.P.truthy_int ⟨H,I,q⟩
 | str y =>
  obtain ⟨t,rfl⟩:=rx
  obtain ⟨hy,e'⟩:y.length≤sizeLine∧k=((y.length:Int) != 0):=e
  subst e'
  exact PySem.P.truthy_str (by omega) ⟨H,I.tok _,q⟩
 | byt y =>
  obtain ⟨t,rfl⟩:=rx
  obtain ⟨hy,e'⟩:y.size≤sizeLine∧k=((y.size:Int) != 0):=e
  subst e'
  exact PySem.W.truthy_bytes (by omega) ⟨H,I.tok _,q⟩
 | ref p =>
  cases rx
  have e':(∃ xs,SqL X.K H p xs∧k = !xs.isEmpty)∨(∃ xs,SqT X.K H p xs∧k = !xs.isEmpty)∨∃ kvs,H p=some (.dK kvs)∧k = !kvs.isEmpty:=e
  rcases e' with ⟨xs,hx,e'⟩ | ⟨xs,hx,e'⟩ | ⟨kvs,hx,e'⟩
  ·subst e'
   obtain ⟨its,r,pl,hz⟩:=I.list hx
   have hlen:=r.length
   exact wpAny_truthy_list pl.isList (by simp only [List.size_toArray];omega) ⟨H,I.tok _,by rw [zeA r];exact q⟩
  ·subst e'
   obtain ⟨its,r,pl,hz⟩:=I.tuple hx
   have hlen:=r.length
   exact truthy_tuple pl (by simp only [List.size_toArray];omega) ⟨H,I.tok _,by rw [zeA r];exact q⟩
  ·subst e'
   obtain ⟨hz,hS,vs,r,m⟩:kvs.length≤sizeLine∧(p == sysModules)=false∧∃ vs,KV kvs vs∧s.heap.DictOf (zaH X.prog X.w) p vs:=I.hok p _ hx
   have hlen:kvs.length=vs.length:=Paired.length r
   exact wpAny_truthy_dict hS m (by omega) ⟨H,I.tok _,by rw [zhW r];exact q⟩
 | _=>exact (show False from e).elim
theorem zhb (ha:PE X a ta) (he:∀ whole,isTrue a X.env whole=(do let v ← whole;standAt a.pos;holding [v] (truthy v))) :
  PT X a (fun σ H Q=>ta σ H fun x H'=>∃ k,TruV X.K x H' k∧Q k H'):=by
 intro pins s σ H Q I h
 exact isTrue_plain (thn (ha pins s σ H _ I h) fun v s1 ⟨x,H1,I1,r1,q1⟩=>tru_ok pins s1 σ H1 x v Q I1 r1 q1) (he _)
theorem zc4 {x:V} {us:List Value} (r:Vals [x] us):∃ u,us=[u]∧RelV x u:=by
 cases r with
 | cons r1 r2=>cases r2;exact ⟨_,rfl,r1⟩
theorem zjO {x y:V} {us:List Value} (r:Vals [x,y] us):∃ u w',us=[u,w']∧RelV x u∧RelV y w':=by
 cases r with
 | cons r1 r2 =>
  cases r2 with
  | cons r3 r4=>cases r4;exact ⟨_,_,rfl,r1,r3⟩
theorem zf2 (hc:X.calm=true):zcu X (.builtin "max") (fun xs H Q=>∃ i j,xs=[.int i,.int j]∧Q (.int (if j > i then j else i)) H):=by
 intro pins s σ H xs us Q I r h
 obtain ⟨i,j,rfl,q⟩:=h
 obtain ⟨u,w',rfl,⟨t,rfl⟩,⟨t',rfl⟩⟩:=zjO r
 refine max_two_ints (I.ok.hd hc) fun h' tk k=>⟨_,H,I.kept k,?_,q⟩
 by_cases hj:j > i
 ·rw [if_pos hj,if_pos hj];exact ⟨_,rfl⟩
 ·rw [if_neg hj,if_neg hj];exact ⟨_,rfl⟩
theorem zjB (hc:X.calm=true):zcu X (.builtin "min") (fun xs H Q=>∃ i j,xs=[.int i,.int j]∧Q (.int (if j<i then j else i)) H):=by
 intro pins s σ H xs us Q I r h
 obtain ⟨i,j,rfl,q⟩:=h
 obtain ⟨u,w',rfl,⟨t,rfl⟩,⟨t',rfl⟩⟩:=zjO r
 refine min_two_ints (I.ok.hd hc) fun h' tk k=>⟨_,H,I.kept k,?_,q⟩
 by_cases hj:j<i
 ·rw [if_pos hj,if_pos hj];exact ⟨_,rfl⟩
 ·rw [if_neg hj,if_neg hj];exact ⟨_,rfl⟩
theorem zjC:zcu X (.type "int") (fun xs H Q=>(∃ i,xs=[.int i]∧Q (.int i) H)∨∃ k,xs=[.bl k]∧Q (.int (if k then 1 else 0)) H):=by
 intro pins s σ H xs us Q I r h
 rcases h with ⟨i,rfl,q⟩ | ⟨k,rfl,q⟩
 ·obtain ⟨u,rfl,t,rfl⟩:=zc4 r
  exact call_int_int ⟨.int i,H,I,⟨_,rfl⟩,q⟩
 ·obtain ⟨u,rfl,r1⟩:=zc4 r
  cases r1
  exact call_int_bool ⟨.int (if k then 1 else 0),H,I.tok _,⟨_,rfl⟩,q⟩
end
end L2
namespace L2
open PySem PySem.Spec PyProof.Rows
structure ObjM (h:Heap) (x dx C:Addr) (mA:Str→Option Value):Prop where
 obj:h.get? x=some (PySem.W.instObj C dx)
 ns:h.Ns1 dx mA
 ne:dx≠x
theorem zi6 {h:Heap} {dx:Addr} {mA:Str→Option Value} (n:h.Ns1 dx mA):∃ od,h.get? dx=some od∧∀ name,PySem.W.lookIn name od=some (mA name):=by
 obtain ⟨o,es,ep,ho,hd,hk,_,hm⟩:=n
 refine ⟨o,ho,fun name=>?_⟩
 have e:=hm name
 unfold nsFind findBy at e
 rw [← Array.find?_toList] at e
 unfold PySem.W.lookIn
 rw [hd]
 dsimp only
 split
 ·rename_i y q
  rw [q] at e
  exact congrArg some e
 ·rename_i q
  rw [q] at e
  have a:es.toList.any (·.refKey)=false:=by
   rw [List.any_eq_false]
   intro y hy
   obtain ⟨z,t,hkey⟩:=hk y (Array.mem_toList_iff.mp hy)
   simp [DictEntry.refKey,hkey]
  have a':¬ es.toList.any (·.refKey)=true:=by rw [a];exact Bool.false_ne_true
  rw [if_neg a']
  exact congrArg some e
theorem ObjM.look {h:Heap} {x dx C:Addr} {mA:Str→Option Value} (I:ObjM h x dx C mA):∃ od,PySem.W.InstAt h x (PySem.W.instObj C dx) C (some od)∧∀ name,PySem.W.lookIn name od=some (mA name):=
 let ⟨od,ho,hl⟩:=zi6 I.ns
 ⟨od,⟨I.obj,rfl,rfl,ho⟩,hl⟩
section
variable {prog:Program} {w:World} {A:Around} {E:Value→Shared→Prop} {s:Shared} {K:PySem.W.Frag} {x dx C f:Addr} {mA:Str→Option Value} {name:Str} {v:Value}
theorem zlX {expr:Bool} {Q:Value→Shared→Prop} (X:K.In s.heap) (I:ObjM s.heap x dx C mA) (hg:PySem.W.plainGet K C name=true) (hh:PySem.W.hasDictIn K C=true)
  (ha:PySem.W.findIn K (.ref C) name=some none) (hv:mA name=some v) (hv':PySem.W.handedIn v=true) (h:Q v { s with toks:=s.toks+1 }) :
  wpAny (model prog w) A (getAttr (.ref x) name expr) Q E s:=by
 obtain ⟨od,J,hl⟩:=I.look
 exact PySem.W.get_value X J (PySem.W.plainGet_of hg).1 (PySem.W.findObj_own hh ha rfl (by rw [hl,hv])) hv' h
theorem zkw {pl:Sem Bool} {Q:Value×List Value→Shared→Prop} (X:K.In s.heap) (I:ObjM s.heap x dx C mA) (hg:PySem.W.plainGet K C name=true)
  (hf:PySem.W.findIn K (.ref C) name=some (some (.ref f))) (ht:PySem.W.isFn K (.ref f)=true) (hv:mA name=none) (h:Q (.ref f,[.ref x]) s) :
  wpAny (model prog w) A (getMethod (.ref x) name pl) Q E s:=by
 obtain ⟨od,J,hl⟩:=I.look
 exact PySem.W.method_fn X J (PySem.W.plainGet_of hg).1 (PySem.W.plainGet_of hg).2 hf (beq_iff_eq.mp ht) (by show (PySem.W.lookIn name od).map (·.isSome)=some false;rw [hl,hv];rfl) h
theorem zlv {ns:List Str} {Q:Unit→Shared→Prop} (X:K.In s.heap) (I:ObjM s.heap x dx C mA)
  (hs:PySem.W.findIn K (.ref C) "__setattr__" = some (some (.builtin "object.__setattr__"))) (hp:PySem.W.plainOver K C=true) (ht:PySem.W.takerIn K C name=some none) (hh:PySem.W.hasDictIn K C=true)
  (hw:PySem.Within mA ns) (hsz:ns.length≤sizeLine)
  (h:∀ h',ObjM h' x dx C (fun y=>if y=name then some v else mA y)→Heap.SameBut dx s.heap h'→Q () { s with heap:=h',toks:=s.toks+2 }) :
  wpAny (model prog w) A (setAttr (.ref x) name v) Q E s:=by
 obtain ⟨od,J,hl⟩:=I.look
 refine PySem.W.set_plain X J hs (PySem.W.osa_open (s:={ s with toks:=s.toks+1 }) (r:=none) X J hp ht fun b=>?_)
 obtain ⟨cd,hc,hd'⟩:=PySem.W.any_some hh
 have hx:s.heap.get? x=some ⟨.ref C,some dx,.plain,#[]⟩:=I.obj
 refine wpAny_bind (wpAny_pure (wpAny_bind (wpAny_bind (wpAny_loadPart hx (wpAny_bind (PySem.W.Looks.here (s:={ s with toks:=s.toks+1 }) (PySem.W.looks_clsIn X hc) ?_))))))
 rw [hd']
 refine wpAny_pure (a:=some dx) (wpAny_bind (wpAny_pure (wpAny_bind ?_)))
 refine wpAny_nsSet1 (s:={ s with toks:=s.toks+1 }) I.ns fun h' hn2 hs2=>?_
 obtain ⟨oD,esD,epD,hoD,hdD,hcD⟩:=hn2.count (PySem.Within.cons name v hw)
 refine wpAny_bind (wpAny_lookBehind hoD (by rw [hdD];exact pastItsLine_dict (Nat.le_trans hcD (by rw [List.length_cons];omega))) ?_)
 exact wpAny_pure (h _ ⟨(hs2.2 _ (Ne.symm I.ne)).trans I.obj,hn2,I.ne⟩ hs2)
theorem zkm {R:Result→Shared→Prop} {vs:List Value} {kw:List (Str×Value)} (X:K.In s.heap) (hm:PySem.W.makesIn K C=true)
  (hi:PySem.W.findIn K (.ref C) "__init__" = some (some (.ref f))) (hf:PySem.W.typeIn K (.ref f)=some (.type "function"))
  (h:codeAny (model prog w) (A.under (.builtin "type.__call__" ⟨.ref C :: vs,kw⟩)) (.call (.ref f) ⟨.ref (s.heap.objs.size+1) :: vs,kw⟩) (PySem.W.InitBack (s.heap.objs.size+1) R)
   { s with heap:=(s.heap.push PySem.W.emptyDict).push (PySem.W.instObj C s.heap.objs.size) }) :
  codeAny (model prog w) A (.call (.ref C) ⟨vs,kw⟩) R s:=by
 obtain ⟨hh,g,d,t,os⟩:=s
 exact PySem.W.make_core (PySem.W.makes_of X hm) (PySem.W.looks_findIn X hi) (fun self=>PySem.W.bind_fn X self hf) (.inl rfl) h
end
def putF (f:Str) (v:V):List (Str×V)→List (Str×V)
 | []=>[(f,v)]
 | (g,x) :: r=>if g=f then (g,v) :: r else (g,x) :: putF f v r
theorem zec (f g:Str) (v:V):∀ fs:List (Str×V),(putF f v fs).lookup g=if g=f then some v else fs.lookup g
 | []=>by
  show List.lookup g [(f,v)]=_
  by_cases h:g=f
  ·have hb:(g == f)=true:=beq_iff_eq.mpr h
   simp only [List.lookup,hb,if_pos h]
  ·have hb:(g == f)=false:=beq_eq_false_iff_ne.mpr h
   simp only [List.lookup,hb,if_neg h]
 | (k,x) :: r=>by
  have ih:=zec f g v r
  rw [show putF f v ((k,x) :: r)=(if k=f then (k,v) :: r else (k,x) :: putF f v r) from rfl]
  by_cases hk:k=f
  ·rw [if_pos hk]
   by_cases h:g=k
   ·have hb:(g == k)=true:=beq_iff_eq.mpr h
    simp only [List.lookup,hb,if_pos (h.trans hk)]
   ·have hb:(g == k)=false:=beq_eq_false_iff_ne.mpr h
    simp only [List.lookup,hb,if_neg (fun e:g=f=>h (e.trans hk.symm))]
  ·rw [if_neg hk]
   by_cases h:g=k
   ·have hb:(g == k)=true:=beq_iff_eq.mpr h
    simp only [List.lookup,hb,if_neg (fun e:g=f=>hk (h.symm.trans e))]
   ·have hb:(g == k)=false:=beq_eq_false_iff_ne.mpr h
    simp only [List.lookup,hb]
    exact ih
theorem zeg (f:Str) (v:V):∀ fs:List (Str×V),f∈(putF f v fs).map (·.1)∧∀ g,g∈fs.map (·.1)→g∈(putF f v fs).map (·.1)
 | []=>⟨by simp [putF],fun g h=>by simp at h⟩
 | (k,x) :: r=>by
  obtain ⟨i1,i2⟩:=zeg f v r
  rw [show putF f v ((k,x) :: r)=(if k=f then (k,v) :: r else (k,x) :: putF f v r) from rfl]
  by_cases hk:k=f
  ·rw [if_pos hk]
   subst hk
   exact ⟨by simp,fun g h=>by simpa using h⟩
  ·rw [if_neg hk]
   refine ⟨?_,fun g h=>?_⟩
   ·rw [List.map_cons]
    exact List.mem_cons_of_mem _ i1
   ·rw [List.map_cons] at h ⊢
    rcases List.mem_cons.mp h with e | e
    ·exact List.mem_cons.mpr (.inl e)
    ·exact List.mem_cons_of_mem _ (i2 g e)
theorem zee (f:Str) (v:V):∀ fs:List (Str×V),(putF f v fs).length≤fs.length+1
 | []=>by simp [putF]
 | (k,x) :: r=>by
  have ih:=zee f v r
  rw [show putF f v ((k,x) :: r)=(if k=f then (k,v) :: r else (k,x) :: putF f v r) from rfl]
  by_cases hk:k=f
  ·rw [if_pos hk,List.length_cons,List.length_cons];omega
  ·rw [if_neg hk,List.length_cons,List.length_cons];omega
theorem RelO.some_of {v:V} {o:Option Value} (r:RelO (some v) o):∃ u,o=some u∧RelV v u:=by
 cases o with
 | none=>exact (show False from r).elim
 | some u=>exact ⟨u,rfl,r⟩
theorem RelO.none_of {o:Option Value} (r:RelO none o):o=none:=by
 cases o with
 | none=>rfl
 | some u=>exact (show False from r).elim
theorem zje {v:V} {u:Value} (r:RelV v u):PySem.W.handedIn u=true:=by
 cases v with
 | non=>cases (show u=Value.none from r);rfl
 | bl b=>cases (show u=Value.bool b from r);rfl
 | int i=>obtain ⟨t,e⟩:=(show ∃ t,u=Value.int i t from r);cases e;rfl
 | str x=>obtain ⟨t,e⟩:=(show ∃ t,u=Value.str x t from r);cases e;rfl
 | byt b=>obtain ⟨t,e⟩:=(show ∃ t,u=Value.bytes b t from r);cases e;rfl
 | flt b=>obtain ⟨t,e⟩:=(show ∃ t,u=Value.float b t from r);cases e;rfl
 | ref a=>cases (show u=Value.ref a from r);rfl
 | ty n=>cases (show u=Value.type n from r);rfl
section
variable {P:Program} {w:World} {H H':Hp} {h h':Heap} {a C dx:Addr} {fs fs':List (Str×V)}
theorem zei (hok:HOk P w H h) (e:H a=some (.ins C dx fs)):∃ mA,ObjM h a dx C mA∧(∀ f,RelO (fs.lookup f) (mA f))∧PySem.Within mA (fs.map (·.1))∧fs.length≤1000∧H dx=some (.own a):=by
 obtain ⟨d,z,ne,ob,mA,n,r,q⟩:=(show ObjOk P w H h a (.ins C dx fs) from hok a _ e)
 exact ⟨mA,⟨ob,n,ne⟩,r,q,z,d⟩
end
structure Cls (K:PySem.W.Frag) (C:Addr):Prop where
 pg:PySem.W.plainGet K C Str.empty=true
 hd:PySem.W.hasDictIn K C=true
 po:PySem.W.plainOver K C=true
 sa:PySem.W.findIn K (.ref C) "__setattr__" = some (some (.builtin "object.__setattr__"))
theorem Cls.get {K:PySem.W.Frag} {C:Addr} (c:Cls K C) (f:Str):PySem.W.plainGet K C f=true:=c.pg
def NoAttr (K:PySem.W.Frag) (C:Addr) (f:Str):Prop:=PySem.W.findIn K (.ref C) f=some none
theorem NoAttr.taker {K:PySem.W.Frag} {C:Addr} {f:Str} (n:NoAttr K C f):PySem.W.takerIn K C f=some none:=by
 unfold PySem.W.takerIn
 rw [show PySem.W.findIn K (.ref C) f=some none from n]
 rfl
structure Meth (K:PySem.W.Frag) (C:Addr) (m:Str) (f:Addr):Prop where
 at_:PySem.W.findIn K (.ref C) m=some (some (.ref f))
 fn:PySem.W.isFn K (.ref f)=true
 kp:PySem.W.keepIn K (.ref f)=true
section
variable {X:Cx} {pins:List (Addr×Obj)} {σ:St} {H:Hp} {s:Shared} {a C dx:Addr} {fs:List (Str×V)} {f:Str} {v:V} {A:Around} {E:Value→Shared→Prop}
theorem zhY {b:Bool} {Q:Value→Shared→Prop} (I:Inv X pins σ H s) (e:H a=some (.ins C dx fs)) (c:Cls X.K C) (n:NoAttr X.K C f) (l:fs.lookup f=some v)
  (h:∀ u s',Inv X pins σ H s'→RelV v u→Q u s'):wpAny (model X.prog X.w) A (getAttr (.ref a) f b) Q E s:=by
 obtain ⟨mA,O,r,_,_,_⟩:=zei I.hok e
 obtain ⟨u,hu,ru⟩:=RelO.some_of (v:=v) (o:=mA f) (by rw [← l];exact r f)
 exact zlX I.kIn O (c.get f) c.hd n hu (zje ru) (h u _ (I.tok _) ru)
theorem zeC {m:Str} {g:Addr} {pl:Sem Bool} {Q:Value×List Value→Shared→Prop} (I:Inv X pins σ H s) (e:H a=some (.ins C dx fs)) (c:Cls X.K C) (k:Meth X.K C m g) (l:fs.lookup m=none)
  (h:Q (.ref g,[.ref a]) s):wpAny (model X.prog X.w) A (getMethod (.ref a) m pl) Q E s:=by
 obtain ⟨mA,O,r,_,_,_⟩:=zei I.hok e
 have hn:mA m=none:=RelO.none_of (by rw [← l];exact r m)
 exact zkw I.kIn O (c.get m) k.at_ k.fn hn h
theorem zhD {y:V} {u:Value} {Q:Unit→Shared→Prop} (I:Inv X pins σ H s) (e:H a=some (.ins C dx fs)) (c:Cls X.K C) (n:NoAttr X.K C f) (hl:fs.length<1000) (ry:RelV y u)
  (h:∀ s',Inv X pins σ (upd H a (.ins C dx (putF f y fs))) s'→Q () s'):wpAny (model X.prog X.w) A (setAttr (.ref a) f u) Q E s:=by
 obtain ⟨mA,O,r,wi,_,ho⟩:=zei I.hok e
 have hz:(fs.map (·.1)).length≤sizeLine:=by rw [List.length_map,sizeLine_eq];omega
 refine zlv I.kIn O c.sa c.po n.taker c.hd wi hz fun h' O' sb=>h _ ?_
 have hd:∃ o,h'.get? dx=some o:=let ⟨o,_,_,e',_⟩:=O'.ns;⟨o,e'⟩
 refine I.write (x:=a) (e:=dx) (by rw [e];exact True.intro) (.inr ho) (fun b q hb z=>(sb.2 b hb).trans z) hd ?_
 refine ⟨by rw [zai O.ne];exact ho,?_,O.ne,O'.obj,_,O'.ns,fun g=>?_,fun g hg=>?_⟩
 ·have:=zee f y fs;omega
 ·show RelO ((putF f y fs).lookup g) (if g=f then some u else mA g)
  rw [zec]
  by_cases q:g=f
  ·rw [if_pos q,if_pos q];exact ry
  ·rw [if_neg q,if_neg q];exact r g
 ·by_cases q:g=f
  ·rw [q];exact (zeg f y fs).1
  ·refine (zeg f y fs).2 g (wi g fun z=>hg ?_)
   show (if g=f then some u else mA g)=none
   rw [if_neg q];exact z
theorem Inv.made (I:Inv X pins σ H s):Inv X pins σ (upd (upd H s.heap.objs.size (.own (s.heap.objs.size+1))) (s.heap.objs.size+1) (.ins C s.heap.objs.size []))
  { s with heap:=(s.heap.push PySem.W.emptyDict).push (PySem.W.instObj C s.heap.objs.size) }:=by
 have e1:(s.heap.push PySem.W.emptyDict).get? s.heap.objs.size=some PySem.W.emptyDict:=Heap.get?_push_size s.heap rfl
 have e2:((s.heap.push PySem.W.emptyDict).push (PySem.W.instObj C s.heap.objs.size)).get? (s.heap.objs.size+1)=some (PySem.W.instObj C s.heap.objs.size):=by
  have:=Heap.get?_push_size (s.heap.push PySem.W.emptyDict) (o:=PySem.W.instObj C s.heap.objs.size) rfl
  rwa [Heap.size_push] at this
 have e3:(s.heap.push PySem.W.emptyDict).Ns s.heap.objs.size (fun _=>none):=⟨PySem.W.emptyDict,#[],_,e1,rfl,(fun e he=>absurd he (by simp)),fun _=>rfl⟩
 have I1:=I.laid (a:=s.heap.objs.size) (o:=.own (s.heap.objs.size+1)) (h':=s.heap.push PySem.W.emptyDict) (t':=s.toks) (fun b u q=>Heap.get?_push_of_some _ q) (Nat.le_refl _) ⟨_,e1⟩
 refine I1.laid (a:=s.heap.objs.size+1) (o:=.ins C s.heap.objs.size []) (t':=s.toks) (fun b u q=>Heap.get?_push_of_some _ q) (Nat.le_of_eq (Heap.size_push _ _)) ?_
 have ne:s.heap.objs.size≠s.heap.objs.size+1:=Nat.ne_of_lt (Nat.lt_succ_self _)
 refine ⟨by rw [zai ne,zad],Nat.zero_le _,ne,e2,fun _=>none,(Heap.Ns1.of_empty e3).at fun o q=>Heap.get?_push_of_some _ q,fun _=>True.intro,fun y hy=>absurd rfl hy⟩
theorem zl9 {prog:Program} {w:World} {env:Env} {e:Expr} {f:Str} {pos:Pos} {s:Shared} {Q:Value→Shared→Prop} (hb:attributeBase e f env (eval e env)=eval e env)
  (h:wpAny (model prog w) A (eval e env) (fun o s₁=>wpAny (model prog w) A (getAttr o f true) Q E s₁) E s):wpAny (model prog w) A (eval (.Attribute e f pos) env) Q E s:=
 Attribute_any_ h (by rw [arm_eval_Attribute,hb])
end
def tFld (K:PySem.W.Frag) (ta:TE) (f:Str):TE:=fun σ H Q=>ta σ H fun x H1=>∃ a C dx fs v,x = .ref a∧H1 a=some (.ins C dx fs)∧Cls K C∧NoAttr K C f∧fs.lookup f=some v∧Q v H1
def sFld (K:PySem.W.Frag) (ta tv:TE) (f:Str):TS:=fun D σ H=>tv σ H fun y H1=>ta σ H1 fun x H2=>∃ a C dx fs,x = .ref a∧H2 a=some (.ins C dx fs)∧Cls K C∧NoAttr K C f∧fs.length<1000 ∧
 D.nx σ (upd H2 a (.ins C dx (putF f y fs)))
section
variable {X:Cx} {o e value:Expr} {f:Str} {pos pos' tpos:Pos} {ta tv:TE}
theorem zbu (he:PE X e ta) (hb:attributeBase e f X.env (eval e X.env)=eval e X.env):PE X (.Attribute e f pos) (tFld X.K ta f):=by
 intro pins s σ H Q I h
 refine zl9 hb (thn (he pins s σ H _ I h) fun u s1 ⟨x,H1,I1,rx,a,C,dx,fs,v,ex,ea,c,n,l,q⟩=>?_)
 subst ex
 obtain rfl:u=Value.ref a:=rx
 exact zhY I1 ea c n l fun u' s2 I2 ru=>⟨v,H1,I2,ru,q⟩
theorem zcg (ha:PE X o ta) (hv:PE X value tv) (hs:swapsWith value (some (.Attribute o f pos')) pos.line X.env=pure false):PS X (.Assign [.Attribute o f pos'] value pos) (sFld X.K ta tv f):=by
 intro pins s σ H D I h
 refine plainObj_wpAny_Assign_Attribute (thn (hv pins s σ H _ I h) fun u s1 ⟨y,H1,I1,ry,q⟩=>thn (ha pins s1 σ H1 _ I1 q) fun ov s2 ⟨x,H2,I2,rx,a,C,dx,fs,ex,ea,c,n,l,q2⟩=>?_) hs
 subst ex
 obtain rfl:ov=Value.ref a:=rx
 exact zhD I2 ea c n l ry fun s3 I3=>⟨σ,_,I3,q2⟩
end
section
variable {X:Cx} {pins:List (Addr×Obj)} {σ:St} {H:Hp} {s:Shared} {A:Around} {E:Value→Shared→Prop} {Q:Value→Shared→Prop} {c:Value} {b:Bool}
inductive TyOf (K:PySem.W.Frag) (H:Hp):V→Value→Prop where
 | non:TyOf K H .non (.type "NoneType")
 | bl (x:Bool):TyOf K H (.bl x) (.type "bool")
 | int (i:Int):TyOf K H (.int i) (.type "int")
 | str (x:Str):TyOf K H (.str x) (.type "str")
 | flt (x:UInt64):TyOf K H (.flt x) (.type "float")
 | lst {a:Addr} {xs:List V} (e:H a=some (.lst xs)):TyOf K H (.ref a) (.type "list")
 | frz {a:Addr} {o:Obj} {xs:List V} (e:H a=some (.frz o (.lst xs))):TyOf K H (.ref a) (.type "list")
 | tup {a:Addr} {xs:List V} (e:H a=some (.tup xs)):TyOf K H (.ref a) (.type "tuple")
 | dK {a:Addr} {kvs:List (Key×V)} (e:H a=some (.dK kvs)):TyOf K H (.ref a) (.type "dict")
 | dT {a:Addr} {kvs:List (List Key×V)} (e:H a=some (.dT kvs)):TyOf K H (.ref a) (.type "dict")
 | ins {a C dx:Addr} {fs:List (Str×V)} (e:H a=some (.ins C dx fs)) (cl:Cls K C) (ha:PySem.W.findIn K (.ref C) "__class__" = some (some (.builtin "object.__class__")))
   (hn:PySem.W.specialIn K (.builtin "object.__class__") "__get__" = some (some (.builtin "getset_descriptor.__get__"))) (htk:PySem.W.takesIn K (.builtin "object.__class__")=some true)
   (hm:PySem.W.mroIn K C (.type "object")=some true):TyOf K H (.ref a) (.ref C)
theorem zfP {x:V} {u t:Value} (I:Inv X pins σ H s) (rx:RelV x u) (ty:TyOf X.K H x t) (e:PySem.W.kitOne X.K t c=some b) (h:∀ tk,Q (.bool b) { s with toks:=tk }) :
  wpAny (model X.prog X.w) A (call (.builtin "isinstance") [u,c]) Q E s:=by
 cases ty with
 | non=>cases (show u=Value.none from rx);exact PySem.W.kia_one PySem.W.kitx_none I.kIn True.intro e (fun z=>nomatch z) h
 | bl y=>cases (show u=Value.bool y from rx);exact PySem.W.kia_one PySem.W.kitx_bool I.kIn True.intro e (fun z=>nomatch z) h
 | int i=>obtain ⟨t,q⟩:=(show ∃ t,u=Value.int i t from rx);cases q;exact PySem.W.kia_one PySem.W.kitx_int I.kIn True.intro e (fun z=>nomatch z) h
 | str y=>obtain ⟨t,q⟩:=(show ∃ t,u=Value.str y t from rx);cases q;exact PySem.W.kia_one PySem.W.kitx_str I.kIn True.intro e (fun z=>nomatch z) h
 | flt y=>obtain ⟨t,q⟩:=(show ∃ t,u=Value.float y t from rx);cases q;exact PySem.W.kia_one PySem.W.kitx_float I.kIn True.intro e (fun z=>nomatch z) h
 | @lst a xs ea =>
  cases (show u=Value.ref a from rx)
  obtain ⟨_,_,n,_,h1⟩:=(show ObjOk X.prog X.w H s.heap a (.lst xs) from I.hok a _ ea)
  exact PySem.W.kia_one PySem.W.kitx_list I.kIn ⟨_,h1,rfl⟩ e (fun z=>nomatch z) h
 | @frz a ob xs ea =>
  cases (show u=Value.ref a from rx)
  obtain ⟨_,_,_,n,_,h1⟩:=(show ObjOk X.prog X.w H s.heap a (.frz ob (.lst xs)) from I.hok a _ ea)
  exact PySem.W.kia_one PySem.W.kitx_list I.kIn ⟨_,h1,rfl⟩ e (fun z=>nomatch z) h
 | @tup a xs ea =>
  cases (show u=Value.ref a from rx)
  obtain ⟨_,_,_,p⟩:=(show ObjOk X.prog X.w H s.heap a (.tup xs) from I.hok a _ ea)
  obtain ⟨o,h1,h2,_⟩:=p
  exact PySem.W.kia_one PySem.W.kitx_tuple I.kIn ⟨o,h1,h2⟩ e (fun z=>nomatch z) h
 | @dK a kvs ea =>
  cases (show u=Value.ref a from rx)
  obtain ⟨_,_,vs,_,p⟩:=(show ObjOk X.prog X.w H s.heap a (.dK kvs) from I.hok a _ ea)
  obtain ⟨o,es,ep,h1,h2,_⟩:=p
  exact PySem.W.kia_one PySem.W.kitx_dict I.kIn ⟨o,h1,h2.1⟩ e (fun z=>nomatch z) h
 | @dT a kvs ea =>
  cases (show u=Value.ref a from rx)
  obtain ⟨_,_,xs,_,o,es,ep,h1,h2,_⟩:=(show ObjOk X.prog X.w H s.heap a (.dT kvs) from I.hok a _ ea)
  exact PySem.W.kia_one PySem.W.kitx_dict I.kIn ⟨o,h1,h2.1⟩ e (fun z=>nomatch z) h
 | @ins a C dx fs ea cl ha hn htk hm =>
  cases (show u=Value.ref a from rx)
  obtain ⟨mA,O,_⟩:=zei I.hok ea
  obtain ⟨od,J,_⟩:=O.look
  exact PySem.W.kia_one (PySem.W.kitx_own (cl.get _) cl.hd ha hn htk hm) I.kIn J e (fun z=>nomatch z) h
end
end L2
namespace L2
open PySem PySem.Spec PyProof.Rows
structure Room (k:Nat) (A:Around):Prop where
 hd:A.handled=none
 dp:A.depth+3 * k+5<recursionLimit
 un:A.units+16 * k+200<cLine
theorem Room.mono {j k:Nat} {A:Around} (r:Room k A) (h:j≤k):Room j A:=⟨r.hd,by have:=r.dp;omega,by have:=r.un;omega⟩
theorem Room.deeper {k:Nat} {A:Around} (r:Room (k+1) A) (env:Env):Room k (A.deeper env):=
 ⟨r.hd,by have:=r.dp;show A.depth+1+3 * k+5<_;omega,by have:=r.un;show A.units+3+16 * k+200<_;omega⟩
theorem Room.in1 {k:Nat} {A:Around} (r:Room (k+1) A):Room k A.in1:=
 ⟨r.hd,by have:=r.dp;show A.depth+3 * k+5<_;omega,by have:=r.un;show A.units+1+16 * k+200<_;omega⟩
theorem zhT {A:Around} {C:Addr} {us:List Value} {kw:List (Str×Value)}:(A.under (.builtin "type.__call__" ⟨.ref C :: us,kw⟩)).depth=A.depth+1:=by
 first | rfl | simp [Around.under,Code.weight,Code.isCreation,Code.isGuard,Code.isCaller,Code.frames,Code.isFrame,guardIds]
theorem zhS {A:Around} {C:Addr} {us:List Value} {kw:List (Str×Value)}:(A.under (.builtin "type.__call__" ⟨.ref C :: us,kw⟩)).units=A.units+1:=by
 first | rfl | simp [Around.under,Code.cUnits,Code.frames,Code.isFrame]
theorem Room.make {k:Nat} {A:Around} (r:Room (k+1) A) (C:Addr) (us:List Value) (kw:List (Str×Value)):Room k (A.under (.builtin "type.__call__" ⟨.ref C :: us,kw⟩)):=
 ⟨r.hd,by have:=r.dp;rw [zhT];omega,by have:=r.un;rw [zhS];omega⟩
theorem Room.depth {k:Nat} {A:Around} (r:Room k A):A.depth<recursionLimit:=by have:=r.dp;omega
theorem Room.units {k:Nat} {A:Around} (r:Room k A):A.units+64<cLine:=by have:=r.un;omega
def tNil:TA:=fun _ H Q=>Q [] H
def tCons (ta:TE) (tr:TA):TA:=fun σ H Q=>ta σ H fun x H1=>tr σ H1 fun xs H2=>Q (x :: xs) H2
section
variable {X:Cx} {e:Expr} {es:List Expr} {te:TE} {t:TA} {pos:Pos}
theorem zae:PA X [] tNil:=fun _ _ _ _ H Q I h=>Calls.spliced_nil ⟨[],H,I,.nil,h⟩
theorem zaa (ha:PE X e te) (hr:PA X es t) (hs:starEach (e :: es) X.env=(false,eval e X.env) :: starEach es X.env:=by rfl):PA X (e :: es) (tCons te t):=by
 intro pos pins s σ H Q I h
 rw [hs]
 show wpAny _ _ (spliced ((false,eval e X.env) :: backTo pos (starEach es X.env))) _ _ s
 refine Calls.spliced_cons (thn (ha pins s σ H _ I h) fun u s1 ⟨x,H1,I1,r1,q1⟩=>?_)
 exact thn (hr pos pins s1 σ H1 _ I1 q1) fun us s2 ⟨xs,H2,I2,r2,q2⟩=>⟨x :: xs,H2,I2,.cons r1 r2,q2⟩
def tTup (t:TA):TE:=fun σ H Q=>t σ H fun xs H1=>xs.length≤sizeLine∧∀ p,H1 p=none→Q (.ref p) (upd H1 p (.tup xs))
def tLst (t:TA):TE:=fun σ H Q=>t σ H fun xs H1=>xs.length≤sizeLine∧∀ p,H1 p=none→Q (.ref p) (upd H1 p (.lst xs))
theorem zb4 {x1} (h:PA X es t):PE X (.Tuple es x1 pos) (tTup t):=by
 intro pins s σ H Q I hq
 refine wpAny_Tuple_spliced (thn (h pos pins s σ H _ I hq) fun us s1 ⟨xs,H1,I1,r,z,q⟩=>⟨by rw [← r.length];exact z,?_⟩)
 have hf:H1 s1.heap.objs.size=none:=I1.hok.fresh (Nat.le_refl _)
 refine ⟨.ref s1.heap.objs.size,upd H1 s1.heap.objs.size (.tup xs),I1.laid (t':=s1.toks) (fun b u e=>Heap.get?_push_of_some _ e) (Nat.le_refl _) ?_,rfl,q _ hf⟩
 exact ⟨z,us,r,⟨_,Heap.get?_push_size _ rfl,rfl,_,rfl⟩⟩
theorem zaO (h:PA X es t):PE X (.List es pos) (tLst t):=by
 intro pins s σ H Q I hq
 refine wpAny_List_spliced (thn (h pos pins s σ H _ I hq) fun us s1 ⟨xs,H1,I1,r,z,q⟩=>⟨by rw [← r.length];exact z,?_⟩)
 have hf:H1 s1.heap.objs.size=none:=I1.hok.fresh (Nat.le_refl _)
 refine ⟨.ref s1.heap.objs.size,upd H1 s1.heap.objs.size (.lst xs),I1.laid (t':=s1.toks) (fun b u e=>Heap.get?_push_of_some _ e) (Nat.le_refl _) ?_,rfl,q _ hf⟩
 exact ⟨z,us,0,r,Heap.get?_push_size _ rfl⟩
end
abbrev Sp:=List V→Hp→VK→XK→Prop
abbrev CXT:=List Env→Hp→Shared→XK→Value→Shared→Prop
structure Env0 (P:Program) (w:World) (K:PySem.W.Frag) (mg:Str→Option Value) (base:Heap) (A:Around) (outer:List Env) (s:Shared) (H:Hp):Prop where
 frames:A.frames=some outer
 mod:Mod K mg base
 bs:∀ b o,base.get? b=some o→s.heap.get? b=some o∧H b=none
 bsz:base.objs.size≤s.heap.objs.size
 funs:s.heap.FunFrames base outer
 frf:∀ b∈frs outer,H b=none
 hok:HOk P w H s.heap
 bare:AllBare s.gens
def CE (outer:List Env) (P:Program) (w:World) (H:Hp) (s:Shared) (Q:VK) (u:Value) (s':Shared):Prop:=
 ∃ v H',s'.os=s.os∧AllBare s'.gens∧Un (frs outer) [] H H' s.heap s'.heap∧HOk P w H' s'.heap∧RelV v u∧Q v H'
def CR (CX:CXT) (outer:List Env) (P:Program) (w:World) (H:Hp) (s:Shared) (Q:VK) (E:XK) (r:Result) (s':Shared):Prop:=
 match r with
 | .ok (.ret u)=>CE outer P w H s Q u s'
 | .ok _=>False
 | .error e=>CX outer H s E e s'
structure FnOk (P:Program) (w:World) (K:PySem.W.Frag) (mg:Str→Option Value) (base:Heap) (CX:CXT) (k:Nat) (f:Addr) (fd:FuncData) (ps:List Str) (sp:Sp):Prop where
 len:∀ vs H Q E,sp vs H Q E→vs.length=ps.length
 run:∀ (A:Around) (outer:List Env) (s:Shared) (H:Hp) (args:Args) (us:List Value) (vs:List V) (Q:VK) (E:XK),Room k A→Env0 P w K mg base A outer s H→BindsTo s fd args (ps.zip us)→Vals vs us→sp vs H Q E →
  codeAny (model P w) A (.call (.ref f) args) (CR CX outer P w H s Q E) s
theorem FnOk.mono {P:Program} {w:World} {K:PySem.W.Frag} {mg:Str→Option Value} {base:Heap} {CX:CXT} {j k:Nat} {f:Addr} {fd:FuncData} {ps:List Str} {sp:Sp} (F:FnOk P w K mg base CX j f fd ps sp) (h:j≤k) :
  FnOk P w K mg base CX k f fd ps sp:=⟨F.len,fun A outer s H args us vs Q E hr=>F.run A outer s H args us vs Q E (hr.mono h)⟩
theorem FnOk.imp {P:Program} {w:World} {K:PySem.W.Frag} {mg:Str→Option Value} {base:Heap} {CX:CXT} {k:Nat} {f:Addr} {fd:FuncData} {ps:List Str} {sp sp':Sp} (F:FnOk P w K mg base CX k f fd ps sp)
  (h:∀ vs H Q E,sp' vs H Q E→sp vs H Q E):FnOk P w K mg base CX k f fd ps sp':=
 ⟨fun vs H Q E q=>F.len vs H Q E (h _ _ _ _ q),fun A outer s H args us vs Q E hr he hb hv hs=>F.run A outer s H args us vs Q E hr he hb hv (h _ _ _ _ hs)⟩
theorem Env0.make {P:Program} {w:World} {K:PySem.W.Frag} {mg:Str→Option Value} {base:Heap} {A:Around} {outer:List Env} {s:Shared} {H:Hp} (e:Env0 P w K mg base A outer s H) (C:Addr) (us:List Value) (kw:List (Str×Value)) :
  Env0 P w K mg base (A.under (.builtin "type.__call__" ⟨.ref C :: us,kw⟩)) outer s H:=⟨by first | exact e.frames | (simpa [Around.under,Code.envs,Code.isFrame,pushEnvs] using e.frames),e.mod,e.bs,e.bsz,e.funs,e.frf,e.hok,e.bare⟩
theorem Env0.in1 {P:Program} {w:World} {K:PySem.W.Frag} {mg:Str→Option Value} {base:Heap} {A:Around} {outer:List Env} {s:Shared} {H:Hp} (e:Env0 P w K mg base A outer s H) :
  Env0 P w K mg base A.in1 outer s H:=⟨e.frames,e.mod,e.bs,e.bsz,e.funs,e.frf,e.hok,e.bare⟩
section
variable {X:Cx} {pins:List (Addr×Obj)} {σ:St} {H:Hp} {s s':Shared}
theorem Inv.env0 (I:Inv X pins σ H s):Env0 X.prog X.w X.K X.mg X.base X.A X.stack s H:=
 ⟨I.ok.frames,I.ok.mod,I.bs,Nat.le_trans I.ok.bsz I.sz,I.stack,I.stkFree,I.hok,I.bare⟩
theorem Inv.after {Q:VK} {u:Value} (I:Inv X pins σ H s) (h:CE X.stack X.prog X.w H s Q u s'):EP X pins σ Q u s':=by
 obtain ⟨v,H',os,bare,un,hok,r,q⟩:=h
 obtain ⟨hh,g,d,t,os'⟩:=s'
 obtain rfl:os'=s.os:=os
 exact ⟨v,H',I.call (h':=hh) (g':=g) (d':=d) (t':=t) (ch:=[]) un hok bare (fun b z=>absurd z (by simp)),r,q⟩
end
def zlr (sp:Sp) (dvs:List V) (E:XK) (t:TA):TE:=fun σ H Q=>t σ H fun vs H1=>sp (vs ++ dvs) H1 Q E
def Binds (K:PySem.W.Frag) (fd:FuncData) (ps:List Str) (ds:List Value):Prop:=
 ∀ (s:Shared) (us:List Value),K.In s.heap→(us ++ ds).length=ps.length→BindsTo s fd ⟨us,[]⟩ (ps.zip (us ++ ds))
theorem Binds.all {K:PySem.W.Frag} {fd:FuncData} {ps:List Str} (h:∀ us:List Value,us.length=ps.length→bindArgs fd ⟨us,[]⟩=pure (ps.zip us)):Binds K fd ps []:=fun s us _ hl=>by
 rw [List.append_nil] at hl ⊢
 exact .of_eq (h us hl)
def zhy (CX:CXT) (X:Cx) (E:XK):Prop:=∀ (pins:List (Addr×Obj)) (σ:St) (H:Hp) (s:Shared) (e:Value) (s':Shared),Inv X pins σ H s→CX X.stack H s E e s'→X.xe e s'
section
variable {X:Cx} {CX:CXT} {k:Nat} {f C:Addr} {fd:FuncData} {ps:List Str} {sp:Sp} {dvs:List V} {ds:List Value} {E:XK} {x m:Str} {p pos apos:Pos} {e o:Expr} {es:List Expr} {ta:TE} {t:TA}
theorem zkV {pins:List (Addr×Obj)} {σ:St} {H:Hp} {s:Shared} {Q:VK} {us:List Value} {vs:List V} (F:FnOk X.prog X.w X.K X.mg X.base CX k f fd ps sp) (hr:Room k X.A) (hb:Binds X.K fd ps ds) (hd:Vals dvs ds) (hx:zhy CX X E)
  (I:Inv X pins σ H s) (r:Vals vs us) (h:sp (vs ++ dvs) H Q E):wpAny (model X.prog X.w) X.A (call (.ref f) us) (EP X pins σ Q) X.xe s:=by
 have r2:Vals (vs ++ dvs) (us ++ ds):=r.append hd
 have hl:(us ++ ds).length=ps.length:=by rw [← r2.length];exact F.len _ _ _ _ h
 refine wpAny_call (codeAny_mono (F.run X.A X.stack s H ⟨us,[]⟩ (us ++ ds) (vs ++ dvs) Q E hr I.env0 (hb s us I.kIn hl) r2 h) fun r s' hq=>?_)
 cases r with
 | error e=>exact hx pins σ H s e s' I hq
 | ok fl =>
  cases fl with
  | ret u=>exact I.after hq
  | next=>exact False.elim hq
  | brk=>exact False.elim hq
  | cont=>exact False.elim hq
theorem zlE (F:FnOk X.prog X.w X.K X.mg X.base CX k f fd ps sp) (hr:Room k X.A) (hg:Gl X x) (hm:X.mg x=some (.ref f)) (hk:PySem.W.keepIn X.K (.ref f)=true) (hb:Binds X.K fd ps ds) (hd:Vals dvs ds) (hx:zhy CX X E)
  (ha:PA X (e :: es) t) (hdb:(x == ("__debug__" : Str))=false:=by decide) (he:starEach (e :: es) X.env=(false,eval e X.env) :: starEach es X.env:=by rfl) (hpl:(backTo pos (starEach es X.env)).any (·.1)=false:=by rfl) :
  PE X (.Call (.Name x p) (e :: es) [] pos) (zlr sp dvs E t):=by
 intro pins s σ H Q I h
 refine wpAny_Call_Name_kw (zfb I hg hm ?_ hdb)
 refine PySem.W.callWith_K (h₀:=X.base) I.ok.mod.kin hk (thn (ha pos pins s σ H _ I h) fun us s1 ⟨vs,H1,I1,r,q⟩=>⟨I1.kIn,?_⟩) he hpl
 exact zkV F hr hb hd hx I1 r q
structure Mk (K:PySem.W.Frag) (C f:Addr):Prop where
 makes:PySem.W.makesIn K C=true
 init:PySem.W.findIn K (.ref C) "__init__" = some (some (.ref f))
 fn:PySem.W.isFn K (.ref f)=true
 kp:PySem.W.keepIn K (.ref C)=true
end
section
variable {X:Cx} {CX:CXT} {k:Nat} {f C:Addr} {fd:FuncData} {ps ks:List Str} {sp:Sp} {E:XK} {x m:Str} {p pos apos kpos:Pos} {e o:Expr} {es:List Expr} {kws:List Keyword} {te ta:TE} {t tk:TA} {nm:Option Str}
structure KBinds (K:PySem.W.Frag) (fd:FuncData) (ps ks:List Str) (g:List Value→List Value→List Value) (gV:List V→List V→List V):Prop where
 to:∀ (s:Shared) (us ws:List Value),K.In s.heap→(g us ws).length=ps.length→BindsTo s fd ⟨us,ks.zip ws⟩ (ps.zip (g us ws))
 rel:∀ {vs:List V} {us:List Value} {zs:List V} {ws:List Value},Vals vs us→Vals zs ws→Vals (gV vs zs) (g us ws)
variable {g:List Value→List Value→List Value} {gV:List V→List V→List V}
theorem ziD {pins:List (Addr×Obj)} {σ:St} {H:Hp} {s:Shared} {Q:VK} {us ws:List Value} {vs zs:List V} (F:FnOk X.prog X.w X.K X.mg X.base CX k f fd ps sp) (hr:Room k X.A) (hb:KBinds X.K fd ps ks g gV) (hx:zhy CX X E)
  (I:Inv X pins σ H s) (r:Vals vs us) (rz:Vals zs ws) (h:sp (gV vs zs) H Q E):wpAny (model X.prog X.w) X.A (call (.ref f) us (ks.zip ws)) (EP X pins σ Q) X.xe s:=by
 have r2:=hb.rel r rz
 have hl:(g us ws).length=ps.length:=by rw [← r2.length];exact F.len _ _ _ _ h
 refine wpAny_call (codeAny_mono (F.run X.A X.stack s H ⟨us,ks.zip ws⟩ (g us ws) (gV vs zs) Q E hr I.env0 (hb.to s us ws I.kIn hl) r2 h) fun r s' hq=>?_)
 cases r with
 | error e=>exact hx pins σ H s e s' I hq
 | ok fl =>
  cases fl with
  | ret u=>exact I.after hq
  | next=>exact False.elim hq
  | brk=>exact False.elim hq
  | cont=>exact False.elim hq
end
structure FnScope (N P:List Str) (sc:Scope):Prop where
 kind:sc.kind = .function
 co:sc.isCoroutine=false
 gen:sc.isGenerator=false
 nd:N.Nodup
 pre:N.take P.length=P
 par:∀ x∈P,sc.names.lookup x=some .local∨sc.names.lookup x=some .cell
 nofree:∀ y∈sc.names,y.2≠.free
theorem zf5 {kindOf:Str→Option NameKind} {x:Str}:∀ {binds:List (Str×Value)} {m:Str→Option Value},(∀ v,(x,v) ∉ binds)→bindL kindOf binds m x=m x
 | [],_,_=>rfl
 | (n,v) :: r,m,h=>by
  unfold bindL
  rw [zf5 fun w hw=>h w (List.mem_cons_of_mem _ hw)]
  split
  ·have:x≠n:=by rintro rfl;exact h v List.mem_cons_self
   simp [this]
  ·rfl
theorem zf7 {kindOf:Str→Option NameKind} {x:Str}:∀ {binds:List (Str×Value)} {m:Str→Option Value},(∀ v,(x,v) ∉ binds)→bindC kindOf binds m x=m x
 | [],_,_=>rfl
 | (n,v) :: r,m,h=>by
  unfold bindC
  rw [zf7 fun w hw=>h w (List.mem_cons_of_mem _ hw)]
  split
  ·rfl
  ·have:x≠n:=by rintro rfl;exact h v List.mem_cons_self
   simp [this]
theorem zf6 {kindOf:Str→Option NameKind} {x:Str} {v:Value}:∀ {P:List Str} {vs:List Value} {i:Nat} {m:Str→Option Value},P.Nodup→P[i]? = some x→vs[i]? = some v→kindOf x=some .local →
  bindL kindOf (P.zip vs) m x=some v
 | [],_,_,_,_,h,_,_=>by simp at h
 | _ :: _,[],_,_,_,_,h,_=>by simp at h
 | p :: P,w :: vs,0,m,nd,h1,h2,hk=>by
  simp at h1 h2;subst h1;subst h2
  show bindL kindOf ((p,w) :: P.zip vs) m p=_
  unfold bindL
  rw [zf5 fun v hv=>(List.nodup_cons.mp nd).1 (List.of_mem_zip hv).1,if_pos hk]
  simp
 | p :: P,w :: vs,i+1,m,nd,h1,h2,hk=>by
  show bindL kindOf ((p,w) :: P.zip vs) m x=_
  unfold bindL
  exact zf6 (i:=i) (List.nodup_cons.mp nd).2 (by simpa using h1) (by simpa using h2) hk
theorem zf8 {kindOf:Str→Option NameKind} {x:Str} {v:Value}:∀ {P:List Str} {vs:List Value} {i:Nat} {m:Str→Option Value},P.Nodup→P[i]? = some x→vs[i]? = some v→kindOf x≠some .local →
  bindC kindOf (P.zip vs) m x=some v
 | [],_,_,_,_,h,_,_=>by simp at h
 | _ :: _,[],_,_,_,_,h,_=>by simp at h
 | p :: P,w :: vs,0,m,nd,h1,h2,hk=>by
  simp at h1 h2;subst h1;subst h2
  show bindC kindOf ((p,w) :: P.zip vs) m p=_
  unfold bindC
  rw [zf7 fun v hv=>(List.nodup_cons.mp nd).1 (List.of_mem_zip hv).1,if_neg hk]
  simp
 | p :: P,w :: vs,i+1,m,nd,h1,h2,hk=>by
  show bindC kindOf ((p,w) :: P.zip vs) m x=_
  unfold bindC
  exact zf8 (i:=i) (List.nodup_cons.mp nd).2 (by simpa using h1) (by simpa using h2) hk
def start (N:List Str) (vs:List V):St:=vs.map some ++ List.replicate (N.length - vs.length) none
def cxOf (CX:CXT) (P:Program) (w:World) (K:PySem.W.Frag) (mg:Str→Option Value) (base:Heap) (N:List Str) (qual:Str) (scope:Scope) (f:Addr) (cd:Value) (A:Around) (outer:List Env) (s:Shared) (H:Hp) (E:XK):Cx where
 prog:=P
 w:=w
 K:=K
 mg:=mg
 base:=base
 A:=A.deeper (envOfC qual scope s.heap.objs.size f cd)
 N:=N
 s₀:=s
 H₀:=H
 env:=envOfC qual scope s.heap.objs.size f cd
 outer:=outer
 stack:=envOfC qual scope s.heap.objs.size f cd :: outer
 ex:=[]
 calm:=true
 fn:=fun _=>true
 pn:=[]
 xe:=fun e s'=>wpAny (model P w) (A.deeper (envOfC qual scope s.heap.objs.size f cd)) (leaving (envOfC qual scope s.heap.objs.size f cd) e) (fun _ s''=>CX outer H s E e s'') (fun e' s''=>CX outer H s E e' s'') s'
theorem zhv {sc:Scope} {n:Nat} {x:Str} (h:sc.names.lookup x=some .cell):∃ c,(cellsFrom n sc.names []).lookup x=some c:=by
 have q:=PySem.W.cellsFrom_some sc.names n [] (.inl h)
 exact Option.isSome_iff_exists.mp q
theorem zjc {CX:CXT} {P:Program} {w:World} {K:PySem.W.Frag} {mg:Str→Option Value} {base:Heap} {N ps:List Str} {qual:Str} {scope:Scope} {f:Addr} {cd:Value} {A:Around} {outer:List Env} {s s1:Shared} {H:Hp} {E:XK} {us:List Value} {vs:List V}
  (S:FnScope N ps scope) (hd:A.handled=none) (e0:Env0 P w K mg base A outer s H) (hl:vs.length=ps.length) (r:Vals vs us)
  (x:InCallC s s.heap.objs.size (bindL (envOfC qual scope s.heap.objs.size f cd).kindOf (ps.zip us) fun _=>none) (cellsFrom (s.heap.objs.size+1) scope.names []) (bindC (envOfC qual scope s.heap.objs.size f cd).kindOf (ps.zip us) fun _=>none) s1) :
  Inv (cxOf CX P w K mg base N qual scope f cd A outer s H E) [] (start N vs) H s1:=by
 have hpl:ps.length≤N.length:=by have:=congrArg List.length S.pre;rw [List.length_take] at this;omega
 obtain ⟨h1,tk,rfl,hk⟩:=x.done
 have noA:∀ b:Addr,b ∉ (cxOf CX P w K mg base N qual scope f cd A outer s H E).ex:=fun b z=>absurd (show b∈([]:List Addr) from z) (by simp)
 refine ⟨⟨e0.mod,S.kind,rfl,rfl,Nat.le_refl _,fun y z c h1 h2=>?_,fun y hy=>?_,fun y c _ h=>?_,fun _=>hd,Around.frames_deeper e0.frames,.inr ⟨rfl,rfl⟩,fun b z=>absurd z (noA b),e0.bs,e0.bsz,fun b _ _=>noA b,fun b z=>absurd z (noA b),e0.funs,e0.frf⟩,
  rfl,e0.bare,Un.kept hk,⟨_,x.toInCall.ns,fun i y v h1 h2 h3=>?_⟩,fun y c h=>⟨_,x.cell y c h⟩,e0.hok.fresh (Nat.le_refl _),fun y c h=>?_,fun p hp=>absurd (show p∈([]:List (Addr×Obj)) from hp) (by simp),e0.hok.kept hk,?_⟩
 ·exact name_of_addr x.apart (PySem.mem_of_lookup h1) (PySem.mem_of_lookup h2)
 ·have hy:scope.names.lookup y=some .cell∨scope.names.lookup y=some .free:=hy
  rcases hy with hy | hy
  ·exact zhv hy
  ·exact absurd rfl (S.nofree _ (PySem.mem_of_lookup hy))
 ·exact Nat.le_of_lt (x.above y c (PySem.mem_of_lookup h))
 ·have hi:i<vs.length:=by
   unfold start at h2
   by_cases hi:i<vs.length
   ·exact hi
   ·rw [List.getElem?_append_right (by simpa using hi)] at h2
    rw [List.getElem?_replicate] at h2
    split at h2 <;> cases h2
  have ha:vs[i]? = some v:=by
   unfold start at h2
   rw [List.getElem?_append_left (by simpa using hi),List.getElem?_map] at h2
   cases e:vs[i]? with
   | none=>rw [e] at h2;cases h2
   | some a=>rw [e] at h2;cases h2;rfl
  obtain ⟨u,hu,rv⟩:=r.get ha
  have hp:ps[i]? = some y:=by
   rw [← S.pre,List.getElem?_take_of_lt (by omega)];exact h1
  have ndP:ps.Nodup:=by rw [← S.pre];exact S.nd.sublist (List.take_sublist _ _)
  refine ⟨u,rv,?_⟩
  rcases S.par y (List.mem_of_getElem? hp) with k | k
  ·exact .inl ⟨k,zf6 ndP hp hu k⟩
  ·obtain ⟨c,e⟩:=zhv (n:=s.heap.objs.size+1) k
   refine .inr ⟨.inl k,c,e,?_⟩
   have q:=x.cell y c e
   rw [zf8 ndP hp hu (by show scope.names.lookup y≠_;rw [k];decide)] at q
   exact q
 ·exact e0.hok.fresh (Nat.le_of_lt (x.above y c (PySem.mem_of_lookup h)))
 ·unfold start
  show _=N.length
  rw [List.length_append,List.length_map,List.length_replicate]
  omega
theorem fn_of {CX:CXT} {P:Program} {w:World} {K:PySem.W.Frag} {mg:Str→Option Value} {base:Heap} {k:Nat} {f:Addr} {name qual:Str} {params:Arguments} {body:List Stmt} {scope:Scope} {dV kV doc pm cdv ct oc:Value} {an od:Option Addr}
  {osl:Array (Option Value)} {N ps:List Str} {sp:Sp} (lk:K.lookup f=some ⟨oc,od,.func (PySem.W.fnOf name qual params body scope dV kV doc pm an cdv ct),osl⟩) (hcd:PySem.W.codeIn K cdv qual=true) (S:FnScope N ps scope)
  (len:∀ vs H Q E,sp vs H Q E→vs.length=ps.length)
  (hbody:∀ (A:Around) (outer:List Env) (s:Shared) (H:Hp) (vs:List V) (Q:VK) (E:XK),Room k (A.deeper (envOfC qual scope s.heap.objs.size f cdv))→sp vs H Q E →
   ∃ t,PSs (cxOf CX P w K mg base N qual scope f cdv A outer s H E) body t∧t { nx:=fun _ H'=>Q .non H',rt:=Q } (start N vs) H) :
  FnOk P w K mg base CX (k+1) f (PySem.W.fnOf name qual params body scope dV kV doc pm an cdv ct) ps sp:=by
 refine ⟨len,fun A outer s H args us vs Q E hr e0 hb r hsp=>?_⟩
 have hl:=len _ _ _ _ hsp
 have KX:K.In s.heap:=e0.mod.kin.keeps fun b o e=>(e0.bs b o e).1
 have lim:s.heap.NoLimit:=e0.mod.nolimit.keeps fun b o e=>(e0.bs b o e).1
 have hkind:∀ y∈ps.zip us,scope.names.lookup y.1=some .local∨(scope.names.lookup y.1=some .cell∧((cellsFrom (s.heap.objs.size+1) scope.names []).lookup y.1).isSome=true):=fun ⟨n,v⟩ hy=>by
  rcases S.par n (List.of_mem_zip hy).1 with q | q
  ·exact .inl q
  ·exact .inr ⟨q,PySem.W.cellsFrom_some _ _ _ (.inl q)⟩
 refine codeAny_call_function hr.depth (KX _ _ lk) rfl S.co S.gen rfl (PySem.W.codeRec_of KX hcd) (hb _ _ _ _ ?_)
 refine wpAny_newFunctionEnv_cells S.kind hkind fun env he s1 x=>?_
 subst he
 refine ⟨lim.keeps x.toInCall.keep,codeAny_func ?_⟩
 obtain ⟨t,ht,hq⟩:=hbody A outer s H vs Q E (hr.deeper _) hsp
 have I:Inv (cxOf CX P w K mg base N qual scope f cdv A outer s H E) [] (start N vs) H s1:=zjc S hr.hd e0 hl r x
 refine wpAny_mono (ht [] s1 (start N vs) H _ I hq) (fun fl s' hs=>?_) fun e s' hs=>hs
 have fin:∀ {σ':St} {H':Hp} {v:V} {u:Value},Inv (cxOf CX P w K mg base N qual scope f cdv A outer s H E) [] σ' H' s'→RelV v u→Q v H'→CE outer P w H s Q u s':=
  fun {σ' H' v u} J rv q=>⟨v,H',J.os,J.bare,J.base,J.hok,rv,q⟩
 cases fl with
 | ret u =>
  obtain ⟨v,σ',H',J,rv,q⟩:=hs
  exact fin J rv q
 | next =>
  obtain ⟨σ',H',J,q⟩:=hs
  exact fin (v:=V.non) (u:=Value.none) J rfl q
 | brk =>
  obtain ⟨_,_,_,q⟩:=hs
  exact False.elim q
 | cont =>
  obtain ⟨_,_,_,q⟩:=hs
  exact False.elim q
end L2
namespace L2
open PySem PySem.Spec PyProof.Rows
section
variable {X:Cx} {x:Str} {p pos:Pos} {e:Expr} {es:List Expr} {t:TA} {id T:String} {r:List V→Hp→VK→Prop}
def tCB (r:List V→Hp→VK→Prop) (t:TA):TE:=fun σ H Q=>t σ H fun vs H1=>r vs H1 Q
theorem zao (hc:zcu X (.builtin id) r) (hg:Gl X x) (hm:X.mg x=none) (hv:bootBuiltins x=some (.builtin id)) (ha:PA X (e :: es) t) (hn:x ≠ "__name__" := by decide) (hdb:(x == ("__debug__" : Str))=false:=by decide)
  (he:starEach (e :: es) X.env=(false,eval e X.env) :: starEach es X.env:=by rfl) (hpl:(backTo pos (starEach es X.env)).any (·.1)=false:=by rfl):PE X (.Call (.Name x p) (e :: es) [] pos) (tCB r t):=by
 intro pins s σ H Q I h
 refine wpAny_Call_Name_kw (zc1 I hg hm hv ?_ hn hdb)
 exact PyProof.Rows.callWith_builtin1 (thn (ha pos pins s σ H _ I h) fun us s1 ⟨vs,H1,I1,r1,q1⟩=>hc pins s1 σ H1 vs us Q I1 r1 q1) he hpl
theorem za8 (hc:zcu X (.type T) r) (hg:Gl X x) (hm:X.mg x=none) (hv:bootBuiltins x=some (.type T)) (ha:PA X (e :: es) t) (hn:x ≠ "__name__" := by decide) (hdb:(x == ("__debug__" : Str))=false:=by decide)
  (he:starEach (e :: es) X.env=(false,eval e X.env) :: starEach es X.env:=by rfl) (hpl:(backTo pos (starEach es X.env)).any (·.1)=false:=by rfl):PE X (.Call (.Name x p) (e :: es) [] pos) (tCB r t):=by
 intro pins s σ H Q I h
 refine wpAny_Call_Name_kw (zc1 I hg hm hv ?_ hn hdb)
 exact PyProof.Rows.callWith_type1 (thn (ha pos pins s σ H _ I h) fun us s1 ⟨vs,H1,I1,r1,q1⟩=>hc pins s1 σ H1 vs us Q I1 r1 q1) he hpl
end
end L2
namespace HT
open PySem PyProof.Rows
def lexLt:List Int→List Int→Bool
 | [],[]=>false
 | [],_ :: _=>true
 | _ :: _,[]=>false
 | x :: xs,y :: ys=>if x=y then lexLt xs ys else decide (x<y)
theorem zhU (x y:Int) (xs ys:List Int):lexLt (x :: xs) (y :: ys)=if x=y then lexLt xs ys else decide (x<y):=rfl
theorem zfa:lexLt [] []=false:=rfl
theorem zer (y:Int) (ys:List Int):lexLt [] (y :: ys)=true:=rfl
theorem zes (x:Int) (xs:List Int):lexLt (x :: xs) []=false:=rfl
theorem zkC (A:Around) (s:Shared) (a:Int) (t:Tok) (c:Int) (u:Tok):∃ e,SeqAt.EqAt A s (.int a t) (.int c u) e∧(e=true↔a=c):=
 ⟨(a == c),SeqAt.EqAt.int_int a t c u,by simp⟩
theorem zj5 (A:Around) (s:Shared) (a:Int) (t:Tok) (c:Int) (u:Tok) (prog:Program) (w:World) (E:Value→Shared→Prop) (Q:Value→Shared→Prop) (h:Q (.bool (decide (a<c))) s) :
  wpAny (model prog w) A (richCompare .Lt (.int a t) (.int c u)) Q E s:=
 (PyProof.Rows.lt_int h:wpAny (model prog w) A (compareOp .Lt (.int a t) (.int c u)) Q E s)
section
open PySem.SeqAt
open PySem.AutoSeq1 (wpAny_loadPart')
open PySem.MeetsSeq PySem.MeetsSeq2 PySem.MeetsSeq3
theorem zeJ (l b:Addr) (items items2:Array Value) (n n2:Nat) (dd dd2:Option Addr) (sl sl2:Array (Option Value)) (ns ms:List Int) (hi:IntsAre items.toList ns) (hj:IntsAre items2.toList ms) :
  Meets (Builtin.«tuple.__lt__» ⟨[.ref l,.ref b],[]⟩)
   (fun _ R s=>s.heap.get? l=some { cls:=.type "tuple",dict:=dd,data:=.seq items n,slots:=sl }∧s.heap.get? b=some { cls:=.type "tuple",dict:=dd2,data:=.seq items2 n2,slots:=sl2 } ∧
    R (.ok (.ret (.bool (lexLt ns ms)))) s):=
 .of_wp fun prog w A R s h=>by
  obtain ⟨hp,g,d,tk,os⟩:=s;obtain ⟨hl,hb,h⟩:=h
  have f2:=AutoSeq1.sub_tuple_tuple
  have z1:items.size=ns.length:=by rw [← hi.length];simp
  have z2:items2.size=ms.length:=by rw [← hj.length];simp
  wp_walk using wpAny_loadPart' hl,wpAny_loadPart' hb,wpAny_forIn_list _ (fun rest b s'=>b.1=none∧s'=⟨hp,g,d,tk,os⟩∧∃ (vs ws:List Value) (ns' ms':List Int),rest=vs.zip ws ∧
   IntsAre vs ns'∧IntsAre ws ms'∧ns'.length+items2.size=ms'.length+items.size∧R (.ok (.ret (.bool (lexLt ns' ms')))) ⟨hp,g,d,tk,os⟩) _
  case turn =>
   rintro ⟨y,x⟩ rest b s' ⟨hb',rfl,vs,ws,ns',ms',hz,hvi,hwi,hlen,hR⟩
   cases hvi with
   | nil=>rw [List.zip_nil_left] at hz;cases hz
   | cons a t hvi' =>
    cases hwi with
    | nil=>rw [List.zip_nil_right] at hz;cases hz
    | cons c u hwi' =>
     rw [List.zip_cons_cons] at hz
     injection hz with hyx hrest
     injection hyx with hy hx
     subst hy hx
     rw [zhU] at hR
     simp only [List.length_cons] at hlen
     obtain ⟨e,he,hiff⟩:=zkC A.in1 ⟨hp,g,d,tk,os⟩ a t c u
     refine wpAny_bind (he prog w _ _ ?_)
     cases e with
     | true =>
      rw [if_pos (hiff.mp rfl)] at hR
      wp_walk
      exact ⟨rfl,rfl,_,_,_,_,hrest,hvi',hwi',by omega,hR⟩
     | false =>
      rw [if_neg (fun q=>absurd (hiff.mpr q) Bool.false_ne_true)] at hR
      have hri:=zj5 A.in1 ⟨hp,g,d,tk,os⟩ a t c u prog w
      wp_walk using hri
      exact ⟨_,rfl,by simpa using hR⟩
  case fin =>
   rintro ⟨b1,b2⟩ s' ⟨hb',rfl,vs,ws,ns',ms',hz,hvi,hwi,hlen,hR⟩
   simp only at hb'
   subst hb'
   have hv:lexLt ns' ms'=decide (items.size<items2.size):=by
    cases hvi with
    | nil =>
     cases hwi with
     | nil =>
      simp only [List.length_nil] at hlen
      rw [zfa]
      exact (decide_eq_false (by omega)).symm
     | cons c u hw =>
      simp only [List.length_nil,List.length_cons] at hlen
      rw [zer]
      exact (decide_eq_true (by omega)).symm
    | cons a t hv =>
     cases hwi with
     | nil =>
      simp only [List.length_nil,List.length_cons] at hlen
      rw [zes]
      exact (decide_eq_false (by omega)).symm
     | cons c u hw =>
      rw [List.zip_cons_cons] at hz
      cases hz
   rw [hv] at hR
   wp_walk
   exact ⟨_,rfl,by simpa [Builtin.Tuple.tupleCompareSizes] using hR⟩
  case h =>
   exact ⟨rfl,rfl,items.toList,items2.toList,ns,ms,rfl,hi,hj,by omega,h⟩
end
section
variable {prog:Program} {w:World} {A:Around} {E:Value→Shared→Prop} {s:Shared}
theorem lt_tupInts {l b:Addr} {items items2:Array Value} {ns ms:List Int} {Q:Value→Shared→Prop} (hl:IsTup s.heap l items) (hb:IsTup s.heap b items2) (hi:IntsAre items.toList ns) (hj:IntsAre items2.toList ms)
  (hu:A.units<cLine) (h:Q (.bool (lexLt ns ms)) s):wpAny (model prog w) A (compareOp .Lt (.ref l) (.ref b)) Q E s:=by
 obtain ⟨⟨cls,dd,data,sl⟩,ho,hc,n,hd⟩:=id hl
 obtain ⟨⟨cls2,dd2,data2,sl2⟩,ho2,hc2,n2,hd2⟩:=id hb
 simp only at hc hd hc2 hd2
 subst hc hd hc2 hd2
 exact richCompare_meets_room (op:=.Lt) ⟨_,ho,rfl⟩ ⟨_,ho2,rfl⟩ PySem.F.slot_tuple_lt PySem.F.entry_tuple_lt (PySem.F.args_tuple_lt_2 _ _) (zeJ l b items items2 n n2 dd dd2 sl sl2 ns ms hi hj)
  ⟨ho,ho2,show Value.bool (lexLt ns ms)≠Value.notImplemented∧Q (.bool (lexLt ns ms)) s from ⟨(fun x=>nomatch x),h⟩⟩ hu
def sIx (n d:Nat):Option Int→Nat
 | none=>d
 | some v=>if v<0 then (v+(n:Int)).toNat else min v.toNat n
theorem sIx_none (n d:Nat):sIx n d none=d:=rfl
theorem sIx_nat (n d k:Nat):sIx n d (some (k:Int))=min k n:=by
 show (if (k:Int)<0 then ((k:Int)+(n:Int)).toNat else min (k:Int).toNat n)=min k n
 rw [if_neg (by omega),Int.toNat_natCast]
theorem sIx_le (n d:Nat) (hd:d≤n) (o:Option Int):sIx n d o≤n:=by
 cases o with
 | none=>exact hd
 | some v =>
  show (if v<0 then (v+(n:Int)).toNat else min v.toNat n)≤n
  by_cases hv:v<0
  ·rw [if_pos hv];omega
  ·rw [if_neg hv];exact Nat.min_le_right _ _
theorem zjy (v:Int) (n d:Nat):(if v<0 then max (v+(n:Int)) 0 else min v (n:Int))=((sIx n d (some v):Nat):Int):=by
 show (if v<0 then max (v+(n:Int)) 0 else min v (n:Int))=(((if v<0 then (v+(n:Int)).toNat else min v.toNat n):Nat):Int)
 by_cases hv:v<0
 ·simp only [if_pos hv];omega
 ·simp only [if_neg hv];omega
theorem zh8 (lo hi:Option Int) (n:Nat):Builtin.Slice.sliceAdjust lo hi 1 (n:Int)=(((sIx n 0 lo:Nat):Int),((sIx n n hi:Nat):Int)):=by
 have h1:¬ ((1:Int)<0):=by omega
 unfold Builtin.Slice.sliceAdjust
 simp only [h1,if_false]
 refine Prod.ext ?_ ?_
 ·cases lo with
  | none=>rfl
  | some v=>exact zjy v n 0
 ·cases hi with
  | none=>rfl
  | some v=>exact zjy v n n
theorem zhG (i j:Nat):Builtin.Slice.slicePlaces (i:Int) (j:Int) 1=j - i:=by
 unfold Builtin.Slice.slicePlaces
 have h1:(1:Int) > 0:=by omega
 simp only [h1,if_true,Int.ediv_one]
 split <;> omega
theorem zew {v:Value} {o:Option Int} {Q:Option Int→Shared→Prop} (p:IsPart v o) (h:Q o s):wpAny (model prog w) A (Builtin.Slice.slicePartIndex v) Q E s:=by
 cases p with
 | none=>exact slicePart_none h
 | int i t=>exact slicePart_int h
theorem zbQ {sl:Addr} {vl vu:Value} {lo hi:Option Int} {n:Nat} {Q:Int×Int×Nat→Shared→Prop} (hs:s.heap.IsSliceOf sl vl vu .none) (pl:IsPart vl lo) (pu:IsPart vu hi)
  (h:Q (((sIx n 0 lo:Nat):Int),1,sIx n n hi - sIx n 0 lo) s):wpAny (model prog w) A (Builtin.Slice.sliceApplied (.ref sl) (pure (n:Int))) Q E s:=by
 obtain ⟨os,hos,hcs,hds⟩:=id hs
 unfold Builtin.Slice.sliceApplied Builtin.Slice.sliceFields
 refine wpAny_bind (wpAny_bind (wpAny_field hos hds (x:=vl) rfl (wpAny_bind (wpAny_field hos hds (x:=vu) rfl (wpAny_bind (wpAny_field hos hds (x:=.none) rfl (wpAny_pure ?_)))))))
 refine wpAny_bind (slicePart_none ?_)
 show wpAny _ _ (if ((1:Int) == 0)=true then _ else _) _ _ s
 rw [if_neg (by decide)]
 refine wpAny_bind (zew pl (wpAny_bind (zew pu (wpAny_bind (wpAny_pure ?_)))))
 show wpAny _ _ (match Builtin.Slice.sliceAdjust lo hi 1 (n:Int) with | (lo,hi)=>pure (lo,(1:Int),Builtin.Slice.slicePlaces lo hi 1)) _ _ s
 rw [zh8 lo hi n]
 show wpAny _ _ (pure (((sIx n 0 lo:Nat):Int),(1:Int),Builtin.Slice.slicePlaces ((sIx n 0 lo:Nat):Int) ((sIx n n hi:Nat):Int) 1)) _ _ s
 rw [zhG]
 exact wpAny_pure h
theorem zka (xs:Array Value) (i k:Nat):((List.range k).filterMap fun (m:Nat)=>xs[((i:Int)+(m:Int) * 1).toNat]?).toArray=((xs.toList.drop i).take k).toArray:=by
 have e:(fun (m:Nat)=>xs[((i:Int)+(m:Int) * 1).toNat]?)=fun m=>xs[i+m]?:=by
  funext m
  have:((i:Int)+(m:Int) * 1).toNat=i+m:=by omega
  rw [this]
 rw [e]
 have:=pick_run xs i k
 rw [List.filterMap_map] at this
 have e2:((fun x=>xs[x]?) ∘ fun x=>i+x)=fun m=>xs[i+m]?:=rfl
 rw [e2] at this
 rw [this]
theorem getItem_tuple_cut {t sl:Addr} {items:Array Value} {vl vu:Value} {lo hi:Option Int} {Q:Value→Shared→Prop} (ht:IsTup s.heap t items) (hs:s.heap.IsSliceOf sl vl vu .none) (pl:IsPart vl lo) (pu:IsPart vu hi)
  (hw:¬ (sIx items.size 0 lo=0∧sIx items.size items.size hi=items.size))
  (h:Q (.ref s.heap.objs.size) { s with heap:=s.heap.push { cls:=.type "tuple",data:=.seq ((items.toList.drop (sIx items.size 0 lo)).take (sIx items.size items.size hi - sIx items.size 0 lo)).toArray } })
  (hsz:items.size≤sizeLine):wpAny (model prog w) A (getItem (.ref t) (.ref sl)) Q E s:=by
 have htake:sizeOk (.seq ((items.toList.drop (sIx items.size 0 lo)).take (sIx items.size items.size hi - sIx items.size 0 lo)).toArray):=by
  show ((items.toList.drop (sIx items.size 0 lo)).take (sIx items.size items.size hi - sIx items.size 0 lo)).toArray.size≤sizeLine
  rw [List.size_toArray,List.length_take,List.length_drop,Array.length_toList]
  omega
 have hj:sIx items.size items.size hi≤items.size:=sIx_le _ _ (Nat.le_refl _) hi
 obtain ⟨os,hos,hcs,hds⟩:=id hs
 have hTs:s.TypeIs (.ref sl) "slice" := ⟨os,hos,hcs⟩
 unfold getItem
 try with_reducible refine wpAny_holding ?_
 first | refine wpAny_bind (wpAny_pure ?_) | skip
 refine wpAny_bind (wpAny_sequenceKey ht.typeIs (by decide) ?_)
 refine wpAny_bind (wpAny_callSpecial?_slot (name:=Str.ofString "__getitem__") ht.typeIs PyProof.Rows.slot_tuple_getitem
  (wpAny_call_entry PyProof.Rows.slot_tuple_getitem ht.typeIs entry_tuple_getitem ?_ (args_tuple_getitem _ _)))
 show wpAny _ _ (Builtin.Tuple.tupleItemsOf (.ref t) >>= _) _ _ s
 refine wpAny_bind (tupleItemsOf_ ht ?_)
 refine wpAny_bind (wpAny_typeOf hTs ?_)
 rw [if_pos (by decide)]
 refine wpAny_bind (zbQ hs pl pu ?_)
 have hno:¬ ((((sIx items.size 0 lo:Nat):Int) == 0 && (1:Int) == 1 && (sIx items.size items.size hi - sIx items.size 0 lo) == items.size)=true):=by
  intro q
  rw [Bool.and_eq_true,Bool.and_eq_true] at q
  have q1:((sIx items.size 0 lo:Nat):Int)=0:=eq_of_beq q.1.1
  have q2:sIx items.size items.size hi - sIx items.size 0 lo=items.size:=eq_of_beq q.2
  exact hw ⟨by omega,by omega⟩
 show wpAny _ _ (if (((sIx items.size 0 lo:Nat):Int) == 0 && (1:Int) == 1 && (sIx items.size items.size hi - sIx items.size 0 lo) == items.size)=true then _ else _) _ _ s
 rw [if_neg hno,zka]
 first
  | exact wpAny_bind (m:=Builtin.Tuple.tupleExact _) (wpAny_newObj_type (wpAny_pure ⟨_,rfl,wpAny_pure h⟩) htake)
  | exact wpAny_bind (m:=Builtin.Tuple.tupleExact _) (wpAny_newObj_type (wpAny_bind (wpAny_pure (wpAny_pure ⟨_,rfl,wpAny_pure h⟩))) htake)
  | exact wpAny_bind (wpAny_bind (m:=Builtin.Tuple.tupleExact _) (wpAny_newObj_type (wpAny_pure (wpAny_pure ⟨_,rfl,wpAny_pure h⟩)) htake))
  | exact wpAny_bind (wpAny_bind (m:=Builtin.Tuple.tupleExact _) (wpAny_newObj_type (wpAny_pure ⟨_,rfl,wpAny_pure h⟩) htake))
end
end HT
namespace L2
open PySem PySem.Spec PyProof.Rows
abbrev TO:=St→Hp→(Option Int→Hp→Prop)→Prop
def PO (X:Cx) (e:Option Expr) (t:TO):Prop:=
 ∀ (pins:List (Addr×Obj)) (s:Shared) (σ:St) (H:Hp) (Q:Option Int→Hp→Prop),Inv X pins σ H s→t σ H Q →
  wpAny (model X.prog X.w) X.A (evalPart e X.env) (fun u s'=>∃ o H',Inv X pins σ H' s'∧IsPart u o∧Q o H') X.xe s
def zlq:TO:=fun _ H Q=>Q none H
def tPart (t:TE):TO:=fun σ H Q=>t σ H fun x H1=>∃ i,x = .int i∧Q (some i) H1
theorem zeB {ns:List Int}:∀ {us:List Value},Vals (ns.map V.int) us→IntsAre us ns:=by
 induction ns with
 | nil=>intro us r;rw [List.map_nil] at r;cases r;exact .nil
 | cons n ns ih =>
  intro us r
  rw [List.map_cons] at r
  cases r with
  | cons r1 r2 =>
   obtain ⟨t,e⟩:=r1
   subst e
   exact .cons n t (ih r2)
section
variable {X:Cx} {e:Expr} {te:TE} {lo hi:Option Expr} {tl th:TO} {pos p2:Pos}
theorem zdW:PO X none zlq:=by
 intro pins s σ H Q I h
 rw [evalPart_none]
 exact wpAny_pure ⟨none,H,I,.none,h⟩
theorem zdV (h:PE X e te):PO X (some e) (tPart te):=by
 intro pins s σ H Q I hw
 rw [evalPart_some]
 refine thn (h pins s σ H _ I hw) fun u s1 ⟨x,H1,I1,r1,q1⟩=>?_
 obtain ⟨i,rfl,q⟩:=q1
 obtain ⟨t,rfl⟩:=r1
 exact ⟨some i,H1,I1,.int i t,q⟩
def SlR (X:Cx) (r:V→Option Int→Option Int→Hp→VK→Prop):Prop:=
 ∀ (pins:List (Addr×Obj)) (s:Shared) (σ:St) (H:Hp) (x:V) (v vl vu:Value) (lo hi:Option Int) (sl:Addr) (Q:VK),Inv X pins σ H s→RelV x v→s.heap.IsSliceOf sl vl vu .none→IsPart vl lo→IsPart vu hi→r x lo hi H Q →
  ∃ T id,typeLookup (.type T) "__getitem__" = pure (some (.builtin id))∧s.TypeIs v T∧wpAny (model X.prog X.w) X.A (getItem v (.ref sl)) (EP X pins σ Q) X.xe s
def tSl (r:V→Option Int→Option Int→Hp→VK→Prop) (te:TE) (tl th:TO):TE:=fun σ H Q=>te σ H fun x H1=>tl σ H1 fun l H2=>th σ H2 fun u H3=>r x l u H3 Q
theorem zcA {r:V→Option Int→Option Int→Hp→VK→Prop} (hr:SlR X r) (he:PE X e te) (hl:PO X lo tl) (hu:PO X hi th):PE X (.Subscript e (.Slice lo hi none p2) pos) (tSl r te tl th):=by
 intro pins s σ H Q I h
 refine Subscript_ (thn (he pins s σ H _ I h) fun v s1 ⟨x,H1,I1,r1,q1⟩=>?_)
 refine wpAny_Slice (thn (hl pins s1 σ H1 _ I1 q1) fun vl s2 ⟨l,H2,I2,pl,q2⟩=>thn (hu pins s2 σ H2 _ I2 q2) fun vu s3 ⟨u,H3,I3,pu,q3⟩=>?_)
 rw [evalPart_none]
 refine wpAny_pure ?_
 have I4:Inv X pins σ H3 { s3 with heap:=s3.heap.push { cls:=.type "slice",data:=.fields #[vl,vu,.none] } }:=I3.kept (t':=s3.toks) fun b ob q=>Heap.get?_push_of_some _ q
 obtain ⟨T,id,hT,ht,hg⟩:=hr pins { s3 with heap:=s3.heap.push { cls:=.type "slice",data:=.fields #[vl,vu,.none] } } σ H3 x v vl vu l u s3.heap.objs.size Q I4 r1 (Heap.IsSliceOf.new ..) pl pu q3
 show wpAny (model X.prog X.w) X.A (subscriptTail e (.Slice lo hi none p2) v (.ref s3.heap.objs.size)) (EP X pins σ Q) X.xe { s3 with heap:=s3.heap.push { cls:=.type "slice",data:=.fields #[vl,vu,.none] } }
 exact tail_any (ops:=[.ref s3.heap.objs.size,v]) ht hT hg (by with_unfolding_all rfl)
def cutV (xs:List V) (lo hi:Option Int):List V:=(xs.drop (HT.sIx xs.length 0 lo)).take (HT.sIx xs.length xs.length hi - HT.sIx xs.length 0 lo)
theorem zel (xs:List V) (lo hi:Option Int):(cutV xs lo hi).length≤xs.length:=by
 unfold cutV
 rw [List.length_take,List.length_drop]
 omega
def rSlT (K:PySem.W.Frag):V→Option Int→Option Int→Hp→VK→Prop:=fun x lo hi H Q=>∃ a xs,x = .ref a∧SqT K H a xs ∧
 ¬ (HT.sIx xs.length 0 lo=0∧HT.sIx xs.length xs.length hi=xs.length)∧∀ p,H p=none→Q (.ref p) (upd H p (.tup (cutV xs lo hi)))
theorem sl_tup:SlR X (rSlT X.K):=by
 intro pins s σ H x v vl vu lo hi sl Q I rx hs pl pu h
 obtain ⟨a,xs,rfl,hx,hw,q⟩:=h
 cases rx
 obtain ⟨its,r,ht,hz⟩:=I.tuple hx
 have hlen:its.toArray.size=xs.length:=by rw [List.size_toArray];exact r.length.symm
 refine ⟨"tuple",_,PyProof.Rows.slot_tuple_getitem.lookup,ht.typeIs,?_⟩
 refine HT.getItem_tuple_cut ht hs pl pu (by rw [hlen];exact hw) ?_ (by rw [hlen];exact hz)
 rw [hlen]
 refine ⟨.ref s.heap.objs.size,_,I.laid (t':=s.toks) (o:=.tup (cutV xs lo hi)) (fun b ob q=>Heap.get?_push_of_some _ q) (Nat.le_refl _) ?_,rfl,q _ (I.hok.fresh (Nat.le_refl _))⟩
 exact ⟨Nat.le_trans (zel xs lo hi) hz,_,(r.drop (HT.sIx xs.length 0 lo)).take (HT.sIx xs.length xs.length hi - HT.sIx xs.length 0 lo),IsTup.new _ _⟩
theorem Vals.nil_iff {xs:List V} {us:List Value} (r:Vals xs us):us=[]↔xs=[]:=by
 cases r with
 | nil=>simp
 | cons _ _=>simp
end
end L2
namespace L2
open PySem PySem.Spec PyProof.Rows
def ixN (n:Nat) (i:Int):Option Nat:=if 0≤i then (if i<n then some i.toNat else none) else if -(n:Int)≤i then some (i+n).toNat else none
def atI {α:Type} (xs:List α) (i:Int):Option α:=(ixN xs.length i).bind fun j=>xs[j]?
theorem zjb {n:Nat} {i:Int} {j:Nat} (h:ixN n i=some j):seqIndex? i n=some j∧j<n∧-(n:Int)≤i∧i<n:=by
 unfold ixN at h
 by_cases h0:0≤i
 ·rw [if_pos h0] at h
  by_cases h1:i<n
  ·rw [if_pos h1] at h
   have e:i.toNat=j:=Option.some.inj h
   exact ⟨by rw [seqIndex_of h0 h1,e],by omega,by omega,h1⟩
  ·rw [if_neg h1] at h;cases h
 ·rw [if_neg h0] at h
  by_cases h1:-(n:Int)≤i
  ·rw [if_pos h1] at h
   have e:(i+n).toNat=j:=Option.some.inj h
   exact ⟨by rw [seqIndex_neg (by omega) h1,e],by omega,h1,by omega⟩
  ·rw [if_neg h1] at h;cases h
theorem zjH {α:Type} {xs:List α} {i:Int} {v:α} (h:atI xs i=some v):∃ j,seqIndex? i xs.length=some j∧xs[j]? = some v∧j<xs.length∧-(xs.length:Int)≤i∧i<xs.length:=by
 unfold atI at h
 cases e:ixN xs.length i with
 | none=>rw [e] at h;cases h
 | some j =>
  rw [e] at h
  obtain ⟨h1,h2,h3,h4⟩:=zjb e
  exact ⟨j,h1,h,h2,h3,h4⟩
theorem zaF {α:Type} {xs:List α} {j:Nat} {v:α} (h:xs[j]? = some v):atI xs (j:Int)=some v:=by
 have hj:j<xs.length:=(List.getElem?_eq_some_iff.mp h).1
 have e:ixN xs.length (j:Int)=some j:=by
  unfold ixN
  rw [if_pos (by omega),if_pos (by omega)];simp
 unfold atI;rw [e];exact h
theorem zkM {α:Type} (xs:List α) (v:α):atI (xs ++ [v]) (-1)=some v:=by
 have hl:(xs ++ [v]).length=xs.length+1:=by simp
 have e:ixN (xs ++ [v]).length (-1)=some xs.length:=by
  unfold ixN
  rw [hl,if_neg (by decide),if_pos (by omega)]
  congr 1
  omega
 unfold atI
 rw [e]
 show (xs ++ [v])[xs.length]? = some v
 simp
def zmb (b:Expr):Prop:=∀ o i,subscripted b false o i=operate [o,i] (getItem o i)
def IxR (X:Cx) (r:R2):Prop:=
 ∀ (value slice:Expr) (pins:List (Addr×Obj)) (s:Shared) (σ:St) (H:Hp) (x y:V) (v u:Value) (Q:VK),Inv X pins σ H s→RelV x v→RelV y u→r x y H Q →
  subscripted slice false v u=operate [v,u] (getItem v u)→wpAny (model X.prog X.w) X.A (subscriptTail value slice v u) (EP X pins σ Q) X.xe s
def MtR (X:Cx) (id:String) (r:V→List V→Hp→VK→Prop):Prop:=
 ∀ (pins:List (Addr×Obj)) (s:Shared) (σ:St) (H:Hp) (x:V) (xs:List V) (v:Value) (us:List Value) (Q:VK),Inv X pins σ H s→RelV x v→Vals xs us→r x xs H Q →
  wpAny (model X.prog X.w) X.A (call (.builtin id) (v :: us)) (EP X pins σ Q) X.xe s
section
variable {X:Cx} {a b:Expr} {ta tb:TE} {pos:Pos}
theorem zal {r:R2} (hr:IxR X r) (ha:PE X a ta) (hb:PE X b tb) (hs:zmb b):PE X (.Subscript a b pos) (tOp r ta tb):=by
 intro pins s σ H Q I h
 exact Subscript_ (binT ha hb I h fun v u s2 x y H2 I2 rx ry q=>hr a b pins s2 σ H2 x y v u Q I2 rx ry q (hs _ _))
def rIxL (K:PySem.W.Frag):R2:=fun x y H Q=>∃ p xs i v,x = .ref p∧y = .int i∧SqL K H p xs∧atI xs i=some v∧Q v H
def rIxT (K:PySem.W.Frag):R2:=fun x y H Q=>∃ p xs i v,x = .ref p∧y = .int i∧SqT K H p xs∧atI xs i=some v∧Q v H
theorem zas:IxR X (rIxL X.K):=by
 intro value slice pins s σ H x y v u Q I rx ry h hs
 obtain ⟨p,xs,i,z,rfl,rfl,hq,he,q⟩:=h
 cases rx
 obtain ⟨t,rfl⟩:=ry
 obtain ⟨its,r,pl,hz⟩:=I.list hq
 obtain ⟨j,h1,h2,h3,h4,h5⟩:=zjH he
 obtain ⟨w,ew,rw'⟩:=r.get h2
 have hl:=r.length
 have hn:=zfL
 have fin:EP X pins σ Q w s:=⟨z,H,I,rw',q⟩
 by_cases h0:0≤i
 ·have hj:i.toNat=j:=by
   rw [seqIndex_of h0 h5] at h1
   exact Option.some.inj h1
  exact item_listR pl.isList h0 (by omega) (by rw [hj];simpa using ew) fin hs
 ·have hj:(i+(its.toArray.size:Int)).toNat=j:=by
   rw [seqIndex_neg (by omega) h4] at h1
   rw [List.size_toArray,← hl]
   exact Option.some.inj h1
  exact subscriptTail_builtinR (x:=w) pl.isList.typeIs slot_list_getitem.lookup
   (wpAny_getItem_list_neg (Q:=fun r s'=>r=w∧EP X pins σ Q r s') pl.isList (by omega) (by rw [List.size_toArray] <;> omega) (by omega) (by rw [hj];simpa using ew) ⟨rfl,fin⟩) hs
theorem zap:IxR X (rIxT X.K):=by
 intro value slice pins s σ H x y v u Q I rx ry h hs
 obtain ⟨p,xs,i,z,rfl,rfl,hq,he,q⟩:=h
 cases rx
 obtain ⟨t,rfl⟩:=ry
 obtain ⟨its,r,pl,hz⟩:=I.tuple hq
 obtain ⟨j,h1,h2,h3,h4,h5⟩:=zjH he
 obtain ⟨w,ew,rw'⟩:=r.get h2
 have hl:=r.length
 have hn:=zfL
 have fin:EP X pins σ Q w s:=⟨z,H,I,rw',q⟩
 exact subscriptTail_builtinR (x:=w) pl.typeIs slot_tuple_getitem.lookup
  (getItem_tuple (j:=j) (Q:=fun r s'=>r=w∧EP X pins σ Q r s') pl (by omega) (by omega) (by rw [List.size_toArray,← hl];exact h1) (by simpa using ew) ⟨rfl,fin⟩) hs
theorem zhR (its:List Value) (n j:Nat) (u:Value):Obj.mapSeq (·.setIfInBounds j u) { cls:=.type "list",data:=.seq its.toArray n }={ cls:=.type "list",data:=.seq (its.set j u).toArray n }:=by
 simp [Obj.mapSeq]
theorem Inv.lst {pins:List (Addr×Obj)} {σ:St} {H:Hp} {s:Shared} {p:Addr} {xs:List V} (I:Inv X pins σ H s) (h:H p=some (.lst xs)) :
  ∃ (its:List Value) (n:Nat),Vals xs its∧s.heap.get? p=some { cls:=.type "list",data:=.seq its.toArray n }∧xs.length≤sizeLine:=by
 obtain ⟨z,its,n,r,e⟩:=I.hok p _ h
 exact ⟨its,n,r,e,z⟩
theorem Inv.lstUpd {pins:List (Addr×Obj)} {σ:St} {H:Hp} {s:Shared} {p:Addr} {xs ys:List V} {its its':List Value} {n n':Nat} {f:Obj→Obj} (I:Inv X pins σ H s) (h:H p=some (.lst xs))
  (ho:s.heap.get? p=some { cls:=.type "list",data:=.seq its.toArray n }) (hf:f { cls:=.type "list",data:=.seq its.toArray n }={ cls:=.type "list",data:=.seq its'.toArray n' }) (r:Vals ys its') (hz:ys.length≤sizeLine) (t:Nat) :
  Inv X pins σ (upd H p (.lst ys)) { s with heap:=s.heap.update p f,toks:=t }:=by
 have e:(s.heap.update p f).get? p=some { cls:=.type "list",data:=.seq its'.toArray n' }:=by
  rw [Heap.get?_update_self f ho (by rw [hf] <;> rfl),hf]
 refine I.write (x:=p) (e:=p) (by rw [h];trivial) (.inl rfl) (fun b u hb q=>(Heap.get?_update_other _ _ (Ne.symm hb)).trans q) ⟨_,e⟩ ?_
 exact ⟨hz,its',n',r,e⟩
def rSetL:V→V→V→Hp→(Hp→Prop)→Prop:=fun o i v H Q=>∃ p xs k j,o = .ref p∧i = .int k∧H p=some (.lst xs)∧ixN xs.length k=some j∧Q (upd H p (.lst (xs.set j v)))
theorem zdl:PSet X rSetL:=by
 intro pins s σ H o i v ov iv u Q I ro ri rv h
 obtain ⟨p,xs,k,j,rfl,rfl,hp,hj,q⟩:=h
 cases ro
 obtain ⟨t,rfl⟩:=ri
 obtain ⟨its,n,r,ho,hz⟩:=I.lst hp
 obtain ⟨h1,h2,h3,h4⟩:=zjb hj
 have hl:=r.length
 have hn:=zfL
 have I':Inv X pins σ (upd H p (.lst (xs.set j v))) { s with heap:=s.heap.update p (Obj.mapSeq (·.setIfInBounds j u)) }:=
  I.lstUpd hp ho (zhR its n j u) (r.set rv j) (by rw [List.length_set];exact hz) s.toks
 by_cases h0:0≤k
 ·have hk:k.toNat=j:=by
   rw [seqIndex_of h0 h4] at h1
   exact Option.some.inj h1
  exact PySem.W.ki_setAt ho h0 (by omega) (by rw [List.size_toArray,← hl];exact h4) (by rw [hk];exact ⟨_,I',q⟩)
 ·have hk:(k+(its.toArray.size:Int)).toNat=j:=by
   rw [seqIndex_neg (by omega) h3] at h1
   rw [List.size_toArray,← hl]
   exact Option.some.inj h1
  exact PySem.W.ki_setBack ho (by omega) (by rw [List.size_toArray,← hl];exact h3) (by omega) (by rw [hk];exact ⟨_,I',q⟩)
theorem zfs (lo hi:Option Int) (n:Nat):(sliceBounds lo hi none n).1=((HT.sIx n 0 lo:Nat):Int)∧(sliceBounds lo hi none n).2.1=((HT.sIx n n hi:Nat):Int)∧(sliceBounds lo hi none n).2.2=1:=by
 refine ⟨?_,?_,rfl⟩
 ·cases lo with
  | none=>simp [sliceBounds,HT.sIx]
  | some i =>
   simp only [sliceBounds,HT.sIx,Option.getD_none,show (1:Int) > 0 by decide,if_true]
   by_cases h:i<0
   ·simp only [h,if_true] <;> omega
   ·simp only [h,if_false] <;> omega
 ·cases hi with
  | none=>simp [sliceBounds,HT.sIx]
  | some i =>
   simp only [sliceBounds,HT.sIx,Option.getD_none,show (1:Int) > 0 by decide,if_true]
   by_cases h:i<0
   ·simp only [h,if_true] <;> omega
   ·simp only [h,if_false] <;> omega
theorem zeS (its:List Value) (lo hi:Option Int):slicePick its.toArray lo hi none=((its.drop (HT.sIx its.length 0 lo)).take (HT.sIx its.length its.length hi - HT.sIx its.length 0 lo)).toArray:=by
 obtain ⟨h1,h2,h3⟩:=zfs lo hi its.toArray.size
 unfold slicePick
 rw [h1,h2,h3]
 simp only [sliceRange_one,pick_run,List.size_toArray] <;> rfl
def rSlL (K:PySem.W.Frag):V→Option Int→Option Int→Hp→VK→Prop:=fun x lo hi H Q=>∃ a xs,x = .ref a∧SqL K H a xs∧∀ p,H p=none→Q (.ref p) (upd H p (.lst (cutV xs lo hi)))
theorem zgo:SlR X (rSlL X.K):=by
 intro pins s σ H x v vl vu lo hi sl Q I rx hs pl pu h
 obtain ⟨a,xs,rfl,hx,q⟩:=h
 cases rx
 obtain ⟨its,r,ht,hz⟩:=I.list hx
 have hlen:=r.length
 refine ⟨"list",_,slot_list_getitem.lookup,ht.isList.typeIs,?_⟩
 refine wpAny_getItem_list_slice ht.isList hs pl pu .none (by simp) ?_ (by rw [List.size_toArray] <;> omega)
 rw [zeS,← hlen]
 refine ⟨.ref s.heap.objs.size,_,I.laid (t':=s.toks) (o:=.lst (cutV xs lo hi)) (fun b ob q=>Heap.get?_push_of_some _ q) (Nat.le_refl _) ?_,rfl,q _ (I.hok.fresh (Nat.le_refl _))⟩
 exact ⟨Nat.le_trans (zel xs lo hi) hz,_,0,(r.drop (HT.sIx xs.length 0 lo)).take (HT.sIx xs.length xs.length hi - HT.sIx xs.length 0 lo),Heap.get?_push_size _ rfl⟩
theorem zaA:zcu X (.builtin "len") (fun xs H Q=>∃ p ys,xs=[.ref p]∧(SqL X.K H p ys∨SqT X.K H p ys)∧Q (.int ys.length) H):=by
 intro pins s σ H xs us Q I r h
 obtain ⟨p,ys,rfl,hq,q⟩:=h
 obtain ⟨u,rfl,rx⟩:=zc4 r
 cases rx
 have hn:=zfL
 rcases hq with hq | hq
 ·obtain ⟨its,r',pl,hz⟩:=I.list hq
  have hlen:=r'.length
  exact Calls.call_len_list pl.isList (by simp only [List.size_toArray] <;> omega) ⟨.int ys.length,H,I.tok _,⟨s.toks+1,by rw [List.size_toArray,hlen]⟩,q⟩
 ·obtain ⟨its,r',pl,hz⟩:=I.tuple hq
  have hlen:=r'.length
  exact len_tuple pl (by simp only [List.size_toArray] <;> omega) ⟨.int ys.length,H,I.tok _,⟨s.toks+1,by rw [List.size_toArray,hlen]⟩,q⟩
theorem zbx:zcu X (.type "list") (fun xs H Q=>∃ p ys,xs=[.ref p]∧(SqL X.K H p ys∨SqT X.K H p ys)∧∀ l,H l=none→Q (.ref l) (upd H l (.lst ys))):=by
 intro pins s σ H xs us Q I r h
 obtain ⟨p,ys,rfl,hq,q⟩:=h
 obtain ⟨u,rfl,rx⟩:=zc4 r
 cases rx
 have fin:∀ (its:List Value),Vals ys its→ys.length≤sizeLine→∀ (h':Heap) (c':Nat),(∀ b o',s.heap.get? b=some o'→h'.get? b=some o') →
   h'.get? s.heap.objs.size=some { cls:=.type "list",dict:=none,data:=.seq its.toArray c',slots:=#[] }→EP X pins σ Q (.ref s.heap.objs.size) { s with heap:=h' }:=fun its r' hz h' c' kp e =>
  ⟨.ref s.heap.objs.size,_,I.laid (t':=s.toks) kp (Nat.le_refl _) (show ObjOk X.prog X.w _ h' _ (.lst ys) from ⟨hz,its,c',r',e⟩),rfl,q _ (I.hok.fresh (Nat.le_refl _))⟩
 rcases hq with hq | hq
 ·obtain ⟨its,r',pl,hz⟩:=I.list hq
  have hlen:=r'.length
  obtain ⟨o,ho,hc,n,hd⟩:=pl.isList
  exact call_list_seq p (.inl rfl) ho hc hd (fun h' c' kp e=>fin its r' hz h' c' kp e) (by simp only [List.size_toArray] <;> omega)
 ·obtain ⟨its,r',pl,hz⟩:=I.tuple hq
  have hlen:=r'.length
  obtain ⟨o,ho,hc,n,hd⟩:=pl
  exact call_list_seq p (.inr rfl) ho hc hd (fun h' c' kp e=>fin its r' hz h' c' kp e) (by simp only [List.size_toArray] <;> omega)
theorem zbP:zcu X (.type "tuple") (fun xs H Q=>∃ p ys,xs=[.ref p]∧((SqL X.K H p ys∧∀ l,H l=none→Q (.ref l) (upd H l (.tup ys)))∨(SqT X.K H p ys∧Q (.ref p) H))):=by
 intro pins s σ H xs us Q I r h
 obtain ⟨p,ys,rfl,h⟩:=h
 obtain ⟨u,rfl,rx⟩:=zc4 r
 cases rx
 rcases h with ⟨hq,q⟩ | ⟨hq,q⟩
 ·obtain ⟨its,r',pl,hz⟩:=I.list hq
  have hlen:=r'.length
  refine call_tuple_list pl.isList (fun h' kp=>?_) (by simp only [List.size_toArray] <;> omega)
  have I1:Inv X pins σ H { s with heap:=h' }:=I.kept (t':=s.toks) kp
  have I2:Inv X pins σ (upd H h'.objs.size (.tup ys)) { s with heap:=h'.push { cls:=.type "tuple",data:=.seq its.toArray } }:=
   I1.laid (t':=s.toks) (fun b o e=>Heap.get?_push_of_some _ e) (Nat.le_refl _) (show ObjOk X.prog X.w _ _ _ (.tup ys) from ⟨hz,its,r',IsTup.new _ _⟩)
  exact ⟨.ref h'.objs.size,_,I2,rfl,q _ (I1.hok.fresh (Nat.le_refl _))⟩
 ·obtain ⟨its,r',pl,hz⟩:=I.tuple hq
  exact call_tuple_same pl ⟨.ref p,H,I,rfl,q⟩
def tyV (K:PySem.W.Frag) (T:String) (x:V) (H:Hp):Prop:=match x with
 | .str _=>T = "str"
 | .int _=>T = "int"
 | .ref p=>(T = "list" ∧ ∃ xs,SqL K H p xs)∨(T = "tuple" ∧ ∃ o,K.lookup p=some o∧o.cls = .type "tuple" ∧ o.dict=none) ∨
   (T = "dict" ∧ ((∃ kvs,H p=some (.dK kvs))∨∃ kvs,H p=some (.dT kvs)))∨(T = "set" ∧ ∃ S n,H p=some (.set S n))
 | _=>False
theorem zkQ {pins:List (Addr×Obj)} {σ:St} {H:Hp} {s:Shared} {T:String} {x:V} {v:Value} (I:Inv X pins σ H s) (r:RelV x v) (ty:tyV X.K T x H) :
  s.TypeIs v T∧∀ a,v = .ref a→∃ ob,s.heap.get? a=some ob∧ob.dict=none:=by
 cases x with
 | str z =>
  obtain ⟨t,rfl⟩:=r
  cases (show T = "str" from ty)
  exact ⟨typeIs_str s z t,fun _ e=>nomatch e⟩
 | int i =>
  obtain ⟨t,rfl⟩:=r
  cases (show T = "int" from ty)
  exact ⟨typeIs_int s i t,fun _ e=>nomatch e⟩
 | ref p =>
  cases r
  rcases ty with ⟨rfl,xs,hq⟩ | ⟨rfl,o,hk,hc,hd⟩ | ⟨rfl,hk⟩ | ⟨rfl,S,n,hk⟩
  ·obtain ⟨its,_,pl,_⟩:=I.list hq
   refine ⟨pl.isList.typeIs,fun a e=>?_⟩
   cases e
   obtain ⟨o,n,e,c,hd,_⟩:=pl
   exact ⟨o,e,hd⟩
  ·refine ⟨⟨o,I.kIn p o hk,hc⟩,fun a e=>?_⟩
   cases e
   exact ⟨o,I.kIn _ o hk,hd⟩
  ·have z:∃ o,s.heap.get? p=some o∧o.ExactDict:=by
    rcases hk with ⟨kvs,hk⟩ | ⟨kvs,hk⟩
    ·obtain ⟨_,_,_,_,o,_,_,e,ex,_⟩:=I.hok p _ hk
     exact ⟨o,e,ex⟩
    ·obtain ⟨_,_,_,_,o,_,_,e,ex,_⟩:=I.hok p _ hk
     exact ⟨o,e,ex⟩
   obtain ⟨o,e,ex⟩:=z
   refine ⟨⟨o,e,ex.1⟩,fun a e2=>?_⟩
   cases e2
   exact ⟨o,e,ex.2.1⟩
  ·obtain ⟨o,_,_,_,e,ex,_⟩:=I.hok p _ hk
   refine ⟨⟨o,e,ex.1⟩,fun a e2=>?_⟩
   cases e2
   exact ⟨o,e,ex.2.1⟩
 | _=>exact False.elim ty
def tBM0 (K:PySem.W.Frag) (T:String) (r:V→List V→Hp→VK→Prop) (to:TE):TE:=fun σ H Q=>to σ H fun x H1=>tyV K T x H1∧r x [] H1 Q
def tBM (K:PySem.W.Frag) (T:String) (r:V→List V→Hp→VK→Prop) (to:TE) (t:TA):TE:=fun σ H Q=>to σ H fun x H1=>tyV K T x H1∧t σ H1 fun xs H2=>r x xs H2 Q
variable {o e:Expr} {es:List Expr} {to:TE} {t:TA} {name:Str} {apos cpos:Pos} {T id:String} {r:V→List V→Hp→VK→Prop}
theorem zk0 (pa:PlainAttrs T) (slot:Slot T name id) (hty:typeOf (.builtin id)=pure (.type "method_descriptor")) (hm:MtR X id r) (ho:PE X o to)
  (hbase:attributeBase o name X.env (eval o X.env)=eval o X.env:=by rfl) (hline:(apos.endLine == cpos.line)=true:=by rfl):PE X (.Call (.Attribute o name apos) [] [] cpos) (tBM0 X.K T r to):=by
 intro pins s σ H Q I h
 refine wpAny_Call_method0_late hbase hline (thn (ho pins s σ H _ I h) fun v s1 ⟨x,H1,I1,r1,ty,q1⟩=>?_)
 obtain ⟨h1,h2⟩:=zkQ I1 r1 ty
 exact ⟨T,id,pa,slot,hty,h1,h2,Calls.callWith_builtin rfl (PySem.evalArgs_none (hm pins s1 σ H1 x [] v [] Q I1 r1 .nil q1))⟩
theorem zc9 (pa:PlainAttrs T) (slot:Slot T name id) (hty:typeOf (.builtin id)=pure (.type "method_descriptor")) (hm:MtR X id r) (ho:PE X o to) (ha:PA X (e :: es) t)
  (hbase:attributeBase o name X.env (eval o X.env)=eval o X.env:=by rfl)
  (hfew:((backTo cpos (starEach (e :: es) X.env)).all (fun x=>!x.1) && (backToKw cpos (keywordEach [] X.env)).all (fun x=>x.1.isSome)
   && decide ((e :: es).length+([]:List Keyword).length+(if ([]:List Keyword).isEmpty then 0 else 1)<30))=true:=by rfl)
  (hline:(apos.endLine == cpos.line)=true:=by rfl) (hs:starEach (e :: es) X.env=(false,eval e X.env) :: starEach es X.env:=by rfl) (hplain:(backTo cpos (starEach es X.env)).any (·.1)=false:=by rfl) :
  PE X (.Call (.Attribute o name apos) (e :: es) [] cpos) (tBM X.K T r to t):=by
 intro pins s σ H Q I h
 refine wpAny_Call_method_late hbase hfew hline rfl (thn (ho pins s σ H _ I h) fun v s1 ⟨x,H1,I1,r1,ty,q1⟩=>?_)
 obtain ⟨h1,h2⟩:=zkQ I1 r1 ty
 refine ⟨T,id,pa,slot,hty,h1,h2,?_⟩
 have hA:=ha cpos pins s1 σ H1 _ I1 q1
 rw [hs] at hA ⊢
 refine Calls.callWith_builtin (by show (false || (backTo cpos (starEach es X.env)).any (·.1))=false;rw [hplain] <;> rfl) (Calls.evalArgs_plain ?_)
 exact thn hA fun us s2 ⟨vs,H2,I2,r2,q2⟩=>hm pins s2 σ H2 x vs v us Q I2 r1 r2 q2
end
end L2
namespace L2
open PySem PySem.Spec PyProof.Rows
def MtM (X:Cx) (id:String) (r:V→List V→Hp→VK→Prop):Prop:=
 ∀ (pins:List (Addr×Obj)) (s:Shared) (σ:St) (H:Hp) (x:V) (xs:List V) (v:Value) (us:List Value) (Q:VK),Inv X pins σ H s→RelV x v→Vals xs us→r x xs H Q →
  wpAny (model X.prog X.w) X.A (call (.builtin id) (v :: us)) (EP X pins σ Q) X.xe s
theorem Vals.one:∀ {x:V} {us:List Value},Vals [x] us→∃ u,us=[u]∧RelV x u
 | _,_,.cons r .nil=>⟨_,rfl,r⟩
theorem Vals.zero:∀ {us:List Value},Vals [] us→us=[]
 | _,.nil=>rfl
theorem Vals.eraseIdx:∀ {xs:List V} {us:List Value} (i:Nat),Vals xs us→Vals (xs.eraseIdx i) (us.eraseIdx i)
 | _,_,_,.nil=>.nil
 | _,_,0,.cons _ t=>t
 | _,_,i+1,.cons r t=>.cons r (Vals.eraseIdx i t)
theorem Vals.rep {xs:List V} {us:List Value} (h:Vals xs us):∀ k:Nat,Vals (List.replicate k xs).flatten (List.replicate k us).flatten
 | 0=>.nil
 | k+1=>by
  rw [List.replicate_succ,List.replicate_succ,List.flatten_cons,List.flatten_cons]
  exact Vals.append h (Vals.rep h k)
theorem zfM {α:Type}:∀ (l:List α) (i:Nat),(l.eraseIdx i).length≤l.length
 | [],_=>Nat.le_refl _
 | _ :: _,0=>Nat.le_succ _
 | _ :: r,i+1=>Nat.succ_le_succ (zfM r i)
theorem zfT (its:List Value):∀ (k:Nat) (acc:List Value),
  List.foldl (fun x1 x2=>x1 ++ x2) acc.toArray (List.replicate k its.toArray)=(acc ++ (List.replicate k its).flatten).toArray
 | 0,acc=>by simp
 | k+1,acc=>by
  have e:acc.toArray ++ its.toArray=(acc ++ its).toArray:=by simp
  have e2:(acc ++ its) ++ (List.replicate k its).flatten=acc ++ (List.replicate (k+1) its).flatten:=by
   rw [List.replicate_succ,List.flatten_cons,List.append_assoc]
  rw [← e2,← zfT its k (acc ++ its),← e,List.replicate_succ,List.foldl_cons]
section
variable {X:Cx} {pins:List (Addr×Obj)} {σ:St} {H:Hp} {s:Shared} {l b:Addr} {xs ys zs:List V}
theorem Inv.lset {its its':List Value} {n:Nat} {f:Array Value→Array Value} {t':Nat} (I:Inv X pins σ H s) (hH:H l=some (.lst xs))
  (e:s.heap.get? l=some { cls:=.type "list",data:=.seq its.toArray n }) (hf:f its.toArray=its'.toArray) (hv:Vals ys its') (hz:ys.length≤sizeLine) :
  Inv X pins σ (upd H l (.lst ys)) { s with heap:=s.heap.update l (Obj.mapSeq f),toks:=t' }:=by
 have q:=PySem.IsL.update e f
 rw [hf] at q
 refine I.write (x:=l) (e:=l) (by rw [hH];exact trivial) (.inl rfl) (fun b' u hb hu=>(Heap.get?_update_other s.heap (Obj.mapSeq f) (Ne.symm hb)).trans hu) ⟨_,q⟩ ?_
 exact ⟨hz,its',_,hv,q⟩
theorem Inv.lnew {its:List Value} {t':Nat} (I:Inv X pins σ H s) (hv:Vals ys its) (hz:ys.length≤sizeLine) :
  Inv X pins σ (upd H s.heap.objs.size (.lst ys)) { s with heap:=s.heap.push { cls:=.type "list",data:=.seq its.toArray },toks:=t' }:=
 I.laid (fun _ _ q=>Heap.get?_push_of_some _ q) (Nat.le_refl _) ⟨hz,its,0,hv,Heap.get?_push_size _ rfl⟩
theorem Inv.fresh (I:Inv X pins σ H s):H s.heap.objs.size=none:=I.hok.fresh (Nat.le_refl _)
theorem Inv.lstM (I:Inv X pins σ H s) (hH:H l=some (.lst xs)):xs.length≤sizeLine∧∃ (its:List Value) (n:Nat),Vals xs its∧xs.length=its.length∧s.heap.get? l=some { cls:=.type "list",data:=.seq its.toArray n }:=by
 obtain ⟨z,its,n,r,e⟩:=I.hok l _ hH
 exact ⟨z,its,n,r,r.length,e⟩
theorem zkh {n:Nat} (h:n≤sizeLine):Builtin.List.listTooLong n=false:=by
 unfold Builtin.List.listTooLong
 exact decide_eq_false (by omega)
end
section
variable {X:Cx}
def zlA:V→List V→Hp→VK→Prop:=fun x vs H Q=>∃ l xs y,x = .ref l∧vs=[y]∧H l=some (.lst xs)∧xs.length<sizeLine∧Q .non (upd H l (.lst (xs ++ [y])))
theorem zaT:MtM X "list.append" zlA:=by
 intro pins s σ H x vs v us Q I rx rv h
 obtain ⟨l,xs,y,rfl,rfl,hH,hz,q⟩:=h
 cases rx
 obtain ⟨u,rfl,ru⟩:=rv.one
 obtain ⟨z,its,n,r,hl,e⟩:=I.lstM hH
 refine call_meets F.slot_list_append ⟨_,e,rfl⟩ F.entry_list_append (F.args_list_append_2 _ _) (PySem.list_append l its.toArray n u (by rw [List.size_toArray];omega)) ⟨e,?_⟩
 refine ⟨.non,_,I.lset (its':=its ++ [u]) hH e (by simp) (r.append (.cons ru .nil)) ?_,rfl,q⟩
 rw [List.length_append,List.length_singleton]
 omega
def rPopAt:V→List V→Hp→VK→Prop:=fun x vs H Q=>∃ l xs i k y,x = .ref l∧vs=[.int i]∧H l=some (.lst xs)∧-(2 ^ 63)≤i∧i<2 ^ 63∧seqIndex? i xs.length=some k∧xs[k]? = some y∧Q y (upd H l (.lst (xs.eraseIdx k)))
theorem zki:MtM X "list.pop" rPopAt:=by
 intro pins s σ H x vs v us Q I rx rv h
 obtain ⟨l,xs,i,k,y,rfl,rfl,hH,h1,h2,hk,hy,q⟩:=h
 cases rx
 obtain ⟨u,rfl,ru⟩:=rv.one
 obtain ⟨t,rfl⟩:=ru
 obtain ⟨z,its,n,r,hl,e⟩:=I.lstM hH
 obtain ⟨w,hw,rw'⟩:=r.get hy
 refine call_meets F.slot_list_pop ⟨_,e,rfl⟩ F.entry_list_pop (F.args_list_pop_2 _ _)
  (MeetsSeq.list_pop_at l its.toArray n i t k w (fitsIndex_both h1 h2) (by rw [List.size_toArray,← hl];exact hk) (by rw [← Array.getElem?_toList];exact hw) (by rw [List.size_toArray];omega)) ⟨e,?_⟩
 refine ⟨y,_,I.lset (its':=its.eraseIdx k) hH e ?_ (r.eraseIdx k) ?_,rw',q⟩
 ·show its.toArray.eraseIdxIfInBounds k=(its.eraseIdx k).toArray
  rw [List.eraseIdxIfInBounds_toArray]
 ·have:=zfM xs k
  omega
def rRep:R2:=fun x y H Q=>∃ l k xs,x = .ref l∧y = .int k∧H l=some (.lst xs)∧-(2 ^ 63)≤k∧k<2 ^ 63∧xs.length * k.toNat≤sizeLine ∧
 ∀ p,H p=none→Q (.ref p) (upd H p (.lst (List.replicate k.toNat xs).flatten))
theorem zlQ {α:Type} (xs:List α) (k:Nat):(List.replicate k xs).flatten.length=k * xs.length:=by
 induction k with
 | zero=>simp
 | succ k ih=>rw [List.replicate_succ,List.flatten_cons,List.length_append,ih,Nat.succ_mul,Nat.add_comm]
theorem op_rep:OpR X (binaryOp .Mult) rRep:=by
 intro pins s σ H x y v u Q I rx ry h
 obtain ⟨l,k,xs,rfl,rfl,hH,h1,h2,hz,q⟩:=h
 cases rx
 obtain ⟨t,rfl⟩:=ry
 obtain ⟨z,its,n,r,hl,e⟩:=I.lstM hH
 have hlen:its.toArray.size * k.toNat≤sizeLine:=by rw [List.size_toArray,← hl];exact hz
 have hcap:¬ its.toArray.size * k.toNat > (2 ^ 63 - 1) / 8:=by
  have:(sizeLine:Nat)≤(2 ^ 63 - 1) / 8:=by decide
  omega
 have hfit:¬ (!Builtin.List.listFitsIndex k)=true:=by
  rw [fitsIndex_both h1 h2]
  exact Bool.false_ne_true
 have hlong:¬ Builtin.List.listTooLong (its.toArray.size * k.toNat)=true:=by
  rw [zkh hlen]
  exact Bool.false_ne_true
 have hnew:List.foldl (fun x1 x2=>x1 ++ x2) #[] (List.replicate (if its.toArray.isEmpty=true then 0 else k.toNat) its.toArray)=(List.replicate k.toNat its).flatten.toArray:=by
  have f0:∀ m:Nat,List.foldl (fun x1 x2=>x1 ++ x2) #[] (List.replicate m its.toArray)=(List.replicate m its).flatten.toArray:=fun m=>by
   have:=zfT its m []
   rw [List.nil_append] at this
   exact this
  rw [f0]
  cases its with
  | nil=>simp
  | cons a r'=>rw [if_neg (by simp)]
 refine wpAny_binaryOp_repeat_ref (T := "list") (U := "int") (by decide) ⟨_,e,rfl⟩ (fun s'=>typeIs_int s' k t) noFill_list_mul F.fills_int_mul F.slot_int_rmul repeat_list F.slot_int_index.lookup
  (call_meets F.slot_int_rmul (typeIs_int s k t) F.entry_int_rmul (F.args_int_rmul_2 _ _) (int___rmul___int_list k t l its.toArray n)
   ⟨e,rfl,⟨_,e,rfl⟩,call_meets F.slot_list_mul ⟨_,e,rfl⟩ F.entry_list_mul (F.args_list_mul_2 _ _) (AutoListH.list___mul___list_int_3 l its.toArray n k t hfit hcap hlong) ⟨e,?_⟩⟩)
 rw [hnew]
 exact ⟨.ref _,_,I.lnew (t':=s.toks) (r.rep k.toNat) (by rw [zlQ,Nat.mul_comm];exact hz),rfl,q _ I.fresh⟩
end
section
variable {prog:Program} {w:World} {A:Around} {E:Value→Shared→Prop} {s:Shared}
end
section
variable {X:Cx}
end
end L2
namespace L2
open PySem PySem.Spec PyProof.Rows
section
variable {κ:Type} [DecidableEq κ]
def valV (kvs:List (κ×V)) (k:κ):Option V:=(kvs.find? fun kv=>decide (kv.1=k)).map (·.2)
def putK (kvs:List (κ×V)) (k:κ) (v:V):List (κ×V):=
 if (kvs.any fun kv=>decide (kv.1=k))=true then kvs.map (fun kv=>if kv.1=k then (kv.1,v) else kv) else kvs ++ [(k,v)]
theorem zaZ {p:κ×V} {r:List (κ×V)} {k:κ} (e:p.1=k):valV (p :: r) k=some p.2:=by simp [valV,List.find?_cons,e]
theorem za0 {p:κ×V} {r:List (κ×V)} {k:κ} (e:¬ p.1=k):valV (p :: r) k=valV r k:=by simp [valV,List.find?_cons,e]
theorem zdg (k:κ):∀ kvs:List (κ×V),(kvs.any fun kv=>decide (kv.1=k))=(valV kvs k).isSome
 | []=>rfl
 | p :: r=>by
  rw [List.any_cons]
  by_cases e:p.1=k
  ·simp only [zaZ e,decide_eq_true e,Bool.true_or,Option.isSome_some]
  ·rw [za0 e,decide_eq_false e,Bool.false_or];exact zdg k r
theorem zg2 (k j:κ) (y:V):∀ kvs:List (κ×V),valV (kvs.map fun kv=>if kv.1=k then (kv.1,y) else kv) j=(valV kvs j).map fun x=>if j=k then y else x
 | []=>rfl
 | p :: r=>by
  have ih:=zg2 k j y r
  rw [List.map_cons]
  by_cases h:p.1=k
  ·rw [if_pos h]
   by_cases e:p.1=j
   ·rw [zaZ (p:=(p.1,y)) e,zaZ e,Option.map_some,if_pos (e.symm.trans h)]
   ·rw [za0 (p:=(p.1,y)) e,za0 e,ih]
  ·rw [if_neg h]
   by_cases e:p.1=j
   ·rw [zaZ (p:=p) e,zaZ e,Option.map_some,if_neg (fun z=>h (e.trans z))]
   ·rw [za0 (p:=p) e,za0 e,ih]
theorem zfo (k j:κ) (y:V):∀ kvs:List (κ×V),valV kvs k=none→valV (kvs ++ [(k,y)]) j=if j=k then some y else valV kvs j
 | [],_=>by
  by_cases e:k=j
  ·rw [if_pos e.symm];exact zaZ (p:=(k,y)) e
  ·rw [if_neg (fun z=>e z.symm)];exact za0 (p:=(k,y)) e
 | p :: r,hn=>by
  rw [List.cons_append]
  have hk:¬ p.1=k:=fun z=>by rw [zaZ z] at hn;cases hn
  rw [za0 hk] at hn
  have ih:=zfo k j y r hn
  by_cases e:p.1=j
  ·rw [zaZ e,zaZ e,if_neg (fun z=>hk (e.trans z))]
  ·rw [za0 e,za0 e,ih]
theorem zjP (kvs:List (κ×V)) (k j:κ) (y:V):valV (putK kvs k y) j=if j=k then some y else valV kvs j:=by
 unfold putK
 by_cases a:(kvs.any fun kv=>decide (kv.1=k))=true
 ·rw [if_pos a,zg2]
  rw [zdg] at a
  by_cases e:j=k
  ·obtain ⟨x,hx⟩:=Option.isSome_iff_exists.mp a
   rw [if_pos e,e,hx,Option.map_some,if_pos rfl]
  ·rw [if_neg e]
   cases valV kvs j with
   | none=>rfl
   | some x=>rw [Option.map_some,if_neg e]
 ·rw [if_neg a]
  refine zfo k j y kvs ?_
  rw [zdg] at a
  cases q:valV kvs k with
  | none=>rfl
  | some x=>rw [q] at a;exact (a rfl).elim
theorem zed (kvs:List (κ×V)) (k:κ) (v:V):(putK kvs k v).length≤kvs.length+1:=by
 unfold putK
 split
 ·rw [List.length_map];omega
 ·rw [List.length_append,List.length_cons,List.length_nil];omega
theorem RelO.isSome_eq {o:Option V} {u:Option Value} (r:RelO o u):o.isSome=u.isSome:=by
 cases o with
 | none=>cases u with
  | none=>rfl
  | some _=>exact (show False from r).elim
 | some _=>cases u with
  | none=>exact (show False from r).elim
  | some _=>rfl
theorem RelO.getD {o:Option V} {u:Option Value} {d:V} {d':Value} (r:RelO o u) (rd:RelV d d'):RelV (o.getD d) (u.getD d'):=by
 cases o with
 | none=>cases u with
  | none=>exact rd
  | some _=>exact (show False from r).elim
 | some _=>cases u with
  | none=>exact (show False from r).elim
  | some _=>exact r
theorem KV.val {kvs:List (κ×V)} {vs:List (κ×Value)} (r:KV kvs vs) (k:κ):RelO (valV kvs k) (valueAt vs k):=by
 unfold KV at r
 induction r with
 | nil=>exact True.intro
 | @cons p q ps qs h t ih =>
  obtain ⟨h1,h2⟩:=h
  by_cases e:p.1=k
  ·have e':q.1=k:=h1.symm.trans e
   have b:valueAt (q :: qs) k=some q.2:=by simp [valueAt,List.find?_cons,e']
   rw [zaZ e,b];exact h2
  ·have e':¬ q.1=k:=fun z=>e (h1.trans z)
   have b:valueAt (q :: qs) k=valueAt qs k:=by simp [valueAt,List.find?_cons,e']
   rw [za0 e,b];exact ih
theorem KV.any {kvs:List (κ×V)} {vs:List (κ×Value)} (r:KV kvs vs) (k:κ):(kvs.any fun kv=>decide (kv.1=k))=vs.any fun kv=>decide (kv.1=k):=by
 unfold KV at r
 induction r with
 | nil=>rfl
 | cons h t ih=>rw [List.any_cons,List.any_cons,ih,h.1]
theorem KV.repl {kvs:List (κ×V)} {vs:List (κ×Value)} (r:KV kvs vs) (k:κ) {y:V} {u:Value} (ry:RelV y u) :
  KV (kvs.map fun kv=>if kv.1=k then (kv.1,y) else kv) (vs.map fun kv=>if kv.1=k then (kv.1,u) else kv):=by
 unfold KV at r ⊢
 induction r with
 | nil=>exact .nil
 | @cons p q ps qs h t ih =>
  rw [List.map_cons,List.map_cons]
  refine .cons ?_ ih
  obtain ⟨h1,h2⟩:=h
  by_cases e:p.1=k
  ·rw [if_pos e,if_pos (h1.symm.trans e)];exact ⟨h1,ry⟩
  ·rw [if_neg e,if_neg (fun z=>e (h1.trans z))];exact ⟨h1,h2⟩
theorem KV.put {kvs:List (κ×V)} {vs:List (κ×Value)} (r:KV kvs vs) (k:κ) {y:V} {u:Value} (ry:RelV y u):KV (putK kvs k y) (stored vs k u):=by
 unfold putK stored
 rw [r.any k]
 by_cases e:(vs.any fun kv=>decide (kv.1=k))=true
 ·rw [if_pos e,if_pos e];exact r.repl k ry
 ·rw [if_neg e,if_neg e];exact Paired.snoc r ⟨rfl,ry⟩
theorem KV.length {kvs:List (κ×V)} {vs:List (κ×Value)} (r:KV kvs vs):kvs.length=vs.length:=Paired.length r
end
theorem zku {P:Program} {w:World} {k:Key} {u:Value} (r:RelV (kV k) u):(zaH P w).is k u=true:=by
 cases k with
 | inl i=>obtain ⟨t,e⟩:=(show ∃ t,u=Value.int i t from r);subst e;exact zgQ P w i t
 | inr x=>obtain ⟨t,e⟩:=(show ∃ t,u=Value.str x t from r);subst e;exact zgP P w x t
theorem zfO {P:Program} {w:World}:∀ {ks:List Key} {us:List Value},Vals (ks.map kV) us→ItemsAre (zaH P w) ks us
 | [],_,r=>by rw [List.map_nil] at r;cases r;exact .nil
 | k :: ks,_,r=>by
  rw [List.map_cons] at r
  cases r with
  | cons h t=>exact .cons (zku h) (zfO t)
abbrev KT (H:Hp):List (List Key×V)→List (List Key×Addr×Value)→Prop:=Paired fun p q=>p.1=q.1∧H q.2.1=some (.tup (p.1.map kV))∧RelV p.2 q.2.2
theorem KT.val {H:Hp} {kvs:List (List Key×V)} {xs:List (List Key×Addr×Value)} (r:KT H kvs xs) (k:List Key):RelO (valV kvs k) ((atKey xs k).map (·.2)):=by
 induction r with
 | nil=>exact True.intro
 | @cons p q ps qs h t ih =>
  obtain ⟨h1,_,h2⟩:=h
  by_cases e:p.1=k
  ·have e':q.1=k:=h1.symm.trans e
   have b:atKey (q :: qs) k=some q.2:=by simp [atKey,List.find?_cons,e']
   rw [zaZ e,b];exact h2
  ·have e':¬ q.1=k:=fun z=>e (h1.trans z)
   have b:atKey (q :: qs) k=atKey qs k:=by simp [atKey,List.find?_cons,e']
   rw [za0 e,b];exact ih
theorem KT.repl {H:Hp} {kvs:List (List Key×V)} {xs:List (List Key×Addr×Value)} (r:KT H kvs xs) (k:List Key) {y:V} {u:Value} (ry:RelV y u) :
  KT H (kvs.map fun kv=>if kv.1=k then (kv.1,y) else kv) (xs.map (putAt k u)):=by
 induction r with
 | nil=>exact .nil
 | @cons p q ps qs h t ih =>
  rw [List.map_cons,List.map_cons]
  refine .cons ?_ ih
  obtain ⟨h1,h2,h3⟩:=h
  unfold putAt
  by_cases e:p.1=k
  ·rw [if_pos e,if_pos (h1.symm.trans e)];exact ⟨h1,h2,ry⟩
  ·rw [if_neg e,if_neg (fun z=>e (h1.trans z))];exact ⟨h1,h2,h3⟩
theorem KT.put {H:Hp} {kvs:List (List Key×V)} {xs:List (List Key×Addr×Value)} (r:KT H kvs xs) (k:List Key) {b:Addr} {y:V} {u:Value} (hb:H b=some (.tup (k.map kV))) (ry:RelV y u) :
  KT H (putK kvs k y) (storedH xs k b u):=by
 have e:(kvs.any fun kv=>decide (kv.1=k))=(atKey xs k).isSome:=by
  rw [zdg,(r.val k).isSome_eq,Option.isSome_map]
 unfold putK storedH
 rw [e]
 by_cases q:(atKey xs k).isSome=true
 ·rw [if_pos q,if_pos q];exact r.repl k ry
 ·rw [if_neg q,if_neg q];exact Paired.snoc r ⟨rfl,hb,ry⟩
theorem KT.keeps {H H':Hp} {kvs:List (List Key×V)} {xs:List (List Key×Addr×Value)} (r:KT H kvs xs) (ht:∀ b ys,H b=some (.tup ys)→H' b=some (.tup ys)):KT H' kvs xs:=
 Paired.mapP r fun _ _ z=>⟨z.1,ht _ _ z.2.1,z.2.2⟩
section
variable {P:Program} {w:World} {H:Hp} {h:Heap} {a:Addr}
theorem rd_of {u:HO} (ok:HOk P w H h) (e:Rd H a u):ObjOk P w H h a u:=e.ok ok
theorem zl4 {kvs:List (Key×V)} (ok:HOk P w H h) (e:Rd H a (.dK kvs)):kvs.length≤sizeLine∧(a == sysModules)=false∧∃ vs,KV kvs vs∧h.DictOf (zaH P w) a vs:=
 show ObjOk P w H h a (.dK kvs) from rd_of ok e
theorem zjn {kvs:List (Key×V)} (ok:HOk P w H h) (e:H a=some (.dK kvs)):kvs.length≤sizeLine∧(a == sysModules)=false∧∃ vs,KV kvs vs∧h.DictOf (zaH P w) a vs:=zl4 ok (.inl e)
theorem zi8 {ks:List Key} (ok:HOk P w H h) (e:H a=some (.tup (ks.map kV))):(tupleKind (zaH P w)).is h ks a:=by
 obtain ⟨_,its,r,o,h1,h2,n,h3⟩:=(show ObjOk P w H h a (.tup (ks.map kV)) from ok a _ e)
 exact ⟨o,its.toArray,n,h1,h2,h3,by simpa using zfO r⟩
theorem zl2 {kvs:List (List Key×V)} (ok:HOk P w H h) (e:Rd H a (.dT kvs)):kvs.length≤sizeLine∧(a == sysModules)=false ∧
  ∃ xs,KT H kvs xs∧h.DictOfH (tupleKind (zaH P w)) a xs:=by
 obtain ⟨z,y,xs,r,o,es,ep,h1,h2,h3,h4,h5⟩:=(show ObjOk P w H h a (.dT kvs) from rd_of ok e)
 refine ⟨z,y,xs,r,o,es,ep,h1,h2,h3,h4,fun x hx=>?_,h5⟩
 have all:∀ {l:List (List Key×V)} {m:List (List Key×Addr×Value)},KT H l m→∀ x∈m,(tupleKind (zaH P w)).is h x.1 x.2.1:=by
  intro l m q
  induction q with
  | nil=>intro x hx;exact nomatch hx
  | @cons p q ps qs hq t ih =>
   intro x hx
   rcases List.mem_cons.mp hx with e | hx
   ·subst e
    exact zi8 ok (by rw [← hq.1];exact hq.2.1)
   ·exact ih x hx
 exact all r x hx
theorem dt_of {kvs:List (List Key×V)} (ok:HOk P w H h) (e:H a=some (.dT kvs)):kvs.length≤sizeLine∧(a == sysModules)=false ∧
  ∃ xs,KT H kvs xs∧h.DictOfH (tupleKind (zaH P w)) a xs:=zl2 ok (.inl e)
end
def DGet (H:Hp) (a:Addr) (y:V) (r:Option V):Prop:=
 (∃ kvs k,Rd H a (.dK kvs)∧y=kV k∧r=valV kvs k)∨∃ kvs k b,Rd H a (.dT kvs)∧y = .ref b∧H b=some (.tup (k.map kV))∧r=valV kvs k
def DPut (H:Hp) (a:Addr) (y v:V) (H':Hp):Prop:=
 (∃ kvs k,H a=some (.dK kvs)∧y=kV k∧kvs.length<sizeLine∧H'=upd H a (.dK (putK kvs k v))) ∨
 ∃ kvs k b,H a=some (.dT kvs)∧y = .ref b∧H b=some (.tup (k.map kV))∧kvs.length<sizeLine∧H'=upd H a (.dT (putK kvs k v))
theorem DGet.k {H:Hp} {a:Addr} {kvs:List (Key×V)} {k:Key} (e:H a=some (.dK kvs)):DGet H a (kV k) (valV kvs k):=.inl ⟨kvs,k,.inl e,rfl,rfl⟩
theorem DPut.k {H:Hp} {a:Addr} {kvs:List (Key×V)} {k:Key} {v:V} (e:H a=some (.dK kvs)) (hl:kvs.length<sizeLine):DPut H a (kV k) v (upd H a (.dK (putK kvs k v))):=.inl ⟨kvs,k,e,rfl,hl,rfl⟩
section
variable {X:Cx} {pins:List (Addr×Obj)} {σ:St} {H:Hp} {s:Shared} {a:Addr} {y v:V} {u r:Value} {o:Option V} {A:Around} {E:Value→Shared→Prop}
theorem Inv.big (I:Inv X pins σ H s):sysModules<s.heap.objs.size:=by
 have h:mainGlobals<s.heap.objs.size:=(I.mod.glob.keeps I.bk).lt
 exact Nat.lt_trans (by decide) h
theorem zjr {h':Heap} {t':Nat} {ob:HO} (I:Inv X pins σ H s) (mu:Mut (H a)) (hs:Heap.SameBut a s.heap h') (he:∃ q,h'.get? a=some q) (new:ObjOk X.prog X.w (upd H a ob) h' a ob) :
  Inv X pins σ (upd H a ob) { s with heap:=h',toks:=t' }:=
 I.write (x:=a) (e:=a) mu (.inl rfl) (fun b q hb z=>(hs.2 b hb).trans z) he new
theorem dk_new {P:Program} {w:World} {H':Hp} {h':Heap} {kvs:List (Key×V)} {vs:List (Key×Value)} (z:kvs.length≤sizeLine) (hd:(a == sysModules)=false) (rel:KV kvs vs) (dd:h'.DictOf (zaH P w) a vs) :
  ObjOk P w H' h' a (.dK kvs):=⟨z,hd,vs,rel,dd⟩
theorem zjs {H':Hp} {Q:Unit→Shared→Prop} (hu:A.units+1<cLine) (I:Inv X pins σ H s) (g:DPut H a y v H') (ry:RelV y u) (rv:RelV v r) (h:∀ s',Inv X pins σ H' s'→Q () s') :
  wpAny (model X.prog X.w) A (setItem (.ref a) u r) Q E s:=by
 rcases g with ⟨kvs,k,e,ey,l,eH⟩ | ⟨kvs,k,b,e,ey,eb,l,eH⟩
 ·subst ey eH
  obtain ⟨z,hd,vs,rel,dd⟩:=zjn I.hok e
  have hz:vs.length≤sizeLine:=by rw [← rel.length];exact z
  have hl:(putK kvs k v).length≤sizeLine:=by have:=zed kvs k v;omega
  refine wpAny_setItem_pairs (hsz:=hz) (zku ry) dd fun h' dd' hs=>h _ ?_
  have he:∃ q,h'.get? a=some q:=let ⟨q,_,_,hq,_⟩:=dd';⟨q,hq⟩
  exact zjr I (by rw [e];exact True.intro) hs he (dk_new hl hd (rel.put k rv) dd')
 ·subst ey eH
  cases (show u=Value.ref b from ry)
  obtain ⟨z,hd,xs,rel,dd⟩:=dt_of I.hok e
  have hz:xs.length≤sizeLine:=by rw [← Paired.length rel];exact z
  have hl:(putK kvs k v).length≤sizeLine:=by have:=zed kvs k v;omega
  refine wpAny_setItem_heap (hsz:=hz) (tupleKind_room_in1 hu) (zi8 I.hok eb) dd fun h' dd' hs=>h _ ?_
  obtain ⟨q,es,ep,hq,h2,h3,h4,_,h5⟩:=dd'
  refine zjr I (by rw [e];exact True.intro) hs ⟨q,hq⟩ ⟨hl,hd,_,(rel.put k eb rv).keeps fun c ys ec=>?_,q,es,ep,hq,h2,h3,h4,h5⟩
  rw [zai (ne_of ec e (fun z=>nomatch z))]
  exact ec
end
section
variable {X:Cx} {pins:List (Addr×Obj)} {σ:St} {H:Hp} {s:Shared} {a:Addr} {kvs:List (Key×V)} {k:Key} {u:Value} {A:Around} {E:Value→Shared→Prop}
end
def sDPut (td ty tv:TE):TS:=fun D σ H=>tv σ H fun v H1=>td σ H1 fun x H2=>ty σ H2 fun y H3=>∃ a H4,x = .ref a∧DPut H3 a y v H4∧D.nx σ H4
section
variable {X:Cx} {o i e value:Expr} {pos pos' tpos:Pos} {td ty tv:TE}
theorem ziJ (hu:X.A.units+1<cLine) (ho:PE X o td) (hi:PE X i ty) (hv:PE X value tv) (hs:swapsWith value (some (.Subscript o i pos')) pos.line X.env=pure false) :
  PS X (.Assign [.Subscript o i pos'] value pos) (sDPut td ty tv):=by
 intro pins s σ H D I h
 refine wpAny_Assign_Subscript (thn (hv pins s σ H _ I h) fun r s1 ⟨v,H1,I1,rv,q1⟩=>thn (ho pins s1 σ H1 _ I1 q1) fun u s2 ⟨x,H2,I2,rx,q2⟩=>thn (hi pins s2 σ H2 _ I2 q2) fun iv s3 ⟨y,H3,I3,ry,a,H4,ex,g,q3⟩=>?_) hs
 subst ex
 obtain rfl:u=Value.ref a:=rx
 exact zjs hu I3 g ry rv fun s4 I4=>⟨σ,H4,I4,q3⟩
end
theorem zkD {P:Program} {w:World} {H:Hp} (h:Heap) (hb:sysModules<h.objs.size):ObjOk P w H (h.push { cls:=.type "dict",data:=.dict #[] }) h.objs.size (.dK []):=
 ⟨Nat.zero_le _,beq_eq_false_iff_ne.mpr (Ne.symm (Nat.ne_of_lt hb)),[],.nil,Heap.DictOf.new h⟩
def tDNewK:TE:=fun _ H Q=>∀ p,H p=none→Q (.ref p) (upd H p (.dK []))
section
variable {X:Cx} {pos:Pos}
theorem ze0:PE X (.Dict [] [] pos) tDNewK:=fun pins s σ H Q I h =>
 wpAny_Dict_empty ⟨.ref s.heap.objs.size,_,I.laid (a:=s.heap.objs.size) (o:=.dK []) (t':=s.toks) (fun _ _ q=>Heap.get?_push_of_some _ q) (Nat.le_refl _) (zkD s.heap I.big),rfl,h _ (I.hok.fresh (Nat.le_refl _))⟩
end
structure M2 (X:Cx) (o:Expr) (m:Str) (apos:Pos) (e f:Expr) (cpos:Pos):Prop where
 base:attributeBase o m X.env (eval o X.env)=eval o X.env
 few:((backTo cpos (starEach [e,f] X.env)).all (fun x=>!x.1) && (backToKw cpos (keywordEach [] X.env)).all (fun x=>x.1.isSome)
  && decide (([e,f]:List Expr).length+([]:List Keyword).length+(if ([]:List Keyword).isEmpty then 0 else 1)<30))=true
 line:(apos.endLine == cpos.line)=true
 trees:backTo cpos (starEach [e,f] X.env)=[(false,eval e X.env),(false,eval f X.env)]
def IsD (H:Hp) (a:Addr):Prop:=(∃ kvs,Rd H a (.dK kvs))∨∃ kvs,Rd H a (.dT kvs)
theorem isD_at {X:Cx} {pins:List (Addr×Obj)} {σ:St} {H:Hp} {s:Shared} {a:Addr} (I:Inv X pins σ H s) (d:IsD H a) :
  s.TypeIs (.ref a) "dict" ∧ (∀ b,Value.ref a = .ref b→∃ ob,s.heap.get? b=some ob∧ob.dict=none)∧(a == sysModules)=false:=by
 rcases d with ⟨kvs,e⟩ | ⟨kvs,e⟩
 ·obtain ⟨_,hd,vs,_,dd⟩:=zl4 I.hok e
  refine ⟨dd.typeIs,fun b q=>?_,hd⟩
  cases q
  obtain ⟨ob,_,_,h1,h2,_⟩:=dd
  exact ⟨ob,h1,h2.2.1⟩
 ·obtain ⟨_,hd,xs,_,dd⟩:=zl2 I.hok e
  refine ⟨dd.typeIs,fun b q=>?_,hd⟩
  cases q
  obtain ⟨ob,_,_,h1,h2,_⟩:=dd
  exact ⟨ob,h1,h2.2.1⟩
section
variable {X:Cx} {pins:List (Addr×Obj)} {σ:St} {H:Hp} {s:Shared} {a:Addr} {y d:V} {u r:Value} {o:Option V} {A:Around} {E:Value→Shared→Prop}
theorem d_get2 {Q:Value→Shared→Prop} (hu:A.units+1<cLine) (I:Inv X pins σ H s) (g:DGet H a y o) (ry:RelV y u) (rd:RelV d r) (h:∀ w' s',Inv X pins σ H s'→RelV (o.getD d) w'→Q w' s') :
  wpAny (model X.prog X.w) A (call (.builtin "dict.get") [.ref a,u,r]) Q E s:=by
 rcases g with ⟨kvs,k,e,ey,l⟩ | ⟨kvs,k,b,e,ey,eb,l⟩
 ·subst ey
  obtain ⟨z,hd,vs,rel,dd⟩:=zl4 I.hok e
  refine call_meetsIn PySem.F.slot_dict_get dd.typeIs PySem.F.entry_dict_get (PySem.F.args_dict_get_3 _ _ _) (meets_dict_get_default (zaH X.prog X.w) a (zku ry) hd r) ⟨_,dd.mapOf,h _ _ (I.tok _) ?_⟩
  rw [l]
  exact (rel.val k).getD rd
 ·subst ey
  cases (show u=Value.ref b from ry)
  obtain ⟨z,hd,xs,rel,dd⟩:=zl2 I.hok e
  refine call_meetsIn PySem.F.slot_dict_get dd.typeIs PySem.F.entry_dict_get (PySem.F.args_dict_get_3 _ _ _) (meetsH_dict_get_default (tupleKind (zaH X.prog X.w)) a b hd r) ⟨tupleKind_room_in1 hu,k,xs,zi8 I.hok eb,dd,h _ _ (I.tok _) ?_⟩
  rw [l]
  exact (rel.val k).getD rd
end
def tDGet2 (td ty tx:TE):TE:=fun σ H Q=>td σ H fun x H1=>∃ a,x = .ref a∧IsD H1 a∧ty σ H1 fun y H2=>tx σ H2 fun z H3=>∃ o,DGet H3 a y o∧Q (o.getD z) H3
section
variable {X:Cx} {o e f:Expr} {apos cpos:Pos} {td ty tx:TE}
theorem zdp (hu:X.A.units+1<cLine) (ho:PE X o td) (he:PE X e ty) (hf:PE X f tx) (m:M2 X o "get" apos e f cpos):PE X (.Call (.Attribute o "get" apos) [e,f] [] cpos) (tDGet2 td ty tx):=by
 intro pins s σ H Q I h
 refine wpAny_Call_method m.base m.few m.line PySem.F.plainAttrs_dict PySem.F.slot_dict_get PySem.F.type_dict_get (thn (ho pins s σ H _ I h) fun u s1 ⟨x,H1,I1,rx,a,ex,d,q1⟩=>?_)
 subst ex
 obtain rfl:u=Value.ref a:=rx
 obtain ⟨t1,t2,_⟩:=isD_at I1 d
 refine ⟨t1,t2,?_⟩
 rw [m.trees]
 refine Calls.callWith_builtin rfl (Calls.evalArgs_plain (Calls.spliced_cons (thn (he pins s1 σ H1 _ I1 q1) fun iv s2 ⟨y,H2,I2,ry,q2⟩ =>
  Calls.spliced_cons (thn (hf pins s2 σ H2 _ I2 q2) fun fv s3 ⟨z,H3,I3,rz,ov,g,q3⟩=>Calls.spliced_nil ?_))))
 exact d_get2 hu I3 g ry rz fun w' s4 I4 rw'=>⟨_,H3,I4,rw',q3⟩
end
section
variable {X:Cx} {pins:List (Addr×Obj)} {σ:St} {H:Hp} {s:Shared} {a:Addr} {kvs:List (Key×V)} {A:Around} {E:Value→Shared→Prop}
end
section
variable {X:Cx} {pins:List (Addr×Obj)} {σ:St} {H:Hp} {s:Shared} {a:Addr} {y:V} {u:Value} {A:Around} {E:Value→Shared→Prop}
end
end L2
namespace Att
open PySem PySem.W PySem.Calls PyProof.Rows
theorem zeh {P:Params} {h:Heap}:∀ (ns:List Int) (vs:List Value),WellAll P h vs (ns.map WData.int)→IntsAre vs ns:=by
 intro ns
 induction ns with
 | nil =>
  intro vs w
  rw [List.map_nil] at w
  cases w
  exact .nil
 | cons n ns ih =>
  intro vs w
  rw [List.map_cons] at w
  cases w with
  | cons a b =>
   cases a
   exact .cons _ _ (ih _ b)
theorem ziz {l:OpenLaw} {n:Nat} (hn:l.most=some n) {P:Params} {h:Heap} {args:List WData} {vals:List Value}
  (hpre:l.row.toRowW.claim.pre args=true) (hwl:WellAll P h vals args) :
  ∃ a vs ns,vals=[Value.ref a]∧args=[WData.list (ns.map WData.int)]∧h.get? a=some { cls:=.type "list",data:=.seq vs.toArray }∧IntsAre vs ns∧ns.length≤n:=by
 have hsh:WShape.hasAll [] args [.list .int]=true:=(pre_splitW hpre).1
 have hc:l.pre.holds [] { args:=args }=true:=(pre_splitW hpre).2
 obtain ⟨d,r,rfl,h1,h2⟩:=hasAllW_cons hsh
 obtain rfl:=hasAllW_nil h2
 obtain ⟨xs,rfl,h3⟩:=hasW_list h1
 obtain ⟨ns,rfl⟩:=items_int h3
 have hlen:ns.length≤n:=by
  unfold OpenLaw.pre at hc
  have h4:(WTm.not (.lt (.lit (.int (n:Int))) (.len (.arg 0)))).holds [] { args:=[.list (ns.map .int)] }=true:=by
   have h4:=(holds_andW hc).1
   rw [hn] at h4
   exact h4
  have h5:=condW_of h4 (w_not (w_lt w_lit (w_len_list (w_arg rfl))))
  rw [List.length_map] at h5
  refine Nat.le_of_not_lt fun q=>?_
  have q':(n:Int)<((ns.length:Nat):Int):=by omega
  first
   | (rw [decide_eq_true q'] at h5;exact absurd h5 (by decide))
   | (simp at h5;omega)
 cases hwl with
 | cons w1 w2 =>
  cases w2
  cases w1 with
  | list ho hall=>exact ⟨_,_,ns,rfl,rfl,ho,zeh ns _ hall,hlen⟩
theorem ziL (l:OpenLaw) (args:List WData):l.row.toRowW.claim.post args (.bool true) args=true:=
 postW_of (r:=l.row.toRowW) (X:=(true == true))
  (show WShape.has [] (.bool true) .bool=true by first | rfl | decide | simp [WShape.has,WShape.arms,WShape.armsAll])
  (show (WTm.eq .res (.lit (.bool true))).value [] { args:=args,res:=some (.bool true),after:=args }=some (.bool (true == true)) from w_eq_bool (w_res rfl) w_lit) rfl
section
variable {prog:Program} {w:World} {A:Around} {E:Value→Shared→Prop} {s:Shared} {K:Frag}
end
end Att
namespace L2
open PySem PySem.Spec PyProof.Rows
theorem zdx:∀ {vs:List Value} {ns:List Int},IntsAre vs ns→Vals (ns.map V.int) vs
 | _,_,.nil=>.nil
 | _,_,.cons n t h=>.cons ⟨t,rfl⟩ (zdx h)
def Only (H:Hp):Prop:=∀ b,H b=none∨∃ o xs,H b=some (.frz o (.lst xs))
theorem zkp {P:Program} {w:World} {K:PySem.W.Frag} {mg mb:Str→Option Value} {CX:CXT} {k:Nat} {fa a:Addr} {fd:FuncData} {x:Str} {sp:Sp} {s₁:Shared} {vs:List Value} {ns:List Int}
  (KX:K.In s₁.heap) (hns:s₁.heap.Ns mainGlobals mg) (hb:s₁.heap.Ns builtinsNs mb) (hbb:∀ x:Str,x ≠ "__name__" → mb x=bootBuiltins x) (hlim:s₁.heap.NoLimit) (hg:s₁.gens = #[])
  (ha:s₁.heap.get? a=some { cls:=.type "list",data:=.seq vs.toArray }) (hi:IntsAre vs ns) (hl:ns.length≤sizeLine) (hr:Room k callerA)
  (F:∀ base:Heap,K.In base→base.Ns mainGlobals mg→FnOk P w K mg base CX k fa fd [x] sp) (hbind:∀ (s:Shared) (u:Value),BindsTo s fd ⟨[u],[]⟩ [(x,u)])
  (hsp:∀ H:Hp,Only H→SqL K H a (ns.map V.int)→sp [.ref a] H (fun v _=>v = .bl true) fun _ _ _=>False)
  (hCX:∀ H e s',CX [] H s₁ (fun _ _ _=>False) e s'→False) :
  codeAny (model P w) callerA (.call (.ref fa) ⟨[.ref a],[]⟩) (fun r s'=>r = .ok (.ret (.bool true))∧OldK s₁.heap s'.heap∧s'.os=s₁.os∧AllBare s'.gens) s₁:=by
 have rv:=zdx hi
 have lenV:=hi.length
 
 have core:∀ H:Hp,Only H→SqL K H a (ns.map V.int)→HOk P w H s₁.heap→(∀ b,H b≠none→b=a)→(H a≠none→K.lookup a=none) →
   codeAny (model P w) callerA (.call (.ref fa) ⟨[.ref a],[]⟩) (fun r s'=>r = .ok (.ret (.bool true))∧OldK s₁.heap s'.heap∧s'.os=s₁.os∧AllBare s'.gens) s₁:=by
  intro H hO hS hok hA hK
  have base_of:∀ {b:Addr} {o:Obj},s₁.heap.get? b=some o→H b=none→(hidT s₁.heap H).get? b=some o:=fun e n=>zkv e n
  have noA:∀ {b:Addr} {o:Obj} {es:Array DictEntry} {ep:Nat},s₁.heap.get? b=some o→o.data = .dict es ep→H b=none:=fun {b o es ep} e d=>by
   cases q:H b with
   | none=>rfl
   | some u =>
    have e':b=a:=hA b (by rw [q];simp)
    subst e'
    rw [ha] at e;cases e
    have d':Data.seq vs.toArray _=Data.dict es ep:=d
    cases d'
  have nsK:∀ {b:Addr} {m:Str→Option Value},s₁.heap.Ns b m→(hidT s₁.heap H).Ns b m:=fun {b m} ⟨o,es,ep,e,d,r⟩=>⟨o,es,ep,base_of e (noA e d),d,r⟩
  have hKb:K.In (hidT s₁.heap H):=fun b o e=>base_of (KX b o e) (by
   cases q:H b with
   | none=>rfl
   | some u =>
    have e':b=a:=hA b (by rw [q];simp)
    subst e'
    rw [hK (by rw [q];simp)] at e;cases e)
  have hM:Mod K mg (hidT s₁.heap H):=⟨hKb,nsK hns,⟨mb,nsK hb,hbb⟩,let ⟨mc,h1,h2⟩:=hlim;⟨mc,nsK h1,h2⟩⟩
  have e0:Env0 P w K mg (hidT s₁.heap H) callerA [] s₁ H:=⟨rfl,hM,fun b o e=>zlI e,Nat.le_of_eq (zjd _ _),trivial,fun b hb=>absurd (show b∈([]:List Addr) from hb) (by simp),hok,.of_eq hg⟩
  refine codeAny_mono ((F _ hKb (nsK hns)).run callerA [] s₁ H ⟨[.ref a],[]⟩ [.ref a] [.ref a] _ _ hr e0 (hbind s₁ (.ref a)) (.cons rfl .nil) (hsp H hO hS)) fun r s' h=>?_
  cases r with
  | error e=>exact (hCX H e s' h).elim
  | ok fl =>
   cases fl with
   | next=>exact False.elim h
   | brk=>exact False.elim h
   | cont=>exact False.elim h
   | ret u =>
    obtain ⟨v,H',os,bare,un,hok',r',q⟩:=h
    have q':v = .bl true:=q
    subst q'
    obtain rfl:u=Value.bool true:=r'
    refine ⟨rfl,OldK.of_keep fun b o e=>?_,os,bare⟩
    cases q:H b with
    | none=>exact un.keep b o e q (by intro z;exact absurd (show b∈([]:List Addr) from z) (by simp)) (by simp)
    | some u =>
     rcases hO b with z | ⟨ob,xs,z⟩
     ·rw [q] at z;cases z
     ·have z2:=un.frzs b ob _ z
      obtain ⟨e1,_⟩:=hok b _ z
      obtain ⟨e2,_⟩:=hok' b _ z2
      rw [e] at e1;cases e1
      exact e2
 cases hk:K.lookup a with
 | some o =>
  
  have e:=KX a o hk
  rw [ha] at e
  cases e
  refine core (fun _=>none) (fun _=>.inl rfl) (.inr ⟨_,vs.toArray,_,hk,rfl,rfl,rfl,by rw [List.size_toArray,lenV];exact hl,by simpa using rv⟩) (fun b u z=>by have z':(none:Option HO)=some u:=z;cases z') (fun b z=>absurd rfl z) fun z=>absurd rfl z
 | none =>
  refine core (fun b=>if b=a then some (.frz { cls:=.type "list",data:=.seq vs.toArray } (.lst (ns.map V.int))) else none) (fun b=>?_) (.inl (.inr ⟨{ cls:=.type "list",data:=.seq vs.toArray },if_pos rfl⟩)) (fun b u z=>?_) (fun b z=>?_) fun _=>hk
  ·by_cases hb:b=a
   ·exact .inr ⟨_,_,if_pos hb⟩
   ·exact .inl (if_neg hb)
  ·by_cases hb:b=a
   ·have z':=(if_pos hb).symm.trans z
    cases z'
    subst hb
    exact ⟨ha,by rw [List.length_map];exact hl,vs,_,rv,ha⟩
   ·have z':=(if_neg hb).symm.trans z
    cases z'
  ·by_cases hb:b=a
   ·exact hb
   ·exact absurd (if_neg hb) z
end L2
namespace L2
open PySem PySem.Spec PyProof.Rows
end L2
namespace L2
open PySem PySem.Spec PyProof.Rows
def zaI (s:Stmt) (j:Nat):Stmt:=match s with
 | .ClassDef _ _ _ body _ _ _ _ _ _ _=>body.getD j (.Pass ⟨0,0,0,0⟩)
 | _=>.Pass ⟨0,0,0,0⟩
def zbn (s:Stmt):Arguments:=match s with
 | .FunctionDef _ a _ _ _ _ _ _ _ _=>a
 | _=>{ posonlyargs:=[],args:=[],vararg:=none,kwonlyargs:=[],kw_defaults:=[],kwarg:=none,defaults:=[] }
def za6 (s:Stmt):List Stmt:=match s with
 | .FunctionDef _ _ b _ _ _ _ _ _ _=>b
 | _=>[]
def zah (s:Stmt):Scope:=match s with
 | .FunctionDef _ _ _ _ _ _ sc _ _ _=>sc
 | _=>{ kind:=.function,names:=[],isGenerator:=false,isCoroutine:=false }
abbrev CX0:CXT:=fun _ _ _ _ _ _=>False
abbrev E0:XK:=fun _ _ _=>False
theorem zhI {X:Cx}:zhy CX0 X E0:=fun _ _ _ _ _ _ _ h=>h.elim
structure Fun (K:PySem.W.Frag) (x qual:Str) (st:Stmt) (f:Addr) (fd:FuncData):Prop where
 ex:∃ (oc:Value) (od:Option Addr) (kV doc pm:Value) (an:Option Addr) (cdv ct:Value) (osl:Array (Option Value)),
  fd=PySem.W.fnOf x qual (zbn st) (za6 st) (zah st) .none kV doc pm an cdv ct∧K.lookup f=some ⟨oc,od,.func fd,osl⟩∧PySem.W.codeIn K cdv qual=true
 kp:PySem.W.keepIn K (.ref f)=true
section
variable {P:Program} {w:World} {K:PySem.W.Frag} {mg:Str→Option Value} {base:Heap}
theorem Fun.ok {x qual:Str} {st:Stmt} {f:Addr} {fd:FuncData} {N ps:List Str} {k:Nat} {sp:Sp} (F:Fun K x qual st f fd) (S:FnScope N ps (zah st)) (len:∀ vs H Q E,sp vs H Q E→vs.length=ps.length)
  (hbody:∀ (cdv:Value) (A:Around) (outer:List Env) (s:Shared) (H:Hp) (vs:List V) (Q:VK) (E:XK),Room k (A.deeper (envOfC qual (zah st) s.heap.objs.size f cdv))→sp vs H Q E →
   ∃ t,PSs (cxOf CX0 P w K mg base N qual (zah st) f cdv A outer s H E).nox (za6 st) t∧t { nx:=fun _ H'=>Q .non H',rt:=Q } (start N vs) H):FnOk P w K mg base CX0 (k+1) f fd ps sp:=by
 obtain ⟨oc,od,kV,doc,pm,an,cdv,ct,osl,rfl,lk,hcd⟩:=F.ex
 refine fn_of lk hcd S len fun A outer s H vs Q E hr hsp=>?_
 obtain ⟨t,h,q⟩:=hbody cdv A outer s H vs Q E hr hsp
 exact ⟨t,h.nox,q⟩
theorem Fun.binds {x qual:Str} {st:Stmt} {f:Addr} {fd:FuncData} {ps:List Str} (F:Fun K x qual st f fd)
  (h:∀ (kV doc pm:Value) (an:Option Addr) (cdv ct:Value) (us:List Value),us.length=ps.length→bindArgs (PySem.W.fnOf x qual (zbn st) (za6 st) (zah st) .none kV doc pm an cdv ct) ⟨us,[]⟩=pure (ps.zip us)):Binds K fd ps []:=by
 obtain ⟨oc,od,kV,doc,pm,an,cdv,ct,osl,rfl,lk,hcd⟩:=F.ex
 exact .all (h kV doc pm an cdv ct)
theorem zlb {x qual:Str} {st:Stmt} {f:Addr} {oc:Value} {od an:Option Addr} {osl:Array (Option Value)} {kV doc pm cdv ct:Value} (l:K.lookup f=some ⟨oc,od,.func (PySem.W.fnOf x qual (zbn st) (za6 st) (zah st) .none kV doc pm an cdv ct),osl⟩)
  (c:PySem.W.codeIn K cdv qual=true) (k:PySem.W.keepIn K (.ref f)=true):Fun K x qual st f (PySem.W.fnOf x qual (zbn st) (za6 st) (zah st) .none kV doc pm an cdv ct):=⟨⟨oc,od,kV,doc,pm,an,cdv,ct,osl,rfl,l,c⟩,k⟩
end
theorem zet {A:Around} {k:Nat} (hr:Room k A):A.units+1<cLine:=Nat.lt_of_le_of_lt (Nat.add_le_add_left (by decide:1≤64) _) hr.units
theorem zaN {n:Nat} (h:n≤1000):n<sizeLine:=Nat.lt_of_le_of_lt h (by decide)
section
variable {X:Cx}
theorem pv (i:Nat) {x:Str} {pos:Pos} (hN:X.N[i]? = some x:=by rfl) (hv:Vis X.env.scope x:=by first | exact Or.inl rfl | exact Or.inr (Or.inl rfl) | exact Or.inr (Or.inr rfl)) (hd:(x == ("__debug__" : Str))=false:=by decide)
  (hcd:(x == ("__classdict__" : Str))=false:=by decide):PE X (.Name x pos) (tVar i):=pe_var hN hv hd hcd
end
theorem iteF {A B:Prop} (h:B):if false=true then A else B:=by
 rw [if_neg Bool.false_ne_true]
 exact h
theorem iteT {A B:Prop} (h:A):if true=true then A else B:=by
 rw [if_pos rfl]
 exact h
theorem ite2 {c A B:Prop} [Decidable c] (h1:c→A) (h2:¬ c→B):if c then A else B:=by
 by_cases h:c
 ·rw [if_pos h]
  exact h1 h
 ·rw [if_neg h]
  exact h2 h
theorem zgV {c A B:Prop} [Decidable c] (hc:c) (h:B):if (!decide c)=true then A else B:=by
 rw [decide_eq_true hc]
 exact iteF h
def Same (H H':Hp):Prop:=∀ b o,H b=some o→H' b=some o
theorem Same.refl (H:Hp):Same H H:=fun _ _ h=>h
theorem Same.trans {H H1 H2:Hp} (a:Same H H1) (b:Same H1 H2):Same H H2:=fun c o h=>b c o (a c o h)
theorem Same.free {H H':Hp} (e:Same H H') {l:Addr} (h:H' l=Option.none):H l=Option.none:=by
 cases q:H l with
 | none=>rfl
 | some o =>
  rw [e l o q] at h
  cases h
theorem Same.seq {K:PySem.W.Frag} {H H':Hp} {a:Addr} {xs:List V} (e:Same H H') (h:SqL K H a xs):SqL K H' a xs:=by
 rcases h with (h | ⟨o,h⟩) | h
 ·exact .inl (.inl (e _ _ h))
 ·exact .inl (.inr ⟨o,e _ _ h⟩)
 ·exact .inr h
end L2
namespace L2
open PySem PySem.Spec PyProof.Rows
section
variable {X:Cx}
end
section
variable {κ:Type} [DecidableEq κ]
end
end L2
end
section
set_option Elab.async false
set_option linter.all false
set_option maxRecDepth 100000
set_option maxHeartbeats 4000000
namespace L2
open PySem PySem.Spec PyProof.Rows
theorem zlO {prog:Program} {w:World} {A:Around} {R:Result→Shared→Prop} {s:Shared} {elt target iter:Expr} {ifs:List Expr} {scope:Scope} {pos:Pos} {it acc:Value} {env:Env} (I:Nat→Shared→Prop)
  (turn:∀ n s,I n s→wpAny (model prog w) A (pyNext it) (fun r s1=>match r with
   | none=>R (.ok .next) s1
   | some v=>wpAny (model prog w) A (letOwnedTupleGo target it v) (fun _ s2=>wpAny (model prog w) A (assign target env v) (fun _ s3 =>
     wpAny (model prog w) A (forIn ifs true fun c r=>if r=true then do let ok ← isTrue c env (eval c env);pure (ForInStep.yield ok) else pure (ForInStep.yield r)) (fun ok s4 =>
      if ok=true then wpAny (model prog w) A (eval elt env) (fun x s5 =>
       wpAny (model prog w) A (call (.builtin "list.append") [acc,x]) (fun _ s6=>∃ m,m<n∧I m s6) (fun _ _=>False) s5) (fun _ _=>False) s4
      else ∃ m,m<n∧I m s4) (fun _ _=>False) s3) (fun _ _=>False) s2) (fun _ _=>False) s1) (fun _ _=>False) s)
  (n:Nat) (h:I n s) :
  codeAny (model prog w) A (.compLoop (.ListComp elt [⟨target,iter,ifs,0⟩] scope pos) 0 it acc env) R s:=by
 refine codeAny_loop rfl I (fun n s hI=>?_) n h
 show wpAny _ A ((compTurn (.ListComp elt [⟨target,iter,ifs,0⟩] scope pos) 0 it acc env).onRaise (fun x=>do noteFrame x env;theTreesLotGoes x)) _ _ s
 refine wpAny_noted ?_
 rw [compTurn_list]
 refine wpAny_bind (wpAny_standAt (wpAny_bind (wpAny_mono (turn n s hI) (fun r s1 h1=>?_) fun _ _ h'=>h'.elim)))
 cases r with
 | none=>exact wpAny_pure h1
 | some v =>
  refine wpAny_bind (wpAny_mono h1 (fun _ s2 h2=>?_) fun _ _ h'=>h'.elim)
  refine wpAny_bind (wpAny_mono h2 (fun _ s3 h3=>wpAny_bind (wpAny_mono h3 (fun ok s4 h4=>?_) fun _ _ h'=>h'.elim)) fun _ _ h'=>h'.elim)
  cases ok with
  | false=>exact wpAny_pure ⟨rfl,h4⟩
  | true =>
   exact wpAny_bind (wpAny_bind (wpAny_mono h4 (fun x s5 h5=>wpAny_bind (wpAny_mono h5 (fun _ s6 h6=>wpAny_pure (wpAny_pure ⟨rfl,h6⟩)) fun _ _ h'=>h'.elim)) fun _ _ h'=>h'.elim))
def PF (X:Cx) (ifs:List Expr) (t:TT):Prop:=
 ∀ (pins:List (Addr×Obj)) (s:Shared) (σ:St) (H:Hp) (Q:Bool→Hp→Prop),Inv X pins σ H s→t σ H Q →
  wpAny (model X.prog X.w) X.A (forIn ifs true fun c r=>if r=true then do let ok ← isTrue c X.env (eval c X.env);pure (ForInStep.yield ok) else pure (ForInStep.yield r)) (TP X pins σ Q) X.xe s
def tYes:TT:=fun _ H Q=>Q true H
theorem zdY {X:Cx}:PF X [] tYes:=fun pins s σ H Q I h=>wpAny_tests_nil ⟨H,I,h⟩
theorem ziR {X:Cx} {c:Expr} {t:TT} (hc:PT X c t):PF X [c] t:=fun pins s σ H Q I h=>wpAny_tests_one (hc pins s σ H Q I h)
def cxC (X:Cx) (Nc:List Str) (scope:Scope) (cl:List (Str×Addr)) (C:Addr) (fp:List Addr) (s2:Shared) (H2:Hp):Cx where
 prog:=X.prog
 w:=X.w
 K:=X.K
 mg:=X.mg
 base:=X.base
 A:=X.A
 N:=Nc
 s₀:=s2
 H₀:=H2
 env:=compEnvC scope cl C X.env
 outer:=X.stack
 stack:=X.stack
 ex:=fp
 fn:=fun _=>false
 calm:=X.calm
 pn:=[]
 xe:=fun _ _=>False
def za9 (src:List (Option Nat)) (σ:St):St:=src.map fun o=>match o with
 | none=>none
 | some i=>(σ[i]?).getD none
structure CompOk (N:List Str) (osc:Scope) (Nc:List Str) (src:List (Option Nat)) (scope:Scope):Prop where
 kind:scope.kind = .function
 nocell:∀ x∈scope.names,x.2≠.cell
 nodup:scope.names.Pairwise fun x y=>x.1≠y.1
 free:∀ x∈scope.names,x.2 = .free→osc.names.lookup x.1=some .cell∨osc.names.lookup x.1=some .free
 len:src.length=Nc.length
 src:∀ (j i:Nat),src[j]? = some (some i)→∃ x,Nc[j]? = some x∧N[i]? = some x∧scope.names.lookup x=some .free
theorem zcc {α:Type} {l:List (Str×α)} {x:Str} {k:α} (h:l.lookup x=some k):(x,k)∈l:=by
 induction l with
 | nil=>cases h
 | cons p r ih =>
  obtain ⟨y,j⟩:=p
  rw [List.lookup_cons] at h
  split at h
  ·rename_i hb
   have e:=eq_of_beq hb
   cases h;subst e;exact List.mem_cons_self
  ·exact List.mem_cons_of_mem _ (ih h)
theorem zbe {α:Type} {l:List (Str×α)} (nd:l.Pairwise fun x y=>x.1≠y.1) {x:Str} {k:α} (h:(x,k)∈l):l.lookup x=some k:=by
 induction l with
 | nil=>cases h
 | cons p r ih =>
  obtain ⟨y,j⟩:=p
  rw [List.pairwise_cons] at nd
  rw [List.lookup_cons]
  rcases List.mem_cons.mp h with e | h
  ·cases e;simp
  ·have ne:=nd.1 _ h
   have:(x == y)=false:=beq_eq_false_iff_ne.mpr (Ne.symm ne)
   rw [this];exact ih nd.2 h
theorem zh2 {X:Cx} (ok:X.Ok) {scope:Scope}:∀ (names:List (Str×NameKind)) (acc:List (Str×Addr)),(∀ x∈names,x.2 = .free→∃ c,X.env.cells.lookup x.1=some c) →
  (∀ x c,(x,c)∈acc→X.env.cells.lookup x=some c) →
  ∃ cl,(forIn names acc (fun (p:Str×NameKind) (cs:List (Str×Addr))=>(do
   if p.2 == NameKind.free then
    let c ← cellOf X.env p.1
    pure (ForInStep.yield ((p.1,c) :: cs))
   else pure (ForInStep.yield cs):Sem (ForInStep (List (Str×Addr))))))=pure cl∧(∀ x c,(x,c)∈cl→X.env.cells.lookup x=some c)∧(∀ x∈names,x.2 = .free→∃ c,(x.1,c)∈cl)∧(∀ p∈acc,p∈cl):=by
 intro names
 induction names with
 | nil=>intro acc _ ha;exact ⟨acc,(by rw [List.forIn_nil]),ha,(fun _ h=>nomatch h),fun _ h=>h⟩
 | cons p r ih =>
  intro acc hf ha
  obtain ⟨x,k⟩:=p
  rw [List.forIn_cons]
  by_cases hk:k = .free
  ·subst hk
   obtain ⟨c,hc⟩:=hf _ List.mem_cons_self rfl
   obtain ⟨cl,e,h1,h2,h3⟩:=ih ((x,c) :: acc) (fun y hy=>hf y (List.mem_cons_of_mem _ hy)) (fun y d hy=>by
    rcases List.mem_cons.mp hy with e | hy
    ·cases e;exact hc
    ·exact ha y d hy)
   have hcell:cellOf X.env x=pure c:=by unfold cellOf;rw [show X.env.cells.lookup x=some c from hc]
   refine ⟨cl,?_,h1,fun y hy hk=>?_,fun q hq=>h3 q (List.mem_cons_of_mem _ hq)⟩
   ·simp only [beq_self_eq_true,if_true,hcell,pure_bind];exact e
   ·rcases List.mem_cons.mp hy with e | hy
    ·cases e;exact ⟨c,h3 _ List.mem_cons_self⟩
    ·exact h2 y hy hk
  ·obtain ⟨cl,e,h1,h2,h3⟩:=ih acc (fun y hy=>hf y (List.mem_cons_of_mem _ hy)) ha
   have hb:(k == NameKind.free)=false:=by simpa using hk
   refine ⟨cl,?_,h1,fun y hy hk'=>?_,h3⟩
   ·simp only [hb,Bool.false_eq_true,if_false,pure_bind];exact e
   ·rcases List.mem_cons.mp hy with e | hy
    ·cases e;exact absurd hk' hk
    ·exact h2 y hy hk'
theorem zbf {X:Cx} (ok:X.Ok) {scope:Scope} (hf:∀ x∈scope.names,x.2 = .free→X.env.scope.names.lookup x.1=some .cell∨X.env.scope.names.lookup x.1=some .free) :
  ∃ cl:List (Str×Addr),closureFor scope X.env=pure cl∧(∀ (x:Str) (c:Addr),cl.lookup x=some c→X.env.cells.lookup x=some c)∧(∀ x∈scope.names,x.2 = .free→∃ c,cl.lookup x.1=some c):=by
 obtain ⟨cl,e,h1,h2,_⟩:=zh2 ok (scope:=scope) scope.names [] (fun x hx hk=>ok.has x.1 (hf x hx hk)) (fun _ _ h=>nomatch h)
 refine ⟨cl,?_,fun x c h=>h1 x c (zcc h),fun x hx hk=>?_⟩
 ·unfold closureFor
  exact (bind_pure _).trans e
 ·obtain ⟨c,hc⟩:=h2 x hx hk
  have:∀ l:List (Str×Addr),(x.1,c)∈l→∃ d,l.lookup x.1=some d:=by
   intro l
   induction l with
   | nil=>intro h;cases h
   | cons p r ih =>
    intro h
    obtain ⟨y,d⟩:=p
    rw [List.lookup_cons]
    cases hb:x.1 == y with
    | true=>exact ⟨d,rfl⟩
    | false =>
     rcases List.mem_cons.mp h with e | h
     ·cases e;simp at hb
     ·exact ih h
  exact this cl hc
end L2
end
section
set_option Elab.async false
set_option linter.all false
set_option maxRecDepth 100000
set_option maxHeartbeats 4000000
namespace L2
open PySem PySem.Spec PyProof.Rows
theorem zbF {scope:Scope} {env:Env} (x:Str):(relabel scope env).names.lookup x=(scope.names.lookup x).map fun k=>if (k == .free && env.scope.kind == .function && env.kindOf x == some .cell) then .cell else k:=by
 unfold relabel
 show List.lookup x (scope.names.map _)=_
 induction scope.names with
 | nil=>rfl
 | cons p r ih =>
  obtain ⟨n,k⟩:=p
  rw [List.map_cons]
  cases hb:x == n with
  | true =>
   have e:=eq_of_beq hb
   subst e
   show List.lookup x ((if (k == NameKind.free && env.scope.kind == .function && env.kindOf x == some .cell)=true then (x,NameKind.cell) else (x,k)) :: _)=_
   by_cases hc:(k == NameKind.free && env.scope.kind == .function && env.kindOf x == some .cell)=true
   ·rw [if_pos hc,List.lookup_cons,List.lookup_cons]
    simp only [beq_self_eq_true,Option.map_some]
    rw [if_pos hc]
   ·rw [if_neg hc,List.lookup_cons,List.lookup_cons]
    simp only [beq_self_eq_true,Option.map_some]
    rw [if_neg hc]
  | false =>
   show List.lookup x ((if (k == NameKind.free && env.scope.kind == .function && env.kindOf n == some .cell)=true then (n,NameKind.cell) else (n,k)) :: _)=_
   by_cases hc:(k == NameKind.free && env.scope.kind == .function && env.kindOf n == some .cell)=true
   ·rw [if_pos hc,List.lookup_cons,List.lookup_cons,hb];exact ih
   ·rw [if_neg hc,List.lookup_cons,List.lookup_cons,hb];exact ih
theorem HOk.track {P:Program} {w:World} {H:Hp} {h:Heap} {a:Addr} {o:HO} (x:HOk P w H h) (hn:H a=none) (new:ObjOk P w (upd H a o) h a o):HOk P w (upd H a o) h:=fun b u e=>by
 by_cases hb:b=a
 ·subst hb;rw [zad] at e;cases e;exact new
 ·rw [zai hb] at e
  exact (x b u e).stay (fun c v _ q=>q) (fun c q=>by rw [zai (zam q hn)];exact q) fun c xs q=>by rw [zai (zam q hn)];exact q
theorem Un.track {fs ex:List Addr} {H H':Hp} {h h':Heap} {a:Addr} {o:HO} (u:Un fs ex H H' h h') (hp:h.objs.size≤a) (hl:∀ b v,H b=some v→b<h.objs.size):Un fs ex H (upd H' a o) h h' where
 keep:=u.keep
 slot:=u.slot
 free:=fun b v q n x=>by rw [zai (Nat.ne_of_lt (Nat.lt_of_lt_of_le (Heap.lt_size q) hp))];exact u.free b v q n x
 there:=u.there
 tups:=fun b xs q=>by rw [zai (Nat.ne_of_lt (Nat.lt_of_lt_of_le (hl b _ q) hp))];exact u.tups b xs q
 frzs:=fun b v xs q=>by rw [zai (Nat.ne_of_lt (Nat.lt_of_lt_of_le (hl b _ q) hp))];exact u.frzs b v xs q
 tbls:=fun b ps q=>by rw [zai (Nat.ne_of_lt (Nat.lt_of_lt_of_le (hl b _ q) hp))];exact u.tbls b ps q
theorem zlh {X:Cx} {pins:List (Addr×Obj)} {σ:St} {H2:Hp} {s2:Shared} {Nc:List Str} {src:List (Option Nat)} {scope:Scope} {cl:List (Str×Addr)} {C:Addr} {fp:List Addr} (I2:Inv X pins σ H2 s2) (S:CompOk X.N X.env.scope Nc src scope)
  (hcl1:∀ (x:Str) (c:Addr),cl.lookup x=some c→X.env.cells.lookup x=some c) (hcl2:∀ x∈scope.names,x.2 = .free→∃ c,cl.lookup x.1=some c) (hC:s2.heap.objs.size≤C)
  (hfp:∀ b∈fp,b<s2.heap.objs.size) (f2:∀ b∈fp,FpOk X pins H2 b):(cxC X Nc scope cl C fp s2 H2).Ok where
 mod:=I2.ok.mod
 kind:=S.kind
 glob:=I2.ok.glob
 blt:=I2.ok.blt
 above:=hC
 inj:=fun x y c h1 h2=>I2.ok.inj x y c (hcl1 _ _ h1) (hcl1 _ _ h2)
 has:=fun x h=>by
  have h':(relabel scope X.env).names.lookup x=some .cell∨(relabel scope X.env).names.lookup x=some .free:=h
  rw [zbF] at h'
  cases hk:scope.names.lookup x with
  | none=>rw [hk] at h';rcases h' with h' | h' <;> cases h'
  | some k =>
   have hm:=zcc hk
   have hkf:k = .free:=by
    rw [hk] at h'
    simp only [Option.map_some] at h'
    cases k with
    | free=>rfl
    | cell=>exact absurd rfl (S.nocell _ hm)
    | _=>exfalso;revert h';simp
   subst hkf
   exact hcl2 _ hm rfl
 cab:=fun x c h=>nomatch h
 hd:=I2.ok.hd
 frames:=I2.ok.frames
 stk:=.inl rfl
 exf:=fun b hb=>⟨Nat.ne_of_lt (Nat.lt_of_lt_of_le (hfp b hb) hC),fun x c e=>(f2 b hb).2.2.2.2.1 x c (hcl1 _ _ e)⟩
 bs:=I2.bs
 bsz:=Nat.le_trans I2.ok.bsz I2.sz
 noex:=fun b o e hb=>by
  rcases (f2 b hb).2.2.2.1 with z | z
  ·exact I2.ok.noex b o e z
  ·exact absurd (Nat.lt_of_lt_of_le (Heap.lt_size e) (Nat.le_trans I2.ok.bsz z)) (Nat.lt_irrefl _)
 exfs:=fun b hb hs=>by
  obtain ⟨_,f1,f3,_⟩:=f2 b hb
  rcases List.mem_cons.mp (I2.stkSub b hs) with z | z
  ·exact f1 z
  ·exact f3 z
 funs:=I2.stack
 frf:=I2.stkFree
def zg1 (J:It) (g:TG) (tf:TT) (te:TE) (Q:List V→Hp→Prop) (σ0:St) (H1:Hp):Prop:=
 ∃ W:Nat→Nat→List V→St→Hp→Prop,(∃ m,W 0 m [] σ0 H1)∧∀ i m ys σc Hc,W i m ys σc Hc →
  (J.stop i Hc∧ys.length≤sizeLine∧Q ys Hc) ∨
  (J.go i Hc∧ys.length<sizeLine∧∃ N:List V→St→Hp→Prop,(∀ ys' σ' H',N ys' σ' H'→∃ m',m'<m∧W (i+1) m' ys' σ' H') ∧
   ∀ x H',J.yld i Hc x H'→g x σc H' fun σ2 H2=>tf σ2 H2 fun b H3=>if b=true then te σ2 H3 fun y H4=>N (ys ++ [y]) σ2 H4 else N ys σ2 H3)
def tComp (src:List (Option Nat)) (wi:TI) (g:TG) (tf:TT) (te:TE):TE:=fun σ H Q=>wi σ H fun J H1 =>
 zg1 J g tf te (fun ys H2=>∀ D,H2 D=none→Q (.ref D) (upd H2 D (.lst ys))) (za9 src σ) H1
theorem zfX {X:Cx} {pins:List (Addr×Obj)} {σ:St} {H2:Hp} {s2:Shared} {Nc:List Str} {src:List (Option Nat)} {scope:Scope} {cl:List (Str×Addr)} {fp:List Addr} {elt tg iter:Expr} {ifs:List Expr} {pos:Pos}
  {it:Addr} {tn:Nat→Heap→Prop} {J:It} {g:TG} {tf:TT} {te:TE} {Qf:List V→Hp→Prop} {E:Value→Shared→Prop} {RR:Value→Addr→Result→Shared→Prop}
  (hc:X.calm=true) (I2:Inv X pins σ H2 s2) (S:CompOk X.N X.env.scope Nc src scope)
  (hcl1:∀ (x:Str) (c:Addr),cl.lookup x=some c→X.env.cells.lookup x=some c) (hcl2:∀ x∈scope.names,x.2 = .free→∃ c,cl.lookup x.1=some c)
  (T:Turn X.prog X.w X.K tg J fp it tn) (st2:tn 0 s2.heap) (f2:∀ b∈fp,FpOk X pins H2 b)
  (hg:∀ cl C fp s2 H2,PG (cxC X Nc scope cl C fp s2 H2) tg g) (hf:∀ cl C fp s2 H2,PF (cxC X Nc scope cl C fp s2 H2) ifs tf) (he:∀ cl C fp s2 H2,PE (cxC X Nc scope cl C fp s2 H2) elt te)
  (hw:zg1 J g tf te Qf (za9 src σ) H2)
  (fin:∀ (H4:Hp) (s4:Shared) (ys:List V) (m:Str→Option Value) (C:Addr),s2.heap.objs.size≤C→H4 s2.heap.objs.size=none→Inv X pins σ (upd H4 s2.heap.objs.size (.lst ys)) s4→s4.heap.Ns C m→upd H4 s2.heap.objs.size (.lst ys) C=none→Qf ys H4→RR (.ref s2.heap.objs.size) C (.ok .next) s4) :
  wpAny (model X.prog X.w) X.A (newList []) (fun acc s3=>wpAny (model X.prog X.w) X.A (newFunctionEnv scope X.env.globals cl [] X.env.qual none .none (some X.env)) (fun cenv s4 =>
   codeAny (model X.prog X.w) X.A (.compStart (.ListComp elt [⟨tg,iter,ifs,0⟩] scope pos) 0 (.ref it) acc { cenv with scope:=relabel scope X.env }) (RR acc cenv.locals) s4) E s3) E s2:=by
 refine wpAny_newObj_type (wpAny_newFunctionEnv S.nocell (by intro y hy;simp at hy) (fun h1 hns1 hsb1=>?_) S.kind)
 dsimp only at hns1 hsb1 ⊢
 generalize hH2:s2.heap.push { cls:=.type "list",dict:=none,data:=.seq ([]:List Value).toArray }=G2 at hns1 hsb1 ⊢
 have hCz:G2.objs.size=s2.heap.objs.size+1:=by rw [← hH2,Heap.size_push]
 generalize hCe:G2.objs.size=C at hns1 hsb1 hCz ⊢
 generalize hDe:s2.heap.objs.size=D at fin hCz ⊢
 have hDC:D≠C:=by omega
 have hCle:s2.heap.objs.size≤C:=by omega
 have hDle:s2.heap.objs.size≤D:=by omega
 have old:∀ b o,s2.heap.get? b=some o→h1.get? b=some o:=fun b o e=>hsb1.extBut b o (Nat.ne_of_lt (Nat.lt_of_lt_of_le (Heap.lt_size e) hCle)) (Heap.get?_push_of_some _ (hH2 ▸ Heap.get?_push_of_some _ e))
 have hacc:h1.get? D=some { cls:=.type "list",data:=.seq ([]:List Value).toArray 0 }:=by
  refine hsb1.extBut _ _ hDC (Heap.get?_push_of_some _ ?_)
  rw [← hH2,← hDe]
  exact Heap.get?_push_size _ rfl
 have hfp:∀ b∈fp,b<s2.heap.objs.size:=fun b hb=>by
  obtain ⟨o,e,_⟩:=T.obj 0 _ st2 b hb
  exact Heap.lt_size e
 have ok:=zlh (Nc:=Nc) (src:=src) (scope:=scope) (cl:=cl) (C:=C) (fp:=fp) I2 S hcl1 hcl2 hCle hfp f2
 generalize hXC:cxC X Nc scope cl C fp s2 H2=Y at ok
 have hYN:Y.N=Nc:=by rw [← hXC];rfl
 
 have I0:Inv (cxC X Nc scope cl C fp s2 H2) [] (za9 src σ) H2 { s2 with heap:=h1,toks:=s2.toks+([]:List (Str×Value)).length }:=by
  rw [← hXC] at ok
  refine ⟨ok,rfl,I2.bare,Un.kept old,⟨_,hns1,fun j x v e1 e2 _=>?_⟩,fun x c e=>?_,I2.hok.fresh hCle,fun x c e=>I2.freeC x c (hcl1 _ _ e),(fun p hp=>nomatch hp),I2.hok.kept old,?_⟩
  ·
   have e2':(za9 src σ)[j]? = some (some v):=e2
   have e1':Nc[j]? = some x:=e1
   unfold za9 at e2'
   rw [List.getElem?_map] at e2'
   cases hs:src[j]? with
   | none=>rw [hs] at e2';cases e2'
   | some o =>
    rw [hs] at e2'
    cases o with
    | none=>cases e2'
    | some i =>
     simp only [Option.map_some,Option.some.injEq] at e2'
     obtain ⟨y,hy1,hy2,hy3⟩:=S.src j i hs
     rw [e1'] at hy1;cases hy1
     have hσ:σ[i]? = some (some v):=by
      cases hq:σ[i]? with
      | none=>rw [hq] at e2';cases e2'
      | some z=>rw [hq] at e2';simp only [Option.getD_some] at e2';rw [e2']
     have hm:=zcc hy3
     have hfr:=S.free _ hm rfl
     obtain ⟨m0,hn0,hl0⟩:=I2.loc
     obtain ⟨u,r,l⟩:=hl0 i x v hy2 hσ (Or.inr hfr)
     refine ⟨u,r,.inr ⟨?_,?_⟩⟩
     ·show (relabel scope X.env).names.lookup x=some .cell∨(relabel scope X.env).names.lookup x=some .free
      rw [zbF,hy3]
      simp only [Option.map_some]
      split
      ·exact .inl rfl
      ·exact .inr rfl
     ·rcases l with ⟨k,_⟩ | ⟨_,c,hc1,hc2⟩
      ·have k':X.env.scope.names.lookup x=some .local:=k
       rw [k'] at hfr;rcases hfr with z | z <;> cases z
      ·obtain ⟨c',hc'⟩:=hcl2 _ hm rfl
       have:=hcl1 _ _ hc'
       rw [hc1] at this;cases this
       exact ⟨c,hc',hc2.keeps old⟩
  ·obtain ⟨v,z⟩:=I2.cell x c (hcl1 _ _ e)
   exact ⟨v,z.keeps old⟩
  ·show (za9 src σ).length=Nc.length
   unfold za9;rw [List.length_map];exact S.len
 obtain ⟨W,⟨m0,w0⟩,turn⟩:=hw
 have loop:codeAny (model X.prog X.w) X.A (.compLoop (.ListComp elt [⟨tg,iter,ifs,0⟩] scope pos) 0 (.ref it) (.ref D) (compEnvC scope cl C X.env)) (RR (.ref D) C) { s2 with heap:=h1,toks:=s2.toks+([]:List (Str×Value)).length }:=by
  have fpk:∀ {H':Hp} {ob:Obj},(∀ b∈fp,H' b=none)→∀ b∈fp,FpOk (cxC X Nc scope cl C fp s2 H2) [(D,ob)] H' b:=fun {H' ob} hn b hb =>
   ⟨hn b hb,(I0.ok.exf b hb).1,I0.ok.exfs b hb,.inl hb,(I0.ok.exf b hb).2,fun p hp=>by
    have e:p=(D,ob):=List.mem_singleton.mp hp
    subst e
    exact Nat.ne_of_gt (Nat.lt_of_lt_of_le (hfp b hb) hDle)⟩
  have hDfs:D ∉ frs X.stack:=fun hs=>by
   rcases List.mem_cons.mp (I2.stkSub D hs) with z | z
   ·exact absurd (Nat.lt_of_lt_of_le I2.lt hDle) (by rw [z];exact Nat.lt_irrefl _)
   ·exact I2.nofs hDle z
  refine zlO (fun n s'=>∃ i ys σ' H' its k,Inv (cxC X Nc scope cl C fp s2 H2) [] σ' H' s'∧tn i s'.heap∧(∀ b∈fp,H' b=none)∧H' D=none∧s'.heap.get? D=some { cls:=.type "list",data:=.seq (its:List Value).toArray k }∧Vals ys its∧W i n ys σ' H') ?_ m0
   ⟨0,[],za9 src σ,H2,[],0,I0,T.keep _ _ _ st2 fun b hb o e=>old b o e,fun b hb=>(f2 b hb).1,I2.hok.fresh hDle,hacc,.nil,w0⟩
  rintro n s3 ⟨i,ys,σ3,H3,its,k,I3,st3,fr3,hD3,hO3,vs3,w3⟩
  have I3':Inv (cxC X Nc scope cl C fp s2 H2) [(D,({ cls:=.type "list",data:=.seq its.toArray k }:Obj))] σ3 H3 s3:=I3.pins_of fun p hp=>by
   have e:=List.mem_singleton.mp hp
   subst e
   exact ⟨hO3,hD3,hDC,hDfs,fun v z=>by
    have z':Data.seq _ _=Data.cell v:=z
    cases z'⟩
  rcases turn i n ys σ3 H3 w3 with ⟨stop,hlen,qn⟩ | ⟨go,hlen,N,hN,step⟩
  ·refine thn (T.done (cxC X Nc scope cl C fp s2 H2) rfl rfl rfl hc i _ s3 σ3 H3 _ I3' (fpk fr3) st3 stop) fun r s4 ⟨hr,I4⟩=>?_
   subst hr
   have hO4:=(I4.pin (D,_) (List.mem_append_right _ (List.mem_singleton.mpr rfl))).1
   obtain ⟨m4,hn4,_⟩:=I4.loc
   have fC:H3 C=none:=I4.free
   have uD:upd H3 D (.lst ys) C=none:=by rw [zai hDC.symm];exact fC
   have hl2:∀ b v,H2 b=some v→b<s2.heap.objs.size:=fun b v e=>I2.hok.lt e
   have Iout:Inv X pins σ (upd H3 D (.lst ys)) s4:=by
    refine I2.call' (ch:=fp) I4.os (Un.track I4.base hDle hl2) (HOk.track I4.hok hD3 ⟨hlen,its,k,vs3,hO4⟩) I4.bare fun b hb=>?_
    obtain ⟨_,a1,_,a3,a4,a5⟩:=f2 b hb
    exact ⟨a3,a1,a4,a5⟩
   exact fin H3 s4 ys m4 C (by omega) hD3 Iout hn4 uD qn
  ·refine thn (T.item (cxC X Nc scope cl C fp s2 H2) rfl rfl rfl hc i _ s3 σ3 H3 _ I3' (fpk fr3) st3 go) fun r s4 ⟨u,hr,h4⟩=>?_
   subst hr
   refine thn h4 fun _ s5 ⟨x,H5,I5,r5,y5,st5,fr5⟩=>?_
   have I5':=I5.pinned (fpk fr5) (T.obj _ _ st5)
   refine thn (hg cl C fp s2 H2 _ s5 σ3 H5 x u _ I5' r5 (step x H5 y5)) fun _ s6 ⟨σ6,H6,I6,q6⟩=>?_
   refine thn (hf cl C fp s2 H2 _ s6 σ6 H6 _ I6 q6) fun ok s7 ⟨H7,I7,q7⟩=>?_
   have back:∀ {s8:Shared} {σ8:St} {H8:Hp},Inv (cxC X Nc scope cl C fp s2 H2) ([(D,({ cls:=.type "list",data:=.seq its.toArray k }:Obj))] ++ zey fp s5.heap) σ8 H8 s8 →
     tn (i+1) s8.heap∧(∀ b∈fp,H8 b=none)∧H8 D=none∧s8.heap.get? D=some { cls:=.type "list",data:=.seq its.toArray k }:=fun {s8 σ8 H8} I8=>by
    refine ⟨T.keep _ _ _ st5 fun b hb o e=>(I8.pin (b,o) (List.mem_append_right _ (List.mem_append_right _ (zbh hb e)))).1,fun b hb=>?_,?_,?_⟩
    ·obtain ⟨o,e,d⟩:=T.obj _ _ st5 b hb
     exact (I8.pin (b,o) (List.mem_append_right _ (List.mem_append_right _ (zbh hb e)))).2.1
    ·exact (I8.pin (D,_) (List.mem_append_right _ (List.mem_append_left _ (List.mem_singleton.mpr rfl)))).2.1
    ·exact (I8.pin (D,_) (List.mem_append_right _ (List.mem_append_left _ (List.mem_singleton.mpr rfl)))).1
   cases ok with
   | false =>
    obtain ⟨m',hm',w7⟩:=hN _ _ _ q7
    obtain ⟨b1,b2,b3,b4⟩:=back I7
    exact ⟨m',hm',i+1,ys,σ6,H7,its,k,I7.pins_of (fun p hp=>nomatch hp),b1,b2,b3,b4,vs3,w7⟩
   | true =>
    refine thn (he cl C fp s2 H2 _ s7 σ6 H7 _ I7 q7) fun v s8 ⟨y,H8,I8,r8,q8⟩=>?_
    obtain ⟨m',hm',w8⟩:=hN _ _ _ q8
    obtain ⟨b1,b2,b3,b4⟩:=back I8
    have hl8:=vs3.length
    refine call_meets F.slot_list_append ⟨_,b4,rfl⟩ F.entry_list_append (F.args_list_append_2 _ _) (PySem.list_append D its.toArray k v (by rw [List.size_toArray];omega)) ⟨b4,?_⟩
    have I8n:Inv (cxC X Nc scope cl C fp s2 H2) [] σ6 H8 s8:=I8.pins_of fun p hp=>nomatch hp
    have kq:∀ b o,b≠D→s8.heap.get? b=some o→(s8.heap.update D (Obj.mapSeq (·.push v))).get? b=some o:=fun b o hb e=>(Heap.get?_update_other s8.heap _ (Ne.symm hb)).trans e
    have qn:=PySem.IsL.update b4 (·.push v)
    have e2:its.toArray.push v=(its ++ [v]).toArray:=by simp
    rw [e2] at qn
    have I9:Inv (cxC X Nc scope cl C fp s2 H2) [] σ6 H8 { s8 with heap:=s8.heap.update D (Obj.mapSeq (·.push v)),toks:=s8.toks }:=
     I8n.turned (it:=D) kq b3 hDC (.inr hDle) (fun x c e z=>by
      obtain ⟨w',z'⟩:=I2.cell x c (hcl1 _ _ e)
      exact absurd (Nat.lt_of_lt_of_le z'.lt hDle) (by rw [z];exact Nat.lt_irrefl _)) (fun p hp=>nomatch hp)
    refine ⟨m',hm',i+1,ys ++ [y],σ6,H8,its ++ [v],_,I9,T.keep _ _ _ b1 fun b hb o e=>kq b o (Nat.ne_of_lt (Nat.lt_of_lt_of_le (hfp b hb) hDle)) e,b2,b3,qn,vs3.append (.cons r8 .nil),w8⟩
 exact codeAny_compStart_list loop (T.self X.A 0 _ _ _ (T.keep _ _ _ st2 fun b hb o e=>old b o e) loop)
section
variable {X:Cx} {Nc:List Str} {src:List (Option Nat)} {scope:Scope} {elt tg iter:Expr} {ifs:List Expr} {pos:Pos} {wi:TI} {g:TG} {tf:TT} {te:TE}
theorem zd0 (src:List (Option Nat)) (hc:X.calm=true) (S:CompOk X.N X.env.scope Nc src scope) (hi:PI X tg iter wi)
  (hg:∀ cl C fp s2 H2,PG (cxC X Nc scope cl C fp s2 H2) tg g) (hf:∀ cl C fp s2 H2,PF (cxC X Nc scope cl C fp s2 H2) ifs tf) (he:∀ cl C fp s2 H2,PE (cxC X Nc scope cl C fp s2 H2) elt te)
  (hs:∀ x,foldedSetIterable iter X.env x=pure x:=by intro _;rfl):PE X (.ListComp elt [⟨tg,iter,ifs,0⟩] scope pos) (tComp src wi g tf te):=by
 intro pins s σ H Q I h
 obtain ⟨cl,hclos,hcl1,hcl2⟩:=zbf I.ok (scope:=scope) S.free
 rw [eval_ListComp]
 refine wpAny_comprehension_free (use:=none) rfl hs hclos S.kind (fun x hx hl=>by obtain ⟨n,k⟩:=x;cases hl;exact zbe S.nodup hx) (thn (hi pins s σ H _ I h) fun xv s1 h1=>thn h1 fun itv s2 h2=>?_)
 obtain ⟨it,fp,tn,J,H2,e,I2,T,st2,f2,hw⟩:=h2
 subst e
 refine zfX (RR:=fun acc C=>compPost (model X.prog X.w) X.A X.xe none (EP X pins σ Q) acc C) hc I2 S hcl1 hcl2 T st2 f2 hg hf he hw ?_
 intro H4 s4 ys m C hC hD Iout hn hCn q
 refine ⟨m,hn,fun h' sb=>⟨.ref s2.heap.objs.size,_,?_,rfl,q _ hD⟩⟩
 obtain ⟨f0,f1,f3,f4,f5,f6⟩:=I2.fpOk (H':=upd H4 s2.heap.objs.size (.lst ys)) hC hCn
 exact Iout.turned (t':=s4.toks) (it:=C) (fun b o hb e=>(sb.2 b hb).trans e) f0 f1 f4 f5 f6
theorem zcU {i:Nat} {y:Str} {pos' spos:Pos} (src:List (Option Nat)) (hN:X.N.Nodup) (hi':X.N[i]? = some y) (hy:X.env.scope.names.lookup y=some .local)
  (hc:X.calm=true) (S:CompOk X.N X.env.scope Nc src scope) (hi:PI X tg iter wi)
  (hg:∀ cl C fp s2 H2,PG (cxC X Nc scope cl C fp s2 H2) tg g) (hf:∀ cl C fp s2 H2,PF (cxC X Nc scope cl C fp s2 H2) ifs tf) (he:∀ cl C fp s2 H2,PE (cxC X Nc scope cl C fp s2 H2) elt te)
  (hsw:swapsWith (.ListComp elt [⟨tg,iter,ifs,0⟩] scope pos) (some (.Name y pos')) spos.line X.env=pure true:=by rfl)
  (hs:∀ x,foldedSetIterable iter X.env x=pure x:=by intro _;rfl):PS X (.Assign [.Name y pos'] (.ListComp elt [⟨tg,iter,ifs,0⟩] scope pos) spos) (tAsg (tComp src wi g tf te) (za5 i)):=by
 intro pins s σ H D I h
 obtain ⟨cl,hclos,hcl1,hcl2⟩:=zbf I.ok (scope:=scope) S.free
 rw [exec_Assign_Name_used _ _ _ _ hsw]
 refine wpAny_bind (wpAny_standAt (wpAny_bind ?_))
 show wpAny _ X.A (do let _ ← comprehension (.ListComp elt [⟨tg,iter,ifs,0⟩] scope pos) scope X.env _ (newList []) false (eval iter X.env) (some (assign (.Name y pos') X.env))) _ _ s
 refine wpAny_bind (wpAny_mono (wpAny_comprehension_free (use:=some (assign (.Name y pos') X.env)) (Q:=fun _ s'=>SP X pins D .next s') rfl hs hclos S.kind (fun x hx hl=>by obtain ⟨n,k⟩:=x;cases hl;exact zbe S.nodup hx)
  (thn (hi pins s σ H _ I h) fun xv s1 h1=>thn h1 fun itv s2 h2=>?_)) (fun _ s' hq=>wpAny_pure (wpAny_pure hq)) fun _ _ e=>e)
 obtain ⟨it,fp,tn,J,H2,e,I2,T,st2,f2,hw⟩:=h2
 subst e
 refine zfX (RR:=fun acc C=>compPost (model X.prog X.w) X.A X.xe (some (assign (.Name y pos') X.env)) (fun _ s'=>SP X pins D .next s') acc C) hc I2 S hcl1 hcl2 T st2 f2 hg hf he hw ?_
 intro H4 s4 ys m C hC hD Iout hn hCn q
 show wpAny _ X.A (assign (.Name y pos') X.env (.ref s2.heap.objs.size)) _ _ _
 refine wpAny_assign_Name (zdy (i:=i) Iout hN hi' (.inl hy) (v:=.ref s2.heap.objs.size) rfl (fun s5 I5 ch=>?_) (.inr hy))
 obtain ⟨f0,f1,f3,f4,f5,f6⟩:=I2.fpOk (H':=upd H4 s2.heap.objs.size (.lst ys)) hC hCn
 obtain ⟨a,sb,ha⟩:=ch
 have hCa:C≠a:=by
  rcases ha with ha | ha
  ·rw [ha];exact f1
  ·exact fun z=>f5 _ _ ha z.symm
 refine ⟨m,hn.sameBut sb hCa,fun h' sb'=>⟨_,_,I5.turned (t':=s5.toks) (it:=C) (fun b o hb e=>(sb'.2 b hb).trans e) f0 f1 f4 f5 f6,q _ hD⟩⟩
end
end L2
end
section
set_option Elab.async false
set_option linter.all false
set_option maxRecDepth 100000
set_option maxHeartbeats 4000000
namespace L2
open PySem PySem.Spec PyProof.Rows
section
variable {X:Cx} {pins:List (Addr×Obj)} {σ:St} {H:Hp} {s:Shared}
theorem Inv.turnedL {h':Heap} {t':Nat} {ch:List Addr} (I:Inv X pins σ H s) (k:∀ b o,b ∉ ch→s.heap.get? b=some o→h'.get? b=some o) (hf:∀ b∈ch,FpOk X pins H b):Inv X pins σ H { s with heap:=h',toks:=t' }:=by
 have nit:∀ b u,H b=some u→b ∉ ch:=fun b u e z=>by rw [(hf b z).1] at e;cases e
 refine I.step (g':=s.gens) (d':=s.drawn) (ch:=ch) (fun b hb=>?_) (fun b o _ _ hc e _=>k b o hc e) (fun b o _ _ hc e _=>⟨o.slots,k b o hc e⟩) (fun _ _ _ _ n=>n)
  (fun b o hc e=>⟨o,k b o hc e⟩) (fun _ _ e=>e) (fun _ _ _ e=>e) (fun b ps e=>⟨#[],by rw [e];simp⟩) (fun m hm=>?_) (fun b u e=>?_) I.bare
 ·obtain ⟨_,a1,_,a3,a4,a5⟩:=hf b hb
  exact ⟨a3,a1,a4,a5⟩
 ·obtain ⟨o,es,ep,ho,r⟩:=hm
  exact ⟨o,es,ep,k _ o (fun z=>(hf _ z).2.1 rfl) ho,r⟩
 ·refine (I.hok b u e).stay (fun c v hc q=>k c v ?_ q) (fun _ q=>q) fun _ _ q=>q
  rcases hc with z | z
  ·rw [z];exact nit b u e
  ·exact nit c _ z
theorem Un.track' {fs ex:List Addr} {H H':Hp} {h h':Heap} {a:Addr} {o:HO} (u:Un fs ex H H' h h') (hp:h.objs.size≤a) (hn:H' a=none):Un fs ex H (upd H' a o) h h' where
 keep:=u.keep
 slot:=u.slot
 free:=fun b v q n x=>by rw [zai (Nat.ne_of_lt (Nat.lt_of_lt_of_le (Heap.lt_size q) hp))];exact u.free b v q n x
 there:=u.there
 tups:=fun b xs q=>by rw [zai (zam (u.tups b xs q) hn)];exact u.tups b xs q
 frzs:=fun b v xs q=>by rw [zai (zam (u.frzs b v xs q) hn)];exact u.frzs b v xs q
 tbls:=fun b ps q=>by
  obtain ⟨m,e⟩:=u.tbls b ps q
  exact ⟨m,by rw [zai (zam e hn)];exact e⟩
theorem Inv.track {a:Addr} {o:HO} (I:Inv X pins σ H s) (f:FpOk X pins H a) (hs:X.s₀.heap.objs.size≤a) (new:ObjOk X.prog X.w (upd H a o) s.heap a o):Inv X pins σ (upd H a o) s:=by
 obtain ⟨hn,h1,_,_,h4,h5⟩:=f
 refine ⟨I.ok,I.os,I.bare,Un.track' I.base hs hn,I.loc,I.cell,by rw [zai (Ne.symm h1)];exact I.free,fun x c e=>by rw [zai (h4 x c e)];exact I.freeC x c e,fun p hp=>?_,HOk.track I.hok hn new,I.len⟩
 obtain ⟨a1,a2,a3⟩:=I.pin p hp
 exact ⟨a1,by rw [zai (h5 p hp)];exact a2,a3⟩
end
def Ite (K:PySem.W.Frag) (a:Addr):It:=
 ⟨fun i H=>∃ xs x,SqL K H a xs∧xs[i]? = some x,
  fun i H v H'=>∃ T x,H T=none∧v = .ref T∧H'=upd H T (.tup [.int i,x])∧∀ xs,SqL K H a xs→xs[i]? = some x,
  fun i H=>∃ xs,SqL K H a xs∧xs.length≤i⟩
theorem zcG {P:Program} {w:World} {H:Hp} {h:Heap} {T:Addr} {x y:V} {u v:Value} (r:RelV x u) (q:RelV y v) (e:h.get? T=some { cls:=.type "tuple",data:=.seq #[u,v] }):ObjOk P w H h T (.tup [x,y]):=
 ⟨by show 2≤sizeLine;decide,[u,v],.cons r (.cons q .nil),⟨_,e,rfl,_,rfl⟩⟩
theorem zie {P:Program} {w:World} {K:PySem.W.Frag} {elts:List Expr} {kt:Nat} {tp:Pos} (a e it:Addr) (hne:e≠it) :
  Turn P w K (.Tuple elts kt tp) (Ite K a) [e,it] e (fun i h=>(∃ old,IsEnum h e it i old)∧h.IsListIter it a i) where
 mem:=by simp
 obj:=fun i h st b hb=>by
  obtain ⟨⟨old,he⟩,hi⟩:=st
  rcases List.mem_cons.mp hb with z | z
  ·subst z
   exact ⟨_,he,fun v z=>by
    have z':Data.fields _=Data.cell v:=z
    cases z'⟩
  ·have z:=List.mem_singleton.mp z
   subst z
   obtain ⟨o,e1,c,d⟩:=hi
   exact ⟨o,e1,fun v z=>by rw [d] at z;cases z⟩
 keep:=fun i h h' st k=>by
  obtain ⟨⟨old,he⟩,hi⟩:=st
  exact ⟨⟨old,k e (by simp) _ he⟩,hi.at fun o e1=>k it (by simp) o e1⟩
 item:=by
  intro X hP hw hK hc i pins s σ H E I hf st hg
  subst hP hw hK
  obtain ⟨xs,x,hq,hx⟩:=hg
  obtain ⟨its,rv,p,hz⟩:=I.list hq
  obtain ⟨u,hu,ru⟩:=rv.get hx
  obtain ⟨⟨old,he⟩,hi⟩:=st
  refine wpAny_pyNext_enum_item he hi p.isList (x:=u) (by simpa using hu) hne fun h' ho hi' ht hsz kk=>⟨_,rfl,?_⟩
  refine wpAny_letOwnedTupleGo_enum ho fun h2 he2 sb=>?_
  have fT:FpOk X pins H s.heap.objs.size:=I.fpOk (Nat.le_refl _) (I.hok.fresh (Nat.le_refl _))
  have k2:∀ b o,b ∉ [e,it]→s.heap.get? b=some o→h2.get? b=some o:=fun b o hb e1=>by
   simp only [List.mem_cons,List.mem_nil_iff,or_false,not_or] at hb
   exact (sb.2 b hb.1).trans (kk b o hb.1 hb.2 e1)
  have I1:Inv X pins σ H { s with heap:=h2,toks:=s.toks+1 }:=I.turnedL (ch:=[e,it]) k2 hf
  have eT:h2.get? s.heap.objs.size=some { cls:=.type "tuple",data:=.seq #[.int i s.toks,u] }:=(sb.2 _ (Nat.ne_of_gt (Heap.lt_size he))).trans ht
  have I2:=I1.track (o:=.tup [.int i,x]) fT (Nat.le_trans I.sz (Nat.le_refl _)) (zcG ⟨_,rfl⟩ ru eT)
  refine ⟨.ref s.heap.objs.size,_,I2,rfl,⟨_,x,fT.1,rfl,rfl,fun ys hy=>by rw [I.list_inj hy hq];exact hx⟩,⟨⟨u,by exact_mod_cast he2⟩,hi'.extBut sb.extBut (Ne.symm hne)⟩,fun b hb=>?_⟩
  obtain ⟨o,eb⟩:∃ o,s.heap.get? b=some o:=by
   rcases List.mem_cons.mp hb with z | z
   ·subst z;exact ⟨_,he⟩
   ·have z:=List.mem_singleton.mp z
    subst z
    obtain ⟨o,e1,_⟩:=hi
    exact ⟨o,e1⟩
  rw [zai (Nat.ne_of_lt (Heap.lt_size eb))]
  exact (hf b hb).1
 done:=by
  intro X hP hw hK hc i pins s σ H E I hf st hg
  subst hP hw hK
  obtain ⟨xs,hq,hx⟩:=hg
  obtain ⟨its,rv,p,hz⟩:=I.list hq
  obtain ⟨⟨old,he⟩,hi⟩:=st
  have hl:=rv.length
  refine wpAny_pyNext_enum_end (I.ok.hd hc) he hi p.isList (by simp;omega) fun h' eb=>⟨rfl,I.turnedL (t':=s.toks) (ch:=[e,it]) (fun b o hb e1=>eb b o (fun z=>hb (by simp [z])) e1) hf⟩
 self:=fun _ _ _ _ _ st h=>by
  obtain ⟨⟨old,he⟩,hi⟩:=st
  exact wpAny_pyIter_enum he h
def iEnum (K:PySem.W.Frag) (ta:TA):TI:=fun σ H R=>ta σ H fun vs H1=>∃ a,vs=[.ref a]∧(∃ xs,SqL K H1 a xs)∧R (Ite K a) H1
theorem zlB {X:Cx} {a:Expr} {ta:TA} {p pos:Pos} {elts:List Expr} {kt:Nat} {tp:Pos} (hg:Gl X "enumerate") (hm:X.mg "enumerate" = none) (ha:PA X [a] ta) (hs:starEach [a] X.env=[(false,eval a X.env)]:=by rfl) :
  PI X (.Tuple elts kt tp) (.Call (.Name "enumerate" p) [a] [] pos) (iEnum X.K ta):=by
 intro pins s σ H R I h
 refine Call_ (zc1 I hg hm boot_enumerate (PyProof.Rows.callWith_type1 (thn (ha pos pins s σ H _ I h) fun us s1 ⟨vs,H1,I1,r1,q1⟩=>?_) hs rfl))
 obtain ⟨l,e,⟨xs,hq⟩,q⟩:=q1
 subst e
 obtain ⟨u,rfl,ru⟩:=zc4 r1
 cases ru
 obtain ⟨its,rv,pl,hz⟩:=I1.list hq
 refine call_enumerate_list pl.isList fun h' he hi hsz kk=>?_
 refine wpAny_pyIter_enum he ?_
 have I2:Inv X pins σ H1 { s1 with heap:=h',toks:=s1.toks }:=I1.kept kk
 refine ⟨s1.heap.objs.size+1,[s1.heap.objs.size+1,s1.heap.objs.size],_,_,H1,rfl,I2,zie l _ _ (Nat.succ_ne_self _),⟨⟨_,he⟩,hi⟩,fun b hb=>?_,q⟩
 rcases List.mem_cons.mp hb with z | z
 ·subst z;exact I1.fpOk (Nat.le_succ _) (I1.hok.fresh (Nat.le_succ _))
 ·have z:=List.mem_singleton.mp z
  subst z;exact I1.fpOk (Nat.le_refl _) (I1.hok.fresh (Nat.le_refl _))
theorem zkJ:bootBuiltins "zip" = some (.type "zip"):=by decide +kernel
end L2
end
section
set_option Elab.async false
set_option linter.all false
set_option maxRecDepth 100000
set_option maxHeartbeats 4000000
namespace L2
open PySem PySem.Spec PyProof.Rows
section
variable {X:Cx} {CX:CXT} {k:Nat} {f:Addr} {fd:FuncData} {ps ks:List Str} {sp:Sp} {E:XK} {x:Str} {p pos:Pos} {kws:List Keyword} {tk:TA} {g:List Value→List Value→List Value} {gV:List V→List V→List V}
theorem Fun.kbinds {K:PySem.W.Frag} {x qual:Str} {st:Stmt} {f:Addr} {fd:FuncData} {ps ks:List Str} {g:List Value→List Value→List Value} {gV:List V→List V→List V} (F:Fun K x qual st f fd)
  (h:∀ (kV doc pm:Value) (an:Option Addr) (cdv ct:Value) (us ws:List Value),(g us ws).length=ps.length→bindArgs (PySem.W.fnOf x qual (zbn st) (za6 st) (zah st) .none kV doc pm an cdv ct) ⟨us,ks.zip ws⟩=pure (ps.zip (g us ws)))
  (rel:∀ {vs:List V} {us:List Value} {zs:List V} {ws:List Value},Vals vs us→Vals zs ws→Vals (gV vs zs) (g us ws)):KBinds K fd ps ks g gV:=by
 obtain ⟨oc,od,kV,doc,pm,an,cdv,ct,osl,rfl,lk,hcd⟩:=F.ex
 exact ⟨fun s us ws _ hl=>.of_eq (h kV doc pm an cdv ct us ws hl),rel⟩
end
section
variable {X:Cx}
theorem zgA (val:Nat→Int) (ns:List Int) (h:∀ i n,ns[i]? = some n→val i=n):∀ j,j≤ns.length→preSum val j=(ns.take j).sum:=by
 intro j
 induction j with
 | zero=>intro _;rfl
 | succ j ih =>
  intro hj
  have hlt:j<ns.length:=hj
  show preSum val j+val j=_
  rw [ih (Nat.le_of_lt hlt),h j ns[j] (by simp [hlt]),List.take_succ,List.sum_append]
  simp [hlt]
theorem zfZ (hc:X.calm=true):zcu X (.builtin "sum") (fun xs H Q=>∃ (a:Addr) (ns:List Int),xs=[.ref a]∧SqL X.K H a (ns.map V.int)∧Q (.int ns.sum) H):=by
 intro pins s σ H xs us Q I r h
 obtain ⟨a,ns,rfl,hq,q⟩:=h
 obtain ⟨u,rfl,ru⟩:=zc4 r
 cases ru
 obtain ⟨its,rv,p,hz⟩:=I.list hq
 have hi:=zeB rv
 have hl:=hi.length
 refine call_sum_walkG (wpAny_pyIter_list p.isList ?_)
 have hne:a≠s.heap.objs.size:=by
  obtain ⟨o,ho,_⟩:=p.isList
  exact Nat.ne_of_lt (Heap.lt_size ho)
 refine ⟨s.heap.objs.size,_,_,_,_,_,fun i=>(ns[i]?).getD 0,rfl,Walks.list (A:=X.A.in1) (I.ok.hd hc) s.heap.objs.size a hne its.toArray,⟨⟨_,Heap.get?_push_size _ rfl,rfl,rfl⟩,p.isList.push _⟩,?_,?_,fun h' tk t' kk=>?_⟩
 ·intro b hb
  simp only [List.mem_cons,List.mem_nil_iff,or_false] at hb
  rw [show ({ s with heap:=s.heap.push _ }:Shared).heap.objs.size=s.heap.objs.size+1 from Heap.size_push ..]
  rcases hb with rfl | rfl
  ·exact Nat.lt_succ_self _
  ·obtain ⟨o,ho,_⟩:=p.isList
   exact Nat.lt_succ_of_lt (Heap.lt_size ho)
 ·intro i v hv
  have hv':its[i]? = some v:=by simpa using hv
  cases hn:ns[i]? with
  | none =>
   exfalso
   rw [List.getElem?_eq_none_iff,← hl] at hn
   rw [List.getElem?_eq_none hn] at hv'
   cases hv'
  | some n =>
   obtain ⟨t,ht⟩:=hi.get i n hn
   rw [ht] at hv';cases hv'
   exact ⟨t,by show Value.int n t=Value.int ((ns[i]?).getD 0) t;rw [hn];rfl⟩
 ·have e:preSum (fun i=>(ns[i]?).getD 0) its.toArray.size=ns.sum:=by
   rw [zgA _ ns (fun i n h=>by rw [h];rfl) _ (by simp;omega),List.take_of_length_le (by simp;omega)]
  rw [e]
  refine ⟨.int ns.sum,H,I.kept (t':=tk) fun b o e1=>kk b o (fun hb=>?_) (Heap.get?_push_of_some _ e1),⟨t',rfl⟩,q⟩
  have hb:=List.mem_singleton.mp hb
  exact absurd (Heap.lt_size e1) (by rw [hb];exact Nat.lt_irrefl _)
theorem zjI (bs:List Bool) (tr:Nat→Bool) (h:∀ i b,bs[i]? = some b→tr i=b):(List.range bs.length).all tr=bs.all id:=by
 induction bs generalizing tr with
 | nil=>rfl
 | cons b r ih =>
  rw [List.length_cons,List.range_succ_eq_map,List.all_cons,List.all_map,List.all_cons,h 0 b rfl]
  have:=ih (tr ∘ Nat.succ) (fun i c hi=>h (i+1) c (by simpa using hi))
  rw [this];rfl
theorem zem (hc:X.calm=true):zcu X (.builtin "all") (fun xs H Q=>∃ (a:Addr) (bs:List Bool),xs=[.ref a]∧SqL X.K H a (bs.map V.bl)∧Q (.bl (bs.all id)) H):=by
 intro pins s σ H xs us Q I r h
 obtain ⟨a,bs,rfl,hq,q⟩:=h
 obtain ⟨u,rfl,ru⟩:=zc4 r
 cases ru
 obtain ⟨its,rv,p,hz⟩:=I.list hq
 have hl:=rv.length
 rw [List.length_map] at hl
 refine call_all_walk (wpAny_pyIter_list p.isList ?_)
 have hne:a≠s.heap.objs.size:=by
  obtain ⟨o,ho,_⟩:=p.isList
  exact Nat.ne_of_lt (Heap.lt_size ho)
 refine ⟨s.heap.objs.size,_,_,_,_,_,fun i=>(bs[i]?).getD true,rfl,Walks.list (A:=X.A.in1) (I.ok.hd hc) s.heap.objs.size a hne its.toArray,⟨⟨_,Heap.get?_push_size _ rfl,rfl,rfl⟩,p.isList.push _⟩,?_,fun h' tk kk=>?_⟩
 ·intro i v s' Q' E' hv hq'
  have hv':its[i]? = some v:=by simpa using hv
  cases hn:bs[i]? with
  | none =>
   exfalso
   rw [List.getElem?_eq_none_iff,hl] at hn
   rw [List.getElem?_eq_none hn] at hv'
   cases hv'
  | some b =>
   obtain ⟨u',hu',ru'⟩:=rv.get (i:=i) (x:=V.bl b) (by simp [hn])
   obtain rfl:u'=Value.bool b:=ru'
   rw [hu'] at hv';cases hv'
   have hq2:Q' ((bs[i]?).getD true) s':=hq'
   rw [hn] at hq2
   exact wpAny_truthy_bool hq2
 ·have e:(List.range its.toArray.size).all (fun i=>(bs[i]?).getD true)=bs.all id:=by
   rw [show its.toArray.size=bs.length by simp;omega]
   exact zjI bs _ fun i b h=>by rw [h];rfl
  rw [e]
  refine ⟨.bl _,H,I.kept (t':=tk) fun b o e1=>kk b o (fun hb=>?_) (Heap.get?_push_of_some _ e1),rfl,q⟩
  have hb:=List.mem_singleton.mp hb
  exact absurd (Heap.lt_size e1) (by rw [hb];exact Nat.lt_irrefl _)
theorem zkX:RelV (.ty "int") (.type "int"):=rfl
theorem zeY:RelV (.ty "bool") (.type "bool"):=rfl
theorem zjD:bootBuiltins "int" = some (.type "int"):=by decide +kernel
theorem zfi:bootBuiltins "bool" = some (.type "bool"):=by decide +kernel
theorem za3:bootBuiltins "isinstance" = some (.builtin "isinstance"):=by decide +kernel
theorem zjE:bootBuiltins "all" = some (.builtin "all"):=by decide +kernel
def rCatS (K:PySem.W.Frag):R2:=fun x y H Q=>∃ a b xs ys,x = .ref a∧y = .ref b∧SqL K H a xs∧SqL K H b ys∧xs.length+ys.length≤sizeLine∧∀ p,H p=none→Q (.ref p) (upd H p (.lst (xs ++ ys)))
theorem ziW:OpR X (binaryOp .Add) (rCatS X.K):=by
 intro pins s σ H x y v u Q I rx ry h
 obtain ⟨a,b,xs,ys,rfl,rfl,hq,hq2,hz,q⟩:=h
 cases rx
 cases ry
 obtain ⟨its,rv,p,_⟩:=I.list hq
 obtain ⟨its2,rv2,p2,_⟩:=I.list hq2
 have e1:=rv.length
 have e2:=rv2.length
 obtain ⟨⟨cls,dd,data,sl⟩,ho,hc,n,hd⟩:=id p.isList
 obtain ⟨⟨cls2,dd2,data2,sl2⟩,ho2,hc2,n2,hd2⟩:=id p2.isList
 simp only at hc hd hc2 hd2
 subst hc hd hc2 hd2
 have ea:its.toArray ++ its2.toArray=(its ++ its2).toArray:=by simp
 refine concat_meets ⟨_,ho,rfl⟩ ⟨_,ho2,rfl⟩ noFill_list_add seq_list_add PySem.F.slot_list_add PySem.F.entry_list_add (PySem.F.args_list_add_2 _ _) (list_addW a b its.toArray its2.toArray n n2 dd dd2 sl sl2 (by rw [List.size_toArray,List.size_toArray];omega)) ⟨ho,ho2,?_⟩
 rw [ea]
 exact ⟨.ref _,_,I.lnew (t':=s.toks) (rv.append rv2) (by rw [List.length_append];omega),rfl,q _ I.fresh⟩
theorem ze1:OpR X (binaryOp .Mult) (rI IntMulOk fun i j=>.int (i * j)):=opI fun _ _ _ _ _ _ _ hc q=>mul_int q hc
theorem zdq:OpR X (binaryOp .FloorDiv) (rI (fun _ j=>0<j∧j.natAbs.log2<9000) fun i j=>.int (i / j)):=opI fun i j _ _ _ _ _ hc q=>by
 have e:i.fdiv j=i / j:=Int.fdiv_eq_ediv_of_nonneg _ (Int.le_of_lt hc.1)
 exact floordiv_int (by have:=hc.1;omega) (by rw [e];exact q) (.inl (PyProof.noPylong_of_log2 hc.2))
end
theorem bits_script {ns:List Int} (h:PySem.W.WData.layableAll [PySem.W.WData.list (ns.map PySem.W.WData.int)]=true):∀ n∈ns,Builtin.Int.intBits n≤2 ^ 20:=by
 intro n hn
 have h1:(PySem.W.WData.list (ns.map PySem.W.WData.int)).layable=true:=by
  have:=List.all_eq_true.mp h _ List.mem_cons_self
  exact this
 have hw:=(PySem.W.layableW_iff.mp h1).2.2
 have key:∀ l:List Int,n∈l→Builtin.Int.intBits n≤PySem.W.WData.weightAll (l.map PySem.W.WData.int):=by
  intro l
  induction l with
  | nil=>intro h;cases h
  | cons m r ih =>
   intro hm
   rw [List.map_cons,PySem.W.WData.weightAll]
   rcases List.mem_cons.mp hm with e | hm
   ·subst e
    have:Builtin.Int.intBits n≤(PySem.W.WData.int n).weight:=by
     simp only [PySem.W.WData.weight,Builtin.Int.intBits]
     omega
    omega
   ·have:=ih hm
    omega
 have h2:=key ns hn
 rw [PySem.W.WData.weight] at hw
 omega
end L2
namespace Att
open PySem PySem.W PyProof.Rows PySem.Calls
theorem attach_callB {l:OpenLaw} {n:Nat} {q:Program} {loose:List Str} {XP:(Str→Option Value)→Heap→Prop} {YP:World→Heap→Prop} {d:DefRec}
  (hn:l.most=some n) (hdf:d.params.defaults=[])
  (call:∀ (w:World) (s₀ s₁:Shared) (mg mb:Str→Option Value) (fa:Addr) (o:Obj) (pm cd doc:Value) (a:Addr) (vs:List Value) (ns:List Int),
   Ground q loose [] XP w s₀ mg mb s₁.heap→YP w s₁.heap →
   s₁.heap.get? fa=some o→o.data = .func (docDef d.name d.params d.body d.scope pm cd doc)→s₁.heap.CodeRec cd d.name→mg d.name=some (.ref fa) →
   s₁.heap.get? a=some { cls:=.type "list",data:=.seq vs.toArray }→IntsAre vs ns→ns.length≤n→(∀ m∈ns,Builtin.Int.intBits m≤2 ^ 20)→s₁.gens = #[] →
   codeAny (model l.prog w) callerA (.call (.ref fa) ⟨[.ref a],[]⟩) (fun r s'=>r = .ok (.ret (.bool true))∧OldK s₁.heap s'.heap∧s'.os=s₁.os∧AllBare s'.gens) s₁) :
  WalkO q loose XP YP l.row.toRowW d [] (fun f vs=>PySem.call f vs):=by
 intro w s₀ s₁ mg mb G Y fa o pm cd doc dV kV ho hd hcd hD hmg hg args vals as hpre hlay hrd hwl hlo
 obtain rfl:dV = .none:=Dflts.none hD hdf
 obtain rfl:kV = .none:=Dflts.noKw hD
 obtain ⟨a,vs,ns,rfl,rfl,hobj,hints,hlen⟩:=ziz hn hpre hwl
 refine enter_call (codeAny_mono (call w s₀ s₁ mg mb fa o pm cd doc a vs ns G Y ho (fd_plain hd) hcd hmg hobj hints hlen (L2.bits_script hlay) hg) fun r s' hq=>?_)
 obtain ⟨rfl,h2,h3,h4⟩:=hq
 exact ⟨.inl ⟨.bool true,.bool true,[],rfl,fun _=>rfl,.bool true,ziL l _,fun _=>⟨List.Pairwise.nil,fun _ hm=>(nomatch hm)⟩⟩,h2,h3,h4⟩
end Att
namespace L2
open PySem PySem.Spec PyProof.Rows
theorem walk_ofB {l:PySem.W.OpenLaw} {n k:Nat} {q:Program} {loose:List Str} {XP:(Str→Option Value)→Heap→Prop} {YP:World→Heap→Prop} {d:DefRec} {K:Params→PySem.W.Frag} {CX:World→CXT} {sp:World→Sp} {x:Str}
  (hn:l.most=some n) (hn2:n≤sizeLine) (hdf:d.params.defaults=[]) (hr:Room k callerA)
  (hY:∀ (w:World) (h:Heap),YP w h→(K w.params).In h)
  (F:∀ (w:World) (mg:Str→Option Value) (fa:Addr) (h:Heap),(K w.params).In h→h.Ns mainGlobals mg→mg d.name=some (.ref fa) →
   ∃ fd:FuncData,(∀ (s:Shared) (u:Value),BindsTo s fd ⟨[u],[]⟩ [(x,u)]) ∧
    ∀ base:Heap,(K w.params).In base→base.Ns mainGlobals mg→FnOk l.prog w (K w.params) mg base (CX w) k fa fd [x] (sp w))
  (hsp:∀ (w:World) (H:Hp) (a:Addr) (ns:List Int),ns.length≤n→(∀ m∈ns,Builtin.Int.intBits m≤2 ^ 20)→Only H→SqL (K w.params) H a (ns.map V.int)→sp w [.ref a] H (fun v _=>v = .bl true) fun _ _ _=>False)
  (hCX:∀ (w:World) (H:Hp) (s:Shared) (e:Value) (s':Shared),CX w [] H s (fun _ _ _=>False) e s'→False) :
  PySem.W.WalkO q loose XP YP l.row.toRowW d [] (fun f vs=>PySem.call f vs):=by
 refine Att.attach_callB hn hdf fun w s₀ s₁ mg mb fa o pm cd doc a vs ns G Y ho hd hcd hmg hobj hints hlen hbits hg=>?_
 have KX:=hY w _ Y
 obtain ⟨fd,hb,hF⟩:=F w mg fa _ KX G.T.g hmg
 exact zkp KX G.T.g G.T.b G.T.builtins G.T.nolimit hg hobj hints (Nat.le_trans hlen hn2) hr hF hb (fun H hO hS=>hsp w H a ns hlen hbits hO hS) fun H e s'=>hCX w H s₁ e s'
end L2
end
section
set_option Elab.async false
set_option linter.all false
set_option maxRecDepth 100000
set_option maxHeartbeats 4000000
namespace L2
open PySem PySem.Spec PyProof.Rows
section
variable {K:PySem.W.Frag} {g:TG} {tf:TT} {te:TE} {Q:List V→Hp→Prop} {σ:St} {H:Hp}
theorem zcd {lo:Int} {n:Nat} (Pv:Nat→List V→St→Hp→Prop) (hn:n≤sizeLine) (h0:Pv 0 [] σ H) (hz:∀ i ys σ H,Pv i ys σ H→ys.length≤i)
  (hs:∀ i ys σ H,i<n→Pv i ys σ H→g (.int (lo+i)) σ H fun σ2 H2=>tf σ2 H2 fun b H3=>if b=true then te σ2 H3 fun y H4=>Pv (i+1) (ys ++ [y]) σ2 H4 else Pv (i+1) ys σ2 H3)
  (hd:∀ ys σ H,Pv n ys σ H→Q ys H):zg1 (Itr lo n) g tf te Q σ H:=by
 refine ⟨fun i m ys σ H=>m=n - i∧i≤n∧Pv i ys σ H,⟨n,by simp,Nat.zero_le _,h0⟩,?_⟩
 rintro i m ys σ H ⟨rfl,hi,p⟩
 have hl:=hz i ys σ H p
 by_cases hlt:i<n
 ·refine .inr ⟨hlt,by omega,Pv (i+1),fun ys' σ' H' p'=>⟨n - (i+1),by omega,rfl,hlt,p'⟩,fun x H' y=>?_⟩
  obtain ⟨e,y⟩:=y
  subst e y
  exact hs i ys σ _ hlt p
 ·have e:i=n:=by omega
  subst e
  exact .inl ⟨Nat.le_refl _,by omega,hd ys σ H p⟩
theorem zjw {a:Addr} {xs:List V} (Pv:Nat→List V→St→Hp→Prop) (hn:xs.length≤sizeLine) (h0:Pv 0 [] σ H) (hl:∀ i ys σ H,i≤xs.length→Pv i ys σ H→SqL K H a xs∧ys.length≤i)
  (hs:∀ i x ys σ H,xs[i]? = some x→Pv i ys σ H→g x σ H fun σ2 H2=>tf σ2 H2 fun b H3=>if b=true then te σ2 H3 fun y H4=>Pv (i+1) (ys ++ [y]) σ2 H4 else Pv (i+1) ys σ2 H3)
  (hd:∀ ys σ H,Pv xs.length ys σ H→Q ys H):zg1 (Itl K a) g tf te Q σ H:=by
 refine ⟨fun i m ys σ H=>m=xs.length - i∧i≤xs.length∧Pv i ys σ H,⟨xs.length,by simp,Nat.zero_le _,h0⟩,?_⟩
 rintro i m ys σ H ⟨rfl,hi,p⟩
 obtain ⟨q,hz⟩:=hl i ys σ H hi p
 by_cases hlt:i<xs.length
 ·refine .inr ⟨⟨xs,xs[i],q,by simp [hlt]⟩,by omega,Pv (i+1),fun ys' σ' H' p'=>⟨xs.length - (i+1),by omega,rfl,hlt,p'⟩,fun x H' y=>?_⟩
  obtain ⟨e,y⟩:=y
  subst e
  exact hs i x ys σ _ (y xs q) p
 ·have e:i=xs.length:=by omega
  subst e
  exact .inl ⟨⟨xs,q,Nat.le_refl _⟩,by omega,hd ys σ H p⟩
theorem zjx {a:Addr} {xs:List V} (Pv:Nat→List V→St→Hp→Prop) (hn:xs.length≤sizeLine) (h0:Pv 0 [] σ H) (hl:∀ i ys σ H,i≤xs.length→Pv i ys σ H→SqL K H a xs∧ys.length≤i)
  (hs:∀ i x T ys σ H,xs[i]? = some x→H T=none→Pv i ys σ H→g (.ref T) σ (upd H T (.tup [.int i,x])) fun σ2 H2=>tf σ2 H2 fun b H3=>if b=true then te σ2 H3 fun y H4=>Pv (i+1) (ys ++ [y]) σ2 H4 else Pv (i+1) ys σ2 H3)
  (hd:∀ ys σ H,Pv xs.length ys σ H→Q ys H):zg1 (Ite K a) g tf te Q σ H:=by
 refine ⟨fun i m ys σ H=>m=xs.length - i∧i≤xs.length∧Pv i ys σ H,⟨xs.length,by simp,Nat.zero_le _,h0⟩,?_⟩
 rintro i m ys σ H ⟨rfl,hi,p⟩
 obtain ⟨q,hz⟩:=hl i ys σ H hi p
 by_cases hlt:i<xs.length
 ·refine .inr ⟨⟨xs,xs[i],q,by simp [hlt]⟩,by omega,Pv (i+1),fun ys' σ' H' p'=>⟨xs.length - (i+1),by omega,rfl,hlt,p'⟩,fun v H' y=>?_⟩
  obtain ⟨T,x,hT,rfl,rfl,y⟩:=y
  exact hs i x T ys σ _ (y xs q) hT p
 ·have e:i=xs.length:=by omega
  subst e
  exact .inl ⟨⟨xs,q,Nat.le_refl _⟩,by omega,hd ys σ H p⟩
end
theorem zej {K:PySem.W.Frag} {i j:Nat} {T:Addr} {x y:V} {σ:St} {H:Hp} {Q:St→Hp→Prop} (h:Q ((σ.set i (some x)).set j (some y)) (upd H T (.tup [x,y]))) :
  gTup K 2 (zjg (za5 i) (zjg (za5 j) gNil)) (.ref T) σ (upd H T (.tup [x,y])) Q:=
 ⟨T,[x,y],rfl,SqT.of zad,rfl,x,[y],rfl,y,[],rfl,rfl,h⟩
end L2
end
section
set_option Elab.async false
set_option linter.all false
set_option maxRecDepth 100000
namespace Cb
open PySem
def zcf:Nat→Nat→List Nat
 | _,0=>[]
 | n,m+1=>(n % 2) :: zcf (n / 2) m
def num:List Nat→Nat
 | []=>0
 | b :: r=>b+2 * num r
def Bit (l:List Nat):Prop:=∀ b∈l,b≤1
theorem zc2:∀ m n,(zcf n m).length=m
 | 0,_=>rfl
 | m+1,n=>by simp [zcf,zc2 m]
theorem zf4:∀ m n,Bit (zcf n m)
 | 0,_=>fun b h=>by simp [zcf] at h
 | m+1,n=>fun b h=>by
  rcases List.mem_cons.mp (show b∈(n % 2) :: zcf (n / 2) m from h) with e | h
  ·omega
  ·exact zf4 m (n / 2) b h
theorem zeH:∀ k n,zcf n (k+1)=zcf n k ++ [n / 2 ^ k % 2]
 | 0,n=>by simp [zcf]
 | k+1,n=>by
  show (n % 2) :: zcf (n / 2) (k+1)=((n % 2) :: zcf (n / 2) k) ++ _
  rw [zeH k (n / 2),Nat.div_div_eq_div_mul,Nat.pow_succ,Nat.mul_comm (2 ^ k) 2]
  rfl
theorem zd9:∀ m n,num (zcf n m)=n % 2 ^ m
 | 0,n=>by simp [zcf,num,Nat.mod_one]
 | m+1,n=>by
  simp only [zcf,num,zd9 m,Nat.pow_succ]
  rw [Nat.mul_comm (2 ^ m) 2,Nat.mod_mul]
def ones:Nat→Nat
 | 0=>0
 | n+1=>(n+1) % 2+ones ((n+1) / 2)
decreasing_by omega
theorem zd1 (n:Nat):ones n=n % 2+ones (n / 2):=by
 cases n with
 | zero=>simp [ones]
 | succ n=>rw [ones]
def sgl:Nat→List Nat
 | 0=>[]
 | n+1=>if (n+1) % 2=1 then 1 :: (sgl ((n+1) / 2)).map (2 * ·) else (sgl ((n+1) / 2)).map (2 * ·)
decreasing_by all_goals omega
theorem zdk:sgl 0=[]:=by simp [sgl]
theorem zcJ (n:Nat):sgl (2 * n+1)=1 :: (sgl n).map (2 * ·):=by
 rw [sgl,if_pos (by omega),show (2 * n+1) / 2=n by omega]
theorem zbK (n:Nat):sgl (2 * n)=(sgl n).map (2 * ·):=by
 cases n with
 | zero=>simp [sgl]
 | succ n =>
  rw [show 2 * (n+1)=(2 * n+1)+1 by omega,sgl,if_neg (by omega),show (2 * n+1+1) / 2=n+1 by omega]
theorem zbH:∀ n,(sgl n).length=ones n:=by
 intro n
 induction n using Nat.strongRecOn with
 | _ n ih =>
  rcases Nat.mod_two_eq_zero_or_one n with h | h
  ·by_cases h0:n=0
   ·subst h0;simp [sgl,ones]
   ·have e:n=2 * (n / 2):=by omega
    rw [zd1,h]
    conv=>lhs;rw [e]
    rw [zbK,List.length_map,ih _ (by omega)];omega
  ·have e:n=2 * (n / 2)+1:=by omega
   rw [zd1,h]
   conv=>lhs;rw [e]
   rw [zcJ,List.length_cons,List.length_map,ih _ (by omega)];omega
theorem zi7 (a b:Nat):(2 * a) &&& (2 * b)=2 * (a &&& b):=by
 apply Nat.eq_of_testBit_eq;intro i
 cases i with
 | zero=>simp [Nat.testBit_and]
 | succ i =>
  rw [Nat.testBit_and,Nat.testBit_succ,Nat.testBit_succ,Nat.testBit_succ,show (2 * a) / 2=a by omega,show (2 * b) / 2=b by omega,show (2 * (a &&& b)) / 2=(a &&& b) by omega,Nat.testBit_and]
theorem zgT (a b:Nat):(2 * a+1) &&& (2 * b)=2 * (a &&& b):=by
 apply Nat.eq_of_testBit_eq;intro i
 cases i with
 | zero=>simp [Nat.testBit_and]
 | succ i =>
  rw [Nat.testBit_and,Nat.testBit_succ,Nat.testBit_succ,Nat.testBit_succ,show (2 * a+1) / 2=a by omega,show (2 * b) / 2=b by omega,show (2 * (a &&& b)) / 2=(a &&& b) by omega,Nat.testBit_and]
theorem zlS (a b:Nat):(2 * a) &&& (2 * b+1)=2 * (a &&& b):=by rw [Nat.and_comm,zgT,Nat.and_comm]
theorem zjZ:∀ n,0<n→(n &&& (n - 1))<n∧sgl n=(n - (n &&& (n - 1))) :: sgl (n &&& (n - 1)):=by
 intro n
 induction n using Nat.strongRecOn with
 | _ n ih =>
  intro hn
  rcases Nat.mod_two_eq_zero_or_one n with h | h
  ·have e:n=2 * (n / 2):=by omega
   obtain ⟨h1,h2⟩:=ih (n / 2) (by omega) (by omega)
   generalize n / 2=m at *
   subst e
   have e2:2 * m - 1=2 * (m - 1)+1:=by omega
   rw [e2,zlS]
   refine ⟨by omega,?_⟩
   rw [zbK,zbK,h2,List.map_cons]
   congr 1
   omega
  ·have e:n=2 * (n / 2)+1:=by omega
   generalize n / 2=m at *
   subst e
   have e2:2 * m+1 - 1=2 * m:=by omega
   rw [e2,zgT,Nat.and_self]
   exact ⟨by omega,by rw [zcJ,zbK];congr 1;omega⟩
theorem ze3:∀ m n,n<2 ^ m→ones n≤m
 | 0,n,h=>by simp at h;subst h;simp [ones]
 | m+1,n,h=>by
  have:=ze3 m (n / 2) (by rw [Nat.pow_succ] at h;omega)
  rw [zd1];omega
theorem band (a b:Nat):Builtin.bitAnd (a:Int) (b:Int)=((a &&& b:Nat):Int):=by
 unfold Builtin.bitAnd
 simp
end Cb
end
section
set_option Elab.async false
set_option linter.all false
set_option maxRecDepth 100000
set_option maxHeartbeats 4000000
namespace L2
open PySem PySem.Spec PyProof.Rows
def zcv (N:List Str) (names:List (Str×NameKind)):List (Option Nat)→List Str→Bool
 | [],[]=>true
 | none :: r,_ :: s=>zcv N names r s
 | some i :: r,x :: s=>(N[i]? == some x) && (names.lookup x == some .free) && zcv N names r s
 | _,_=>false
def ndOk:List (Str×NameKind)→Bool
 | []=>true
 | x :: r=>(r.all fun y=>x.1 != y.1) && ndOk r
def zfY (N:List Str) (osc:Scope) (Nc:List Str) (src:List (Option Nat)) (scope:Scope):Bool:=
 scope.kind == .function && (scope.names.all fun x=>x.2 != .cell) && ndOk scope.names &&
 (scope.names.all fun x=>x.2 != .free || osc.names.lookup x.1 == some .cell || osc.names.lookup x.1 == some .free) && zcv N scope.names src Nc
theorem zdB {N:List Str} {names:List (Str×NameKind)}:∀ {src:List (Option Nat)} {Nc:List Str},zcv N names src Nc=true→src.length=Nc.length
 | [],[],_=>rfl
 | none :: r,_ :: s,h=>by simp only [List.length_cons];rw [zdB (src:=r) (Nc:=s) h]
 | some i :: r,x :: s,h=>by
  simp only [zcv,Bool.and_eq_true] at h
  simp only [List.length_cons];rw [zdB h.2]
 | [],_ :: _,h=>by simp [zcv] at h
 | none :: _,[],h=>by simp [zcv] at h
 | some _ :: _,[],h=>by simp [zcv] at h
theorem zdA {N:List Str} {names:List (Str×NameKind)}:∀ {src:List (Option Nat)} {Nc:List Str},zcv N names src Nc=true→∀ (j i:Nat),src[j]? = some (some i)→∃ x,Nc[j]? = some x∧N[i]? = some x∧names.lookup x=some .free
 | [],[],_,j,i,e=>by simp at e
 | none :: r,y :: s,h,0,i,e=>by simp at e
 | none :: r,y :: s,h,j+1,i,e=>by
  have:=zdA (src:=r) (Nc:=s) h j i (by simpa using e)
  simpa using this
 | some k :: r,x :: s,h,0,i,e=>by
  simp only [zcv,Bool.and_eq_true,beq_iff_eq] at h
  simp only [List.getElem?_cons_zero,Option.some.injEq] at e
  subst e
  exact ⟨x,rfl,h.1.1,h.1.2⟩
 | some k :: r,x :: s,h,j+1,i,e=>by
  simp only [zcv,Bool.and_eq_true] at h
  have:=zdA (src:=r) (Nc:=s) h.2 j i (by simpa using e)
  simpa using this
 | [],_ :: _,h,_,_,_=>by simp [zcv] at h
 | none :: _,[],h,_,_,_=>by simp [zcv] at h
 | some _ :: _,[],h,_,_,_=>by simp [zcv] at h
theorem zi2:∀ {l:List (Str×NameKind)},ndOk l=true→l.Pairwise fun x y=>x.1≠y.1
 | [],_=>.nil
 | x :: r,h=>by
  simp only [ndOk,Bool.and_eq_true,List.all_eq_true,bne_iff_ne] at h
  exact .cons h.1 (zi2 h.2)
theorem zaY {N:List Str} {osc:Scope} {Nc:List Str} {src:List (Option Nat)} {scope:Scope} (h:zfY N osc Nc src scope=true):CompOk N osc Nc src scope:=by
 simp only [zfY,Bool.and_eq_true,beq_iff_eq,List.all_eq_true,bne_iff_ne] at h
 obtain ⟨⟨⟨⟨h1,h2⟩,h3⟩,h4⟩,h5⟩:=h
 refine ⟨h1,h2,zi2 h3,fun x hx hf=>?_,zdB h5,zdA h5⟩
 have:=h4 x hx
 simp only [Bool.or_eq_true,bne_iff_ne,beq_iff_eq] at this
 rcases this with (z | z) | z
 ·exact absurd hf z
 ·exact .inl z
 ·exact .inr z
structure Cal (P:Program) (w:World) (K:PySem.W.Frag) (mg:Str→Option Value) (base:Heap) (k:Nat) (x:Str) (ps:List Str) (sp:Sp):Prop where
 ex:∃ f fd,FnOk P w K mg base CX0 k f fd ps sp∧mg x=some (.ref f)∧PySem.W.keepIn K (.ref f)=true∧Binds K fd ps []
section
variable {X:Cx} {k:Nat} {ps ks:List Str} {sp:Sp} {x:Str} {p pos:Pos} {e:Expr} {es:List Expr} {t tk:TA} {kws:List Keyword} {gV:List V→List V→List V}
theorem zar (C:Cal X.prog X.w X.K X.mg X.base k x ps sp) (hr:Room k X.A) (hg:Gl X x) (ha:PA X (e :: es) t) (hdb:(x == ("__debug__" : Str))=false:=by decide)
  (he:starEach (e :: es) X.env=(false,eval e X.env) :: starEach es X.env:=by rfl) (hpl:(backTo pos (starEach es X.env)).any (·.1)=false:=by rfl):PE X (.Call (.Name x p) (e :: es) [] pos) (zlr sp [] E0 t):=by
 obtain ⟨f,fd,F,hm,hk,hb⟩:=C.ex
 exact zlE F hr hg hm hk hb .nil zhI ha hdb he hpl
end
end L2
namespace Cb
open PySem L2
def KeepP (p:Addr) (H H':Hp):Prop:=∀ b o,b≠p→H b=some o→H' b=some o
theorem KeepP.of {p:Addr} {H H':Hp} (h:Same H H'):KeepP p H H':=fun b o _ e=>h b o e
theorem zaf {H:Hp} {p:Addr} {o:HO} (h:H p=none):Same H (upd H p o):=fun b u e=>by rw [zai (zam e h)];exact e
def vN (l:List Nat):List V:=l.map fun (b:Nat)=>V.int (b:Int)
theorem zaw (l:List Nat):(vN l).length=l.length:=List.length_map ..
theorem zbT (l:List Nat) (b:Nat):vN (l ++ [b])=vN l ++ [V.int (b:Int)]:=by simp [vN]
theorem zfp {l:List Nat} {i:Nat} {x:V} (h:(vN l)[i]? = some x):∃ b,l[i]? = some b∧x=V.int (b:Int):=by
 unfold vN at h
 rw [List.getElem?_map] at h
 cases e:l[i]? with
 | none=>rw [e] at h;cases h
 | some b=>rw [e] at h;exact ⟨b,rfl,(Option.some.inj h).symm⟩
def zjU (K:PySem.W.Frag):Sp:=fun vs H Q _=>∃ (a:Addr) (ns:List Int),vs=[.ref a]∧SqL K H a (ns.map V.int)∧ns.length≤63∧(∀ m∈ns,Builtin.Int.intBits m≤2 ^ 20)∧∀ H',Q (.bl true) H'
def zcw:Sp:=fun vs H Q _=>∃ n:Nat,vs=[.int (n:Int)]∧n<2 ^ 64∧∀ (p:Addr) (H':Hp),H p=none→H' p=some (.lst (vN (sgl n)))→Same H H'→Q (.ref p) H'
def zik:Sp:=fun vs H Q _=>∃ n:Nat,vs=[.int (n:Int)]∧n<2 ^ 64∧∀ H',Same H H'→Q (.int (ones n:Int)) H'
end Cb
end
section
set_option Elab.async false
set_option linter.all false
set_option maxRecDepth 100000
set_option maxHeartbeats 4000000
namespace L2
open PySem PySem.Spec PyProof.Rows
section
variable {X:Cx} {K:PySem.W.Frag}
theorem ziQ (n:Nat) (hK:X.K=K) {es:List Expr} {k:Nat} {t:TGs} {pos:Pos} (hc:X.calm=true) (h:PGs X es t)
  (hn:(assignEach es X.env).length=n:=by rfl) (hst:(assignEach es X.env).findIdx? (·.1)=none:=by rfl):PG X (.Tuple es k pos) (gTup K n t):=by
 subst hK;exact zbc hc h hn hst
theorem ziI (hK:X.K=K) {a:Expr} {ta:TE} (ha:PE X a ta) (he:∀ whole,isTrue a X.env whole=(do let v ← whole;standAt a.pos;holding [v] (truthy v))) :
  PT X a (fun σ H Q=>ta σ H fun x H'=>∃ k,TruV K x H' k∧Q k H'):=by
 subst hK;exact zhb ha he
theorem zho (hK:X.K=K):IxR X (rIxL K):=by subst hK;exact zas
theorem zfc (hK:X.K=K):IxR X (rIxT K):=by subst hK;exact zap
end
end L2
end
section
set_option Elab.async false
set_option linter.all false
set_option maxRecDepth 100000
set_option maxHeartbeats 4000000
namespace L2
open PySem PySem.Spec PyProof.Rows
section
variable {prog:Program} {w:World} {A:Around} {E:Value→Shared→Prop} {s:Shared}
end
end L2
end
section
set_option Elab.async false
set_option linter.all false
set_option maxRecDepth 100000
set_option maxHeartbeats 4000000
namespace L2
open PySem PySem.Spec PyProof.Rows
end L2
end
section
set_option Elab.async false
set_option linter.all false
set_option maxRecDepth 100000
set_option maxHeartbeats 4000000
namespace L2
open PySem PySem.Spec PyProof.Rows Builtin
structure FunD (K:PySem.W.Frag) (x qual:Str) (st:Stmt) (dV:Value) (f:Addr) (fd:FuncData):Prop where
 ex:∃ (oc:Value) (od:Option Addr) (kV doc pm:Value) (an:Option Addr) (cdv ct:Value) (osl:Array (Option Value)),
  fd=PySem.W.fnOf x qual (zbn st) (za6 st) (zah st) dV kV doc pm an cdv ct∧K.lookup f=some ⟨oc,od,.func fd,osl⟩∧PySem.W.codeIn K cdv qual=true
 kp:PySem.W.keepIn K (.ref f)=true
section
variable {P:Program} {w:World} {K:PySem.W.Frag} {mg:Str→Option Value} {base:Heap}
theorem FunD.ok {x qual:Str} {st:Stmt} {dV:Value} {f:Addr} {fd:FuncData} {N ps:List Str} {k:Nat} {sp:Sp} (F:FunD K x qual st dV f fd) (S:FnScope N ps (zah st)) (len:∀ vs H Q E,sp vs H Q E→vs.length=ps.length)
  (hbody:∀ (cdv:Value) (A:Around) (outer:List Env) (s:Shared) (H:Hp) (vs:List V) (Q:VK) (E:XK),Room k (A.deeper (envOfC qual (zah st) s.heap.objs.size f cdv))→sp vs H Q E →
   ∃ t,PSs (cxOf CX0 P w K mg base N qual (zah st) f cdv A outer s H E).nox (za6 st) t∧t { nx:=fun _ H'=>Q .non H',rt:=Q } (start N vs) H):FnOk P w K mg base CX0 (k+1) f fd ps sp:=by
 obtain ⟨oc,od,kV,doc,pm,an,cdv,ct,osl,rfl,lk,hcd⟩:=F.ex
 refine fn_of lk hcd S len fun A outer s H vs Q E hr hsp=>?_
 obtain ⟨t,h,q⟩:=hbody cdv A outer s H vs Q E hr hsp
 exact ⟨t,h.nox,q⟩
theorem zl0 {x qual:Str} {st:Stmt} {dV:Value} {f:Addr} {oc:Value} {od an:Option Addr} {osl:Array (Option Value)} {kV doc pm cdv ct:Value} (l:K.lookup f=some ⟨oc,od,.func (PySem.W.fnOf x qual (zbn st) (za6 st) (zah st) dV kV doc pm an cdv ct),osl⟩)
  (c:PySem.W.codeIn K cdv qual=true) (k:PySem.W.keepIn K (.ref f)=true):FunD K x qual st dV f (PySem.W.fnOf x qual (zbn st) (za6 st) (zah st) dV kV doc pm an cdv ct):=⟨⟨oc,od,kV,doc,pm,an,cdv,ct,osl,rfl,l,c⟩,k⟩
theorem FunD.kbinds {x qual:Str} {st:Stmt} {T:Addr} {o:Obj} {items:Array Value} {n:Nat} {f:Addr} {fd:FuncData} {ps ks:List Str} {g:List Value→List Value→List Value} {gV:List V→List V→List V} (F:FunD K x qual st (.ref T) f fd)
  (ho:K.lookup T=some o) (hs:o.data = .seq items n)
  (h:∀ (kV doc pm:Value) (an:Option Addr) (cdv ct:Value) (us ws:List Value),(g us ws).length=ps.length→∃ q,bindArgs (PySem.W.fnOf x qual (zbn st) (za6 st) (zah st) (.ref T) kV doc pm an cdv ct) ⟨us,ks.zip ws⟩=seqItems? (.ref T) >>= q∧q (some items)=pure (ps.zip (g us ws)))
  (rel:∀ {vs:List V} {us:List Value} {zs:List V} {ws:List Value},Vals vs us→Vals zs ws→Vals (gV vs zs) (g us ws)):KBinds K fd ps ks g gV:=by
 obtain ⟨oc,od,kV,doc,pm,an,cdv,ct,osl,rfl,lk,hcd⟩:=F.ex
 refine ⟨fun s us ws X hl=>?_,rel⟩
 obtain ⟨q,h1,h2⟩:=h kV doc pm an cdv ct us ws hl
 exact PySem.W.binds_K X rfl ho hs h1 h2
theorem KBinds.pos {fd:FuncData} {ps:List Str} (b:Binds K fd ps []):KBinds K fd ps [] (fun us _=>us) (fun vs _=>vs):=
 ⟨fun s us ws X hl=>by have:=b s us X (by rw [List.append_nil];exact hl);rw [List.append_nil] at this;exact this,fun r _=>r⟩
end
def swS {α:Type} (us zs:List α):List α:=match zs with
 | [a,b]=>us ++ [b,a]
 | _=>[]
structure Mth (P:Program) (w:World) (K:PySem.W.Frag) (mg:Str→Option Value) (base:Heap) (k:Nat) (C:Addr) (m:Str) (ks:List Str) (gV:List V→List V→List V) (sp:Sp):Prop where
 cls:Cls K C
 ex:∃ f fd ps g,Meth K C m f∧FnOk P w K mg base CX0 k f fd ps sp∧KBinds K fd ps ks g gV
theorem Mth.mono {P:Program} {w:World} {K:PySem.W.Frag} {mg:Str→Option Value} {base:Heap} {j k:Nat} {C:Addr} {m:Str} {ks:List Str} {gV:List V→List V→List V} {sp:Sp} (M:Mth P w K mg base j C m ks gV sp) (h:j≤k):Mth P w K mg base k C m ks gV sp:=by
 obtain ⟨c,f,fd,ps,g,a,F,b⟩:=M
 exact ⟨c,f,fd,ps,g,a,F.mono h,b⟩
def tMth (P:Program) (w:World) (K:PySem.W.Frag) (mg:Str→Option Value) (base:Heap) (k:Nat) (m:Str) (ks:List Str) (ta:TE) (t tk:TA):TE:=fun σ H Q=>ta σ H fun x H1=>∃ a C dx fs gV sp,x = .ref a∧H1 a=some (.ins C dx fs)∧Mth P w K mg base k C m ks gV sp∧fs.lookup m=none ∧
 t σ H1 fun vs H2=>tk σ H2 fun zs H3=>sp (gV (x :: vs) zs) H3 Q E0
section
variable {X:Cx} {k:Nat} {C:Addr} {ks:List Str} {x m:Str} {p pos apos:Pos} {e o:Expr} {es:List Expr} {kws:List Keyword} {ta:TE} {t tk:TA}
theorem zaV {P:Program} {w:World} {K:PySem.W.Frag} {mg:Str→Option Value} {base:Heap} (k:Nat) (hX:X.prog=P∧X.w=w∧X.K=K∧X.mg=mg∧X.base=base) (hr:Room k X.A) {pl:Sem Bool} (he:PE X o ta) (ha:PA X (e :: es) t)
  (hst:starEach (e :: es) X.env=(false,eval e X.env) :: starEach es X.env:=by rfl) (hpl:(backTo pos (starEach es X.env)).any (·.1)=false:=by rfl)
  (ht:eval (.Call (.Attribute o m apos) (e :: es) [] pos) X.env=(do
   let ov ← eval o X.env
   standAt apos.atName
   let (f,first) ← holding [ov] (getMethod ov m pl)
   callWith pos f first (backTo pos (starEach (e :: es) X.env)) (backToKw pos (keywordEach [] X.env))):=by rfl) :
  PE X (.Call (.Attribute o m apos) (e :: es) [] pos) (tMth P w K mg base k m [] ta t tNil):=by
 obtain ⟨rfl,rfl,rfl,rfl,rfl⟩:=hX
 intro pins s σ H Q I h
 refine PySem.W.methodCall_KW (pl:=pl) (thn (he pins s σ H _ I h) fun u s1 ⟨x,H1,I1,rx,a,C,dx,fs,gV,sp,ex,ea,M,l,q⟩=>?_) ht
 obtain ⟨c,f,fd,ps,g,hm,F,hb⟩:=M
 subst ex
 obtain rfl:u=Value.ref a:=rx
 refine zeC I1 ea c hm l ?_
 refine PySem.W.callWith_K (first:=[.ref a]) (h₀:=X.base) I.ok.mod.kin hm.kp (thn (ha pos pins s1 σ H1 _ I1 q) fun us s2 ⟨vs,H2,I2,r,q2⟩=>⟨I2.kIn,?_⟩) hst hpl
 exact ziD (us:=.ref a :: us) (vs:=.ref a :: vs) (ws:=[]) (zs:=[]) F hr hb zhI I2 (.cons rfl r) .nil q2
theorem ziS {P:Program} {w:World} {K:PySem.W.Frag} {mg:Str→Option Value} {base:Heap} (k:Nat) (hX:X.prog=P∧X.w=w∧X.K=K∧X.mg=mg∧X.base=base) (hr:Room k X.A) {pl:Sem Bool} (he:PE X o ta)
  (ht:eval (.Call (.Attribute o m apos) [] [] pos) X.env=(do
   let ov ← eval o X.env
   standAt apos.atName
   let (f,first) ← holding [ov] (getMethod ov m pl)
   callWith pos f first (backTo pos (starEach [] X.env)) (backToKw pos (keywordEach [] X.env))):=by rfl) :
  PE X (.Call (.Attribute o m apos) [] [] pos) (tMth P w K mg base k m [] ta tNil tNil):=by
 obtain ⟨rfl,rfl,rfl,rfl,rfl⟩:=hX
 intro pins s σ H Q I h
 refine PySem.W.methodCall_KW (pl:=pl) (thn (he pins s σ H _ I h) fun u s1 ⟨x,H1,I1,rx,a,C,dx,fs,gV,sp,ex,ea,M,l,q⟩=>?_) ht
 obtain ⟨c,f,fd,ps,g,hm,F,hb⟩:=M
 subst ex
 obtain rfl:u=Value.ref a:=rx
 refine zeC I1 ea c hm l ?_
 exact PySem.W.callWith_K0 (first:=[.ref a]) I1.kIn hm.kp (ziD (us:=[.ref a]) (vs:=[.ref a]) (ws:=[]) (zs:=[]) F hr hb zhI I1 (.cons rfl .nil) .nil q)
end
def tLenO (P:Program) (w:World) (K:PySem.W.Frag) (mg:Str→Option Value) (base:Heap) (k:Nat) (ta:TE):TE:=fun σ H Q=>ta σ H fun x H1=>∃ a C dx fs gV sp,x = .ref a∧H1 a=some (.ins C dx fs)∧Mth P w K mg base k C "__len__" [] gV sp ∧
 sp (gV [x] []) H1 (fun v H2=>∃ n:Int,v = .int n∧0≤n∧n<2 ^ 63∧Q (.int n) H2) E0
section
variable {X:Cx} {e:Expr} {p pos:Pos} {ta:TE}
def lenQ (X:Cx) (k:Nat) (Q:VK) (vs:List V) (H1:Hp):Prop:=match vs with
 | [x]=>∃ a C dx fs gV sp,x = .ref a∧H1 a=some (.ins C dx fs)∧Mth X.prog X.w X.K X.mg X.base k C "__len__" [] gV sp∧sp (gV [x] []) H1 (fun v H2=>∃ n:Int,v = .int n∧0≤n∧n<2 ^ 63∧Q (.int n) H2) E0
 | _=>False
def LenIs (Q:Value→Shared→Prop):Value→Shared→Prop
 | .int n _,s'=>0≤n∧n<2 ^ 63∧Q (.int n s'.toks) { s' with toks:=s'.toks+1 }
 | _,_=>False
theorem lenOwn {prog:Program} {w:World} {A:Around} {E:Value→Shared→Prop} {s:Shared} {K:PySem.W.Frag} {a C f:Addr} {ob:Obj} {od:Option Obj} {Q:Value→Shared→Prop} (X:K.In s.heap) (I:PySem.W.InstAt s.heap a ob C od)
  (hs:PySem.W.findIn K (.ref C) "__len__" = some (some (.ref f))) (ht:PySem.W.typeIn K (.ref f)=some (.type "function"))
  (h:wpAny (model prog w) A.in1 (call (.ref f) [.ref a]) (LenIs Q) E s):wpAny (model prog w) A (call (.builtin "len") [.ref a]) Q E s:=by
 refine Calls.call_function_entry kind_len plain_len entry_len (args_len1 _) ?_
 delta Builtin.«len»
 refine wpAny_bind (m:=oneArg "len" _) (wpAny_pure (wpAny_bind (m:=callSpecial? (.ref a) (Str.ofString "__len__")) (PySem.W.special_fn X I hs ht (wpAny_mono h (fun r s' hr=>?_) (fun _ _ z=>z)))))
 cases r with
 | int n t =>
  obtain ⟨h0,h1,hq⟩:=hr
  refine wpAny_bind (wpAny_holding (wpAny_pure (wpAny_bind (wpAny_letGo ?_))))
  have e1:¬ n<0:=by omega
  have e2:¬ n ≥ 2 ^ 63:=by omega
  dsimp only
  rw [if_neg e1,if_neg e2]
  exact wpAny_bind (wpAny_mkInt (wpAny_pure ⟨_,rfl,hq⟩))
 | _=>exact hr.elim
theorem mtyp {K:PySem.W.Frag} {C f:Addr} {m:Str} (h:Meth K C m f):PySem.W.typeIn K (.ref f)=some (.type "function"):=beq_iff_eq.mp h.fn
theorem ziT {P:Program} {w:World} {K:PySem.W.Frag} {mg:Str→Option Value} {base:Heap} (k:Nat) (hX:X.prog=P∧X.w=w∧X.K=K∧X.mg=mg∧X.base=base) (hr:Room (k+1) X.A) (hg:Gl X "len") (hm:X.mg "len" = none) (he:PE X e ta)
  (hst:starEach [e] X.env=(false,eval e X.env) :: starEach [] X.env:=by rfl):PE X (.Call (.Name "len" p) [e] [] pos) (tLenO P w K mg base k ta):=by
 obtain ⟨rfl,rfl,rfl,rfl,rfl⟩:=hX
 intro pins s σ H Q I h
 refine wpAny_Call_Name_kw (zc1 I hg hm PySem.boot_len ?_ (by decide) (by decide))
 refine PyProof.Rows.callWith_builtin1 (thn (zaa (t:=tNil) he zae hst pos pins s σ H (lenQ X k Q) I h) fun us s1 ⟨vs,H1,I1,r1,q1⟩=>?_) hst rfl
 cases r1 with
 | nil=>exact q1.elim
 | cons ra rr=>cases rr with
  | cons _ _=>exact q1.elim
  | nil =>
   obtain ⟨a,C,dx,fs,gV,sp,ex,ea,M,q⟩:=q1
   obtain ⟨c,f,fd,ps,g,hm,F,hb⟩:=M
   subst ex
   cases ra
   obtain ⟨mA,O,_⟩:=zei I1.hok ea
   obtain ⟨od,J,_⟩:=O.look
   refine lenOwn I1.kIn J hm.at_ (mtyp hm) ?_
   have rv:Vals (gV [V.ref a] []) (g [Value.ref a] []):=hb.rel (vs:=[V.ref a]) (us:=[Value.ref a]) (zs:=[]) (ws:=[]) (.cons rfl .nil) .nil
   have hl:(g [Value.ref a] []).length=ps.length:=by rw [← rv.length];exact F.len _ _ _ _ q
   have W:wpAny (model X.prog X.w) X.A.in1 (call (.ref f) [.ref a]) (EP X pins σ (fun v H2=>∃ n:Int,v = .int n∧0≤n∧n<2 ^ 63∧Q (.int n) H2)) X.xe s1:=by
    refine wpAny_call (codeAny_mono (F.run X.A.in1 X.stack s1 H1 ⟨[.ref a],[]⟩ (g [.ref a] []) (gV [.ref a] []) _ E0 hr.in1 I1.env0.in1 (hb.to s1 [.ref a] [] I1.kIn hl) rv q) fun r s' hq=>?_)
    cases r with
    | error e=>exact zhI pins σ H1 s1 e s' I1 hq
    | ok fl =>
     cases fl with
     | ret u=>exact I1.after hq
     | next=>exact False.elim hq
     | brk=>exact False.elim hq
     | cont=>exact False.elim hq
   refine wpAny_mono W (fun u s' hu=>?_) fun _ _ z=>z
   ·obtain ⟨v,H2,I2,rv,n,rfl,h0,h1,qn⟩:=hu
    obtain ⟨t,rfl⟩:=(show ∃ t,u=Value.int n t from rv)
    exact ⟨h0,h1,⟨.int n,H2,I2.tok _,⟨_,rfl⟩,qn⟩⟩
end
structure Mak (P:Program) (w:World) (K:PySem.W.Frag) (mg:Str→Option Value) (base:Heap) (k:Nat) (x:Str) (C:Addr) (ks:List Str) (gV:List V→List V→List V) (sp:Sp):Prop where
 at_:mg x=some (.ref C)
 ex:∃ f fd ps g,Mk K C f∧FnOk P w K mg base CX0 k f fd ps sp∧KBinds K fd ps ks g gV
def tMak (C:Addr) (gV:List V→List V→List V) (sp:Sp) (t tk:TA):TE:=fun σ H Q=>t σ H fun vs H1=>tk σ H1 fun zs H2=>∀ x dx,H2 x=none→H2 dx=none→dx≠x →
 sp (gV (.ref x :: vs) zs) (upd (upd H2 dx (.own x)) x (.ins C dx [])) (fun v H3=>v = .non∧Q (.ref x) H3) E0
section
variable {X:Cx} {k:Nat} {C:Addr} {ks:List Str} {gV:List V→List V→List V} {sp:Sp} {x:Str} {p pos:Pos} {e:Expr} {es:List Expr} {kws:List Keyword} {t tk:TA}
theorem zj3 {pins:List (Addr×Obj)} {σ:St} {H:Hp} {s:Shared} {Q:VK} {us ws:List Value} {vs zs:List V} (M:Mak X.prog X.w X.K X.mg X.base k x C ks gV sp) (hr:Room (k+1) X.A) (I:Inv X pins σ H s) (r:Vals vs us) (rz:Vals zs ws)
  (h:∀ y dy,H y=none→H dy=none→dy≠y→sp (gV (.ref y :: vs) zs) (upd (upd H dy (.own y)) y (.ins C dy [])) (fun v H2=>v = .non∧Q (.ref y) H2) E0) :
  wpAny (model X.prog X.w) X.A (call (.ref C) us (ks.zip ws)) (EP X pins σ Q) X.xe s:=by
 obtain ⟨hm,f,fd,ps,g,M,F,hb⟩:=M
 have hq:=h (s.heap.objs.size+1) s.heap.objs.size (I.hok.fresh (Nat.le_succ _)) (I.hok.fresh (Nat.le_refl _)) (Nat.ne_of_lt (Nat.lt_succ_self _))
 have I2:=Inv.made (C:=C) I
 have r2:Vals (gV (V.ref (s.heap.objs.size+1) :: vs) zs) (g (Value.ref (s.heap.objs.size+1) :: us) ws):=hb.rel (.cons rfl r) rz
 have hl:(g (Value.ref (s.heap.objs.size+1) :: us) ws).length=ps.length:=by rw [← r2.length];exact F.len _ _ _ _ hq
 refine wpAny_call (zkm (f:=f) I.kIn M.makes M.init (beq_iff_eq.mp M.fn) (codeAny_mono (F.run _ X.stack _ _ ⟨Value.ref (s.heap.objs.size+1) :: us,ks.zip ws⟩ _ _ _ E0 (hr.make C us (ks.zip ws))
  (I2.env0.make C us (ks.zip ws)) (hb.to _ (Value.ref (s.heap.objs.size+1) :: us) ws I2.kIn hl) r2 hq) fun r s' hq'=>?_))
 cases r with
 | error e=>exact zhI pins σ _ _ e s' I2 hq'
 | ok fl =>
  cases fl with
  | ret u =>
   obtain ⟨v,H',I3,rv,ev,q3⟩:=I2.after hq'
   subst ev
   exact ⟨rv,⟨V.ref (s.heap.objs.size+1),H',I3,rfl,q3⟩⟩
  | next=>exact False.elim hq'
  | brk=>exact False.elim hq'
  | cont=>exact False.elim hq'
theorem Mak.kp {P:Program} {w:World} {K:PySem.W.Frag} {mg:Str→Option Value} {base:Heap} (M:Mak P w K mg base k x C ks gV sp):PySem.W.keepIn K (.ref C)=true:=by
 obtain ⟨_,_,_,_,_,M,_⟩:=M
 exact M.kp
theorem zez (M:Mak X.prog X.w X.K X.mg X.base k x C [] gV sp) (hr:Room (k+1) X.A) (hg:Gl X x) (ha:PA X (e :: es) t) (hdb:(x == ("__debug__" : Str))=false:=by decide)
  (he:starEach (e :: es) X.env=(false,eval e X.env) :: starEach es X.env:=by rfl) (hpl:(backTo pos (starEach es X.env)).any (·.1)=false:=by rfl):PE X (.Call (.Name x p) (e :: es) [] pos) (tMak C gV sp t tNil):=by
 intro pins s σ H Q I h
 refine wpAny_Call_Name_kw (zfb I hg M.at_ ?_ hdb)
 refine PySem.W.callWith_K (h₀:=X.base) I.ok.mod.kin M.kp (thn (ha pos pins s σ H _ I h) fun us s1 ⟨vs,H1,I1,r,q⟩=>⟨I1.kIn,?_⟩) he hpl
 exact zj3 (ws:=[]) (zs:=[]) M hr I1 r .nil q
end
structure Clm (P:Program) (w:World) (K:PySem.W.Frag) (mg:Str→Option Value) (base:Heap) (k:Nat) (x m:Str) (sp:Sp):Prop where
 ex:∃ C f fd ps mc,mg x=some (.ref C)∧PySem.W.specialIn K (.ref C) "__getattribute__" = some (some (.builtin "type.__getattribute__"))∧PySem.W.readsIn K C mc=true∧PySem.W.findCls K (.ref C) mc m=some (.val (.ref f)) ∧
  PySem.W.keepIn K (.ref f)=true∧FnOk P w K mg base CX0 k f fd ps sp∧Binds K fd ps []
section
variable {X:Cx} {k:Nat} {sp:Sp} {x m:Str} {p pos apos:Pos} {e:Expr} {es:List Expr} {t:TA}
theorem zhf (M:Clm X.prog X.w X.K X.mg X.base k x m sp) (hr:Room k X.A) (hg:Gl X x) {pl:Sem Bool} (ha:PA X (e :: es) t) (hdb:(x == ("__debug__" : Str))=false:=by decide)
  (hst:starEach (e :: es) X.env=(false,eval e X.env) :: starEach es X.env:=by rfl) (hpl:(backTo pos (starEach es X.env)).any (·.1)=false:=by rfl)
  (ht:eval (.Call (.Attribute (.Name x p) m apos) (e :: es) [] pos) X.env=(do
   let ov ← eval (.Name x p) X.env
   standAt apos.atName
   let (f,first) ← holding [ov] (getMethod ov m pl)
   callWith pos f first (backTo pos (starEach (e :: es) X.env)) (backToKw pos (keywordEach [] X.env))):=by rfl) :
  PE X (.Call (.Attribute (.Name x p) m apos) (e :: es) [] pos) (zlr sp [] E0 t):=by
 obtain ⟨C,f,fd,ps,mc,hm,hs,hrd,hf,hk,F,hb⟩:=M
 intro pins s σ H Q I h
 refine PySem.W.methodCall_KW (pl:=pl) ?_ ht
 refine zfb I hg hm ?_ hdb
 refine PySem.W.method_cls I.kIn hs (PySem.W.cls_value I.kIn hrd hf rfl ?_)
 have I0:=I.tok (s.toks+1)
 refine PySem.W.callWith_K (first:=[]) (h₀:=X.base) I.ok.mod.kin hk (thn (ha pos pins _ σ H _ I0 h) fun us s2 ⟨vs,H2,I2,r,q2⟩=>⟨I2.kIn,?_⟩) hst hpl
 exact zkV F hr hb .nil zhI I2 r q2
end
end L2
end
section
set_option Elab.async false
set_option linter.all false
set_option maxRecDepth 100000
set_option maxHeartbeats 4000000
namespace L2
open PySem PySem.Spec PyProof.Rows
def itC (t:Bool):String:=if t then "tuple_iterator" else "list_iterator"
def sqC (t:Bool):String:=if t then "tuple" else "list"
def IsIt (t:Bool) (h:Heap) (a l:Addr) (i:Nat):Prop:=∃ o,h.get? a=some o∧o.cls = .type (itC t)∧o.data = .fields #[.ref l,.int i 0]
def IsSq (t:Bool) (h:Heap) (a:Addr) (xs:Array Value):Prop:=∃ o,h.get? a=some o∧o.cls = .type (sqC t)∧∃ n,o.data = .seq xs n
theorem IsIt.at {t:Bool} {h h':Heap} {a l:Addr} {i:Nat} (x:IsIt t h a l i) (e:∀ o,h.get? a=some o→h'.get? a=some o):IsIt t h' a l i:=let ⟨o,ho,r⟩:=x;⟨o,e _ ho,r⟩
theorem IsSq.at {t:Bool} {h h':Heap} {a:Addr} {xs:Array Value} (x:IsSq t h a xs) (e:∀ o,h.get? a=some o→h'.get? a=some o):IsSq t h' a xs:=let ⟨o,ho,r⟩:=x;⟨o,e _ ho,r⟩
section
variable {prog:Program} {w:World} {A:Around} {E:Value→Shared→Prop} {s:Shared}
theorem zgM {t:Bool} {it l:Addr} {i:Nat} {xs:Array Value} {x:Value} {Q:Value→Shared→Prop} (hi:IsIt t s.heap it l i) (hl:IsSq t s.heap l xs) (hx:xs[i]? = some x)
  (q:∀ h',IsIt t h' it l (i+1)→Heap.SameBut it s.heap h'→Q x { s with heap:=h' }):wpAny (model prog w) A (Builtin.SmallTypes.nextOf (.ref it)) Q E s:=by
 cases t with
 | false=>exact wpAny_nextOf_list_item hi hl hx q
 | true =>
  have ht:s.TypeIs (.ref it) "tuple_iterator" := let ⟨o,ho,hc,_⟩:=hi;⟨o,ho,hc⟩
  obtain ⟨o,ho,hc,hd⟩:=id hi;obtain ⟨ol,hol,_,nl,hdl⟩:=hl
  delta Builtin.SmallTypes.nextOf
  refine wpAny_bind (wpAny_callSpecial?_slot (name:=Str.ofString "__next__") ht F.slot_tuple_iterator_next (wpAny_call_entry F.slot_tuple_iterator_next ht F.entry_tuple_iterator_next ?_ (F.args_tuple_iterator_next_1 _)))
  show wpAny _ _ (field (.ref it) 0 >>= _) _ _ s;refine wpAny_bind (wpAny_field ho hd (x:=.ref l) rfl ?_)
  show wpAny _ _ (if (Value.ref l == Value.none)=true then _ else _) _ _ s;rw [if_neg (show ¬ ((Value.ref l == Value.none)=true) from Bool.false_ne_true)]
  show wpAny _ _ (field (.ref it) 1 >>= _) _ _ s;refine wpAny_bind (wpAny_field ho hd (x:=.int i 0) rfl ?_)
  show wpAny _ _ (seqItems? (.ref l) >>= _) _ _ s;refine wpAny_bind (wpAny_seqItems hol hdl ?_);simp only [Int.toNat_natCast,hx]
  refine wpAny_bind (wpAny_setField ho hd (by simp) (wpAny_pure ⟨x,rfl,wpAny_pure (q _ ⟨_,Heap.get?_update_self _ ho (Obj.isFreed_of_fields (Obj.data_mapFields hd _)),(Obj.cls_mapFields ..).trans hc,by rw [Obj.data_mapFields hd];simp [rawInt]⟩ (Heap.SameBut.update ..))⟩))
theorem zk3 {t:Bool} {it l:Addr} {i:Nat} {xs:Array Value} {Q:Value→Shared→Prop} (hh:A.handled=none) (hi:IsIt t s.heap it l i) (hl:IsSq t s.heap l xs) (hx:xs[i]? = none)
  (q:∀ h' e,Heap.ExtBut it s.heap h'→(∃ o,h'.get? e=some o∧o.cls = .type "StopIteration")→E (.ref e) { s with heap:=h' }):wpAny (model prog w) A (Builtin.SmallTypes.nextOf (.ref it)) Q E s:=by
 cases t with
 | false=>exact wpAny_nextOf_list_end hh hi hl hx q
 | true =>
  have ht:s.TypeIs (.ref it) "tuple_iterator" := let ⟨o,ho,hc,_⟩:=hi;⟨o,ho,hc⟩
  obtain ⟨o,ho,hc,hd⟩:=id hi;obtain ⟨ol,hol,_,nl,hdl⟩:=hl
  delta Builtin.SmallTypes.nextOf
  refine wpAny_bind (wpAny_callSpecial?_slot (name:=Str.ofString "__next__") ht F.slot_tuple_iterator_next (wpAny_call_entry F.slot_tuple_iterator_next ht F.entry_tuple_iterator_next ?_ (F.args_tuple_iterator_next_1 _)))
  show wpAny _ _ (field (.ref it) 0 >>= _) _ _ s;refine wpAny_bind (wpAny_field ho hd (x:=.ref l) rfl ?_)
  show wpAny _ _ (if (Value.ref l == Value.none)=true then _ else _) _ _ s;rw [if_neg (show ¬ ((Value.ref l == Value.none)=true) from Bool.false_ne_true)]
  show wpAny _ _ (field (.ref it) 1 >>= _) _ _ s;refine wpAny_bind (wpAny_field ho hd (x:=.int i 0) rfl ?_)
  show wpAny _ _ (seqItems? (.ref l) >>= _) _ _ s;refine wpAny_bind (wpAny_seqItems hol hdl ?_);simp only [Int.toNat_natCast,hx]
  refine wpAny_bind (wpAny_rule (wpAny_bind (wpAny_setField ho hd (by simp) ?_)));show wpAny _ _ (newExc (.type "StopIteration") [] >>= _) _ _ _
  refine wpAny_bind ?_;simp only [newExc,newTuple];refine wpAny_bind (wpAny_newObj_type ?_ (by size_fits))
  refine wpAny_bind (m:=firstArgMember _ _) (wpAny_of_eq (a:=Value.none) (by first | rfl | (simp only [firstArgMember];rfl)) ?_);refine wpAny_newObj_type ?_ (by size_fits)
  simp only [raiseNew];refine wpAny_bind (wpAny_handled ?_);rw [show A.in1.handled=none from hh];refine wpAny_bind (wpAny_pure (wpAny_throw ?_))
  exact q _ _ (((Heap.SameBut.update ..).extBut.push _).push _) ⟨_,Heap.get?_push_size _ rfl,rfl⟩
theorem zk7 {t:Bool} {l:Addr} {xs:Array Value} {Q:Value→Shared→Prop} (hl:IsSq t s.heap l xs) (q:Q (.ref s.heap.objs.size) { s with heap:=s.heap.push { cls:=.type (itC t),data:=.fields #[.ref l,.int 0 0] } }):wpAny (model prog w) A (pyIter (.ref l)) Q E s:=by
 cases t with
 | false=>exact wpAny_pyIter_list hl q
 | true=>exact wpAny_pyIter_tuple hl q
structure Far2 (z TO i1 i2:Addr):Prop where
 oz:TO≠z
 az:i1≠z
 bz:i2≠z
 oa:TO≠i1
 ob:TO≠i2
 ab:i1≠i2
structure FarM (z TO i1 i2 l:Addr):Prop where
 z:l≠z
 o:l≠TO
 a:l≠i1
 b:l≠i2
theorem zg3 {T:Addr} {a b x:Value} {k:Nat} {Q:Unit→Shared→Prop} (hT:IsPair s.heap T a b)
  (q:∀ h',h'.get? T=some { cls:=.type "tuple",data:=.seq ((#[a,b]:Array Value).setIfInBounds k x) }→Heap.SameBut T s.heap h'→Q () { s with heap:=h' }):wpAny (model prog w) A (updateSeq T (·.setIfInBounds k x)) Q E s:=
 wpAny_updateSeq hT rfl (q _ ((Heap.get?_update_self _ hT rfl).trans (by simp [Obj.mapSeq])) (Heap.SameBut.update ..))
theorem zia {t:Bool} {z TI TO i1 i2 l1 l2:Addr} {k:Nat} {xs ys:Array Value} {x y a b:Value} {Q:Value→Shared→Prop} (D:Far2 z TO i1 i2) (L1:FarM z TO i1 i2 l1) (L2':FarM z TO i1 i2 l2)
  (hz:IsZip s.heap z TI TO .none) (hI:IsPair s.heap TI (.ref i1) (.ref i2)) (hO:IsPair s.heap TO a b)
  (h1:IsIt t s.heap i1 l1 k) (h2:IsIt t s.heap i2 l2 k) (g1:IsSq t s.heap l1 xs) (g2:IsSq t s.heap l2 ys) (ex:xs[k]? = some x) (ey:ys[k]? = some y)
  (q:∀ h',IsZip h' z TI TO (rawInt s.heap.objs.size)→IsPair h' TO x y→IsIt t h' i1 l1 (k+1)→IsIt t h' i2 l2 (k+1)→IsPair h' s.heap.objs.size x y→h'.objs.size=s.heap.objs.size+1 →
   (∀ d o,d≠z→d≠TO→d≠i1→d≠i2→s.heap.get? d=some o→h'.get? d=some o)→Q (.ref s.heap.objs.size) { s with heap:=h' }) :
  wpAny (model prog w) A (Builtin.«zip.__next__» ⟨[.ref z],[]⟩) (fun fin s'=>∃ v,fin = .done (.ret v)∧Q v s') E s:=by
 show wpAny _ _ (field (.ref z) 2 >>= _) _ _ _
 refine wpAny_bind (wpAny_field hz rfl (x:=.bool false) rfl ?_);show wpAny _ _ (field (.ref z) 3 >>= _) _ _ _
 refine wpAny_bind (wpAny_field hz rfl (x:=.ref TI) rfl (wpAny_bind (wpAny_seqItems hI rfl ?_)));show wpAny _ _ (Builtin.SmallTypes.ownedTupleIsFree (.ref z) >>= _) _ _ _
 refine wpAny_bind ?_;unfold Builtin.SmallTypes.ownedTupleIsFree
 refine wpAny_bind (wpAny_field hz rfl (x:=.none) rfl (wpAny_pure ?_));simp only [if_true]
 refine wpAny_bind (wpAny_rule (wpAny_bind (wpAny_field hz rfl (x:=.ref TO) rfl ?_)))
 refine wpAny_bind (wpAny_setField_rec hz (by simp) fun e1 z1 b1=>?_)
 replace z1:IsZip e1 z TI TO .ellipsis:=z1
 refine wpAny_bind ?_;simp only [List.zipIdx_cons,List.zipIdx_nil,List.forIn_cons,List.forIn_nil]
 refine wpAny_bind (wpAny_bind (wpAny_onRaise ?_));show wpAny _ _ (Builtin.SmallTypes.nextOf (.ref i1) >>= _) _ _ _
 refine wpAny_bind (zgM (h1.at fun o e=>b1.extBut _ _ D.az e) (g1.at fun o e=>b1.extBut _ _ L1.z e) ex fun e2 n1 b2=>wpAny_pure ?_)
 have O2:IsPair e2 TO a b:=b2.extBut _ _ D.oa (b1.extBut _ _ D.oz hO)
 refine wpAny_bind (wpAny_seqItems O2 rfl (wpAny_bind (zg3 O2 fun e3 O3 b3=>wpAny_bind (wpAny_letGo (wpAny_pure ?_)))))
 replace O3:IsPair e3 TO x b:=O3
 have up3:∀ d o,d≠z→d≠TO→d≠i1→s.heap.get? d=some o→e3.get? d=some o:=fun d o q1 q2 q3 e=>b3.extBut _ _ q2 (b2.extBut _ _ q3 (b1.extBut _ _ q1 e))
 refine wpAny_bind (wpAny_bind (wpAny_onRaise ?_));show wpAny _ _ (Builtin.SmallTypes.nextOf (.ref i2) >>= _) _ _ _
 refine wpAny_bind (zgM (h2.at fun o e=>up3 _ o D.bz D.ob.symm D.ab.symm e) (g2.at fun o e=>up3 _ o L2'.z L2'.o L2'.a e) ey fun e4 n2 b4=>wpAny_pure ?_)
 have O4:IsPair e4 TO x b:=b4.extBut _ _ D.ob O3
 refine wpAny_bind (wpAny_seqItems O4 rfl (wpAny_bind (zg3 O4 fun e5 O5 b5=>wpAny_bind (wpAny_letGo (wpAny_pure (wpAny_pure ?_))))))
 replace O5:IsPair e5 TO x y:=O5
 have up5:∀ d o,d≠z→d≠TO→d≠i1→d≠i2→s.heap.get? d=some o→e5.get? d=some o:=fun d o q1 q2 q3 q4 e=>b5.extBut _ _ q2 (b4.extBut _ _ q4 (up3 d o q1 q2 q3 e))
 have sz:e5.objs.size=s.heap.objs.size:=by rw [b5.1,b4.1,b3.1,b2.1,b1.1]
 have z7:IsZip e5 z TI TO .ellipsis:=b5.extBut _ _ D.oz.symm (b4.extBut _ _ D.bz.symm (b3.extBut _ _ D.oz.symm (b2.extBut _ _ D.az.symm z1)))
 have m1:IsIt t e5 i1 l1 (k+1):=n1.at fun o e=>b5.extBut _ _ D.oa.symm (b4.extBut _ _ D.ab (b3.extBut _ _ D.oa.symm e))
 have m2:IsIt t e5 i2 l2 (k+1):=n2.at fun o e=>b5.extBut _ _ D.ob.symm e
 have zl:z<e5.objs.size:=Heap.lt_size z7
 refine wpAny_bind (wpAny_seqItems O5 rfl (wpAny_bind (wpAny_newTuple ?_)));show wpAny _ _ (Builtin.SmallTypes.ownedTupleHandOut (.ref z) (.ref e5.objs.size) >>= _) _ _ _
 refine wpAny_bind ?_;unfold Builtin.SmallTypes.ownedTupleHandOut
 have z8:IsZip (e5.push { cls:=.type "tuple",data:=.seq #[x,y] }) z TI TO .ellipsis:=Heap.get?_push_of_some _ z7
 refine wpAny_bind (wpAny_setField_rec z8 (by simp) fun e9 z9 b9=>?_)
 replace z9:IsZip e9 z TI TO (rawInt e5.objs.size):=z9
 refine wpAny_setField_rec z9 (by simp) fun e0 z0 b0=>?_
 replace z0:IsZip e0 z TI TO (rawInt e5.objs.size):=z0
 have up:∀ d o,d≠z→e5.get? d=some o→e0.get? d=some o:=fun d o q1 e=>b0.extBut _ _ q1 (b9.extBut _ _ q1 (Heap.get?_push_of_some _ e))
 have T0:IsPair e0 e5.objs.size x y:=b0.extBut _ _ (Nat.ne_of_gt zl) (b9.extBut _ _ (Nat.ne_of_gt zl) (Heap.get?_push_size _ rfl))
 have s0:e0.objs.size=e5.objs.size+1:=by rw [b0.1,b9.1,Heap.size_push]
 rw [sz] at z0 T0 s0
 refine wpAny_pure ⟨_,rfl,?_⟩;show Q (.ref e5.objs.size) _;rw [sz]
 exact q e0 z0 (up _ _ D.oz O5) (m1.at fun o e=>up _ o D.az e) (m2.at fun o e=>up _ o D.bz e) T0 s0 fun d o q1 q2 q3 q4 e=>up d o q1 (up5 d o q1 q2 q3 q4 e)
theorem zjM {t:Bool} {z TI TO i1 i2 l1:Addr} {k:Nat} {xs:Array Value} {Q:Fin→Shared→Prop} (hh:A.handled=none) (D:Far2 z TO i1 i2) (L1:FarM z TO i1 i2 l1)
  (hz:IsZip s.heap z TI TO .none) (hI:IsPair s.heap TI (.ref i1) (.ref i2)) (h1:IsIt t s.heap i1 l1 k) (g1:IsSq t s.heap l1 xs) (ex:xs[k]? = none)
  (q:∀ h' e,(∀ d o,d≠z→d≠i1→s.heap.get? d=some o→h'.get? d=some o)→(∃ o,h'.get? e=some o∧o.cls = .type "StopIteration")→E (.ref e) { s with heap:=h' }) :
  wpAny (model prog w) A (Builtin.«zip.__next__» ⟨[.ref z],[]⟩) Q E s:=by
 show wpAny _ _ (field (.ref z) 2 >>= _) _ _ _
 refine wpAny_bind (wpAny_field hz rfl (x:=.bool false) rfl ?_);show wpAny _ _ (field (.ref z) 3 >>= _) _ _ _
 refine wpAny_bind (wpAny_field hz rfl (x:=.ref TI) rfl (wpAny_bind (wpAny_seqItems hI rfl ?_)));show wpAny _ _ (Builtin.SmallTypes.ownedTupleIsFree (.ref z) >>= _) _ _ _
 refine wpAny_bind ?_;unfold Builtin.SmallTypes.ownedTupleIsFree
 refine wpAny_bind (wpAny_field hz rfl (x:=.none) rfl (wpAny_pure ?_));simp only [if_true]
 refine wpAny_bind (wpAny_rule (wpAny_bind (wpAny_field hz rfl (x:=.ref TO) rfl ?_)))
 refine wpAny_bind (wpAny_setField_rec hz (by simp) fun e1 z1 b1=>?_)
 replace z1:IsZip e1 z TI TO .ellipsis:=z1
 refine wpAny_bind ?_;simp only [List.zipIdx_cons,List.zipIdx_nil,List.forIn_cons,List.forIn_nil]
 refine wpAny_bind (wpAny_bind (wpAny_onRaise ?_));show wpAny _ _ (Builtin.SmallTypes.nextOf (.ref i1) >>= _) _ _ _
 refine wpAny_bind (zk3 hh (h1.at fun o e=>b1.extBut _ _ D.az e) (g1.at fun o e=>b1.extBut _ _ L1.z e) ex fun e2 e b2 he=>?_)
 obtain ⟨oe,hoe,hce⟩:=he
 have z2:IsZip e2 z TI TO .ellipsis:=b2 _ _ D.az.symm z1
 have ne:e≠z:=fun y=>by subst y;rw [z2] at hoe;cases hoe;simp at hce
 exact wpAny_setField_rec z2 (by simp) fun e3 _ b3=>q e3 e (fun d o q1 q2 y=>b3.extBut _ _ q1 (b2 _ _ q2 (b1.extBut _ _ q1 y))) ⟨oe,b3.extBut _ _ ne hoe,hce⟩
end
abbrev yA (t:Bool) (h:Heap) (l:Addr):Heap:=h.push { cls:=.type (itC t),data:=.fields #[.ref l,.int 0 0] }
abbrev yB (t:Bool) (h:Heap) (l1 l2:Addr):Heap:=(yA t (yA t h l1) l2).push { cls:=.type "tuple",data:=.seq #[.ref h.objs.size,.ref (yA t h l1).objs.size] }
abbrev yC (t:Bool) (h:Heap) (l1 l2:Addr):Heap:=(yB t h l1 l2).push { cls:=.type "tuple",data:=.seq #[.none,.none] }
abbrev yD (t:Bool) (h:Heap) (l1 l2:Addr):Heap:=(yC t h l1 l2).push { cls:=.type "zip",data:=.fields #[.none,.bool false,.bool false,.ref (yA t (yA t h l1) l2).objs.size,.ref (yB t h l1 l2).objs.size] }
theorem zjL (t:Bool) (l1 l2:Addr) (xs ys:Array Value) :
  Meets (Builtin.«zip.__new__» ⟨[.type "zip",.ref l1,.ref l2],[]⟩) (fun _ R s=>IsSq t s.heap l1 xs∧IsSq t s.heap l2 ys∧R (.ok (.ret (.ref (yC t s.heap l1 l2).objs.size))) { s with heap:=yD t s.heap l1 l2 }):=
 .of_wp fun prog w A R s h=>by
  obtain ⟨hp,g,d,tk,os⟩:=s;obtain ⟨hl1,hl2,h⟩:=h
  have hsub:=sub_zip
  have hA:IsSq t (Shared.heap ⟨hp,g,d,tk,os⟩) l1 xs:=hl1
  have hB:IsSq t (Shared.heap ⟨yA t hp l1,g,d,tk,os⟩) l2 ys:=hl2.at fun o e=>Heap.get?_push_of_some _ e
  wp_walk using zk7 hA,zk7 hB
  exact ⟨_,rfl,h⟩
end L2
end
section
set_option Elab.async false
set_option linter.all false
set_option maxRecDepth 100000
set_option maxHeartbeats 4000000
namespace L2
open PySem PySem.Spec PyProof.Rows
def hoX (t:Bool) (xs:List V):HO:=if t then .tup xs else .lst xs
def SqX (t:Bool) (H:Hp) (a:Addr) (xs:List V):Prop:=H a=some (hoX t xs)
theorem Inv.sqx {X:Cx} {pins:List (Addr×Obj)} {σ:St} {H:Hp} {s:Shared} (I:Inv X pins σ H s) {t:Bool} {a:Addr} {xs:List V} (h:SqX t H a xs):∃ its:List Value,Vals xs its∧IsSq t s.heap a its.toArray:=by
 cases t with
 | false =>
  obtain ⟨its,r,p,_⟩:=I.list (SqL.of (xs:=xs) h)
  exact ⟨its,r,p.isList⟩
 | true =>
  obtain ⟨its,r,p,_⟩:=I.tuple (SqT.of (xs:=xs) h)
  exact ⟨its,r,p⟩
theorem zjz {prog:Program} {w:World} {A:Around} {E:Value→Shared→Prop} {s:Shared} {t:Bool} {l1 l2:Addr} {xs ys:Array Value} {Q:Value→Shared→Prop} (g1:IsSq t s.heap l1 xs) (g2:IsSq t s.heap l2 ys)
  (q:∀ h' n,n=s.heap.objs.size→IsZip h' (n+4) (n+2) (n+3) .none→IsPair h' (n+2) (.ref n) (.ref (n+1))→IsPair h' (n+3) .none .none→IsIt t h' n l1 0→IsIt t h' (n+1) l2 0 →
   (∀ d o,s.heap.get? d=some o→h'.get? d=some o)→Q (.ref (n+4)) { s with heap:=h' }) :
  wpAny (model prog w) A (call (.type "zip") [.ref l1,.ref l2]) Q E s:=by
 refine callType_new F.called_zip (by decide) (F.typeCall_zip_2 _ _) (F.newCall_zip_2 _ _) (fun obj=>F.args_object_init_3 obj _ _) F.entry_zip_new (zjL t l1 l2 xs ys) ⟨g1,g2,?_⟩
 have n1:(yA t s.heap l1).objs.size=s.heap.objs.size+1:=Heap.size_push ..
 have n2:(yA t (yA t s.heap l1) l2).objs.size=s.heap.objs.size+2:=by rw [Heap.size_push,n1]
 have n3:(yB t s.heap l1 l2).objs.size=s.heap.objs.size+3:=by rw [Heap.size_push,n2]
 have n4:(yC t s.heap l1 l2).objs.size=s.heap.objs.size+4:=by rw [Heap.size_push,n3]
 have a4:(yD t s.heap l1 l2).get? (yC t s.heap l1 l2).objs.size=some _:=Heap.get?_push_size _ rfl
 have a3:(yD t s.heap l1 l2).get? (yB t s.heap l1 l2).objs.size=some _:=Heap.get?_push_of_some _ (Heap.get?_push_size _ rfl)
 have a2:(yD t s.heap l1 l2).get? (yA t (yA t s.heap l1) l2).objs.size=some _:=Heap.get?_push_of_some _ (Heap.get?_push_of_some _ (Heap.get?_push_size _ rfl))
 have a1:(yD t s.heap l1 l2).get? (yA t s.heap l1).objs.size=some _:=Heap.get?_push_of_some _ (Heap.get?_push_of_some _ (Heap.get?_push_of_some _ (Heap.get?_push_size _ rfl)))
 have a0:(yD t s.heap l1 l2).get? s.heap.objs.size=some _:=Heap.get?_push_of_some _ (Heap.get?_push_of_some _ (Heap.get?_push_of_some _ (Heap.get?_push_of_some _ (Heap.get?_push_size _ rfl))))
 show _∧_
 rw [n2,n3,n4] at a4
 rw [n3] at a3
 rw [n1,n2] at a2
 rw [n1] at a1
 rw [n4]
 exact ⟨⟨_,a4,rfl⟩,q _ _ rfl a4 a2 a3 ⟨_,a0,rfl,rfl⟩ ⟨_,a1,rfl,rfl⟩ fun d o e =>
  Heap.get?_push_of_some _ (Heap.get?_push_of_some _ (Heap.get?_push_of_some _ (Heap.get?_push_of_some _ (Heap.get?_push_of_some _ e))))⟩
def Ity (t:Bool) (a b:Addr):It:=
 ⟨fun i H=>∃ xs x ys y,SqX t H a xs∧SqX t H b ys∧xs[i]? = some x∧ys[i]? = some y,
  fun i H v H'=>∃ T x y,H T=none∧v = .ref T∧H'=upd H T (.tup [x,y])∧(∀ xs,SqX t H a xs→xs[i]? = some x)∧∀ ys,SqX t H b ys→ys[i]? = some y,
  fun i H=>∃ xs,SqX t H a xs∧xs.length≤i⟩
theorem zgZ {t:Bool} {h:Heap} {z TI TO i1 i2 l k1 k2:Addr} {it:Array Value} {f0:Value} {n1 n2:Nat} (g:IsSq t h l it) (hz:IsZip h z TI TO f0) (lo:l≠TO) (h1:IsIt t h i1 k1 n1) (h2:IsIt t h i2 k2 n2):FarM z TO i1 i2 l:=by
 have ap:∀ {d:Addr} {o:Obj},h.get? d=some o→o.cls≠.type (sqC t)→l≠d:=fun {d o} e nc y=>by
  obtain ⟨o',e',c',_⟩:=g
  rw [y,e] at e';cases e';exact nc c'
 obtain ⟨_,e1,c1,_⟩:=h1
 obtain ⟨_,e2,c2,_⟩:=h2
 have ne:(Value.type (itC t))≠.type (sqC t):=by cases t <;> simp [itC,sqC]
 exact ⟨ap hz (by cases t <;> simp [sqC]),lo,ap e1 (by rw [c1];exact ne),ap e2 (by rw [c2];exact ne)⟩
theorem zig {H:Hp} {t:Bool} {a:Addr} {xs ys:List V} (h:SqX t H a xs) (h2:SqX t H a ys):xs=ys:=by
 have e:=Option.some.inj (h.symm.trans h2)
 cases t with
 | false=>exact HO.lst.inj e
 | true=>exact HO.tup.inj e
theorem zic {P:Program} {w:World} {K:PySem.W.Frag} {elts:List Expr} {kt:Nat} {tp:Pos} (t:Bool) (l1 l2 z TI TO i1 i2:Addr) (D:Far2 z TO i1 i2) (TIz:TI≠z) (TITO:TI≠TO) (TI1:TI≠i1) (TI2:TI≠i2) :
  Turn P w K (.Tuple elts kt tp) (Ity t l1 l2) [z,TI,TO,i1,i2] z (fun i h=>IsZip h z TI TO .none∧IsPair h TI (.ref i1) (.ref i2)∧(∃ a b,IsPair h TO a b)∧IsIt t h i1 l1 i∧IsIt t h i2 l2 i) where
 mem:=by simp
 obj:=fun i h st b hb=>by
  obtain ⟨hz,hI,⟨_,_,hO⟩,⟨o1,e1,_,d1⟩,⟨o2,e2,_,d2⟩⟩:=st
  simp only [List.mem_cons,List.mem_nil_iff,or_false] at hb
  rcases hb with rfl | rfl | rfl | rfl | rfl
  ·exact ⟨_,hz,fun v y=>by have y':Data.fields _=Data.cell v:=y;cases y'⟩
  ·exact ⟨_,hI,fun v y=>by have y':Data.seq _ _=Data.cell v:=y;cases y'⟩
  ·exact ⟨_,hO,fun v y=>by have y':Data.seq _ _=Data.cell v:=y;cases y'⟩
  ·exact ⟨_,e1,fun v y=>by rw [d1] at y;cases y⟩
  ·exact ⟨_,e2,fun v y=>by rw [d2] at y;cases y⟩
 keep:=fun i h h' st k=>by
  obtain ⟨hz,hI,⟨a,b,hO⟩,h1,h2⟩:=st
  exact ⟨k z (by simp) _ hz,k TI (by simp) _ hI,⟨a,b,k TO (by simp) _ hO⟩,h1.at fun o e=>k i1 (by simp) o e,h2.at fun o e=>k i2 (by simp) o e⟩
 item:=by
  intro X hP hw hK hc i pins s σ H E I hf st hg
  subst hP hw hK
  obtain ⟨xs,x,ys,y,p1,p2,e1,e2⟩:=hg
  obtain ⟨t1,r1,f1⟩:=I.sqx p1
  obtain ⟨t2,r2,f2⟩:=I.sqx p2
  obtain ⟨v1,w1,rx⟩:=r1.get e1
  obtain ⟨v2,w2,ry⟩:=r2.get e2
  obtain ⟨hz,hI,⟨a,b,hO⟩,h1,h2⟩:=st
  have nO:H TO=none:=(hf TO (by simp)).1
  have far:∀ {l:Addr} {zs:List V},SqX t H l zs→l≠TO:=fun {l zs} p e=>by rw [SqX,e,nO] at p;cases p
  have hT:s.TypeIs (.ref z) "zip" := ⟨_,hz,rfl⟩
  unfold pyNext
  refine wpAny_bind (wpAny_attempt (wpAny_callSpecial?_slot (name:=Str.ofString "__next__") hT F.slot_zip_next (wpAny_call_entry F.slot_zip_next hT F.entry_zip_next
   (zia D (zgZ f1 hz (far p1) h1 h2) (zgZ f2 hz (far p2) h1 h2) hz hI hO h1 h2 f1 f2 (x:=v1) (y:=v2) (by simpa using w1) (by simpa using w2)
    fun h' z1 O1 m1 m2 T1 s1 kk=>wpAny_pure ⟨_,rfl,?_⟩) (F.args_zip_next_1 _))))
  refine wpAny_letOwnedTupleGo_zip z1 fun h4 z4 sb=>?_
  have fT:FpOk X pins H s.heap.objs.size:=I.fpOk (Nat.le_refl _) (I.hok.fresh (Nat.le_refl _))
  have k2:∀ d o,d ∉ [z,TI,TO,i1,i2]→s.heap.get? d=some o→h4.get? d=some o:=fun d o hb e=>by
   simp only [List.mem_cons,List.mem_nil_iff,or_false,not_or] at hb
   obtain ⟨q1,q2,q3,q4,q5⟩:=hb
   exact (sb.2 d q1).trans (kk d o q1 q3 q4 q5 e)
  have I1:Inv X pins σ H { s with heap:=h4,toks:=s.toks }:=I.turnedL (ch:=[z,TI,TO,i1,i2]) k2 hf
  have eT:h4.get? s.heap.objs.size=some { cls:=.type "tuple",data:=.seq #[v1,v2] }:=(sb.2 _ (Nat.ne_of_gt (Heap.lt_size hz))).trans T1
  have I2:=I1.track (o:=.tup [x,y]) fT (Nat.le_trans I.sz (Nat.le_refl _)) (zcG rx ry eT)
  refine ⟨.ref s.heap.objs.size,_,I2,rfl,⟨_,x,y,fT.1,rfl,rfl,fun ys hy=>by rw [zig hy p1];exact e1,fun ys hy=>by rw [zig hy p2];exact e2⟩,
   ⟨z4,(sb.2 _ TIz).trans (kk _ _ TIz TITO TI1 TI2 hI),⟨_,_,sb.extBut _ _ D.oz O1⟩,m1.at fun o e=>sb.extBut _ _ D.az e,m2.at fun o e=>sb.extBut _ _ D.bz e⟩,fun d hb=>?_⟩
  have hlt:d<s.heap.objs.size:=by
   obtain ⟨_,g1,_⟩:=h1
   obtain ⟨_,g2,_⟩:=h2
   simp only [List.mem_cons,List.mem_nil_iff,or_false] at hb
   rcases hb with rfl | rfl | rfl | rfl | rfl
   ·exact Heap.lt_size hz
   ·exact Heap.lt_size hI
   ·exact Heap.lt_size hO
   ·exact Heap.lt_size g1
   ·exact Heap.lt_size g2
  rw [zai (Nat.ne_of_lt hlt)]
  exact (hf d hb).1
 done:=by
  intro X hP hw hK hc i pins s σ H E I hf st hg
  subst hP hw hK
  obtain ⟨xs,p1,hx⟩:=hg
  obtain ⟨t1,r1,f1⟩:=I.sqx p1
  obtain ⟨hz,hI,⟨a,b,hO⟩,h1,h2⟩:=st
  have nO:H TO=none:=(hf TO (by simp)).1
  have far:l1≠TO:=fun e=>by rw [SqX,e,nO] at p1;cases p1
  have hT:s.TypeIs (.ref z) "zip" := ⟨_,hz,rfl⟩
  have e1:=r1.length
  unfold pyNext
  refine wpAny_bind (wpAny_attempt (wpAny_callSpecial?_slot (name:=Str.ofString "__next__") hT F.slot_zip_next (wpAny_call_entry F.slot_zip_next hT F.entry_zip_next
   (zjM (I.ok.hd hc) D (zgZ f1 hz far h1 h2) hz hI h1 f1 (by simp;omega) fun h' e kk he=>?_) (F.args_zip_next_1 _))))
  obtain ⟨o,ho,hcl⟩:=he
  refine wpAny_bind (wpAny_isInstance (T := "StopIteration") (b:=true) ⟨o,ho,hcl⟩ isSubtype_stop ?_)
  refine wpAny_pure ⟨rfl,I.turnedL (t':=s.toks) (ch:=[z,TI,TO,i1,i2]) (fun d o hb e=>?_) hf⟩
  simp only [List.mem_cons,List.mem_nil_iff,or_false,not_or] at hb
  exact kk d o hb.1 hb.2.2.2.1 e
 self:=fun _ _ _ _ _ st h=>wpAny_pyIter_zip st.1 h
def iZipX (ta:TA):TI:=fun σ H R=>ta σ H fun vs H1=>∃ t a b xs ys,vs=[.ref a,.ref b]∧SqX t H1 a xs∧SqX t H1 b ys∧R (Ity t a b) H1
theorem ziO {X:Cx} {a b:Expr} {ta:TA} {p pos:Pos} {elts:List Expr} {kt:Nat} {tp:Pos} (hg:Gl X "zip") (hm:X.mg "zip" = none) (ha:PA X [a,b] ta) (hs:starEach [a,b] X.env=(false,eval a X.env) :: starEach [b] X.env:=by rfl) (hs2:(backTo pos (starEach [b] X.env)).any (·.1)=false:=by rfl) :
  PI X (.Tuple elts kt tp) (.Call (.Name "zip" p) [a,b] [] pos) (iZipX ta):=by
 intro pins s σ H R I h
 refine Call_ (zc1 I hg hm zkJ (PyProof.Rows.callWith_type1 (thn (ha pos pins s σ H _ I h) fun us s1 ⟨vs,H1,I1,r1,q1⟩=>?_) hs hs2))
 obtain ⟨t,l1,l2,xs,ys,e,p1,p2,q⟩:=q1
 subst e
 cases r1 with
 | cons ra rr=>cases rr with
  | cons rb rr =>
   cases rr
   cases ra;cases rb
   obtain ⟨t1,v1,f1⟩:=I1.sqx p1
   obtain ⟨t2,v2,f2⟩:=I1.sqx p2
   refine zjz f1 f2 fun h' n hn hz hI hO h1 h2 kk=>?_
   refine wpAny_pyIter_zip hz ?_
   have I2:Inv X pins σ H1 { s1 with heap:=h',toks:=s1.toks }:=I1.kept kk
   have ge:∀ b,n≤b→FpOk X pins H1 b:=fun b hb=>I1.fpOk (by rw [← hn];exact hb) (I1.hok.fresh (by rw [← hn];exact hb))
   have ne:∀ i j:Nat,i≠j→(n+i:Nat)≠n+j:=fun i j h=>by omega
   refine ⟨n+4,[n+4,n+2,n+3,n,n+1],_,_,H1,rfl,I2,zic t l1 l2 (n+4) (n+2) (n+3) n (n+1) ⟨ne 3 4 (by decide),ne 0 4 (by decide),ne 1 4 (by decide),ne 3 0 (by decide),ne 3 1 (by decide),ne 0 1 (by decide)⟩
    (ne 2 4 (by decide)) (ne 2 3 (by decide)) (ne 2 0 (by decide)) (ne 2 1 (by decide)),⟨hz,hI,⟨_,_,hO⟩,h1,h2⟩,fun b hb=>ge b ?_,q⟩
   simp only [List.mem_cons,List.mem_nil_iff,or_false] at hb
   rcases hb with rfl | rfl | rfl | rfl | rfl
   ·exact Nat.le_add_right _ _
   ·exact Nat.le_add_right _ _
   ·exact Nat.le_add_right _ _
   ·exact Nat.le_refl _
   ·exact Nat.le_add_right _ _
theorem zju {t:Bool} {g:TG} {tf:TT} {te:TE} {Q:List V→Hp→Prop} {σ:St} {H:Hp} {a b:Addr} {xs ys:List V} (Pv:Nat→List V→St→Hp→Prop) (he:xs.length=ys.length) (hn:xs.length≤sizeLine) (h0:Pv 0 [] σ H) (hl:∀ i rs σ H,i≤xs.length→Pv i rs σ H→SqX t H a xs∧SqX t H b ys∧rs.length≤i)
  (hs:∀ i x y T rs σ H,xs[i]? = some x→ys[i]? = some y→H T=none→Pv i rs σ H→g (.ref T) σ (upd H T (.tup [x,y])) fun σ2 H2=>tf σ2 H2 fun b H3=>if b=true then te σ2 H3 fun y H4=>Pv (i+1) (rs ++ [y]) σ2 H4 else Pv (i+1) rs σ2 H3)
  (hd:∀ rs σ H,Pv xs.length rs σ H→Q rs H):zg1 (Ity t a b) g tf te Q σ H:=by
 refine ⟨fun i m rs σ H=>m=xs.length - i∧i≤xs.length∧Pv i rs σ H,⟨xs.length,by simp,Nat.zero_le _,h0⟩,?_⟩
 rintro i m rs σ H ⟨rfl,hi,p⟩
 obtain ⟨q,q2,hz⟩:=hl i rs σ H hi p
 by_cases hlt:i<xs.length
 ·refine .inr ⟨⟨xs,xs[i],ys,ys[i]'(by omega),q,q2,by simp [hlt],by simp [he ▸ hlt]⟩,by omega,Pv (i+1),fun ys' σ' H' p'=>⟨xs.length - (i+1),by omega,rfl,hlt,p'⟩,fun v H' y=>?_⟩
  obtain ⟨T,x,y',hT,rfl,rfl,y1,y2⟩:=y
  exact hs i x y' T rs σ _ (y1 xs q) (y2 ys q2) hT p
 ·have e:i=xs.length:=by omega
  exact .inl ⟨⟨xs,q,by omega⟩,by omega,hd rs σ H (e ▸ p)⟩
theorem zaJ (T:String) {X:Cx} {K:PySem.W.Frag} (hK:X.K=K):zcu X (.builtin "isinstance") (fun xs H Q=>∃ x t b,xs=[x,.ty T]∧TyOf K H x t∧PySem.W.kitOne K t (.type T)=some b∧Q (.bl b) H):=by
 subst hK
 intro pins s σ H xs us Q I r h
 obtain ⟨x,t,b,rfl,ty,e,q⟩:=h
 obtain ⟨u,u2,rfl,rx,r2⟩:=zjO r
 obtain rfl:u2=Value.type T:=r2
 exact zfP I rx ty e fun tk=>⟨.bl b,H,I.tok _,rfl,q⟩
end L2
end
section
set_option Elab.async false
set_option linter.all false
set_option maxRecDepth 100000
set_option maxHeartbeats 4000000
namespace L2
open PySem PySem.Spec PyProof.Rows
section
variable {X:Cx} {K:PySem.W.Frag}
theorem zbt {x:Str} {n:Int} {pos:Pos} (hg:Gl X x) (h:∃ t,X.mg x=some (.int n t)) (hd:(x == ("__debug__" : Str))=false:=by decide):PE X (.Name x pos) (tC (.int n)):=by
 obtain ⟨t,h⟩:=h
 exact zgB hg h ⟨_,rfl⟩ hd
end
def dP {α:Type} (ds us zs:List α):List α:=us ++ ds
theorem Vals.dP {ds:List V} {es:List Value} (d:Vals ds es) {vs zs:List V} {us ws:List Value} (g:Vals vs us) (h:Vals zs ws):Vals (dP ds vs zs) (dP es us ws):=g.append d
theorem zkW:RelV (.ty "str") (.type "str"):=rfl
theorem zcb:RelV (.ty "tuple") (.type "tuple"):=rfl
theorem zgx:RelV (.ty "list") (.type "list"):=rfl
theorem zli:bootBuiltins "str" = some (.type "str"):=by decide +kernel
theorem zbg:bootBuiltins "tuple" = some (.type "tuple"):=by decide +kernel
theorem zct:bootBuiltins "list" = some (.type "list"):=by decide +kernel
end L2
namespace Cb
open PySem L2
structure Blt (mg:Str→Option Value):Prop where
 len:mg "len" = none
 sum:mg "sum" = none
 all:mg "all" = none
 max:mg "max" = none
 min:mg "min" = none
 int:mg "int" = none
 bool:mg "bool" = none
 isinstance:mg "isinstance" = none
 range:mg "range" = none
 enumerate:mg "enumerate" = none
 zip:mg "zip" = none
 str:mg "str" = none
 tuple:mg "tuple" = none
 list:mg "list" = none
inductive Lk (H:Hp):Nat→V→V→Prop where
 | int {n:Nat} (i:Int):Lk H n (.int i) (.int i)
 | seq {n:Nat} {t:Bool} {a b:Addr} {xs ys:List V} (ha:SqX t H a xs) (hb:SqX t H b ys) (hl:xs.length=ys.length) (hz:xs.length≤sizeLine) (h:∀ (i:Nat) (x y:V),xs[i]? = some x→ys[i]? = some y→Lk H n x y):Lk H (n+1) (.ref a) (.ref b)
theorem Lk.same {H H':Hp} {n:Nat} {v w:V} (h:Lk H n v w) (s:Same H H'):Lk H' n v w:=by
 induction h with
 | int i=>exact .int i
 | seq ha hb hl hz _ ih=>exact .seq (s _ _ ha) (s _ _ hb) hl hz ih
def NN (ext:List (Str×V)):Prop:=ext=[]∨∃ r:Int,ext=[(("room" : Str),V.int r)]
structure Ob (C:Addr) (H:Hp) (a p:Addr) (ws:List V) (ext:List (Str×V)):Prop where
 ex:∃ dx hd,H a=some (.ins C dx (("head",.str hd) :: ("held",.ref p) :: ext))
 ls:H p=some (.lst ws)
 nn:NN ext
structure ClsOk (K:PySem.W.Frag) (C:Addr):Prop where
 cl:Cls K C
 head:NoAttr K C "head"
 held:NoAttr K C "held"
 room:NoAttr K C "room"
def zdF:Sp:=fun vs H Q _=>∃ a b:Int,vs=[.int a,.int b]∧Q (.bl (decide (0≤a∧a≤b))) H
def zbJ:Sp:=fun vs H Q _=>∃ a:Int,vs=[.int a]∧Q (.bl (decide (0≤a∧a≤255))) H
def zbV:Sp:=fun vs H Q _=>∃ a:Int,vs=[.int a]∧0≤a∧a≤255∧Q .non H
def zfq (C:Addr) (L:List V→Nat):Sp:=fun vs H Q _=>∃ a p ws ext,vs=[.ref a]∧Ob C H a p ws ext∧Q (.int (L ws:Int)) H
def zdI (C:Addr) (L:List V→Nat):Sp:=fun vs H Q _=>∃ a p ws ext,∃ c:Int,vs=[.ref a,.int c]∧Ob C H a p ws ext∧0≤c∧c<L ws∧L ws≤5000∧Q .non H
def zdH (C:Addr) (L:List V→Nat):Sp:=fun vs H Q _=>∃ a p ws ext,∃ c v:Int,vs=[.ref a,.int c,.int v]∧Ob C H a p ws ext∧0≤c∧c<L ws∧L ws≤5000∧0≤v∧v≤255∧Q .non H
def zbG (C:Addr):Sp:=fun vs H Q _=>∃ a p ws ext,∃ (c:Nat) (x:V),vs=[.ref a,.int (c:Int)]∧Ob C H a p ws ext∧ws.length≤5000∧ws[c]? = some x∧Q x H
def zdC (C:Addr):Sp:=fun vs H Q _=>∃ a p ws ext,∃ (c:Nat) (v:Int),vs=[.ref a,.int (c:Int),.int v]∧Ob C H a p ws ext∧ws.length≤5000∧c<ws.length∧0≤v∧v≤255∧Q .non (upd H p (.lst (ws.set c (.int v))))
def zir (C:Addr):Sp:=fun vs H Q _=>∃ a p ws ext,∃ (c:Nat) (v:Int),vs=[.ref a,.int (c:Int),.int v]∧Ob C H a p ws ext∧ws.length≤5000∧c<ws.length∧0≤v∧v≤255∧Q .non H
def zcj (C:Addr):Sp:=fun vs H Q _=>∃ a p ws ext,vs=[.ref a]∧Ob C H a p ws ext∧∀ q,H q=none→Q (.ref q) (upd H q (.tup ws))
def zil (C:Addr):Sp:=fun vs H Q _=>∃ a p ext,∃ v:Int,vs=[.ref a,.int 0]∧Ob C H a p [.int v] ext∧Q (.int v) (upd H p (.lst [.int ((v+1) % 256)]))
def zev (K:PySem.W.Frag):Sp:=fun vs H Q _=>∃ a C dx p hd,vs=[.ref a,.str hd,.ref p]∧H a=some (.ins C dx [])∧ClsOk K C∧∀ H',H' a=some (.ins C dx [("head",.str hd),("held",.ref p)])→(∀ b,b≠a→H' b=H b)→Q .non H'
end Cb
end
section
set_option Elab.async false
set_option linter.all false
set_option maxRecDepth 100000
set_option maxHeartbeats 4000000
namespace L2
open PySem PySem.Spec PyProof.Rows PySem.SeqAt
section
variable {X:Cx} {K:PySem.W.Frag}
def rEqL (K:PySem.W.Frag) (neg:Bool):R2:=fun x y H Q=>∃ a b,∃ ns ms:List Int,x = .ref a∧y = .ref b∧SqL K H a (ns.map V.int)∧SqL K H b (ms.map V.int)∧Q (.bl (neg != decide (ns=ms))) H
theorem zcF:∀ {ns:List Int} {us:List Value},Vals (ns.map V.int) us→∀ (j:Nat) (h:j<us.length) (h2:j<ns.length),∃ t,us[j]=Value.int ns[j] t
 | [],_,r,j,h,h2=>absurd h2 (Nat.not_lt_zero _)
 | n :: ns,us,r,j,h,h2=>by
  cases r with
  | cons r1 r2 =>
   cases j with
   | zero=>exact r1
   | succ j=>exact zcF r2 j (by simpa using h) (by simpa using h2)
theorem all_eq {ns ms:List Int} (hl:ns.length=ms.length):(List.range ns.length).all (fun j=>ns[j]? == ms[j]?)=decide (ns=ms):=by
 rw [Bool.eq_iff_iff,List.all_eq_true,decide_eq_true_iff]
 constructor
 ·intro h
  apply List.ext_getElem? 
  intro i
  by_cases hi:i<ns.length
  ·exact beq_iff_eq.mp (h i (List.mem_range.mpr hi))
  ·rw [List.getElem?_eq_none (by omega),List.getElem?_eq_none (by omega)]
 ·intro h i _
  rw [h];exact beq_iff_eq.mpr rfl
theorem zkB {pins:List (Addr×Obj)} {s:Shared} {σ:St} {H:Hp} {a b:Addr} {ns ms:List Int} (I:Inv X pins σ H s) (ha:SqL X.K H a (ns.map V.int)) (hb:SqL X.K H b (ms.map V.int)) :
  ∃ its its2:Array Value,s.heap.IsList a its∧s.heap.IsList b its2∧its.size=ns.length∧its2.size=ms.length∧∀ (A:Around) j (h1:j<its.size) (h2:j<its2.size),EqAt A s its[j] its2[j] (ns[j]? == ms[j]?):=by
 obtain ⟨t1,r1,p1,_⟩:=I.list ha
 obtain ⟨t2,r2,p2,_⟩:=I.list hb
 have l1:=r1.length
 have l2:=r2.length
 rw [List.length_map] at l1 l2
 refine ⟨t1.toArray,t2.toArray,p1.isList,p2.isList,by simp [l1],by simp [l2],fun A j h1 h2=>?_⟩
 have g1:j<t1.length:=by simpa using h1
 have g2:j<t2.length:=by simpa using h2
 obtain ⟨u1,e1⟩:=zcF r1 j g1 (by omega)
 obtain ⟨u2,e2⟩:=zcF r2 j g2 (by omega)
 have e:(ns[j]? == ms[j]?)=(ns[j]'(by omega) == ms[j]'(by omega)):=by
  rw [List.getElem?_eq_getElem (by omega),List.getElem?_eq_getElem (by omega)]
  rfl
 rw [e]
 simp only [List.getElem_toArray,e1,e2]
 exact EqAt.int_int _ _ _ _
theorem zk2 (hu:X.A.units<cLine) (hK:X.K=K):OpR X (compareOp .NotEq) (rEqL K true):=by
 subst hK
 rintro pins s σ H x y v u Q I rx ry ⟨a,b,ns,ms,rfl,rfl,ha,hb,q⟩
 cases rx;cases ry
 obtain ⟨i1,i2,g1,g2,l1,l2,he⟩:=zkB I ha hb
 by_cases hl:ns.length=ms.length
 ·refine RcNeAt.lists (e:=fun j=>ns[j]? == ms[j]?) g1 g2 (by omega) hu (fun j h1 h2=>he _ j h1 h2) _ _ _ _ ⟨.bl (true != decide (ns=ms)),H,I,?_,q⟩
  rw [l1,all_eq hl];show _=Value.bool _;rw [Bool.true_bne]
 ·rw [decide_eq_false (fun e=>hl (by rw [e]))] at q
  exact RcNeAt.lists_lengths g1 g2 (by rw [l1,l2];exact bne_iff_ne.mpr hl) hu _ _ _ _ ⟨.bl true,H,I,rfl,q⟩
end
end L2
end
section
set_option Elab.async false
set_option linter.all false
set_option maxRecDepth 100000
set_option maxHeartbeats 4000000
namespace L2
open PySem PySem.Spec PyProof.Rows Builtin
section
variable {prog:Program} {w:World} {A:Around} {E:Value→Shared→Prop} {s:Shared} {K:PySem.W.Frag} {x y C f:Addr} {ox oy:Obj} {od oe:Option Obj}
end
section
variable {X:Cx}
end
end L2
end
section
set_option Elab.async false
set_option linter.all false
set_option maxRecDepth 100000
set_option maxHeartbeats 4000000
namespace L2
open PySem PySem.Spec PyProof.Rows
section
variable {prog:Program} {w:World} {A:Around} {E:Value→Shared→Prop} {s:Shared}
end
section
variable {X:Cx} {o:Expr} {td:TE} {pos p1 p2 p3:Pos} {k0:Nat}
end
section
variable {X:Cx} {K:PySem.W.Frag}
theorem zhe {x:Str} {z:Str} {pos:Pos} (hg:Gl X x) (h:∃ t,X.mg x=some (.str z t)) (hd:(x == ("__debug__" : Str))=false:=by decide):PE X (.Name x pos) (tC (.str z)):=by
 obtain ⟨t,h⟩:=h
 exact zgB hg h ⟨_,rfl⟩ hd
theorem zkd {x:Str} {a:Addr} {pos:Pos} (hg:Gl X x) (h:X.mg x=some (.ref a)) (hd:(x == ("__debug__" : Str))=false:=by decide):PE X (.Name x pos) (tC (.ref a)):=zgB hg h rfl hd
theorem zkI (hK:X.K=K):zcu X (.builtin "isinstance") (fun xs H Q=>∃ x t D b,xs=[x,.ref D]∧TyOf K H x t∧PySem.W.kitOne K t (.ref D)=some b∧Q (.bl b) H):=by
 subst hK
 intro pins s σ H xs us Q I r h
 obtain ⟨x,t,D,b,rfl,ty,e,q⟩:=h
 obtain ⟨u,u2,rfl,rx,r2⟩:=zjO r
 obtain rfl:u2=Value.ref D:=r2
 exact zfP I rx ty e fun tk=>⟨.bl b,H,I.tok _,rfl,q⟩
end
theorem zkt {K:PySem.W.Frag} {t:Value} {D:Addr} (h:PySem.W.isIn K t D=true):PySem.W.kitOne K t (.ref D)=some true:=by
 unfold PySem.W.isIn at h
 unfold PySem.W.kitOne PySem.W.kitCls
 by_cases e:(t == Value.ref D)=true
 ·rw [if_pos e]
 ·rw [if_neg e]
  simp only [Bool.or_eq_true,Bool.and_eq_true,beq_iff_eq] at h
  rcases h with h | h
  ·exact absurd (beq_iff_eq.mpr h) e
  ·dsimp only
   rw [if_pos (by simp only [Bool.and_eq_true,beq_iff_eq];exact h.1.1)]
   exact h.2
end L2
end
section
set_option Elab.async false
set_option linter.all false
set_option maxRecDepth 100000
set_option maxHeartbeats 4000000
namespace L2
open PySem PySem.Spec PyProof.Rows
section
variable {X:Cx} {e:Expr} {p pos:Pos} {ta:TE}
end
section
variable {prog:Program} {w:World} {A:Around} {E:Value→Shared→Prop} {s:Shared}
end
section
variable {X:Cx} {o:Expr} {td tv:TE} {pos p1 p2 p3:Pos} {k0:Nat}
end
end L2
end
section
set_option Elab.async false
set_option linter.all false
set_option maxRecDepth 100000
set_option maxHeartbeats 4000000
namespace L2
open PySem PySem.Spec PyProof.Rows HT PySem.SeqAt
section
section
variable {prog:Program} {w:World} {A:Around} {E:Value→Shared→Prop} {s:Shared}
theorem zcW {t sl:Addr} {items:Array Value} {vl vu:Value} {lo hi:Option Int} {Q:Value→Shared→Prop} (ht:IsTup s.heap t items) (hs:s.heap.IsSliceOf sl vl vu .none) (pl:IsPart vl lo) (pu:IsPart vu hi)
  (hw:sIx items.size 0 lo=0∧sIx items.size items.size hi=items.size) (h:Q (.ref t) s):wpAny (model prog w) A (getItem (.ref t) (.ref sl)) Q E s:=by
 obtain ⟨os,hos,hcs,hds⟩:=id hs
 have hTs:s.TypeIs (.ref sl) "slice" := ⟨os,hos,hcs⟩
 unfold getItem
 try with_reducible refine wpAny_holding ?_
 first | refine wpAny_bind (wpAny_pure ?_) | skip
 refine wpAny_bind (wpAny_sequenceKey ht.typeIs (by decide) ?_)
 refine wpAny_bind (wpAny_callSpecial?_slot (name:=Str.ofString "__getitem__") ht.typeIs PyProof.Rows.slot_tuple_getitem
  (wpAny_call_entry PyProof.Rows.slot_tuple_getitem ht.typeIs entry_tuple_getitem ?_ (args_tuple_getitem _ _)))
 show wpAny _ _ (Builtin.Tuple.tupleItemsOf (.ref t) >>= _) _ _ s
 refine wpAny_bind (tupleItemsOf_ ht ?_)
 refine wpAny_bind (wpAny_typeOf hTs ?_)
 rw [if_pos (by decide)]
 refine wpAny_bind (zbQ hs pl pu ?_)
 rw [hw.1,hw.2,Nat.sub_zero]
 have hyes:((((0:Nat):Int) == 0 && (1:Int) == 1 && items.size == items.size)=true):=by simp
 show wpAny _ _ (if (((0:Nat):Int) == 0 && (1:Int) == 1 && items.size == items.size)=true then _ else _) _ _ s
 rw [if_pos hyes]
 refine wpAny_bind (m:=Builtin.Tuple.tupleIsExact _) ?_
 unfold Builtin.Tuple.tupleIsExact
 refine wpAny_bind (wpAny_typeOf ht.typeIs (wpAny_pure ?_))
 rw [if_pos (by decide)]
 refine wpAny_bind (wpAny_rule ?_)
 exact wpAny_pure ⟨_,rfl,wpAny_pure h⟩
end
end
section
variable {X:Cx} {K:PySem.W.Frag}
def rSlT2 (K:PySem.W.Frag):V→Option Int→Option Int→Hp→VK→Prop:=fun x lo hi H Q=>∃ a xs,x = .ref a∧SqT K H a xs∧(cutV xs lo hi=xs→Q (.ref a) H)∧∀ p,H p=none→Q (.ref p) (upd H p (.tup (cutV xs lo hi)))
theorem zix (hK:X.K=K):SlR X (rSlT2 K):=by
 subst hK
 intro pins s σ H x v vl vu lo hi sl Q I rx hs pl pu h
 obtain ⟨a,xs,rfl,hx,q0,q⟩:=h
 by_cases hw:sIx xs.length 0 lo=0∧sIx xs.length xs.length hi=xs.length
 ·cases rx
  obtain ⟨its,r,ht,hz⟩:=I.tuple hx
  have hlen:its.toArray.size=xs.length:=by rw [List.size_toArray];exact r.length.symm
  refine ⟨"tuple",_,PyProof.Rows.slot_tuple_getitem.lookup,ht.typeIs,?_⟩
  refine zcW ht hs pl pu (by rw [hlen];exact hw) ?_
  exact ⟨.ref a,H,I,rfl,q0 (by unfold cutV;rw [hw.1,hw.2];simp)⟩
 ·exact sl_tup pins s σ H _ v vl vu lo hi sl Q I rx hs pl pu ⟨a,xs,rfl,hx,hw,q⟩
def rNeL0 (K:PySem.W.Frag):R2:=fun x y H Q=>∃ a b xs,x = .ref a∧y = .ref b∧SqL K H a xs∧SqL K H b []∧Q (.bl (!xs.isEmpty)) H
theorem zlF (hu:X.A.units<cLine) (hK:X.K=K):OpR X (compareOp .NotEq) (rNeL0 K):=by
 subst hK
 rintro pins s σ H x y v u Q I rx ry ⟨a,b,xs,rfl,rfl,ha,hb,q⟩
 cases rx;cases ry
 obtain ⟨its,r1,p1,_⟩:=I.list ha
 obtain ⟨its2,r2,p2,_⟩:=I.list hb
 obtain rfl:=r2.nil_iff.mpr rfl
 have e:its.toArray.size=xs.length:=by rw [List.size_toArray];exact r1.length.symm
 cases xs with
 | nil =>
  refine RcNeAt.lists (e:=fun _=>true) p1.isList p2.isList (by rw [e];rfl) hu (fun j h1 h2=>absurd h2 (by simp)) _ _ _ _ ⟨.bl false,H,I,?_,q⟩
  rw [e];rfl
 | cons z zs=>exact RcNeAt.lists_lengths p1.isList p2.isList (by rw [e];exact bne_iff_ne.mpr (by simp)) hu _ _ _ _ ⟨.bl true,H,I,rfl,q⟩
theorem zkH {g:TG} {tf:TT} {te:TE} {Q:List V→Hp→Prop} {σ:St} {H:Hp} {a:Addr} {xs:List V} (Pv:Nat→List V→St→Hp→Prop) (hn:xs.length≤sizeLine) (h0:Pv 0 [] σ H) (hl:∀ i ys σ H,i≤xs.length→Pv i ys σ H→SqT K H a xs∧ys.length≤i)
  (hs:∀ i x ys σ H,xs[i]? = some x→Pv i ys σ H→g x σ H fun σ2 H2=>tf σ2 H2 fun b H3=>if b=true then te σ2 H3 fun y H4=>Pv (i+1) (ys ++ [y]) σ2 H4 else Pv (i+1) ys σ2 H3)
  (hd:∀ ys σ H,Pv xs.length ys σ H→Q ys H):zg1 (Itt K a) g tf te Q σ H:=by
 refine ⟨fun i m ys σ H=>m=xs.length - i∧i≤xs.length∧Pv i ys σ H,⟨xs.length,by simp,Nat.zero_le _,h0⟩,?_⟩
 rintro i m ys σ H ⟨rfl,hi,p⟩
 obtain ⟨q,hz⟩:=hl i ys σ H hi p
 by_cases hlt:i<xs.length
 ·refine .inr ⟨⟨xs,xs[i],q,by simp [hlt]⟩,by omega,Pv (i+1),fun ys' σ' H' p'=>⟨xs.length - (i+1),by omega,rfl,hlt,p'⟩,fun x H' y=>?_⟩
  obtain ⟨e,y⟩:=y
  subst e
  exact hs i x ys σ _ (y xs q) p
 ·have e:i=xs.length:=by omega
  subst e
  exact .inl ⟨⟨xs,q,Nat.le_refl _⟩,by omega,hd ys σ H p⟩
end
end L2
end
section
set_option Elab.async false
set_option linter.all false
set_option maxRecDepth 100000
set_option maxHeartbeats 4000000
namespace L2
open PySem PySem.Spec PyProof.Rows HT
section
variable {M:Model} {A:Around} {E:Value→Shared→Prop} {s:Shared}
end
end L2
end
section
set_option Elab.async false
set_option linter.all false
set_option maxRecDepth 100000
set_option maxHeartbeats 4000000
namespace L2
open PySem PySem.Spec PyProof.Rows HT
section
variable {P:Program} {w:World} {H H':Hp} {h h':Heap} {fs ch:List Addr}
end
section
variable {X:Cx} {pins:List (Addr×Obj)} {σ:St} {H:Hp} {s:Shared} {h':Heap} {ch:List Addr}
end
end L2
end
section
set_option Elab.async false
set_option linter.all false
set_option maxRecDepth 100000
set_option maxHeartbeats 4000000
namespace L2
open PySem PySem.Spec PyProof.Rows HT
section
variable {X:Cx} {x:Str} {C:Addr} {e:Expr} {te:TE} {np cpos pos:Pos} {R:Hp→Prop}
end
end L2
end
section
set_option Elab.async false
set_option linter.all false
set_option maxRecDepth 100000
set_option maxHeartbeats 4000000
namespace L2
open PySem PySem.Spec PyProof.Rows HT
section
variable {X:Cx} {pins:List (Addr×Obj)} {σ:St} {H:Hp} {s:Shared}
end
end L2
end
section
set_option Elab.async false
set_option linter.all false
set_option maxRecDepth 100000
set_option maxHeartbeats 4000000
namespace L2
open PySem PySem.Spec PyProof.Rows HT
section
variable {X:Cx} {k:Nat} {ps:List Str} {sp:Sp} {x fn cn n y:Str} {i j l:Nat} {Cb:Addr} {e:Expr} {t:TA} {px p1 p2 p3 p4 p5 p6 p7 p8 p9:Pos}
end
end L2
end
section
set_option Elab.async false
set_option linter.all false
set_option maxRecDepth 100000
set_option maxHeartbeats 4000000
namespace L2
open PySem PySem.Spec PyProof.Rows HT PySem.W PySem.Calls
section
variable {prog:Program} {w:World} {A:Around} {E:Value→Shared→Prop} {s:Shared} {K:Frag} {x C:Addr} {ox:Obj} {oD:Option Obj}
end
section
variable {X:Cx} {K:Frag}
end
end L2
end
section
set_option Elab.async false
set_option linter.all false
set_option maxRecDepth 100000
set_option maxHeartbeats 4000000
namespace L2
open PySem PySem.Spec PyProof.Rows HT
section
variable {X:Cx} {K:PySem.W.Frag}
end
end L2
end
section
set_option Elab.async false
set_option linter.all false
set_option maxRecDepth 100000
set_option maxHeartbeats 4000000
namespace L2
open PySem PySem.Spec PyProof.Rows HT
section
variable {P:Program} {w:World} {K:PySem.W.Frag} {mg:Str→Option Value} {base:Heap} {N:List Str} {qual:Str} {scope:Scope} {f:Addr} {cd:Value} {A:Around} {outer:List Env} {s:Shared} {H:Hp} {E:XK}
variable {k:Nat} {ps:List Str} {sp:Sp} {x:Str} {p pos:Pos} {e:Expr} {es:List Expr} {t:TA}
end
end L2
end
section
set_option Elab.async false
set_option linter.all false
set_option maxRecDepth 100000
set_option maxHeartbeats 4000000
namespace L2
open PySem PySem.Spec PyProof.Rows HT
section
variable {X:Cx} {k:Nat} {ps:List Str} {sp:Sp} {x fn cn n y:Str} {i j l:Nat} {Cb:Addr} {e:Expr} {es:List Expr} {t:TA} {px p1 p2 p3 p4 p5 p6 p7 p8 p9:Pos}
end
end L2
end
section
set_option Elab.async false
set_option linter.all false
set_option maxRecDepth 100000
set_option maxHeartbeats 4000000
namespace L2
open PySem PySem.Spec PyProof.Rows HT
theorem zfW {prog:Program} {w:World} {A:Around} (hh:A.handled=none) (it l:Addr) (hne:l≠it) (items:Array Value) :
  Draws prog w A it [it,l] items.size (fun i v=>items[i]? = some v) (fun i h=>IsIt true h it l i∧IsSq true h l items) where
 live:=fun _ _ st=>let ⟨o,ho,_⟩:=st.1;⟨o,ho⟩
 frame:=fun _ _ _ st hk=>⟨st.1.at fun o e=>hk it (by simp) o e,st.2.at fun o e=>hk l (by simp) o e⟩
 item:=fun i s Q E hi st hQ=>by
  refine zgM st.1 st.2 (x:=items[i]) (by simp [hi]) fun h' hit' hs'=>?_
  exact hQ _ h' s.toks (by simp [hi]) ⟨hit',st.2.at fun o e=>hs'.extBut l o hne e⟩ hs'
 done:=fun s Q E st hE=>zk3 hh st.1 st.2 (by simp) hE
theorem zce (l:Addr) (items:Array Value) (n:Nat) (dct:Option Addr) (sl:Array (Option Value)) :
  Meets (Builtin.«enumerate.__new__» ⟨[.type "enumerate",.ref l],[]⟩) (fun _ R s=>s.heap.get? l=some { cls:=.type "tuple",dict:=dct,data:=.seq items n,slots:=sl } ∧
   R (.ok (.ret (.ref (s.heap.push { cls:=.type "tuple_iterator",data:=.fields #[.ref l,.int 0 0] }).objs.size)))
    { s with heap:=(s.heap.push { cls:=.type "tuple_iterator",data:=.fields #[.ref l,.int 0 0] }).push { cls:=.type "enumerate",data:=.fields #[.none,.bool false,.ref s.heap.objs.size,rawInt 0,.none,.none] } }):=
 .of_wp fun prog w A R s h=>by
  obtain ⟨hp,g,d,tk,os⟩:=s;obtain ⟨hl,h⟩:=h
  have hsub:=sub_enumerate
  have hL:Heap.IsTuple (Shared.heap ⟨hp,g,d,tk,os⟩) l items:=⟨_,hl,rfl,n,rfl⟩
  wp_walk using wpAny_loadPart' hl
  refine wpAny_stack_any fun st=>wpAny_pure ?_
  split
  ·rename_i c _ _ _ _ _
   cases (c == Value.type "enumerate")
   ·wp_walk using wpAny_loadPart' hl,wpAny_pyIter_tuple hL
    exact ⟨_,rfl,h⟩
   ·wp_walk using wpAny_loadPart' hl,wpAny_pyIter_tuple hL
    exact ⟨_,rfl,h⟩
  ·wp_walk using wpAny_loadPart' hl,wpAny_pyIter_tuple hL
   exact ⟨_,rfl,h⟩
theorem zcE {prog:Program} {w:World} {A:Around} {E:Value→Shared→Prop} {s:Shared} {l:Addr} {items:Array Value} {Q:Value→Shared→Prop} (hL:IsSq true s.heap l items)
  (h:∀ h',IsEnum h' (s.heap.objs.size+1) s.heap.objs.size 0 .none→IsIt true h' s.heap.objs.size l 0→h'.objs.size=s.heap.objs.size+2 →
   (∀ b o,s.heap.get? b=some o→h'.get? b=some o)→Q (.ref (s.heap.objs.size+1)) { s with heap:=h' }) :
  wpAny (model prog w) A (call (.type "enumerate") [.ref l]) Q E s:=by
 obtain ⟨⟨c,dct,dt,sl⟩,hl,hc,n,hd⟩:=hL
 replace hc:c = .type "tuple" := hc
 replace hd:dt = .seq items n:=hd
 subst hc hd
 refine callType_new F.called_enumerate (by decide) (F.typeCall_enumerate_1 _) (F.newCall_enumerate_1 _) (fun obj=>F.args_object_init_2 obj _) F.entry_enumerate_new
  (zce l items n dct sl) ⟨hl,?_⟩
 have hz:(s.heap.push { cls:=.type "tuple_iterator",data:=.fields #[.ref l,.int 0 0] }).objs.size=s.heap.objs.size+1:=Heap.size_push ..
 show _∧_
 rw [hz]
 have he:IsEnum ((s.heap.push { cls:=.type "tuple_iterator",data:=.fields #[.ref l,.int 0 0] }).push
   { cls:=.type "enumerate",data:=.fields #[.none,.bool false,.ref s.heap.objs.size,rawInt 0,.none,.none] }) (s.heap.objs.size+1) s.heap.objs.size 0 .none:=by
  have:=Heap.get?_push_size (s.heap.push { cls:=.type "tuple_iterator",data:=.fields #[.ref l,.int 0 0] })
   (o:={ cls:=.type "enumerate",data:=.fields #[.none,.bool false,.ref s.heap.objs.size,rawInt 0,.none,.none] }) rfl
  rw [hz] at this;exact this
 refine ⟨⟨_,he,rfl⟩,h _ he ⟨_,Heap.get?_push_of_some _ (Heap.get?_push_size _ rfl),rfl,rfl⟩ (by rw [Heap.size_push,hz]) fun b o x=>Heap.get?_push_of_some _ (Heap.get?_push_of_some _ x)⟩
def IteT (K:PySem.W.Frag) (a:Addr):It:=
 ⟨fun i H=>∃ xs x,SqT K H a xs∧xs[i]? = some x,
  fun i H v H'=>∃ T x,H T=none∧v = .ref T∧H'=upd H T (.tup [.int i,x])∧∀ xs,SqT K H a xs→xs[i]? = some x,
  fun i H=>∃ xs,SqT K H a xs∧xs.length=i⟩
theorem zhB {P:Program} {w:World} {K:PySem.W.Frag} {elts:List Expr} {kt:Nat} {tp:Pos} (a e it:Addr) (hne:e≠it) :
  Turn P w K (.Tuple elts kt tp) (IteT K a) [e,it] e (fun i h=>(∃ old,IsEnum h e it i old)∧IsIt true h it a i) where
 mem:=by simp
 obj:=fun i h st b hb=>by
  obtain ⟨⟨old,he⟩,hi⟩:=st
  rcases List.mem_cons.mp hb with z | z
  ·subst z
   exact ⟨_,he,fun v z=>by
    have z':Data.fields _=Data.cell v:=z
    cases z'⟩
  ·have z:=List.mem_singleton.mp z
   subst z
   obtain ⟨o,e1,c,d⟩:=hi
   exact ⟨o,e1,fun v z=>by rw [d] at z;cases z⟩
 keep:=fun i h h' st k=>by
  obtain ⟨⟨old,he⟩,hi⟩:=st
  exact ⟨⟨old,k e (by simp) _ he⟩,hi.at fun o e1=>k it (by simp) o e1⟩
 item:=by
  intro X hP hw hK hc i pins s σ H E I hf st hg
  subst hP hw hK
  obtain ⟨xs,x,hq,hx⟩:=hg
  obtain ⟨its,rv,p,hz⟩:=I.tuple hq
  obtain ⟨u,hu,ru⟩:=rv.get hx
  obtain ⟨⟨old,he⟩,hi⟩:=st
  have hsq:IsSq true s.heap a its.toArray:=p
  have cls:∀ b o,s.heap.get? b=some o→o.cls≠.type "tuple" → a≠b:=fun b o e nc z=>by
   obtain ⟨oa,ea,ca,_⟩:=hsq
   rw [z,e] at ea;cases ea;exact nc ca
  have hai:a≠it:=by
   obtain ⟨o,e1,c,_⟩:=id hi
   exact cls it o e1 (by rw [c];decide)
  have hae:a≠e:=cls e _ he (by show Value.type "enumerate" ≠ Value.type "tuple"; decide)
  have hlt:i<its.toArray.size:=by
   have:=(List.getElem?_eq_some_iff.mp hu).1
   simpa using this
  refine wpAny_pyNext_enum_itemD (zfW (prog:=X.prog) (w:=X.w) (A:=X.A.in1) (show X.A.in1.handled=none from I.ok.hd hc) it a hai its.toArray) he ⟨hi,hsq⟩ hlt hne (by simp [hne,Ne.symm hae]) fun x' h' tk hx' ho st' ht hsz kk=>⟨_,rfl,?_⟩
  have ex:x'=u:=by
   have e1:its[i]? = some x':=by simpa using hx'
   rw [hu] at e1;cases e1;rfl
  subst ex
  refine wpAny_letOwnedTupleGo_enum ho fun h2 he2 sb=>?_
  have fT:FpOk X pins H s.heap.objs.size:=I.fpOk (Nat.le_refl _) (I.hok.fresh (Nat.le_refl _))
  have k2:∀ b o,b ∉ [e,it]→s.heap.get? b=some o→h2.get? b=some o:=fun b o hb e1=>by
   simp only [List.mem_cons,List.mem_nil_iff,or_false,not_or] at hb
   exact (sb.2 b hb.1).trans (kk b o hb.1 hb.2 e1)
  have I1:Inv X pins σ H { s with heap:=h2,toks:=tk+1 }:=I.turnedL (ch:=[e,it]) k2 hf
  have eT:h2.get? s.heap.objs.size=some { cls:=.type "tuple",data:=.seq #[.int i tk,x'] }:=(sb.2 _ (Nat.ne_of_gt (Heap.lt_size he))).trans ht
  have I2:=I1.track (o:=.tup [.int i,x]) fT (Nat.le_trans I.sz (Nat.le_refl _)) (zcG ⟨_,rfl⟩ ru eT)
  refine ⟨.ref s.heap.objs.size,_,I2,rfl,⟨_,x,fT.1,rfl,rfl,fun ys hy=>by rw [I.tuple_inj hy hq];exact hx⟩,⟨⟨x',by exact_mod_cast he2⟩,st'.1.at fun o e1=>sb.extBut it o (Ne.symm hne) e1⟩,fun b hb=>?_⟩
  obtain ⟨o,eb⟩:∃ o,s.heap.get? b=some o:=by
   rcases List.mem_cons.mp hb with z | z
   ·subst z;exact ⟨_,he⟩
   ·have z:=List.mem_singleton.mp z
    subst z
    obtain ⟨o,e1,_⟩:=hi
    exact ⟨o,e1⟩
  rw [zai (Nat.ne_of_lt (Heap.lt_size eb))]
  exact (hf b hb).1
 done:=by
  intro X hP hw hK hc i pins s σ H E I hf st hg
  subst hP hw hK
  obtain ⟨xs,hq,hx⟩:=hg
  obtain ⟨its,rv,p,hz⟩:=I.tuple hq
  obtain ⟨⟨old,he⟩,hi⟩:=st
  have hl:=rv.length
  have hsq:IsSq true s.heap a its.toArray:=p
  have hai:a≠it:=fun z=>by
   obtain ⟨oa,ea,ca,_⟩:=id hsq
   obtain ⟨o,e1,c,_⟩:=id hi
   rw [z,e1] at ea;cases ea
   rw [c] at ca;exact absurd ca (by decide)
  have en:its.toArray.size=i:=by rw [List.size_toArray];omega
  refine wpAny_pyNext_enum_endD (zfW (prog:=X.prog) (w:=X.w) (A:=X.A.in1) (show X.A.in1.handled=none from I.ok.hd hc) it a hai its.toArray) he (by rw [en];exact ⟨hi,hsq⟩) fun h' eb=>⟨rfl,I.turnedL (t':=s.toks) (ch:=[e,it]) (fun b o hb e1=>eb b o (fun z=>hb (by simp [z])) e1) hf⟩
 self:=fun _ _ _ _ _ st h=>by
  obtain ⟨⟨old,he⟩,hi⟩:=st
  exact wpAny_pyIter_enum he h
def iEnumT (K:PySem.W.Frag) (ta:TA):TI:=fun σ H R=>ta σ H fun vs H1=>∃ a,vs=[.ref a]∧(∃ xs,SqT K H1 a xs)∧R (IteT K a) H1
theorem zdo {X:Cx} {a:Expr} {ta:TA} {p pos:Pos} {elts:List Expr} {kt:Nat} {tp:Pos} (hg:Gl X "enumerate") (hm:X.mg "enumerate" = none) (ha:PA X [a] ta) (hs:starEach [a] X.env=[(false,eval a X.env)]:=by rfl) :
  PI X (.Tuple elts kt tp) (.Call (.Name "enumerate" p) [a] [] pos) (iEnumT X.K ta):=by
 intro pins s σ H R I h
 refine Call_ (zc1 I hg hm boot_enumerate (PyProof.Rows.callWith_type1 (thn (ha pos pins s σ H _ I h) fun us s1 ⟨vs,H1,I1,r1,q1⟩=>?_) hs rfl))
 obtain ⟨l,e,⟨xs,hq⟩,q⟩:=q1
 subst e
 obtain ⟨u,rfl,ru⟩:=zc4 r1
 cases ru
 obtain ⟨its,rv,pl,hz⟩:=I1.tuple hq
 refine zcE (items:=its.toArray) pl fun h' he hi hsz kk=>?_
 refine wpAny_pyIter_enum he ?_
 have I2:Inv X pins σ H1 { s1 with heap:=h',toks:=s1.toks }:=I1.kept kk
 refine ⟨s1.heap.objs.size+1,[s1.heap.objs.size+1,s1.heap.objs.size],_,_,H1,rfl,I2,zhB l _ _ (Nat.succ_ne_self _),⟨⟨_,he⟩,hi⟩,fun b hb=>?_,q⟩
 rcases List.mem_cons.mp hb with z | z
 ·subst z;exact I1.fpOk (Nat.le_succ _) (I1.hok.fresh (Nat.le_succ _))
 ·have z:=List.mem_singleton.mp z
  subst z;exact I1.fpOk (Nat.le_refl _) (I1.hok.fresh (Nat.le_refl _))
theorem zcC {K:PySem.W.Frag} {a:Addr} {xs:List V} {g:TG} {tb:TS} {D:Ends} {σ:St} {H:Hp} (Pv:Nat→St→Hp→Prop) (h0:Pv 0 σ H) (hl:∀ i σ H,i≤xs.length→Pv i σ H→SqT K H a xs)
  (hs:∀ i x T σ H,xs[i]? = some x→H T=none→Pv i σ H→g (.ref T) σ (upd H T (.tup [.int i,x])) fun σ2 H2=>tb { D with nx:=Pv (i+1),ct:=Pv (i+1),bk:=D.nx } σ2 H2) (hd:∀ σ H,Pv xs.length σ H→D.nx σ H) :
  ∃ W:Nat→Nat→St→Hp→Prop,(∃ m,W 0 m σ H)∧∀ i m σ H,W i m σ H →
   ((IteT K a).stop i H∧D.nx σ H)∨((IteT K a).go i H∧∃ N:St→Hp→Prop,(∀ σ' H',N σ' H'→∃ m',m'<m∧W (i+1) m' σ' H')∧∀ x H',(IteT K a).yld i H x H'→g x σ H' fun σ2 H2=>tb { D with nx:=N,ct:=N,bk:=D.nx } σ2 H2):=by
 refine ⟨fun i m σ H=>m=xs.length - i∧i≤xs.length∧Pv i σ H,⟨xs.length,by simp,Nat.zero_le _,h0⟩,?_⟩
 rintro i m σ H ⟨rfl,hi,p⟩
 have q:=hl i σ H hi p
 by_cases hlt:i<xs.length
 ·refine .inr ⟨⟨xs,xs[i],q,by simp [hlt]⟩,Pv (i+1),fun σ' H' p'=>⟨xs.length - (i+1),by omega,rfl,hlt,p'⟩,fun v H' y=>?_⟩
  obtain ⟨T,x,hT,rfl,rfl,y⟩:=y
  exact hs i x T σ _ (y xs q) hT p
 ·have e:i=xs.length:=by omega
  subst e
  exact .inl ⟨⟨xs,q,rfl⟩,hd σ H p⟩
end L2
end
section
set_option Elab.async false
set_option linter.all false
set_option maxRecDepth 100000
set_option maxHeartbeats 4000000
namespace L2
open PySem PySem.Spec PyProof.Rows HT
section
variable {prog:Program} {w:World} {A:Around} {E:Value→Shared→Prop} {s:Shared}
theorem zfr {r:Addr} {Q:Value→Shared→Prop} (h:wpAny (model prog w) A.in1 (collect (.ref r)) (fun vs s1=>vs.length≤sizeLine∧wpAny (model prog w) A.in1.in1 (Builtin.«list.sort» ⟨[.ref s1.heap.objs.size],[]⟩)
   (fun fin s2=>fin = .done (.ret .none)∧Q (.ref s1.heap.objs.size) s2) E { s1 with heap:=s1.heap.push (seqObj "list" vs.toArray 0) }) E s) :
  wpAny (model prog w) A (call (.builtin "sorted") [.ref r]) Q E s:=by
 refine Calls.call_function_entry kind_sorted plain_sorted entry_sorted (args_sorted1 _) ?_
 unfold Builtin.«sorted»
 refine wpAny_bind (m:=checkCount "sorted" 1 1 _) (wpAny_pure ?_)
 refine wpAny_bind (wpAny_mono h (fun vs s1 ⟨hz,h⟩=>?_) fun _ _ e=>e)
 refine wpAny_bind (wpAny_newList ?_ hz)
 refine wpAny_bind (wpAny_holding (wpAny_call_entry slot_list_sort ⟨_,Heap.get?_push_size _ rfl,rfl⟩ entry_list_sort (wpAny_mono h (fun fin s2 ⟨e,q⟩=>?_) fun _ _ e=>e) (args_list_sort _)))
 subst e
 exact ⟨_,rfl,wpAny_pure ⟨_,rfl,q⟩⟩
end
theorem zfN {κ:Type}:∀ {kvs:List (κ×V)} {vs:List (κ×Value)},KV kvs vs→vs.length=kvs.length
 | _,_,.nil=>rfl
 | _,_,.cons _ r=>by rw [List.length_cons,List.length_cons,zfN r]
theorem zk5 {κ:Type}:∀ {kvs:List (κ×V)} {vs:List (κ×Value)},KV kvs vs→∀ (j:Nat) (k:κ) (x:Value),vs[j]? = some (k,x)→∃ y,kvs[j]? = some (k,y)∧RelV y x
 | _,_,.nil,j,k,x,h=>by simp at h
 | _,_,.cons (a:=a) hp r,0,k,x,h=>by
  obtain ⟨a1,a2⟩:=a
  cases h
  obtain ⟨e,rr⟩:=hp
  exact ⟨a2,by rw [show a1=k from e];rfl,rr⟩
 | _,_,.cons _ r,j+1,k,x,h=>zk5 r j k x h
section
variable {X:Cx}
def vwD (p a:Addr):Heap→Prop:=fun h=>h.IsItemsView p a
theorem zkj:MtR X "dict.items" (fun x vs H Q=>∃ (a:Addr) (kvs:List (Key×V)),x = .ref a∧vs=[]∧H a=some (.dK kvs)∧∀ p,H p=none→Q (.ref p) (upd H p (.ext (vwD p a)))):=by
 rintro pins s σ H x vs v us Q I rx rv ⟨a,kvs,rfl,rfl,e,q⟩
 obtain rfl:v=Value.ref a:=rx
 have hus:=rv.zero
 subst hus
 obtain ⟨hz,lo,vs,rel,dd⟩:=zjn I.hok e
 refine call_meetsIn PySem.F.slot_dict_items dd.typeIs PySem.F.entry_dict_items (PySem.F.args_dict_items_1 _) (meets_dict_items (zaH X.prog X.w) a lo) ⟨⟨vs,dd⟩,?_⟩
 refine ⟨.ref s.heap.objs.size,_,I.laid (t':=s.toks) (o:=.ext (vwD s.heap.objs.size a)) (fun b o eb=>Heap.get?_push_of_some _ eb) (Nat.le_refl _) ?_,rfl,q _ (I.hok.fresh (Nat.le_refl _))⟩
 have g:(s.heap.push { cls:=.type "dict_items",data:=.fields #[.ref a] }).get? s.heap.objs.size=some { cls:=.type "dict_items",data:=.fields #[.ref a] }:=Heap.get?_push_size _ rfl
 exact ⟨⟨_,g,rfl,rfl⟩,⟨_,g⟩,fun h1 h2 ⟨o1,q1,q2,q3⟩ k=>⟨o1,k _ q1,q2,q3⟩⟩
end
end L2
end
section
set_option Elab.async false
set_option linter.all false
set_option maxRecDepth 100000
set_option maxHeartbeats 4000000
namespace L2
open PySem PySem.Spec PyProof.Rows HT
section
variable {prog:Program} {w:World} {A:Around} {E:Value→Shared→Prop} {s:Shared}
def tupI (k v:Int) (t u:Tok):Obj:={ cls:=.type "tuple",data:=.seq #[.int k t,.int v u] }
theorem zlU (C:Nat→Nat→(Bool→Shared→Prop)→Shared→Prop) (G:Array Nat→Shared→Prop) (b:Bool) (s1:Shared) (hc:∀ K:Bool→Shared→Prop,K b s1→C 1 0 K s1) (hG:G (if b=true then #[1,0] else #[0,1]) s1):(PySem.W.kas_sort 2).kasWp C G s1:=by
 refine hc _ ?_
 cases b with
 | true=>exact hG
 | false=>exact hG
theorem zjX {a x y:Addr} {n:Nat} {P:PySem.Fin→Shared→Prop} {k1 v1 k2 v2:Int} {t1 u1 t2 u2:Tok} (ho:s.heap.get? a=some (seqObj "list" [Value.ref x,Value.ref y].toArray n)) (hx:s.heap.get? x=some (tupI k1 v1 t1 u1)) (hy:s.heap.get? y=some (tupI k2 v2 t2 u2)) (hxa:x≠a) (hya:y≠a) (hne:k2≠k1)
  (h:P (.done (.ret .none)) { s with heap:=sortedHeap s.heap a [Value.ref x,Value.ref y] (if k2<k1 then #[Value.ref y,Value.ref x] else #[Value.ref x,Value.ref y]) }) :
  wpAny (model prog w) A (Builtin.«list.sort» ⟨[.ref a],[]⟩) P E s:=by
 rw [list_sort_plain]
 have ha:a<s.heap.objs.size:=Heap.lt_size ho
 refine wpAny_bind (listItems_at ho rfl ?_)
 refine wpAny_bind (listUpdate_at ho rfl ?_ (by show 2≤sizeLine;decide) (Nat.zero_le _))
 obtain ⟨e1,ho1⟩:∃ e1,(s.heap.update a (Obj.mapSeq fun _=>#[])).get? a=some (seqObj "list" #[] e1):=⟨_,get?_update_seq ho (fun _=>#[])⟩
 refine wpAny_bind (seqEpoch_at ho1 rfl ?_)
 refine wpAny_bind (wpAny_newTuple ?_ (by show 2≤sizeLine;decide))
 refine wpAny_bind (wpAny_newList ?_ (Nat.zero_le _))
 refine wpAny_holding ?_
 have ho6:(((s.heap.update a (Obj.mapSeq fun _=>#[])).push (seqObj "tuple" [Value.ref x,Value.ref y].toArray 0)).push (seqObj "list" #[] 0)).get? a=some (seqObj "list" #[] e1):=by
  rw [Heap.get?_push_ne _ _ _ (by rw [size_push',Heap.size_update];exact Nat.ne_of_lt (Nat.lt_succ_of_lt ha)),Heap.get?_push_ne _ _ _ (by rw [Heap.size_update];exact Nat.ne_of_lt ha)]
  exact ho1
 have oth:∀ b o,b≠a→s.heap.get? b=some o→(((s.heap.update a (Obj.mapSeq fun _=>(#[]:Array Value))).push (seqObj "tuple" [Value.ref x,Value.ref y].toArray 0)).push (seqObj "list" #[] 0)).get? b=some o:=fun b o hb e =>
  Heap.get?_push_of_some _ (Heap.get?_push_of_some _ ((Heap.get?_update_other _ _ (Ne.symm hb)).trans e))
 have hx6:=oth x _ hxa hx
 have hy6:=oth y _ hya hy
 show wpAny (model prog w) A _ P E { s with heap:=((s.heap.update a (Obj.mapSeq fun _=>#[])).push (seqObj "tuple" [Value.ref x,Value.ref y].toArray 0)).push (seqObj "list" #[] 0) }
 dsimp only
 have hn2:¬ [Value.ref x,Value.ref y].toArray.size<2:=by simp
 rw [if_neg hn2,if_neg hn2]
 refine wpAny_bind (PySem.W.kat_kind (vs:=[.ref x,.ref y]) (fs:=[.int k1 t1,.int k2 t2]) (T:=.type "int") (.cons hx6 rfl rfl rfl (.cons hy6 rfl rfl rfl .nil)) (by show 0<2;decide) (fun v hv=>?_) rfl ?_)
 ·rcases List.mem_cons.mp hv with rfl | hv
  ·exact PySem.W.Looks.of_pure rfl
  ·rw [List.mem_singleton.mp hv];exact PySem.W.Looks.of_pure rfl
 refine wpAny_bind (wpAny_mono (PySem.W.kat_run (ks:=[Value.ref x,Value.ref y]) (vs:=[Value.ref x,Value.ref y]) (G:=fun p s'=>p=(if decide (k2<k1)=true then #[1,0] else #[0,1])∧s'={ s with heap:=((s.heap.update a (Obj.mapSeq fun _=>(#[]:Array Value))).push (seqObj "tuple" [Value.ref x,Value.ref y].toArray 0)).push (seqObj "list" #[] 0) })
  (Q:=fun st' s'=>(∃ p:Array Nat,p=(if decide (k2<k1)=true then #[1,0] else #[0,1])∧arrOf st'=p.map (PySem.W.kas_item ([Value.ref x,Value.ref y].toArray.zip [Value.ref x,Value.ref y].toArray))∧failedOf st'=none)∧s'={ s with heap:=((s.heap.update a (Obj.mapSeq fun _=>(#[]:Array Value))).push (seqObj "tuple" [Value.ref x,Value.ref y].toArray 0)).push (seqObj "list" #[] 0) })
  rfl (by show 2≤2;decide) (by show 2<64;decide) (fun p st' s' _ a2 a3 a4=>⟨⟨p,a4.1,a2,a3⟩,a4.2⟩) (zlU _ _ (decide (k2<k1)) _ (fun K hK=>?_) ⟨rfl,rfl⟩)) ?_ fun _ _ e=>e)
 ·show wpAny (model prog w) A (keyLt' (tuples' true) (.ref y) (.ref x)) K (fun _ _=>False) _
  refine PySem.W.kat_lt hy6 rfl hx6 rfl ?_
  show wpAny (model prog w) A (eqBool (.int k2 t2) (.int k1 t1)) _ _ _
  refine wpAny_eqBool_int ?_
  have e:(k2 == k1)=false:=by simpa using hne
  rw [e]
  show wpAny (model prog w) A (oneLt' (true && 0 == 0) (.int k2 t2) (.int k1 t1)) K _ _
  exact oneLt_int hK
 ·rintro ⟨⟨⟩,st'⟩ s' ⟨⟨p,hp,har,hf⟩,rfl⟩
  dsimp only
  have hout:=PySem.W.kat_snds (ks:=[Value.ref x,Value.ref y]) (vs:=[Value.ref x,Value.ref y]) rfl har
  rw [hout]
  have eo:List.toArray (p.toList.map fun i=>[Value.ref x,Value.ref y].getD i Value.none)=(if k2<k1 then #[Value.ref y,Value.ref x] else #[Value.ref x,Value.ref y]):=by
   rw [hp]
   by_cases z:k2<k1 <;> simp [z]
  rw [eo]
  refine wpAny_bind (seqEpoch_at ho6 rfl ?_)
  refine wpAny_bind (listUpdate_at ho6 rfl ?_ (Nat.zero_le _) (by split <;> (show 2≤sizeLine+1;decide)))
  rw [hf]
  simp only [bne_self_eq_false,Bool.false_eq_true,if_false]
  exact wpAny_pure h
end
end L2
end
section
set_option Elab.async false
set_option linter.all false
set_option maxRecDepth 100000
set_option autoImplicit false
set_option maxHeartbeats 4000000
namespace L2
open PySem PySem.Spec PyProof.Rows HT Cb
section
variable {prog:Program} {w:World} {A:Around} {E:Value→Shared→Prop} {s:Shared}
theorem zg7 {a:Addr} {vs:List Value} {n:Nat} {P:PySem.Fin→Shared→Prop} (ho:s.heap.get? a=some (seqObj "list" vs.toArray n)) (hf:vs.length<2)
  (h:P (.done (.ret .none)) { s with heap:=sortedHeap s.heap a vs vs.toArray }):wpAny (model prog w) A (Builtin.«list.sort» ⟨[.ref a],[]⟩) P E s:=by
 rw [list_sort_plain]
 have ha:a<s.heap.objs.size:=Heap.lt_size ho
 have hz:vs.length≤sizeLine:=Nat.le_trans (Nat.le_of_lt hf) (by decide)
 refine wpAny_bind (listItems_at ho rfl ?_)
 refine wpAny_bind (listUpdate_at ho rfl ?_ (by rw [List.size_toArray];exact hz) (Nat.zero_le _))
 obtain ⟨e1,ho1⟩:∃ e1,(s.heap.update a (Obj.mapSeq fun _=>#[])).get? a=some (seqObj "list" #[] e1):=⟨_,get?_update_seq ho (fun _=>#[])⟩
 refine wpAny_bind (seqEpoch_at ho1 rfl ?_)
 refine wpAny_bind (wpAny_newTuple ?_ hz)
 refine wpAny_bind (wpAny_newList ?_ (Nat.zero_le _))
 refine wpAny_holding ?_
 have ho6:(((s.heap.update a (Obj.mapSeq fun _=>#[])).push (seqObj "tuple" vs.toArray 0)).push (seqObj "list" #[] 0)).get? a=some (seqObj "list" #[] e1):=by
  rw [Heap.get?_push_ne _ _ _ (by rw [size_push',Heap.size_update];exact Nat.ne_of_lt (Nat.lt_succ_of_lt ha)),Heap.get?_push_ne _ _ _ (by rw [Heap.size_update];exact Nat.ne_of_lt ha)]
  exact ho1
 show wpAny (model prog w) A _ P E { s with heap:=((s.heap.update a (Obj.mapSeq fun _=>#[])).push (seqObj "tuple" vs.toArray 0)).push (seqObj "list" #[] 0) }
 dsimp only
 have h2:vs.toArray.size<2:=by rw [List.size_toArray];exact hf
 rw [if_pos h2,if_pos h2]
 refine wpAny_bind (wpAny_pure ?_)
 rw [StateT.run_pure]
 refine wpAny_bind (wpAny_pure ?_)
 dsimp only
 have eo:(arrOf (SortSt.mk' general' (vs.toArray.zip vs.toArray) #[] 7 none)).map (·.2)=vs.toArray:=by
  show (vs.toArray.zip vs.toArray).map (·.2)=vs.toArray
  apply Array.ext
  ·simp
  ·intro i h1 h2;simp
 rw [eo]
 refine wpAny_bind (seqEpoch_at ho6 rfl ?_)
 refine wpAny_bind (listUpdate_at ho6 rfl ?_ (Nat.zero_le _) (by show vs.toArray.size≤sizeLine+1;rw [List.size_toArray];omega))
 show wpAny (model prog w) A _ P E _
 simp only [bne_self_eq_false,Bool.false_eq_true,if_false]
 exact wpAny_pure h
end
def srt2:List (Int×Int)→List (Int×Int)
 | [x,y]=>if y.1<x.1 then [y,x] else [x,y]
 | l=>l
def knV (kn:List (Int×Int)):List (Key×V):=kn.map fun q=>(Sum.inl q.1,V.int q.2)
theorem zgC {P:Program} {w:World} {kn:List (Int×Int)} {vs:List (Key×Value)} {lo:Addr} {h:Heap} {as:List Addr} (rel:KV (knV kn) vs) (g:PySem.W.KdxG (zaH P w) vs lo h as) {j:Nat} {b:Addr} {q:Int×Int} (hb:as[j]? = some b) (hq:kn[j]? = some q) :
  ∃ t u,h.get? b=some (tupI q.1 q.2 t u):=by
 obtain ⟨key,k,x,hx,hkey,hg⟩:=g.pairs j b hb
 obtain ⟨y,hy,ry⟩:=zk5 rel j k x hx
 have e1:(knV kn)[j]? = some (Sum.inl q.1,V.int q.2):=by unfold knV;rw [List.getElem?_map,hq];rfl
 rw [e1] at hy
 cases hy
 obtain ⟨u,rfl⟩:=(show ∃ u,x=Value.int q.2 u from ry)
 rcases zaK (show zgU (Sum.inl q.1) key=true from hkey) with ⟨i,t,e2,e3⟩ | ⟨_,_,e2,_⟩
 ·cases e2;subst e3;exact ⟨t,u,hg⟩
 ·cases e2
section
variable {X:Cx}
theorem zf1 (hc:X.calm=true):zcu X (.builtin "sorted") (fun xs H Q=>∃ (p a:Addr) (kn:List (Int×Int)),xs=[.ref p]∧H p=some (.ext (vwD p a))∧H a=some (.dK (knV kn))∧kn.length≤2∧(kn.map (·.1)).Nodup ∧
  ∀ (l:Addr) (ts:List Addr) (H':Hp),ts.length=kn.length→H l=none→Same H H'→H' l=some (.lst (ts.map V.ref))→(∀ (j:Nat) (t:Addr) (q:Int×Int),ts[j]? = some t→(srt2 kn)[j]? = some q→H t=none∧H' t=some (.tup [.int q.1,.int q.2]))→Q (.ref l) H'):=by
 intro pins s σ H xs us Q I r h
 obtain ⟨p,a,kn,rfl,ep,e,h2,nd,q⟩:=h
 obtain ⟨u,rfl,r1⟩:=zc4 r
 obtain rfl:u=Value.ref p:=r1
 obtain ⟨hv,_,_⟩:=(show ObjOk X.prog X.w H s.heap p (.ext (vwD p a)) from I.hok p _ ep)
 obtain ⟨hz,lo,vs,rel,dd⟩:=zjn I.hok e
 obtain ⟨epc,hat⟩:=dd.dictAt
 have hl:vs.length=kn.length:=by rw [zfN rel];unfold knV;rw [List.length_map]
 have hlz:vs.length≤sizeLine:=by rw [hl];exact Nat.le_trans h2 (by decide)
 refine zfr (PySem.W.kdx_collect (knd:=zaH X.prog X.w) (kvs:=vs) (ep:=epc) (I.ok.hd hc) hv hat hlz fun h' tk as kp hla hG=>⟨by rw [List.length_map,hla];exact hlz,?_⟩)
 have I2:Inv X pins σ H { s with heap:=h',toks:=tk }:=I.kept kp
 have hsz:h'.objs.size<(h'.push (seqObj "list" (as.map Value.ref).toArray 0)).objs.size:=by rw [Heap.size_push];exact Nat.lt_succ_self _
 have hoL:(h'.push (seqObj "list" (as.map Value.ref).toArray 0)).get? h'.objs.size=some (seqObj "list" (as.map Value.ref).toArray 0):=Heap.get?_push_size _ rfl
 have kpF:∀ (out:Array Value) b o,h'.get? b=some o→(sortedHeap (h'.push (seqObj "list" (as.map Value.ref).toArray 0)) h'.objs.size (as.map Value.ref) out).get? b=some o:=fun out b o eb=>by
  have hb:=Heap.lt_size eb
  rw [sortedHeap_old (Nat.ne_of_lt hb) (Nat.lt_trans hb hsz)]
  exact Heap.get?_push_of_some _ eb
 have frs:∀ b∈as,s.heap.objs.size≤b:=fun b hb=>Nat.le_of_lt (hG.above b hb)
 have hlk:as.length=kn.length:=by rw [hla,hl]
 have lst:∀ (out:List Addr) (H2:Hp) (I3:Inv X pins σ H2 { s with heap:=h',toks:=tk }),out.length≤2→Inv X pins σ (upd H2 h'.objs.size (.lst (out.map V.ref))) { s with heap:=sortedHeap (h'.push (seqObj "list" (as.map Value.ref).toArray 0)) h'.objs.size (as.map Value.ref) (out.map Value.ref).toArray,toks:=tk }:=fun out H2 I3 ho=>by
  obtain ⟨c,hc'⟩:=sortedHeap_at (a:=h'.objs.size) (vs:=as.map Value.ref) (out:=(out.map Value.ref).toArray) hoL
  refine I3.laid (t':=tk) (o:=.lst (out.map V.ref)) (kpF _) (Nat.le_refl _) ⟨?_,out.map Value.ref,_,?_,by simpa [seqObj] using hc'⟩
  ·rw [List.length_map];exact Nat.le_trans ho (by decide)
  ·clear hc' ho
   induction out with
   | nil=>exact .nil
   | cons b r ih=>exact .cons rfl ih
 match kn,as,hlk,h2,nd,rel,hG,lst,q,frs with
 | [],[],_,_,_,_,_,lst,q,_ =>
  refine zg7 (s:={ s with heap:=h'.push (seqObj "list" _ 0),toks:=tk }) hoL (by show 0<2;decide) ⟨rfl,?_⟩
  exact ⟨.ref _,_,lst [] H I2 (by decide),rfl,q _ [] _ rfl (I2.hok.fresh (Nat.le_refl _)) (zaf (I2.hok.fresh (Nat.le_refl _))) zad fun j t qq e1 _=>by simp at e1⟩
 | [q1],[b],_,_,_,rel,hG,lst,q,frs =>
  obtain ⟨t1,u1,g1⟩:=zgC rel hG (j:=0) (b:=b) (q:=q1) rfl rfl
  have fb:H b=none:=I.hok.fresh (frs b (by simp))
  have I3:=I2.track (o:=.tup [.int q1.1,.int q1.2]) (I.fpOk (frs b (by simp)) fb) (Nat.le_trans I.sz (frs b (by simp))) (zcG ⟨_,rfl⟩ ⟨_,rfl⟩ g1)
  refine zg7 (s:={ s with heap:=h'.push (seqObj "list" _ 0),toks:=tk }) hoL (by show 1<2;decide) ⟨rfl,?_⟩
  have fl:(upd H b (.tup [.int q1.1,.int q1.2])) h'.objs.size=none:=I3.hok.fresh (Nat.le_refl _)
  refine ⟨.ref _,_,lst [b] _ I3 (by show 1≤2;decide),rfl,q _ [b] _ rfl (I2.hok.fresh (Nat.le_refl _)) ((zaf fb).trans (zaf fl)) zad fun j t qq e1 e2=>?_⟩
  match j,e1,e2 with
  | 0,e1,e2 =>
   cases e1;cases e2
   exact ⟨fb,zaf fl _ _ zad⟩
  | j+1,e1,_=>simp at e1
 | [q1,q2],[b,d],_,_,nd,rel,hG,lst,q,frs =>
  obtain ⟨t1,u1,g1⟩:=zgC rel hG (j:=0) (b:=b) (q:=q1) rfl rfl
  obtain ⟨t2,u2,g2⟩:=zgC rel hG (j:=1) (b:=d) (q:=q2) rfl rfl
  have hbd:b≠d:=by
   have:=hG.rise
   have h3:b<d:=by simpa using this
   exact Nat.ne_of_lt h3
  have fb:H b=none:=I.hok.fresh (frs b (by simp))
  have fd:H d=none:=I.hok.fresh (frs d (by simp))
  have fd':(upd H b (.tup [.int q1.1,.int q1.2])) d=none:=by rw [zai (Ne.symm hbd)];exact fd
  have I3:=I2.track (o:=.tup [.int q1.1,.int q1.2]) (I.fpOk (frs b (by simp)) fb) (Nat.le_trans I.sz (frs b (by simp))) (zcG ⟨_,rfl⟩ ⟨_,rfl⟩ g1)
  have I4:=I3.track (o:=.tup [.int q2.1,.int q2.2]) (I.fpOk (frs d (by simp)) fd') (Nat.le_trans I.sz (frs d (by simp))) (zcG ⟨_,rfl⟩ ⟨_,rfl⟩ g2)
  have fl:(upd (upd H b (.tup [.int q1.1,.int q1.2])) d (.tup [.int q2.1,.int q2.2])) h'.objs.size=none:=I4.hok.fresh (Nat.le_refl _)
  have sm:=(zaf fb).trans ((zaf (o:=.tup [.int q2.1,.int q2.2]) fd').trans (zaf (o:=.lst ([b,d].map V.ref)) fl))
  have hlb:=Heap.lt_size g1
  have hld:=Heap.lt_size g2
  have hne:q2.1≠q1.1:=by
   have:¬ q1.1=q2.1:=by simpa using nd
   exact fun z=>this z.symm
  refine zjX (s:={ s with heap:=h'.push (seqObj "list" _ 0),toks:=tk }) (x:=b) (y:=d) hoL (Heap.get?_push_of_some _ g1) (Heap.get?_push_of_some _ g2) (Nat.ne_of_lt hlb) (Nat.ne_of_lt hld) hne ⟨rfl,?_⟩
  have hb9:∀ o,upd (upd (upd H b (.tup [.int q1.1,.int q1.2])) d (.tup [.int q2.1,.int q2.2])) h'.objs.size o b=some (.tup [.int q1.1,.int q1.2]):=fun o=>zaf fl _ _ (by rw [zai hbd];exact zad)
  have hd9:∀ o,upd (upd (upd H b (.tup [.int q1.1,.int q1.2])) d (.tup [.int q2.1,.int q2.2])) h'.objs.size o d=some (.tup [.int q2.1,.int q2.2]):=fun o=>zaf fl _ _ zad
  by_cases z:q2.1<q1.1
  ·rw [if_pos z]
   refine ⟨.ref _,_,lst [d,b] _ I4 (by show 2≤2;decide),rfl,q _ [d,b] _ rfl (I2.hok.fresh (Nat.le_refl _)) ((zaf fb).trans ((zaf fd').trans (zaf fl))) zad fun j t qq e1 e2=>?_⟩
   rw [show srt2 [q1,q2]=[q2,q1] from if_pos z] at e2
   match j,e1,e2 with
   | 0,e1,e2=>cases e1;cases e2;exact ⟨fd,hd9 _⟩
   | 1,e1,e2=>cases e1;cases e2;exact ⟨fb,hb9 _⟩
   | j+2,e1,_=>simp at e1
  ·rw [if_neg z]
   refine ⟨.ref _,_,lst [b,d] _ I4 (by show 2≤2;decide),rfl,q _ [b,d] _ rfl (I2.hok.fresh (Nat.le_refl _)) ((zaf fb).trans ((zaf fd').trans (zaf fl))) zad fun j t qq e1 e2=>?_⟩
   rw [show srt2 [q1,q2]=[q1,q2] from if_neg z] at e2
   match j,e1,e2 with
   | 0,e1,e2=>cases e1;cases e2;exact ⟨fb,hb9 _⟩
   | 1,e1,e2=>cases e1;cases e2;exact ⟨fd,hd9 _⟩
   | j+2,e1,_=>simp at e1
end
end L2
end
section
set_option Elab.async false
set_option linter.all false
set_option autoImplicit false
set_option maxRecDepth 100000
set_option maxHeartbeats 4000000
namespace L2
open PySem PySem.Spec PyProof.Rows HT Cb
def TupsI (h:Heap) (items:Array Value) (nss:Nat→List Int):Prop:=∀ (i:Nat) (v:Value),items[i]? = some v→∃ (t:Addr) (its:Array Value),v = .ref t∧IsTup h t its∧IntsAre its.toList (nss i)
theorem TupsI.kept {h h':Heap} {items:Array Value} {nss:Nat→List Int} (x:TupsI h items nss) {bad:List Addr} (hb:∀ b∈bad,∀ o,h.get? b=some o→o.cls≠.type "tuple") (k:∀ b o,b ∉ bad→h.get? b=some o→h'.get? b=some o):TupsI h' items nss:=fun i v e=>by
 obtain ⟨t,its,rfl,⟨o,ho,hc,r⟩,hI⟩:=x i v e
 exact ⟨t,its,rfl,⟨o,k t o (fun z=>hb t z o ho hc) ho,hc,r⟩,hI⟩
section
variable {prog:Program} {w:World} {A:Around} {E:Value→Shared→Prop}
theorem zkk {l I S:Addr} {items:Array Value} {nss:Nat→List Int} (hh:A.handled=none) (hu:A.in1.units<cLine) (hlI:l≠I) (hSl:S≠l) (hSI:S≠I) {R:Result→Shared→Prop} :
  ∀ (k j:Nat) (s:Shared) (vb:Value) (c:Nat),items.size - (j+1)=k→j+1≤items.size→s.heap.IsListIter I l (j+1)→s.heap.IsList l items→TupsI s.heap items nss →
  items[argBest (fun i j=>lexLt (nss i) (nss j)) j]? = some vb→s.heap.get? S=some { cls:=.type "list",dict:=none,data:=.seq #[vb,vb] c,slots:=#[] } →
  (∀ v h' tk,items[argBest (fun i j=>lexLt (nss i) (nss j)) (items.size - 1)]? = some v→(∀ b o,b≠I→b≠S→s.heap.get? b=some o→h'.get? b=some o)→R (.ok (.ret v)) { s with heap:=h',toks:=tk }) →
  codeAny (model prog w) A (.builtin "min.loop" ⟨[.ref I,.none,.ref S],[]⟩) R s:=by
 have hname:(toString "min" ++ toString ".loop" : String) = "min.loop" := by decide
 have W:=Walks.list (prog:=prog) (w:=w) (A:=A.in1) hh I l hlI items
 intro k
 induction k with
 | zero =>
  intro j s vb c hk hj hi hl ht hb hS hR
  have hin:j+1=items.size:=by omega
  refine codeAny_builtin F.entry_min_loop ?_
  rw [Around.under_plainId F.plain_min_loop _]
  show wpAny _ A.in1 (seqItems? (.ref S) >>= _) _ _ s
  refine wpAny_bind (wpAny_seqItems hS rfl ?_)
  show wpAny _ A.in1 (tryCatch (pyNext (.ref I)) _ >>= _) _ _ s
  refine wpAny_bind (wpAny_tryCatch (W.done s _ _ (by rw [← hin];exact ⟨hi,hl⟩) fun h' tk hk'=>?_))
  have hS':=hk' S _ (by simp [hSI]) hS
  show wpAny _ A.in1 (updateSeq S (fun _=>#[]) >>= _) _ _ _
  refine wpAny_bind (wpAny_updateSeq hS' rfl (wpAny_bind (wpAny_letGo (wpAny_pure ?_))))
  refine hR vb _ tk (by rw [← hin];exact hb) fun b o hbI hbS e=>(Heap.get?_update_other _ _ (Ne.symm hbS)).trans (hk' b o (by simp [hbI]) e)
 | succ k ih =>
  intro j s vb c hk hj hi hl ht hb hS hR
  have hlt:j+1<items.size:=by omega
  refine codeAny_builtin F.entry_min_loop ?_
  rw [Around.under_plainId F.plain_min_loop _]
  show wpAny _ A.in1 (seqItems? (.ref S) >>= _) _ _ s
  refine wpAny_bind (wpAny_seqItems hS rfl ?_)
  show wpAny _ A.in1 (tryCatch (pyNext (.ref I)) _ >>= _) _ _ s
  refine wpAny_bind (wpAny_tryCatch (W.item (j+1) s _ _ hlt ⟨hi,hl⟩ fun v h' tk hP hst' hk'=>?_))
  have hS':=hk' S _ (by simp [hSI]) hS
  have ht':TupsI h' items nss:=ht.kept (bad:=[I]) (fun b hb o e=>by
   rw [List.mem_singleton.mp hb] at e
   obtain ⟨oi,ei,ci,_⟩:=hi
   rw [ei] at e;cases e;rw [ci];decide) fun b o hb e=>hk' b o hb e
  show wpAny _ A.in1 (tryCatch (holding [v,v] (richCompare .Lt v vb >>= _)) _ >>= _) _ _ _
  obtain ⟨t1,i1,rfl,p1,n1⟩:=ht' _ _ hP
  obtain ⟨t2,i2,rfl,p2,n2⟩:=ht' _ _ hb
  refine wpAny_bind (wpAny_tryCatch (wpAny_holding (wpAny_bind (HT.lt_tupInts (s:={ s with heap:=h',toks:=tk }) p1 p2 n1 n2 hu ?_))))
  refine wpAny_bind (wpAny_holding (wpAny_truthy_bool ?_))
  refine wpAny_bind (wpAny_letGo (wpAny_pure ?_))
  have nbS:∀ b∈[S],∀ o,h'.get? b=some o→o.cls≠.type "tuple" := fun b hb o e=>by
   rw [List.mem_singleton.mp hb,hS'] at e;cases e;show Value.type "list" ≠ Value.type "tuple"; decide
  cases hbt:lexLt (nss (j+1)) (nss (argBest (fun i j=>lexLt (nss i) (nss j)) j)) with
  | true =>
   simp only [if_true]
   refine wpAny_bind (wpAny_updateSeq hS' rfl (wpAny_bind (wpAny_letGo ?_)))
   rw [hname]
   have oth:∀ b o,b≠S→h'.get? b=some o→(h'.update S (Obj.mapSeq fun _=>#[Value.ref t1,Value.ref t1])).get? b=some o:=fun b o hb e=>(Heap.get?_update_other _ _ (Ne.symm hb)).trans e
   refine wpAny_pure ⟨plainId_quiet F.plain_min_loop _,ih (j+1) _ (.ref t1) _ (by omega) hlt (hst'.1.at fun o e=>oth _ o (Ne.symm hSI) e) (hst'.2.at fun o e=>oth _ o (Ne.symm hSl) e) (ht'.kept nbS fun b o hb e=>oth b o (by simpa using hb) e)
    (by simp only [argBest,hbt,if_true];exact hP) (Heap.get?_update_self _ hS' rfl) fun v' h'' tk'' hP' hk''=>?_⟩
   exact hR v' h'' tk'' hP' fun b o hbI hbS e=>hk'' b o hbI hbS (oth b o hbS (hk' b o (by simp [hbI]) e))
  | false =>
   simp only [Bool.false_eq_true,if_false]
   refine wpAny_bind (wpAny_letGo ?_)
   rw [hname]
   refine wpAny_pure ⟨plainId_quiet F.plain_min_loop _,ih (j+1) _ (.ref t2) c (by omega) hlt hst'.1 hst'.2 ht' (by simp only [argBest,hbt,Bool.false_eq_true,if_false];exact hb) hS' fun v' h'' tk'' hP' hk''=>?_⟩
   exact hR v' h'' tk'' hP' fun b o hbI hbS e=>hk'' b o hbI hbS (hk' b o (by simp [hbI]) e)
theorem zfh {s:Shared} {l:Addr} {items:Array Value} {nss:Nat→List Int} {Q:Value→Shared→Prop} (hh:A.handled=none) (hu:A.units+1<cLine) (hl:s.heap.IsList l items) (ht:TupsI s.heap items nss) (hn:0<items.size)
  (h:∀ v h' tk,items[argBest (fun i j=>lexLt (nss i) (nss j)) (items.size - 1)]? = some v→(∀ b o,s.heap.get? b=some o→h'.get? b=some o)→Q v { s with heap:=h',toks:=tk }) :
  wpAny (model prog w) A (call (.builtin "min") [.ref l]) Q E s:=by
 have hname:(toString "min" ++ toString ".loop" : String) = "min.loop" := by decide
 refine call_function_tree F.kind_min F.plain_min F.entry_min (F.args_min1 _) ?_
 show wpAny _ A.in1 (Builtin.Builtins.bindParams "min" ["key","default"] 0 ⟨[],[]⟩ >>= _) _ _ s
 refine wpAny_bind (wpAny_of_eq (show Builtin.Builtins.bindParams "min" ["key","default"] 0 ⟨[],[]⟩=pure [none,none] from rfl) ?_)
 refine wpAny_bind (wpAny_pure ?_)
 have hlt:l<s.heap.objs.size:=by obtain ⟨_,e,_⟩:=hl;exact Heap.lt_size e
 refine wpAny_bind (wpAny_pyIter_list hl ?_)
 refine wpAny_bind (wpAny_newObj_type ?_)
 rw [hname]
 obtain ⟨h2,e2⟩:∃ h2,h2=(s.heap.push { cls:=.type "list_iterator",data:=.fields #[.ref l,.int 0 0] }).push { cls:=.type "list",data:=.seq ([]:List Value).toArray }:=⟨_,rfl⟩
 have kp:∀ b o,s.heap.get? b=some o→h2.get? b=some o:=fun b o e=>by rw [e2];exact Heap.get?_push_of_some _ (Heap.get?_push_of_some _ e)
 have hsz:(s.heap.push { cls:=.type "list_iterator",data:=.fields #[.ref l,.int 0 0] }).objs.size=s.heap.objs.size+1:=Heap.size_push ..
 have hI:h2.IsListIter s.heap.objs.size l 0:=⟨_,by rw [e2];exact Heap.get?_push_of_some _ (Heap.get?_push_size _ rfl),rfl,rfl⟩
 have hS:h2.get? (s.heap.objs.size+1)=some { cls:=.type "list",dict:=none,data:=.seq #[] 0,slots:=#[] }:=by rw [e2,← hsz];exact Heap.get?_push_size _ rfl
 have hl2:h2.IsList l items:=hl.at fun o e=>kp l o e
 have ht2:TupsI h2 items nss:=ht.kept (bad:=[]) (fun b hb=>nomatch hb) fun b o _ e=>kp b o e
 show wpAny _ A.in1 (again (.builtin "min.loop" ⟨[.ref s.heap.objs.size,.none,.ref (s.heap.push _).objs.size],[]⟩)) _ _ { s with heap:=_ }
 rw [hsz]
 refine wpAny_pure ⟨plainId_quiet F.plain_min_loop _,?_⟩
 have key:codeAny (model prog w) A (.builtin "min.loop" ⟨[.ref s.heap.objs.size,.none,.ref (s.heap.objs.size+1)],[]⟩) (fun r s'=>match r with
   | Except.ok (Flow.ret v)=>Q v s'
   | Except.ok a=>False
   | Except.error e=>E e s') { s with heap:=h2 }:=by
  have hlI:l≠s.heap.objs.size:=Nat.ne_of_lt hlt
  have hSI:s.heap.objs.size+1≠s.heap.objs.size:=Nat.succ_ne_self _
  have hSl:s.heap.objs.size+1≠l:=Nat.ne_of_gt (Nat.lt_succ_of_lt hlt)
  have W:=Walks.list (prog:=prog) (w:=w) (A:=A.in1) hh s.heap.objs.size l hlI items
  refine codeAny_builtin F.entry_min_loop ?_
  rw [Around.under_plainId F.plain_min_loop _]
  show wpAny _ A.in1 (seqItems? (.ref (s.heap.objs.size+1)) >>= _) _ _ _
  refine wpAny_bind (wpAny_seqItems hS rfl ?_)
  show wpAny _ A.in1 (tryCatch (pyNext (.ref s.heap.objs.size)) _ >>= _) _ _ _
  refine wpAny_bind (wpAny_tryCatch (W.item 0 _ _ _ hn ⟨hI,hl2⟩ fun v h' tk hP hst' hk'=>?_))
  have hS':=hk' (s.heap.objs.size+1) _ (by simp) hS
  have ht':TupsI h' items nss:=ht2.kept (bad:=[s.heap.objs.size]) (fun b hb o e=>by
   rw [List.mem_singleton.mp hb] at e
   obtain ⟨oi,ei,ci,_⟩:=hI
   rw [ei] at e;cases e;rw [ci];decide) fun b o hb e=>hk' b o hb e
  have nbS:∀ b∈[s.heap.objs.size+1],∀ o,h'.get? b=some o→o.cls≠.type "tuple" := fun b hb o e=>by
   rw [List.mem_singleton.mp hb,hS'] at e;cases e;show Value.type "list" ≠ Value.type "tuple"; decide
  show wpAny _ A.in1 (updateSeq (s.heap.objs.size+1) (fun _=>#[v,v]) >>= _) _ _ _
  refine wpAny_bind (wpAny_updateSeq hS' rfl ?_)
  rw [hname]
  have oth:∀ b o,b≠s.heap.objs.size+1→h'.get? b=some o→(h'.update (s.heap.objs.size+1) (Obj.mapSeq fun _=>#[v,v])).get? b=some o:=fun b o hb e=>(Heap.get?_update_other _ _ (Ne.symm hb)).trans e
  refine wpAny_pure ⟨plainId_quiet F.plain_min_loop _,zkk (l:=l) (items:=items) (nss:=nss) hh hu hlI hSl hSI _ 0 _ v _ rfl hn (hst'.1.at fun o e=>oth _ o (Ne.symm hSI) e) (hst'.2.at fun o e=>oth _ o (Ne.symm hSl) e) (ht'.kept nbS fun b o hb e=>oth b o (by simpa using hb) e) hP (Heap.get?_update_self _ hS' rfl) fun v' h'' tk'' hP' hk''=>?_⟩
  refine h v' h'' tk'' hP' fun b o e=>?_
  have hb:=Heap.lt_size e
  exact hk'' b o (Nat.ne_of_lt hb) (Nat.ne_of_lt (Nat.lt_succ_of_lt hb)) (oth b o (Nat.ne_of_lt (Nat.lt_succ_of_lt hb)) (hk' b o (fun z=>Nat.ne_of_lt hb (List.mem_singleton.mp z)) (kp b o e)))
 rw [e2] at key
 exact key
end
section
variable {X:Cx}
theorem zjA (hc:X.calm=true) (hu:X.A.units+1<cLine):zcu X (.builtin "min") (fun xs H Q=>∃ (a:Addr) (ts:List Addr) (nss:List (List Int)),xs=[.ref a]∧H a=some (.lst (ts.map V.ref))∧0<ts.length∧ts.length=nss.length∧(∀ (j:Nat) (t:Addr) (ns:List Int),ts[j]? = some t→nss[j]? = some ns→H t=some (.tup (ns.map V.int))) ∧
  ∀ t:Addr,ts[argBest (fun i j=>lexLt (nss.getD i []) (nss.getD j [])) (ts.length - 1)]? = some t→Q (.ref t) H):=by
 intro pins s σ H xs us Q I r h
 obtain ⟨a,ts,nss,rfl,e,h0,hl,ht,q⟩:=h
 obtain ⟨u,rfl,r1⟩:=zc4 r
 obtain rfl:u=Value.ref a:=r1
 obtain ⟨its,rv,pl,hz⟩:=I.list (SqL.of e)
 have ei:its=ts.map Value.ref:=by
  clear pl hz e ht q h0 hl
  induction ts generalizing its with
  | nil=>cases rv;rfl
  | cons t r ih =>
   cases rv with
   | cons h1 h2=>rw [ih _ h2,show _=Value.ref t from h1];rfl
 have hlen:its.toArray.size=ts.length:=by rw [List.size_toArray,ei,List.length_map]
 refine zfh (items:=its.toArray) (nss:=fun i=>nss.getD i []) (I.ok.hd hc) hu pl.isList (fun i v hv=>?_) (by omega) fun v h' tk hv kp=>?_
 ·have hv':its[i]? = some v:=by simpa using hv
  rw [ei,List.getElem?_map] at hv'
  obtain ⟨t,h1,rfl⟩:=Option.map_eq_some_iff.mp hv'
  have hi:i<nss.length:=by rw [← hl];exact (List.getElem?_eq_some_iff.mp h1).1
  have h2:nss[i]? = some (nss.getD i []):=by rw [List.getElem?_eq_getElem hi];simp [hi]
  obtain ⟨its2,r2,p2,_⟩:=I.tuple (SqT.of (ht i t _ h1 h2))
  exact ⟨t,_,rfl,p2,zeB r2⟩
 ·rw [hlen] at hv
  have hv':its[argBest (fun i j=>lexLt (nss.getD i []) (nss.getD j [])) (ts.length - 1)]? = some v:=by simpa using hv
  rw [ei,List.getElem?_map] at hv'
  obtain ⟨t,h1,rfl⟩:=Option.map_eq_some_iff.mp hv'
  exact ⟨.ref t,H,I.kept kp,rfl,q t h1⟩
end
end L2
end
section
set_option Elab.async false
set_option linter.all false
set_option maxRecDepth 100000
set_option maxHeartbeats 4000000
namespace L2
open PySem PySem.Spec PyProof.Rows
section
variable {prog:Program} {w:World} {A:Around} {E:Value→Shared→Prop} {s:Shared}
end
end L2
end
section
set_option Elab.async false
set_option linter.all false
set_option maxRecDepth 100000
set_option maxHeartbeats 4000000
namespace L2
open PySem PySem.Spec PyProof.Rows PySem.SeqAt
section
variable {X:Cx} {tg:Expr}
end
end L2
end
section
set_option Elab.async false
set_option linter.all false
set_option maxRecDepth 100000
set_option maxHeartbeats 4000000
namespace L2
open PySem PySem.Spec PyProof.Rows PySem.SeqAt
section
variable {X:Cx} {K:PySem.W.Frag}
end
end L2
end
section
set_option Elab.async false
set_option linter.all false
set_option maxRecDepth 100000
set_option maxHeartbeats 4000000
namespace L2
open PySem PySem.Spec PyProof.Rows PySem.SeqAt
section
variable {X:Cx}
end
end L2
end
section
set_option Elab.async false
set_option linter.all false
set_option maxRecDepth 100000
set_option maxHeartbeats 4000000
namespace L2
open PySem PySem.Spec PyProof.Rows PySem.SeqAt
end L2
end
section
set_option Elab.async false
set_option linter.all false
set_option maxRecDepth 100000
set_option maxHeartbeats 4000000
namespace L2
open PySem PySem.Spec PyProof.Rows PySem.SeqAt
section
variable {X:Cx} {K:PySem.W.Frag}
end
end L2
end
section
set_option Elab.async false
set_option linter.all false
set_option maxRecDepth 100000
set_option maxHeartbeats 4000000
namespace L2
open PySem PySem.Spec PyProof.Rows
section
variable {X:Cx} {Nc:List Str} {src:List (Option Nat)} {scope:Scope} {elt tg iter:Expr} {ifs:List Expr} {pos:Pos} {wi:TI} {g:TG} {tf:TT} {te:TE}
end
section
variable {X:Cx} {K:PySem.W.Frag} {tg l:Expr} {tl:TE}
end
end L2
end
section
set_option Elab.async false
set_option linter.all false
set_option maxRecDepth 100000
set_option maxHeartbeats 4000000
namespace L2
open PySem PySem.Spec PyProof.Rows HT
section
variable {X:Cx} {o e:Expr} {es:List Expr} {to:TE} {t:TA} {T:String} {id:String} {name:Str} {apos cpos:Pos} {r:V→List V→Hp→VK→Prop}
end
end L2
end
section
set_option Elab.async false
set_option linter.all false
set_option maxRecDepth 100000
set_option maxHeartbeats 4000000
namespace L2
open PySem PySem.Spec PyProof.Rows HT
section
variable {X:Cx} {CX:CXT} {k:Nat} {f C:Addr} {fd:FuncData} {ps ks:List Str} {sp:Sp} {E:St→XK} {x m:Str} {p pos apos:Pos} {e o:Expr} {es:List Expr} {kws:List Keyword} {ta:TE} {t tk:TA} {g:List Value→List Value→List Value} {gV:List V→List V→List V}
end
section
variable {X:Cx} {k:Nat} {C:Addr} {ks:List Str} {gV:List V→List V→List V} {sp:Sp} {E:St→XK} {x:Str} {p pos:Pos} {e:Expr} {es:List Expr} {kws:List Keyword} {t tk:TA}
end
section
variable {X:Cx} {k:Nat} {C:Addr} {ks:List Str} {E:St→XK} {x m:Str} {p pos apos:Pos} {e o:Expr} {es:List Expr} {kws:List Keyword} {ta:TE} {t tk:TA}
end
section
variable {X:Cx} {pins pins2:List (Addr×Obj)} {σ:St} {H:Hp} {s:Shared} {E:St→XK}
end
section
variable {X:Cx} {cn n:Str} {j:Nat} {Cb:Addr} {body hbody:List Stmt} {b₀:Stmt} {tb:(St→XK)→TS} {th:TS} {p4 p8 p9:Pos}
end
end L2
end
section
set_option Elab.async false
set_option linter.all false
set_option maxRecDepth 100000
set_option maxHeartbeats 4000000
namespace L2
open PySem PySem.Spec PyProof.Rows HT
section
variable {X:Cx} {e v:Expr} {es:List Expr} {pos p2:Pos} {ta:TE} {t:TJ}
end
end L2
end
section
set_option Elab.async false
set_option linter.all false
set_option maxRecDepth 100000
set_option maxHeartbeats 4000000
namespace L2
open PySem PySem.Spec PyProof.Rows HT
section
variable {prog:Program} {w:World} {A:Around} {E:Value→Shared→Prop} {h:Heap} {g:Array GenState} {d:Drawn} {t:Nat} {os:OsState}
variable {nm q:Str} {C N:Addr} {bs bm:List Value} {hdct:Bool} {sn:List Str} {sub:List Value} {ab:Bool} {col:Option Bool} {dd:Option Addr} {k0 k1 k2 k3 k5:Option Value} {mN:Str→Option Value} {rest:List Value} {fI:Addr} {oI:Obj}
end
section
variable {M:Model} {A:Around} {E:Value→Shared→Prop} {s:Shared} {env:Env}
variable {nm q:Str} {C N:Addr} {bs bm:List Value} {hdct:Bool} {sn:List Str} {sub:List Value} {ab:Bool} {col:Option Bool} {dd:Option Addr} {k0 k1 k2 k3 k5:Option Value}
end
section
variable {prog:Program} {w:World} {A:Around} {E:Value→Shared→Prop} {s:Shared} {env:Env}
variable {nm q:Str} {C N:Addr} {bs bm:List Value} {hdct:Bool} {sn:List Str} {sub:List Value} {ab:Bool} {col:Option Bool} {dd:Option Addr} {k0 k1 k2 k3 k5:Option Value} {mN:Str→Option Value} {fI:Addr} {oI:Obj}
end
end L2
end
section
set_option Elab.async false
set_option linter.all false
set_option maxRecDepth 100000
set_option maxHeartbeats 4000000
namespace L2
open PySem PySem.Spec PyProof.Rows HT
end L2
end
section
set_option Elab.async false
set_option linter.all false
set_option maxRecDepth 100000
set_option maxHeartbeats 4000000
namespace L2
open PySem PySem.Spec PyProof.Rows HT PySem.W PySem.Calls PySem.NumText
end L2
end
section
set_option Elab.async false
set_option linter.all false
set_option maxRecDepth 100000
set_option maxHeartbeats 4000000
namespace L2
open PySem PySem.Spec PyProof.Rows HT
end L2
end
section
set_option Elab.async false
set_option linter.all false
set_option maxRecDepth 100000
set_option maxHeartbeats 4000000
namespace L2
open PySem PySem.Spec PyProof.Rows HT
section
variable {X:Cx} {x:Str} {p pos:Pos} {e:Expr} {es:List Expr} {tv:TE} {t:TA}
end
end L2
end
section
set_option Elab.async false
set_option linter.all false
set_option maxRecDepth 100000
set_option maxHeartbeats 4000000
namespace L2
open PySem PySem.Spec PyProof.Rows HT PySem.W PySem.Calls
end L2
end
section
set_option Elab.async false
set_option linter.all false
set_option maxRecDepth 100000
set_option maxHeartbeats 4000000
namespace L2
open PySem PySem.Spec PyProof.Rows HT
section
variable {X:Cx} {x:Str} {a:Addr} {e:Expr} {p apos cpos:Pos} {ty:TE} {kvs:List (Key×V)}
end
end L2
end
section
set_option Elab.async false
set_option linter.all false
set_option maxRecDepth 100000
set_option maxHeartbeats 4000000
namespace L2
open PySem PySem.Spec PyProof.Rows HT
end L2
end
section
set_option Elab.async false
set_option linter.all false
set_option maxRecDepth 100000
set_option maxHeartbeats 4000000
namespace L2
open PySem PySem.Spec PyProof.Rows PySem.SeqAt
section
variable {X:Cx} {K:PySem.W.Frag}
end
end L2
end
section
set_option Elab.async false
set_option linter.all false
set_option maxRecDepth 100000
set_option maxHeartbeats 4000000
namespace L2
open PySem PySem.Spec PyProof.Rows
section
variable {X:Cx}
end
end L2
end
section
set_option Elab.async false
set_option linter.all false
set_option maxRecDepth 100000
set_option maxHeartbeats 4000000
namespace L2
open PySem PySem.Spec PyProof.Rows Builtin
section
variable {prog:Program} {w:World} {A:Around} {E:Value→Shared→Prop} {s:Shared} {K:PySem.W.Frag} {x y C D f:Addr} {ox oy:Obj} {od oe:Option Obj}
end
section
variable {X:Cx}
end
end L2
end
section
set_option Elab.async false
set_option linter.all false
set_option maxRecDepth 100000
set_option maxHeartbeats 4000000
namespace L2
open PySem PySem.Spec PyProof.Rows
section
variable {prog:Program} {w:World} {A:Around} {E:Value→Shared→Prop} {s:Shared}
end
end L2
end
section
set_option Elab.async false
set_option linter.all false
set_option maxRecDepth 100000
set_option maxHeartbeats 4000000
namespace L2
open PySem PySem.Spec PyProof.Rows
structure Tab (L:Bool) (t:SetTable) (n:Nat):Prop where
 fits:t.fits n=true
 ris:t.place.toList.Pairwise (· < ·)
 led:t.led=L
theorem zlZ {xs:Array Nat} {i j:Nat} (h:i<xs.size):xs.getD i j=xs.toList[i]'(by simpa using h):=by
 rw [Array.getD_eq_getD_getElem?,Array.getElem?_eq_getElem h];simp
theorem zj7 {l:List Nat} (h:l.Pairwise (· < ·)) {i k:Nat} (hk:k<l.length) (hik:i<k):l[i]'(by omega)<l[k]:=(List.pairwise_iff_getElem.mp h) i k (by omega) hk hik
theorem zfk {xs:Array Nat} {j:Nat} (hr:xs.toList.Pairwise (· < ·)):∀ (fuel lo hi:Nat),hi≤xs.size→lo≤hi→hi - lo≤fuel→(∀ i (h:i<xs.toList.length),i<lo→xs.toList[i]<j)→(∀ i (h:i<xs.toList.length),hi≤i→j≤xs.toList[i]) →
  SetTable.below.go xs j fuel lo hi≤xs.size∧(∀ i (h:i<xs.toList.length),i<SetTable.below.go xs j fuel lo hi→xs.toList[i]<j)∧∀ i (h:i<xs.toList.length),SetTable.below.go xs j fuel lo hi≤i→j≤xs.toList[i]
 | 0,lo,hi,h1,h2,h3,a,b=>by
  obtain rfl:lo=hi:=by omega
  exact ⟨h1,a,b⟩
 | fuel+1,lo,hi,h1,h2,h3,a,b=>by
  unfold SetTable.below.go
  by_cases hlt:lo<hi
  ·rw [if_pos hlt]
   have hm:(lo+hi) / 2<xs.size:=by omega
   have hml:(lo+hi) / 2<xs.toList.length:=by simpa using hm
   dsimp only
   rw [zlZ hm]
   by_cases hc:xs.toList[(lo+hi) / 2]<j
   ·rw [if_pos hc]
    refine zfk hr fuel _ hi h1 (by omega) (by omega) (fun i h hi'=>?_) b
    rcases (show i<(lo+hi) / 2∨i=(lo+hi) / 2 by omega) with e | e
    ·exact Nat.lt_trans (zj7 hr hml e) hc
    ·subst e;exact hc
   ·rw [if_neg hc]
    refine zfk hr fuel lo _ (by omega) (by omega) (by omega) a (fun i h hi'=>?_)
    rcases (show (lo+hi) / 2<i∨i=(lo+hi) / 2 by omega) with e | e
    ·exact Nat.le_of_lt (Nat.lt_of_le_of_lt (Nat.not_lt.mp hc) (zj7 hr h e))
    ·subst e;exact Nat.not_lt.mp hc
  ·rw [if_neg hlt]
   obtain rfl:lo=hi:=by omega
   exact ⟨h1,a,b⟩
theorem zdt {xs:Array Nat} {j:Nat} (hr:xs.toList.Pairwise (· < ·)):SetTable.below xs j≤xs.size∧(∀ i (h:i<xs.toList.length),i<SetTable.below xs j→xs.toList[i]<j)∧∀ i (h:i<xs.toList.length),SetTable.below xs j≤i→j≤xs.toList[i]:=
 zfk hr xs.size 0 xs.size (Nat.le_refl _) (Nat.zero_le _) (Nat.le_refl _) (fun i h z=>absurd z (Nat.not_lt_zero _)) fun i h z=>absurd (show i<xs.size by simpa using h) (Nat.not_lt.mpr z)
theorem zkL {xs:Array Nat} (hr:xs.toList.Pairwise (· < ·)) {i:Nat} (h:i<xs.size):SetTable.below xs xs[i]=i:=by
 obtain ⟨b1,b2,b3⟩:=zdt (j:=xs[i]) hr
 have hl:i<xs.toList.length:=by simpa using h
 have e:xs.toList[i]=xs[i]:=by simp
 rcases Nat.lt_trichotomy (SetTable.below xs xs[i]) i with z | z | z
 ·have h2:SetTable.below xs xs[i]<xs.toList.length:=by omega
  have q1:=b3 _ h2 (Nat.le_refl _)
  have q2:=zj7 hr hl z
  rw [e] at q2
  exact absurd q1 (Nat.not_le.mpr q2)
 ·exact z
 ·have q1:=b2 i hl z
  rw [e] at q1
  exact absurd q1 (Nat.lt_irrefl _)
theorem zh6 {xs:Array Nat} (hr:xs.toList.Pairwise (· < ·)) {i:Nat} (h:i<xs.size):SetTable.below xs (xs[i]+1)=i+1:=by
 obtain ⟨b1,b2,b3⟩:=zdt (j:=xs[i]+1) hr
 have hl:i<xs.toList.length:=by simpa using h
 have e:xs.toList[i]=xs[i]:=by simp
 rcases Nat.lt_trichotomy (SetTable.below xs (xs[i]+1)) (i+1) with z | z | z
 ·have q1:=b3 i hl (by omega)
  rw [e] at q1;omega
 ·exact z
 ·have hls:xs.toList.length=xs.size:=by simp
  have h2:i+1<xs.toList.length:=by omega
  have q1:=b2 (i+1) h2 z
  have q2:=zj7 hr h2 (Nat.lt_succ_self i)
  rw [e] at q2;omega
theorem zh5 {xs:Array Nat} (hr:xs.toList.Pairwise (· < ·)):SetTable.below xs 0=0:=by
 obtain ⟨b1,b2,b3⟩:=zdt (j:=0) hr
 rcases Nat.eq_zero_or_pos (SetTable.below xs 0) with z | z
 ·exact z
 ·have hls:xs.toList.length=xs.size:=by simp
  have h2:0<xs.toList.length:=by omega
  exact absurd (b2 0 h2 z) (Nat.not_lt_zero _)
theorem zk4 {t:SetTable} (hr:t.place.toList.Pairwise (· < ·)) {j:Nat} (h:∀ i,t.slot j≠.live i):j ∉ t.place.toList:=fun hm=>by
 obtain ⟨i,hi,e⟩:=List.getElem_of_mem hm
 have hi':i<t.place.size:=by simpa using hi
 have e':t.place[i]=j:=by simpa using e
 refine h (SetTable.below t.place j) ?_
 unfold SetTable.slot
 dsimp only
 rw [if_pos]
 rw [← e',zkL hr hi',Array.getElem?_eq_getElem hi',beq_self_eq_true]
theorem zcV {t:SetTable} {hs:Nat→Int} {h:Int}:∀ (fuel:Nat) (p:SetTable.Probe) (j:Nat) (d:Option Nat),(∀ x,p.dummy=some x→∀ i,t.slot x≠.live i)→SetTable.probe.go t hs h fuel p=some (.empty j d)→(∀ i,t.slot j≠.live i)∧∀ x,d=some x→∀ i,t.slot x≠.live i
 | 0,p,j,d,_,e=>by cases e
 | fuel+1,p,j,d,hd,e=>by
  have adv:∀ q:SetTable.Probe,(t.advance q).dummy=q.dummy:=fun q=>by unfold SetTable.advance;split <;> rfl
  unfold SetTable.probe.go at e
  cases hq:t.slot p.j with
  | empty =>
   rw [hq] at e
   have e:=Option.some.inj e
   injection e with e1 e2
   subst e1 e2
   exact ⟨fun i z=>(by rw [hq] at z;cases z),hd⟩
  | dummy =>
   rw [hq] at e
   refine zcV fuel _ j d (fun x hx i z=>?_) e
   rw [adv] at hx
   have hx:p.j=x:=Option.some.inj hx
   subst hx
   rw [hq] at z;cases z
  | live i =>
   rw [hq] at e
   dsimp only at e
   split at e
   ·cases e
   ·exact zcV fuel _ j d (fun x hx=>hd x (by rw [adv] at hx;exact hx)) e
theorem zfS {t:SetTable} (hr:t.place.toList.Pairwise (· < ·)) {h:Int} {j:Nat} {b:Bool} (e:t.freeSlot h=some (j,b)):j ∉ t.place.toList:=by
 unfold SetTable.freeSlot at e
 split at e
 ·rename_i j' d hp
  have e:=Option.some.inj e
  injection e with e1 _
  obtain ⟨a1,a2⟩:=zcV _ _ _ _ (fun x hx=>by cases hx) hp
  cases d with
  | none=>rw [← e1];exact zk4 hr a1
  | some x=>rw [← e1];exact zk4 hr (a2 x rfl)
 ·cases e
theorem zhX {xs:Array Nat} (hr:xs.toList.Pairwise (· < ·)) {j:Nat} (hj:j ∉ xs.toList):(SetTable.insertAt xs (SetTable.below xs j) j).toList.Pairwise (· < ·):=by
 obtain ⟨b1,b2,b3⟩:=zdt (j:=j) hr
 rw [SetTable.toList_insertAt,List.pairwise_append]
 refine ⟨hr.sublist (List.take_sublist _ _),List.pairwise_cons.mpr ⟨fun x hx=>?_,hr.sublist (List.drop_sublist _ _)⟩,fun x hx y hy=>?_⟩
 ·obtain ⟨i,hi,rfl⟩:=List.getElem_of_mem hx
  rw [List.getElem_drop]
  rw [List.length_drop] at hi
  have q:=b3 (SetTable.below xs j+i) (by omega) (by omega)
  exact Nat.lt_of_le_of_ne q fun z=>hj (by rw [z];exact List.getElem_mem _)
 ·obtain ⟨i,hi,rfl⟩:=List.getElem_of_mem hx
  rw [List.getElem_take]
  rw [List.length_take] at hi
  have q:=b2 i (by omega) (by omega)
  rcases List.mem_cons.mp hy with rfl | hy
  ·exact q
  ·obtain ⟨k,hk,rfl⟩:=List.getElem_of_mem hy
   rw [List.getElem_drop]
   rw [List.length_drop] at hk
   exact Nat.lt_of_lt_of_le q (b3 _ (by omega) (by omega))
theorem zbp (n:Nat):(Array.range n).toList.Pairwise (· < ·):=by
 rw [Array.toList_range]
 exact List.pairwise_lt_range
theorem or_tab {L:Bool} {t:SetTable} (hr:t.place.toList.Pairwise (· < ·)) (hl:t.led=L) (n:Nat):(t.orStandIn n).place.toList.Pairwise (· < ·)∧(t.orStandIn n).led=L:=by
 unfold SetTable.orStandIn
 by_cases h:t.fits n=true
 ·rw [if_pos h];exact ⟨hr,hl⟩
 ·rw [if_neg h];exact ⟨zbp n,hl⟩
theorem zhV {L:Bool} {t:SetTable} {es:Array (Int×Value)} (T:Tab L t es.size) (h:Int) (x:Value):Tab L (layNew t es h x).2.1 (layNew t es h x).1.size:=by
 have ft:=layNew_fits t es h x
 have q:(layNew t es h x).2.1.place.toList.Pairwise (· < ·)∧(layNew t es h x).2.1.led=L:=by
  unfold layNew
  split
  ·rename_i j b e
   exact or_tab (t:=(t.put j).1) (zhX T.ris (zfS T.ris e)) T.led _
  ·exact ⟨zbp _,T.led⟩
 exact ⟨ft,q.1,q.2⟩
theorem zef {mask finger moves:Nat} {led plain:Bool} {hashes:Array Int} {t:SetTable} {o:Array Nat} (e:SetTable.laid mask finger moves led plain hashes=some (t,o)):t.place.toList.Pairwise (· < ·)∧t.led=led:=by
 unfold SetTable.laid at e
 obtain ⟨owner,_,e⟩:=Option.bind_eq_some_iff.mp e
 have e:=Option.some.inj e
 injection e with e1 _
 subst e1
 refine ⟨?_,rfl⟩
 show ((((List.range (mask+1)).filterMap fun j=>(owner.getD j none).map (j,·)).map (·.1)).toArray).toList.Pairwise (· < ·)
 rw [List.map_filterMap,List.toList_toArray]
 refine List.Pairwise.filterMap _ (R:=(· < ·)) (S:=(· < ·)) (fun a a' hl b hb b' hb'=>?_) List.pairwise_lt_range
 ·cases h1:owner.getD a none with
  | none=>rw [h1] at hb;cases hb
  | some u =>
   rw [h1] at hb
   cases h2:owner.getD a' none with
   | none=>rw [h2] at hb';cases hb'
   | some v =>
    rw [h2] at hb'
    have q1:a=b:=Option.some.inj hb
    have q2:a'=b':=Option.some.inj hb'
    omega
theorem ziG {L:Bool} {t:SetTable} {es:Array (Int×Value)} (T:t.led=L) (n:Nat):Tab L (relayAll t es n).2.1 (relayAll t es n).1.size:=by
 refine ⟨relayAll_fits t es n,?_,?_⟩
 ·unfold relayAll
  split
  ·rename_i t' o e
   dsimp only
   split
   ·exact (zef e).1
   ·exact zbp _
  ·exact zbp _
 ·unfold relayAll
  split
  ·rename_i t' o e
   dsimp only
   split
   ·exact (zef e).2.trans T
   ·exact T
  ·exact T
end L2
end
section
set_option Elab.async false
set_option linter.all false
set_option maxRecDepth 100000
set_option maxHeartbeats 4000000
namespace L2
open PySem PySem.Spec PyProof.Rows
def sObj (es:Array (Int×Value)) (ep:Nat) (t:SetTable):Obj:={ cls:=.type "set",data:=.set es ep t }
def EOk (e:Int×Value):Prop:=∃ (n:Int) (t:Tok),e=(hashInt n,.int n t)
def eInt (e:Int×Value):Int:=match e.2 with
 | .int n _=>n
 | _=>0
def zjl (l:List (Int×Value)):List Int:=l.map eInt
def SetI (L:Bool) (h:Heap) (a:Addr) (S:List Int):Prop:=∃ es ep t,h.get? a=some (sObj es ep t)∧(∀ e∈es.toList,EOk e)∧(zjl es.toList).Perm S∧S.Nodup∧Tab L t es.size
theorem SetI.at {L:Bool} {h h':Heap} {a:Addr} {S:List Int} (x:SetI L h a S) (e:∀ o,h.get? a=some o→h'.get? a=some o):SetI L h' a S:=by
 obtain ⟨es,ep,t,g,r⟩:=x
 exact ⟨es,ep,t,e _ g,r⟩
theorem zjk {prog:Program} {w:World} {l:List (Int×Value)} (h:∀ e∈l,EOk e):ElemsOf (intKind prog w) l:=fun e he=>by
 obtain ⟨n,t,rfl⟩:=h e he
 exact ⟨⟨n,intKind_is _ _ _ _,rfl⟩,rfl⟩
theorem zk8 {prog:Program} {w:World} {e:Int×Value} (h:EOk e) (n:Int):(intKind prog w).is n e.2=decide (n=eInt e):=by
 obtain ⟨m,t,rfl⟩:=h
 show Value.isInt n (.int m t)=decide (n=m)
 unfold Value.isInt
 by_cases e:n=m
 ·subst e;simp
 ·rw [decide_eq_false e];simpa using fun z=>e z.symm
section
variable {prog:Program} {w:World} {A:Around} {E:Value→Shared→Prop} {s:Shared}
theorem zkY {h:Heap} {a:Addr} {es es':Array (Int×Value)} {ep:Nat} {t t':SetTable} (g:h.get? a=some (sObj es ep t)):(h.update a (Obj.putSet es' t')).get? a=some (sObj es' (ep+1) t'):=by
 have e:=putSet_of es' t' (show (sObj es ep t).data = .set es ep t from rfl)
 have:=Heap.get?_update_self (Obj.putSet es' t') g (by rw [e];rfl)
 rw [e] at this;exact this
theorem zhx {L:Bool} {g:Bool→Sem Unit} (hg:∀ (b:Bool) (s₁:Shared) (Q':Unit→Shared→Prop),Q' () s₁→wpAny (model prog w) A (g b) Q' E s₁) {a:Addr} {es es1:Array (Int×Value)} {ep:Nat} {t t2:SetTable} (ho:s.heap.get? a=some (sObj es ep t))
  (hz:es1.size<scanBound) (T2:Tab L t2 es1.size) {wd:Bool} {R:Option Bool→Shared→Prop}
  (h:∀ h' es' ep' t',Heap.SameBut a s.heap h'→h'.get? a=some (sObj es' ep' t')→es'.toList.Perm es1.toList→Tab L t' es'.size→R (some true) { s with heap:=h' }) :
  wpAny (model prog w) A (do
   storeSet a es1 t2
   if (!wd && t2.tooFull)=true then do
    g (relayAll t2 es1 (SetTable.grown es1.size)).2.2
    storeSet a (relayAll t2 es1 (SetTable.grown es1.size)).1 (relayAll t2 es1 (SetTable.grown es1.size)).2.1
    pure (some true)
   else pure (some true)) R E s:=by
 refine wpAny_bind (wpAny_storeSet_of ho rfl ?_ (fits_of_scanBound hz))
 have g1:=zkY (es':=es1) (t':=t2) ho
 have b1:=Heap.SameBut.update s.heap a (Obj.putSet es1 t2)
 split
 ·have pm:=relayAll_perm t2 es1 (SetTable.grown es1.size)
  have T3:=ziG (es:=es1) T2.led (SetTable.grown es1.size)
  generalize relayAll t2 es1 (SetTable.grown es1.size)=Y at pm T3 ⊢
  obtain ⟨es2,t3,gv⟩:=Y
  have sz:es2.size=es1.size:=by rw [← Array.length_toList,pm.length_eq,Array.length_toList]
  refine wpAny_bind (hg _ _ _ (wpAny_bind (wpAny_storeSet_of g1 rfl ?_ (fits_of_scanBound (by rw [sz];exact hz)))))
  exact wpAny_pure (h _ es2 _ t3 (b1.trans (Heap.SameBut.update _ a _)) (zkY g1) pm T3)
 ·exact wpAny_pure (h _ es1 _ t2 b1 g1 .rfl T2)
theorem zlw {L:Bool} {a:Addr} {S:List Int} {n:Int} {tok:Tok} {Q:Value→Shared→Prop} (hS:SetI L s.heap a S) (hz:S.length<1000)
  (h:∀ h',Heap.SameBut a s.heap h'→SetI L h' a (if n∈S then S else S ++ [n])→Q .none { s with heap:=h',toks:=s.toks+1 }) :
  wpAny (model prog w) A (call (.builtin "set.add") [.ref a,.int n tok]) Q E s:=by
 obtain ⟨es,ep,t,ho,hE,hP,hN,T⟩:=hS
 have hel:=zjk (prog:=prog) (w:=w) hE
 have hsz:es.size=S.length:=by rw [← Array.length_toList,← hP.length_eq];unfold zjl;rw [List.length_map]
 have hb:es.size<scanBound:=Nat.lt_trans (show es.size<1000 by omega) (by decide)
 have hk:(intKind prog w).is n (.int n tok)=true:=intKind_is _ _ _ _
 have hsc:(Value.int n tok).scannable=true:=rfl
 refine wpAny_call_entry F.slot_set_add (show s.TypeIs (.ref a) "set" from ⟨_,ho,rfl⟩) F.entry_set_add ?_ (F.args_set_add_2 _ _)
 unfold Builtin.«set.add» Builtin.Frozenset.oneOther;simp only [List.isEmpty_nil,bind_assoc]
 unfold Builtin.Frozenset.addrOf setAdd;refine wpAny_bind (wpAny_pure ?_)
 try dsimp only
 refine wpAny_bind (wpAny_pure (wpAny_bind (wpAny_holding (wpAny_bind ((intKind prog w).pyHash hk ?_)))))
 generalize hs1:({ s with toks:=s.toks+1 }:Shared)=s1
 have ho1:s1.heap.get? a=some (sObj es ep t):=by rw [← hs1];exact ho
 have fin:∀ (b:Bool) h',Heap.SameBut a s.heap h'→SetI L h' a (if n∈S then S else S ++ [n])→(fun (_:Bool) s'=>wpAny (model prog w) A.in1 (ret Value.none) (fun fin s'=>∃ v,fin = .done (.ret v)∧Q v s') E s') b { s1 with heap:=h' }:=fun b h' hb' x=>by
  have:=h h' hb' x
  rw [← hs1]
  exact wpAny_pure ⟨_,rfl,this⟩
 show wpAny (model prog w) A.in1 (setAddHashed a (.int n tok) ((intKind prog w).hash n)) (fun _ s'=>wpAny (model prog w) A.in1 (ret Value.none) (fun fin s'=>∃ v,fin = .done (.ret v)∧Q v s') E s') E s1
 unfold setAddHashed setAddHashedIn;refine wpAny_holding (wpAny_bind (wpAny_setState_of ho1 rfl T.fits ?_))
 dsimp only
 rw [byScan_of hsc hb hel,if_pos rfl]
 unfold setAddByScan;refine wpAny_bind (wpAny_bind (wpAny_rule (wpAny_bind (wpAny_setScan_of hk ho1 rfl T.fits hel ?_))))
 have s1h:s1.heap=s.heap:=by rw [← hs1]
 have mem:n∈S↔∃ e∈es.toList,(intKind prog w).is n e.2=true:=by
  rw [← hP.mem_iff]
  constructor
  ·intro hm
   obtain ⟨e,he,z⟩:=List.mem_map.mp hm
   exact ⟨e,he,by rw [zk8 (hE e he)];exact decide_eq_true z.symm⟩
  ·rintro ⟨e,he,z⟩
   rw [zk8 (hE e he)] at z
   rw [of_decide_eq_true z]
   exact List.mem_map.mpr ⟨e,he,rfl⟩
 cases hr:List.findIdx? (fun e=>(intKind prog w).is n e.2) es.toList with
 | some j =>
  obtain ⟨hj,pj,_⟩:=List.findIdx?_eq_some_iff_getElem.mp hr
  have hm:n∈S:=mem.mpr ⟨_,List.getElem_mem hj,pj⟩
  refine wpAny_pure (wpAny_pure ?_)
  have:=fin false s.heap (Heap.SameBut.refl a s.heap) (by rw [if_pos hm];exact ⟨es,ep,t,ho,hE,hP,hN,T⟩)
  rw [← hs1] at this ⊢
  exact this
 | none =>
  have hm:n ∉ S:=fun z=>by
   obtain ⟨e,he,p⟩:=mem.mp z
   have:=List.findIdx?_eq_none_iff.mp hr e he
   rw [p] at this;cases this
  rw [if_neg hm] at fin
  have pm:=layNew_perm t es ((intKind prog w).hash n) (.int n tok)
  have T1:=zhV T ((intKind prog w).hash n) (.int n tok)
  generalize layNew t es ((intKind prog w).hash n) (.int n tok)=Y at pm T1 ⊢
  obtain ⟨es1,t1,wd,gv⟩:=Y
  dsimp only at pm T1 ⊢
  rw [Array.toList_push] at pm
  have sz1:es1.size=es.size+1:=by rw [← Array.length_toList,pm.length_eq,List.length_append,Array.length_toList];rfl
  have hz1:es1.size<scanBound:=Nat.lt_trans (show es1.size<1001 by omega) (by decide)
  have last:∀ h' es' ep' t',Heap.SameBut a s1.heap h'→h'.get? a=some (sObj es' ep' t')→es'.toList.Perm es1.toList→Tab L t' es'.size→SetI L h' a (S ++ [n]):=fun h' es' ep' t' hb' g' p' T'=>by
   have p2:=p'.trans pm
   refine ⟨es',ep',t',g',fun e he=>?_,?_,?_,T'⟩
   ·rcases List.mem_append.mp (p2.mem_iff.mp he) with z | z
    ·exact hE e z
    ·rw [List.mem_singleton.mp z];exact ⟨n,tok,rfl⟩
   ·have q:=p2.map eInt
    rw [List.map_append] at q
    exact q.trans (hP.append_right _)
   ·exact List.nodup_append.mpr ⟨hN,List.nodup_cons.mpr ⟨(fun z=>nomatch z),List.nodup_nil⟩,fun x hx y hy z=>hm (by rw [← List.mem_singleton.mp hy,← z];exact hx)⟩
  refine wpAny_bind (m:=(match gv with | true=>rule "set.scan.the-table-gave-way" | false=>pure ())) ?_
  have hgw:∀ (b:Bool) (s₁:Shared) (Q':Unit→Shared→Prop),Q' () s₁→wpAny (model prog w) A.in1 (match b with | true=>rule "set.scan.the-table-gave-way" | false=>pure ()) Q' E s₁:=fun b s₁ Q' q=>by
   cases b
   ·exact wpAny_pure q
   ·exact wpAny_rule q
  refine hgw gv _ _ ?_
  have off:Tab L { t1 with plain:=false } es1.size:=⟨SetTable.fits_plain_off T1.fits,T1.ris,T1.led⟩
  split
  ·refine wpAny_bind ?_
   rw [hashByValue_scannable 8 hsc]
   refine wpAny_pure (zhx (L:=L) hgw ho1 hz1 ?_ fun h' es' ep' t' hb' g' p' T'=>wpAny_pure (fin true h' (by rw [← s1h];exact hb') (last h' es' ep' t' hb' g' p' T')))
   split
   ·exact T1
   ·exact off
  ·refine wpAny_bind (wpAny_pure ?_)
   rw [if_pos rfl]
   exact zhx (L:=L) hgw ho1 hz1 T1 fun h' es' ep' t' hb' g' p' T'=>wpAny_pure (fin true h' (by rw [← s1h];exact hb') (last h' es' ep' t' hb' g' p' T'))
end
end L2
end
section
set_option Elab.async false
set_option linter.all false
set_option maxRecDepth 100000
set_option maxHeartbeats 4000000
namespace L2
open PySem PySem.Spec PyProof.Rows
theorem slot_si_next:Slot "set_iterator" "__next__" "set_iterator.__next__" :=
 .of (owner := "set_iterator") (n := "__next__") (by rw [typeLookup_type,builtinLookup_eq_fast];kernel_rfl) (by decide +kernel) (by decide +kernel) (by decide +kernel) (by first | exact .inl (by decide +kernel) | exact .inr (by decide +kernel)) (by rw [isSubtype_type];kernel_rfl)
theorem zcD:entryFor table "set_iterator.__next__" = some Builtin.«set_iterator.__next__»:=entryFor_of_tree (by kernel_rfl)
theorem zhg:Manifest.owners.lookup (String.ofList ['r','o','t','a','r','e','t','i','_','t','e','s'].reverse)=some Manifest.sig_set_iterator:=by kernel_rfl
theorem zc3 (a:Value):argsOk "set_iterator.__next__" ⟨[a],[]⟩:=by
 unfold argsOk;rw [signature?_of (id := "set_iterator.__next__") (n:=['_','_','t','x','e','n','_','_']) (o:=['r','o','t','a','r','e','t','i','_','t','e','s']) (by kernel_rfl) zhg];kernel_rfl
theorem zfV:entryFor table "set.__iter__" = some Builtin.«frozenset.__iter__»:=entryFor_alias (id' := "frozenset.__iter__") (by kernel_rfl) rfl (by decide +kernel) (by kernel_rfl)
theorem zcX {α:Type}:∀ {l:List α} {i:Nat} (h:i<l.length),(l[i] :: l.eraseIdx i).Perm l
 | a :: l,0,h=>.rfl
 | a :: l,i+1,h=>(List.Perm.swap _ _ _).trans ((zcX (l:=l) (i:=i) (by simpa using h)).cons a)
theorem ziN {α:Type} (next:Nat→Nat):∀ (fuel k:Nat) (left:List α) (out:Array α),left.length=fuel→(pickOrder.go next fuel k left out).toList.Perm (out.toList ++ left)
 | 0,k,left,out,h=>by rw [List.eq_nil_of_length_eq_zero h,List.append_nil];exact .rfl
 | fuel+1,k,left,out,h=>by
  have hl:next k % left.length<left.length:=Nat.mod_lt _ (by omega)
  unfold pickOrder.go
  rw [List.getElem?_eq_getElem hl]
  dsimp only
  refine (ziN next fuel (k+1) _ _ (by rw [List.length_eraseIdx_of_lt hl];omega)).trans ?_
  rw [Array.toList_push,List.append_assoc]
  exact (List.Perm.refl _).append (zcX hl)
theorem ziM {α:Type} (next:Nat→Nat) (xs:Array α):(pickOrder next xs).toList.Perm xs.toList:=by
 have:=ziN next xs.size 0 xs.toList #[] (by simp)
 simpa [pickOrder] using this
section
variable {prog:Program} {w:World} {A:Around} {E:Value→Shared→Prop} {s:Shared}
theorem zh7 {src:Source} {n:Nat} {Q:Nat→Shared→Prop} (hn:n≠0) (h:∀ i d,i<n→Q i { s with drawn:=d }):wpAny (model prog w) A (choose src n) Q E s:=fun Γ p _ =>
 ⟨hn,h _ _ (Nat.mod_lt _ (Nat.pos_of_ne_zero hn))⟩
theorem zeE {α:Type}:∀ (n:Nat) (xs:List α) (s:Shared) (Q:List α→Shared→Prop),xs.length=n→(∀ ys d,ys.Perm xs→Q ys { s with drawn:=d })→wpAny (model prog w) A (drawOrder n xs) Q E s
 | 0,xs,s,Q,h,q=>by
  unfold drawOrder
  exact wpAny_pure (by have:=q [] s.drawn (by rw [List.eq_nil_of_length_eq_zero h]);exact this)
 | n+1,[],s,Q,h,q=>by cases h
 | n+1,x :: xs,s,Q,h,q=>by
  unfold drawOrder
  refine wpAny_bind (zh7 (by simp) fun i d hi=>?_)
  rw [List.getElem?_eq_getElem hi]
  dsimp only
  refine wpAny_bind (zeE n _ _ _ (by rw [List.length_eraseIdx_of_lt hi];simp at h ⊢;exact h) fun ys d' p=>wpAny_pure (q _ d' ?_))
  exact (List.Perm.cons _ p).trans (zcX hi)
def zh9 (w:World) (a:Addr) (es:Array (Int×Value)) (ep:Nat) (t:SetTable) (vs:List Value) (h:Heap) (i:Nat) (first:Value):Prop:=
 (w.params.followText "set-order" = true∧(∃ k:Nat,first = .int (k:Int) 0)∧vs=(pickOrder (w.params.setOrder a ep) es).toList.map (·.2)) ∨
 (w.params.followText "set-order" = false∧(!t.plain && decide (es.size > 1))=false∧t.led=true∧(∃ k:Nat,first = .int (k:Int) 0∧SetTable.below t.place k=i)∧vs=es.toList.map (·.2)) ∨
 (w.params.followText "set-order" = false∧∃ (T:Addr) (ps:List Nat),first = .ref T∧h.get? T=some { cls:=.type "tuple",data:=.seq (ps.map fun (p:Nat)=>Value.int (p:Int) 0).toArray }∧ps.length=es.size∧(∀ p∈ps,p<es.size)∧vs=ps.map fun p=>((es[p]?).getD (0,.none)).2)
end
end L2
end
section
set_option Elab.async false
set_option linter.all false
set_option maxRecDepth 100000
set_option maxHeartbeats 4000000
namespace L2
open PySem PySem.Spec PyProof.Rows
def siO (first:Value) (i:Int) (a:Value) (n:Int) (ep:Int):Obj:={ cls:=.type "set_iterator",data:=.fields #[first,.int i 0,a,.int n 0,.int ep 0] }
section
variable {prog:Program} {w:World} {A:Around} {E:Value→Shared→Prop} {s:Shared}
theorem zex {h:Heap} {I:Addr} {vs:Array Value} {j:Nat} {x:Value} (hI:h.get? I=some { cls:=.type "set_iterator",data:=.fields vs }):(h.update I (Obj.mapFields (·.setIfInBounds j x))).get? I=some { cls:=.type "set_iterator",data:=.fields (vs.setIfInBounds j x) }:=by
 have:=Heap.get?_update_self (Obj.mapFields (·.setIfInBounds j x)) hI rfl
 exact this
theorem zlt {I a:Addr} {es:Array (Int×Value)} {ep i:Nat} {t:SetTable} {vs:List Value} {first x:Value} {Q:Option Value→Shared→Prop} (hI:s.heap.get? I=some (siO first (i:Int) (.ref a) (es.size:Int) (ep:Int))) (ha:s.heap.get? a=some (sObj es ep t)) (hf:t.fits es.size=true) (hr:t.place.toList.Pairwise (· < ·))
  (m:zh9 w a es ep t vs s.heap i first) (hx:vs[i]? = some x)
  (hq:∀ h' first',Heap.SameBut I s.heap h'→h'.get? I=some (siO first' ((i+1:Nat):Int) (.ref a) (es.size:Int) (ep:Int))→zh9 w a es ep t vs h' (i+1) first'→(∀ T:Addr,first' = .ref T→first = .ref T)→Q (some x) { s with heap:=h' }):wpAny (model prog w) A (pyNext (.ref I)) Q E s:=by
 have hT:s.TypeIs (.ref I) "set_iterator" := ⟨_,hI,rfl⟩
 have ps:t.place.size=es.size:=by
  have:=hf;unfold SetTable.fits at this
  exact beq_iff_eq.mp (Bool.and_eq_true_iff.mp this).1
 unfold pyNext
 refine wpAny_bind (wpAny_attempt (wpAny_callSpecial?_slot (name:=Str.ofString "__next__") hT slot_si_next (wpAny_call_entry slot_si_next hT zcD ?_ (zc3 _))))
 delta Builtin.«set_iterator.__next__»
 refine wpAny_bind (m:=slotArgs "__next__" 0 _) (wpAny_pure ?_)
 dsimp only
 refine wpAny_bind (wpAny_fieldsOf hI rfl ?_)
 show wpAny _ _ (setEntries a >>= _) _ _ s
 refine wpAny_bind (wpAny_setEntries_of ha rfl hf ?_)
 rw [if_neg (by simp)]
 have far:∀ {T:Addr} {o:Obj},s.heap.get? T=some o→o.cls = .type "tuple" → T≠I:=fun {T o} e c z=>by rw [z,hI] at e;cases e;exact absurd (show ("set_iterator" : String) = "tuple" by injection c) (by decide)
 rcases m with ⟨bt,⟨k,rfl⟩,ev⟩ | ⟨bt,dr,led,⟨k,rfl,bk⟩,ev⟩ | ⟨bt,T,pl,rfl,eT,hl,hp,ev⟩
 ·
  show wpAny _ _ (setNext a (k:Int).toNat (i:Int).toNat (ep:Int).toNat >>= _) _ _ s
  rw [Int.toNat_natCast,Int.toNat_natCast,Int.toNat_natCast]
  unfold setNext setsByText setWalk
  refine wpAny_bind (wpAny_bind (wpAny_setState_of ha rfl hf ?_))
  refine wpAny_bind (wpAny_bind (wpAny_askSetting (wpAny_pure ?_)))
  rw [show (model prog w).w.params.followText "set-order" = true from bt,if_pos rfl,show (ep != ep)=false by simp,if_neg Bool.false_ne_true]
  refine wpAny_bind (wpAny_bind (wpAny_setState_of ha rfl hf ?_))
  unfold setsByText
  refine wpAny_bind (wpAny_bind (wpAny_askSetting (wpAny_pure ?_)))
  rw [show (model prog w).w.params.followText "set-order" = true from bt,if_pos rfl]
  refine wpAny_bind (wpAny_askSetting (wpAny_pure (wpAny_pure ?_)))
  have e1:(pickOrder ((model prog w).w.params.setOrder a ep) es)[i]?.map (fun e=>(e.2,k))=some (x,k):=by
   rw [ev,List.getElem?_map,Array.getElem?_toList] at hx
   obtain ⟨e,h1,h2⟩:=Option.map_eq_some_iff.mp hx
   show (pickOrder (w.params.setOrder a ep) es)[i]?.map _=_
   rw [h1,← h2];rfl
  rw [e1]
  refine wpAny_bind (wpAny_setField hI rfl (by simp) ?_)
  have h1:=zex (j:=0) (x:=.int (k:Int) 0) hI
  refine wpAny_bind (wpAny_setField h1 rfl (by simp) ?_)
  have h2:=zex (j:=1) (x:=.int ((i:Int)+1) 0) h1
  refine wpAny_pure ⟨_,rfl,?_⟩
  refine wpAny_pure (hq _ (.int (k:Int) 0) ((Heap.SameBut.update _ _ _).trans (Heap.SameBut.update _ _ _)) h2 (.inl ⟨bt,⟨k,rfl⟩,ev⟩) fun T z=>by cases z)
 ·
  have hi:i<es.size:=by
   have:=(List.getElem?_eq_some_iff.mp hx).1
   rw [ev,List.length_map] at this;simpa using this
  have hip:i<t.place.size:=by omega
  show wpAny _ _ (setNext a (k:Int).toNat (i:Int).toNat (ep:Int).toNat >>= _) _ _ s
  rw [Int.toNat_natCast,Int.toNat_natCast,Int.toNat_natCast]
  unfold setNext setsByText
  refine wpAny_bind (wpAny_bind (wpAny_setState_of ha rfl hf ?_))
  refine wpAny_bind (wpAny_bind (wpAny_askSetting (wpAny_pure ?_)))
  rw [show (model prog w).w.params.followText "set-order" = false from bt,if_neg Bool.false_ne_true]
  rw (transparency:=.default) [if_neg (fun z=>Bool.false_ne_true (dr.symm.trans z))]
  refine wpAny_bind ?_
  show wpAny _ _ (if (!t.led && !es.isEmpty)=true then (unsupported "set:maker-not-led" : Sem Unit) else pure ()) _ _ s
  rw [if_neg (by rw [led];exact Bool.false_ne_true)]
  refine wpAny_pure (wpAny_pure ?_)
  have e1:es[i]? = some (es[i].1,x):=by
   rw [ev,List.getElem?_map,Array.getElem?_toList,Array.getElem?_eq_getElem hi] at hx
   rw [Array.getElem?_eq_getElem hi,← Option.some.inj hx]
  rw [bk,e1,Array.getElem?_eq_getElem hip]
  refine wpAny_bind (wpAny_setField hI rfl (by simp) ?_)
  have h1:=zex (j:=0) (x:=.int ((t.place[i]+1:Nat):Int) 0) hI
  refine wpAny_bind (wpAny_setField h1 rfl (by simp) ?_)
  have h2:=zex (j:=1) (x:=.int ((i:Int)+1) 0) h1
  refine wpAny_pure ⟨_,rfl,?_⟩
  refine wpAny_pure (hq _ (.int ((t.place[i]+1:Nat):Int) 0) ((Heap.SameBut.update _ _ _).trans (Heap.SameBut.update _ _ _)) h2 (.inr (.inl ⟨bt,dr,led,⟨t.place[i]+1,rfl,zh6 hr hip⟩,ev⟩)) fun T z=>by cases z)
 ·
  have hip:i<pl.length:=by
   have:=(List.getElem?_eq_some_iff.mp hx).1
   rw [ev,List.length_map] at this;exact this
  have hpi:pl[i]<es.size:=hp _ (List.getElem_mem hip)
  show wpAny _ _ (seqItems? (.ref T) >>= _) _ _ s
  refine wpAny_bind (wpAny_seqItems eT rfl ?_)
  dsimp only
  rw [Int.toNat_natCast,List.getElem?_toArray,List.getElem?_map,List.getElem?_eq_getElem hip]
  show wpAny _ _ (setNextDrawn a ((pl[i]:Nat):Int).toNat (ep:Int).toNat >>= _) _ _ s
  rw [Int.toNat_natCast,Int.toNat_natCast]
  unfold setNextDrawn
  refine wpAny_bind (wpAny_bind (wpAny_setState_of ha rfl hf ?_))
  dsimp only
  rw [show (ep != ep)=false by simp,if_neg Bool.false_ne_true]
  have e1:es[pl[i]]? = some (es[pl[i]].1,x):=by
   rw [ev,List.getElem?_map,List.getElem?_eq_getElem hip,Option.map_some,Array.getElem?_eq_getElem hpi] at hx
   rw [Array.getElem?_eq_getElem hpi,← Option.some.inj hx];rfl
  rw [e1]
  refine wpAny_pure ?_
  refine wpAny_bind (wpAny_setField hI rfl (by simp) ?_)
  have h1:=zex (j:=1) (x:=.int ((i:Int)+1) 0) hI
  refine wpAny_pure ⟨_,rfl,?_⟩
  refine wpAny_pure (hq _ (.ref T) (Heap.SameBut.update _ _ _) h1 (.inr (.inr ⟨bt,T,pl,rfl,?_,hl,hp,ev⟩)) fun T' z=>z)
  exact (Heap.SameBut.update s.heap I _).extBut T _ (far eT rfl) eT
end
end L2
end
section
set_option Elab.async false
set_option linter.all false
set_option maxRecDepth 100000
set_option maxHeartbeats 4000000
namespace L2
open PySem PySem.Spec PyProof.Rows
theorem zc0:Slot "set_iterator" "__iter__" "set_iterator.__iter__" :=
 .of (owner := "set_iterator") (n := "__iter__") (by rw [typeLookup_type,builtinLookup_eq_fast];kernel_rfl) (by decide +kernel) (by decide +kernel) (by decide +kernel) (by first | exact .inl (by decide +kernel) | exact .inr (by decide +kernel)) (by rw [isSubtype_type];kernel_rfl)
theorem zfg:entryFor table "set_iterator.__iter__" = some Builtin.«dict_keyiterator.__iter__»:=entryFor_alias (id' := "dict_keyiterator.__iter__") (by kernel_rfl) rfl (by decide +kernel) (by kernel_rfl)
theorem zf9 (a:Value):argsOk "set_iterator.__iter__" ⟨[a],[]⟩:=by
 unfold argsOk;rw [signature?_of (id := "set_iterator.__iter__") (n:=['_','_','r','e','t','i','_','_']) (o:=['r','o','t','a','r','e','t','i','_','t','e','s']) (by kernel_rfl) zhg];kernel_rfl
section
variable {prog:Program} {w:World} {A:Around} {E:Value→Shared→Prop} {s:Shared}
theorem zgc {α:Type} {Q:α→Shared→Prop} (hh:A.handled=none) (q:∀ e,(∃ o,(s.heap.push (seqObj "tuple" #[] 0)).push o=(s.heap.push (seqObj "tuple" #[] 0)).push o)→∀ h',Heap.ExtBut s.heap.objs.size s.heap h'→(∀ b o,s.heap.get? b=some o→h'.get? b=some o)→(∃ o,h'.get? e=some o∧o.cls = .type "StopIteration")→E (.ref e) { s with heap:=h' }) :
  wpAny (model prog w) A (do raiseNew (← newExc (.type "StopIteration") [])) Q E s:=by
 refine wpAny_bind ?_;simp only [newExc,newTuple];refine wpAny_bind (wpAny_newObj_type ?_ (by size_fits))
 refine wpAny_bind (m:=firstArgMember _ _) (wpAny_of_eq (a:=Value.none) (by first | rfl | (simp only [firstArgMember];rfl)) ?_);refine wpAny_newObj_type ?_ (by size_fits)
 simp only [raiseNew];refine wpAny_bind (wpAny_handled ?_);rw [hh];refine wpAny_bind (wpAny_pure (wpAny_throw ?_))
 refine q _ ⟨default,rfl⟩ _ (fun b o _ e=>Heap.get?_push_of_some _ (Heap.get?_push_of_some _ e)) (fun b o e=>Heap.get?_push_of_some _ (Heap.get?_push_of_some _ e)) ⟨_,Heap.get?_push_size _ rfl,rfl⟩
theorem zlu {I a:Addr} {es:Array (Int×Value)} {ep:Nat} {t:SetTable} {vs:List Value} {first:Value} {Q:Option Value→Shared→Prop} (hh:A.handled=none) (hI:s.heap.get? I=some (siO first (vs.length:Int) (.ref a) (es.size:Int) (ep:Int))) (ha:s.heap.get? a=some (sObj es ep t)) (hf:t.fits es.size=true) (hr:t.place.toList.Pairwise (· < ·))
  (m:zh9 w a es ep t vs s.heap vs.length first)
  (hq:∀ h',Heap.ExtBut I s.heap h'→Q none { s with heap:=h' }):wpAny (model prog w) A (pyNext (.ref I)) Q E s:=by
 have hT:s.TypeIs (.ref I) "set_iterator" := ⟨_,hI,rfl⟩
 unfold pyNext
 refine wpAny_bind (wpAny_attempt (wpAny_callSpecial?_slot (name:=Str.ofString "__next__") hT slot_si_next (wpAny_call_entry slot_si_next hT zcD ?_ (zc3 _))))
 delta Builtin.«set_iterator.__next__»
 refine wpAny_bind (m:=slotArgs "__next__" 0 _) (wpAny_pure ?_)
 dsimp only
 refine wpAny_bind (wpAny_fieldsOf hI rfl ?_)
 show wpAny _ _ (setEntries a >>= _) _ _ s
 refine wpAny_bind (wpAny_setEntries_of ha rfl hf ?_)
 rw [if_neg (by simp)]
 
 have last:∀ {Q':PySem.Fin→Shared→Prop} (h1:Heap),Heap.SameBut I s.heap h1→wpAny (model prog w) A.in1 (do raiseNew (← newExc (.type "StopIteration") [])) Q' (fun e s'=>wpAny (model prog w) A (do let __do_lift ← isInstance e (Value.type "StopIteration");if __do_lift=true then pure none else throw e) Q E s') { s with heap:=h1 }:=fun {Q'} h1 b1=>by
  refine zgc hh fun e _ h' _ k he=>?_
  obtain ⟨o,ho,hcl⟩:=he
  refine wpAny_bind (wpAny_isInstance (T := "StopIteration") (b:=true) ⟨o,ho,hcl⟩ isSubtype_stop ?_)
  exact wpAny_pure (hq h' fun b o hb e=>k b o (b1.extBut b o hb e))
 rcases m with ⟨bt,⟨k,rfl⟩,ev⟩ | ⟨bt,dr,led,⟨k,rfl,bk⟩,ev⟩ | ⟨bt,T,pl,rfl,eT,hl,hp,ev⟩
 ·show wpAny _ _ (setNext a (k:Int).toNat (vs.length:Int).toNat (ep:Int).toNat >>= _) _ _ s
  rw [Int.toNat_natCast,Int.toNat_natCast,Int.toNat_natCast]
  unfold setNext setsByText setWalk
  refine wpAny_bind (wpAny_bind (wpAny_setState_of ha rfl hf ?_))
  refine wpAny_bind (wpAny_bind (wpAny_askSetting (wpAny_pure ?_)))
  rw [show (model prog w).w.params.followText "set-order" = true from bt,if_pos rfl,show (ep != ep)=false by simp,if_neg Bool.false_ne_true]
  refine wpAny_bind (wpAny_bind (wpAny_setState_of ha rfl hf ?_))
  unfold setsByText
  refine wpAny_bind (wpAny_bind (wpAny_askSetting (wpAny_pure ?_)))
  rw [show (model prog w).w.params.followText "set-order" = true from bt,if_pos rfl]
  refine wpAny_bind (wpAny_askSetting (wpAny_pure (wpAny_pure ?_)))
  have e1:(pickOrder ((model prog w).w.params.setOrder a ep) es)[vs.length]? = none:=by
   rw [← Array.getElem?_toList,List.getElem?_eq_none]
   rw [ev,List.length_map];exact Nat.le_refl _
  rw [e1]
  refine wpAny_bind (wpAny_setField hI rfl (by simp) ?_)
  exact last _ (Heap.SameBut.update _ _ _)
 ·show wpAny _ _ (setNext a (k:Int).toNat (vs.length:Int).toNat (ep:Int).toNat >>= _) _ _ s
  rw [Int.toNat_natCast,Int.toNat_natCast,Int.toNat_natCast]
  unfold setNext setsByText
  refine wpAny_bind (wpAny_bind (wpAny_setState_of ha rfl hf ?_))
  refine wpAny_bind (wpAny_bind (wpAny_askSetting (wpAny_pure ?_)))
  rw [show (model prog w).w.params.followText "set-order" = false from bt,if_neg Bool.false_ne_true]
  rw (transparency:=.default) [if_neg (fun z=>Bool.false_ne_true (dr.symm.trans z))]
  refine wpAny_bind ?_
  show wpAny _ _ (if (!t.led && !es.isEmpty)=true then (unsupported "set:maker-not-led" : Sem Unit) else pure ()) _ _ s
  rw [if_neg (by rw [led];exact Bool.false_ne_true)]
  refine wpAny_pure (wpAny_pure ?_)
  have e1:es[vs.length]? = none:=by
   rw [← Array.getElem?_toList,List.getElem?_eq_none]
   rw [ev,List.length_map];exact Nat.le_refl _
  rw [bk,e1]
  refine wpAny_bind (wpAny_setField hI rfl (by simp) ?_)
  exact last _ (Heap.SameBut.update _ _ _)
 ·show wpAny _ _ (seqItems? (.ref T) >>= _) _ _ s
  refine wpAny_bind (wpAny_seqItems eT rfl ?_)
  dsimp only
  have e1:(pl.map fun (p:Nat)=>Value.int (p:Int) 0).toArray[vs.length]? = none:=by
   rw [List.getElem?_toArray,List.getElem?_eq_none]
   rw [ev,List.length_map,List.length_map];exact Nat.le_refl _
  rw [Int.toNat_natCast,e1]
  refine wpAny_bind (wpAny_setField hI rfl (by simp) ?_)
  have h1:=zex (j:=0) (x:=.int 0 0) hI
  refine wpAny_bind (wpAny_setField h1 rfl (by simp) ?_)
  exact last _ ((Heap.SameBut.update _ _ _).trans (Heap.SameBut.update _ _ _))
theorem zjY {I a:Addr} {es:Array (Int×Value)} {ep:Nat} {t:SetTable} {vs:List Value} {fp:List Addr} (hh:A.handled=none) (hf:t.fits es.size=true) (hr:t.place.toList.Pairwise (· < ·)) (hIa:I≠a) (hI:I∈fp) (ha:a∈fp) :
  Walks prog w A I fp [I] vs.length (fun i v=>vs[i]? = some v) (fun i h=>∃ first,h.get? I=some (siO first (i:Int) (.ref a) (es.size:Int) (ep:Int))∧h.get? a=some (sObj es ep t)∧zh9 w a es ep t vs h i first∧∀ T:Addr,first = .ref T→T∈fp) where
 sub:=fun b hb=>by rw [List.mem_singleton.mp hb];exact hI
 frame:=fun i h h' ⟨first,e1,e2,m,m2⟩ k=>by
  refine ⟨first,k I hI _ e1,k a ha _ e2,?_,m2⟩
  rcases m with z | z | ⟨bt,T,pl,ef,eT,r⟩
  ·exact .inl z
  ·exact .inr (.inl z)
  ·exact .inr (.inr ⟨bt,T,pl,ef,k T (m2 T ef) _ eT,r⟩)
 item:=fun i s Q E hi ⟨first,e1,e2,m,m2⟩ q=>by
  have hx:vs[i]? = some vs[i]:=List.getElem?_eq_getElem hi
  refine zlt e1 e2 hf hr m hx fun h' first' b g m' mt=>?_
  have:=q vs[i] h' s.toks hx ⟨first',g,b.extBut a _ (Ne.symm hIa) e2,m',?_⟩ fun b' o hb' e=>b.extBut b' o (fun z=>hb' (by rw [z];exact List.mem_singleton.mpr rfl)) e
  ·exact this
  ·exact fun T z=>m2 T (mt T z)
 done:=fun s Q E ⟨first,e1,e2,m,m2⟩ q=>zlu hh e1 e2 hf hr m fun h' k=>q h' s.toks fun b o hb e=>k b o (fun z=>hb (by rw [z];exact List.mem_singleton.mpr rfl)) e
 self:=fun i s Q E ⟨first,e1,e2,m,m2⟩ q=>by
  have hT:s.TypeIs (.ref I) "set_iterator" := ⟨_,e1,rfl⟩
  refine wpAny_pyIter_slot hT zc0 (wpAny_call_entry zc0 hT zfg ?_ (zf9 _))
  delta Builtin.«dict_keyiterator.__iter__»
  refine wpAny_bind (m:=slotArgs "__iter__" 0 _) (wpAny_pure ?_)
  exact wpAny_pure ⟨_,rfl,"set_iterator",_,hT,slot_si_next.lookup,q⟩
end
end L2
end
section
set_option Elab.async false
set_option linter.all false
set_option maxRecDepth 100000
set_option maxHeartbeats 4000000
namespace L2
open PySem PySem.Spec PyProof.Rows
section
variable {prog:Program} {w:World} {A:Around} {E:Value→Shared→Prop} {s:Shared}
theorem zhF (es:Array (Int×Value)):(List.range es.size).map (fun p=>((es[p]?).getD (0,.none)).2)=es.toList.map (·.2):=by
 apply List.ext_getElem
 ·simp
 ·intro i h1 h2
  have hi:i<es.size:=by simpa using h1
  simp [Array.getElem?_eq_getElem hi]
theorem zj0 {a:Addr} {es:Array (Int×Value)} {ep:Nat} {t:SetTable} {Q:Value→Shared→Prop} (ha:s.heap.get? a=some (sObj es ep t)) (Tb:Tab (!w.params.followText "set-order") t es.size) (hz:es.size≤sizeLine)
  (q:∀ (h':Heap) (d:Drawn) (I:Addr) (first:Value) (vs:List Value),(∀ b o,s.heap.get? b=some o→h'.get? b=some o)→h'.get? I=some (siO first 0 (.ref a) (es.size:Int) (ep:Int))→zh9 w a es ep t vs h' 0 first→vs.Perm (es.toList.map (·.2))→s.heap.objs.size≤I→I<h'.objs.size→(∀ T:Addr,first = .ref T→s.heap.objs.size≤T∧T<h'.objs.size)→Q (.ref I) { s with heap:=h',drawn:=d }) :
  wpAny (model prog w) A (pyIter (.ref a)) Q E s:=by
 have hT:s.TypeIs (.ref a) "set" := ⟨_,ha,rfl⟩
 refine wpAny_pyIter_slot hT F.slot_set_iter (wpAny_call_entry F.slot_set_iter hT zfV ?_ (F.args_set_iter_1 _))
 delta Builtin.«frozenset.__iter__»
 unfold Builtin.Frozenset.slot0
 refine wpAny_bind (wpAny_bind (m:=slotArgs "__iter__" 0 _) (wpAny_pure ?_))
 unfold Builtin.Frozenset.addrOf
 refine wpAny_pure ?_
 dsimp only
 unfold Builtin.Frozenset.sizeOf
 refine wpAny_bind (wpAny_bind (wpAny_setEntries_of ha rfl Tb.fits (wpAny_pure ?_)))
 unfold setDrawn setsByText
 refine wpAny_bind (wpAny_bind (wpAny_setState_of ha rfl Tb.fits ?_))
 refine wpAny_bind (wpAny_bind (wpAny_askSetting (wpAny_pure (wpAny_pure ?_))))
 rw [show (model prog w).w.params.followText "set-order" = w.params.followText "set-order" from rfl]
 have fin:∀ (s1:Shared) (first:Value),s1.heap.get? a=some (sObj es ep t)→(Q (.ref s1.heap.objs.size) { s1 with heap:=s1.heap.push (siO first 0 (.ref a) (es.size:Int) (ep:Int)) }) →
   wpAny (model prog w) A.in1 (do let __do_lift ← setEpoch a;let __do_lift ← newFields "set_iterator" [first,rawInt 0,.ref a,rawInt (es.size:Int),rawInt (__do_lift:Int)];ret __do_lift) (fun fin s'=>∃ v,fin = .done (.ret v)∧∃ T' r,s'.TypeIs v T'∧typeLookup (.type T') (Str.ofString "__next__")=pure (some r)∧Q v s') E s1:=fun s1 first h1 hq=>by
  refine wpAny_bind (wpAny_setEpoch_of h1 rfl Tb.fits ?_)
  refine wpAny_bind (wpAny_newObj_type ?_)
  exact wpAny_pure ⟨_,rfl,"set_iterator",_,⟨_,Heap.get?_push_size _ rfl,rfl⟩,slot_si_next.lookup,hq⟩
 have plain:∀ vs:List Value,zh9 w a es ep t vs (s.heap.push (siO (.int 0 0) 0 (.ref a) (es.size:Int) (ep:Int))) 0 (.int 0 0)→vs.Perm (es.toList.map (·.2))→Q (.ref s.heap.objs.size) { s with heap:=s.heap.push (siO (.int 0 0) 0 (.ref a) (es.size:Int) (ep:Int)) }:=fun vs m p =>
  q _ s.drawn s.heap.objs.size (.int 0 0) vs (fun b o e=>Heap.get?_push_of_some _ e) (Heap.get?_push_size _ rfl) m p (Nat.le_refl _) (by rw [Heap.size_push];exact Nat.lt_succ_self _) (fun T z=>by cases z)
 cases bt:w.params.followText "set-order" with
 | true =>
  rw (transparency:=.default) [if_neg (show ¬ (!true && (!t.plain && decide (es.size > 1)))=true from Bool.false_ne_true)]
  refine wpAny_bind (wpAny_pure (fin s (rawInt 0) ha (plain _ (.inl ⟨bt,⟨0,rfl⟩,rfl⟩) ((ziM _ es).map _))))
 | false =>
  have led:t.led=true:=by have:=Tb.led;rw [bt] at this;exact this
  cases hd:(!t.plain && decide (es.size > 1)) with
  | false =>
   rw (transparency:=.default) [if_neg (show ¬ (!false && (!t.plain && decide (es.size > 1)))=true by rw [hd];exact Bool.false_ne_true)]
   refine wpAny_bind (wpAny_pure (fin s (rawInt 0) ha (plain _ (.inr (.inl ⟨bt,hd,led,⟨0,rfl,zh5 Tb.ris⟩,rfl⟩)) .rfl)))
  | true =>
   rw (transparency:=.default) [if_pos (show (!false && (!t.plain && decide (es.size > 1)))=true by rw [hd];rfl)]
   refine wpAny_bind (zeE es.size (List.range es.size) s _ (by simp) fun ps d pp=>?_)
   refine wpAny_bind (wpAny_newTuple ?_ ?_)
   ·refine fin { s with heap:=s.heap.push { cls:=.type "tuple",data:=.seq (ps.map fun (i:Nat)=>rawInt (i:Int)).toArray },drawn:=d } (.ref s.heap.objs.size) (Heap.get?_push_of_some _ ha) ?_
    have hps:∀ p∈ps,p<es.size:=fun p hp=>List.mem_range.mp (pp.mem_iff.mp hp)
    refine q _ d _ (.ref s.heap.objs.size) (ps.map fun p=>((es[p]?).getD (0,.none)).2) (fun b o e=>Heap.get?_push_of_some _ (Heap.get?_push_of_some _ e)) (Heap.get?_push_size _ rfl) (.inr (.inr ⟨bt,s.heap.objs.size,ps,rfl,Heap.get?_push_of_some _ (Heap.get?_push_size _ rfl),by rw [pp.length_eq,List.length_range],hps,rfl⟩)) ?_ ?_ ?_ ?_
    ·rw [← zhF];exact pp.map _
    ·show s.heap.objs.size≤(s.heap.push _).objs.size
     rw [Heap.size_push];exact Nat.le_succ _
    ·show (s.heap.push _).objs.size<((s.heap.push _).push _).objs.size
     simp only [Heap.size_push];exact Nat.lt_succ_self _
    ·intro T z
     cases z
     refine ⟨Nat.le_refl _,?_⟩
     show s.heap.objs.size<((s.heap.push _).push _).objs.size
     simp only [Heap.size_push];exact Nat.lt_succ_of_lt (Nat.lt_succ_self _)
   ·rw [List.length_map,pp.length_eq,List.length_range];exact hz
def fpOf:Value→List Addr
 | .ref T=>[T]
 | _=>[]
theorem zeR:typeLookup (.type "set") (Str.ofString "__len__")=pure (some (.builtin "set.__len__")):=F.slot_set_len.lookup
theorem zj1 {a:Addr} (hT:s.TypeIs (.ref a) "set") {Q:Bool→Shared→Prop} (h:Q false s):wpAny (model prog w) A (Builtin.List.listLengthHint (.ref a)) Q E s:=by
 unfold Builtin.List.listLengthHint;refine wpAny_bind (wpAny_specialOf hT zeR ?_)
 generalize hid:("set.__len__" : String)=id1;wp_delta
 rw [show splitId id1=some ("set","__len__") from by subst hid;decide +kernel];subst hid
 refine wpAny_bind (wpAny_isInstance (T := "set") (b:=true) hT (by rw [isSubtype_type];kernel_rfl) ?_);refine wpAny_ite_split (fun z=>absurd z (by decide)) (fun _=>?_)
 refine wpAny_ite_split (fun _=>?_) (fun z=>absurd (by decide +kernel) z);exact wpAny_bind (wpAny_typeOf hT (wpAny_pure h))
theorem zlo {es:List (Int×Value)} (h:∀ e∈es,EOk e):∀ {vs:List Value},vs.Perm (es.map (·.2))→∃ ns,IntsAre vs ns∧ns.Perm (zjl es):=fun {vs} p=>by
 have vI:∀ v∈vs,∃ n t,v=Value.int n t:=fun v hv=>by
  obtain ⟨e,he,rfl⟩:=List.mem_map.mp (p.mem_iff.mp hv)
  obtain ⟨n,t,rfl⟩:=h e he
  exact ⟨n,t,rfl⟩
 have g:∀ l:List Value,(∀ v∈l,∃ n t,v=Value.int n t)→IntsAre l (l.map fun v=>eInt (0,v)):=fun l=>by
  induction l with
  | nil=>exact fun _=>.nil
  | cons v l ih =>
   intro hl
   obtain ⟨n,t,rfl⟩:=hl v (List.mem_cons_self ..)
   exact .cons _ _ (ih fun v hv=>hl v (List.mem_cons_of_mem _ hv))
 refine ⟨vs.map fun v=>eInt (0,v),g vs vI,?_⟩
 have q:=p.map fun v=>eInt (0,v)
 rw [List.map_map] at q
 exact q
theorem zgr {a:Addr} {S:List Int} {R:List Value→Shared→Prop} (hh:A.handled=none) (hS:SetI (!w.params.followText "set-order") s.heap a S) (hz:S.length<1000)
  (h:∀ (h':Heap) (tk:Nat) (d:Drawn) (ns:List Int) (vs:List Value),(∀ b o,s.heap.get? b=some o→h'.get? b=some o)→IntsAre vs ns→ns.Perm S→R vs { s with heap:=h',toks:=tk,drawn:=d }) :
  wpAny (model prog w) A (collect (.ref a)) R E s:=by
 obtain ⟨es,ep,t,ha,hE,hP,hN,Tb⟩:=hS
 have hsz:es.size=S.length:=by rw [← Array.length_toList,← hP.length_eq];unfold zjl;rw [List.length_map]
 have hzl:es.size≤sizeLine:=Nat.le_trans (show es.size≤1000 by omega) (by decide)
 have hal:a<s.heap.objs.size:=Heap.lt_size ha
 unfold collect
 refine wpAny_bind (wpAny_runValue (codeAny_builtin F.entry_proto_collect ?_));rw [Around.under_plainId F.plain_proto_collect _]
 show wpAny _ A.in1 (newList [] >>= fun l=>again (.builtin "list.__iadd__" ⟨[l,.ref a],[]⟩)) _ _ s;refine wpAny_bind (wpAny_newObj_type ?_)
 refine wpAny_pure ⟨plainId_quiet F.plain_list_iadd _,codeAny_builtin F.entry_list_iadd ?_⟩;rw [Around.under_plainId F.plain_list_iadd _]
 generalize hD:s.heap.objs.size=D
 have hg:s.heap.push { cls:=.type "list",data:=.seq ([]:List Value).toArray }=s.heap.push (seqObj "list" #[] 0):=rfl
 generalize hh1:s.heap.push { cls:=.type "list",dict:=none,data:=.seq ([]:List Value).toArray }=h1
 have k1:∀ b o,s.heap.get? b=some o→h1.get? b=some o:=fun b o e=>by rw [← hh1];exact Heap.get?_push_of_some _ e
 have eD:h1.get? D=some { cls:=.type "list",data:=.seq #[] }:=by rw [← hh1,← hD];exact Heap.get?_push_size _ rfl
 have sz1:h1.objs.size=D+1:=by rw [← hh1,Heap.size_push,hD]
 have ha1:=k1 _ _ ha
 show wpAny _ A.in1 (Builtin.List.listExtendWith (.ref D) (.ref a) (.ref D)) _ _ { s with heap:=h1 }
 unfold Builtin.List.listExtendWith
 refine wpAny_bind (wpAny_typeOf (show Shared.TypeIs { s with heap:=h1 } (.ref a) "set" from ⟨_,ha1,rfl⟩) ?_)
 have ns:Builtin.List.listSameRef (.ref D) (.ref a)=false:=by
  have hne:D≠a:=by rw [← hD];exact Nat.ne_of_gt hal
  simp [Builtin.List.listSameRef,hne]
 rw [if_neg (by rw [ns];decide)]
 refine wpAny_bind (zj0 (s:={ s with heap:=h1 }) ha1 Tb hzl fun h2 d I first vs k2 eI m pv hI hI2 hT=>?_)
 have k12:∀ b o,s.heap.get? b=some o→h2.get? b=some o:=fun b o e=>k2 b o (k1 b o e)
 have ha2:=k12 _ _ ha
 refine wpAny_bind (wpAny_holding ?_)
 refine zj1 (show Shared.TypeIs { s with heap:=h2,drawn:=d } (.ref a) "set" from ⟨_,ha2,rfl⟩) ?_
 have eD2:=k2 _ _ eD
 refine wpAny_ite_split (fun _=>?_) (fun z=>absurd (by decide +kernel) z)
 refine wpAny_bind (wpAny_rule (wpAny_bind ?_))
 show wpAny _ A.in1 (updateSeq D (·.push .none) >>= fun _=>updateSeq D (·.pop)) _ _ { s with heap:=h2,drawn:=d }
 refine wpAny_bind (wpAny_updateSeq eD2 rfl ?_)
 have eD3:=Heap.get?_update_self (Obj.mapSeq (·.push Value.none)) eD2 rfl
 refine wpAny_updateSeq eD3 rfl ?_
 have eD4:=Heap.get?_update_self (Obj.mapSeq (·.pop)) eD3 rfl
 generalize hh4:(h2.update D (Obj.mapSeq (·.push Value.none))).update D (Obj.mapSeq (·.pop))=h4 at eD4
 have k24:∀ b o,b≠D→h2.get? b=some o→h4.get? b=some o:=fun b o hb e=>by
  rw [← hh4]
  exact (Heap.get?_update_other _ _ (Ne.symm hb)).trans ((Heap.get?_update_other _ _ (Ne.symm hb)).trans e)
 have naD:a≠D:=by rw [← hD];exact Nat.ne_of_lt hal
 have hI':h1.objs.size≤I:=hI
 have hT':∀ T:Addr,first = .ref T→h1.objs.size≤T:=fun T z=>(hT T z).1
 have nID:I≠D:=fun z=>by rw [z,sz1] at hI';exact absurd hI' (Nat.not_succ_le_self D)
 have nTD:∀ T:Addr,first = .ref T→T≠D:=fun T z z2=>by have q:=hT' T z;rw [z2,sz1] at q;exact absurd q (Nat.not_succ_le_self D)
 have hIa:I≠a:=fun z=>by rw [z,sz1,← hD] at hI';exact absurd (Nat.lt_of_lt_of_le hal (Nat.le_trans (Nat.le_succ _) hI')) (Nat.lt_irrefl _)
 have W:Walks prog w A.in1 I (I :: a :: fpOf first) [I] vs.length (fun i v=>vs[i]? = some v) _:=zjY (es:=es) (ep:=ep) (t:=t) (vs:=vs) hh Tb.fits Tb.ris hIa (List.mem_cons_self ..) (List.mem_cons_of_mem _ (List.mem_cons_self ..))
 have hSf:D ∉ I :: a :: fpOf first:=fun z=>by
  rcases List.mem_cons.mp z with z | z
  ·exact nID z.symm
  ·rcases List.mem_cons.mp z with z | z
   ·exact naD z.symm
   ·cases first with
    | ref T=>exact nTD T rfl (List.mem_singleton.mp z).symm
    | _=>cases z
 refine wpAny_pure ⟨plainId_quiet F.plain_extend_loop _,codeAny_extend_loopS W.toS (by rw [pv.length_eq,List.length_map,Array.length_toList];exact hzl) D hSf (.ref D) vs.length 0 { s with heap:=h4,drawn:=d } _ _ rfl (Nat.zero_le _) ?_ eD4 (ItemsOf.nil _) fun s' acc' c' hm hS' hacc=>?_⟩
 ·refine ⟨first,k24 _ _ nID eI,k24 _ _ naD ha2,?_,fun T z=>?_⟩
  ·rcases m with z | z | ⟨bt,T,pl,ef,eT,r⟩
   ·exact .inl z
   ·exact .inr (.inl z)
   ·exact .inr (.inr ⟨bt,T,pl,ef,k24 _ _ (nTD T ef) eT,r⟩)
  ·subst z;exact List.mem_cons_of_mem _ (List.mem_cons_of_mem _ (List.mem_singleton.mpr rfl))
 ·show wpAny _ A (load D >>= _) _ _ s'
  refine wpAny_bind (wpAny_load hS' (wpAny_pure ?_))
  have ev:acc'.toList=vs:=by
   obtain ⟨z1,z2⟩:=hacc
   apply List.ext_getElem?
   intro j
   by_cases hj:j<acc'.size
   ·have e1:acc'.toList[j]? = some acc'[j]:=by rw [Array.getElem?_toList,Array.getElem?_eq_getElem hj]
    rw [e1,z2 j acc'[j] (Array.getElem?_eq_getElem hj)]
   ·rw [List.getElem?_eq_none (by rw [Array.length_toList];exact Nat.not_lt.mp hj),List.getElem?_eq_none (by rw [← z1];exact Nat.not_lt.mp hj)]
  rw [ev]
  obtain ⟨nn,hi,hp⟩:=zlo (es:=es.toList) hE pv
  have kk:∀ b o,s.heap.get? b=some o→s'.heap.get? b=some o:=fun b o e=>by
   have hb:=Heap.lt_size e
   have nb:b≠D:=fun z=>by rw [z,hD] at hb;exact absurd hb (Nat.lt_irrefl _)
   refine hm.heap b o (fun z=>?_) (k24 b o nb (k12 b o e))
   rcases List.mem_cons.mp z with z | z
   ·exact nb z
   ·rw [List.mem_singleton.mp z] at hb
    rw [sz1,← hD] at hI'
    exact absurd (Nat.lt_of_lt_of_le hb (Nat.le_trans (Nat.le_succ _) hI')) (Nat.lt_irrefl _)
  have fin:=h s'.heap s'.toks d nn vs kk hi (hp.trans hP)
  have g:s'.gens=s.gens:=hm.gens
  have dd:s'.drawn=d:=hm.drawn
  have oo:s'.os=s.os:=hm.os
  have e':s'={ s with heap:=s'.heap,toks:=s'.toks,drawn:=d }:=by
   rw [← g,← dd,← oo]
  rw [e'];exact fin
end
end L2
end
section
set_option Elab.async false
set_option linter.all false
set_option maxRecDepth 100000
set_option maxHeartbeats 4000000
namespace L2
open PySem PySem.Spec PyProof.Rows HT
theorem Inv.draw {X:Cx} {pins:List (Addr×Obj)} {σ:St} {H:Hp} {s:Shared} (I:Inv X pins σ H s) (d:Drawn):Inv X pins σ H { s with drawn:=d }:=⟨I.ok,I.os,I.bare,I.base,I.loc,I.cell,I.free,I.freeC,I.pin,I.hok,I.len⟩
def stI (w:World) (a:Addr) (S:List Int):Heap→Prop:=fun h=>SetI (!w.params.followText "set-order") h a S
theorem stI_ok {P:Program} {w:World} {H:Hp} {h:Heap} {a:Addr} {S:List Int} (x:stI w a S h):ObjOk P w H h a (.ext (stI w a S)):=by
 refine ⟨x,?_,fun h1 h2 y k=>y.at k⟩
 obtain ⟨es,ep,t,g,_⟩:=x
 exact ⟨_,g⟩
theorem zf0 {X:Cx} (hc:X.calm=true):zcu X (.builtin "sorted") (fun xs H Q=>∃ (a:Addr) (S:List Int),xs=[.ref a]∧H a=some (.ext (stI X.w a S))∧S.length<64 ∧
  ∀ (l:Addr) (ns:List Int),H l=none→ns.Perm S→ns.Pairwise (·≤·)→Q (.ref l) (upd H l (.lst (ns.map V.int)))):=by
 intro pins s σ H xs us Q I r h
 obtain ⟨a,S,rfl,ea,h64,q⟩:=h
 obtain ⟨u,rfl,r1⟩:=zc4 r
 obtain rfl:u=Value.ref a:=r1
 obtain ⟨hS,_,_⟩:=(show ObjOk X.prog X.w H s.heap a (.ext (stI X.w a S)) from I.hok a _ ea)
 refine zfr (zgr (I.ok.hd hc) hS (by omega) fun h' tk d ks vs kp hI hP=>?_)
 have hl:vs.length=ks.length:=hI.length
 have hk:ks.length<64:=by rw [hP.length_eq];exact h64
 refine ⟨Nat.le_trans (show vs.length≤64 by omega) (by decide),?_⟩
 refine list_sort_tree (s:={ s with heap:=h'.push (seqObj "list" vs.toArray 0),toks:=tk,drawn:=d }) (Heap.get?_push_size _ rfl) hI (by omega) fun out ns a1 a2 a3=>⟨rfl,?_⟩
 have hsz:h'.objs.size<(h'.push (seqObj "list" vs.toArray 0)).objs.size:=by rw [Heap.size_push];exact Nat.lt_succ_self _
 have I2:Inv X pins σ H { s with heap:=h',toks:=tk,drawn:=d }:=(I.kept (t':=tk) kp).draw d
 obtain ⟨c,hc'⟩:=sortedHeap_at (a:=h'.objs.size) (vs:=vs) (out:=out) (Heap.get?_push_size (h:=h') (o:=seqObj "list" vs.toArray 0) rfl)
 refine ⟨.ref _,_,I2.laid (t':=tk) (o:=.lst (ns.map V.int)) (fun b o eb=>?_) (Nat.le_refl _) ?_,rfl,q _ ns (I2.hok.fresh (Nat.le_refl _)) (a2.trans hP) a3⟩
 ·have hb:=Heap.lt_size eb
  rw [sortedHeap_old (Nat.ne_of_lt hb) (Nat.lt_trans hb hsz)];exact Heap.get?_push_of_some _ eb
 ·refine ⟨?_,out.toList,_,zdx a1,by simpa [seqObj] using hc'⟩
  rw [List.length_map,a2.length_eq];exact Nat.le_trans (Nat.le_of_lt hk) (by decide)
end L2
end
section
set_option Elab.async false
set_option linter.all false
set_option maxRecDepth 100000
set_option maxHeartbeats 4000000
namespace L2
open PySem PySem.Spec PyProof.Rows
abbrev TEm (α:Type):=St→Hp→(α→Hp→Prop)→Prop
def PEm {α:Type} (B:Nat) (Y:Cx) (EM:Env→Addr→(Shared→Prop)→Shared→Prop) (AO:List α→Obj→Prop) (em:TEm α):Prop:=
 ∀ (D:Addr) (pins:List (Addr×Obj)) (s:Shared) (σ:St) (H:Hp) (Q:α→Hp→Prop) (ys:List α) (o:Obj),Inv Y pins σ H s→(D,o)∈pins→AO ys o→ys.length<B→em σ H Q →
  EM Y.env D (fun s'=>∃ y H8 s8 h' o' tk,Inv Y pins σ H8 s8∧AO (ys ++ [y]) o'∧Heap.SameBut D s8.heap h'∧h'.get? D=some o'∧s'={ s8 with heap:=h',toks:=tk }∧Q y H8) s
def zga {α:Type} (B:Nat) (J:It) (g:TG) (tf:TT) (em:TEm α) (Q:List α→Hp→Prop) (σ0:St) (H1:Hp):Prop:=
 ∃ W:Nat→Nat→List α→St→Hp→Prop,(∃ m,W 0 m [] σ0 H1)∧∀ i m ys σc Hc,W i m ys σc Hc →
  (J.stop i Hc∧ys.length≤B∧Q ys Hc) ∨
  (J.go i Hc∧ys.length<B∧∃ N:List α→St→Hp→Prop,(∀ ys' σ' H',N ys' σ' H'→∃ m',m'<m∧W (i+1) m' ys' σ' H') ∧
   ∀ x H',J.yld i Hc x H'→g x σc H' fun σ2 H2=>tf σ2 H2 fun b H3=>if b=true then em σ2 H3 fun y H4=>N (ys ++ [y]) σ2 H4 else N ys σ2 H3)
structure CLoop (prog:Program) (w:World) (A:Around) (tg:Expr) (ifs:List Expr) (ce:Expr) (it:Value) (EM:Env→Addr→(Shared→Prop)→Shared→Prop):Prop where
 mono:∀ (env:Env) (D:Addr) (p q:Shared→Prop) (s:Shared),EM env D p s→(∀ s',p s'→q s')→EM env D q s
 loop:∀ (env:Env) (D:Addr) (I:Nat→Shared→Prop) {R:Result→Shared→Prop} (turn:∀ n s,I n s→wpAny (model prog w) A (pyNext it) (fun r s1=>match r with
   | none=>R (.ok .next) s1
   | some v=>wpAny (model prog w) A (letOwnedTupleGo tg it v) (fun _ s2=>wpAny (model prog w) A (assign tg env v) (fun _ s3 =>
     wpAny (model prog w) A (forIn ifs true fun c r=>if r=true then do let ok ← isTrue c env (eval c env);pure (ForInStep.yield ok) else pure (ForInStep.yield r)) (fun ok s4 =>
      if ok=true then EM env D (fun s6=>∃ m,m<n∧I m s6) s4 else ∃ m,m<n∧I m s4) (fun _ _=>False) s3) (fun _ _=>False) s2) (fun _ _=>False) s1) (fun _ _=>False) s)
  (n:Nat) (s:Shared) (h:I n s),codeAny (model prog w) A (.compLoop ce 0 it (.ref D) env) R s
 start:∀ (env:Env) (D:Addr) (R:Result→Shared→Prop) (s:Shared),codeAny (model prog w) A (.compLoop ce 0 it (.ref D) env) R s →
  wpAny (model prog w) A (pyIter it) (fun it' s'=>codeAny (model prog w) A (.compLoop ce 0 it' (.ref D) env) R s') (notedBy (model prog w) A env fun x s'=>R (.error x) s') s→codeAny (model prog w) A (.compStart ce 0 it (.ref D) env) R s
theorem zeF {α:Type} {X:Cx} {pins:List (Addr×Obj)} {σ:St} {H2:Hp} {s2:Shared} {Nc:List Str} {src:List (Option Nat)} {scope:Scope} {cl:List (Str×Addr)} {fp:List Addr} {tg ce:Expr} {ifs:List Expr}
  {it:Addr} {tn:Nat→Heap→Prop} {J:It} {g:TG} {tf:TT} {em:TEm α} {Qf:List α→Hp→Prop} {E:Value→Shared→Prop} {RR:Value→Addr→Result→Shared→Prop} {mk:Sem Value} {o0:Obj} {AO:List α→Obj→Prop} {ho:Addr→List α→HO} {B:Nat} {EM:Env→Addr→(Shared→Prop)→Shared→Prop}
  (hc:X.calm=true) (I2:Inv X pins σ H2 s2) (S:CompOk X.N X.env.scope Nc src scope)
  (hcl1:∀ (x:Str) (c:Addr),cl.lookup x=some c→X.env.cells.lookup x=some c) (hcl2:∀ x∈scope.names,x.2 = .free→∃ c,cl.lookup x.1=some c)
  (T:Turn X.prog X.w X.K tg J fp it tn) (st2:tn 0 s2.heap) (f2:∀ b∈fp,FpOk X pins H2 b)
  (hg:∀ cl C fp s2 H2,PG (cxC X Nc scope cl C fp s2 H2) tg g) (hf:∀ cl C fp s2 H2,PF (cxC X Nc scope cl C fp s2 H2) ifs tf) (he:∀ cl C fp s2 H2,PEm B (cxC X Nc scope cl C fp s2 H2) EM AO em)
  (hmk:∀ (Q:Value→Shared→Prop) (s:Shared),Q (.ref s.heap.objs.size) { s with heap:=s.heap.push o0 }→wpAny (model X.prog X.w) X.A mk Q E s) (hfr:o0.isFreed=false) (h0:AO [] o0) (hcell:∀ ys o v,AO ys o→o.data≠.cell v)
  (hho:∀ ys o H h D,AO ys o→ys.length≤B→s2.heap.objs.size≤D→h.get? D=some o→ObjOk X.prog X.w (upd H D (ho D ys)) h D (ho D ys))
  (hlp:CLoop X.prog X.w X.A tg ifs ce (.ref it) EM)
  (hw:zga B J g tf em Qf (za9 src σ) H2)
  (fin:∀ (H4:Hp) (s4:Shared) (ys:List α) (m:Str→Option Value) (C:Addr),s2.heap.objs.size≤C→H4 s2.heap.objs.size=none→Inv X pins σ (upd H4 s2.heap.objs.size (ho s2.heap.objs.size ys)) s4→s4.heap.Ns C m→upd H4 s2.heap.objs.size (ho s2.heap.objs.size ys) C=none→Qf ys H4→RR (.ref s2.heap.objs.size) C (.ok .next) s4) :
  wpAny (model X.prog X.w) X.A mk (fun acc s3=>wpAny (model X.prog X.w) X.A (newFunctionEnv scope X.env.globals cl [] X.env.qual none .none (some X.env)) (fun cenv s4 =>
   codeAny (model X.prog X.w) X.A (.compStart ce 0 (.ref it) acc { cenv with scope:=relabel scope X.env }) (RR acc cenv.locals) s4) E s3) E s2:=by
 refine hmk _ s2 (wpAny_newFunctionEnv S.nocell (by intro y hy;simp at hy) (fun h1 hns1 hsb1=>?_) S.kind)
 dsimp only at hns1 hsb1 ⊢
 generalize hH2:s2.heap.push o0=G2 at hns1 hsb1 ⊢
 have hCz:G2.objs.size=s2.heap.objs.size+1:=by rw [← hH2,Heap.size_push]
 generalize hCe:G2.objs.size=C at hns1 hsb1 hCz ⊢
 generalize hDe:s2.heap.objs.size=D at fin hCz ⊢
 have hDC:D≠C:=by omega
 have hCle:s2.heap.objs.size≤C:=by omega
 have hDle:s2.heap.objs.size≤D:=by omega
 have old:∀ b o,s2.heap.get? b=some o→h1.get? b=some o:=fun b o e=>hsb1.extBut b o (Nat.ne_of_lt (Nat.lt_of_lt_of_le (Heap.lt_size e) hCle)) (Heap.get?_push_of_some _ (hH2 ▸ Heap.get?_push_of_some _ e))
 have hacc:h1.get? D=some o0:=by
  refine hsb1.extBut _ _ hDC (Heap.get?_push_of_some _ ?_)
  rw [← hH2,← hDe]
  exact Heap.get?_push_size _ hfr
 have hfp:∀ b∈fp,b<s2.heap.objs.size:=fun b hb=>by
  obtain ⟨o,e,_⟩:=T.obj 0 _ st2 b hb
  exact Heap.lt_size e
 have ok:=zlh (Nc:=Nc) (src:=src) (scope:=scope) (cl:=cl) (C:=C) (fp:=fp) I2 S hcl1 hcl2 hCle hfp f2
 generalize hXC:cxC X Nc scope cl C fp s2 H2=Y at ok
 have hYN:Y.N=Nc:=by rw [← hXC];rfl
 
 have I0:Inv (cxC X Nc scope cl C fp s2 H2) [] (za9 src σ) H2 { s2 with heap:=h1,toks:=s2.toks+([]:List (Str×Value)).length }:=by
  rw [← hXC] at ok
  refine ⟨ok,rfl,I2.bare,Un.kept old,⟨_,hns1,fun j x v e1 e2 _=>?_⟩,fun x c e=>?_,I2.hok.fresh hCle,fun x c e=>I2.freeC x c (hcl1 _ _ e),(fun p hp=>nomatch hp),I2.hok.kept old,?_⟩
  ·
   have e2':(za9 src σ)[j]? = some (some v):=e2
   have e1':Nc[j]? = some x:=e1
   unfold za9 at e2'
   rw [List.getElem?_map] at e2'
   cases hs:src[j]? with
   | none=>rw [hs] at e2';cases e2'
   | some o =>
    rw [hs] at e2'
    cases o with
    | none=>cases e2'
    | some i =>
     simp only [Option.map_some,Option.some.injEq] at e2'
     obtain ⟨y,hy1,hy2,hy3⟩:=S.src j i hs
     rw [e1'] at hy1;cases hy1
     have hσ:σ[i]? = some (some v):=by
      cases hq:σ[i]? with
      | none=>rw [hq] at e2';cases e2'
      | some z=>rw [hq] at e2';simp only [Option.getD_some] at e2';rw [e2']
     have hm:=zcc hy3
     have hfr:=S.free _ hm rfl
     obtain ⟨m0,hn0,hl0⟩:=I2.loc
     obtain ⟨u,r,l⟩:=hl0 i x v hy2 hσ (Or.inr hfr)
     refine ⟨u,r,.inr ⟨?_,?_⟩⟩
     ·show (relabel scope X.env).names.lookup x=some .cell∨(relabel scope X.env).names.lookup x=some .free
      rw [zbF,hy3]
      simp only [Option.map_some]
      split
      ·exact .inl rfl
      ·exact .inr rfl
     ·rcases l with ⟨k,_⟩ | ⟨_,c,hc1,hc2⟩
      ·have k':X.env.scope.names.lookup x=some .local:=k
       rw [k'] at hfr;rcases hfr with z | z <;> cases z
      ·obtain ⟨c',hc'⟩:=hcl2 _ hm rfl
       have:=hcl1 _ _ hc'
       rw [hc1] at this;cases this
       exact ⟨c,hc',hc2.keeps old⟩
  ·obtain ⟨v,z⟩:=I2.cell x c (hcl1 _ _ e)
   exact ⟨v,z.keeps old⟩
  ·show (za9 src σ).length=Nc.length
   unfold za9;rw [List.length_map];exact S.len
 obtain ⟨W,⟨m0,w0⟩,turn⟩:=hw
 have loop:codeAny (model X.prog X.w) X.A (.compLoop ce 0 (.ref it) (.ref D) (compEnvC scope cl C X.env)) (RR (.ref D) C) { s2 with heap:=h1,toks:=s2.toks+([]:List (Str×Value)).length }:=by
  have fpk:∀ {H':Hp} {ob:Obj},(∀ b∈fp,H' b=none)→∀ b∈fp,FpOk (cxC X Nc scope cl C fp s2 H2) [(D,ob)] H' b:=fun {H' ob} hn b hb =>
   ⟨hn b hb,(I0.ok.exf b hb).1,I0.ok.exfs b hb,.inl hb,(I0.ok.exf b hb).2,fun p hp=>by
    have e:p=(D,ob):=List.mem_singleton.mp hp
    subst e
    exact Nat.ne_of_gt (Nat.lt_of_lt_of_le (hfp b hb) hDle)⟩
  have hDfs:D ∉ frs X.stack:=fun hs=>by
   rcases List.mem_cons.mp (I2.stkSub D hs) with z | z
   ·exact absurd (Nat.lt_of_lt_of_le I2.lt hDle) (by rw [z];exact Nat.lt_irrefl _)
   ·exact I2.nofs hDle z
  refine hlp.loop (compEnvC scope cl C X.env) D (fun n s'=>∃ i ys σ' H' ob,Inv (cxC X Nc scope cl C fp s2 H2) [] σ' H' s'∧tn i s'.heap∧(∀ b∈fp,H' b=none)∧H' D=none∧s'.heap.get? D=some ob∧AO ys ob∧W i n ys σ' H') ?_ m0 _
   ⟨0,[],za9 src σ,H2,o0,I0,T.keep _ _ _ st2 fun b hb o e=>old b o e,fun b hb=>(f2 b hb).1,I2.hok.fresh hDle,hacc,h0,w0⟩
  rintro n s3 ⟨i,ys,σ3,H3,ob,I3,st3,fr3,hD3,hO3,vs3,w3⟩
  have I3':Inv (cxC X Nc scope cl C fp s2 H2) [(D,ob)] σ3 H3 s3:=I3.pins_of fun p hp=>by
   have e:=List.mem_singleton.mp hp
   subst e
   exact ⟨hO3,hD3,hDC,hDfs,fun v z=>hcell ys ob v vs3 z⟩
  rcases turn i n ys σ3 H3 w3 with ⟨stop,hlen,qn⟩ | ⟨go,hlen,N,hN,step⟩
  ·refine thn (T.done (cxC X Nc scope cl C fp s2 H2) rfl rfl rfl hc i _ s3 σ3 H3 _ I3' (fpk fr3) st3 stop) fun r s4 ⟨hr,I4⟩=>?_
   subst hr
   have hO4:=(I4.pin (D,_) (List.mem_append_right _ (List.mem_singleton.mpr rfl))).1
   obtain ⟨m4,hn4,_⟩:=I4.loc
   have fC:H3 C=none:=I4.free
   have uD:upd H3 D (ho D ys) C=none:=by rw [zai hDC.symm];exact fC
   have hl2:∀ b v,H2 b=some v→b<s2.heap.objs.size:=fun b v e=>I2.hok.lt e
   have Iout:Inv X pins σ (upd H3 D (ho D ys)) s4:=by
    refine I2.call' (ch:=fp) I4.os (Un.track I4.base hDle hl2) (HOk.track I4.hok hD3 (hho ys ob H3 s4.heap D vs3 hlen hDle hO4)) I4.bare fun b hb=>?_
    obtain ⟨_,a1,_,a3,a4,a5⟩:=f2 b hb
    exact ⟨a3,a1,a4,a5⟩
   exact fin H3 s4 ys m4 C (by omega) hD3 Iout hn4 uD qn
  ·refine thn (T.item (cxC X Nc scope cl C fp s2 H2) rfl rfl rfl hc i _ s3 σ3 H3 _ I3' (fpk fr3) st3 go) fun r s4 ⟨u,hr,h4⟩=>?_
   subst hr
   refine thn h4 fun _ s5 ⟨x,H5,I5,r5,y5,st5,fr5⟩=>?_
   have I5':=I5.pinned (fpk fr5) (T.obj _ _ st5)
   refine thn (hg cl C fp s2 H2 _ s5 σ3 H5 x u _ I5' r5 (step x H5 y5)) fun _ s6 ⟨σ6,H6,I6,q6⟩=>?_
   refine thn (hf cl C fp s2 H2 _ s6 σ6 H6 _ I6 q6) fun ok s7 ⟨H7,I7,q7⟩=>?_
   have back:∀ {s8:Shared} {σ8:St} {H8:Hp},Inv (cxC X Nc scope cl C fp s2 H2) ([(D,ob)] ++ zey fp s5.heap) σ8 H8 s8 →
     tn (i+1) s8.heap∧(∀ b∈fp,H8 b=none)∧H8 D=none∧s8.heap.get? D=some ob:=fun {s8 σ8 H8} I8=>by
    refine ⟨T.keep _ _ _ st5 fun b hb o e=>(I8.pin (b,o) (List.mem_append_right _ (List.mem_append_right _ (zbh hb e)))).1,fun b hb=>?_,?_,?_⟩
    ·obtain ⟨o,e,d⟩:=T.obj _ _ st5 b hb
     exact (I8.pin (b,o) (List.mem_append_right _ (List.mem_append_right _ (zbh hb e)))).2.1
    ·exact (I8.pin (D,_) (List.mem_append_right _ (List.mem_append_left _ (List.mem_singleton.mpr rfl)))).2.1
    ·exact (I8.pin (D,_) (List.mem_append_right _ (List.mem_append_left _ (List.mem_singleton.mpr rfl)))).1
   cases ok with
   | false =>
    obtain ⟨m',hm',w7⟩:=hN _ _ _ q7
    obtain ⟨b1,b2,b3,b4⟩:=back I7
    exact ⟨m',hm',i+1,ys,σ6,H7,ob,I7.pins_of (fun p hp=>nomatch hp),b1,b2,b3,b4,vs3,w7⟩
   | true =>
    refine hlp.mono _ _ _ _ _ (he cl C fp s2 H2 D _ s7 σ6 H7 _ ys ob I7 (List.mem_append_left _ (List.mem_singleton.mpr rfl)) vs3 hlen q7) fun s9 ⟨y,H8,s8,h9,o9,tk9,I8,a9,sb9,g9,e9,q8⟩=>?_
    subst e9
    obtain ⟨m',hm',w8⟩:=hN _ _ _ q8
    obtain ⟨b1,b2,b3,b4⟩:=back I8
    have I8n:Inv (cxC X Nc scope cl C fp s2 H2) [] σ6 H8 s8:=I8.pins_of fun p hp=>nomatch hp
    have I9:Inv (cxC X Nc scope cl C fp s2 H2) [] σ6 H8 { s8 with heap:=h9,toks:=tk9 }:=
     I8n.turned (it:=D) (fun b o hb e=>sb9.extBut b o hb e) b3 hDC (.inr hDle) (fun x c e z=>by
      obtain ⟨w',z'⟩:=I2.cell x c (hcl1 _ _ e)
      exact absurd (Nat.lt_of_lt_of_le z'.lt hDle) (by rw [z];exact Nat.lt_irrefl _)) (fun p hp=>nomatch hp)
    refine ⟨m',hm',i+1,ys ++ [y],σ6,H8,o9,I9,T.keep _ _ _ b1 fun b hb o e=>sb9.extBut b o (Nat.ne_of_lt (Nat.lt_of_lt_of_le (hfp b hb) hDle)) e,b2,b3,g9,a9,w8⟩
 exact hlp.start _ D _ _ loop (T.self X.A 0 _ _ _ (T.keep _ _ _ st2 fun b hb o e=>old b o e) loop)
end L2
end
section
set_option Elab.async false
set_option linter.all false
set_option maxRecDepth 100000
set_option maxHeartbeats 4000000
namespace L2
open PySem PySem.Spec PyProof.Rows
theorem zjQ (elt target iter:Expr) (ifs:List Expr) (scope:Scope) (pos:Pos) (it acc:Value) (env:Env):compTurn (.SetComp elt [⟨target,iter,ifs,0⟩] scope pos) 0 it acc env=(do
   standAt iter.pos;match ← pyNext it with
   | none=>pure (.done .next)
   | some v=>do
    letOwnedTupleGo target it v;assign target env v;let mut ok:=true
    for c in ifs do if ok then ok ← isTrue c env (eval c env)
    if ok then (do let v ← eval elt env;standAt elt.pos;let _ ← call (.builtin "set.add") [acc,v])
    again (.compLoop (.SetComp elt [⟨target,iter,ifs,0⟩] scope pos) 0 it acc env)):=by rfl
section
variable {prog:Program} {w:World} {A:Around} {E:Value→Shared→Prop} {R:Result→Shared→Prop} {s:Shared}
theorem zif {elt target iter ifs rest scope pos it acc env}
  (h0:codeAny (model prog w) A (.compLoop (.SetComp elt (⟨target,iter,ifs,0⟩ :: rest) scope pos) 0 it acc env) R s)
  (h:wpAny (model prog w) A (pyIter it) (fun it' s'=>codeAny (model prog w) A (.compLoop (.SetComp elt (⟨target,iter,ifs,0⟩ :: rest) scope pos) 0 it' acc env) R s') (notedBy (model prog w) A env fun x s'=>R (.error x) s') s) :
  codeAny (model prog w) A (.compStart (.SetComp elt (⟨target,iter,ifs,0⟩ :: rest) scope pos) 0 it acc env) R s:=by
 refine codeAny_of_tree ?_
 show wpAny _ A ((compStart (.SetComp elt (⟨target,iter,ifs,0⟩ :: rest) scope pos) 0 it acc env).onRaise (fun x=>do noteFrame x env;standAt theWindowsPlace)) _ _ s
 refine wpAny_notedAt ?_;unfold compStart;show wpAny _ A (ask >>= _) _ _ s;refine wpAny_bind (wpAny_askSetting (wpAny_ite ?_))
 split
 ·first | exact wpAny_bind (wpAny_pure (wpAny_pure (And.intro rfl h0))) | exact wpAny_pure (And.intro rfl h0)
 ·first | exact wpAny_bind (wpAny_rule (wpAny_bind (wpAny_standAt (wpAny_bind (wpAny_mono h (fun it' s' h'=>wpAny_pure (And.intro rfl h')) fun _ _ x=>x))))) | (refine wpAny_bind (wpAny_rule ?_);show wpAny _ _ (standAt iter.pos >>= _) _ _ s;exact wpAny_bind (wpAny_standAt (wpAny_bind (wpAny_mono h (fun it' s' h'=>wpAny_pure (And.intro rfl h')) fun _ _ x=>x))))
def EMs (prog:Program) (w:World) (A:Around) (elt:Expr) (env:Env) (D:Addr) (p:Shared→Prop) (s:Shared):Prop:=
 wpAny (model prog w) A (eval elt env) (fun v s5=>wpAny (model prog w) A (call (.builtin "set.add") [.ref D,v]) (fun _ s6=>p s6) (fun _ _=>False) s5) (fun _ _=>False) s
theorem zkn {elt target iter:Expr} {ifs:List Expr} {scope:Scope} {pos:Pos} {it:Value}:CLoop prog w A target ifs (.SetComp elt [⟨target,iter,ifs,0⟩] scope pos) it (EMs prog w A elt) where
 mono:=fun env D p q s h k=>wpAny_mono h (fun v s5 h5=>wpAny_mono h5 (fun _ s6 h6=>k s6 h6) fun _ _ e=>e) fun _ _ e=>e
 loop:=fun env D I {R} turn n s h=>by
  refine codeAny_loop rfl I (fun n s hI=>?_) n h
  show wpAny _ A ((compTurn (.SetComp elt [⟨target,iter,ifs,0⟩] scope pos) 0 it (.ref D) env).onRaise (fun x=>do noteFrame x env;theTreesLotGoes x)) _ _ s
  refine wpAny_noted ?_
  rw [zjQ]
  refine wpAny_bind (wpAny_standAt (wpAny_bind (wpAny_mono (turn n s hI) (fun r s1 h1=>?_) fun _ _ h'=>h'.elim)))
  cases r with
  | none=>exact wpAny_pure h1
  | some v =>
   refine wpAny_bind (wpAny_mono h1 (fun _ s2 h2=>?_) fun _ _ h'=>h'.elim)
   refine wpAny_bind (wpAny_mono h2 (fun _ s3 h3=>wpAny_bind (wpAny_mono h3 (fun ok s4 h4=>?_) fun _ _ h'=>h'.elim)) fun _ _ h'=>h'.elim)
   cases ok with
   | false=>exact wpAny_pure ⟨rfl,h4⟩
   | true =>
    exact wpAny_bind (wpAny_bind (wpAny_mono h4 (fun x s5 h5=>wpAny_bind (wpAny_standAt (wpAny_bind (wpAny_mono h5 (fun _ s6 h6=>wpAny_pure (wpAny_pure ⟨rfl,h6⟩)) fun _ _ h'=>h'.elim)))) fun _ _ h'=>h'.elim))
 start:=fun env D R s h0 h=>zif h0 h
end
def dd (ys:List Int):List Int:=ys.foldl (fun S n=>if n∈S then S else S ++ [n]) []
theorem zl5 (ys:List Int) (n:Int):dd (ys ++ [n])=if n∈dd ys then dd ys else dd ys ++ [n]:=by unfold dd;rw [List.foldl_append];rfl
theorem zle (ys:List Int):(dd ys).length≤ys.length:=by
 have g:∀ (l:List Int) (S:List Int),(l.foldl (fun S n=>if n∈S then S else S ++ [n]) S).length≤S.length+l.length:=by
  intro l
  induction l with
  | nil=>intro S;exact Nat.le_refl _
  | cons a l ih =>
   intro S
   refine Nat.le_trans (ih _) ?_
   dsimp only
   split
   ·rw [List.length_cons];omega
   ·have e1:(S ++ [a]).length=S.length+1:=by rw [List.length_append];rfl
    have e2:(a :: l).length=l.length+1:=rfl
    omega
 have:=g ys []
 simpa [dd] using this
theorem mem_dd {ys:List Int} {n:Int}:n∈dd ys↔n∈ys:=by
 have g:∀ (l:List Int) (S:List Int),n∈(l.foldl (fun S n=>if n∈S then S else S ++ [n]) S)↔n∈S∨n∈l:=by
  intro l
  induction l with
  | nil=>intro S;simp
  | cons a l ih =>
   intro S
   rw [List.foldl_cons,ih]
   by_cases h:a∈S
   ·rw [if_pos h]
    constructor
    ·rintro (z | z)
     ·exact .inl z
     ·exact .inr (List.mem_cons_of_mem _ z)
    ·rintro (z | z)
     ·exact .inl z
     ·rcases List.mem_cons.mp z with rfl | z
      ·exact .inl h
      ·exact .inr z
   ·rw [if_neg h];simp [or_assoc]
 have:=g ys []
 simpa [dd] using this
def AOs (w:World) (ys:List Int) (o:Obj):Prop:=∃ es ep t,o=sObj es ep t∧(∀ e∈es.toList,EOk e)∧(zjl es.toList).Perm (dd ys)∧(dd ys).Nodup∧Tab (!w.params.followText "set-order") t es.size
theorem AOs.at {w:World} {ys:List Int} {o:Obj} (x:AOs w ys o) {h:Heap} {a:Addr} (e:h.get? a=some o):SetI (!w.params.followText "set-order") h a (dd ys):=by
 obtain ⟨es,ep,t,rfl,r⟩:=x
 exact ⟨es,ep,t,e,r⟩
def emS (te:TE):TEm Int:=fun σ H Q=>te σ H fun v H1=>∃ i,v = .int i∧Q i H1
theorem zlC {Y:Cx} {elt:Expr} {te:TE} (he:PE Y elt te) (hxe:Y.xe=fun _ _=>False):PEm 500 Y (EMs Y.prog Y.w Y.A elt) (AOs Y.w) (emS te):=by
 intro D pins s σ H Q ys o I hp ao hl h
 refine wpAny_mono (he pins s σ H _ I h) (fun v s5 ⟨x,H5,I5,rx,i,ex,q⟩=>?_) fun e s' z=>by rw [hxe] at z;exact z
 subst ex
 obtain ⟨t,rfl⟩:=(show ∃ t,v=Value.int i t from rx)
 have g5:=(I5.pin (D,o) (List.mem_append_right _ hp)).1
 refine zlw (ao.at g5) (Nat.lt_of_le_of_lt (zle ys) (by omega)) fun h' sb x=>?_
 rw [← zl5] at x
 obtain ⟨es,ep,t',g',r'⟩:=x
 exact ⟨i,H5,s5,h',_,_,I5,⟨es,ep,t',rfl,r'⟩,sb,g',rfl,q⟩
section
variable {X:Cx} {Nc:List Str} {src:List (Option Nat)} {scope:Scope} {elt tg iter:Expr} {ifs:List Expr} {pos:Pos} {wi:TI} {g:TG} {tf:TT} {te:TE}
theorem zlg (cl:List (Str×Addr)) (C:Addr) (fp:List Addr) (s2:Shared) (H2:Hp):(cxC X Nc scope cl C fp s2 H2).xe=fun _ _=>False:=rfl
def tSetC (w:World) (src:List (Option Nat)) (wi:TI) (g:TG) (tf:TT) (te:TE):TE:=fun σ H Q=>wi σ H fun J H1 =>
 zga 500 J g tf (emS te) (fun ys H2=>∀ D,H2 D=none→Q (.ref D) (upd H2 D (.ext (stI w D (dd ys))))) (za9 src σ) H1
theorem mk_set {prog:Program} {w:World} {A:Around} {E:Value→Shared→Prop} (Q:Value→Shared→Prop) (s:Shared) (q:Q (.ref s.heap.objs.size) { s with heap:=s.heap.push (sObj #[] 0 (.fresh 0 0 (!w.params.followText "set-order"))) }):wpAny (model prog w) A (newSet (.type "set")) Q E s:=by
 unfold newSet setsByText
 exact wpAny_bind (wpAny_bind (wpAny_askSetting (wpAny_pure (wpAny_newObj_type q))))
theorem ev_set (elt:Expr) (gens:List Comprehension) (scope:Scope) (pos:Pos) (env:Env):eval (.SetComp elt gens scope pos) env=comprehension (.SetComp elt gens scope pos) scope env (firstIterPos gens pos) (newSet (.type "set")) (firstAsync gens) (firstIter gens env):=rfl
theorem zhH (src:List (Option Nat)) (hc:X.calm=true) (S:CompOk X.N X.env.scope Nc src scope) (hi:PI X tg iter wi)
  (hg:∀ cl C fp s2 H2,PG (cxC X Nc scope cl C fp s2 H2) tg g) (hf:∀ cl C fp s2 H2,PF (cxC X Nc scope cl C fp s2 H2) ifs tf) (he:∀ cl C fp s2 H2,PE (cxC X Nc scope cl C fp s2 H2) elt te)
  (hs:∀ x,foldedSetIterable iter X.env x=pure x:=by intro _;rfl):PE X (.SetComp elt [⟨tg,iter,ifs,0⟩] scope pos) (tSetC X.w src wi g tf te):=by
 intro pins s σ H Q I h
 obtain ⟨cl,hclos,hcl1,hcl2⟩:=zbf I.ok (scope:=scope) S.free
 rw [ev_set]
 refine wpAny_comprehension_free (use:=none) rfl hs hclos S.kind (fun x hx hl=>by obtain ⟨n,k⟩:=x;cases hl;exact zbe S.nodup hx) (thn (hi pins s σ H _ I h) fun xv s1 h1=>thn h1 fun itv s2 h2=>?_)
 obtain ⟨it,fp,tn,J,H2,e,I2,T,st2,f2,hw⟩:=h2
 subst e
 refine zeF (α:=Int) (B:=500) (ho:=fun D ys=>.ext (stI X.w D (dd ys))) (AO:=AOs X.w) (RR:=fun acc C=>compPost (model X.prog X.w) X.A X.xe none (EP X pins σ Q) acc C) hc I2 S hcl1 hcl2 T st2 f2 hg hf (fun cl C fp s2 H2=>zlC (he cl C fp s2 H2) (zlg cl C fp s2 H2)) mk_set rfl ?_ ?_ ?_ zkn hw ?_
 ·exact ⟨#[],0,_,rfl,(fun e he=>nomatch he),.rfl,List.nodup_nil,⟨rfl,List.Pairwise.nil,rfl⟩⟩
 ·rintro ys o v ⟨es,ep,t,rfl,_⟩ z
  have z':Data.set es ep t=Data.cell v:=z
  cases z'
 ·intro ys o H h D ao _ _ g'
  exact stI_ok (ao.at g')
 intro H4 s4 ys m C hC hD Iout hn hCn q
 refine ⟨m,hn,fun h' sb=>⟨.ref s2.heap.objs.size,_,?_,rfl,q _ hD⟩⟩
 obtain ⟨f0,f1,f3,f4,f5,f6⟩:=I2.fpOk (H':=upd H4 s2.heap.objs.size (.ext (stI X.w s2.heap.objs.size (dd ys)))) hC hCn
 exact Iout.turned (t':=s4.toks) (it:=C) (fun b o hb e=>(sb.2 b hb).trans e) f0 f1 f4 f5 f6
end
end L2
end
section
set_option Elab.async false
set_option linter.all false
set_option maxRecDepth 100000
set_option maxHeartbeats 4000000
namespace L2
open PySem PySem.Spec PyProof.Rows
section
variable {prog:Program} {w:World} {A:Around} {E:Value→Shared→Prop} {R:Result→Shared→Prop} {s:Shared}
def EMd (prog:Program) (w:World) (A:Around) (kx vx:Expr) (env:Env) (D:Addr) (p:Shared→Prop) (s:Shared):Prop:=
 wpAny (model prog w) A (eval kx env) (fun kv s4=>wpAny (model prog w) A (eval vx env) (fun vv s5=>wpAny (model prog w) A (dictSet D kv vv) (fun _ s6=>p s6) (fun _ _=>False) s5) (fun _ _=>False) s4) (fun _ _=>False) s
theorem zi5 {kx vx target iter:Expr} {ifs:List Expr} {scope:Scope} {pos:Pos} {it:Value}:CLoop prog w A target ifs (.DictComp kx vx [⟨target,iter,ifs,0⟩] scope pos) it (EMd prog w A kx vx) where
 mono:=fun env D p q s h k=>wpAny_mono h (fun v s5 h5=>wpAny_mono h5 (fun _ s6 h6=>wpAny_mono h6 (fun _ s7 h7=>k s7 h7) fun _ _ e=>e) fun _ _ e=>e) fun _ _ e=>e
 loop:=fun env D I {R} turn n s h=>by
  refine codeAny_loop rfl I (fun n s hI=>?_) n h
  show wpAny _ A ((compTurn (.DictComp kx vx [⟨target,iter,ifs,0⟩] scope pos) 0 it (.ref D) env).onRaise (fun x=>do noteFrame x env;theTreesLotGoes x)) _ _ s
  refine wpAny_noted ?_
  rw [compTurn_dict]
  refine wpAny_bind (wpAny_standAt (wpAny_bind (wpAny_mono (turn n s hI) (fun r s1 h1=>?_) fun _ _ h'=>h'.elim)))
  cases r with
  | none=>exact wpAny_pure h1
  | some v =>
   refine wpAny_bind (wpAny_mono h1 (fun _ s2 h2=>?_) fun _ _ h'=>h'.elim)
   refine wpAny_bind (wpAny_mono h2 (fun _ s3 h3=>wpAny_bind (wpAny_mono h3 (fun ok s4 h4=>?_) fun _ _ h'=>h'.elim)) fun _ _ h'=>h'.elim)
   cases ok with
   | false=>exact wpAny_pure ⟨rfl,h4⟩
   | true =>
    exact wpAny_bind (wpAny_bind (wpAny_mono h4 (fun kv s5 h5=>wpAny_bind (wpAny_holding (wpAny_mono h5 (fun vv s6 h6=>wpAny_bind (wpAny_standAt (wpAny_holding (wpAny_mono h6 (fun _ s7 h7=>wpAny_pure ⟨rfl,h7⟩) fun _ _ h'=>h'.elim)))) fun _ _ h'=>h'.elim))) fun _ _ h'=>h'.elim))
 start:=fun env D R s h0 h=>codeAny_compStart_dict h0 h
end
def dk (ys:List (Key×V)):List (Key×V):=ys.foldl (fun kvs p=>putK kvs p.1 p.2) []
theorem zjm (ys:List (Key×V)) (p:Key×V):dk (ys ++ [p])=putK (dk ys) p.1 p.2:=by unfold dk;rw [List.foldl_append];rfl
theorem zha (kvs:List (Key×V)) (k:Key) (v:V):(putK kvs k v).length≤kvs.length+1:=by
 unfold putK
 split
 ·rw [List.length_map];exact Nat.le_succ _
 ·rw [List.length_append];exact Nat.le_refl _
theorem zlc (ys:List (Key×V)):(dk ys).length≤ys.length:=by
 have g:∀ (l:List (Key×V)) (S:List (Key×V)),(l.foldl (fun kvs p=>putK kvs p.1 p.2) S).length≤S.length+l.length:=by
  intro l
  induction l with
  | nil=>intro S;exact Nat.le_refl _
  | cons a l ih =>
   intro S
   have h1:=ih (putK S a.1 a.2)
   have h2:=zha S a.1 a.2
   have e2:(a :: l).length=l.length+1:=rfl
   rw [List.foldl_cons]
   omega
 have:=g ys []
 simpa [dk] using this
def AOd (P:Program) (w:World) (ys:List (Key×V)) (o:Obj):Prop:=(∃ es ep,o.data = .dict es ep)∧∃ vs,KV (dk ys) vs∧∀ (h:Heap) (a:Addr),h.get? a=some o→h.DictOf (zaH P w) a vs
def emD (tk tv:TE):TEm (Key×V):=fun σ H Q=>tk σ H fun x H1=>∃ k,x=kV k∧tv σ H1 fun y H2=>Q (k,y) H2
theorem zkb {Y:Cx} {kx vx:Expr} {tk tv:TE} (hk:PE Y kx tk) (hv:PE Y vx tv) (hxe:Y.xe=fun _ _=>False):PEm 1000 Y (EMd Y.prog Y.w Y.A kx vx) (AOd Y.prog Y.w) (emD tk tv):=by
 intro D pins s σ H Q ys o I hp ao hl h
 refine wpAny_mono (hk pins s σ H _ I h) (fun kv s4 ⟨x,H4,I4,rx,k,ex,q4⟩=>?_) fun e s' z=>by rw [hxe] at z;exact z
 subst ex
 refine wpAny_mono (hv pins s4 σ H4 _ I4 q4) (fun vv s5 ⟨y,H5,I5,ry,q⟩=>?_) fun e s' z=>by rw [hxe] at z;exact z
 have g5:=(I5.pin (D,o) (List.mem_append_right _ hp)).1
 obtain ⟨_,vs,rel,dof⟩:=ao
 have hz:vs.length≤sizeLine:=by
  have e1:=rel.length
  have e2:=zlc ys
  exact Nat.le_trans (show vs.length≤1000 by omega) (by decide)
 refine wpAny_dictSet_pairs (hsz:=hz) (zku rx) (dof _ _ g5) fun h' dd' sb=>?_
 obtain ⟨o',es,ep,g',x1,x2,x3⟩:=dd'
 refine ⟨(k,y),H5,s5,h',o',_,I5,⟨⟨es,ep,x2⟩,stored vs k vv,?_,fun h a e=>⟨o',es,ep,e,x1,x2,x3⟩⟩,sb,g',rfl,q⟩
 rw [zjm]
 exact rel.put k ry
section
variable {X:Cx} {Nc:List Str} {src:List (Option Nat)} {scope:Scope} {kx vx tg iter:Expr} {ifs:List Expr} {pos:Pos} {wi:TI} {g:TG} {tf:TT} {tk tv:TE}
def tDictC (src:List (Option Nat)) (wi:TI) (g:TG) (tf:TT) (tk tv:TE):TE:=fun σ H Q=>wi σ H fun J H1 =>
 zga 1000 J g tf (emD tk tv) (fun ys H2=>∀ D,H2 D=none→Q (.ref D) (upd H2 D (.dK (dk ys)))) (za9 src σ) H1
theorem zlL {prog:Program} {w:World} {A:Around} {E:Value→Shared→Prop} (Q:Value→Shared→Prop) (s:Shared) (q:Q (.ref s.heap.objs.size) { s with heap:=s.heap.push { cls:=.type "dict",data:=.dict #[] } }):wpAny (model prog w) A newDict Q E s:=by
 unfold newDict
 exact wpAny_newObj_type q
theorem zl3 {prog:Program} {w:World}:AOd prog w [] ({ cls:=.type "dict",data:=.dict #[] }:Obj):=
 ⟨⟨#[],0,rfl⟩,[],.nil,fun h a e=>⟨_,#[],0,e,⟨rfl,rfl,rfl⟩,rfl,(fun e he=>by simp at he),.nil,List.nodup_nil⟩⟩
theorem zma {P:Program} {w:World} {ys:List (Key×V)} {o:Obj} {H:Hp} {h:Heap} {D:Addr} (ao:AOd P w ys o) (hl:ys.length≤1000) (hs:sysModules<D) (e:h.get? D=some o):ObjOk P w H h D (.dK (dk ys)):=by
 obtain ⟨_,vs,rel,dof⟩:=ao
 exact ⟨Nat.le_trans (zlc ys) (Nat.le_trans hl (by decide)),beq_eq_false_iff_ne.mpr (Ne.symm (Nat.ne_of_lt hs)),vs,rel,dof _ _ e⟩
end
end L2
end
section
set_option Elab.async false
set_option linter.all false
set_option maxRecDepth 100000
set_option maxHeartbeats 4000000
namespace L2
open PySem PySem.Spec PyProof.Rows
section
variable {X:Cx} {Nc:List Str} {src:List (Option Nat)} {scope:Scope} {kx vx tg iter:Expr} {ifs:List Expr} {pos:Pos} {wi:TI} {g:TG} {tf:TT} {tk tv:TE}
theorem zgz {i:Nat} {y:Str} {pos' spos:Pos} (src:List (Option Nat)) (hN:X.N.Nodup) (hi':X.N[i]? = some y) (hy:X.env.scope.names.lookup y=some .local)
  (hc:X.calm=true) (S:CompOk X.N X.env.scope Nc src scope) (hi:PI X tg iter wi)
  (hg:∀ cl C fp s2 H2,PG (cxC X Nc scope cl C fp s2 H2) tg g) (hf:∀ cl C fp s2 H2,PF (cxC X Nc scope cl C fp s2 H2) ifs tf) (hk:∀ cl C fp s2 H2,PE (cxC X Nc scope cl C fp s2 H2) kx tk) (hv:∀ cl C fp s2 H2,PE (cxC X Nc scope cl C fp s2 H2) vx tv)
  (hsw:swapsWith (.DictComp kx vx [⟨tg,iter,ifs,0⟩] scope pos) (some (.Name y pos')) spos.line X.env=pure true:=by rfl)
  (hs:∀ x,foldedSetIterable iter X.env x=pure x:=by intro _;rfl):PS X (.Assign [.Name y pos'] (.DictComp kx vx [⟨tg,iter,ifs,0⟩] scope pos) spos) (tAsg (tDictC src wi g tf tk tv) (za5 i)):=by
 intro pins s σ H D I h
 obtain ⟨cl,hclos,hcl1,hcl2⟩:=zbf I.ok (scope:=scope) S.free
 rw [exec_Assign_Name_used _ _ _ _ hsw]
 refine wpAny_bind (wpAny_standAt (wpAny_bind ?_))
 show wpAny _ X.A (do let _ ← comprehension (.DictComp kx vx [⟨tg,iter,ifs,0⟩] scope pos) scope X.env _ newDict false (eval iter X.env) (some (assign (.Name y pos') X.env))) _ _ s
 refine wpAny_bind (wpAny_mono (wpAny_comprehension_free (use:=some (assign (.Name y pos') X.env)) (Q:=fun _ s'=>SP X pins D .next s') rfl hs hclos S.kind (fun x hx hl=>by obtain ⟨n,k⟩:=x;cases hl;exact zbe S.nodup hx)
  (thn (hi pins s σ H _ I h) fun xv s1 h1=>thn h1 fun itv s2 h2=>?_)) (fun _ s' hq=>wpAny_pure (wpAny_pure hq)) fun _ _ e=>e)
 obtain ⟨it,fp,tn,J,H2,e,I2,T,st2,f2,hw⟩:=h2
 subst e
 refine zeF (α:=Key×V) (B:=1000) (ho:=fun _ ys=>.dK (dk ys)) (AO:=AOd X.prog X.w) (RR:=fun acc C=>compPost (model X.prog X.w) X.A X.xe (some (assign (.Name y pos') X.env)) (fun _ s'=>SP X pins D .next s') acc C) hc I2 S hcl1 hcl2 T st2 f2 hg hf (fun cl C fp s2 H2=>zkb (hk cl C fp s2 H2) (hv cl C fp s2 H2) (zlg cl C fp s2 H2)) zlL rfl zl3 ?_ ?_ zi5 hw ?_
 ·rintro ys o v ⟨⟨es,ep,e⟩,_⟩ z
  rw [e] at z;cases z
 ·intro ys o H h D ao hl hD g'
  exact zma ao hl (Nat.lt_of_lt_of_le I2.big hD) g'
 intro H4 s4 ys m C hC hD Iout hn hCn q
 show wpAny _ X.A (assign (.Name y pos') X.env (.ref s2.heap.objs.size)) _ _ _
 refine wpAny_assign_Name (zdy (i:=i) Iout hN hi' (.inl hy) (v:=.ref s2.heap.objs.size) rfl (fun s5 I5 ch=>?_) (.inr hy))
 obtain ⟨f0,f1,f3,f4,f5,f6⟩:=I2.fpOk (H':=upd H4 s2.heap.objs.size (.dK (dk ys))) hC hCn
 obtain ⟨a,sb,ha⟩:=ch
 have hCa:C≠a:=by
  rcases ha with ha | ha
  ·rw [ha];exact f1
  ·exact fun z=>f5 _ _ ha z.symm
 refine ⟨m,hn.sameBut sb hCa,fun h' sb'=>⟨_,_,I5.turned (t':=s5.toks) (it:=C) (fun b o hb e=>(sb'.2 b hb).trans e) f0 f1 f4 f5 f6,q _ hD⟩⟩
end
end L2
end
section
set_option Elab.async false
set_option linter.all false
set_option maxRecDepth 100000
set_option maxHeartbeats 4000000
namespace L2
open PySem PySem.Spec PyProof.Rows
section
variable {X:Cx}
def vwV (p a:Addr):Heap→Prop:=fun h=>h.IsValuesView p a
theorem zi4:MtR X "dict.values" (fun x vs H Q=>∃ (a:Addr) (kvs:List (Key×V)),x = .ref a∧vs=[]∧H a=some (.dK kvs)∧∀ p,H p=none→Q (.ref p) (upd H p (.ext (vwV p a)))):=by
 rintro pins s σ H x vs v us Q I rx rv ⟨a,kvs,rfl,rfl,e,q⟩
 obtain rfl:v=Value.ref a:=rx
 have hus:=rv.zero
 subst hus
 obtain ⟨hz,lo,vs,rel,dd⟩:=zjn I.hok e
 refine call_meetsIn PySem.F.slot_dict_values dd.typeIs PySem.F.entry_dict_values (PySem.F.args_dict_values_1 _) (meets_dict_values (zaH X.prog X.w) a lo) ⟨⟨vs,dd⟩,?_⟩
 refine ⟨.ref s.heap.objs.size,_,I.laid (t':=s.toks) (o:=.ext (vwV s.heap.objs.size a)) (fun b o eb=>Heap.get?_push_of_some _ eb) (Nat.le_refl _) ?_,rfl,q _ (I.hok.fresh (Nat.le_refl _))⟩
 have g:(s.heap.push { cls:=.type "dict_values",data:=.fields #[.ref a] }).get? s.heap.objs.size=some { cls:=.type "dict_values",data:=.fields #[.ref a] }:=Heap.get?_push_size _ rfl
 exact ⟨⟨_,g,rfl,rfl⟩,⟨_,g⟩,fun h1 h2 ⟨o1,q1,q2,q3⟩ k=>⟨o1,k _ q1,q2,q3⟩⟩
def tForV0 (te:TE):TS:=fun D σ H=>te σ H fun x H1=>∃ p a,x = .ref p∧H1 p=some (.ext (vwV p a))∧H1 a=some (.dK [])∧D.nx σ H1
theorem zj9 {tg iter:Expr} {body:List Stmt} {te:TE} {pos:Pos} (hp:PassesOwn (model X.prog X.w) X.A X.env X.xe) (hc:X.calm=true) (hi:PE X iter te)
  (hs:∀ x,foldedSetIterable iter X.env x=pure x:=by intro _;rfl):PS X (.For tg iter body [] pos) (tForV0 te):=by
 intro pins s σ H D I h
 refine wpAny_For (thn (hi pins s σ H _ I h) fun v s1 ⟨x,H1,I1,rx,p,a,ex,ep,ea,q⟩=>?_) hs
 subst ex
 obtain rfl:v=Value.ref p:=rx
 obtain ⟨hz,lo,vs,rel,dd⟩:=zjn I1.hok ea
 obtain ⟨ep',da⟩:=dd.dictAt
 have vw:s1.heap.IsValuesView p a:=(I1.hok p _ ep).1
 have hv0:vs=[]:=List.length_eq_zero_iff.mp (rel.length.symm ▸ rfl)
 subst hv0
 refine wpAny_pyIter_values vw da ?_
 refine codeAny_forLoop_any (fun n s'=>s'=_) ?_ 0 rfl
 rintro n s3 rfl
 have I2:Inv X pins σ H1 { s1 with heap:=s1.heap.push { cls:=Value.type "dict_valueiterator",data:=Data.fields #[Value.ref a,Value.int 0 0,Value.int (([]:List (Key×Value)).length:Nat) 0,Value.int (ep':Int) 0] } }:=I1.kept (t':=s1.toks) fun b o e=>Heap.get?_push_of_some _ e
 obtain ⟨f0,f1,f3,f4,f5,f6⟩:=I1.fpOk (Nat.le_refl _) (I1.hok.fresh (Nat.le_refl _))
 refine wpAny_passesOwn hp (wpAny_pyNext_values_end (knd:=zaH X.prog X.w) (I1.ok.hd hc) (i:=0) (kvs:=[]) ⟨_,Heap.get?_push_size _ rfl,rfl,rfl⟩ (ep:=ep') ?_ rfl fun h' eb=>?_)
 ·obtain ⟨o,es,g,r⟩:=da
  exact ⟨o,es,Heap.get?_push_of_some _ g,r⟩
 ·exact wpAny_execs_nil ⟨σ,H1,I2.turned (t':=s1.toks) (fun b o hb e=>eb b o hb e) f0 f1 f4 f5 f6,q⟩
end
section
variable {K:PySem.W.Frag} {α:Type} {B:Nat} {g:TG} {tf:TT} {em:TEm α} {Q:List α→Hp→Prop} {σ:St} {H:Hp}
theorem zh1 {a:Addr} {xs:List V} (Pv:Nat→List α→St→Hp→Prop) (hn:xs.length≤B) (h0:Pv 0 [] σ H) (hl:∀ i ys σ H,i≤xs.length→Pv i ys σ H→SqL K H a xs∧ys.length≤i)
  (hs:∀ i x ys σ H,xs[i]? = some x→Pv i ys σ H→g x σ H fun σ2 H2=>tf σ2 H2 fun b H3=>if b=true then em σ2 H3 fun y H4=>Pv (i+1) (ys ++ [y]) σ2 H4 else Pv (i+1) ys σ2 H3)
  (hd:∀ ys σ H,Pv xs.length ys σ H→Q ys H):zga B (Itl K a) g tf em Q σ H:=by
 refine ⟨fun i m ys σ H=>m=xs.length - i∧i≤xs.length∧Pv i ys σ H,⟨xs.length,by simp,Nat.zero_le _,h0⟩,?_⟩
 rintro i m ys σ H ⟨rfl,hi,p⟩
 obtain ⟨q,hz⟩:=hl i ys σ H hi p
 by_cases hlt:i<xs.length
 ·refine .inr ⟨⟨xs,xs[i],q,by simp [hlt]⟩,by omega,Pv (i+1),fun ys' σ' H' p'=>⟨xs.length - (i+1),by omega,rfl,hlt,p'⟩,fun x H' y=>?_⟩
  obtain ⟨e,y⟩:=y
  subst e
  exact hs i x ys σ _ (y xs q) p
 ·have e:i=xs.length:=by omega
  subst e
  exact .inl ⟨⟨xs,q,Nat.le_refl _⟩,by omega,hd ys σ H p⟩
theorem zjv {a:Addr} {xs:List V} (Pv:Nat→List α→St→Hp→Prop) (hn:xs.length≤B) (h0:Pv 0 [] σ H) (hl:∀ i ys σ H,i≤xs.length→Pv i ys σ H→SqT K H a xs∧ys.length≤i)
  (hs:∀ i x ys σ H,xs[i]? = some x→Pv i ys σ H→g x σ H fun σ2 H2=>tf σ2 H2 fun b H3=>if b=true then em σ2 H3 fun y H4=>Pv (i+1) (ys ++ [y]) σ2 H4 else Pv (i+1) ys σ2 H3)
  (hd:∀ ys σ H,Pv xs.length ys σ H→Q ys H):zga B (Itt K a) g tf em Q σ H:=by
 refine ⟨fun i m ys σ H=>m=xs.length - i∧i≤xs.length∧Pv i ys σ H,⟨xs.length,by simp,Nat.zero_le _,h0⟩,?_⟩
 rintro i m ys σ H ⟨rfl,hi,p⟩
 obtain ⟨q,hz⟩:=hl i ys σ H hi p
 by_cases hlt:i<xs.length
 ·refine .inr ⟨⟨xs,xs[i],q,by simp [hlt]⟩,by omega,Pv (i+1),fun ys' σ' H' p'=>⟨xs.length - (i+1),by omega,rfl,hlt,p'⟩,fun x H' y=>?_⟩
  obtain ⟨e,y⟩:=y
  subst e
  exact hs i x ys σ _ (y xs q) p
 ·have e:i=xs.length:=by omega
  subst e
  exact .inl ⟨⟨xs,q,Nat.le_refl _⟩,by omega,hd ys σ H p⟩
end
theorem zlD {X:Cx} {K:PySem.W.Frag} {e:Expr} {ta:TE} {f:Str} {pos:Pos} (hK:X.K=K) (he:PE X e ta) (hb:attributeBase e f X.env (eval e X.env)=eval e X.env):PE X (.Attribute e f pos) (tFld K ta f):=by subst hK;exact zbu he hb
end L2
end
section
set_option Elab.async false
set_option linter.all false
set_option maxRecDepth 100000
set_option maxHeartbeats 4000000
namespace L2
open PySem PySem.Spec PyProof.Rows
theorem zkx {t:Bool} {a b:Addr} {xs ys:List V} {g:TG} {tb:TS} {D:Ends} {σ:St} {H:Hp} (Pv:Nat→St→Hp→Prop) (he:xs.length=ys.length) (h0:Pv 0 σ H) (hl:∀ i σ H,i≤xs.length→Pv i σ H→SqX t H a xs∧SqX t H b ys)
  (hs:∀ i x y T σ H,xs[i]? = some x→ys[i]? = some y→H T=none→Pv i σ H→g (.ref T) σ (upd H T (.tup [x,y])) fun σ2 H2=>tb { D with nx:=Pv (i+1),ct:=Pv (i+1),bk:=D.nx } σ2 H2) (hd:∀ σ H,Pv xs.length σ H→D.nx σ H) :
  ∃ W:Nat→Nat→St→Hp→Prop,(∃ m,W 0 m σ H)∧∀ i m σ H,W i m σ H →
   ((Ity t a b).stop i H∧D.nx σ H)∨((Ity t a b).go i H∧∃ N:St→Hp→Prop,(∀ σ' H',N σ' H'→∃ m',m'<m∧W (i+1) m' σ' H')∧∀ x H',(Ity t a b).yld i H x H'→g x σ H' fun σ2 H2=>tb { D with nx:=N,ct:=N,bk:=D.nx } σ2 H2):=by
 refine ⟨fun i m σ H=>m=xs.length - i∧i≤xs.length∧Pv i σ H,⟨xs.length,by simp,Nat.zero_le _,h0⟩,?_⟩
 rintro i m σ H ⟨rfl,hi,p⟩
 obtain ⟨q,q2⟩:=hl i σ H hi p
 by_cases hlt:i<xs.length
 ·refine .inr ⟨⟨xs,xs[i],ys,ys[i]'(by omega),q,q2,by simp [hlt],by simp [he ▸ hlt]⟩,Pv (i+1),fun σ' H' p'=>⟨xs.length - (i+1),by omega,rfl,hlt,p'⟩,fun v H' y=>?_⟩
  obtain ⟨T,x,y',hT,rfl,rfl,y1,y2⟩:=y
  exact hs i x y' T σ _ (y1 xs q) (y2 ys q2) hT p
 ·have e:i=xs.length:=by omega
  exact .inl ⟨⟨xs,q,by omega⟩,hd σ H (e ▸ p)⟩
section
variable {X:Cx} {k:Nat} {ks:List Str} {m:Str} {pos apos:Pos} {e o:Expr} {es:List Expr} {kws:List Keyword} {ta:TE} {t tk:TA}
end
end L2
end
set_option Elab.async false
set_option linter.all false
set_option maxRecDepth 100000
set_option maxHeartbeats 8000000
namespace Cb
open PySem L2
def top (i:Nat):Stmt:=PySem.Challenge.pw_chipbus_k61_whole_great_chips.main.body.getD i (.Pass ⟨0,0,0,0⟩)
theorem zjG {b:Int} {k:Nat} (h:b.natAbs<2 ^ k):Builtin.Int.intBits b≤k:=by
 unfold Builtin.Int.intBits
 split
 ·omega
 ·rename_i h0
  have h1:b.natAbs≠0:=by first | omega | (intro z;simp_all)
  have:=(Nat.log2_lt h1).mpr h
  omega
theorem zhm {a b:Int} (ha:a.natAbs<2 ^ 200) (hb:b.natAbs<2 ^ 200):IntMulOk a b:=IntMulOk.of_bits (Nat.le_trans (zjG ha) (by decide)) (Nat.le_trans (zjG hb) (by decide))
local macro_rules | `(tactic| walk_at "sd")=>`(tactic| first | assumption | (exact ⟨by decide,by decide,by decide⟩) | (exact ⟨by assumption,by assumption⟩) | (exact ⟨by decide,by decide +kernel⟩) | (show (0:Int)<_;decide))
local macro_rules | `(tactic| walk_at "hp")=>`(tactic| first | assumption | exact zad)
local macro_rules | `(tactic| walk_at "vc")=>`(tactic| repeat (first | refine ⟨_,rfl,?_⟩ | refine ⟨_,_,rfl,rfl,?_⟩ | refine ⟨_,_,rfl,?_⟩ | refine ⟨_,_,_,_,rfl,rfl,SqL.of (by walk_at "hp"),rfl,?_⟩ | refine ⟨_,_,_,_,rfl,rfl,(by walk_at "hp"),rfl,?_⟩ | refine And.intro (by walk_at "sd") ?_))
theorem zdm {t u:TS} {D:Ends} (S S':St→Hp→Prop) (h1:∀ σ H,S σ H→∀ N:St→Hp→Prop,(∀ σ' H',S' σ' H'→N σ' H')→t { D with nx:=N } σ H) (h2:∀ σ' H',S' σ' H'→u D σ' H'):∀ σ H,S σ H→tSeq t u D σ H:=
 fun σ H s=>h1 σ H s _ h2
theorem vN_set (l:List Nat) (j r:Nat):(vN l).set j (.int (r:Int))=vN (l.set j r):=by unfold vN;rw [List.map_set]
theorem ln0 {α:Type} {P:List α→Prop} (us:List α) (h:us.length=0) (k:P []):P us:=by
 rw [List.eq_nil_of_length_eq_zero h];exact k
theorem lnS {α:Type} {P:List α→Prop} {n:Nat} (us:List α) (h:us.length=n+1) (k:∀ a (r:List α),r.length=n→P (a :: r)):P us:=by
 cases us with
 | nil=>cases h
 | cons a r=>exact k a r (Nat.succ.inj h)
theorem ln1 {α:Type} {P:List α→Prop} (us:List α) (h:us.length=1) (k:∀ a,P [a]):P us:=lnS us h fun a r h=>ln0 (P:=fun r=>P (a :: r)) r h (k a)
theorem ln2 {α:Type} {P:List α→Prop} (us:List α) (h:us.length=2) (k:∀ a b,P [a,b]):P us:=lnS us h fun a r h=>ln1 (P:=fun r=>P (a :: r)) r h (k a)
theorem ln3 {α:Type} {P:List α→Prop} (us:List α) (h:us.length=3) (k:∀ a b c,P [a,b,c]):P us:=lnS us h fun a r h=>ln2 (P:=fun r=>P (a :: r)) r h (k a)
theorem ln4 {α:Type} {P:List α→Prop} (us:List α) (h:us.length=4) (k:∀ a b c d,P [a,b,c,d]):P us:=lnS us h fun a r h=>ln3 (P:=fun r=>P (a :: r)) r h (k a)
local macro_rules | `(tactic| walk_at "o")=>`(tactic| first | exact Or.inl rfl | exact Or.inr (Or.inl rfl) | exact Or.inr (Or.inr rfl))
local macro_rules | `(tactic| walk_at "p")=>`(tactic| first | exact .inl rfl | exact .inr rfl | assumption)
local macro_rules | `(tactic| walk_at "m")=>`(tactic| first | decide | omega)
theorem zlV {n c:Nat} (h:c<n):ixN n (c:Int)=some c:=by
 unfold ixN;rw [if_pos (by omega),if_pos (by omega)];simp
theorem ziF {α:Type} (n:Nat) (x:α):(List.replicate n [x]).flatten=List.replicate n x:=by
 induction n with
 | zero=>rfl
 | succ n ih=>rw [List.replicate_succ,List.flatten_cons,ih,List.replicate_succ];rfl
theorem ty_seq {K:PySem.W.Frag} {H:Hp} {t:Bool} {a:Addr} {xs:List V} (h:SqX t H a xs):TyOf K H (.ref a) (.type (sqC t)):=by
 cases t with
 | true=>exact .tup (xs:=xs) h
 | false=>exact .lst (xs:=xs) h
theorem zkO {l:List Nat} {r n:Nat} (h:∀ w∈l,w≤n) (hr:r≤n):∀ w∈l ++ [r],w≤n:=fun b hb=>by
 rcases List.mem_append.mp hb with z | z
 ·exact h b z
 ·rw [List.mem_singleton.mp z];exact hr
theorem zhu {xs:List V} {m:Nat} (h:m≤xs.length):cutV xs none (some (m:Int))=xs.take m:=by
 unfold cutV HT.sIx
 have e:((m:Int)).toNat=m:=by omega
 simp only [List.drop_zero,Nat.sub_zero]
 split
 ·omega
 ·rw [e,Nat.min_eq_left h]
theorem zeW {H:Hp} {x dx:Addr} {o1 o2:HO} (hx:H x=none) (hdx:H dx=none):Same H (upd (upd H dx o1) x o2):=fun b u e=>by
 rw [zai (zam e hx),zai (zam e hdx)];exact e
theorem zea {H H':Hp} {x dx:Addr} {o1 o2:HO} (hx:H x=none) (hdx:H dx=none) (k:KeepP x (upd (upd H dx o1) x o2) H'):Same H H':=fun b u e=>k b u (zam e hx) (zeW hx hdx _ _ e)
theorem zeb {H:Hp} {x dx p:Addr} {o1 o2:HO} (hx:H x=none) (hdx:H dx=none) (h:upd (upd H dx o1) x o2 p=none):H p=none:=by
 cases e:H p with
 | none=>rfl
 | some u=>rw [zeW hx hdx _ _ e] at h;cases h
theorem zg0 {P:Hp→Prop} {Hr:Hp} (R:Hp→Prop) (hr:R Hr) (h:∀ H',R H'→P H'):P Hr:=h _ hr
theorem vN_rep (n v:Nat):vN (List.replicate n v)=List.replicate n (V.int (v:Int)):=by unfold vN;rw [List.map_replicate]
theorem zav {D:Ends} {σ:St} {H:Hp} (h:D.nx σ H):tNext D σ H:=h
theorem zkP {l:List Nat} {i v:Nat} (h:l[i]? = some v):(vN l)[i]? = some (V.int (v:Int)):=by unfold vN;rw [List.getElem?_map,h];rfl
def mulL:List Nat→List Nat→List Nat
 | a :: r,b :: s=>(a * b) :: mulL r s
 | _,_=>[]
theorem zfd {α:Type} {l:List α} {x y:α} {k:Nat} (h:(l ++ [x])[k]? = some y):l[k]? = some y∨(k=l.length∧y=x):=by
 rcases Nat.lt_trichotomy k l.length with z | z | z
 ·rw [List.getElem?_append_left z] at h;exact .inl h
 ·subst z;simp at h;exact .inr ⟨rfl,h.symm⟩
 ·rw [List.getElem?_eq_none (by simp;omega)] at h;cases h
theorem zks (n s:Nat):n &&& (2 * s)=2 * ((n / 2) &&& s):=by
 rcases Nat.mod_two_eq_zero_or_one n with h | h
 ·rw [show n=2 * (n / 2) by omega,zi7,show 2 * (n / 2) / 2=n / 2 by omega]
 ·rw [show n=2 * (n / 2)+1 by omega,zgT,show (2 * (n / 2)+1) / 2=n / 2 by omega]
inductive D where
 | non | bl (b:Bool) | int (i:Int) | str | oth | tup (l:List D)
inductive Dv (p:Addr) (H:Hp):V→D→Prop where
 | non:Dv p H .non .non
 | bl (b:Bool):Dv p H (.bl b) (.bl b)
 | int (i:Int):Dv p H (.int i) (.int i)
 | str (x:Str):Dv p H (.str x) .str
 | lst {a:Addr} {xs:List V} (e:H a=some (.lst xs)) (ha:a≠p):Dv p H (.ref a) .oth
 | dic {a:Addr} {kvs:List (Key×V)} (e:H a=some (.dK kvs)) (ha:a≠p):Dv p H (.ref a) .oth
 | tup {a:Addr} {xs:List V} {ds:List D} (e:H a=some (.tup xs)) (ha:a≠p) (hl:xs.length=ds.length) (h:∀ (i:Nat) (x:V) (d:D),xs[i]? = some x→ds[i]? = some d→Dv p H x d):Dv p H (.ref a) (.tup ds)
theorem Dv.keep {p:Addr} {H H':Hp} {v:V} {d:D} (h:Dv p H v d) (k:KeepP p H H'):Dv p H' v d:=by
 induction h with
 | non=>exact .non
 | bl b=>exact .bl b
 | int i=>exact .int i
 | str x=>exact .str x
 | lst e ha=>exact .lst (k _ _ ha e) ha
 | dic e ha=>exact .dic (k _ _ ha e) ha
 | tup e ha hl _ ih=>exact .tup (k _ _ ha e) ha hl ih
theorem Dv.same {p:Addr} {H H':Hp} {v:V} {d:D} (h:Dv p H v d) (s:Same H H'):Dv p H' v d:=h.keep (.of s)
def tl:D→Nat
 | .tup l=>l.length
 | _=>0
def isI:D→Bool
 | .int _=>true
 | .bl _=>true
 | _=>false
def isB:D→Bool
 | .bl _=>true
 | _=>false
def isT:D→Bool
 | .tup _=>true
 | _=>false
theorem Dv.ty {K:PySem.W.Frag} {p:Addr} {H:Hp} {v:V} {d:D} (h:Dv p H v d):∃ t,TyOf K H v t∧PySem.W.kitOne K t (.type "int")=some (isI d)∧PySem.W.kitOne K t (.type "bool")=some (isB d)∧PySem.W.kitOne K t (.type "tuple")=some (isT d):=by
 cases h with
 | non=>exact ⟨_,.non,rfl,rfl,rfl⟩
 | bl b=>exact ⟨_,.bl b,rfl,rfl,rfl⟩
 | int i=>exact ⟨_,.int i,rfl,rfl,rfl⟩
 | str x=>exact ⟨_,.str x,rfl,rfl,rfl⟩
 | lst e _=>exact ⟨_,.lst e,rfl,rfl,rfl⟩
 | dic e _=>exact ⟨_,.dK e,rfl,rfl,rfl⟩
 | tup e _ _ _=>exact ⟨_,.tup e,rfl,rfl,rfl⟩
def numD (last:Int):D→Bool
 | .int i=>decide (0≤i∧i≤last)
 | _=>false
def natD:D→Nat
 | .int i=>i.toNat
 | _=>0
theorem zdr {last:Int} {d:D} (h:numD last d=true):∃ n:Nat,d = .int (n:Int)∧(n:Int)≤last:=by
 cases d with
 | int i =>
  have h:=of_decide_eq_true h
  exact ⟨i.toNat,by rw [Int.toNat_of_nonneg h.1],by rw [Int.toNat_of_nonneg h.1];exact h.2⟩
 | _=>cases h
def chD (last:Int) (m w:D):Bool:=numD last m && numD last w && decide (natD w &&& natD m=natD w)
def latD:D→Bool
 | .tup [c,m,w]=>numD 99 c && chD 255 m w
 | _=>false
def latN:D→Bool
 | .non=>true
 | d=>latD d
def rowD (last:Int):D→Bool
 | .tup [m,w,i,c,l]=>chD last m w && numD last i && decide (natD i &&& natD m=0) && numD 99 c && latN l
 | _=>false
def zbo:Sp:=fun vs H Q _=>∃ p v d last,vs=[v,.int last]∧Dv p H v d∧Q (.bl (numD last d)) H
def zdi:Sp:=fun vs H Q _=>∃ p v w d e last,vs=[v,w,.int last]∧Dv p H v d∧Dv p H w e∧Q (.bl (chD last d e)) H
def zio:Sp:=fun vs H Q _=>∃ p v d,vs=[v]∧Dv p H v d∧Q (.bl (latD d)) H
def zii:Sp:=fun vs H Q _=>∃ p v d,∃ n:Nat,vs=[.int (n:Int),v]∧Dv p H v d∧1≤n∧n≤16∧∀ H',Same H H'→Q (.bl (rowD (2 ^ n - 1) d)) H'
def zg4:Sp:=fun vs H Q _=>∃ n:Nat,vs=[.int (n:Int)]∧n≤16∧Q (.int (2 ^ n)) H
theorem zft:∀ l:List Nat,Bit l→sgl (num (l ++ [1]))=sgl (num l) ++ [2 ^ l.length]
 | [],_=>by
  show sgl (2 * 0+1)=sgl 0 ++ [1]
  rw [zcJ,zdk];rfl
 | b :: l,h=>by
  have ih:=zft l fun x hx=>h x (List.mem_cons_of_mem _ hx)
  have hb:=h b List.mem_cons_self
  have e1:num (b :: (l ++ [1]))=b+2 * num (l ++ [1]):=rfl
  have e2:num (b :: l)=b+2 * num l:=rfl
  rw [List.cons_append,e1,e2]
  rcases (show b=0∨b=1 by omega) with rfl | rfl
  ·rw [Nat.zero_add,Nat.zero_add,zbK,zbK,ih,List.map_append,List.length_cons,Nat.pow_succ,Nat.mul_comm];rfl
  ·rw [Nat.add_comm 1,Nat.add_comm 1,zcJ,zcJ,ih,List.map_append,List.length_cons,Nat.pow_succ,Nat.mul_comm];rfl
theorem zfI:∀ l:List Nat,num (l ++ [0])=num l
 | []=>rfl
 | b :: l=>by
  have e1:num (b :: (l ++ [0]))=b+2 * num (l ++ [0]):=rfl
  rw [List.cons_append,e1,zfI l];rfl
def gath:Nat→Nat→Nat
 | 0,_=>0
 | m+1,n=>if (m+1) % 2=1 then n % 2+2 * gath ((m+1) / 2) (n / 2) else gath ((m+1) / 2) (n / 2)
decreasing_by all_goals omega
theorem zfQ (n:Nat):gath 0 n=0:=by simp [gath]
theorem zhs (m n:Nat):gath (2 * m+1) n=n % 2+2 * gath m (n / 2):=by rw [gath,if_pos (by omega),show (2 * m+1) / 2=m by omega]
theorem zfR (m n:Nat):gath (2 * m) n=gath m (n / 2):=by
 cases m with
 | zero=>simp [gath]
 | succ m=>rw [show 2 * (m+1)=(2 * m+1)+1 by omega,gath,if_neg (by omega),show (2 * m+1+1) / 2=m+1 by omega]
def gsm:Nat→List Nat→Nat→Nat
 | _,[],_=>0
 | k,s :: r,n=>(if n &&& s=0 then 0 else 2 ^ k)+gsm (k+1) r n
theorem zhp:∀ (l:List Nat) (k n:Nat),gsm (k+1) l n=2 * gsm k l n
 | [],_,_=>rfl
 | s :: r,k,n=>by
  simp only [gsm,zhp r (k+1) n,Nat.pow_succ]
  split <;> omega
theorem zgX:∀ (l:List Nat) (k n:Nat),gsm k (l.map (2 * ·)) n=gsm k l (n / 2)
 | [],_,_=>rfl
 | s :: r,k,n=>by
  simp only [List.map_cons,gsm,zgX r (k+1) n,zks]
  congr 1
  by_cases h:n / 2 &&& s=0
  ·rw [if_pos h,if_pos (by omega)]
  ·rw [if_neg h,if_neg (by omega)]
theorem zjf:∀ m n,gsm 0 (sgl m) n=gath m n:=by
 intro m
 induction m using Nat.strongRecOn with
 | _ m ih =>
  intro n
  by_cases h0:m=0
  ·subst h0;rw [zdk,zfQ];rfl
  rcases Nat.mod_two_eq_zero_or_one m with h | h
  ·obtain ⟨h2,e⟩:∃ h2,m=2 * h2:=⟨m / 2,by omega⟩
   subst e
   rw [zbK,zgX,ih _ (by omega),zfR]
  ·obtain ⟨h2,e⟩:∃ h2,m=2 * h2+1:=⟨m / 2,by omega⟩
   subst e
   rw [zcJ,gsm,zhp,zgX,ih _ (by omega),zhs]
   have:n &&& 1=n % 2:=Nat.and_one_is_mod n
   rw [this]
   rcases Nat.mod_two_eq_zero_or_one n with h | h <;> simp [h]
def spG (g:Nat→Nat→Nat):Sp:=fun vs H Q _=>∃ m n:Nat,vs=[.int (m:Int),.int (n:Int)]∧m<2 ^ 64∧∀ H',Same H H'→Q (.int (g m n:Int)) H'
theorem sumN (l:List Nat):(l.map (fun (b:Nat)=>(b:Int))).sum=((l.sum:Nat):Int):=by
 induction l with
 | nil=>rfl
 | cons b r ih=>rw [List.map_cons,List.sum_cons,List.sum_cons,ih];omega
theorem zib {K:PySem.W.Frag} {H:Hp} {p:Addr} {l:List Nat} (h:SqL K H p (vN l)):SqL K H p ((l.map fun (b:Nat)=>(b:Int)).map V.int):=by
 rw [List.map_map];exact h
theorem zhq {l:List Nat} {i s:Nat} (n:Nat) (h:l[i]? = some s):gsm i (l.drop i) n=(if n &&& s=0 then 0 else 2 ^ i)+gsm (i+1) (l.drop (i+1)) n:=by
 rw [List.drop_eq_getElem_cons (List.getElem?_eq_some_iff.mp h).1,(List.getElem?_eq_some_iff.mp h).2];rfl
theorem zl8 {P:Nat→Prop} (h0:P 0) (he:∀ m,P m→P (2 * m)) (ho:∀ m,P m→P (2 * m+1)):∀ m,P m:=by
 intro m
 induction m using Nat.strongRecOn with
 | _ m ih =>
  by_cases hz:m=0
  ·subst hz;exact h0
  rcases Nat.mod_two_eq_zero_or_one m with h | h
  ·have:=he (m / 2) (ih _ (by omega));rwa [show 2 * (m / 2)=m by omega] at this
  ·have:=ho (m / 2) (ih _ (by omega));rwa [show 2 * (m / 2)+1=m by omega] at this
theorem zfB (m:Nat):ones (2 * m)=ones m:=by rw [zd1,show 2 * m % 2=0 by omega,show 2 * m / 2=m by omega];omega
theorem zhi (m:Nat):ones (2 * m+1)=ones m+1:=by rw [zd1,show (2 * m+1) % 2=1 by omega,show (2 * m+1) / 2=m by omega];omega
theorem zfA:ones 0=0:=by simp [ones]
theorem zgY (m:Nat):∀ n,gath m n<2 ^ ones m:=by
 refine zl8 (P:=fun m=>∀ n,gath m n<2 ^ ones m) ?_ ?_ ?_ m
 ·intro n;rw [zfQ,zfA];omega
 ·intro m ih n;rw [zfR,zfB];exact ih _
 ·intro m ih n;have:=ih (n / 2);rw [zhs,zhi,Nat.pow_succ];omega
theorem bor (a b:Nat):Builtin.bitOr (a:Int) (b:Int)=((a ||| b:Nat):Int):=by
 unfold Builtin.bitOr Builtin.bitAnd Builtin.bitNot
 rw [decide_eq_false (show ¬ (0:Int)≤-(a:Int) - 1 by omega),decide_eq_false (show ¬ (0:Int)≤-(b:Int) - 1 by omega)]
 show -(-((((-(-(a:Int) - 1) - 1).toNat ||| (-(-(b:Int) - 1) - 1).toNat:Nat)):Int) - 1) - 1=_
 rw [show -(-(a:Int) - 1) - 1=(a:Int) by omega,show -(-(b:Int) - 1) - 1=(b:Int) by omega,Int.toNat_natCast,Int.toNat_natCast]
 omega
theorem zfy {H H':Hp} {p:Addr} (s:Same H H') (h:H' p=none):H p=none:=by
 cases e:H p with
 | none=>rfl
 | some o=>rw [s _ _ e] at h;cases h
theorem zds {xs:List V}:cutV xs (some 1) none=xs.drop 1:=by
 unfold cutV
 rw [show (some (1:Int))=some ((1:Nat):Int) from rfl,HT.sIx_nat,HT.sIx_none,List.take_of_length_le (by rw [List.length_drop];exact Nat.le_refl _)]
 by_cases h:1≤xs.length
 ·rw [Nat.min_eq_left h]
 ·rw [Nat.min_eq_right (by omega),List.drop_of_length_le (Nat.le_refl _),List.drop_of_length_le (by omega)]
theorem zfj (op:Nat→Nat→Nat) (f:Bool→Bool→Bool) (hop:∀ a b i,(op a b).testBit i=f (a.testBit i) (b.testBit i)) (hf:f false false=false) (x y:Nat) :
  op x y=(f (x % 2 == 1) (y % 2 == 1)).toNat+2 * op (x / 2) (y / 2):=by
 apply Nat.eq_of_testBit_eq
 intro i
 cases i with
 | zero =>
  rw [hop]
  simp only [Nat.testBit_zero]
  cases h:f (x % 2 == 1) (y % 2 == 1) <;> simp_all [Nat.add_mod]
 | succ i =>
  rw [hop]
  simp only [Nat.testBit_succ]
  rw [show ((f (x % 2 == 1) (y % 2 == 1)).toNat+2 * op (x / 2) (y / 2)) / 2=op (x / 2) (y / 2) by cases f (x % 2 == 1) (y % 2 == 1) <;> simp <;> omega,hop]
theorem or_is:∀ a b:Nat,a ||| b=(a ^^^ b)+(a &&& b):=by
 intro a
 induction a using Nat.strongRecOn with
 | _ a ih =>
  intro b
  by_cases h0:a=0
  ·subst h0;simp
  have e1:a ||| b=((a % 2 == 1) || (b % 2 == 1)).toNat+2 * (a / 2 ||| b / 2):=zfj (· ||| ·) (· || ·) Nat.testBit_or rfl a b
  have e2:a ^^^ b=(Bool.xor (a % 2 == 1) (b % 2 == 1)).toNat+2 * (a / 2 ^^^ b / 2):=zfj (· ^^^ ·) Bool.xor Nat.testBit_xor rfl a b
  have e3:a &&& b=((a % 2 == 1) && (b % 2 == 1)).toNat+2 * (a / 2 &&& b / 2):=zfj (· &&& ·) (· && ·) Nat.testBit_and rfl a b
  have e4:=ih (a / 2) (by omega) (b / 2)
  rw [e1,e2,e3,e4]
  cases (a % 2 == 1) <;> cases (b % 2 == 1) <;> simp <;> omega
theorem bxor (a b:Nat):Builtin.bitXor (a:Int) (b:Int)=((a ^^^ b:Nat):Int):=by
 unfold Builtin.bitXor
 rw [bor,band,or_is]
 omega
def agr (m w n v:Nat):Bool:=decide ((w ^^^ v) &&& m &&& n=0)
def zjW:Sp:=fun vs H Q _=>∃ m w n v:Nat,vs=[.int (m:Int),.int (w:Int),.int (n:Int),.int (v:Int)]∧Q (.bl (agr m w n v)) H
def LatV (H:Hp) (v:V):Option (Nat×Nat×Nat)→Prop
 | none=>v = .non
 | some (c,a,b)=>∃ u:Addr,v = .ref u∧H u=some (.tup [.int (c:Int),.int (a:Int),.int (b:Int)])
def latA:Option (Nat×Nat×Nat)→Option (Nat×Nat×Nat)→Bool
 | some (c,a,b),some (d,x,y)=>if c=d then agr a b x y else true
 | _,_=>true
def ziq:Sp:=fun vs H Q _=>∃ x y o p,vs=[x,y]∧LatV H x o∧LatV H y p∧Q (.bl (latA o p)) H
structure Rw where
 m:Nat
 w:Nat
 i:Nat
 c:Nat
 l:Option (Nat×Nat×Nat)
def RwAt (H:Hp) (t:Addr) (r:Rw):Prop:=∃ lt:V,H t=some (.tup [.int (r.m:Int),.int (r.w:Int),.int (r.i:Int),.int (r.c:Int),lt])∧LatV H lt r.l
def zdf (r q:Rw):Bool:=agr r.m r.w q.m q.w && latA r.l q.l
def zgj:Sp:=fun vs H Q _=>∃ t u r q,vs=[.ref t,.ref u]∧RwAt H t r∧RwAt H u q∧Q (.bl (zdf r q)) H
theorem zf3:bootBuiltins "sorted" = some (.builtin "sorted"):=by decide +kernel
def lwL:Option (Nat×Nat×Nat)→Option (Nat×Nat×Nat)→List (Int×Int)
 | none,none=>[]
 | some (c,_,b),none=>[((c:Int),(b:Int))]
 | none,some (d,_,y)=>[((d:Int),(y:Int))]
 | some (c,_,b),some (d,_,y)=>if c=d then [((c:Int),((b ||| y:Nat):Int))] else srt2 [((c:Int),(b:Int)),((d:Int),(y:Int))]
def PrsAt (H:Hp) (p:Addr) (l:List (Int×Int)):Prop:=∃ ts:List Addr,H p=some (.tup (ts.map V.ref))∧ts.length=l.length∧∀ (j:Nat) (t:Addr) (q:Int×Int),ts[j]? = some t→l[j]? = some q→H t=some (.tup [.int q.1,.int q.2])
def zgh:Sp:=fun vs H Q _=>∃ t u r q,vs=[.ref t,.ref u]∧RwAt H t r∧RwAt H u q∧∀ (p:Addr) (H':Hp),H p=none→PrsAt H' p (lwL r.l q.l)→Same H H'→Q (.ref p) H'
theorem LatV.same {H H':Hp} {v:V} {o:Option (Nat×Nat×Nat)} (h:LatV H v o) (s:Same H H'):LatV H' v o:=by
 match o,h with
 | none,h=>exact h
 | some (c,a,b),⟨u,e,eu⟩=>exact ⟨u,e,s _ _ eu⟩
theorem RwAt.same {H H':Hp} {t:Addr} {r:Rw} (h:RwAt H t r) (s:Same H H'):RwAt H' t r:=by
 obtain ⟨lt,e,hl⟩:=h
 exact ⟨lt,s _ _ e,hl.same s⟩
def dOne:Option (Nat×Nat×Nat)→List (Nat×Nat)
 | none=>[]
 | some (c,_,b)=>[(c,b)]
def dPut (l:List (Nat×Nat)):Option (Nat×Nat×Nat)→List (Nat×Nat)
 | none=>l
 | some (c,_,b)=>match l with
  | []=>[(c,b)]
  | (d,y) :: _=>if d=c then [(c,y ||| b)] else [(d,y),(c,b)]
def knN (l:List (Nat×Nat)):List (Int×Int):=l.map fun q=>((q.1:Int),(q.2:Int))
theorem lw_is:∀ o p:Option (Nat×Nat×Nat),srt2 (knN (dPut (dOne o) p))=lwL o p
 | none,none=>rfl
 | some (c,_,b),none=>rfl
 | none,some (d,_,y)=>rfl
 | some (c,_,b),some (d,_,y)=>by
  show srt2 (knN (if c=d then [(d,b ||| y)] else [(c,b),(d,y)]))=if c=d then [((c:Int),((b ||| y:Nat):Int))] else srt2 [((c:Int),(b:Int)),((d:Int),(y:Int))]
  by_cases h:c=d
  ·rw [if_pos h,if_pos h,h];rfl
  ·rw [if_neg h,if_neg h];rfl
theorem zhZ (o p:Option (Nat×Nat×Nat)):((knN (dPut (dOne o) p)).map (·.1)).Nodup:=by
 match o,p with
 | none,none=>simp [dPut,dOne,knN]
 | some (c,_,b),none=>simp [dPut,dOne,knN]
 | none,some (d,_,y)=>simp [dPut,dOne,knN]
 | some (c,_,b),some (d,_,y) =>
  show ((knN (if c=d then [(d,b ||| y)] else [(c,b),(d,y)])).map (·.1)).Nodup
  by_cases h:c=d
  ·rw [if_pos h];simp [knN]
  ·rw [if_neg h];simp [knN];omega
theorem zkF (o p:Option (Nat×Nat×Nat)):(knN (dPut (dOne o) p)).length≤2:=by
 match o,p with
 | none,none=>simp [dPut,dOne,knN]
 | some (c,_,b),none=>simp [dPut,dOne,knN]
 | none,some (d,_,y)=>simp [dPut,dOne,knN]
 | some (c,_,b),some (d,_,y) =>
  show (knN (if c=d then [(d,b ||| y)] else [(c,b),(d,y)])).length≤2
  by_cases h:c=d
  ·rw [if_pos h];simp [knN]
  ·rw [if_neg h];simp [knN]
theorem put_is {l:List (Nat×Nat)} (hl:l.length≤1) (c a b:Nat):∃ n:Nat,(valV (knV (knN l)) (Sum.inl (c:Int))).getD (.int 0) = .int (n:Int)∧putK (knV (knN l)) (Sum.inl (c:Int)) (.int ((n ||| b:Nat):Int))=knV (knN (dPut l (some (c,a,b)))):=by
 match l,hl with
 | [],_=>exact ⟨0,rfl,by simp [putK,knV,knN,dPut]⟩
 | [(d,y)],_ =>
  by_cases h:d=c
  ·subst h
   refine ⟨y,by simp [valV,knV,knN],by simp [putK,knV,knN,dPut]⟩
  ·have h':¬ (d:Int)=(c:Int):=by omega
   refine ⟨0,by simp [valV,knV,knN,h',List.find?],by simp [putK,knV,knN,dPut,h,h']⟩
 | _ :: _ :: _,hl=>simp at hl
def fnd1 (rs:List Rw) (i j:Nat):List (List Int):=match rs[i]?,rs[j]? with
 | some r,some q=>if zdf r q=true then [[((r.w ||| q.w:Nat):Int),(i:Int),(j:Int)]] else []
 | _,_=>[]
def fndR (rs:List Rw) (j m:Nat):List (List Int):=(List.range m).flatMap fun i=>fnd1 rs i j
def fndL (rs:List Rw) (m:Nat):List (List Int):=(List.range m).flatMap fun j=>fndR rs j j
theorem zek (rs:List Rw) (j m:Nat):fndR rs j (m+1)=fndR rs j m ++ fnd1 rs m j:=by
 unfold fndR;rw [List.range_succ,List.flatMap_append];simp
theorem zfU (rs:List Rw) (m:Nat):fndL rs (m+1)=fndL rs m ++ fndR rs m m:=by
 unfold fndL;rw [List.range_succ,List.flatMap_append];simp
theorem zkA (rs:List Rw) (i j:Nat):(fnd1 rs i j).length≤1:=by
 unfold fnd1
 split
 ·split <;> simp
 ·simp
theorem zff (rs:List Rw) (j:Nat):∀ m,(fndR rs j m).length≤m
 | 0=>by simp [fndR]
 | m+1=>by
  have:=zff rs j m
  have:=zkA rs m j
  rw [zek,List.length_append];omega
theorem zht (rs:List Rw):∀ m,(fndL rs m).length≤m * m
 | 0=>by simp [fndL]
 | m+1=>by
  have:=zht rs m
  have:=zff rs m m
  rw [zfU,List.length_append,Nat.add_mul,Nat.mul_add];omega
def FndAt (X:Hp) (ts:List Addr) (nss:List (List Int)):Prop:=ts.length=nss.length∧∀ (i:Nat) (t:Addr) (ns:List Int),ts[i]? = some t→nss[i]? = some ns→X t=some (.tup (ns.map V.int))
theorem FndAt.same {X Y:Hp} {ts:List Addr} {nss:List (List Int)} (h:FndAt X ts nss) (s:Same X Y):FndAt Y ts nss:=⟨h.1,fun i t ns e1 e2=>s _ _ (h.2 i t ns e1 e2)⟩
theorem FndAt.snoc {X Y:Hp} {ts:List Addr} {nss:List (List Int)} {t:Addr} {ns:List Int} (h:FndAt Y ts nss) (ht:Y t=some (.tup (ns.map V.int))):FndAt Y (ts ++ [t]) (nss ++ [ns]):=by
 refine ⟨by rw [List.length_append,List.length_append,h.1];rfl,fun i t' ns' e1 e2=>?_⟩
 rcases zfd e1 with z | ⟨z1,rfl⟩
 ·rcases zfd e2 with y | ⟨y1,rfl⟩
  ·exact h.2 i t' ns' z y
  ·have:=(List.getElem?_eq_some_iff.mp z).1
   have:=h.1
   omega
 ·rcases zfd e2 with y | ⟨y1,rfl⟩
  ·have:=(List.getElem?_eq_some_iff.mp y).1
   have:=h.1
   omega
  ·exact ht
def zdG:Sp:=fun vs H Q _=>∃ (p:Addr) (as:List Addr) (rs:List Rw),vs=[.ref p]∧H p=some (.tup (as.map V.ref))∧as.length=rs.length∧rs.length≤100∧(∀ (j:Nat) (a:Addr) (r:Rw),as[j]? = some a→rs[j]? = some r→RwAt H a r) ∧
 (fndL rs rs.length=[]→∀ H',Same H H'→Q .non H') ∧
 (∀ (x:Nat) (i j:Nat) (r q:Rw),(fndL rs rs.length)[PySem.argBest (fun i j=>HT.lexLt ((fndL rs rs.length).getD i []) ((fndL rs rs.length).getD j [])) ((fndL rs rs.length).length - 1)]? = some [(x:Int),(i:Int),(j:Int)]→rs[i]? = some r→rs[j]? = some q →
  ∀ (tp wp:Addr) (H':Hp),H tp=none→H' tp=some (.tup [.int (x:Int),.int (i:Int),.int (j:Int),.ref wp])→PrsAt H' wp (lwL r.l q.l)→Same H H'→Q (.ref tp) H')
theorem zkz {rs:List Rw} {i j:Nat} {ns:List Int} (h:ns∈fnd1 rs i j):∃ (r q:Rw) (x:Nat),rs[i]? = some r∧rs[j]? = some q∧ns=[(x:Int),(i:Int),(j:Int)]:=by
 unfold fnd1 at h
 split at h
 ·rename_i r q e1 e2
  split at h
  ·exact ⟨r,q,_,e1,e2,List.mem_singleton.mp h⟩
  ·simp at h
 ·simp at h
theorem zky {rs:List Rw} {m:Nat} {ns:List Int} (h:ns∈fndL rs m):∃ (i j:Nat) (r q:Rw) (x:Nat),rs[i]? = some r∧rs[j]? = some q∧ns=[(x:Int),(i:Int),(j:Int)]:=by
 unfold fndL at h
 obtain ⟨j,_,h⟩:=List.mem_flatMap.mp h
 unfold fndR at h
 obtain ⟨i,_,h⟩:=List.mem_flatMap.mp h
 obtain ⟨r,q,x,e⟩:=zkz h
 exact ⟨i,j,r,q,x,e⟩
def LatOk:Option (Nat×Nat×Nat)→Prop
 | none=>True
 | some (c,a,b)=>c<100∧a<256∧b &&& a=b
structure RwOk (m:Nat) (r:Rw):Prop where
 m0:r.m<2 ^ m
 w0:r.w<2 ^ m
 wm:r.w &&& r.m=r.w
 i0:r.i<2 ^ m
 im:r.i &&& r.m=0
 c0:r.c<100
 l0:LatOk r.l
def dN (keys:List Nat) (f:Nat→V):List (Key×V):=keys.map fun (c:Nat)=>(Sum.inl (c:Int),f c)
theorem dN_any {keys:List Nat} {f:Nat→V} {c:Nat}:((dN keys f).any fun kv=>decide (kv.fst=Sum.inl (c:Int)))=decide (c∈keys):=by
 rw [Bool.eq_iff_iff,List.any_eq_true,decide_eq_true_iff]
 constructor
 ·rintro ⟨x,hx,e⟩
  obtain ⟨k,hk,rfl⟩:=List.mem_map.mp hx
  have e:=of_decide_eq_true e
  injection e with e
  rw [← Int.ofNat.inj e];exact hk
 ·intro h
  exact ⟨_,List.mem_map.mpr ⟨c,h,rfl⟩,decide_eq_true rfl⟩
theorem zh0 {keys:List Nat} {f:Nat→V} {c:Nat} {v:V} (h:c ∉ keys):putK (dN keys f) (Sum.inl (c:Int)) v=dN (keys ++ [c]) fun k=>if k=c then v else f k:=by
 unfold putK
 rw [dN_any,decide_eq_false h,if_neg (by decide)]
 unfold dN
 rw [List.map_append]
 congr 1
 ·refine List.map_congr_left fun k hk=>?_
  dsimp only
  rw [if_neg (fun z:k=c=>h (z ▸ hk))]
 ·simp
theorem zlf {f:Nat→V} {c:Nat}:∀ {keys:List Nat},c∈keys→valV (dN keys f) (Sum.inl (c:Int))=some (f c)
 | [],h=>nomatch h
 | k :: keys,h=>by
  unfold valV dN
  rw [List.map_cons,List.find?_cons]
  by_cases z:k=c
  ·subst z;simp
  ·have e:decide ((Sum.inl (k:Int):Key)=Sum.inl (c:Int))=false:=decide_eq_false fun y=>z (by injection y with y;exact Int.ofNat.inj y)
   simp only [e]
   exact zlf (keys:=keys) ((List.mem_cons.mp h).resolve_left (fun y=>z y.symm))
theorem zkG {keys:List Nat} {f g:Nat→V} (h:∀ k∈keys,f k=g k):dN keys f=dN keys g:=List.map_congr_left fun (k:Nat) hk=>by rw [h k hk]
def NC (r q:Rw):Prop:=zdf r q=false∧zdf q r=false
def RwsAt2 (m:Nat) (X:Hp) (ws:List (Addr×Rw)):Prop:=∀ z∈ws,RwAt X z.1 z.2∧RwOk m z.2
theorem RwsAt2.same {m:Nat} {X Y:Hp} {ws:List (Addr×Rw)} (h:RwsAt2 m X ws) (s:Same X Y):RwsAt2 m Y ws:=fun z hz=>⟨(h z hz).1.same s,(h z hz).2⟩
def refs {α:Type} (ws:List (Addr×α)):List V:=ws.map fun z=>.ref z.1
theorem zaM {α:Type} (ws:List (Addr×α)):(refs ws).length=ws.length:=List.length_map ..
theorem zk9 {K:PySem.W.Frag} {i j:Nat} {T:Addr} {x y:V} {σ:St} {H:Hp} {Q:St→Hp→Prop} (e:H T=some (.tup [x,y])) (h:Q ((σ.set i (some x)).set j (some y)) H) :
  gTup K 2 (zjg (za5 i) (zjg (za5 j) gNil)) (.ref T) σ H Q:=
 ⟨T,[x,y],rfl,SqT.of e,rfl,x,[y],rfl,y,[],rfl,rfl,h⟩
theorem zb2 {α:Type} {ws:List (Addr×α)} {k:Nat} {z:Addr×α} (h:ws[k]? = some z):(refs ws)[k]? = some (.ref z.1):=by unfold refs;rw [List.getElem?_map,h];rfl
theorem zdn {α:Type} {ws:List (Addr×α)} {k:Nat} {x:V} (h:(refs ws)[k]? = some x):∃ z,ws[k]? = some z∧x = .ref z.1:=by
 unfold refs at h
 rw [List.getElem?_map] at h
 obtain ⟨z,h1,h2⟩:=Option.map_eq_some_iff.mp h
 exact ⟨z,h1,h2.symm⟩
def dV (keys:List Nat) (g:Nat→Nat):List (Key×V):=dN keys fun c=>.int (g c:Int)
def wrd (keys:List Nat) (g:Nat→Nat) (c:Nat):Nat:=if c∈keys then g c else 0
theorem zjt {f:Nat→V} {c:Nat}:∀ {keys:List Nat},c ∉ keys→valV (dN keys f) (Sum.inl (c:Int))=none
 | [],_=>rfl
 | k :: keys,h=>by
  unfold valV dN
  rw [List.map_cons,List.find?_cons]
  have z:¬ k=c:=fun z=>h (z ▸ List.mem_cons_self)
  have e:decide ((Sum.inl (k:Int):Key)=Sum.inl (c:Int))=false:=decide_eq_false fun y=>z (by injection y with y;exact Int.ofNat.inj y)
  simp only [e]
  exact zjt (keys:=keys) fun y=>h (List.mem_cons_of_mem _ y)
theorem dV_get (keys:List Nat) (g:Nat→Nat) (c:Nat):(valV (dV keys g) (Sum.inl (c:Int))).getD (.int 0) = .int (wrd keys g c:Int):=by
 unfold dV wrd
 by_cases h:c∈keys
 ·rw [zlf h,if_pos h];rfl
 ·rw [zjt h,if_neg h];rfl
def awk (r:Rw) (W:Nat→Nat):Bool:=match r.l with
 | none=>true
 | some (c,a,b)=>decide (W c &&& a=b)
def met (r:Rw) (x:Nat):Bool:=decide (x &&& r.m=r.w)
def zim:Sp:=fun vs H Q _=>∃ (t:Addr) (r:Rw) (x:Nat),vs=[.ref t,.int (x:Int)]∧RwAt H t r∧Q (.bl (met r x)) H
def zgn:Sp:=fun vs H Q _=>∃ (t d:Addr) (r:Rw) (keys:List Nat) (g:Nat→Nat),vs=[.ref t,.ref d]∧RwAt H t r∧H d=some (.dK (dV keys g))∧Q (.bl (awk r (wrd keys g))) H
def ans (r:Rw) (x:Nat) (W:Nat→Nat):Bool:=met r x && awk r W
def fstA (rs:List Rw) (x:Nat) (W:Nat→Nat):V:=match rs.findIdx? (fun r=>ans r x W) with
 | none=>.non
 | some i=>.int (i:Int)
def zit:Sp:=fun vs H Q _=>∃ (p d:Addr) (x:Nat) (ws:List (Addr×Rw)) (keys:List Nat) (g:Nat→Nat),vs=[.ref p,.int (x:Int),.ref d]∧H p=some (.tup (refs ws))∧(∀ z∈ws,RwAt H z.1 z.2)∧H d=some (.dK (dV keys g))∧∀ H',Same H H'→Q (fstA (ws.map (·.2)) x (wrd keys g)) H'
theorem awk_eq {keys:List Nat} {g:Nat→Nat} {c a b:Nat} {r:Rw} (h:r.l=some (c,a,b)):decide (V.int (Builtin.bitAnd (wrd keys g c:Int) (a:Int))=V.int (b:Int))=awk r (wrd keys g):=by
 rw [band]
 unfold awk
 rw [h]
 show _=decide (wrd keys g c &&& a=b)
 by_cases z:wrd keys g c &&& a=b
 ·rw [decide_eq_true z,z];exact decide_eq_true rfl
 ·rw [decide_eq_false z];exact decide_eq_false fun y=>z (by injection y with y;exact Int.ofNat.inj y)
theorem zji {rs:List Rw} {x:Nat} {W:Nat→Nat} (h:∀ r∈rs,ans r x W=false):fstA rs x W = .non:=by
 unfold fstA
 rw [List.findIdx?_eq_none_iff.mpr h]
theorem zjh {rs:List Rw} {x i:Nat} {W:Nat→Nat} {r:Rw} (hr:rs[i]? = some r) (h:ans r x W=true) (hb:∀ j q,j<i→rs[j]? = some q→ans q x W=false):fstA rs x W = .int (i:Int):=by
 unfold fstA
 obtain ⟨hi,e⟩:=List.getElem?_eq_some_iff.mp hr
 rw [List.findIdx?_eq_some_iff_getElem.mpr ⟨hi,by rw [e];exact h,fun j hj=>by rw [hb j _ hj (List.getElem?_eq_getElem (by omega))];decide⟩]
def zgm:Sp:=fun vs H Q _=>∃ (t:Addr) (r:Rw) (a:Nat),vs=[.ref t,.int (a:Int)]∧RwAt H t r∧r.i<2 ^ 64∧∀ H',Same H H'→Q (.int (gath r.i a:Int)) H'
theorem zhj:∀ (n:Nat) (l:List Nat),l.Nodup→(∀ a∈l,a<n)→l.length≤n
 | 0,l,_,hb=>by
  cases l with
  | nil=>exact Nat.le_refl _
  | cons a l=>exact absurd (hb a List.mem_cons_self) (Nat.not_lt_zero _)
 | n+1,l,h,hb=>by
  have ih:=zhj n (l.erase n) (h.erase n) fun a ha=>by
   have h1:=hb a (List.mem_of_mem_erase ha)
   have h2:a≠n:=fun e=>by rw [e] at ha;exact h.not_mem_erase ha
   omega
  have:=List.length_erase (a:=n) (l:=l)
  split at this <;> omega
theorem dV_new {sk:List Nat} {sg:Nat→Nat} {x v:Nat} (h:x ∉ sk):putK (dV sk sg) (Sum.inl (x:Int)) (.int (v:Int))=dV (sk ++ [x]) fun k=>if k=x then v else sg k:=by
 unfold dV
 rw [zh0 h]
 exact zkG fun k _=>by by_cases z:k=x <;> simp [z]
def mapD (last:Int):D→Bool
 | .tup l=>l.all (rowD last)
 | _=>false
def zin:Sp:=fun vs H Q _=>∃ p v d,∃ n:Nat,vs=[.int (n:Int),v]∧Dv p H v d∧tl d≤300∧1≤n∧n≤16∧∀ H',Same H H'→Q (.bl (mapD (2 ^ n - 1) d)) H'
def zkq:Option (Nat×Nat×Nat)→D
 | none=>.non
 | some (c,a,b)=>.tup [.int (c:Int),.int (a:Int),.int (b:Int)]
def ziE (r:Rw):D:=.tup [.int (r.m:Int),.int (r.w:Int),.int (r.i:Int),.int (r.c:Int),zkq r.l]
theorem zlK {m n:Nat} (h:n<2 ^ m):numD (2 ^ m - 1) (.int (n:Int))=true:=by
 refine decide_eq_true ⟨by omega,?_⟩
 have:((2 ^ m:Nat):Int)=(2:Int) ^ m:=by norm_cast
 have h2:(n:Int)<((2 ^ m:Nat):Int):=Int.ofNat_lt.mpr h
 omega
theorem map_ok {m:Nat} {ws:List (Addr×Rw)} (h:∀ z∈ws,RwOk m z.2):mapD (2 ^ m - 1) (.tup (ws.map fun z=>ziE z.2))=true:=by
 show (ws.map fun z=>ziE z.2).all (rowD (2 ^ m - 1))=true
 rw [List.all_map,List.all_eq_true]
 intro z hz
 have ok:=h z hz
 show (chD (2 ^ m - 1) (.int (z.2.m:Int)) (.int (z.2.w:Int)) && numD (2 ^ m - 1) (.int (z.2.i:Int)) && decide (natD (.int (z.2.i:Int)) &&& natD (.int (z.2.m:Int))=0) && numD 99 (.int (z.2.c:Int)) && latN (zkq z.2.l))=true
 have hc:numD 99 (.int (z.2.c:Int))=true:=decide_eq_true ⟨by omega,by have:=ok.c0;omega⟩
 have hl:latN (zkq z.2.l)=true:=by
  have l0:=ok.l0
  cases hl:z.2.l with
  | none=>rfl
  | some o =>
   obtain ⟨c,a,b⟩:=o
   rw [hl] at l0
   obtain ⟨h1,h2,h3⟩:=l0
   show (numD 99 (.int (c:Int)) && chD 255 (.int (a:Int)) (.int (b:Int)))=true
   have hb:b≤a:=by rw [← h3];exact Nat.and_le_right
   have g1:numD 99 (.int (c:Int))=true:=decide_eq_true ⟨by omega,by omega⟩
   have g2:numD 255 (.int (a:Int))=true:=decide_eq_true ⟨by omega,by omega⟩
   have g3:numD 255 (.int (b:Int))=true:=decide_eq_true ⟨by omega,by omega⟩
   unfold chD
   rw [g1,g2,g3]
   simp only [natD,Int.toNat_natCast,h3,Bool.true_and,decide_true]
 unfold chD
 rw [zlK ok.m0,zlK ok.w0,zlK ok.i0,hc,hl]
 simp only [natD,Int.toNat_natCast,ok.wm,ok.im,Bool.true_and,Bool.and_true,decide_true]
def hdN (l:List Nat):V:=match l with
 | []=>.non
 | i :: _=>.int (i:Int)
theorem lnB1 {α:Type} {P:List α→Prop} (k:∀ a,P [a]):∀ us:List α,us.length=1→P us:=fun us h=>ln1 us h k
theorem lnB2 {α:Type} {P:List α→Prop} (k:∀ a b,P [a,b]):∀ us:List α,us.length=2→P us:=fun us h=>ln2 us h k
theorem lnB3 {α:Type} {P:List α→Prop} (k:∀ a b c,P [a,b,c]):∀ us:List α,us.length=3→P us:=fun us h=>ln3 us h k
theorem lnB4 {α:Type} {P:List α→Prop} (k:∀ a b c d,P [a,b,c,d]):∀ us:List α,us.length=4→P us:=fun us h=>ln4 us h k
section
variable {P:Program} {w:World} {K:PySem.W.Frag} {mg:Str→Option Value} {base:Heap} {k:Nat} {f C:Addr} {fd:FuncData} {ps ks:List Str} {sp:Sp} {x m:Str} {g:List Value→List Value→List Value} {gV:List V→List V→List V}
theorem zaB (G:FnOk P w K mg base CX0 k f fd ps sp) (a:mg x=some (.ref f)) (kp:PySem.W.keepIn K (.ref f)=true) (b:Binds K fd ps []):Cal P w K mg base k x ps sp:=⟨f,fd,G,a,kp,b⟩
theorem zgO (c:Cls K C) (a:PySem.W.findIn K (.ref C) m=some (some (.ref f))) (fn:PySem.W.isFn K (.ref f)=true) (kp:PySem.W.keepIn K (.ref f)=true) (G:FnOk P w K mg base CX0 k f fd ps sp) (b:KBinds K fd ps ks g gV):Mth P w K mg base k C m ks gV sp:=⟨c,f,fd,ps,g,⟨a,fn,kp⟩,G,b⟩
theorem zaD (c:Cls K C) (a:PySem.W.findIn K (.ref C) m=some (some (.ref f))) (fn:PySem.W.isFn K (.ref f)=true) (kp:PySem.W.keepIn K (.ref f)=true) (G:FnOk P w K mg base CX0 k f fd ps sp) (b:Binds K fd ps []):Mth P w K mg base k C m [] (fun vs _=>vs) sp:=zgO c a fn kp G (.pos b)
theorem zfK (a:mg x=some (.ref C)) (mk:PySem.W.makesIn K C=true) (at_:PySem.W.findIn K (.ref C) "__init__" = some (some (.ref f))) (fn:PySem.W.isFn K (.ref f)=true) (kc:PySem.W.keepIn K (.ref C)=true) (G:FnOk P w K mg base CX0 k f fd ps sp) (b:KBinds K fd ps ks g gV):Mak P w K mg base k x C ks gV sp:=⟨a,f,fd,ps,g,⟨mk,at_,fn,kc⟩,G,b⟩
end
structure Nums (mg:Str→Option Value):Prop where
 MOST_BITS:∃ t,mg "MOST_BITS" = some (.int 16 t)
 LAST_CHIP:∃ t,mg "LAST_CHIP" = some (.int 99 t)
 LAST_WORD:∃ t,mg "LAST_WORD" = some (.int 255 t)
 MOST_CELLS:∃ t,mg "MOST_CELLS" = some (.int 4096 t)
 SIXTEEN:∃ t,mg "SIXTEEN" = some (.str "0123456789abcdef" t)
 READ:∃ t,mg "READ" = some (.str "read" t)
 WRITE:∃ t,mg "WRITE" = some (.str "write" t)
 BOTH:∃ t,mg "BOTH" = some (.str "both" t)
abbrev zbU:Stmt:=top 11
theorem scsingle_ones:FnScope ["mask","singles","rest"] ["mask"] (zah zbU):=⟨rfl,rfl,rfl,by decide +kernel,rfl,by decide +kernel,by decide +kernel⟩
section
variable {P:Program} {w:World} {K:PySem.W.Frag} {mg:Str→Option Value} {base:Heap}
theorem ze4 {f:Addr} {fd:FuncData} (F:Fun K "single_ones" "single_ones" zbU f fd) (T:Blt mg):FnOk P w K mg base CX0 1 f fd ["mask"] zcw:=by
 refine F.ok scsingle_ones (fun vs H Q E h=>?_) (fun cdv A outer s H vs Q E hr h=>?_)
 ·obtain ⟨n,rfl,_⟩:=h;rfl
 ·obtain ⟨n,rfl,hn,k⟩:=h
  refine ⟨_,(zac (zau (i:=1) scsingle_ones.nd rfl (Or.inl rfl) (zaO zae))
   (zac (zeZ PassesOwn.never (zay zfz (pv 0) zab (zaz _)) (zac (zau (i:=2) scsingle_ones.nd rfl (Or.inl rfl) (zan zbS (pv 0) (zan zb5 (pv 0) zab)))
   (zac (zax (zc9 PySem.F.plainAttrs_list PySem.F.slot_list_append PySem.F.type_list_append zaT (pv 1) (zaa (zan zb5 (pv 0) (pv 2)) zae)))
   (zag (zau (i:=0) scsingle_ones.nd rfl (Or.inl rfl) (pv 2))))))
   (zag (zat (pv 1))))),?rd⟩
  refine ⟨by show 0≤sizeLine;decide,fun l hl=>?_⟩
  refine zeI (fun σ H2=>∃ (m:Nat) (r:Option V) (d:List Nat),σ=[some (.int (m:Int)),some (.ref l),r]∧m<2 ^ 64∧Same H H2∧H2 l=some (.lst (vN d))∧d ++ sgl m=sgl n) (fun σ _=>match σ with | some (.int i) :: _=>i.toNat | _=>0)
   ⟨n,none,[],rfl,hn,zaf hl,zad,rfl⟩ ?_ ?_
  ·rintro σ H2 ⟨m,r,d,rfl,hm,hs,hL,hd⟩
   walk_at "vc"
   refine ite2 (fun h1=>?_) (fun h1=>?_)
   ·have h1:0<m:=by have:=of_decide_eq_true h1;omega
    obtain ⟨s1,s2⟩:=zjZ m h1
    have e1:((m:Int) - 1)=((m - 1:Nat):Int):=by omega
    walk_at "vc"
    have hlen:(vN d).length<sizeLine:=by
     have h2:=congrArg List.length hd
     rw [List.length_append,zbH,zbH] at h2
     have h3:=ze3 64 n hn
     rw [zaw];exact zaN (by omega)
    refine ⟨.inl ⟨rfl,_,SqL.of hL⟩,?_⟩
    walk_at "vc"
    refine ⟨l,_,_,rfl,rfl,hL,hlen,?_⟩
    walk_at "vc"
    have e2:Builtin.bitAnd (m:Int) ((m:Int) - 1)=((m &&& (m - 1):Nat):Int):=by rw [e1,band]
    have e3:(m:Int) - Builtin.bitAnd (m:Int) ((m:Int) - 1)=((m - (m &&& (m - 1)):Nat):Int):=by rw [e2];omega
    refine ⟨⟨m &&& (m - 1),some (.int ((m &&& (m - 1):Nat):Int)),d ++ [m - (m &&& (m - 1))],?_,by omega,fun b o e=>?_,?_,?_⟩,?_⟩
    ·show List.set (List.set _ _ _) _ _=_
     simp only [List.set]
     rw [e2]
    ·rw [zai (zam e hl)];exact hs b o e
    ·rw [zad,zbT,← e3]
    ·rw [← hd,s2];simp
    ·show (Builtin.bitAnd (m:Int) ((m:Int) - 1)).toNat<((m:Nat):Int).toNat
     rw [e2];simpa using s1
   ·have h1:m=0:=by have:=h1;simp at this;omega
    subst h1
    walk_at "vc"
    rw [zdk,List.append_nil] at hd
    subst hd
    exact k l H2 hl hL hs
  ·rintro σ H2 Q1 Q2 hq h
   obtain ⟨v,e,i,j,e1,e2,c,e3,h⟩:=h
   exact ⟨v,e,i,j,e1,e2,c,e3,hq _ _ h⟩
end
abbrev zeQ:Stmt:=top 12
theorem ziA:FnScope ["mask"] ["mask"] (zah zeQ):=⟨rfl,rfl,rfl,by decide +kernel,rfl,by decide +kernel,by decide +kernel⟩
section
variable {P:Program} {w:World} {K:PySem.W.Frag} {mg:Str→Option Value} {base:Heap}
theorem ziY {f:Addr} {fd:FuncData} (F:Fun K "ones_of" "ones_of" zeQ f fd) (T:Blt mg) (Gsingle_ones:Cal P w K mg base 1 "single_ones" ["mask"] zcw):FnOk P w K mg base CX0 2 f fd ["mask"] zik:=by
 refine F.ok ziA (fun vs H Q E h=>?_) (fun cdv A outer s H vs Q E hr h=>?_)
 ·obtain ⟨n,rfl,_⟩:=h;rfl
 ·obtain ⟨n,rfl,hn,k⟩:=h
  refine ⟨_,(zag (zat (zao zaA (by rfl) T.len PySem.boot_len (zaa (zar Gsingle_ones (hr.mono (by walk_at "m")) rfl (zaa (pv 0) zae)) zae)))),?rd⟩
  refine ⟨_,rfl,n,rfl,hn,fun p H' hp hL hs=>?_⟩
  refine ⟨p,_,rfl,.inl (SqL.of hL),?_⟩
  rw [zaw,zbH]
  exact k H' hs
end
abbrev zdL:Stmt:=top 13
theorem zhE:FnScope ["mask","number"] ["mask","number"] (zah zdL):=⟨rfl,rfl,rfl,by decide +kernel,rfl,by decide +kernel,by decide +kernel⟩
section
variable {P:Program} {w:World} {K:PySem.W.Frag} {mg:Str→Option Value} {base:Heap}
theorem zhN {f:Addr} {fd:FuncData} (F:Fun K "gathered" "gathered" zdL f fd) (T:Blt mg) (Gsingle_ones:Cal P w K mg base 1 "single_ones" ["mask"] zcw):FnOk P w K mg base CX0 2 f fd ["mask","number"] (spG gath):=by
 refine F.ok zhE (fun vs H Q E h=>?_) (fun cdv A outer s H vs Q E hr h=>?_)
 ·obtain ⟨m,n,rfl,_⟩:=h;rfl
 ·obtain ⟨m,n,rfl,hm,k⟩:=h
  refine' ⟨_,(zag (zat (zao (zfZ rfl) (by rfl) T.sum PyProof.Rows.boot_sum (zaa ?c1 zae)))),?rd⟩
  (case c1=>exact (zd0 (Nc:=["k","single","number"]) [none,none,some 1] rfl (zaY (by rfl)) (zlB rfl T.enumerate (zaa (zar Gsingle_ones (hr.mono (by walk_at "m")) rfl (zaa (pv 0) zae)) zae)) (fun _ _ _ _ _=>(ziQ 2 (K:=K) rfl rfl (zak (zaj (i:=0) (show (["k","single","number"]:List Str).Nodup by decide +kernel) rfl (Or.inl rfl)) (zak (zaj (i:=1) (show (["k","single","number"]:List Str).Nodup by decide +kernel) rfl (Or.inl rfl)) zaR)))) (fun _ _ _ _ _=>(ziR (ziI (K:=K) rfl (zan zbS (pv 2) (pv 1)) (fun _=>rfl)))) (fun _ _ _ _ _=>(zan zbR zab (pv 0)))))
  refine ⟨_,rfl,m,rfl,hm,fun p H1 hp hL s1=>⟨p,rfl,⟨_,SqL.of hL⟩,?_⟩⟩
  have hz:(sgl m).length≤64:=by rw [zbH];exact ze3 64 m hm
  refine zjx (K:=K) (xs:=vN (sgl m)) (fun i ys σ H2=>∃ v1 v2 l,σ=[v1,v2,some (.int (n:Int))]∧ys=vN l∧l.length≤i∧l.sum+gsm i ((sgl m).drop i) n=gath m n∧Same H1 H2) (by rw [zaw];exact Nat.le_of_lt (zaN (by omega))) ⟨none,none,[],rfl,rfl,Nat.le_refl _,by simp [zjf],Same.refl _⟩ ?_ ?_ ?_
  ·rintro i ys σ H2 hi ⟨v1,v2,l,_,rfl,hl,_,s2⟩
   exact ⟨SqL.of (s2 _ _ hL),by rw [zaw];exact hl⟩
  ·rintro i x U ys σ H2 hi hU ⟨v1,v2,l,rfl,rfl,hl,hsum,s2⟩
   obtain ⟨b,hb,rfl⟩:=zfp hi
   have hil:i<(sgl m).length:=(List.getElem?_eq_some_iff.mp hb).1
   refine zej ?_
   have e1:Builtin.bitAnd (n:Int) (b:Int)=((n &&& b:Nat):Int):=band n b
   refine ⟨_,rfl,_,rfl,_,_,rfl,rfl,_,rfl,?_⟩
   rw [zhq n hb] at hsum
   have st:Same H1 (upd H2 U (.tup [.int (i:Int),.int (b:Int)])):=s2.trans (zaf hU)
   by_cases h0:n &&& b=0
   ·rw [if_neg (by rw [e1,h0];decide)]
    rw [if_pos h0] at hsum
    exact ⟨_,_,l,rfl,rfl,by omega,by omega,st⟩
   ·rw [if_pos (by rw [e1];simp only [bne_iff_ne,ne_eq];omega)]
    rw [if_neg h0] at hsum
    refine ⟨_,rfl,_,_,rfl,rfl,⟨by omega,by omega,by decide⟩,?_⟩
    refine ⟨_,_,l ++ [2 ^ i],rfl,?_,by simp;omega,by simp;omega,st⟩
    rw [zbT]
    have e2:((i:Int)).toNat=i:=by omega
    have e3:(1:Int) * 2 ^ ((i:Int)).toNat=((2 ^ i:Nat):Int):=by rw [e2,Int.one_mul];norm_cast
    show _=vN l ++ [V.int ((2 ^ i:Nat):Int)]
    rw [← e3]
  ·rintro ys σ H2 ⟨v1,v2,l,rfl,rfl,hl,hsum,s2⟩ D hD
   rw [zaw,List.drop_length] at hsum
   refine ⟨D,l.map (fun (b:Nat)=>(b:Int)),rfl,zib (SqL.of zad),?_⟩
   rw [sumN]
   have e:l.sum=gath m n:=by simpa [gsm] using hsum
   rw [e]
   exact k _ (s1.trans (s2.trans (zaf hD)))
end
abbrev zcH:Stmt:=top 20
theorem zgs:FnScope ["thing","last"] ["thing","last"] (zah zcH):=⟨rfl,rfl,rfl,by decide +kernel,rfl,by decide +kernel,by decide +kernel⟩
section
variable {P:Program} {w:World} {K:PySem.W.Frag} {mg:Str→Option Value} {base:Heap}
theorem zgE {f:Addr} {fd:FuncData} (F:Fun K "is_number" "is_number" zcH f fd) (T:Blt mg):FnOk P w K mg base CX0 1 f fd ["thing","last"] zbo:=by
 refine F.ok zgs (fun vs H Q E h=>?_) (fun cdv A outer s H vs Q E hr h=>?_)
 ·obtain ⟨p,v,d,l,rfl,_⟩:=h;rfl
 ·obtain ⟨p,v,d,l,rfl,hd,k⟩:=h
  refine ⟨_,(zag (zat (zbv (zao (zaJ "int" (K:=K) rfl) (by rfl) T.isinstance za3 (zaa (pv 0) (zaa (zaS rfl T.int zjD zkX) zae))) (zbv (zkZ (zao (zaJ "bool" (K:=K) rfl) (by rfl) T.isinstance za3 (zaa (pv 0) (zaa (zaS rfl T.bool zfi zeY) zae)))) (zbI (zke ziV ziV zab (pv 0) (pv 1))))))),?rd⟩
  have no:isI d=false→numD l d=false:=fun z=>by cases d <;> first | rfl | cases z
  have nb:isB d=true→numD l d=false:=fun z=>by cases d <;> first | rfl | cases z
  obtain ⟨t,ty,k1,k2,_⟩:=hd.ty (K:=K)
  refine ⟨_,rfl,_,_,_,rfl,ty,k1,_,rfl,ite2 (fun h1=>?_) (fun h1=>?_)⟩
  ·refine ⟨_,rfl,_,_,_,rfl,ty,k2,_,rfl,_,rfl,ite2 (fun h2=>?_) (fun h2=>?_)⟩
   ·cases hd with
    | int a =>
     refine ⟨_,rfl,_,_,rfl,rfl,_,rfl,ite2 (fun h=>?_) (fun h=>?_)⟩
     ·have h:=of_decide_eq_true h
      refine ⟨_,rfl,_,_,rfl,rfl,?_⟩
      rw [show numD l (.int a)=decide (a≤l) from decide_eq_decide.mpr ⟨fun z=>z.2,fun z=>⟨h,z⟩⟩] at k
      exact k
     ·have h:¬ 0≤a:=fun z=>h (decide_eq_true z)
      rw [show numD l (.int a)=false from decide_eq_false fun z=>h z.1] at k
      exact k
    | bl b=>cases h2
    | _=>cases h1
   ·rw [nb (by cases e:isB d with | true=>rfl | false=>rw [e] at h2;exact absurd rfl h2)] at k
    exact k
  ·have e:isI d=false:=by cases e:isI d with | true=>exact absurd e h1 | false=>rfl
   rw [no e] at k
   exact k
end
abbrev zeL:Stmt:=top 32
theorem ziy:FnScope ["bits"] ["bits"] (zah zeL):=⟨rfl,rfl,rfl,by decide +kernel,rfl,by decide +kernel,by decide +kernel⟩
section
variable {P:Program} {w:World} {K:PySem.W.Frag} {mg:Str→Option Value} {base:Heap}
theorem ziX {f:Addr} {fd:FuncData} (F:Fun K "size_of" "size_of" zeL f fd) (T:Blt mg):FnOk P w K mg base CX0 1 f fd ["bits"] zg4:=by
 refine F.ok ziy (fun vs H Q E h=>?_) (fun cdv A outer s H vs Q E hr h=>?_)
 ·obtain ⟨n,rfl,_⟩:=h;rfl
 ·obtain ⟨n,rfl,hn,k⟩:=h
  refine ⟨_,(zag (zat (zan zbR zab (zao (zf2 rfl) (by rfl) T.max PyProof.Rows.boot_max (zaa (pv 0) (zaa zab zae)))))),?rd⟩
  refine ⟨_,rfl,_,_,rfl,?_⟩
  refine ⟨_,_,rfl,rfl,?_,?_⟩
  ·rw [if_neg (by omega)]
   exact ⟨by omega,by omega,by decide⟩
  ·have e:(1:Int) * 2 ^ (if (0:Int) > (n:Int) then 0 else (n:Int)).toNat=2 ^ n:=by
    rw [if_neg (by omega),Int.one_mul,Int.toNat_natCast]
   show Q (V.int ((1:Int) * 2 ^ (if (0:Int) > (n:Int) then 0 else (n:Int)).toNat)) H
   rw [e]
   exact k
end
abbrev zcI:Stmt:=top 33
theorem zgt:FnScope ["mask","want","last"] ["mask","want","last"] (zah zcI):=⟨rfl,rfl,rfl,by decide +kernel,rfl,by decide +kernel,by decide +kernel⟩
section
variable {P:Program} {w:World} {K:PySem.W.Frag} {mg:Str→Option Value} {base:Heap}
theorem zgF {f:Addr} {fd:FuncData} (F:Fun K "is_choice" "is_choice" zcI f fd) (T:Blt mg) (Gis_number:Cal P w K mg base 1 "is_number" ["thing","last"] zbo):FnOk P w K mg base CX0 2 f fd ["mask","want","last"] zdi:=by
 refine F.ok zgt (fun vs H Q E h=>?_) (fun cdv A outer s H vs Q E hr h=>?_)
 ·obtain ⟨p,v,w,d,e,l,rfl,_⟩:=h;rfl
 ·obtain ⟨p,v,w,d,e,l,rfl,hd,he,k⟩:=h
  refine ⟨_,(zag (zat (zbv (zar Gis_number (hr.mono (by walk_at "m")) rfl (zaa (pv 0) (zaa (pv 2) zae))) (zbv (zar Gis_number (hr.mono (by walk_at "m")) rfl (zaa (pv 1) (zaa (pv 2) zae))) (zbI (zbE zb6 (zan zbS (pv 1) (pv 0)) (pv 1) (zaz _))))))),?rd⟩
  refine ⟨_,rfl,_,rfl,p,v,d,l,rfl,hd,_,rfl,ite2 (fun h1=>?_) (fun h1=>?_)⟩
  ·refine ⟨_,rfl,_,rfl,p,w,e,l,rfl,he,_,rfl,ite2 (fun h2=>?_) (fun h2=>?_)⟩
   ·obtain ⟨a,rfl,_⟩:=zdr h1
    obtain ⟨b,rfl,_⟩:=zdr h2
    cases hd
    cases he
    refine ⟨_,rfl,_,rfl,_,_,rfl,rfl,_,rfl,rfl,?_⟩
    have e:chD l (.int (a:Int)) (.int (b:Int))=decide (V.int (Builtin.bitAnd (b:Int) (a:Int))=V.int (b:Int)):=by
     unfold chD
     rw [h1,h2]
     rw [band,Bool.true_and,Bool.true_and]
     refine decide_eq_decide.mpr ⟨fun z=>?_,fun z=>?_⟩
     ·have z:(b &&& a)=b:=z
      rw [z]
     ·have z:=V.int.inj z
      show (b &&& a)=b
      omega
    rw [← e]
    exact k
   ·unfold chD at k
    rw [h1,eq_false_of_ne_true h2] at k
    exact k
  ·unfold chD at k
   rw [eq_false_of_ne_true h1] at k
   exact k
end
abbrev zdJ:Stmt:=top 34
theorem scis_latch:FnScope ["thing","chip","mask","want"] ["thing"] (zah zdJ):=⟨rfl,rfl,rfl,by decide +kernel,rfl,by decide +kernel,by decide +kernel⟩
section
variable {P:Program} {w:World} {K:PySem.W.Frag} {mg:Str→Option Value} {base:Heap}
theorem zkr {ds:List D} (h:ds.length≠3):latD (.tup ds)=false:=by
 match ds,h with
 | [],_=>rfl
 | [_],_=>rfl
 | [_,_],_=>rfl
 | [_,_,_],h=>exact absurd rfl h
 | _ :: _ :: _ :: _ :: _,_=>rfl
theorem zhL {f:Addr} {fd:FuncData} (F:Fun K "is_latch" "is_latch" zdJ f fd) (T:Blt mg) (N:Nums mg) (Gis_number:Cal P w K mg base 1 "is_number" ["thing","last"] zbo) (Gis_choice:Cal P w K mg base 2 "is_choice" ["mask","want","last"] zdi):FnOk P w K mg base CX0 3 f fd ["thing"] zio:=by
 refine F.ok scis_latch (fun vs H Q E h=>?_) (fun cdv A outer s H vs Q E hr h=>?_)
 ·obtain ⟨p,v,d,rfl,_⟩:=h;rfl
 ·obtain ⟨p,v,d,rfl,hd,k⟩:=h
  refine ⟨_,(zac (zaE (PW.pt (zcz (zaX (zaL (zao (zaJ "tuple" (K:=K) rfl) (by rfl) T.isinstance za3 (zaa (pv 0) (zaa (zaS rfl T.tuple zbg zcb) zae))))) (zb3 (zay zgD (zao zaA (by rfl) T.len PySem.boot_len (zaa (pv 0) zae)) zab (zaz _))))) (zag (zat zcB)) zaq)
   (zac (zbs (pv 0) (zbc rfl (zak (zaj (i:=1) scis_latch.nd rfl (Or.inl rfl)) (zak (zaj (i:=2) scis_latch.nd rfl (Or.inl rfl)) (zak (zaj (i:=3) scis_latch.nd rfl (Or.inl rfl)) zaR)))))
   (zag (zat (zbv (zar Gis_number (hr.mono (by walk_at "m")) rfl (zaa (pv 1) (zaa (zbt rfl N.LAST_CHIP) zae))) (zbI (zar Gis_choice (hr.mono (by walk_at "m")) rfl (zaa (pv 2) (zaa (pv 3) (zaa (zbt rfl N.LAST_WORD) zae)))))))))),?rd⟩
  obtain ⟨t,ty,_,_,k3⟩:=hd.ty (K:=K)
  refine ⟨_,rfl,_,_,_,rfl,ty,k3,_,rfl,?_⟩
  cases hd with
  | @tup a xs ds e ha hl h =>
   refine iteF ⟨_,rfl,a,xs,rfl,.inr (SqT.of e),rfl,_,rfl,ite2 (fun h1=>?_) (fun h1=>?_)⟩
   ·have n3:ds.length≠3:=fun z=>by
     rw [decide_eq_true (show V.int (xs.length:Int)=V.int 3 by rw [hl,z];rfl)] at h1
     cases h1
    rw [zkr n3] at k
    exact k
   ·have n3:xs.length=3:=by
     by_cases z:xs.length=3
     ·exact z
     ·rw [decide_eq_false (show ¬ V.int (xs.length:Int)=V.int 3 from fun q=>z (by have:=V.int.inj q;omega))] at h1
      exact absurd rfl h1
    match xs,ds,n3,hl,h,e with
    | [x,y,z],[c,m,w_],_,_,h,e =>
     refine ⟨_,rfl,a,_,rfl,SqT.of e,rfl,x,_,rfl,y,_,rfl,z,_,rfl,rfl,?_⟩
     refine ⟨_,rfl,p,x,c,99,rfl,h 0 x c rfl rfl,_,rfl,ite2 (fun h1=>?_) (fun h1=>?_)⟩
     ·refine ⟨_,rfl,_,rfl,p,y,z,m,w_,255,rfl,h 1 y m rfl rfl,h 2 z w_ rfl rfl,?_⟩
      rw [show latD (.tup [c,m,w_])=(numD 99 c && chD 255 m w_) from rfl,h1] at k
      exact k
     ·rw [show latD (.tup [c,m,w_])=(numD 99 c && chD 255 m w_) from rfl,eq_false_of_ne_true h1] at k
      exact k
  | _=>exact iteT (iteT k)
end
abbrev zgp:Stmt:=top 35
theorem scis_row:FnScope ["bits","thing","mask","want","inner","chip","latch","last"] ["bits","thing"] (zah zgp):=⟨rfl,rfl,rfl,by decide +kernel,rfl,by decide +kernel,by decide +kernel⟩
section
variable {P:Program} {w:World} {K:PySem.W.Frag} {mg:Str→Option Value} {base:Heap}
theorem zj4 {l:Int} {ds:List D} (h:ds.length≠5):rowD l (.tup ds)=false:=by
 match ds,h with
 | [],_=>rfl
 | [_],_=>rfl
 | [_,_],_=>rfl
 | [_,_,_],_=>rfl
 | [_,_,_,_],_=>rfl
 | [_,_,_,_,_],h=>exact absurd rfl h
 | _ :: _ :: _ :: _ :: _ :: _ :: _,_=>rfl
theorem zhn {n m:Nat} {A B:Prop} (h1:n≠m→A) (h2:n=m→B):if (!decide (V.int (n:Int)=V.int (m:Int)))=true then A else B:=by
 by_cases z:n=m
 ·rw [decide_eq_true (by rw [z])]
  exact iteF (h2 z)
 ·rw [decide_eq_false (fun q=>z (by have:=V.int.inj q;omega))]
  exact iteT (h1 z)
theorem zlj {b:Bool} (h:(!b)=true):b=false:=by cases b <;> first | rfl | cases h
theorem zlk {b:Bool} (h:¬ (!b)=true):b=true:=by cases b <;> first | rfl | exact absurd rfl h
theorem zkf {f:Addr} {fd:FuncData} (F:Fun K "is_row" "is_row" zgp f fd) (T:Blt mg) (N:Nums mg) (Gis_number:Cal P w K mg base 1 "is_number" ["thing","last"] zbo) (Gsize_of:Cal P w K mg base 1 "size_of" ["bits"] zg4) (Gis_choice:Cal P w K mg base 2 "is_choice" ["mask","want","last"] zdi) (Gis_latch:Cal P w K mg base 3 "is_latch" ["thing"] zio):FnOk P w K mg base CX0 4 f fd ["bits","thing"] zii:=by
 refine F.ok scis_row (fun vs H Q E h=>?_) (fun cdv A outer s H vs Q E hr h=>?_)
 ·obtain ⟨p,v,d,n,rfl,_⟩:=h;rfl
 ·obtain ⟨p,v,d,n,rfl,hd,hn,hn2,k⟩:=h
  refine ⟨_,(zac (zaE (PW.pt (zcz (zaX (zaL (zao (zaJ "tuple" (K:=K) rfl) (by rfl) T.isinstance za3 (zaa (pv 1) (zaa (zaS rfl T.tuple zbg zcb) zae))))) (zb3 (zay zgD (zao zaA (by rfl) T.len PySem.boot_len (zaa (pv 1) zae)) zab (zaz _))))) (zag (zat zcB)) zaq)
   (zac (zbs (pv 1) (zbc rfl (zak (zaj (i:=2) scis_row.nd rfl (Or.inl rfl)) (zak (zaj (i:=3) scis_row.nd rfl (Or.inl rfl)) (zak (zaj (i:=4) scis_row.nd rfl (Or.inl rfl)) (zak (zaj (i:=5) scis_row.nd rfl (Or.inl rfl)) (zak (zaj (i:=6) scis_row.nd rfl (Or.inl rfl)) zaR)))))))
   (zac (zau (i:=7) scis_row.nd rfl (Or.inl rfl) (zan zb5 (zar Gsize_of (hr.mono (by walk_at "m")) rfl (zaa (pv 0) zae)) zab))
   (zac (zaE (PW.pt (zcz (zaX (zaL (zar Gis_choice (hr.mono (by walk_at "m")) rfl (zaa (pv 2) (zaa (pv 3) (zaa (pv 7) zae)))))) (zcz (zaX (zaL (zar Gis_number (hr.mono (by walk_at "m")) rfl (zaa (pv 4) (zaa (pv 7) zae))))) (zb3 (zay zgD (zan zbS (pv 4) (pv 2)) zab (zaz _)))))) (zag (zat zcB)) zaq)
   (zag (zat (zbv (zar Gis_number (hr.mono (by walk_at "m")) rfl (zaa (pv 5) (zaa (zbt rfl N.LAST_CHIP) zae))) (zbI (pe_or (ziU (zch (pv 6))) (zbI (zar Gis_latch (hr.mono (by walk_at "m")) rfl (zaa (pv 6) zae)))))))))))),?rd⟩
  have k:=k H (Same.refl _)
  obtain ⟨t,ty,_,_,k3⟩:=hd.ty (K:=K)
  refine ⟨_,rfl,_,_,_,rfl,ty,k3,_,rfl,?_⟩
  cases hd with
  | @tup a xs ds e ha hl h =>
   refine iteF ⟨_,rfl,a,xs,rfl,.inr (SqT.of e),rfl,_,rfl,zhn (m:=5) (fun h1=>?_) (fun h1=>?_)⟩
   ·rw [zj4 (by omega)] at k
    exact k
   ·match xs,ds,h1,hl,h,e with
    | [x0,x1,x2,x3,x4],[m,w_,i,c,l],_,_,h,e =>
     refine ⟨_,rfl,a,_,rfl,SqT.of e,rfl,x0,_,rfl,x1,_,rfl,x2,_,rfl,x3,_,rfl,x4,_,rfl,rfl,?_⟩
     refine ⟨_,rfl,n,rfl,hn2,_,_,rfl,rfl,?_⟩
     have d0:=h 0 x0 m rfl rfl
     have d1:=h 1 x1 w_ rfl rfl
     have d2:=h 2 x2 i rfl rfl
     have d3:=h 3 x3 c rfl rfl
     have d4:=h 4 x4 l rfl rfl
     have ek:rowD (2 ^ n - 1) (.tup [m,w_,i,c,l])=(chD (2 ^ n - 1) m w_ && numD (2 ^ n - 1) i && decide (natD i &&& natD m=0) && numD 99 c && latN l):=rfl
     rw [ek] at k
     refine ⟨_,rfl,_,rfl,_,rfl,p,x0,x1,m,w_,_,rfl,d0,d1,?_⟩
     refine ⟨_,rfl,ite2 (fun h1=>?_) (fun h1=>?_)⟩
     ·rw [zlj h1] at k
      exact iteT k
     have c1:=zlk h1
     have c1':=c1
     unfold chD at c1'
     rw [Bool.and_eq_true,Bool.and_eq_true] at c1'
     obtain ⟨m',rfl,_⟩:=zdr c1'.1.1
     rw [c1] at k
     refine ⟨_,rfl,_,rfl,p,x2,i,_,rfl,d2,_,rfl,ite2 (fun h2=>?_) (fun h2=>?_)⟩
     ·rw [zlj h2] at k
      exact iteT k
     have c2:=zlk h2
     obtain ⟨i',rfl,_⟩:=zdr c2
     rw [c2] at k
     cases d0
     cases d2
     refine ⟨_,rfl,_,rfl,_,_,rfl,rfl,rfl,_,rfl,?_⟩
     rw [show (fun i j=>V.int (Builtin.bitAnd i j)) (i':Int) (m':Int)=V.int ((i' &&& m':Nat):Int) from congrArg V.int (band _ _)]
     refine zhn (m:=0) (fun h3=>?_) (fun h3=>?_)
     ·rw [show decide (natD (.int (i':Int)) &&& natD (.int (m':Int))=0)=false from decide_eq_false h3] at k
      exact k
     rw [show decide (natD (.int (i':Int)) &&& natD (.int (m':Int))=0)=true from decide_eq_true h3] at k
     refine ⟨_,rfl,p,x3,c,99,rfl,d3,_,rfl,ite2 (fun h4=>?_) (fun h4=>?_)⟩
     ·rw [h4] at k
      cases d4 with
      | non=>exact ⟨_,rfl,_,rfl,iteT k⟩
      | bl b=>exact ⟨_,rfl,_,rfl,iteF ⟨_,rfl,p,_,_,rfl,.bl b,k⟩⟩
      | int b=>exact ⟨_,rfl,_,rfl,iteF ⟨_,rfl,p,_,_,rfl,.int b,k⟩⟩
      | str b=>exact ⟨_,rfl,_,rfl,iteF ⟨_,rfl,p,_,_,rfl,.str b,k⟩⟩
      | lst e5 h5=>exact ⟨_,rfl,_,rfl,iteF ⟨_,rfl,p,_,_,rfl,.lst e5 h5,k⟩⟩
      | dic e5 h5=>exact ⟨_,rfl,_,rfl,iteF ⟨_,rfl,p,_,_,rfl,.dic e5 h5,k⟩⟩
      | tup e5 h5 l5 g5=>exact ⟨_,rfl,_,rfl,iteF ⟨_,rfl,p,_,_,rfl,.tup e5 h5 l5 g5,k⟩⟩
     ·rw [eq_false_of_ne_true h4] at k
      exact k
  | _=>exact iteT (iteT k)
end
abbrev zgq:Stmt:=top 36
theorem zj2:FnScope ["bits","thing"] ["bits","thing"] (zah zgq):=⟨rfl,rfl,rfl,by decide +kernel,rfl,by decide +kernel,by decide +kernel⟩
section
variable {P:Program} {w:World} {K:PySem.W.Frag} {mg:Str→Option Value} {base:Heap}
theorem zkg {f:Addr} {fd:FuncData} (F:Fun K "is_map" "is_map" zgq f fd) (T:Blt mg) (Gis_row:Cal P w K mg base 4 "is_row" ["bits","thing"] zii):FnOk P w K mg base CX0 5 f fd ["bits","thing"] zin:=by
 refine F.ok zj2 (fun vs H Q E h=>?_) (fun cdv A outer s H vs Q E hr h=>?_)
 ·obtain ⟨p,v,d,n,rfl,_⟩:=h;rfl
 ·obtain ⟨p,v,d,n,rfl,hd,htl,hn,hn2,k⟩:=h
  refine' ⟨_,(zag (zat (zbv (zao (zaJ "tuple" (K:=K) rfl) (by rfl) T.isinstance za3 (zaa (pv 1) (zaa (zaS rfl T.tuple zbg zcb) zae))) (zbI (zao (zem rfl) (by rfl) T.all zjE (zaa ?c1 zae)))))),?rd⟩
  (case c1=>exact (zd0 (Nc:=["row","bits"]) [none,some 0] rfl (zaY (by rfl)) (ziP (pv 1)) (fun _ _ _ _ _=>(zaj (i:=0) (show (["row","bits"]:List Str).Nodup by decide +kernel) rfl (Or.inl rfl))) (fun _ _ _ _ _=>zdY) (fun _ _ _ _ _=>(zar Gis_row (hr.mono (by walk_at "m")) rfl (zaa (pv 1) (zaa (pv 0) zae))))))
  obtain ⟨t,ty,_,_,t3⟩:=hd.ty (K:=K)
  refine ⟨_,rfl,_,_,_,rfl,ty,t3,_,rfl,?_⟩
  cases hd with
  | @tup a xs ds e ha hl h =>
   have hl3:ds.length≤300:=htl
   refine iteT ⟨_,rfl,a,rfl,⟨_,SqT.of e⟩,?_⟩
   refine zkH (K:=K) (xs:=xs) (fun j rs σ H1=>∃ v0,σ=[v0,some (.int (n:Int))]∧rs=(ds.take j).map (fun d=>V.bl (rowD (2 ^ n - 1) d))∧Same H H1) (Nat.le_trans (show _≤300 by omega) (by decide)) ⟨none,rfl,rfl,Same.refl _⟩ ?_ ?_ ?_
   ·rintro j rs σ H1 hj ⟨v0,rfl,rfl,s1⟩
    exact ⟨SqT.of (s1 _ _ e),by rw [List.length_map,List.length_take];omega⟩
   ·rintro j x rs σ H1 hx ⟨v0,rfl,rfl,s1⟩
    have hj:j<xs.length:=(List.getElem?_eq_some_iff.mp hx).1
    have hd:ds[j]? = some (ds[j]'(by omega)):=List.getElem?_eq_getElem (by omega)
    refine ⟨_,rfl,_,rfl,p,x,_,n,rfl,(h j x _ hx hd).same s1,hn,hn2,fun H2 s2=>⟨_,rfl,?_,s1.trans s2⟩⟩
    rw [List.take_succ,hd,List.map_append]
    rfl
   ·rintro rs σ H1 ⟨v0,rfl,rfl,s1⟩ Dd hD
    refine ⟨Dd,ds.map (rowD (2 ^ n - 1)),rfl,SqL.of (by rw [hl,List.take_of_length_le (Nat.le_refl _),List.map_map];exact zad),?_⟩
    have e2:(ds.map (rowD (2 ^ n - 1))).all id=mapD (2 ^ n - 1) (.tup ds):=by rw [List.all_map];rfl
    rw [e2]
    exact k _ (s1.trans (zaf hD))
  | _=>exact iteF (k H (Same.refl _))
end
abbrev ziu:Stmt:=top 37
theorem zlx:FnScope ["row","address"] ["row","address"] (zah ziu):=⟨rfl,rfl,rfl,by decide +kernel,rfl,by decide +kernel,by decide +kernel⟩
section
variable {P:Program} {w:World} {K:PySem.W.Frag} {mg:Str→Option Value} {base:Heap}
theorem zlH {f:Addr} {fd:FuncData} (F:Fun K "meets" "meets" ziu f fd) (T:Blt mg):FnOk P w K mg base CX0 1 f fd ["row","address"] zim:=by
 refine F.ok zlx (fun vs H Q E h=>?_) (fun cdv A outer s H vs Q E hr h=>?_)
 ·obtain ⟨t,r,x,rfl,_⟩:=h;rfl
 ·obtain ⟨t,r,x,rfl,⟨lt,et,hlt⟩,k⟩:=h
  refine ⟨_,(zag (zat (zbE zb6 (zan zbS (pv 1) (zal zap (pv 0) zab (fun _ _=>rfl))) (zal zap (pv 0) zab (fun _ _=>rfl)) (zaz _)))),?rd⟩
  refine ⟨_,rfl,_,rfl,t,_,_,_,rfl,rfl,SqT.of et,rfl,_,_,rfl,rfl,_,rfl,t,_,_,_,rfl,rfl,SqT.of et,rfl,rfl,?_⟩
  have e:decide (V.int (Builtin.bitAnd (x:Int) (r.m:Int))=V.int (r.w:Int))=met r x:=by
   rw [band]
   unfold met
   by_cases h:x &&& r.m=r.w
   ·rw [decide_eq_true h,h];exact decide_eq_true rfl
   ·rw [decide_eq_false h];exact decide_eq_false fun z=>h (by injection z with z;exact Int.ofNat.inj z)
  rw [← e] at k
  exact k
end
abbrev zeU:Stmt:=top 38
theorem ziC:FnScope ["row","address"] ["row","address"] (zah zeU):=⟨rfl,rfl,rfl,by decide +kernel,rfl,by decide +kernel,by decide +kernel⟩
section
variable {P:Program} {w:World} {K:PySem.W.Frag} {mg:Str→Option Value} {base:Heap}
theorem zi0 {f:Addr} {fd:FuncData} (F:Fun K "cell_at" "cell_at" zeU f fd) (T:Blt mg) (Ggathered:Cal P w K mg base 2 "gathered" ["mask","number"] (spG gath)):FnOk P w K mg base CX0 3 f fd ["row","address"] zgm:=by
 refine F.ok ziC (fun vs H Q E h=>?_) (fun cdv A outer s H vs Q E hr h=>?_)
 ·obtain ⟨t,r,a,rfl,_⟩:=h;rfl
 ·obtain ⟨t,r,a,rfl,⟨lt,et,_⟩,hi,k⟩:=h
  refine ⟨_,(zag (zat (zar Ggathered (hr.mono (by walk_at "m")) rfl (zaa (zal zap (pv 0) zab (fun _ _=>rfl)) (zaa (pv 1) zae))))),?rd⟩
  exact ⟨_,rfl,t,_,_,_,rfl,rfl,SqT.of et,rfl,_,rfl,r.i,a,rfl,hi,fun H' s'=>k H' s'⟩
end
abbrev zbz:Stmt:=top 40
theorem zdO:FnScope ["mask","want","other_mask","other_want"] ["mask","want","other_mask","other_want"] (zah zbz):=⟨rfl,rfl,rfl,by decide +kernel,rfl,by decide +kernel,by decide +kernel⟩
section
variable {P:Program} {w:World} {K:PySem.W.Frag} {mg:Str→Option Value} {base:Heap}
theorem zd3 {f:Addr} {fd:FuncData} (F:Fun K "choices_agree" "choices_agree" zbz f fd) (T:Blt mg):FnOk P w K mg base CX0 1 f fd ["mask","want","other_mask","other_want"] zjW:=by
 refine F.ok zdO (fun vs H Q E h=>?_) (fun cdv A outer s H vs Q E hr h=>?_)
 ·obtain ⟨m,x,n,v,rfl,_⟩:=h;rfl
 ·obtain ⟨m,x,n,v,rfl,k⟩:=h
  refine ⟨_,(zag (zat (zbE zb6 (zan zbS (zan zbS (zan zk1 (pv 1) (pv 3)) (pv 0)) (pv 2)) zab (zaz _)))),?rd⟩
  refine ⟨_,rfl,_,rfl,_,_,rfl,rfl,_,rfl,_,_,rfl,rfl,_,rfl,_,_,rfl,rfl,rfl,?_⟩
  have e:decide (V.int (Builtin.bitAnd (Builtin.bitAnd (Builtin.bitXor (x:Int) (v:Int)) (m:Int)) (n:Int))=V.int 0)=agr m x n v:=by
   rw [bxor,band,band]
   unfold agr
   exact decide_eq_decide.mpr ⟨fun h=>by have:=V.int.inj h;omega,fun h=>by rw [h];rfl⟩
  exact Eq.mpr (congrArg (fun b=>Q (V.bl b) H) e) k
end
abbrev zby:Stmt:=top 41
theorem zdM:FnScope ["latch","other"] ["latch","other"] (zah zby):=⟨rfl,rfl,rfl,by decide +kernel,rfl,by decide +kernel,by decide +kernel⟩
section
variable {P:Program} {w:World} {K:PySem.W.Frag} {mg:Str→Option Value} {base:Heap}
theorem zd2 {f:Addr} {fd:FuncData} (F:Fun K "latches_agree" "latches_agree" zby f fd) (T:Blt mg) (Gchoices_agree:Cal P w K mg base 1 "choices_agree" ["mask","want","other_mask","other_want"] zjW):FnOk P w K mg base CX0 2 f fd ["latch","other"] ziq:=by
 refine F.ok zdM (fun vs H Q E h=>?_) (fun cdv A outer s H vs Q E hr h=>?_)
 ·obtain ⟨x,y,o,p,rfl,_⟩:=h;rfl
 ·obtain ⟨x,y,o,p,rfl,hx,hy,k⟩:=h
  refine ⟨_,(zac (zaE (PW.pt (zcz (zbq (zch (pv 0))) (zcz (zbq (zch (pv 1))) (zb3 (zay zgD (zal zap (pv 0) zab (fun _ _=>rfl)) (zal zap (pv 1) zab (fun _ _=>rfl)) (zaz _)))))) (zag (zat zcB)) zaq)
   (zag (zat (zar Gchoices_agree (hr.mono (by walk_at "m")) rfl (zaa (zal zap (pv 0) zab (fun _ _=>rfl)) (zaa (zal zap (pv 0) zab (fun _ _=>rfl)) (zaa (zal zap (pv 1) zab (fun _ _=>rfl)) (zaa (zal zap (pv 1) zab (fun _ _=>rfl)) zae)))))))),?rd⟩
  cases o with
  | none =>
   obtain rfl:x = .non:=hx
   exact ⟨_,rfl,_,rfl,iteT (iteT k)⟩
  | some o =>
   obtain ⟨c,a,b⟩:=o
   obtain ⟨u,rfl,eu⟩:=hx
   refine ⟨_,rfl,_,rfl,iteF ?_⟩
   cases p with
   | none =>
    obtain rfl:y = .non:=hy
    exact ⟨_,rfl,_,rfl,iteT (iteT k)⟩
   | some p =>
    obtain ⟨d,x',y'⟩:=p
    obtain ⟨u',rfl,eu'⟩:=hy
    refine ⟨_,rfl,_,rfl,iteF ?_⟩
    refine ⟨_,rfl,u,_,_,_,rfl,rfl,SqT.of eu,rfl,_,rfl,u',_,_,_,rfl,rfl,SqT.of eu',rfl,rfl,_,rfl,?_⟩
    by_cases h:c=d
    ·subst h
     rw [show (!decide (V.int (c:Int)=V.int (c:Int)))=false by simp]
     refine iteF ?_
     refine ⟨_,rfl,u,_,_,_,rfl,rfl,SqT.of eu,rfl,_,rfl,u,_,_,_,rfl,rfl,SqT.of eu,rfl,_,rfl,u',_,_,_,rfl,rfl,SqT.of eu',rfl,_,rfl,u',_,_,_,rfl,rfl,SqT.of eu',rfl,a,b,x',y',rfl,?_⟩
     rw [show latA (some (c,a,b)) (some (c,x',y'))=agr a b x' y' from if_pos rfl] at k
     exact k
    ·rw [show (!decide (V.int (c:Int)=V.int (d:Int)))=true by simp;omega]
     rw [show latA (some (c,a,b)) (some (d,x',y'))=true from if_neg h] at k
     exact iteT k
end
abbrev zci:Stmt:=top 42
theorem zfu:FnScope ["row","other"] ["row","other"] (zah zci):=⟨rfl,rfl,rfl,by decide +kernel,rfl,by decide +kernel,by decide +kernel⟩
section
variable {P:Program} {w:World} {K:PySem.W.Frag} {mg:Str→Option Value} {base:Heap}
theorem zfC {f:Addr} {fd:FuncData} (F:Fun K "rows_clash" "rows_clash" zci f fd) (T:Blt mg) (Gchoices_agree:Cal P w K mg base 1 "choices_agree" ["mask","want","other_mask","other_want"] zjW) (Glatches_agree:Cal P w K mg base 2 "latches_agree" ["latch","other"] ziq):FnOk P w K mg base CX0 3 f fd ["row","other"] zgj:=by
 refine F.ok zfu (fun vs H Q E h=>?_) (fun cdv A outer s H vs Q E hr h=>?_)
 ·obtain ⟨t,u,r,q,rfl,_⟩:=h;rfl
 ·obtain ⟨t,u,r,q,rfl,⟨lt,et,hl⟩,⟨lu,eu,hk⟩,k⟩:=h
  refine ⟨_,(zag (zat (zbv (zar Gchoices_agree (hr.mono (by walk_at "m")) rfl (zaa (zal zap (pv 0) zab (fun _ _=>rfl)) (zaa (zal zap (pv 0) zab (fun _ _=>rfl)) (zaa (zal zap (pv 1) zab (fun _ _=>rfl)) (zaa (zal zap (pv 1) zab (fun _ _=>rfl)) zae))))) (zbI (zar Glatches_agree (hr.mono (by walk_at "m")) rfl (zaa (zal zap (pv 0) zab (fun _ _=>rfl)) (zaa (zal zap (pv 1) zab (fun _ _=>rfl)) zae))))))),?rd⟩
  refine ⟨_,rfl,t,_,_,_,rfl,rfl,SqT.of et,rfl,_,rfl,t,_,_,_,rfl,rfl,SqT.of et,rfl,_,rfl,u,_,_,_,rfl,rfl,SqT.of eu,rfl,_,rfl,u,_,_,_,rfl,rfl,SqT.of eu,rfl,r.m,r.w,q.m,q.w,rfl,_,rfl,?_⟩
  unfold zdf at k
  cases h:agr r.m r.w q.m q.w with
  | false =>
   rw [h] at k
   exact iteF k
  | true =>
   rw [h] at k
   exact iteT ⟨_,rfl,t,_,_,_,rfl,rfl,SqT.of et,rfl,_,rfl,u,_,_,_,rfl,rfl,SqT.of eu,rfl,lt,lu,r.l,q.l,rfl,hl,hk,k⟩
end
abbrev zbW:Stmt:=top 43
theorem scleast_words:FnScope ["row","other","least","latch","chip"] ["row","other"] (zah zbW):=⟨rfl,rfl,rfl,by decide +kernel,rfl,by decide +kernel,by decide +kernel⟩
section
variable {P:Program} {w:World} {K:PySem.W.Frag} {mg:Str→Option Value} {base:Heap}
theorem ze5 {f:Addr} {fd:FuncData} (F:Fun K "least_words" "least_words" zbW f fd) (T:Blt mg) (GBsorted:mg "sorted" = none):FnOk P w K mg base CX0 1 f fd ["row","other"] zgh:=by
 refine F.ok scleast_words (fun vs H Q E h=>?_) (fun cdv A outer s H vs Q E hr h=>?_)
 ·obtain ⟨t,u,r,q,rfl,_⟩:=h;rfl
 ·obtain ⟨t,u,r,q,rfl,⟨lt,et,hl⟩,⟨lu,eu,hk⟩,k⟩:=h
  refine ⟨_,(zac (zau (i:=2) scleast_words.nd rfl (Or.inl rfl) ze0)
   (zac (zbr PassesOwn.never rfl (ziP (zb4 (zaa (zal zap (pv 0) zab (fun _ _=>rfl)) (zaa (zal zap (pv 1) zab (fun _ _=>rfl)) zae)))) (zaj (i:=3) scleast_words.nd rfl (Or.inl rfl))
   (zag (zaE (zbq (zcr (pv 3))) (zac (zau (i:=4) scleast_words.nd rfl (Or.inl rfl) (zal zap (pv 3) zab (fun _ _=>rfl)))
   (zag (ziJ (zet hr) (pv 2) (pv 4) (zan zhJ (zdp (zet hr) (pv 2) (pv 4) zab ⟨rfl,rfl,rfl,rfl⟩) (zal zap (pv 3) zab (fun _ _=>rfl))) rfl))) zaq)))
   (zag (zat (za8 zbP (by rfl) T.tuple zbg (zaa (zao (zf1 rfl) (by rfl) GBsorted zf3 (zaa (zk0 PySem.F.plainAttrs_dict PySem.F.slot_dict_items PySem.F.type_dict_items zkj (pv 2)) zae)) zae)))))),?rd⟩
  refine fun d hd=>⟨_,rfl,t,_,_,_,rfl,rfl,SqT.of (zaf hd _ _ et),rfl,_,rfl,u,_,_,_,rfl,rfl,SqT.of (zaf hd _ _ eu),rfl,by show 2≤sizeLine;decide,fun tp htp=>⟨tp,rfl,⟨_,SqT.of zad⟩,?_⟩⟩
  have s1:Same H (upd H d (.dK [])):=zaf hd
  have s2:=s1.trans (zaf (o:=.tup [lt,lu]) htp)
  have ndt:d≠tp:=fun z=>by rw [← z,zad] at htp;cases htp
  refine zl1 (K:=K) (a:=tp) (xs:=[lt,lu]) (fun i σ X=>∃ (v3 v4:Option V),σ=[some (.ref t),some (.ref u),some (.ref d),v3,v4]∧X d=some (.dK (knV (knN (if i=0 then [] else if i=1 then dOne r.l else dPut (dOne r.l) q.l))))∧X tp=some (.tup [lt,lu])∧Same H X)
   ⟨none,none,rfl,by rw [zai ndt];exact zad,zad,s2⟩ (fun i σ X hi ⟨_,_,_,_,e,_⟩=>SqT.of e) ?_ ?_
  ·rintro i x σ X hx ⟨v3,v4,rfl,ed,etp,sX⟩
   
   obtain ⟨l,o,hlen,hlx,hnow,hnext⟩:∃ (l:List (Nat×Nat)) (o:Option (Nat×Nat×Nat)),l.length≤1∧LatV H x o∧(if i=0 then [] else if i=1 then dOne r.l else dPut (dOne r.l) q.l)=l∧(if i+1=0 then [] else if i+1=1 then dOne r.l else dPut (dOne r.l) q.l)=dPut l o:=by
    rcases (show i=0∨i=1 by have:=(List.getElem?_eq_some_iff.mp hx).1;simp at this;omega) with rfl | rfl
    ·cases hx
     refine ⟨[],r.l,by simp,hl,rfl,?_⟩
     show dOne r.l=dPut [] r.l
     cases r.l with
     | none=>rfl
     | some z=>rfl
    ·cases hx
     refine ⟨dOne r.l,q.l,?_,hk,rfl,rfl⟩
     cases r.l with
     | none=>simp [dOne]
     | some z=>simp [dOne]
   rw [hnow] at ed
   rw [hnext]
   match o,hlx with
   | none,hlx =>
    obtain rfl:x = .non:=hlx
    exact ⟨_,rfl,_,rfl,iteF ⟨_,_,rfl,ed,etp,sX⟩⟩
   | some (c,a,b),hlx =>
    obtain ⟨lp,rfl,elp⟩:=hlx
    have elX:=sX _ _ elp
    obtain ⟨n,hv,hput⟩:=put_is hlen c a b
    refine ⟨_,rfl,_,rfl,iteT ?_⟩
    refine ⟨_,rfl,lp,_,_,_,rfl,rfl,SqT.of elX,rfl,?_⟩
    refine ⟨_,rfl,d,rfl,.inl ⟨_,.inl ed⟩,_,rfl,_,DGet.k (k:=Sum.inl (c:Int)) ed,?_⟩
    rw [hv]
    refine ⟨_,rfl,lp,_,_,_,rfl,rfl,SqT.of elX,rfl,_,_,rfl,rfl,_,rfl,_,rfl,d,_,rfl,DPut.k (k:=Sum.inl (c:Int)) ed ?_,?_⟩
    ·unfold knV knN
     rw [List.length_map,List.length_map]
     exact Nat.lt_of_le_of_lt hlen (by decide)
    ·refine ⟨_,_,rfl,?_,by rw [zai (Ne.symm ndt)];exact etp,fun z o e=>?_⟩
     ·rw [zad,show ((fun (i j:Int)=>V.int (Builtin.bitOr i j)) (n:Int) (b:Int))=V.int ((n ||| b:Nat):Int) from congrArg V.int (bor n b),hput]
     ·rw [zai (zam e hd)];exact sX _ _ e
  ·rintro σ X ⟨v3,v4,rfl,ed,etp,sX⟩
   have ed:X d=some (.dK (knV (knN (dPut (dOne r.l) q.l)))):=ed
   refine ⟨_,rfl,.inr (.inr (.inl ⟨rfl,.inl ⟨_,ed⟩⟩)),d,_,rfl,rfl,ed,fun vp hvp=>?_⟩
   refine ⟨vp,d,_,rfl,zad,zaf hvp _ _ ed,zkF _ _,zhZ _ _,fun l ts X2 hts hl2 s2 el hpr=>?_⟩
   refine ⟨l,_,rfl,.inl ⟨SqL.of el,fun p hp=>?_⟩⟩
   have sF:=sX.trans ((zaf hvp).trans s2)
   refine k p _ (zfy sF hp) ⟨ts,zad,?_,fun j t' q' e1 e2=>?_⟩ (sF.trans (zaf hp))
   ·rw [hts,← lw_is]
    have:∀ l:List (Int×Int),(srt2 l).length=l.length:=fun l=>by
     match l with
     | []=>rfl
     | [_]=>rfl
     | [x,y] =>
      show (if y.1<x.1 then [y,x] else [x,y]).length=2
      split <;> rfl
     | _ :: _ :: _ :: _=>rfl
    exact (this _).symm
   ·rw [← lw_is] at e2
    exact zaf hp _ _ (hpr j t' q' e1 e2).2
end
abbrev zdN:Stmt:=top 44
theorem scclash_of:FnScope ["rows","found","second","other","first","row","address"] ["rows"] (zah zdN):=⟨rfl,rfl,rfl,by decide +kernel,rfl,by decide +kernel,by decide +kernel⟩
section
variable {P:Program} {w:World} {K:PySem.W.Frag} {mg:Str→Option Value} {base:Heap}
theorem zhO {f:Addr} {fd:FuncData} (F:Fun K "clash_of" "clash_of" zdN f fd) (T:Blt mg) (Grows_clash:Cal P w K mg base 3 "rows_clash" ["row","other"] zgj) (Gleast_words:Cal P w K mg base 1 "least_words" ["row","other"] zgh):FnOk P w K mg base CX0 4 f fd ["rows"] zdG:=by
 refine F.ok scclash_of (fun vs H Q E h=>?_) (fun cdv A outer s H vs Q E hr h=>?_)
 ·obtain ⟨p,as,rs,rfl,_⟩:=h;rfl
 ·obtain ⟨p,as,rs,rfl,hp,hla,hrs,hrw,k1,k2⟩:=h
  refine ⟨_,(zac (zau (i:=1) scclash_of.nd rfl (Or.inl rfl) (zaO zae))
   (zac (zbr PassesOwn.never rfl (zdo rfl T.enumerate (zaa (pv 0) zae)) (zbc rfl (zak (zaj (i:=2) scclash_of.nd rfl (Or.inl rfl)) (zak (zaj (i:=3) scclash_of.nd rfl (Or.inl rfl)) zaR)))
   (zag (zbr PassesOwn.never rfl (zdo rfl T.enumerate (zaa (zcA (zix (K:=K) rfl) (pv 0) zdW (zdV (pv 2))) zae)) (zbc rfl (zak (zaj (i:=4) scclash_of.nd rfl (Or.inl rfl)) (zak (zaj (i:=5) scclash_of.nd rfl (Or.inl rfl)) zaR)))
   (zag (zaE (zaL (zar Grows_clash (hr.mono (by walk_at "m")) rfl (zaa (pv 5) (zaa (pv 3) zae)))) (zag (zax (zc9 PySem.F.plainAttrs_list PySem.F.slot_list_append PySem.F.type_list_append zaT (pv 1) (zaa (zb4 (zaa (zan zhJ (zal zap (pv 5) zab (fun _ _=>rfl)) (zal zap (pv 3) zab (fun _ _=>rfl))) (zaa (pv 4) (zaa (pv 2) zae)))) zae)))) zaq)))))
   (zac (zaE (zaX (zhb (pv 1) (fun _=>rfl))) (zag (zat zdZ)) zaq)
   (zac (zbs (zao (zjA rfl (zet hr)) (by rfl) T.min PyProof.Rows.boot_min (zaa (pv 1) zae)) (zbc rfl (zak (zaj (i:=6) scclash_of.nd rfl (Or.inl rfl)) (zak (zaj (i:=4) scclash_of.nd rfl (Or.inl rfl)) (zak (zaj (i:=2) scclash_of.nd rfl (Or.inl rfl)) zaR)))))
   (zag (zat (zb4 (zaa (pv 6) (zaa (pv 4) (zaa (pv 2) (zaa (zar Gleast_words (hr.mono (by walk_at "m")) rfl (zaa (zal zap (pv 0) (pv 4) (fun _ _=>rfl)) (zaa (zal zap (pv 0) (pv 2) (fun _ _=>rfl)) zae))) zae))))))))))),?rd⟩
  refine ⟨by show 0≤sizeLine;decide,fun fa hfa=>?_⟩
  refine ⟨_,rfl,p,rfl,⟨_,SqT.of (zaf hfa _ _ hp)⟩,?_⟩
  have nfa:∀ (X:Hp) (ts:List Addr) (t:Addr) (o:List V),X fa=some (.lst (ts.map V.ref))→X t=some (.tup o)→t≠fa:=fun X ts t o e1 e2 z=>by rw [z,e1] at e2;cases e2
  refine zcC (K:=K) (a:=p) (xs:=as.map V.ref) (fun j σ X=>∃ (v2 v3 v4 v5:Option V) (ts:List Addr),σ=[some (.ref p),some (.ref fa),v2,v3,v4,v5,none]∧X fa=some (.lst (ts.map V.ref))∧FndAt X ts (fndL rs j)∧Same H X)
   ⟨none,none,none,none,[],rfl,zad,⟨rfl,fun i t ns e1=>by simp at e1⟩,zaf hfa⟩ (fun i σ X hi ⟨_,_,_,_,_,_,_,_,s⟩=>SqT.of (s _ _ hp)) ?_ ?_
  ·rintro j x T0 σ X hx hT0 ⟨v2,v3,v4,v5,ts,rfl,efa,hF,sX⟩
   rw [List.getElem?_map] at hx
   obtain ⟨b,hb,rfl⟩:=Option.map_eq_some_iff.mp hx
   have hj:j<as.length:=(List.getElem?_eq_some_iff.mp hb).1
   obtain ⟨q,hq⟩:∃ q,rs[j]? = some q:=⟨_,List.getElem?_eq_getElem (by omega)⟩
   refine zej ?_
   have sT:Same H (upd X T0 (.tup [.int (j:Int),.ref b])):=sX.trans (zaf hT0)
   refine ⟨_,rfl,_,rfl,_,rfl,p,_,rfl,SqT.of (sT _ _ hp),fun z=>?_,fun u hu=>?_⟩
   ·exfalso
    rw [zhu (by rw [List.length_map];omega)] at z
    have:=congrArg List.length z
    rw [List.length_take,List.length_map] at this
    omega
   have ecut:cutV (as.map V.ref) none (some (j:Int))=(as.take j).map V.ref:=by rw [zhu (by rw [List.length_map];omega),← List.map_take]
   refine ⟨u,rfl,⟨_,SqT.of zad⟩,?_⟩
   rw [ecut] at *
   have sU:Same X (upd (upd X T0 (.tup [.int (j:Int),.ref b])) u (.tup ((as.take j).map V.ref))):=(zaf hT0).trans (zaf hu)
   refine zcC (K:=K) (a:=u) (xs:=(as.take j).map V.ref) (fun i σ Y=>∃ (v4 v5:Option V) (ts:List Addr),σ=[some (.ref p),some (.ref fa),some (.int (j:Int)),some (.ref b),v4,v5,none]∧Y fa=some (.lst (ts.map V.ref))∧FndAt Y ts (fndL rs j ++ fndR rs j i)∧Y u=some (.tup ((as.take j).map V.ref))∧Same H Y)
    ⟨v4,v5,ts,rfl,sU _ _ efa,by rw [show fndR rs j 0=[] from rfl,List.append_nil];exact hF.same sU,zad,sX.trans sU⟩ (fun i σ Y hi ⟨_,_,_,_,_,_,e,_⟩=>SqT.of e) ?_ ?_
   ·rintro i y T1 σ Y hy hT1 ⟨v4,v5,ts,rfl,efa,hF,eu,sY⟩
    rw [List.getElem?_map] at hy
    obtain ⟨a,ha,rfl⟩:=Option.map_eq_some_iff.mp hy
    have hij:i<j:=by have:=(List.getElem?_eq_some_iff.mp ha).1;rw [List.length_take] at this;omega
    have ha':as[i]? = some a:=by rw [List.getElem?_take] at ha;simpa [hij] using ha
    obtain ⟨r,hr'⟩:∃ r,rs[i]? = some r:=⟨_,List.getElem?_eq_getElem (by omega)⟩
    refine zej ?_
    have s1:Same Y (upd Y T1 (.tup [.int (i:Int),.ref a])):=zaf hT1
    have s2:=sY.trans s1
    have rwa:=hrw i a r ha' hr'
    have rwb:=hrw j b q hb hq
    have e1:fnd1 rs i j=if zdf r q=true then [[((r.w ||| q.w:Nat):Int),(i:Int),(j:Int)]] else []:=by unfold fnd1;rw [hr',hq]
    refine ⟨_,rfl,_,rfl,a,b,r,q,rfl,rwa.same s2,rwb.same s2,_,rfl,ite2 (fun hc=>?_) (fun hc=>?_)⟩
    ·obtain ⟨la,ea,hla2⟩:=rwa.same s2
     obtain ⟨lb,eb,hlb⟩:=rwb.same s2
     have efa1:=s1 _ _ efa
     refine ⟨_,rfl,.inl ⟨rfl,_,SqL.of efa1⟩,_,rfl,a,_,_,_,rfl,rfl,SqT.of ea,rfl,_,rfl,b,_,_,_,rfl,rfl,SqT.of eb,rfl,_,_,rfl,rfl,_,rfl,_,rfl,by show 3≤sizeLine;decide,fun T2 hT2=>?_⟩
     have s3:=zaf (o:=.tup [.int (Builtin.bitOr (r.w:Int) (q.w:Int)),.int (i:Int),.int (j:Int)]) hT2
     have efa2:=s3 _ _ efa1
     have nT2:T2≠fa:=fun z=>by rw [z,efa1] at hT2;cases hT2
     refine ⟨fa,_,_,rfl,rfl,efa2,?_,?_⟩
     ·rw [List.length_map,hF.1,List.length_append]
      have a1:=zht rs j
      have a2:=zff rs j i
      have a3:j * j≤100 * 100:=Nat.mul_le_mul (by omega) (by omega)
      exact Nat.lt_of_le_of_lt (show _≤10100 by omega) (by decide)
     ·have hF2:FndAt (upd (upd (upd Y T1 (.tup [.int (i:Int),.ref a])) T2 (.tup [.int (Builtin.bitOr (r.w:Int) (q.w:Int)),.int (i:Int),.int (j:Int)])) fa (.lst (ts.map V.ref ++ [.ref T2]))) ts (fndL rs j ++ fndR rs j i):=⟨hF.1,fun z t ns e2 e3=>by
       have h9:=hF.2 z t ns e2 e3
       rw [zai (nfa Y ts t _ efa h9)]
       exact s3 _ _ (s1 _ _ h9)⟩
      refine ⟨_,_,ts ++ [T2],rfl,by rw [zad,List.map_append];rfl,?_,?_,fun z o e=>?_⟩
      ·rw [zek,← List.append_assoc,e1,if_pos hc]
       refine hF2.snoc (X:=H) ?_
       rw [zai nT2,zad]
       show some (HO.tup [V.int (Builtin.bitOr (r.w:Int) (q.w:Int)),V.int (i:Int),V.int (j:Int)])=some (HO.tup [V.int ((r.w ||| q.w:Nat):Int),V.int (i:Int),V.int (j:Int)])
       rw [bor]
      ·rw [zai (nfa Y ts u _ efa eu)]
       exact s3 _ _ (s1 _ _ eu)
      ·rw [zai (zam e hfa)]
       exact s3 _ _ (s2 _ _ e)
    ·refine ⟨_,_,ts,rfl,s1 _ _ efa,?_,s1 _ _ eu,s2⟩
     rw [zek,← List.append_assoc,e1,if_neg hc,List.append_nil]
     exact hF.same s1
   ·rintro σ Y ⟨v4,v5,ts,rfl,efa,hF,eu,sY⟩
    rw [List.length_map,List.length_take,Nat.min_eq_left (by omega)] at hF
    exact ⟨_,_,_,_,ts,rfl,efa,by rw [zfU];exact hF,sY⟩
  ·rintro σ X ⟨v2,v3,v4,v5,ts,rfl,efa,hF,sX⟩
   rw [List.length_map,hla] at hF
   have hfl:=hF.1
   by_cases h0:fndL rs rs.length=[]
   ·have et:ts=[]:=List.eq_nil_of_length_eq_zero (by rw [hfl,h0];rfl)
    subst et
    refine ⟨_,rfl,_,.inl ⟨_,SqL.of efa,rfl⟩,?_⟩
    exact iteT (k1 h0 X sX)
   ·have hpos:0<(fndL rs rs.length).length:=List.length_pos_iff.mpr h0
    refine ⟨_,rfl,_,.inl ⟨_,SqL.of efa,rfl⟩,?_⟩
    have hne:(!(ts.map V.ref).isEmpty)=true:=by
     cases ts with
     | nil=>rw [← hfl] at hpos;simp at hpos
     | cons _ _=>rfl
    rw [hne]
    refine iteF ?_
    refine ⟨_,rfl,fa,ts,fndL rs rs.length,rfl,efa,by omega,hfl,hF.2,fun t ht=>?_⟩
    rw [hfl] at ht
    obtain ⟨ns,hns⟩:∃ ns,(fndL rs rs.length)[PySem.argBest (fun i j=>HT.lexLt ((fndL rs rs.length).getD i []) ((fndL rs rs.length).getD j [])) ((fndL rs rs.length).length - 1)]? = some ns:=⟨_,List.getElem?_eq_getElem (by have:=(List.getElem?_eq_some_iff.mp ht).1;omega)⟩
    have et:=hF.2 _ t ns ht hns
    obtain ⟨i,j,r,q,x,hr',hq',rfl⟩:=zky (List.mem_of_getElem? hns)
    have et:X t=some (.tup [.int (x:Int),.int (i:Int),.int (j:Int)]):=et
    have hi:i<rs.length:=(List.getElem?_eq_some_iff.mp hr').1
    have hj:j<rs.length:=(List.getElem?_eq_some_iff.mp hq').1
    obtain ⟨a,ha⟩:∃ a,as[i]? = some a:=⟨_,List.getElem?_eq_getElem (by omega)⟩
    obtain ⟨b,hb⟩:∃ b,as[j]? = some b:=⟨_,List.getElem?_eq_getElem (by omega)⟩
    refine ⟨t,[.int (x:Int),.int (i:Int),.int (j:Int)],rfl,SqT.of et,rfl,_,_,rfl,_,_,rfl,_,_,rfl,rfl,?_⟩
    have hpX:=sX _ _ hp
    refine ⟨_,rfl,_,rfl,_,rfl,_,rfl,_,rfl,p,_,_,V.ref a,rfl,rfl,SqT.of hpX,zaF (by rw [List.getElem?_map,ha];rfl),_,rfl,_,rfl,p,_,_,V.ref b,rfl,rfl,SqT.of hpX,zaF (by rw [List.getElem?_map,hb];rfl),a,b,r,q,rfl,(hrw i a r ha hr').same sX,(hrw j b q hb hq').same sX,fun wp Y hwp hpr sY=>?_⟩
    refine ⟨by show 4≤sizeLine;decide,fun tp htp=>?_⟩
    have sF:=sX.trans sY
    refine k2 x i j r q hns hr' hq' tp wp _ (zfy sF htp) zad ?_ (sF.trans (zaf htp))
    obtain ⟨ts',e1,e2,e3⟩:=hpr
    exact ⟨ts',zaf htp _ _ e1,e2,fun z t' q' h1 h2=>zaf htp _ _ (e3 z t' q' h1 h2)⟩
end
abbrev zdK:Stmt:=top 45
theorem scis_awake:FnScope ["row","words","latch","chip","mask","want"] ["row","words"] (zah zdK):=⟨rfl,rfl,rfl,by decide +kernel,rfl,by decide +kernel,by decide +kernel⟩
section
variable {P:Program} {w:World} {K:PySem.W.Frag} {mg:Str→Option Value} {base:Heap}
theorem zhM {f:Addr} {fd:FuncData} (F:Fun K "is_awake" "is_awake" zdK f fd) (T:Blt mg):FnOk P w K mg base CX0 1 f fd ["row","words"] zgn:=by
 refine F.ok scis_awake (fun vs H Q E h=>?_) (fun cdv A outer s H vs Q E hr h=>?_)
 ·obtain ⟨t,d,r,keys,g,rfl,_⟩:=h;rfl
 ·obtain ⟨t,d,r,keys,g,rfl,⟨lt,et,hlt⟩,ed,k⟩:=h
  refine ⟨_,(zac (zau (i:=2) scis_awake.nd rfl (Or.inl rfl) (zal zap (pv 0) zab (fun _ _=>rfl)))
   (zac (zaE (zbq (zch (pv 2))) (zag (zat zcB)) zaq)
   (zac (zbs (pv 2) (zbc rfl (zak (zaj (i:=3) scis_awake.nd rfl (Or.inl rfl)) (zak (zaj (i:=4) scis_awake.nd rfl (Or.inl rfl)) (zak (zaj (i:=5) scis_awake.nd rfl (Or.inl rfl)) zaR)))))
   (zag (zat (zbE zb6 (zan zbS (zdp (zet hr) (pv 1) (pv 3) zab ⟨rfl,rfl,rfl,rfl⟩) (pv 4)) (pv 5) (zaz _))))))),?rd⟩
  refine ⟨_,rfl,t,_,_,_,rfl,rfl,SqT.of et,rfl,?_⟩
  cases hl:r.l with
  | none =>
   rw [hl] at hlt
   obtain rfl:lt = .non:=hlt
   refine ⟨_,rfl,_,rfl,iteT ?_⟩
   rw [show awk r (wrd keys g)=true by unfold awk;rw [hl]] at k
   exact k
  | some o =>
   obtain ⟨c,a,b⟩:=o
   rw [hl] at hlt
   obtain ⟨lp,rfl,elp⟩:=hlt
   refine ⟨_,rfl,_,rfl,iteF ?_⟩
   refine ⟨_,rfl,lp,_,rfl,SqT.of elp,rfl,_,_,rfl,_,_,rfl,_,_,rfl,rfl,?_⟩
   refine ⟨_,rfl,d,rfl,.inl ⟨_,.inl ed⟩,_,rfl,_,DGet.k (k:=Sum.inl (c:Int)) ed,?_⟩
   rw [dV_get]
   refine ⟨_,rfl,_,_,rfl,rfl,_,rfl,rfl,?_⟩
   rw [← awk_eq hl] at k
   exact k
end
abbrev zcM:Stmt:=top 46
theorem scanswering:FnScope ["rows","address","words","number","row"] ["rows","address","words"] (zah zcM):=⟨rfl,rfl,rfl,by decide +kernel,rfl,by decide +kernel,by decide +kernel⟩
section
variable {P:Program} {w:World} {K:PySem.W.Frag} {mg:Str→Option Value} {base:Heap}
theorem zgH {f:Addr} {fd:FuncData} (F:Fun K "answering" "answering" zcM f fd) (T:Blt mg) (Gmeets:Cal P w K mg base 1 "meets" ["row","address"] zim) (Gis_awake:Cal P w K mg base 1 "is_awake" ["row","words"] zgn):FnOk P w K mg base CX0 2 f fd ["rows","address","words"] zit:=by
 refine F.ok scanswering (fun vs H Q E h=>?_) (fun cdv A outer s H vs Q E hr h=>?_)
 ·obtain ⟨p,d,x,ws,keys,g,rfl,_⟩:=h;rfl
 ·obtain ⟨p,d,x,ws,keys,g,rfl,hp,hws,ed,k⟩:=h
  refine ⟨_,(zac (zbr PassesOwn.never rfl (zdo rfl T.enumerate (zaa (pv 0) zae)) (zbc rfl (zak (zaj (i:=3) scanswering.nd rfl (Or.inl rfl)) (zak (zaj (i:=4) scanswering.nd rfl (Or.inl rfl)) zaR)))
   (zag (zaE (PW.pt (zg9 (zaL (zar Gmeets (hr.mono (by walk_at "m")) rfl (zaa (pv 4) (zaa (pv 1) zae)))) (zgy (zaL (zar Gis_awake (hr.mono (by walk_at "m")) rfl (zaa (pv 4) (zaa (pv 2) zae))))))) (zag (zat (pv 3))) zaq)))
   (zag (zat zdZ))),?rd⟩
  refine ⟨_,rfl,p,rfl,⟨_,SqT.of hp⟩,?_⟩
  refine zcC (K:=K) (a:=p) (xs:=refs ws) (fun i σ X=>∃ (v3 v4:Option V),σ=[some (.ref p),some (.int (x:Int)),some (.ref d),v3,v4]∧(∀ (j:Nat) (q:Rw),j<i→(ws.map (·.2))[j]? = some q→ans q x (wrd keys g)=false)∧Same H X) ⟨_,_,rfl,(fun j q hj=>absurd hj (Nat.not_lt_zero _)),Same.refl _⟩ (fun i σ X hi ⟨_,_,_,_,s⟩=>SqT.of (s _ _ hp)) ?_ ?_
  ·rintro i y U σ X hy hU ⟨v3,v4,rfl,hb,sX⟩
   obtain ⟨z,hz,rfl⟩:=zdn hy
   have sU:=sX.trans (zaf (o:=.tup [.int (i:Int),.ref z.1]) hU)
   have rwz:=(hws z (List.mem_of_getElem? hz)).same sU
   have hzi:(ws.map (·.2))[i]? = some z.2:=by rw [List.getElem?_map,hz];rfl
   have next:ans z.2 x (wrd keys g)=false→∃ (v3 v4:Option V),[some (.ref p),some (.int (x:Int)),some (.ref d),some (.int (i:Int)),some (.ref z.1)]=[some (.ref p),some (.int (x:Int)),some (.ref d),v3,v4]∧(∀ (j:Nat) (q:Rw),j<i+1→(ws.map (·.2))[j]? = some q→ans q x (wrd keys g)=false)∧Same H (upd X U (.tup [.int (i:Int),.ref z.1])):=fun hn=>⟨_,_,rfl,fun j q hj hq=>by
    rcases (show j<i∨j=i by omega) with e | e
    ·exact hb j q e hq
    ·rw [e,hzi] at hq;cases hq;exact hn,sU⟩
   refine zej ?_
   refine ⟨_,rfl,_,rfl,z.1,z.2,x,rfl,rwz,_,rfl,ite2 (fun h1=>?_) (fun h1=>?_)⟩
   ·refine ⟨_,rfl,_,rfl,z.1,d,z.2,keys,g,rfl,rwz,sU _ _ ed,_,rfl,ite2 (fun h2=>?_) (fun h2=>?_)⟩
    ·refine ⟨_,rfl,?_⟩
     have:=k _ sU
     rw [zjh hzi (by unfold ans;rw [h1,h2];rfl) hb] at this
     exact this
    ·exact next (by unfold ans;rw [Bool.eq_false_iff.mpr h2,Bool.and_false])
   ·exact iteF (next (by unfold ans;rw [Bool.eq_false_iff.mpr h1,Bool.false_and]))
  ·rintro σ X ⟨v3,v4,rfl,hb,sX⟩
   have:=k X sX
   rw [zaM] at hb
   rw [zji (fun r hr'=>by
    obtain ⟨j,hj⟩:=List.mem_iff_getElem?.mp hr'
    exact hb j r (by have:=(List.getElem?_eq_some_iff.mp hj).1;rw [List.length_map] at this;exact this) hj)] at this
   exact this
end
abbrev zeT:Stmt:=top 21
theorem ziB:FnScope ["thing"] ["thing"] (zah zeT):=⟨rfl,rfl,rfl,by decide +kernel,rfl,by decide +kernel,by decide +kernel⟩
section
variable {P:Program} {w:World} {K:PySem.W.Frag} {mg:Str→Option Value} {base:Heap}
theorem ziZ {f:Addr} {fd:FuncData} (F:Fun K "is_word" "is_word" zeT f fd) (T:Blt mg) (N:Nums mg) (Gis_number:Cal P w K mg base 1 "is_number" ["thing","last"] zdF):FnOk P w K mg base CX0 2 f fd ["thing"] zbJ:=by
 refine F.ok ziB (fun vs H Q E h=>?_) (fun cdv A outer s H vs Q E hr h=>?_)
 ·obtain ⟨a,rfl,_⟩:=h;rfl
 ·obtain ⟨a,rfl,k⟩:=h
  refine ⟨_,(zag (zat (zar Gis_number (hr.mono (by walk_at "m")) rfl (zaa (pv 0) (zaa (zbt rfl N.LAST_WORD) zae))))),?rd⟩
  exact ⟨_,rfl,a,255,rfl,k⟩
end
abbrev zck:Stmt:=top 22
theorem zfv:FnScope ["word"] ["word"] (zah zck):=⟨rfl,rfl,rfl,by decide +kernel,rfl,by decide +kernel,by decide +kernel⟩
section
variable {P:Program} {w:World} {K:PySem.W.Frag} {mg:Str→Option Value} {base:Heap}
theorem zfD {f:Addr} {fd:FuncData} (F:Fun K "check_word" "check_word" zck f fd) (T:Blt mg) (Gis_word:Cal P w K mg base 2 "is_word" ["thing"] zbJ):FnOk P w K mg base CX0 3 f fd ["word"] zbV:=by
 refine F.ok zfv (fun vs H Q E h=>?_) (fun cdv A outer s H vs Q E hr h=>?_)
 ·obtain ⟨a,rfl,_⟩:=h;rfl
 ·obtain ⟨a,rfl,h0,h1,k⟩:=h
  refine ⟨_,(zag (zaE (zaX (zaL (zar Gis_word (hr.mono (by walk_at "m")) rfl (zaa (pv 0) zae)))) (zag za1) zaq)),?rd⟩
  refine ⟨_,rfl,a,rfl,_,rfl,zgV ⟨h0,h1⟩ k⟩
end
abbrev zbB:Stmt:=zaI (top 25) 0
theorem zdP:FnScope ["self","head","held"] ["self","head","held"] (zah zbB):=⟨rfl,rfl,rfl,by decide +kernel,rfl,by decide +kernel,by decide +kernel⟩
section
variable {P:Program} {w:World} {K:PySem.W.Frag} {mg:Str→Option Value} {base:Heap}
theorem zd6 {f:Addr} {fd:FuncData} (F:Fun K "__init__" "Chip.__init__" zbB f fd) (T:Blt mg):FnOk P w K mg base CX0 1 f fd ["self","head","held"] (zev K):=by
 refine F.ok zdP (fun vs H Q E h=>?_) (fun cdv A outer s H vs Q E hr h=>?_)
 ·obtain ⟨a,C,dx,p,hd,rfl,_⟩:=h;rfl
 ·obtain ⟨a,C,dx,p,hd,rfl,ha,c,k⟩:=h
  refine ⟨_,(zac (zcg (pv 0) (pv 1) rfl)
   (zag (zcg (pv 0) (pv 2) rfl))),?rd⟩
  refine ⟨_,rfl,_,rfl,a,C,dx,_,rfl,ha,c.cl,c.head,by show 0<1000;decide,?_⟩
  refine ⟨_,rfl,_,rfl,a,C,dx,_,rfl,zad,c.cl,c.held,by show 1<1000;decide,?_⟩
  exact k _ zad fun b hb=>by rw [zai hb,zai hb]
end
section
variable {P:Program} {w:World} {K:PySem.W.Frag} {mg:Str→Option Value} {base:Heap}
def FIG:Str := "0123456789abcdef"
def figc (k:Nat):Nat:=(FIG.cps.toList[k]?).getD 0
def fig2 (n:Nat):Str:=(⟨#[figc (n / 16)]⟩:Str) ++ (⟨#[figc (n % 16)]⟩:Str)
def phead (r:Nat):Str:=Str.empty ++ ("pipe " : Str) ++ fig2 r
def two (_:List V):Nat:=2
end
section
variable {P:Program} {w:World} {K:PySem.W.Frag} {mg:Str→Option Value} {base:Heap}
def zjK (C:Addr) (H:Hp) (a:Addr) (ws:List V) (hd:Str) (Q:VK):Prop:=∀ (p:Addr) (H':Hp),H p=none→(∃ dx,H' a=some (.ins C dx [("head",.str hd),("held",.ref p)]))→H' p=some (.lst ws)→KeepP a H H'→Q .non H'
def zcZ (C:Addr) (hd:Str):Sp:=fun vs H Q _=>∃ a dx,∃ v:Int,vs=[.ref a,.int v]∧0≤v∧v≤255∧H a=some (.ins C dx [])∧zjK C H a [.int v] hd Q
def zg5 (C:Addr):Sp:=fun vs H Q _=>∃ a dx,∃ (n:Nat) (v:Int),vs=[.ref a,.int (n:Int),.int v]∧1≤n∧n≤4096∧0≤v∧v≤255∧H a=some (.ins C dx [])∧zjK C H a (List.replicate n (.int v)) "store" Q
def zg6 (C:Addr):Sp:=fun vs H Q _=>∃ a dx l,∃ ws:List Nat,vs=[.ref a,.ref l]∧H l=some (.lst (vN ws))∧1≤ws.length∧ws.length≤4096∧(∀ w∈ws,w≤255)∧H a=some (.ins C dx [])∧zjK C H a (vN ws) "fixed" Q
def kname:Nat→Str
 | 0 => "store"
 | 1 => "fixed"
 | 2 => "latch"
 | 3 => "meter"
 | _ => "pipe"
def khead (kd n:Nat):Str:=if kd=4 then phead n else kname kd
def kext (kd n:Nat):List (Str×V):=if kd=4 then [("room",.int (n:Int))] else []
def zaQ (kd:Nat) (ws:List Nat):Nat:=if kd=4 then 2 else ws.length
def kwr (kd n:Nat) (ws:List Nat) (c v:Nat):List Nat:=if kd=4 then (if c=1 then [] else if ws.length<n then ws ++ [v] else ws) else if kd=1 then ws else ws.set c v
def krd (kd:Nat) (ws:List Nat) (c:Nat):List Nat:=if kd=3 then [(ws.headD 0+1) % 256] else if kd=4∧c=0 then ws.drop 1 else ws
def klk (kd:Nat) (ws:List Nat) (c:Nat):Nat:=if kd=4 then (if c=1 then ws.length else ws.headD 0) else ws.getD c 0
structure Kd (kd n:Nat) (ws:List Nat):Prop where
 k5:kd<4
 w5:∀ v∈ws,v≤255
 ln:ws.length≤4096
 l1:kd≠4→1≤ws.length
 l3:kd=3→ws.length=1
 pi:kd=4→ws.length≤n∧1≤n
 n2:n≤255
theorem Kd.wr {kd n c v:Nat} {ws:List Nat} (k:Kd kd n ws) (hv:v≤255):Kd kd n (kwr kd n ws c v):=by
 unfold kwr
 split
 ·rename_i e
  split
  ·exact ⟨k.k5,fun _ h=>(nomatch h),Nat.zero_le _,fun h=>absurd e h,fun h=>by omega,fun h=>⟨Nat.zero_le _,(k.pi h).2⟩,k.n2⟩
  ·split
   ·refine ⟨k.k5,zkO k.w5 hv,?_,fun h=>absurd e h,fun h=>by omega,fun h=>⟨?_,(k.pi h).2⟩,k.n2⟩
    ·rw [List.length_append];have:=k.n2;show ws.length+1≤4096;omega
    ·rw [List.length_append];show ws.length+1≤n;omega
   ·exact k
 ·split
  ·exact k
  ·refine ⟨k.k5,fun b hb=>?_,by rw [List.length_set];exact k.ln,fun h=>by rw [List.length_set];exact k.l1 h,fun h=>by rw [List.length_set];exact k.l3 h,fun h=>by rw [List.length_set];exact k.pi h,k.n2⟩
   rcases List.mem_or_eq_of_mem_set hb with z | z
   ·exact k.w5 b z
   ·rw [z];exact hv
theorem Kd.rd {kd n c:Nat} {ws:List Nat} (k:Kd kd n ws):Kd kd n (krd kd ws c):=by
 unfold krd
 split
 ·rename_i e
  exact ⟨k.k5,fun b hb=>by rw [List.mem_singleton.mp hb];omega,by show 1≤4096;decide,fun _=>Nat.le_refl _,fun _=>rfl,fun h=>by omega,k.n2⟩
 ·split
  ·rename_i e
   refine ⟨k.k5,fun b hb=>k.w5 b (List.mem_of_mem_drop hb),by rw [List.length_drop];have:=k.ln;omega,fun h=>absurd e.1 h,fun h=>by omega,fun h=>⟨by rw [List.length_drop];have:=(k.pi h).1;omega,(k.pi h).2⟩,k.n2⟩
  ·exact k
structure Chp (cs:Nat→Addr) (H:Hp) (x p:Addr) (kd n:Nat) (ws:List Nat):Prop where
 ex:∃ dx,H x=some (.ins (cs kd) dx (("head",.str (khead kd n)) :: ("held",.ref p) :: kext kd n))
 ls:H p=some (.lst (vN ws))
theorem Chp.same {cs:Nat→Addr} {H H':Hp} {x p:Addr} {kd n:Nat} {ws:List Nat} (o:Chp cs H x p kd n ws) (s:Same H H'):Chp cs H' x p kd n ws:=by
 obtain ⟨⟨dx,e⟩,l⟩:=o
 exact ⟨⟨dx,s _ _ e⟩,s _ _ l⟩
def zjS (cs:Nat→Addr) (kd:Nat):Sp:=fun vs H Q _=>∃ x p,∃ (n c v:Nat) (ws:List Nat),vs=[.ref x,.int (c:Int),.int (v:Int)]∧Chp cs H x p kd n ws∧Kd kd n ws∧c<zaQ kd ws∧v≤255∧∀ H',H' p=some (.lst (vN (kwr kd n ws c v)))→(∀ b,b≠p→H' b=H b)→Q .non H'
def csOf (a b c d e:Addr):Nat→Addr
 | 0=>a
 | 1=>b
 | 2=>c
 | 3=>d
 | _=>e
theorem zbb {P:Program} {w:World} {K:PySem.W.Frag} {mg:Str→Option Value} {base:Heap} {k:Nat} {C:Addr} {m:Str} {ks:List Str} {gV:List V→List V→List V} {sp sp':Sp} (M:Mth P w K mg base k C m ks gV sp) (h:∀ vs H Q E,sp' vs H Q E→sp vs H Q E):Mth P w K mg base k C m ks gV sp':=by
 obtain ⟨c,f,fd,ps,g,a,F,b⟩:=M
 exact ⟨c,f,fd,ps,g,a,F.imp h,b⟩
theorem zgb {cs:Nat→Addr} {kd:Nat} (hk:kd=0∨kd=2∨kd=3):∀ vs H Q E,zjS cs kd vs H Q E→zdC (cs kd) vs H Q E:=by
 rintro vs H Q E ⟨x,p,n,c,v,ws,rfl,o,kk,hc,hv,q⟩
 obtain ⟨dx,e⟩:=o.ex
 have h4:kd≠4:=by omega
 have h1:kd≠1:=by omega
 unfold zaQ at hc
 unfold kwr at q
 rw [if_neg h4] at hc
 rw [if_neg h4,if_neg h1] at q
 unfold kext at e
 rw [if_neg h4] at e
 exact ⟨x,p,vN ws,[],c,(v:Int),rfl,⟨⟨dx,_,e⟩,o.ls,.inl rfl⟩,by rw [zaw];have:=kk.ln;omega,by rw [zaw];exact hc,by omega,by omega,q _ (by rw [← vN_set];exact zad) fun b hb=>zai hb⟩
theorem zln {cs:Nat→Addr}:∀ vs H Q E,zjS cs 1 vs H Q E→zir (cs 1) vs H Q E:=by
 rintro vs H Q E ⟨x,p,n,c,v,ws,rfl,o,kk,hc,hv,q⟩
 obtain ⟨dx,e⟩:=o.ex
 exact ⟨x,p,vN ws,[],c,(v:Int),rfl,⟨⟨dx,_,e⟩,o.ls,.inl rfl⟩,by rw [zaw];have:=kk.ln;omega,by rw [zaw];exact hc,by omega,by omega,q _ o.ls fun b hb=>rfl⟩
end
abbrev zbM:Stmt:=zaI (top 25) 1
theorem zen:FnScope ["self"] ["self"] (zah zbM):=⟨rfl,rfl,rfl,by decide +kernel,rfl,by decide +kernel,by decide +kernel⟩
section
variable {P:Program} {w:World} {K:PySem.W.Frag} {mg:Str→Option Value} {base:Heap}
theorem za7 {f C:Addr} {fd:FuncData} (F:Fun K "__len__" "Chip.__len__" zbM f fd) (T:Blt mg) (c:ClsOk K C):FnOk P w K mg base CX0 1 f fd ["self"] (zfq C List.length):=by
 refine F.ok zen (fun vs H Q E h=>?_) (fun cdv A outer s H vs Q E hr h=>?_)
 ·obtain ⟨a,p,ws,ext,rfl,_⟩:=h;rfl
 ·obtain ⟨a,p,ws,ext,rfl,o,k⟩:=h
  refine ⟨_,(zag (zat (zao zaA (by rfl) T.len PySem.boot_len (zaa (zbu (pv 0) rfl) zae)))),?rd⟩
  obtain ⟨⟨dx,hd,e⟩,l,nn⟩:=o
  exact ⟨_,rfl,a,C,dx,_,_,rfl,e,c.cl,c.held,rfl,p,ws,rfl,.inl (SqL.of l),k⟩
end
abbrev zba:Stmt:=zaI (top 25) 5
theorem zcL:FnScope ["self","cell"] ["self","cell"] (zah zba):=⟨rfl,rfl,rfl,by decide +kernel,rfl,by decide +kernel,by decide +kernel⟩
section
variable {P:Program} {w:World} {K:PySem.W.Frag} {mg:Str→Option Value} {base:Heap}
theorem zaU {f C:Addr} {fd:FuncData} (F:Fun K "check_cell" "Chip.check_cell" zba f fd) {L:List V→Nat} (T:Blt mg) (Gis_number:Cal P w K mg base 1 "is_number" ["thing","last"] zdF) (M:Mth P w K mg base 1 C "__len__" [] (fun vs _=>vs) (zfq C L)):FnOk P w K mg base CX0 3 f fd ["self","cell"] (zdI C L):=by
 refine F.ok zcL (fun vs H Q E h=>?_) (fun cdv A outer s H vs Q E hr h=>?_)
 ·obtain ⟨a,p,ws,ext,c,rfl,_⟩:=h;rfl
 ·obtain ⟨a,p,ws,ext,c,rfl,o,h0,h1,h2,k⟩:=h
  refine ⟨_,(zag (zaE (zaX (zaL (zar Gis_number (hr.mono (by walk_at "m")) rfl (zaa (pv 1) (zaa (zan zb5 (ziT 1 ⟨rfl,rfl,rfl,rfl,rfl⟩ (hr.mono (by walk_at "m")) rfl T.len (pv 0)) zab) zae))))) (zag za1) zaq)),?rd⟩
  have o':=o
  obtain ⟨⟨dx,hd,e⟩,l,nn⟩:=o
  refine ⟨_,rfl,_,rfl,a,C,dx,_,_,_,rfl,e,M,a,p,ws,ext,rfl,o',_,rfl,by omega,by omega,_,_,rfl,rfl,?_⟩
  exact ⟨c,_,rfl,_,rfl,zgV ⟨h0,by omega⟩ k⟩
end
abbrev za4:Stmt:=zaI (top 25) 6
theorem zcx:FnScope ["self","cell","word"] ["self","cell","word"] (zah za4):=⟨rfl,rfl,rfl,by decide +kernel,rfl,by decide +kernel,by decide +kernel⟩
section
variable {P:Program} {w:World} {K:PySem.W.Frag} {mg:Str→Option Value} {base:Heap}
theorem zaP {f C:Addr} {fd:FuncData} (F:Fun K "check_write" "Chip.check_write" za4 f fd) {L:List V→Nat} (T:Blt mg) (Gcheck_word:Cal P w K mg base 3 "check_word" ["word"] zbV) (M:Mth P w K mg base 3 C "check_cell" [] (fun vs _=>vs) (zdI C L)):FnOk P w K mg base CX0 4 f fd ["self","cell","word"] (zdH C L):=by
 refine F.ok zcx (fun vs H Q E h=>?_) (fun cdv A outer s H vs Q E hr h=>?_)
 ·obtain ⟨a,p,ws,ext,c,v,rfl,_⟩:=h;rfl
 ·obtain ⟨a,p,ws,ext,c,v,rfl,o,h0,h1,h2,h3,h4,k⟩:=h
  refine ⟨_,(zac (zax (zaV 3 ⟨rfl,rfl,rfl,rfl,rfl⟩ (hr.mono (by walk_at "m")) (pv 0) (zaa (pv 1) zae)))
   (zag (zax (zar Gcheck_word (hr.mono (by walk_at "m")) rfl (zaa (pv 2) zae))))),?rd⟩
  have o':=o
  obtain ⟨⟨dx,hd,e⟩,l,nn⟩:=o
  refine ⟨_,rfl,a,C,dx,_,_,_,rfl,e,M,by rcases nn with rfl | ⟨r,rfl⟩ <;> rfl,_,rfl,a,p,ws,ext,c,rfl,o',h0,h1,h2,?_⟩
  exact ⟨_,rfl,v,rfl,h3,h4,k⟩
end
abbrev zcS:Stmt:=zaI (top 25) 7
theorem zgw:FnScope ["self","cell"] ["self","cell"] (zah zcS):=⟨rfl,rfl,rfl,by decide +kernel,rfl,by decide +kernel,by decide +kernel⟩
section
variable {P:Program} {w:World} {K:PySem.W.Frag} {mg:Str→Option Value} {base:Heap}
theorem zbO {f C:Addr} {fd:FuncData} (F:Fun K "look" "Chip.look" zcS f fd) (T:Blt mg) (c_:ClsOk K C) (M:Mth P w K mg base 3 C "check_cell" [] (fun vs _=>vs) (zdI C List.length)):FnOk P w K mg base CX0 4 f fd ["self","cell"] (zbG C):=by
 refine F.ok zgw (fun vs H Q E h=>?_) (fun cdv A outer s H vs Q E hr h=>?_)
 ·obtain ⟨a,p,ws,ext,c,x,rfl,_⟩:=h;rfl
 ·obtain ⟨a,p,ws,ext,c,x,rfl,o,h0,h1,k⟩:=h
  refine ⟨_,(zac (zax (zaV 3 ⟨rfl,rfl,rfl,rfl,rfl⟩ (hr.mono (by walk_at "m")) (pv 0) (zaa (pv 1) zae)))
   (zag (zat (zal zas (zbu (pv 0) rfl) (pv 1) (fun _ _=>rfl))))),?rd⟩
  have o':=o
  obtain ⟨⟨dx,hd,e⟩,l,nn⟩:=o
  have hc:c<ws.length:=(List.getElem?_eq_some_iff.mp h1).1
  refine ⟨_,rfl,a,C,dx,_,_,_,rfl,e,M,by rcases nn with rfl | ⟨r,rfl⟩ <;> rfl,_,rfl,a,p,ws,ext,_,rfl,o',by omega,by omega,h0,?_⟩
  exact ⟨_,rfl,a,C,dx,_,_,rfl,e,c_.cl,c_.held,rfl,_,rfl,p,_,_,_,rfl,rfl,SqL.of l,zaF h1,k⟩
end
abbrev zcp:Stmt:=zaI (top 25) 4
theorem zfx:FnScope ["self"] ["self"] (zah zcp):=⟨rfl,rfl,rfl,by decide +kernel,rfl,by decide +kernel,by decide +kernel⟩
section
variable {P:Program} {w:World} {K:PySem.W.Frag} {mg:Str→Option Value} {base:Heap}
theorem zbw {f C:Addr} {fd:FuncData} (F:Fun K "state" "Chip.state" zcp f fd) (T:Blt mg) (c:ClsOk K C):FnOk P w K mg base CX0 1 f fd ["self"] (zcj C):=by
 refine F.ok zfx (fun vs H Q E h=>?_) (fun cdv A outer s H vs Q E hr h=>?_)
 ·obtain ⟨a,p,ws,ext,rfl,_⟩:=h;rfl
 ·obtain ⟨a,p,ws,ext,rfl,o,k⟩:=h
  refine ⟨_,(zag (zat (za8 zbP (by rfl) T.tuple zbg (zaa (zbu (pv 0) rfl) zae)))),?rd⟩
  obtain ⟨⟨dx,hd,e⟩,l,nn⟩:=o
  exact ⟨_,rfl,a,C,dx,_,_,rfl,e,c.cl,c.held,rfl,p,ws,rfl,.inl ⟨SqL.of l,k⟩⟩
end
abbrev zcR:Stmt:=zaI (top 25) 8
theorem zgv:FnScope ["self","cell"] ["self","cell"] (zah zcR):=⟨rfl,rfl,rfl,by decide +kernel,rfl,by decide +kernel,by decide +kernel⟩
section
variable {P:Program} {w:World} {K:PySem.W.Frag} {mg:Str→Option Value} {base:Heap}
theorem zcs {f C:Addr} {fd:FuncData} (F:Fun K "read" "Chip.read" zcR f fd) (T:Blt mg) (M:Mth P w K mg base 4 C "look" [] (fun vs _=>vs) (zbG C)):FnOk P w K mg base CX0 5 f fd ["self","cell"] (zbG C):=by
 refine F.ok zgv (fun vs H Q E h=>?_) (fun cdv A outer s H vs Q E hr h=>?_)
 ·obtain ⟨a,p,ws,ext,c,x,rfl,_⟩:=h;rfl
 ·obtain ⟨a,p,ws,ext,c,x,rfl,o,h0,h1,k⟩:=h
  refine ⟨_,(zag (zat (zaV 4 ⟨rfl,rfl,rfl,rfl,rfl⟩ (hr.mono (by walk_at "m")) (pv 0) (zaa (pv 1) zae)))),?rd⟩
  have o':=o
  obtain ⟨⟨dx,hd,e⟩,l,nn⟩:=o
  exact ⟨_,rfl,a,C,dx,_,_,_,rfl,e,M,by rcases nn with rfl | ⟨r,rfl⟩ <;> rfl,_,rfl,a,p,ws,ext,c,x,rfl,o',h0,h1,k⟩
end
abbrev zco:Stmt:=zaI (top 25) 9
theorem zfw:FnScope ["self","cell","word"] ["self","cell","word"] (zah zco):=⟨rfl,rfl,rfl,by decide +kernel,rfl,by decide +kernel,by decide +kernel⟩
section
variable {P:Program} {w:World} {K:PySem.W.Frag} {mg:Str→Option Value} {base:Heap}
theorem zb7 {f C:Addr} {fd:FuncData} (F:Fun K "write" "Chip.write" zco f fd) (T:Blt mg) (c_:ClsOk K C) (M:Mth P w K mg base 4 C "check_write" [] (fun vs _=>vs) (zdH C List.length)):FnOk P w K mg base CX0 5 f fd ["self","cell","word"] (zdC C):=by
 refine F.ok zfw (fun vs H Q E h=>?_) (fun cdv A outer s H vs Q E hr h=>?_)
 ·obtain ⟨a,p,ws,ext,c,v,rfl,_⟩:=h;rfl
 ·obtain ⟨a,p,ws,ext,c,v,rfl,o,h0,h1,h2,h3,k⟩:=h
  refine ⟨_,(zac (zax (zaV 4 ⟨rfl,rfl,rfl,rfl,rfl⟩ (hr.mono (by walk_at "m")) (pv 0) (zaa (pv 1) (zaa (pv 2) zae))))
   (zag (zbs (pv 2) (zhc (zbu (pv 0) rfl) (pv 1) zdl)))),?rd⟩
  have o':=o
  obtain ⟨⟨dx,hd,e⟩,l,nn⟩:=o
  refine ⟨_,rfl,a,C,dx,_,_,_,rfl,e,M,by rcases nn with rfl | ⟨r,rfl⟩ <;> rfl,_,rfl,_,rfl,a,p,ws,ext,_,v,rfl,o',by omega,by omega,h0,h2,h3,?_⟩
  refine ⟨_,rfl,_,rfl,a,C,dx,_,_,rfl,e,c_.cl,c_.held,rfl,_,rfl,p,_,_,c,rfl,rfl,l,?_,k⟩
  exact zlV h1
end
abbrev zb0:Stmt:=zaI (top 27) 1
theorem zeV:FnScope ["self","cell","word"] ["self","cell","word"] (zah zb0):=⟨rfl,rfl,rfl,by decide +kernel,rfl,by decide +kernel,by decide +kernel⟩
section
variable {P:Program} {w:World} {K:PySem.W.Frag} {mg:Str→Option Value} {base:Heap}
theorem ze8 {f C:Addr} {fd:FuncData} (F:Fun K "write" "Fixed.write" zb0 f fd) (T:Blt mg) (M:Mth P w K mg base 4 C "check_write" [] (fun vs _=>vs) (zdH C List.length)):FnOk P w K mg base CX0 5 f fd ["self","cell","word"] (zir C):=by
 refine F.ok zeV (fun vs H Q E h=>?_) (fun cdv A outer s H vs Q E hr h=>?_)
 ·obtain ⟨a,p,ws,ext,c,v,rfl,_⟩:=h;rfl
 ·obtain ⟨a,p,ws,ext,c,v,rfl,o,h0,h1,h2,h3,k⟩:=h
  refine ⟨_,(zag (zax (zaV 4 ⟨rfl,rfl,rfl,rfl,rfl⟩ (hr.mono (by walk_at "m")) (pv 0) (zaa (pv 1) (zaa (pv 2) zae))))),?rd⟩
  have o':=o
  obtain ⟨⟨dx,hd,e⟩,l,nn⟩:=o
  exact ⟨_,rfl,a,C,dx,_,_,_,rfl,e,M,by rcases nn with rfl | ⟨r,rfl⟩ <;> rfl,_,rfl,_,rfl,a,p,ws,ext,_,v,rfl,o',by omega,by omega,h0,h2,h3,k⟩
end
abbrev zcn:Stmt:=zaI (top 29) 1
theorem scMeter_read:FnScope ["self","cell","word"] ["self","cell"] (zah zcn):=⟨rfl,rfl,rfl,by decide +kernel,rfl,by decide +kernel,by decide +kernel⟩
section
variable {P:Program} {w:World} {K:PySem.W.Frag} {mg:Str→Option Value} {base:Heap}
theorem zfG {f C:Addr} {fd:FuncData} (F:Fun K "read" "Meter.read" zcn f fd) (T:Blt mg) (N:Nums mg) (c:ClsOk K C) (M:Mth P w K mg base 4 C "look" [] (fun vs _=>vs) (zbG C)):FnOk P w K mg base CX0 5 f fd ["self","cell"] (zil C):=by
 refine F.ok scMeter_read (fun vs H Q E h=>?_) (fun cdv A outer s H vs Q E hr h=>?_)
 ·obtain ⟨a,p,ext,v,rfl,_⟩:=h;rfl
 ·obtain ⟨a,p,ext,v,rfl,o,k⟩:=h
  refine ⟨_,(zac (zau (i:=2) scMeter_read.nd rfl (Or.inl rfl) (zaV 4 ⟨rfl,rfl,rfl,rfl,rfl⟩ (hr.mono (by walk_at "m")) (pv 0) (zaa (pv 1) zae)))
   (zac (zbs (zan zaC (zan zbd (pv 2) zab) (zan zbd (zbt rfl N.LAST_WORD) zab)) (zhc (zbu (pv 0) rfl) (pv 1) zdl))
   (zag (zat (pv 2))))),?rd⟩
  have o':=o
  obtain ⟨⟨dx,hd,e⟩,l,nn⟩:=o
  refine ⟨_,rfl,a,C,dx,_,_,_,rfl,e,M,by rcases nn with rfl | ⟨r,rfl⟩ <;> rfl,_,rfl,a,p,_,ext,0,_,rfl,o',by show 1≤5000;decide,rfl,?_⟩
  refine ⟨_,rfl,_,_,rfl,rfl,_,_,rfl,rfl,_,_,rfl,rfl,(show (0:Int)<255+1 by decide),?_⟩
  refine ⟨_,rfl,a,C,dx,_,_,rfl,e,c.cl,c.held,rfl,_,rfl,p,_,_,0,rfl,rfl,l,rfl,?_⟩
  exact ⟨_,rfl,k⟩
end
abbrev zbi:Stmt:=zaI (top 26) 0
theorem zc5:FnScope ["self","cells","word"] ["self","cells","word"] (zah zbi):=⟨rfl,rfl,rfl,by decide +kernel,rfl,by decide +kernel,by decide +kernel⟩
section
variable {P:Program} {w:World} {K:PySem.W.Frag} {mg:Str→Option Value} {base:Heap}
theorem zda {f C:Addr} {fd:FuncData} {dV:Value} (F:FunD K "__init__" "Store.__init__" zbi dV f fd) (T:Blt mg) (N:Nums mg) (c:ClsOk K C) (Gis_number:Cal P w K mg base 1 "is_number" ["thing","last"] zdF) (Gis_word:Cal P w K mg base 2 "is_word" ["thing"] zbJ) (GCChip___init__:Clm P w K mg base 1 "Chip" "__init__" (zev K)):FnOk P w K mg base CX0 3 f fd ["self","cells","word"] (zg5 C):=by
 refine F.ok zc5 (fun vs H Q E h=>?_) (fun cdv A outer s H vs Q E hr h=>?_)
 ·obtain ⟨a,dx,n,v,rfl,_⟩:=h;rfl
 ·obtain ⟨a,dx,n,v,rfl,h0,h1,h2,h3,ha,k⟩:=h
  refine ⟨_,(zac (zaE (PW.pt (zcz (zaX (zaL (zar Gis_number (hr.mono (by walk_at "m")) rfl (zaa (pv 1) (zaa (zbt rfl N.MOST_CELLS) zae))))) (zcz (zay zlG (pv 1) zab (zaz _)) (zb3 (zaX (zaL (zar Gis_word (hr.mono (by walk_at "m")) rfl (zaa (pv 2) zae)))))))) (zag za1) zaq)
   (zag (zax (zhf GCChip___init__ (hr.mono (by walk_at "m")) rfl (zaa (pv 0) (zaa zhd (zaa (zan op_rep (zaO (zaa (pv 2) zae)) (pv 1)) zae))))))),?rd⟩
  refine ⟨_,rfl,(n:Int),4096,rfl,_,rfl,?_⟩
  rw [decide_eq_true (show (0:Int)≤(n:Int)∧(n:Int)≤4096 by omega)]
  refine iteF ⟨_,rfl,_,_,rfl,rfl,_,rfl,?_⟩
  rw [decide_eq_false (show ¬ (n:Int)<1 by omega)]
  refine iteF ⟨_,rfl,v,rfl,_,rfl,zgV ⟨h2,h3⟩ ?_⟩
  refine ⟨_,rfl,_,rfl,by show 1≤sizeLine;decide,fun l hl=>?_⟩
  have en:((n:Int)).toNat=n:=by omega
  refine ⟨_,rfl,l,_,_,rfl,rfl,zad,by omega,by omega,?_,fun p hp=>?_⟩
  ·rw [en];show 1 * n≤sizeLine;exact Nat.le_trans (by omega) (show 4096≤sizeLine by decide)
  rw [en,show (List.replicate n [V.int v]).flatten=List.replicate n (V.int v) from ziF n _]
  have nl:l≠a:=fun z=>by rw [z,ha] at hl;cases hl
  have hpl:p≠l:=fun z=>by rw [z,zad] at hp;cases hp
  have hp0:H p=none:=by rw [zai hpl] at hp;exact hp
  have ne:p≠a:=fun z=>by rw [z,ha] at hp0;cases hp0
  refine ⟨a,C,dx,p,_,rfl,by rw [zai (Ne.symm ne),zai (Ne.symm nl)];exact ha,c,fun H' e1 e2=>?_⟩
  refine k p H' hp0 ⟨dx,e1⟩ (by rw [e2 p ne];exact zad) fun b o hb e=>?_
  rw [e2 b hb,zai (zam e hp0),zai (zam e hl)];exact e
end
abbrev zbl:Stmt:=zaI (top 27) 0
theorem scFixed___init__:FnScope ["self","words","held"] ["self","words"] (zah zbl):=⟨rfl,rfl,rfl,by decide +kernel,rfl,by decide +kernel,by decide +kernel⟩
section
variable {P:Program} {w:World} {K:PySem.W.Frag} {mg:Str→Option Value} {base:Heap}
theorem zdd {f C:Addr} {fd:FuncData} (F:Fun K "__init__" "Fixed.__init__" zbl f fd) (T:Blt mg) (N:Nums mg) (c:ClsOk K C) (Gis_word:Cal P w K mg base 2 "is_word" ["thing"] zbJ) (GCChip___init__:Clm P w K mg base 1 "Chip" "__init__" (zev K)):FnOk P w K mg base CX0 3 f fd ["self","words"] (zg6 C):=by
 refine F.ok scFixed___init__ (fun vs H Q E h=>?_) (fun cdv A outer s H vs Q E hr h=>?_)
 ·obtain ⟨a,dx,l,ws,rfl,_⟩:=h;rfl
 ·obtain ⟨a,dx,l,ws,rfl,hl,h1,h2,h3,ha,k⟩:=h
  refine' ⟨_,(zac (zau (i:=2) scFixed___init__.nd rfl (Or.inl rfl) (za8 zbx (by rfl) T.list zct (zaa (pv 1) zae)))
   (zac (zaE (PW.pt (zcz (zaX (zj8 ziV ziV zab (zao zaA (by rfl) T.len PySem.boot_len (zaa (pv 2) zae)) (zbt rfl N.MOST_CELLS))) (zb3 (zaX (zaL (zao (zem rfl) (by rfl) T.all zjE (zaa ?c1 zae))))))) (zag za1) zaq)
   (zag (zax (zhf GCChip___init__ (hr.mono (by walk_at "m")) rfl (zaa (pv 0) (zaa zhd (zaa (pv 2) zae)))))))),?rd⟩
  (case c1=>exact (zd0 (Nc:=["word"]) [none] rfl (zaY (by rfl)) (zdX (pv 2)) (fun _ _ _ _ _=>(zaj (i:=0) (show (["word"]:List Str).Nodup by decide +kernel) rfl (Or.inl rfl))) (fun _ _ _ _ _=>zdY) (fun _ _ _ _ _=>(zar Gis_word (hr.mono (by walk_at "m")) rfl (zaa (pv 0) zae)))))
  refine ⟨_,rfl,l,_,rfl,.inl (SqL.of hl),fun p hp=>?_⟩
  have nl:p≠a:=fun z=>by rw [z,ha] at hp;cases hp
  refine ⟨_,rfl,p,_,rfl,.inl (SqL.of zad),_,_,rfl,rfl,_,rfl,?_⟩
  rw [zaw,decide_eq_true (show (1:Int)≤(ws.length:Int) by omega)]
  refine iteT ⟨_,_,rfl,rfl,_,rfl,?_⟩
  rw [decide_eq_true (show (ws.length:Int)≤4096 by omega)]
  refine iteF ⟨_,rfl,p,rfl,⟨_,SqL.of zad⟩,?_⟩
  refine zjw (K:=K) (a:=p) (xs:=vN ws) (fun j rs σ H1=>∃ v1,σ=[v1]∧rs=List.replicate j (V.bl true)∧H1=upd H p (.lst (vN ws))) (by rw [zaw];exact Nat.le_trans h2 (by decide)) ⟨none,rfl,rfl,rfl⟩ ?_ ?_ ?_
  ·rintro j rs σ H1 hj ⟨v1,rfl,rfl,rfl⟩
   exact ⟨SqL.of zad,by rw [List.length_replicate];exact Nat.le_refl _⟩
  ·rintro j x rs σ H1 ex ⟨v1,rfl,rfl,rfl⟩
   obtain ⟨b,hb,rfl⟩:=zfp ex
   have:=h3 b (List.mem_of_getElem? hb)
   refine ⟨_,rfl,(b:Int),rfl,?_⟩
   rw [decide_eq_true (show (0:Int)≤(b:Int)∧(b:Int)≤255 by omega)]
   exact ⟨_,rfl,List.replicate_succ'.symm,rfl⟩
  ·rintro rs σ H1 ⟨v1,rfl,rfl,rfl⟩ D hD
   refine ⟨D,List.replicate (vN ws).length true,rfl,SqL.of (by rw [List.map_replicate];exact zad),_,rfl,?_⟩
   rw [show (List.replicate (vN ws).length true).all id=true by simp]
   refine iteF ⟨_,rfl,_,rfl,a,C,dx,p,_,rfl,?_,c,fun H' e1 e2=>?_⟩
   ·exact zaf hD _ _ (zaf hp _ _ ha)
   ·refine k p H' hp ⟨dx,e1⟩ (by rw [e2 p nl];exact zaf hD _ _ zad) fun b o hb e=>?_
    rw [e2 b hb];exact zaf hD _ _ (zaf hp _ _ e)
end
abbrev zbk:Stmt:=zaI (top 28) 0
theorem zc7:FnScope ["self","word"] ["self","word"] (zah zbk):=⟨rfl,rfl,rfl,by decide +kernel,rfl,by decide +kernel,by decide +kernel⟩
section
variable {P:Program} {w:World} {K:PySem.W.Frag} {mg:Str→Option Value} {base:Heap}
theorem zdc {f C:Addr} {fd:FuncData} {dV:Value} (F:FunD K "__init__" "Latch.__init__" zbk dV f fd) (T:Blt mg) (c:ClsOk K C) (Gis_word:Cal P w K mg base 2 "is_word" ["thing"] zbJ) (GCChip___init__:Clm P w K mg base 1 "Chip" "__init__" (zev K)):FnOk P w K mg base CX0 3 f fd ["self","word"] (zcZ C "latch"):=by
 refine F.ok zc7 (fun vs H Q E h=>?_) (fun cdv A outer s H vs Q E hr h=>?_)
 ·obtain ⟨a,dx,v,rfl,_⟩:=h;rfl
 ·obtain ⟨a,dx,v,rfl,h0,h1,ha,k⟩:=h
  refine ⟨_,(zac (zaE (zaX (zaL (zar Gis_word (hr.mono (by walk_at "m")) rfl (zaa (pv 1) zae)))) (zag za1) zaq)
   (zag (zax (zhf GCChip___init__ (hr.mono (by walk_at "m")) rfl (zaa (pv 0) (zaa zhd (zaa (zaO (zaa (pv 1) zae)) zae))))))),?rd⟩
  refine ⟨_,rfl,v,rfl,_,rfl,zgV ⟨h0,h1⟩ ?_⟩
  refine ⟨_,rfl,_,rfl,by show 1≤sizeLine;decide,fun p hp=>?_⟩
  have ne:p≠a:=fun z=>by rw [z,ha] at hp;cases hp
  refine ⟨a,C,dx,p,_,rfl,by rw [zai (Ne.symm ne)];exact ha,c,fun H' e1 e2=>?_⟩
  refine k p H' hp ⟨dx,e1⟩ (by rw [e2 p ne];exact zad) fun b o hb e=>?_
  rw [e2 b hb,zai (zam e hp)];exact e
end
abbrev zbj:Stmt:=zaI (top 29) 0
theorem zc6:FnScope ["self","word"] ["self","word"] (zah zbj):=⟨rfl,rfl,rfl,by decide +kernel,rfl,by decide +kernel,by decide +kernel⟩
section
variable {P:Program} {w:World} {K:PySem.W.Frag} {mg:Str→Option Value} {base:Heap}
theorem zdb {f C:Addr} {fd:FuncData} {dV:Value} (F:FunD K "__init__" "Meter.__init__" zbj dV f fd) (T:Blt mg) (c:ClsOk K C) (Gis_word:Cal P w K mg base 2 "is_word" ["thing"] zbJ) (GCChip___init__:Clm P w K mg base 1 "Chip" "__init__" (zev K)):FnOk P w K mg base CX0 3 f fd ["self","word"] (zcZ C "meter"):=by
 refine F.ok zc6 (fun vs H Q E h=>?_) (fun cdv A outer s H vs Q E hr h=>?_)
 ·obtain ⟨a,dx,v,rfl,_⟩:=h;rfl
 ·obtain ⟨a,dx,v,rfl,h0,h1,ha,k⟩:=h
  refine ⟨_,(zac (zaE (zaX (zaL (zar Gis_word (hr.mono (by walk_at "m")) rfl (zaa (pv 1) zae)))) (zag za1) zaq)
   (zag (zax (zhf GCChip___init__ (hr.mono (by walk_at "m")) rfl (zaa (pv 0) (zaa zhd (zaa (zaO (zaa (pv 1) zae)) zae))))))),?rd⟩
  refine ⟨_,rfl,v,rfl,_,rfl,zgV ⟨h0,h1⟩ ?_⟩
  refine ⟨_,rfl,_,rfl,by show 1≤sizeLine;decide,fun p hp=>?_⟩
  have ne:p≠a:=fun z=>by rw [z,ha] at hp;cases hp
  refine ⟨a,C,dx,p,_,rfl,by rw [zai (Ne.symm ne)];exact ha,c,fun H' e1 e2=>?_⟩
  refine k p H' hp ⟨dx,e1⟩ (by rw [e2 p ne];exact zad) fun b o hb e=>?_
  rw [e2 b hb,zai (zam e hp)];exact e
end
abbrev zdz:Stmt:=top 52
theorem scrow_fits:FnScope ["row","chips","inner","chip","latch"] ["row","chips"] (zah zdz):=⟨rfl,rfl,rfl,by decide +kernel,rfl,by decide +kernel,by decide +kernel⟩
section
variable {P:Program} {w:World} {K:PySem.W.Frag} {mg:Str→Option Value} {base:Heap}
def lenK (kd:Nat):List V→Nat:=if kd=4 then two else List.length
theorem Chp.ob {cs:Nat→Addr} {H:Hp} {x p:Addr} {kd n:Nat} {ws:List Nat} (o:Chp cs H x p kd n ws):Ob (cs kd) H x p (vN ws) (kext kd n):=by
 obtain ⟨dx,e⟩:=o.ex
 refine ⟨⟨dx,_,e⟩,o.ls,?_⟩
 unfold kext
 split
 ·exact .inr ⟨_,rfl⟩
 ·exact .inl rfl
def zjT (cs:Nat→Addr) (kd:Nat):Sp:=fun vs H Q _=>∃ x p,∃ (n c:Nat) (ws:List Nat),vs=[.ref x,.int (c:Int)]∧Chp cs H x p kd n ws∧Kd kd n ws∧c<zaQ kd ws∧∀ H',H' p=some (.lst (vN (krd kd ws c)))→(∀ b,b≠p→H' b=H b)→Q (.int (klk kd ws c:Int)) H'
def zjV (cs:Nat→Addr) (kd:Nat):Sp:=fun vs H Q _=>∃ x p,∃ (n c:Nat) (ws:List Nat),vs=[.ref x,.int (c:Int)]∧Chp cs H x p kd n ws∧Kd kd n ws∧c<zaQ kd ws∧Q (.int (klk kd ws c:Int)) H
theorem zb9 {cs:Nat→Addr} {kd:Nat} (hk:kd≠4):∀ vs H Q E,zjV cs kd vs H Q E→zbG (cs kd) vs H Q E:=by
 rintro vs H Q E ⟨x,p,n,c,ws,rfl,o,kk,hc,q⟩
 obtain ⟨dx,e⟩:=o.ex
 unfold zaQ at hc
 unfold klk at q
 rw [if_neg hk] at hc q
 unfold kext at e
 rw [if_neg hk] at e
 have hg:ws[c]? = some (ws.getD c 0):=by rw [List.getD_eq_getElem?_getD,List.getElem?_eq_getElem hc];rfl
 exact ⟨x,p,vN ws,[],c,_,rfl,⟨⟨dx,_,e⟩,o.ls,.inl rfl⟩,by rw [zaw];have:=kk.ln;omega,zkP hg,q⟩
theorem zdU {cs:Nat→Addr} {kd:Nat} (hk:kd=0∨kd=1∨kd=2):∀ vs H Q E,zjT cs kd vs H Q E→zbG (cs kd) vs H Q E:=by
 rintro vs H Q E ⟨x,p,n,c,ws,rfl,o,kk,hc,q⟩
 refine zb9 (by omega) _ H Q E ⟨x,p,n,c,ws,rfl,o,kk,hc,q H ?_ fun b hb=>rfl⟩
 rw [o.ls]
 unfold krd
 rw [if_neg (by omega),if_neg (fun z=>by omega)]
theorem ziH {cs:Nat→Addr}:∀ vs H Q E,zjT cs 3 vs H Q E→zil (cs 3) vs H Q E:=by
 rintro vs H Q E ⟨x,p,n,c,ws,rfl,o,kk,hc,q⟩
 obtain ⟨dx,e⟩:=o.ex
 obtain ⟨v,rfl⟩:∃ v,ws=[v]:=by
  have:=kk.l3 rfl
  cases ws with
  | nil=>cases this
  | cons a b=>cases b with | nil=>exact ⟨a,rfl⟩ | cons _ _=>cases this
 obtain rfl:c=0:=by have:c<1:=hc;omega
 refine ⟨x,p,[],(v:Int),rfl,⟨⟨dx,_,e⟩,o.ls,.inl rfl⟩,q _ ?_ fun b hb=>zai hb⟩
 rw [show ((v:Int)+1) % 256=(((v+1) % 256:Nat):Int) by omega]
 exact zad
structure Dt where
 m:Nat
 x:Nat→Addr
 p:Nat→Addr
 kd:Nat→Nat
 n:Nat→Nat
 sz:Nat→Nat
structure Chs (cs:Nat→Addr) (D:Dt) (Y:Hp) (us:Nat→List Nat):Prop where
 o:∀ i,i<D.m→Chp cs Y (D.x i) (D.p i) (D.kd i) (D.n i) (us i)
 k:∀ i,i<D.m→Kd (D.kd i) (D.n i) (us i)
 h1:∀ i,i<D.m→D.kd i=2∨D.kd i=3→(us i).length=1
 z:∀ i,i<D.m→zaQ (D.kd i) (us i)=D.sz i
 inj:∀ i j,i<D.m→j<D.m→D.p i=D.p j→i=j
 m1:D.m≤200
theorem Chs.same {cs:Nat→Addr} {D:Dt} {Y Z:Hp} {us:Nat→List Nat} (S:Chs cs D Y us) (s:Same Y Z):Chs cs D Z us:=⟨fun i h=>(S.o i h).same s,S.k,S.h1,S.z,S.inj,S.m1⟩
theorem kz_wr {kd n:Nat} (us:List Nat) (c v:Nat):zaQ kd (kwr kd n us c v)=zaQ kd us:=by
 unfold zaQ kwr
 split
 ·rfl
 ·split
  ·rfl
  ·rw [List.length_set]
theorem kz_rd {kd n:Nat} (us:List Nat) (c:Nat) (ku:Kd kd n us):zaQ kd (krd kd us c)=zaQ kd us:=by
 unfold zaQ krd
 split
 ·rfl
 ·split
  ·rename_i e;exact (ku.l3 e).symm
  ·split
   ·rename_i e1 _ e2;exact absurd e2.1 e1
   ·rfl
theorem k1_of {kd:Nat} {us vs:List Nat} (h:kd=2∨kd=3→us.length=1) (z:zaQ kd vs=zaQ kd us):kd=2∨kd=3→vs.length=1:=fun e=>by
 have h':=h e
 unfold zaQ at z
 rw [if_neg (by omega),if_neg (by omega)] at z
 omega
def wset (us:Nat→List Nat) (i:Nat) (vs:List Nat):Nat→List Nat:=fun j=>if j=i then vs else us j
theorem Chs.put {cs:Nat→Addr} {D:Dt} {i:Nat} {Y Z:Hp} {us:Nat→List Nat} {vs:List Nat} (S:Chs cs D Y us) (hi:i<D.m) (kv:Kd (D.kd i) (D.n i) vs) (hz:zaQ (D.kd i) vs=zaQ (D.kd i) (us i)) (e:Z (D.p i)=some (.lst (vN vs))) (k:∀ b,b≠D.p i→Z b=Y b):Chs cs D Z (wset us i vs):=by
 refine ⟨fun j h=>?_,fun j h=>?_,fun j h=>?_,fun j h=>?_,S.inj,S.m1⟩
 ·obtain ⟨d,ed⟩:=(S.o j h).ex
  refine ⟨⟨d,?_⟩,?_⟩
  ·rw [k _ fun z=>by have:=(S.o i hi).ls;rw [← z,ed] at this;cases this];exact ed
  ·unfold wset
   by_cases ej:j=i
   ·subst ej;rw [if_pos rfl];exact e
   ·rw [if_neg ej,k _ fun z=>ej (S.inj j i h hi z)];exact (S.o j h).ls
 all_goals
  unfold wset
  by_cases ej:j=i
  ·subst ej
   rw [if_pos rfl]
   first | exact kv | exact k1_of (S.h1 j h) hz | exact hz.trans (S.z j h)
  ·rw [if_neg ej]
   first | exact S.k j h | exact S.h1 j h | exact S.z j h
def chL (D:Dt):List V:=(List.range D.m).map fun i=>.ref (D.x i)
theorem zcY (D:Dt):(chL D).length=D.m:=by unfold chL;rw [List.length_map,List.length_range]
theorem zeG {D:Dt} {i:Nat} (h:i<D.m):(chL D)[i]? = some (.ref (D.x i)):=by unfold chL;rw [List.getElem?_map,List.getElem?_range h];rfl
def Fit (D:Dt) (r:Rw):Prop:=r.c<D.m∧2 ^ ones r.i≤D.sz r.c∧∀ c a b,r.l=some (c,a,b)→c<D.m∧D.kd c=2
def zis (cs:Nat→Addr):Sp:=fun vs H Q _=>∃ (t L:Addr) (r:Rw) (D:Dt) (us:Nat→List Nat),vs=[.ref t,.ref L]∧RwAt H t r∧r.i<2 ^ 16∧H L=some (.lst (chL D))∧Chs cs D H us∧Fit D r∧∀ H',Same H H'→Q (.bl true) H'
theorem lkn {p:Addr} {kd n:Nat} {z:Str} (nm:Str) (h1:nm ≠ "head" := by decide) (h2:nm ≠ "held" := by decide) (h3:nm ≠ "room" := by decide):(("head",V.str z) :: ("held",V.ref p) :: kext kd n:List (Str×V)).lookup nm=none:=by
 unfold kext
 have e1:(nm == "head")=false:=beq_eq_false_iff_ne.mpr h1
 have e2:(nm == "held")=false:=beq_eq_false_iff_ne.mpr h2
 have e3:(nm == "room")=false:=beq_eq_false_iff_ne.mpr h3
 split <;> simp [List.lookup_cons,e1,e2,e3]
theorem zhK {f:Addr} {cs:Nat→Addr} {fd:FuncData} (F:Fun K "row_fits" "row_fits" zdz f fd) (T:Blt mg) (Gones_of:Cal P w K mg base 2 "ones_of" ["mask"] zik) (GLatch:mg "Latch" = some (.ref (cs 2))) (kk:PySem.W.kitOne K (.ref (cs 2)) (.ref (cs 2))=some true) (TL:∀ {H:Hp} {a dx:Addr} {fs:List (Str×V)},H a=some (.ins (cs 2) dx fs)→TyOf K H (.ref a) (.ref (cs 2)))
  (ML:∀ kd,kd<4→Mth P w K mg base 1 (cs kd) "__len__" [] (fun vs _=>vs) (zfq (cs kd) (lenK kd))):FnOk P w K mg base CX0 3 f fd ["row","chips"] (zis cs):=by
 refine F.ok scrow_fits (fun vs H Q E h=>?_) (fun cdv A outer s H vs Q E hr h=>?_)
 ·obtain ⟨t,L,r,D,us,rfl,_⟩:=h;rfl
 ·obtain ⟨t,L,r,D,us,rfl,⟨lt,et,hlt⟩,hi,eL,S,⟨f1,f2,f3⟩,k⟩:=h
  refine ⟨_,(zac (zbs (zcA (zix (K:=K) rfl) (pv 0) (zdV zab) zdW) (zbc rfl (zak (zaj (i:=2) scrow_fits.nd rfl (Or.inl rfl)) (zak (zaj (i:=3) scrow_fits.nd rfl (Or.inl rfl)) (zak (zaj (i:=4) scrow_fits.nd rfl (Or.inl rfl)) zaR)))))
   (zac (zaE (PW.pt (zcz (zay op_ge (pv 3) (zao zaA (by rfl) T.len PySem.boot_len (zaa (pv 1) zae)) (zaz _)) (zb3 (zay zfz (zan zbR zab (zar Gones_of (hr.mono (by walk_at "m")) rfl (zaa (pv 2) zae))) (ziT 1 ⟨rfl,rfl,rfl,rfl,rfl⟩ (hr.mono (by walk_at "m")) rfl T.len (zal zas (pv 1) (pv 3) (fun _ _=>rfl))) (zaz _))))) (zag (zat zcB)) zaq)
   (zag (zat (pe_or (ziU (zch (pv 4))) (zbI (zbv (zbE zlG (zal zap (pv 4) zab (fun _ _=>rfl)) (zao zaA (by rfl) T.len PySem.boot_len (zaa (pv 1) zae)) (zaz _)) (zbI (zao (zkI (K:=K) rfl) (by rfl) T.isinstance za3 (zaa (zal zas (pv 1) (zal zap (pv 4) zab (fun _ _=>rfl)) (fun _ _=>rfl)) (zaa (zkd rfl GLatch) zae))))))))))),?rd⟩
  have ec:cutV [V.int (r.m:Int),.int (r.w:Int),.int (r.i:Int),.int (r.c:Int),lt] (some 2) none=[.int (r.i:Int),.int (r.c:Int),lt]:=rfl
  have hsz:∀ i,i<D.m→D.sz i≤5000:=fun i h=>by
   rw [← S.z i h]
   unfold zaQ
   split
   ·decide
   ·have:=(S.k i h).ln;omega
  refine ⟨_,rfl,2,rfl,t,_,rfl,SqT.of et,(fun e=>absurd (congrArg List.length e) (by rw [ec];simp)),fun tp htp=>?_⟩
  rw [ec]
  have s1:=zaf (H:=H) (o:=HO.tup [.int (r.i:Int),.int (r.c:Int),lt]) htp
  refine ⟨tp,_,rfl,SqT.of zad,rfl,_,_,rfl,_,_,rfl,_,_,rfl,rfl,?_⟩
  refine ⟨_,rfl,_,rfl,L,_,rfl,.inl (SqL.of (s1 _ _ eL)),_,_,rfl,rfl,_,rfl,?_⟩
  rw [zcY,decide_eq_false (show ¬ (D.m:Int)≤(r.c:Int) by omega)]
  refine iteF ⟨_,rfl,r.i,rfl,Nat.lt_of_lt_of_le hi (by decide),fun H2 s2=>?_⟩
  have S2:=S.same (s1.trans s2)
  have h64:ones r.i≤64:=by
   have:=hsz _ f1
   by_cases hc:ones r.i≤64
   ·exact hc
   ·have:2 ^ 64≤2 ^ ones r.i:=Nat.pow_le_pow_right (by decide) (by omega)
    have:(5000:Nat)<2 ^ 64:=by decide
    omega
  obtain ⟨dx,ex⟩:=(S2.o _ f1).ex
  have k5:=(S2.k _ f1).k5
  have hlen:lenK (D.kd r.c) (vN (us r.c))=D.sz r.c:=by
   rw [← S.z _ f1]
   unfold lenK zaQ
   split
   ·rfl
   ·exact zaw _
  refine ⟨_,_,rfl,rfl,⟨by omega,by omega,by decide⟩,_,rfl,_,rfl,L,_,_,_,rfl,rfl,SqL.of (s2 _ _ (s1 _ _ eL)),zaF (zeG f1),?_⟩
  refine ⟨_,cs (D.kd r.c),dx,_,_,_,rfl,ex,ML _ k5,_,_,_,_,rfl,(S2.o _ f1).ob,?_⟩
  rw [hlen]
  have hz:=hsz _ f1
  refine ⟨_,rfl,by omega,by omega,_,_,rfl,rfl,_,rfl,?_⟩
  have e1:(1:Int) * 2 ^ ((ones r.i:Nat):Int).toNat=((2 ^ ones r.i:Nat):Int):=by rw [Int.one_mul,Int.toNat_natCast];norm_cast
  rw [decide_eq_false (show ¬ ((D.sz r.c:Nat):Int)<(1:Int) * 2 ^ ((ones r.i:Nat):Int).toNat by rw [e1];omega)]
  refine iteF ?_
  refine zav ?_
  dsimp only
  have k:=k H2 (s1.trans s2)
  cases hl:r.l with
  | none =>
   rw [hl] at hlt
   obtain rfl:lt = .non:=hlt
   exact ⟨_,rfl,_,rfl,iteT k⟩
  | some o =>
   obtain ⟨c,a,b⟩:=o
   rw [hl] at hlt
   obtain ⟨u,rfl,eu⟩:=hlt
   obtain ⟨g1,g2⟩:=f3 c a b hl
   have eu2:=s2 _ _ (s1 _ _ eu)
   have eL2:=s2 _ _ (s1 _ _ eL)
   obtain ⟨dy,ey⟩:=(S2.o _ g1).ex
   rw [g2] at ey
   refine ⟨_,rfl,_,rfl,iteF ⟨_,rfl,u,_,_,_,rfl,rfl,SqT.of eu2,rfl,_,rfl,L,_,rfl,.inl (SqL.of eL2),_,_,rfl,rfl,_,rfl,?_⟩⟩
   rw [zcY,decide_eq_true (show (c:Int)<(D.m:Int) by omega)]
   refine iteT ⟨_,rfl,_,rfl,u,_,_,_,rfl,rfl,SqT.of eu2,rfl,L,_,_,_,rfl,rfl,SqL.of eL2,zaF (zeG g1),_,_,_,true,rfl,TL ey,kk,k⟩
structure Bd where
 b:Addr
 bits:Nat
 R:Addr
 ws:List (Addr×Rw)
 L:Addr
 la:Addr
 keys:List Nat
 W:Addr
def bdF (B:Bd) (f:Nat):List (Str×V):=[("bits",.int (B.bits:Int)),("rows",.ref B.R),("chips",.ref B.L),("floating",.int (f:Int)),("latches",.ref B.la),("watches",.ref B.W),("next_watch",.int 0)]
structure RwsFor (D:Dt) (m:Nat) (Y:Hp) (R:Addr) (ws:List (Addr×Rw)):Prop where
 e:Y R=some (.tup (refs ws))
 r:RwsAt2 m Y ws
 f:∀ z∈ws,Fit D z.2
 nc:ws.Pairwise fun a b=>NC a.2 b.2
 ln:ws.length≤60
theorem RwsFor.same {D:Dt} {m:Nat} {Y Z:Hp} {R:Addr} {ws:List (Addr×Rw)} (h:RwsFor D m Y R ws) (s:Same Y Z):RwsFor D m Z R ws:=⟨s _ _ h.e,h.r.same s,h.f,h.nc,h.ln⟩
structure BdAt (C:Addr) (B:Bd) (D:Dt) (Y:Hp) (f:Nat):Prop where
 e:∃ db,Y B.b=some (.ins C db (bdF B f))
 b1:1≤B.bits
 b2:B.bits≤16
 rf:RwsFor D B.bits Y B.R B.ws
 ch:Y B.L=some (.lst (chL D))
 la:Y B.la=some (.lst (vN B.keys))
 kl:∀ z∈B.ws,∀ c a b,z.2.l=some (c,a,b)→c∈B.keys
 ks:∀ k∈B.keys,k<D.m∧D.kd k=2
 kn:B.keys.Nodup
 w0:Y B.W=some (.dK [])
 f0:f≤255
 nl:∀ i,i<D.m→B.L≠D.p i∧B.la≠D.p i
theorem BdAt.same {C:Addr} {B:Bd} {D:Dt} {Y Z:Hp} {f:Nat} (h:BdAt C B D Y f) (s:Same Y Z):BdAt C B D Z f:=by
 obtain ⟨db,e⟩:=h.e
 exact ⟨⟨db,s _ _ e⟩,h.b1,h.b2,h.rf.same s,s _ _ h.ch,s _ _ h.la,h.kl,h.ks,h.kn,s _ _ h.w0,h.f0,h.nl⟩
structure ClsBd (K:PySem.W.Frag) (C:Addr):Prop where
 cls:Cls K C
 bits:NoAttr K C "bits"
 rows:NoAttr K C "rows"
 chips:NoAttr K C "chips"
 floating:NoAttr K C "floating"
 latches:NoAttr K C "latches"
 watches:NoAttr K C "watches"
 next_watch:NoAttr K C "next_watch"
theorem BdAt.fl {C:Addr} {B:Bd} {D:Dt} {Y:Hp} {f v:Nat} {db:Addr} (h:BdAt C B D Y f) (hv:v≤255):BdAt C B D (upd Y B.b (.ins C db (bdF B v))) v:=by
 obtain ⟨d0,e⟩:=h.e
 have ne:∀ {a:Addr} {o:HO},Y a=some o→(∀ x y z,o≠.ins x y z)→upd Y B.b (.ins C db (bdF B v)) a=some o:=fun {a o} ea ho=>by
  rw [zai (fun z=>by rw [z,e] at ea;exact ho _ _ _ (Option.some.inj ea).symm)];exact ea
 refine ⟨⟨db,zad⟩,h.b1,h.b2,⟨ne h.rf.e (by intros;exact (fun z=>by cases z)),(fun z hz=>?_),h.rf.f,h.rf.nc,h.rf.ln⟩,ne h.ch (by intros;exact (fun z=>by cases z)),ne h.la (by intros;exact (fun z=>by cases z)),h.kl,h.ks,h.kn,ne h.w0 (by intros;exact (fun z=>by cases z)),hv,h.nl⟩
 obtain ⟨⟨lt,et,hlt⟩,ok⟩:=h.rf.r z hz
 refine ⟨⟨lt,ne et (by intros;exact (fun z=>by cases z)),?_⟩,ok⟩
 cases hl:z.2.l with
 | none=>rw [hl] at hlt;exact hlt
 | some o =>
  rw [hl] at hlt
  obtain ⟨u,eu,hu⟩:=hlt
  exact ⟨u,eu,ne hu (by intros;exact (fun z=>by cases z))⟩
def hld (us:Nat→List Nat) (c:Nat):Nat:=(us c).getD 0 0
def whoI (B:Bd) (us:Nat→List Nat) (x:Nat):Option Nat:=(B.ws.map (·.2)).findIdx? fun r=>ans r x (wrd B.keys (hld us))
def zeN (C:Addr):Sp:=fun vs H Q _=>∃ (B:Bd) (D:Dt) (f:Nat) (x:Nat),vs=[.ref B.b,.int (x:Int)]∧BdAt C B D H f∧Q (.bl (decide (x<2 ^ B.bits))) H
def zgl (C:Addr):Sp:=fun vs H Q _=>∃ (B:Bd) (D:Dt) (f:Nat) (x:Nat),vs=[.ref B.b,.int (x:Int)]∧BdAt C B D H f∧x<2 ^ B.bits∧Q .non H
def zdj (C:Addr):Sp:=fun vs H Q _=>∃ (B:Bd) (D:Dt) (f i:Nat) (z:Addr×Rw),vs=[.ref B.b,.int (i:Int)]∧BdAt C B D H f∧B.ws[i]? = some z∧Q (.ref (D.x z.2.c)) H
def zdh (C:Addr):Sp:=fun vs H Q _=>∃ (B:Bd) (D:Dt) (f:Nat) (kind:Str) (x v:Nat),vs=[.ref B.b,.str kind,.int (x:Int),.int (v:Int)]∧BdAt C B D H f∧v≤255∧∀ H',BdAt C B D H' v→(∀ a o,a≠B.b→H a=some o→H' a=some o)→Q .non H'
def zih (C:Addr) (cs:Nat→Addr):Sp:=fun vs H Q _=>∃ (B:Bd) (D:Dt) (us:Nat→List Nat) (f x:Nat),vs=[.ref B.b,.int (x:Int)]∧BdAt C B D H f∧Chs cs D H us∧x<2 ^ B.bits ∧
 (whoI B us x=none→∀ H',Same H H'→Q .non H')∧∀ (i:Nat) (z:Addr×Rw),whoI B us x=some i→B.ws[i]? = some z→∀ (t:Addr) (H':Hp),H t=none→H' t=some (.tup [.int (i:Int),.int (gath z.2.i x:Int)])→Same H H'→Q (.ref t) H'
end
abbrev zcK:Stmt:=top 53
theorem sccheck_map:FnScope ["bits","rows","chips","number","row"] ["bits","rows","chips"] (zah zcK):=⟨rfl,rfl,rfl,by decide +kernel,rfl,by decide +kernel,by decide +kernel⟩
section
variable {P:Program} {w:World} {K:PySem.W.Frag} {mg:Str→Option Value} {base:Heap}
theorem zlR {p:Addr} {l:List V} {H:Hp} {v:V} (hF:H p=some (.lst l)):∀ {o:Option (Nat×Nat×Nat)},LatV H v o→Dv p H v (zkq o)
 | none,h=>by rw [show v = .non from h];exact .non
 | some (c,a,b),⟨u,e,eu⟩=>by
  rw [e]
  have nu:u≠p:=fun z=>by rw [z,hF] at eu;cases eu
  refine .tup eu nu rfl fun i x d hx hd=>?_
  rcases (show i=0∨i=1∨i=2 by have:=(List.getElem?_eq_some_iff.mp hx).1;simp at this;omega) with rfl | rfl | rfl <;> cases hx <;> cases hd <;> exact .int _
theorem zly {p t:Addr} {l:List V} {H:Hp} {r:Rw} (hF:H p=some (.lst l)) (h:RwAt H t r):Dv p H (.ref t) (ziE r):=by
 obtain ⟨lt,et,hlt⟩:=h
 have nt:t≠p:=fun z=>by rw [z,hF] at et;cases et
 refine .tup et nt rfl fun i x d hx hd=>?_
 rcases (show i=0∨i=1∨i=2∨i=3∨i=4 by have:=(List.getElem?_eq_some_iff.mp hx).1;simp at this;omega) with rfl | rfl | rfl | rfl | rfl <;> cases hx <;> cases hd <;> first | exact .int _ | exact zlR hF hlt
theorem zlN {p t:Addr} {m:Nat} {l:List V} {H:Hp} {ws:List (Addr×Rw)} (hF:H p=some (.lst l)) (et:H t=some (.tup (refs ws))) (h:RwsAt2 m H ws):Dv p H (.ref t) (.tup (ws.map fun z=>ziE z.2)):=by
 have nt:t≠p:=fun z=>by rw [z,hF] at et;cases et
 refine .tup et nt (by rw [zaM,List.length_map]) fun i x d hx hd=>?_
 obtain ⟨z,hz,rfl⟩:=zdn hx
 rw [List.getElem?_map,hz] at hd
 cases hd
 exact zly hF (h z (List.mem_of_getElem? hz)).1
def zeO (cs:Nat→Addr):Sp:=fun vs H Q _=>∃ (m:Nat) (R L:Addr) (D:Dt) (us:Nat→List Nat) (ws:List (Addr×Rw)),vs=[.int (m:Int),.ref R,.ref L]∧1≤m∧m≤16∧RwsFor D m H R ws∧H L=some (.lst (chL D))∧Chs cs D H us∧∀ H',Same H H'→Q .non H'
theorem zgG {f:Addr} {cs:Nat→Addr} {fd:FuncData} (F:Fun K "check_map" "check_map" zcK f fd) (T:Blt mg) (N:Nums mg) (Gis_number:Cal P w K mg base 1 "is_number" ["thing","last"] zbo) (Gis_map:Cal P w K mg base 5 "is_map" ["bits","thing"] zin) (Grow_fits:Cal P w K mg base 3 "row_fits" ["row","chips"] (zis cs)):FnOk P w K mg base CX0 6 f fd ["bits","rows","chips"] (zeO cs):=by
 refine F.ok sccheck_map (fun vs H Q E h=>?_) (fun cdv A outer s H vs Q E hr h=>?_)
 ·obtain ⟨m,R,L,D,us,ws,rfl,_⟩:=h;rfl
 ·obtain ⟨m,R,L,D,us,ws,rfl,h1,h2,hR,eL,S,k⟩:=h
  refine ⟨_,(zac (zaE (PW.pt (zcz (zaX (zaL (zar Gis_number (hr.mono (by walk_at "m")) rfl (zaa (pv 0) (zaa (zbt rfl N.MOST_BITS) zae))))) (zb3 (zay zlG (pv 0) zab (zaz _))))) (zag za1) zaq)
   (zac (zaE (zaX (zaL (zar Gis_map (hr.mono (by walk_at "m")) rfl (zaa (pv 0) (zaa (pv 1) zae))))) (zag za1) zaq)
   (zag (zbr PassesOwn.never rfl (zdo rfl T.enumerate (zaa (pv 1) zae)) (zbc rfl (zak (zaj (i:=3) sccheck_map.nd rfl (Or.inl rfl)) (zak (zaj (i:=4) sccheck_map.nd rfl (Or.inl rfl)) zaR)))
   (zag (zaE (zaX (zaL (zar Grow_fits (hr.mono (by walk_at "m")) rfl (zaa (pv 4) (zaa (pv 2) zae))))) (zag za1) zaq)))))),?rd⟩
  refine ⟨_,rfl,0,_,.int (m:Int),16,rfl,.int _,_,rfl,?_⟩
  rw [show numD 16 (.int (m:Int))=true from decide_eq_true ⟨by omega,by omega⟩]
  refine iteF ⟨_,rfl,_,_,rfl,rfl,_,rfl,?_⟩
  rw [decide_eq_false (show ¬ (m:Int)<1 by omega)]
  refine iteF (zav ?_)
  dsimp only
  refine ⟨_,rfl,_,rfl,L,_,.tup (ws.map fun z=>ziE z.2),m,rfl,zlN eL hR.e hR.r,(by show (ws.map _).length≤300;rw [List.length_map];have:=hR.ln;omega),h1,h2,fun H1 s1=>⟨_,rfl,?_⟩⟩
  rw [map_ok fun z hz=>(hR.r z hz).2]
  refine iteF (zav ?_)
  dsimp only
  refine ⟨_,rfl,R,rfl,⟨_,SqT.of (s1 _ _ hR.e)⟩,?_⟩
  refine zcC (K:=K) (a:=R) (xs:=refs ws) (fun i σ X=>∃ (v3 v4:Option V),σ=[some (.int (m:Int)),some (.ref R),some (.ref L),v3,v4]∧Same H X) ⟨_,_,rfl,s1⟩ ?_ ?_ ?_
  ·rintro i σ X _ ⟨_,_,_,sX⟩
   exact SqT.of (sX _ _ hR.e)
  ·rintro i y U σ X hy hU ⟨v3,v4,rfl,sX⟩
   obtain ⟨z,hz,rfl⟩:=zdn hy
   have hm:=List.mem_of_getElem? hz
   have sU:=sX.trans (zaf (o:=.tup [.int (i:Int),.ref z.1]) hU)
   refine zej ?_
   refine ⟨_,rfl,_,rfl,z.1,L,z.2,D,us,rfl,(hR.r z hm).1.same sU,Nat.lt_of_lt_of_le (hR.r z hm).2.i0 (Nat.pow_le_pow_right (by decide) h2),sU _ _ eL,S.same sU,hR.f z hm,fun H2 s2=>⟨_,rfl,iteF ⟨_,_,rfl,sU.trans s2⟩⟩⟩
  ·rintro σ X ⟨_,_,_,sX⟩
   exact k X sX
end
abbrev zbX:Stmt:=top 54
theorem sccheck_clash:FnScope ["rows","clash","address","first","second","words"] ["rows"] (zah zbX):=⟨rfl,rfl,rfl,by decide +kernel,rfl,by decide +kernel,by decide +kernel⟩
section
variable {P:Program} {w:World} {K:PySem.W.Frag} {mg:Str→Option Value} {base:Heap}
theorem fnd_nc {ws:List (Addr×Rw)} (h:ws.Pairwise fun a b=>NC a.2 b.2):fndL (ws.map (·.2)) (ws.map (·.2)).length=[]:=by
 unfold fndL fndR
 rw [List.flatMap_eq_nil_iff]
 intro j hj
 rw [List.flatMap_eq_nil_iff]
 intro i hi
 rw [List.mem_range] at hi hj
 rw [List.length_map] at hj
 unfold fnd1
 rw [List.getElem?_map,List.getElem?_map,List.getElem?_eq_getElem hj,List.getElem?_eq_getElem (show i<ws.length by omega)]
 show (if zdf _ _=true then _ else _)=[]
 rw [(List.pairwise_iff_getElem.mp h i j (by omega) hj hi).1]
 rfl
def zgk:Sp:=fun vs H Q _=>∃ (m:Nat) (R:Addr) (D:Dt) (ws:List (Addr×Rw)),vs=[.ref R]∧RwsFor D m H R ws∧∀ H',Same H H'→Q .non H'
theorem ze6 {f:Addr} {fd:FuncData} (F:Fun K "check_clash" "check_clash" zbX f fd) (T:Blt mg) (Gclash_of:Cal P w K mg base 4 "clash_of" ["rows"] zdG):FnOk P w K mg base CX0 5 f fd ["rows"] zgk:=by
 refine F.ok sccheck_clash (fun vs H Q E h=>?_) (fun cdv A outer s H vs Q E hr h=>?_)
 ·obtain ⟨m,R,D,ws,rfl,_⟩:=h;rfl
 ·obtain ⟨m,R,D,ws,rfl,hR,k⟩:=h
  refine ⟨_,(zac (zau (i:=1) sccheck_clash.nd rfl (Or.inl rfl) (zar Gclash_of (hr.mono (by walk_at "m")) rfl (zaa (pv 0) zae)))
   (zag (zaE (zbq (zcr (pv 1))) (zac (zbs (pv 1) (zbc rfl (zak (zaj (i:=2) sccheck_clash.nd rfl (Or.inl rfl)) (zak (zaj (i:=3) sccheck_clash.nd rfl (Or.inl rfl)) (zak (zaj (i:=4) sccheck_clash.nd rfl (Or.inl rfl)) (zak (zaj (i:=5) sccheck_clash.nd rfl (Or.inl rfl)) zaR))))))
   (zag za1)) zaq))),?rd⟩
  have hn:=fnd_nc hR.nc
  refine ⟨_,rfl,R,ws.map (·.1),ws.map (·.2),rfl,?_,by rw [List.length_map,List.length_map],by rw [List.length_map];have:=hR.ln;omega,fun j a r ha hr'=>?_,fun _ H1 s1=>?_,fun x i j r q hx=>?_⟩
  ·rw [List.map_map];exact hR.e
  ·rw [List.getElem?_map] at ha hr'
   obtain ⟨z,hz,rfl⟩:=Option.map_eq_some_iff.mp ha
   rw [hz] at hr'
   cases hr'
   exact (hR.r z (List.mem_of_getElem? hz)).1
  ·exact ⟨_,rfl,_,rfl,iteF (k H1 s1)⟩
  ·rw [hn] at hx
   cases hx
end
abbrev zbm:Stmt:=zaI (top 56) 0
theorem zc8:FnScope ["self","bits","rows","chips","floating"] ["self","bits","rows","chips","floating"] (zah zbm):=⟨rfl,rfl,rfl,by decide +kernel,rfl,by decide +kernel,by decide +kernel⟩
section
variable {P:Program} {w:World} {K:PySem.W.Frag} {mg:Str→Option Value} {base:Heap}
def lcs (ws:List (Addr×Rw)):List Nat:=ws.filterMap fun z=>z.2.l.map (·.1)
theorem zkE (ys:List Int):(dd ys).Nodup:=by
 have g:∀ (l S:List Int),S.Nodup→(l.foldl (fun S n=>if n∈S then S else S ++ [n]) S).Nodup:=by
  intro l
  induction l with
  | nil=>intro S h;exact h
  | cons a l ih =>
   intro S h
   rw [List.foldl_cons]
   refine ih _ ?_
   split
   ·exact h
   ·rename_i ha
    rw [List.nodup_append]
    exact ⟨h,by simp,fun x hx y hy=>by rw [List.mem_singleton] at hy;subst hy;exact fun z=>ha (z ▸ hx)⟩
 exact g ys [] List.nodup_nil
theorem zko {ws:List (Addr×Rw)} {j:Nat} {z:Addr×Rw} (h:ws[j]? = some z):lcs (ws.take (j+1))=lcs (ws.take j) ++ (z.2.l.map (·.1)).toList:=by
 unfold lcs
 rw [List.take_succ,h,List.filterMap_append]
 congr 1
theorem lcs_mem {ws:List (Addr×Rw)} {c:Nat}:c∈lcs ws↔∃ z∈ws,∃ a b,z.2.l=some (c,a,b):=by
 unfold lcs
 rw [List.mem_filterMap]
 constructor
 ·rintro ⟨z,hz,e⟩
  obtain ⟨o,ho,rfl⟩:=Option.map_eq_some_iff.mp e
  exact ⟨z,hz,o.2.1,o.2.2,ho⟩
 ·rintro ⟨z,hz,a,b,e⟩
  exact ⟨z,hz,by rw [e];rfl⟩
def zeM (C:Addr) (cs:Nat→Addr):Sp:=fun vs H Q _=>∃ (b db R L:Addr) (m fl:Nat) (D:Dt) (us:Nat→List Nat) (ws:List (Addr×Rw)),vs=[.ref b,.int (m:Int),.ref R,.ref L,.int (fl:Int)]∧H b=some (.ins C db [])∧1≤m∧m≤16∧fl≤255∧RwsFor D m H R ws∧H L=some (.lst (chL D))∧Chs cs D H us ∧
 ∀ (B:Bd) (H':Hp),B.b=b→B.bits=m→B.R=R→B.ws=ws→H B.L=none→H B.la=none→H B.W=none→BdAt C B D H' fl→(∀ a o,a≠b→H a=some o→H' a=some o)→Q .non H'
theorem zde {f:Addr} {C:Addr} {cs:Nat→Addr} {fd:FuncData} {dV:Value} (F:FunD K "__init__" "Board.__init__" zbm dV f fd) (T:Blt mg) (GBsorted:mg "sorted" = none) (cl:ClsBd K C) (Gcheck_map:Cal P w K mg base 6 "check_map" ["bits","rows","chips"] (zeO cs)) (Gcheck_clash:Cal P w K mg base 5 "check_clash" ["rows"] zgk) (Gcheck_word:Cal P w K mg base 3 "check_word" ["word"] zbV):FnOk P w K mg base CX0 7 f fd ["self","bits","rows","chips","floating"] (zeM C cs):=by
 refine F.ok zc8 (fun vs H Q E h=>?_) (fun cdv A outer s H vs Q E hr h=>?_)
 ·obtain ⟨b,db,R,L,m,fl,D,us,ws,rfl,_⟩:=h;rfl
 ·obtain ⟨b,db,R,L,m,fl,D,us,ws,rfl,eb,h1,h2,hf,hR,eL,S,k⟩:=h
  refine' ⟨_,(zac (zax (zar Gcheck_map (hr.mono (by walk_at "m")) rfl (zaa (pv 1) (zaa (pv 2) (zaa (pv 3) zae)))))
   (zac (zax (zar Gcheck_clash (hr.mono (by walk_at "m")) rfl (zaa (pv 2) zae)))
   (zac (zax (zar Gcheck_word (hr.mono (by walk_at "m")) rfl (zaa (pv 4) zae)))
   (zac (zcg (pv 0) (pv 1) rfl)
   (zac (zcg (pv 0) (pv 2) rfl)
   (zac (zcg (pv 0) (za8 zbx (by rfl) T.list zct (zaa (pv 3) zae)) rfl)
   (zac (zcg (pv 0) (pv 4) rfl)
   (zac (zcg (pv 0) (zao (zf0 rfl) (by rfl) GBsorted zf3 (zaa ?c1 zae)) rfl)
   (zac (zcg (pv 0) ze0 rfl)
   (zag (zcg (pv 0) zab rfl))))))))))),?rd⟩
  (case c1=>exact (zhH (Nc:=["row"]) [none] rfl (zaY (by rfl)) (ziP (pv 2)) (fun _ _ _ _ _=>(zaj (i:=0) (show (["row"]:List Str).Nodup by decide +kernel) rfl (Or.inl rfl))) (fun _ _ _ _ _=>(ziR (zbq (zcr (zal (zfc (K:=K) rfl) (pv 0) zab (fun _ _=>rfl)))))) (fun _ _ _ _ _=>(zal (zfc (K:=K) rfl) (zal (zfc (K:=K) rfl) (pv 0) zab (fun _ _=>rfl)) zab (fun _ _=>rfl)))))
  refine ⟨_,rfl,_,rfl,_,rfl,m,R,L,D,us,ws,rfl,h1,h2,hR,eL,S,fun H1 s1=>?_⟩
  refine ⟨_,rfl,m,R,D,ws,rfl,hR.same s1,fun H2 s2=>?_⟩
  have s12:=s1.trans s2
  refine ⟨_,rfl,(fl:Int),rfl,by omega,by omega,?_⟩
  refine ⟨_,rfl,_,rfl,b,C,db,_,rfl,s12 _ _ eb,cl.cls,cl.bits,by show 0<1000;decide,?_⟩
  refine ⟨_,rfl,_,rfl,b,C,db,_,rfl,zad,cl.cls,cl.rows,by show 1<1000;decide,?_⟩
  have nLb:L≠b:=fun z=>by rw [z,eb] at eL;cases eL
  refine ⟨_,rfl,L,chL D,rfl,.inl (SqL.of (by rw [zai nLb,zai nLb];exact s12 _ _ eL)),fun l hl=>?_⟩
  have nlb:l≠b:=fun z=>by rw [z,zad] at hl;cases hl
  refine ⟨_,rfl,b,C,db,_,rfl,by rw [zai (Ne.symm nlb)];exact zad,cl.cls,cl.chips,by show 2<1000;decide,?_⟩
  refine ⟨_,rfl,_,rfl,b,C,db,_,rfl,zad,cl.cls,cl.floating,by show 3<1000;decide,?_⟩
  have hl2:H2 l=none:=by rw [zai nlb,zai nlb] at hl;exact hl
  refine zg0 (fun Y=>Y b=some (.ins C db [("bits",.int (m:Int)),("rows",.ref R),("chips",.ref l),("floating",.int (fl:Int))])∧Y l=some (.lst (chL D))∧∀ a o,a≠b→H2 a=some o→Y a=some o) ⟨zad,by rw [zai nlb,zai nlb];exact zad,fun a o ha ea=>by rw [zai ha,zai ha,zai (zam ea hl2),zai ha,zai ha];exact ea⟩ ?_
  rintro Y ⟨yb,yl,fr⟩
  have nRb:R≠b:=fun z=>by have:=hR.e;rw [z,eb] at this;cases this
  have yR:=fr _ _ nRb (s12 _ _ hR.e)
  refine ⟨_,rfl,R,rfl,⟨_,SqT.of yR⟩,?_⟩
  refine zjv (K:=K) (xs:=refs ws) (fun j ys σ H1=>∃ v0,σ=[v0]∧ys=(lcs (ws.take j)).map (fun (n:Nat)=>(n:Int))∧ys.length≤j∧H1=Y) (by rw [zaM];have:=hR.ln;omega) ⟨none,rfl,rfl,Nat.le_refl _,rfl⟩ ?_ ?_ ?_
  ·rintro j ys σ H1 hj ⟨v0,rfl,_,hl',rfl⟩
   exact ⟨SqT.of yR,hl'⟩
  ·rintro j y ys σ H1 hy ⟨v0,rfl,hys,hl',rfl⟩
   obtain ⟨z,hz,rfl⟩:=zdn hy
   have hm:=List.mem_of_getElem? hz
   obtain ⟨lt,et,hlt⟩:=(hR.r z hm).1
   have yt:=fr _ _ (fun e=>by rw [e,eb] at et;cases et) (s12 _ _ et)
   rw [zko hz]
   cases hl:z.2.l with
   | none =>
    rw [hl] at hlt
    obtain rfl:lt = .non:=hlt
    exact ⟨_,rfl,z.1,_,_,_,rfl,rfl,SqT.of yt,rfl,_,rfl,iteF ⟨_,rfl,by rw [hys];simp,by omega,rfl⟩⟩
   | some o =>
    obtain ⟨c,a,b'⟩:=o
    rw [hl] at hlt
    obtain ⟨u,rfl,eu⟩:=hlt
    have yu:=fr _ _ (fun e=>by rw [e,eb] at eu;cases eu) (s12 _ _ eu)
    refine ⟨_,rfl,z.1,_,_,_,rfl,rfl,SqT.of yt,rfl,_,rfl,iteT ⟨_,rfl,z.1,_,_,_,rfl,rfl,SqT.of yt,rfl,u,_,_,_,rfl,rfl,SqT.of yu,rfl,(c:Int),rfl,_,rfl,by rw [hys];simp,by rw [List.length_append];simp;omega,rfl⟩⟩
  ·rintro ys σ H1 ⟨v0,rfl,hys,hl',rfl⟩ d hd
   rw [zaM,List.take_of_length_le (Nat.le_refl _)] at hys
   have hln:=hR.ln
   have hdl:=zle ys
   rw [zaM] at hl'
   have ndb:d≠b:=fun e=>by rw [e,yb] at hd;cases hd
   refine ⟨d,dd ys,rfl,zad,by omega,fun la ns hla pm _=>?_⟩
   have hns:∀ n∈ns,∃ c:Nat,n=(c:Int)∧c∈lcs ws:=fun n hn=>by
    have:=mem_dd.mp (pm.mem_iff.mp hn)
    rw [hys,List.mem_map] at this
    obtain ⟨c,hc,e⟩:=this
    exact ⟨c,e.symm,hc⟩
   obtain ⟨keys,hk⟩:∃ keys:List Nat,ns=keys.map fun (n:Nat)=>(n:Int):=⟨ns.map Int.toNat,by
    rw [List.map_map]
    conv=>lhs;rw [← List.map_id ns]
    refine List.map_congr_left fun n hn=>?_
    obtain ⟨c,e,_⟩:=hns n hn
    show n=((n.toNat:Nat):Int)
    omega⟩
   have knd:keys.Nodup:=by
    have h1:ns.Nodup:=pm.nodup_iff.mpr (zkE ys)
    rw [hk] at h1
    exact (List.pairwise_map.mp h1).imp fun h e=>h (by rw [e])
   have kmem:∀ c,c∈keys↔c∈lcs ws:=fun c=>by
    constructor
    ·intro hc
     obtain ⟨c',e,hc'⟩:=hns (c:Int) (by rw [hk];exact List.mem_map_of_mem hc)
     rw [show c=c' by omega];exact hc'
    ·intro hc
     have:(c:Int)∈ns:=pm.mem_iff.mpr (mem_dd.mpr (by rw [hys];exact List.mem_map_of_mem hc))
     rw [hk,List.mem_map] at this
     obtain ⟨c',hc',e⟩:=this
     rw [show c=c' by omega];exact hc'
   have nlab:la≠b:=fun e=>by rw [e,zai (Ne.symm ndb),yb] at hla;cases hla
   have nlad:la≠d:=fun e=>by rw [e,zad] at hla;cases hla
   have yla:H1 la=none:=by rw [zai nlad] at hla;exact hla
   have eV:ns.map V.int=vN keys:=by rw [hk,List.map_map];rfl
   rw [eV]
   refine ⟨_,rfl,b,C,db,_,rfl,by rw [zai (Ne.symm nlab),zai (Ne.symm ndb)];exact yb,cl.cls,cl.latches,by show 4<1000;decide,?_⟩
   refine zg0 (fun Z=>Z b=some (.ins C db [("bits",.int (m:Int)),("rows",.ref R),("chips",.ref l),("floating",.int (fl:Int)),("latches",.ref la)])∧Z la=some (.lst (vN keys))∧∀ a o,a≠b→H1 a=some o→Z a=some o) ⟨zad,by rw [zai nlab];exact zad,fun a o ha ea=>by rw [zai ha,zai (zam ea yla),zai (zam ea hd)];exact ea⟩ ?_
   rintro Z ⟨zb,zla,frZ⟩ wd hwd
   have nwb:wd≠b:=fun e=>by rw [e,zb] at hwd;cases hwd
   refine ⟨_,rfl,b,C,db,_,rfl,by rw [zai (Ne.symm nwb)];exact zb,cl.cls,cl.watches,by show 5<1000;decide,?_⟩
   refine ⟨_,rfl,b,C,db,_,rfl,zad,cl.cls,cl.next_watch,by show 6<1000;decide,?_⟩
   have frV:∀ a o,a≠b→Z a=some o→upd (upd (upd Z wd (.dK [])) b (.ins C db [("bits",.int (m:Int)),("rows",.ref R),("chips",.ref l),("floating",.int (fl:Int)),("latches",.ref la),("watches",.ref wd)])) b (.ins C db (bdF ⟨b,m,R,ws,l,la,keys,wd⟩ fl)) a=some o:=fun a o ha ea=>by rw [zai ha,zai ha,zai (zam ea hwd)];exact ea
   have frH:∀ a o,a≠b→H a=some o→upd (upd (upd Z wd (.dK [])) b (.ins C db [("bits",.int (m:Int)),("rows",.ref R),("chips",.ref l),("floating",.int (fl:Int)),("latches",.ref la),("watches",.ref wd)])) b (.ins C db (bdF ⟨b,m,R,ws,l,la,keys,wd⟩ fl)) a=some o:=fun a o ha ea=>frV a o ha (frZ a o ha (fr a o ha (s12 _ _ ea)))
   have hlaH:H la=none:=by
    cases h:H la with
    | none=>rfl
    | some o=>have:=fr la o nlab (s12 _ _ h);rw [yla] at this;cases this
   have hwdH:H wd=none:=by
    cases h:H wd with
    | none=>rfl
    | some o=>have:=frZ wd o nwb (fr wd o nwb (s12 _ _ h));rw [hwd] at this;cases this
   refine k ⟨b,m,R,ws,l,la,keys,wd⟩ _ rfl rfl rfl rfl (s12.free hl2) hlaH hwdH ⟨⟨db,zad⟩,h1,h2,⟨frH _ _ nRb hR.e,fun z hz=>?_,hR.f,hR.nc,hR.ln⟩,frV _ _ nlb (frZ _ _ nlb yl),frV _ _ nlab zla,fun z hz c a b' e=>(kmem c).mpr (lcs_mem.mpr ⟨z,hz,a,b',e⟩),fun c hc=>?_,knd,by rw [zai nwb,zai nwb];exact zad,hf,fun i hi=>⟨fun e=>?_,fun e=>?_⟩⟩ frH
   ·obtain ⟨⟨lt,et,hlt⟩,ok⟩:=hR.r z hz
    refine ⟨⟨lt,frH _ _ (fun e=>by rw [e,eb] at et;cases et) et,?_⟩,ok⟩
    cases hl:z.2.l with
    | none=>rw [hl] at hlt;exact hlt
    | some o =>
     rw [hl] at hlt
     obtain ⟨u,eu,hu⟩:=hlt
     exact ⟨u,eu,frH _ _ (fun e=>by rw [e,eb] at hu;cases hu) hu⟩
   ·obtain ⟨z,hz,a,b',e⟩:=lcs_mem.mp ((kmem c).mp hc)
    exact (hR.f z hz).2.2 c a b' e
   ·have:=s12 _ _ (S.o i hi).ls
    rw [← show l=D.p i from e,hl2] at this
    cases this
   ·have hls:=(S.o i hi).ls
    have:=fr _ _ (fun e=>by rw [e,eb] at hls;cases hls) (s12 _ _ hls)
    rw [← show la=D.p i from e,yla] at this
    cases this
end
abbrev zbC:Stmt:=zaI (top 56) 5
theorem zdQ:FnScope ["self","number"] ["self","number"] (zah zbC):=⟨rfl,rfl,rfl,by decide +kernel,rfl,by decide +kernel,by decide +kernel⟩
section
variable {P:Program} {w:World} {K:PySem.W.Frag} {mg:Str→Option Value} {base:Heap}
theorem zd7 {f:Addr} {C:Addr} {fd:FuncData} (F:Fun K "in_bits" "Board.in_bits" zbC f fd) (T:Blt mg) (cl:ClsBd K C) (Gis_number:Cal P w K mg base 1 "is_number" ["thing","last"] zbo) (Gsize_of:Cal P w K mg base 1 "size_of" ["bits"] zg4):FnOk P w K mg base CX0 2 f fd ["self","number"] (zeN C):=by
 refine F.ok zdQ (fun vs H Q E h=>?_) (fun cdv A outer s H vs Q E hr h=>?_)
 ·obtain ⟨B,D,f0,x,rfl,_⟩:=h;rfl
 ·obtain ⟨B,D,f0,x,rfl,hB,k⟩:=h
  refine ⟨_,(zag (zat (zar Gis_number (hr.mono (by walk_at "m")) rfl (zaa (pv 1) (zaa (zan zb5 (zar Gsize_of (hr.mono (by walk_at "m")) rfl (zaa (zbu (pv 0) rfl) zae)) zab) zae))))),?rd⟩
  obtain ⟨db,e⟩:=hB.e
  refine ⟨_,rfl,_,rfl,B.b,C,db,_,_,rfl,e,cl.cls,cl.bits,rfl,B.bits,rfl,hB.b2,_,_,rfl,rfl,0,_,.int (x:Int),_,rfl,.int _,?_⟩
  have e2:((2 ^ B.bits:Nat):Int)=(2:Int) ^ B.bits:=by norm_cast
  rw [show numD ((2:Int) ^ B.bits - 1) (.int (x:Int))=decide (x<2 ^ B.bits) from decide_eq_decide.mpr ⟨fun z=>by omega,fun z=>⟨by omega,by omega⟩⟩]
  exact k
end
abbrev zaW:Stmt:=zaI (top 56) 6
theorem zbY:FnScope ["self","address"] ["self","address"] (zah zaW):=⟨rfl,rfl,rfl,by decide +kernel,rfl,by decide +kernel,by decide +kernel⟩
section
variable {P:Program} {w:World} {K:PySem.W.Frag} {mg:Str→Option Value} {base:Heap}
theorem zb8 {f:Addr} {C:Addr} {fd:FuncData} (F:Fun K "check_address" "Board.check_address" zaW f fd) (T:Blt mg) (M_in_bits:Mth P w K mg base 2 C "in_bits" [] (fun vs _=>vs) (zeN C)):FnOk P w K mg base CX0 3 f fd ["self","address"] (zgl C):=by
 refine F.ok zbY (fun vs H Q E h=>?_) (fun cdv A outer s H vs Q E hr h=>?_)
 ·obtain ⟨B,D,f0,x,rfl,_⟩:=h;rfl
 ·obtain ⟨B,D,f0,x,rfl,hB,hx,k⟩:=h
  refine ⟨_,(zag (zaE (zaX (zaL (zaV 2 ⟨rfl,rfl,rfl,rfl,rfl⟩ (hr.mono (by walk_at "m")) (pv 0) (zaa (pv 1) zae)))) (zag za1) zaq)),?rd⟩
  obtain ⟨db,e⟩:=hB.e
  refine ⟨_,rfl,B.b,C,db,_,_,_,rfl,e,M_in_bits,rfl,_,rfl,B,D,f0,x,rfl,hB,_,rfl,?_⟩
  rw [decide_eq_true hx]
  exact iteF k
end
abbrev zbD:Stmt:=zaI (top 56) 7
theorem zdR:FnScope ["self","number"] ["self","number"] (zah zbD):=⟨rfl,rfl,rfl,by decide +kernel,rfl,by decide +kernel,by decide +kernel⟩
section
variable {P:Program} {w:World} {K:PySem.W.Frag} {mg:Str→Option Value} {base:Heap}
theorem zd8 {f:Addr} {C:Addr} {fd:FuncData} (F:Fun K "chip_of" "Board.chip_of" zbD f fd) (T:Blt mg) (cl:ClsBd K C):FnOk P w K mg base CX0 1 f fd ["self","number"] (zdj C):=by
 refine F.ok zdR (fun vs H Q E h=>?_) (fun cdv A outer s H vs Q E hr h=>?_)
 ·obtain ⟨B,D,f0,i,z,rfl,_⟩:=h;rfl
 ·obtain ⟨B,D,f0,i,z,rfl,hB,hz,k⟩:=h
  refine ⟨_,(zag (zat (zal zas (zbu (pv 0) rfl) (zal zap (zal zap (zbu (pv 0) rfl) (pv 1) (fun _ _=>rfl)) zab (fun _ _=>rfl)) (fun _ _=>rfl)))),?rd⟩
  obtain ⟨db,e⟩:=hB.e
  have hm:=List.mem_of_getElem? hz
  obtain ⟨lt,et,_⟩:=(hB.rf.r z hm).1
  exact ⟨_,rfl,B.b,C,db,_,_,rfl,e,cl.cls,cl.chips,rfl,_,rfl,B.b,C,db,_,_,rfl,e,cl.cls,cl.rows,rfl,_,rfl,B.R,_,_,_,rfl,rfl,SqT.of hB.rf.e,zaF (zb2 hz),z.1,_,_,_,rfl,rfl,SqT.of et,rfl,B.L,_,_,_,rfl,rfl,SqL.of hB.ch,zaF (zeG (hB.rf.f z hm).1),k⟩
end
abbrev zbN:Stmt:=zaI (top 56) 4
theorem zeo:FnScope ["self","kind","address","word","watch"] ["self","kind","address","word"] (zah zbN):=⟨rfl,rfl,rfl,by decide +kernel,rfl,by decide +kernel,by decide +kernel⟩
section
variable {P:Program} {w:World} {K:PySem.W.Frag} {mg:Str→Option Value} {base:Heap}
theorem zeq {f:Addr} {C:Addr} {fd:FuncData} (F:Fun K "finish" "Board.finish" zbN f fd) (T:Blt mg) (cl:ClsBd K C):FnOk P w K mg base CX0 1 f fd ["self","kind","address","word"] (zdh C):=by
 refine F.ok zeo (fun vs H Q E h=>?_) (fun cdv A outer s H vs Q E hr h=>?_)
 ·obtain ⟨B,D,f0,kind,x,v,rfl,_⟩:=h;rfl
 ·obtain ⟨B,D,f0,kind,x,v,rfl,hB,hv,k⟩:=h
  refine ⟨_,(zac (zcg (pv 0) (pv 3) rfl)
   (zag (zj9 PassesOwn.never rfl (zk0 PySem.F.plainAttrs_dict PySem.F.slot_dict_values PySem.F.type_dict_values zi4 (zbu (pv 0) rfl))))),?rd⟩
  obtain ⟨db,e⟩:=hB.e
  refine ⟨_,rfl,_,rfl,B.b,C,db,_,rfl,e,cl.cls,cl.floating,(by unfold bdF;simp),?_⟩
  have h1:BdAt C B D (upd H B.b (.ins C db (bdF B v))) v:=hB.fl hv
  obtain ⟨d1,e1⟩:=h1.e
  refine ⟨_,rfl,B.b,C,db,_,_,rfl,zad,cl.cls,cl.watches,rfl,.inr (.inr (.inl ⟨rfl,.inl ⟨_,h1.w0⟩⟩)),B.W,_,rfl,rfl,h1.w0,fun p hp=>⟨p,B.W,rfl,zad,?_,?_⟩⟩
  ·exact zaf hp _ _ h1.w0
  ·refine k _ (h1.same (zaf hp)) fun a o ha ea=>zaf hp _ _ ?_
   show upd H B.b _ a=some o
   rw [zai ha];exact ea
end
abbrev zcT:Stmt:=zaI (top 56) 1
theorem scBoard_who:FnScope ["self","address","words","number"] ["self","address"] (zah zcT):=⟨rfl,rfl,rfl,by decide +kernel,rfl,by decide +kernel,by decide +kernel⟩
section
variable {P:Program} {w:World} {K:PySem.W.Frag} {mg:Str→Option Value} {base:Heap}
theorem zjR {l:List Nat} {j c:Nat} (hn:l.Nodup) (h:l[j]? = some c):c ∉ l.take j:=fun hm=>by
 obtain ⟨i,hi⟩:=List.mem_iff_getElem?.mp hm
 have hj:i<j:=by
  have:=(List.getElem?_eq_some_iff.mp hi).1
  rw [List.length_take] at this
  omega
 rw [List.getElem?_take_of_lt hj] at hi
 obtain ⟨a1,e1⟩:=List.getElem?_eq_some_iff.mp hi
 obtain ⟨a2,e2⟩:=List.getElem?_eq_some_iff.mp h
 exact (List.pairwise_iff_getElem.mp hn) i j a1 a2 hj (e1.trans e2.symm)
theorem zgL {f:Addr} {C:Addr} {cs:Nat→Addr} {fd:FuncData} (F:Fun K "who" "Board.who" zcT f fd) (T:Blt mg) (cl:ClsBd K C) (Ganswering:Cal P w K mg base 2 "answering" ["rows","address","words"] zit) (Gcell_at:Cal P w K mg base 3 "cell_at" ["row","address"] zgm)
  (M_check_address:Mth P w K mg base 3 C "check_address" [] (fun vs _=>vs) (zgl C)) (MK:∀ kd,kd<4→Mth P w K mg base 5 (cs kd) "look" [] (fun vs _=>vs) (zjV cs kd)):FnOk P w K mg base CX0 6 f fd ["self","address"] (zih C cs):=by
 refine F.ok scBoard_who (fun vs H Q E h=>?_) (fun cdv A outer s H vs Q E hr h=>?_)
 ·obtain ⟨B,D,us,f0,x,rfl,_⟩:=h;rfl
 ·obtain ⟨B,D,us,f0,x,rfl,hB,S,hx,k1,k2⟩:=h
  refine ⟨_,(zac (zax (zaV 3 ⟨rfl,rfl,rfl,rfl,rfl⟩ (hr.mono (by walk_at "m")) (pv 0) (zaa (pv 1) zae)))
   (zac (zgz (i:=2) (Nc:=["chip","self"]) [none,some 0] scBoard_who.nd rfl rfl rfl (zaY (by rfl)) (zdX (zbu (pv 0) rfl)) (fun _ _ _ _ _=>(zaj (i:=0) (show (["chip","self"]:List Str).Nodup by decide +kernel) rfl (Or.inl rfl))) (fun _ _ _ _ _=>zdY) (fun _ _ _ _ _=>(pv 0)) (fun _ _ _ _ _=>(zaV 5 ⟨rfl,rfl,rfl,rfl,rfl⟩ (hr.mono (by walk_at "m")) (zal (zho (K:=K) rfl) (zlD (K:=K) rfl (pv 1) rfl) (pv 0) (fun _ _=>rfl)) (zaa zab zae))))
   (zac (zau (i:=3) scBoard_who.nd rfl (Or.inl rfl) (zar Ganswering (hr.mono (by walk_at "m")) rfl (zaa (zbu (pv 0) rfl) (zaa (pv 1) (zaa (pv 2) zae)))))
   (zac (zaE (zbq (zch (pv 3))) (zag (zat zdZ)) zaq)
   (zag (zat (zb4 (zaa (pv 3) (zaa (zar Gcell_at (hr.mono (by walk_at "m")) rfl (zaa (zal zap (zbu (pv 0) rfl) (pv 3) (fun _ _=>rfl)) (zaa (pv 1) zae))) zae))))))))),?rd⟩
  obtain ⟨db,e⟩:=hB.e
  have hln:B.keys.length≤1000:=by
   have:=zhj D.m B.keys hB.kn fun a ha=>(hB.ks a ha).1
   have:=S.m1
   omega
  refine ⟨_,rfl,B.b,C,db,_,_,_,rfl,e,M_check_address,rfl,_,rfl,B,D,f0,x,rfl,hB,hx,?_⟩
  refine ⟨_,rfl,B.b,C,db,_,_,rfl,e,cl.cls,cl.latches,rfl,B.la,rfl,⟨_,SqL.of hB.la⟩,?_⟩
  refine zh1 (K:=K) (xs:=vN B.keys) (fun j ys σ H1=>∃ v0,σ=[v0,some (.ref B.b)]∧ys.length=j∧dk ys=dV (B.keys.take j) (hld us)∧H1=H) (by rw [zaw];exact hln) ⟨none,rfl,rfl,rfl,rfl⟩ ?_ ?_ ?_
  ·rintro j ys σ H1 hj ⟨v0,rfl,hl,_,rfl⟩
   exact ⟨SqL.of hB.la,by omega⟩
  ·rintro j y ys σ H1 hy ⟨v0,rfl,hl,hd,rfl⟩
   obtain ⟨c,hc,rfl⟩:=zfp hy
   have hcm:=hB.ks c (List.mem_of_getElem? hc)
   obtain ⟨dx,ex⟩:=(S.o c hcm.1).ex
   have kk:=S.k c hcm.1
   have h1:=S.h1 c hcm.1 (.inl hcm.2)
   rw [hcm.2] at ex
   have oc:=S.o c hcm.1
   rw [hcm.2] at oc kk
   have hv:klk 2 (us c) 0=hld us c:=rfl
   refine ⟨_,rfl,Sum.inl (c:Int),rfl,_,rfl,B.b,C,db,_,_,rfl,e,cl.cls,cl.chips,rfl,_,rfl,B.L,_,_,_,rfl,rfl,SqL.of hB.ch,zaF (zeG hcm.1),D.x c,cs 2,dx,_,_,_,rfl,ex,MK 2 (by decide),lkn _,D.x c,D.p c,D.n c,0,us c,rfl,oc,kk,(by show 0<(us c).length;omega),?_⟩
   refine ⟨_,rfl,by rw [List.length_append,hl];rfl,?_,rfl⟩
   rw [zjm,hd,hv]
   rw [dV_new (zjR hB.kn hc),List.take_succ,hc]
   unfold dV
   congr 1
   funext z
   show V.int ((if z=c then hld us c else hld us z:Nat):Int)=V.int (hld us z:Int)
   by_cases ez:z=c
   ·rw [if_pos ez,ez]
   ·rw [if_neg ez]
  ·rintro ys σ H1 ⟨v0,rfl,hl,hd,rfl⟩ d hdn
   rw [zaw,List.take_of_length_le (Nat.le_refl _)] at hd
   rw [hd]
   have s1:=zaf (H:=H1) (o:=HO.dK (dV B.keys (hld us))) hdn
   refine ⟨_,rfl,B.b,C,db,_,_,rfl,s1 _ _ e,cl.cls,cl.rows,rfl,_,rfl,_,rfl,B.R,d,x,B.ws,B.keys,hld us,rfl,s1 _ _ hB.rf.e,(fun z hz=>(hB.rf.r z hz).1.same s1),zad,fun H2 s2=>?_⟩
   have s12:=s1.trans s2
   cases hw:whoI B us x with
   | none =>
    have ef:fstA (B.ws.map (·.2)) x (wrd B.keys (hld us)) = .non:=by unfold fstA;rw [show List.findIdx? (fun r=>ans r x (wrd B.keys (hld us))) (B.ws.map (·.2))=none from hw]
    rw [ef]
    exact ⟨_,rfl,_,rfl,iteT (k1 hw H2 s12)⟩
   | some i =>
    have ef:fstA (B.ws.map (·.2)) x (wrd B.keys (hld us)) = .int (i:Int):=by unfold fstA;rw [show List.findIdx? (fun r=>ans r x (wrd B.keys (hld us))) (B.ws.map (·.2))=some i from hw]
    rw [ef]
    obtain ⟨q,hq⟩:∃ q,(B.ws.map (·.2))[i]? = some q:=by
     obtain ⟨hi,_⟩:=List.findIdx?_eq_some_iff_getElem.mp hw
     exact ⟨_,List.getElem?_eq_getElem hi⟩
    rw [List.getElem?_map] at hq
    obtain ⟨z,hz,_⟩:=Option.map_eq_some_iff.mp hq
    have hzm:=hB.rf.r z (List.mem_of_getElem? hz)
    have hzi:z.2.i<2 ^ 64:=Nat.lt_of_lt_of_le hzm.2.i0 (Nat.pow_le_pow_right (by decide) (by have:=hB.b2;omega))
    refine ⟨_,rfl,_,rfl,iteF (zav ?_)⟩
    dsimp only
    refine ⟨_,rfl,_,rfl,B.b,C,db,_,_,rfl,s12 _ _ e,cl.cls,cl.rows,rfl,_,rfl,B.R,_,_,_,rfl,rfl,SqT.of (s12 _ _ hB.rf.e),zaF (zb2 hz),_,rfl,z.1,z.2,x,rfl,hzm.1.same s12,hzi,fun H3 s3=>⟨by rw [sizeLine_eq];simp,fun t ht=>?_⟩⟩
    have s13:=s12.trans s3
    exact k2 i z hw hz t _ (s13.free ht) zad (s13.trans (zaf ht))
end
abbrev zcq:Stmt:=zaI (top 56) 2
theorem scBoard_read:FnScope ["self","address","quiet","found","word","number","cell","chip"] ["self","address","quiet"] (zah zcq):=⟨rfl,rfl,rfl,by decide +kernel,rfl,by decide +kernel,by decide +kernel⟩
section
variable {P:Program} {w:World} {K:PySem.W.Frag} {mg:Str→Option Value} {base:Heap}
def rdW (B:Bd) (D:Dt) (us:Nat→List Nat) (f x:Nat):Nat:=match whoI B us x with
 | none=>f
 | some i=>match B.ws[i]? with
  | none=>f
  | some z=>klk (D.kd z.2.c) (us z.2.c) (gath z.2.i x)
def rdU (B:Bd) (D:Dt) (us:Nat→List Nat) (x:Nat):Nat→List Nat:=match whoI B us x with
 | none=>us
 | some i=>match B.ws[i]? with
  | none=>us
  | some z=>wset us z.2.c (krd (D.kd z.2.c) (us z.2.c) (gath z.2.i x))
def wrU (B:Bd) (D:Dt) (us:Nat→List Nat) (x v:Nat):Nat→List Nat:=match whoI B us x with
 | none=>us
 | some i=>match B.ws[i]? with
  | none=>us
  | some z=>wset us z.2.c (kwr (D.kd z.2.c) (D.n z.2.c) (us z.2.c) (gath z.2.i x) v)
def FrB (b:Addr) (D:Dt) (Y Z:Hp):Prop:=∀ a o,a≠b→(∀ i,i<D.m→a≠D.p i)→Y a=some o→Z a=some o
theorem FrB.trans {b:Addr} {D:Dt} {X Y Z:Hp} (h:FrB b D X Y) (k:FrB b D Y Z):FrB b D X Z:=fun a o h1 h2 e=>k a o h1 h2 (h a o h1 h2 e)
theorem FrB.of {b:Addr} {D:Dt} {X Y:Hp} (h:Same X Y):FrB b D X Y:=fun a o _ _ e=>h a o e
theorem BdAt.put {C:Addr} {B:Bd} {D:Dt} {Y Z:Hp} {f i:Nat} {l:List V} (h:BdAt C B D Y f) (hi:i<D.m) (hp:Y (D.p i)=some (.lst l)) (k:∀ b,b≠D.p i→Z b=Y b):BdAt C B D Z f:=by
 obtain ⟨db,e⟩:=h.e
 have ne:∀ {a:Addr} {o:HO},Y a=some o→(∀ x,o≠.lst x)→Z a=some o:=fun {a o} ea ho=>by
  rw [k a (fun z=>by rw [z,hp] at ea;exact ho _ (Option.some.inj ea).symm)];exact ea
 refine ⟨⟨db,ne e (by intros;exact (fun z=>by cases z))⟩,h.b1,h.b2,⟨ne h.rf.e (by intros;exact (fun z=>by cases z)),(fun z hz=>?_),h.rf.f,h.rf.nc,h.rf.ln⟩,(by rw [k _ (h.nl i hi).1];exact h.ch),(by rw [k _ (h.nl i hi).2];exact h.la),h.kl,h.ks,h.kn,ne h.w0 (by intros;exact (fun z=>by cases z)),h.f0,h.nl⟩
 obtain ⟨⟨lt,et,hlt⟩,ok⟩:=h.rf.r z hz
 refine ⟨⟨lt,ne et (by intros;exact (fun z=>by cases z)),?_⟩,ok⟩
 cases hl:z.2.l with
 | none=>rw [hl] at hlt;exact hlt
 | some o =>
  rw [hl] at hlt
  obtain ⟨u,eu,hu⟩:=hlt
  exact ⟨u,eu,ne hu (by intros;exact (fun z=>by cases z))⟩
theorem Chs.bd {cs:Nat→Addr} {C b:Addr} {B:Bd} {D:Dt} {Y Z:Hp} {f:Nat} {us:Nat→List Nat} (S:Chs cs D Y us) (h:BdAt C B D Y f) (hn:∀ i,i<D.m→D.x i≠B.b) (k:∀ a o,a≠B.b→Y a=some o→Z a=some o):Chs cs D Z us:=by
 refine ⟨fun i hi=>?_,S.k,S.h1,S.z,S.inj,S.m1⟩
 obtain ⟨dx,ex⟩:=(S.o i hi).ex
 obtain ⟨db,e⟩:=h.e
 exact ⟨⟨dx,k _ _ (hn i hi) ex⟩,k _ _ (fun z=>by have:=(S.o i hi).ls;rw [z,e] at this;cases this) (S.o i hi).ls⟩
theorem zfl {cs:Nat→Addr} {C:Addr} {B:Bd} {D:Dt} {Y:Hp} {f:Nat} {us:Nat→List Nat} (S:Chs cs D Y us) (h:BdAt C B D Y f):∀ i,i<D.m→D.x i≠B.b:=fun i hi z=>by
 obtain ⟨dx,ex⟩:=(S.o i hi).ex
 obtain ⟨db,e⟩:=h.e
 rw [z,e] at ex
 have:=Option.some.inj ex
 injection this with _ _ h3
 unfold bdF at h3
 have h4:=(List.cons.inj h3).1
 exact absurd (congrArg Prod.fst h4) (by show ("bits" : Str) ≠ "head"; decide)
theorem klk_le {kd n c:Nat} {ws:List Nat} (k:Kd kd n ws) (hl:ws.length≤255∨kd≠4):klk kd ws c≤255:=by
 unfold klk
 have hw:∀ v,v∈ws→v≤255:=k.w5
 split
 ·rename_i e4
  split
  ·have:=(k.pi e4).1;have:=k.n2;omega
  ·cases ws with
   | nil=>exact Nat.zero_le _
   | cons a l=>exact hw a List.mem_cons_self
 ·rw [List.getD_eq_getElem?_getD]
  cases h:ws[c]? with
  | none=>exact Nat.zero_le _
  | some v=>exact hw v (List.mem_of_getElem? h)
def zhC (C:Addr) (cs:Nat→Addr):Sp:=fun vs H Q _=>∃ (B:Bd) (D:Dt) (us:Nat→List Nat) (f x:Nat) (q:Bool),vs=[.ref B.b,.int (x:Int),.bl q]∧BdAt C B D H f∧Chs cs D H us∧x<2 ^ B.bits ∧
 (q=true→∀ H',Same H H'→Q (.int (rdW B D us f x:Int)) H') ∧
 (q=false→∀ H',BdAt C B D H' (rdW B D us f x)→Chs cs D H' (rdU B D us x)→FrB B.b D H H'→Q (.int (rdW B D us f x:Int)) H')
theorem zfH {f:Addr} {C:Addr} {cs:Nat→Addr} {fd:FuncData} {dV:Value} (F:FunD K "read" "Board.read" zcq dV f fd) (T:Blt mg) (N:Nums mg) (cl:ClsBd K C)
  (M_who:Mth P w K mg base 6 C "who" [] (fun vs _=>vs) (zih C cs)) (M_chip_of:Mth P w K mg base 1 C "chip_of" [] (fun vs _=>vs) (zdj C)) (M_finish:Mth P w K mg base 1 C "finish" [] (fun vs _=>vs) (zdh C)) (MK:∀ kd,kd<4→Mth P w K mg base 5 (cs kd) "look" [] (fun vs _=>vs) (zjV cs kd)) (MR:∀ kd,kd<4→Mth P w K mg base 5 (cs kd) "read" [] (fun vs _=>vs) (zjT cs kd)):FnOk P w K mg base CX0 7 f fd ["self","address","quiet"] (zhC C cs):=by
 refine F.ok scBoard_read (fun vs H Q E h=>?_) (fun cdv A outer s H vs Q E hr h=>?_)
 ·obtain ⟨B,D,us,f0,x,q,rfl,_⟩:=h;rfl
 ·obtain ⟨B,D,us,f0,x,q,rfl,hB,S,hx,k1,k2⟩:=h
  refine ⟨_,(zac (zau (i:=3) scBoard_read.nd rfl (Or.inl rfl) (zaV 6 ⟨rfl,rfl,rfl,rfl,rfl⟩ (hr.mono (by walk_at "m")) (pv 0) (zaa (pv 1) zae)))
   (zac (zau (i:=4) scBoard_read.nd rfl (Or.inl rfl) (zbu (pv 0) rfl))
   (zac (zaE (zbq (zcr (pv 3))) (zac (zbs (pv 3) (zbc rfl (zak (zaj (i:=5) scBoard_read.nd rfl (Or.inl rfl)) (zak (zaj (i:=6) scBoard_read.nd rfl (Or.inl rfl)) zaR))))
   (zac (zau (i:=7) scBoard_read.nd rfl (Or.inl rfl) (zaV 1 ⟨rfl,rfl,rfl,rfl,rfl⟩ (hr.mono (by walk_at "m")) (pv 0) (zaa (pv 5) zae)))
   (zag (zau (i:=4) scBoard_read.nd rfl (Or.inl rfl) (zkc (zaL (pv 2)) (zaV 5 ⟨rfl,rfl,rfl,rfl,rfl⟩ (hr.mono (by walk_at "m")) (pv 7) (zaa (pv 6) zae)) (zaV 5 ⟨rfl,rfl,rfl,rfl,rfl⟩ (hr.mono (by walk_at "m")) (pv 7) (zaa (pv 6) zae))))))) zaq)
   (zac (zaE (zaX (zaL (pv 2))) (zag (zax (zaV 1 ⟨rfl,rfl,rfl,rfl,rfl⟩ (hr.mono (by walk_at "m")) (pv 0) (zaa (zhe rfl N.READ) (zaa (pv 1) (zaa (pv 4) zae)))))) zaq)
   (zag (zat (pv 4))))))),?rd⟩
  obtain ⟨db,e⟩:=hB.e
  refine ⟨_,rfl,B.b,C,db,_,_,_,rfl,e,M_who,rfl,_,rfl,B,D,us,f0,x,rfl,hB,S,hx,fun hw H1 s1=>?_,fun i z hw hz t H1 ht et s1=>?_⟩
  ·have hB1:=hB.same s1
   have S1:=S.same s1
   obtain ⟨d1,e1⟩:=hB1.e
   have ev:rdW B D us f0 x=f0:=by unfold rdW;rw [hw]
   have eu:rdU B D us x=us:=by unfold rdU;rw [hw]
   rw [ev] at k1 k2
   rw [eu] at k2
   refine ⟨_,rfl,B.b,C,d1,_,_,rfl,e1,cl.cls,cl.floating,rfl,?_⟩
   refine ⟨_,rfl,_,rfl,iteF (zav ?_)⟩
   dsimp only
   cases q with
   | true=>exact ⟨_,rfl,_,rfl,iteF (zav ⟨_,rfl,k1 rfl H1 s1⟩)⟩
   | false =>
    refine ⟨_,rfl,_,rfl,iteT ⟨_,rfl,B.b,C,d1,_,_,_,rfl,e1,M_finish,rfl,_,rfl,_,rfl,?_⟩⟩
    refine ⟨B,D,f0,"read",x,f0,rfl,hB1,hB.f0,fun H2 hB2 k'=>?_⟩
    exact ⟨_,rfl,k2 rfl H2 hB2 (S1.bd (b:=C) hB1 (zfl S1 hB1) k') ((FrB.of s1).trans fun a o h1 _ ea=>k' a o h1 ea)⟩
  ·have hB1:=hB.same s1
   have S1:=S.same s1
   obtain ⟨d1,e1⟩:=hB1.e
   have hm:=List.mem_of_getElem? hz
   obtain ⟨f1,f2,f3⟩:=hB.rf.f z hm
   have oc:=S1.o _ f1
   have kc:=S1.k _ f1
   have hcell:gath z.2.i x<zaQ (D.kd z.2.c) (us z.2.c):=by rw [S.z _ f1];exact Nat.lt_of_lt_of_le (zgY _ _) f2
   have ev:rdW B D us f0 x=klk (D.kd z.2.c) (us z.2.c) (gath z.2.i x):=by unfold rdW;rw [hw];dsimp only;rw [hz]
   have eu:rdU B D us x=wset us z.2.c (krd (D.kd z.2.c) (us z.2.c) (gath z.2.i x)):=by unfold rdU;rw [hw];dsimp only;rw [hz]
   rw [ev] at k1 k2
   rw [eu] at k2
   have hv:=klk_le (c:=gath z.2.i x) kc (if e4:D.kd z.2.c=4 then .inl (by have:=(kc.pi e4).1;have:=kc.n2;omega) else .inr e4)
   obtain ⟨dx,ex⟩:=oc.ex
   refine ⟨_,rfl,B.b,C,d1,_,_,rfl,e1,cl.cls,cl.floating,rfl,?_⟩
   refine ⟨_,rfl,_,rfl,iteT ?_⟩
   refine ⟨_,rfl,zk9 et ?_⟩
   refine ⟨_,rfl,B.b,C,d1,_,_,_,rfl,e1,M_chip_of,rfl,_,rfl,B,D,f0,i,z,rfl,hB1,hz,?_⟩
   cases q with
   | true =>
    refine ⟨_,rfl,_,rfl,iteT ⟨_,rfl,D.x z.2.c,cs (D.kd z.2.c),dx,_,_,_,rfl,ex,MK _ kc.k5,lkn _,_,rfl,_,_,_,_,_,rfl,oc,kc,hcell,?_⟩⟩
    exact ⟨_,rfl,_,rfl,iteF (zav ⟨_,rfl,k1 rfl H1 s1⟩)⟩
   | false =>
    refine ⟨_,rfl,_,rfl,iteF ⟨_,rfl,D.x z.2.c,cs (D.kd z.2.c),dx,_,_,_,rfl,ex,MR _ kc.k5,lkn _,_,rfl,_,_,_,_,_,rfl,oc,kc,hcell,fun H2 e2 kp=>?_⟩⟩
    have hB2:=hB1.put f1 oc.ls kp
    have S2:=S1.put f1 kc.rd (kz_rd _ _ kc) e2 kp
    obtain ⟨d2,e2b⟩:=hB2.e
    refine ⟨_,rfl,_,rfl,iteT ⟨_,rfl,B.b,C,d2,_,_,_,rfl,e2b,M_finish,rfl,_,rfl,_,rfl,?_⟩⟩
    refine ⟨B,D,f0,"read",x,_,rfl,hB2,hv,fun H3 hB3 k'=>?_⟩
    exact ⟨_,rfl,k2 rfl H3 hB3 (S2.bd (b:=C) hB2 (zfl S2 hB2) k') ((FrB.of s1).trans (FrB.trans (fun a o h1 h2 ea=>by rw [kp a (h2 _ f1)];exact ea) fun a o h1 _ ea=>k' a o h1 ea))⟩
end
abbrev zb1:Stmt:=zaI (top 56) 3
theorem scBoard_write:FnScope ["self","address","word","found","number","cell"] ["self","address","word"] (zah zb1):=⟨rfl,rfl,rfl,by decide +kernel,rfl,by decide +kernel,by decide +kernel⟩
section
variable {P:Program} {w:World} {K:PySem.W.Frag} {mg:Str→Option Value} {base:Heap}
def zls (C:Addr) (cs:Nat→Addr):Sp:=fun vs H Q _=>∃ (B:Bd) (D:Dt) (us:Nat→List Nat) (f x v:Nat),vs=[.ref B.b,.int (x:Int),.int (v:Int)]∧BdAt C B D H f∧Chs cs D H us∧x<2 ^ B.bits∧v≤255 ∧
 ∀ H',BdAt C B D H' v→Chs cs D H' (wrU B D us x v)→FrB B.b D H H'→Q .non H'
theorem ze9 {f:Addr} {C:Addr} {cs:Nat→Addr} {fd:FuncData} (F:Fun K "write" "Board.write" zb1 f fd) (T:Blt mg) (N:Nums mg) (Gcheck_word:Cal P w K mg base 3 "check_word" ["word"] zbV)
  (M_who:Mth P w K mg base 6 C "who" [] (fun vs _=>vs) (zih C cs)) (M_chip_of:Mth P w K mg base 1 C "chip_of" [] (fun vs _=>vs) (zdj C)) (M_finish:Mth P w K mg base 1 C "finish" [] (fun vs _=>vs) (zdh C)) (MW:∀ kd,kd<4→Mth P w K mg base 5 (cs kd) "write" [] (fun vs _=>vs) (zjS cs kd)):FnOk P w K mg base CX0 7 f fd ["self","address","word"] (zls C cs):=by
 refine F.ok scBoard_write (fun vs H Q E h=>?_) (fun cdv A outer s H vs Q E hr h=>?_)
 ·obtain ⟨B,D,us,f0,x,v,rfl,_⟩:=h;rfl
 ·obtain ⟨B,D,us,f0,x,v,rfl,hB,S,hx,hv,k⟩:=h
  refine ⟨_,(zac (zau (i:=3) scBoard_write.nd rfl (Or.inl rfl) (zaV 6 ⟨rfl,rfl,rfl,rfl,rfl⟩ (hr.mono (by walk_at "m")) (pv 0) (zaa (pv 1) zae)))
   (zac (zax (zar Gcheck_word (hr.mono (by walk_at "m")) rfl (zaa (pv 2) zae)))
   (zac (zaE (zbq (zcr (pv 3))) (zac (zbs (pv 3) (zbc rfl (zak (zaj (i:=4) scBoard_write.nd rfl (Or.inl rfl)) (zak (zaj (i:=5) scBoard_write.nd rfl (Or.inl rfl)) zaR))))
   (zag (zax (zaV 5 ⟨rfl,rfl,rfl,rfl,rfl⟩ (hr.mono (by walk_at "m")) (zaV 1 ⟨rfl,rfl,rfl,rfl,rfl⟩ (hr.mono (by walk_at "m")) (pv 0) (zaa (pv 4) zae)) (zaa (pv 5) (zaa (pv 2) zae)))))) zaq)
   (zag (zax (zaV 1 ⟨rfl,rfl,rfl,rfl,rfl⟩ (hr.mono (by walk_at "m")) (pv 0) (zaa (zhe rfl N.WRITE) (zaa (pv 1) (zaa (pv 2) zae))))))))),?rd⟩
  obtain ⟨db,e⟩:=hB.e
  refine ⟨_,rfl,B.b,C,db,_,_,_,rfl,e,M_who,rfl,_,rfl,B,D,us,f0,x,rfl,hB,S,hx,fun hw H1 s1=>?_,fun i z hw hz t H1 ht et s1=>?_⟩
  ·have hB1:=hB.same s1
   have S1:=S.same s1
   obtain ⟨d1,e1⟩:=hB1.e
   have eu:wrU B D us x v=us:=by unfold wrU;rw [hw]
   rw [eu] at k
   refine ⟨_,rfl,(v:Int),rfl,by omega,by omega,?_⟩
   refine ⟨_,rfl,_,rfl,iteF (zav ?_)⟩
   dsimp only
   refine ⟨_,rfl,B.b,C,d1,_,_,_,rfl,e1,M_finish,rfl,_,rfl,_,rfl,?_⟩
   refine ⟨B,D,f0,"write",x,v,rfl,hB1,hv,fun H2 hB2 k'=>?_⟩
   exact k H2 hB2 (S1.bd (b:=C) hB1 (zfl S1 hB1) k') ((FrB.of s1).trans fun a o h1 _ ea=>k' a o h1 ea)
  ·have hB1:=hB.same s1
   have S1:=S.same s1
   obtain ⟨d1,e1⟩:=hB1.e
   have hm:=List.mem_of_getElem? hz
   obtain ⟨f1,f2,f3⟩:=hB.rf.f z hm
   have oc:=S1.o _ f1
   have kc:=S1.k _ f1
   have hcell:gath z.2.i x<zaQ (D.kd z.2.c) (us z.2.c):=by rw [S.z _ f1];exact Nat.lt_of_lt_of_le (zgY _ _) f2
   have eu:wrU B D us x v=wset us z.2.c (kwr (D.kd z.2.c) (D.n z.2.c) (us z.2.c) (gath z.2.i x) v):=by unfold wrU;rw [hw];dsimp only;rw [hz]
   rw [eu] at k
   obtain ⟨dx,ex⟩:=oc.ex
   refine ⟨_,rfl,(v:Int),rfl,by omega,by omega,?_⟩
   refine ⟨_,rfl,_,rfl,iteT ?_⟩
   refine ⟨_,rfl,zk9 et ?_⟩
   refine ⟨_,rfl,B.b,C,d1,_,_,_,rfl,e1,M_chip_of,rfl,_,rfl,B,D,f0,i,z,rfl,hB1,hz,?_⟩
   refine ⟨D.x z.2.c,cs (D.kd z.2.c),dx,_,_,_,rfl,ex,MW _ kc.k5,lkn _,_,rfl,_,rfl,_,_,_,_,_,_,rfl,oc,kc,hcell,hv,fun H2 e2 kp=>?_⟩
   have hB2:=hB1.put f1 oc.ls kp
   have S2:=S1.put f1 (kc.wr hv) (kz_wr _ _ _) e2 kp
   obtain ⟨d2,e2b⟩:=hB2.e
   refine ⟨_,rfl,B.b,C,d2,_,_,_,rfl,e2b,M_finish,rfl,_,rfl,_,rfl,?_⟩
   refine ⟨B,D,f0,"write",x,v,rfl,hB2,hv,fun H3 hB3 k'=>?_⟩
   exact k H3 hB3 (S2.bd (b:=C) hB2 (zfl S2 hB2) k') ((FrB.of s1).trans (FrB.trans (fun a o h1 h2 ea=>by rw [kp a (h2 _ f1)];exact ea) fun a o h1 _ ea=>k' a o h1 ea))
end
abbrev zcm:Stmt:=top 58
theorem sc_law_draws:FnScope ["cell","count","row","rest","base","more","k","stir"] ["cell","count"] (zah zcm):=⟨rfl,rfl,rfl,by decide +kernel,rfl,by decide +kernel,by decide +kernel⟩
section
variable {P:Program} {w:World} {K:PySem.W.Frag} {mg:Str→Option Value} {base:Heap}
def zgi:Sp:=fun vs H Q _=>∃ (c:Int) (n:Nat),vs=[.int c,.int (n:Int)]∧n≤200∧∀ (p:Addr) (H':Hp) (row:List Nat),H p=none→H' p=some (.lst (vN row))→row.length=n→(∀ v∈row,v<2 ^ 31)→Same H H'→Q (.ref p) H'
theorem zfF {f:Addr} {fd:FuncData} (F:Fun K "_law_draws" "_law_draws" zcm f fd) (T:Blt mg):FnOk P w K mg base CX0 1 f fd ["cell","count"] zgi:=by
 refine F.ok sc_law_draws (fun vs H Q E h=>?_) (fun cdv A outer s H vs Q E hr h=>?_)
 ·obtain ⟨c,n,rfl,_⟩:=h;rfl
 ·obtain ⟨c,n,rfl,hn,k⟩:=h
  refine ⟨_,(zac (zau (i:=2) sc_law_draws.nd rfl (Or.inl rfl) (zaO zae))
   (zac (zau (i:=3) sc_law_draws.nd rfl (Or.inl rfl) (zan zb5 (pv 0) (zan zhh zab zab)))
   (zac (zau (i:=4) sc_law_draws.nd rfl (Or.inl rfl) (zan zbd (zan zaC (pv 0) zab) zab))
   (zac (zau (i:=5) sc_law_draws.nd rfl (Or.inl rfl) (zan zaC (pv 0) zab))
   (zac (zbr PassesOwn.never rfl (za2 rfl T.range (zaa (pv 1) zae)) (zaj (i:=6) sc_law_draws.nd rfl (Or.inl rfl))
   (zac (zau (i:=7) sc_law_draws.nd rfl (Or.inl rfl) (zan zaC (zan ze1 (pv 4) (zan zbd (zan ze1 zab (pv 6)) zab)) zab))
   (zac (zau (i:=7) sc_law_draws.nd rfl (Or.inl rfl) (zan zaC (zan zbd (zan zhh (pv 7) zab) (zan zhh (zan zbd (pv 6) zab) zab)) zab))
   (zac (zau (i:=7) sc_law_draws.nd rfl (Or.inl rfl) (zan zdq (zan zaC (zan zhh (zan zbd (pv 7) (pv 5)) zab) zab) zab))
   (zac (zaE (zay zfz (pv 3) zab (zaz _)) (zac (zau (i:=7) sc_law_draws.nd rfl (Or.inl rfl) (zan zaC (pv 3) zab))
   (zag (zau (i:=3) sc_law_draws.nd rfl (Or.inl rfl) (zan zdq (pv 3) zab)))) zaq)
   (zag (zax (zc9 PySem.F.plainAttrs_list PySem.F.slot_list_append PySem.F.type_list_append zaT (pv 2) (zaa (pv 7) zae)))))))))
   (zag (zat (pv 2)))))))),?rd⟩
  refine ⟨by show 0≤sizeLine;decide,fun l hl=>?_⟩
  refine ⟨_,rfl,_,_,rfl,rfl,⟨by decide,by decide,by decide⟩,_,_,rfl,rfl,?_⟩
  refine ⟨_,rfl,_,_,rfl,rfl,(show (0:Int)<1000000007 by decide),_,_,rfl,rfl,?_⟩
  refine ⟨_,rfl,_,_,rfl,rfl,(show (0:Int)<999983 by decide),?_⟩
  refine ⟨_,rfl,_,rfl,by omega,by omega,?_⟩
  have b0:=Int.emod_nonneg c (show (1000000007:Int)≠0 by decide)
  have b1:=Int.emod_lt_of_pos c (show (0:Int)<1000000007 by decide)
  have m0:=Int.emod_nonneg c (show (999983:Int)≠0 by decide)
  have m1:=Int.emod_lt_of_pos c (show (0:Int)<999983 by decide)
  rw [Int.toNat_natCast]
  refine zca (n:=n) (fun i σ X=>∃ (v6 v7:Option V) (rest:Int) (row:List Nat),σ=[some (.int c),some (.int (n:Int)),some (.ref l),some (.int rest),some (.int (c % 1000000007+1)),some (.int (c % 999983)),v6,v7]∧X l=some (.lst (vN row))∧row.length=i∧(∀ v∈row,v<2 ^ 31)∧Same H X) ⟨none,none,_,[],rfl,zad,rfl,(fun v hv=>by cases hv),zaf hl⟩ ?_ ?_
  ·rintro i σ X hi ⟨v6,v7,rest,row,rfl,eX,hlen,hrow,sX⟩
   refine ⟨_,rfl,_,rfl,_,_,rfl,rfl,zhm (by decide) (by omega),_,_,rfl,rfl,_,_,rfl,rfl,zhm (by omega) (by omega),_,_,rfl,rfl,(show (0:Int)<2147483647 by decide),?_⟩
   generalize hs1:(c % 1000000007+1) * (2 * (0+(i:Int))+3) % 2147483647=st1
   have s10:0≤st1:=by rw [← hs1];exact Int.emod_nonneg _ (by decide)
   have s11:st1<2147483647:=by rw [← hs1];exact Int.emod_lt_of_pos _ (by decide)
   show za5 7 (V.int ((c % 1000000007+1) * (2 * (0+(i:Int))+3) % 2147483647)) _ _ _
   rw [hs1]
   refine ⟨_,rfl,_,_,rfl,rfl,⟨by decide,by decide,by omega⟩,_,rfl,_,_,rfl,rfl,_,_,rfl,rfl,⟨by decide,by decide,by omega⟩,_,_,rfl,rfl,_,_,rfl,rfl,(show (0:Int)<2147483629 by decide),?_⟩
   show za5 7 (V.int ((st1 ^ (5:Int).toNat+(0+(i:Int)+1) ^ (3:Int).toNat) % 2147483629)) _ _ _
   generalize hs2:(st1 ^ (5:Int).toNat+(0+(i:Int)+1) ^ (3:Int).toNat) % 2147483629=st2
   have s20:0≤st2:=by rw [← hs2];exact Int.emod_nonneg _ (by decide)
   have s21:st2<2147483629:=by rw [← hs2];exact Int.emod_lt_of_pos _ (by decide)
   refine ⟨_,rfl,_,rfl,_,_,rfl,rfl,_,_,rfl,rfl,⟨by decide,by decide,by omega⟩,_,_,rfl,rfl,(show (0:Int)<2147483587 by decide),_,_,rfl,rfl,(show (0:Int)<16∧(16:Int).natAbs.log2<9000 by decide),?_⟩
   show za5 7 (V.int ((st2+c % 999983) ^ (3:Int).toNat % 2147483587 / 16)) _ _ _
   generalize hs3:(st2+c % 999983) ^ (3:Int).toNat % 2147483587=st3
   have s30:0≤st3:=by rw [← hs3];exact Int.emod_nonneg _ (by decide)
   have s31:st3<2147483587:=by rw [← hs3];exact Int.emod_lt_of_pos _ (by decide)
   have app:∀ v:Int,0≤v→v<2147483587→∃ row':List Nat,upd X l (.lst (vN row ++ [V.int v])) l=some (.lst (vN row'))∧row'.length=i+1∧(∀ u∈row',u<2 ^ 31)∧Same H (upd X l (.lst (vN row ++ [V.int v]))):=fun v h0 h1=>by
    obtain ⟨u,rfl⟩:=Int.eq_ofNat_of_zero_le h0
    refine ⟨row ++ [u],by rw [zad,zbT],by rw [List.length_append,hlen];rfl,fun z hz=>?_,fun b o e=>by rw [zai (zam e hl)];exact sX b o e⟩
    rcases List.mem_append.mp hz with hz | hz
    ·exact hrow z hz
    ·rw [List.mem_singleton] at hz;omega
   have hsz:(vN row).length<sizeLine:=by rw [zaw,hlen];exact zaN (by omega)
   refine ⟨_,rfl,_,_,rfl,rfl,_,rfl,ite2 (fun h1=>?_) (fun h1=>zav ?_)⟩
   ·refine ⟨_,rfl,_,_,rfl,rfl,(show (0:Int)<1000003 by decide),?_⟩
    refine ⟨_,rfl,_,_,rfl,rfl,(show (0:Int)<1000003∧(1000003:Int).natAbs.log2<9000 by decide),?_⟩
    have r0:=Int.emod_nonneg rest (show (1000003:Int)≠0 by decide)
    have r1:=Int.emod_lt_of_pos rest (show (0:Int)<1000003 by decide)
    obtain ⟨row',g1,g2,g3,g4⟩:=app (rest % 1000003) r0 (by omega)
    exact ⟨_,rfl,.inl ⟨rfl,_,SqL.of eX⟩,_,rfl,l,_,_,rfl,rfl,eX,hsz,_,_,_,row',rfl,g1,g2,g3,g4⟩
   ·dsimp only
    obtain ⟨row',g1,g2,g3,g4⟩:=app (st3 / 16) (by omega) (by omega)
    exact ⟨_,rfl,.inl ⟨rfl,_,SqL.of eX⟩,_,rfl,l,_,_,rfl,rfl,eX,hsz,_,_,_,row',rfl,g1,g2,g3,g4⟩
  ·rintro σ X ⟨v6,v7,rest,row,rfl,eX,hlen,hrow,sX⟩
   exact ⟨_,rfl,k l X row hl eX hlen hrow sX⟩
end
abbrev zcP:Stmt:=top 59
theorem sc_law_ones:FnScope ["mask","found","bit"] ["mask"] (zah zcP):=⟨rfl,rfl,rfl,by decide +kernel,rfl,by decide +kernel,by decide +kernel⟩
section
variable {P:Program} {w:World} {K:PySem.W.Frag} {mg:Str→Option Value} {base:Heap}
theorem sgl_to (m i:Nat):sgl (m % 2 ^ (i+1))=sgl (m % 2 ^ i) ++ (if m &&& 2 ^ i=0 then [] else [2 ^ i]):=by
 rw [← zd9,← zd9,show zcf m (i+1)=zcf m i ++ [m / 2 ^ i % 2] from zeH i m]
 have e:m &&& 2 ^ i=2 ^ i * (m / 2 ^ i % 2):=by
  apply Nat.eq_of_testBit_eq
  intro j
  rw [Nat.testBit_and,Nat.testBit_two_pow]
  rcases (show m / 2 ^ i % 2=0∨m / 2 ^ i % 2=1 by omega) with h | h
  ·rw [h,Nat.mul_zero,Nat.zero_testBit]
   by_cases e:i=j
   ·subst e
    rw [Nat.testBit_eq_decide_div_mod_eq,h];rfl
   ·rw [decide_eq_false e,Bool.and_false]
  ·rw [h,Nat.mul_one,Nat.testBit_two_pow]
   by_cases e:i=j
   ·subst e
    rw [Nat.testBit_eq_decide_div_mod_eq,h];simp
   ·rw [decide_eq_false e,Bool.and_false]
 rw [e]
 rcases (show m / 2 ^ i % 2=0∨m / 2 ^ i % 2=1 by omega) with h | h
 ·rw [h,if_pos (by omega),List.append_nil,zfI]
 ·rw [h,if_neg (by have:=Nat.two_pow_pos i;omega),zft _ (zf4 i m),zc2]
def zgf:Sp:=fun vs H Q _=>∃ n:Nat,vs=[.int (n:Int)]∧n<2 ^ 32∧∀ (p:Addr) (H':Hp),H p=none→H' p=some (.lst (vN (sgl n)))→Same H H'→Q (.ref p) H'
def spGL:Sp:=fun vs H Q _=>∃ m n:Nat,vs=[.int (m:Int),.int (n:Int)]∧m<2 ^ 32∧∀ H',Same H H'→Q (.int (gath m n:Int)) H'
theorem zgJ {f:Addr} {fd:FuncData} (F:Fun K "_law_ones" "_law_ones" zcP f fd) (T:Blt mg):FnOk P w K mg base CX0 1 f fd ["mask"] zgf:=by
 refine F.ok sc_law_ones (fun vs H Q E h=>?_) (fun cdv A outer s H vs Q E hr h=>?_)
 ·obtain ⟨n,rfl,_⟩:=h;rfl
 ·obtain ⟨n,rfl,hn,k⟩:=h
  refine ⟨_,(zac (zau (i:=1) sc_law_ones.nd rfl (Or.inl rfl) (zaO zae))
   (zac (zau (i:=2) sc_law_ones.nd rfl (Or.inl rfl) zab)
   (zac (zeZ PassesOwn.never (zay ziV (pv 2) (pv 0) (zaz _)) (zac (zaE (zay zfz (zan zbS (pv 0) (pv 2)) zab (zaz _)) (zag (zax (zc9 PySem.F.plainAttrs_list PySem.F.slot_list_append PySem.F.type_list_append zaT (pv 1) (zaa (pv 2) zae)))) zaq)
   (zag (ziK (i:=2) sc_law_ones.nd rfl (Or.inl rfl) (pv 2) zgW))))
   (zag (zat (pv 1)))))),?rd⟩
  refine ⟨by show 0≤sizeLine;decide,fun l hl=>?_⟩
  refine zeI (fun σ X=>∃ (i:Nat),σ=[some (.int (n:Int)),some (.ref l),some (.int ((2 ^ i:Nat):Int))]∧i≤33∧X l=some (.lst (vN (sgl (n % 2 ^ i))))∧Same H X) (fun σ _=>match σ with | [_,_,some (.int b)]=>(2 * n+2 - b.toNat) | _=>0)
   ⟨0,rfl,by decide,by rw [Nat.pow_zero,Nat.mod_one,zdk];exact zad,zaf hl⟩ ?_ ?_
  ·rintro σ X ⟨i,rfl,hi,eX,sX⟩
   have hsz:(vN (sgl (n % 2 ^ i))).length<sizeLine:=by
    rw [zaw,zbH]
    have:=ze3 64 (n % 2 ^ i) (Nat.lt_of_le_of_lt (Nat.mod_le _ _) (Nat.lt_of_lt_of_le hn (by decide)))
    exact zaN (by omega)
   have hp:=Nat.two_pow_pos i
   refine ⟨_,rfl,_,rfl,_,_,rfl,rfl,_,rfl,ite2 (fun h1=>?_) (fun h1=>?_)⟩
   ·have h1:2 ^ i≤n:=by have:=of_decide_eq_true h1;omega
    have hi32:i<32:=by
     by_cases h:i<32
     ·exact h
     ·have:2 ^ 32≤2 ^ i:=Nat.pow_le_pow_right (by decide) (by omega)
      omega
    have st:=sgl_to n i
    have e2:((2 ^ i:Nat):Int)+((2 ^ i:Nat):Int)=((2 ^ (i+1):Nat):Int):=by rw [Nat.pow_succ];omega
    have e3:Builtin.bitAnd (n:Int) ((2 ^ i:Nat):Int)=((n &&& 2 ^ i:Nat):Int):=band _ _
    have hms:2 * n+2 - (((2 ^ i:Nat):Int)+((2 ^ i:Nat):Int)).toNat<2 * n+2 - ((2 ^ i:Nat):Int).toNat:=by rw [Int.toNat_natCast,e2,Int.toNat_natCast,Nat.pow_succ];omega
    refine ⟨_,rfl,_,rfl,_,_,rfl,rfl,_,_,rfl,rfl,_,rfl,ite2 (fun h2=>?_) (fun h2=>zav ?_)⟩
    ·have h2:¬ n &&& 2 ^ i=0:=fun z=>by
      have h2:=of_decide_eq_true h2
      rw [e3,z] at h2
      exact absurd h2 (by decide)
     rw [if_neg h2] at st
     refine ⟨_,rfl,.inl ⟨rfl,_,SqL.of eX⟩,_,rfl,l,_,_,rfl,rfl,eX,hsz,?_⟩
     refine ⟨_,rfl,_,rfl,_,_,rfl,rfl,⟨⟨i+1,?_,by omega,by rw [zad,st,zbT],fun b o e=>by rw [zai (zam e hl)];exact sX b o e⟩,hms⟩⟩
     rw [← e2];rfl
    ·have h2:n &&& 2 ^ i=0:=by
      by_cases z:n &&& 2 ^ i=0
      ·exact z
      ·exact absurd (decide_eq_true (show (0:Int)<Builtin.bitAnd (n:Int) ((2 ^ i:Nat):Int) by rw [e3];omega)) h2
     rw [if_pos h2,List.append_nil] at st
     dsimp only
     refine ⟨_,rfl,_,rfl,_,_,rfl,rfl,⟨⟨i+1,?_,by omega,by rw [st];exact eX,sX⟩,hms⟩⟩
     rw [← e2];rfl
   ·have h1:n<2 ^ i:=by
     by_cases z:2 ^ i≤n
     ·exact absurd (decide_eq_true (show ((2 ^ i:Nat):Int)≤(n:Int) by omega)) h1
     ·omega
    rw [Nat.mod_eq_of_lt h1] at eX
    exact ⟨_,rfl,k l X hl eX sX⟩
  ·rintro σ X Q1 Q2 hq h
   obtain ⟨v,e,v2,e',i,j,e1,e2,c,e3,h⟩:=h
   exact ⟨v,e,v2,e',i,j,e1,e2,c,e3,hq _ _ h⟩
end
abbrev zbA:Stmt:=top 60
theorem sc_law_gathered:FnScope ["mask","number","cell","place","bit"] ["mask","number"] (zah zbA):=⟨rfl,rfl,rfl,by decide +kernel,rfl,by decide +kernel,by decide +kernel⟩
section
variable {P:Program} {w:World} {K:PySem.W.Frag} {mg:Str→Option Value} {base:Heap}
theorem zd5 {f:Addr} {fd:FuncData} (F:Fun K "_law_gathered" "_law_gathered" zbA f fd) (T:Blt mg) (G_law_ones:Cal P w K mg base 1 "_law_ones" ["mask"] zgf):FnOk P w K mg base CX0 2 f fd ["mask","number"] (spGL):=by
 refine F.ok sc_law_gathered (fun vs H Q E h=>?_) (fun cdv A outer s H vs Q E hr h=>?_)
 ·obtain ⟨m,n,rfl,_⟩:=h;rfl
 ·obtain ⟨m,n,rfl,hm,k⟩:=h
  refine ⟨_,(zac (zau (i:=2) sc_law_gathered.nd rfl (Or.inl rfl) zab)
   (zac (zau (i:=3) sc_law_gathered.nd rfl (Or.inl rfl) zab)
   (zac (zbr PassesOwn.never rfl (zdX (zar G_law_ones (hr.mono (by walk_at "m")) rfl (zaa (pv 0) zae))) (zaj (i:=4) sc_law_gathered.nd rfl (Or.inl rfl))
   (zac (zaE (zay zfz (zan zbS (pv 1) (pv 4)) zab (zaz _)) (zag (ziK (i:=2) sc_law_gathered.nd rfl (Or.inl rfl) (pv 3) zgW)) zaq)
   (zag (ziK (i:=3) sc_law_gathered.nd rfl (Or.inl rfl) (pv 3) zgW))))
   (zag (zat (pv 2)))))),?rd⟩
  refine ⟨_,rfl,m,rfl,hm,fun p H1 hp hL s1=>⟨p,rfl,⟨_,SqL.of hL⟩,?_⟩⟩
  refine zfe (K:=K) (xs:=vN (sgl m)) (fun i σ X=>∃ (v4:Option V) (c:Nat),σ=[some (.int (m:Int)),some (.int (n:Int)),some (.int (c:Int)),some (.int ((2 ^ i:Nat):Int)),v4]∧c+gsm i ((sgl m).drop i) n=gath m n∧X=H1) ⟨none,0,rfl,by simp [zjf],rfl⟩ ?_ ?_ ?_
  ·rintro i σ X _ ⟨_,_,_,_,rfl⟩
   exact SqL.of hL
  ·rintro i x σ X hx ⟨v4,c,rfl,hc,rfl⟩
   obtain ⟨b,hb,rfl⟩:=zfp hx
   have e1:Builtin.bitAnd (n:Int) (b:Int)=((n &&& b:Nat):Int):=band n b
   have e2:((2 ^ i:Nat):Int)+((2 ^ i:Nat):Int)=((2 ^ (i+1):Nat):Int):=by rw [Nat.pow_succ];omega
   rw [zhq n hb] at hc
   refine ⟨_,rfl,_,rfl,_,_,rfl,rfl,_,_,rfl,rfl,_,rfl,ite2 (fun h2=>?_) (fun h2=>zav ?_)⟩
   ·have h2:¬ n &&& b=0:=fun z=>by
     have h2:=of_decide_eq_true h2
     rw [e1,z] at h2
     exact absurd h2 (by decide)
    rw [if_neg h2] at hc
    refine ⟨_,rfl,_,rfl,_,_,rfl,rfl,_,rfl,_,rfl,_,_,rfl,rfl,some (.int (b:Int)),c+2 ^ i,?_,by omega,rfl⟩
    rw [← e2,show ((c+2 ^ i:Nat):Int)=(c:Int)+((2 ^ i:Nat):Int) by omega];rfl
   ·have h2:n &&& b=0:=by
     by_cases z:n &&& b=0
     ·exact z
     ·exact absurd (decide_eq_true (show (0:Int)<Builtin.bitAnd (n:Int) (b:Int) by rw [e1];omega)) h2
    rw [if_pos h2] at hc
    dsimp only
    refine ⟨_,rfl,_,rfl,_,_,rfl,rfl,some (.int (b:Int)),c,?_,by omega,rfl⟩
    rw [← e2];rfl
  ·rintro σ X ⟨v4,c,rfl,hc,rfl⟩
   rw [zaw,List.drop_length] at hc
   have hc:c=gath m n:=by simpa [gsm] using hc
   rw [← hc] at k
   exact ⟨_,rfl,k X s1⟩
end
abbrev zcO:Stmt:=top 61
theorem zgu:FnScope ["found","due"] ["found","due"] (zah zcO):=⟨rfl,rfl,rfl,by decide +kernel,rfl,by decide +kernel,by decide +kernel⟩
section
variable {P:Program} {w:World} {K:PySem.W.Frag} {mg:Str→Option Value} {base:Heap}
def zdE (n:Nat):Sp:=fun vs H Q _=>∃ v w,vs=[v,w]∧((v = .non∧w = .non)∨Lk H n v w)∧∀ H',Same H H'→Q (.bl true) H'
theorem zd4 {f:Addr} {fd:FuncData} {m n:Nat} {sp:Sp} (F:Fun K "_law_same" "_law_same" zcO f fd) (T:Blt mg) (G_law_same:Cal P w K mg base n "_law_same" ["found","due"] sp) (hsp:∀ k,m=k+1→sp=zdE k):FnOk P w K mg base CX0 (n+1) f fd ["found","due"] (zdE m):=by
 refine F.ok zgu (fun vs H Q E h=>?_) (fun cdv A outer s H vs Q E hr h=>?_)
 ·obtain ⟨v,w,rfl,_⟩:=h;rfl
 ·obtain ⟨v,w,rfl,hL,k⟩:=h
  refine' ⟨_,(zac (zaE (zbq (zch (pv 1))) (zag (zat (ziU (zch (pv 0))))) zaq)
   (zac (zaE (zaL (zao (zaJ "bool" (K:=K) rfl) (by rfl) T.isinstance za3 (zaa (pv 1) (zaa (zaS rfl T.bool zfi zeY) zae)))) (zag (zat (zbv (zao (zaJ "bool" (K:=K) rfl) (by rfl) T.isinstance za3 (zaa (pv 0) (zaa (zaS rfl T.bool zfi zeY) zae))) (zbI (zbE zb6 (pv 0) (pv 1) (zaz _)))))) zaq)
   (zac (zaE (PW.pt (zcz (zaL (zao (zaJ "tuple" (K:=K) rfl) (by rfl) T.isinstance za3 (zaa (pv 1) (zaa (zaS rfl T.tuple zbg zcb) zae)))) (zb3 (zaL (zao (zaJ "list" (K:=K) rfl) (by rfl) T.isinstance za3 (zaa (pv 1) (zaa (zaS rfl T.list zct zgx) zae))))))) (zac (zaE (PW.pt (zcz (zay zgD (zao (zaJ "tuple" (K:=K) rfl) (by rfl) T.isinstance za3 (zaa (pv 1) (zaa (zaS rfl T.tuple zbg zcb) zae))) (zao (zaJ "tuple" (K:=K) rfl) (by rfl) T.isinstance za3 (zaa (pv 0) (zaa (zaS rfl T.tuple zbg zcb) zae))) (zaz _)) (zb3 (zay zgD (zao (zaJ "list" (K:=K) rfl) (by rfl) T.isinstance za3 (zaa (pv 1) (zaa (zaS rfl T.list zct zgx) zae))) (zao (zaJ "list" (K:=K) rfl) (by rfl) T.isinstance za3 (zaa (pv 0) (zaa (zaS rfl T.list zct zgx) zae))) (zaz _))))) (zag (zat zcB)) zaq)
   (zag (zat (zbv (zbE zb6 (zao zaA (by rfl) T.len PySem.boot_len (zaa (pv 0) zae)) (zao zaA (by rfl) T.len PySem.boot_len (zaa (pv 1) zae)) (zaz _)) (zbI (zao (zem rfl) (by rfl) T.all zjE (zaa ?c1 zae))))))) zaq)
   (zac (zaE (zaL (zao (zaJ "str" (K:=K) rfl) (by rfl) T.isinstance za3 (zaa (pv 1) (zaa (zaS rfl T.str zli zkW) zae)))) (zag (zat (zbv (zao (zaJ "str" (K:=K) rfl) (by rfl) T.isinstance za3 (zaa (pv 0) (zaa (zaS rfl T.str zli zkW) zae))) (zbI (zbE zb6 (pv 0) (pv 1) (zaz _)))))) zaq)
   (zag (zat (zbv (zao (zaJ "int" (K:=K) rfl) (by rfl) T.isinstance za3 (zaa (pv 0) (zaa (zaS rfl T.int zjD zkX) zae))) (zbv (zkZ (zao (zaJ "bool" (K:=K) rfl) (by rfl) T.isinstance za3 (zaa (pv 0) (zaa (zaS rfl T.bool zfi zeY) zae)))) (zbI (zbE zb6 (pv 0) (pv 1) (zaz _))))))))))),?rd⟩
  (case c1=>exact (zd0 (Nc:=["one","other"]) [none,none] rfl (zaY (by rfl)) (ziO rfl T.zip (zaa (pv 0) (zaa (pv 1) zae))) (fun _ _ _ _ _=>(ziQ 2 (K:=K) rfl rfl (zak (zaj (i:=0) (show (["one","other"]:List Str).Nodup by decide +kernel) rfl (Or.inl rfl)) (zak (zaj (i:=1) (show (["one","other"]:List Str).Nodup by decide +kernel) rfl (Or.inl rfl)) zaR)))) (fun _ _ _ _ _=>zdY) (fun _ _ _ _ _=>(zar G_law_same (hr.mono (by walk_at "m")) rfl (zaa (pv 0) (zaa (pv 1) zae))))))
  rcases hL with ⟨rfl,rfl⟩ | hL
  ·exact ⟨_,rfl,_,rfl,iteT ⟨_,rfl,k H (Same.refl _)⟩⟩
  cases hL with
  | int i =>
   refine ⟨_,rfl,_,rfl,iteF (zav ?_)⟩
   dsimp only
   refine ⟨_,rfl,_,_,_,rfl,.int i,rfl,false,rfl,iteF (zav ?_)⟩
   dsimp only
   refine ⟨_,rfl,_,_,_,rfl,.int i,rfl,false,rfl,iteF ⟨_,rfl,_,_,_,rfl,.int i,rfl,false,rfl,iteF (zav ?_)⟩⟩
   dsimp only
   refine ⟨_,rfl,_,_,_,rfl,.int i,rfl,false,rfl,iteF (zav ?_)⟩
   dsimp only
   refine ⟨_,rfl,_,_,_,rfl,.int i,rfl,true,rfl,iteT ⟨_,rfl,_,_,_,rfl,.int i,rfl,false,rfl,true,rfl,iteT ⟨_,rfl,_,rfl,rfl,?_⟩⟩⟩
   rw [decide_eq_true rfl]
   exact k H (Same.refl _)
  | @seq m' t a b xs ys ha hb hl hz h =>
   have ty:∀ {q:Addr} {us:List V},SqX t H q us→TyOf K H (.ref q) (.type (sqC t)):=fun {q us} e=>ty_seq e
   have kb:PySem.W.kitOne K (.type (sqC t)) (.type "bool")=some false:=by cases t <;> rfl
   have kt:PySem.W.kitOne K (.type (sqC t)) (.type "tuple")=some t:=by cases t <;> rfl
   have kl:PySem.W.kitOne K (.type (sqC t)) (.type "list")=some (!t):=by cases t <;> rfl
   refine ⟨_,rfl,_,rfl,iteF (zav ?_)⟩
   dsimp only
   refine ⟨_,rfl,_,_,_,rfl,ty hb,kb,false,rfl,iteF (zav ?_)⟩
   dsimp only
   have sq:∀ {q:Addr} {us:List V},SqX t H q us→SqL K H q us∨SqT K H q us:=fun {q us} e=>by
    cases t with
    | true=>exact .inr (SqT.of e)
    | false=>exact .inl (SqL.of e)
   cases t
   all_goals
    first
    | (refine ⟨_,rfl,_,_,_,rfl,ty hb,kt,true,rfl,iteT ?_⟩)
    | (refine ⟨_,rfl,_,_,_,rfl,ty hb,kt,false,rfl,iteF ⟨_,rfl,_,_,_,rfl,ty hb,kl,true,rfl,iteT ?_⟩⟩)
    refine ⟨_,rfl,_,_,_,rfl,ty hb,kt,_,rfl,_,_,_,rfl,ty ha,kt,rfl,_,rfl,zgV rfl ?_⟩
    refine ⟨_,rfl,_,_,_,rfl,ty hb,kl,_,rfl,_,_,_,rfl,ty ha,kl,rfl,_,rfl,zgV rfl (zav ?_)⟩
    dsimp only
    refine ⟨_,rfl,a,xs,rfl,sq ha,_,rfl,b,ys,rfl,sq hb,rfl,_,rfl,?_⟩
    rw [decide_eq_true (show V.int (xs.length:Int)=V.int (ys.length:Int) by rw [hl])]
    refine iteT ?_
    obtain rfl:=hsp m' rfl
    refine ⟨_,rfl,_,rfl,_,a,b,xs,ys,rfl,ha,hb,?_⟩
    refine zju (xs:=xs) (ys:=ys) (fun j rs σ H1=>∃ v1 v2,σ=[v1,v2]∧rs=List.replicate j (V.bl true)∧Same H H1) hl hz ⟨none,none,rfl,rfl,fun _ _ z=>z⟩ ?_ ?_ ?_
    ·rintro j rs σ H1 hj ⟨v1,v2,rfl,rfl,s1⟩
     exact ⟨s1 _ _ ha,s1 _ _ hb,by rw [List.length_replicate];exact Nat.le_refl _⟩
    ·rintro j x y U rs σ H1 ex ey hU ⟨v1,v2,rfl,rfl,s1⟩
     refine zej ?_
     have s2:=s1.trans (zaf (o:=.tup [x,y]) hU)
     refine ⟨_,rfl,_,rfl,x,y,rfl,.inr ((h j x y ex ey).same s2),fun H3 s3=>?_⟩
     exact ⟨_,_,rfl,List.replicate_succ'.symm,s2.trans s3⟩
    ·rintro rs σ H1 ⟨v1,v2,rfl,rfl,s1⟩ D hD
     refine ⟨D,List.replicate xs.length true,rfl,SqL.of (by rw [List.map_replicate];exact zad),?_⟩
     rw [show (List.replicate xs.length true).all id=true by simp]
     exact k _ (s1.trans (zaf hD))
end
abbrev zbL:Stmt:=top 62
theorem sc_law_bits_of:FnScope ["top","many","number","left"] ["top","many","number"] (zah zbL):=⟨rfl,rfl,rfl,by decide +kernel,rfl,by decide +kernel,by decide +kernel⟩
section
variable {P:Program} {w:World} {K:PySem.W.Frag} {mg:Str→Option Value} {base:Heap}
def smP:List Nat→Nat
 | []=>0
 | i :: l=>2 ^ i+smP l
theorem ze2 (x:Nat):∀ i,ones (2 ^ i * x)=ones x
 | 0=>by rw [Nat.pow_zero,Nat.one_mul]
 | i+1=>by rw [Nat.pow_succ,Nat.mul_comm (2 ^ i) 2,Nat.mul_assoc,zfB,ze2 x i]
theorem ziw:∀ (l:List Nat) (b:Nat),(∀ j∈l,b≤j)→∃ q,smP l=2 ^ b * q
 | [],b,_=>⟨0,rfl⟩
 | i :: l,b,h=>by
  obtain ⟨q,e⟩:=ziw l b fun j hj=>h j (List.mem_cons_of_mem _ hj)
  refine ⟨2 ^ (i - b)+q,?_⟩
  show 2 ^ i+smP l=_
  rw [e,Nat.mul_add,← Nat.pow_add,Nat.add_sub_cancel' (h i List.mem_cons_self)]
theorem zg8:∀ (l:List Nat),l.Pairwise (· < ·)→ones (smP l)=l.length
 | [],_=>zfA
 | i :: l,h=>by
  obtain ⟨h1,h2⟩:=List.pairwise_cons.mp h
  obtain ⟨q,e⟩:=ziw l (i+1) fun j hj=>h1 j hj
  have ih:=zg8 l h2
  rw [e,ze2] at ih
  show ones (2 ^ i+smP l)=l.length+1
  rw [e,show 2 ^ i+2 ^ (i+1) * q=2 ^ i * (2 * q+1) by rw [Nat.pow_succ,Nat.mul_add,Nat.mul_one,Nat.mul_assoc,Nat.add_comm],ze2,zhi,ih]
theorem zkT:∀ (l:List Nat) (b t:Nat),b≤t→l.Pairwise (· < ·)→(∀ j∈l,b≤j∧j<t)→smP l+2 ^ b≤2 ^ t
 | [],b,t,hb,_,_=>by show 0+2 ^ b≤_;rw [Nat.zero_add];exact Nat.pow_le_pow_right (by decide) hb
 | i :: l,b,t,hb,h,hj=>by
  obtain ⟨h1,h2⟩:=List.pairwise_cons.mp h
  obtain ⟨a1,a2⟩:=hj i List.mem_cons_self
  have ih:=zkT l (i+1) t (by omega) h2 fun j hl=>⟨h1 j hl,(hj j (List.mem_cons_of_mem _ hl)).2⟩
  have hp:2 ^ b≤2 ^ i:=Nat.pow_le_pow_right (by decide) a1
  rw [Nat.pow_succ] at ih
  show 2 ^ i+smP l+2 ^ b≤2 ^ t
  omega
theorem ziv:∀ l:List Nat,((l.map fun i=>((2 ^ i:Nat):Int)).sum:Int)=(smP l:Int)
 | []=>rfl
 | i :: l=>by
  rw [List.map_cons,List.sum_cons,ziv l]
  show _=((2 ^ i+smP l:Nat):Int)
  omega
theorem zjj {α β:Type} (f:α→β):∀ (l:List α) (k:Nat),(l.map f).eraseIdx k=(l.eraseIdx k).map f
 | [],_=>rfl
 | a :: l,0=>rfl
 | a :: l,k+1=>by rw [List.map_cons,List.eraseIdx_cons_succ,List.eraseIdx_cons_succ,List.map_cons,zjj f l k]
def vP (l:List Nat):List V:=l.map fun i=>.int ((2 ^ i:Nat):Int)
def zeP:Sp:=fun vs H Q _=>∃ (top many:Nat) (n:Int),vs=[.int (top:Int),.int (many:Int),.int n]∧top≤16∧many≤top∧0≤n∧n<2 ^ 31∧∀ (r:Nat) (H':Hp),r<2 ^ top→ones r=many→Same H H'→Q (.int (r:Int)) H'
theorem zep {f:Addr} {fd:FuncData} (F:Fun K "_law_bits_of" "_law_bits_of" zbL f fd) (T:Blt mg):FnOk P w K mg base CX0 1 f fd ["top","many","number"] zeP:=by
 refine F.ok sc_law_bits_of (fun vs H Q E h=>?_) (fun cdv A outer s H vs Q E hr h=>?_)
 ·obtain ⟨top,many,n,rfl,_⟩:=h;rfl
 ·obtain ⟨top,many,n,rfl,ht,hm,hn0,hn1,k⟩:=h
  refine ⟨_,(zac (zcU (i:=3) (Nc:=["k"]) [none] sc_law_bits_of.nd rfl rfl rfl (zaY (by rfl)) (za2 rfl T.range (zaa (pv 0) zae)) (fun _ _ _ _ _=>(zaj (i:=0) (show (["k"]:List Str).Nodup by decide +kernel) rfl (Or.inl rfl))) (fun _ _ _ _ _=>zdY) (fun _ _ _ _ _=>(zan zbR zab (pv 0))))
   (zac (zeZ PassesOwn.never (zay zfz (zao zaA (by rfl) T.len PySem.boot_len (zaa (pv 3) zae)) (pv 1) (zaz _)) (zac (zax (zc9 PySem.F.plainAttrs_list PySem.F.slot_list_pop PySem.F.type_list_pop zki (pv 3) (zaa (zan zaC (pv 2) (zao zaA (by rfl) T.len PySem.boot_len (zaa (pv 3) zae))) zae)))
   (zag (zau (i:=2) sc_law_bits_of.nd rfl (Or.inl rfl) (zan zbd (zan zdq (pv 2) zab) zab)))))
   (zag (zat (zao (zfZ rfl) (by rfl) T.sum PyProof.Rows.boot_sum (zaa (pv 3) zae)))))),?rd⟩
  refine ⟨_,rfl,_,rfl,by omega,by omega,?_⟩
  rw [Int.toNat_natCast]
  refine zcd (n:=top) (fun j ys σ Y=>∃ v0,σ=[v0]∧ys=vP (List.range j)∧Y=H) (Nat.le_trans ht (by decide)) ⟨none,rfl,rfl,rfl⟩ ?_ ?_ ?_
  ·rintro j ys σ Y ⟨_,_,rfl,_⟩
   unfold vP
   rw [List.length_map,List.length_range];exact Nat.le_refl _
  ·rintro j ys σ Y hj ⟨v0,rfl,rfl,rfl⟩
   rw [Int.zero_add]
   refine ⟨_,rfl,_,_,rfl,rfl,⟨by omega,by omega,by decide⟩,?_⟩
   refine ⟨_,rfl,?_,rfl⟩
   unfold vP
   rw [List.range_succ,List.map_append]
   show _ ++ [V.int ((1:Int) * 2 ^ ((j:Nat):Int).toNat)]=_ ++ [V.int ((2 ^ j:Nat):Int)]
   rw [Int.one_mul,Int.toNat_natCast];norm_cast
  ·rintro ys σ Y ⟨v0,rfl,rfl,rfl⟩ L hL
   dsimp only [za5,List.set]
   refine zeI (fun σ X=>∃ (l:List Nat) (z:Int),σ=[some (.int (top:Int)),some (.int (many:Int)),some (.int z),some (.ref L)]∧X L=some (.lst (vP l))∧l.Pairwise (· < ·)∧(∀ j∈l,j<top)∧many≤l.length∧l.length≤top∧0≤z∧z<2 ^ 32∧Same Y X) (fun _ X=>match X L with | some (.lst l)=>l.length | _=>0)
    ⟨List.range top,n,rfl,zad,List.pairwise_lt_range,(fun j hj=>List.mem_range.mp hj),by rw [List.length_range];exact hm,by rw [List.length_range];exact Nat.le_refl _,hn0,by omega,zaf hL⟩ ?_ ?_
   ·rintro σ X ⟨l,z,rfl,eL,hp,hj,h1,h2,z0,z1,sX⟩
    have hvl:(vP l).length=l.length:=by unfold vP;rw [List.length_map]
    refine ⟨_,rfl,L,_,rfl,.inl (SqL.of eL),_,rfl,_,_,rfl,rfl,_,rfl,ite2 (fun hb=>?_) (fun hb=>?_)⟩
    ·have hb:=of_decide_eq_true hb
     rw [hvl] at hb
     have hb:many<l.length:=by omega
     refine ⟨_,rfl,.inl ⟨rfl,_,SqL.of eL⟩,_,rfl,_,rfl,L,_,rfl,.inl (SqL.of eL),_,_,rfl,rfl,(by rw [hvl];omega),?_⟩
     rw [hvl]
     obtain ⟨c,hc⟩:∃ c:Nat,z % (l.length:Int)=(c:Int):=⟨(z % (l.length:Int)).toNat,by have:=Int.emod_nonneg z (show (l.length:Int)≠0 by omega);omega⟩
     have hcl:c<l.length:=by have:=Int.emod_lt_of_pos z (show (0:Int)<(l.length:Int) by omega);omega
     refine ⟨L,_,(c:Int),c,_,rfl,(by dsimp only;rw [hc]),eL,by omega,by omega,(by rw [hvl];unfold seqIndex?;simp;omega),List.getElem?_eq_getElem (by rw [hvl];exact hcl),?_⟩
     refine ⟨_,rfl,_,_,rfl,rfl,⟨by decide,by decide +kernel⟩,_,_,rfl,rfl,?_⟩
     have ev:(vP l).eraseIdx c=vP (l.eraseIdx c):=zjj _ l c
     rw [ev]
     have sub:=List.eraseIdx_sublist l c
     refine ⟨⟨l.eraseIdx c,z / 3+7,rfl,zad,hp.sublist sub,(fun j h=>hj j (sub.subset h)),by rw [List.length_eraseIdx_of_lt hcl];omega,by rw [List.length_eraseIdx_of_lt hcl];omega,by omega,by omega,fun b o e=>by rw [zai (zam e hL)];exact sX b o e⟩,?_⟩
     show (match upd X L (.lst (vP (l.eraseIdx c))) L with | some (.lst l)=>l.length | _=>0)<(match X L with | some (.lst l)=>l.length | _=>0)
     rw [zad,eL]
     show (vP (l.eraseIdx c)).length<(vP l).length
     unfold vP
     rw [List.length_map,List.length_map,List.length_eraseIdx_of_lt hcl];omega
    ·have hb:¬ many<l.length:=fun z=>hb (decide_eq_true (by rw [hvl];omega))
     refine ⟨_,rfl,L,l.map fun i=>((2 ^ i:Nat):Int),rfl,?_,?_⟩
     ·refine SqL.of ?_
      rw [eL,List.map_map];rfl
     rw [ziv]
     have hlt:=zkT l 0 top (Nat.zero_le _) hp fun j h=>⟨Nat.zero_le _,hj j h⟩
     exact k _ X (by omega) (by rw [zg8 l hp];omega) sX
   ·rintro σ X Q1 Q2 hq h
    obtain ⟨v,e,a,xs,e1,e2,v2,e3,i,j,e4,e5,c,e6,h⟩:=h
    exact ⟨v,e,a,xs,e1,e2,v2,e3,i,j,e4,e5,c,e6,hq _ _ h⟩
end
abbrev zcl:Stmt:=top 63
theorem sc_law_scene:FnScope ["row","top","way","size","ones","many","wide","words","chips","own","k","one","high","rows","j","latches"] ["row"] (zah zcl):=⟨rfl,rfl,rfl,by decide +kernel,rfl,by decide +kernel,by decide +kernel⟩
section
variable {P:Program} {w:World} {K:PySem.W.Frag} {mg:Str→Option Value} {base:Heap}
def mdL (D:Dt) (md:Nat→Addr):List V:=(List.range D.m).map fun i=>.ref (md i)
theorem zfJ {D:Dt} {md:Nat→Addr} {i:Nat} (h:i<D.m):(mdL D md)[i]? = some (.ref (md i)):=by unfold mdL;rw [List.getElem?_map,List.getElem?_range h];rfl
theorem zgR (D:Dt) (md:Nat→Addr):(mdL D md).length=D.m:=by unfold mdL;rw [List.length_map,List.length_range]
def whoM (ws:List (Addr×Rw)) (us:Nat→List Nat) (x:Nat):Option Nat:=(ws.map (·.2)).findIdx? fun r=>ans r x (hld us)
theorem zeD {α:Type} {p q:α→Bool}:∀ {l:List α},(∀ a∈l,p a=q a)→l.findIdx? p=l.findIdx? q
 | [],_=>rfl
 | a :: l,h=>by
  rw [List.findIdx?_cons,List.findIdx?_cons,h a List.mem_cons_self,zeD fun b hb=>h b (List.mem_cons_of_mem _ hb)]
theorem zfn {C:Addr} {B:Bd} {D:Dt} {Y:Hp} {f:Nat} (h:BdAt C B D Y f) (us:Nat→List Nat) (x:Nat):whoI B us x=whoM B.ws us x:=by
 refine zeD fun r hr=>?_
 obtain ⟨z,hz,rfl⟩:=List.mem_map.mp hr
 unfold ans awk
 cases hl:z.2.l with
 | none=>rfl
 | some o =>
  obtain ⟨c,a,b⟩:=o
  have:wrd B.keys (hld us) c=hld us c:=by unfold wrd;rw [if_pos (h.kl z hz c a b hl)]
  show (met z.2 x && decide (wrd B.keys (hld us) c &&& a=b))=(met z.2 x && decide (hld us c &&& a=b))
  rw [this]
theorem zfm {ws:List (Addr×Rw)} {us:Nat→List Nat} {x i:Nat} {z:Addr×Rw} (hz:ws[i]? = some z) (hb:∀ (j:Nat) (q:Addr×Rw),j<i→ws[j]? = some q→ans q.2 x (hld us)=false) (h:ans z.2 x (hld us)=true):whoM ws us x=some i:=by
 obtain ⟨hi,e⟩:=List.getElem?_eq_some_iff.mp hz
 refine List.findIdx?_eq_some_iff_getElem.mpr ⟨by rw [List.length_map];exact hi,by rw [List.getElem_map,e];exact h,fun j hj=>?_⟩
 rw [List.getElem_map,hb j _ hj (List.getElem?_eq_getElem (show j<ws.length by omega))]
 exact Bool.false_ne_true
theorem zjN {ws:List (Addr×Rw)} {us:Nat→List Nat} {x:Nat} (hb:∀ (j:Nat) (q:Addr×Rw),ws[j]? = some q→ans q.2 x (hld us)=false):whoM ws us x=none:=by
 refine List.findIdx?_eq_none_iff.mpr fun r hr=>?_
 obtain ⟨z,hz,rfl⟩:=List.mem_map.mp hr
 obtain ⟨j,hj⟩:=List.mem_iff_getElem?.mp hz
 exact hb j z hj
def rdMW (ws:List (Addr×Rw)) (D:Dt) (us:Nat→List Nat) (f x:Nat):Nat:=match whoM ws us x with
 | none=>f
 | some i=>match ws[i]? with
  | none=>f
  | some z=>klk (D.kd z.2.c) (us z.2.c) (gath z.2.i x)
def rdMU (ws:List (Addr×Rw)) (D:Dt) (us:Nat→List Nat) (x:Nat):Nat→List Nat:=match whoM ws us x with
 | none=>us
 | some i=>match ws[i]? with
  | none=>us
  | some z=>wset us z.2.c (krd (D.kd z.2.c) (us z.2.c) (gath z.2.i x))
def wrMU (ws:List (Addr×Rw)) (D:Dt) (us:Nat→List Nat) (x v:Nat):Nat→List Nat:=match whoM ws us x with
 | none=>us
 | some i=>match ws[i]? with
  | none=>us
  | some z=>wset us z.2.c (kwr (D.kd z.2.c) (D.n z.2.c) (us z.2.c) (gath z.2.i x) v)
def Dt.add (D:Dt) (x p:Addr):Dt:=⟨D.m+1,fun j=>if j=D.m then x else D.x j,fun j=>if j=D.m then p else D.p j,D.kd,D.n,D.sz⟩
def Dt.cut (D:Dt) (c:Nat):Dt:=⟨c,D.x,D.p,D.kd,D.n,D.sz⟩
def aset (f:Nat→Addr) (c:Nat) (a:Addr):Nat→Addr:=fun j=>if j=c then a else f j
theorem zl6 (D:Dt) (x p:Addr):chL (D.add x p)=chL D ++ [.ref x]:=by
 unfold chL
 show (List.range (D.m+1)).map _=_
 rw [List.range_succ,List.map_append]
 congr 1
 ·refine List.map_congr_left fun j hj=>?_
  rw [List.mem_range] at hj
  show V.ref (if j=D.m then x else D.x j)=V.ref (D.x j)
  rw [if_neg (by omega)]
 ·show [V.ref (if D.m=D.m then x else D.x D.m)]=_
  rw [if_pos rfl]
theorem zlM (D:Dt) (c:Nat) (md:Nat→Addr) (a:Addr):mdL (D.cut (c+1)) (aset md c a)=mdL (D.cut c) md ++ [.ref a]:=by
 unfold mdL
 show (List.range (c+1)).map _=(List.range c).map _ ++ _
 rw [List.range_succ,List.map_append]
 congr 1
 ·refine List.map_congr_left fun j hj=>?_
  rw [List.mem_range] at hj
  show V.ref (if j=c then a else md j)=V.ref (md j)
  rw [if_neg (by omega)]
 ·show [V.ref (if c=c then a else md c)]=_
  rw [if_pos rfl]
theorem ones0:ones 0=0:=by simp [ones]
theorem zhw (m w n v:Nat):agr m w n v=agr n v m w:=by unfold agr;rw [Nat.xor_comm,Nat.and_assoc,Nat.and_comm m n,← Nat.and_assoc]
theorem zh3 (r q:Rw):zdf r q=zdf q r:=by
 unfold zdf
 rw [zhw]
 congr 1
 cases r.l with
 | none=>cases q.l <;> rfl
 | some o =>
  cases q.l with
  | none=>rfl
  | some o2 =>
   show (if o.1=o2.1 then agr o.2.1 o.2.2 o2.2.1 o2.2.2 else true)=if o2.1=o.1 then agr o2.2.1 o2.2.2 o.2.1 o.2.2 else true
   by_cases e:o.1=o2.1
   ·rw [if_pos e,if_pos e.symm,zhw]
   ·rw [if_neg e,if_neg (Ne.symm e)]
theorem RwAt.updB {Z:Hp} {L t:Addr} {l l':List V} {r:Rw} (h:RwAt Z t r) (hL:Z L=some (.lst l)):RwAt (upd Z L (.lst l')) t r:=by
 obtain ⟨lt,et,hlt⟩:=h
 refine ⟨lt,by rw [zai (fun z=>by rw [z,hL] at et;cases et)];exact et,?_⟩
 cases hl:r.l with
 | none=>rw [hl] at hlt;exact hlt
 | some o =>
  rw [hl] at hlt
  obtain ⟨u,eu,hu⟩:=hlt
  exact ⟨u,eu,by rw [zai (fun z=>by rw [z,hL] at hu;cases hu)];exact hu⟩
theorem atv {vals:List Nat} {i:Nat} (h:i<vals.length):atI (vN vals) (i:Int)=some (.int (vals.getD i 0:Int)):=by
 refine zaF (zkP ?_)
 rw [List.getD_eq_getElem?_getD,List.getElem?_eq_getElem h];rfl
theorem zkl (D:Dt) (x p a:Addr) (o:Nat→Addr):mdL (D.add x p) (aset o D.m a)=mdL D o ++ [.ref a]:=zlM D D.m o a
structure Bl6 (cs:Nat→Addr) (H X:Hp) (CL OL:Addr) (D:Dt) (o:Nat→Addr) (us:Nat→List Nat):Prop where
 S:Chs cs D X us
 eC:X CL=some (.lst (chL D))
 eO:X OL=some (.lst (mdL D o))
 w:∀ i,1≤i→i<D.m→X (o i)=some (.lst (vN (us i)))
 fp:∀ i,i<D.m→H (D.p i)=none∧D.p i≠CL∧D.p i≠OL
 fo:∀ i,1≤i→i<D.m→H (o i)=none∧o i≠CL∧o i≠OL
 np:∀ i j,1≤i→i<D.m→j<D.m→o i≠D.p j
 oj:∀ i j,1≤i→1≤j→i<D.m→j<D.m→o i=o j→i=j
 fC:H CL=none∧H OL=none∧CL≠OL
 m2:2≤D.m
 s:Same H X
theorem Bl6.same {cs:Nat→Addr} {H X Y:Hp} {CL OL:Addr} {D:Dt} {o:Nat→Addr} {us:Nat→List Nat} (b:Bl6 cs H X CL OL D o us) (s:Same X Y):Bl6 cs H Y CL OL D o us:=
 ⟨b.S.same s,s _ _ b.eC,s _ _ b.eO,fun i h1 h2=>s _ _ (b.w i h1 h2),b.fp,b.fo,b.np,b.oj,b.fC,b.m2,b.s.trans s⟩
def FrC (CL OL:Addr) (Y Z:Hp):Prop:=∀ a u,a≠CL→a≠OL→Y a=some u→Z a=some u
theorem zll {CL OL r:Addr} {X X1:Hp} {l1 l2 l3:List V} (s:Same X X1) (hr:upd X1 CL (.lst l1) r=none):FrC CL OL X (upd (upd (upd X1 CL (.lst l1)) r (.lst l2)) OL (.lst l3)):=fun a u h1 h2 e=>by
 have e1:upd X1 CL (.lst l1) a=some u:=by rw [zai h1];exact s _ _ e
 rw [zai h2,zai (fun z=>by rw [z,hr] at e1;cases e1)];exact e1
theorem Bl6.add {cs:Nat→Addr} {H X X1:Hp} {CL OL x' p' r:Addr} {D:Dt} {o:Nat→Addr} {us:Nat→List Nat} (b:Bl6 cs H X CL OL D o us) (s:Same X X1) (hp:X p'=none) (oc:Chp cs X1 x' p' (D.kd D.m) (D.n D.m) (us D.m)) (k:Kd (D.kd D.m) (D.n D.m) (us D.m))
  (h1:D.kd D.m=2∨D.kd D.m=3→(us D.m).length=1) (z:zaQ (D.kd D.m) (us D.m)=D.sz D.m) (hm:D.m+1≤200) (hr:upd X1 CL (.lst (chL D ++ [.ref x'])) r=none) :
  Bl6 cs H (upd (upd (upd X1 CL (.lst (chL D ++ [.ref x']))) r (.lst (vN (us D.m)))) OL (.lst (mdL D o ++ [.ref r]))) CL OL (D.add x' p') (aset o D.m r) us:=by
 obtain ⟨fc1,fc2,fc3⟩:=b.fC
 have fr:FrC CL OL X1 (upd (upd (upd X1 CL (.lst (chL D ++ [.ref x']))) r (.lst (vN (us D.m)))) OL (.lst (mdL D o ++ [.ref r]))):=zll (Same.refl _) hr
 have nrC:r≠CL:=fun e=>by rw [e,zad] at hr;cases hr
 have hr1:X1 r=none:=by rw [zai nrC] at hr;exact hr
 have nr:∀ {a:Addr} {u:HO},X1 a=some u→a≠r:=fun {a u} e q=>by rw [q,hr1] at e;cases e
 have nrO:r≠OL:=Ne.symm (nr (s _ _ b.eO))
 have npx:∀ {a:Addr} {u:HO},X a=some u→a≠p':=fun {a u} e q=>by rw [q,hp] at e;cases e
 have lt:∀ i,i<D.m+1→i=D.m∨i<D.m:=fun i h=>by omega
 have xa:∀ i,i<D.m→(D.add x' p').x i=D.x i:=fun i h=>if_neg (by omega)
 have pa:∀ i,i<D.m→(D.add x' p').p i=D.p i:=fun i h=>if_neg (by omega)
 have xm:(D.add x' p').x D.m=x':=if_pos rfl
 have pm:(D.add x' p').p D.m=p':=if_pos rfl
 have oa:∀ i,i<D.m→aset o D.m r i=o i:=fun i h=>if_neg (by omega)
 have om:aset o D.m r D.m=r:=if_pos rfl
 have npC:p'≠CL:=Ne.symm (npx b.eC)
 have npO:p'≠OL:=Ne.symm (npx b.eO)
 have insC:∀ {a:Addr} {C dx:Addr} {fs:List (Str×V)},X1 a=some (.ins C dx fs)→a≠CL∧a≠OL:=fun {a C dx fs} e=>⟨(fun q=>by rw [q,s _ _ b.eC] at e;cases e),(fun q=>by rw [q,s _ _ b.eO] at e;cases e)⟩
 have m2:=b.m2
 refine ⟨⟨fun i h=>?_,fun i h=>?_,fun i h=>?_,fun i h=>?_,fun i j hi hj e=>?_,hm⟩,by rw [zai fc3,zai (Ne.symm nrC),zad,zl6],by rw [zad,zkl],fun i hi h=>?_,fun i h=>?_,fun i hi h=>?_,fun i j hi h hj=>?_,fun i j hi hj h h' e=>?_,b.fC,Nat.le_succ_of_le m2,fun a u e=>?_⟩
 ·rcases lt i h with rfl | h
  ·rw [xm,pm]
   obtain ⟨⟨dx,ex⟩,l⟩:=oc
   exact ⟨⟨dx,fr _ _ (insC ex).1 (insC ex).2 ex⟩,fr _ _ npC npO l⟩
  ·rw [xa i h,pa i h]
   obtain ⟨⟨dx,ex⟩,l⟩:=(b.S.o i h).same s
   exact ⟨⟨dx,fr _ _ (insC ex).1 (insC ex).2 ex⟩,fr _ _ (b.fp i h).2.1 (b.fp i h).2.2 l⟩
 ·rcases lt i h with rfl | h
  ·exact k
  ·exact b.S.k i h
 ·rcases lt i h with rfl | h
  ·exact h1
  ·exact b.S.h1 i h
 ·rcases lt i h with rfl | h
  ·exact z
  ·exact b.S.z i h
 ·rcases lt i hi with rfl | hi <;> rcases lt j hj with rfl | hj
  ·rfl
  ·rw [pm,pa j hj] at e;exact absurd e.symm (npx (b.S.o j hj).ls)
  ·rw [pm,pa i hi] at e;exact absurd e (npx (b.S.o i hi).ls)
  ·rw [pa i hi,pa j hj] at e;exact b.S.inj i j hi hj e
 ·rcases lt i h with rfl | h
  ·rw [om,zai nrO];exact zad
  ·rw [oa i h];exact fr _ _ (b.fo i hi h).2.1 (b.fo i hi h).2.2 (s _ _ (b.w i hi h))
 ·rcases lt i h with rfl | h
  ·rw [pm];exact ⟨b.s.free hp,npC,npO⟩
  ·rw [pa i h];exact b.fp i h
 ·rcases lt i h with rfl | h
  ·rw [om];exact ⟨b.s.free (s.free hr1),nrC,nrO⟩
  ·rw [oa i h];exact b.fo i hi h
 ·rcases lt i h with rfl | h <;> rcases lt j hj with rfl | hj
  ·rw [om,pm];exact fun q=>by have:=oc.ls;rw [← q,hr1] at this;cases this
  ·rw [om,pa j hj];exact Ne.symm (nr (s _ _ (b.S.o j hj).ls))
  ·rw [oa i h,pm];exact npx (b.w i hi h)
  ·rw [oa i h,pa j hj];exact b.np i j hi h hj
 ·rcases lt i h with rfl | h <;> rcases lt j h' with rfl | h'
  ·rfl
  ·rw [om,oa j h'] at e;exact absurd e.symm (nr (s _ _ (b.w j hj h')))
  ·rw [om,oa i h] at e;exact absurd e (nr (s _ _ (b.w i hi h)))
  ·rw [oa i h,oa j h'] at e;exact b.oj i j hi hj h h' e
 ·exact fr _ _ (zam e fc1) (zam e fc2) (s _ _ (b.s _ _ e))
def kd6 (n i:Nat):Nat:=if i=0 then 0 else if i=1 then 1 else if i<2+n∧i % 3=0 then 3 else 2
def us6 (n size a6:Nat) (wd:List Nat) (a7 i:Nat):List Nat:=if i=0 then List.replicate size a6 else if i=1 then wd else if i<2+n then [(a7+37 * (i - 2)) % 256] else [i - 2 - n]
theorem zlp {n size a6 a7 i:Nat} {wd:List Nat} (h:2≤i) (hn:n≤100) (hi:i<2+n+40):∃ v,us6 n size a6 wd a7 i=[v]∧v≤255:=by
 unfold us6
 rw [if_neg (by omega),if_neg (by omega)]
 split
 ·exact ⟨_,rfl,by omega⟩
 ·exact ⟨_,rfl,by omega⟩
theorem zlT {n i:Nat} (h:2≤i):kd6 n i=2∨kd6 n i=3:=by
 unfold kd6
 rw [if_neg (by omega),if_neg (by omega)]
 split
 ·exact .inr rfl
 ·exact .inl rfl
theorem zk6 {kd v:Nat} (hk:kd=2∨kd=3) (hv:v≤255):Kd kd 0 [v]:=⟨by omega,fun x h=>by rw [List.mem_singleton.mp h];exact hv,by show 1≤4096;decide,fun _=>Nat.le_refl _,fun _=>rfl,fun h=>by omega,by decide⟩
structure Scn (D:Dt) (ws:List (Addr×Rw)) (plain:Nat) (o:Nat→Addr) (s R CL cd OL:Addr) (m:Nat) (Y:Hp) (us:Nat→List Nat) (nk:Nat):Prop where
 es:Y s=some (.tup [.int (m:Int),.ref R,.ref CL,.ref cd,.ref OL])
 rf:RwsFor D m Y R ws
 m16:m≤16
 eC:Y CL=some (.lst (chL D))
 eO:Y OL=some (.lst (mdL D o))
 w:∀ i,1≤i→i<D.m→Y (o i)=some (.lst (vN (us i)))
 d:∃ kvs,Y cd=some (.dK kvs)∧kvs.length≤nk∧∀ c,c<(us 0).length→(valV kvs (Sum.inl (c:Int))).getD (.int (plain:Int)) = .int ((us 0).getD c 0:Int)
 oj:∀ i j,1≤i→1≤j→i<D.m→j<D.m→o i=o j→i=j
 oC:∀ i,1≤i→i<D.m→o i≠CL∧o i≠OL
 k:∀ i,i<D.m→Kd (D.kd i) (D.n i) (us i)
 h1:∀ i,i<D.m→D.kd i=2∨D.kd i=3→(us i).length=1
 z:∀ i,i<D.m→zaQ (D.kd i) (us i)=D.sz i
 k0:D.kd 0=0∧D.kd 1=1∧2≤D.m
 kz:∀ z∈ws,z.2.c≤1∨(2≤z.2.c∧D.kd z.2.c=if z.2.c % 3=0 then 3 else 2)
 kl:∀ z∈ws,∀ c a b,z.2.l=some (c,a,b)→2≤c
theorem Scn.same {D:Dt} {ws:List (Addr×Rw)} {plain:Nat} {o:Nat→Addr} {s R CL cd OL:Addr} {m:Nat} {Y Z:Hp} {us:Nat→List Nat} {nk:Nat} (h:Scn D ws plain o s R CL cd OL m Y us nk) (q:Same Y Z):Scn D ws plain o s R CL cd OL m Z us nk:=by
 obtain ⟨kvs,e,r⟩:=h.d
 exact ⟨q _ _ h.es,h.rf.same q,h.m16,q _ _ h.eC,q _ _ h.eO,fun i a b=>q _ _ (h.w i a b),⟨kvs,q _ _ e,r⟩,h.oj,h.oC,h.k,h.h1,h.z,h.k0,h.kz,h.kl⟩
theorem zkN {i t q:Nat} (h:i<2 ^ t):i &&& (2 ^ t * q)=0:=by
 refine Nat.eq_of_testBit_eq fun j=>?_
 rw [Nat.testBit_and,Nat.zero_testBit]
 by_cases hj:j<t
 ·rw [Nat.testBit_two_pow_mul]
  simp;intro _ hj2;omega
 ·rw [Nat.testBit_lt_two_pow (Nat.lt_of_lt_of_le h (Nat.pow_le_pow_right (by decide) (by omega))),Bool.false_and]
structure FrS (H Y:Hp) (D:Dt) (o:Nat→Addr) (CL OL cd:Addr):Prop where
 fp:∀ i,i<D.m→H (D.p i)=none∧D.p i≠CL∧D.p i≠OL
 fo:∀ i,1≤i→i<D.m→H (o i)=none∧o i≠CL∧o i≠OL
 np:∀ i j,1≤i→i<D.m→j<D.m→o i≠D.p j
 fd:H cd=none
 s:Same H Y
theorem far61 (t:Nat) (h1:12≤t) (h2:t≤14):(agr (3 * 2 ^ t) 0 (3 * 2 ^ t) (1 * 2 ^ t)=false∧agr (3 * 2 ^ t) 0 (3 * 2 ^ t) (3 * 2 ^ t)=false∧agr (3 * 2 ^ t) (1 * 2 ^ t) (3 * 2 ^ t) (3 * 2 ^ t)=false∧(1 * 2 ^ t) &&& (3 * 2 ^ t)=1 * 2 ^ t) ∧
  ∀ j,j<20→(agr (3 * 2 ^ t) 0 (3 * 2 ^ t ||| 31) (2 * 2 ^ t ||| j)=false∧agr (3 * 2 ^ t) (1 * 2 ^ t) (3 * 2 ^ t ||| 31) (2 * 2 ^ t ||| j)=false∧agr (3 * 2 ^ t ||| 31) (2 * 2 ^ t ||| j) (3 * 2 ^ t) (3 * 2 ^ t)=false∧(2 * 2 ^ t ||| j) &&& (3 * 2 ^ t ||| 31)=2 * 2 ^ t ||| j∧(2 * 2 ^ t ||| j)<2 ^ (t+2)∧(3 * 2 ^ t ||| 31)<2 ^ (t+2)) ∧
   ∀ i,i<20→i≠j→agr (3 * 2 ^ t ||| 31) (2 * 2 ^ t ||| i) (3 * 2 ^ t ||| 31) (2 * 2 ^ t ||| j)=false:=by
 rcases (show t=12∨t=13∨t=14 by omega) with rfl | rfl | rfl <;> decide +kernel
theorem zi3 {a b:Rw} (h:agr a.m a.w b.m b.w=false):NC a b:=by
 have e:zdf a b=false:=by unfold zdf;rw [h];rfl
 exact ⟨e,by rw [zh3];exact e⟩
structure Rg (top n:Nat) (us:Nat→List Nat) (z:Rw):Prop where
 ok:RwOk (top+2) z
 fit:∀ D:Dt,D.kd=kd6 n→(D.sz=fun i=>zaQ (kd6 n i) (us i))→2+n≤D.m→Fit D z
 kz:z.c≤1∨(2≤z.c∧kd6 n z.c=if z.c % 3=0 then 3 else 2)
 kl:∀ c a b,z.l=some (c,a,b)→2≤c
theorem zeX {m:Nat} {top n:Nat} {us:Nat→List Nat} {Y Z:Hp} {RL t:Addr} {ws:List (Addr×Rw)} {r:Rw} {l:List V} (hw:∀ z∈ws,RwAt Y z.1 z.2∧Rg top n us z.2) (s:Same Y Z) (hr:RwAt Z t r) (g:Rg top n us r) (eR:Z RL=some (.lst l)):∀ z∈ws ++ [(t,r)],RwAt (upd Z RL (.lst (refs (ws ++ [(t,r)])))) z.1 z.2∧Rg top n us z.2:=fun z hz=>by
 rcases List.mem_append.mp hz with hz | hz
 ·exact ⟨((hw z hz).1.same s).updB eR,(hw z hz).2⟩
 ·obtain rfl:=List.mem_singleton.mp hz
  exact ⟨hr.updB eR,g⟩
theorem zgN {ws:List (Addr×Rw)} {y:Addr×Rw} (h:ws.Pairwise fun a b=>NC a.2 b.2) (q:∀ z∈ws,NC z.2 y.2):(ws ++ [y]).Pairwise fun a b=>NC a.2 b.2:=by
 rw [List.pairwise_append]
 exact ⟨h,List.pairwise_singleton _ _,fun a ha b hb=>by rw [List.mem_singleton.mp hb];exact q a ha⟩
theorem zcy (ws:List (Addr×Rw)) (t:Addr) (r:Rw):refs ws ++ [.ref t]=refs (ws ++ [(t,r)]):=by unfold refs;rw [List.map_append];rfl
def zge (cs:Nat→Addr):Sp:=fun vs H Q _=>∃ (row:Addr) (vals:List Nat),vs=[.ref row]∧H row=some (.lst (vN vals))∧vals.length=12∧(∀ v∈vals,v<2 ^ 31) ∧
 ∀ (s R CL cd OL:Addr) (m:Nat) (D:Dt) (o:Nat→Addr) (us:Nat→List Nat) (ws:List (Addr×Rw)) (H':Hp),Scn D ws (vals.getD 6 0 % 256) o s R CL cd OL m H' us 0→Chs cs D H' us→14≤m→(us 0).length=([512,1024,2048,4095,4096]:List Nat).getD (vals.getD 1 0 % 5) 0→FrS H H' D o CL OL cd→Q (.ref s) H'
theorem zfE {f:Addr} {cs:Nat→Addr} {fd:FuncData} (F:Fun K "_law_scene" "_law_scene" zcl f fd) (T:Blt mg) (G_law_bits_of:Cal P w K mg base 1 "_law_bits_of" ["top","many","number"] zeP)
  (GMFixed_1:Mak P w K mg base 3 "Fixed" (cs 1) [] (dP []) (zg6 (cs 1))) (GMLatch_1:Mak P w K mg base 3 "Latch" (cs 2) [] (dP []) (zcZ (cs 2) "latch")) (GMMeter_1:Mak P w K mg base 3 "Meter" (cs 3) [] (dP []) (zcZ (cs 3) "meter"))
  (GMStore_2:Mak P w K mg base 3 "Store" (cs 0) [] (dP []) (zg5 (cs 0))):FnOk P w K mg base CX0 5 f fd ["row"] (zge cs):=by
 refine F.ok sc_law_scene (fun vs H Q E h=>?_) (fun cdv A outer s H vs Q E hr h=>?_)
 ·obtain ⟨row,vals,rfl,_⟩:=h;rfl
 ·obtain ⟨row,vals,rfl,er,hlen,hv,k⟩:=h
  refine ⟨_,(zac (@zau _ _ (1) _ _ _ _ sc_law_scene.nd rfl (Or.inl rfl) (@zan _ _ _ _ _ _ _ _ zbd (@zab _ _ _ _) (@zan _ _ _ _ _ _ _ _ zaC (@zal _ _ _ _ _ _ _ zas (@pv _ 0 _ _ (by rfl) (by walk_at "o") (by decide) (by decide)) (@zab _ _ _ _) (fun _ _=>rfl)) (@zab _ _ _ _))) (by rfl) (by walk_at "p"))
   (zac (@zau _ _ (2) _ _ _ _ sc_law_scene.nd rfl (Or.inl rfl) (@zan _ _ _ _ _ _ _ _ zaC (@zal _ _ _ _ _ _ _ zas (@pv _ 0 _ _ (by rfl) (by walk_at "o") (by decide) (by decide)) (@zab _ _ _ _) (fun _ _=>rfl)) (@zab _ _ _ _)) (by rfl) (by walk_at "p"))
   (zac (@zau _ _ (3) _ _ _ _ sc_law_scene.nd rfl (Or.inl rfl) (@zal _ _ _ _ _ _ _ zas (@zaO _ _ _ _ (@zaa _ _ _ _ _ (@zab _ _ _ _) (@zaa _ _ _ _ _ (@zab _ _ _ _) (@zaa _ _ _ _ _ (@zab _ _ _ _) (@zaa _ _ _ _ _ (@zab _ _ _ _) (@zaa _ _ _ _ _ (@zab _ _ _ _) (@zae _) (by rfl)) (by rfl)) (by rfl)) (by rfl)) (by rfl))) (@pv _ 2 _ _ (by rfl) (by walk_at "o") (by decide) (by decide)) (fun _ _=>rfl)) (by rfl) (by walk_at "p"))
   (zac (@zau _ _ (4) _ _ _ _ sc_law_scene.nd rfl (Or.inl rfl) (@zal _ _ _ _ _ _ _ zas (@zaO _ _ _ _ (@zaa _ _ _ _ _ (@zab _ _ _ _) (@zaa _ _ _ _ _ (@zab _ _ _ _) (@zaa _ _ _ _ _ (@zab _ _ _ _) (@zaa _ _ _ _ _ (@zab _ _ _ _) (@zaa _ _ _ _ _ (@zab _ _ _ _) (@zae _) (by rfl)) (by rfl)) (by rfl)) (by rfl)) (by rfl))) (@pv _ 2 _ _ (by rfl) (by walk_at "o") (by decide) (by decide)) (fun _ _=>rfl)) (by rfl) (by walk_at "p"))
   (zac (@zau _ _ (5) _ _ _ _ sc_law_scene.nd rfl (Or.inl rfl) (@zal _ _ _ _ _ _ _ zas (@zaO _ _ _ _ (@zaa _ _ _ _ _ (@zan _ _ _ _ _ _ _ _ zaC (@zal _ _ _ _ _ _ _ zas (@pv _ 0 _ _ (by rfl) (by walk_at "o") (by decide) (by decide)) (@zab _ _ _ _) (fun _ _=>rfl)) (@zab _ _ _ _)) (@zaa _ _ _ _ _ (@zan _ _ _ _ _ _ _ _ zaC (@zal _ _ _ _ _ _ _ zas (@pv _ 0 _ _ (by rfl) (by walk_at "o") (by decide) (by decide)) (@zab _ _ _ _) (fun _ _=>rfl)) (@zab _ _ _ _)) (@zae _) (by rfl)) (by rfl))) (@zan _ _ _ _ _ _ _ _ zaC (@zal _ _ _ _ _ _ _ zas (@pv _ 0 _ _ (by rfl) (by walk_at "o") (by decide) (by decide)) (@zab _ _ _ _) (fun _ _=>rfl)) (@zab _ _ _ _)) (fun _ _=>rfl)) (by rfl) (by walk_at "p"))
   (zac (@zau _ _ (6) _ _ _ _ sc_law_scene.nd rfl (Or.inl rfl) (@zal _ _ _ _ _ _ _ zas (@zaO _ _ _ _ (@zaa _ _ _ _ _ (@zab _ _ _ _) (@zaa _ _ _ _ _ (@zab _ _ _ _) (@zaa _ _ _ _ _ (@zab _ _ _ _) (@zaa _ _ _ _ _ (@zab _ _ _ _) (@zae _) (by rfl)) (by rfl)) (by rfl)) (by rfl))) (@zan _ _ _ _ _ _ _ _ zaC (@zal _ _ _ _ _ _ _ zas (@pv _ 0 _ _ (by rfl) (by walk_at "o") (by decide) (by decide)) (@zab _ _ _ _) (fun _ _=>rfl)) (@zab _ _ _ _)) (fun _ _=>rfl)) (by rfl) (by walk_at "p"))
   (zac (@zcU _ (["k","row"]) _ _ _ _ _ _ _ _ _ _ (7) _ _ _ [none,some 0] sc_law_scene.nd rfl rfl rfl (zaY (by rfl)) (@za2 _ _ _ _ _ _ rfl T.range (@zaa _ _ _ _ _ (@zal _ _ _ _ _ _ _ zas (@zaO _ _ _ _ (@zaa _ _ _ _ _ (@zan _ _ _ _ _ _ _ _ zbd (@zab _ _ _ _) (@zan _ _ _ _ _ _ _ _ zaC (@zal _ _ _ _ _ _ _ zas (@pv _ 0 _ _ (by rfl) (by walk_at "o") (by decide) (by decide)) (@zab _ _ _ _) (fun _ _=>rfl)) (@zab _ _ _ _))) (@zaa _ _ _ _ _ (@zab _ _ _ _) (@zaa _ _ _ _ _ (@zab _ _ _ _) (@zae _) (by rfl)) (by rfl)) (by rfl))) (@zan _ _ _ _ _ _ _ _ zdq (@zao _ _ _ _ _ _ _ _ _ (zf2 rfl) (by rfl) T.max PyProof.Rows.boot_max (@zaa _ _ _ _ _ (@zab _ _ _ _) (@zaa _ _ _ _ _ (@zan _ _ _ _ _ _ _ _ zb5 (@pv _ 6 _ _ (by rfl) (by walk_at "o") (by decide) (by decide)) (@zab _ _ _ _)) (@zae _) (by rfl)) (by rfl)) (by decide) (by decide) (by rfl) (by rfl)) (@zab _ _ _ _)) (fun _ _=>rfl)) (@zae _) (by rfl)) (by rfl)) (fun _ _ _ _ _=>(@zaj _ _ (0) _ (show (["k","row"]:List Str).Nodup by decide +kernel) rfl (Or.inl rfl) (by walk_at "p"))) (fun _ _ _ _ _=>(@zdY _)) (fun _ _ _ _ _=>(@zan _ _ _ _ _ _ _ _ zaC (@zan _ _ _ _ _ _ _ _ zbd (@zal _ _ _ _ _ _ _ (zho (K:=K) rfl) (@pv _ 1 _ _ (by rfl) (by walk_at "o") (by decide) (by decide)) (@zab _ _ _ _) (fun _ _=>rfl)) (@zan _ _ _ _ _ _ _ _ ze1 (@pv _ 0 _ _ (by rfl) (by walk_at "o") (by decide) (by decide)) (@pv _ 0 _ _ (by rfl) (by walk_at "o") (by decide) (by decide)))) (@zab _ _ _ _))) (by rfl) (by intro _;rfl))
   (zac (@zau _ _ (8) _ _ _ _ sc_law_scene.nd rfl (Or.inl rfl) (@zaO _ _ _ _ (@zaa _ _ _ _ _ (@zez _ _ _ _ _ _ _ _ _ _ _ GMStore_2 (hr.mono (by walk_at "m")) rfl (@zaa _ _ _ _ _ (@pv _ 3 _ _ (by rfl) (by walk_at "o") (by decide) (by decide)) (@zaa _ _ _ _ _ (@zan _ _ _ _ _ _ _ _ zaC (@zal _ _ _ _ _ _ _ zas (@pv _ 0 _ _ (by rfl) (by walk_at "o") (by decide) (by decide)) (@zab _ _ _ _) (fun _ _=>rfl)) (@zab _ _ _ _)) (@zae _) (by rfl)) (by rfl)) (by decide) (by rfl) (by rfl)) (@zaa _ _ _ _ _ (@zez _ _ _ _ _ _ _ _ _ _ _ GMFixed_1 (hr.mono (by walk_at "m")) rfl (@zaa _ _ _ _ _ (@pv _ 7 _ _ (by rfl) (by walk_at "o") (by decide) (by decide)) (@zae _) (by rfl)) (by decide) (by rfl) (by rfl)) (@zae _) (by rfl)) (by rfl))) (by rfl) (by walk_at "p"))
   (zac (@zau _ _ (9) _ _ _ _ sc_law_scene.nd rfl (Or.inl rfl) (@zaO _ _ _ _ (@zaa _ _ _ _ _ (@zaO _ _ _ _ (@zae _)) (@zaa _ _ _ _ _ (@pv _ 7 _ _ (by rfl) (by walk_at "o") (by decide) (by decide)) (@zae _) (by rfl)) (by rfl))) (by rfl) (by walk_at "p"))
   (zac (@zbr _ _ _ _ _ _ _ _ PassesOwn.never rfl (@za2 _ _ _ _ _ _ rfl T.range (@zaa _ _ _ _ _ (@pv _ 5 _ _ (by rfl) (by walk_at "o") (by decide) (by decide)) (@zae _) (by rfl)) (by rfl)) (@zaj _ _ (10) _ sc_law_scene.nd rfl (Or.inl rfl) (by walk_at "p")) (@zac _ _ _ _ _ (@zau _ _ (11) _ _ _ _ sc_law_scene.nd rfl (Or.inl rfl) (@zan _ _ _ _ _ _ _ _ zaC (@zan _ _ _ _ _ _ _ _ zbd (@zal _ _ _ _ _ _ _ zas (@pv _ 0 _ _ (by rfl) (by walk_at "o") (by decide) (by decide)) (@zab _ _ _ _) (fun _ _=>rfl)) (@zan _ _ _ _ _ _ _ _ ze1 (@zab _ _ _ _) (@pv _ 10 _ _ (by rfl) (by walk_at "o") (by decide) (by decide)))) (@zab _ _ _ _)) (by rfl) (by walk_at "p")) (@zac _ _ _ _ _ (@zax _ _ _ _ (@zc9 _ _ _ _ _ _ _ _ _ _ _ _ PySem.F.plainAttrs_list PySem.F.slot_list_append PySem.F.type_list_append zaT (@pv _ 8 _ _ (by rfl) (by walk_at "o") (by decide) (by decide)) (@zaa _ _ _ _ _ (@zal _ _ _ _ _ _ _ zas (@zaO _ _ _ _ (@zaa _ _ _ _ _ (@zez _ _ _ _ _ _ _ _ _ _ _ GMLatch_1 (hr.mono (by walk_at "m")) rfl (@zaa _ _ _ _ _ (@pv _ 11 _ _ (by rfl) (by walk_at "o") (by decide) (by decide)) (@zae _) (by rfl)) (by decide) (by rfl) (by rfl)) (@zaa _ _ _ _ _ (@zez _ _ _ _ _ _ _ _ _ _ _ GMMeter_1 (hr.mono (by walk_at "m")) rfl (@zaa _ _ _ _ _ (@pv _ 11 _ _ (by rfl) (by walk_at "o") (by decide) (by decide)) (@zae _) (by rfl)) (by decide) (by rfl) (by rfl)) (@zae _) (by rfl)) (by rfl))) (@za8 _ _ _ _ _ _ _ _ _ zjC (by rfl) T.int zjD (@zaa _ _ _ _ _ (@zbE _ _ _ _ _ _ _ _ zb6 (@zan _ _ _ _ _ _ _ _ zaC (@pv _ 10 _ _ (by rfl) (by walk_at "o") (by decide) (by decide)) (@zab _ _ _ _)) (@zab _ _ _ _) (zaz _)) (@zae _) (by rfl)) (by decide) (by decide) (by rfl) (by rfl)) (fun _ _=>rfl)) (@zae _) (by rfl)) (by rfl) (by rfl) (by rfl) (by rfl) (by rfl)) (by rfl)) (@zag _ _ _ (@zax _ _ _ _ (@zc9 _ _ _ _ _ _ _ _ _ _ _ _ PySem.F.plainAttrs_list PySem.F.slot_list_append PySem.F.type_list_append zaT (@pv _ 9 _ _ (by rfl) (by walk_at "o") (by decide) (by decide)) (@zaa _ _ _ _ _ (@zaO _ _ _ _ (@zaa _ _ _ _ _ (@pv _ 11 _ _ (by rfl) (by walk_at "o") (by decide) (by decide)) (@zae _) (by rfl))) (@zae _) (by rfl)) (by rfl) (by rfl) (by rfl) (by rfl) (by rfl)) (by rfl))))) (by intro _;rfl))
   (zac (@zau _ _ (12) _ _ _ _ sc_law_scene.nd rfl (Or.inl rfl) (@zan _ _ _ _ _ _ _ _ zbR (@zab _ _ _ _) (@pv _ 1 _ _ (by rfl) (by walk_at "o") (by decide) (by decide))) (by rfl) (by walk_at "p"))
   (zac (@zau _ _ (13) _ _ _ _ sc_law_scene.nd rfl (Or.inl rfl) (@zaO _ _ _ _ (@zaa _ _ _ _ _ (@zb4 _ _ _ _ _ (@zaa _ _ _ _ _ (@pv _ 12 _ _ (by rfl) (by walk_at "o") (by decide) (by decide)) (@zaa _ _ _ _ _ (@zab _ _ _ _) (@zaa _ _ _ _ _ (@zar _ _ _ _ _ _ _ _ _ _ G_law_bits_of (hr.mono (by walk_at "m")) rfl (@zaa _ _ _ _ _ (@pv _ 1 _ _ (by rfl) (by walk_at "o") (by decide) (by decide)) (@zaa _ _ _ _ _ (@pv _ 4 _ _ (by rfl) (by walk_at "o") (by decide) (by decide)) (@zaa _ _ _ _ _ (@zal _ _ _ _ _ _ _ zas (@pv _ 0 _ _ (by rfl) (by walk_at "o") (by decide) (by decide)) (@zab _ _ _ _) (fun _ _=>rfl)) (@zae _) (by rfl)) (by rfl)) (by rfl)) (by decide) (by rfl) (by rfl)) (@zaa _ _ _ _ _ (@zab _ _ _ _) (@zaa _ _ _ _ _ (@zdZ _ _ _) (@zae _) (by rfl)) (by rfl)) (by rfl)) (by rfl)) (by rfl))) (@zae _) (by rfl))) (by rfl) (by walk_at "p"))
   (zac (@zax _ _ _ _ (@zc9 _ _ _ _ _ _ _ _ _ _ _ _ PySem.F.plainAttrs_list PySem.F.slot_list_append PySem.F.type_list_append zaT (@pv _ 13 _ _ (by rfl) (by walk_at "o") (by decide) (by decide)) (@zaa _ _ _ _ _ (@zb4 _ _ _ _ _ (@zaa _ _ _ _ _ (@pv _ 12 _ _ (by rfl) (by walk_at "o") (by decide) (by decide)) (@zaa _ _ _ _ _ (@zan _ _ _ _ _ _ _ _ zbR (@zab _ _ _ _) (@pv _ 1 _ _ (by rfl) (by walk_at "o") (by decide) (by decide))) (@zaa _ _ _ _ _ (@zar _ _ _ _ _ _ _ _ _ _ G_law_bits_of (hr.mono (by walk_at "m")) rfl (@zaa _ _ _ _ _ (@pv _ 1 _ _ (by rfl) (by walk_at "o") (by decide) (by decide)) (@zaa _ _ _ _ _ (@pv _ 6 _ _ (by rfl) (by walk_at "o") (by decide) (by decide)) (@zaa _ _ _ _ _ (@zal _ _ _ _ _ _ _ zas (@pv _ 0 _ _ (by rfl) (by walk_at "o") (by decide) (by decide)) (@zab _ _ _ _) (fun _ _=>rfl)) (@zae _) (by rfl)) (by rfl)) (by rfl)) (by decide) (by rfl) (by rfl)) (@zaa _ _ _ _ _ (@zab _ _ _ _) (@zaa _ _ _ _ _ (@zdZ _ _ _) (@zae _) (by rfl)) (by rfl)) (by rfl)) (by rfl)) (by rfl))) (@zae _) (by rfl)) (by rfl) (by rfl) (by rfl) (by rfl) (by rfl)) (by rfl))
   (zac (@zbr _ _ _ _ _ _ _ _ PassesOwn.never rfl (@za2 _ _ _ _ _ _ rfl T.range (@zaa _ _ _ _ _ (@zao _ _ _ _ _ _ _ _ _ (zjB rfl) (by rfl) T.min PyProof.Rows.boot_min (@zaa _ _ _ _ _ (@pv _ 5 _ _ (by rfl) (by walk_at "o") (by decide) (by decide)) (@zaa _ _ _ _ _ (@zab _ _ _ _) (@zae _) (by rfl)) (by rfl)) (by decide) (by decide) (by rfl) (by rfl)) (@zae _) (by rfl)) (by rfl)) (@zaj _ _ (14) _ sc_law_scene.nd rfl (Or.inl rfl) (by walk_at "p")) (@zag _ _ _ (@zax _ _ _ _ (@zc9 _ _ _ _ _ _ _ _ _ _ _ _ PySem.F.plainAttrs_list PySem.F.slot_list_append PySem.F.type_list_append zaT (@pv _ 13 _ _ (by rfl) (by walk_at "o") (by decide) (by decide)) (@zaa _ _ _ _ _ (@zb4 _ _ _ _ _ (@zaa _ _ _ _ _ (@zan _ _ _ _ _ _ _ _ zhJ (@pv _ 12 _ _ (by rfl) (by walk_at "o") (by decide) (by decide)) (@zab _ _ _ _)) (@zaa _ _ _ _ _ (@zan _ _ _ _ _ _ _ _ zhJ (@zan _ _ _ _ _ _ _ _ zbR (@zab _ _ _ _) (@pv _ 1 _ _ (by rfl) (by walk_at "o") (by decide) (by decide))) (@pv _ 14 _ _ (by rfl) (by walk_at "o") (by decide) (by decide))) (@zaa _ _ _ _ _ (@zab _ _ _ _) (@zaa _ _ _ _ _ (@zan _ _ _ _ _ _ _ _ zb5 (@zan _ _ _ _ _ _ _ _ zbd (@zab _ _ _ _) (@pv _ 5 _ _ (by rfl) (by walk_at "o") (by decide) (by decide))) (@pv _ 14 _ _ (by rfl) (by walk_at "o") (by decide) (by decide))) (@zaa _ _ _ _ _ (@zdZ _ _ _) (@zae _) (by rfl)) (by rfl)) (by rfl)) (by rfl)) (by rfl))) (@zae _) (by rfl)) (by rfl) (by rfl) (by rfl) (by rfl) (by rfl)) (by rfl))) (by intro _;rfl))
   (zac (@zcU _ (["k"]) _ _ _ _ _ _ _ _ _ _ (15) _ _ _ [none] sc_law_scene.nd rfl rfl rfl (zaY (by rfl)) (@za2 _ _ _ _ _ _ rfl T.range (@zaa _ _ _ _ _ (@pv _ 5 _ _ (by rfl) (by walk_at "o") (by decide) (by decide)) (@zae _) (by rfl)) (by rfl)) (fun _ _ _ _ _=>(@zaj _ _ (0) _ (show (["k"]:List Str).Nodup by decide +kernel) rfl (Or.inl rfl) (by walk_at "p"))) (fun _ _ _ _ _=>(@ziR _ _ _ (@zay _ _ _ _ _ _ _ _ zgD (@zan _ _ _ _ _ _ _ _ zaC (@pv _ 0 _ _ (by rfl) (by walk_at "o") (by decide) (by decide)) (@zab _ _ _ _)) (@zab _ _ _ _) (zaz _)))) (fun _ _ _ _ _=>(@zan _ _ _ _ _ _ _ _ zbd (@zab _ _ _ _) (@pv _ 0 _ _ (by rfl) (by walk_at "o") (by decide) (by decide)))) (by rfl) (by intro _;rfl))
   (zac (@zaE _ _ _ _ _ _ _ _ (@zay _ _ _ _ _ _ _ _ (zlF (Nat.lt_of_succ_lt (zet hr)) (K:=K) rfl) (@pv _ 15 _ _ (by rfl) (by walk_at "o") (by decide) (by decide)) (@zaO _ _ _ _ (@zae _)) (zaz _)) (@zag _ _ _ (@zax _ _ _ _ (@zc9 _ _ _ _ _ _ _ _ _ _ _ _ PySem.F.plainAttrs_list PySem.F.slot_list_append PySem.F.type_list_append zaT (@pv _ 13 _ _ (by rfl) (by walk_at "o") (by decide) (by decide)) (@zaa _ _ _ _ _ (@zb4 _ _ _ _ _ (@zaa _ _ _ _ _ (@pv _ 12 _ _ (by rfl) (by walk_at "o") (by decide) (by decide)) (@zaa _ _ _ _ _ (@pv _ 12 _ _ (by rfl) (by walk_at "o") (by decide) (by decide)) (@zaa _ _ _ _ _ (@zar _ _ _ _ _ _ _ _ _ _ G_law_bits_of (hr.mono (by walk_at "m")) rfl (@zaa _ _ _ _ _ (@pv _ 1 _ _ (by rfl) (by walk_at "o") (by decide) (by decide)) (@zaa _ _ _ _ _ (@pv _ 4 _ _ (by rfl) (by walk_at "o") (by decide) (by decide)) (@zaa _ _ _ _ _ (@zal _ _ _ _ _ _ _ zas (@pv _ 0 _ _ (by rfl) (by walk_at "o") (by decide) (by decide)) (@zab _ _ _ _) (fun _ _=>rfl)) (@zae _) (by rfl)) (by rfl)) (by rfl)) (by decide) (by rfl) (by rfl)) (@zaa _ _ _ _ _ (@zab _ _ _ _) (@zaa _ _ _ _ _ (@zb4 _ _ _ _ _ (@zaa _ _ _ _ _ (@zal _ _ _ _ _ _ _ zas (@pv _ 15 _ _ (by rfl) (by walk_at "o") (by decide) (by decide)) (@pe_un _ _ _ _ _ _ un_neg (@zab _ _ _ _)) (fun _ _=>rfl)) (@zaa _ _ _ _ _ (@zab _ _ _ _) (@zaa _ _ _ _ _ (@zab _ _ _ _) (@zae _) (by rfl)) (by rfl)) (by rfl))) (@zae _) (by rfl)) (by rfl)) (by rfl)) (by rfl)) (by rfl))) (@zae _) (by rfl)) (by rfl) (by rfl) (by rfl) (by rfl) (by rfl)) (by rfl))) (@zaq _))
   (zac (@zbr _ _ _ _ _ _ _ _ PassesOwn.never rfl (@za2 _ _ _ _ _ _ rfl T.range (@zaa _ _ _ _ _ (@zan _ _ _ _ _ _ _ _ zaC (@zal _ _ _ _ _ _ _ zas (@pv _ 0 _ _ (by rfl) (by walk_at "o") (by decide) (by decide)) (@zab _ _ _ _) (fun _ _=>rfl)) (@zab _ _ _ _)) (@zae _) (by rfl)) (by rfl)) (@zaj _ _ (10) _ sc_law_scene.nd rfl (Or.inl rfl) (by walk_at "p")) (@zac _ _ _ _ _ (@zax _ _ _ _ (@zc9 _ _ _ _ _ _ _ _ _ _ _ _ PySem.F.plainAttrs_list PySem.F.slot_list_append PySem.F.type_list_append zaT (@pv _ 8 _ _ (by rfl) (by walk_at "o") (by decide) (by decide)) (@zaa _ _ _ _ _ (@zez _ _ _ _ _ _ _ _ _ _ _ GMLatch_1 (hr.mono (by walk_at "m")) rfl (@zaa _ _ _ _ _ (@pv _ 10 _ _ (by rfl) (by walk_at "o") (by decide) (by decide)) (@zae _) (by rfl)) (by decide) (by rfl) (by rfl)) (@zae _) (by rfl)) (by rfl) (by rfl) (by rfl) (by rfl) (by rfl)) (by rfl)) (@zag _ _ _ (@zax _ _ _ _ (@zc9 _ _ _ _ _ _ _ _ _ _ _ _ PySem.F.plainAttrs_list PySem.F.slot_list_append PySem.F.type_list_append zaT (@pv _ 9 _ _ (by rfl) (by walk_at "o") (by decide) (by decide)) (@zaa _ _ _ _ _ (@zaO _ _ _ _ (@zaa _ _ _ _ _ (@pv _ 10 _ _ (by rfl) (by walk_at "o") (by decide) (by decide)) (@zae _) (by rfl))) (@zae _) (by rfl)) (by rfl) (by rfl) (by rfl) (by rfl) (by rfl)) (by rfl)))) (by intro _;rfl))
   (zag (@zat _ _ _ _ (@zb4 _ _ _ _ _ (@zaa _ _ _ _ _ (@zan _ _ _ _ _ _ _ _ zbd (@pv _ 1 _ _ (by rfl) (by walk_at "o") (by decide) (by decide)) (@zab _ _ _ _)) (@zaa _ _ _ _ _ (@za8 _ _ _ _ _ _ _ _ _ zbP (by rfl) T.tuple zbg (@zaa _ _ _ _ _ (@pv _ 13 _ _ (by rfl) (by walk_at "o") (by decide) (by decide)) (@zae _) (by rfl)) (by decide) (by decide) (by rfl) (by rfl)) (@zaa _ _ _ _ _ (@pv _ 8 _ _ (by rfl) (by walk_at "o") (by decide) (by decide)) (@zaa _ _ _ _ _ (@ze0 _ _) (@zaa _ _ _ _ _ (@pv _ 9 _ _ (by rfl) (by walk_at "o") (by decide) (by decide)) (@zae _) (by rfl)) (by rfl)) (by rfl)) (by rfl)) (by rfl)))))))))))))))))))))),?rd⟩
  obtain ⟨v,hvf⟩:∃ v:Nat→Nat,∀ i,v i=vals.getD i 0:=⟨_,fun _=>rfl⟩
  have hat:∀ i:Nat,i<12→atI (vN vals) (i:Int)=some (.int (v i:Int)):=fun i h=>by rw [hvf];exact atv (by omega)
  have hvb:∀ i,i<12→v i<2 ^ 31:=fun i h=>by rw [hvf];refine hv _ ?_;rw [List.getD_eq_getElem?_getD,List.getElem?_eq_getElem (show i<vals.length by omega)];exact List.getElem_mem _
  rw [← hvf 6,← hvf 1] at k
  obtain ⟨top,ht1,ht2,et⟩:∃ top:Nat,12≤top∧top≤14∧(12:Int)+(v 0:Int) % 3=(top:Int):=⟨12+v 0 % 3,by omega,by omega,by omega⟩
  obtain ⟨way,hw5,ew⟩:∃ way:Nat,v 1 % 5=way∧(v 1:Int) % 5=(way:Int):=⟨v 1 % 5,rfl,by omega⟩
  have hw:way<5:=by omega
  rw [hw5] at k
  refine ⟨_,rfl,row,_,_,_,rfl,rfl,SqL.of er,hat 0 (by decide),_,_,rfl,rfl,(show (0:Int)<3 by decide),_,_,rfl,rfl,?_⟩
  refine ⟨_,rfl,row,_,_,_,rfl,rfl,SqL.of er,hat 1 (by decide),_,_,rfl,rfl,(show (0:Int)<5 by decide),?_⟩
  dsimp only [za5,List.set]
  rw [et,ew]
  
  obtain ⟨sz,hsz⟩:∃ sz:Nat,sz=([512,1024,2048,4095,4096]:List Nat).getD way 0:=⟨_,rfl⟩
  obtain ⟨on,hon⟩:∃ on:Nat,on=([9,10,11,11,12]:List Nat).getD way 0:=⟨_,rfl⟩
  rw [← hsz] at k
  have hso:2 ^ on≤sz∧sz≤4096∧1≤sz∧on≤12:=by
   rw [hsz,hon]
   rcases (show way=0∨way=1∨way=2∨way=3∨way=4 by omega) with rfl | rfl | rfl | rfl | rfl <;> decide
  have at1:atI [V.int 512,.int 1024,.int 2048,.int 4095,.int 4096] (way:Int)=some (.int (sz:Int)):=by rw [hsz];exact atv (vals:=[512,1024,2048,4095,4096]) (show way<5 by omega)
  have at2:atI [V.int 9,.int 10,.int 11,.int 11,.int 12] (way:Int)=some (.int (on:Int)):=by rw [hon];exact atv (vals:=[9,10,11,11,12]) (show way<5 by omega)
  obtain ⟨mn,hmn,at3⟩:∃ mn:Nat,mn≤98∧atI [V.int ((v 2:Int) % 12),.int ((v 2:Int) % 99)] ((v 3:Int) % 2)=some (.int (mn:Int)):=by
   rcases (show (v 3:Int) % 2=0∨(v 3:Int) % 2=1 by omega) with e | e <;> rw [e]
   ·exact ⟨v 2 % 12,by omega,by show some (V.int ((v 2:Int) % 12))=_;congr 2⟩
   ·exact ⟨v 2 % 99,by omega,by show some (V.int ((v 2:Int) % 99))=_;congr 2⟩
  obtain ⟨wide,wl,hwl,at4,at5⟩:∃ wide wl:Nat,(2 ^ wide≤wl∧wl≤4096∧1≤wl∧wide≤12)∧atI [V.int 8,.int 8,.int 10,.int 12] ((v 5:Int) % 4)=some (.int (wide:Int))∧atI [V.int (256+(v 5:Int) % 300),.int 1024,.int 4096] ((if (wide:Int) - 8 > 0 then (wide:Int) - 8 else 0) / 2)=some (.int (wl:Int)):=by
   rcases (show (v 5:Int) % 4=0∨(v 5:Int) % 4=1∨(v 5:Int) % 4=2∨(v 5:Int) % 4=3 by omega) with e | e | e | e <;> rw [e]
   ·exact ⟨8,256+v 5 % 300,⟨by omega,by omega,by omega,by omega⟩,rfl,by show some (V.int (256+(v 5:Int) % 300))=_;congr 2⟩
   ·exact ⟨8,256+v 5 % 300,⟨by omega,by omega,by omega,by omega⟩,rfl,by show some (V.int (256+(v 5:Int) % 300))=_;congr 2⟩
   ·exact ⟨10,1024,by decide,rfl,rfl⟩
   ·exact ⟨12,4096,by decide,rfl,rfl⟩
  refine ⟨by show 5≤sizeLine;decide,fun g1 hg1=>⟨_,rfl,g1,_,_,_,rfl,rfl,SqL.of zad,at1,?_⟩⟩
  refine ⟨by show 5≤sizeLine;decide,fun g2 hg2=>⟨_,rfl,g2,_,_,_,rfl,rfl,SqL.of zad,at2,?_⟩⟩
  have s2:=(zaf (H:=H) (o:=.lst [V.int 512,.int 1024,.int 2048,.int 4095,.int 4096]) hg1).trans (zaf (o:=.lst [V.int 9,.int 10,.int 11,.int 11,.int 12]) hg2)
  refine ⟨_,rfl,row,_,_,_,rfl,rfl,SqL.of (s2 _ _ er),hat 2 (by decide),_,_,rfl,rfl,(show (0:Int)<12 by decide),_,rfl,row,_,_,_,rfl,rfl,SqL.of (s2 _ _ er),hat 2 (by decide),_,_,rfl,rfl,(show (0:Int)<99 by decide),by show 2≤sizeLine;decide,fun g3 hg3=>?_⟩
  have s3:=s2.trans (zaf (o:=.lst [V.int ((v 2:Int) % 12),.int ((v 2:Int) % 99)]) hg3)
  refine ⟨_,rfl,row,_,_,_,rfl,rfl,SqL.of (s3 _ _ er),hat 3 (by decide),_,_,rfl,rfl,(show (0:Int)<2 by decide),g3,_,_,_,rfl,rfl,SqL.of zad,at3,?_⟩
  refine ⟨by show 4≤sizeLine;decide,fun g4 hg4=>?_⟩
  have s4:=s3.trans (zaf (o:=.lst [V.int 8,.int 8,.int 10,.int 12]) hg4)
  refine ⟨_,rfl,row,_,_,_,rfl,rfl,SqL.of (s4 _ _ er),hat 5 (by decide),_,_,rfl,rfl,(show (0:Int)<4 by decide),g4,_,_,_,rfl,rfl,SqL.of zad,at4,?_⟩
  dsimp only [za5,List.set]
  
  refine ⟨_,rfl,row,_,_,_,rfl,rfl,SqL.of (s4 _ _ er),hat 5 (by decide),_,_,rfl,rfl,(show (0:Int)<300 by decide),_,_,rfl,rfl,by show 3≤sizeLine;decide,fun g5 hg5=>?_⟩
  have s5:=s4.trans (zaf (o:=.lst [V.int (256+(v 5:Int) % 300),.int 1024,.int 4096]) hg5)
  refine ⟨_,rfl,_,_,rfl,rfl,_,_,rfl,_,_,rfl,rfl,⟨by decide,by decide +kernel⟩,g5,_,_,_,rfl,rfl,SqL.of zad,at5,_,rfl,by omega,by omega,?_⟩
  rw [Int.toNat_natCast]
  refine zg0 (fun Z=>Same H Z) s5 fun Z sZ=>?_
  have erZ:=sZ _ _ er
  refine zcd (n:=wl) (fun j ys σ Y=>∃ v0,σ=[v0,some (.ref row)]∧ys=vN ((List.range j).map fun k=>(v 4+k * k) % 256)∧Y=Z) (Nat.le_trans hwl.2.1 (by decide)) ⟨none,rfl,rfl,rfl⟩ ?_ ?_ ?_
  ·rintro j ys σ Y ⟨_,_,rfl,_⟩
   rw [zaw,List.length_map,List.length_range];exact Nat.le_refl _
  ·rintro j ys σ Y hj ⟨v0,rfl,rfl,rfl⟩
   rw [Int.zero_add]
   refine ⟨_,rfl,row,_,_,_,rfl,rfl,SqL.of erZ,hat 4 (by decide),_,rfl,_,rfl,_,_,rfl,rfl,zhm (by omega) (by omega),_,_,rfl,rfl,_,_,rfl,rfl,(show (0:Int)<256 by decide),?_⟩
   refine ⟨_,rfl,?_,rfl⟩
   rw [List.range_succ,List.map_append]
   show _ ++ [V.int (((v 4:Int)+(j:Int) * (j:Int)) % 256)]=vN (_ ++ [(v 4+j * j) % 256])
   rw [zbT,show ((v 4:Int)+(j:Int) * (j:Int)) % 256=(((v 4+j * j) % 256:Nat):Int) by norm_cast]
  ·rintro ys σ Y ⟨v0,rfl,rfl,rfl⟩ W hW
   obtain ⟨wd,hwd⟩:∃ wd:List Nat,wd=(List.range wl).map fun k=>(v 4+k * k) % 256:=⟨_,rfl⟩
   rw [← hwd]
   have hwdl:wd.length=wl:=by rw [hwd,List.length_map,List.length_range]
   have hwd5:∀ x∈wd,x≤255:=fun x hx=>by rw [hwd] at hx;obtain ⟨k,_,e⟩:=List.mem_map.mp hx;omega
   have sW:=sZ.trans (zaf (o:=.lst (vN wd)) hW)
   have eW:upd Y W (.lst (vN wd)) W=some (.lst (vN wd)):=zad
   have hWH:H W=none:=sZ.free hW
   generalize upd Y W (.lst (vN wd))=X0 at *
   dsimp only [za5,List.set]
   have er0:=sW _ _ er
   have ev6:(v 6:Int) % 256=((v 6 % 256:Nat):Int):=by omega
   refine ⟨_,rfl,_,rfl,row,_,_,_,rfl,rfl,SqL.of er0,hat 6 (by decide),_,_,rfl,rfl,(show (0:Int)<256 by decide),fun x0 dx0 hx0 hdx0 _=>⟨x0,dx0,sz,_,rfl,by omega,by omega,by omega,by omega,zad,fun p0 X1 hp0 ea0 la0 kp0=>⟨rfl,?_⟩⟩⟩
   have sa0:=zea hx0 hdx0 kp0
   have fp0:=zeb hx0 hdx0 hp0
   refine ⟨_,rfl,fun x1 dx1 hx1 hdx1 _=>⟨x1,dx1,W,wd,rfl,zeW hx1 hdx1 _ _ (sa0 _ _ eW),by omega,by omega,hwd5,zad,fun p1 X2 hp1 ea1 la1 kp1=>⟨rfl,?_⟩⟩⟩
   have sa1:=zea hx1 hdx1 kp1
   have fp1:=zeb hx1 hdx1 hp1
   refine ⟨by show 2≤sizeLine;decide,fun CL hCL=>?_⟩
   refine ⟨by show 0≤sizeLine;decide,fun EL hEL=>⟨_,rfl,by show 2≤sizeLine;decide,fun OL hOL=>?_⟩⟩
   dsimp only [za5,List.set]
   have s25:=(zaf (o:=.lst [V.ref x0,.ref x1]) hCL).trans ((zaf (o:=.lst []) hEL).trans (zaf (o:=.lst [V.ref EL,.ref W]) hOL))
   have s3':=sa1.trans s25
   have eC0:upd (upd (upd X2 CL (.lst [V.ref x0,.ref x1])) EL (.lst [])) OL (.lst [V.ref EL,.ref W]) CL=some (.lst [V.ref x0,.ref x1]):=zaf hOL _ _ (zaf hEL _ _ zad)
   have eO0:upd (upd (upd X2 CL (.lst [V.ref x0,.ref x1])) EL (.lst [])) OL (.lst [V.ref EL,.ref W]) OL=some (.lst [V.ref EL,.ref W]):=zad
   have nC:∀ {a:Addr} {u:HO},X2 a=some u→a≠CL:=fun {a u} e q=>by rw [q,hCL] at e;cases e
   have nO:∀ {a:Addr} {u:HO},X2 a=some u→a≠OL:=fun {a u} e q=>by have:=zaf (o:=.lst []) hEL _ _ (zaf (o:=.lst [V.ref x0,.ref x1]) hCL _ _ e);rw [q,hOL] at this;cases this
   have nCO:CL≠OL:=fun q=>by rw [← q,zaf (o:=.lst []) hEL _ _ (zad (H:=X2) (a:=CL) (o:=.lst [V.ref x0,.ref x1]))] at hOL;cases hOL
   have sH2:Same H X2:=sW.trans (sa0.trans sa1)
   have hOX:X2 OL=none:=((zaf (o:=.lst [V.ref x0,.ref x1]) hCL).trans (zaf (o:=.lst []) hEL)).free hOL
   generalize upd (upd (upd X2 CL (.lst [V.ref x0,.ref x1])) EL (.lst [])) OL (.lst [V.ref EL,.ref W])=X5 at *
   obtain ⟨us,hus⟩:∃ us,us=us6 mn sz (v 6 % 256) wd (v 7):=⟨_,rfl⟩
   have u0:us 0=List.replicate sz (v 6 % 256):=by rw [hus];rfl
   have u1:us 1=wd:=by rw [hus];rfl
   have K0:Kd 0 0 (us 0):=by rw [u0];exact ⟨by decide,fun w hw=>by have:=List.eq_of_mem_replicate hw;omega,by rw [List.length_replicate];omega,fun _=>by rw [List.length_replicate];omega,fun h=>absurd h (by decide),fun h=>absurd h (by decide),by decide⟩
   have K1:Kd 1 0 (us 1):=by rw [u1];exact ⟨by decide,hwd5,by omega,fun _=>by omega,fun h=>absurd h (by decide),fun h=>absurd h (by decide),by decide⟩
   have nW:W≠p0:=fun q=>by rw [← q,eW] at fp0;cases fp0
   have nW1:W≠p1:=fun q=>by rw [← q,sa0 _ _ eW] at fp1;cases fp1
   have np01:p0≠p1:=fun q=>by rw [← q,la0] at fp1;cases fp1
   have lt2:∀ i,i<2→i=0∨i=1:=fun i h=>by omega
   obtain ⟨DK,hDK⟩:∃ DK:Nat→Nat,DK=kd6 mn:=⟨_,rfl⟩
   have dk0:DK 0=0:=by rw [hDK];rfl
   have dk1:DK 1=1:=by rw [hDK];rfl
   have b0:Bl6 cs H X5 CL OL ⟨2,fun j=>if j=0 then x0 else x1,fun j=>if j=0 then p0 else p1,DK,fun _=>0,fun i=>zaQ (DK i) (us i)⟩ (fun j=>if j=0 then EL else W) us:=by
    obtain ⟨dx0',ex0⟩:=ea0
    obtain ⟨dx1',ex1⟩:=ea1
    refine ⟨⟨fun i h=>?_,fun i h=>?_,fun i h=>?_,fun i h=>rfl,fun i j hi hj e=>?_,by show 2≤200;decide⟩,eC0,eO0,fun i h1 h=>?_,fun i h=>?_,fun i h1 h=>?_,fun i j h1 h hj=>?_,fun i j h1 h2 h h' _=>?_,⟨sH2.free hCL,sH2.free hOX,nCO⟩,Nat.le_refl _,sW.trans (sa0.trans s3')⟩
    ·rcases lt2 i h with rfl | rfl
     ·show Chp cs X5 x0 p0 (DK 0) 0 (us 0)
      rw [dk0,u0]
      exact ⟨⟨dx0',s3' _ _ ex0⟩,s3' _ _ (by rw [la0,ev6,vN_rep])⟩
     ·show Chp cs X5 x1 p1 (DK 1) 0 (us 1)
      rw [dk1,u1]
      exact ⟨⟨dx1',s25 _ _ ex1⟩,s25 _ _ la1⟩
    ·rcases lt2 i h with rfl | rfl
     ·show Kd (DK 0) 0 (us 0);rw [dk0];exact K0
     ·show Kd (DK 1) 0 (us 1);rw [dk1];exact K1
    ·intro hk
     rcases lt2 i h with rfl | rfl
     ·have hk:DK 0=2∨DK 0=3:=hk;omega
     ·have hk:DK 1=2∨DK 1=3:=hk;omega
    ·rcases lt2 i hi with rfl | rfl <;> rcases lt2 j hj with rfl | rfl
     ·rfl
     ·exact absurd e np01
     ·exact absurd e (Ne.symm np01)
     ·rfl
    ·obtain rfl:i=1:=by have h:i<2:=h;omega
     show X5 W=_
     rw [u1]
     exact s3' _ _ (sa0 _ _ eW)
    ·rcases lt2 i h with rfl | rfl
     ·exact ⟨sW.free fp0,nC (sa1 _ _ la0),nO (sa1 _ _ la0)⟩
     ·exact ⟨(sW.trans sa0).free fp1,nC la1,nO la1⟩
    ·obtain rfl:i=1:=by have h:i<2:=h;omega
     exact ⟨hWH,nC (sa1 _ _ (sa0 _ _ eW)),nO (sa1 _ _ (sa0 _ _ eW))⟩
    ·obtain rfl:i=1:=by have h:i<2:=h;omega
     rcases lt2 j hj with rfl | rfl
     ·exact nW
     ·exact nW1
    ·have h:i<2:=h
     have h':j<2:=h'
     omega
   refine ⟨_,rfl,(mn:Int),rfl,by omega,by omega,?_⟩
   rw [Int.toNat_natCast]
   refine zca (n:=mn) (fun i σ X=>∃ (v10 v11:Option V) (D:Dt) (o:Nat→Addr),σ=[some (.ref row),some (.int (top:Int)),some (.int (way:Int)),some (.int (sz:Int)),some (.int (on:Int)),some (.int (mn:Int)),some (.int (wide:Int)),some (.ref W),some (.ref CL),some (.ref OL),v10,v11,none,none,none,none]∧D.m=2+i∧D.kd=DK∧D.n=(fun _=>0)∧D.sz=(fun i=>zaQ (DK i) (us i))∧Bl6 cs H X CL OL D o us) ⟨none,none,_,_,rfl,rfl,rfl,rfl,rfl,b0⟩ ?_ ?_
   ·rintro i σ X hi ⟨v10,v11,D,o,rfl,hDm,hDk,hDn,hDs,b⟩
    rw [Int.zero_add]
    have erX:=b.s _ _ er
    obtain ⟨e1,he1⟩:∃ e1:Nat,e1=(v 7+37 * i) % 256:=⟨_,rfl⟩
    have ee:((v 7:Int)+37 * (i:Int)) % 256=(e1:Int):=by rw [he1];omega
    have usi:us D.m=[e1]:=by rw [hus,hDm,he1];unfold us6;rw [if_neg (by omega),if_neg (by omega),if_pos (by omega),show 2+i - 2=i by omega]
    refine ⟨_,rfl,row,_,_,_,rfl,rfl,SqL.of erX,hat 7 (by decide),_,rfl,_,_,rfl,rfl,zhm (by decide) (by omega),_,_,rfl,rfl,_,_,rfl,rfl,(show (0:Int)<256 by decide),?_⟩
    dsimp only [za5,List.set]
    rw [ee]
    refine ⟨_,rfl,.inl ⟨rfl,_,SqL.of b.eC⟩,_,rfl,fun xa da hxa hda _=>⟨xa,da,(e1:Int),rfl,by omega,by omega,zad,fun pa Xa hpa ea la ka=>⟨rfl,?_⟩⟩⟩
    have sa:=zea hxa hda ka
    have fa:=zeb hxa hda hpa
    refine ⟨_,rfl,fun xb db hxb hdb _=>⟨xb,db,(e1:Int),rfl,by omega,by omega,zad,fun pb Xb hpb eb lb kb=>⟨rfl,?_⟩⟩⟩
    have sb:=zea hxb hdb kb
    have fb:=zeb hxb hdb hpb
    refine ⟨by show 2≤sizeLine;decide,fun gL hgL=>?_⟩
    have sg:=sb.trans (zaf (o:=.lst [V.ref xa,.ref xb]) hgL)
    obtain ⟨xc,pc,hxc,oc,hpc⟩:∃ xc pc:Addr,atI [V.ref xa,.ref xb] (if decide (V.int ((i:Int) % 3)=V.int 1)=true then 1 else 0)=some (.ref xc)∧Chp cs (upd Xb gL (.lst [V.ref xa,.ref xb])) xc pc (D.kd D.m) (D.n D.m) (us D.m)∧X pc=none:=by
     rw [hDk,hDn,usi,hDK,hDm]
     by_cases h3:i % 3=1
     ·rw [decide_eq_true (show V.int ((i:Int) % 3)=V.int 1 by congr 1;omega),show kd6 mn (2+i)=3 by unfold kd6;rw [if_neg (by omega),if_neg (by omega),if_pos ⟨by omega,by omega⟩]]
      obtain ⟨d,e⟩:=eb
      exact ⟨xb,pb,rfl,⟨⟨d,zaf hgL _ _ e⟩,zaf hgL _ _ lb⟩,sa.free fb⟩
     ·rw [decide_eq_false (show ¬ V.int ((i:Int) % 3)=V.int 1 from fun z=>h3 (by have:=V.int.inj z;omega)),show kd6 mn (2+i)=2 by unfold kd6;rw [if_neg (by omega),if_neg (by omega),if_neg (fun z=>by omega)]]
      obtain ⟨d,e⟩:=ea
      exact ⟨xa,pa,rfl,⟨⟨d,sg _ _ e⟩,sg _ _ la⟩,fa⟩
    refine ⟨_,rfl,_,_,rfl,rfl,(show (0:Int)<3 by decide),rfl,.inr ⟨_,rfl,gL,_,_,_,rfl,rfl,SqL.of zad,hxc,?_⟩⟩
    have sX:=sa.trans sg
    generalize upd Xb gL (.lst [V.ref xa,.ref xb])=Xg at *
    refine ⟨CL,_,_,rfl,rfl,sX _ _ b.eC,by rw [zcY,hDm];exact zaN (by omega),?_⟩
    have eO2:upd Xg CL (.lst (chL D ++ [.ref xc])) OL=some (.lst (mdL D o)):=by rw [zai (Ne.symm b.fC.2.2)];exact sX _ _ b.eO
    refine ⟨_,rfl,.inl ⟨rfl,_,SqL.of eO2⟩,_,rfl,by show 1≤sizeLine;decide,fun r hr'=>⟨OL,_,_,rfl,rfl,zaf hr' _ _ eO2,by rw [zgR,hDm];exact zaN (by omega),?_⟩⟩
    have kk:Kd (D.kd D.m) (D.n D.m) (us D.m):=by rw [hDk,hDn,usi,hDK];exact zk6 (zlT (by omega)) (by omega)
    have b':=b.add sX hpc oc kk (fun _=>by rw [usi];rfl) (by rw [hDk,hDs]) (by omega) hr'
    rw [usi] at b'
    exact ⟨_,_,D.add xc pc,_,rfl,by show D.m+1=_;omega,hDk,hDn,hDs,b'⟩
   ·rintro σ X ⟨v10,v11,D,o,rfl,hDm,hDk,hDn,hDs,b⟩
    dsimp only
    have erX:=b.s _ _ er
    have p3:(3:Int) * 2 ^ ((top:Nat):Int).toNat=((3 * 2 ^ top:Nat):Int):=by rw [Int.toNat_natCast];norm_cast
    have p1:(1:Int) * 2 ^ ((top:Nat):Int).toNat=((1 * 2 ^ top:Nat):Int):=by rw [Int.toNat_natCast];norm_cast
    have p2:(2:Int) * 2 ^ ((top:Nat):Int).toNat=((2 * 2 ^ top:Nat):Int):=by rw [Int.toNat_natCast];norm_cast
    refine ⟨_,rfl,_,_,rfl,rfl,⟨by omega,by omega,by decide⟩,?_⟩
    dsimp only [za5,List.set]
    rw [p3]
    obtain ⟨hi,hhi⟩:∃ hi:Nat,hi=3 * 2 ^ top:=⟨_,rfl⟩
    rw [← hhi]
    have h8:=hvb 8 (by decide)
    have h9:=hvb 9 (by decide)
    have h10:=hvb 10 (by decide)
    refine ⟨_,rfl,_,rfl,_,rfl,_,rfl,row,_,_,_,rfl,rfl,SqL.of erX,hat 8 (by decide),top,on,_,rfl,by omega,by omega,by omega,by omega,fun r0 Y0 hr0 ho0 sY0=>⟨by show 5≤sizeLine;decide,fun t0 ht0=>⟨by show 1≤sizeLine;decide,fun RL hRL=>?_⟩⟩⟩
    subst hDK
    obtain ⟨⟨f1,f2,f3,f4⟩,fJ⟩:=far61 top ht1 ht2
    rw [← hhi] at f1 f2 f3 f4 fJ
    have ehi:hi=2 ^ top * 3:=by rw [hhi,Nat.mul_comm]
    have q4:2 ^ (top+2)=4 * 2 ^ top:=by rw [Nat.pow_succ,Nat.pow_succ];omega
    have hp0:0<2 ^ top:=Nat.pos_of_ne_zero (by simp)
    have hp5:4096≤2 ^ top:=Nat.le_trans (show 4096≤2 ^ 12 by decide) (Nat.pow_le_pow_right (by decide) ht1)
    have ksz0:zaQ (kd6 mn 0) (us 0)=sz:=by rw [u0];exact List.length_replicate ..
    have ksz1:zaQ (kd6 mn 1) (us 1)=wl:=by rw [u1];exact hwdl
    have gA:∀ (w r c:Nat) (l:Option (Nat×Nat×Nat)),w<2 ^ (top+2)→w &&& hi=w→r<2 ^ top→c≤1→2 ^ ones r≤zaQ (kd6 mn c) (us c)→LatOk l→(∀ x a b,l=some (x,a,b)→2≤x∧x<2+mn∧kd6 mn x=2)→Rg top mn us ⟨hi,w,r,c,l⟩:=fun w r c l hw0 hwm hr hc hs hl hx=>by
     refine ⟨⟨by show hi<2 ^ (top+2);omega,hw0,hwm,by show r<2 ^ (top+2);omega,by show r &&& hi=0;rw [ehi];exact zkN hr,by show c<100;omega,hl⟩,fun D' h1 h2 h3=>⟨by show c<D'.m;omega,by show 2 ^ ones r≤D'.sz c;rw [h2];exact hs,fun x a b e=>⟨by have:=(hx x a b e).2.1;omega,by rw [h1];exact (hx x a b e).2.2⟩⟩,.inl hc,fun x a b e=>(hx x a b e).1⟩
    have gR0:=gA 0 r0 0 none (by omega) (Nat.zero_and _) hr0 (by decide) (by rw [ksz0,ho0];exact hso.1) trivial (fun x a b e=>nomatch e)
    have raA:RwAt (upd (upd Y0 t0 (.tup [.int (hi:Int),.int 0,.int (r0:Int),.int 0,.non])) RL (.lst [.ref t0])) t0 ⟨hi,0,r0,0,none⟩:=⟨.non,zaf hRL _ _ zad,rfl⟩
    have sR:Same X (upd (upd Y0 t0 (.tup [.int (hi:Int),.int 0,.int (r0:Int),.int 0,.non])) RL (.lst [.ref t0])):=sY0.trans ((zaf ht0).trans (zaf hRL))
    have eR:upd (upd Y0 t0 (.tup [.int (hi:Int),.int 0,.int (r0:Int),.int 0,.non])) RL (.lst [.ref t0]) RL=some (.lst (refs [(t0,(⟨hi,0,r0,0,none⟩:Rw))])):=zad
    have hRX:X RL=none:=(sY0.trans (zaf ht0)).free hRL
    generalize upd (upd Y0 t0 (.tup [.int (hi:Int),.int 0,.int (r0:Int),.int 0,.non])) RL (.lst [.ref t0])=Y1 at *
    dsimp only [za5,List.set]
    have erY1:=sR _ _ erX
    refine ⟨_,rfl,.inl ⟨rfl,_,SqL.of eR⟩,_,rfl,_,rfl,_,_,rfl,rfl,⟨by omega,by omega,by decide⟩,_,rfl,_,rfl,_,rfl,row,_,_,_,rfl,rfl,SqL.of erY1,hat 9 (by decide),top,wide,_,rfl,by omega,by omega,by omega,by omega,fun r1 Y2 hr1 ho1 sY2=>⟨by show 5≤sizeLine;decide,fun t1 ht1'=>⟨RL,_,_,rfl,rfl,zaf ht1' _ _ (sY2 _ _ eR),zaN (by show 1≤1000;decide),?_⟩⟩⟩
    have gR1:=gA (1 * 2 ^ top) r1 1 none (by omega) f4 hr1 (by decide) (by rw [ksz1,ho1];exact hwl.1) trivial (fun x a b e=>nomatch e)
    have sY3:=sY2.trans (zaf (o:=.tup [.int (hi:Int),.int ((1:Int) * 2 ^ ((top:Nat):Int).toNat),.int (r1:Int),.int 1,.non]) ht1')
    have raB:RwAt (upd Y2 t1 (.tup [.int (hi:Int),.int ((1:Int) * 2 ^ ((top:Nat):Int).toNat),.int (r1:Int),.int 1,.non])) t1 ⟨hi,1 * 2 ^ top,r1,1,none⟩:=⟨.non,by rw [← p1];exact zad,rfl⟩
    have w2:=zeX (m:=0) (ws:=[(t0,(⟨hi,0,r0,0,none⟩:Rw))]) (fun z hz=>by obtain rfl:=List.mem_singleton.mp hz;exact ⟨raA,gR0⟩) sY3 raB gR1 (sY3 _ _ eR)
    generalize upd Y2 t1 (.tup [.int (hi:Int),.int ((1:Int) * 2 ^ ((top:Nat):Int).toNat),.int (r1:Int),.int 1,.non])=Y3 at *
    rw [zcy _ _ (⟨hi,1 * 2 ^ top,r1,1,none⟩:Rw)]
    have fRL:∀ {Y Z:Hp} {l:List V},Same X Y→Same Y Z→Same X (upd Z RL (.lst l)):=fun {Y Z l} s1 s2 a u e=>by rw [zai (zam e hRX)];exact s2 _ _ (s1 _ _ e)
    have nc2:([(t0,(⟨hi,0,r0,0,none⟩:Rw))] ++ [(t1,(⟨hi,1 * 2 ^ top,r1,1,none⟩:Rw))]).Pairwise fun a b=>NC a.2 b.2:=zgN (List.pairwise_singleton _ _) fun z hz=>by obtain rfl:=List.mem_singleton.mp hz;exact zi3 f1
    obtain ⟨mj,hmj,emj⟩:∃ mj:Nat,(mj≤20∧mj≤mn)∧(if (20:Int)<(mn:Int) then (20:Int) else (mn:Int))=(mj:Int):=by
     by_cases h:(20:Int)<(mn:Int)
     ·exact ⟨20,⟨by omega,by omega⟩,if_pos h⟩
     ·exact ⟨mn,⟨by omega,by omega⟩,if_neg h⟩
    refine ⟨_,rfl,_,_,rfl,_,rfl,?_⟩
    rw [emj]
    refine ⟨by omega,by omega,?_⟩
    rw [Int.toNat_natCast]
    refine zca (n:=mj) (fun i σ Y=>∃ (v14:Option V) (ws:List (Addr×Rw)),σ=[some (.ref row),some (.int (top:Int)),some (.int (way:Int)),some (.int (sz:Int)),some (.int (on:Int)),some (.int (mn:Int)),some (.int (wide:Int)),some (.ref W),some (.ref CL),some (.ref OL),v10,v11,some (.int (hi:Int)),some (.ref RL),v14,none]∧Y RL=some (.lst (refs ws))∧(∀ z∈ws,RwAt Y z.1 z.2∧Rg top mn us z.2)∧ws.Pairwise (fun a b=>NC a.2 b.2)∧ws.length=2+i∧(∀ z∈ws,agr z.2.m z.2.w hi hi=false∧∀ j,i≤j→j<20→agr z.2.m z.2.w (hi ||| 31) (2 * 2 ^ top ||| j)=false)∧Same X Y) ⟨_,_,rfl,zad,w2,nc2,rfl,?_,fRL sR sY3⟩ ?_ ?_
    ·intro z hz
     rcases List.mem_cons.mp hz with rfl | hz
     ·exact ⟨f2,fun j _ hj=>(fJ j hj).1.1⟩
     ·obtain rfl:=List.mem_singleton.mp hz
      exact ⟨f3,fun j _ hj=>(fJ j hj).1.2.1⟩
    ·rintro i σ Y hi' ⟨v14,ws,rfl,eY,hws,hnc,hwl',hfar,sXY⟩
     rw [Int.zero_add]
     obtain ⟨⟨_,_,j3,j4,j5,j6⟩,jj⟩:=fJ i (by omega)
     refine ⟨_,rfl,.inl ⟨rfl,_,SqL.of eY⟩,_,rfl,_,_,rfl,rfl,_,rfl,_,_,rfl,rfl,⟨by omega,by omega,by decide⟩,_,rfl,_,_,rfl,rfl,_,rfl,_,_,rfl,rfl,_,rfl,_,_,rfl,rfl,by show 5≤sizeLine;decide,fun tj htj=>⟨RL,_,_,rfl,rfl,zaf htj _ _ eY,by rw [zaM,hwl'];exact zaN (by omega),?_⟩⟩
     obtain ⟨rj,hrj⟩:∃ rj:Rw,rj=⟨hi ||| 31,2 * 2 ^ top ||| i,0,1+mn - i,none⟩:=⟨_,rfl⟩
     have gJ:Rg top mn us rj:=by
      rw [hrj]
      have ek:kd6 mn (1+mn - i)=if (1+mn - i) % 3=0 then 3 else 2:=by
       unfold kd6
       rw [if_neg (by omega),if_neg (by omega)]
       by_cases h:(1+mn - i) % 3=0
       ·rw [if_pos ⟨by omega,h⟩,if_pos h]
       ·rw [if_neg (fun z=>h z.2),if_neg h]
      refine ⟨⟨j6,j5,j4,by show 0<2 ^ (top+2);omega,Nat.zero_and _,by show 1+mn - i<100;omega,trivial⟩,fun D' h1 h2 h3=>⟨by show 1+mn - i<D'.m;omega,?_,fun x a b e=>nomatch e⟩,.inr ⟨by show 2≤1+mn - i;omega,ek⟩,fun x a b e=>nomatch e⟩
      show 2 ^ ones 0≤D'.sz (1+mn - i)
      obtain ⟨x,hx,_⟩:=zlp (n:=mn) (size:=sz) (a6:=v 6 % 256) (wd:=wd) (a7:=v 7) (i:=1+mn - i) (by omega) (by omega) (by omega)
      rw [ones0,h2,hus]
      show 1≤zaQ (kd6 mn (1+mn - i)) (us6 mn sz (v 6 % 256) wd (v 7) (1+mn - i))
      rw [hx]
      unfold zaQ
      split <;> simp
     have ejw:Builtin.bitOr ((2:Int) * 2 ^ ((top:Nat):Int).toNat) (i:Int)=((2 * 2 ^ top ||| i:Nat):Int):=by rw [p2,bor]
     have ejm:Builtin.bitOr (hi:Int) 31=((hi ||| 31:Nat):Int):=bor hi 31
     have ejc:(1:Int)+(mn:Int) - (i:Int)=((1+mn - i:Nat):Int):=by omega
     have raJ:RwAt (upd Y tj (.tup [.int (Builtin.bitOr (hi:Int) 31),.int (Builtin.bitOr ((2:Int) * 2 ^ ((top:Nat):Int).toNat) (i:Int)),.int 0,.int ((1:Int)+(mn:Int) - (i:Int)),.non])) tj rj:=by
      rw [ejm,ejw,ejc,hrj]
      exact ⟨.non,zad,rfl⟩
     have sJ:=zaf (H:=Y) (o:=.tup [.int (Builtin.bitOr (hi:Int) 31),.int (Builtin.bitOr ((2:Int) * 2 ^ ((top:Nat):Int).toNat) (i:Int)),.int 0,.int ((1:Int)+(mn:Int) - (i:Int)),.non]) htj
     have w3:=zeX (m:=0) hws sJ raJ gJ (sJ _ _ eY)
     refine ⟨_,ws ++ [(tj,rj)],rfl,by rw [zad,zcy _ _ rj],by rw [zcy _ _ rj];exact w3,zgN hnc fun z hz=>zi3 ?_,by rw [List.length_append,hwl'];rfl,fun z hz=>?_,fRL sXY sJ⟩
     ·rw [hrj];exact (hfar z hz).2 i (Nat.le_refl _) (by omega)
     ·rcases List.mem_append.mp hz with hz | hz
      ·exact ⟨(hfar z hz).1,fun j h1 h2=>(hfar z hz).2 j (by omega) h2⟩
      ·obtain rfl:=List.mem_singleton.mp hz
       rw [hrj]
       exact ⟨j3,fun j h1 h2=>(fJ j h2).2 i (by omega) (by omega)⟩
    ·rintro σ Y ⟨v14,ws,rfl,eY,hws,hnc,hwl',hfar,sXY⟩
     dsimp only
     refine ⟨_,rfl,(mn:Int),rfl,by omega,by omega,?_⟩
     rw [Int.toNat_natCast]
     refine zcd (n:=mn) (fun j ys σ Z=>∃ (v0:Option V) (l:List Nat),σ=[v0]∧ys=vN l∧l.length≤j∧(∀ x∈l,2≤x∧x<2+mn∧kd6 mn x=2)∧Z=Y) (Nat.le_trans hmn (by decide)) ⟨none,[],rfl,rfl,Nat.le_refl _,(fun x h=>nomatch h),rfl⟩ ?_ ?_ ?_
     ·rintro j ys σ Z ⟨_,l,_,rfl,hl,_⟩
      rw [zaw];exact hl
     ·rintro j ys σ Z hj ⟨v0,l,rfl,rfl,hl,hx,rfl⟩
      rw [Int.zero_add]
      refine ⟨_,rfl,_,_,rfl,rfl,(show (0:Int)<3 by decide),rfl,_,rfl,ite2 (fun hb=>?_) (fun hb=>?_)⟩
      ·have hb:¬ j % 3=1:=fun z=>by rw [decide_eq_true (show V.int ((j:Int) % 3)=V.int 1 by congr 1;omega)] at hb;cases hb
       refine ⟨_,rfl,_,_,rfl,rfl,?_⟩
       refine ⟨_,l ++ [2+j],rfl,by rw [zbT];rfl,by rw [List.length_append];simp;omega,fun x h=>?_,rfl⟩
       rcases List.mem_append.mp h with h | h
       ·exact hx x h
       ·obtain rfl:=List.mem_singleton.mp h
        exact ⟨by omega,by omega,by unfold kd6;rw [if_neg (by omega),if_neg (by omega),if_neg (fun z=>by omega)]⟩
      ·exact ⟨_,l,rfl,rfl,by omega,hx,rfl⟩
     ·rintro ys σ Z ⟨v0,l,rfl,rfl,hl,hx,rfl⟩ LL hLL
      dsimp only [za5,List.set]
      refine zdm (fun σ H'=>σ=[some (.ref row),some (.int (top:Int)),some (.int (way:Int)),some (.int (sz:Int)),some (.int (on:Int)),some (.int (mn:Int)),some (.int (wide:Int)),some (.ref W),some (.ref CL),some (.ref OL),v10,v11,some (.int (hi:Int)),some (.ref RL),v14,some (.ref LL)]∧H'=upd Z LL (.lst (vN l))) (fun σ H'=>σ=[some (.ref row),some (.int (top:Int)),some (.int (way:Int)),some (.int (sz:Int)),some (.int (on:Int)),some (.int (mn:Int)),some (.int (wide:Int)),some (.ref W),some (.ref CL),some (.ref OL),v10,v11,some (.int (hi:Int)),some (.ref RL),v14,some (.ref LL)]∧∃ ws:List (Addr×Rw),H' RL=some (.lst (refs ws))∧(∀ z∈ws,RwAt H' z.1 z.2∧Rg top mn us z.2)∧ws.Pairwise (fun a b=>NC a.2 b.2)∧ws.length≤30∧Same X H') ?_ ?_ _ _ ⟨rfl,rfl⟩
      ·rintro _ _ ⟨rfl,rfl⟩ N hN
       have sL:=zaf (H:=Z) (o:=.lst (vN l)) hLL
       refine ⟨_,rfl,by show 0≤sizeLine;decide,fun e0 he0=>?_⟩
       have sL0:=sL.trans (zaf (o:=.lst []) he0)
       refine ⟨LL,e0,_,rfl,rfl,SqL.of (zaf he0 _ _ zad),SqL.of zad,_,rfl,ite2 (fun hb=>?_) (fun hb=>zav (hN _ _ ⟨rfl,ws,sL0 _ _ eY,fun z hz=>⟨(hws z hz).1.same sL0,(hws z hz).2⟩,hnc,by omega,sXY.trans sL0⟩))⟩
       obtain ⟨l',x,rfl⟩:∃ l' x,l=l' ++ [x]:=by
        rcases List.eq_nil_or_concat l with rfl | ⟨l',x,rfl⟩
        ·cases hb
        ·exact ⟨l',x,by rw [List.concat_eq_append]⟩
       obtain ⟨x1,x2,x3⟩:=hx x (by simp)
       have eY0:=sL0 _ _ eY
       have erY:=(sXY.trans sL0) _ _ erX
       have eLL:upd (upd Z LL (.lst (vN (l' ++ [x])))) e0 (.lst []) LL=some (.lst (vN (l' ++ [x]))):=zaf he0 _ _ zad
       generalize upd (upd Z LL (.lst (vN (l' ++ [x])))) e0 (.lst [])=Z0 at *
       refine ⟨_,rfl,.inl ⟨rfl,_,SqL.of eY0⟩,_,rfl,_,rfl,_,rfl,_,rfl,_,rfl,row,_,_,_,rfl,rfl,SqL.of erY,hat 10 (by decide),top,on,_,rfl,by omega,by omega,by omega,by omega,fun r2 Z1 hr2 ho2 sZ1=>?_⟩
       refine ⟨_,rfl,_,rfl,LL,_,_,_,rfl,rfl,SqL.of (sZ1 _ _ eLL),(by rw [zbT];exact zkM _ _),by show 3≤sizeLine;decide,fun tl htl=>⟨by show 5≤sizeLine;decide,fun tL htL=>⟨RL,_,_,rfl,rfl,zaf htL _ _ (zaf htl _ _ (sZ1 _ _ eY0)),by rw [zaM,hwl'];exact zaN (by omega),?_⟩⟩⟩
       have sT:=sZ1.trans ((zaf (o:=.tup [.int (x:Int),.int 1,.int 1]) htl).trans (zaf (o:=.tup [.int (hi:Int),.int (hi:Int),.int (r2:Int),.int 0,.ref tl]) htL))
       have gL:=gA hi r2 0 (some (x,1,1)) (by omega) (Nat.and_self _) hr2 (by decide) (by rw [ksz0,ho2];exact hso.1) ⟨by omega,by decide,by decide⟩ (fun x' a b e=>by obtain ⟨rfl,_⟩:=Prod.mk.inj (Option.some.inj e);exact ⟨x1,x2,x3⟩)
       have raL:RwAt (upd (upd Z1 tl (.tup [.int (x:Int),.int 1,.int 1])) tL (.tup [.int (hi:Int),.int (hi:Int),.int (r2:Int),.int 0,.ref tl])) tL ⟨hi,hi,r2,0,some (x,1,1)⟩:=⟨.ref tl,zad,tl,rfl,zaf htL _ _ zad⟩
       have w4:=zeX (m:=0) hws (sL0.trans sT) raL gL (sT _ _ eY0)
       refine hN _ _ ⟨rfl,ws ++ [(tL,⟨hi,hi,r2,0,some (x,1,1)⟩)],by rw [zad,zcy _ _ (⟨hi,hi,r2,0,some (x,1,1)⟩:Rw)],by rw [zcy _ _ (⟨hi,hi,r2,0,some (x,1,1)⟩:Rw)];exact w4,zgN hnc fun z hz=>zi3 (hfar z hz).1,by rw [List.length_append,hwl'];simp;omega,fRL (sXY.trans sL0) sT⟩
      ·rintro _ Z2 ⟨rfl,ws2,eR2,hws2,hnc2,hl2,sX2⟩
       have b2:=b.same sX2
       have nRC:RL≠CL∧RL≠OL:=⟨(fun e=>by rw [e,b.eC] at hRX;cases hRX),(fun e=>by rw [e,b.eO] at hRX;cases hRX)⟩
       have er2:=sX2 _ _ erX
       obtain ⟨ml,hml,eml⟩:∃ ml:Nat,ml≤30∧(v 11:Int) % 31=(ml:Int):=⟨v 11 % 31,by omega,by omega⟩
       refine ⟨_,rfl,row,_,_,_,rfl,rfl,SqL.of er2,hat 11 (by decide),_,_,rfl,rfl,(show (0:Int)<31 by decide),_,rfl,?_⟩
       rw [eml]
       refine ⟨by omega,by omega,?_⟩
       rw [Int.toNat_natCast]
       refine zca (n:=ml) (fun i σ Y=>∃ (v10:Option V) (D:Dt) (o:Nat→Addr),σ=[some (.ref row),some (.int (top:Int)),some (.int (way:Int)),some (.int (sz:Int)),some (.int (on:Int)),some (.int (mn:Int)),some (.int (wide:Int)),some (.ref W),some (.ref CL),some (.ref OL),v10,v11,some (.int (hi:Int)),some (.ref RL),v14,some (.ref LL)]∧D.m=2+mn+i∧D.kd=kd6 mn∧D.n=(fun _=>0)∧D.sz=(fun i=>zaQ (kd6 mn i) (us i))∧Bl6 cs H Y CL OL D o us∧FrC CL OL Z2 Y) ⟨_,D,o,rfl,hDm,hDk,hDn,hDs,b2,fun _ _ _ _ e=>e⟩ ?_ ?_
       ·rintro i σ Y hi' ⟨v10,D,o,rfl,hDm,hDk,hDn,hDs,b,fr⟩
        rw [Int.zero_add]
        have usi:us D.m=[i]:=by rw [hus,hDm];unfold us6;rw [if_neg (by omega),if_neg (by omega),if_neg (by omega)];congr 1;omega
        have kdi:D.kd D.m=2:=by rw [hDk,hDm];unfold kd6;rw [if_neg (by omega),if_neg (by omega),if_neg (fun z=>by omega)]
        refine ⟨_,rfl,.inl ⟨rfl,_,SqL.of b.eC⟩,_,rfl,fun xa da hxa hda _=>⟨xa,da,(i:Int),rfl,by omega,by omega,zad,fun pa Xa hpa ea la ka=>⟨rfl,?_⟩⟩⟩
        have sa:=zea hxa hda ka
        have fa:=zeb hxa hda hpa
        have oc:Chp cs Xa xa pa (D.kd D.m) (D.n D.m) (us D.m):=by rw [kdi,hDn,usi];exact ⟨ea,la⟩
        refine ⟨CL,_,_,rfl,rfl,sa _ _ b.eC,by rw [zcY,hDm];exact zaN (by omega),?_⟩
        have eO2:upd Xa CL (.lst (chL D ++ [.ref xa])) OL=some (.lst (mdL D o)):=by rw [zai (Ne.symm b.fC.2.2)];exact sa _ _ b.eO
        refine ⟨_,rfl,.inl ⟨rfl,_,SqL.of eO2⟩,_,rfl,by show 1≤sizeLine;decide,fun r hr'=>⟨OL,_,_,rfl,rfl,zaf hr' _ _ eO2,by rw [zgR,hDm];exact zaN (by omega),?_⟩⟩
        have b':=b.add sa fa oc (by rw [kdi,hDn,usi];exact zk6 (.inl rfl) (by omega)) (fun _=>by rw [usi];rfl) (by rw [hDk,hDs]) (by omega) hr'
        rw [usi] at b'
        exact ⟨_,D.add xa pa,_,rfl,by show D.m+1=_;omega,hDk,hDn,hDs,b',fun a u h1 h2 e=>zll sa hr' a u h1 h2 (fr a u h1 h2 e)⟩
       ·rintro σ Y ⟨v10,D,o,rfl,hDm,hDk,hDn,hDs,b,fr⟩
        have eR3:=fr _ _ nRC.1 nRC.2 eR2
        have rw3:∀ z∈ws2,RwAt Y z.1 z.2:=fun z hz=>by
         obtain ⟨lt,et',hlt⟩:=(hws2 z hz).1
         have nt:∀ {a:Addr} {l:List V},Z2 a=some (.tup l)→Y a=some (.tup l):=fun {a l} e=>fr _ _ (fun q=>by rw [q,b2.eC] at e;cases e) (fun q=>by rw [q,b2.eO] at e;cases e) e
         refine ⟨lt,nt et',?_⟩
         cases hl:z.2.l with
         | none=>rw [hl] at hlt;exact hlt
         | some q =>
          rw [hl] at hlt
          obtain ⟨u,eu,hu⟩:=hlt
          exact ⟨u,eu,nt hu⟩
        refine ⟨_,rfl,_,_,rfl,rfl,_,rfl,RL,refs ws2,rfl,.inl ⟨SqL.of eR3,fun R hR=>⟨_,rfl,fun cd hcd=>⟨_,rfl,by show 5≤sizeLine;decide,fun sc hsc=>?_⟩⟩⟩⟩
        have s1:=zaf (H:=Y) (o:=HO.tup (refs ws2)) hR
        have s2:=s1.trans (zaf (o:=.dK []) hcd)
        have s3:=s2.trans (zaf (o:=.tup [.int ((top:Int)+2),.ref R,.ref CL,.ref cd,.ref OL]) hsc)
        have bE:=b.same s3
        have em:(top:Int)+2=((top+2:Nat):Int):=by omega
        refine k sc R CL cd OL (top+2) D o us ws2 _ ⟨by rw [← em];exact zad,⟨(zaf hcd).trans (zaf hsc) _ _ zad,(fun z hz=>⟨(rw3 z hz).same s3,(hws2 z hz).2.ok⟩),(fun z hz=>(hws2 z hz).2.fit D hDk hDs (by omega)),hnc2,by omega⟩,by omega,bE.eC,bE.eO,bE.w,⟨[],zaf hsc _ _ zad,Nat.le_refl _,fun c hc=>?_⟩,bE.oj,(fun i h1 h2=>⟨(bE.fo i h1 h2).2.1,(bE.fo i h1 h2).2.2⟩),bE.S.k,bE.S.h1,bE.S.z,⟨by rw [hDk];rfl,by rw [hDk];rfl,bE.m2⟩,(fun z hz=>by rw [hDk];exact (hws2 z hz).2.kz),fun z hz=>(hws2 z hz).2.kl⟩ bE.S (by omega) (by rw [u0];exact List.length_replicate ..) ⟨bE.fp,bE.fo,bE.np,?_,bE.s⟩
        ·rw [u0,List.length_replicate] at hc
         rw [u0]
         show V.int ((v 6 % 256:Nat):Int)=_
         rw [List.getD_eq_getElem?_getD,List.getElem?_replicate,if_pos hc];rfl
        ·exact b.s.free (s1.free hcd)
end
abbrev zdS:Stmt:=top 64
theorem sc_law_who:FnScope ["scene","address","bits","rows","chips","cells","own","k","mask","want","inner","chip","latch"] ["scene","address"] (zah zdS):=⟨rfl,rfl,rfl,by decide +kernel,rfl,by decide +kernel,by decide +kernel⟩
section
variable {P:Program} {w:World} {K:PySem.W.Frag} {mg:Str→Option Value} {base:Heap}
def zeu:Sp:=fun vs H Q _=>∃ (s R CL cd OL:Addr) (D:Dt) (o:Nat→Addr) (us:Nat→List Nat) (ws:List (Addr×Rw)) (plain m nk x:Nat),vs=[.ref s,.int (x:Int)]∧Scn D ws plain o s R CL cd OL m H us nk ∧
 (whoM ws us x=none→∀ H',Same H H'→Q .non H')∧∀ (i:Nat) (z:Addr×Rw),whoM ws us x=some i→ws[i]? = some z→∀ (t:Addr) (H':Hp),H t=none→H' t=some (.tup [.int (i:Int),.int (gath z.2.i x:Int)])→Same H H'→Q (.ref t) H'
theorem zhP {f:Addr} {fd:FuncData} (F:Fun K "_law_who" "_law_who" zdS f fd) (T:Blt mg) (G_law_gathered:Cal P w K mg base 2 "_law_gathered" ["mask","number"] spGL):FnOk P w K mg base CX0 3 f fd ["scene","address"] zeu:=by
 refine F.ok sc_law_who (fun vs H Q E h=>?_) (fun cdv A outer s H vs Q E hr h=>?_)
 ·obtain ⟨s,R,CL,cd,OL,D,o,us,ws,plain,m,nk,x,rfl,_⟩:=h;rfl
 ·obtain ⟨sc,R,CL,cd,OL,D,o,us,ws,plain,m,nk,x,rfl,M,k1,k2⟩:=h
  refine ⟨_,(zac (zbs (pv 0) (zbc rfl (zak (zaj (i:=2) sc_law_who.nd rfl (Or.inl rfl)) (zak (zaj (i:=3) sc_law_who.nd rfl (Or.inl rfl)) (zak (zaj (i:=4) sc_law_who.nd rfl (Or.inl rfl)) (zak (zaj (i:=5) sc_law_who.nd rfl (Or.inl rfl)) (zak (zaj (i:=6) sc_law_who.nd rfl (Or.inl rfl)) zaR)))))))
   (zac (zbr PassesOwn.never rfl (za2 rfl T.range (zaa (zao zaA (by rfl) T.len PySem.boot_len (zaa (pv 3) zae)) zae)) (zaj (i:=7) sc_law_who.nd rfl (Or.inl rfl))
   (zac (zbs (zal zap (pv 3) (pv 7) (fun _ _=>rfl)) (zbc rfl (zak (zaj (i:=8) sc_law_who.nd rfl (Or.inl rfl)) (zak (zaj (i:=9) sc_law_who.nd rfl (Or.inl rfl)) (zak (zaj (i:=10) sc_law_who.nd rfl (Or.inl rfl)) (zak (zaj (i:=11) sc_law_who.nd rfl (Or.inl rfl)) (zak (zaj (i:=12) sc_law_who.nd rfl (Or.inl rfl)) zaR)))))))
   (zag (zaE (PW.pt (zg9 (zay zb6 (zan zbS (pv 1) (pv 8)) (pv 9) (zaz _)) (zgy (PW.pt (zcz (zbq (zch (pv 12))) (zb3 (zay zb6 (zan zbS (zal zas (zal zas (pv 6) (zal zap (pv 12) zab (fun _ _=>rfl)) (fun _ _=>rfl)) zab (fun _ _=>rfl)) (zal zap (pv 12) zab (fun _ _=>rfl))) (zal zap (pv 12) zab (fun _ _=>rfl)) (zaz _)))))))) (zag (zat (zb4 (zaa (pv 7) (zaa (zar G_law_gathered (hr.mono (by walk_at "m")) rfl (zaa (pv 10) (zaa (pv 1) zae))) zae))))) zaq))))
   (zag (zat zdZ)))),?rd⟩
  have hR:=M.rf
  have hm:=M.m16
  refine ⟨_,rfl,sc,_,rfl,SqT.of M.es,rfl,_,_,rfl,_,_,rfl,_,_,rfl,_,_,rfl,_,_,rfl,rfl,?_⟩
  refine ⟨_,rfl,R,_,rfl,.inr (SqT.of hR.e),_,rfl,by omega,by rw [zaM];have:=hR.ln;omega,?_⟩
  rw [Int.toNat_natCast,zaM]
  refine zca (n:=ws.length) (fun i σ X=>∃ (v7 v8 v9 v10 v11 v12:Option V),σ=[some (.ref sc),some (.int (x:Int)),some (.int (m:Int)),some (.ref R),some (.ref CL),some (.ref cd),some (.ref OL),v7,v8,v9,v10,v11,v12]∧(∀ (j:Nat) (q:Addr×Rw),j<i→ws[j]? = some q→ans q.2 x (hld us)=false)∧X=H) ⟨_,_,_,_,_,_,rfl,(fun j q hj=>absurd hj (Nat.not_lt_zero _)),rfl⟩ ?_ ?_
  ·rintro i σ X hi ⟨v3,v4,v5,v6,v7,v8,rfl,hb,rfl⟩
   rw [Int.zero_add]
   have hz:=List.getElem?_eq_getElem hi
   generalize ws[i]=z at hz
   have hzm:=List.mem_of_getElem? hz
   obtain ⟨⟨lt,et,hlt⟩,ok⟩:=hR.r z hzm
   obtain ⟨f1,f2,f3⟩:=hR.f z hzm
   have next:ans z.2 x (hld us)=false→∀ j q,j<i+1→ws[j]? = some q→ans q.2 x (hld us)=false:=fun hn j q hj hq=>by
    rcases (show j<i∨j=i by omega) with e | e
    ·exact hb j q e hq
    ·rw [e,hz] at hq;cases hq;exact hn
   refine ⟨_,rfl,_,rfl,R,_,_,_,rfl,rfl,SqT.of hR.e,zaF (zb2 hz),z.1,_,rfl,SqT.of et,rfl,_,_,rfl,_,_,rfl,_,_,rfl,_,_,rfl,_,_,rfl,rfl,?_⟩
   have em:decide (V.int (Builtin.bitAnd (x:Int) (z.2.m:Int))=V.int (z.2.w:Int))=met z.2 x:=by
    rw [band]
    unfold met
    by_cases h:x &&& z.2.m=z.2.w
    ·rw [decide_eq_true h,h];exact decide_eq_true rfl
    ·rw [decide_eq_false h];exact decide_eq_false fun z=>h (by injection z with z;exact Int.ofNat.inj z)
   refine ⟨_,rfl,_,rfl,_,_,rfl,rfl,_,rfl,rfl,_,rfl,?_⟩
   rw [em]
   have hi32:z.2.i<2 ^ 32:=Nat.lt_of_lt_of_le ok.i0 (Nat.pow_le_pow_right (by decide) (by omega))
   cases hmt:met z.2 x with
   | false=>exact iteF (zav ⟨_,_,_,_,_,_,rfl,next (by unfold ans;rw [hmt,Bool.false_and]),rfl⟩)
   | true =>
    refine iteT ⟨_,rfl,?_⟩
    cases hl:z.2.l with
    | none =>
     rw [hl] at hlt
     obtain rfl:lt = .non:=hlt
     have ha:ans z.2 x (hld us)=true:=by unfold ans awk;rw [hmt,hl];rfl
     refine ⟨_,rfl,iteT (iteT ⟨_,rfl,_,rfl,_,rfl,z.2.i,x,rfl,hi32,fun H1 s1=>⟨by rw [sizeLine_eq];simp,fun t ht=>?_⟩⟩)⟩
     exact k2 i z (zfm hz hb ha) hz t _ (s1.free ht) zad (s1.trans (zaf ht))
    | some o3 =>
     obtain ⟨c,a,b⟩:=o3
     rw [hl] at hlt
     obtain ⟨u,rfl,eu⟩:=hlt
     obtain ⟨g1,g2⟩:=f3 c a b hl
     have dc:=M.w c (by have:=M.kl z hzm c a b hl;omega) g1
     have e1:(vN (us c))[0]? = some (V.int (hld us c:Int)):=by
      have h1:=M.h1 c g1 (.inl g2)
      unfold hld
      cases hu:us c with
      | nil=>rw [hu] at h1;cases h1
      | cons y l=>rfl
     have ek:decide (V.int (Builtin.bitAnd (hld us c:Int) (a:Int))=V.int (b:Int))=awk z.2 (hld us):=by
      rw [band]
      unfold awk
      rw [hl]
      show _=decide (hld us c &&& a=b)
      by_cases h:hld us c &&& a=b
      ·rw [decide_eq_true h,h];exact decide_eq_true rfl
      ·rw [decide_eq_false h];exact decide_eq_false fun z=>h (by injection z with z;exact Int.ofNat.inj z)
     refine ⟨_,rfl,iteF ⟨_,rfl,_,rfl,u,_,_,_,rfl,rfl,SqT.of eu,rfl,OL,_,_,_,rfl,rfl,SqL.of M.eO,zaF (zfJ g1),o c,_,_,_,rfl,rfl,SqL.of dc,(zaF (j:=0) e1:atI _ ((0:Nat):Int)=_),_,rfl,u,_,_,_,rfl,rfl,SqT.of eu,rfl,_,_,rfl,rfl,_,rfl,u,_,_,_,rfl,rfl,SqT.of eu,rfl,rfl,_,rfl,?_⟩⟩
     rw [ek]
     cases hk:awk z.2 (hld us) with
     | false=>exact iteF (zav ⟨_,_,_,_,_,_,rfl,next (by unfold ans;rw [hk,Bool.and_false]),rfl⟩)
     | true =>
      refine iteT ⟨_,rfl,_,rfl,_,rfl,z.2.i,x,rfl,hi32,fun H1 s1=>⟨by rw [sizeLine_eq];simp,fun t ht=>?_⟩⟩
      exact k2 i z (zfm hz hb (by unfold ans;rw [hmt,hk];rfl)) hz t _ (s1.free ht) zad (s1.trans (zaf ht))
  ·rintro σ X ⟨v3,v4,v5,v6,v7,v8,rfl,hb,rfl⟩
   exact k1 (zjN fun j q hq=>hb j q (List.getElem?_eq_some_iff.mp hq).1 hq) X (Same.refl _)
end
abbrev zcQ:Stmt:=top 65
theorem sc_law_look:FnScope ["scene","plain","address","floating","found","chip"] ["scene","plain","address","floating"] (zah zcQ):=⟨rfl,rfl,rfl,by decide +kernel,rfl,by decide +kernel,by decide +kernel⟩
section
variable {P:Program} {w:World} {K:PySem.W.Frag} {mg:Str→Option Value} {base:Heap}
theorem klk_is {kd c:Nat} {l:List Nat} (h:kd≠4):klk kd l c=l.getD c 0:=by unfold klk;rw [if_neg h]
theorem Scn.kind {D:Dt} {ws:List (Addr×Rw)} {plain:Nat} {o:Nat→Addr} {s R CL cd OL:Addr} {m:Nat} {Y:Hp} {us:Nat→List Nat} {nk:Nat} (M:Scn D ws plain o s R CL cd OL m Y us nk) {z:Addr×Rw} (hz:z∈ws) (x:Nat) :
  D.kd z.2.c≠4∧gath z.2.i x<(us z.2.c).length∧(z.2.c=0→D.kd z.2.c=0)∧(z.2.c=1→D.kd z.2.c=1)∧(2≤z.2.c→(D.kd z.2.c=if z.2.c % 3=0 then 3 else 2)∧(us z.2.c).length=1):=by
 obtain ⟨f1,f2,_⟩:=M.rf.f z hz
 obtain ⟨k0,k1,_⟩:=M.k0
 have hk:(z.2.c=0→D.kd z.2.c=0)∧(z.2.c=1→D.kd z.2.c=1)∧(2≤z.2.c→(D.kd z.2.c=if z.2.c % 3=0 then 3 else 2)):=⟨(fun e=>by rw [e];exact k0),(fun e=>by rw [e];exact k1),(fun e=>by rcases M.kz z hz with h | h;omega;exact h.2)⟩
 have h4:D.kd z.2.c≠4:=by
  rcases (show z.2.c=0∨z.2.c=1∨2≤z.2.c by omega) with e | e | e
  ·rw [hk.1 e];decide
  ·rw [hk.2.1 e];decide
  ·rw [hk.2.2 e];split <;> decide
 have hz':=M.z _ f1
 unfold zaQ at hz'
 rw [if_neg h4] at hz'
 refine ⟨h4,by rw [hz'];exact Nat.lt_of_lt_of_le (zgY _ _) f2,hk.1,hk.2.1,fun e=>⟨hk.2.2 e,M.h1 _ f1 ?_⟩⟩
 rw [hk.2.2 e]
 split
 ·exact .inr rfl
 ·exact .inl rfl
def zgg:Sp:=fun vs H Q _=>∃ (s R CL cd OL:Addr) (D:Dt) (o:Nat→Addr) (us:Nat→List Nat) (ws:List (Addr×Rw)) (plain m nk x f0:Nat),vs=[.ref s,.int (plain:Int),.int (x:Int),.int (f0:Int)]∧Scn D ws plain o s R CL cd OL m H us nk∧nk≤100∧∀ H',Same H H'→Q (.int (rdMW ws D us f0 x:Int)) H'
theorem zgK {f:Addr} {fd:FuncData} (F:Fun K "_law_look" "_law_look" zcQ f fd) (T:Blt mg) (G_law_who:Cal P w K mg base 3 "_law_who" ["scene","address"] zeu):FnOk P w K mg base CX0 4 f fd ["scene","plain","address","floating"] zgg:=by
 refine F.ok sc_law_look (fun vs H Q E h=>?_) (fun cdv A outer s H vs Q E hr h=>?_)
 ·obtain ⟨s,R,CL,cd,OL,D,o,us,ws,plain,m,nk,x,f0,rfl,_⟩:=h;rfl
 ·obtain ⟨sc,R,CL,cd,OL,D,o,us,ws,plain,m,nk,x,f0,rfl,M,hnk,k⟩:=h
  refine ⟨_,(zac (zau (i:=4) sc_law_look.nd rfl (Or.inl rfl) (zar G_law_who (hr.mono (by walk_at "m")) rfl (zaa (pv 0) (zaa (pv 2) zae))))
   (zac (zaE (zbq (zch (pv 4))) (zag (zat (pv 3))) zaq)
   (zac (zau (i:=5) sc_law_look.nd rfl (Or.inl rfl) (zal zap (zal zap (zal zap (pv 0) zab (fun _ _=>rfl)) (zal zap (pv 4) zab (fun _ _=>rfl)) (fun _ _=>rfl)) zab (fun _ _=>rfl)))
   (zac (zaE (zay zb6 (pv 5) zab (zaz _)) (zag (zat (zdp (zet hr) (zal zap (pv 0) zab (fun _ _=>rfl)) (zal zap (pv 4) zab (fun _ _=>rfl)) (pv 1) ⟨rfl,rfl,rfl,rfl⟩))) zaq)
   (zag (zat (zal zas (zal zas (zal zap (pv 0) zab (fun _ _=>rfl)) (pv 5) (fun _ _=>rfl)) (zal zap (pv 4) zab (fun _ _=>rfl)) (fun _ _=>rfl)))))))),?rd⟩
  refine ⟨_,rfl,_,rfl,sc,R,CL,cd,OL,D,o,us,ws,plain,m,nk,x,rfl,M,fun hw H1 s1=>?_,fun i z hw hz t H1 ht et s1=>?_⟩
  ·rw [show rdMW ws D us f0 x=f0 by unfold rdMW;rw [hw]] at k
   exact ⟨_,rfl,_,rfl,iteT ⟨_,rfl,k H1 s1⟩⟩
  ·rw [show rdMW ws D us f0 x=klk (D.kd z.2.c) (us z.2.c) (gath z.2.i x) by unfold rdMW;rw [hw];dsimp only;rw [hz]] at k
   have hzm:=List.mem_of_getElem? hz
   obtain ⟨h4,hg,h0,h1,h2⟩:=M.kind hzm x
   obtain ⟨f1,_,_⟩:=M.rf.f z hzm
   have M1:=M.same s1
   obtain ⟨lt,etz,_⟩:=(M1.rf.r z hzm).1
   rw [klk_is h4] at k
   refine ⟨_,rfl,_,rfl,iteF (zav ?_)⟩
   dsimp only
   refine ⟨_,rfl,sc,_,_,_,rfl,rfl,SqT.of M1.es,rfl,_,rfl,t,_,_,_,rfl,rfl,SqT.of et,rfl,R,_,_,_,rfl,rfl,SqT.of M1.rf.e,zaF (zb2 hz),z.1,_,_,_,rfl,rfl,SqT.of etz,rfl,?_⟩
   refine ⟨_,rfl,rfl,_,rfl,?_⟩
   by_cases e0:z.2.c=0
   ·rw [decide_eq_true (show V.int (z.2.c:Int)=V.int 0 by rw [e0];rfl)]
    obtain ⟨kvs,ed,hl,hd⟩:=M1.d
    rw [e0] at hg k
    refine iteT ⟨_,rfl,sc,_,_,_,rfl,rfl,SqT.of M1.es,rfl,cd,rfl,.inl ⟨_,.inl ed⟩,_,rfl,t,_,_,_,rfl,rfl,SqT.of et,rfl,_,rfl,_,DGet.k (k:=Sum.inl (gath z.2.i x:Int)) ed,?_⟩
    rw [hd _ hg]
    exact k H1 s1
   ·rw [decide_eq_false (show ¬ V.int (z.2.c:Int)=V.int 0 from fun q=>e0 (by have:=V.int.inj q;omega))]
    refine iteF (zav ?_)
    dsimp only
    refine ⟨_,rfl,sc,_,_,_,rfl,rfl,SqT.of M1.es,rfl,_,rfl,OL,_,_,_,rfl,rfl,SqL.of M1.eO,zaF (zfJ f1),_,rfl,t,_,_,_,rfl,rfl,SqT.of et,rfl,o z.2.c,_,_,_,rfl,rfl,SqL.of (M1.w _ (by omega) f1),atv hg,k H1 s1⟩
end
abbrev zdT:Stmt:=top 66
theorem sc_law_put:FnScope ["scene","address","word","found","chip"] ["scene","address","word"] (zah zdT):=⟨rfl,rfl,rfl,by decide +kernel,rfl,by decide +kernel,by decide +kernel⟩
section
variable {P:Program} {w:World} {K:PySem.W.Frag} {mg:Str→Option Value} {base:Heap}
def FrO (D:Dt) (o:Nat→Addr) (cd:Addr) (Y Z:Hp):Prop:=∀ a u,a≠cd→(∀ i,1≤i→i<D.m→a≠o i)→Y a=some u→Z a=some u
theorem FrO.of {D:Dt} {o:Nat→Addr} {cd:Addr} {Y Z:Hp} (s:Same Y Z):FrO D o cd Y Z:=fun a u _ _ e=>s a u e
theorem zdu (us:Nat→List Nat) (i:Nat):wset us i (us i)=us:=by funext j;unfold wset;split;rename_i e;rw [e];rfl
theorem zdw (us:Nat→List Nat) (i:Nat) (l:List Nat):wset us i l i=l:=if_pos rfl
theorem zdv (us:Nat→List Nat) {i j:Nat} (l:List Nat) (h:j≠i):wset us i l j=us j:=if_neg h
theorem Scn.put {D:Dt} {ws:List (Addr×Rw)} {plain:Nat} {o:Nat→Addr} {s R CL cd OL:Addr} {m:Nat} {Y:Hp} {us:Nat→List Nat} {nk c:Nat} {l:List Nat} (M:Scn D ws plain o s R CL cd OL m Y us nk) (h1:1≤c) (hc:c<D.m) (kv:Kd (D.kd c) (D.n c) l) (hl:l.length=(us c).length):Scn D ws plain o s R CL cd OL m (upd Y (o c) (.lst (vN l))) (wset us c l) nk:=by
 have ew:=M.w c h1 hc
 obtain ⟨kvs,ed,r⟩:=M.d
 have ne:∀ {a:Addr} {u:HO},Y a=some u→(∀ x,u≠.lst x)→upd Y (o c) (.lst (vN l)) a=some u:=fun {a u} e hu=>by
  rw [zai (fun q=>by rw [q,ew] at e;exact hu _ (Option.some.inj e).symm)];exact e
 refine ⟨ne M.es (by intros;exact (fun q=>by cases q)),⟨ne M.rf.e (by intros;exact (fun q=>by cases q)),(fun z hz=>⟨(M.rf.r z hz).1.updB ew,(M.rf.r z hz).2⟩),M.rf.f,M.rf.nc,M.rf.ln⟩,M.m16,by rw [zai (Ne.symm (M.oC c h1 hc).1)];exact M.eC,by rw [zai (Ne.symm (M.oC c h1 hc).2)];exact M.eO,fun i a b=>?_,⟨kvs,ne ed (by intros;exact (fun q=>by cases q)),by rw [zdv us l (by omega)];exact r⟩,M.oj,M.oC,fun i h=>?_,fun i h=>?_,fun i h=>?_,M.k0,M.kz,M.kl⟩
 ·by_cases e:i=c
  ·subst e;rw [zad,zdw]
  ·rw [zai (fun q=>e (M.oj i c a h1 b hc q)),zdv us l e];exact M.w i a b
 all_goals
  by_cases e:i=c
  ·subst e
   rw [zdw]
   first | exact kv | (intro hk;rw [hl];exact M.h1 i h hk) | (have:=M.z i h;unfold zaQ at this ⊢;rw [hl];exact this)
  ·rw [zdv us l e]
   first | exact M.k i h | exact M.h1 i h | exact M.z i h
theorem Scn.cell {D:Dt} {ws:List (Addr×Rw)} {plain:Nat} {o:Nat→Addr} {s R CL cd OL:Addr} {m:Nat} {Y:Hp} {us:Nat→List Nat} {nk c v:Nat} {kvs:List (Key×V)} (M:Scn D ws plain o s R CL cd OL m Y us nk) (ed:Y cd=some (.dK kvs)) (hc:c<(us 0).length) (hv:v≤255):Scn D ws plain o s R CL cd OL m (upd Y cd (.dK (putK kvs (Sum.inl (c:Int)) (.int (v:Int))))) (wset us 0 ((us 0).set c v)) (nk+1):=by
 obtain ⟨kvs',ed',hl,hd⟩:=M.d
 rw [ed] at ed'
 cases ed'
 have ne:∀ {a:Addr} {u:HO},Y a=some u→(∀ x,u≠.dK x)→upd Y cd (.dK (putK kvs (Sum.inl (c:Int)) (.int (v:Int)))) a=some u:=fun {a u} e hu=>by
  rw [zai (fun q=>by rw [q,ed] at e;exact hu _ (Option.some.inj e).symm)];exact e
 have k0:=M.k0.1
 have hm:0<D.m:=by have:=M.k0.2.2;omega
 have nt:∀ {a:Addr} {x:List V},Y a=some (.tup x)→upd Y cd (.dK (putK kvs (Sum.inl (c:Int)) (.int (v:Int)))) a=some (.tup x):=fun {a x} e=>ne e (by intros;exact (fun q=>by cases q))
 refine ⟨nt M.es,⟨nt M.rf.e,(fun z hz=>⟨?_,(M.rf.r z hz).2⟩),M.rf.f,M.rf.nc,M.rf.ln⟩,M.m16,ne M.eC (by intros;exact (fun q=>by cases q)),ne M.eO (by intros;exact (fun q=>by cases q)),fun i a b=>by rw [zdv us _ (by omega)];exact ne (M.w i a b) (by intros;exact (fun q=>by cases q)),⟨_,zad,?_,fun j hj=>?_⟩,M.oj,M.oC,fun i h=>?_,fun i h=>?_,fun i h=>?_,M.k0,M.kz,M.kl⟩
 ·obtain ⟨lt,et,hlt⟩:=(M.rf.r z hz).1
  refine ⟨lt,nt et,?_⟩
  cases hl':z.2.l with
  | none=>rw [hl'] at hlt;exact hlt
  | some q =>
   rw [hl'] at hlt
   obtain ⟨u,eu,hu⟩:=hlt
   exact ⟨u,eu,nt hu⟩
 ·have:=zha kvs (Sum.inl (c:Int)) (V.int (v:Int));omega
 ·rw [zdw,List.length_set] at hj
  rw [zdw,zjP]
  by_cases e:j=c
  ·subst e
   rw [if_pos rfl,List.getD_eq_getElem?_getD,List.getElem?_set_self hj];rfl
  ·rw [if_neg (fun q=>e (by have:=Sum.inl.inj q;omega)),hd j hj,List.getD_eq_getElem?_getD,List.getD_eq_getElem?_getD,List.getElem?_set_ne (Ne.symm e)]
 all_goals
  by_cases e:i=0
  ·subst e
   rw [zdw]
   have hk:=M.k 0 hm
   first
    | (rw [k0] at hk ⊢;have:=hk.wr (c:=c) hv;exact this)
    | (intro hq;omega)
    | (have:=M.z 0 hm;unfold zaQ at this ⊢;rw [List.length_set];exact this)
  ·rw [zdv us _ e]
   first | exact M.k i h | exact M.h1 i h | exact M.z i h
def zij:Sp:=fun vs H Q _=>∃ (s R CL cd OL:Addr) (D:Dt) (o:Nat→Addr) (us:Nat→List Nat) (ws:List (Addr×Rw)) (plain m nk x v:Nat),vs=[.ref s,.int (x:Int),.int (v:Int)]∧Scn D ws plain o s R CL cd OL m H us nk∧nk≤100∧v≤255∧∀ H',Scn D ws plain o s R CL cd OL m H' (wrMU ws D us x v) (nk+1)→FrO D o cd H H'→Q .non H'
theorem Scn.up {D:Dt} {ws:List (Addr×Rw)} {plain:Nat} {o:Nat→Addr} {s R CL cd OL:Addr} {m:Nat} {Y:Hp} {us:Nat→List Nat} {nk:Nat} (M:Scn D ws plain o s R CL cd OL m Y us nk):Scn D ws plain o s R CL cd OL m Y us (nk+1):=by
 obtain ⟨kvs,e,h,r⟩:=M.d
 exact ⟨M.es,M.rf,M.m16,M.eC,M.eO,M.w,⟨kvs,e,by omega,r⟩,M.oj,M.oC,M.k,M.h1,M.z,M.k0,M.kz,M.kl⟩
theorem zhQ {f:Addr} {fd:FuncData} (F:Fun K "_law_put" "_law_put" zdT f fd) (T:Blt mg) (G_law_who:Cal P w K mg base 3 "_law_who" ["scene","address"] zeu):FnOk P w K mg base CX0 4 f fd ["scene","address","word"] zij:=by
 refine F.ok sc_law_put (fun vs H Q E h=>?_) (fun cdv A outer s H vs Q E hr h=>?_)
 ·obtain ⟨s,R,CL,cd,OL,D,o,us,ws,plain,m,nk,x,v,rfl,_⟩:=h;rfl
 ·obtain ⟨sc,R,CL,cd,OL,D,o,us,ws,plain,m,nk,x,v,rfl,M,hnk,hv,k⟩:=h
  refine ⟨_,(zac (zau (i:=3) sc_law_put.nd rfl (Or.inl rfl) (zar G_law_who (hr.mono (by walk_at "m")) rfl (zaa (pv 0) (zaa (pv 1) zae))))
   (zag (zaE (zbq (zcr (pv 3))) (zac (zau (i:=4) sc_law_put.nd rfl (Or.inl rfl) (zal zap (zal zap (zal zap (pv 0) zab (fun _ _=>rfl)) (zal zap (pv 3) zab (fun _ _=>rfl)) (fun _ _=>rfl)) zab (fun _ _=>rfl)))
   (zag (zaE (zay zb6 (pv 4) zab (zaz _)) (zag (ziJ (zet hr) (zal zap (pv 0) zab (fun _ _=>rfl)) (zal zap (pv 3) zab (fun _ _=>rfl)) (pv 2) rfl)) (zag (zaE (zay zfz (pv 4) zab (zaz _)) (zag (zbs (pv 2) (zhc (zal zas (zal zap (pv 0) zab (fun _ _=>rfl)) (pv 4) (fun _ _=>rfl)) zab zdl))) zaq))))) zaq))),?rd⟩
  refine ⟨_,rfl,_,rfl,sc,R,CL,cd,OL,D,o,us,ws,plain,m,nk,x,rfl,M,fun hw H1 s1=>?_,fun i z hw hz t H1 ht et s1=>?_⟩
  ·rw [show wrMU ws D us x v=us by unfold wrMU;rw [hw]] at k
   exact ⟨_,rfl,_,rfl,iteF (zav (k H1 (M.same s1).up (.of s1)))⟩
  ·rw [show wrMU ws D us x v=wset us z.2.c (kwr (D.kd z.2.c) (D.n z.2.c) (us z.2.c) (gath z.2.i x) v) by unfold wrMU;rw [hw];dsimp only;rw [hz]] at k
   have hzm:=List.mem_of_getElem? hz
   obtain ⟨h4,hg,h0,h1,h2⟩:=M.kind hzm x
   obtain ⟨f1,_,_⟩:=M.rf.f z hzm
   have M1:=M.same s1
   obtain ⟨lt,etz,_⟩:=(M1.rf.r z hzm).1
   refine ⟨_,rfl,_,rfl,iteT ?_⟩
   refine ⟨_,rfl,sc,_,_,_,rfl,rfl,SqT.of M1.es,rfl,_,rfl,t,_,_,_,rfl,rfl,SqT.of et,rfl,R,_,_,_,rfl,rfl,SqT.of M1.rf.e,zaF (zb2 hz),z.1,_,_,_,rfl,rfl,SqT.of etz,rfl,?_⟩
   refine ⟨_,rfl,rfl,_,rfl,?_⟩
   by_cases e0:z.2.c=0
   ·rw [decide_eq_true (show V.int (z.2.c:Int)=V.int 0 by rw [e0];rfl)]
    rw [h0 e0,e0] at k
    rw [e0] at hg
    obtain ⟨kvs,ed,hl,hd⟩:=M1.d
    refine iteT ⟨_,rfl,_,rfl,sc,_,_,_,rfl,rfl,SqT.of M1.es,rfl,_,rfl,t,_,_,_,rfl,rfl,SqT.of et,rfl,cd,_,rfl,.inl ⟨kvs,Sum.inl (gath z.2.i x:Int),ed,rfl,zaN (by omega),rfl⟩,?_⟩
    exact k _ (M1.cell ed hg hv) fun a u ha _ e=>by rw [zai ha];exact s1 _ _ e
   ·rw [decide_eq_false (show ¬ V.int (z.2.c:Int)=V.int 0 from fun q=>e0 (by have:=V.int.inj q;omega))]
    refine iteF ⟨_,rfl,_,_,rfl,rfl,_,rfl,ite2 (fun hb=>?_) (fun hb=>?_)⟩
    ·have hb:2≤z.2.c:=by have:=of_decide_eq_true hb;omega
     obtain ⟨hk,hl1⟩:=h2 hb
     have hkd:D.kd z.2.c=2∨D.kd z.2.c=3:=by rw [hk];split;exact .inr rfl;exact .inl rfl
     obtain ⟨w0,hw0⟩:∃ w0,us z.2.c=[w0]:=by
      cases hu:us z.2.c with
      | nil=>rw [hu] at hl1;cases hl1
      | cons y l=>cases l with | nil=>exact ⟨y,rfl⟩ | cons _ _=>rw [hu] at hl1;cases hl1
     have hg0:gath z.2.i x=0:=by omega
     have ek:kwr (D.kd z.2.c) (D.n z.2.c) (us z.2.c) (gath z.2.i x) v=[v]:=by unfold kwr;rw [if_neg h4,if_neg (by omega),hw0,hg0];rfl
     rw [ek] at k
     have ew:=M1.w _ (by omega) f1
     refine ⟨_,rfl,_,rfl,sc,_,_,_,rfl,rfl,SqT.of M1.es,rfl,_,rfl,OL,_,_,_,rfl,rfl,SqL.of M1.eO,zaF (zfJ f1),o z.2.c,_,_,0,rfl,rfl,ew,(by rw [hw0];rfl),?_⟩
     rw [hw0]
     refine k _ (M1.put (l:=[v]) (by omega) f1 ?_ (by rw [hw0];rfl)).up fun a u _ ha e=>by rw [zai (ha _ (by omega) f1)];exact s1 _ _ e
     have hkk:=M.k _ f1
     exact ⟨hkk.k5,fun y hy=>by rw [List.mem_singleton.mp hy];exact hv,by show 1≤4096;decide,fun _=>Nat.le_refl _,fun _=>rfl,fun h=>absurd h h4,hkk.n2⟩
    ·have hb:z.2.c=1:=by
      have:¬ (1:Int)<(z.2.c:Int):=fun q=>hb (decide_eq_true q)
      omega
     rw [h1 hb,hb] at k
     have ek:kwr 1 (D.n 1) (us 1) (gath z.2.i x) v=us 1:=by unfold kwr;rw [if_neg (by decide),if_pos rfl]
     rw [ek,zdu] at k
     exact zav (k H1 M1.up (.of s1))
end
abbrev zcN:Stmt:=top 67
theorem sc_law_used:FnScope ["scene","address","found","words"] ["scene","address"] (zah zcN):=⟨rfl,rfl,rfl,by decide +kernel,rfl,by decide +kernel,by decide +kernel⟩
section
variable {P:Program} {w:World} {K:PySem.W.Frag} {mg:Str→Option Value} {base:Heap}
def zgd:Sp:=fun vs H Q _=>∃ (s R CL cd OL:Addr) (D:Dt) (o:Nat→Addr) (us:Nat→List Nat) (ws:List (Addr×Rw)) (plain m nk x:Nat),vs=[.ref s,.int (x:Int)]∧Scn D ws plain o s R CL cd OL m H us nk∧∀ H',Scn D ws plain o s R CL cd OL m H' (rdMU ws D us x) nk→FrO D o cd H H'→Q .non H'
theorem zgI {f:Addr} {fd:FuncData} (F:Fun K "_law_used" "_law_used" zcN f fd) (T:Blt mg) (G_law_who:Cal P w K mg base 3 "_law_who" ["scene","address"] zeu):FnOk P w K mg base CX0 4 f fd ["scene","address"] zgd:=by
 refine F.ok sc_law_used (fun vs H Q E h=>?_) (fun cdv A outer s H vs Q E hr h=>?_)
 ·obtain ⟨s,R,CL,cd,OL,D,o,us,ws,plain,m,nk,x,rfl,_⟩:=h;rfl
 ·obtain ⟨sc,R,CL,cd,OL,D,o,us,ws,plain,m,nk,x,rfl,M,k⟩:=h
  refine ⟨_,(zac (zau (i:=2) sc_law_used.nd rfl (Or.inl rfl) (zar G_law_who (hr.mono (by walk_at "m")) rfl (zaa (pv 0) (zaa (pv 1) zae))))
   (zag (zaE (PW.pt (zg9 (zbq (zcr (pv 2))) (zg9 (zay zfz (zal zap (zal zap (zal zap (pv 0) zab (fun _ _=>rfl)) (zal zap (pv 2) zab (fun _ _=>rfl)) (fun _ _=>rfl)) zab (fun _ _=>rfl)) zab (zaz _)) (zgy (zay zb6 (zan zaC (zal zap (zal zap (zal zap (pv 0) zab (fun _ _=>rfl)) (zal zap (pv 2) zab (fun _ _=>rfl)) (fun _ _=>rfl)) zab (fun _ _=>rfl)) zab) zab (zaz _)))))) (zac (zau (i:=3) sc_law_used.nd rfl (Or.inl rfl) (zal zas (zal zap (pv 0) zab (fun _ _=>rfl)) (zal zap (zal zap (zal zap (pv 0) zab (fun _ _=>rfl)) (zal zap (pv 2) zab (fun _ _=>rfl)) (fun _ _=>rfl)) zab (fun _ _=>rfl)) (fun _ _=>rfl)))
   (zag (zbs (zan zaC (zan zbd (zal zas (pv 3) zab (fun _ _=>rfl)) zab) zab) (zhc (pv 3) zab zdl)))) zaq))),?rd⟩
  refine ⟨_,rfl,_,rfl,sc,R,CL,cd,OL,D,o,us,ws,plain,m,nk,x,rfl,M,fun hw H1 s1=>?_,fun i z hw hz t H1 ht et s1=>?_⟩
  ·rw [show rdMU ws D us x=us by unfold rdMU;rw [hw]] at k
   exact ⟨_,rfl,_,rfl,iteF (zav (k H1 (M.same s1) (.of s1)))⟩
  ·rw [show rdMU ws D us x=wset us z.2.c (krd (D.kd z.2.c) (us z.2.c) (gath z.2.i x)) by unfold rdMU;rw [hw];dsimp only;rw [hz]] at k
   have hzm:=List.mem_of_getElem? hz
   obtain ⟨h4,hg,h0,h1,h2⟩:=M.kind hzm x
   obtain ⟨f1,_,_⟩:=M.rf.f z hzm
   have M1:=M.same s1
   obtain ⟨lt,etz,_⟩:=(M1.rf.r z hzm).1
   have stay:D.kd z.2.c≠3→krd (D.kd z.2.c) (us z.2.c) (gath z.2.i x)=us z.2.c:=fun h3=>by unfold krd;rw [if_neg h3,if_neg (fun q=>h4 q.1)]
   refine ⟨_,rfl,_,rfl,iteT ?_⟩
   refine ⟨_,rfl,sc,_,_,_,rfl,rfl,SqT.of M1.es,rfl,_,rfl,t,_,_,_,rfl,rfl,SqT.of et,rfl,R,_,_,_,rfl,rfl,SqT.of M1.rf.e,zaF (zb2 hz),z.1,_,_,_,rfl,rfl,SqT.of etz,rfl,_,_,rfl,rfl,_,rfl,?_⟩
   by_cases hb:2≤z.2.c
   ·rw [decide_eq_true (show (1:Int)<(z.2.c:Int) by omega)]
    obtain ⟨hk,hl1⟩:=h2 hb
    refine iteT ⟨_,rfl,sc,_,_,_,rfl,rfl,SqT.of M1.es,rfl,_,rfl,t,_,_,_,rfl,rfl,SqT.of et,rfl,R,_,_,_,rfl,rfl,SqT.of M1.rf.e,zaF (zb2 hz),z.1,_,_,_,rfl,rfl,SqT.of etz,rfl,_,_,rfl,rfl,(show (0:Int)<3 by decide),rfl,_,rfl,?_⟩
    by_cases h3:z.2.c % 3=0
    ·rw [decide_eq_true (show V.int ((z.2.c:Int) % 3)=V.int 0 by congr 1;omega)]
     rw [if_pos h3] at hk
     obtain ⟨w0,hw0⟩:∃ w0,us z.2.c=[w0]:=by
      cases hu:us z.2.c with
      | nil=>rw [hu] at hl1;cases hl1
      | cons y l=>cases l with | nil=>exact ⟨y,rfl⟩ | cons _ _=>rw [hu] at hl1;cases hl1
     have ek:krd (D.kd z.2.c) (us z.2.c) (gath z.2.i x)=[(w0+1) % 256]:=by unfold krd;rw [if_pos hk,hw0];rfl
     rw [ek] at k
     have ew:=M1.w _ (by omega) f1
     refine iteT ⟨_,rfl,sc,_,_,_,rfl,rfl,SqT.of M1.es,rfl,_,rfl,sc,_,_,_,rfl,rfl,SqT.of M1.es,rfl,_,rfl,t,_,_,_,rfl,rfl,SqT.of et,rfl,R,_,_,_,rfl,rfl,SqT.of M1.rf.e,zaF (zb2 hz),z.1,_,_,_,rfl,rfl,SqT.of etz,rfl,OL,_,_,_,rfl,rfl,SqL.of M1.eO,zaF (zfJ f1),?_⟩
     refine ⟨_,rfl,o z.2.c,_,_,_,rfl,rfl,SqL.of ew,(by rw [hw0];rfl),_,_,rfl,rfl,_,_,rfl,rfl,(show (0:Int)<256 by decide),?_⟩
     refine ⟨_,rfl,o z.2.c,_,_,0,rfl,rfl,ew,(by rw [hw0];rfl),?_⟩
     rw [hw0]
     have ev:(vN [w0]).set 0 (V.int (((w0:Int)+1) % 256))=vN [(w0+1) % 256]:=by
      show [V.int (((w0:Int)+1) % 256)]=[V.int (((w0+1) % 256:Nat):Int)]
      rw [show ((w0:Int)+1) % 256=(((w0+1) % 256:Nat):Int) by omega]
     dsimp only
     rw [ev]
     have hkk:=M.k _ f1
     exact k _ (M1.put (l:=[(w0+1) % 256]) (by omega) f1 ⟨hkk.k5,fun y hy=>by rw [List.mem_singleton.mp hy];omega,by show 1≤4096;decide,fun _=>Nat.le_refl _,fun _=>rfl,fun h=>absurd h h4,hkk.n2⟩ (by rw [hw0];rfl)) fun a u _ ha e=>by rw [zai (ha _ (by omega) f1)];exact s1 _ _ e
    ·rw [decide_eq_false (show ¬ V.int ((z.2.c:Int) % 3)=V.int 0 from fun q=>h3 (by have:=V.int.inj q;omega))]
     rw [if_neg h3] at hk
     rw [stay (by rw [hk];decide),zdu] at k
     exact iteF (zav (k H1 M1 (.of s1)))
   ·rw [decide_eq_false (show ¬ (1:Int)<(z.2.c:Int) by omega)]
    rw [stay (by rcases (show z.2.c=0∨z.2.c=1 by omega) with e | e;rw [h0 e];decide;rw [h1 e];decide),zdu] at k
    exact iteF (zav (k H1 M1 (.of s1)))
end
abbrev zbZ:Stmt:=top 68
theorem sc_law_states:FnScope ["scene","plain","size","chip","words"] ["scene","plain","size"] (zah zbZ):=⟨rfl,rfl,rfl,by decide +kernel,rfl,by decide +kernel,by decide +kernel⟩
section
variable {P:Program} {w:World} {K:PySem.W.Frag} {mg:Str→Option Value} {base:Heap}
def zdD (cs:Nat→Addr):Sp:=fun vs H Q _=>∃ (s R CL cd OL:Addr) (D:Dt) (o:Nat→Addr) (us:Nat→List Nat) (ws:List (Addr×Rw)) (plain m nk:Nat),vs=[.ref s,.int (plain:Int),.int ((us 0).length:Int)]∧Scn D ws plain o s R CL cd OL m H us nk∧Chs cs D H us∧∀ H',Same H H'→Q (.bl true) H'
theorem ze7 {f:Addr} {cs:Nat→Addr} {fd:FuncData} (F:Fun K "_law_states" "_law_states" zbZ f fd) (T:Blt mg) (MS:∀ kd,kd<4→Mth P w K mg base 1 (cs kd) "state" [] (fun vs _=>vs) (zcj (cs kd))):FnOk P w K mg base CX0 2 f fd ["scene","plain","size"] (zdD cs):=by
 refine F.ok sc_law_states (fun vs H Q E h=>?_) (fun cdv A outer s H vs Q E hr h=>?_)
 ·obtain ⟨s,R,CL,cd,OL,D,o,us,ws,plain,m,nk,rfl,_⟩:=h;rfl
 ·obtain ⟨sc,R,CL,cd,OL,D,o,us,ws,plain,m,nk,rfl,M,S,k⟩:=h
  refine' ⟨_,(zac (zaE (zay (zk2 (Nat.lt_of_succ_lt (zet hr)) (K:=K) rfl) (za8 zbx (by rfl) T.list zct (zaa (ziS 1 ⟨rfl,rfl,rfl,rfl,rfl⟩ (hr.mono (by walk_at "m")) (zal zas (zal zap (pv 0) zab (fun _ _=>rfl)) zab (fun _ _=>rfl))) zae)) ?c1 (zaz _)) (zag (zat zcB)) zaq)
   (zac (zbr PassesOwn.never rfl (ziO rfl T.zip (zaa (zcA zgo (zal zap (pv 0) zab (fun _ _=>rfl)) (zdV zab) zdW) (zaa (zcA zgo (zal zap (pv 0) zab (fun _ _=>rfl)) (zdV zab) zdW) zae))) (zbc rfl (zak (zaj (i:=3) sc_law_states.nd rfl (Or.inl rfl)) (zak (zaj (i:=4) sc_law_states.nd rfl (Or.inl rfl)) zaR)))
   (zag (zaE (zay (zk2 (Nat.lt_of_succ_lt (zet hr)) (K:=K) rfl) (za8 zbx (by rfl) T.list zct (zaa (ziS 1 ⟨rfl,rfl,rfl,rfl,rfl⟩ (hr.mono (by walk_at "m")) (pv 3)) zae)) (pv 4) (zaz _)) (zag (zat zcB)) zaq)))
   (zag (zat zcB)))),?rd⟩
  (case c1=>exact (zd0 (Nc:=["cell","scene","plain"]) [none,some 0,some 1] rfl (zaY (by rfl)) (za2 rfl T.range (zaa (pv 2) zae)) (fun _ _ _ _ _=>(zaj (i:=0) (show (["cell","scene","plain"]:List Str).Nodup by decide +kernel) rfl (Or.inl rfl))) (fun _ _ _ _ _=>zdY) (fun _ _ _ _ _=>(zdp (zet hr) (zal (zfc (K:=K) rfl) (pv 1) zab (fun _ _=>rfl)) (pv 0) (pv 2) ⟨rfl,rfl,rfl,rfl⟩))))
  have m0:0<D.m:=by have:=M.k0.2.2;omega
  obtain ⟨dx,ex⟩:=(S.o 0 m0).ex
  have hl0:(us 0).length≤4096:=(S.k 0 m0).ln
  refine ⟨_,rfl,sc,_,_,_,rfl,rfl,SqT.of M.es,rfl,CL,_,_,_,rfl,rfl,SqL.of M.eC,(zaF (j:=0) (zeG m0):atI _ ((0:Nat):Int)=_),D.x 0,cs (D.kd 0),dx,_,_,_,rfl,ex,MS _ (S.k 0 m0).k5,lkn _,_,_,_,_,rfl,(S.o 0 m0).ob,fun q hq=>?_⟩
  have sq:=zaf (H:=H) (o:=.tup (vN (us 0))) hq
  refine ⟨q,vN (us 0),rfl,.inr (SqT.of zad),fun l hl=>?_⟩
  have sl:=sq.trans (zaf (o:=.lst (vN (us 0))) hl)
  have el:upd (upd H q (.tup (vN (us 0)))) l (.lst (vN (us 0))) l=some (.lst (vN (us 0))):=zad
  generalize upd (upd H q (.tup (vN (us 0)))) l (.lst (vN (us 0)))=X1 at *
  have M1:=M.same sl
  obtain ⟨kvs,ed,_,hd⟩:=M1.d
  refine ⟨_,rfl,_,rfl,by omega,by omega,?_⟩
  rw [Int.toNat_natCast]
  refine zcd (n:=(us 0).length) (fun j ys σ Y=>∃ v0,σ=[v0,some (.ref sc),some (.int (plain:Int))]∧ys=vN ((us 0).take j)∧Y=X1) (Nat.le_trans hl0 (by decide)) ⟨none,rfl,rfl,rfl⟩ ?_ ?_ ?_
  ·rintro j ys σ Y ⟨_,_,rfl,_⟩
   rw [zaw,List.length_take];omega
  ·rintro j ys σ Y hj ⟨v0,rfl,rfl,rfl⟩
   rw [Int.zero_add]
   refine ⟨_,rfl,sc,_,_,_,rfl,rfl,SqT.of M1.es,rfl,cd,rfl,.inl ⟨_,.inl ed⟩,_,rfl,_,rfl,_,DGet.k (k:=Sum.inl (j:Int)) ed,?_⟩
   rw [hd j hj]
   refine ⟨_,rfl,?_,rfl⟩
   rw [← zbT,List.take_succ,List.getD_eq_getElem?_getD,List.getElem?_eq_getElem hj];rfl
  ·rintro ys σ Y ⟨v0,rfl,rfl,rfl⟩ Lb hLb
   rw [List.take_length]
   have s2:=sl.trans (zaf (o:=.lst (vN (us 0))) hLb)
   have el2:=zaf (o:=.lst (vN (us 0))) hLb _ _ el
   refine ⟨l,Lb,(us 0).map (fun (b:Nat)=>(b:Int)),(us 0).map (fun (b:Nat)=>(b:Int)),rfl,rfl,zib (SqL.of el2),zib (SqL.of zad),_,rfl,?_⟩
   rw [decide_eq_true rfl]
   refine iteF (zav ?_)
   generalize upd Y Lb (.lst (vN (us 0)))=X2 at *
   have M2:=M.same s2
   dsimp only
   refine ⟨_,rfl,sc,_,_,_,rfl,rfl,SqT.of M2.es,rfl,1,rfl,CL,_,rfl,SqL.of M2.eC,fun a1 ha1=>?_⟩
   rw [zds]
   have s3:=zaf (H:=X2) (o:=.lst ((chL D).drop 1)) ha1
   refine ⟨_,rfl,sc,_,_,_,rfl,rfl,SqT.of (s3 _ _ M2.es),rfl,1,rfl,OL,_,rfl,SqL.of (s3 _ _ M2.eO),fun a2 ha2=>?_⟩
   rw [zds]
   have s4:=s3.trans (zaf (o:=.lst ((mdL D o).drop 1)) ha2)
   have e1:upd (upd X2 a1 (.lst ((chL D).drop 1))) a2 (.lst ((mdL D o).drop 1)) a1=some (.lst ((chL D).drop 1)):=zaf ha2 _ _ zad
   have e2:upd (upd X2 a1 (.lst ((chL D).drop 1))) a2 (.lst ((mdL D o).drop 1)) a2=some (.lst ((mdL D o).drop 1)):=zad
   generalize upd (upd X2 a1 (.lst ((chL D).drop 1))) a2 (.lst ((mdL D o).drop 1))=X3 at *
   have sH:=s2.trans s4
   refine ⟨false,a1,a2,_,_,rfl,e1,e2,?_⟩
   refine zkx (t:=false) (xs:=(chL D).drop 1) (ys:=(mdL D o).drop 1) (fun i σ X=>∃ (v3 v4:Option V),σ=[some (.ref sc),some (.int (plain:Int)),some (.int ((us 0).length:Int)),v3,v4]∧Same X3 X) (by rw [List.length_drop,List.length_drop,zcY,zgR]) ⟨_,_,rfl,Same.refl _⟩ ?_ ?_ ?_
   ·rintro i σ X _ ⟨_,_,_,sX⟩
    exact ⟨sX _ _ e1,sX _ _ e2⟩
   ·rintro i x y U σ X hx hy hU ⟨v3,v4,rfl,sX⟩
    rw [List.getElem?_drop] at hx hy
    have hi:1+i<D.m:=by have:=(List.getElem?_eq_some_iff.mp hx).1;rw [zcY] at this;exact this
    rw [zeG hi] at hx
    rw [zfJ hi] at hy
    cases hx
    cases hy
    have sU:=(sH.trans sX).trans (zaf (o:=.tup [.ref (D.x (1+i)),.ref (o (1+i))]) hU)
    refine zej ?_
    have S1:=S.same sU
    obtain ⟨dx,ex⟩:=(S1.o (1+i) hi).ex
    refine ⟨_,rfl,D.x (1+i),cs (D.kd (1+i)),dx,_,_,_,rfl,ex,MS _ (S1.k (1+i) hi).k5,lkn _,_,_,_,_,rfl,(S1.o (1+i) hi).ob,fun q hq=>?_⟩
    refine ⟨q,vN (us (1+i)),rfl,.inr (SqT.of zad),fun l hl=>?_⟩
    have sl:=(zaf (o:=.tup (vN (us (1+i)))) hq).trans (zaf (o:=.lst (vN (us (1+i)))) hl)
    have M3:=(M.same sU).same sl
    refine ⟨_,rfl,l,o (1+i),(us (1+i)).map (fun (b:Nat)=>(b:Int)),(us (1+i)).map (fun (b:Nat)=>(b:Int)),rfl,rfl,zib (SqL.of zad),zib (SqL.of (M3.w _ (by omega) hi)),_,rfl,?_⟩
    rw [decide_eq_true rfl]
    exact iteF (zav ⟨_,_,rfl,(sX.trans (zaf hU)).trans sl⟩)
   ·rintro σ X ⟨_,_,rfl,sX⟩
    exact k X (sH.trans sX)
end
abbrev slaw:Stmt:=top 69
theorem sclaw:FnScope ["script","row","scene","bits","plain","floating","board","cell","r","address","word","one"] ["script"] (zah slaw):=⟨rfl,rfl,rfl,by decide +kernel,rfl,by decide +kernel,by decide +kernel⟩
section
variable {P:Program} {w:World} {K:PySem.W.Frag} {mg:Str→Option Value} {base:Heap}
theorem zlz {C:Addr} {B:Bd} {D:Dt} {Y:Hp} {g:Nat} (h:BdAt C B D Y g) (us:Nat→List Nat) (f x:Nat):rdW B D us f x=rdMW B.ws D us f x:=by unfold rdW rdMW;rw [zfn h];try rfl
theorem ru_eq {C:Addr} {B:Bd} {D:Dt} {Y:Hp} {g:Nat} (h:BdAt C B D Y g) (us:Nat→List Nat) (x:Nat):rdU B D us x=rdMU B.ws D us x:=by unfold rdU rdMU;rw [zfn h];try rfl
theorem wu_eq {C:Addr} {B:Bd} {D:Dt} {Y:Hp} {g:Nat} (h:BdAt C B D Y g) (us:Nat→List Nat) (x v:Nat):wrU B D us x v=wrMU B.ws D us x v:=by unfold wrU wrMU;rw [zfn h];try rfl
theorem zlP {H:Hp} {a b:Addr} {i j:Int} (ha:H a=some (.tup [.int i,.int j])) (hb:H b=some (.tup [.int i,.int j])):Lk H 1 (.ref a) (.ref b):=by
 refine .seq (t:=true) ha hb rfl (by show 2≤sizeLine;decide) fun k x y h1 h2=>?_
 rw [h1] at h2
 obtain rfl:=Option.some.inj h2
 rcases k with _ | _ | k
 ·obtain rfl:=Option.some.inj h1;exact .int _
 ·obtain rfl:=Option.some.inj h1;exact .int _
 ·cases h1
theorem zlJ:∀ vs H Q E,zdF vs H Q E→zbo vs H Q E:=by
 rintro vs H Q E ⟨a,b,rfl,q⟩
 exact ⟨0,_,.int a,b,rfl,.int a,q⟩
structure Ap6 (D:Dt) (o:Nat→Addr) (L la W CL OL cd:Addr):Prop where
 np:∀ i j,1≤i→i<D.m→j<D.m→o i≠D.p j
 oL:∀ i,1≤i→i<D.m→o i≠L∧o i≠la
 pC:∀ i,i<D.m→D.p i≠CL∧D.p i≠OL
 wd:W≠cd
structure Tw6 (C:Addr) (cs:Nat→Addr) (H0 X:Hp) (B:Bd) (D:Dt) (plain:Nat) (o:Nat→Addr) (s CL cd OL:Addr) (uB uM:Nat→List Nat) (fB nk:Nat):Prop where
 b:BdAt C B D X fB
 S:Chs cs D X uB
 M:Scn D B.ws plain o s B.R CL cd OL B.bits X uM nk
 fr:∀ a u,a≠B.b→a≠cd→(∀ i,i<D.m→a≠D.p i)→(∀ i,1≤i→i<D.m→a≠o i)→H0 a=some u→X a=some u
section
variable {C:Addr} {cs:Nat→Addr} {H0 X Z:Hp} {B:Bd} {D:Dt} {plain:Nat} {o:Nat→Addr} {sc CL cd OL:Addr} {uB uM vB vM:Nat→List Nat} {fB gB nk nj:Nat}
theorem Tw6.same (t:Tw6 C cs H0 X B D plain o sc CL cd OL uB uM fB nk) (s:Same X Z):Tw6 C cs H0 Z B D plain o sc CL cd OL uB uM fB nk:=⟨t.b.same s,t.S.same s,t.M.same s,fun a u h1 h2 h3 h4 e=>s _ _ (t.fr a u h1 h2 h3 h4 e)⟩
theorem Tw6.bas (t:Tw6 C cs H0 X B D plain o sc CL cd OL uB uM fB nk):Tw6 C cs X X B D plain o sc CL cd OL uB uM fB nk:=⟨t.b,t.S,t.M,fun _ _ _ _ _ _ e=>e⟩
theorem Tw6.on (t:Tw6 C cs H0 X B D plain o sc CL cd OL uB uM fB nk) (t':Tw6 C cs X Z B D plain o sc CL cd OL vB vM gB nj):Tw6 C cs H0 Z B D plain o sc CL cd OL vB vM gB nj:=⟨t'.b,t'.S,t'.M,fun a u h1 h2 h3 h4 e=>t'.fr a u h1 h2 h3 h4 (t.fr a u h1 h2 h3 h4 e)⟩
theorem Tw6.law (A:Ap6 D o B.L B.la B.W CL OL cd) (t:Tw6 C cs H0 X B D plain o sc CL cd OL uB uM fB nk) (fr:FrO D o cd X Z) (M:Scn D B.ws plain o sc B.R CL cd OL B.bits Z vM nj):Tw6 C cs H0 Z B D plain o sc CL cd OL uB vM fB nj:=by
 obtain ⟨kvs,ed,_⟩:=t.M.d
 obtain ⟨db,eb⟩:=t.b.e
 have ncd:∀ {a:Addr} {u:HO},X a=some u→(∀ x,u≠.dK x)→a≠cd:=fun {a u} e hu q=>by rw [q,ed] at e;exact hu _ (Option.some.inj e).symm
 have nl:∀ {a:Addr} {u:HO},X a=some u→(∀ x,u≠.lst x)→∀ i,1≤i→i<D.m→a≠o i:=fun {a u} e hu i h1 h2 q=>by rw [q,t.M.w i h1 h2] at e;exact hu _ (Option.some.inj e).symm
 have nt:∀ {a:Addr} {x:List V},X a=some (.tup x)→Z a=some (.tup x):=fun {a x} e=>fr _ _ (ncd e (by intros;exact (fun q=>by cases q))) (nl e (by intros;exact (fun q=>by cases q))) e
 refine ⟨⟨⟨db,fr _ _ (ncd eb (by intros;exact (fun q=>by cases q))) (nl eb (by intros;exact (fun q=>by cases q))) eb⟩,t.b.b1,t.b.b2,M.rf,?_,?_,t.b.kl,t.b.ks,t.b.kn,fr _ _ A.wd (nl t.b.w0 (by intros;exact (fun q=>by cases q))) t.b.w0,t.b.f0,t.b.nl⟩,⟨fun i h=>?_,t.S.k,t.S.h1,t.S.z,t.S.inj,t.S.m1⟩,M,fun a u h1 h2 h3 h4 e=>fr a u h2 h4 (t.fr a u h1 h2 h3 h4 e)⟩
 ·exact fr _ _ (ncd t.b.ch (by intros;exact (fun q=>by cases q))) (fun i h1 h2=>Ne.symm (A.oL i h1 h2).1) t.b.ch
 ·exact fr _ _ (ncd t.b.la (by intros;exact (fun q=>by cases q))) (fun i h1 h2=>Ne.symm (A.oL i h1 h2).2) t.b.la
 ·obtain ⟨dx,ex⟩:=(t.S.o i h).ex
  have el:=(t.S.o i h).ls
  exact ⟨⟨dx,fr _ _ (ncd ex (by intros;exact (fun q=>by cases q))) (nl ex (by intros;exact (fun q=>by cases q))) ex⟩,fr _ _ (ncd el (by intros;exact (fun q=>by cases q))) (fun j h1 h2=>Ne.symm (A.np j i h1 h2 h)) el⟩
theorem Tw6.brd (A:Ap6 D o B.L B.la B.W CL OL cd) (t:Tw6 C cs H0 X B D plain o sc CL cd OL uB uM fB nk) (fr:FrB B.b D X Z) (b:BdAt C B D Z gB) (S:Chs cs D Z vB):Tw6 C cs H0 Z B D plain o sc CL cd OL vB uM gB nk:=by
 obtain ⟨db,eb⟩:=t.b.e
 obtain ⟨kvs,ed,rd⟩:=t.M.d
 have nb:∀ {a:Addr} {u:HO},X a=some u→(∀ x y z,u≠.ins x y z)→a≠B.b:=fun {a u} e hu q=>by rw [q,eb] at e;exact hu _ _ _ (Option.some.inj e).symm
 have np:∀ {a:Addr} {u:HO},X a=some u→(∀ x,u≠.lst x)→∀ i,i<D.m→a≠D.p i:=fun {a u} e hu i h q=>by rw [q,(t.S.o i h).ls] at e;exact hu _ (Option.some.inj e).symm
 refine ⟨b,S,⟨fr _ _ (nb t.M.es (by intros;exact (fun q=>by cases q))) (np t.M.es (by intros;exact (fun q=>by cases q))) t.M.es,b.rf,t.M.m16,fr _ _ (nb t.M.eC (by intros;exact (fun q=>by cases q))) (fun i h=>Ne.symm (A.pC i h).1) t.M.eC,fr _ _ (nb t.M.eO (by intros;exact (fun q=>by cases q))) (fun i h=>Ne.symm (A.pC i h).2) t.M.eO,fun i h1 h2=>fr _ _ (nb (t.M.w i h1 h2) (by intros;exact (fun q=>by cases q))) (fun j hj=>A.np i j h1 h2 hj) (t.M.w i h1 h2),⟨kvs,fr _ _ (nb ed (by intros;exact (fun q=>by cases q))) (np ed (by intros;exact (fun q=>by cases q))) ed,rd⟩,t.M.oj,t.M.oC,t.M.k,t.M.h1,t.M.z,t.M.k0,t.M.kz,t.M.kl⟩,fun a u h1 h2 h3 h4 e=>fr a u h1 h3 (t.fr a u h1 h2 h3 h4 e)⟩
end
theorem oklaw {f:Addr} {C:Addr} {cs:Nat→Addr} {fd:FuncData} (F:Fun K "law" "law" slaw f fd) (T:Blt mg) (G_law_draws:Cal P w K mg base 1 "_law_draws" ["cell","count"] zgi) (G_law_scene:Cal P w K mg base 5 "_law_scene" ["row"] (zge cs)) (GMBoard_3:Mak P w K mg base 7 "Board" C [] (dP [.int 0]) (zeM C cs))
  (G_law_who:Cal P w K mg base 3 "_law_who" ["scene","address"] zeu) (G_law_look:Cal P w K mg base 4 "_law_look" ["scene","plain","address","floating"] zgg) (G_law_put:Cal P w K mg base 4 "_law_put" ["scene","address","word"] zij) (G_law_used:Cal P w K mg base 4 "_law_used" ["scene","address"] zgd)
  (G_law_same:Cal P w K mg base 2 "_law_same" ["found","due"] (zdE 1)) (M_who:Mth P w K mg base 6 C "who" [] (fun vs _=>vs) (zih C cs)) (M_read:Mth P w K mg base 7 C "read" [] (dP [.bl false]) (zhC C cs)) (M_readp:Mth P w K mg base 7 C "read" [] (dP []) (zhC C cs)) (M_write:Mth P w K mg base 7 C "write" [] (fun vs _=>vs) (zls C cs))
  (G_law_states:Cal P w K mg base 2 "_law_states" ["scene","plain","size"] (zdD cs)):FnOk P w K mg base CX0 9 f fd ["script"] (zjU K):=by
 refine F.ok sclaw (fun vs H Q E h=>?_) (fun cdv A outer s H vs Q E hr h=>?_)
 ·obtain ⟨a,ns,rfl,_⟩:=h;rfl
 ·obtain ⟨a,ns,rfl,hs,hln,_,k⟩:=h
  refine ⟨_,(zac (@zau _ _ (1) _ _ _ _ sclaw.nd rfl (Or.inl rfl) (@zar _ _ _ _ _ _ _ _ _ _ G_law_draws (hr.mono (by walk_at "m")) rfl (@zaa _ _ _ _ _ (@zal _ _ _ _ _ _ _ zas (@zan _ _ _ _ _ _ _ _ ziW (@pv _ 0 _ _ (by rfl) (by walk_at "o") (by decide) (by decide)) (@zaO _ _ _ _ (@zaa _ _ _ _ _ (@zab _ _ _ _) (@zae _) (by rfl)))) (@zab _ _ _ _) (fun _ _=>rfl)) (@zaa _ _ _ _ _ (@zab _ _ _ _) (@zae _) (by rfl)) (by rfl)) (by decide) (by rfl) (by rfl)) (by rfl) (by walk_at "p"))
   (zac (@zau _ _ (2) _ _ _ _ sclaw.nd rfl (Or.inl rfl) (@zar _ _ _ _ _ _ _ _ _ _ G_law_scene (hr.mono (by walk_at "m")) rfl (@zaa _ _ _ _ _ (@pv _ 1 _ _ (by rfl) (by walk_at "o") (by decide) (by decide)) (@zae _) (by rfl)) (by decide) (by rfl) (by rfl)) (by rfl) (by walk_at "p"))
   (zac (@zau _ _ (3) _ _ _ _ sclaw.nd rfl (Or.inl rfl) (@zal _ _ _ _ _ _ _ zap (@pv _ 2 _ _ (by rfl) (by walk_at "o") (by decide) (by decide)) (@zab _ _ _ _) (fun _ _=>rfl)) (by rfl) (by walk_at "p"))
   (zac (@zau _ _ (4) _ _ _ _ sclaw.nd rfl (Or.inl rfl) (@zan _ _ _ _ _ _ _ _ zaC (@zal _ _ _ _ _ _ _ zas (@pv _ 1 _ _ (by rfl) (by walk_at "o") (by decide) (by decide)) (@zab _ _ _ _) (fun _ _=>rfl)) (@zab _ _ _ _)) (by rfl) (by walk_at "p"))
   (zac (@zau _ _ (5) _ _ _ _ sclaw.nd rfl (Or.inl rfl) (@zab _ _ _ _) (by rfl) (by walk_at "p"))
   (zac (@zau _ _ (6) _ _ _ _ sclaw.nd rfl (Or.inl rfl) (@zez _ _ _ _ _ _ _ _ _ _ _ GMBoard_3 (hr.mono (by walk_at "m")) rfl (@zaa _ _ _ _ _ (@pv _ 3 _ _ (by rfl) (by walk_at "o") (by decide) (by decide)) (@zaa _ _ _ _ _ (@zal _ _ _ _ _ _ _ zap (@pv _ 2 _ _ (by rfl) (by walk_at "o") (by decide) (by decide)) (@zab _ _ _ _) (fun _ _=>rfl)) (@zaa _ _ _ _ _ (@zal _ _ _ _ _ _ _ zap (@pv _ 2 _ _ (by rfl) (by walk_at "o") (by decide) (by decide)) (@zab _ _ _ _) (fun _ _=>rfl)) (@zae _) (by rfl)) (by rfl)) (by rfl)) (by decide) (by rfl) (by rfl)) (by rfl) (by walk_at "p"))
   (zac (@zbr _ _ _ _ _ _ _ _ PassesOwn.never rfl (@zdX _ _ _ _ (@zan _ _ _ _ _ _ _ _ ziW (@zaO _ _ _ _ (@zaa _ _ _ _ _ (@zab _ _ _ _) (@zae _) (by rfl))) (@zcA _ _ _ _ _ _ _ _ _ _ zgo (@pv _ 0 _ _ (by rfl) (by walk_at "o") (by decide) (by decide)) (@zdV _ _ _ (@zab _ _ _ _)) (@zdW _)))) (@zaj _ _ (7) _ sclaw.nd rfl (Or.inl rfl) (by walk_at "p")) (@zac _ _ _ _ _ (@zau _ _ (8) _ _ _ _ sclaw.nd rfl (Or.inl rfl) (@zar _ _ _ _ _ _ _ _ _ _ G_law_draws (hr.mono (by walk_at "m")) rfl (@zaa _ _ _ _ _ (@pv _ 7 _ _ (by rfl) (by walk_at "o") (by decide) (by decide)) (@zaa _ _ _ _ _ (@zab _ _ _ _) (@zae _) (by rfl)) (by rfl)) (by decide) (by rfl) (by rfl)) (by rfl) (by walk_at "p")) (@zac _ _ _ _ _ (@zau _ _ (9) _ _ _ _ sclaw.nd rfl (Or.inl rfl) (@zan _ _ _ _ _ _ _ _ zhJ (@zan _ _ _ _ _ _ _ _ zbR (@zan _ _ _ _ _ _ _ _ zaC (@zal _ _ _ _ _ _ _ zas (@pv _ 8 _ _ (by rfl) (by walk_at "o") (by decide) (by decide)) (@zab _ _ _ _) (fun _ _=>rfl)) (@zab _ _ _ _)) (@zan _ _ _ _ _ _ _ _ zb5 (@pv _ 3 _ _ (by rfl) (by walk_at "o") (by decide) (by decide)) (@zab _ _ _ _))) (@zan _ _ _ _ _ _ _ _ zaC (@zal _ _ _ _ _ _ _ zas (@pv _ 8 _ _ (by rfl) (by walk_at "o") (by decide) (by decide)) (@zab _ _ _ _) (fun _ _=>rfl)) (@zan _ _ _ _ _ _ _ _ zbR (@zab _ _ _ _) (@zan _ _ _ _ _ _ _ _ zb5 (@pv _ 3 _ _ (by rfl) (by walk_at "o") (by decide) (by decide)) (@zab _ _ _ _))))) (by rfl) (by walk_at "p")) (@zac _ _ _ _ _ (@zaE _ _ _ _ _ _ _ _ (@zay _ _ _ _ _ _ _ _ zb6 (@zan _ _ _ _ _ _ _ _ zaC (@zal _ _ _ _ _ _ _ zas (@pv _ 8 _ _ (by rfl) (by walk_at "o") (by decide) (by decide)) (@zab _ _ _ _) (fun _ _=>rfl)) (@zab _ _ _ _)) (@zab _ _ _ _) (zaz _)) (@zag _ _ _ (@zau _ _ (9) _ _ _ _ sclaw.nd rfl (Or.inl rfl) (@zan _ _ _ _ _ _ _ _ zhJ (@zan _ _ _ _ _ _ _ _ zbR (@zab _ _ _ _) (@zan _ _ _ _ _ _ _ _ zb5 (@pv _ 3 _ _ (by rfl) (by walk_at "o") (by decide) (by decide)) (@zab _ _ _ _))) (@zan _ _ _ _ _ _ _ _ zaC (@zal _ _ _ _ _ _ _ zas (@pv _ 8 _ _ (by rfl) (by walk_at "o") (by decide) (by decide)) (@zab _ _ _ _) (fun _ _=>rfl)) (@zab _ _ _ _))) (by rfl) (by walk_at "p"))) (@zaq _)) (@zac _ _ _ _ _ (@zau _ _ (10) _ _ _ _ sclaw.nd rfl (Or.inl rfl) (@zan _ _ _ _ _ _ _ _ zaC (@zal _ _ _ _ _ _ _ zas (@pv _ 8 _ _ (by rfl) (by walk_at "o") (by decide) (by decide)) (@zab _ _ _ _) (fun _ _=>rfl)) (@zab _ _ _ _)) (by rfl) (by walk_at "p")) (@zac _ _ _ _ _ (@zaE _ _ _ _ _ _ _ _ (@zay _ _ _ _ _ _ _ _ zb6 (@zan _ _ _ _ _ _ _ _ zaC (@zal _ _ _ _ _ _ _ zas (@pv _ 8 _ _ (by rfl) (by walk_at "o") (by decide) (by decide)) (@zab _ _ _ _) (fun _ _=>rfl)) (@zab _ _ _ _)) (@zab _ _ _ _) (zaz _)) (@zac _ _ _ _ _ (@zax _ _ _ _ (@zar _ _ _ _ _ _ _ _ _ _ G_law_put (hr.mono (by walk_at "m")) rfl (@zaa _ _ _ _ _ (@pv _ 2 _ _ (by rfl) (by walk_at "o") (by decide) (by decide)) (@zaa _ _ _ _ _ (@pv _ 9 _ _ (by rfl) (by walk_at "o") (by decide) (by decide)) (@zaa _ _ _ _ _ (@pv _ 10 _ _ (by rfl) (by walk_at "o") (by decide) (by decide)) (@zae _) (by rfl)) (by rfl)) (by rfl)) (by decide) (by rfl) (by rfl)) (by rfl)) (@zac _ _ _ _ _ (@zax _ _ _ _ (@zaV _ _ _ _ _ _ _ _ _ _ _ _ _ _ 7 ⟨rfl,rfl,rfl,rfl,rfl⟩ (hr.mono (by walk_at "m")) _ (@pv _ 6 _ _ (by rfl) (by walk_at "o") (by decide) (by decide)) (@zaa _ _ _ _ _ (@pv _ 9 _ _ (by rfl) (by walk_at "o") (by decide) (by decide)) (@zaa _ _ _ _ _ (@pv _ 10 _ _ (by rfl) (by walk_at "o") (by decide) (by decide)) (@zae _) (by rfl)) (by rfl)) (by rfl) (by rfl) (by rfl)) (by rfl)) (@zag _ _ _ (@zau _ _ (5) _ _ _ _ sclaw.nd rfl (Or.inl rfl) (@pv _ 10 _ _ (by rfl) (by walk_at "o") (by decide) (by decide)) (by rfl) (by walk_at "p"))))) (@zag _ _ _ (@zaE _ _ _ _ _ _ _ _ (@zay _ _ _ _ _ _ _ _ zb6 (@zan _ _ _ _ _ _ _ _ zaC (@zal _ _ _ _ _ _ _ zas (@pv _ 8 _ _ (by rfl) (by walk_at "o") (by decide) (by decide)) (@zab _ _ _ _) (fun _ _=>rfl)) (@zab _ _ _ _)) (@zab _ _ _ _) (zaz _)) (@zac _ _ _ _ _ (@zau _ _ (5) _ _ _ _ sclaw.nd rfl (Or.inl rfl) (@zar _ _ _ _ _ _ _ _ _ _ G_law_look (hr.mono (by walk_at "m")) rfl (@zaa _ _ _ _ _ (@pv _ 2 _ _ (by rfl) (by walk_at "o") (by decide) (by decide)) (@zaa _ _ _ _ _ (@pv _ 4 _ _ (by rfl) (by walk_at "o") (by decide) (by decide)) (@zaa _ _ _ _ _ (@pv _ 9 _ _ (by rfl) (by walk_at "o") (by decide) (by decide)) (@zaa _ _ _ _ _ (@pv _ 5 _ _ (by rfl) (by walk_at "o") (by decide) (by decide)) (@zae _) (by rfl)) (by rfl)) (by rfl)) (by rfl)) (by decide) (by rfl) (by rfl)) (by rfl) (by walk_at "p")) (@zac _ _ _ _ _ (@zax _ _ _ _ (@zar _ _ _ _ _ _ _ _ _ _ G_law_used (hr.mono (by walk_at "m")) rfl (@zaa _ _ _ _ _ (@pv _ 2 _ _ (by rfl) (by walk_at "o") (by decide) (by decide)) (@zaa _ _ _ _ _ (@pv _ 9 _ _ (by rfl) (by walk_at "o") (by decide) (by decide)) (@zae _) (by rfl)) (by rfl)) (by decide) (by rfl) (by rfl)) (by rfl)) (@zag _ _ _ (@zaE _ _ _ _ _ _ _ _ (@zaX _ _ _ _ (@zaL _ _ _ (@zar _ _ _ _ _ _ _ _ _ _ G_law_same (hr.mono (by walk_at "m")) rfl (@zaa _ _ _ _ _ (@zaV _ _ _ _ _ _ _ _ _ _ _ _ _ _ 7 ⟨rfl,rfl,rfl,rfl,rfl⟩ (hr.mono (by walk_at "m")) _ (@pv _ 6 _ _ (by rfl) (by walk_at "o") (by decide) (by decide)) (@zaa _ _ _ _ _ (@pv _ 9 _ _ (by rfl) (by walk_at "o") (by decide) (by decide)) (@zae _) (by rfl)) (by rfl) (by rfl) (by rfl)) (@zaa _ _ _ _ _ (@pv _ 5 _ _ (by rfl) (by walk_at "o") (by decide) (by decide)) (@zae _) (by rfl)) (by rfl)) (by decide) (by rfl) (by rfl)) (by intro _;rfl))) (@zag _ _ _ (@zat _ _ _ _ (@zcB _ _ _ _))) (@zaq _))))) (@zaq _)))) (@zag _ _ _ (@zbr _ _ _ _ _ _ _ _ PassesOwn.never rfl (@zdX _ _ _ _ (@zaO _ _ _ _ (@zaa _ _ _ _ _ (@pv _ 9 _ _ (by rfl) (by walk_at "o") (by decide) (by decide)) (@zaa _ _ _ _ _ (@zan _ _ _ _ _ _ _ _ zk1 (@pv _ 9 _ _ (by rfl) (by walk_at "o") (by decide) (by decide)) (@zan _ _ _ _ _ _ _ _ zbR (@zab _ _ _ _) (@zan _ _ _ _ _ _ _ _ zaC (@zal _ _ _ _ _ _ _ zas (@pv _ 8 _ _ (by rfl) (by walk_at "o") (by decide) (by decide)) (@zab _ _ _ _) (fun _ _=>rfl)) (@pv _ 3 _ _ (by rfl) (by walk_at "o") (by decide) (by decide))))) (@zaa _ _ _ _ _ (@zan _ _ _ _ _ _ _ _ zaC (@zal _ _ _ _ _ _ _ zas (@pv _ 8 _ _ (by rfl) (by walk_at "o") (by decide) (by decide)) (@zab _ _ _ _) (fun _ _=>rfl)) (@zan _ _ _ _ _ _ _ _ zbR (@zab _ _ _ _) (@pv _ 3 _ _ (by rfl) (by walk_at "o") (by decide) (by decide)))) (@zae _) (by rfl)) (by rfl)) (by rfl)))) (@zaj _ _ (11) _ sclaw.nd rfl (Or.inl rfl) (by walk_at "p")) (@zac _ _ _ _ _ (@zaE _ _ _ _ _ _ _ _ (@zaX _ _ _ _ (@zaL _ _ _ (@zar _ _ _ _ _ _ _ _ _ _ G_law_same (hr.mono (by walk_at "m")) rfl (@zaa _ _ _ _ _ (@zaV _ _ _ _ _ _ _ _ _ _ _ _ _ _ 6 ⟨rfl,rfl,rfl,rfl,rfl⟩ (hr.mono (by walk_at "m")) _ (@pv _ 6 _ _ (by rfl) (by walk_at "o") (by decide) (by decide)) (@zaa _ _ _ _ _ (@pv _ 11 _ _ (by rfl) (by walk_at "o") (by decide) (by decide)) (@zae _) (by rfl)) (by rfl) (by rfl) (by rfl)) (@zaa _ _ _ _ _ (@zar _ _ _ _ _ _ _ _ _ _ G_law_who (hr.mono (by walk_at "m")) rfl (@zaa _ _ _ _ _ (@pv _ 2 _ _ (by rfl) (by walk_at "o") (by decide) (by decide)) (@zaa _ _ _ _ _ (@pv _ 11 _ _ (by rfl) (by walk_at "o") (by decide) (by decide)) (@zae _) (by rfl)) (by rfl)) (by decide) (by rfl) (by rfl)) (@zae _) (by rfl)) (by rfl)) (by decide) (by rfl) (by rfl)) (by intro _;rfl))) (@zag _ _ _ (@zat _ _ _ _ (@zcB _ _ _ _))) (@zaq _)) (@zag _ _ _ (@zaE _ _ _ _ _ _ _ _ (@zaX _ _ _ _ (@zaL _ _ _ (@zar _ _ _ _ _ _ _ _ _ _ G_law_same (hr.mono (by walk_at "m")) rfl (@zaa _ _ _ _ _ (@zaV _ _ _ _ _ _ _ _ _ _ _ _ _ _ 7 ⟨rfl,rfl,rfl,rfl,rfl⟩ (hr.mono (by walk_at "m")) _ (@pv _ 6 _ _ (by rfl) (by walk_at "o") (by decide) (by decide)) (@zaa _ _ _ _ _ (@pv _ 11 _ _ (by rfl) (by walk_at "o") (by decide) (by decide)) (@zaa _ _ _ _ _ (@zcB _ _ _ _) (@zae _) (by rfl)) (by rfl)) (by rfl) (by rfl) (by rfl)) (@zaa _ _ _ _ _ (@zar _ _ _ _ _ _ _ _ _ _ G_law_look (hr.mono (by walk_at "m")) rfl (@zaa _ _ _ _ _ (@pv _ 2 _ _ (by rfl) (by walk_at "o") (by decide) (by decide)) (@zaa _ _ _ _ _ (@pv _ 4 _ _ (by rfl) (by walk_at "o") (by decide) (by decide)) (@zaa _ _ _ _ _ (@pv _ 11 _ _ (by rfl) (by walk_at "o") (by decide) (by decide)) (@zaa _ _ _ _ _ (@pv _ 5 _ _ (by rfl) (by walk_at "o") (by decide) (by decide)) (@zae _) (by rfl)) (by rfl)) (by rfl)) (by rfl)) (by decide) (by rfl) (by rfl)) (@zae _) (by rfl)) (by rfl)) (by decide) (by rfl) (by rfl)) (by intro _;rfl))) (@zag _ _ _ (@zat _ _ _ _ (@zcB _ _ _ _))) (@zaq _)))) (by intro _;rfl)))))))) (by intro _;rfl))
   (zag (@zat _ _ _ _ (@zar _ _ _ _ _ _ _ _ _ _ G_law_states (hr.mono (by walk_at "m")) rfl (@zaa _ _ _ _ _ (@pv _ 2 _ _ (by rfl) (by walk_at "o") (by decide) (by decide)) (@zaa _ _ _ _ _ (@pv _ 4 _ _ (by rfl) (by walk_at "o") (by decide) (by decide)) (@zaa _ _ _ _ _ (@zal _ _ _ _ _ _ _ zas (@zaO _ _ _ _ (@zaa _ _ _ _ _ (@zab _ _ _ _) (@zaa _ _ _ _ _ (@zab _ _ _ _) (@zaa _ _ _ _ _ (@zab _ _ _ _) (@zaa _ _ _ _ _ (@zab _ _ _ _) (@zaa _ _ _ _ _ (@zab _ _ _ _) (@zae _) (by rfl)) (by rfl)) (by rfl)) (by rfl)) (by rfl))) (@zan _ _ _ _ _ _ _ _ zaC (@zal _ _ _ _ _ _ _ zas (@pv _ 1 _ _ (by rfl) (by walk_at "o") (by decide) (by decide)) (@zab _ _ _ _) (fun _ _=>rfl)) (@zab _ _ _ _)) (fun _ _=>rfl)) (@zae _) (by rfl)) (by rfl)) (by rfl)) (by decide) (by rfl) (by rfl))))))))))),?rd⟩
  obtain ⟨c0,hh⟩:∃ c0:Int,atI (ns.map V.int ++ [V.int 0]) 0=some (.int c0):=by
   cases ns with
   | nil=>exact ⟨0,rfl⟩
   | cons c l=>exact ⟨c,(zaF (j:=0) rfl:atI _ ((0:Nat):Int)=_)⟩
  refine ⟨_,rfl,by show 1≤sizeLine;decide,fun q1 hq1=>⟨a,q1,_,_,rfl,rfl,(zaf hq1).seq hs,SqL.of zad,by rw [List.length_map,sizeLine_eq];simp;omega,fun q2 hq2=>⟨q2,_,_,_,rfl,rfl,SqL.of zad,hh,?_⟩⟩⟩
  refine ⟨c0,12,rfl,by decide,fun row H1 vals hrow er hlen hv s1=>?_⟩
  refine ⟨_,rfl,row,vals,rfl,er,hlen,hv,fun sc R CL cd OL m D o us ws H2 M2 S2 hm14 hsz fS=>?_⟩
  refine ⟨_,rfl,sc,_,_,_,rfl,rfl,SqT.of M2.es,rfl,?_⟩
  have er2:=fS.s _ _ er
  have h6:atI (vN vals) 6=some (.int (vals.getD 6 0:Int)):=(atv (i:=6) (by omega):atI _ ((6:Nat):Int)=_)
  refine ⟨_,rfl,row,_,_,_,rfl,rfl,SqL.of er2,h6,_,_,rfl,rfl,(show (0:Int)<256 by decide),?_⟩
  dsimp only [za5,List.set]
  rw [show ((vals.getD 6 0:Nat):Int) % 256=((vals.getD 6 0 % 256:Nat):Int) by omega]
  obtain ⟨plain,hpl⟩:∃ plain,plain=vals.getD 6 0 % 256:=⟨_,rfl⟩
  rw [← hpl] at M2 ⊢
  refine ⟨_,rfl,_,rfl,sc,_,_,_,rfl,rfl,SqT.of M2.es,rfl,_,rfl,sc,_,_,_,rfl,rfl,SqT.of M2.es,rfl,fun b db hb hdb _=>?_⟩
  have sB:Same H2 (upd (upd H2 db (.own b)) b (.ins C db [])):=fun x u e=>zeW hb hdb x u e
  have m16:=M2.m16
  refine ⟨b,db,R,CL,m,0,D,us,ws,rfl,zad,by omega,m16,by decide,M2.rf.same sB,sB _ _ M2.eC,S2.same sB,fun B H3 e1 e2 e3 e4 hBL hBla hBW hBd fr=>⟨rfl,?_⟩⟩
  subst e1 e2 e3 e4
  have s23:Same H2 H3:=fun x u e=>fr x u (zam e hb) (sB _ _ e)
  have AP:Ap6 D o B.L B.la B.W CL OL cd:=by
   have n0:∀ {x y:Addr} {u:HO},H2 x=some u→upd (upd H2 db (.own B.b)) B.b (.ins C db []) y=none→x≠y:=fun {x y u} e h q=>by have:=sB _ _ e;rw [q,h] at this;cases this
   obtain ⟨kvs,ed,_⟩:=M2.d
   exact ⟨fS.np,fun i h1 h2=>⟨n0 (M2.w i h1 h2) hBL,n0 (M2.w i h1 h2) hBla⟩,fun i h=>⟨(fS.fp i h).2.1,(fS.fp i h).2.2⟩,Ne.symm (n0 ed hBW)⟩
  have T0:Tw6 C cs H3 H3 B D plain o sc CL cd OL us us 0 0:=⟨hBd,S2.same s23,M2.same s23,fun _ _ _ _ _ _ e=>e⟩
  have sH:Same H H3:=(((zaf hq1).trans (zaf hq2)).trans s1).trans (fS.s.trans s23)
  have er3:=s23 _ _ er2
  refine ⟨by show 1≤sizeLine;decide,fun g hg=>⟨_,rfl,1,rfl,a,_,rfl,(sH.trans (zaf hg)).seq hs,fun p hp=>⟨g,p,_,_,rfl,rfl,SqL.of (zaf hp _ _ zad),SqL.of zad,?_,fun c hc=>⟨c,rfl,⟨_,SqL.of zad⟩,?_⟩⟩⟩⟩
  ·rw [zds,List.length_drop,List.length_map,sizeLine_eq];simp;omega
  rw [zds] at hc ⊢
  have exs:[V.int 0] ++ (ns.map V.int).drop 1=(0 :: ns.drop 1).map V.int:=by rw [← List.map_drop];rfl
  rw [exs]
  have hcl:(0 :: ns.drop 1:List Int).length≤64:=by simp;omega
  generalize (0 :: ns.drop 1:List Int)=cells at *
  have sG:=((zaf (o:=.lst [V.int 0]) hg).trans (zaf (o:=.lst ((ns.map V.int).drop 1)) hp)).trans (zaf (o:=.lst (cells.map V.int)) hc)
  have hcG:∀ {x:Addr} {u:HO},H3 x=some u→x≠c:=fun {x u} e z=>by have:=zaf (o:=.lst ((ns.map V.int).drop 1)) hp _ _ (zaf (o:=.lst [V.int 0]) hg _ _ e);rw [z,hc] at this;cases this
  have hcc:upd (upd (upd H3 g (.lst [V.int 0])) p (.lst ((ns.map V.int).drop 1))) c (.lst (cells.map V.int)) c=some (.lst (cells.map V.int)):=zad
  generalize upd (upd (upd H3 g (.lst [V.int 0])) p (.lst ((ns.map V.int).drop 1))) c (.lst (cells.map V.int))=H5 at *
  have T5:=T0.same sG
  obtain ⟨kv0,ed0,_⟩:=T0.M.d
  obtain ⟨db5,eb5⟩:=T0.b.e
  have keep:∀ {x:Addr} {u:HO} {X:Hp} {uB uM:Nat→List Nat} {f' n':Nat},H5 x=some u→(x=c∨x=row)→Tw6 C cs H5 X B D plain o sc CL cd OL uB uM f' n'→X x=some u:=fun {x u X uB uM f' n'} e hx t=>by
   have ne:x≠B.b∧x≠cd∧(∀ i,i<D.m→x≠D.p i)∧∀ i,1≤i→i<D.m→x≠o i:=by
    rcases hx with rfl | rfl
    ·exact ⟨Ne.symm (hcG eb5),Ne.symm (hcG ed0),fun i h=>Ne.symm (hcG (T0.S.o i h).ls),fun i h1 h2=>Ne.symm (hcG (T0.M.w i h1 h2))⟩
    ·exact ⟨(fun q=>by rw [q,eb5] at er3;cases er3),(fun q=>by rw [q,ed0] at er3;cases er3),(fun i h q=>by rw [q,(fS.fp i h).1] at er;cases er),(fun i h1 h2 q=>by rw [q,(fS.fo i h1 h2).1] at er;cases er)⟩
   exact t.fr _ _ ne.1 ne.2.1 ne.2.2.1 ne.2.2.2 e
  have h2m:0<2 ^ B.bits:=Nat.pos_of_ne_zero (by simp)
  have b16:=hBd.b2
  have p2:(1:Int) * 2 ^ ((B.bits:Nat):Int).toNat=((2 ^ B.bits:Nat):Int):=by rw [Int.one_mul,Int.toNat_natCast];norm_cast
  obtain ⟨mt,hmt⟩:∃ mt:Nat,B.bits=mt+2:=⟨B.bits - 2,by omega⟩
  have emt:(B.bits:Int) - 2=(mt:Int):=by omega
  have q4:2 ^ B.bits=4 * 2 ^ mt:=by rw [hmt,Nat.pow_succ,Nat.pow_succ];omega
  have hmt12:4096≤2 ^ mt:=Nat.le_trans (show 4096≤2 ^ 12 by decide) (Nat.pow_le_pow_right (by decide) (by omega))
  have sh:∀ n:Nat,(n:Int) * 2 ^ ((mt:Nat):Int).toNat=((n * 2 ^ mt:Nat):Int):=fun n=>by rw [Int.toNat_natCast];norm_cast
  refine zfe (K:=K) (a:=c) (xs:=cells.map V.int) (fun i σ X=>∃ (v7 v8 v9 v10 v11:Option V) (uu:Nat→List Nat) (fl:Nat),σ=[some (.ref a),some (.ref row),some (.ref sc),some (.int (B.bits:Int)),some (.int (plain:Int)),some (.int (fl:Int)),some (.ref B.b),v7,v8,v9,v10,v11]∧Tw6 C cs H5 X B D plain o sc CL cd OL uu uu fl i) ⟨_,_,_,_,_,us,0,rfl,T5.bas.same (Same.refl _)⟩ ?_ ?_ ?_
  ·rintro i σ X _ ⟨_,_,_,_,_,uu,fl,_,tX⟩
   exact SqL.of (keep hcc (.inl rfl) tX)
  ·rintro i x σ X hx ⟨v7,v8,v9,v10,v11,uu,fl,rfl,tX⟩
   have hi64:i<64:=by have:=(List.getElem?_eq_some_iff.mp hx).1;rw [List.length_map] at this;omega
   obtain ⟨cell,rfl⟩:∃ cell:Int,x = .int cell:=by
    rw [List.getElem?_map] at hx
    obtain ⟨z,_,rfl⟩:=Option.map_eq_some_iff.mp hx
    exact ⟨z,rfl⟩
   refine ⟨_,rfl,cell,6,rfl,by decide,fun r Y vs hr er hvl hv8 sY=>?_⟩
   have tY:=tX.same sY
   obtain ⟨v,hvf⟩:∃ v:Nat→Nat,∀ i,v i=vs.getD i 0:=⟨_,fun _=>rfl⟩
   have at6:∀ i:Nat,i<6→atI (vN vs) (i:Int)=some (.int (v i:Int)):=fun i h=>by rw [hvf];exact atv (by omega)
   have nr:r≠B.b∧r≠cd∧(∀ i,i<D.m→r≠D.p i)∧∀ i,1≤i→i<D.m→r≠o i:=by
    have n1:∀ {x:Addr} {u:HO},X x=some u→r≠x:=fun {x u} e z=>by rw [← z,hr] at e;cases e
    obtain ⟨d,e⟩:=tX.b.e
    obtain ⟨kv,ek,_⟩:=tX.M.d
    exact ⟨n1 e,n1 ek,fun i hi=>n1 (tX.S.o i hi).ls,fun i h1 h2=>n1 (tX.M.w i h1 h2)⟩
   dsimp only [za5,List.set]
   refine ⟨_,rfl,r,_,_,_,rfl,rfl,SqL.of er,at6 0 (by decide),_,_,rfl,rfl,(show (0:Int)<4 by decide),_,rfl,_,_,rfl,rfl,_,_,rfl,rfl,⟨by omega,by omega,by omega⟩,_,rfl,r,_,_,_,rfl,rfl,SqL.of er,at6 1 (by decide),_,rfl,_,_,rfl,rfl,?_⟩
   dsimp only
   rw [emt]
   refine ⟨_,_,rfl,rfl,⟨by omega,by omega,by decide⟩,_,_,rfl,rfl,(by have:=sh 1;rw [show ((1:Nat):Int)=1 from rfl] at this;rw [this];omega),_,_,rfl,rfl,?_⟩
   have s1':(1:Int) * 2 ^ ((mt:Nat):Int).toNat=((1 * 2 ^ mt:Nat):Int):=sh 1
   have s2':(2:Int) * 2 ^ ((mt:Nat):Int).toNat=((2 * 2 ^ mt:Nat):Int):=sh 2
   obtain ⟨x0,hx0,ex0⟩:∃ x0:Nat,x0<2 ^ B.bits∧Builtin.bitOr ((v 0:Int) % 4 * 2 ^ ((mt:Nat):Int).toNat) ((v 1:Int) % ((1:Int) * 2 ^ ((mt:Nat):Int).toNat))=(x0:Int):=by
    refine ⟨(v 0 % 4 * 2 ^ mt) ||| (v 1 % (1 * 2 ^ mt)),Nat.or_lt_two_pow ?_ ?_,?_⟩
    ·have:v 0 % 4 * 2 ^ mt≤3 * 2 ^ mt:=Nat.mul_le_mul_right _ (by omega)
     omega
    ·have:=Nat.mod_lt (v 1) (show 0<1 * 2 ^ mt by omega);omega
    ·rw [s1',show (v 0:Int) % 4=((v 0 % 4:Nat):Int) by omega,sh,show (v 1:Int) % ((1 * 2 ^ mt:Nat):Int)=((v 1 % (1 * 2 ^ mt):Nat):Int) by norm_cast,bor]
   dsimp only [za5,List.set]
   rw [ex0]
   refine zdm (fun σ H'=>σ=[some (.ref a),some (.ref row),some (.ref sc),some (.int (B.bits:Int)),some (.int (plain:Int)),some (.int (fl:Int)),some (.ref B.b),some (.int cell),some (.ref r),some (.int (x0:Int)),v10,v11]∧H'=Y) (fun σ H'=>∃ x:Nat,x<2 ^ B.bits∧σ=[some (.ref a),some (.ref row),some (.ref sc),some (.int (B.bits:Int)),some (.int (plain:Int)),some (.int (fl:Int)),some (.ref B.b),some (.int cell),some (.ref r),some (.int (x:Int)),v10,v11]∧H'=Y) ?_ ?_ _ _ ⟨rfl,rfl⟩
   ·rintro _ _ ⟨rfl,rfl⟩ N hN
    refine ⟨_,rfl,r,_,_,_,rfl,rfl,SqL.of er,at6 0 (by decide),_,_,rfl,rfl,(show (0:Int)<4 by decide),rfl,_,rfl,ite2 (fun _=>?_) (fun _=>zav (hN _ _ ⟨x0,hx0,rfl,rfl⟩))⟩
    refine ⟨_,rfl,_,_,rfl,rfl,?_⟩
    dsimp only
    rw [emt]
    refine ⟨_,_,rfl,rfl,⟨by omega,by omega,by decide⟩,_,rfl,r,_,_,_,rfl,rfl,SqL.of er,at6 1 (by decide),_,_,rfl,rfl,(show (0:Int)<25 by decide),_,_,rfl,rfl,?_⟩
    dsimp only [za5,List.set]
    rw [s2',show (v 1:Int) % 25=((v 1 % 25:Nat):Int) by omega,bor]
    exact hN _ _ ⟨_,Nat.or_lt_two_pow (by omega) (by omega),rfl,rfl⟩
   rintro _ _ ⟨x,hx,rfl,rfl⟩
   rename_i Y'
   obtain ⟨word,hwd,ewd⟩:∃ word:Nat,word≤255∧(v 2:Int) % 256=(word:Int):=⟨v 2 % 256,by omega,by omega⟩
   refine ⟨_,rfl,r,_,_,_,rfl,rfl,SqL.of er,at6 2 (by decide),_,_,rfl,rfl,(show (0:Int)<256 by decide),?_⟩
   dsimp only [za5,List.set]
   rw [ewd]
   refine zdm (fun σ H'=>σ=[some (.ref a),some (.ref row),some (.ref sc),some (.int (B.bits:Int)),some (.int (plain:Int)),some (.int (fl:Int)),some (.ref B.b),some (.int cell),some (.ref r),some (.int (x:Int)),some (.int (word:Int)),v11]∧H'=Y') (fun σ H'=>∃ (u':Nat→List Nat) (fl:Nat),σ=[some (.ref a),some (.ref row),some (.ref sc),some (.int (B.bits:Int)),some (.int (plain:Int)),some (.int (fl:Int)),some (.ref B.b),some (.int cell),some (.ref r),some (.int (x:Int)),some (.int (word:Int)),v11]∧Tw6 C cs Y' H' B D plain o sc CL cd OL u' u' fl (i+1)) ?_ ?_ _ _ ⟨rfl,rfl⟩
   ·rintro _ _ ⟨rfl,rfl⟩ N hN
    refine ⟨_,rfl,r,_,_,_,rfl,rfl,SqL.of er,at6 3 (by decide),_,_,rfl,rfl,(show (0:Int)<3 by decide),rfl,_,rfl,ite2 (fun _=>?_) (fun _=>?_)⟩
    ·refine ⟨_,rfl,_,rfl,_,rfl,sc,B.R,CL,cd,OL,D,o,uu,B.ws,plain,B.bits,i,x,word,rfl,tY.M,by omega,hwd,fun Z1 M1 fr1=>?_⟩
     have t1:=tY.bas.law AP fr1 M1
     obtain ⟨d1,eb1⟩:=t1.b.e
     refine ⟨_,rfl,B.b,C,d1,_,_,_,rfl,eb1,M_write,rfl,_,rfl,_,rfl,B,D,uu,fl,x,word,rfl,t1.b,t1.S,hx,hwd,fun Z2 b2 S2 fr2=>?_⟩
     have t2:=t1.brd AP fr2 b2 S2
     rw [wu_eq tY.b] at t2
     exact ⟨_,rfl,hN _ _ ⟨_,word,rfl,t2⟩⟩
    ·refine ⟨_,rfl,r,_,_,_,rfl,rfl,SqL.of er,at6 3 (by decide),_,_,rfl,rfl,(show (0:Int)<3 by decide),rfl,_,rfl,ite2 (fun _=>?_) (fun _=>zav (hN _ _ ⟨_,fl,rfl,tY.bas.b,tY.S,tY.M.up,tY.bas.fr⟩))⟩
     refine ⟨_,rfl,_,rfl,_,rfl,_,rfl,sc,B.R,CL,cd,OL,D,o,uu,B.ws,plain,B.bits,i,x,fl,rfl,tY.M,by omega,fun Z0 s0=>?_⟩
     have t0:=tY.bas.same s0
     dsimp only [za5,List.set]
     refine ⟨_,rfl,_,rfl,sc,B.R,CL,cd,OL,D,o,uu,B.ws,plain,B.bits,i,x,rfl,t0.M,fun Z1 M1 fr1=>?_⟩
     have t1:=t0.law AP fr1 M1
     obtain ⟨d1,eb1⟩:=t1.b.e
     refine ⟨_,rfl,B.b,C,d1,_,_,_,rfl,eb1,M_read,rfl,_,rfl,B,D,uu,fl,x,false,rfl,t1.b,t1.S,hx,(fun z=>by cases z),fun _ Z2 b2 S2 fr2=>?_⟩
     have t2:=t1.brd AP fr2 b2 S2
     rw [zlz tY.b,ru_eq tY.b] at t2
     rw [zlz tY.b]
     exact ⟨_,rfl,_,_,rfl,.inr (.int _),fun Z3 s3=>⟨_,rfl,iteF (zav (hN _ _ ⟨_,_,rfl,(t2.same s3).b,(t2.same s3).S,(t2.same s3).M.up,(t2.same s3).fr⟩))⟩⟩
   rintro _ Z' ⟨u',fl',rfl,t'⟩
   have er':Z' r=some (.lst (vN vs)):=t'.fr _ _ nr.1 nr.2.1 nr.2.2.1 nr.2.2.2 er
   refine ⟨_,rfl,_,rfl,_,rfl,r,_,_,_,rfl,rfl,SqL.of er',at6 4 (by decide),_,rfl,_,_,rfl,rfl,(show (0:Int)<(B.bits:Int) by omega),_,_,rfl,rfl,?_⟩
   rw [show (v 4:Int) % (B.bits:Int)=((v 4 % B.bits:Nat):Int) by norm_cast]
   have hsb:v 4 % B.bits<B.bits:=Nat.mod_lt _ (by omega)
   generalize v 4 % B.bits=sb at hsb
   have e1':(1:Int) * 2 ^ ((sb:Nat):Int).toNat=((2 ^ sb:Nat):Int):=by rw [Int.one_mul,Int.toNat_natCast];norm_cast
   have hy:x ^^^ 2 ^ sb<2 ^ B.bits:=Nat.xor_lt_two_pow hx (Nat.pow_lt_pow_right (by decide) hsb)
   refine ⟨⟨by omega,by omega,by decide⟩,_,_,rfl,rfl,_,rfl,r,_,_,_,rfl,rfl,SqL.of er',at6 5 (by decide),_,rfl,_,_,rfl,rfl,⟨by omega,by omega,by decide⟩,_,_,rfl,rfl,(by rw [p2];omega),?_⟩
   dsimp (proj:=false) only
   rw [e1',p2,bxor,show (v 5:Int) % ((2 ^ B.bits:Nat):Int)=((v 5 % 2 ^ B.bits:Nat):Int) by norm_cast]
   have hy5:v 5 % 2 ^ B.bits<2 ^ B.bits:=Nat.mod_lt _ h2m
   refine ⟨by show 3≤sizeLine;decide,fun q3 hq3=>⟨q3,rfl,⟨_,SqL.of zad⟩,?_⟩⟩
   have hall:∀ z∈[x,x ^^^ 2 ^ sb,v 5 % 2 ^ B.bits],z<2 ^ B.bits:=fun z hz=>by
    rcases List.mem_cons.mp hz with rfl | hz
    ·exact hx
    ·rcases List.mem_cons.mp hz with rfl | hz
     ·exact hy
     ·rw [List.mem_singleton.mp hz];exact hy5
   have eq3:upd Z' q3 (.lst [V.int (x:Int),.int ((x ^^^ 2 ^ sb:Nat):Int),.int ((v 5 % 2 ^ B.bits:Nat):Int)]) q3=some (.lst (vN [x,x ^^^ 2 ^ sb,v 5 % 2 ^ B.bits])):=zad
   have t5:=t'.same (zaf (o:=.lst [V.int (x:Int),.int ((x ^^^ 2 ^ sb:Nat):Int),.int ((v 5 % 2 ^ B.bits:Nat):Int)]) hq3)
   generalize upd Z' q3 (.lst [V.int (x:Int),.int ((x ^^^ 2 ^ sb:Nat):Int),.int ((v 5 % 2 ^ B.bits:Nat):Int)])=Z5 at *
   generalize [x,x ^^^ 2 ^ sb,v 5 % 2 ^ B.bits]=ys at *
   refine zfe (K:=K) (a:=q3) (xs:=vN ys) (fun i σ X'=>∃ (v11:Option V),σ=[some (.ref a),some (.ref row),some (.ref sc),some (.int (B.bits:Int)),some (.int (plain:Int)),some (.int (fl':Int)),some (.ref B.b),some (.int cell),some (.ref r),some (.int (x:Int)),some (.int (word:Int)),v11]∧Same Z5 X') ⟨_,rfl,Same.refl _⟩ (fun i σ X' _ ⟨_,_,sX⟩=>SqL.of (sX _ _ eq3)) ?_ ?_
   ·rintro i' y σ X' hy' ⟨v11,rfl,sX⟩
    obtain ⟨pl,hpl',rfl⟩:=zfp hy'
    have hp':=hall pl (List.mem_of_getElem? hpl')
    have t6:=t5.same sX
    obtain ⟨d6,eb6⟩:=t6.b.e
    dsimp only [za5,List.set]
    refine zdm (fun σ H'=>σ=[some (.ref a),some (.ref row),some (.ref sc),some (.int (B.bits:Int)),some (.int (plain:Int)),some (.int (fl':Int)),some (.ref B.b),some (.int cell),some (.ref r),some (.int (x:Int)),some (.int (word:Int)),some (.int (pl:Int))]∧H'=X') (fun σ H'=>σ=[some (.ref a),some (.ref row),some (.ref sc),some (.int (B.bits:Int)),some (.int (plain:Int)),some (.int (fl':Int)),some (.ref B.b),some (.int cell),some (.ref r),some (.int (x:Int)),some (.int (word:Int)),some (.int (pl:Int))]∧Same Z5 H') ?_ ?_ _ _ ⟨rfl,rfl⟩
    ·rintro _ _ ⟨rfl,rfl⟩ N hN
     refine ⟨_,rfl,B.b,C,d6,_,_,_,rfl,eb6,M_who,rfl,_,rfl,B,D,u',fl',pl,rfl,t6.b,t6.S,hp',fun hw X1 s1=>?_,fun i z hw hz t X1 ht et s1=>?_⟩
     ·have t7:=t6.same s1
      rw [zfn t6.b] at hw
      refine ⟨_,rfl,_,rfl,sc,B.R,CL,cd,OL,D,o,u',B.ws,plain,B.bits,_,pl,rfl,t7.M,fun _ X2 s2=>?_,fun i z hw2=>by rw [hw] at hw2;cases hw2⟩
      exact ⟨_,_,rfl,.inl ⟨rfl,rfl⟩,fun X3 s3=>⟨_,rfl,iteF (zav (hN _ _ ⟨rfl,sX.trans (s1.trans (s2.trans s3))⟩))⟩⟩
     ·have t7:=t6.same s1
      rw [zfn t6.b] at hw
      refine ⟨_,rfl,_,rfl,sc,B.R,CL,cd,OL,D,o,u',B.ws,plain,B.bits,_,pl,rfl,t7.M,(fun hw2=>by rw [hw] at hw2;cases hw2),fun i' z' hw2 hz2 t2 X2 ht2 et2 s2=>?_⟩
      rw [hw] at hw2
      cases hw2
      rw [hz] at hz2
      cases hz2
      exact ⟨_,_,rfl,.inr (zlP (s2 _ _ et) et2),fun X3 s3=>⟨_,rfl,iteF (zav (hN _ _ ⟨rfl,sX.trans (s1.trans (s2.trans s3))⟩))⟩⟩
    ·rintro _ X1 ⟨rfl,s1⟩
     have t7:=t5.same s1
     obtain ⟨d7,eb7⟩:=t7.b.e
     refine ⟨_,rfl,B.b,C,d7,_,_,_,rfl,eb7,M_readp,rfl,_,rfl,B,D,u',fl',pl,true,rfl,t7.b,t7.S,hp',(fun _ X2 s2=>?_),fun z=>by cases z⟩
     have t8:=t7.same s2
     refine ⟨_,rfl,_,rfl,_,rfl,_,rfl,sc,B.R,CL,cd,OL,D,o,u',B.ws,plain,B.bits,_,pl,fl',rfl,t8.M,by omega,fun X3 s3=>?_⟩
     rw [zlz t7.b]
     exact ⟨_,_,rfl,.inr (.int _),fun X4 s4=>⟨_,rfl,iteF (zav ⟨_,rfl,s1.trans (s2.trans (s3.trans s4))⟩)⟩⟩
   ·rintro σ X' ⟨v11,rfl,sX⟩
    exact ⟨_,_,_,_,_,u',fl',rfl,tY.on (t5.same sX)⟩
  ·rintro σ X ⟨v7,v8,v9,v10,v11,uu,fl,rfl,tX⟩
   have hway:vals.getD 1 0 % 5<5:=Nat.mod_lt _ (by decide)
   have erX:=keep (sG _ _ er3) (.inr rfl) tX
   have h1:atI (vN vals) 1=some (.int (vals.getD 1 0:Int)):=(atv (i:=1) (by omega):atI _ ((1:Nat):Int)=_)
   have at5:atI [V.int 512,.int 1024,.int 2048,.int 4095,.int 4096] ((vals.getD 1 0:Int) % 5)=some (.int (([512,1024,2048,4095,4096]:List Nat).getD (vals.getD 1 0 % 5) 0:Int)):=by
    rw [show ((vals.getD 1 0:Nat):Int) % 5=((vals.getD 1 0 % 5:Nat):Int) by omega]
    exact atv (vals:=[512,1024,2048,4095,4096]) hway
   refine ⟨_,rfl,_,rfl,by show 5≤sizeLine;decide,fun q5 hq5=>?_⟩
   have s5:=zaf (H:=X) (o:=.lst [V.int 512,.int 1024,.int 2048,.int 4095,.int 4096]) hq5
   refine ⟨_,rfl,row,_,_,_,rfl,rfl,SqL.of (s5 _ _ erX),h1,_,_,rfl,rfl,(show (0:Int)<5 by decide),q5,_,_,_,rfl,rfl,SqL.of zad,at5,?_⟩
   have t5:=tX.same s5
   have hlen0:(uu 0).length=([512,1024,2048,4095,4096]:List Nat).getD (vals.getD 1 0 % 5) 0:=by
    have m0:0<D.m:=by have:=M2.k0.2.2;omega
    have z1:=tX.M.z 0 m0
    have z2:=M2.z 0 m0
    unfold zaQ at z1 z2
    rw [if_neg (by rw [M2.k0.1];decide)] at z1 z2
    rw [z1,← z2,hsz]
   rw [← hlen0]
   exact ⟨sc,B.R,CL,cd,OL,D,o,uu,B.ws,plain,B.bits,_,rfl,t5.M,t5.S,fun _ _=>k _⟩
end
theorem all_mk {l:PySem.W.OpenLaw} {w:World} {K:PySem.W.Frag} {h:Heap} {mg:Str→Option Value} {fa:Addr} (X:K.In h) (G:h.Ns mainGlobals mg) (hfa:mg "law" = some (.ref fa))
  {f_0:Addr} {fd_0:FuncData}
  {f_1:Addr} {fd_1:FuncData}
  {f_2:Addr} {fd_2:FuncData}
  {f_3:Addr} {fd_3:FuncData}
  {f_4:Addr} {fd_4:FuncData}
  {f_5:Addr} {fd_5:FuncData}
  {f_6:Addr} {fd_6:FuncData}
  {f_7:Addr} {fd_7:FuncData}
  {f_8:Addr} {fd_8:FuncData}
  {f_9:Addr} {fd_9:FuncData}
  {f_10:Addr} {fd_10:FuncData}
  {f_11:Addr} {fd_11:FuncData}
  {f_12:Addr} {fd_12:FuncData}
  {f_13:Addr} {fd_13:FuncData}
  {f_14:Addr} {fd_14:FuncData}
  {f_15:Addr} {fd_15:FuncData}
  {f_16:Addr} {fd_16:FuncData}
  {f_17:Addr} {fd_17:FuncData}
  {f_18:Addr} {fd_18:FuncData}
  {f_19:Addr} {fd_19:FuncData}
  {C_Chip:Addr}
  {f_20:Addr} {fd_20:FuncData}
  {C_Store:Addr}
  {f_21:Addr} {fd_21:FuncData}
  {f_22:Addr} {fd_22:FuncData}
  {f_23:Addr} {fd_23:FuncData}
  {f_24:Addr} {fd_24:FuncData}
  {f_25:Addr} {fd_25:FuncData}
  {f_26:Addr} {fd_26:FuncData}
  {f_27:Addr} {fd_27:FuncData}
  {C_Fixed:Addr}
  {f_28:Addr} {fd_28:FuncData}
  {C_Latch:Addr}
  {C_Meter:Addr}
  {f_29:Addr} {fd_29:FuncData}
  {f_30:Addr} {fd_30:FuncData}
  {T_30:Addr} {tc_30:Value} {td_30:Option Addr} {tn_30:Nat} {ts_30:Array (Option Value)} {tt_30:Tok}
  {f_31:Addr} {fd_31:FuncData}
  {f_32:Addr} {fd_32:FuncData}
  {T_32:Addr} {tc_32:Value} {td_32:Option Addr} {tn_32:Nat} {ts_32:Array (Option Value)} {tt_32:Tok}
  {f_33:Addr} {fd_33:FuncData}
  {T_33:Addr} {tc_33:Value} {td_33:Option Addr} {tn_33:Nat} {ts_33:Array (Option Value)} {tt_33:Tok}
  {f_34:Addr} {fd_34:FuncData}
  {f_35:Addr} {fd_35:FuncData}
  {f_36:Addr} {fd_36:FuncData}
  {C_Board:Addr}
  {f_37:Addr} {fd_37:FuncData}
  {T_37:Addr} {tc_37:Value} {td_37:Option Addr} {tn_37:Nat} {ts_37:Array (Option Value)} {tt_37:Tok}
  {f_38:Addr} {fd_38:FuncData}
  {f_39:Addr} {fd_39:FuncData}
  {f_40:Addr} {fd_40:FuncData}
  {f_41:Addr} {fd_41:FuncData}
  {f_42:Addr} {fd_42:FuncData}
  {f_43:Addr} {fd_43:FuncData}
  {T_43:Addr} {tc_43:Value} {td_43:Option Addr} {tn_43:Nat} {ts_43:Array (Option Value)}
  {f_44:Addr} {fd_44:FuncData}
  {f_45:Addr} {fd_45:FuncData}
  {f_46:Addr} {fd_46:FuncData}
  {f_47:Addr} {fd_47:FuncData}
  {f_48:Addr} {fd_48:FuncData}
  {f_49:Addr} {fd_49:FuncData}
  {f_50:Addr} {fd_50:FuncData}
  {f_51:Addr} {fd_51:FuncData}
  {f_52:Addr} {fd_52:FuncData}
  {f_53:Addr} {fd_53:FuncData}
  {f_54:Addr} {fd_54:FuncData}
  {f_55:Addr} {fd_55:FuncData}
  {f_56:Addr} {oc_56 kV_56 dc_56 pm_56 cd_56 ct_56:Value} {od_56 an_56:Option Addr} {sl_56:Array (Option Value)}
  {tk_MOST_BITS:Tok}
  {tk_LAST_CHIP:Tok}
  {tk_LAST_WORD:Tok}
  {tk_MOST_CELLS:Tok}
  {tk_SIXTEEN:Tok}
  {tk_READ:Tok}
  {tk_WRITE:Tok}
  {tk_BOTH:Tok}
  (zS:PySem.W.nsIn K mainGlobals "sorted" = some none)
  (a0_0:PySem.W.nsIn K mainGlobals "single_ones" = some (some (.ref f_0)))
  (F_0:Fun K "single_ones" "single_ones" zbU f_0 fd_0)
  (a0_1:PySem.W.nsIn K mainGlobals "ones_of" = some (some (.ref f_1)))
  (F_1:Fun K "ones_of" "ones_of" zeQ f_1 fd_1)
  (a0_2:PySem.W.nsIn K mainGlobals "gathered" = some (some (.ref f_2)))
  (F_2:Fun K "gathered" "gathered" zdL f_2 fd_2)
  (a0_3:PySem.W.nsIn K mainGlobals "is_number" = some (some (.ref f_3)))
  (F_3:Fun K "is_number" "is_number" zcH f_3 fd_3)
  (a0_4:PySem.W.nsIn K mainGlobals "size_of" = some (some (.ref f_4)))
  (F_4:Fun K "size_of" "size_of" zeL f_4 fd_4)
  (a0_5:PySem.W.nsIn K mainGlobals "is_choice" = some (some (.ref f_5)))
  (F_5:Fun K "is_choice" "is_choice" zcI f_5 fd_5)
  (a0_6:PySem.W.nsIn K mainGlobals "is_latch" = some (some (.ref f_6)))
  (F_6:Fun K "is_latch" "is_latch" zdJ f_6 fd_6)
  (a0_7:PySem.W.nsIn K mainGlobals "is_row" = some (some (.ref f_7)))
  (F_7:Fun K "is_row" "is_row" zgp f_7 fd_7)
  (a0_8:PySem.W.nsIn K mainGlobals "is_map" = some (some (.ref f_8)))
  (F_8:Fun K "is_map" "is_map" zgq f_8 fd_8)
  (a0_9:PySem.W.nsIn K mainGlobals "meets" = some (some (.ref f_9)))
  (F_9:Fun K "meets" "meets" ziu f_9 fd_9)
  (a0_10:PySem.W.nsIn K mainGlobals "cell_at" = some (some (.ref f_10)))
  (F_10:Fun K "cell_at" "cell_at" zeU f_10 fd_10)
  (a0_11:PySem.W.nsIn K mainGlobals "choices_agree" = some (some (.ref f_11)))
  (F_11:Fun K "choices_agree" "choices_agree" zbz f_11 fd_11)
  (a0_12:PySem.W.nsIn K mainGlobals "latches_agree" = some (some (.ref f_12)))
  (F_12:Fun K "latches_agree" "latches_agree" zby f_12 fd_12)
  (a0_13:PySem.W.nsIn K mainGlobals "rows_clash" = some (some (.ref f_13)))
  (F_13:Fun K "rows_clash" "rows_clash" zci f_13 fd_13)
  (a0_14:PySem.W.nsIn K mainGlobals "least_words" = some (some (.ref f_14)))
  (F_14:Fun K "least_words" "least_words" zbW f_14 fd_14)
  (a0_15:PySem.W.nsIn K mainGlobals "clash_of" = some (some (.ref f_15)))
  (F_15:Fun K "clash_of" "clash_of" zdN f_15 fd_15)
  (a0_16:PySem.W.nsIn K mainGlobals "is_awake" = some (some (.ref f_16)))
  (F_16:Fun K "is_awake" "is_awake" zdK f_16 fd_16)
  (a0_17:PySem.W.nsIn K mainGlobals "answering" = some (some (.ref f_17)))
  (F_17:Fun K "answering" "answering" zcM f_17 fd_17)
  (a0_18:PySem.W.nsIn K mainGlobals "is_word" = some (some (.ref f_18)))
  (F_18:Fun K "is_word" "is_word" zeT f_18 fd_18)
  (a0_19:PySem.W.nsIn K mainGlobals "check_word" = some (some (.ref f_19)))
  (F_19:Fun K "check_word" "check_word" zck f_19 fd_19)
  (a_Chip:PySem.W.nsIn K mainGlobals "Chip" = some (some (.ref C_Chip)))
  (sg_cm_Chip___init__:PySem.W.specialIn K (.ref C_Chip) "__getattribute__" = some (some (.builtin "type.__getattribute__")))
  (rd_cm_Chip___init__:PySem.W.readsIn K C_Chip (.type "type")=true)
  (fc_cm_Chip___init__:PySem.W.findCls K (.ref C_Chip) (.type "type") "__init__" = some (.val (.ref f_20)))
  (F_20:Fun K "__init__" "Chip.__init__" zbB f_20 fd_20)
  (a_Store:PySem.W.nsIn K mainGlobals "Store" = some (some (.ref C_Store)))
  (cl_Store:ClsOk K C_Store)
  (at_Store___len__:PySem.W.findIn K (.ref C_Store) "__len__" = some (some (.ref f_21)))
  (F_21:Fun K "__len__" "Chip.__len__" zbM f_21 fd_21)
  (fn_21:PySem.W.isFn K (.ref f_21)=true)
  (at_Store_check_cell:PySem.W.findIn K (.ref C_Store) "check_cell" = some (some (.ref f_22)))
  (F_22:Fun K "check_cell" "Chip.check_cell" zba f_22 fd_22)
  (fn_22:PySem.W.isFn K (.ref f_22)=true)
  (at_Store_check_write:PySem.W.findIn K (.ref C_Store) "check_write" = some (some (.ref f_23)))
  (F_23:Fun K "check_write" "Chip.check_write" za4 f_23 fd_23)
  (fn_23:PySem.W.isFn K (.ref f_23)=true)
  (at_Store_look:PySem.W.findIn K (.ref C_Store) "look" = some (some (.ref f_24)))
  (F_24:Fun K "look" "Chip.look" zcS f_24 fd_24)
  (fn_24:PySem.W.isFn K (.ref f_24)=true)
  (at_Store_state:PySem.W.findIn K (.ref C_Store) "state" = some (some (.ref f_25)))
  (F_25:Fun K "state" "Chip.state" zcp f_25 fd_25)
  (fn_25:PySem.W.isFn K (.ref f_25)=true)
  (at_Store_read:PySem.W.findIn K (.ref C_Store) "read" = some (some (.ref f_26)))
  (F_26:Fun K "read" "Chip.read" zcR f_26 fd_26)
  (fn_26:PySem.W.isFn K (.ref f_26)=true)
  (at_Store_write:PySem.W.findIn K (.ref C_Store) "write" = some (some (.ref f_27)))
  (F_27:Fun K "write" "Chip.write" zco f_27 fd_27)
  (fn_27:PySem.W.isFn K (.ref f_27)=true)
  (a_Fixed:PySem.W.nsIn K mainGlobals "Fixed" = some (some (.ref C_Fixed)))
  (cl_Fixed:ClsOk K C_Fixed)
  (at_Fixed___len__:PySem.W.findIn K (.ref C_Fixed) "__len__" = some (some (.ref f_21)))
  (at_Fixed_check_cell:PySem.W.findIn K (.ref C_Fixed) "check_cell" = some (some (.ref f_22)))
  (at_Fixed_check_write:PySem.W.findIn K (.ref C_Fixed) "check_write" = some (some (.ref f_23)))
  (at_Fixed_look:PySem.W.findIn K (.ref C_Fixed) "look" = some (some (.ref f_24)))
  (at_Fixed_state:PySem.W.findIn K (.ref C_Fixed) "state" = some (some (.ref f_25)))
  (at_Fixed_read:PySem.W.findIn K (.ref C_Fixed) "read" = some (some (.ref f_26)))
  (at_Fixed_write:PySem.W.findIn K (.ref C_Fixed) "write" = some (some (.ref f_28)))
  (F_28:Fun K "write" "Fixed.write" zb0 f_28 fd_28)
  (fn_28:PySem.W.isFn K (.ref f_28)=true)
  (a_Latch:PySem.W.nsIn K mainGlobals "Latch" = some (some (.ref C_Latch)))
  (cl_Latch:ClsOk K C_Latch)
  (at_Latch___len__:PySem.W.findIn K (.ref C_Latch) "__len__" = some (some (.ref f_21)))
  (at_Latch_check_cell:PySem.W.findIn K (.ref C_Latch) "check_cell" = some (some (.ref f_22)))
  (at_Latch_check_write:PySem.W.findIn K (.ref C_Latch) "check_write" = some (some (.ref f_23)))
  (at_Latch_look:PySem.W.findIn K (.ref C_Latch) "look" = some (some (.ref f_24)))
  (at_Latch_state:PySem.W.findIn K (.ref C_Latch) "state" = some (some (.ref f_25)))
  (at_Latch_read:PySem.W.findIn K (.ref C_Latch) "read" = some (some (.ref f_26)))
  (at_Latch_write:PySem.W.findIn K (.ref C_Latch) "write" = some (some (.ref f_27)))
  (a_Meter:PySem.W.nsIn K mainGlobals "Meter" = some (some (.ref C_Meter)))
  (cl_Meter:ClsOk K C_Meter)
  (at_Meter___len__:PySem.W.findIn K (.ref C_Meter) "__len__" = some (some (.ref f_21)))
  (at_Meter_check_cell:PySem.W.findIn K (.ref C_Meter) "check_cell" = some (some (.ref f_22)))
  (at_Meter_check_write:PySem.W.findIn K (.ref C_Meter) "check_write" = some (some (.ref f_23)))
  (at_Meter_look:PySem.W.findIn K (.ref C_Meter) "look" = some (some (.ref f_24)))
  (at_Meter_state:PySem.W.findIn K (.ref C_Meter) "state" = some (some (.ref f_25)))
  (at_Meter_read:PySem.W.findIn K (.ref C_Meter) "read" = some (some (.ref f_29)))
  (F_29:Fun K "read" "Meter.read" zcn f_29 fd_29)
  (fn_29:PySem.W.isFn K (.ref f_29)=true)
  (at_Meter_write:PySem.W.findIn K (.ref C_Meter) "write" = some (some (.ref f_27)))
  (mk_Store:PySem.W.makesIn K C_Store=true)
  (kc_Store:PySem.W.keepIn K (.ref C_Store)=true)
  (at_i_Store:PySem.W.findIn K (.ref C_Store) "__init__" = some (some (.ref f_30)))
  (F_30:FunD K "__init__" "Store.__init__" zbi (.ref T_30) f_30 fd_30)
  (d_30:K.lookup T_30=some ⟨tc_30,td_30,.seq #[.int 0 tt_30] tn_30,ts_30⟩)
  (fn_30:PySem.W.isFn K (.ref f_30)=true)
  (mk_Fixed:PySem.W.makesIn K C_Fixed=true)
  (kc_Fixed:PySem.W.keepIn K (.ref C_Fixed)=true)
  (at_i_Fixed:PySem.W.findIn K (.ref C_Fixed) "__init__" = some (some (.ref f_31)))
  (F_31:Fun K "__init__" "Fixed.__init__" zbl f_31 fd_31)
  (fn_31:PySem.W.isFn K (.ref f_31)=true)
  (mk_Latch:PySem.W.makesIn K C_Latch=true)
  (kc_Latch:PySem.W.keepIn K (.ref C_Latch)=true)
  (at_i_Latch:PySem.W.findIn K (.ref C_Latch) "__init__" = some (some (.ref f_32)))
  (F_32:FunD K "__init__" "Latch.__init__" zbk (.ref T_32) f_32 fd_32)
  (d_32:K.lookup T_32=some ⟨tc_32,td_32,.seq #[.int 0 tt_32] tn_32,ts_32⟩)
  (fn_32:PySem.W.isFn K (.ref f_32)=true)
  (mk_Meter:PySem.W.makesIn K C_Meter=true)
  (kc_Meter:PySem.W.keepIn K (.ref C_Meter)=true)
  (at_i_Meter:PySem.W.findIn K (.ref C_Meter) "__init__" = some (some (.ref f_33)))
  (F_33:FunD K "__init__" "Meter.__init__" zbj (.ref T_33) f_33 fd_33)
  (d_33:K.lookup T_33=some ⟨tc_33,td_33,.seq #[.int 0 tt_33] tn_33,ts_33⟩)
  (fn_33:PySem.W.isFn K (.ref f_33)=true)
  (t1_L:PySem.W.findIn K (.ref C_Latch) "__class__" = some (some (.builtin "object.__class__")))
  (t2_L:PySem.W.specialIn K (.builtin "object.__class__") "__get__" = some (some (.builtin "getset_descriptor.__get__")))
  (t3_L:PySem.W.takesIn K (.builtin "object.__class__")=some true)
  (t4_L:PySem.W.mroIn K C_Latch (.type "object")=some true)
  (t5_L:PySem.W.isIn K (.ref C_Latch) C_Latch=true)
  (a0_34:PySem.W.nsIn K mainGlobals "row_fits" = some (some (.ref f_34)))
  (F_34:Fun K "row_fits" "row_fits" zdz f_34 fd_34)
  (a0_35:PySem.W.nsIn K mainGlobals "check_map" = some (some (.ref f_35)))
  (F_35:Fun K "check_map" "check_map" zcK f_35 fd_35)
  (a0_36:PySem.W.nsIn K mainGlobals "check_clash" = some (some (.ref f_36)))
  (F_36:Fun K "check_clash" "check_clash" zbX f_36 fd_36)
  (a_Board:PySem.W.nsIn K mainGlobals "Board" = some (some (.ref C_Board)))
  (cl_Board:ClsBd K C_Board)
  (mk_Board:PySem.W.makesIn K C_Board=true)
  (kc_Board:PySem.W.keepIn K (.ref C_Board)=true)
  (at_i_Board:PySem.W.findIn K (.ref C_Board) "__init__" = some (some (.ref f_37)))
  (F_37:FunD K "__init__" "Board.__init__" zbm (.ref T_37) f_37 fd_37)
  (d_37:K.lookup T_37=some ⟨tc_37,td_37,.seq #[.int 0 tt_37] tn_37,ts_37⟩)
  (fn_37:PySem.W.isFn K (.ref f_37)=true)
  (at_Board_in_bits:PySem.W.findIn K (.ref C_Board) "in_bits" = some (some (.ref f_38)))
  (F_38:Fun K "in_bits" "Board.in_bits" zbC f_38 fd_38)
  (fn_38:PySem.W.isFn K (.ref f_38)=true)
  (at_Board_check_address:PySem.W.findIn K (.ref C_Board) "check_address" = some (some (.ref f_39)))
  (F_39:Fun K "check_address" "Board.check_address" zaW f_39 fd_39)
  (fn_39:PySem.W.isFn K (.ref f_39)=true)
  (at_Board_chip_of:PySem.W.findIn K (.ref C_Board) "chip_of" = some (some (.ref f_40)))
  (F_40:Fun K "chip_of" "Board.chip_of" zbD f_40 fd_40)
  (fn_40:PySem.W.isFn K (.ref f_40)=true)
  (at_Board_finish:PySem.W.findIn K (.ref C_Board) "finish" = some (some (.ref f_41)))
  (F_41:Fun K "finish" "Board.finish" zbN f_41 fd_41)
  (fn_41:PySem.W.isFn K (.ref f_41)=true)
  (at_Board_who:PySem.W.findIn K (.ref C_Board) "who" = some (some (.ref f_42)))
  (F_42:Fun K "who" "Board.who" zcT f_42 fd_42)
  (fn_42:PySem.W.isFn K (.ref f_42)=true)
  (at_Board_read:PySem.W.findIn K (.ref C_Board) "read" = some (some (.ref f_43)))
  (F_43:FunD K "read" "Board.read" zcq (.ref T_43) f_43 fd_43)
  (d_43:K.lookup T_43=some ⟨tc_43,td_43,.seq #[.bool false] tn_43,ts_43⟩)
  (fn_43:PySem.W.isFn K (.ref f_43)=true)
  (at_Board_write:PySem.W.findIn K (.ref C_Board) "write" = some (some (.ref f_44)))
  (F_44:Fun K "write" "Board.write" zb1 f_44 fd_44)
  (fn_44:PySem.W.isFn K (.ref f_44)=true)
  (a0_45:PySem.W.nsIn K mainGlobals "_law_draws" = some (some (.ref f_45)))
  (F_45:Fun K "_law_draws" "_law_draws" zcm f_45 fd_45)
  (a0_46:PySem.W.nsIn K mainGlobals "_law_ones" = some (some (.ref f_46)))
  (F_46:Fun K "_law_ones" "_law_ones" zcP f_46 fd_46)
  (a0_47:PySem.W.nsIn K mainGlobals "_law_gathered" = some (some (.ref f_47)))
  (F_47:Fun K "_law_gathered" "_law_gathered" zbA f_47 fd_47)
  (a0_48:PySem.W.nsIn K mainGlobals "_law_same" = some (some (.ref f_48)))
  (F_48:Fun K "_law_same" "_law_same" zcO f_48 fd_48)
  (a0_49:PySem.W.nsIn K mainGlobals "_law_bits_of" = some (some (.ref f_49)))
  (F_49:Fun K "_law_bits_of" "_law_bits_of" zbL f_49 fd_49)
  (a0_50:PySem.W.nsIn K mainGlobals "_law_scene" = some (some (.ref f_50)))
  (F_50:Fun K "_law_scene" "_law_scene" zcl f_50 fd_50)
  (a0_51:PySem.W.nsIn K mainGlobals "_law_who" = some (some (.ref f_51)))
  (F_51:Fun K "_law_who" "_law_who" zdS f_51 fd_51)
  (a0_52:PySem.W.nsIn K mainGlobals "_law_look" = some (some (.ref f_52)))
  (F_52:Fun K "_law_look" "_law_look" zcQ f_52 fd_52)
  (a0_53:PySem.W.nsIn K mainGlobals "_law_put" = some (some (.ref f_53)))
  (F_53:Fun K "_law_put" "_law_put" zdT f_53 fd_53)
  (a0_54:PySem.W.nsIn K mainGlobals "_law_used" = some (some (.ref f_54)))
  (F_54:Fun K "_law_used" "_law_used" zcN f_54 fd_54)
  (a0_55:PySem.W.nsIn K mainGlobals "_law_states" = some (some (.ref f_55)))
  (F_55:Fun K "_law_states" "_law_states" zbZ f_55 fd_55)
  (a0_56:PySem.W.nsIn K mainGlobals "law" = some (some (.ref f_56)))
  (l_56:K.lookup f_56=some ⟨oc_56,od_56,.func (PySem.W.fnOf "law" "law" (zbn slaw) (za6 slaw) (zah slaw) .none kV_56 dc_56 pm_56 an_56 cd_56 ct_56),sl_56⟩)
  (c_56:PySem.W.codeIn K cd_56 "law" = true)
  (k_56:PySem.W.keepIn K (.ref f_56)=true)
  (z_MOST_BITS:PySem.W.nsIn K mainGlobals "MOST_BITS" = some (some (.int 16 tk_MOST_BITS)))
  (z_LAST_CHIP:PySem.W.nsIn K mainGlobals "LAST_CHIP" = some (some (.int 99 tk_LAST_CHIP)))
  (z_LAST_WORD:PySem.W.nsIn K mainGlobals "LAST_WORD" = some (some (.int 255 tk_LAST_WORD)))
  (z_MOST_CELLS:PySem.W.nsIn K mainGlobals "MOST_CELLS" = some (some (.int 4096 tk_MOST_CELLS)))
  (z_SIXTEEN:PySem.W.nsIn K mainGlobals "SIXTEEN" = some (some (.str "0123456789abcdef" tk_SIXTEEN)))
  (z_READ:PySem.W.nsIn K mainGlobals "READ" = some (some (.str "read" tk_READ)))
  (z_WRITE:PySem.W.nsIn K mainGlobals "WRITE" = some (some (.str "write" tk_WRITE)))
  (z_BOTH:PySem.W.nsIn K mainGlobals "BOTH" = some (some (.str "both" tk_BOTH)))
  (z_len:PySem.W.nsIn K mainGlobals "len" = some none)
  (z_sum:PySem.W.nsIn K mainGlobals "sum" = some none)
  (z_all:PySem.W.nsIn K mainGlobals "all" = some none)
  (z_max:PySem.W.nsIn K mainGlobals "max" = some none)
  (z_min:PySem.W.nsIn K mainGlobals "min" = some none)
  (z_int:PySem.W.nsIn K mainGlobals "int" = some none)
  (z_bool:PySem.W.nsIn K mainGlobals "bool" = some none)
  (z_isinstance:PySem.W.nsIn K mainGlobals "isinstance" = some none)
  (z_range:PySem.W.nsIn K mainGlobals "range" = some none)
  (z_enumerate:PySem.W.nsIn K mainGlobals "enumerate" = some none)
  (z_zip:PySem.W.nsIn K mainGlobals "zip" = some none)
  (z_str:PySem.W.nsIn K mainGlobals "str" = some none)
  (z_tuple:PySem.W.nsIn K mainGlobals "tuple" = some none)
  (z_list:PySem.W.nsIn K mainGlobals "list" = some none) :
  ∃ fd:FuncData,(∀ (s:Shared) (v:Value),BindsTo s fd ⟨[v],[]⟩ [("script",v)])∧∀ base:Heap,K.In base→base.Ns mainGlobals mg→FnOk l.prog w K mg base CX0 9 fa fd ["script"] (zjU K):=by
 have mo:∀ {x:Str} {v:Value},PySem.W.nsIn K mainGlobals x=some (some v)→mg x=some v:=fun a=>PySem.W.mg_of X G a
 have mn:∀ {x:Str},PySem.W.nsIn K mainGlobals x=some none→mg x=none:=fun a=>PySem.W.mg_none_of X G a
 have T:Blt mg:=⟨mn z_len,mn z_sum,mn z_all,mn z_max,mn z_min,mn z_int,mn z_bool,mn z_isinstance,mn z_range,mn z_enumerate,mn z_zip,mn z_str,mn z_tuple,mn z_list⟩
 have N:Nums mg:=⟨⟨_,mo z_MOST_BITS⟩,⟨_,mo z_LAST_CHIP⟩,⟨_,mo z_LAST_WORD⟩,⟨_,mo z_MOST_CELLS⟩,⟨_,mo z_SIXTEEN⟩,⟨_,mo z_READ⟩,⟨_,mo z_WRITE⟩,⟨_,mo z_BOTH⟩⟩
 have b_0:=F_0.binds (ps:=["mask"]) fun _ _ _ _ _ _=>lnB1 fun _=>rfl
 have b_1:=F_1.binds (ps:=["mask"]) fun _ _ _ _ _ _=>lnB1 fun _=>rfl
 have b_2:=F_2.binds (ps:=["mask","number"]) fun _ _ _ _ _ _=>lnB2 fun _ _=>rfl
 have b_3:=F_3.binds (ps:=["thing","last"]) fun _ _ _ _ _ _=>lnB2 fun _ _=>rfl
 have b_4:=F_4.binds (ps:=["bits"]) fun _ _ _ _ _ _=>lnB1 fun _=>rfl
 have b_5:=F_5.binds (ps:=["mask","want","last"]) fun _ _ _ _ _ _=>lnB3 fun _ _ _=>rfl
 have b_6:=F_6.binds (ps:=["thing"]) fun _ _ _ _ _ _=>lnB1 fun _=>rfl
 have b_7:=F_7.binds (ps:=["bits","thing"]) fun _ _ _ _ _ _=>lnB2 fun _ _=>rfl
 have b_8:=F_8.binds (ps:=["bits","thing"]) fun _ _ _ _ _ _=>lnB2 fun _ _=>rfl
 have b_9:=F_9.binds (ps:=["row","address"]) fun _ _ _ _ _ _=>lnB2 fun _ _=>rfl
 have b_10:=F_10.binds (ps:=["row","address"]) fun _ _ _ _ _ _=>lnB2 fun _ _=>rfl
 have b_11:=F_11.binds (ps:=["mask","want","other_mask","other_want"]) fun _ _ _ _ _ _=>lnB4 fun _ _ _ _=>rfl
 have b_12:=F_12.binds (ps:=["latch","other"]) fun _ _ _ _ _ _=>lnB2 fun _ _=>rfl
 have b_13:=F_13.binds (ps:=["row","other"]) fun _ _ _ _ _ _=>lnB2 fun _ _=>rfl
 have b_14:=F_14.binds (ps:=["row","other"]) fun _ _ _ _ _ _=>lnB2 fun _ _=>rfl
 have b_15:=F_15.binds (ps:=["rows"]) fun _ _ _ _ _ _=>lnB1 fun _=>rfl
 have b_16:=F_16.binds (ps:=["row","words"]) fun _ _ _ _ _ _=>lnB2 fun _ _=>rfl
 have b_17:=F_17.binds (ps:=["rows","address","words"]) fun _ _ _ _ _ _=>lnB3 fun _ _ _=>rfl
 have b_18:=F_18.binds (ps:=["thing"]) fun _ _ _ _ _ _=>lnB1 fun _=>rfl
 have b_19:=F_19.binds (ps:=["word"]) fun _ _ _ _ _ _=>lnB1 fun _=>rfl
 have b_20:=F_20.binds (ps:=["self","head","held"]) fun _ _ _ _ _ _=>lnB3 fun _ _ _=>rfl
 have b_21:=F_21.binds (ps:=["self"]) fun _ _ _ _ _ _=>lnB1 fun _=>rfl
 have b_22:=F_22.binds (ps:=["self","cell"]) fun _ _ _ _ _ _=>lnB2 fun _ _=>rfl
 have b_23:=F_23.binds (ps:=["self","cell","word"]) fun _ _ _ _ _ _=>lnB3 fun _ _ _=>rfl
 have b_24:=F_24.binds (ps:=["self","cell"]) fun _ _ _ _ _ _=>lnB2 fun _ _=>rfl
 have b_25:=F_25.binds (ps:=["self"]) fun _ _ _ _ _ _=>lnB1 fun _=>rfl
 have b_26:=F_26.binds (ps:=["self","cell"]) fun _ _ _ _ _ _=>lnB2 fun _ _=>rfl
 have b_27:=F_27.binds (ps:=["self","cell","word"]) fun _ _ _ _ _ _=>lnB3 fun _ _ _=>rfl
 have b_28:=F_28.binds (ps:=["self","cell","word"]) fun _ _ _ _ _ _=>lnB3 fun _ _ _=>rfl
 have b_29:=F_29.binds (ps:=["self","cell"]) fun _ _ _ _ _ _=>lnB2 fun _ _=>rfl
 have b_34:=F_34.binds (ps:=["row","chips"]) fun _ _ _ _ _ _=>lnB2 fun _ _=>rfl
 have b_35:=F_35.binds (ps:=["bits","rows","chips"]) fun _ _ _ _ _ _=>lnB3 fun _ _ _=>rfl
 have b_36:=F_36.binds (ps:=["rows"]) fun _ _ _ _ _ _=>lnB1 fun _=>rfl
 have b_38:=F_38.binds (ps:=["self","number"]) fun _ _ _ _ _ _=>lnB2 fun _ _=>rfl
 have b_39:=F_39.binds (ps:=["self","address"]) fun _ _ _ _ _ _=>lnB2 fun _ _=>rfl
 have b_40:=F_40.binds (ps:=["self","number"]) fun _ _ _ _ _ _=>lnB2 fun _ _=>rfl
 have b_41:=F_41.binds (ps:=["self","kind","address","word"]) fun _ _ _ _ _ _=>lnB4 fun _ _ _ _=>rfl
 have b_42:=F_42.binds (ps:=["self","address"]) fun _ _ _ _ _ _=>lnB2 fun _ _=>rfl
 have b_44:=F_44.binds (ps:=["self","address","word"]) fun _ _ _ _ _ _=>lnB3 fun _ _ _=>rfl
 have b_45:=F_45.binds (ps:=["cell","count"]) fun _ _ _ _ _ _=>lnB2 fun _ _=>rfl
 have b_46:=F_46.binds (ps:=["mask"]) fun _ _ _ _ _ _=>lnB1 fun _=>rfl
 have b_47:=F_47.binds (ps:=["mask","number"]) fun _ _ _ _ _ _=>lnB2 fun _ _=>rfl
 have b_48:=F_48.binds (ps:=["found","due"]) fun _ _ _ _ _ _=>lnB2 fun _ _=>rfl
 have b_49:=F_49.binds (ps:=["top","many","number"]) fun _ _ _ _ _ _=>lnB3 fun _ _ _=>rfl
 have b_50:=F_50.binds (ps:=["row"]) fun _ _ _ _ _ _=>lnB1 fun _=>rfl
 have b_51:=F_51.binds (ps:=["scene","address"]) fun _ _ _ _ _ _=>lnB2 fun _ _=>rfl
 have b_52:=F_52.binds (ps:=["scene","plain","address","floating"]) fun _ _ _ _ _ _=>lnB4 fun _ _ _ _=>rfl
 have b_53:=F_53.binds (ps:=["scene","address","word"]) fun _ _ _ _ _ _=>lnB3 fun _ _ _=>rfl
 have b_54:=F_54.binds (ps:=["scene","address"]) fun _ _ _ _ _ _=>lnB2 fun _ _=>rfl
 have b_55:=F_55.binds (ps:=["scene","plain","size"]) fun _ _ _ _ _ _=>lnB3 fun _ _ _=>rfl
 have F_56:=zlb (st:=slaw) l_56 c_56 k_56
 have e:=hfa.symm.trans (mo a0_56)
 cases e
 refine ⟨PySem.W.fnOf "law" "law" (zbn slaw) (za6 slaw) (zah slaw) .none kV_56 dc_56 pm_56 an_56 cd_56 ct_56,fun s v=>.of_eq rfl,fun base _ _=>?_⟩
 have G_single_ones:FnOk l.prog w K mg base CX0 1 f_0 _ ["mask"] zcw:=ze4 F_0 T
 have C_single_ones:=zaB G_single_ones (mo a0_0) F_0.kp b_0
 have G_ones_of:FnOk l.prog w K mg base CX0 2 f_1 _ ["mask"] zik:=ziY F_1 T C_single_ones
 have C_ones_of:=zaB G_ones_of (mo a0_1) F_1.kp b_1
 have G_gathered:FnOk l.prog w K mg base CX0 2 f_2 _ ["mask","number"] (spG gath):=zhN F_2 T C_single_ones
 have C_gathered:=zaB G_gathered (mo a0_2) F_2.kp b_2
 have G_is_number:FnOk l.prog w K mg base CX0 1 f_3 _ ["thing","last"] zbo:=zgE F_3 T
 have C_is_number:=zaB G_is_number (mo a0_3) F_3.kp b_3
 have G_size_of:FnOk l.prog w K mg base CX0 1 f_4 _ ["bits"] zg4:=ziX F_4 T
 have C_size_of:=zaB G_size_of (mo a0_4) F_4.kp b_4
 have G_is_choice:FnOk l.prog w K mg base CX0 2 f_5 _ ["mask","want","last"] zdi:=zgF F_5 T C_is_number
 have C_is_choice:=zaB G_is_choice (mo a0_5) F_5.kp b_5
 have G_is_latch:FnOk l.prog w K mg base CX0 3 f_6 _ ["thing"] zio:=zhL F_6 T N C_is_number C_is_choice
 have C_is_latch:=zaB G_is_latch (mo a0_6) F_6.kp b_6
 have G_is_row:FnOk l.prog w K mg base CX0 4 f_7 _ ["bits","thing"] zii:=zkf F_7 T N C_is_number C_size_of C_is_choice C_is_latch
 have C_is_row:=zaB G_is_row (mo a0_7) F_7.kp b_7
 have G_is_map:FnOk l.prog w K mg base CX0 5 f_8 _ ["bits","thing"] zin:=zkg F_8 T C_is_row
 have C_is_map:=zaB G_is_map (mo a0_8) F_8.kp b_8
 have G_meets:FnOk l.prog w K mg base CX0 1 f_9 _ ["row","address"] zim:=zlH F_9 T
 have C_meets:=zaB G_meets (mo a0_9) F_9.kp b_9
 have G_cell_at:FnOk l.prog w K mg base CX0 3 f_10 _ ["row","address"] zgm:=zi0 F_10 T C_gathered
 have C_cell_at:=zaB G_cell_at (mo a0_10) F_10.kp b_10
 have G_choices_agree:FnOk l.prog w K mg base CX0 1 f_11 _ ["mask","want","other_mask","other_want"] zjW:=zd3 F_11 T
 have C_choices_agree:=zaB G_choices_agree (mo a0_11) F_11.kp b_11
 have G_latches_agree:FnOk l.prog w K mg base CX0 2 f_12 _ ["latch","other"] ziq:=zd2 F_12 T C_choices_agree
 have C_latches_agree:=zaB G_latches_agree (mo a0_12) F_12.kp b_12
 have G_rows_clash:FnOk l.prog w K mg base CX0 3 f_13 _ ["row","other"] zgj:=zfC F_13 T C_choices_agree C_latches_agree
 have C_rows_clash:=zaB G_rows_clash (mo a0_13) F_13.kp b_13
 have G_least_words:FnOk l.prog w K mg base CX0 1 f_14 _ ["row","other"] zgh:=ze5 F_14 T (mn zS)
 have C_least_words:=zaB G_least_words (mo a0_14) F_14.kp b_14
 have G_clash_of:FnOk l.prog w K mg base CX0 4 f_15 _ ["rows"] zdG:=zhO F_15 T C_rows_clash C_least_words
 have C_clash_of:=zaB G_clash_of (mo a0_15) F_15.kp b_15
 have G_is_awake:FnOk l.prog w K mg base CX0 1 f_16 _ ["row","words"] zgn:=zhM F_16 T
 have C_is_awake:=zaB G_is_awake (mo a0_16) F_16.kp b_16
 have G_answering:FnOk l.prog w K mg base CX0 2 f_17 _ ["rows","address","words"] zit:=zgH F_17 T C_meets C_is_awake
 have C_answering:=zaB G_answering (mo a0_17) F_17.kp b_17
 have C_is_numberW:Cal l.prog w K mg base 1 "is_number" ["thing","last"] zdF:=zaB (G_is_number.imp zlJ) (mo a0_3) F_3.kp b_3
 have G_is_word:FnOk l.prog w K mg base CX0 2 f_18 _ ["thing"] zbJ:=ziZ F_18 T N C_is_numberW
 have C_is_word:=zaB G_is_word (mo a0_18) F_18.kp b_18
 have G_check_word:FnOk l.prog w K mg base CX0 3 f_19 _ ["word"] zbV:=zfD F_19 T C_is_word
 have C_check_word:=zaB G_check_word (mo a0_19) F_19.kp b_19
 have CL_Chip___init__:Clm l.prog w K mg base 1 "Chip" "__init__" (zev K):=⟨⟨C_Chip,f_20,_,_,_,mo a_Chip,sg_cm_Chip___init__,rd_cm_Chip___init__,fc_cm_Chip___init__,F_20.kp,zd6 F_20 T,b_20⟩⟩
 have G_Store___len__:FnOk l.prog w K mg base CX0 1 f_21 _ ["self"] (zfq C_Store List.length):=za7 (C:=C_Store) F_21 T cl_Store
 have M_Store___len__:=zaD cl_Store.cl at_Store___len__ fn_21 F_21.kp G_Store___len__ b_21
 have G_Store_check_cell:FnOk l.prog w K mg base CX0 3 f_22 _ ["self","cell"] (zdI C_Store List.length):=zaU (C:=C_Store) F_22 T C_is_numberW M_Store___len__
 have M_Store_check_cell:=zaD cl_Store.cl at_Store_check_cell fn_22 F_22.kp G_Store_check_cell b_22
 have G_Store_check_write:FnOk l.prog w K mg base CX0 4 f_23 _ ["self","cell","word"] (zdH C_Store List.length):=zaP (C:=C_Store) F_23 T C_check_word M_Store_check_cell
 have M_Store_check_write:=zaD cl_Store.cl at_Store_check_write fn_23 F_23.kp G_Store_check_write b_23
 have G_Store_look:FnOk l.prog w K mg base CX0 4 f_24 _ ["self","cell"] (zbG C_Store):=zbO (C:=C_Store) F_24 T cl_Store M_Store_check_cell
 have M_Store_look:=zaD cl_Store.cl at_Store_look fn_24 F_24.kp G_Store_look b_24
 have G_Store_state:FnOk l.prog w K mg base CX0 1 f_25 _ ["self"] (zcj C_Store):=zbw (C:=C_Store) F_25 T cl_Store
 have M_Store_state:=zaD cl_Store.cl at_Store_state fn_25 F_25.kp G_Store_state b_25
 have G_Store_read:FnOk l.prog w K mg base CX0 5 f_26 _ ["self","cell"] (zbG C_Store):=zcs (C:=C_Store) F_26 T M_Store_look
 have M_Store_read:=zaD cl_Store.cl at_Store_read fn_26 F_26.kp G_Store_read b_26
 have G_Store_write:FnOk l.prog w K mg base CX0 5 f_27 _ ["self","cell","word"] (zdC C_Store):=zb7 (C:=C_Store) F_27 T cl_Store M_Store_check_write
 have M_Store_write:=zaD cl_Store.cl at_Store_write fn_27 F_27.kp G_Store_write b_27
 have G_Fixed___len__:FnOk l.prog w K mg base CX0 1 f_21 _ ["self"] (zfq C_Fixed List.length):=za7 (C:=C_Fixed) F_21 T cl_Fixed
 have M_Fixed___len__:=zaD cl_Fixed.cl at_Fixed___len__ fn_21 F_21.kp G_Fixed___len__ b_21
 have G_Fixed_check_cell:FnOk l.prog w K mg base CX0 3 f_22 _ ["self","cell"] (zdI C_Fixed List.length):=zaU (C:=C_Fixed) F_22 T C_is_numberW M_Fixed___len__
 have M_Fixed_check_cell:=zaD cl_Fixed.cl at_Fixed_check_cell fn_22 F_22.kp G_Fixed_check_cell b_22
 have G_Fixed_check_write:FnOk l.prog w K mg base CX0 4 f_23 _ ["self","cell","word"] (zdH C_Fixed List.length):=zaP (C:=C_Fixed) F_23 T C_check_word M_Fixed_check_cell
 have M_Fixed_check_write:=zaD cl_Fixed.cl at_Fixed_check_write fn_23 F_23.kp G_Fixed_check_write b_23
 have G_Fixed_look:FnOk l.prog w K mg base CX0 4 f_24 _ ["self","cell"] (zbG C_Fixed):=zbO (C:=C_Fixed) F_24 T cl_Fixed M_Fixed_check_cell
 have M_Fixed_look:=zaD cl_Fixed.cl at_Fixed_look fn_24 F_24.kp G_Fixed_look b_24
 have G_Fixed_state:FnOk l.prog w K mg base CX0 1 f_25 _ ["self"] (zcj C_Fixed):=zbw (C:=C_Fixed) F_25 T cl_Fixed
 have M_Fixed_state:=zaD cl_Fixed.cl at_Fixed_state fn_25 F_25.kp G_Fixed_state b_25
 have G_Fixed_read:FnOk l.prog w K mg base CX0 5 f_26 _ ["self","cell"] (zbG C_Fixed):=zcs (C:=C_Fixed) F_26 T M_Fixed_look
 have M_Fixed_read:=zaD cl_Fixed.cl at_Fixed_read fn_26 F_26.kp G_Fixed_read b_26
 have G_Fixed_write:FnOk l.prog w K mg base CX0 5 f_28 _ ["self","cell","word"] (zir C_Fixed):=ze8 (C:=C_Fixed) F_28 T M_Fixed_check_write
 have M_Fixed_write:=zaD cl_Fixed.cl at_Fixed_write fn_28 F_28.kp G_Fixed_write b_28
 have G_Latch___len__:FnOk l.prog w K mg base CX0 1 f_21 _ ["self"] (zfq C_Latch List.length):=za7 (C:=C_Latch) F_21 T cl_Latch
 have M_Latch___len__:=zaD cl_Latch.cl at_Latch___len__ fn_21 F_21.kp G_Latch___len__ b_21
 have G_Latch_check_cell:FnOk l.prog w K mg base CX0 3 f_22 _ ["self","cell"] (zdI C_Latch List.length):=zaU (C:=C_Latch) F_22 T C_is_numberW M_Latch___len__
 have M_Latch_check_cell:=zaD cl_Latch.cl at_Latch_check_cell fn_22 F_22.kp G_Latch_check_cell b_22
 have G_Latch_check_write:FnOk l.prog w K mg base CX0 4 f_23 _ ["self","cell","word"] (zdH C_Latch List.length):=zaP (C:=C_Latch) F_23 T C_check_word M_Latch_check_cell
 have M_Latch_check_write:=zaD cl_Latch.cl at_Latch_check_write fn_23 F_23.kp G_Latch_check_write b_23
 have G_Latch_look:FnOk l.prog w K mg base CX0 4 f_24 _ ["self","cell"] (zbG C_Latch):=zbO (C:=C_Latch) F_24 T cl_Latch M_Latch_check_cell
 have M_Latch_look:=zaD cl_Latch.cl at_Latch_look fn_24 F_24.kp G_Latch_look b_24
 have G_Latch_state:FnOk l.prog w K mg base CX0 1 f_25 _ ["self"] (zcj C_Latch):=zbw (C:=C_Latch) F_25 T cl_Latch
 have M_Latch_state:=zaD cl_Latch.cl at_Latch_state fn_25 F_25.kp G_Latch_state b_25
 have G_Latch_read:FnOk l.prog w K mg base CX0 5 f_26 _ ["self","cell"] (zbG C_Latch):=zcs (C:=C_Latch) F_26 T M_Latch_look
 have M_Latch_read:=zaD cl_Latch.cl at_Latch_read fn_26 F_26.kp G_Latch_read b_26
 have G_Latch_write:FnOk l.prog w K mg base CX0 5 f_27 _ ["self","cell","word"] (zdC C_Latch):=zb7 (C:=C_Latch) F_27 T cl_Latch M_Latch_check_write
 have M_Latch_write:=zaD cl_Latch.cl at_Latch_write fn_27 F_27.kp G_Latch_write b_27
 have G_Meter___len__:FnOk l.prog w K mg base CX0 1 f_21 _ ["self"] (zfq C_Meter List.length):=za7 (C:=C_Meter) F_21 T cl_Meter
 have M_Meter___len__:=zaD cl_Meter.cl at_Meter___len__ fn_21 F_21.kp G_Meter___len__ b_21
 have G_Meter_check_cell:FnOk l.prog w K mg base CX0 3 f_22 _ ["self","cell"] (zdI C_Meter List.length):=zaU (C:=C_Meter) F_22 T C_is_numberW M_Meter___len__
 have M_Meter_check_cell:=zaD cl_Meter.cl at_Meter_check_cell fn_22 F_22.kp G_Meter_check_cell b_22
 have G_Meter_check_write:FnOk l.prog w K mg base CX0 4 f_23 _ ["self","cell","word"] (zdH C_Meter List.length):=zaP (C:=C_Meter) F_23 T C_check_word M_Meter_check_cell
 have M_Meter_check_write:=zaD cl_Meter.cl at_Meter_check_write fn_23 F_23.kp G_Meter_check_write b_23
 have G_Meter_look:FnOk l.prog w K mg base CX0 4 f_24 _ ["self","cell"] (zbG C_Meter):=zbO (C:=C_Meter) F_24 T cl_Meter M_Meter_check_cell
 have M_Meter_look:=zaD cl_Meter.cl at_Meter_look fn_24 F_24.kp G_Meter_look b_24
 have G_Meter_state:FnOk l.prog w K mg base CX0 1 f_25 _ ["self"] (zcj C_Meter):=zbw (C:=C_Meter) F_25 T cl_Meter
 have M_Meter_state:=zaD cl_Meter.cl at_Meter_state fn_25 F_25.kp G_Meter_state b_25
 have G_Meter_read:FnOk l.prog w K mg base CX0 5 f_29 _ ["self","cell"] (zil C_Meter):=zfG (C:=C_Meter) F_29 T N cl_Meter M_Meter_look
 have M_Meter_read:=zaD cl_Meter.cl at_Meter_read fn_29 F_29.kp G_Meter_read b_29
 have G_Meter_write:FnOk l.prog w K mg base CX0 5 f_27 _ ["self","cell","word"] (zdC C_Meter):=zb7 (C:=C_Meter) F_27 T cl_Meter M_Meter_check_write
 have M_Meter_write:=zaD cl_Meter.cl at_Meter_write fn_27 F_27.kp G_Meter_write b_27
 have G_i_Store:FnOk l.prog w K mg base CX0 3 f_30 _ ["self","cells","word"] (zg5 C_Store):=zda (C:=C_Store) F_30 T N cl_Store C_is_numberW C_is_word CL_Chip___init__
 have GMStore_2:Mak l.prog w K mg base 3 "Store" C_Store [] (dP []) (zg5 C_Store):=zfK (mo a_Store) mk_Store at_i_Store fn_30 kc_Store G_i_Store (F_30.kbinds (ps:=["self","cells","word"]) (ks:=[]) (g:=dP []) d_30 rfl (fun _ _ _ _ _ _ us ws hl=>(by have hl':us.length=3:=(by have h:=hl;unfold dP at h;rw [List.length_append] at h;have h2:(["self","cells","word"]:List Str).length=3:=rfl;simp only [List.length_cons,List.length_nil] at h;omega);exact (by apply ln3 us hl';intro _ _ _;exact ⟨_,rfl,rfl⟩))) (Vals.dP (show Vals ([]:List V) ([]:List Value) from .nil)))
 have G_i_Fixed:FnOk l.prog w K mg base CX0 3 f_31 _ ["self","words"] (zg6 C_Fixed):=zdd (C:=C_Fixed) F_31 T N cl_Fixed C_is_word CL_Chip___init__
 have GMFixed_1:Mak l.prog w K mg base 3 "Fixed" C_Fixed [] (dP []) (zg6 C_Fixed):=zfK (mo a_Fixed) mk_Fixed at_i_Fixed fn_31 kc_Fixed G_i_Fixed (F_31.kbinds (ps:=["self","words"]) (ks:=[]) (g:=dP []) (fun _ _ _ _ _ _ us ws hl=>(by have hl':us.length=2:=(by have h:=hl;unfold dP at h;rw [List.length_append] at h;have h2:(["self","words"]:List Str).length=2:=rfl;simp only [List.length_cons,List.length_nil] at h;omega);exact (by apply ln2 us hl';intro _ _;exact rfl))) (Vals.dP (show Vals ([]:List V) ([]:List Value) from .nil)))
 have G_i_Latch:FnOk l.prog w K mg base CX0 3 f_32 _ ["self","word"] (zcZ C_Latch "latch"):=zdc (C:=C_Latch) F_32 T cl_Latch C_is_word CL_Chip___init__
 have GMLatch_1:Mak l.prog w K mg base 3 "Latch" C_Latch [] (dP []) (zcZ C_Latch "latch"):=zfK (mo a_Latch) mk_Latch at_i_Latch fn_32 kc_Latch G_i_Latch (F_32.kbinds (ps:=["self","word"]) (ks:=[]) (g:=dP []) d_32 rfl (fun _ _ _ _ _ _ us ws hl=>(by have hl':us.length=2:=(by have h:=hl;unfold dP at h;rw [List.length_append] at h;have h2:(["self","word"]:List Str).length=2:=rfl;simp only [List.length_cons,List.length_nil] at h;omega);exact (by apply ln2 us hl';intro _ _;exact ⟨_,rfl,rfl⟩))) (Vals.dP (show Vals ([]:List V) ([]:List Value) from .nil)))
 have G_i_Meter:FnOk l.prog w K mg base CX0 3 f_33 _ ["self","word"] (zcZ C_Meter "meter"):=zdb (C:=C_Meter) F_33 T cl_Meter C_is_word CL_Chip___init__
 have GMMeter_1:Mak l.prog w K mg base 3 "Meter" C_Meter [] (dP []) (zcZ C_Meter "meter"):=zfK (mo a_Meter) mk_Meter at_i_Meter fn_33 kc_Meter G_i_Meter (F_33.kbinds (ps:=["self","word"]) (ks:=[]) (g:=dP []) d_33 rfl (fun _ _ _ _ _ _ us ws hl=>(by have hl':us.length=2:=(by have h:=hl;unfold dP at h;rw [List.length_append] at h;have h2:(["self","word"]:List Str).length=2:=rfl;simp only [List.length_cons,List.length_nil] at h;omega);exact (by apply ln2 us hl';intro _ _;exact ⟨_,rfl,rfl⟩))) (Vals.dP (show Vals ([]:List V) ([]:List Value) from .nil)))
 have MS:∀ kd,kd<4→Mth l.prog w K mg base 1 ((csOf C_Store C_Fixed C_Latch C_Meter C_Meter) kd) "state" [] (fun vs _=>vs) (zcj ((csOf C_Store C_Fixed C_Latch C_Meter C_Meter) kd)):=fun kd h=>by
  rcases (show kd=0∨kd=1∨kd=2∨kd=3 by omega) with rfl | rfl | rfl | rfl
  ·exact M_Store_state
  ·exact M_Fixed_state
  ·exact M_Latch_state
  ·exact M_Meter_state
 have ML:∀ kd,kd<4→Mth l.prog w K mg base 1 ((csOf C_Store C_Fixed C_Latch C_Meter C_Meter) kd) "__len__" [] (fun vs _=>vs) (zfq ((csOf C_Store C_Fixed C_Latch C_Meter C_Meter) kd) (lenK kd)):=fun kd h=>by
  rcases (show kd=0∨kd=1∨kd=2∨kd=3 by omega) with rfl | rfl | rfl | rfl
  ·exact M_Store___len__
  ·exact M_Fixed___len__
  ·exact M_Latch___len__
  ·exact M_Meter___len__
 have MW:∀ kd,kd<4→Mth l.prog w K mg base 5 ((csOf C_Store C_Fixed C_Latch C_Meter C_Meter) kd) "write" [] (fun vs _=>vs) (zjS (csOf C_Store C_Fixed C_Latch C_Meter C_Meter) kd):=fun kd h=>by
  rcases (show kd=0∨kd=1∨kd=2∨kd=3 by omega) with rfl | rfl | rfl | rfl
  ·exact zbb M_Store_write (zgb (cs:=(csOf C_Store C_Fixed C_Latch C_Meter C_Meter)) (.inl rfl))
  ·exact zbb M_Fixed_write (zln (cs:=(csOf C_Store C_Fixed C_Latch C_Meter C_Meter)))
  ·exact zbb M_Latch_write (zgb (cs:=(csOf C_Store C_Fixed C_Latch C_Meter C_Meter)) (.inr (.inl rfl)))
  ·exact zbb M_Meter_write (zgb (cs:=(csOf C_Store C_Fixed C_Latch C_Meter C_Meter)) (.inr (.inr rfl)))
 have MR:∀ kd,kd<4→Mth l.prog w K mg base 5 ((csOf C_Store C_Fixed C_Latch C_Meter C_Meter) kd) "read" [] (fun vs _=>vs) (zjT (csOf C_Store C_Fixed C_Latch C_Meter C_Meter) kd):=fun kd h=>by
  rcases (show kd=0∨kd=1∨kd=2∨kd=3 by omega) with rfl | rfl | rfl | rfl
  ·exact zbb M_Store_read (zdU (cs:=(csOf C_Store C_Fixed C_Latch C_Meter C_Meter)) (.inl rfl))
  ·exact zbb M_Fixed_read (zdU (cs:=(csOf C_Store C_Fixed C_Latch C_Meter C_Meter)) (.inr (.inl rfl)))
  ·exact zbb M_Latch_read (zdU (cs:=(csOf C_Store C_Fixed C_Latch C_Meter C_Meter)) (.inr (.inr rfl)))
  ·exact zbb M_Meter_read (ziH (cs:=(csOf C_Store C_Fixed C_Latch C_Meter C_Meter)))
 have MK:∀ kd,kd<4→Mth l.prog w K mg base 5 ((csOf C_Store C_Fixed C_Latch C_Meter C_Meter) kd) "look" [] (fun vs _=>vs) (zjV (csOf C_Store C_Fixed C_Latch C_Meter C_Meter) kd):=fun kd h=>by
  rcases (show kd=0∨kd=1∨kd=2∨kd=3 by omega) with rfl | rfl | rfl | rfl
  ·exact zbb (M_Store_look.mono (by decide)) (zb9 (cs:=(csOf C_Store C_Fixed C_Latch C_Meter C_Meter)) (by decide))
  ·exact zbb (M_Fixed_look.mono (by decide)) (zb9 (cs:=(csOf C_Store C_Fixed C_Latch C_Meter C_Meter)) (by decide))
  ·exact zbb (M_Latch_look.mono (by decide)) (zb9 (cs:=(csOf C_Store C_Fixed C_Latch C_Meter C_Meter)) (by decide))
  ·exact zbb (M_Meter_look.mono (by decide)) (zb9 (cs:=(csOf C_Store C_Fixed C_Latch C_Meter C_Meter)) (by decide))
 have G_row_fits:FnOk l.prog w K mg base CX0 3 f_34 _ ["row","chips"] (zis (csOf C_Store C_Fixed C_Latch C_Meter C_Meter)):=zhK (cs:=(csOf C_Store C_Fixed C_Latch C_Meter C_Meter)) F_34 T C_ones_of (mo a_Latch) (zkt t5_L) (fun e=>.ins e cl_Latch.cl t1_L t2_L t3_L t4_L) ML
 have C_row_fits:=zaB G_row_fits (mo a0_34) F_34.kp b_34
 have G_check_map:FnOk l.prog w K mg base CX0 6 f_35 _ ["bits","rows","chips"] (zeO (csOf C_Store C_Fixed C_Latch C_Meter C_Meter)):=zgG (cs:=(csOf C_Store C_Fixed C_Latch C_Meter C_Meter)) F_35 T N C_is_number C_is_map C_row_fits
 have C_check_map:=zaB G_check_map (mo a0_35) F_35.kp b_35
 have G_check_clash:FnOk l.prog w K mg base CX0 5 f_36 _ ["rows"] zgk:=ze6 F_36 T C_clash_of
 have C_check_clash:=zaB G_check_clash (mo a0_36) F_36.kp b_36
 have G_i_Board:FnOk l.prog w K mg base CX0 7 f_37 _ ["self","bits","rows","chips","floating"] (zeM C_Board (csOf C_Store C_Fixed C_Latch C_Meter C_Meter)):=zde (C:=C_Board) F_37 T (mn zS) cl_Board C_check_map C_check_clash C_check_word
 have GMBoard_3:Mak l.prog w K mg base 7 "Board" C_Board [] (dP [.int 0]) (zeM C_Board (csOf C_Store C_Fixed C_Latch C_Meter C_Meter)):=zfK (mo a_Board) mk_Board at_i_Board fn_37 kc_Board G_i_Board (F_37.kbinds (ps:=["self","bits","rows","chips","floating"]) (ks:=[]) (g:=dP [.int 0 tt_37]) d_37 rfl (fun _ _ _ _ _ _ us ws hl=>(by have hl':us.length=4:=(by have h:=hl;unfold dP at h;rw [List.length_append] at h;have h2:(["self","bits","rows","chips","floating"]:List Str).length=5:=rfl;simp only [List.length_cons,List.length_nil] at h;omega);exact (by apply ln4 us hl';intro _ _ _ _;exact ⟨_,rfl,rfl⟩))) (Vals.dP (show Vals [V.int 0] [Value.int 0 tt_37] from .cons ⟨_,rfl⟩ .nil)))
 have G_Board_in_bits:FnOk l.prog w K mg base CX0 2 f_38 _ ["self","number"] (zeN C_Board):=zd7 (C:=C_Board) F_38 T cl_Board C_is_number C_size_of
 have M_Board_in_bits:=zaD cl_Board.cls at_Board_in_bits fn_38 F_38.kp G_Board_in_bits b_38
 have G_Board_check_address:FnOk l.prog w K mg base CX0 3 f_39 _ ["self","address"] (zgl C_Board):=zb8 (C:=C_Board) F_39 T M_Board_in_bits
 have M_Board_check_address:=zaD cl_Board.cls at_Board_check_address fn_39 F_39.kp G_Board_check_address b_39
 have G_Board_chip_of:FnOk l.prog w K mg base CX0 1 f_40 _ ["self","number"] (zdj C_Board):=zd8 (C:=C_Board) F_40 T cl_Board
 have M_Board_chip_of:=zaD cl_Board.cls at_Board_chip_of fn_40 F_40.kp G_Board_chip_of b_40
 have G_Board_finish:FnOk l.prog w K mg base CX0 1 f_41 _ ["self","kind","address","word"] (zdh C_Board):=zeq (C:=C_Board) F_41 T cl_Board
 have M_Board_finish:=zaD cl_Board.cls at_Board_finish fn_41 F_41.kp G_Board_finish b_41
 have G_Board_who:FnOk l.prog w K mg base CX0 6 f_42 _ ["self","address"] (zih C_Board (csOf C_Store C_Fixed C_Latch C_Meter C_Meter)):=zgL (C:=C_Board) F_42 T cl_Board C_answering C_cell_at M_Board_check_address MK
 have M_Board_who:=zaD cl_Board.cls at_Board_who fn_42 F_42.kp G_Board_who b_42
 have G_Board_read:FnOk l.prog w K mg base CX0 7 f_43 _ ["self","address","quiet"] (zhC C_Board (csOf C_Store C_Fixed C_Latch C_Meter C_Meter)):=zfH (C:=C_Board) F_43 T N cl_Board M_Board_who M_Board_chip_of M_Board_finish MK MR
 have M_Board_read:Mth l.prog w K mg base 7 C_Board "read" [] (dP [.bl false]) (zhC C_Board (csOf C_Store C_Fixed C_Latch C_Meter C_Meter)):=zgO cl_Board.cls at_Board_read fn_43 F_43.kp G_Board_read (F_43.kbinds (ps:=["self","address","quiet"]) (ks:=[]) (g:=dP [.bool false]) d_43 rfl (fun _ _ _ _ _ _ us ws hl=>(by have hl':us.length=2:=(by have h:=hl;unfold dP at h;rw [List.length_append] at h;have h2:(["self","address","quiet"]:List Str).length=3:=rfl;simp only [List.length_cons,List.length_nil] at h;omega);exact (by apply ln2 us hl';intro _ _;exact ⟨_,rfl,rfl⟩))) (Vals.dP (show Vals [V.bl false] [Value.bool false] from .cons rfl .nil)))
 have M_Board_read_p:Mth l.prog w K mg base 7 C_Board "read" [] (dP []) (zhC C_Board (csOf C_Store C_Fixed C_Latch C_Meter C_Meter)):=zgO cl_Board.cls at_Board_read fn_43 F_43.kp G_Board_read (F_43.kbinds (ps:=["self","address","quiet"]) (ks:=[]) (g:=dP []) d_43 rfl (fun _ _ _ _ _ _ us ws hl=>(by have hl':us.length=3:=(by have h:=hl;unfold dP at h;rw [List.length_append] at h;have h2:(["self","address","quiet"]:List Str).length=3:=rfl;simp only [List.length_cons,List.length_nil] at h;omega);exact (by apply ln3 us hl';intro _ _ _;exact ⟨_,rfl,rfl⟩))) (Vals.dP (show Vals ([]:List V) ([]:List Value) from .nil)))
 have G_Board_write:FnOk l.prog w K mg base CX0 7 f_44 _ ["self","address","word"] (zls C_Board (csOf C_Store C_Fixed C_Latch C_Meter C_Meter)):=ze9 (C:=C_Board) F_44 T N C_check_word M_Board_who M_Board_chip_of M_Board_finish MW
 have M_Board_write:=zaD cl_Board.cls at_Board_write fn_44 F_44.kp G_Board_write b_44
 have G__law_draws:FnOk l.prog w K mg base CX0 1 f_45 _ ["cell","count"] zgi:=zfF F_45 T
 have C__law_draws:=zaB G__law_draws (mo a0_45) F_45.kp b_45
 have G__law_ones:FnOk l.prog w K mg base CX0 1 f_46 _ ["mask"] zgf:=zgJ F_46 T
 have C__law_ones:=zaB G__law_ones (mo a0_46) F_46.kp b_46
 have G__law_gathered:FnOk l.prog w K mg base CX0 2 f_47 _ ["mask","number"] spGL:=zd5 F_47 T C__law_ones
 have C__law_gathered:=zaB G__law_gathered (mo a0_47) F_47.kp b_47
 have G_no:Cal l.prog w K mg base 0 "_law_same" ["found","due"] (fun _ _ _ _=>False):=⟨f_48,_,⟨fun _ _ _ _ h=>h.elim,fun _ _ _ _ _ _ _ _ _ _ _ _ _ h=>h.elim⟩,mo a0_48,F_48.kp,b_48⟩
 have C__law_same0:Cal l.prog w K mg base 1 "_law_same" ["found","due"] (zdE 0):=zaB (zd4 F_48 T G_no (fun k e=>by cases e <;> rfl)) (mo a0_48) F_48.kp b_48
 have C__law_same1:Cal l.prog w K mg base 2 "_law_same" ["found","due"] (zdE 1):=zaB (zd4 F_48 T C__law_same0 (fun k e=>by cases e <;> rfl)) (mo a0_48) F_48.kp b_48
 have G__law_bits_of:FnOk l.prog w K mg base CX0 1 f_49 _ ["top","many","number"] zeP:=zep F_49 T
 have C__law_bits_of:=zaB G__law_bits_of (mo a0_49) F_49.kp b_49
 have G__law_scene:FnOk l.prog w K mg base CX0 5 f_50 _ ["row"] (zge (csOf C_Store C_Fixed C_Latch C_Meter C_Meter)):=zfE (cs:=(csOf C_Store C_Fixed C_Latch C_Meter C_Meter)) F_50 T C__law_bits_of GMFixed_1 GMLatch_1 GMMeter_1 GMStore_2
 have C__law_scene:=zaB G__law_scene (mo a0_50) F_50.kp b_50
 have G__law_who:FnOk l.prog w K mg base CX0 3 f_51 _ ["scene","address"] zeu:=zhP F_51 T C__law_gathered
 have C__law_who:=zaB G__law_who (mo a0_51) F_51.kp b_51
 have G__law_look:FnOk l.prog w K mg base CX0 4 f_52 _ ["scene","plain","address","floating"] zgg:=zgK F_52 T C__law_who
 have C__law_look:=zaB G__law_look (mo a0_52) F_52.kp b_52
 have G__law_put:FnOk l.prog w K mg base CX0 4 f_53 _ ["scene","address","word"] zij:=zhQ F_53 T C__law_who
 have C__law_put:=zaB G__law_put (mo a0_53) F_53.kp b_53
 have G__law_used:FnOk l.prog w K mg base CX0 4 f_54 _ ["scene","address"] zgd:=zgI F_54 T C__law_who
 have C__law_used:=zaB G__law_used (mo a0_54) F_54.kp b_54
 have G__law_states:FnOk l.prog w K mg base CX0 2 f_55 _ ["scene","plain","size"] (zdD (csOf C_Store C_Fixed C_Latch C_Meter C_Meter)):=ze7 (cs:=(csOf C_Store C_Fixed C_Latch C_Meter C_Meter)) F_55 T MS
 have C__law_states:=zaB G__law_states (mo a0_55) F_55.kp b_55
 exact oklaw (cs:=(csOf C_Store C_Fixed C_Latch C_Meter C_Meter)) F_56 T C__law_draws C__law_scene GMBoard_3 C__law_who C__law_look C__law_put C__law_used C__law_same1 M_Board_who M_Board_read M_Board_read_p M_Board_write C__law_states
theorem walk {l:PySem.W.OpenLaw} {q:Program} {loose:List Str} {XP:(Str→Option Value)→Heap→Prop} {YP:World→Heap→Prop} {d:DefRec} {K:Params→PySem.W.Frag} (hn:l.most=some 63) (hdf:d.params.defaults=[])
  (hY:∀ (w:World) (h:Heap),YP w h→(K w.params).In h)
  (F:∀ (w:World) (mg:Str→Option Value) (fa:Addr) (h:Heap),(K w.params).In h→h.Ns mainGlobals mg→mg d.name=some (.ref fa) →
   ∃ fd:FuncData,(∀ (s:Shared) (u:Value),BindsTo s fd ⟨[u],[]⟩ [("script",u)])∧∀ base:Heap,(K w.params).In base→base.Ns mainGlobals mg→FnOk l.prog w (K w.params) mg base CX0 9 fa fd ["script"] (zjU (K w.params))) :
  PySem.W.WalkO q loose XP YP l.row.toRowW d [] (fun f vs=>PySem.call f vs):=
 L2.walk_ofB (n:=63) (k:=9) (x := "script") (CX:=fun _=>CX0) (sp:=fun w=>zjU (K w.params)) hn (by decide) hdf ⟨rfl,by decide,by decide⟩ hY F (fun _ _ a ns hl hb _ hS=>⟨a,ns,rfl,hS,hl,hb,fun _=>rfl⟩) fun _ _ _ _ _ z=>z
end Cb
open PySem PySem.W PyProof.Rows Cb L2
local macro_rules | `(tactic| walk_at "fm")=>`(tactic| (refine' zlb ?l ?c ?k;(case l=>k_is);(case c=>k_is);(case k=>k_is)))
local macro_rules | `(tactic| walk_at "fd")=>`(tactic| (refine' zl0 ?l ?c ?k;(case l=>k_is);(case c=>k_is);(case k=>k_is)))
local macro_rules | `(tactic| walk_at "na")=>`(tactic| (show PySem.W.findIn _ _ _=_;k_is))
local macro_rules | `(tactic| walk_at "cs")=>`(tactic| exact ⟨by k_is,by k_is,by k_is,by k_is⟩)
local macro_rules | `(tactic| walk_at "cl")=>`(tactic| exact ⟨by walk_at "cs",by walk_at "na",by walk_at "na",by walk_at "na"⟩)
local macro_rules | `(tactic| walk_at "cb")=>`(tactic| exact ⟨by walk_at "cs",by walk_at "na",by walk_at "na",by walk_at "na",by walk_at "na",by walk_at "na",by walk_at "na",by walk_at "na"⟩)
local macro_rules | `(tactic| walk_at "cw")=>`(tactic| exact ⟨by walk_at "cs",by walk_at "na",by walk_at "na",by walk_at "na",by walk_at "na"⟩)
set_option maxRecDepth 1000000 in
set_option maxHeartbeats 0 in
theorem PySem.Challenge.cw_chipbus_k61_whole_great_chips_holds : PySem.Challenge.rw_chipbus_k61_whole_great_chips.Holds := by
 refine Hd.top ?_
 k_fill
 refine Cb.walk (l:=PySem.Challenge.rw_chipbus_k61_whole_great_chips) rfl rfl (fun w h Y=>PySem.W.kIn_of Y) ?F
 case F =>
  intro w mg fa h KX G hmg
  refine' Cb.all_mk KX G hmg ?zS ?a0_0 ?F_0 ?a0_1 ?F_1 ?a0_2 ?F_2 ?a0_3 ?F_3 ?a0_4 ?F_4 ?a0_5 ?F_5 ?a0_6 ?F_6 ?a0_7 ?F_7 ?a0_8 ?F_8 ?a0_9 ?F_9 ?a0_10 ?F_10 ?a0_11 ?F_11 ?a0_12 ?F_12 ?a0_13 ?F_13 ?a0_14 ?F_14 ?a0_15 ?F_15 ?a0_16 ?F_16 ?a0_17 ?F_17 ?a0_18 ?F_18 ?a0_19 ?F_19 ?a_Chip ?sg_cm_Chip___init__ ?rd_cm_Chip___init__ ?fc_cm_Chip___init__ ?F_20 ?a_Store ?cl_Store ?at_Store___len__ ?F_21 ?fn_21 ?at_Store_check_cell ?F_22 ?fn_22 ?at_Store_check_write ?F_23 ?fn_23 ?at_Store_look ?F_24 ?fn_24 ?at_Store_state ?F_25 ?fn_25 ?at_Store_read ?F_26 ?fn_26 ?at_Store_write ?F_27 ?fn_27 ?a_Fixed ?cl_Fixed ?at_Fixed___len__ ?at_Fixed_check_cell ?at_Fixed_check_write ?at_Fixed_look ?at_Fixed_state ?at_Fixed_read ?at_Fixed_write ?F_28 ?fn_28 ?a_Latch ?cl_Latch ?at_Latch___len__ ?at_Latch_check_cell ?at_Latch_check_write ?at_Latch_look ?at_Latch_state ?at_Latch_read ?at_Latch_write ?a_Meter ?cl_Meter ?at_Meter___len__ ?at_Meter_check_cell ?at_Meter_check_write ?at_Meter_look ?at_Meter_state ?at_Meter_read ?F_29 ?fn_29 ?at_Meter_write ?mk_Store ?kc_Store ?at_i_Store ?F_30 ?d_30 ?fn_30 ?mk_Fixed ?kc_Fixed ?at_i_Fixed ?F_31 ?fn_31 ?mk_Latch ?kc_Latch ?at_i_Latch ?F_32 ?d_32 ?fn_32 ?mk_Meter ?kc_Meter ?at_i_Meter ?F_33 ?d_33 ?fn_33 ?t1_L ?t2_L ?t3_L ?t4_L ?t5_L ?a0_34 ?F_34 ?a0_35 ?F_35 ?a0_36 ?F_36 ?a_Board ?cl_Board ?mk_Board ?kc_Board ?at_i_Board ?F_37 ?d_37 ?fn_37 ?at_Board_in_bits ?F_38 ?fn_38 ?at_Board_check_address ?F_39 ?fn_39 ?at_Board_chip_of ?F_40 ?fn_40 ?at_Board_finish ?F_41 ?fn_41 ?at_Board_who ?F_42 ?fn_42 ?at_Board_read ?F_43 ?d_43 ?fn_43 ?at_Board_write ?F_44 ?fn_44 ?a0_45 ?F_45 ?a0_46 ?F_46 ?a0_47 ?F_47 ?a0_48 ?F_48 ?a0_49 ?F_49 ?a0_50 ?F_50 ?a0_51 ?F_51 ?a0_52 ?F_52 ?a0_53 ?F_53 ?a0_54 ?F_54 ?a0_55 ?F_55 ?a0_56 ?l_56 ?c_56 ?k_56 ?z_MOST_BITS ?z_LAST_CHIP ?z_LAST_WORD ?z_MOST_CELLS ?z_SIXTEEN ?z_READ ?z_WRITE ?z_BOTH ?z_len ?z_sum ?z_all ?z_max ?z_min ?z_int ?z_bool ?z_isinstance ?z_range ?z_enumerate ?z_zip ?z_str ?z_tuple ?z_list
  (case zS=>k_is)
  (case a0_0=>k_is)
  (case F_0=>walk_at "fm")
  (case a0_1=>k_is)
  (case F_1=>walk_at "fm")
  (case a0_2=>k_is)
  (case F_2=>walk_at "fm")
  (case a0_3=>k_is)
  (case F_3=>walk_at "fm")
  (case a0_4=>k_is)
  (case F_4=>walk_at "fm")
  (case a0_5=>k_is)
  (case F_5=>walk_at "fm")
  (case a0_6=>k_is)
  (case F_6=>walk_at "fm")
  (case a0_7=>k_is)
  (case F_7=>walk_at "fm")
  (case a0_8=>k_is)
  (case F_8=>walk_at "fm")
  (case a0_9=>k_is)
  (case F_9=>walk_at "fm")
  (case a0_10=>k_is)
  (case F_10=>walk_at "fm")
  (case a0_11=>k_is)
  (case F_11=>walk_at "fm")
  (case a0_12=>k_is)
  (case F_12=>walk_at "fm")
  (case a0_13=>k_is)
  (case F_13=>walk_at "fm")
  (case a0_14=>k_is)
  (case F_14=>walk_at "fm")
  (case a0_15=>k_is)
  (case F_15=>walk_at "fm")
  (case a0_16=>k_is)
  (case F_16=>walk_at "fm")
  (case a0_17=>k_is)
  (case F_17=>walk_at "fm")
  (case a0_18=>k_is)
  (case F_18=>walk_at "fm")
  (case a0_19=>k_is)
  (case F_19=>walk_at "fm")
  (case a_Chip=>k_is)
  (case sg_cm_Chip___init__=>k_is)
  (case rd_cm_Chip___init__=>k_is)
  (case fc_cm_Chip___init__=>k_is)
  (case F_20=>walk_at "fm")
  (case a_Store=>k_is)
  (case cl_Store=>walk_at "cl")
  (case at_Store___len__=>k_is)
  (case F_21=>walk_at "fm")
  (case fn_21=>k_is)
  (case at_Store_check_cell=>k_is)
  (case F_22=>walk_at "fm")
  (case fn_22=>k_is)
  (case at_Store_check_write=>k_is)
  (case F_23=>walk_at "fm")
  (case fn_23=>k_is)
  (case at_Store_look=>k_is)
  (case F_24=>walk_at "fm")
  (case fn_24=>k_is)
  (case at_Store_state=>k_is)
  (case F_25=>walk_at "fm")
  (case fn_25=>k_is)
  (case at_Store_read=>k_is)
  (case F_26=>walk_at "fm")
  (case fn_26=>k_is)
  (case at_Store_write=>k_is)
  (case F_27=>walk_at "fm")
  (case fn_27=>k_is)
  (case a_Fixed=>k_is)
  (case cl_Fixed=>walk_at "cl")
  (case at_Fixed___len__=>k_is)
  (case at_Fixed_check_cell=>k_is)
  (case at_Fixed_check_write=>k_is)
  (case at_Fixed_look=>k_is)
  (case at_Fixed_state=>k_is)
  (case at_Fixed_read=>k_is)
  (case at_Fixed_write=>k_is)
  (case F_28=>walk_at "fm")
  (case fn_28=>k_is)
  (case a_Latch=>k_is)
  (case cl_Latch=>walk_at "cl")
  (case at_Latch___len__=>k_is)
  (case at_Latch_check_cell=>k_is)
  (case at_Latch_check_write=>k_is)
  (case at_Latch_look=>k_is)
  (case at_Latch_state=>k_is)
  (case at_Latch_read=>k_is)
  (case at_Latch_write=>k_is)
  (case a_Meter=>k_is)
  (case cl_Meter=>walk_at "cl")
  (case at_Meter___len__=>k_is)
  (case at_Meter_check_cell=>k_is)
  (case at_Meter_check_write=>k_is)
  (case at_Meter_look=>k_is)
  (case at_Meter_state=>k_is)
  (case at_Meter_read=>k_is)
  (case F_29=>walk_at "fm")
  (case fn_29=>k_is)
  (case at_Meter_write=>k_is)
  (case mk_Store=>k_is)
  (case kc_Store=>k_is)
  (case at_i_Store=>k_is)
  (case F_30=>walk_at "fd")
  (case d_30=>k_is)
  (case fn_30=>k_is)
  (case mk_Fixed=>k_is)
  (case kc_Fixed=>k_is)
  (case at_i_Fixed=>k_is)
  (case F_31=>walk_at "fm")
  (case fn_31=>k_is)
  (case mk_Latch=>k_is)
  (case kc_Latch=>k_is)
  (case at_i_Latch=>k_is)
  (case F_32=>walk_at "fd")
  (case d_32=>k_is)
  (case fn_32=>k_is)
  (case mk_Meter=>k_is)
  (case kc_Meter=>k_is)
  (case at_i_Meter=>k_is)
  (case F_33=>walk_at "fd")
  (case d_33=>k_is)
  (case fn_33=>k_is)
  (case t1_L=>k_is)
  (case t2_L=>k_is)
  (case t3_L=>k_is)
  (case t4_L=>k_is)
  (case t5_L=>k_is)
  (case a0_34=>k_is)
  (case F_34=>walk_at "fm")
  (case a0_35=>k_is)
  (case F_35=>walk_at "fm")
  (case a0_36=>k_is)
  (case F_36=>walk_at "fm")
  (case a_Board=>k_is)
  (case cl_Board=>walk_at "cb")
  (case mk_Board=>k_is)
  (case kc_Board=>k_is)
  (case at_i_Board=>k_is)
  (case F_37=>walk_at "fd")
  (case d_37=>k_is)
  (case fn_37=>k_is)
  (case at_Board_in_bits=>k_is)
  (case F_38=>walk_at "fm")
  (case fn_38=>k_is)
  (case at_Board_check_address=>k_is)
  (case F_39=>walk_at "fm")
  (case fn_39=>k_is)
  (case at_Board_chip_of=>k_is)
  (case F_40=>walk_at "fm")
  (case fn_40=>k_is)
  (case at_Board_finish=>k_is)
  (case F_41=>walk_at "fm")
  (case fn_41=>k_is)
  (case at_Board_who=>k_is)
  (case F_42=>walk_at "fm")
  (case fn_42=>k_is)
  (case at_Board_read=>k_is)
  (case F_43=>walk_at "fd")
  (case d_43=>k_is)
  (case fn_43=>k_is)
  (case at_Board_write=>k_is)
  (case F_44=>walk_at "fm")
  (case fn_44=>k_is)
  (case a0_45=>k_is)
  (case F_45=>walk_at "fm")
  (case a0_46=>k_is)
  (case F_46=>walk_at "fm")
  (case a0_47=>k_is)
  (case F_47=>walk_at "fm")
  (case a0_48=>k_is)
  (case F_48=>walk_at "fm")
  (case a0_49=>k_is)
  (case F_49=>walk_at "fm")
  (case a0_50=>k_is)
  (case F_50=>walk_at "fm")
  (case a0_51=>k_is)
  (case F_51=>walk_at "fm")
  (case a0_52=>k_is)
  (case F_52=>walk_at "fm")
  (case a0_53=>k_is)
  (case F_53=>walk_at "fm")
  (case a0_54=>k_is)
  (case F_54=>walk_at "fm")
  (case a0_55=>k_is)
  (case F_55=>walk_at "fm")
  (case a0_56=>k_is)
  (case l_56=>k_is)
  (case c_56=>k_is)
  (case k_56=>k_is)
  (case z_MOST_BITS=>k_is)
  (case z_LAST_CHIP=>k_is)
  (case z_LAST_WORD=>k_is)
  (case z_MOST_CELLS=>k_is)
  (case z_SIXTEEN=>k_is)
  (case z_READ=>k_is)
  (case z_WRITE=>k_is)
  (case z_BOTH=>k_is)
  (case z_len=>k_is)
  (case z_sum=>k_is)
  (case z_all=>k_is)
  (case z_max=>k_is)
  (case z_min=>k_is)
  (case z_int=>k_is)
  (case z_bool=>k_is)
  (case z_isinstance=>k_is)
  (case z_range=>k_is)
  (case z_enumerate=>k_is)
  (case z_zip=>k_is)
  (case z_str=>k_is)
  (case z_tuple=>k_is)
  (case z_list=>k_is)
#print axioms PySem.Challenge.cw_chipbus_k61_whole_great_chips_holds
