import PyProof.Rows.All
import Wide.All
import OpenK.AllK
import Wide.FinOn
import PyProof.EqAt
import PyProof.EqKinds
import PyProof.TupleCall
import KE.BitLaws
import Open.SpecLaws
import KE.OsHead
import KE.OsGo
import PyProof.DictRoadsH
import PyProof.Draws
import PyProof.EnumMake
import KE.KDictSum
import KE.KSortedM
import PySem.Challenge.RW_textsift_s01_answers
set_option compiler.extract_closed false
set_option Elab.async false
set_option linter.all false
set_option maxRecDepth 100000
namespace L2
open PySem PySem.Spec PyProof.Rows
abbrev Key:=Sum Int Str
def zl7:Key->Value->Bool
 | .inl k,v=> Value.isInt k v
 | .inr x,v=> Value.isStrOf x v
def zzj(w:World):Key->Int
 | .inl k=> hashInt k
 | .inr x=> hashStr w x
theorem zcL:∀{k:Key} {v:Value},zl7 k v=true->(∃i t,k=Sum.inl i/\v=Value.int i t)\/(∃x t,k=Sum.inr x/\v=Value.str x t)
 | .inl i,v,h=> by
  obtain⟨t,e⟩:=Value.isInt_shape (k:=i) (v:=v) h
  exact .inl ⟨i,t,rfl,e⟩
 | .inr x,v,h=> by
  obtain⟨t,e⟩:=Value.isStrOf_shape (x:=x) (v:=v) h
  exact .inr ⟨x,t,rfl,e⟩
theorem zpn(i:Int)(t:Tok):zl7 (.inl i) (.int i t)=true:=by simp[zl7,Value.isInt]
theorem zpm(x:Str)(t:Tok):zl7 (.inr x) (.str x t)=true:=by simp[zl7,Value.isStrOf]
theorem zv3(a b:Int):decide ((Sum.inl a:Key)=Sum.inl b)=(a==b):=by
 by_cases e:a=b
 .subst e; simp
 .have h:¬(Sum.inl a:Key)=Sum.inl b:=fun q=> e (Sum.inl.inj q)
  rw[decide_eq_false h]
  exact (beq_eq_false_iff_ne.mpr e).symm
theorem zv0(a b:Str):decide ((Sum.inr a:Key)=Sum.inr b)=decide (a=b):=by
 by_cases e:a=b
 .subst e; simp
 .have h:¬(Sum.inr a:Key)=Sum.inr b:=fun q=> e (Sum.inr.inj q)
  rw[decide_eq_false h,decide_eq_false e]
theorem zv2(a:Int)(b:Str):decide ((Sum.inl a:Key)=Sum.inr b)=false:=decide_eq_false (fun q=> nomatch q)
theorem zv1(a:Str)(b:Int):decide ((Sum.inr a:Key)=Sum.inl b)=false:=decide_eq_false (fun q=> nomatch q)
def zdV(prog:Program)(w:World):PySem.KeyKind prog w Key where
 is:=zl7
 hash:=zzj w
 inj:=fun v a b ha hb=> by
  rcases zcL ha with⟨i,t,rfl,rfl⟩ |⟨x,t,rfl,rfl⟩
  .rcases zcL hb with⟨j,u,rfl,e⟩ |⟨y,u,rfl,e⟩
   .injection e with e1 _; rw[e1]
   .exact nomatch e
  .rcases zcL hb with⟨j,u,rfl,e⟩ |⟨y,u,rfl,e⟩
   .exact nomatch e
   .injection e with e1 _; rw[e1]
 byValue:=fun k v h=> by
  rcases zcL h with⟨i,t,rfl,rfl⟩ |⟨x,t,rfl,rfl⟩ <;> rfl
 pyHash:=fun hv h=> by
  rcases zcL hv with⟨i,t,rfl,rfl⟩ |⟨x,t,rfl,rfl⟩
  .exact wpAny_pyHash_int h
  .exact wpAny_pyHash_str h
 eqBool:=fun hu hv h=> by
  rcases zcL hu with⟨i,t,rfl,rfl⟩ |⟨x,t,rfl,rfl⟩
  .rcases zcL hv with⟨j,u,rfl,rfl⟩ |⟨y,u,rfl,rfl⟩
   .rw[zv3] at h; exact wpAny_eqBool_int h
   .rw[zv2] at h; exact SeqAt.EqAt.int_str i t y u _ _ _ _ h
  .rcases zcL hv with⟨j,u,rfl,rfl⟩ |⟨y,u,rfl,rfl⟩
   .rw[zv1] at h; exact SeqAt.EqAt.str_int x t j u _ _ _ _ h
   .rw[zv0] at h; exact wpAny_eqBool_str h
 «strs»:=fun k x t v h=> by
  rcases zcL h with⟨i,u,rfl,e⟩ |⟨y,u,rfl,e⟩
  .exact nomatch e
  .injection e with e1 _
   subst e1
   cases v <;> rfl
theorem zhj(prog:Program)(w:World)(i:Int)(t:Tok):(zdV prog w).is (.inl i) (.int i t)=true:=zpn i t
theorem zl6(prog:Program)(w:World)(x:Str)(t:Tok):(zdV prog w).is (.inr x) (.str x t)=true:=zpm x t
end L2
namespace L2
open PySem
abbrev zfs:=Int×Sum Int (List Int)
section
variable {prog:Program}{w:World}(knd:KeyKind prog w Int)
def NIt(h:Heap):Sum Int (List Int)->Value->Prop
 | .inl n,v=> knd.is n v=true
 | .inr ns,v=>∃b,v= .ref b/\IsTupleKey knd h ns b
def wfN(k:zfs):Bool:=match k.2 with
 | .inl _=> decide (k.1≠0)
 | .inr _=> decide (k.1=0)
def IsNKey(h:Heap)(k:zfs)(a:Addr):Prop:=∃o u v n,h.get? a=some o/\o.cls= .type "tuple"/\o.data= .seq #[u,v] n/\knd.is k.1 u=true/\NIt knd h k.2 v/\wfN k=true
def zik:Sum Int (List Int)->Int
 | .inl n=> knd.hash n
 | .inr ns=> tupleKeyHash knd ns
def zj1:Sum Int (List Int)->Nat
 | .inl _=> 1
 | .inr ns=> ns.length + 1
def ztr(k:zfs):Int:=reduceHash (Builtin.Tuple.tupleHashOf [knd.hash k.1,zik knd k.2])
variable {knd}
theorem NIt.inj{h:Heap}{x y:Sum Int (List Int)}{v:Value}(a:NIt knd h x v)(b:NIt knd h y v):x=y:=by
 cases x with
 | inl n=>
  cases y with
  | inl m=> rw[knd.inj v n m a b]
  | inr ms=>
   obtain⟨c,rfl,_⟩:=b
   have:=knd.byValue _ _ a
   simp[carriedByValue] at this
 | inr ns=>
  obtain⟨c,rfl,hc⟩:=a
  cases y with
  | inl m=>
   have:=knd.byValue _ _ b
   simp[carriedByValue] at this
  | inr ms=>
   obtain⟨c',e,hc'⟩:=b
   cases e
   rw[hc.inj hc']
theorem IsNKey.typeIs{s:Shared}{k:zfs}{a:Addr}(x:IsNKey knd s.heap k a):s.TypeIs (.ref a) "tuple":=let ⟨o,_,_,_,ho,hc,_⟩:=x;⟨o,ho,hc⟩
theorem IsNKey.inj{h:Heap}{a:Addr}{x y:zfs}(hx:IsNKey knd h x a)(hy:IsNKey knd h y a):x=y:=by
 obtain⟨o,u,v,n,ho,_,hd,h1,h2,_⟩:=hx
 obtain⟨o',u',v',n',ho',_,hd',h1',h2',_⟩:=hy
 obtain rfl:o=o':=Option.some.inj (ho.symm.trans ho')
 rw[hd] at hd'
 injection hd' with e _
 have e':([u,v]:List Value)=[u',v']:=by have:=congrArg Array.toList e; simpa using this
 injection e' with e1 e2
 injection e2 with e2 _
 subst e1 e2
 exact Prod.ext (knd.inj _ _ _ h1 h1') (h2.inj h2')
theorem IsNKey.keeps{h h':Heap}{k:zfs}{a d:Addr}{o:Obj}{es ep}(x:IsNKey knd h k a)(ho:h.get? d=some o)(hd:o.data= .dict es ep)(hs:Heap.SameBut d h h'):IsNKey knd h' k a:=by
 obtain⟨o',u,v,n,ho',hc,hd',h1,h2,h3⟩:=x
 have hne:a≠d:=by
  rintro rfl
  obtain rfl:o'=o:=Option.some.inj (ho'.symm.trans ho)
  rw[hd] at hd'; exact nomatch hd'
 refine⟨o',u,v,n,(hs.2 a hne).trans ho',hc,hd',h1,?_,h3⟩
 cases e:k.2 with
 | inl m=> rw[e] at h2; exact h2
 | inr ms=>
  rw[e] at h2
  obtain⟨b,rfl,hb⟩:=h2
  exact⟨b,rfl,hb.keeps ho hd hs⟩
variable {A:Around}{E:Value->Shared->Prop}{s:Shared}
theorem zq1{x:Sum Int (List Int)}{v:Value}{Q:Int->Shared->Prop}(hu:A.units < cLine)(hk:NIt knd s.heap x v)(h:Q (zik knd x) {s with toks:=s.toks + zj1 x}):wpAny (model prog w) A (pyHash v) Q E s:=by
 cases x with
 | inl n=> exact knd.pyHash hk h
 | inr ns=>
  obtain⟨b,rfl,hb⟩:=hk
  exact wpAny_pyHash_tuple hu hb h
theorem zo7{k:zfs}{a:Addr}{Q:Int->Shared->Prop}(hu:A.units + 1 < cLine)(hk:IsNKey knd s.heap k a)(h:Q (ztr knd k) {s with toks:=s.toks + (zj1 k.2 + 2)}):
  wpAny (model prog w) A (pyHash (.ref a)) Q E s:=by
 have hT:=hk.typeIs
 obtain⟨o,u,v,n,ho,_,hd,h1,h2,_⟩:=hk
 unfold pyHash
 first | unfold pyHashByItsType | skip
 first | refine wpAny_bind (wpAny_cRoomFor_or (.inr (by omega)) ?_) | skip
 refine wpAny_bind (wpAny_specialOf hT F.slot_tuple_hash.lookup ?_)
 show wpAny _ _ (if (some (Value.builtin "tuple.__hash__")==some Value.none)=true then _ else _) Q E s
 rw[if_neg (by rw[beq_builtin_none]; exact Bool.false_ne_true)]
 refine wpAny_bind (wpAny_specialOf hT F.slot_tuple_hash.lookup ?_)
 show wpAny _ _ (callSpecialIfBoundUnlessNone? (.ref a) "__hash__" _ >>=_) Q E s
 refine wpAny_bind (wpAny_callSpecialIfBoundUnlessNone?_slot hT F.slot_tuple_hash (wpAny_call_entry F.slot_tuple_hash hT F.entry_tuple_hash ?_ (F.args_tuple_hash_1 _)))
 show wpAny _ _ (Builtin.Tuple.tupleItemsOf (.ref a) >>=_) _ _ s
 refine wpAny_bind (wpAny_tupleItemsOf ho hd ?_)
 refine wpAny_bind ?_
 rw[<- Array.forIn_toList]
 refine wpAny_forIn_list _
  (fun rest (b:Array Int) s'=> (rest=[u,v]/\b=#[]/\s'=s)\/(rest=[v]/\b=#[knd.hash k.1]/\s'={s with toks:=s.toks + 1})\/(rest=[]/\b=#[knd.hash k.1,zik knd k.2]/\s'={s with toks:=s.toks + 1 + zj1 k.2}))
  _ ?_ ?_ _ _ (.inl ⟨rfl,rfl,rfl⟩)
 .rintro x rest b s' (⟨hr,rfl,rfl⟩ |⟨hr,rfl,rfl⟩ |⟨hr,_⟩)
  .injection hr with e1 e2; subst e1 e2
   refine wpAny_bind (knd.pyHash h1 ?_)
   first
    | exact wpAny_pure (.inr (.inl ⟨rfl,rfl,rfl⟩))
    | exact wpAny_bind (wpAny_pure (wpAny_pure (.inr (.inl ⟨rfl,rfl,rfl⟩))))
  .injection hr with e1 e2; subst e1 e2
   refine wpAny_bind (zq1 (s:={s with toks:=s.toks + 1}) ?_ h2 ?_)
   .exact hu
   .first
     | exact wpAny_pure (.inr (.inr ⟨rfl,rfl,rfl⟩))
     | exact wpAny_bind (wpAny_pure (wpAny_pure (.inr (.inr ⟨rfl,rfl,rfl⟩))))
  .cases hr
 .rintro b s' (⟨hr,_⟩ |⟨hr,_⟩ |⟨_,rfl,rfl⟩)
  .cases hr
  .cases hr
  .show wpAny _ _ (retInt (Builtin.Tuple.tupleHashOf [knd.hash k.1,zik knd k.2])) _ _ _
   refine wpAny_ret_mkInt ?_
   show wpAny _ _ (if (decide (-(2:Int) ^ 63<=Builtin.Tuple.tupleHashOf [knd.hash k.1,zik knd k.2]) && decide (Builtin.Tuple.tupleHashOf [knd.hash k.1,zik knd k.2] < 2 ^ 63))=true then _ else _) Q E _
   unfold ztr reduceHash at h
   have e:s.toks + 1 + zj1 k.2 + 1=s.toks + (zj1 k.2 + 2):=by omega
   by_cases hr:(decide (-(2:Int) ^ 63<=Builtin.Tuple.tupleHashOf [knd.hash k.1,zik knd k.2]) && decide (Builtin.Tuple.tupleHashOf [knd.hash k.1,zik knd k.2] < 2 ^ 63))=true
   .rw[if_pos hr]
    rw[if_pos hr] at h
    exact wpAny_pure (by simpa[e] using h)
   .rw[if_neg hr]
    rw[if_neg hr] at h
    exact wpAny_bind (wpAny_rule (wpAny_pure (by simpa[e] using h)))
theorem zvU{x y:zfs}{u v:Value}{Q:Bool->Shared->Prop}(hu:A.units < cLine)(hx:NIt knd s.heap x.2 u)(hy:NIt knd s.heap y.2 v)(wx:wfN x=true)(wy:wfN y=true)(e:x.1=y.1)(h:Q (decide (x.2=y.2)) s):wpAny (model prog w) A (eqBool u v) Q E s:=by
 obtain⟨i,x⟩:=x
 obtain⟨j,y⟩:=y
 obtain rfl:i=j:=e
 cases x with
 | inl n=>
  cases y with
  | inl m=> exact knd.eqBool (a:=n) (b:=m) hx hy (by simpa using h)
  | inr ms=> simp[wfN] at wx wy; exact (wx wy).elim
 | inr ns=>
  cases y with
  | inl m=> simp[wfN] at wx wy; exact (wy wx).elim
  | inr ms=>
   obtain⟨b,rfl,hb⟩:=hx
   obtain⟨c,rfl,hc⟩:=hy
   exact wpAny_eqBool_tuple hu hb hc (by simpa using h)
theorem zlb{x y:zfs}{a b:Addr}{P:Fin->Shared->Prop}(hu:A.units < cLine)(hx:IsNKey knd s.heap x a)(hy:IsNKey knd s.heap y b)(h:P (.done (.ret (.bool (decide (x=y))))) s):
  wpAny (model prog w) A (Builtin.«tuple.__eq__» ⟨[.ref a,.ref b],[]⟩) P E s:=by
 have hTb:=hy.typeIs
 obtain⟨oa,u,v,na,hoa,_,hda,h1,h2,h3⟩:=hx
 obtain⟨ob,u',v',nb,hob,_,hdb,h1',h2',h3'⟩:=hy
 show wpAny _ _ (isInstance (.ref b) (.type "tuple") >>=_) _ _ s
 refine wpAny_bind (wpAny_isInstance hTb isSubtype_tuple_tuple ?_)
 simp only[Bool.not_true,Bool.false_eq_true,if_false]
 refine wpAny_bind (wpAny_tupleItemsOf hoa hda ?_)
 refine wpAny_bind (wpAny_tupleItemsOf hob hdb ?_)
 refine wpAny_bind ?_
 refine wpAny_forIn_list _
  (fun rest r s'=> r.1=none/\s'=s/\((rest=[(u,u'),(v,v')])\/(rest=[(v,v')]/\x.1=y.1)\/(rest=[]/\x=y)))
  _ ?_ ?_ _ _ ⟨rfl,rfl,.inl rfl⟩
 .rintro p rest r s' ⟨hr,rfl,(e |⟨e,e1⟩ |⟨e,_⟩)⟩
  .injection e with e0 e2; subst e0 e2
   refine wpAny_bind (knd.eqBool (a:=x.1) (b:=y.1) h1 h1' ?_)
   by_cases hk:x.1=y.1
   .rw[decide_eq_true hk]
    simp only[Bool.not_true,Bool.false_eq_true,if_false]
    exact wpAny_pure ⟨rfl,rfl,by simp[hk]⟩
   .rw[decide_eq_false hk]
    simp only[Bool.not_false,if_true]
    have hf:decide (x=y)=false:=decide_eq_false fun z=> hk (by rw[z])
    rw[hf] at h
    exact wpAny_bind (wpAny_pure (wpAny_pure (wpAny_pure h)))
  .injection e with e0 e2; subst e0 e2
   refine wpAny_bind (zvU (x:=x) (y:=y) hu h2 h2' h3 h3' e1 ?_)
   by_cases hk:x.2=y.2
   .rw[decide_eq_true hk]
    simp only[Bool.not_true,Bool.false_eq_true,if_false]
    exact wpAny_pure ⟨rfl,rfl,by simp[Prod.ext e1 hk]⟩
   .rw[decide_eq_false hk]
    simp only[Bool.not_false,if_true]
    have hf:decide (x=y)=false:=decide_eq_false fun z=> hk (by rw[z])
    rw[hf] at h
    exact wpAny_bind (wpAny_pure (wpAny_pure (wpAny_pure h)))
  .cases e
 .rintro⟨r1,r2⟩ s' ⟨hr,rfl,(e |⟨e,_⟩ |⟨_,e1⟩)⟩
  .cases e
  .cases e
  .simp only at hr
   subst hr
   refine wpAny_pure ?_
   show P (.done (.ret (.bool ((#[u,v]:Array Value).size==(#[u',v']:Array Value).size)))) s'
   rw[decide_eq_true e1] at h
   exact h
theorem ztq{x y:zfs}{a b:Addr}{Q:Bool->Shared->Prop}(hu:A.units + 1 < cLine)(hx:IsNKey knd s.heap x a)(hy:IsNKey knd s.heap y b)(h:Q (decide (x=y)) s):
  wpAny (model prog w) A (eqBool (.ref a) (.ref b)) Q E s:=by
 unfold eqBool
 try with_reducible refine wpAny_holding ?_
 show wpAny _ _ (if (Value.ref a==Value.ref b)=true then _ else _) Q E s
 by_cases hab:(Value.ref a==Value.ref b)=true
 .rw[if_pos hab]
  have e:a=b:=by have:=eq_of_beq hab; injection this
  subst e
  obtain rfl:=hx.inj hy
  exact wpAny_bind (wpAny_rule (wpAny_pure (by simpa using h)))
 .rw[if_neg hab]
  exact wpAny_bind (wpAny_richCompare_same_room (op:= .Eq) hx.typeIs hy.typeIs F.slot_tuple_eq
   (wpAny_call_entry F.slot_tuple_eq hx.typeIs F.entry_tuple_eq (zlb hu hx hy ⟨_,rfl,(fun e=> nomatch e),wpAny_truthy_bool h⟩) (F.args_tuple_eq_2 _ _)) (by omega))
theorem zo8{n:Nat}{x:Sum Int (List Int)}{v:Value}{Q:Bool->Shared->Prop}(hx:NIt knd s.heap x v)(h:Q true s):wpAny (model prog w) A (eqIsQuiet (n + 1) v) Q E s:=by
 cases x with
 | inl m=> rw[eqIsQuiet_byValue _ (knd.byValue _ _ hx)]; exact wpAny_pure h
 | inr ns=>
  obtain⟨b,rfl,hk⟩:=hx
  have hT:=hk.typeIs
  obtain⟨o,items,m,ho,_,hd,hi⟩:=hk
  unfold eqIsQuiet
  refine wpAny_bind (wpAny_specialOf hT F.slot_tuple_eq.lookup ?_)
  show wpAny _ _ (isInstance (.ref b) (.type "tuple") >>=_) _ _ s
  refine wpAny_bind (wpAny_isInstance hT isSubtype_tuple_tuple ?_)
  simp only[Bool.not_true,Bool.false_eq_true,if_false]
  refine wpAny_bind (wpAny_seqItems ho hd ?_)
  refine wpAny_bind ?_
  show wpAny _ _ (forIn items _ _) _ _ s
  rw[<- Array.forIn_toList]
  refine wpAny_forIn_list _ (fun rest r s'=> r.1=none/\s'=s/\∀v∈rest,carriedByValue v=true) _ ?_ ?_ _ _ ⟨rfl,rfl,hi.byValue⟩
  .rintro v rest r s' ⟨hr,rfl,hall⟩
   rw[eqIsQuiet_byValue _ (hall v List.mem_cons_self)]
   refine wpAny_bind (wpAny_pure ?_)
   simp only[Bool.not_true,Bool.false_eq_true,if_false]
   exact wpAny_pure ⟨rfl,rfl,fun u hu'=> hall u (List.mem_cons_of_mem _ hu')⟩
  .rintro⟨r1,r2⟩ s' ⟨hr,rfl,_⟩
   simp only at hr
   subst hr
   exact wpAny_pure h
theorem znN{k:zfs}{a:Addr}{Q:Bool->Shared->Prop}(hk:IsNKey knd s.heap k a)(h:Q true s):wpAny (model prog w) A (eqIsQuiet 8 (.ref a)) Q E s:=by
 have hT:=hk.typeIs
 obtain⟨o,u,v,n,ho,_,hd,h1,h2,_⟩:=hk
 unfold eqIsQuiet
 refine wpAny_bind (wpAny_specialOf hT F.slot_tuple_eq.lookup ?_)
 show wpAny _ _ (isInstance (.ref a) (.type "tuple") >>=_) _ _ s
 refine wpAny_bind (wpAny_isInstance hT isSubtype_tuple_tuple ?_)
 simp only[Bool.not_true,Bool.false_eq_true,if_false]
 refine wpAny_bind (wpAny_seqItems ho hd ?_)
 refine wpAny_bind ?_
 show wpAny _ _ (forIn (#[u,v]:Array Value) _ _) _ _ s
 rw[<- Array.forIn_toList]
 refine wpAny_forIn_list _ (fun rest r s'=> r.1=none/\s'=s/\(rest=[u,v]\/rest=[v]\/rest=[])) _ ?_ ?_ _ _ ⟨rfl,rfl,.inl rfl⟩
 .rintro x rest r s' ⟨hr,rfl,(e | e | e)⟩
  .injection e with e0 e2; subst e0 e2
   rw[eqIsQuiet_byValue _ (knd.byValue _ _ h1)]
   refine wpAny_bind (wpAny_pure ?_)
   simp only[Bool.not_true,Bool.false_eq_true,if_false]
   exact wpAny_pure ⟨rfl,rfl,by simp⟩
  .injection e with e0 e2; subst e0 e2
   refine wpAny_bind (zo8 h2 ?_)
   simp only[Bool.not_true,Bool.false_eq_true,if_false]
   exact wpAny_pure ⟨rfl,rfl,by simp⟩
  .cases e
 .rintro⟨r1,r2⟩ s' ⟨hr,rfl,_⟩
  simp only at hr
  subst hr
  exact wpAny_pure h
end
def zfX{prog:Program}{w:World}(knd:KeyKind prog w Int):HeapKind prog w zfs where
 is:=IsNKey knd
 hash:=ztr knd
 draws:=fun k=> zj1 k.2 + 2
 room:=fun A=> A.units + 1 < cLine
 inj:=fun hx hy=> hx.inj hy
 keeps:=fun x ho hd hs=> x.keeps ho hd hs
 pyHash:=fun hu hk h=> zo7 hu hk h
 eqBool:=fun hu hx hy h=> ztq hu hx hy h
 quiet:=fun hk h=> znN hk h
end L2
namespace L2
open PySem PySem.Spec PyProof.Rows
inductive V where
 | non | bl (b:Bool) | int (i:Int) | str (x:Str) | byt (b:Array UInt8) | flt (b:UInt64) | ref (a:Addr) | ty (n:String)
 deriving DecidableEq
def RelV:V->Value->Prop
 | .non,u=> u=Value.none
 | .bl b,u=> u=Value.bool b
 | .int i,u=>∃t,u=Value.int i t
 | .str x,u=>∃t,u=Value.str x t
 | .byt b,u=>∃t,u=Value.bytes b t
 | .flt b,u=>∃t,u=Value.float b t
 | .ref a,u=> u=Value.ref a
 | .ty n,u=> u=Value.type n
abbrev Vals:List V->List Value->Prop:=Paired RelV
theorem Vals.length{xs:List V}{us:List Value}(r:Vals xs us):xs.length=us.length:=Paired.length r
theorem Vals.get:∀{xs:List V} {us:List Value} {i:Nat} {x:V},Vals xs us->xs[i]? =some x->∃u,us[i]? =some u/\RelV x u
 | _,_,_,_,.nil,e=> by simp at e
 | _,_,0,_,.cons r _,e=> by simp at e; subst e; exact⟨_,rfl,r⟩
 | _,_,i + 1,x,.cons _ t,e=> by
  obtain⟨u,h1,h2⟩:=Vals.get (i:=i) (x:=x) t (by simpa using e)
  exact⟨u,by simpa using h1,h2⟩
theorem Vals.set{x:V}{u:Value}(r:RelV x u):∀{xs:List V} {us:List Value} (i:Nat),Vals xs us->Vals (xs.set i x) (us.set i u)
 | _,_,_,.nil=> .nil
 | _,_,0,.cons _ t=> .cons r t
 | _,_,i + 1,.cons q t=> .cons q (Vals.set r i t)
theorem Vals.append:∀{xs ys:List V} {us ws:List Value},Vals xs us->Vals ys ws->Vals (xs ++ ys) (us ++ ws)
 | _,_,_,_,.nil,s=> s
 | _,_,_,_,.cons r t,s=> .cons r (Vals.append t s)
theorem Vals.take:∀{xs:List V} {us:List Value} (n:Nat),Vals xs us->Vals (xs.take n) (us.take n)
 | _,_,0,_=> .nil
 | _,_,_ + 1,.nil=> .nil
 | _,_,n + 1,.cons r t=> .cons r (Vals.take n t)
theorem Vals.drop:∀{xs:List V} {us:List Value} (n:Nat),Vals xs us->Vals (xs.drop n) (us.drop n)
 | _,_,0,r=> r
 | _,_,_ + 1,.nil=> .nil
 | _,_,n + 1,.cons _ t=> Vals.drop n t
def RelO:Option V->Option Value->Prop
 | some v,some u=> RelV v u
 | none,none=> True
 | _,_=> False
def KV{κ:Type}:List (κ×V)->List (κ×Value)->Prop:=Paired fun (p:κ×V) (q:κ×Value)=> p.1=q.1/\RelV p.2 q.2
def kV:Key->V
 | .inl i=> .int i
 | .inr x=> .str x
inductive HO where
 | lst (xs:List V)
 | tup (xs:List V)
 | dK (kvs:List (Key×V)) | dT (kvs:List (zfs×V))
 | set (S:Int->Bool) (n:Nat)
 | ins (C dx:Addr) (fs:List (Str×V))
 | own (x:Addr)
 | xd (fs:List (Str×V))
 | met (f x:Addr)
 | rng (lo hi:Int)
 | frz (o:Obj) (u:HO)
 | tbl (ps:Array Value)
 | ext (φ:Heap->Prop)
abbrev Hp:=Addr->Option HO
def KeyAt(H:Hp)(k:zfs)(b:Addr):Prop:=wfN k=true/\match k.2 with
 | .inl n=> H b=some (.tup [.int k.1,.int n])
 | .inr ns=>∃c,H b=some (.tup [.int k.1,.ref c])/\H c=some (.tup (ns.map .int))
theorem KeyAt.keeps{H H':Hp}{k:zfs}{b:Addr}(x:KeyAt H k b)(ht:∀b xs,H b=some (.tup xs)->H' b=some (.tup xs)):KeyAt H' k b:=by
 obtain⟨i,z⟩:=k
 cases z with
 | inl n=> exact⟨x.1,ht _ _ x.2⟩
 | inr ns=> obtain⟨x1,c,x2,x3⟩:=x; exact⟨x1,c,ht _ _ x2,ht _ _ x3⟩
def upd(H:Hp)(a:Addr)(o:HO):Hp:=fun b=> if b=a then some o else H b
theorem zbS{H:Hp}{a:Addr}{o:HO}:upd H a o a=some o:=by unfold upd; rw[if_pos rfl]
theorem zbH{H:Hp}{a b:Addr}{o:HO}(h:b≠a):upd H a o b=H b:=by unfold upd; rw[if_neg h]
theorem zaU{H:Hp}{a b:Addr}{o u:HO}(h:H a=some o)(h':H b=some u)(d:o≠u):a≠b:=by
 intro e; subst e; rw[h] at h'; exact d (Option.some.inj h')
theorem zcl{H:Hp}{a b:Addr}{o:HO}(h:H a=some o)(h':H b=none):a≠b:=by
 intro e; subst e; rw[h] at h'; cases h'
section
variable (P:Program)(w:World)
def ObjOk(H:Hp)(h:Heap)(a:Addr):HO->Prop
 | .lst xs=> xs.length<=sizeLine/\∃(its:List Value) (n:Nat),Vals xs its/\h.get? a=some {cls:= .type "list",data:= .seq its.toArray n}
 | .tup xs=> xs.length<=sizeLine/\∃its:List Value,Vals xs its/\IsTup h a its.toArray
 | .dK kvs=> kvs.length<=sizeLine/\(a==sysModules)=false/\∃vs,KV kvs vs/\h.DictOf (zdV P w) a vs
 | .dT kvs=> kvs.length<=sizeLine/\(a==sysModules)=false/\∃xs:List (zfs×Addr×Value),
   Paired (fun (p:zfs×V) (q:zfs×Addr×Value)=> p.1=q.1/\KeyAt H p.1 q.2.1/\RelV p.2 q.2.2) kvs xs/\
   ∃o es ep,h.get? a=some o/\o.ExactDict/\o.data= .dict es ep/\es.toList=xs.map (entryOfKey (zfX (intKind P w)))/\(xs.map (·.1)).Nodup
 | .set S n=> h.SetOf (intKind P w) a S n
 | .ins C dx fs=> H dx=some (.own a)/\fs.length<=1000/\dx≠a/\h.get? a=some (PySem.W.instObj C dx)/\
   ∃mA,h.Ns1 dx mA/\(∀f,RelO (fs.lookup f) (mA f))/\PySem.Within mA (fs.map (·.1))
 | .own _=>∃o,h.get? a=some o
 | .xd fs=>∃mA,h.Ns1 a mA/\∀f,RelO (fs.lookup f) (mA f)
 | .rng lo hi=>∃t u v,h.get? a=some {cls:= .type "range",data:= .fields #[.int lo t,.int hi u,.int 1 v]}
 | .frz o u=> h.get? a=some o/\ObjOk H h a u
 | .tbl ps=> h.get? a=some {cls:= .none,data:= .fields ps}
 | .met f x=> h.get? a=some (PySem.W.methodObj (.ref f) (.ref x))
 | .ext φ=> φ h/\(∃o,h.get? a=some o)/\∀h1 h2:Heap,φ h1->(∀o,h1.get? a=some o->h2.get? a=some o)->φ h2
def HOk(H:Hp)(h:Heap):Prop:=∀a o,H a=some o->ObjOk P w H h a o
end
section
variable {P:Program}{w:World}{H H':Hp}{h h':Heap}{a:Addr}{o:HO}
theorem ObjOk.lt(x:ObjOk P w H h a o):a < h.objs.size:=by
 cases o with
 | lst xs=> obtain⟨_,_,_,_,e⟩:=x; exact Heap.lt_size e
 | tup xs=> obtain⟨_,_,_,p⟩:=x; exact p.lt
 | dK kvs=> obtain⟨_,_,_,_,o,_,_,e,_⟩:=x; exact Heap.lt_size e
 | dT kvs=> obtain⟨_,_,_,_,o,_,_,e,_⟩:=x; exact Heap.lt_size e
 | set S n=> obtain⟨o,_,_,_,e,_⟩:=x; exact Heap.lt_size e
 | ins C dx fs=> obtain⟨_,_,_,e,_⟩:=x; exact Heap.lt_size e
 | own y=> obtain⟨_,e⟩:=x; exact Heap.lt_size e
 | xd fs=> obtain⟨_,⟨_,_,_,e,_⟩,_⟩:=x; exact Heap.lt_size e
 | rng lo hi=> obtain⟨_,_,_,e⟩:=x; exact Heap.lt_size e
 | frz ob u=> obtain⟨e,_⟩:=x; exact Heap.lt_size e
 | tbl ps=> exact Heap.lt_size (show h.get? a=some _ from x)
 | met f y=> exact Heap.lt_size (show h.get? a=some _ from x)
 | ext φ=> obtain⟨_,⟨_,e⟩,_⟩:=x; exact Heap.lt_size e
theorem Paired.mapP{α β:Type}{F G:α->β->Prop}:∀{l₁:List α} {l₂:List β},Paired F l₁ l₂->(∀a b,F a b->G a b)->Paired G l₁ l₂
 | _,_,.nil,_=> .nil
 | _,_,.cons r t,f=> .cons (f _ _ r) (Paired.mapP t f)
theorem ObjOk.stay(x:ObjOk P w H h a o)(k:∀b u,(b=a\/H b=some (.own a))->h.get? b=some u->h'.get? b=some u)
  (ho:∀b,H b=some (.own a)->H' b=some (.own a)) (ht:∀b xs,H b=some (.tup xs)->H' b=some (.tup xs)):ObjOk P w H' h' a o:=by
 induction o with
 | lst xs=> obtain⟨z,its,n,r,e⟩:=x; exact⟨z,its,n,r,k _ _ (.inl rfl) e⟩
 | tup xs=> obtain⟨z,its,r,ob,e,c⟩:=x; exact⟨z,its,r,ob,k _ _ (.inl rfl) e,c⟩
 | dK kvs=> obtain⟨z,y,vs,r,ob,es,ep,e,c⟩:=x; exact⟨z,y,vs,r,ob,es,ep,k _ _ (.inl rfl) e,c⟩
 | dT kvs=>
  obtain⟨z,y,xs,r,ob,es,ep,e,c⟩:=x
  exact⟨z,y,xs,Paired.mapP r fun p q z=> ⟨z.1,z.2.1.keeps ht,z.2.2⟩,ob,es,ep,k _ _ (.inl rfl) e,c⟩
 | set S n=> obtain⟨ob,es,ep,t,e,c⟩:=x; exact⟨ob,es,ep,t,k _ _ (.inl rfl) e,c⟩
 | ins C dx fs=>
  obtain⟨d,z,ne,e,mA,⟨od,es,ep,e2,c⟩,r⟩:=x
  exact⟨ho _ d,z,ne,k _ _ (.inl rfl) e,mA,⟨od,es,ep,k _ _ (.inr d) e2,c⟩,r⟩
 | own y=> obtain⟨ob,e⟩:=x; exact⟨ob,k _ _ (.inl rfl) e⟩
 | xd fs=> obtain⟨mA,⟨od,es,ep,e,c⟩,r⟩:=x; exact⟨mA,⟨od,es,ep,k _ _ (.inl rfl) e,c⟩,r⟩
 | rng lo hi=> obtain⟨t,u,v,e⟩:=x; exact⟨t,u,v,k _ _ (.inl rfl) e⟩
 | frz ob u ih=> obtain⟨e,q⟩:=x; exact⟨k _ _ (.inl rfl) e,ih q⟩
 | tbl ps=>
  have e:h.get? a=some {cls:= .none,data:= .fields ps}:=x
  show h'.get? a=some {cls:= .none,data:= .fields ps}
  exact k a _ (.inl rfl) e
 | met f y=>
  have e:h.get? a=some (PySem.W.methodObj (.ref f) (.ref y)):=x
  show h'.get? a=some (PySem.W.methodObj (.ref f) (.ref y))
  exact k a _ (.inl rfl) e
 | ext φ=> obtain⟨p,⟨o,e⟩,st⟩:=x; exact⟨st _ _ p fun o q=> k _ _ (.inl rfl) q,⟨o,k _ _ (.inl rfl) e⟩,st⟩
theorem HOk.lt(x:HOk P w H h)(e:H a=some o):a < h.objs.size:=(x a o e).lt
theorem HOk.fresh(x:HOk P w H h)(e:h.objs.size<=a):H a=none:=by
 cases q:H a with
 | none=> rfl
 | some u=> exact absurd (Nat.lt_of_lt_of_le (x.lt q) e) (Nat.lt_irrefl _)
theorem HOk.kept(x:HOk P w H h)(k:∀b u,h.get? b=some u->h'.get? b=some u):HOk P w H h':=fun a o e=>
 (x a o e).stay (fun b u _ q=> k b u q) (fun _ q=> q) fun _ _ q=> q
theorem HOk.laid(x:HOk P w H h)(k:∀b u,h.get? b=some u->h'.get? b=some u)(hp:h.objs.size<=a)(new:ObjOk P w (upd H a o) h' a o):HOk P w (upd H a o) h':=fun b u e=> by
 have hn:=x.fresh hp
 by_cases hb:b=a
 .subst hb; rw[zbS] at e; cases e; exact new
 .rw[zbH hb] at e
  exact (x b u e).stay (fun c v _ q=> k c v q) (fun c q=> by rw[zbH (zcl q hn)]; exact q) fun c xs q=> by rw[zbH (zcl q hn)]; exact q
end
def Rd(H:Hp)(a:Addr)(u:HO):Prop:=H a=some u\/∃o,H a=some (.frz o u)
theorem Rd.ok{P:Program}{w:World}{H:Hp}{h:Heap}{a:Addr}{u:HO}(r:Rd H a u)(x:HOk P w H h):ObjOk P w H h a u:=by
 rcases r with r |⟨o,r⟩
 .exact x a u r
 .obtain⟨_,q⟩:=x a _ r
  exact q
def Mut:Option HO->Prop
 | some (.lst _)=> True
 | some (.dK _)=> True
 | some (.dT _)=> True
 | some (.set _ _)=> True
 | some (.ins _ _ _)=> True
 | some (.ext _)=> True
 | _=> False
section
variable {P:Program}{w:World}{H:Hp}{h h':Heap}{x e:Addr}{o':HO}
theorem HOk.write(ok:HOk P w H h)(mu:Mut (H x))(he:e=x\/H e=some (.own x))(k:∀b u,b≠e->h.get? b=some u->h'.get? b=some u)(heo:∃u,h'.get? e=some u)
  (new:ObjOk P w (upd H x o') h' x o'):HOk P w (upd H x o') h':=fun b u q=> by
 have nown:∀c y,H c=some (.own y)->c≠x:=fun c y r z=> by subst z; rw[r] at mu; exact mu
 have ntup:∀c xs,H c=some (.tup xs)->c≠x:=fun c xs r z=> by subst z; rw[r] at mu; exact mu
 by_cases hb:b=x
 .subst hb; rw[zbS] at q; cases q; exact new
 .rw[zbH hb] at q
  by_cases hbe:b=e
  .have q':H b=some (.own x):=by
    rcases he with z | z
    .exact absurd (hbe.trans z) hb
    .rw[hbe]; exact z
   rw[q] at q'; cases q'
   obtain⟨v,hv⟩:=heo
   exact⟨v,by rw[hbe]; exact hv⟩
  .refine (ok b u q).stay (fun c v hc r=> k c v ?_ r) (fun c r=> by rw[zbH (nown c b r)]; exact r) fun c xs r=> by rw[zbH (ntup c xs r)]; exact r
   rcases hc with rfl | hc
   .exact hbe
   .rintro rfl
    rcases he with z | z
    .exact nown c b hc z
    .rw[hc] at z; cases z; exact hb rfl
end
structure Un (fs ex:List Addr) (H H':Hp) (h h':Heap):Prop where
 keep:∀b o,h.get? b=some o->H b=none->b∉fs->b∉ex->h'.get? b=some o
 slot:∀b o,h.get? b=some o->H b=none->b∈fs->b∉ex->∃sl,h'.get? b=some {o with slots:=sl}
 free:∀b o,h.get? b=some o->H b=none->b∉ex->H' b=none
 there:∀b o,h.get? b=some o->b∉ex->∃o',h'.get? b=some o'
 tups:∀b xs,H b=some (.tup xs)->H' b=some (.tup xs)
 frzs:∀b o u,H b=some (.frz o u)->H' b=some (.frz o u)
 tbls:∀b ps,H b=some (.tbl ps)->∃more,H' b=some (.tbl (ps ++ more))
section
variable {fs fs' ex ex':List Addr}{H H1 H2:Hp}{h h1 h2 h':Heap}{a x e:Addr}{o:HO}
theorem Un.any(u:Un fs ex H H1 h h1){b:Addr}{ob:Obj}(q:h.get? b=some ob)(n:H b=none)(hx:b∉ex):∃sl,h1.get? b=some {ob with slots:=sl}:=by
 by_cases hb:b∈fs
 .exact u.slot b ob q n hb hx
 .exact⟨ob.slots,u.keep b ob q n hb hx⟩
theorem Un.kept(k:∀b u,h.get? b=some u->h'.get? b=some u):Un fs ex H H h h':=
 ⟨fun b ob q _ _ _=> k b ob q,fun b ob q _ _ _=> ⟨ob.slots,k b ob q⟩,fun _ _ _ n _=> n,fun b ob q _=> ⟨ob,k b ob q⟩,fun _ _ q=> q,fun _ _ _ q=> q,fun _ ps q=> ⟨#[],by rw[q]; simp⟩⟩
theorem Un.refl:Un fs ex H H h h:=Un.kept fun _ _ q=> q
theorem Un.laid(k:∀b u,h.get? b=some u->h'.get? b=some u)(hp:h.objs.size<=a)(hn:H a=none):Un fs ex H (upd H a o) h h' where
 keep:=fun b u q _ _ _=> k b u q
 slot:=fun b u q _ _ _=> ⟨u.slots,k b u q⟩
 free:=fun b u q n _=> by rw[zbH (Nat.ne_of_lt (Nat.lt_of_lt_of_le (Heap.lt_size q) hp))]; exact n
 there:=fun b u q _=> ⟨u,k b u q⟩
 tups:=fun b xs q=> by rw[zbH (zcl q hn)]; exact q
 frzs:=fun b u xs q=> by rw[zbH (zcl q hn)]; exact q
 tbls:=fun b ps q=> ⟨#[],by rw[zbH (zcl q hn),q]; simp⟩
theorem Un.write(mu:Mut (H x))(he:e=x\/H e=some (.own x))(k:∀b u,b≠e->h.get? b=some u->h'.get? b=some u)(heo:∃u,h'.get? e=some u):Un fs ex H (upd H x o) h h':=by
 have hx:∀b,H b=none->b≠x:=fun b n z=> by subst z; rw[n] at mu; exact mu
 have hb:∀b,H b=none->b≠e:=fun b n z=> by
  subst z
  rcases he with r | r
  .exact hx b n r
  .rw[n] at r; cases r
 have hm:∀b u,H b=some u->¬Mut (some u)->b≠x:=fun b u q nm z=> by subst z; rw[q] at mu; exact nm mu
 refine⟨fun b u q n _ _=> k b u (hb b n) q,fun b u q n _ _=> ⟨u.slots,k b u (hb b n) q⟩,fun b u q n _=> by rw[zbH (hx b n)]; exact n,fun b u q _=> ?_,
  fun b xs q=> by rw[zbH (hm b _ q fun z=> z)]; exact q,fun b u xs q=> by rw[zbH (hm b _ q fun z=> z)]; exact q,fun b ps q=> ⟨#[],by rw[zbH (hm b _ q fun z=> z),q]; simp⟩⟩
 by_cases hbe:b=e
 .subst hbe; exact heo
 .exact⟨u,k b u hbe q⟩
end
def trk(h:Heap)(H:Hp):List Addr:=(List.range h.objs.size).filter fun a=> (H a).isSome
def zrd(h:Heap)(H:Hp):Heap:=PySem.W.hideAll h (trk h H)
theorem zps(h:Heap)(H:Hp):(zrd h H).objs.size=h.objs.size:=PySem.W.hideAll_size _ _
theorem zrc{h:Heap}{H:Hp}{b:Addr}{o:Obj}(e:h.get? b=some o)(n:H b=none):(zrd h H).get? b=some o:=
 PySem.W.hideAll_get _ e fun hm=> by
  have q:(H b).isSome=true:=(List.mem_filter.mp hm).2
  rw[n] at q; simp at q
theorem ztm{h:Heap}{H:Hp}{b:Addr}{o:Obj}(e:(zrd h H).get? b=some o):h.get? b=some o/\H b=none:=by
 have e':h.get? b=some o:=PySem.W.of_hideAll (trk h H) e
 refine⟨e',?_⟩
 cases q:H b with
 | none=> rfl
 | some x=>
  have hm:b∈trk h H:=List.mem_filter.mpr ⟨List.mem_range.mpr (Heap.lt_size e'),by simp[q]⟩
  have z:(zrd h H).get? b=none:=PySem.W.hideAll_none (trk h H) hm
  rw[z] at e; cases e
end L2
namespace L2
open PySem PySem.Spec PyProof.Rows
structure Mod (K:PySem.W.Frag) (mg:Str->Option Value) (base:Heap):Prop where
 kin:K.In base
 glob:base.Ns mainGlobals mg
 blt:∃mb,base.Ns builtinsNs mb/\∀x:Str,x≠"__name__"->mb x=bootBuiltins x
 nolimit:base.NoLimit
structure Cx where
 prog:Program
 w:World
 K:PySem.W.Frag
 mg:Str->Option Value
 base:Heap
 A:Around
 N:List Str
 s_0:Shared
 H_0:Hp
 env:Env
 outer:List Env
 stack:List Env
 ex:List Addr
 fn:Str->Bool
 calm:Bool
 pn:List (Addr×Obj)
 xe:Value->Shared->Prop
def frs(l:List Env):List Addr:=l.filterMap (·.frame)
abbrev Cx.fs(X:Cx):List Addr:=frs X.outer
def Vis(sc:Scope)(x:Str):Prop:=sc.names.lookup x=some .local\/sc.names.lookup x=some .cell\/sc.names.lookup x=some .free
def Loc(sc:Scope)(x:Str):Prop:=sc.names.lookup x=some .local\/sc.names.lookup x=some .cell
def zzu(env:Env)(h:Heap)(m:Str->Option Value)(x:Str)(u:Value):Prop:=
 (env.kindOf x=some .local/\m x=some u)\/((env.kindOf x=some .cell\/env.kindOf x=some .free)/\∃c,env.cells.lookup x=some c/\h.IsCell c (some u))
structure Cx.Ok (X:Cx):Prop where
 mod:Mod X.K X.mg X.base
 kind:X.env.scope.kind= .function
 glob:X.env.globals=mainGlobals
 blt:X.env.builtins=builtinsNs
 above:X.s_0.heap.objs.size<=X.env.locals
 inj:∀x y c,X.env.cells.lookup x=some c->X.env.cells.lookup y=some c->x=y
 has:∀x,(X.env.kindOf x=some .cell\/X.env.kindOf x=some .free)->∃c,X.env.cells.lookup x=some c
 cab:∀x c,X.fn x=true->X.env.cells.lookup x=some c->X.s_0.heap.objs.size<=c
 hd:X.calm=true->X.A.handled=none
 frames:X.A.frames=some X.stack
 stk:X.stack=X.outer\/(X.stack=X.env::X.outer/\X.env.frame=some X.env.locals)
 exf:∀b∈X.ex,b≠X.env.locals/\∀x c,X.env.cells.lookup x=some c->c≠b
 bs:∀b o,X.base.get? b=some o->X.s_0.heap.get? b=some o/\X.H_0 b=none
 bsz:X.base.objs.size<=X.s_0.heap.objs.size
 noex:∀b o,X.base.get? b=some o->b∉X.ex
 exfs:∀b∈X.ex,b∉X.fs
 funs:X.s_0.heap.FunFrames X.base X.outer
 frf:∀b∈X.fs,X.H_0 b=none
structure Inv (X:Cx) (pins:List (Addr×Obj)) (σ:List (Option V)) (H:Hp) (s:Shared):Prop where
 ok:X.Ok
 os:s.os=X.s_0.os
 bare:AllBare s.gens
 base:Un X.fs X.ex X.H_0 H X.s_0.heap s.heap
 loc:∃m,s.heap.Ns X.env.locals m/\∀(i:Nat) (x:Str) (v:V),X.N[i]? =some x->σ[i]? =some (some v)->Vis X.env.scope x->∃u,RelV v u/\zzu X.env s.heap m x u
 cell:∀x c,X.env.cells.lookup x=some c->∃v,s.heap.IsCell c v
 free:H X.env.locals=none
 freeC:∀x c,X.env.cells.lookup x=some c->H c=none
 pin:∀p∈X.pn ++ pins,s.heap.get? p.1=some p.2/\H p.1=none/\p.1≠X.env.locals/\p.1∉X.fs/\∀v,p.2.data≠ .cell v
 hok:HOk X.prog X.w H s.heap
 len:σ.length=X.N.length
section
variable {X:Cx}{pins:List (Addr×Obj)}{σ:List (Option V)}{H H':Hp}{s:Shared}{h':Heap}
theorem Cx.Ok.nofr(ok:X.Ok){b:Addr}{o:Obj}(e:X.base.get? b=some o):b∉X.fs:=fun hb=> by
 have:=(ok.funs.mem hb).1
 rw[e] at this; cases this
theorem Inv.bs(I:Inv X pins σ H s):∀b o,X.base.get? b=some o->s.heap.get? b=some o/\H b=none:=fun b o e=>
 ⟨I.base.keep b o (I.ok.bs b o e).1 (I.ok.bs b o e).2 (I.ok.nofr e) (I.ok.noex b o e),I.base.free b o (I.ok.bs b o e).1 (I.ok.bs b o e).2 (I.ok.noex b o e)⟩
theorem Inv.bk(I:Inv X pins σ H s):∀b o,X.base.get? b=some o->s.heap.get? b=some o:=fun b o e=> (I.bs b o e).1
theorem Inv.mod(I:Inv X pins σ H s):Mod X.K X.mg X.base:=I.ok.mod
theorem Inv.kIn(I:Inv X pins σ H s):X.K.In s.heap:=I.ok.mod.kin.keeps I.bk
theorem Inv.lt(I:Inv X pins σ H s):X.env.locals < s.heap.objs.size:=let ⟨_,hn,_⟩:=I.loc; hn.lt
theorem Inv.sz(I:Inv X pins σ H s):X.s_0.heap.objs.size<=s.heap.objs.size:=Nat.le_trans I.ok.above (Nat.le_of_lt I.lt)
theorem Inv.nofs(I:Inv X pins σ H s){a:Addr}(h:s.heap.objs.size<=a):a∉X.fs:=fun hb=> by
 obtain⟨_,o,ho,_⟩:=I.ok.funs.mem hb
 exact absurd (Nat.lt_of_lt_of_le (Heap.lt_size ho) (Nat.le_trans I.sz h)) (Nat.lt_irrefl _)
theorem Inv.cne(I:Inv X pins σ H s):∀x c,X.env.cells.lookup x=some c->c≠X.env.locals:=fun x c e z=> by
 obtain⟨v,o,ho,hd⟩:=I.cell x c e
 obtain⟨m,⟨o',es,ep,ho',hd',_⟩,_⟩:=I.loc
 rw[z,ho'] at ho; cases ho; rw[hd'] at hd; cases hd
theorem Inv.funs(I:Inv X pins σ H s):s.heap.FunFrames X.base X.outer:=by
 have all:∀(l:List Env),(∀b∈frs l,b∈X.fs)->X.s_0.heap.FunFrames X.base l->s.heap.FunFrames X.base l:=by
  intro l
  induction l with
  | nil=> intro _ _; trivial
  | cons env r ih=>
   intro hs hl
   obtain⟨hk,⟨L,o,hf,hn,ho,hd⟩,hr⟩:=hl
   have hL:L∈X.fs:=hs L (by unfold frs; rw[List.filterMap_cons,hf]; exact List.mem_cons_self)
   obtain⟨sl,e⟩:=I.base.slot L o ho (I.ok.frf L hL) hL fun z=> I.ok.exfs L z hL
   exact⟨hk,⟨L,_,hf,hn,e,hd⟩,ih (fun b hb=> hs b (by unfold frs; rw[List.filterMap_cons,hf]; exact List.mem_cons_of_mem _ hb)) hr⟩
 exact all X.outer (fun _ hb=> hb) I.ok.funs
theorem Inv.stack(I:Inv X pins σ H s):s.heap.FunFrames X.base X.stack:=by
 rcases I.ok.stk with e |⟨e,hf⟩
 .rw[e]; exact I.funs
 .rw[e]
  obtain⟨m,hn,_⟩:=I.loc
  refine .cons (by rw[I.ok.kind]; decide) hf hn ?_ I.funs
  exact Heap.get?_none_of_le (Nat.le_trans I.ok.bsz I.ok.above)
theorem Inv.stkSub(I:Inv X pins σ H s):∀b∈frs X.stack,b∈X.env.locals::X.fs:=fun b hb=> by
 rcases I.ok.stk with e |⟨e,hf⟩
 .rw[e] at hb; exact List.mem_cons_of_mem _ hb
 .rw[e] at hb
  unfold frs at hb
  rw[List.filterMap_cons,hf] at hb
  exact hb
theorem Inv.stkFree(I:Inv X pins σ H s):∀b∈frs X.stack,H b=none:=fun b hb=> by
 rcases List.mem_cons.mp (I.stkSub b hb) with e | hb
 .rw[e]; exact I.free
 .obtain⟨_,o,ho,_⟩:=I.ok.funs.mem hb
  exact I.base.free b o ho (I.ok.frf b hb) fun z=> I.ok.exfs b z hb
theorem Inv.step{g':Array GenState}{t':Nat}{d':Drawn}{ch:List Addr}(I:Inv X pins σ H s)
  (hch:∀b∈ch,(b∈X.ex\/X.s_0.heap.objs.size<=b)/\b≠X.env.locals/\(∀x c,X.env.cells.lookup x=some c->c≠b)/\∀p∈X.pn ++ pins,p.1≠b)
  (keep:∀b o,b≠X.env.locals->b∉X.fs->b∉ch->s.heap.get? b=some o->H b=none->h'.get? b=some o)
  (slot:∀b o,b≠X.env.locals->b∈X.fs->b∉ch->s.heap.get? b=some o->H b=none->∃sl,h'.get? b=some {o with slots:=sl}) (free:∀b o,b∉ch->s.heap.get? b=some o->H b=none->H' b=none)
  (there:∀b o,b∉ch->s.heap.get? b=some o->∃o',h'.get? b=some o')
  (tups:∀b xs,H b=some (.tup xs)->H' b=some (.tup xs)) (frzs:∀b o u,H b=some (.frz o u)->H' b=some (.frz o u)) (tbls:∀b ps,H b=some (.tbl ps)->∃more,H' b=some (.tbl (ps ++ more)))
  (ns:∀m,s.heap.Ns X.env.locals m->h'.Ns X.env.locals m) (hok:HOk X.prog X.w H' h') (hg:AllBare g'):
  Inv X pins σ H' {s with heap:=h',gens:=g',drawn:=d',toks:=t'}:=by
 have neL:∀b o,X.s_0.heap.get? b=some o->b≠X.env.locals:=fun b o e=> Nat.ne_of_lt (Nat.lt_of_lt_of_le (Heap.lt_size e) I.ok.above)
 have neC:∀b o,X.s_0.heap.get? b=some o->b∉X.ex->b∉ch:=fun b o e hx hb=> by
  rcases (hch b hb).1 with z | z
  .exact hx z
  .exact absurd (Nat.lt_of_lt_of_le (Heap.lt_size e) z) (Nat.lt_irrefl _)
 have cellK:∀x c,X.env.cells.lookup x=some c->∀v,s.heap.IsCell c v->h'.IsCell c v:=fun x c e v ⟨o,ho,hd⟩=> by
  have nch:c∉ch:=fun z=> (hch c z).2.2.1 x c e rfl
  by_cases hc:c∈X.fs
  .obtain⟨sl,q⟩:=slot c o (I.cne x c e) hc nch ho (I.freeC x c e)
   exact⟨_,q,hd⟩
  .exact⟨o,keep c o (I.cne x c e) hc nch ho (I.freeC x c e),hd⟩
 refine⟨I.ok,I.os,hg,⟨fun b o e n hb hx=> ?_,fun b o e n hb hx=> ?_,fun b o e n hx=> ?_,fun b o e hx=> ?_,fun b xs e=> tups b xs (I.base.tups b xs e),fun b o xs e=> frzs b o xs (I.base.frzs b o xs e),fun b ps e=> ?_⟩,?_,fun x c e=> ?_,?_,fun x c e=> ?_,fun p hp=> ?_,hok,I.len⟩
 .exact keep b o (neL b o e) hb (neC b o e hx) (I.base.keep b o e n hb hx) (I.base.free b o e n hx)
 .obtain⟨sl,e1⟩:=I.base.slot b o e n hb hx
  obtain⟨sl',e2⟩:=slot b _ (neL b o e) hb (neC b o e hx) e1 (I.base.free b o e n hx)
  exact⟨sl',e2⟩
 .obtain⟨o',e1⟩:=I.base.there b o e hx
  exact free b o' (neC b o e hx) e1 (I.base.free b o e n hx)
 .obtain⟨o',e1⟩:=I.base.there b o e hx
  exact there b o' (neC b o e hx) e1
 .obtain⟨m1,e1⟩:=I.base.tbls b ps e
  obtain⟨m2,e2⟩:=tbls b _ e1
  exact⟨m1 ++ m2,by rw[e2,Array.append_assoc]⟩
 .obtain⟨m,hn,hl⟩:=I.loc
  refine⟨m,ns m hn,fun i x v e1 e2 e3=> ?_⟩
  obtain⟨u,r,l⟩:=hl i x v e1 e2 e3
  refine⟨u,r,?_⟩
  rcases l with l |⟨k,c,e,z⟩
  .exact .inl l
  .exact .inr ⟨k,c,e,cellK x c e _ z⟩
 .obtain⟨v,z⟩:=I.cell x c e
  exact⟨v,cellK x c e v z⟩
 .obtain⟨m,⟨o,_,_,ho,_⟩,_⟩:=I.loc
  exact free _ o (fun z=> (hch _ z).2.1 rfl) ho I.free
 .obtain⟨v,o,ho,hd⟩:=I.cell x c e
  exact free c o (fun z=> (hch c z).2.2.1 x c e rfl) ho (I.freeC x c e)
 .obtain⟨e,n,ne,nf,d⟩:=I.pin p hp
  have nch:p.1∉ch:=fun z=> (hch p.1 z).2.2.2 p hp rfl
  exact⟨keep p.1 p.2 ne nf nch e n,free p.1 p.2 nch e n,ne,nf,d⟩
theorem Inv.un{t':Nat}(I:Inv X pins σ H s)(u:Un X.fs [] H H' s.heap h')(hok:HOk X.prog X.w H' h'):Inv X pins σ H' {s with heap:=h',toks:=t'}:=by
 obtain⟨m,⟨o,es,ep,ho,r⟩,_⟩:=id I.loc
 obtain⟨sl,hL⟩:=u.any ho I.free (by simp)
 exact I.step (g':=s.gens) (d':=s.drawn) (ch:=[]) (fun _ z=> nomatch z) (fun b o _ hb _ e n=> u.keep b o e n hb (by simp)) (fun b o _ hb _ e n=> u.slot b o e n hb (by simp)) (fun b o _ e n=> u.free b o e n (by simp)) (fun b o _ e=> u.there b o e (by simp)) u.tups u.frzs u.tbls (fun m' hm=> by
  obtain⟨o',es',ep',ho',r'⟩:=hm
  rw[ho] at ho'; cases ho'
  exact⟨_,es',ep',hL,r'⟩) hok I.bare
theorem Inv.call{g':Array GenState}{t':Nat}{d':Drawn}{ch:List Addr}(I:Inv X pins σ H s)(u:Un (frs X.stack) ch H H' s.heap h')(hok:HOk X.prog X.w H' h')(hg:AllBare g')
  (hch:∀b∈ch,(b∈X.ex\/X.s_0.heap.objs.size<=b)/\b≠X.env.locals/\(∀x c,X.env.cells.lookup x=some c->c≠b)/\∀p∈X.pn ++ pins,p.1≠b):
  Inv X pins σ H' {s with heap:=h',gens:=g',drawn:=d',toks:=t'}:=by
 obtain⟨m,⟨o,es,ep,ho,r⟩,_⟩:=id I.loc
 obtain⟨sl,hL⟩:=u.any ho I.free fun z=> (hch _ z).2.1 rfl
 exact I.step (ch:=ch) hch (fun b o hL hb hc e n=> u.keep b o e n (fun z=> (List.mem_cons.mp (I.stkSub b z)).elim hL hb) hc) (fun b o _ _ hc e n=> u.any e n hc) (fun b o hc e n=> u.free b o e n hc) (fun b o hc e=> u.there b o e hc) u.tups u.frzs u.tbls (fun m' hm=> by
  obtain⟨o',es',ep',ho',r'⟩:=hm
  rw[ho] at ho'; cases ho'
  exact⟨_,es',ep',hL,r'⟩) hok hg
theorem Inv.turned{t':Nat}{it:Addr}(I:Inv X pins σ H s)(k:∀b o,b≠it->s.heap.get? b=some o->h'.get? b=some o)(hn:H it=none)(hL:it≠X.env.locals)
  (h1:it∈X.ex\/X.s_0.heap.objs.size<=it) (h2:∀x c,X.env.cells.lookup x=some c->c≠it) (h3:∀p∈X.pn ++ pins,p.1≠it):Inv X pins σ H {s with heap:=h',toks:=t'}:=by
 have nit:∀b u,H b=some u->b≠it:=fun b u e z=> by rw[z,hn] at e; cases e
 refine I.step (g':=s.gens) (d':=s.drawn) (ch:=[it]) (fun b hb=> ?_) (fun b o _ _ hc e _=> k b o (fun z=> hc (by simp[z])) e) (fun b o _ _ hc e _=> ⟨o.slots,k b o (fun z=> hc (by simp[z])) e⟩) (fun _ _ _ _ n=> n)
  (fun b o hc e=> ⟨o,k b o (fun z=> hc (by simp[z])) e⟩) (fun _ _ e=> e) (fun _ _ _ e=> e) (fun b ps e=> ⟨#[],by rw[e]; simp⟩) (fun m hm=> ?_) (fun b u e=> ?_) I.bare
 .have e:b=it:=by simpa using hb
  subst e
  exact⟨h1,hL,h2,h3⟩
 .obtain⟨o,es,ep,ho,r⟩:=hm
  exact⟨o,es,ep,k _ o (Ne.symm hL) ho,r⟩
 .refine (I.hok b u e).stay (fun c v hc q=> k c v ?_ q) (fun _ q=> q) fun _ _ q=> q
  rcases hc with z | z
  .rw[z]; exact nit b u e
  .exact nit c _ z
theorem Inv.tok(I:Inv X pins σ H s)(t:Nat):Inv X pins σ H {s with toks:=t}:=I.un (h':=s.heap) (t':=t) Un.refl I.hok
theorem Inv.kept{t':Nat}(I:Inv X pins σ H s)(k:∀b u,s.heap.get? b=some u->h'.get? b=some u):Inv X pins σ H {s with heap:=h',toks:=t'}:=I.un (Un.kept k) (I.hok.kept k)
theorem Inv.laid{a:Addr}{o:HO}{t':Nat}(I:Inv X pins σ H s)(k:∀b u,s.heap.get? b=some u->h'.get? b=some u)(hp:s.heap.objs.size<=a)(new:ObjOk X.prog X.w (upd H a o) h' a o):
  Inv X pins σ (upd H a o) {s with heap:=h',toks:=t'}:=I.un (Un.laid k hp (I.hok.fresh hp)) (I.hok.laid k hp new)
theorem Inv.write{x e:Addr}{o:HO}{t':Nat}(I:Inv X pins σ H s)(mu:Mut (H x))(he:e=x\/H e=some (.own x))(k:∀b u,b≠e->s.heap.get? b=some u->h'.get? b=some u)(heo:∃u,h'.get? e=some u)
  (new:ObjOk X.prog X.w (upd H x o) h' x o):Inv X pins σ (upd H x o) {s with heap:=h',toks:=t'}:=I.un (Un.write mu he k heo) (I.hok.write mu he k heo new)
theorem Inv.weak{σ':List (Option V)}(I:Inv X pins σ H s)(hl:σ'.length=σ.length)(w:∀(i:Nat) v,σ'[i]? =some (some v)->σ[i]? =some (some v)):Inv X pins σ' H s:=
 ⟨I.ok,I.os,I.bare,I.base,let ⟨m,hn,hl'⟩:=I.loc;⟨m,hn,fun i x v e1 e2 e3=> hl' i x v e1 (w i v e2) e3⟩,I.cell,I.free,I.freeC,I.pin,I.hok,hl.trans I.len⟩
theorem Inv.pins_of{pins':List (Addr×Obj)}(I:Inv X pins σ H s)(h:∀p∈pins',s.heap.get? p.1=some p.2/\H p.1=none/\p.1≠X.env.locals/\p.1∉X.fs/\∀v,p.2.data≠ .cell v):Inv X pins' σ H s:=
 ⟨I.ok,I.os,I.bare,I.base,I.loc,I.cell,I.free,I.freeC,fun p hp=> (List.mem_append.mp hp).elim (fun z=> I.pin p (List.mem_append_left _ z)) (h p),I.hok,I.len⟩
theorem zkv{N:List Str}(hN:N.Nodup){i j:Nat}{x:Str}(a:N[i]? =some x)(b:N[j]? =some x):i=j:=by
 obtain⟨h1,e1⟩:=List.getElem?_eq_some_iff.mp a
 obtain⟨h2,e2⟩:=List.getElem?_eq_some_iff.mp b
 exact (List.getElem_inj hN).mp (e1.trans e2.symm)
theorem zoC{M:Model}{A:Around}{E:Value->Shared->Prop}{i:Nat}{x:Str}{v:V}{u:Value}{Q:Unit->Shared->Prop}(I:Inv X pins σ H s)(hN:X.N.Nodup)(hi:X.N[i]? =some x)(hx:Loc X.env.scope x)(r:RelV v u)
  (h:∀s',Inv X pins (σ.set i (some v)) H s'->(∃a,Heap.SameBut a s.heap s'.heap/\(a=X.env.locals\/X.env.cells.lookup x=some a))->Q () s') (hf:X.fn x=true\/X.env.scope.names.lookup x=some .local:=by first | exact .inl rfl | exact .inr rfl | assumption):wpAny M A (storeName X.env x u) Q E s:=by
 obtain⟨m,hn,hl⟩:=id I.loc
 have hcls:(X.env.scope.kind== .class ||(X.env.scope.kind== .module && X.env.locals !=X.env.globals))=false:=by rw[I.ok.kind]; rfl
 have hiσ:i < σ.length:=by rw[I.len]; exact (List.getElem?_eq_some_iff.mp hi).1
 have cne:=I.cne
 have tracked:∀{a:Addr} {h':Heap},(∃o,s.heap.get? a=some o/\H a=none)->Heap.SameBut a s.heap h'->HOk X.prog X.w H h':=fun {a h'} ha hs b ob e=> by
  obtain⟨_,_,hfree⟩:=ha
  refine (I.hok b ob e).stay (fun c w' hc q=> (hs.2 c ?_).trans q) (fun _ q=> q) fun _ _ q=> q
  rintro rfl
  rcases hc with rfl | hc
  .rw[hfree] at e; cases e
  .rw[hfree] at hc; cases hc
 rcases hx with hk | hk
 .refine wpAny_storeName_local hk hn (fun h' hn' hs=> ?_) hcls
  obtain⟨oL,_,_,hoL,_⟩:=id hn
  refine h _ ⟨I.ok,I.os,I.bare,⟨fun b o e n hb hx=> ?_,fun b o e n hb hx=> ?_,I.base.free,fun b o e hx=> ?_,I.base.tups,I.base.frzs,I.base.tbls⟩,⟨_,hn',fun j y v' e1 e2 e3=> ?_⟩,fun y c e=> ?_,I.free,I.freeC,fun p hp=> ?_,tracked ⟨oL,hoL,I.free⟩ hs,by simpa using I.len⟩ ⟨_,hs,.inl rfl⟩
  .exact (hs.2 b (Nat.ne_of_lt (Nat.lt_of_lt_of_le (Heap.lt_size e) I.ok.above))).trans (I.base.keep b o e n hb hx)
  .obtain⟨sl,e1⟩:=I.base.slot b o e n hb hx
   exact⟨sl,(hs.2 b (Nat.ne_of_lt (Nat.lt_of_lt_of_le (Heap.lt_size e) I.ok.above))).trans e1⟩
  .obtain⟨o',e1⟩:=I.base.there b o e hx
   exact⟨o',(hs.2 b (Nat.ne_of_lt (Nat.lt_of_lt_of_le (Heap.lt_size e) I.ok.above))).trans e1⟩
  .by_cases hj:j=i
   .subst hj
    rw[hi] at e1; cases e1
    rw[List.getElem?_set_self hiσ] at e2
    cases e2
    exact⟨u,r,.inl ⟨hk,by simp⟩⟩
   .rw[List.getElem?_set_ne (Ne.symm hj)] at e2
    obtain⟨u',r',q⟩:=hl j y v' e1 e2 e3
    refine⟨u',r',?_⟩
    rcases q with⟨k,e⟩ |⟨k,c,e,z⟩
    .refine .inl ⟨k,?_⟩
     have:y≠x:=fun e=> hj (zkv hN e1 (e ▸ hi))
     simp[this,e]
    .exact .inr ⟨k,c,e,z.sameBut hs (cne y c e)⟩
  .obtain⟨w',z⟩:=I.cell y c e
   exact⟨w',z.sameBut hs (cne y c e)⟩
  .obtain⟨e,n,ne,nf,d⟩:=I.pin p hp
   exact⟨(hs.2 p.1 ne).trans e,n,ne,nf,d⟩
 .have hfn:X.fn x=true:=by
   rcases hf with z | z
   .exact z
   .rw[z] at hk; cases hk
  obtain⟨c,hc⟩:=I.ok.has x (.inl hk)
  obtain⟨w',z⟩:=I.cell x c hc
  refine wpAny_storeName_cell I.ok.kind hk hc z (fun h' hc' hs=> ?_)
  obtain⟨oc,hoc,hocd⟩:=id z
  refine h {s with heap:=h'} ⟨I.ok,I.os,I.bare,⟨fun b o e n hb hx=> ?_,fun b o e n hb hx=> ?_,I.base.free,fun b o e hx=> ?_,I.base.tups,I.base.frzs,I.base.tbls⟩,⟨m,hn.sameBut hs (Ne.symm (cne x c hc)),fun j y v' e1 e2 e3=> ?_⟩,fun y c' e=> ?_,I.free,I.freeC,fun p hp=> ?_,tracked ⟨oc,hoc,I.freeC x c hc⟩ hs,by simpa using I.len⟩ ⟨c,hs,.inr hc⟩
  .exact (hs.2 b (Nat.ne_of_lt (Nat.lt_of_lt_of_le (Heap.lt_size e) (I.ok.cab x c hfn hc)))).trans (I.base.keep b o e n hb hx)
  .obtain⟨sl,e1⟩:=I.base.slot b o e n hb hx
   exact⟨sl,(hs.2 b (Nat.ne_of_lt (Nat.lt_of_lt_of_le (Heap.lt_size e) (I.ok.cab x c hfn hc)))).trans e1⟩
  .obtain⟨o',e1⟩:=I.base.there b o e hx
   exact⟨o',(hs.2 b (Nat.ne_of_lt (Nat.lt_of_lt_of_le (Heap.lt_size e) (I.ok.cab x c hfn hc)))).trans e1⟩
  .by_cases hj:j=i
   .subst hj
    rw[hi] at e1; cases e1
    rw[List.getElem?_set_self hiσ] at e2
    cases e2
    exact⟨u,r,.inr ⟨.inl hk,c,hc,hc'⟩⟩
   .rw[List.getElem?_set_ne (Ne.symm hj)] at e2
    obtain⟨u',r',q⟩:=hl j y v' e1 e2 e3
    refine⟨u',r',?_⟩
    rcases q with q |⟨k,c',e,z'⟩
    .exact .inl q
    .refine .inr ⟨k,c',e,z'.sameBut hs ?_⟩
     rintro rfl
     exact hj (zkv hN e1 (I.ok.inj _ _ _ e hc ▸ hi))
  .by_cases hcc:c'=c
   .subst hcc; exact⟨_,hc'⟩
   .obtain⟨w2,z2⟩:=I.cell y c' e
    exact⟨w2,z2.sameBut hs hcc⟩
  .obtain⟨e,n,ne,nf,d⟩:=I.pin p hp
   refine⟨(hs.2 p.1 ?_).trans e,n,ne,nf,d⟩
   intro q
   rw[q,hoc] at e
   have q':oc=p.2:=Option.some.inj e
   exact d w' (by rw[<- q']; exact hocd)
theorem zki{M:Model}{A:Around}{E:Value->Shared->Prop}{i:Nat}{x:Str}{v:V}{u:Value}{Q:Unit->Shared->Prop}(I:Inv X pins σ H s)(hN:X.N.Nodup)(hi:X.N[i]? =some x)(hx:Loc X.env.scope x)(r:RelV v u)
  (h:∀s',Inv X pins (σ.set i (some v)) H s'->Q () s') (hf:X.fn x=true\/X.env.scope.names.lookup x=some .local:=by first | exact .inl rfl | exact .inr rfl | assumption):wpAny M A (storeName X.env x u) Q E s:=
 zoC I hN hi hx r (fun s' I' _=> h s' I') hf
theorem Inv.call'{s':Shared}{ch:List Addr}(I:Inv X pins σ H s)(ho:s'.os=s.os)(u:Un (frs X.stack) ch H H' s.heap s'.heap)(hok:HOk X.prog X.w H' s'.heap)(hg:AllBare s'.gens)
  (hch:∀b∈ch,(b∈X.ex\/X.s_0.heap.objs.size<=b)/\b≠X.env.locals/\(∀x c,X.env.cells.lookup x=some c->c≠b)/\∀p∈X.pn ++ pins,p.1≠b):Inv X pins σ H' s':=by
 obtain⟨h',g',d',t',o'⟩:=s'
 have e:o'=s.os:=ho
 subst e
 exact I.call (g':=g') (t':=t') (d':=d') u hok hg hch
end
abbrev XK:=Value->Option Addr->Hp->Prop
abbrev St:=List (Option V)
abbrev VK:=V->Hp->Prop
abbrev TE:=St->Hp->VK->Prop
abbrev TT:=St->Hp->(Bool->Hp->Prop)->Prop
abbrev TA:=St->Hp->(List V->Hp->Prop)->Prop
structure Ends where
 nx:St->Hp->Prop
 rt:VK
 bk:St->Hp->Prop:=fun _ _=> False
 ct:St->Hp->Prop:=fun _ _=> False
abbrev TS:=Ends->St->Hp->Prop
def EP(X:Cx)(pins:List (Addr×Obj))(σ:St)(Q:VK)(u:Value)(s':Shared):Prop:=∃v H',Inv X pins σ H' s'/\RelV v u/\Q v H'
def TP(X:Cx)(pins:List (Addr×Obj))(σ:St)(Q:Bool->Hp->Prop)(b:Bool)(s':Shared):Prop:=∃H',Inv X pins σ H' s'/\Q b H'
def AP(X:Cx)(pins:List (Addr×Obj))(σ:St)(Q:List V->Hp->Prop)(us:List Value)(s':Shared):Prop:=∃vs H',Inv X pins σ H' s'/\Vals vs us/\Q vs H'
def SP(X:Cx)(pins:List (Addr×Obj))(D:Ends)(f:Flow)(s':Shared):Prop:=
 match f with
 | .next=>∃σ' H',Inv X pins σ' H' s'/\D.nx σ' H'
 | .brk=>∃σ' H',Inv X pins σ' H' s'/\D.bk σ' H'
 | .cont=>∃σ' H',Inv X pins σ' H' s'/\D.ct σ' H'
 | .ret u=>∃v σ' H',Inv X pins σ' H' s'/\RelV v u/\D.rt v H'
def PE(X:Cx)(e:Expr)(t:TE):Prop:=
 ∀(pins:List (Addr×Obj)) (s:Shared) (σ:St) (H:Hp) (Q:VK),Inv X pins σ H s->t σ H Q->wpAny (model X.prog X.w) X.A (eval e X.env) (EP X pins σ Q) X.xe s
def PT(X:Cx)(e:Expr)(t:TT):Prop:=
 ∀(pins:List (Addr×Obj)) (s:Shared) (σ:St) (H:Hp) (Q:Bool->Hp->Prop),Inv X pins σ H s->t σ H Q->wpAny (model X.prog X.w) X.A (isTrue e X.env (eval e X.env)) (TP X pins σ Q) X.xe s
def PW(X:Cx)(e:Expr)(t:TT):Prop:=
 ∀(whole:Sem Value) (pins:List (Addr×Obj)) (s:Shared) (σ:St) (H:Hp) (Q:Bool->Hp->Prop),Inv X pins σ H s->t σ H Q->wpAny (model X.prog X.w) X.A (isTrue e X.env whole) (TP X pins σ Q) X.xe s
theorem PW.pt{X:Cx}{e:Expr}{t:TT}(h:PW X e t):PT X e t:=h _
def PA(X:Cx)(es:List Expr)(t:TA):Prop:=
 ∀(pos:Pos) (pins:List (Addr×Obj)) (s:Shared) (σ:St) (H:Hp) (Q:List V->Hp->Prop),Inv X pins σ H s->t σ H Q->wpAny (model X.prog X.w) X.A (spliced (backTo pos (starEach es X.env))) (AP X pins σ Q) X.xe s
def PS(X:Cx)(st:Stmt)(t:TS):Prop:=
 ∀(pins:List (Addr×Obj)) (s:Shared) (σ:St) (H:Hp) (D:Ends),Inv X pins σ H s->t D σ H->wpAny (model X.prog X.w) X.A (exec st X.env) (SP X pins D) X.xe s
def PSs(X:Cx)(st:List Stmt)(t:TS):Prop:=
 ∀(pins:List (Addr×Obj)) (s:Shared) (σ:St) (H:Hp) (D:Ends),Inv X pins σ H s->t D σ H->wpAny (model X.prog X.w) X.A (execs st X.env) (SP X pins D) X.xe s
theorem thn{α:Type}{t:Sem α}{Q Q':α->Shared->Prop}{M:Model}{A:Around}{E:Value->Shared->Prop}{s:Shared}(h:wpAny M A t Q E s)(hQ:∀a s,Q a s->Q' a s):wpAny M A t Q' E s:=wpAny_mono h hQ fun _ _ x=> x
end L2
namespace L2
open PySem PySem.Spec PyProof.Rows
section
variable {X:Cx}
def zyH(i:Nat):TE:=fun σ H Q=>∃v,σ[i]? =some (some v)/\Q v H
def tC(v:V):TE:=fun _ H Q=> Q v H
theorem zvu{i:Nat}{x:Str}{pos:Pos}(hN:X.N[i]? =some x)(hv:Vis X.env.scope x)(hd:(x==("__debug__":Str))=false:=by decide)(hcd:(x==("__classdict__":Str))=false:=by decide):PE X (.Name x pos) (zyH i):=by
 intro pins s σ H Q I h
 obtain⟨v,e,h⟩:=h
 obtain⟨m,hn,hl⟩:=I.loc
 obtain⟨u,r,l⟩:=hl i x v hN e hv
 have fin:EP X pins σ Q u s:=⟨v,H,I,r,h⟩
 rcases l with⟨hk,hm⟩ |⟨hk,c,hc,hcell⟩
 .exact wpAny_Name (wpAny_loadName_local I.ok.kind hk hn hm fin) hd
 .rcases hk with hk | hk
  .exact wpAny_Name (wpAny_loadName_cell I.ok.kind hk hc hcell fin) hd
  .exact wpAny_Name (wpAny_loadName_free I.ok.kind hk hc hcell fin hcd) hd
theorem zf1{i j pos}:PE X (.Constant (.int i) j pos) (tC (.int i)):=fun _ _ _ H _ I h=> wpAny_Constant_int ⟨.int i,H,I.tok _,⟨_,rfl⟩,h⟩
theorem zx5{b j pos}:PE X (.Constant (.bool b) j pos) (tC (.bl b)):=fun _ _ _ H _ I h=> Constant_bool ⟨.bl b,H,I,rfl,h⟩
theorem zr9{j pos}:PE X (.Constant .none j pos) (tC .non):=fun _ _ _ H _ I h=> Constant_none ⟨.non,H,I,rfl,h⟩
def Gl(X:Cx)(x:Str):Prop:=X.env.kindOf x=some .globalImplicit
theorem zkz{E:Value->Shared->Prop}{pins:List (Addr×Obj)}{s:Shared}{σ:St}{H:Hp}{x:Str}{u:Value}{pos:Pos}{Q:Value->Shared->Prop}(I:Inv X pins σ H s)(hg:Gl X x)(hm:X.mg x=some u)(h:Q u s)
  (hd:(x==("__debug__":Str))=false:=by decide):wpAny (model X.prog X.w) X.A (eval (.Name x pos) X.env) Q E s:=
 Calls.Name_function_global I.ok.kind hg (Calls.loadGlobal_global (by rw[I.ok.glob]; exact I.mod.glob.keeps I.bk) hm h) hd
theorem zm6{E:Value->Shared->Prop}{pins:List (Addr×Obj)}{s:Shared}{σ:St}{H:Hp}{x:Str}{u:Value}{pos:Pos}{Q:Value->Shared->Prop}(I:Inv X pins σ H s)(hg:Gl X x)(hm:X.mg x=none)(hv:bootBuiltins x=some u)(h:Q u s)
  (hn:x≠"__name__":=by decide) (hd:(x==("__debug__":Str))=false:=by decide):wpAny (model X.prog X.w) X.A (eval (.Name x pos) X.env) Q E s:=by
 obtain⟨mb,h1,h2⟩:=I.mod.blt
 exact Calls.Name_function_global I.ok.kind hg (Calls.loadGlobal_builtin (by rw[I.ok.glob]; exact I.mod.glob.keeps I.bk) hm (by rw[I.ok.blt]; exact h1.keeps I.bk) ((h2 x hn).trans hv) h) hd
theorem zo0{x:Str}{v:V}{u:Value}{pos:Pos}(hg:Gl X x)(hm:X.mg x=some u)(r:RelV v u)(hd:(x==("__debug__":Str))=false:=by decide):PE X (.Name x pos) (tC v):=
 fun _ _ _ H _ I h=> zkz I hg hm ⟨v,H,I,r,h⟩ hd
variable {a b:Expr}{ta tb:TE}{pos:Pos}
def PC(X:Cx)(op:CmpOp)(a b:Expr)(t:TE):Prop:=
 ∀(pins:List (Addr×Obj)) (s:Shared) (σ:St) (H:Hp) (Q:VK),Inv X pins σ H s->t σ H Q->
  wpAny (model X.prog X.w) X.A (eval a X.env) (fun v s₁=> wpAny (model X.prog X.w) X.A (eval b X.env) (fun u s₂=> wpAny (model X.prog X.w) X.A (compareOp op v u) (EP X pins σ Q) X.xe s₂) X.xe s₁) X.xe s
theorem zkw(b:Expr){op:CmpOp}(h:op≠ .In)(h2:op≠ .NotIn):behindInMarks op b=false:=by
 have e1:(op==CmpOp.In)=false:=by cases op <;> first | rfl | exact absurd rfl h
 have e2:(op==CmpOp.NotIn)=false:=by cases op <;> first | rfl | exact absurd rfl h2
 cases b <;> simp[behindInMarks,e1,e2]
def zmI(ta:TE):TE:=fun σ H Q=> ta σ H fun x H1=> Q (.bl (decide (x= .non))) H1
theorem RelV.none_iff{x:V}{v:Value}(r:RelV x v):(v==Value.none)=decide (x= .non):=by
 cases x with
 | non=> cases r; rfl
 | bl _=> cases r; rfl
 | int _=> obtain⟨t,rfl⟩:=r; rfl
 | str _=> obtain⟨t,rfl⟩:=r; rfl
 | byt _=> obtain⟨t,rfl⟩:=r; rfl
 | flt _=> obtain⟨t,rfl⟩:=r; rfl
 | ref _=> cases r; rfl
 | ty _=> cases r; rfl
theorem zvH{j pos'}(ha:PE X a ta):PC X .Is a (.Constant .none j pos') (zmI ta):=by
 intro pins s σ H Q I h
 refine thn (ha pins s σ H _ I h) fun v s1 zz=> ?_
 obtain⟨x,H1,I1,r1,q1⟩:=zz
 exact Constant_none (is_none_gen ⟨.bl _,H1,I1,by rw[r1.none_iff]; rfl,q1⟩)
def tB(t:TE):TT:=fun σ H Q=> t σ H fun x H1=>∃c,x= .bl c/\Q c H1
theorem zsa{op:CmpOp}{t:TE}(h:PC X op a b t)(h1:behindInMarks op b=false:=by first | exact zkw _ (by decide) (by decide) | rfl):PE X (.Compare a [op] [b] pos) t:=fun pins s σ H Q I hw=> wpAny_Compare1 (h pins s σ H Q I hw) h1
theorem zmW{op:CmpOp}{t:TE}(h:PC X op a b t)(h1:behindInMarks op b=false:=by first | exact zkw _ (by decide) (by decide) | rfl):PT X (.Compare a [op] [b] pos) (tB t):=by
 intro pins s σ H Q I hw
 refine wpAny_isTrue_Compare1 (thn (h pins s σ H _ I hw) fun v s1 h1=> thn h1 fun u s2 h2=> thn h2 fun c s3 zz=> ?_) h1
 obtain⟨x,H1,I1,r1,q1⟩:=zz
 obtain⟨d,rfl,q⟩:=q1
 cases r1
 exact wpAny_truthy_bool ⟨H1,I1,q⟩
theorem zvj{e:Expr}{t:TE}(h:PE X e t)(he:∀whole,isTrue e X.env whole=(do let v <- whole; standAt e.pos; holding [v] (truthy v)):=by intro _; rfl):PT X e (tB t):=by
 intro pins s σ H Q I hw
 refine isTrue_plain (thn (h pins s σ H _ I hw) fun v s1 zz=> ?_) (he _)
 obtain⟨x,H1,I1,r1,q1⟩:=zz
 obtain⟨d,rfl,q⟩:=q1
 cases r1
 exact wpAny_truthy_bool ⟨H1,I1,q⟩
variable {tA tB':TT}{rest:List Expr}
def ziy(t u:TT):TT:=fun σ H Q=> t σ H fun c H1=> if c=true then u σ H1 Q else Q false H1
def tOr(t u:TT):TT:=fun σ H Q=> t σ H fun c H1=> if c=true then Q true H1 else u σ H1 Q
def zkR(t:TT):TT:=fun σ H Q=> t σ H fun c H1=> Q (!c) H1
theorem zs5(ha:PT X a tA):PW X (.BoolOp .And [a] pos) tA:=by
 intro wh pins s σ H Q I h
 refine isTrue_and (thn (ha pins s σ H Q I h) fun c s1 e=> ?_)
 cases c with
 | true=> exact isTrue_and_nil e
 | false=> exact e
theorem zvg(ha:PT X a tA):PW X (.BoolOp .Or [a] pos) tA:=by
 intro wh pins s σ H Q I h
 refine isTrue_or (thn (ha pins s σ H Q I h) fun c s1 e=> ?_)
 cases c with
 | false=> exact isTrue_or_nil e
 | true=> exact e
theorem zvh(ha:PT X a tA)(hb:PW X (.BoolOp .And (b::rest) pos) tB'):PW X (.BoolOp .And (a::b::rest) pos) (ziy tA tB'):=by
 intro wh pins s σ H Q I h
 refine isTrue_and (thn (ha pins s σ H _ I h) fun c s1 zz=> ?_)
 obtain⟨H1,I1,q1⟩:=zz
 cases c with
 | true=> exact hb wh pins s1 σ H1 Q I1 q1
 | false=> exact⟨H1,I1,q1⟩
theorem zxY(ha:PT X a tA)(hb:PW X (.BoolOp .Or (b::rest) pos) tB'):PW X (.BoolOp .Or (a::b::rest) pos) (tOr tA tB'):=by
 intro wh pins s σ H Q I h
 refine isTrue_or (thn (ha pins s σ H _ I h) fun c s1 zz=> ?_)
 obtain⟨H1,I1,q1⟩:=zz
 cases c with
 | true=> exact⟨H1,I1,q1⟩
 | false=> exact hb wh pins s1 σ H1 Q I1 q1
theorem zvl(ha:PT X a tA):PT X (.UnaryOp .Not a pos) (zkR tA):=by
 intro pins s σ H Q I h
 exact isTrue_not (ha pins s σ H (fun c H1=> Q (!c) H1) I h)
def zxI(ta tb:TE):TE:=fun σ H Q=> ta σ H fun x H1=>∃c,x= .bl c/\if c=true then tb σ H1 Q else Q (.bl false) H1
def zyV(ta tb:TE):TE:=fun σ H Q=> ta σ H fun x H1=>∃c,x= .bl c/\if c=true then Q (.bl true) H1 else tb σ H1 Q
def zxB(ta:TE):TE:=fun σ H Q=> ta σ H fun x H1=>∃c,x= .bl c/\Q (.bl (!c)) H1
theorem zvw{op}{t:TE}(h:PE X a t):PE X (.BoolOp op [a] pos) t:=fun pins s σ H Q I hw=> BoolOp_one (h pins s σ H Q I hw)
theorem zvG(ha:PE X a ta)(hb:PE X (.BoolOp .And (b::rest) pos) tb):PE X (.BoolOp .And (a::b::rest) pos) (zxI ta tb):=by
 intro pins s σ H Q I h
 refine BoolOp_and (thn (ha pins s σ H _ I h) fun v s1 zz=> ?_)
 obtain⟨x,H1,I1,r1,q1⟩:=zz
 obtain⟨c,rfl,q1⟩:=q1
 cases r1
 refine wpAny_truthy_bool ?_
 cases c with
 | true=> exact hb pins s1 σ H1 Q I1 q1
 | false=> exact⟨.bl false,H1,I1,rfl,q1⟩
theorem zx0(ha:PE X a ta)(hb:PE X (.BoolOp .Or (b::rest) pos) tb):PE X (.BoolOp .Or (a::b::rest) pos) (zyV ta tb):=by
 intro pins s σ H Q I h
 refine BoolOp_or (thn (ha pins s σ H _ I h) fun v s1 zz=> ?_)
 obtain⟨x,H1,I1,r1,q1⟩:=zz
 obtain⟨c,rfl,q1⟩:=q1
 cases r1
 refine wpAny_truthy_bool ?_
 cases c with
 | false=> exact hb pins s1 σ H1 Q I1 q1
 | true=> exact⟨.bl true,H1,I1,rfl,q1⟩
theorem zvx(ha:PE X a ta):PE X (.UnaryOp .Not a pos) (zxB ta):=by
 intro pins s σ H Q I h
 refine UnaryOp_ (thn (ha pins s σ H _ I h) fun v s1 zz=> ?_)
 obtain⟨x,H1,I1,r1,q1⟩:=zz
 obtain⟨c,rfl,q1⟩:=q1
 cases r1
 exact not_of (wpAny_truthy_bool ⟨.bl (!c),H1,I1,rfl,q1⟩)
def tIf(t:TT)(ta tb:TE):TE:=fun σ H Q=> t σ H fun c H1=> if c=true then ta σ H1 Q else tb σ H1 Q
theorem zqP{c:Expr}(hc:PT X c tA)(ha:PE X a ta)(hb:PE X b tb):PE X (.IfExp c a b pos) (tIf tA ta tb):=by
 intro pins s σ H Q I h
 refine wpAny_IfExp (thn (hc pins s σ H _ I h) fun d s1 zz=> ?_)
 obtain⟨H1,I1,q1⟩:=zz
 cases d with
 | true=> exact ha pins s1 σ H1 Q I1 q1
 | false=> exact hb pins s1 σ H1 Q I1 q1
end
end L2
namespace L2
open PySem PySem.Spec PyProof.Rows
def SqL(K:PySem.W.Frag)(H:Hp)(a:Addr)(xs:List V):Prop:=
 Rd H a (.lst xs)\/
  ∃(o:Obj) (its:Array Value) (n:Nat),K.lookup a=some o/\o.cls= .type "list"/\o.dict=none/\o.data= .seq its n/\its.size<=sizeLine/\Vals xs its.toList
def SqT(K:PySem.W.Frag)(H:Hp)(a:Addr)(xs:List V):Prop:=
 Rd H a (.tup xs)\/
  ∃(o:Obj) (its:Array Value) (n:Nat),K.lookup a=some o/\o.cls= .type "tuple"/\o.data= .seq its n/\its.size<=sizeLine/\Vals xs its.toList
def zzr:Value->Option V
 | .none=> some .non
 | .bool b=> some (.bl b)
 | .int i _=> some (.int i)
 | .str x _=> some (.str x)
 | .bytes b _=> some (.byt b)
 | .float b _=> some (.flt b)
 | .ref a=> some (.ref a)
 | .type n=> some (.ty n)
 | _=> none
theorem RelV.abs{x:V}{u:Value}(r:RelV x u):zzr u=some x:=by
 cases x with
 | non=> cases r; rfl
 | bl _=> cases r; rfl
 | int _=> obtain⟨t,rfl⟩:=r; rfl
 | str _=> obtain⟨t,rfl⟩:=r; rfl
 | byt _=> obtain⟨t,rfl⟩:=r; rfl
 | flt _=> obtain⟨t,rfl⟩:=r; rfl
 | ref _=> cases r; rfl
 | ty _=> cases r; rfl
theorem RelV.inj{x y:V}{u:Value}(r:RelV x u)(q:RelV y u):x=y:=Option.some.inj (r.abs.symm.trans q.abs)
theorem Vals.inj:∀{xs ys:List V} {us:List Value},Vals xs us->Vals ys us->xs=ys
 | _,_,_,.nil,.nil=> rfl
 | _,_,_,.cons r t,.cons r' t'=> by rw[r.inj r',Vals.inj t t']
section
variable {X:Cx}{pins:List (Addr×Obj)}{σ:St}{H:Hp}{s:Shared}{a:Addr}{xs ys:List V}
theorem SqL.of{K:PySem.W.Frag}(h:H a=some (.lst xs)):SqL K H a xs:= .inl (.inl h)
theorem SqT.of{K:PySem.W.Frag}(h:H a=some (.tup xs)):SqT K H a xs:= .inl (.inl h)
theorem Inv.list(I:Inv X pins σ H s)(h:SqL X.K H a xs):∃its:List Value,Vals xs its/\PlainL s.heap a its.toArray/\xs.length<=sizeLine:=by
 rcases h with h |⟨o,its,n,hk,hc,hd,hs,hz,r⟩
 .obtain⟨z,its,n,r,e⟩:=h.ok I.hok
  exact⟨its,r,⟨_,n,e,rfl,rfl,rfl⟩,z⟩
 .refine⟨its.toList,r,⟨o,n,I.kIn a o hk,hc,hd,by simpa using hs⟩,?_⟩
  have e:=r.length
  simp only[Array.length_toList] at e
  omega
theorem Inv.tuple(I:Inv X pins σ H s)(h:SqT X.K H a xs):∃its:List Value,Vals xs its/\IsTup s.heap a its.toArray/\xs.length<=sizeLine:=by
 rcases h with h |⟨o,its,n,hk,hc,hs,hz,r⟩
 .obtain⟨z,its,r,p⟩:=h.ok I.hok
  exact⟨its,r,p,z⟩
 .refine⟨its.toList,r,⟨o,I.kIn a o hk,hc,n,by simpa using hs⟩,?_⟩
  have e:=r.length
  simp only[Array.length_toList] at e
  omega
theorem Inv.list_inj(I:Inv X pins σ H s)(h:SqL X.K H a xs)(h':SqL X.K H a ys):xs=ys:=by
 obtain⟨its,r,⟨o,n,e,_,_,d⟩,_⟩:=I.list h
 obtain⟨its',r',⟨o',n',e',_,_,d'⟩,_⟩:=I.list h'
 rw[e] at e'; cases e'
 rw[d] at d'
 injection d' with d1 _
 have:its=its':=by simpa using congrArg Array.toList d1
 subst this
 exact r.inj r'
theorem Inv.tuple_inj(I:Inv X pins σ H s)(h:SqT X.K H a xs)(h':SqT X.K H a ys):xs=ys:=by
 obtain⟨its,r,⟨o,e,_,n,d⟩,_⟩:=I.tuple h
 obtain⟨its',r',⟨o',e',_,n',d'⟩,_⟩:=I.tuple h'
 rw[e] at e'; cases e'
 rw[d] at d'
 injection d' with d1 _
 have:its=its':=by simpa using congrArg Array.toList d1
 subst this
 exact r.inj r'
end
abbrev Cx.wish(X:Cx)(E:Value->Shared->Prop):Cx:={X with xe:=E}
abbrev Cx.nox(X:Cx):Cx:=X.wish fun _ _=> False
theorem Cx.Ok.wish{X:Cx}(ok:X.Ok)(E:Value->Shared->Prop):(X.wish E).Ok:=
 ⟨ok.mod,ok.kind,ok.glob,ok.blt,ok.above,ok.inj,ok.has,ok.cab,ok.hd,ok.frames,ok.stk,ok.exf,ok.bs,ok.bsz,ok.noex,ok.exfs,ok.funs,ok.frf⟩
theorem Cx.Ok.unwish{X:Cx}{E:Value->Shared->Prop}(ok:(X.wish E).Ok):X.Ok:=
 ⟨ok.mod,ok.kind,ok.glob,ok.blt,ok.above,ok.inj,ok.has,ok.cab,ok.hd,ok.frames,ok.stk,ok.exf,ok.bs,ok.bsz,ok.noex,ok.exfs,ok.funs,ok.frf⟩
section
variable {X:Cx}{pins:List (Addr×Obj)}{σ:St}{H:Hp}{s:Shared}{E:Value->Shared->Prop}
theorem Inv.wish(I:Inv X pins σ H s)(E:Value->Shared->Prop):Inv (X.wish E) pins σ H s:=⟨I.ok.wish E,I.os,I.bare,I.base,I.loc,I.cell,I.free,I.freeC,I.pin,I.hok,I.len⟩
theorem Inv.unwish(I:Inv (X.wish E) pins σ H s):Inv X pins σ H s:=⟨I.ok.unwish,I.os,I.bare,I.base,I.loc,I.cell,I.free,I.freeC,I.pin,I.hok,I.len⟩
theorem SP.unwish{D:Ends}{f:Flow}{s':Shared}(h:SP (X.wish E) pins D f s'):SP X pins D f s':=by
 cases f with
 | next=> obtain⟨σ',H',I,q⟩:=h; exact⟨σ',H',I.unwish,q⟩
 | brk=> obtain⟨σ',H',I,q⟩:=h; exact⟨σ',H',I.unwish,q⟩
 | cont=> obtain⟨σ',H',I,q⟩:=h; exact⟨σ',H',I.unwish,q⟩
 | ret u=> obtain⟨v,σ',H',I,r,q⟩:=h; exact⟨v,σ',H',I.unwish,r,q⟩
theorem PSs.nox{st:List Stmt}{t:TS}(h:PSs X.nox st t):PSs X st t:=fun pins s σ H D I hw=>
 wpAny_mono (h pins s σ H D (I.wish _) hw) (fun _ _ q=> q.unwish) fun _ _ z=> False.elim z
end
section
variable {X:Cx}{st:Stmt}{rest:List Stmt}{t u:TS}{e:Expr}{te:TE}{pos:Pos}
def zxC:TS:=fun D σ H=> D.nx σ H
def zyT(t u:TS):TS:=fun D σ H=> t {D with nx:=u D} σ H
theorem zoR:PSs X [] zxC:=fun _ _ σ H _ I h=> wpAny_execs_nil ⟨σ,H,I,h⟩
theorem zmX(h1:PS X st t)(h2:PSs X rest u):PSs X (st::rest) (zyT t u):=by
 intro pins s σ H D I h
 refine wpAny_execs_cons (thn (h1 pins s σ H {D with nx:=u D} I h) fun f s1 q=> ?_)
 cases f with
 | next=>
  obtain⟨σ',H',I',q⟩:=q
  exact h2 pins s1 σ' H' D I' q
 | ret v=> exact q
 | brk=> exact q
 | cont=> exact q
theorem zkr(h1:PS X st t):PSs X [st] t:=by
 intro pins s σ H D I h
 refine wpAny_execs_cons (thn (h1 pins s σ H D I h) fun f s1 q=> ?_)
 cases f with
 | next=> exact wpAny_execs_nil q
 | ret v=> exact q
 | brk=> exact q
 | cont=> exact q
theorem Inv.quiet{pins:List (Addr×Obj)}{σ:St}{H:Hp}{s:Shared}(I:Inv X pins σ H s):interactive X.env=false:=by simp[interactive,I.ok.kind]
def zxE(te:TE):TS:=fun D σ H=> te σ H fun _ H1=> D.nx σ H1
theorem zs8(he:PE X e te)(hs:swapsWith e none pos.line X.env=pure false:=by rfl):PS X (.Expr e pos) (zxE te):=by
 intro pins s σ H D I h
 exact wpAny_Expr_any (thn (he pins s σ H _ I h) fun v s1 ⟨x,H1,I1,r1,q1⟩=> ⟨σ,H1,I1,q1⟩) I.quiet hs
def zyU(te:TE):TS:=fun D σ H=> te σ H D.rt
theorem zoS(he:PE X e te):PS X (.Return (some e) pos) (zyU te):=by
 intro pins s σ H D I h
 exact wpAny_Return_some (thn (he pins s σ H _ I h) fun v s1 ⟨x,H1,I1,r1,q1⟩=> ⟨x,σ,H1,I1,r1,q1⟩)
def zxz:TS:=fun D _ H=> D.rt .non H
theorem zs7:PS X (.Return none pos) zxz:=fun _ _ σ H _ I h=> wpAny_Return_none ⟨.non,σ,H,I,rfl,h⟩
def zyY(c:TT)(t u:TS):TS:=fun D σ H=> c σ H fun b H1=> if b=true then t D σ H1 else u D σ H1
theorem zvq{c:Expr}{a b:List Stmt}{tc:TT}(hc:PT X c tc)(ha:PSs X a t)(hb:PSs X b u):PS X (.If c a b pos) (zyY tc t u):=by
 intro pins s σ H D I h
 refine wpAny_If (thn (hc pins s σ H _ I h) fun d s1 zz=> ?_)
 obtain⟨H1,I1,q1⟩:=zz
 cases d with
 | true=> exact ha pins s1 σ H1 D I1 q1
 | false=> exact hb pins s1 σ H1 D I1 q1
end
abbrev TG:=V->St->Hp->(St->Hp->Prop)->Prop
abbrev TGs:=List V->St->Hp->(St->Hp->Prop)->Prop
def PG(X:Cx)(target:Expr)(t:TG):Prop:=
 ∀(pins:List (Addr×Obj)) (s:Shared) (σ:St) (H:Hp) (v:V) (u:Value) (Q:St->Hp->Prop),Inv X pins σ H s->RelV v u->t v σ H Q->
  wpAny (model X.prog X.w) X.A (assign target X.env u) (fun _ s'=>∃σ' H',Inv X pins σ' H' s'/\Q σ' H') X.xe s
def PGs(X:Cx)(ts:List Expr)(t:TGs):Prop:=
 ∀(pins:List (Addr×Obj)) (s:Shared) (σ:St) (H:Hp) (vs:List V) (us:List Value) (Q:St->Hp->Prop),Inv X pins σ H s->Vals vs us->t vs σ H Q->
  wpAny (model X.prog X.w) X.A (assignInOrder ((assignEach ts X.env).map (·.2)) us) (fun _ s'=>∃σ' H',Inv X pins σ' H' s'/\Q σ' H') X.xe s
abbrev zyE:=V->V->V->Hp->(Hp->Prop)->Prop
def zyQ(X:Cx)(t:zyE):Prop:=
 ∀(pins:List (Addr×Obj)) (s:Shared) (σ:St) (H:Hp) (o i v:V) (ov iv u:Value) (Q:Hp->Prop),Inv X pins σ H s->RelV o ov->RelV i iv->RelV v u->t o i v H Q->
  wpAny (model X.prog X.w) X.A (setItem ov iv u) (fun _ s'=>∃H',Inv X pins σ H' s'/\Q H') X.xe s
abbrev TIp:=V->V->Hp->VK->Prop
def PIp(X:Cx)(op:Operator)(t:TIp):Prop:=
 ∀(pins:List (Addr×Obj)) (s:Shared) (σ:St) (H:Hp) (x y:V) (v u:Value) (Q:VK),Inv X pins σ H s->RelV x v->RelV y u->t x y H Q->
  wpAny (model X.prog X.w) X.A (inplaceOp op v u) (EP X pins σ Q) X.xe s
section
variable {X:Cx}{pos:Pos}
def ztE(i:Nat):TG:=fun v σ H Q=> Q (σ.set i (some v)) H
theorem zh2{i:Nat}{x:Str}(hN:X.N.Nodup)(hi:X.N[i]? =some x)(hx:Loc X.env.scope x)(hf:X.fn x=true\/X.env.scope.names.lookup x=some .local:=by first | exact .inl rfl | exact .inr rfl | assumption):PG X (.Name x pos) (ztE i):=by
 intro pins s σ H v u Q I r h
 exact wpAny_assign_Name (zki I hN hi hx r (fun s' I'=> ⟨_,H,I',h⟩) hf)
def zzn:TGs:=fun vs σ H Q=> vs=[]/\Q σ H
def zyf(t:TG)(u:TGs):TGs:=fun vs σ H Q=>∃v r,vs=v::r/\t v σ H fun σ' H'=> u r σ' H' Q
theorem ztc:PGs X [] zzn:=by
 intro pins s σ H vs us Q I r h
 obtain⟨e,h⟩:=h
 subst e
 cases r
 exact assignInOrder_nil ⟨σ,H,I,h⟩
theorem zmZ{e:Expr}{es:List Expr}{t:TG}{u:TGs}(h1:PG X e t)(h2:PGs X es u)
  (hs:(assignEach (e::es) X.env).map (·.2)=assign e X.env::(assignEach es X.env).map (·.2):=by rfl):PGs X (e::es) (zyf t u):=by
 intro pins s σ H vs us Q I r h
 obtain⟨v,vr,e1,h⟩:=h
 subst e1
 cases r with
 | cons r rr=>
  rw[hs]
  refine assignInOrder_cons (thn (h1 pins s σ H _ _ _ I r h) fun _ s1 zz=> ?_)
  obtain⟨σ1,H1,I1,q1⟩:=zz
  exact h2 pins s1 σ1 H1 _ _ Q I1 rr q1
def zzm(K:PySem.W.Frag)(n:Nat)(t:TGs):TG:=fun v σ H Q=>∃a xs,v= .ref a/\SqT K H a xs/\xs.length=n/\t xs σ H Q
theorem zvt{es:List Expr}{k:Nat}{t:TGs}{n:Nat}(hc:X.calm=true)(h:PGs X es t)
  (hn:(assignEach es X.env).length=n:=by rfl) (hst:(assignEach es X.env).findIdx? (·.1)=none:=by rfl):PG X (.Tuple es k pos) (zzm X.K n t):=by
 intro pins s σ H v u Q I r hw
 obtain⟨a,xs,e1,hq,hl,hw⟩:=hw
 subst e1
 cases r
 obtain⟨its,rv,ht,hz⟩:=I.tuple hq
 refine assign_Tuple_tuple (I.ok.hd hc) ht (by simp[hn,<- hl,rv.length]) hst fun h' hx=> ?_
 have I1:Inv X pins σ H {s with heap:=h'}:=I.kept (t':=s.toks) fun b o e=> hx b o (Nat.ne_of_lt (Heap.lt_size e)) e
 exact h pins _ σ H xs _ Q I1 (by simpa using rv) hw
def zy3(te:TE)(g:TG):TS:=fun D σ H=> te σ H fun x H1=> g x σ H1 D.nx
theorem zvp{i:Nat}{x:Str}{e:Expr}{te:TE}{pos':Pos}(hN:X.N.Nodup)(hi:X.N[i]? =some x)(hx:Loc X.env.scope x)(he:PE X e te)(hs:swapsWith e (some (.Name x pos')) pos.line X.env=pure false:=by rfl)(hf:X.fn x=true\/X.env.scope.names.lookup x=some .local:=by first | exact .inl rfl | exact .inr rfl | assumption):
  PS X (.Assign [.Name x pos'] e pos) (zy3 te (ztE i)):=by
 intro pins s σ H D I h
 refine wpAny_Assign_Name (thn (he pins s σ H _ I h) fun v s1 zz=> ?_) hs
 obtain⟨y,H1,I1,r1,q1⟩:=zz
 exact zki I1 hN hi hx r1 (fun s2 I2=> ⟨_,H1,I2,q1⟩) hf
def zy2(i:Nat)(te:TE)(ti:TIp):TS:=fun D σ H=>∃x,σ[i]? =some (some x)/\te σ H fun y H1=> ti x y H1 fun z H2=> D.nx (σ.set i (some z)) H2
theorem zvs{i:Nat}{x:Str}{e:Expr}{te:TE}{op:Operator}{ti:TIp}{pos':Pos}(hN:X.N.Nodup)(hi:X.N[i]? =some x)(hx:Loc X.env.scope x)(he:PE X e te)(ho:PIp X op ti)(hf:X.fn x=true\/X.env.scope.names.lookup x=some .local:=by first | exact .inl rfl | exact .inr rfl | assumption):
  PS X (.AugAssign (.Name x pos') op e pos) (zy2 i te ti):=by
 intro pins s σ H D I h
 obtain⟨v,e1,h⟩:=h
 obtain⟨m,hn,hl⟩:=I.loc
 have vis:Vis X.env.scope x:=by rcases hx with k | k; exact .inl k; exact .inr (.inl k)
 obtain⟨u,r,l⟩:=hl i x v hi e1 vis
 refine wpAny_AugAssign_Name ?_
 have go:wpAny (model X.prog X.w) X.A (eval e X.env) (fun w s₂=> wpAny (model X.prog X.w) X.A (inplaceOp op u w) (fun r s₃=> wpAny (model X.prog X.w) X.A (storeName X.env x r) (fun _=> SP X pins D .next) X.xe s₃) X.xe s₂) X.xe s:=by
  refine thn (he pins s σ H _ I h) fun w s1 zz=> ?_
  obtain⟨y,H1,I1,r1,q1⟩:=zz
  refine thn (ho pins s1 σ H1 v y u w _ I1 r r1 q1) fun z s2 zz=> ?_
  obtain⟨zv,H2,I2,r2,q2⟩:=zz
  exact zki I2 hN hi hx r2 (fun s3 I3=> ⟨_,H2,I3,q2⟩) hf
 rcases l with⟨hk,hm⟩ |⟨hk,c,hc,hcell⟩
 .exact wpAny_loadName_local I.ok.kind hk hn hm go
 .rcases hk with hk | hk
  .exact wpAny_loadName_cell I.ok.kind hk hc hcell go
  .rcases hx with k | k
   .have:X.env.scope.names.lookup x=some .free:=hk
    rw[k] at this; cases this
   .have:X.env.scope.names.lookup x=some .free:=hk
    rw[k] at this; cases this
def zxH(to ti te:TE)(tget:V->V->Hp->VK->Prop)(tip:TIp)(tset:zyE):TS:=fun D σ H=> to σ H fun o H1=> ti σ H1 fun i H2=> tget o i H2 fun x H3=> te σ H3 fun y H4=> tip x y H4 fun z H5=> tset o i z H5 fun H6=> D.nx σ H6
def zyR(X:Cx)(t:V->V->Hp->VK->Prop):Prop:=
 ∀(pins:List (Addr×Obj)) (s:Shared) (σ:St) (H:Hp) (o i:V) (ov iv:Value) (Q:VK),Inv X pins σ H s->RelV o ov->RelV i iv->t o i H Q->
  wpAny (model X.prog X.w) X.A (getItem ov iv) (EP X pins σ Q) X.xe s
theorem zs9{o i e:Expr}{to ti te:TE}{tget:V->V->Hp->VK->Prop}{tip:TIp}{tset:zyE}{op:Operator}{tpos:Pos}(ho:PE X o to)(hi:PE X i ti)(hg:zyR X tget)(he:PE X e te)(hp:PIp X op tip)(hs:zyQ X tset)
  (ha:∀ov iv new,augStore i ov iv new=(do holding [new,ov,iv] (setItem ov iv new); release [new,ov,iv] []; pure .next):=by intros; rfl):PS X (.AugAssign (.Subscript o i tpos) op e pos) (zxH to ti te tget tip tset):=by
 intro pins s σ H D I h
 refine wpAny_AugAssign_SubscriptAny (thn (ho pins s σ H _ I h) fun ov s1 zz=> ?_) ha
 obtain⟨x1,H1,I1,r1,q1⟩:=zz
 refine thn (hi pins s1 σ H1 _ I1 q1) fun iv s2 zz=> ?_
 obtain⟨x2,H2,I2,r2,q2⟩:=zz
 refine thn (hg pins s2 σ H2 x1 x2 ov iv _ I2 r1 r2 q2) fun old s3 zz=> ?_
 obtain⟨x3,H3,I3,r3,q3⟩:=zz
 refine thn (he pins s3 σ H3 _ I3 q3) fun v s4 zz=> ?_
 obtain⟨x4,H4,I4,r4,q4⟩:=zz
 refine thn (hp pins s4 σ H4 x3 x4 old v _ I4 r3 r4 q4) fun new s5 zz=> ?_
 obtain⟨x5,H5,I5,r5,q5⟩:=zz
 exact thn (hs pins s5 σ H5 x1 x2 x5 ov iv new _ I5 r1 r2 r5 q5) fun _ s6 ⟨H6,I6,q6⟩=> ⟨σ,H6,I6,q6⟩
end
section
variable {X:Cx}{pos:Pos}
def zuS(c:TT)(tb:TS):TS:=fun D σ H=>∃W:Nat->St->Hp->Prop,(∃m,W m σ H)/\∀m σ H,W m σ H->
 c σ H fun b H1=> if b=true then∃N:St->Hp->Prop,(∀σ' H',N σ' H'->∃m',m' < m/\W m' σ' H')/\tb {D with nx:=N,ct:=N,bk:=D.nx} σ H1 else D.nx σ H1
theorem zqL{c:Expr}{body:List Stmt}{tc:TT}{tb:TS}(hp:PassesOwn (model X.prog X.w) X.A X.env X.xe)(hc:PT X c tc)(hb:PSs X body tb):PS X (.While c body [] pos) (zuS tc tb):=by
 intro pins s σ H D I h
 obtain⟨W,⟨m0,w0⟩,turn⟩:=h
 refine wpAny_While (codeAny_whileLoop (fun n s'=>∃σ' H',Inv X pins σ' H' s'/\W n σ' H') ?_ m0 ⟨σ,H,I,w0⟩)
 rintro n s1 ⟨σ1,H1,I1,w1⟩
 refine wpAny_passesOwn hp (thn (hc pins s1 σ1 H1 _ I1 (turn n σ1 H1 w1)) fun b s2 zz=> ?_)
 obtain⟨H2,I2,q2⟩:=zz
 cases b with
 | true=>
  obtain⟨N,hN,q2⟩:=q2
  rw[if_pos rfl]
  refine wpAny_passesOwn hp (thn (hb pins s2 σ1 H2 _ I2 q2) fun f s3 q3=> ?_)
  cases f with
  | next=>
   obtain⟨σ3,H3,I3,n3⟩:=q3
   obtain⟨m',hm,w3⟩:=hN σ3 H3 n3
   exact⟨m',hm,σ3,H3,I3,w3⟩
  | cont=>
   obtain⟨σ3,H3,I3,n3⟩:=q3
   obtain⟨m',hm,w3⟩:=hN σ3 H3 n3
   exact⟨m',hm,σ3,H3,I3,w3⟩
  | brk=> exact q3
  | ret v=> exact q3
 | false=>
  rw[if_neg Bool.false_ne_true]
  exact wpAny_execs_nil ⟨σ1,H2,I2,q2⟩
end
structure It where
 go:Nat->Hp->Prop
 yld:Nat->Hp->V->Hp->Prop
 stop:Nat->Hp->Prop
def zqe(X:Cx)(pins:List (Addr×Obj))(H:Hp)(b:Addr):Prop:=
 H b=none/\b≠X.env.locals/\b∉X.fs/\(b∈X.ex\/X.s_0.heap.objs.size<=b)/\(∀x c,X.env.cells.lookup x=some c->c≠b)/\∀p∈X.pn ++ pins,p.1≠b
theorem Inv.fpOk{X:Cx}{pins:List (Addr×Obj)}{σ:St}{H H':Hp}{s:Shared}{b:Addr}(I:Inv X pins σ H s)(hb:s.heap.objs.size<=b)(hn:H' b=none):zqe X pins H' b:=by
 refine⟨hn,Nat.ne_of_gt (Nat.lt_of_lt_of_le I.lt hb),I.nofs hb,.inr (Nat.le_trans I.sz hb),fun x c e z=> ?_,fun p hp z=> ?_⟩
 .obtain⟨v,q⟩:=I.cell x c e
  exact absurd (Nat.lt_of_lt_of_le q.lt (by rw[z]; exact hb)) (Nat.lt_irrefl _)
 .exact absurd (Nat.lt_of_lt_of_le (Heap.lt_size (I.pin p hp).1) (by rw[z]; exact hb)) (Nat.lt_irrefl _)
structure Turn (P:Program) (w:World) (K:PySem.W.Frag) (tg:Expr) (J:It) (fp:List Addr) (it:Addr) (tn:Nat->Heap->Prop):Prop where
 mem:it∈fp
 obj:∀i h,tn i h->∀b∈fp,∃o,h.get? b=some o/\∀v,o.data≠ .cell v
 keep:∀i h h',tn i h->(∀b∈fp,∀o,h.get? b=some o->h'.get? b=some o)->tn i h'
 item:∀(X:Cx),X.prog=P->X.w=w->X.K=K->X.calm=true->∀(i:Nat) (pins:List (Addr×Obj)) (s:Shared) (σ:St) (H:Hp) (E:Value->Shared->Prop),Inv X pins σ H s->(∀b∈fp,zqe X pins H b)->tn i s.heap->J.go i H->
  wpAny (model P w) X.A (pyNext (.ref it)) (fun r s1=>∃u,r=some u/\
   wpAny (model P w) X.A (letOwnedTupleGo tg (.ref it) u) (fun _ s2=>∃x H',Inv X pins σ H' s2/\RelV x u/\J.yld i H x H'/\tn (i + 1) s2.heap/\∀b∈fp,H' b=none) E s1) E s
 done:∀(X:Cx),X.prog=P->X.w=w->X.K=K->X.calm=true->∀(i:Nat) (pins:List (Addr×Obj)) (s:Shared) (σ:St) (H:Hp) (E:Value->Shared->Prop),Inv X pins σ H s->(∀b∈fp,zqe X pins H b)->tn i s.heap->J.stop i H->
  wpAny (model P w) X.A (pyNext (.ref it)) (fun r s1=> r=none/\Inv X pins σ H s1) E s
 self:∀(A:Around) (i:Nat) (s:Shared) (Q:Value->Shared->Prop) (E:Value->Shared->Prop),tn i s.heap->Q (.ref it) s->wpAny (model P w) A (pyIter (.ref it)) Q E s
abbrev TI:=St->Hp->(It->Hp->Prop)->Prop
def PIE(X:Cx)(pins:List (Addr×Obj))(σ:St)(tg:Expr)(R:It->Hp->Prop)(itv:Value)(s2:Shared):Prop:=
 ∃(it:Addr) (fp:List Addr) (tn:Nat->Heap->Prop) (J:It) (H':Hp),itv= .ref it/\Inv X pins σ H' s2/\Turn X.prog X.w X.K tg J fp it tn/\tn 0 s2.heap/\(∀b∈fp,zqe X pins H' b)/\R J H'
def PI(X:Cx)(tg iter:Expr)(wi:TI):Prop:=
 ∀(pins:List (Addr×Obj)) (s:Shared) (σ:St) (H:Hp) (R:It->Hp->Prop),Inv X pins σ H s->wi σ H R->
  wpAny (model X.prog X.w) X.A (eval iter X.env) (fun v s1=> wpAny (model X.prog X.w) X.A (pyIter v) (PIE X pins σ tg R) X.xe s1) X.xe s
theorem zv6{M:Model}{A:Around}{E:Value->Shared->Prop}{s:Shared}{tg:Expr}{it:Addr}{u:Value}{o:Obj}{n:String}{vs:Array Value}{Q:Unit->Shared->Prop}(ho:s.heap.get? it=some o)(hc:o.cls= .type n)(hd:o.data= .fields vs)
  (hn:["enumerate","zip","dict_itemiterator","dict_reverseitemiterator","odict_iterator","itertools.zip_longest","itertools.pairwise"].contains n=false) (hQ:Q () s):wpAny M A (letOwnedTupleGo tg (.ref it) u) Q E s:=by
 unfold letOwnedTupleGo
 cases tg <;> first
  | exact wpAny_pure hQ
  |(cases u <;> first | exact wpAny_pure hQ |(refine wpAny_bind (wpAny_load ho ?_); rw[hc,hd]; show wpAny M A (if (["enumerate","zip","dict_itemiterator","dict_reverseitemiterator","odict_iterator","itertools.zip_longest","itertools.pairwise"].contains n && vs[0]? ==some (rawInt _))=true then _ else _) Q E s; rw[if_neg (by intro h; rw[hn,Bool.false_and] at h; cases h)]; exact wpAny_pure hQ))
def Itl(K:PySem.W.Frag)(a:Addr):It:=
 ⟨fun i H=>∃xs x,SqL K H a xs/\xs[i]? =some x,fun i H x H'=> H'=H/\∀xs,SqL K H a xs->xs[i]? =some x,fun i H=>∃xs,SqL K H a xs/\xs.length<=i⟩
def Itr(lo:Int)(n:Nat):It:=⟨fun i _=> i < n,fun i H x H'=> H'=H/\x= .int (lo + i),fun i _=> n<=i⟩
theorem zou{P:Program}{w:World}{K:PySem.W.Frag}{tg:Expr}(a it:Addr):Turn P w K tg (Itl K a) [it] it (fun i h=> h.IsListIter it a i) where
 mem:=by simp
 obj:=fun i h st b hb=> by
  have e:b=it:=by simpa using hb
  subst e
  obtain⟨o,e,c,d⟩:=st
  exact⟨o,e,fun v z=> by rw[d] at z; cases z⟩
 keep:=fun i h h' st k=> st.at fun o e=> k it (by simp) o e
 item:=by
  intro X hP hw hK hc i pins s σ H E I hf st hg
  subst hP hw hK
  obtain⟨xs,x,hq,hx⟩:=hg
  obtain⟨its,rv,p,hz⟩:=I.list hq
  obtain⟨u,hu,ru⟩:=rv.get hx
  obtain⟨f0,f1,f2,f3,f4,f5⟩:=hf it (by simp)
  refine wpAny_pyNext_list_item st p.isList (x:=u) (by simpa using hu) fun h' st' sb=> ?_
  have I1:Inv X pins σ H {s with heap:=h'}:=I.turned (t':=s.toks) (fun b o hb e=> (sb.2 b hb).trans e) f0 f1 f3 f4 f5
  obtain⟨o,e,c,d⟩:=id st'
  exact⟨u,rfl,zv6 (s:={s with heap:=h'}) e c d (by decide) ⟨x,H,I1,ru,⟨rfl,fun ys hy=> by rw[I.list_inj hy hq]; exact hx⟩,st',fun b hb=> (hf b hb).1⟩⟩
 done:=by
  intro X hP hw hK hc i pins s σ H E I hf st hg
  subst hP hw hK
  obtain⟨xs,hq,hx⟩:=hg
  obtain⟨its,rv,p,hz⟩:=I.list hq
  obtain⟨f0,f1,f2,f3,f4,f5⟩:=hf it (by simp)
  have hl:=rv.length
  exact wpAny_pyNext_list_end (I.ok.hd hc) st p.isList (by simp; omega) fun h' eb=> ⟨rfl,I.turned (t':=s.toks) (fun b o hb e=> eb b o hb e) f0 f1 f3 f4 f5⟩
 self:=fun _ _ _ _ _ st h=> wpAny_pyIter_listiter st h
theorem znz{P:Program}{w:World}{K:PySem.W.Frag}{tg:Expr}(it:Addr)(lo:Int)(n:Nat):Turn P w K tg (Itr lo n) [it] it (fun i h=> IsRangeIter h it (lo + (i:Nat) * 1) ((n:Int) - (i:Nat)) 1) where
 mem:=by simp
 obj:=fun i h st b hb=> by
  have e:b=it:=by simpa using hb
  subst e
  exact⟨_,st,fun v z=> by
   have z':Data.fields _=Data.cell v:=z
   cases z'⟩
 keep:=fun i h h' st k=> k it (by simp) _ st
 item:=by
  intro X hP hw hK hc i pins s σ H E I hf st hg
  subst hP hw hK
  obtain⟨f0,f1,f2,f3,f4,f5⟩:=hf it (by simp)
  have W:=Walks.range (prog:=X.prog) (w:=X.w) (I.ok.hd hc) it lo 1 n
  refine W.item i s _ _ hg st fun v h' tk hv st' kk=> ?_
  obtain⟨t,rfl⟩:=hv
  have I1:Inv X pins σ H {s with heap:=h',toks:=tk}:=I.turned (fun b o hb e=> kk b o (by simpa using hb) e) f0 f1 f3 f4 f5
  refine⟨_,rfl,zv6 (s:={s with heap:=h',toks:=tk}) (n:="range_iterator") st' rfl rfl (by decide) ⟨.int (lo + i),H,I1,⟨t,?_⟩,⟨rfl,rfl⟩,st',fun b hb=> (hf b hb).1⟩⟩
  rw[Int.mul_one]
 done:=by
  intro X hP hw hK hc i pins s σ H E I hf st hg
  subst hP hw hK
  obtain⟨f0,f1,f2,f3,f4,f5⟩:=hf it (by simp)
  exact wpAny_pyNext_range_end (I.ok.hd hc) st (by have:n<=i:=hg; omega) fun h' eb=> ⟨rfl,I.turned (t':=s.toks) (fun b o hb e=> eb b o hb e) f0 f1 f3 f4 f5⟩
 self:=fun _ _ _ _ _ st h=> wpAny_pyIter_rangeiter st h
end L2
namespace L2
open PySem PySem.Spec PyProof.Rows
section
variable {X:Cx}{tg:Expr}
def zye(K:PySem.W.Frag)(tl:TE):TI:=fun σ H R=> tl σ H fun x H1=>∃a,x= .ref a/\(∃xs,SqL K H1 a xs)/\R (Itl K a) H1
theorem zoX{l:Expr}{tl:TE}(hl:PE X l tl):PI X tg l (zye X.K tl):=by
 intro pins s σ H R I h
 refine thn (hl pins s σ H _ I h) fun v s1 zz=> ?_
 obtain⟨x,H1,I1,r1,q1⟩:=zz
 obtain⟨a,e,⟨xs,hq⟩,q⟩:=q1
 subst e
 cases r1
 obtain⟨its,rv,p,hz⟩:=I1.list hq
 refine wpAny_pyIter_list p.isList ?_
 refine⟨s1.heap.objs.size,[s1.heap.objs.size],_,_,H1,rfl,I1.kept (t':=s1.toks) fun b o e=> Heap.get?_push_of_some _ e,zou a _,⟨_,Heap.get?_push_size _ rfl,rfl,rfl⟩,fun b hb=> ?_,q⟩
 have e:b=s1.heap.objs.size:=by simpa using hb
 subst e
 exact I1.fpOk (Nat.le_refl _) (I1.hok.fresh (Nat.le_refl _))
theorem zqB{pins:List (Addr×Obj)}{σ:St}{H:Hp}{s:Shared}{R:It->Hp->Prop}{E:Value->Shared->Prop}{lo hi:Int}{t u v:Tok}{tk:Nat}(I:Inv X pins σ H s)(h1:-(2 ^ 62)<=lo)(h2:lo < 2 ^ 62)(h3:-(2 ^ 62)<=hi)(h4:hi < 2 ^ 62)
  (q:R (Itr lo (hi - lo).toNat) H):wpAny (model X.prog X.w) X.A (pyIter (.ref s.heap.objs.size)) (PIE X pins σ tg R) E {s with heap:=s.heap.push {cls:= .type "range",data:= .fields #[.int lo t,.int hi u,.int 1 v]},toks:=tk}:=by
 refine wpAny_pyIter_range (IsRange.new ..) (small_one h1 h2 h3 h4) ?_
 have I1:Inv X pins σ H {s with heap:=s.heap.push {cls:= .type "range",data:= .fields #[.int lo t,.int hi u,.int 1 v]},toks:=tk}:=I.kept fun b o e=> Heap.get?_push_of_some _ e
 refine⟨(s.heap.push {cls:= .type "range",data:= .fields #[.int lo t,.int hi u,.int 1 v]}).objs.size,[(s.heap.push {cls:= .type "range",data:= .fields #[.int lo t,.int hi u,.int 1 v]}).objs.size],_,_,H,rfl,
  I1.kept (t':=tk) fun b o e=> Heap.get?_push_of_some _ e,znz _ lo (hi - lo).toNat,?_,fun b hb=> ?_,q⟩
 .have e1:lo + ((0:Nat):Int) * 1=lo:=by simp
  have e2:(((hi - lo).toNat:Nat):Int) - ((0:Nat):Int)=Builtin.Range.rangeSize lo hi 1:=by rw[rangeSize_one]; split <;> omega
  show IsRangeIter _ _ (lo + ((0:Nat):Int) * 1) ((((hi - lo).toNat:Nat):Int) - ((0:Nat):Int)) 1
  rw[e1,e2]
  exact Heap.get?_push_size _ rfl
 .have e:b=(s.heap.push {cls:= .type "range",data:= .fields #[.int lo t,.int hi u,.int 1 v]}).objs.size:=by simpa using hb
  subst e
  exact I1.fpOk (Nat.le_refl _) (I1.hok.fresh (Nat.le_refl _))
def zyd(ta:TA):TI:=fun σ H R=> ta σ H fun vs H1=>∃j:Int,vs=[.int j]/\-(2 ^ 62)<=j/\j < 2 ^ 62/\R (Itr 0 j.toNat) H1
theorem zoW{a:Expr}{ta:TA}{p pos:Pos}(hg:Gl X "range")(hm:X.mg "range"=none)(ha:PA X [a] ta)(hs:starEach [a] X.env=[(false,eval a X.env)]:=by rfl):PI X tg (.Call (.Name "range" p) [a] [] pos) (zyd ta):=by
 intro pins s σ H R I h
 refine Call_ (zm6 I hg hm boot_range (PyProof.Rows.callWith_type1 (thn (ha pos pins s σ H _ I h) fun us s1 zz=> ?_) hs rfl))
 obtain⟨vs,H1,I1,r1,q1⟩:=zz
 obtain⟨j,e,q1,q2,q⟩:=q1
 subst e
 cases r1 with
 | cons r rr=>
  cases rr
  obtain⟨t,rfl⟩:=r
  exact call_range_1 (zqB I1 (by omega) (by omega) q1 q2 (by simpa using q))
def zyZ(wi:TI)(g:TG)(tb:TS):TS:=fun D σ H=> wi σ H fun J H1=>∃W:Nat->Nat->St->Hp->Prop,(∃m,W 0 m σ H1)/\∀i m σ H,W i m σ H->
 (J.stop i H/\D.nx σ H)\/(J.go i H/\∃N:St->Hp->Prop,(∀σ' H',N σ' H'->∃m',m' < m/\W (i + 1) m' σ' H')/\∀x H',J.yld i H x H'->g x σ H' fun σ2 H2=> tb {D with nx:=N,ct:=N,bk:=D.nx} σ2 H2)
def zk7(fp:List Addr)(h:Heap):List (Addr×Obj):=fp.filterMap fun b=> (h.get? b).map fun o=> (b,o)
theorem zh5{fp:List Addr}{h:Heap}{b:Addr}{o:Obj}(hb:b∈fp)(e:h.get? b=some o):(b,o)∈zk7 fp h:=List.mem_filterMap.mpr ⟨b,hb,by rw[e]; rfl⟩
theorem zo6{fp:List Addr}{h:Heap}{p:Addr×Obj}(hp:p∈zk7 fp h):p.1∈fp/\h.get? p.1=some p.2:=by
 obtain⟨b,hb,e⟩:=List.mem_filterMap.mp hp
 cases q:h.get? b with
 | none=> rw[q] at e; cases e
 | some o=>
  rw[q] at e
  have e':(b,o)=p:=Option.some.inj e
  subst e'
  exact⟨hb,q⟩
theorem Inv.pinned{pins:List (Addr×Obj)}{σ:St}{H:Hp}{s:Shared}{fp:List Addr}(I:Inv X pins σ H s)(hf:∀b∈fp,zqe X pins H b)(ho:∀b∈fp,∃o,s.heap.get? b=some o/\∀v,o.data≠ .cell v):Inv X (pins ++ zk7 fp s.heap) σ H s:=
 I.pins_of fun p hp=> (List.mem_append.mp hp).elim (fun z=> I.pin p (List.mem_append_right _ z)) fun z=> by
  obtain⟨hb,e⟩:=zo6 z
  obtain⟨f0,f1,f2,_⟩:=hf p.1 hb
  obtain⟨o,e',d⟩:=ho p.1 hb
  rw[e] at e'; cases e'
  exact⟨e,f0,f1,f2,d⟩
theorem Inv.unpinned{pins pl:List (Addr×Obj)}{σ:St}{H:Hp}{s:Shared}(I:Inv X (pins ++ pl) σ H s):Inv X pins σ H s:=I.pins_of fun p hp=> I.pin p (List.mem_append_right _ (List.mem_append_left _ hp))
theorem zoT{iter:Expr}{body:List Stmt}{wi:TI}{g:TG}{tb:TS}{pos:Pos}(hp:PassesOwn (model X.prog X.w) X.A X.env X.xe)(hc:X.calm=true)(hi:PI X tg iter wi)(hg:PG X tg g)(hb:PSs X body tb)
  (hs:∀x,foldedSetIterable iter X.env x=pure x:=by intro _; rfl):PS X (.For tg iter body [] pos) (zyZ wi g tb):=by
 intro pins s σ H D I h
 refine wpAny_For (thn (hi pins s σ H _ I h) fun v s1 h1=> thn h1 fun itv s2 h2=> ?_) hs
 obtain⟨it,fp,tn,J,H2,e,I2,T,st2,f2,W,⟨m0,w0⟩,turn⟩:=h2
 subst e
 have stat:∀{H':Hp},(∀b∈fp,H' b=none)->∀b∈fp,zqe X pins H' b:=fun hn b hb=> ⟨hn b hb,(f2 b hb).2⟩
 refine codeAny_forLoop_any (fun n s'=>∃i σ' H',Inv X pins σ' H' s'/\tn i s'.heap/\(∀b∈fp,H' b=none)/\W i n σ' H') ?_ m0 ⟨0,σ,H2,I2,st2,fun b hb=> (f2 b hb).1,w0⟩
 rintro n s3 ⟨i,σ3,H3,I3,st3,fr3,w3⟩
 rcases turn i n σ3 H3 w3 with⟨stop,qn⟩ |⟨go,N,hN,step⟩
 .refine wpAny_passesOwn hp (thn (T.done X rfl rfl rfl hc i pins s3 σ3 H3 X.xe I3 (stat fr3) st3 stop) fun r s4 zz=> ?_)
  obtain⟨hr,I4⟩:=zz
  subst hr
  exact wpAny_execs_nil ⟨σ3,H3,I4,qn⟩
 .refine wpAny_passesOwn hp (thn (T.item X rfl rfl rfl hc i pins s3 σ3 H3 X.xe I3 (stat fr3) st3 go) fun r s4 zz=> ?_)
  obtain⟨u,hr,h4⟩:=zz
  subst hr
  refine wpAny_passesOwn hp (thn h4 fun _ s5 zz=> ?_)
  obtain⟨x,H5,I5,r5,y5,st5,fr5⟩:=zz
  have I5':=I5.pinned (stat fr5) (T.obj _ _ st5)
  refine wpAny_passesOwn hp (thn (hg _ s5 σ3 H5 x u _ I5' r5 (step x H5 y5)) fun _ s6 zz=> ?_)
  obtain⟨σ6,H6,I6,q6⟩:=zz
  refine wpAny_passesOwn hp (thn (hb _ s6 σ6 H6 _ I6 q6) fun f s7 q7=> ?_)
  have again:∀{σ7:St} {H7:Hp},Inv X (pins ++ zk7 fp s5.heap) σ7 H7 s7->N σ7 H7->∃m,m < n/\∃i σ' H',Inv X pins σ' H' s7/\tn i s7.heap/\(∀b∈fp,H' b=none)/\W i m σ' H':=fun {σ7 H7} I7 n7=> by
   obtain⟨m',hm,w7⟩:=hN σ7 H7 n7
   refine⟨m',hm,i + 1,σ7,H7,I7.unpinned,T.keep _ _ _ st5 fun b hb o e=> (I7.pin (b,o) (List.mem_append_right _ (List.mem_append_right _ (zh5 hb e)))).1,fun b hb=> ?_,w7⟩
   obtain⟨o,e,d⟩:=T.obj _ _ st5 b hb
   exact (I7.pin (b,o) (List.mem_append_right _ (List.mem_append_right _ (zh5 hb e)))).2.1
  cases f with
  | next=> obtain⟨σ7,H7,I7,n7⟩:=q7; exact again I7 n7
  | cont=> obtain⟨σ7,H7,I7,n7⟩:=q7; exact again I7 n7
  | brk=> obtain⟨σ7,H7,I7,q7⟩:=q7; exact⟨σ7,H7,I7.unpinned,q7⟩
  | ret v=> obtain⟨x7,σ7,H7,I7,r7,q7⟩:=q7; exact⟨x7,σ7,H7,I7.unpinned,r7,q7⟩
end
theorem zri{K:PySem.W.Frag}{a:Addr}{xs:List V}{g:TG}{tb:TS}{D:Ends}{σ:St}{H:Hp}(Pv:Nat->St->Hp->Prop)(h0:Pv 0 σ H)(hl:∀i σ H,i<=xs.length->Pv i σ H->SqL K H a xs)
  (hs:∀i x σ H,xs[i]? =some x->Pv i σ H->g x σ H fun σ2 H2=> tb {D with nx:=Pv (i + 1),ct:=Pv (i + 1),bk:=D.nx} σ2 H2) (hd:∀σ H,Pv xs.length σ H->D.nx σ H):
  ∃W:Nat->Nat->St->Hp->Prop,(∃m,W 0 m σ H)/\∀i m σ H,W i m σ H->
   ((Itl K a).stop i H/\D.nx σ H)\/((Itl K a).go i H/\∃N:St->Hp->Prop,(∀σ' H',N σ' H'->∃m',m' < m/\W (i + 1) m' σ' H')/\∀x H',(Itl K a).yld i H x H'->g x σ H' fun σ2 H2=> tb {D with nx:=N,ct:=N,bk:=D.nx} σ2 H2):=by
 refine⟨fun i m σ H=> m=xs.length - i/\i<=xs.length/\Pv i σ H,⟨xs.length,by simp,Nat.zero_le _,h0⟩,?_⟩
 rintro i m σ H ⟨rfl,hi,p⟩
 have q:=hl i σ H hi p
 by_cases hlt:i < xs.length
 .refine .inr ⟨⟨xs,xs[i],q,by simp[hlt]⟩,Pv (i + 1),fun σ' H' p'=> ⟨xs.length - (i + 1),by omega,rfl,hlt,p'⟩,fun x H' y=> ?_⟩
  obtain⟨e,y⟩:=y
  subst e
  exact hs i x σ _ (y xs q) p
 .have e:i=xs.length:=by omega
  subst e
  exact .inl ⟨⟨xs,q,Nat.le_refl _⟩,hd σ H p⟩
theorem zpw{lo:Int}{n:Nat}{g:TG}{tb:TS}{D:Ends}{σ:St}{H:Hp}(Pv:Nat->St->Hp->Prop)(h0:Pv 0 σ H)
  (hs:∀i σ H,i < n->Pv i σ H->g (.int (lo + i)) σ H fun σ2 H2=> tb {D with nx:=Pv (i + 1),ct:=Pv (i + 1),bk:=D.nx} σ2 H2) (hd:∀σ H,Pv n σ H->D.nx σ H):
  ∃W:Nat->Nat->St->Hp->Prop,(∃m,W 0 m σ H)/\∀i m σ H,W i m σ H->
   ((Itr lo n).stop i H/\D.nx σ H)\/((Itr lo n).go i H/\∃N:St->Hp->Prop,(∀σ' H',N σ' H'->∃m',m' < m/\W (i + 1) m' σ' H')/\∀x H',(Itr lo n).yld i H x H'->g x σ H' fun σ2 H2=> tb {D with nx:=N,ct:=N,bk:=D.nx} σ2 H2):=by
 refine⟨fun i m σ H=> m=n - i/\i<=n/\Pv i σ H,⟨n,by simp,Nat.zero_le _,h0⟩,?_⟩
 rintro i m σ H ⟨rfl,hi,p⟩
 by_cases hlt:i < n
 .refine .inr ⟨hlt,Pv (i + 1),fun σ' H' p'=> ⟨n - (i + 1),by omega,rfl,hlt,p'⟩,fun x H' y=> ?_⟩
  obtain⟨e,y⟩:=y
  subst e y
  exact hs i σ _ hlt p
 .have e:i=n:=by omega
  subst e
  exact .inl ⟨Nat.le_refl _,hd σ H p⟩
end L2
namespace L2
open PySem PySem.Spec PyProof.Rows
abbrev R2:=V->V->Hp->VK->Prop
def OpR(X:Cx)(f:Value->Value->Sem Value)(r:R2):Prop:=
 ∀(pins:List (Addr×Obj)) (s:Shared) (σ:St) (H:Hp) (x y:V) (v u:Value) (Q:VK),Inv X pins σ H s->RelV x v->RelV y u->r x y H Q->
  wpAny (model X.prog X.w) X.A (f v u) (EP X pins σ Q) X.xe s
def UnR(X:Cx)(f:Value->Sem Value)(r:V->Hp->VK->Prop):Prop:=
 ∀(pins:List (Addr×Obj)) (s:Shared) (σ:St) (H:Hp) (x:V) (v:Value) (Q:VK),Inv X pins σ H s->RelV x v->r x H Q->
  wpAny (model X.prog X.w) X.A (f v) (EP X pins σ Q) X.xe s
def zlM(X:Cx)(f:Value)(r:List V->Hp->VK->Prop):Prop:=
 ∀(pins:List (Addr×Obj)) (s:Shared) (σ:St) (H:Hp) (xs:List V) (us:List Value) (Q:VK),Inv X pins σ H s->Vals xs us->r xs H Q->
  wpAny (model X.prog X.w) X.A (call f us) (EP X pins σ Q) X.xe s
def tOp(r:R2)(ta tb:TE):TE:=fun σ H Q=> ta σ H fun x H1=> tb σ H1 fun y H2=> r x y H2 Q
def tUn(r:V->Hp->VK->Prop)(ta:TE):TE:=fun σ H Q=> ta σ H fun x H1=> r x H1 Q
def rI(C:Int->Int->Prop)(g:Int->Int->V):R2:=fun x y H Q=>∃i j,x= .int i/\y= .int j/\C i j/\Q (g i j) H
def rI0(g:Int->Int->V):R2:=fun x y H Q=>∃i j,x= .int i/\y= .int j/\Q (g i j) H
def rU(g:Int->V):V->Hp->VK->Prop:=fun x H Q=>∃i,x= .int i/\Q (g i) H
section
variable {X:Cx}{a b c:Expr}{ta tb tc:TE}{pos:Pos}
theorem zyq(ha:PE X a ta)(hb:PE X b tb){pins:List (Addr×Obj)}{s:Shared}{σ:St}{H:Hp}{R:V->V->Hp->Prop}(I:Inv X pins σ H s)
  (h:ta σ H fun x H1=> tb σ H1 fun y H2=> R x y H2) {Q:Value->Shared->Prop} {f:Value->Value->Sem Value}
  (hf:∀v u s2 x y H2,Inv X pins σ H2 s2->RelV x v->RelV y u->R x y H2->wpAny (model X.prog X.w) X.A (f v u) Q X.xe s2):
  wpAny (model X.prog X.w) X.A (eval a X.env) (fun v s₁=> wpAny (model X.prog X.w) X.A (eval b X.env) (fun u s₂=> wpAny (model X.prog X.w) X.A (f v u) Q X.xe s₂) X.xe s₁) X.xe s:=by
 refine thn (ha pins s σ H _ I h) fun v s1 zz=> ?_
 obtain⟨x,H1,I1,r1,q1⟩:=zz
 refine thn (hb pins s1 σ H1 _ I1 q1) fun u s2 zz=> ?_
 obtain⟨y,H2,I2,r2,q2⟩:=zz
 exact hf v u s2 x y H2 I2 r1 r2 q2
theorem zvv{op:Operator}{r:R2}(ho:OpR X (binaryOp op) r)(ha:PE X a ta)(hb:PE X b tb):PE X (.BinOp a op b pos) (tOp r ta tb):=by
 intro pins s σ H Q I h
 exact wpAny_BinOp (zyq ha hb I h fun v u s2 x y H2 I2 rx ry q=> ho pins s2 σ H2 x y v u Q I2 rx ry q)
theorem zxZ{op:UnaryOp}{r:V->Hp->VK->Prop}(ho:UnR X (unaryOp op) r)(ha:PE X a ta):PE X (.UnaryOp op a pos) (tUn r ta):=by
 intro pins s σ H Q I h
 exact UnaryOp_ (thn (ha pins s σ H _ I h) fun v s1 ⟨x,H1,I1,r1,q1⟩=> ho pins s1 σ H1 x v Q I1 r1 q1)
theorem opI{f:Value->Value->Sem Value}{C:Int->Int->Prop}{g:Int->Int->Int}
  (rule:∀(i j:Int) (t u:Tok) (s:Shared) (Q:Value->Shared->Prop) (E:Value->Shared->Prop),C i j->Q (.int (g i j) s.toks) {s with toks:=s.toks + 1}->wpAny (model X.prog X.w) X.A (f (.int i t) (.int j u)) Q E s):
  OpR X f (rI C fun i j=> .int (g i j)):=by
 intro pins s σ H x y v u Q I rx ry h
 obtain⟨i,j,rfl,rfl,hc,q⟩:=h
 obtain⟨t,rfl⟩:=rx
 obtain⟨t',rfl⟩:=ry
 exact rule i j t t' s _ _ hc ⟨.int (g i j),H,I.tok _,⟨_,rfl⟩,q⟩
theorem ztl{f:Value->Value->Sem Value}{g:Int->Int->Int}
  (rule:∀(i j:Int) (t u:Tok) (s:Shared) (Q:Value->Shared->Prop) (E:Value->Shared->Prop),Q (.int (g i j) s.toks) {s with toks:=s.toks + 1}->wpAny (model X.prog X.w) X.A (f (.int i t) (.int j u)) Q E s):
  OpR X f (rI0 fun i j=> .int (g i j)):=by
 intro pins s σ H x y v u Q I rx ry h
 obtain⟨i,j,rfl,rfl,q⟩:=h
 obtain⟨t,rfl⟩:=rx
 obtain⟨t',rfl⟩:=ry
 exact rule i j t t' s _ _ ⟨.int (g i j),H,I.tok _,⟨_,rfl⟩,q⟩
theorem zxq{f:Value->Value->Sem Value}{g:Int->Int->Bool}
  (rule:∀(i j:Int) (t u:Tok) (s:Shared) (Q:Value->Shared->Prop) (E:Value->Shared->Prop),Q (.bool (g i j)) s->wpAny (model X.prog X.w) X.A (f (.int i t) (.int j u)) Q E s):
  OpR X f (rI0 fun i j=> .bl (g i j)):=by
 intro pins s σ H x y v u Q I rx ry h
 obtain⟨i,j,rfl,rfl,q⟩:=h
 obtain⟨t,rfl⟩:=rx
 obtain⟨t',rfl⟩:=ry
 exact rule i j t t' s _ _ ⟨.bl (g i j),H,I,rfl,q⟩
def zzy(i j:Int):Prop:=0 < j/\j < 1073741824
def CMul(i j:Int):Prop:=(-(2 ^ 64) < i/\i < 2 ^ 64)\/(-(2 ^ 64) < j/\j < 2 ^ 64)
theorem CMul.ok{i j:Int}(h:CMul i j):IntMulOk i j:=by
 rcases h with⟨h1,h2⟩ |⟨h1,h2⟩
 .exact .of_left (intBits_le_64 h1 h2)
 .exact .of_right (intBits_le_64 h1 h2)
theorem zny(k:Nat):(0:Int)<=2 ^ k:=by
 rw[two_pow_cast]
 exact Int.natCast_nonneg _
theorem zvQ:OpR X (binaryOp .Add) (rI0 fun i j=> .int (i + j)):=ztl fun _ _ _ _ _ _ _ q=> add_int q
theorem zvI:OpR X (binaryOp .Sub) (rI0 fun i j=> .int (i - j)):=ztl fun _ _ _ _ _ _ _ q=> sub_int q
theorem zsc:OpR X (binaryOp .Mult) (rI CMul fun i j=> .int (i * j)):=opI fun _ _ _ _ _ _ _ hc q=> mul_int q hc.ok
theorem ztk:OpR X (binaryOp .FloorDiv) (rI zzy fun i j=> .int (i / j)):=opI fun i j _ _ _ _ _ hc q=> by
 have h1:(0:Int) < j:=hc.1
 have h2:j < 1073741824:=hc.2
 exact floordiv_int (by omega) (by rw[Int.fdiv_eq_ediv_of_nonneg i (by omega)]; exact q) (.inl (PyProof.noPylong_small (by omega)))
theorem zvK:OpR X (binaryOp .Mod) (rI (fun _ j=> 0 < j) fun i j=> .int (i % j)):=opI fun i j _ _ _ _ _ hc q=> by
 have h1:(0:Int) < j:=hc
 exact mod_int' (by omega) (by rw[Int.fmod_eq_emod_of_nonneg i (by omega)]; exact q)
theorem zvJ:OpR X (binaryOp .RShift) (rI (fun _ j=> 0<=j) fun i j=> .int (i / 2 ^ j.toNat)):=opI fun i j _ _ _ _ _ hc q=>
 rshift_int hc (by rw[Int.fdiv_eq_ediv_of_nonneg i (zny _)]; exact q)
theorem zvP:OpR X (binaryOp .BitAnd) (rI0 fun i j=> .int (Builtin.bitAnd i j)):=ztl fun _ _ _ _ _ _ _ q=> and_int q
theorem zx6:OpR X (binaryOp .BitOr) (rI0 fun i j=> .int (Builtin.bitOr i j)):=ztl fun _ _ _ _ _ _ _ q=> or_int q
theorem ztB:OpR X (inplaceOp .Add) (rI0 fun i j=> .int (i + j)):=ztl fun _ _ _ _ _ _ _ q=> iadd_int q
theorem ztA:OpR X (inplaceOp .Sub) (rI0 fun i j=> .int (i - j)):=ztl fun _ _ _ _ _ _ _ q=> isub_int q
theorem zv4:OpR X (inplaceOp .BitOr) (rI0 fun i j=> .int (Builtin.bitOr i j)):=ztl fun _ _ _ _ _ _ _ q=> ior_int q
theorem unI{f:Value->Sem Value}{g:Int->Int}
  (rule:∀(i:Int) (t:Tok) (s:Shared) (Q:Value->Shared->Prop) (E:Value->Shared->Prop),Q (.int (g i) s.toks) {s with toks:=s.toks + 1}->wpAny (model X.prog X.w) X.A (f (.int i t)) Q E s):
  UnR X f (rU fun i=> .int (g i)):=by
 intro pins s σ H x v Q I rx h
 obtain⟨i,rfl,q⟩:=h
 obtain⟨t,rfl⟩:=rx
 exact rule i t s _ _ ⟨.int (g i),H,I.tok _,⟨_,rfl⟩,q⟩
theorem zuP:UnR X (unaryOp .USub) (rU fun i=> .int (-i)):=unI fun _ _ _ _ _ q=> neg_int q
end
def zyI:V->V->Bool
 | .non,.non=> true | .non,.int _=> true | .int _,.non=> true | .non,.bl _=> true | .bl _,.non=> true | .non,.str _=> true | .str _,.non=> true
 | .int _,.int _=> true | .bl _,.bl _=> true | .str _,.str _=> true | .byt _,.byt _=> true
 | .int _,.str _=> true | .str _,.int _=> true | .bl _,.str _=> true | .str _,.bl _=> true
 | _,_=> false
def rEq:R2:=fun x y H Q=> zyI x y=true/\Q (.bl (decide (x=y))) H
def rNe:R2:=fun x y H Q=> zyI x y=true/\Q (.bl (!decide (x=y))) H
theorem zp0{i j:Int}:decide (V.int i=V.int j)=(i==j):=by
 rw[Bool.eq_iff_iff]
 simp
theorem zsp{i j:Bool}:decide (V.bl i=V.bl j)=(i==j):=by
 rw[Bool.eq_iff_iff]
 simp
theorem zpZ{i j:Str}:decide (V.str i=V.str j)=(i==j):=by
 rw[Bool.eq_iff_iff]
 simp
theorem zp1{i j:Array UInt8}:decide (V.byt i=V.byt j)=(i.toList==j.toList):=by
 rw[Bool.eq_iff_iff]
 cases i
 cases j
 simp
section
variable {X:Cx}{a b c:Expr}{ta tb tc:TE}{pos:Pos}
theorem zcw{pins:List (Addr×Obj)}{σ:St}{H:Hp}{s:Shared}{Q:VK}{k k':Bool}(I:Inv X pins σ H s)(q:Q (.bl k) H)(e:k=k'):EP X pins σ Q (.bool k') s:=by
 subst e
 exact⟨.bl k,H,I,rfl,q⟩
theorem zvN:OpR X (compareOp .Eq) rEq:=by
 intro pins s σ H x y v u Q I rx ry h
 obtain⟨hs,q⟩:=h
 cases x with
 | non=>
  cases rx
  cases y with
  | non=> cases ry; exact PySem.EqNone.eq_none_none (zcw I q (by simp))
  | bl j=> cases ry; exact PySem.EqNone.eq_none_bool (zcw I q (by simp))
  | int j=> obtain⟨t',rfl⟩:=ry; exact PySem.EqNone.eq_none_int (zcw I q (by simp))
  | str j=> obtain⟨t',rfl⟩:=ry; exact PySem.EqNone.eq_none_str (zcw I q (by simp))
  | _=> exact absurd (show false=true from hs) Bool.false_ne_true
 | bl i=>
  cases rx
  cases y with
  | non=> cases ry; exact PySem.EqNone.eq_bool_none (zcw I q (by simp))
  | bl j=> cases ry; exact eq_bool (zcw I q zsp)
  | str j=> obtain⟨t',rfl⟩:=ry; exact PySem.EqMixed.eq_bool_str (zcw I q (by simp))
  | _=> exact absurd (show false=true from hs) Bool.false_ne_true
 | int i=>
  obtain⟨t,rfl⟩:=rx
  cases y with
  | non=> cases ry; exact PySem.EqNone.eq_int_none (zcw I q (by simp))
  | int j=> obtain⟨t',rfl⟩:=ry; exact eq_int (zcw I q zp0)
  | str j=> obtain⟨t',rfl⟩:=ry; exact PySem.EqMixed.eq_int_str (zcw I q (by simp))
  | _=> exact absurd (show false=true from hs) Bool.false_ne_true
 | str i=>
  obtain⟨t,rfl⟩:=rx
  cases y with
  | non=> cases ry; exact PySem.EqNone.eq_str_none (zcw I q (by simp))
  | bl j=> cases ry; exact PySem.EqMixed.eq_str_bool (zcw I q (by simp))
  | int j=> obtain⟨t',rfl⟩:=ry; exact PySem.EqMixed.eq_str_int (zcw I q (by simp))
  | str j=> obtain⟨t',rfl⟩:=ry; exact eq_str (zcw I q zpZ)
  | _=> exact absurd (show false=true from hs) Bool.false_ne_true
 | byt i=>
  obtain⟨t,rfl⟩:=rx
  cases y with
  | byt j=> obtain⟨t',rfl⟩:=ry; exact PySem.W.eq_bytes (zcw I q zp1)
  | _=> exact absurd (show false=true from hs) Bool.false_ne_true
 | _=> cases y <;> exact absurd (show false=true from hs) Bool.false_ne_true
theorem zx7:OpR X (compareOp .NotEq) rNe:=by
 intro pins s σ H x y v u Q I rx ry h
 obtain⟨hs,q⟩:=h
 cases x with
 | non=>
  cases rx
  cases y with
  | non=> cases ry; exact PySem.EqNone.ne_none_none (zcw I q (by simp))
  | bl j=> cases ry; exact PySem.EqNone.ne_none_bool (zcw I q (by simp))
  | int j=> obtain⟨t',rfl⟩:=ry; exact PySem.EqNone.ne_none_int (zcw I q (by simp))
  | str j=> obtain⟨t',rfl⟩:=ry; exact PySem.EqNone.ne_none_str (zcw I q (by simp))
  | _=> exact absurd (show false=true from hs) Bool.false_ne_true
 | bl i=>
  cases rx
  cases y with
  | non=> cases ry; exact PySem.EqNone.ne_bool_none (zcw I q (by simp))
  | bl j=> cases ry; exact ne_bool (zcw I q (congrArg not zsp))
  | str j=> obtain⟨t',rfl⟩:=ry; exact PySem.EqMixed.ne_bool_str (zcw I q (by simp))
  | _=> exact absurd (show false=true from hs) Bool.false_ne_true
 | int i=>
  obtain⟨t,rfl⟩:=rx
  cases y with
  | non=> cases ry; exact PySem.EqNone.ne_int_none (zcw I q (by simp))
  | int j=> obtain⟨t',rfl⟩:=ry; exact ne_int (zcw I q (congrArg not zp0))
  | str j=> obtain⟨t',rfl⟩:=ry; exact PySem.EqMixed.ne_int_str (zcw I q (by simp))
  | _=> exact absurd (show false=true from hs) Bool.false_ne_true
 | str i=>
  obtain⟨t,rfl⟩:=rx
  cases y with
  | non=> cases ry; exact PySem.EqNone.ne_str_none (zcw I q (by simp))
  | bl j=> cases ry; exact PySem.EqMixed.ne_str_bool (zcw I q (by simp))
  | int j=> obtain⟨t',rfl⟩:=ry; exact PySem.EqMixed.ne_str_int (zcw I q (by simp))
  | str j=> obtain⟨t',rfl⟩:=ry; exact ne_str (zcw I q (congrArg not zpZ))
  | _=> exact absurd (show false=true from hs) Bool.false_ne_true
 | byt i=>
  obtain⟨t,rfl⟩:=rx
  cases y with
  | byt j=> obtain⟨t',rfl⟩:=ry; exact PySem.W.ne_bytes (zcw I q (congrArg not zp1))
  | _=> exact absurd (show false=true from hs) Bool.false_ne_true
 | _=> cases y <;> exact absurd (show false=true from hs) Bool.false_ne_true
theorem zx8:OpR X (compareOp .Lt) (rI0 fun i j=> .bl (decide (i < j))):=zxq fun _ _ _ _ _ _ _ q=> lt_int q
theorem znJ:OpR X (compareOp .LtE) (rI0 fun i j=> .bl (decide (i<=j))):=zxq fun _ _ _ _ _ _ _ q=> le_int q
theorem zx9:OpR X (compareOp .Gt) (rI0 fun i j=> .bl (decide (j < i))):=zxq fun _ _ _ _ _ _ _ q=> gt_int q
theorem zvL:OpR X (compareOp .GtE) (rI0 fun i j=> .bl (decide (j<=i))):=zxq fun _ _ _ _ _ _ _ q=> ge_int q
theorem zha(b:Expr){op:CmpOp}(h:op≠ .In:=by decide)(h2:op≠ .NotIn:=by decide):behindInMarks op b=false:=by
 have e1:(op==CmpOp.In)=false:=by cases op <;> first | rfl | exact absurd rfl h
 have e2:(op==CmpOp.NotIn)=false:=by cases op <;> first | rfl | exact absurd rfl h2
 cases b <;> simp[behindInMarks,e1,e2]
theorem zo1{op:CmpOp}{r:R2}(ho:OpR X (compareOp op) r)(ha:PE X a ta)(hb:PE X b tb)(hm:behindInMarks op b=false):PE X (.Compare a [op] [b] pos) (tOp r ta tb):=by
 intro pins s σ H Q I h
 exact wpAny_Compare1 (zyq ha hb I h fun v u s2 x y H2 I2 rx ry q=> ho pins s2 σ H2 x y v u Q I2 rx ry q) hm
def zuT(t:TE):TT:=fun σ H Q=> t σ H fun x H'=>∃k,x= .bl k/\Q k H'
theorem zkq{op:CmpOp}{r:R2}(ho:OpR X (compareOp op) r)(ha:PE X a ta)(hb:PE X b tb)(hm:behindInMarks op b=false):PT X (.Compare a [op] [b] pos) (zuT (tOp r ta tb)):=by
 intro pins s σ H Q I h
 refine wpAny_isTrue_Compare1 (thn (ha pins s σ H _ I h) fun v s1 ⟨x,H1,I1,r1,q1⟩=> thn (hb pins s1 σ H1 _ I1 q1) fun u s2 ⟨y,H2,I2,r2,q2⟩=>
  thn (ho pins s2 σ H2 x y v u _ I2 r1 r2 q2) fun c s3 ⟨z,H3,I3,r3,k,e,q3⟩=> ?_) hm
 subst e
 cases r3
 exact wpAny_truthy_bool ⟨H3,I3,q3⟩
def zu0(r r':R2)(ta tb tc:TE):TE:=fun σ H Q=> ta σ H fun x H1=> tb σ H1 fun y H2=> r x y H2 fun z H3=>∃k,z= .bl k/\
 (if k=true then tc σ H3 fun w' H4=> r' y w' H4 Q else Q (.bl false) H3)
theorem zqK{op op':CmpOp}{r r':R2}(ho:OpR X (compareOp op) r)(ho':OpR X (compareOp op') r')(ha:PE X a ta)(hb:PE X b tb)(hc:PE X c tc)
  (hm:lastMarks [op,op'] [b,c]=false:=by with_unfolding_all rfl):PT X (.Compare a [op,op'] [b,c] pos) (zuT (zu0 r r' ta tb tc)):=by
 intro pins s σ H Q I h
 refine isTrue_chain (thn (ha pins s σ H _ I h) fun v s1 ⟨x,H1,I1,r1,q1⟩=> test_link (thn (hb pins s1 σ H1 _ I1 q1) fun u s2 ⟨y,H2,I2,r2,q2⟩=>
  thn (ho pins s2 σ H2 x y v u _ I2 r1 r2 q2) fun d s3 ⟨z,H3,I3,r3,k,e,q3⟩=> ?_)) hm
 subst e
 cases r3
 refine wpAny_truthy_bool ?_
 cases k with
 | false=>
  obtain⟨k',e',q'⟩:=q3
  cases e'
  exact ite_ff ⟨H3,I3,q'⟩
 | true=>
  refine ite_tt (test_last (thn (hc pins s3 σ H3 _ I3 q3) fun w' s4 ⟨z',H4,I4,r4,q4⟩=> thn (ho' pins s4 σ H4 y z' u w' _ I4 r2 r4 q4) fun d' s5 zz=> ?_))
  obtain⟨z2,H5,I5,r5,k2,e2,q5⟩:=zz
  subst e2
  cases r5
  exact wpAny_truthy_bool ⟨H5,I5,q5⟩
theorem zjb:(sizeLine:Nat) < 2 ^ 63:=by rw[sizeLine_eq]; decide
theorem zqm{x:V}{us:List Value}(r:Vals [x] us):∃u,us=[u]/\RelV x u:=by
 cases r with
 | cons r1 r2=> cases r2; exact⟨_,rfl,r1⟩
theorem zns:zlM X (.builtin "ord") (fun xs H Q=>∃x,xs=[.str x]/\x.length=1/\Q (.int (x.cps.getD 0 0:Nat)) H):=by
 intro pins s σ H xs us Q I r h
 obtain⟨x,rfl,hz,q⟩:=h
 obtain⟨u,rfl,t,rfl⟩:=zqm r
 exact ord_of_one hz ⟨.int _,H,I.tok _,⟨_,rfl⟩,q⟩
end
end L2
namespace L2
open PySem PySem.Spec PyProof.Rows
structure ObjM (h:Heap) (x dx C:Addr) (mA:Str->Option Value):Prop where
 obj:h.get? x=some (PySem.W.instObj C dx)
 ns:h.Ns1 dx mA
 ne:dx≠x
theorem zpg{h:Heap}{dx:Addr}{mA:Str->Option Value}(n:h.Ns1 dx mA):∃od,h.get? dx=some od/\∀name,PySem.W.lookIn name od=some (mA name):=by
 obtain⟨o,es,ep,ho,hd,hk,_,hm⟩:=n
 refine⟨o,ho,fun name=> ?_⟩
 have e:=hm name
 unfold nsFind findBy at e
 rw[<- Array.find?_toList] at e
 unfold PySem.W.lookIn
 rw[hd]
 dsimp only
 split
 .rename_i y q
  rw[q] at e
  exact congrArg some e
 .rename_i q
  rw[q] at e
  have a:es.toList.any (·.refKey)=false:=by
   rw[List.any_eq_false]
   intro y hy
   obtain⟨z,t,hkey⟩:=hk y (Array.mem_toList_iff.mp hy)
   simp[DictEntry.refKey,hkey]
  have a':¬es.toList.any (·.refKey)=true:=by rw[a]; exact Bool.false_ne_true
  rw[if_neg a']
  exact congrArg some e
theorem ObjM.look{h:Heap}{x dx C:Addr}{mA:Str->Option Value}(I:ObjM h x dx C mA):∃od,PySem.W.InstAt h x (PySem.W.instObj C dx) C (some od)/\∀name,PySem.W.lookIn name od=some (mA name):=
 let ⟨od,ho,hl⟩:=zpg I.ns
 ⟨od,⟨I.obj,rfl,rfl,ho⟩,hl⟩
section
variable {prog:Program}{w:World}{A:Around}{E:Value->Shared->Prop}{s:Shared}{K:PySem.W.Frag}{x dx C f:Addr}{mA:Str->Option Value}{name:Str}{v:Value}
theorem ztD{expr:Bool}{Q:Value->Shared->Prop}(X:K.In s.heap)(I:ObjM s.heap x dx C mA)(hg:PySem.W.plainGet K C name=true)(hh:PySem.W.hasDictIn K C=true)
  (ha:PySem.W.findIn K (.ref C) name=some none) (hv:mA name=some v) (hv':PySem.W.handedIn v=true) (h:Q v {s with toks:=s.toks + 1}):
  wpAny (model prog w) A (getAttr (.ref x) name expr) Q E s:=by
 obtain⟨od,J,hl⟩:=I.look
 exact PySem.W.get_value X J (PySem.W.plainGet_of hg).1 (PySem.W.findObj_own hh ha rfl (by rw[hl,hv])) hv' h
theorem zrf{pl:Sem Bool}{Q:Value×List Value->Shared->Prop}(X:K.In s.heap)(I:ObjM s.heap x dx C mA)(hg:PySem.W.plainGet K C name=true)
  (hf:PySem.W.findIn K (.ref C) name=some (some (.ref f))) (ht:PySem.W.isFn K (.ref f)=true) (hv:mA name=none) (h:Q (.ref f,[.ref x]) s):
  wpAny (model prog w) A (getMethod (.ref x) name pl) Q E s:=by
 obtain⟨od,J,hl⟩:=I.look
 exact PySem.W.method_fn X J (PySem.W.plainGet_of hg).1 (PySem.W.plainGet_of hg).2 hf (beq_iff_eq.mp ht) (by show (PySem.W.lookIn name od).map (·.isSome)=some false; rw[hl,hv]; rfl) h
theorem zsP{ns:List Str}{Q:Unit->Shared->Prop}(X:K.In s.heap)(I:ObjM s.heap x dx C mA)
  (hs:PySem.W.findIn K (.ref C) "__setattr__"=some (some (.builtin "object.__setattr__"))) (hp:PySem.W.plainOver K C=true) (ht:PySem.W.takerIn K C name=some none) (hh:PySem.W.hasDictIn K C=true)
  (hw:PySem.Within mA ns) (hsz:ns.length<=sizeLine)
  (h:∀h',ObjM h' x dx C (fun y=> if y=name then some v else mA y)->Heap.SameBut dx s.heap h'->Q () {s with heap:=h',toks:=s.toks + 2}):
  wpAny (model prog w) A (setAttr (.ref x) name v) Q E s:=by
 obtain⟨od,J,hl⟩:=I.look
 refine PySem.W.set_plain X J hs (PySem.W.osa_open (s:={s with toks:=s.toks + 1}) (r:=none) X J hp ht fun b=> ?_)
 obtain⟨cd,hc,hd'⟩:=PySem.W.any_some hh
 have hx:s.heap.get? x=some ⟨.ref C,some dx,.plain,#[]⟩:=I.obj
 refine wpAny_bind (wpAny_pure (wpAny_bind (wpAny_bind (wpAny_loadPart hx (wpAny_bind (PySem.W.Looks.here (s:={s with toks:=s.toks + 1}) (PySem.W.looks_clsIn X hc) ?_))))))
 rw[hd']
 refine wpAny_pure (a:=some dx) (wpAny_bind (wpAny_pure (wpAny_bind ?_)))
 refine wpAny_nsSet1 (s:={s with toks:=s.toks + 1}) I.ns fun h' hn2 hs2=> ?_
 obtain⟨oD,esD,epD,hoD,hdD,hcD⟩:=hn2.count (PySem.Within.cons name v hw)
 refine wpAny_bind (wpAny_lookBehind hoD (by rw[hdD]; exact pastItsLine_dict (Nat.le_trans hcD (by rw[List.length_cons]; omega))) ?_)
 exact wpAny_pure (h _ ⟨(hs2.2 _ (Ne.symm I.ne)).trans I.obj,hn2,I.ne⟩ hs2)
theorem zq3{R:Result->Shared->Prop}{vs:List Value}{kw:List (Str×Value)}(X:K.In s.heap)(hm:PySem.W.makesIn K C=true)
  (hi:PySem.W.findIn K (.ref C) "__init__"=some (some (.ref f))) (hf:PySem.W.typeIn K (.ref f)=some (.type "function"))
  (h:codeAny (model prog w) (A.under (.builtin "type.__call__" ⟨.ref C::vs,kw⟩)) (.call (.ref f) ⟨.ref (s.heap.objs.size + 1)::vs,kw⟩) (PySem.W.InitBack (s.heap.objs.size + 1) R)
   {s with heap:=(s.heap.push PySem.W.emptyDict).push (PySem.W.instObj C s.heap.objs.size)}):
  codeAny (model prog w) A (.call (.ref C) ⟨vs,kw⟩) R s:=by
 obtain⟨hh,g,d,t,os⟩:=s
 exact PySem.W.make_core (PySem.W.makes_of X hm) (PySem.W.looks_findIn X hi) (fun self=> PySem.W.bind_fn X self hf) (.inl rfl) h
end
def putF(f:Str)(v:V):List (Str×V)->List (Str×V)
 | []=> [(f,v)]
 |(g,x)::r=> if g=f then (g,v)::r else (g,x)::putF f v r
theorem zja(f g:Str)(v:V):∀fs:List (Str×V),(putF f v fs).lookup g=if g=f then some v else fs.lookup g
 | []=> by
  show List.lookup g [(f,v)]=_
  by_cases h:g=f
  .have hb:(g==f)=true:=beq_iff_eq.mpr h
   simp only[List.lookup,hb,if_pos h]
  .have hb:(g==f)=false:=beq_eq_false_iff_ne.mpr h
   simp only[List.lookup,hb,if_neg h]
 |(k,x)::r=> by
  have ih:=zja f g v r
  rw[show putF f v ((k,x)::r)=(if k=f then (k,v)::r else (k,x)::putF f v r) from rfl]
  by_cases hk:k=f
  .rw[if_pos hk]
   by_cases h:g=k
   .have hb:(g==k)=true:=beq_iff_eq.mpr h
    simp only[List.lookup,hb,if_pos (h.trans hk)]
   .have hb:(g==k)=false:=beq_eq_false_iff_ne.mpr h
    simp only[List.lookup,hb,if_neg (fun e:g=f=> h (e.trans hk.symm))]
  .rw[if_neg hk]
   by_cases h:g=k
   .have hb:(g==k)=true:=beq_iff_eq.mpr h
    simp only[List.lookup,hb,if_neg (fun e:g=f=> hk (h.symm.trans e))]
   .have hb:(g==k)=false:=beq_eq_false_iff_ne.mpr h
    simp only[List.lookup,hb]
    exact ih
theorem zje(f:Str)(v:V):∀fs:List (Str×V),f∈(putF f v fs).map (·.1)/\∀g,g∈fs.map (·.1)->g∈(putF f v fs).map (·.1)
 | []=> ⟨by simp[putF],fun g h=> by simp at h⟩
 |(k,x)::r=> by
  obtain⟨i1,i2⟩:=zje f v r
  rw[show putF f v ((k,x)::r)=(if k=f then (k,v)::r else (k,x)::putF f v r) from rfl]
  by_cases hk:k=f
  .rw[if_pos hk]
   subst hk
   exact⟨by simp,fun g h=> by simpa using h⟩
  .rw[if_neg hk]
   refine⟨?_,fun g h=> ?_⟩
   .rw[List.map_cons]
    exact List.mem_cons_of_mem _ i1
   .rw[List.map_cons] at h |-
    rcases List.mem_cons.mp h with e | e
    .exact List.mem_cons.mpr (.inl e)
    .exact List.mem_cons_of_mem _ (i2 g e)
theorem zjd(f:Str)(v:V):∀fs:List (Str×V),(putF f v fs).length<=fs.length + 1
 | []=> by simp[putF]
 |(k,x)::r=> by
  have ih:=zjd f v r
  rw[show putF f v ((k,x)::r)=(if k=f then (k,v)::r else (k,x)::putF f v r) from rfl]
  by_cases hk:k=f
  .rw[if_pos hk,List.length_cons,List.length_cons]; omega
  .rw[if_neg hk,List.length_cons,List.length_cons]; omega
theorem RelO.some_of{v:V}{o:Option Value}(r:RelO (some v) o):∃u,o=some u/\RelV v u:=by
 cases o with
 | none=> exact (show False from r).elim
 | some u=> exact⟨u,rfl,r⟩
theorem RelO.none_of{o:Option Value}(r:RelO none o):o=none:=by
 cases o with
 | none=> rfl
 | some u=> exact (show False from r).elim
theorem zpt{v:V}{u:Value}(r:RelV v u):PySem.W.handedIn u=true:=by
 cases v with
 | non=> cases (show u=Value.none from r); rfl
 | bl b=> cases (show u=Value.bool b from r); rfl
 | int i=> obtain⟨t,e⟩:=(show∃t,u=Value.int i t from r); cases e; rfl
 | str x=> obtain⟨t,e⟩:=(show∃t,u=Value.str x t from r); cases e; rfl
 | byt b=> obtain⟨t,e⟩:=(show∃t,u=Value.bytes b t from r); cases e; rfl
 | flt b=> obtain⟨t,e⟩:=(show∃t,u=Value.float b t from r); cases e; rfl
 | ref a=> cases (show u=Value.ref a from r); rfl
 | ty n=> cases (show u=Value.type n from r); rfl
section
variable {P:Program}{w:World}{H H':Hp}{h h':Heap}{a C dx:Addr}{fs fs':List (Str×V)}
theorem zma(hok:HOk P w H h)(e:H a=some (.ins C dx fs)):∃mA,ObjM h a dx C mA/\(∀f,RelO (fs.lookup f) (mA f))/\PySem.Within mA (fs.map (·.1))/\fs.length<=1000/\H dx=some (.own a):=by
 obtain⟨d,z,ne,ob,mA,n,r,q⟩:=(show ObjOk P w H h a (.ins C dx fs) from hok a _ e)
 exact⟨mA,⟨ob,n,ne⟩,r,q,z,d⟩
end
structure Cls (K:PySem.W.Frag) (C:Addr):Prop where
 pg:PySem.W.plainGet K C Str.empty=true
 hd:PySem.W.hasDictIn K C=true
 po:PySem.W.plainOver K C=true
 sa:PySem.W.findIn K (.ref C) "__setattr__"=some (some (.builtin "object.__setattr__"))
theorem Cls.get{K:PySem.W.Frag}{C:Addr}(c:Cls K C)(f:Str):PySem.W.plainGet K C f=true:=c.pg
def NoAttr(K:PySem.W.Frag)(C:Addr)(f:Str):Prop:=PySem.W.findIn K (.ref C) f=some none
theorem NoAttr.taker{K:PySem.W.Frag}{C:Addr}{f:Str}(n:NoAttr K C f):PySem.W.takerIn K C f=some none:=by
 unfold PySem.W.takerIn
 rw[show PySem.W.findIn K (.ref C) f=some none from n]
 rfl
structure Meth (K:PySem.W.Frag) (C:Addr) (m:Str) (f:Addr):Prop where
 at_:PySem.W.findIn K (.ref C) m=some (some (.ref f))
 fn:PySem.W.isFn K (.ref f)=true
 kp:PySem.W.keepIn K (.ref f)=true
section
variable {X:Cx}{pins:List (Addr×Obj)}{σ:St}{H:Hp}{s:Shared}{a C dx:Addr}{fs:List (Str×V)}{f:Str}{v:V}{A:Around}{E:Value->Shared->Prop}
theorem zj7{b:Bool}{Q:Value->Shared->Prop}(I:Inv X pins σ H s)(e:H a=some (.ins C dx fs))(c:Cls X.K C)(n:NoAttr X.K C f)(l:fs.lookup f=some v)
  (h:∀u s',Inv X pins σ H s'->RelV v u->Q u s'):wpAny (model X.prog X.w) A (getAttr (.ref a) f b) Q E s:=by
 obtain⟨mA,O,r,_,_,_⟩:=zma I.hok e
 obtain⟨u,hu,ru⟩:=RelO.some_of (v:=v) (o:=mA f) (by rw[<- l]; exact r f)
 exact ztD I.kIn O (c.get f) c.hd n hu (zpt ru) (h u _ (I.tok _) ru)
theorem zj6{m:Str}{g:Addr}{pl:Sem Bool}{Q:Value×List Value->Shared->Prop}(I:Inv X pins σ H s)(e:H a=some (.ins C dx fs))(c:Cls X.K C)(k:Meth X.K C m g)(l:fs.lookup m=none)
  (h:Q (.ref g,[.ref a]) s):wpAny (model X.prog X.w) A (getMethod (.ref a) m pl) Q E s:=by
 obtain⟨mA,O,r,_,_,_⟩:=zma I.hok e
 have hn:mA m=none:=RelO.none_of (by rw[<- l]; exact r m)
 exact zrf I.kIn O (c.get m) k.at_ k.fn hn h
theorem zjZ{y:V}{u:Value}{Q:Unit->Shared->Prop}(I:Inv X pins σ H s)(e:H a=some (.ins C dx fs))(c:Cls X.K C)(n:NoAttr X.K C f)(hl:fs.length < 1000)(ry:RelV y u)
  (h:∀s',Inv X pins σ (upd H a (.ins C dx (putF f y fs))) s'->Q () s'):wpAny (model X.prog X.w) A (setAttr (.ref a) f u) Q E s:=by
 obtain⟨mA,O,r,wi,_,ho⟩:=zma I.hok e
 have hz:(fs.map (·.1)).length<=sizeLine:=by rw[List.length_map,sizeLine_eq]; omega
 refine zsP I.kIn O c.sa c.po n.taker c.hd wi hz fun h' O' sb=> h _ ?_
 have hd:∃o,h'.get? dx=some o:=let ⟨o,_,_,e',_⟩:=O'.ns;⟨o,e'⟩
 refine I.write (x:=a) (e:=dx) (by rw[e]; exact True.intro) (.inr ho) (fun b q hb z=> (sb.2 b hb).trans z) hd ?_
 refine⟨by rw[zbH O.ne]; exact ho,?_,O.ne,O'.obj,_,O'.ns,fun g=> ?_,fun g hg=> ?_⟩
 .have:=zjd f y fs; omega
 .show RelO ((putF f y fs).lookup g) (if g=f then some u else mA g)
  rw[zja]
  by_cases q:g=f
  .rw[if_pos q,if_pos q]; exact ry
  .rw[if_neg q,if_neg q]; exact r g
 .by_cases q:g=f
  .rw[q]; exact (zje f y fs).1
  .refine (zje f y fs).2 g (wi g fun z=> hg ?_)
   show (if g=f then some u else mA g)=none
   rw[if_neg q]; exact z
theorem Inv.made(I:Inv X pins σ H s):Inv X pins σ (upd (upd H s.heap.objs.size (.own (s.heap.objs.size + 1))) (s.heap.objs.size + 1) (.ins C s.heap.objs.size []))
  {s with heap:=(s.heap.push PySem.W.emptyDict).push (PySem.W.instObj C s.heap.objs.size)}:=by
 have e1:(s.heap.push PySem.W.emptyDict).get? s.heap.objs.size=some PySem.W.emptyDict:=Heap.get?_push_size s.heap rfl
 have e2:((s.heap.push PySem.W.emptyDict).push (PySem.W.instObj C s.heap.objs.size)).get? (s.heap.objs.size + 1)=some (PySem.W.instObj C s.heap.objs.size):=by
  have:=Heap.get?_push_size (s.heap.push PySem.W.emptyDict) (o:=PySem.W.instObj C s.heap.objs.size) rfl
  rwa [Heap.size_push] at this
 have e3:(s.heap.push PySem.W.emptyDict).Ns s.heap.objs.size (fun _=> none):=⟨PySem.W.emptyDict,#[],_,e1,rfl,(fun e he=> absurd he (by simp)),fun _=> rfl⟩
 have I1:=I.laid (a:=s.heap.objs.size) (o:= .own (s.heap.objs.size + 1)) (h':=s.heap.push PySem.W.emptyDict) (t':=s.toks) (fun b u q=> Heap.get?_push_of_some _ q) (Nat.le_refl _) ⟨_,e1⟩
 refine I1.laid (a:=s.heap.objs.size + 1) (o:= .ins C s.heap.objs.size []) (t':=s.toks) (fun b u q=> Heap.get?_push_of_some _ q) (Nat.le_of_eq (Heap.size_push _ _)) ?_
 have ne:s.heap.objs.size≠s.heap.objs.size + 1:=Nat.ne_of_lt (Nat.lt_succ_self _)
 refine⟨by rw[zbH ne,zbS],Nat.zero_le _,ne,e2,fun _=> none,(Heap.Ns1.of_empty e3).at fun o q=> Heap.get?_push_of_some _ q,fun _=> True.intro,fun y hy=> absurd rfl hy⟩
theorem zuj{prog:Program}{w:World}{env:Env}{e:Expr}{f:Str}{pos:Pos}{s:Shared}{Q:Value->Shared->Prop}(hb:attributeBase e f env (eval e env)=eval e env)
  (h:wpAny (model prog w) A (eval e env) (fun o s₁=> wpAny (model prog w) A (getAttr o f true) Q E s₁) E s):wpAny (model prog w) A (eval (.Attribute e f pos) env) Q E s:=
 Attribute_any_ h (by rw[arm_eval_Attribute,hb])
end
def zy0(K:PySem.W.Frag)(ta:TE)(f:Str):TE:=fun σ H Q=> ta σ H fun x H1=>∃a C dx fs v,x= .ref a/\H1 a=some (.ins C dx fs)/\Cls K C/\NoAttr K C f/\fs.lookup f=some v/\Q v H1
def zco(K:PySem.W.Frag)(ta tv:TE)(f:Str):TS:=fun D σ H=> tv σ H fun y H1=> ta σ H1 fun x H2=>∃a C dx fs,x= .ref a/\H2 a=some (.ins C dx fs)/\Cls K C/\NoAttr K C f/\fs.length < 1000/\
 D.nx σ (upd H2 a (.ins C dx (putF f y fs)))
def zzv(X:Cx)(op:Operator)(rd:V->V->Hp->VK->Prop):Prop:=
 ∀(pins:List (Addr×Obj)) (s:Shared) (σ:St) (H:Hp) (x y:V) (u v:Value) (Q:VK),Inv X pins σ H s->RelV x u->RelV y v->rd x y H Q->wpAny (model X.prog X.w) X.A (inplaceOp op u v) (EP X pins σ Q) X.xe s
def zdU(K:PySem.W.Frag)(ta tv:TE)(rd:V->V->Hp->VK->Prop)(f:Str):TS:=fun D σ H=> ta σ H fun x H1=>∃a C dx fs v,x= .ref a/\H1 a=some (.ins C dx fs)/\Cls K C/\NoAttr K C f/\fs.lookup f=some v/\
 tv σ H1 fun y H2=> rd v y H2 fun z H3=>∃dx' fs',H3 a=some (.ins C dx' fs')/\fs'.length < 1000/\D.nx σ (upd H3 a (.ins C dx' (putF f z fs')))
section
variable {X:Cx}{o e value:Expr}{f:Str}{pos pos' tpos:Pos}{ta tv:TE}
theorem zvB(he:PE X e ta)(hb:attributeBase e f X.env (eval e X.env)=eval e X.env):PE X (.Attribute e f pos) (zy0 X.K ta f):=by
 intro pins s σ H Q I h
 refine zuj hb (thn (he pins s σ H _ I h) fun u s1 zz=> ?_)
 obtain⟨x,H1,I1,rx,a,C,dx,fs,v,ex,ea,c,n,l,q⟩:=zz
 subst ex
 obtain rfl:u=Value.ref a:=rx
 exact zj7 I1 ea c n l fun u' s2 I2 ru=> ⟨v,H1,I2,ru,q⟩
theorem zvr(ha:PE X o ta)(hv:PE X value tv)(hs:swapsWith value (some (.Attribute o f pos')) pos.line X.env=pure false):PS X (.Assign [.Attribute o f pos'] value pos) (zco X.K ta tv f):=by
 intro pins s σ H D I h
 refine plainObj_wpAny_Assign_Attribute (thn (hv pins s σ H _ I h) fun u s1 ⟨y,H1,I1,ry,q⟩=> thn (ha pins s1 σ H1 _ I1 q) fun ov s2 zz=> ?_) hs
 obtain⟨x,H2,I2,rx,a,C,dx,fs,ex,ea,c,n,l,q2⟩:=zz
 subst ex
 obtain rfl:ov=Value.ref a:=rx
 exact zjZ I2 ea c n l ry fun s3 I3=> ⟨σ,_,I3,q2⟩
theorem zoU{op:Operator}{rd:V->V->Hp->VK->Prop}(ha:PE X o ta)(hv:PE X value tv)(hop:zzv X op rd):PS X (.AugAssign (.Attribute o f tpos) op value pos) (zdU X.K ta tv rd f):=by
 intro pins s σ H D I h
 refine wpAny_AugAssign_AttributeAny (thn (ha pins s σ H _ I h) fun ov s1 zz=> ?_)
 obtain⟨x,H1,I1,rx,a,C,dx,fs,v,ex,ea,c,n,l,q⟩:=zz
 subst ex
 obtain rfl:ov=Value.ref a:=rx
 refine zj7 I1 ea c n l fun u s2 I2 ru=> thn (hv pins s2 σ H1 _ I2 q) fun w3 s3 ⟨y,H2,I3,ry,q3⟩=> thn (hop pins s3 σ H2 v y u w3 _ I3 ru ry q3) fun w4 s4 zz=> ?_
 obtain⟨z,H3,I4,rz,dx',fs',ea',l',q4⟩:=zz
 exact zjZ I4 ea' c n l' rz fun s5 I5=> ⟨σ,_,I5,q4⟩
end
section
variable {X:Cx}{pins:List (Addr×Obj)}{σ:St}{H:Hp}{s:Shared}{A:Around}{E:Value->Shared->Prop}{Q:Value->Shared->Prop}{c:Value}{b:Bool}
end
end L2
namespace L2
open PySem PySem.Spec PyProof.Rows
structure Room (k:Nat) (A:Around):Prop where
 hd:A.handled=none
 dp:A.depth + 3 * k + 5 < recursionLimit
 un:A.units + 16 * k + 200 < cLine
theorem Room.mono{j k:Nat}{A:Around}(r:Room k A)(h:j<=k):Room j A:=⟨r.hd,by have:=r.dp; omega,by have:=r.un; omega⟩
theorem Room.deeper{k:Nat}{A:Around}(r:Room (k + 1) A)(env:Env):Room k (A.deeper env):=
 ⟨r.hd,by have:=r.dp; show A.depth + 1 + 3 * k + 5 < _; omega,by have:=r.un; show A.units + 3 + 16 * k + 200 < _; omega⟩
theorem znR{A:Around}{C:Addr}{us:List Value}{kw:List (Str×Value)}:(A.under (.builtin "type.__call__" ⟨.ref C::us,kw⟩)).depth=A.depth + 1:=by
 first | rfl | simp[Around.under,Code.weight,Code.isCreation,Code.isGuard,Code.isCaller,Code.frames,Code.isFrame,guardIds]
theorem znQ{A:Around}{C:Addr}{us:List Value}{kw:List (Str×Value)}:(A.under (.builtin "type.__call__" ⟨.ref C::us,kw⟩)).units=A.units + 1:=by
 first | rfl | simp[Around.under,Code.cUnits,Code.frames,Code.isFrame]
theorem Room.make{k:Nat}{A:Around}(r:Room (k + 1) A)(C:Addr)(us:List Value)(kw:List (Str×Value)):Room k (A.under (.builtin "type.__call__" ⟨.ref C::us,kw⟩)):=
 ⟨r.hd,by have:=r.dp; rw[znR]; omega,by have:=r.un; rw[znQ]; omega⟩
theorem Room.depth{k:Nat}{A:Around}(r:Room k A):A.depth < recursionLimit:=by have:=r.dp; omega
theorem Room.units{k:Nat}{A:Around}(r:Room k A):A.units + 64 < cLine:=by have:=r.un; omega
def zuU:TA:=fun _ H Q=> Q [] H
def zxG(ta:TE)(tr:TA):TA:=fun σ H Q=> ta σ H fun x H1=> tr σ H1 fun xs H2=> Q (x::xs) H2
section
variable {X:Cx}{e:Expr}{es:List Expr}{te:TE}{t:TA}{pos:Pos}
theorem zfy:PA X [] zuU:=fun _ _ _ _ H Q I h=> Calls.spliced_nil ⟨[],H,I,.nil,h⟩
theorem zel(ha:PE X e te)(hr:PA X es t)(hs:starEach (e::es) X.env=(false,eval e X.env)::starEach es X.env:=by rfl):PA X (e::es) (zxG te t):=by
 intro pos pins s σ H Q I h
 rw[hs]
 show wpAny _ _ (spliced ((false,eval e X.env)::backTo pos (starEach es X.env))) _ _ s
 refine Calls.spliced_cons (thn (ha pins s σ H _ I h) fun u s1 zz=> ?_)
 obtain⟨x,H1,I1,r1,q1⟩:=zz
 exact thn (hr pos pins s1 σ H1 _ I1 q1) fun us s2 ⟨xs,H2,I2,r2,q2⟩=> ⟨x::xs,H2,I2,.cons r1 r2,q2⟩
def zyS(t:TA):TE:=fun σ H Q=> t σ H fun xs H1=> xs.length<=sizeLine/\∀p,H1 p=none->Q (.ref p) (upd H1 p (.tup xs))
def zyW(t:TA):TE:=fun σ H Q=> t σ H fun xs H1=> xs.length<=sizeLine/\∀p,H1 p=none->Q (.ref p) (upd H1 p (.lst xs))
theorem zoY{x1}(h:PA X es t):PE X (.Tuple es x1 pos) (zyS t):=by
 intro pins s σ H Q I hq
 refine wpAny_Tuple_spliced (thn (h pos pins s σ H _ I hq) fun us s1 ⟨xs,H1,I1,r,z,q⟩=> ⟨by rw[<- r.length]; exact z,?_⟩)
 have hf:H1 s1.heap.objs.size=none:=I1.hok.fresh (Nat.le_refl _)
 refine⟨.ref s1.heap.objs.size,upd H1 s1.heap.objs.size (.tup xs),I1.laid (t':=s1.toks) (fun b u e=> Heap.get?_push_of_some _ e) (Nat.le_refl _) ?_,rfl,q _ hf⟩
 exact⟨z,us,r,⟨_,Heap.get?_push_size _ rfl,rfl,_,rfl⟩⟩
theorem zvy(h:PA X es t):PE X (.List es pos) (zyW t):=by
 intro pins s σ H Q I hq
 refine wpAny_List_spliced (thn (h pos pins s σ H _ I hq) fun us s1 ⟨xs,H1,I1,r,z,q⟩=> ⟨by rw[<- r.length]; exact z,?_⟩)
 have hf:H1 s1.heap.objs.size=none:=I1.hok.fresh (Nat.le_refl _)
 refine⟨.ref s1.heap.objs.size,upd H1 s1.heap.objs.size (.lst xs),I1.laid (t':=s1.toks) (fun b u e=> Heap.get?_push_of_some _ e) (Nat.le_refl _) ?_,rfl,q _ hf⟩
 exact⟨z,us,0,r,Heap.get?_push_size _ rfl⟩
end
abbrev Sp:=List V->Hp->VK->XK->Prop
abbrev CXT:=List Env->Hp->Shared->XK->Value->Shared->Prop
structure Env0 (P:Program) (w:World) (K:PySem.W.Frag) (mg:Str->Option Value) (base:Heap) (A:Around) (outer:List Env) (s:Shared) (H:Hp):Prop where
 frames:A.frames=some outer
 mod:Mod K mg base
 bs:∀b o,base.get? b=some o->s.heap.get? b=some o/\H b=none
 bsz:base.objs.size<=s.heap.objs.size
 funs:s.heap.FunFrames base outer
 frf:∀b∈frs outer,H b=none
 hok:HOk P w H s.heap
 bare:AllBare s.gens
def CE(outer:List Env)(P:Program)(w:World)(H:Hp)(s:Shared)(Q:VK)(u:Value)(s':Shared):Prop:=
 ∃v H',s'.os=s.os/\AllBare s'.gens/\Un (frs outer) [] H H' s.heap s'.heap/\HOk P w H' s'.heap/\RelV v u/\Q v H'
def CR(CX:CXT)(outer:List Env)(P:Program)(w:World)(H:Hp)(s:Shared)(Q:VK)(E:XK)(r:Result)(s':Shared):Prop:=
 match r with
 | .ok (.ret u)=> CE outer P w H s Q u s'
 | .ok _=> False
 | .error e=> CX outer H s E e s'
structure FnOk (P:Program) (w:World) (K:PySem.W.Frag) (mg:Str->Option Value) (base:Heap) (CX:CXT) (k:Nat) (f:Addr) (fd:FuncData) (ps:List Str) (sp:Sp):Prop where
 len:∀vs H Q E,sp vs H Q E->vs.length=ps.length
 run:∀(A:Around) (outer:List Env) (s:Shared) (H:Hp) (args:Args) (us:List Value) (vs:List V) (Q:VK) (E:XK),Room k A->Env0 P w K mg base A outer s H->BindsTo s fd args (ps.zip us)->Vals vs us->sp vs H Q E->
  codeAny (model P w) A (.call (.ref f) args) (CR CX outer P w H s Q E) s
theorem FnOk.imp{P:Program}{w:World}{K:PySem.W.Frag}{mg:Str->Option Value}{base:Heap}{CX:CXT}{k:Nat}{f:Addr}{fd:FuncData}{ps:List Str}{sp sp':Sp}(F:FnOk P w K mg base CX k f fd ps sp)
  (h:∀vs H Q E,sp' vs H Q E->sp vs H Q E):FnOk P w K mg base CX k f fd ps sp':=
 ⟨fun vs H Q E q=> F.len vs H Q E (h _ _ _ _ q),fun A outer s H args us vs Q E hr he hb hv hs=> F.run A outer s H args us vs Q E hr he hb hv (h _ _ _ _ hs)⟩
theorem Env0.make{P:Program}{w:World}{K:PySem.W.Frag}{mg:Str->Option Value}{base:Heap}{A:Around}{outer:List Env}{s:Shared}{H:Hp}(e:Env0 P w K mg base A outer s H)(C:Addr)(us:List Value)(kw:List (Str×Value)):
  Env0 P w K mg base (A.under (.builtin "type.__call__" ⟨.ref C::us,kw⟩)) outer s H:=⟨by first | exact e.frames |(simpa[Around.under,Code.envs,Code.isFrame,pushEnvs] using e.frames),e.mod,e.bs,e.bsz,e.funs,e.frf,e.hok,e.bare⟩
section
variable {X:Cx}{pins:List (Addr×Obj)}{σ:St}{H:Hp}{s s':Shared}
theorem Inv.env0(I:Inv X pins σ H s):Env0 X.prog X.w X.K X.mg X.base X.A X.stack s H:=
 ⟨I.ok.frames,I.ok.mod,I.bs,Nat.le_trans I.ok.bsz I.sz,I.stack,I.stkFree,I.hok,I.bare⟩
theorem Inv.after{Q:VK}{u:Value}(I:Inv X pins σ H s)(h:CE X.stack X.prog X.w H s Q u s'):EP X pins σ Q u s':=by
 obtain⟨v,H',os,bare,un,hok,r,q⟩:=h
 obtain⟨hh,g,d,t,os'⟩:=s'
 obtain rfl:os'=s.os:=os
 exact⟨v,H',I.call (h':=hh) (g':=g) (d':=d) (t':=t) (ch:=[]) un hok bare (fun b z=> absurd z (by simp)),r,q⟩
end
def zu1(sp:Sp)(dvs:List V)(E:XK)(t:TA):TE:=fun σ H Q=> t σ H fun vs H1=> sp (vs ++ dvs) H1 Q E
def zqr(C:Addr)(m:Str)(sp:Sp)(dvs:List V)(E:XK)(ta:TE)(t:TA):TE:=fun σ H Q=> ta σ H fun x H1=>∃a dx fs,x= .ref a/\H1 a=some (.ins C dx fs)/\fs.lookup m=none/\
 t σ H1 fun vs H2=> sp (x::(vs ++ dvs)) H2 Q E
def zqs(C:Addr)(sp:Sp)(dvs:List V)(E:XK)(t:TA):TE:=fun σ H Q=> t σ H fun vs H1=>∀x dx,H1 x=none->H1 dx=none->dx≠x->
 sp (.ref x::(vs ++ dvs)) (upd (upd H1 dx (.own x)) x (.ins C dx [])) (fun v H2=> v= .non/\Q (.ref x) H2) E
def Binds(K:PySem.W.Frag)(fd:FuncData)(ps:List Str)(ds:List Value):Prop:=
 ∀(s:Shared) (us:List Value),K.In s.heap->(us ++ ds).length=ps.length->BindsTo s fd ⟨us,[]⟩ (ps.zip (us ++ ds))
theorem Binds.all{K:PySem.W.Frag}{fd:FuncData}{ps:List Str}(h:∀us:List Value,us.length=ps.length->bindArgs fd ⟨us,[]⟩=pure (ps.zip us)):Binds K fd ps []:=fun s us _ hl=> by
 rw[List.append_nil] at hl |-
 exact .of_eq (h us hl)
def zio(CX:CXT)(X:Cx)(E:XK):Prop:=∀(pins:List (Addr×Obj)) (σ:St) (H:Hp) (s:Shared) (e:Value) (s':Shared),Inv X pins σ H s->CX X.stack H s E e s'->X.xe e s'
section
variable {X:Cx}{CX:CXT}{k:Nat}{f C:Addr}{fd:FuncData}{ps:List Str}{sp:Sp}{dvs:List V}{ds:List Value}{E:XK}{x m:Str}{p pos apos:Pos}{e o:Expr}{es:List Expr}{ta:TE}{t:TA}
theorem zoJ{pins:List (Addr×Obj)}{σ:St}{H:Hp}{s:Shared}{Q:VK}{us:List Value}{vs:List V}(F:FnOk X.prog X.w X.K X.mg X.base CX k f fd ps sp)(hr:Room k X.A)(hb:Binds X.K fd ps ds)(hd:Vals dvs ds)(hx:zio CX X E)
  (I:Inv X pins σ H s) (r:Vals vs us) (h:sp (vs ++ dvs) H Q E):wpAny (model X.prog X.w) X.A (call (.ref f) us) (EP X pins σ Q) X.xe s:=by
 have r2:Vals (vs ++ dvs) (us ++ ds):=r.append hd
 have hl:(us ++ ds).length=ps.length:=by rw[<- r2.length]; exact F.len _ _ _ _ h
 refine wpAny_call (codeAny_mono (F.run X.A X.stack s H ⟨us,[]⟩ (us ++ ds) (vs ++ dvs) Q E hr I.env0 (hb s us I.kIn hl) r2 h) fun r s' hq=> ?_)
 cases r with
 | error e=> exact hx pins σ H s e s' I hq
 | ok fl=>
  cases fl with
  | ret u=> exact I.after hq
  | next=> exact False.elim hq
  | brk=> exact False.elim hq
  | cont=> exact False.elim hq
theorem zth(F:FnOk X.prog X.w X.K X.mg X.base CX k f fd ps sp)(hr:Room k X.A)(hg:Gl X x)(hm:X.mg x=some (.ref f))(hk:PySem.W.keepIn X.K (.ref f)=true)(hb:Binds X.K fd ps ds)(hd:Vals dvs ds)(hx:zio CX X E)
  (ha:PA X (e::es) t) (hdb:(x==("__debug__":Str))=false:=by decide) (he:starEach (e::es) X.env=(false,eval e X.env)::starEach es X.env:=by rfl) (hpl:(backTo pos (starEach es X.env)).any (·.1)=false:=by rfl):
  PE X (.Call (.Name x p) (e::es) [] pos) (zu1 sp dvs E t):=by
 intro pins s σ H Q I h
 refine wpAny_Call_Name_kw (zkz I hg hm ?_ hdb)
 refine PySem.W.callWith_K (h₀:=X.base) I.ok.mod.kin hk (thn (ha pos pins s σ H _ I h) fun us s1 ⟨vs,H1,I1,r,q⟩=> ⟨I1.kIn,?_⟩) he hpl
 exact zoJ F hr hb hd hx I1 r q
theorem zte{pl:Sem Bool}(he:PE X o ta)(c:Cls X.K C)(hm:Meth X.K C m f)(F:FnOk X.prog X.w X.K X.mg X.base CX k f fd ps sp)(hr:Room k X.A)(hb:Binds X.K fd ps ds)(hd:Vals dvs ds)(hx:zio CX X E)(ha:PA X (e::es) t)
  (hst:starEach (e::es) X.env=(false,eval e X.env)::starEach es X.env:=by rfl) (hpl:(backTo pos (starEach es X.env)).any (·.1)=false:=by rfl)
  (ht:eval (.Call (.Attribute o m apos) (e::es) [] pos) X.env=(do
   let ov <- eval o X.env
   standAt apos.atName
   let (f,first) <- holding [ov] (getMethod ov m pl)
   callWith pos f first (backTo pos (starEach (e::es) X.env)) (backToKw pos (keywordEach [] X.env))):=by rfl):
  PE X (.Call (.Attribute o m apos) (e::es) [] pos) (zqr C m sp dvs E ta t):=by
 intro pins s σ H Q I h
 refine PySem.W.methodCall_KW (pl:=pl) (thn (he pins s σ H _ I h) fun u s1 zz=> ?_) ht
 obtain⟨x,H1,I1,rx,a,dx,fs,ex,ea,l,q⟩:=zz
 subst ex
 obtain rfl:u=Value.ref a:=rx
 refine zj6 I1 ea c hm l ?_
 refine PySem.W.callWith_K (first:=[.ref a]) (h₀:=X.base) I.ok.mod.kin hm.kp (thn (ha pos pins s1 σ H1 _ I1 q) fun us s2 ⟨vs,H2,I2,r,q2⟩=> ⟨I2.kIn,?_⟩) hst hpl
 exact zoJ (us:= .ref a::us) (vs:= .ref a::vs) F hr hb hd hx I2 (.cons rfl r) q2
theorem zqN{pl:Sem Bool}(he:PE X o ta)(c:Cls X.K C)(hm:Meth X.K C m f)(F:FnOk X.prog X.w X.K X.mg X.base CX k f fd ps sp)(hr:Room k X.A)(hb:Binds X.K fd ps ds)(hd:Vals dvs ds)(hx:zio CX X E)
  (ht:eval (.Call (.Attribute o m apos) [] [] pos) X.env=(do
   let ov <- eval o X.env
   standAt apos.atName
   let (f,first) <- holding [ov] (getMethod ov m pl)
   callWith pos f first (backTo pos (starEach [] X.env)) (backToKw pos (keywordEach [] X.env))):=by rfl):
  PE X (.Call (.Attribute o m apos) [] [] pos) (zqr C m sp dvs E ta zuU):=by
 intro pins s σ H Q I h
 refine PySem.W.methodCall_KW (pl:=pl) (thn (he pins s σ H _ I h) fun u s1 zz=> ?_) ht
 obtain⟨x,H1,I1,rx,a,dx,fs,ex,ea,l,q⟩:=zz
 subst ex
 obtain rfl:u=Value.ref a:=rx
 refine zj6 I1 ea c hm l ?_
 exact PySem.W.callWith_K0 (first:=[.ref a]) I1.kIn hm.kp (zoJ (us:=[.ref a]) (vs:=[.ref a]) F hr hb hd hx I1 (.cons rfl .nil) q)
structure Mk (K:PySem.W.Frag) (C f:Addr):Prop where
 makes:PySem.W.makesIn K C=true
 init:PySem.W.findIn K (.ref C) "__init__"=some (some (.ref f))
 fn:PySem.W.isFn K (.ref f)=true
 kp:PySem.W.keepIn K (.ref C)=true
theorem zmM{pins:List (Addr×Obj)}{σ:St}{H:Hp}{s:Shared}{Q:VK}{us:List Value}{vs:List V}(M:Mk X.K C f)(F:FnOk X.prog X.w X.K X.mg X.base CX k f fd ps sp)(hr:Room (k + 1) X.A)(hb:Binds X.K fd ps ds)(hd:Vals dvs ds)
  (hx:zio CX X E) (I:Inv X pins σ H s) (r:Vals vs us)
  (h:∀x dx,H x=none->H dx=none->dx≠x->sp (.ref x::(vs ++ dvs)) (upd (upd H dx (.own x)) x (.ins C dx [])) (fun v H2=> v= .non/\Q (.ref x) H2) E):
  wpAny (model X.prog X.w) X.A (call (.ref C) us) (EP X pins σ Q) X.xe s:=by
 have hq:=h (s.heap.objs.size + 1) s.heap.objs.size (I.hok.fresh (Nat.le_succ _)) (I.hok.fresh (Nat.le_refl _)) (Nat.ne_of_lt (Nat.lt_succ_self _))
 have I2:=Inv.made (C:=C) I
 have r2:Vals (V.ref (s.heap.objs.size + 1)::(vs ++ dvs)) (Value.ref (s.heap.objs.size + 1)::(us ++ ds)):= .cons rfl (r.append hd)
 have hl:(Value.ref (s.heap.objs.size + 1)::us ++ ds).length=ps.length:=by
  have e:=r2.length
  rw[F.len _ _ _ _ hq] at e
  exact e.symm
 refine wpAny_call (zq3 (f:=f) I.kIn M.makes M.init (beq_iff_eq.mp M.fn) (codeAny_mono (F.run _ X.stack _ _ ⟨Value.ref (s.heap.objs.size + 1)::us,[]⟩ (Value.ref (s.heap.objs.size + 1)::(us ++ ds)) _ _ E (hr.make C us [])
  (I2.env0.make C us []) (hb _ (Value.ref (s.heap.objs.size + 1)::us) I2.kIn hl) r2 hq) fun r s' hq'=> ?_))
 cases r with
 | error e=> exact hx pins σ _ _ e s' I2 hq'
 | ok fl=>
  cases fl with
  | ret u=>
   obtain⟨v,H',I3,rv,ev,q3⟩:=I2.after hq'
   subst ev
   exact⟨rv,⟨V.ref (s.heap.objs.size + 1),H',I3,rfl,q3⟩⟩
  | next=> exact False.elim hq'
  | brk=> exact False.elim hq'
  | cont=> exact False.elim hq'
theorem ztf(M:Mk X.K C f)(F:FnOk X.prog X.w X.K X.mg X.base CX k f fd ps sp)(hr:Room (k + 1) X.A)(hg:Gl X x)(hm:X.mg x=some (.ref C))(hb:Binds X.K fd ps ds)(hd:Vals dvs ds)(hx:zio CX X E)
  (ha:PA X (e::es) t) (hdb:(x==("__debug__":Str))=false:=by decide) (he:starEach (e::es) X.env=(false,eval e X.env)::starEach es X.env:=by rfl) (hpl:(backTo pos (starEach es X.env)).any (·.1)=false:=by rfl):
  PE X (.Call (.Name x p) (e::es) [] pos) (zqs C sp dvs E t):=by
 intro pins s σ H Q I h
 refine wpAny_Call_Name_kw (zkz I hg hm ?_ hdb)
 refine PySem.W.callWith_K (h₀:=X.base) I.ok.mod.kin M.kp (thn (ha pos pins s σ H _ I h) fun us s1 ⟨vs,H1,I1,r,q⟩=> ⟨I1.kIn,?_⟩) he hpl
 exact zmM M F hr hb hd hx I1 r q
theorem zqO(M:Mk X.K C f)(F:FnOk X.prog X.w X.K X.mg X.base CX k f fd ps sp)(hr:Room (k + 1) X.A)(hg:Gl X x)(hm:X.mg x=some (.ref C))(hb:Binds X.K fd ps ds)(hd:Vals dvs ds)(hx:zio CX X E)
  (hdb:(x==("__debug__":Str))=false:=by decide):PE X (.Call (.Name x p) [] [] pos) (zqs C sp dvs E zuU):=by
 intro pins s σ H Q I h
 refine wpAny_Call_Name_kw (zkz I hg hm ?_ hdb)
 exact PySem.W.callWith_K0 I.kIn M.kp (zmM (us:=[]) M F hr hb hd hx I .nil h)
end
section
variable {X:Cx}{CX:CXT}{k:Nat}{f C:Addr}{fd:FuncData}{ps ks:List Str}{sp:Sp}{E:XK}{x m:Str}{p pos apos kpos:Pos}{e o:Expr}{es:List Expr}{kws:List Keyword}{te ta:TE}{t tk:TA}{nm:Option Str}
variable {g:List Value->List Value->List Value}{gV:List V->List V->List V}
end
structure FnScope (N P:List Str) (sc:Scope):Prop where
 kind:sc.kind= .function
 co:sc.isCoroutine=false
 gen:sc.isGenerator=false
 nd:N.Nodup
 pre:N.take P.length=P
 par:∀x∈P,sc.names.lookup x=some .local\/sc.names.lookup x=some .cell
 nofree:∀y∈sc.names,y.2≠ .free
theorem zlF{kindOf:Str->Option NameKind}{x:Str}:∀{binds:List (Str×Value)} {m:Str->Option Value},(∀v,(x,v)∉binds)->bindL kindOf binds m x=m x
 | [],_,_=> rfl
 |(n,v)::r,m,h=> by
  unfold bindL
  rw[zlF fun w hw=> h w (List.mem_cons_of_mem _ hw)]
  split
  .have:x≠n:=by rintro rfl; exact h v List.mem_cons_self
   simp[this]
  .rfl
theorem zlH{kindOf:Str->Option NameKind}{x:Str}:∀{binds:List (Str×Value)} {m:Str->Option Value},(∀v,(x,v)∉binds)->bindC kindOf binds m x=m x
 | [],_,_=> rfl
 |(n,v)::r,m,h=> by
  unfold bindC
  rw[zlH fun w hw=> h w (List.mem_cons_of_mem _ hw)]
  split
  .rfl
  .have:x≠n:=by rintro rfl; exact h v List.mem_cons_self
   simp[this]
theorem zlG{kindOf:Str->Option NameKind}{x:Str}{v:Value}:∀{P:List Str} {vs:List Value} {i:Nat} {m:Str->Option Value},P.Nodup->P[i]? =some x->vs[i]? =some v->kindOf x=some .local->
  bindL kindOf (P.zip vs) m x=some v
 | [],_,_,_,_,h,_,_=> by simp at h
 | _::_,[],_,_,_,_,h,_=> by simp at h
 | p::P,w::vs,0,m,nd,h1,h2,hk=> by
  simp at h1 h2; subst h1; subst h2
  show bindL kindOf ((p,w)::P.zip vs) m p=_
  unfold bindL
  rw[zlF fun v hv=> (List.nodup_cons.mp nd).1 (List.of_mem_zip hv).1,if_pos hk]
  simp
 | p::P,w::vs,i + 1,m,nd,h1,h2,hk=> by
  show bindL kindOf ((p,w)::P.zip vs) m x=_
  unfold bindL
  exact zlG (i:=i) (List.nodup_cons.mp nd).2 (by simpa using h1) (by simpa using h2) hk
theorem zlI{kindOf:Str->Option NameKind}{x:Str}{v:Value}:∀{P:List Str} {vs:List Value} {i:Nat} {m:Str->Option Value},P.Nodup->P[i]? =some x->vs[i]? =some v->kindOf x≠some .local->
  bindC kindOf (P.zip vs) m x=some v
 | [],_,_,_,_,h,_,_=> by simp at h
 | _::_,[],_,_,_,_,h,_=> by simp at h
 | p::P,w::vs,0,m,nd,h1,h2,hk=> by
  simp at h1 h2; subst h1; subst h2
  show bindC kindOf ((p,w)::P.zip vs) m p=_
  unfold bindC
  rw[zlH fun v hv=> (List.nodup_cons.mp nd).1 (List.of_mem_zip hv).1,if_neg hk]
  simp
 | p::P,w::vs,i + 1,m,nd,h1,h2,hk=> by
  show bindC kindOf ((p,w)::P.zip vs) m x=_
  unfold bindC
  exact zlI (i:=i) (List.nodup_cons.mp nd).2 (by simpa using h1) (by simpa using h2) hk
def start(N:List Str)(vs:List V):St:=vs.map some ++ List.replicate (N.length - vs.length) none
def zue(CX:CXT)(P:Program)(w:World)(K:PySem.W.Frag)(mg:Str->Option Value)(base:Heap)(N:List Str)(qual:Str)(scope:Scope)(f:Addr)(cd:Value)(A:Around)(outer:List Env)(s:Shared)(H:Hp)(E:XK):Cx where
 prog:=P
 w:=w
 K:=K
 mg:=mg
 base:=base
 A:=A.deeper (envOfC qual scope s.heap.objs.size f cd)
 N:=N
 s_0:=s
 H_0:=H
 env:=envOfC qual scope s.heap.objs.size f cd
 outer:=outer
 stack:=envOfC qual scope s.heap.objs.size f cd::outer
 ex:=[]
 calm:=true
 fn:=fun _=> true
 pn:=[]
 xe:=fun e s'=> wpAny (model P w) (A.deeper (envOfC qual scope s.heap.objs.size f cd)) (leaving (envOfC qual scope s.heap.objs.size f cd) e) (fun _ s''=> CX outer H s E e s'') (fun e' s''=> CX outer H s E e' s'') s'
theorem znq{sc:Scope}{n:Nat}{x:Str}(h:sc.names.lookup x=some .cell):∃c,(cellsFrom n sc.names []).lookup x=some c:=by
 have q:=PySem.W.cellsFrom_some sc.names n [] (.inl h)
 exact Option.isSome_iff_exists.mp q
theorem zpq{CX:CXT}{P:Program}{w:World}{K:PySem.W.Frag}{mg:Str->Option Value}{base:Heap}{N ps:List Str}{qual:Str}{scope:Scope}{f:Addr}{cd:Value}{A:Around}{outer:List Env}{s s1:Shared}{H:Hp}{E:XK}{us:List Value}{vs:List V}
  (S:FnScope N ps scope) (hd:A.handled=none) (e0:Env0 P w K mg base A outer s H) (hl:vs.length=ps.length) (r:Vals vs us)
  (x:InCallC s s.heap.objs.size (bindL (envOfC qual scope s.heap.objs.size f cd).kindOf (ps.zip us) fun _=> none) (cellsFrom (s.heap.objs.size + 1) scope.names []) (bindC (envOfC qual scope s.heap.objs.size f cd).kindOf (ps.zip us) fun _=> none) s1):
  Inv (zue CX P w K mg base N qual scope f cd A outer s H E) [] (start N vs) H s1:=by
 have hpl:ps.length<=N.length:=by have:=congrArg List.length S.pre; rw[List.length_take] at this; omega
 obtain⟨h1,tk,rfl,hk⟩:=x.done
 have noA:∀b:Addr,b∉(zue CX P w K mg base N qual scope f cd A outer s H E).ex:=fun b z=> absurd (show b∈([]:List Addr) from z) (by simp)
 refine⟨⟨e0.mod,S.kind,rfl,rfl,Nat.le_refl _,fun y z c h1 h2=> ?_,fun y hy=> ?_,fun y c _ h=> ?_,fun _=> hd,Around.frames_deeper e0.frames,.inr ⟨rfl,rfl⟩,fun b z=> absurd z (noA b),e0.bs,e0.bsz,fun b _ _=> noA b,fun b z=> absurd z (noA b),e0.funs,e0.frf⟩,
  rfl,e0.bare,Un.kept hk,⟨_,x.toInCall.ns,fun i y v h1 h2 h3=> ?_⟩,fun y c h=> ⟨_,x.cell y c h⟩,e0.hok.fresh (Nat.le_refl _),fun y c h=> ?_,fun p hp=> absurd (show p∈([]:List (Addr×Obj)) from hp) (by simp),e0.hok.kept hk,?_⟩
 .exact name_of_addr x.apart (PySem.mem_of_lookup h1) (PySem.mem_of_lookup h2)
 .have hy:scope.names.lookup y=some .cell\/scope.names.lookup y=some .free:=hy
  rcases hy with hy | hy
  .exact znq hy
  .exact absurd rfl (S.nofree _ (PySem.mem_of_lookup hy))
 .exact Nat.le_of_lt (x.above y c (PySem.mem_of_lookup h))
 .have hi:i < vs.length:=by
   unfold start at h2
   by_cases hi:i < vs.length
   .exact hi
   .rw[List.getElem?_append_right (by simpa using hi)] at h2
    rw[List.getElem?_replicate] at h2
    split at h2 <;> cases h2
  have ha:vs[i]? =some v:=by
   unfold start at h2
   rw[List.getElem?_append_left (by simpa using hi),List.getElem?_map] at h2
   cases e:vs[i]? with
   | none=> rw[e] at h2; cases h2
   | some a=> rw[e] at h2; cases h2; rfl
  obtain⟨u,hu,rv⟩:=r.get ha
  have hp:ps[i]? =some y:=by
   rw[<- S.pre,List.getElem?_take_of_lt (by omega)]; exact h1
  have ndP:ps.Nodup:=by rw[<- S.pre]; exact S.nd.sublist (List.take_sublist _ _)
  refine⟨u,rv,?_⟩
  rcases S.par y (List.mem_of_getElem? hp) with k | k
  .exact .inl ⟨k,zlG ndP hp hu k⟩
  .obtain⟨c,e⟩:=znq (n:=s.heap.objs.size + 1) k
   refine .inr ⟨.inl k,c,e,?_⟩
   have q:=x.cell y c e
   rw[zlI ndP hp hu (by show scope.names.lookup y≠_; rw[k]; decide)] at q
   exact q
 .exact e0.hok.fresh (Nat.le_of_lt (x.above y c (PySem.mem_of_lookup h)))
 .unfold start
  show _=N.length
  rw[List.length_append,List.length_map,List.length_replicate]
  omega
theorem zyg{CX:CXT}{P:Program}{w:World}{K:PySem.W.Frag}{mg:Str->Option Value}{base:Heap}{k:Nat}{f:Addr}{name qual:Str}{params:Arguments}{body:List Stmt}{scope:Scope}{dV kV doc pm cdv ct oc:Value}{an od:Option Addr}
  {osl:Array (Option Value)} {N ps:List Str} {sp:Sp} (lk:K.lookup f=some ⟨oc,od,.func (PySem.W.fnOf name qual params body scope dV kV doc pm an cdv ct),osl⟩) (hcd:PySem.W.codeIn K cdv qual=true) (S:FnScope N ps scope)
  (len:∀vs H Q E,sp vs H Q E->vs.length=ps.length)
  (hbody:∀(A:Around) (outer:List Env) (s:Shared) (H:Hp) (vs:List V) (Q:VK) (E:XK),Room k (A.deeper (envOfC qual scope s.heap.objs.size f cdv))->sp vs H Q E->
   ∃t,PSs (zue CX P w K mg base N qual scope f cdv A outer s H E) body t/\t {nx:=fun _ H'=> Q .non H',rt:=Q} (start N vs) H):
  FnOk P w K mg base CX (k + 1) f (PySem.W.fnOf name qual params body scope dV kV doc pm an cdv ct) ps sp:=by
 refine⟨len,fun A outer s H args us vs Q E hr e0 hb r hsp=> ?_⟩
 have hl:=len _ _ _ _ hsp
 have KX:K.In s.heap:=e0.mod.kin.keeps fun b o e=> (e0.bs b o e).1
 have lim:s.heap.NoLimit:=e0.mod.nolimit.keeps fun b o e=> (e0.bs b o e).1
 have hkind:∀y∈ps.zip us,scope.names.lookup y.1=some .local\/(scope.names.lookup y.1=some .cell/\((cellsFrom (s.heap.objs.size + 1) scope.names []).lookup y.1).isSome=true):=fun⟨n,v⟩ hy=> by
  rcases S.par n (List.of_mem_zip hy).1 with q | q
  .exact .inl q
  .exact .inr ⟨q,PySem.W.cellsFrom_some _ _ _ (.inl q)⟩
 refine codeAny_call_function hr.depth (KX _ _ lk) rfl S.co S.gen rfl (PySem.W.codeRec_of KX hcd) (hb _ _ _ _ ?_)
 refine wpAny_newFunctionEnv_cells S.kind hkind fun env he s1 x=> ?_
 subst he
 refine⟨lim.keeps x.toInCall.keep,codeAny_func ?_⟩
 obtain⟨t,ht,hq⟩:=hbody A outer s H vs Q E (hr.deeper _) hsp
 have I:Inv (zue CX P w K mg base N qual scope f cdv A outer s H E) [] (start N vs) H s1:=zpq S hr.hd e0 hl r x
 refine wpAny_mono (ht [] s1 (start N vs) H _ I hq) (fun fl s' hs=> ?_) fun e s' hs=> hs
 have fin:∀{σ':St} {H':Hp} {v:V} {u:Value},Inv (zue CX P w K mg base N qual scope f cdv A outer s H E) [] σ' H' s'->RelV v u->Q v H'->CE outer P w H s Q u s':=
  fun {σ' H' v u} J rv q=> ⟨v,H',J.os,J.bare,J.base,J.hok,rv,q⟩
 cases fl with
 | ret u=>
  obtain⟨v,σ',H',J,rv,q⟩:=hs
  exact fin J rv q
 | next=>
  obtain⟨σ',H',J,q⟩:=hs
  exact fin (v:=V.non) (u:=Value.none) J rfl q
 | brk=>
  obtain⟨_,_,_,q⟩:=hs
  exact False.elim q
 | cont=>
  obtain⟨_,_,_,q⟩:=hs
  exact False.elim q
end L2
namespace L2
open PySem PySem.Spec PyProof.Rows
section
variable {X:Cx}{x:Str}{p pos:Pos}{e:Expr}{es:List Expr}{t:TA}{id T:String}{r:List V->Hp->VK->Prop}
def tCB(r:List V->Hp->VK->Prop)(t:TA):TE:=fun σ H Q=> t σ H fun vs H1=> r vs H1 Q
theorem zgH(hc:zlM X (.builtin id) r)(hg:Gl X x)(hm:X.mg x=none)(hv:bootBuiltins x=some (.builtin id))(ha:PA X (e::es) t)(hn:x≠"__name__":=by decide)(hdb:(x==("__debug__":Str))=false:=by decide)
  (he:starEach (e::es) X.env=(false,eval e X.env)::starEach es X.env:=by rfl) (hpl:(backTo pos (starEach es X.env)).any (·.1)=false:=by rfl):PE X (.Call (.Name x p) (e::es) [] pos) (tCB r t):=by
 intro pins s σ H Q I h
 refine wpAny_Call_Name_kw (zm6 I hg hm hv ?_ hn hdb)
 exact PyProof.Rows.callWith_builtin1 (thn (ha pos pins s σ H _ I h) fun us s1 ⟨vs,H1,I1,r1,q1⟩=> hc pins s1 σ H1 vs us Q I1 r1 q1) he hpl
theorem zo2(hc:zlM X (.type T) r)(hg:Gl X x)(hm:X.mg x=none)(hv:bootBuiltins x=some (.type T))(ha:PA X (e::es) t)(hn:x≠"__name__":=by decide)(hdb:(x==("__debug__":Str))=false:=by decide)
  (he:starEach (e::es) X.env=(false,eval e X.env)::starEach es X.env:=by rfl) (hpl:(backTo pos (starEach es X.env)).any (·.1)=false:=by rfl):PE X (.Call (.Name x p) (e::es) [] pos) (tCB r t):=by
 intro pins s σ H Q I h
 refine wpAny_Call_Name_kw (zm6 I hg hm hv ?_ hn hdb)
 exact PyProof.Rows.callWith_type1 (thn (ha pos pins s σ H _ I h) fun us s1 ⟨vs,H1,I1,r1,q1⟩=> hc pins s1 σ H1 vs us Q I1 r1 q1) he hpl
end
end L2
namespace HT
open PySem PyProof.Rows
section
open PySem.SeqAt
open PySem.AutoSeq1 (wpAny_loadPart')
open PySem.MeetsSeq PySem.MeetsSeq2 PySem.MeetsSeq3
end
section
variable {prog:Program}{w:World}{A:Around}{E:Value->Shared->Prop}{s:Shared}
def sIx(n d:Nat):Option Int->Nat
 | none=> d
 | some v=> if v < 0 then (v + (n:Int)).toNat else min v.toNat n
theorem sIx_none(n d:Nat):sIx n d none=d:=rfl
theorem sIx_nat(n d k:Nat):sIx n d (some (k:Int))=min k n:=by
 show (if (k:Int) < 0 then ((k:Int) + (n:Int)).toNat else min (k:Int).toNat n)=min k n
 rw[if_neg (by omega),Int.toNat_natCast]
end
end HT
namespace L2
open PySem PySem.Spec PyProof.Rows
abbrev TO:=St->Hp->(Option Int->Hp->Prop)->Prop
def PO(X:Cx)(e:Option Expr)(t:TO):Prop:=
 ∀(pins:List (Addr×Obj)) (s:Shared) (σ:St) (H:Hp) (Q:Option Int->Hp->Prop),Inv X pins σ H s->t σ H Q->
  wpAny (model X.prog X.w) X.A (evalPart e X.env) (fun u s'=>∃o H',Inv X pins σ H' s'/\IsPart u o/\Q o H') X.xe s
def zsI:TO:=fun _ H Q=> Q none H
def zxA(t:TE):TO:=fun σ H Q=> t σ H fun x H1=>∃i,x= .int i/\Q (some i) H1
section
variable {X:Cx}{e:Expr}{te:TE}{lo hi:Option Expr}{tl th:TO}{pos p2:Pos}
theorem ztb:PO X none zsI:=by
 intro pins s σ H Q I h
 rw[evalPart_none]
 exact wpAny_pure ⟨none,H,I,.none,h⟩
theorem zl0(h:PE X e te):PO X (some e) (zxA te):=by
 intro pins s σ H Q I hw
 rw[evalPart_some]
 refine thn (h pins s σ H _ I hw) fun u s1 zz=> ?_
 obtain⟨x,H1,I1,r1,q1⟩:=zz
 obtain⟨i,rfl,q⟩:=q1
 obtain⟨t,rfl⟩:=r1
 exact⟨some i,H1,I1,.int i t,q⟩
def SlR(X:Cx)(r:V->Option Int->Option Int->Hp->VK->Prop):Prop:=
 ∀(pins:List (Addr×Obj)) (s:Shared) (σ:St) (H:Hp) (x:V) (v vl vu:Value) (lo hi:Option Int) (sl:Addr) (Q:VK),Inv X pins σ H s->RelV x v->s.heap.IsSliceOf sl vl vu .none->IsPart vl lo->IsPart vu hi->r x lo hi H Q->
  ∃T id,typeLookup (.type T) "__getitem__"=pure (some (.builtin id))/\s.TypeIs v T/\wpAny (model X.prog X.w) X.A (getItem v (.ref sl)) (EP X pins σ Q) X.xe s
def tSl(r:V->Option Int->Option Int->Hp->VK->Prop)(te:TE)(tl th:TO):TE:=fun σ H Q=> te σ H fun x H1=> tl σ H1 fun l H2=> th σ H2 fun u H3=> r x l u H3 Q
theorem zm0{r:V->Option Int->Option Int->Hp->VK->Prop}(hr:SlR X r)(he:PE X e te)(hl:PO X lo tl)(hu:PO X hi th):PE X (.Subscript e (.Slice lo hi none p2) pos) (tSl r te tl th):=by
 intro pins s σ H Q I h
 refine Subscript_ (thn (he pins s σ H _ I h) fun v s1 zz=> ?_)
 obtain⟨x,H1,I1,r1,q1⟩:=zz
 refine wpAny_Slice (thn (hl pins s1 σ H1 _ I1 q1) fun vl s2 ⟨l,H2,I2,pl,q2⟩=> thn (hu pins s2 σ H2 _ I2 q2) fun vu s3 zz=> ?_)
 obtain⟨u,H3,I3,pu,q3⟩:=zz
 rw[evalPart_none]
 refine wpAny_pure ?_
 have I4:Inv X pins σ H3 {s3 with heap:=s3.heap.push {cls:= .type "slice",data:= .fields #[vl,vu,.none]}}:=I3.kept (t':=s3.toks) fun b ob q=> Heap.get?_push_of_some _ q
 obtain⟨T,id,hT,ht,hg⟩:=hr pins {s3 with heap:=s3.heap.push {cls:= .type "slice",data:= .fields #[vl,vu,.none]}} σ H3 x v vl vu l u s3.heap.objs.size Q I4 r1 (Heap.IsSliceOf.new ..) pl pu q3
 show wpAny (model X.prog X.w) X.A (subscriptTail e (.Slice lo hi none p2) v (.ref s3.heap.objs.size)) (EP X pins σ Q) X.xe {s3 with heap:=s3.heap.push {cls:= .type "slice",data:= .fields #[vl,vu,.none]}}
 exact tail_any (ops:=[.ref s3.heap.objs.size,v]) ht hT hg (by with_unfolding_all rfl)
def zsq(xs:List V)(lo hi:Option Int):List V:=(xs.drop (HT.sIx xs.length 0 lo)).take (HT.sIx xs.length xs.length hi - HT.sIx xs.length 0 lo)
theorem zmw(xs:List V)(lo hi:Option Int):(zsq xs lo hi).length<=xs.length:=by
 unfold zsq
 rw[List.length_take,List.length_drop]
 omega
end
end L2
namespace L2
open PySem PySem.Spec PyProof.Rows
def ixN(n:Nat)(i:Int):Option Nat:=if 0<=i then (if i < n then some i.toNat else none) else if -(n:Int)<=i then some (i + n).toNat else none
def atI{α:Type}(xs:List α)(i:Int):Option α:=(ixN xs.length i).bind fun j=> xs[j]?
theorem zpo{n:Nat}{i:Int}{j:Nat}(h:ixN n i=some j):seqIndex? i n=some j/\j < n/\-(n:Int)<=i/\i < n:=by
 unfold ixN at h
 by_cases h0:0<=i
 .rw[if_pos h0] at h
  by_cases h1:i < n
  .rw[if_pos h1] at h
   have e:i.toNat=j:=Option.some.inj h
   exact⟨by rw[seqIndex_of h0 h1,e],by omega,by omega,h1⟩
  .rw[if_neg h1] at h; cases h
 .rw[if_neg h0] at h
  by_cases h1:-(n:Int)<=i
  .rw[if_pos h1] at h
   have e:(i + n).toNat=j:=Option.some.inj h
   exact⟨by rw[seqIndex_neg (by omega) h1,e],by omega,h1,by omega⟩
  .rw[if_neg h1] at h; cases h
theorem zmD{α:Type}{xs:List α}{i:Int}{v:α}(h:atI xs i=some v):∃j,seqIndex? i xs.length=some j/\xs[j]? =some v/\j < xs.length/\-(xs.length:Int)<=i/\i < xs.length:=by
 unfold atI at h
 cases e:ixN xs.length i with
 | none=> rw[e] at h; cases h
 | some j=>
  rw[e] at h
  obtain⟨h1,h2,h3,h4⟩:=zpo e
  exact⟨j,h1,h,h2,h3,h4⟩
def zie(b:Expr):Prop:=∀o i,subscripted b false o i=operate [o,i] (getItem o i)
def IxR(X:Cx)(r:R2):Prop:=
 ∀(value slice:Expr) (pins:List (Addr×Obj)) (s:Shared) (σ:St) (H:Hp) (x y:V) (v u:Value) (Q:VK),Inv X pins σ H s->RelV x v->RelV y u->r x y H Q->
  subscripted slice false v u=operate [v,u] (getItem v u)->wpAny (model X.prog X.w) X.A (subscriptTail value slice v u) (EP X pins σ Q) X.xe s
def MtR(X:Cx)(id:String)(r:V->List V->Hp->VK->Prop):Prop:=
 ∀(pins:List (Addr×Obj)) (s:Shared) (σ:St) (H:Hp) (x:V) (xs:List V) (v:Value) (us:List Value) (Q:VK),Inv X pins σ H s->RelV x v->Vals xs us->r x xs H Q->
  wpAny (model X.prog X.w) X.A (call (.builtin id) (v::us)) (EP X pins σ Q) X.xe s
section
variable {X:Cx}{a b:Expr}{ta tb:TE}{pos:Pos}
theorem zoZ{r:R2}(hr:IxR X r)(ha:PE X a ta)(hb:PE X b tb)(hs:zie b):PE X (.Subscript a b pos) (tOp r ta tb):=by
 intro pins s σ H Q I h
 exact Subscript_ (zyq ha hb I h fun v u s2 x y H2 I2 rx ry q=> hr a b pins s2 σ H2 x y v u Q I2 rx ry q (hs _ _))
def zy9(K:PySem.W.Frag):R2:=fun x y H Q=>∃p xs i v,x= .ref p/\y= .int i/\SqL K H p xs/\atI xs i=some v/\Q v H
def zy7(K:PySem.W.Frag):R2:=fun x y H Q=>∃p xs i v,x= .ref p/\y= .int i/\SqT K H p xs/\atI xs i=some v/\Q v H
def zy8:R2:=fun x y H Q=>∃z i c,x= .str z/\y= .int i/\z.length<=sizeLine/\atI z.cps.toList i=some c/\Q (.str ⟨#[c]⟩) H
theorem ztx:IxR X (zy9 X.K):=by
 intro value slice pins s σ H x y v u Q I rx ry h hs
 obtain⟨p,xs,i,z,rfl,rfl,hq,he,q⟩:=h
 cases rx
 obtain⟨t,rfl⟩:=ry
 obtain⟨its,r,pl,hz⟩:=I.list hq
 obtain⟨j,h1,h2,h3,h4,h5⟩:=zmD he
 obtain⟨w,ew,rw'⟩:=r.get h2
 have hl:=r.length
 have hn:=zjb
 have fin:EP X pins σ Q w s:=⟨z,H,I,rw',q⟩
 by_cases h0:0<=i
 .have hj:i.toNat=j:=by
   rw[seqIndex_of h0 h5] at h1
   exact Option.some.inj h1
  exact item_listR pl.isList h0 (by omega) (by rw[hj]; simpa using ew) fin hs
 .have hj:(i + (its.toArray.size:Int)).toNat=j:=by
   rw[seqIndex_neg (by omega) h4] at h1
   rw[List.size_toArray,<- hl]
   exact Option.some.inj h1
  exact subscriptTail_builtinR (x:=w) pl.isList.typeIs slot_list_getitem.lookup
   (wpAny_getItem_list_neg (Q:=fun r s'=> r=w/\EP X pins σ Q r s') pl.isList (by omega) (by rw[List.size_toArray] <;> omega) (by omega) (by rw[hj]; simpa using ew) ⟨rfl,fin⟩) hs
theorem zsf:IxR X (zy7 X.K):=by
 intro value slice pins s σ H x y v u Q I rx ry h hs
 obtain⟨p,xs,i,z,rfl,rfl,hq,he,q⟩:=h
 cases rx
 obtain⟨t,rfl⟩:=ry
 obtain⟨its,r,pl,hz⟩:=I.tuple hq
 obtain⟨j,h1,h2,h3,h4,h5⟩:=zmD he
 obtain⟨w,ew,rw'⟩:=r.get h2
 have hl:=r.length
 have hn:=zjb
 have fin:EP X pins σ Q w s:=⟨z,H,I,rw',q⟩
 exact subscriptTail_builtinR (x:=w) pl.typeIs slot_tuple_getitem.lookup
  (getItem_tuple (j:=j) (Q:=fun r s'=> r=w/\EP X pins σ Q r s') pl (by omega) (by omega) (by rw[List.size_toArray,<- hl]; exact h1) (by simpa using ew) ⟨rfl,fin⟩) hs
theorem zsg:IxR X zy8:=by
 intro value slice pins s σ H x y v u Q I rx ry h hs
 obtain⟨z,i,c,rfl,rfl,hz,he,q⟩:=h
 obtain⟨t,rfl⟩:=rx
 obtain⟨t',rfl⟩:=ry
 obtain⟨j,h1,h2,h3,h4,h5⟩:=zmD he
 have hl:z.cps.toList.length=z.length:=by simp[Str.length]
 rw[hl] at h1 h4 h5
 have hn:=zjb
 exact tail_any (typeIs_str s z t) slot_str_getitem.lookup (getItem_str (c:=c) (by
  have e1:decide (i < -(2 ^ 63:Int))=false:=decide_eq_false (by omega)
  have e2:decide (i ≥ 2 ^ 63)=false:=decide_eq_false (by omega)
  rw[e1,e2,Bool.or_false]) (by rw[h1]; simpa using h2) ⟨.str ⟨#[c]⟩,H,I.tok _,⟨_,rfl⟩,q⟩) hs
theorem znP(its:List Value)(n j:Nat)(u:Value):Obj.mapSeq (·.setIfInBounds j u) {cls:= .type "list",data:= .seq its.toArray n}={cls:= .type "list",data:= .seq (its.set j u).toArray n}:=by
 simp[Obj.mapSeq]
theorem Inv.lst{pins:List (Addr×Obj)}{σ:St}{H:Hp}{s:Shared}{p:Addr}{xs:List V}(I:Inv X pins σ H s)(h:H p=some (.lst xs)):
  ∃(its:List Value) (n:Nat),Vals xs its/\s.heap.get? p=some {cls:= .type "list",data:= .seq its.toArray n}/\xs.length<=sizeLine:=by
 obtain⟨z,its,n,r,e⟩:=I.hok p _ h
 exact⟨its,n,r,e,z⟩
theorem Inv.lstUpd{pins:List (Addr×Obj)}{σ:St}{H:Hp}{s:Shared}{p:Addr}{xs ys:List V}{its its':List Value}{n n':Nat}{f:Obj->Obj}(I:Inv X pins σ H s)(h:H p=some (.lst xs))
  (ho:s.heap.get? p=some {cls:= .type "list",data:= .seq its.toArray n}) (hf:f {cls:= .type "list",data:= .seq its.toArray n}={cls:= .type "list",data:= .seq its'.toArray n'}) (r:Vals ys its') (hz:ys.length<=sizeLine) (t:Nat):
  Inv X pins σ (upd H p (.lst ys)) {s with heap:=s.heap.update p f,toks:=t}:=by
 have e:(s.heap.update p f).get? p=some {cls:= .type "list",data:= .seq its'.toArray n'}:=by
  rw[Heap.get?_update_self f ho (by rw[hf] <;> rfl),hf]
 refine I.write (x:=p) (e:=p) (by rw[h]; trivial) (.inl rfl) (fun b u hb q=> (Heap.get?_update_other _ _ (Ne.symm hb)).trans q) ⟨_,e⟩ ?_
 exact⟨hz,its',n',r,e⟩
def zxL:V->V->V->Hp->(Hp->Prop)->Prop:=fun o i v H Q=>∃p xs k j,o= .ref p/\i= .int k/\H p=some (.lst xs)/\ixN xs.length k=some j/\Q (upd H p (.lst (xs.set j v)))
theorem zqz:zyQ X zxL:=by
 intro pins s σ H o i v ov iv u Q I ro ri rv h
 obtain⟨p,xs,k,j,rfl,rfl,hp,hj,q⟩:=h
 cases ro
 obtain⟨t,rfl⟩:=ri
 obtain⟨its,n,r,ho,hz⟩:=I.lst hp
 obtain⟨h1,h2,h3,h4⟩:=zpo hj
 have hl:=r.length
 have hn:=zjb
 have I':Inv X pins σ (upd H p (.lst (xs.set j v))) {s with heap:=s.heap.update p (Obj.mapSeq (·.setIfInBounds j u))}:=
  I.lstUpd hp ho (znP its n j u) (r.set rv j) (by rw[List.length_set]; exact hz) s.toks
 by_cases h0:0<=k
 .have hk:k.toNat=j:=by
   rw[seqIndex_of h0 h4] at h1
   exact Option.some.inj h1
  exact PySem.W.ki_setAt ho h0 (by omega) (by rw[List.size_toArray,<- hl]; exact h4) (by rw[hk]; exact⟨_,I',q⟩)
 .have hk:(k + (its.toArray.size:Int)).toNat=j:=by
   rw[seqIndex_neg (by omega) h3] at h1
   rw[List.size_toArray,<- hl]
   exact Option.some.inj h1
  exact PySem.W.ki_setBack ho (by omega) (by rw[List.size_toArray,<- hl]; exact h3) (by omega) (by rw[hk]; exact⟨_,I',q⟩)
theorem zkY(lo hi:Option Int)(n:Nat):(sliceBounds lo hi none n).1=((HT.sIx n 0 lo:Nat):Int)/\(sliceBounds lo hi none n).2.1=((HT.sIx n n hi:Nat):Int)/\(sliceBounds lo hi none n).2.2=1:=by
 refine⟨?_,?_,rfl⟩
 .cases lo with
  | none=> simp[sliceBounds,HT.sIx]
  | some i=>
   simp only[sliceBounds,HT.sIx,Option.getD_none,show (1:Int) > 0 by decide,if_true]
   by_cases h:i < 0
   .simp only[h,if_true] <;> omega
   .simp only[h,if_false] <;> omega
 .cases hi with
  | none=> simp[sliceBounds,HT.sIx]
  | some i=>
   simp only[sliceBounds,HT.sIx,Option.getD_none,show (1:Int) > 0 by decide,if_true]
   by_cases h:i < 0
   .simp only[h,if_true] <;> omega
   .simp only[h,if_false] <;> omega
theorem zkj(its:List Value)(lo hi:Option Int):slicePick its.toArray lo hi none=((its.drop (HT.sIx its.length 0 lo)).take (HT.sIx its.length its.length hi - HT.sIx its.length 0 lo)).toArray:=by
 obtain⟨h1,h2,h3⟩:=zkY lo hi its.toArray.size
 unfold slicePick
 rw[h1,h2,h3]
 simp only[sliceRange_one,pick_run,List.size_toArray] <;> rfl
def zy5(K:PySem.W.Frag):V->Option Int->Option Int->Hp->VK->Prop:=fun x lo hi H Q=>∃a xs,x= .ref a/\SqL K H a xs/\∀p,H p=none->Q (.ref p) (upd H p (.lst (zsq xs lo hi)))
theorem zoH:SlR X (zy5 X.K):=by
 intro pins s σ H x v vl vu lo hi sl Q I rx hs pl pu h
 obtain⟨a,xs,rfl,hx,q⟩:=h
 cases rx
 obtain⟨its,r,ht,hz⟩:=I.list hx
 have hlen:=r.length
 refine⟨"list",_,slot_list_getitem.lookup,ht.isList.typeIs,?_⟩
 refine wpAny_getItem_list_slice ht.isList hs pl pu .none (by simp) ?_ (by rw[List.size_toArray] <;> omega)
 rw[zkj,<- hlen]
 refine⟨.ref s.heap.objs.size,_,I.laid (t':=s.toks) (o:= .lst (zsq xs lo hi)) (fun b ob q=> Heap.get?_push_of_some _ q) (Nat.le_refl _) ?_,rfl,q _ (I.hok.fresh (Nat.le_refl _))⟩
 exact⟨Nat.le_trans (zmw xs lo hi) hz,_,0,(r.drop (HT.sIx xs.length 0 lo)).take (HT.sIx xs.length xs.length hi - HT.sIx xs.length 0 lo),Heap.get?_push_size _ rfl⟩
def zkC:V->Bool
 | .non=> true
 | .bl _=> true
 | .int _=> true
 | .str _=> true
 | _=> false
def eqV:V->V->Bool
 | .non,.non=> true
 | .bl a,.bl b=> a==b
 | .bl a,.int b=> (if a then 1 else 0)==b
 | .int a,.bl b=> a==(if b then 1 else 0)
 | .int a,.int b=> a==b
 | .str a,.str b=> a==b
 | _,_=> false
theorem zwA{A:Around}{s:Shared}{y x:V}{u v:Value}(ry:RelV y u)(rx:RelV x v)(fy:zkC y=true)(fx:zkC x=true):SeqAt.EqAt A s u v (eqV y x):=by
 cases y with
 | non=>
  cases ry
  cases x with
  | non=> cases rx; exact SeqAt.EqAt.same _
  | bl b=> cases rx; exact SeqAt.EqAt.none_bool b
  | int b=> obtain⟨t,rfl⟩:=rx; exact SeqAt.EqAt.none_int b t
  | str b=> obtain⟨t,rfl⟩:=rx; exact SeqAt.EqAt.none_str b t
  | _=> exact absurd (show false=true from fx) Bool.false_ne_true
 | bl a=>
  cases ry
  cases x with
  | non=> cases rx; exact SeqAt.EqAt.bool_none a
  | bl b=> cases rx; exact SeqAt.EqAt.bool_bool a b
  | int b=> obtain⟨t,rfl⟩:=rx; exact SeqAt.EqAt.bool_int a b t
  | str b=> obtain⟨t,rfl⟩:=rx; exact SeqAt.EqAt.bool_str a b t
  | _=> exact absurd (show false=true from fx) Bool.false_ne_true
 | int a=>
  obtain⟨t',rfl⟩:=ry
  cases x with
  | non=> cases rx; exact SeqAt.EqAt.int_none a t'
  | bl b=> cases rx; exact SeqAt.EqAt.int_bool a t' b
  | int b=> obtain⟨t,rfl⟩:=rx; exact SeqAt.EqAt.int_int a t' b t
  | str b=> obtain⟨t,rfl⟩:=rx; exact SeqAt.EqAt.int_str a t' b t
  | _=> exact absurd (show false=true from fx) Bool.false_ne_true
 | str a=>
  obtain⟨t',rfl⟩:=ry
  cases x with
  | non=> cases rx; exact SeqAt.EqAt.str_none a t'
  | bl b=> cases rx; exact SeqAt.EqAt.str_bool a t' b
  | int b=> obtain⟨t,rfl⟩:=rx; exact SeqAt.EqAt.str_int a t' b t
  | str b=> obtain⟨t,rfl⟩:=rx; exact SeqAt.EqAt.str_str a t' b t
  | _=> exact absurd (show false=true from fx) Bool.false_ne_true
 | _=> exact absurd (show false=true from fy) Bool.false_ne_true
def eqU(x:V)(u:Value):Bool:=match u with
 | .none=> eqV .non x
 | .bool b=> eqV (.bl b) x
 | .int i _=> eqV (.int i) x
 | .str z _=> eqV (.str z) x
 | _=> false
theorem zsl{x y:V}{u:Value}(r:RelV y u)(f:zkC y=true):eqU x u=eqV y x:=by
 cases y with
 | non=> cases r; rfl
 | bl b=> cases r; rfl
 | int i=> obtain⟨t,rfl⟩:=r; rfl
 | str z=> obtain⟨t,rfl⟩:=r; rfl
 | _=> exact absurd (show false=true from f) Bool.false_ne_true
theorem zjy{x:V}:∀{xs:List V} {us:List Value},Vals xs us->xs.all zkC=true->us.any (eqU x)=xs.any fun y=> eqV y x
 | _,_,.nil,_=> rfl
 | y::xs,u::us,.cons r t,f=> by
  rw[List.all_cons,Bool.and_eq_true] at f
  rw[List.any_cons,List.any_cons,zsl r f.1,zjy t f.2]
theorem zhG{A:Around}{s:Shared}{x:V}{v:Value}(rx:RelV x v)(fx:zkC x=true):∀{xs:List V} {us:List Value},Vals xs us->xs.all zkC=true->∀u∈us,SeqAt.EqAt A s u v (eqU x u)
 | _,_,.nil,_=> fun u hu=> by cases hu
 | y::xs,u::us,.cons r t,f=> fun u' hu=> by
  rw[List.all_cons,Bool.and_eq_true] at f
  rcases List.mem_cons.mp hu with rfl | hu
  .rw[zsl r f.1]; exact zwA r rx f.1 fx
  .exact zhG rx fx t f.2 u' hu
def inV(x:V)(xs:List V):Bool:=xs.any fun y=> eqV y x
def rIn(K:PySem.W.Frag)(neg:Bool):R2:=fun x y H Q=>∃p xs,y= .ref p/\(SqL K H p xs\/SqT K H p xs)/\zkC x=true/\xs.all zkC=true/\Q (.bl (if neg then !inV x xs else inV x xs)) H
theorem ziX:OpR X (compareOp .In) (rIn X.K false):=by
 intro pins s σ H x y v u Q I rx ry h
 obtain⟨p,xs,rfl,hq,fx,fs,q⟩:=h
 cases ry
 rcases hq with hq | hq
 .obtain⟨its,r,pl,hz⟩:=I.list hq
  refine SeqAt.in_listAt (eqU x) pl.isList (fun w hw=> zhG rx fx r fs w (by simpa using hw)) ⟨.bl _,H,I,rfl,?_⟩
  rw[show its.toArray.any (eqU x)=its.any (eqU x) by simp,zjy r fs]
  exact q
 .obtain⟨its,r,pl,hz⟩:=I.tuple hq
  refine SeqAt.in_tupleAt (eqU x) pl (fun w hw=> zhG rx fx r fs w (by simpa using hw)) ⟨.bl _,H,I,rfl,?_⟩
  rw[show its.toArray.any (eqU x)=its.any (eqU x) by simp,zjy r fs]
  exact q
theorem zk8:OpR X (compareOp .NotIn) (rIn X.K true):=by
 intro pins s σ H x y v u Q I rx ry h
 obtain⟨p,xs,rfl,hq,fx,fs,q⟩:=h
 cases ry
 rcases hq with hq | hq
 .obtain⟨its,r,pl,hz⟩:=I.list hq
  refine SeqAt.notIn_listAt (eqU x) pl.isList (fun w hw=> zhG rx fx r fs w (by simpa using hw)) ⟨.bl _,H,I,rfl,?_⟩
  rw[show its.toArray.any (eqU x)=its.any (eqU x) by simp,zjy r fs]
  exact q
 .obtain⟨its,r,pl,hz⟩:=I.tuple hq
  refine SeqAt.notIn_tupleAt (eqU x) pl (fun w hw=> zhG rx fx r fs w (by simpa using hw)) ⟨.bl _,H,I,rfl,?_⟩
  rw[show its.toArray.any (eqU x)=its.any (eqU x) by simp,zjy r fs]
  exact q
theorem zlD:zlM X (.builtin "len") (fun xs H Q=>∃p ys,xs=[.ref p]/\(SqL X.K H p ys\/SqT X.K H p ys)/\Q (.int ys.length) H):=by
 intro pins s σ H xs us Q I r h
 obtain⟨p,ys,rfl,hq,q⟩:=h
 obtain⟨u,rfl,rx⟩:=zqm r
 cases rx
 have hn:=zjb
 rcases hq with hq | hq
 .obtain⟨its,r',pl,hz⟩:=I.list hq
  have hlen:=r'.length
  exact Calls.call_len_list pl.isList (by simp only[List.size_toArray] <;> omega) ⟨.int ys.length,H,I.tok _,⟨s.toks + 1,by rw[List.size_toArray,hlen]⟩,q⟩
 .obtain⟨its,r',pl,hz⟩:=I.tuple hq
  have hlen:=r'.length
  exact len_tuple pl (by simp only[List.size_toArray] <;> omega) ⟨.int ys.length,H,I.tok _,⟨s.toks + 1,by rw[List.size_toArray,hlen]⟩,q⟩
theorem zlC:zlM X (.builtin "len") (fun xs H Q=>∃z,xs=[.str z]/\z.length<=sizeLine/\Q (.int z.length) H):=by
 intro pins s σ H xs us Q I r h
 obtain⟨z,rfl,hz,q⟩:=h
 obtain⟨u,rfl,t,rfl⟩:=zqm r
 have hn:=zjb
 exact len_str (by omega) ⟨.int z.length,H,I.tok _,⟨_,rfl⟩,q⟩
theorem zkK:zlM X (.type "tuple") (fun xs H Q=>∃p ys,xs=[.ref p]/\((SqL X.K H p ys/\∀l,H l=none->Q (.ref l) (upd H l (.tup ys)))\/(SqT X.K H p ys/\Q (.ref p) H))):=by
 intro pins s σ H xs us Q I r h
 obtain⟨p,ys,rfl,h⟩:=h
 obtain⟨u,rfl,rx⟩:=zqm r
 cases rx
 rcases h with⟨hq,q⟩ |⟨hq,q⟩
 .obtain⟨its,r',pl,hz⟩:=I.list hq
  have hlen:=r'.length
  refine call_tuple_list pl.isList (fun h' kp=> ?_) (by simp only[List.size_toArray] <;> omega)
  have I1:Inv X pins σ H {s with heap:=h'}:=I.kept (t':=s.toks) kp
  have I2:Inv X pins σ (upd H h'.objs.size (.tup ys)) {s with heap:=h'.push {cls:= .type "tuple",data:= .seq its.toArray}}:=
   I1.laid (t':=s.toks) (fun b o e=> Heap.get?_push_of_some _ e) (Nat.le_refl _) (show ObjOk X.prog X.w _ _ _ (.tup ys) from⟨hz,its,r',IsTup.new _ _⟩)
  exact⟨.ref h'.objs.size,_,I2,rfl,q _ (I1.hok.fresh (Nat.le_refl _))⟩
 .obtain⟨its,r',pl,hz⟩:=I.tuple hq
  exact call_tuple_same pl ⟨.ref p,H,I,rfl,q⟩
def tyV(K:PySem.W.Frag)(T:String)(x:V)(H:Hp):Prop:=match x with
 | .str _=> T="str"
 | .int _=> T="int"
 | .ref p=> (T="list"/\∃xs,SqL K H p xs)\/(T="tuple"/\∃o,K.lookup p=some o/\o.cls= .type "tuple"/\o.dict=none)\/
   (T="dict"/\((∃kvs,H p=some (.dK kvs))\/∃kvs,H p=some (.dT kvs)))\/(T="set"/\∃S n,H p=some (.set S n))
 | _=> False
theorem zr4{pins:List (Addr×Obj)}{σ:St}{H:Hp}{s:Shared}{T:String}{x:V}{v:Value}(I:Inv X pins σ H s)(r:RelV x v)(ty:tyV X.K T x H):
  s.TypeIs v T/\∀a,v= .ref a->∃ob,s.heap.get? a=some ob/\ob.dict=none:=by
 cases x with
 | str z=>
  obtain⟨t,rfl⟩:=r
  cases (show T="str" from ty)
  exact⟨typeIs_str s z t,fun _ e=> nomatch e⟩
 | int i=>
  obtain⟨t,rfl⟩:=r
  cases (show T="int" from ty)
  exact⟨typeIs_int s i t,fun _ e=> nomatch e⟩
 | ref p=>
  cases r
  rcases ty with⟨rfl,xs,hq⟩ |⟨rfl,o,hk,hc,hd⟩ |⟨rfl,hk⟩ |⟨rfl,S,n,hk⟩
  .obtain⟨its,_,pl,_⟩:=I.list hq
   refine⟨pl.isList.typeIs,fun a e=> ?_⟩
   cases e
   obtain⟨o,n,e,c,hd,_⟩:=pl
   exact⟨o,e,hd⟩
  .refine⟨⟨o,I.kIn p o hk,hc⟩,fun a e=> ?_⟩
   cases e
   exact⟨o,I.kIn _ o hk,hd⟩
  .have z:∃o,s.heap.get? p=some o/\o.ExactDict:=by
    rcases hk with⟨kvs,hk⟩ |⟨kvs,hk⟩
    .obtain⟨_,_,_,_,o,_,_,e,ex,_⟩:=I.hok p _ hk
     exact⟨o,e,ex⟩
    .obtain⟨_,_,_,_,o,_,_,e,ex,_⟩:=I.hok p _ hk
     exact⟨o,e,ex⟩
   obtain⟨o,e,ex⟩:=z
   refine⟨⟨o,e,ex.1⟩,fun a e2=> ?_⟩
   cases e2
   exact⟨o,e,ex.2.1⟩
  .obtain⟨o,_,_,_,e,ex,_⟩:=I.hok p _ hk
   refine⟨⟨o,e,ex.1⟩,fun a e2=> ?_⟩
   cases e2
   exact⟨o,e,ex.2.1⟩
 | _=> exact False.elim ty
def zy1(K:PySem.W.Frag)(T:String)(r:V->List V->Hp->VK->Prop)(to:TE):TE:=fun σ H Q=> to σ H fun x H1=> tyV K T x H1/\r x [] H1 Q
def tBM(K:PySem.W.Frag)(T:String)(r:V->List V->Hp->VK->Prop)(to:TE)(t:TA):TE:=fun σ H Q=> to σ H fun x H1=> tyV K T x H1/\t σ H1 fun xs H2=> r x xs H2 Q
variable {o e:Expr}{es:List Expr}{to:TE}{t:TA}{name:Str}{apos cpos:Pos}{T id:String}{r:V->List V->Hp->VK->Prop}
theorem zvE(pa:PlainAttrs T)(slot:Slot T name id)(hty:typeOf (.builtin id)=pure (.type "method_descriptor"))(hm:MtR X id r)(ho:PE X o to)
  (hbase:attributeBase o name X.env (eval o X.env)=eval o X.env:=by rfl) (hline:(apos.endLine==cpos.line)=true:=by rfl):PE X (.Call (.Attribute o name apos) [] [] cpos) (zy1 X.K T r to):=by
 intro pins s σ H Q I h
 refine wpAny_Call_method0_late hbase hline (thn (ho pins s σ H _ I h) fun v s1 zz=> ?_)
 obtain⟨x,H1,I1,r1,ty,q1⟩:=zz
 obtain⟨h1,h2⟩:=zr4 I1 r1 ty
 exact⟨T,id,pa,slot,hty,h1,h2,Calls.callWith_builtin rfl (PySem.evalArgs_none (hm pins s1 σ H1 x [] v [] Q I1 r1 .nil q1))⟩
theorem zvF(pa:PlainAttrs T)(slot:Slot T name id)(hty:typeOf (.builtin id)=pure (.type "method_descriptor"))(hm:MtR X id r)(ho:PE X o to)(ha:PA X (e::es) t)
  (hbase:attributeBase o name X.env (eval o X.env)=eval o X.env:=by rfl)
  (hfew:((backTo cpos (starEach (e::es) X.env)).all (fun x=> !x.1) && (backToKw cpos (keywordEach [] X.env)).all (fun x=> x.1.isSome)
   && decide ((e::es).length + ([]:List Keyword).length + (if ([]:List Keyword).isEmpty then 0 else 1) < 30))=true:=by rfl)
  (hline:(apos.endLine==cpos.line)=true:=by rfl) (hs:starEach (e::es) X.env=(false,eval e X.env)::starEach es X.env:=by rfl) (hplain:(backTo cpos (starEach es X.env)).any (·.1)=false:=by rfl):
  PE X (.Call (.Attribute o name apos) (e::es) [] cpos) (tBM X.K T r to t):=by
 intro pins s σ H Q I h
 refine wpAny_Call_method_late hbase hfew hline rfl (thn (ho pins s σ H _ I h) fun v s1 zz=> ?_)
 obtain⟨x,H1,I1,r1,ty,q1⟩:=zz
 obtain⟨h1,h2⟩:=zr4 I1 r1 ty
 refine⟨T,id,pa,slot,hty,h1,h2,?_⟩
 have hA:=ha cpos pins s1 σ H1 _ I1 q1
 rw[hs] at hA |-
 refine Calls.callWith_builtin (by show (false ||(backTo cpos (starEach es X.env)).any (·.1))=false; rw[hplain] <;> rfl) (Calls.evalArgs_plain ?_)
 exact thn hA fun us s2 ⟨vs,H2,I2,r2,q2⟩=> hm pins s2 σ H2 x vs v us Q I2 r1 r2 q2
end
end L2
namespace L2
open PySem PySem.Spec PyProof.Rows
def MtM(X:Cx)(id:String)(r:V->List V->Hp->VK->Prop):Prop:=
 ∀(pins:List (Addr×Obj)) (s:Shared) (σ:St) (H:Hp) (x:V) (xs:List V) (v:Value) (us:List Value) (Q:VK),Inv X pins σ H s->RelV x v->Vals xs us->r x xs H Q->
  wpAny (model X.prog X.w) X.A (call (.builtin id) (v::us)) (EP X pins σ Q) X.xe s
theorem Vals.one:∀{x:V} {us:List Value},Vals [x] us->∃u,us=[u]/\RelV x u
 | _,_,.cons r .nil=> ⟨_,rfl,r⟩
theorem Vals.zero:∀{us:List Value},Vals [] us->us=[]
 | _,.nil=> rfl
theorem Vals.dropLast{xs:List V}{us:List Value}(h:Vals xs us):Vals xs.dropLast us.dropLast:=by
 induction h with
 | nil=> exact .nil
 | cons r t ih=>
  cases t with
  | nil=> exact .nil
  | cons q t'=> exact .cons r ih
theorem zn4{α:Type}(l:List α):l.eraseIdx (l.length - 1)=l.dropLast:=by
 induction l with
 | nil=> rfl
 | cons a r ih=>
  cases r with
  | nil=> rfl
  | cons b r=>
   have e:(a::b::r).length - 1=((b::r).length - 1) + 1:=by
    have h1:(a::b::r).length=r.length + 2:=rfl
    have h2:(b::r).length=r.length + 1:=rfl
    omega
   rw[e,List.eraseIdx_cons_succ,ih]
   all_goals rfl
section
variable {X:Cx}{pins:List (Addr×Obj)}{σ:St}{H:Hp}{s:Shared}{l b:Addr}{xs ys zs:List V}
theorem Inv.lset{its its':List Value}{n:Nat}{f:Array Value->Array Value}{t':Nat}(I:Inv X pins σ H s)(hH:H l=some (.lst xs))
  (e:s.heap.get? l=some {cls:= .type "list",data:= .seq its.toArray n}) (hf:f its.toArray=its'.toArray) (hv:Vals ys its') (hz:ys.length<=sizeLine):
  Inv X pins σ (upd H l (.lst ys)) {s with heap:=s.heap.update l (Obj.mapSeq f),toks:=t'}:=by
 have q:=PySem.IsL.update e f
 rw[hf] at q
 refine I.write (x:=l) (e:=l) (by rw[hH]; exact trivial) (.inl rfl) (fun b' u hb hu=> (Heap.get?_update_other s.heap (Obj.mapSeq f) (Ne.symm hb)).trans hu) ⟨_,q⟩ ?_
 exact⟨hz,its',_,hv,q⟩
theorem Inv.lnew{its:List Value}{t':Nat}(I:Inv X pins σ H s)(hv:Vals ys its)(hz:ys.length<=sizeLine):
  Inv X pins σ (upd H s.heap.objs.size (.lst ys)) {s with heap:=s.heap.push {cls:= .type "list",data:= .seq its.toArray},toks:=t'}:=
 I.laid (fun _ _ q=> Heap.get?_push_of_some _ q) (Nat.le_refl _) ⟨hz,its,0,hv,Heap.get?_push_size _ rfl⟩
theorem Inv.fresh(I:Inv X pins σ H s):H s.heap.objs.size=none:=I.hok.fresh (Nat.le_refl _)
theorem Inv.lstM(I:Inv X pins σ H s)(hH:H l=some (.lst xs)):xs.length<=sizeLine/\∃(its:List Value) (n:Nat),Vals xs its/\xs.length=its.length/\s.heap.get? l=some {cls:= .type "list",data:= .seq its.toArray n}:=by
 obtain⟨z,its,n,r,e⟩:=I.hok l _ hH
 exact⟨z,its,n,r,r.length,e⟩
theorem zq0{n:Nat}(h:n<=sizeLine):Builtin.List.listTooLong n=false:=by
 unfold Builtin.List.listTooLong
 exact decide_eq_false (by omega)
end
section
variable {X:Cx}
def zsS:V->List V->Hp->VK->Prop:=fun x vs H Q=>∃l xs y,x= .ref l/\vs=[y]/\H l=some (.lst xs)/\xs.length < sizeLine/\Q .non (upd H l (.lst (xs ++ [y])))
theorem zpb:MtM X "list.append" zsS:=by
 intro pins s σ H x vs v us Q I rx rv h
 obtain⟨l,xs,y,rfl,rfl,hH,hz,q⟩:=h
 cases rx
 obtain⟨u,rfl,ru⟩:=rv.one
 obtain⟨z,its,n,r,hl,e⟩:=I.lstM hH
 refine call_meets F.slot_list_append ⟨_,e,rfl⟩ F.entry_list_append (F.args_list_append_2 _ _) (PySem.list_append l its.toArray n u (by rw[List.size_toArray]; omega)) ⟨e,?_⟩
 refine⟨.non,_,I.lset (its':=its ++ [u]) hH e (by simp) (r.append (.cons ru .nil)) ?_,rfl,q⟩
 rw[List.length_append,List.length_singleton]
 omega
def zsR:V->List V->Hp->VK->Prop:=fun x vs H Q=>∃l b xs zs,x= .ref l/\vs=[.ref b]/\H l=some (.lst xs)/\H b=some (.lst zs)/\xs.length + zs.length<=sizeLine/\Q .non (upd H l (.lst (xs ++ zs)))
theorem zpa:MtM X "list.extend" zsR:=by
 intro pins s σ H x vs v us Q I rx rv h
 obtain⟨l,b,xs,zs,rfl,rfl,hH,hB,hz,q⟩:=h
 cases rx
 obtain⟨u,rfl,ru⟩:=rv.one
 cases ru
 obtain⟨z,its,n,r,hl,e⟩:=I.lstM hH
 obtain⟨z2,its2,n2,r2,hl2,e2⟩:=I.lstM hB
 have hsz:its.toArray.size + its2.toArray.size<=sizeLine:=by rw[List.size_toArray,List.size_toArray]; omega
 have hlong:¬(!its.toArray.isEmpty && Builtin.List.listTooLong (its.toArray.size + its2.toArray.size))=true:=by
  rw[zq0 hsz,Bool.and_false]
  exact Bool.false_ne_true
 refine call_meets F.slot_list_extend ⟨_,e,rfl⟩ F.entry_list_extend (F.args_list_extend_2 _ _)
  (AutoSeq1.list_extend_list_list_0 l its.toArray n b its2.toArray n2 hlong (by rw[List.size_toArray]; omega) (by omega)) ⟨e,e2,?_⟩
 refine⟨.non,_,I.lset (its':=its ++ its2) hH e (by simp) (r.append r2) ?_,rfl,q⟩
 rw[List.length_append]
 omega
def zy6:V->List V->Hp->VK->Prop:=fun x vs H Q=>∃l xs y,x= .ref l/\vs=[]/\H l=some (.lst xs)/\xs[xs.length - 1]? =some y/\Q y (upd H l (.lst xs.dropLast))
theorem zvX:MtM X "list.pop" zy6:=by
 intro pins s σ H x vs v us Q I rx rv h
 obtain⟨l,xs,y,rfl,rfl,hH,hy,q⟩:=h
 cases rx
 have hus:=rv.zero
 subst hus
 obtain⟨z,its,n,r,hl,e⟩:=I.lstM hH
 obtain⟨u,hu,ru⟩:=r.get hy
 have hy':its.toArray[its.toArray.size - 1]? =some u:=by
  show its.toArray[its.length - 1]? =some u
  rw[<- Array.getElem?_toList,<- hl]
  exact hu
 refine call_meets F.slot_list_pop ⟨_,e,rfl⟩ F.entry_list_pop (F.args_list_pop_1 _) (MeetsSeq.list_pop_last l its.toArray n u hy' (by rw[List.size_toArray]; omega)) ⟨e,?_⟩
 refine⟨y,_,I.lset (its':=its.dropLast) hH e ?_ r.dropLast ?_,ru,q⟩
 .show its.toArray.eraseIdxIfInBounds (its.toArray.size - 1)=its.dropLast.toArray
  rw[List.size_toArray,List.eraseIdxIfInBounds_toArray,zn4]
 .rw[List.length_dropLast]
  omega
def zzb:R2:=fun x y H Q=>∃l b xs zs,x= .ref l/\y= .ref b/\H l=some (.lst xs)/\H b=some (.lst zs)/\xs.length + zs.length<=sizeLine/\∀p,H p=none->Q (.ref p) (upd H p (.lst (xs ++ zs)))
theorem zvO:OpR X (binaryOp .Add) zzb:=by
 intro pins s σ H x y v u Q I rx ry h
 obtain⟨l,b,xs,zs,rfl,rfl,hH,hB,hz,q⟩:=h
 cases rx
 cases ry
 obtain⟨z,its,n,r,hl,e⟩:=I.lstM hH
 obtain⟨z2,its2,n2,r2,hl2,e2⟩:=I.lstM hB
 refine PySem.P.add_list e e2 ?_ (by rw[List.size_toArray,List.size_toArray]; omega)
 have ea:its.toArray ++ its2.toArray=(its ++ its2).toArray:=by simp
 rw[ea]
 exact⟨.ref _,_,I.lnew (t':=s.toks) (r.append r2) (by rw[List.length_append]; omega),rfl,q _ I.fresh⟩
end
section
variable {prog:Program}{w:World}{A:Around}{E:Value->Shared->Prop}{s:Shared}
set_option maxRecDepth 100000 in
end
section
variable {X:Cx}
end
end L2
namespace L2
open PySem PySem.Spec PyProof.Rows
theorem zif:∀{us:List Value} {ns:List Int},IntsAre us ns->Vals (ns.map V.int) us
 | _,_,.nil=> by rw[List.map_nil]; exact Paired.nil
 | _,_,.cons n t h=> by rw[List.map_cons]; exact Paired.cons (show RelV (V.int n) (Value.int n t) from⟨t,rfl⟩) (zif h)
theorem Vals.bls:∀{bs:List Bool} {us:List Value},Vals (bs.map V.bl) us->us=bs.map Value.bool
 | [],us,h=> by
  rw[List.map_nil] at h
  cases h
  rfl
 | b::bs,us,h=> by
  rw[List.map_cons] at h
  cases h with
  | cons r t=>
   cases r
   rw[Vals.bls t,List.map_cons]
theorem Vals.ref1{a:Addr}{us:List Value}(r:Vals [V.ref a] us):us=[Value.ref a]:=by
 cases r with
 | cons r t=>
  cases t
  cases r
  rfl
section
variable {prog:Program}{w:World}{A:Around}{E:Value->Shared->Prop}{s:Shared}{l:Addr}{its:List Value}{ns:List Int}{Q:Value->Shared->Prop}
end
section
variable {X:Cx}
theorem zlS{n:Nat}(h:n < 64):n<=sizeLine:=by rw[sizeLine_eq]; omega
end
section
variable {X:Cx}
end
section
variable {X:Cx}
end
theorem zq9{prog:Program}{w:World}{A:Around}{E:Value->Shared->Prop}{s:Shared}{l:Addr}{items:Array Value}{Q:Value->Shared->Prop}(hl:s.heap.IsList l items)
  (h:∀s₂:Shared,s₂={s with heap:=s.heap.push {cls:= .type "list_iterator",data:= .fields #[.ref l,.int 0 0]}}->
   (s₂.heap.IsListIter s.heap.objs.size l 0/\s₂.heap.IsList l items)->l≠s.heap.objs.size->Q (.ref s.heap.objs.size) s₂):wpAny (model prog w) A (pyIter (.ref l)) Q E s:=by
 have hlt:l < s.heap.objs.size:=by obtain⟨_,e,_⟩:=hl; exact Heap.lt_size e
 exact wpAny_pyIter_list hl (h _ rfl ⟨⟨_,Heap.get?_push_size _ rfl,rfl,rfl⟩,hl.push _⟩ (Nat.ne_of_lt hlt))
theorem zlP{prog:Program}{w:World}{A:Around}{bs:List Bool}{its:List Value}(e:its=bs.map Value.bool):
  TruthOf prog w A (fun i v=> its.toArray[i]? =some v) (fun i=> bs.getD i false):=fun i v s Q E hv hq=> by
 have hv':its[i]? =some v:=by simpa using hv
 rw[e,List.getElem?_map] at hv'
 obtain⟨b,hb,rfl⟩:=Option.map_eq_some_iff.mp hv'
 have hg:bs.getD i false=b:=by rw[List.getD_eq_getElem?_getD,hb] <;> rfl
 have hq':Q (bs.getD i false) s:=hq
 rw[hg] at hq'
 exact wpAny_truthy_bool hq'
theorem zlL:∀bs:List Bool,(List.range bs.length).all (fun i=> bs.getD i false)=bs.all id
 | []=> rfl
 | b::bs=> by
  rw[List.length_cons,List.range_succ_eq_map,List.all_cons,List.all_map,List.all_cons,<- zlL bs]
  all_goals rfl
section
variable {X:Cx}
def zzc(K:PySem.W.Frag):List V->Hp->VK->Prop:=fun vs H Q=>∃(a:Addr) (bs:List Bool),vs=[V.ref a]/\SqL K H a (bs.map V.bl)/\Q (.bl (bs.all id)) H
theorem zwJ(hc:X.calm=true):zlM X (.builtin "all") (zzc X.K):=by
 intro pins s σ H vs us Q I r h
 obtain⟨a,bs,rfl,hs,q⟩:=h
 obtain⟨its,rv,hl,_⟩:=I.list hs
 rw[Vals.ref1 r]
 have hb:=rv.bls
 refine call_all_walk (zq9 hl.isList fun s₂ e2 st hne=> ?_)
 subst e2
 refine⟨_,_,_,_,_,_,_,rfl,Walks.list (A:=X.A.in1) (I.ok.hd hc) _ a hne its.toArray,st,zlP hb,fun h' tk hk=> ?_⟩
 refine⟨.bl _,H,I.kept fun b o eo=> hk b o (fun hmem=> ?_) (Heap.get?_push_of_some _ eo),?_,q⟩
 .rcases List.mem_cons.mp hmem with e1 | hmem
  .exact absurd (e1 ▸ Heap.lt_size eo) (Nat.lt_irrefl _)
  .cases hmem
 .show Value.bool _=Value.bool _
  rw[<- zlL,hb,List.size_toArray,List.length_map]
end
mutual
inductive Dp (K:PySem.W.Frag) (H:Hp):V->PyData->Prop
 | non:Dp K H .non .none
 | bl (b:Bool):Dp K H (.bl b) (.bool b)
 | int (i:Int):Dp K H (.int i) (.int i)
 | str (x:Str):Dp K H (.str x) (.str x)
 | lst {a:Addr} {xs:List V} {ds:List PyData}:SqL K H a xs->DpAll K H xs ds->Dp K H (.ref a) (.list ds)
 | tup {a:Addr} {xs:List V} {ds:List PyData}:SqT K H a xs->DpAll K H xs ds->Dp K H (.ref a) (.tuple ds)
inductive DpAll (K:PySem.W.Frag) (H:Hp):List V->List PyData->Prop
 | nil:DpAll K H [] []
 | cons {v:V} {vs:List V} {d:PyData} {ds:List PyData}:Dp K H v d->DpAll K H vs ds->DpAll K H (v::vs) (d::ds)
end
section
variable {X:Cx}{pins:List (Addr×Obj)}{σ:St}{H:Hp}{s:Shared}
mutual
theorem Dp.reads(I:Inv X pins σ H s):∀(d:PyData) (v:V) (u:Value),Dp X.K H v d->RelV v u->∃as,Reads s.heap u d as
 | .none,_,_,h,r=> by
  cases h
  cases r
  exact⟨_,Reads.none⟩
 | .bool b,_,_,h,r=> by
  cases h
  cases r
  exact⟨_,Reads.bool b⟩
 | .int i,_,_,h,r=> by
  cases h
  obtain⟨t,rfl⟩:=r
  exact⟨_,Reads.int i t⟩
 | .str x,_,_,h,r=> by
  cases h
  obtain⟨t,rfl⟩:=r
  exact⟨_,Reads.str x t⟩
 | .list ds,_,_,h,r=> by
  cases h with
  | lst hs ha=>
   cases r
   obtain⟨its,rv,⟨o,n,ho,hc,_,hd⟩,_⟩:=I.list hs
   obtain⟨as,hr⟩:=Dp.readsAll I ds _ its ha rv
   exact⟨_,Reads.list ho hc hd hr⟩
 | .tuple ds,_,_,h,r=> by
  cases h with
  | tup hs ha=>
   cases r
   obtain⟨its,rv,⟨o,ho,hc,n,hd⟩,_⟩:=I.tuple hs
   obtain⟨as,hr⟩:=Dp.readsAll I ds _ its ha rv
   exact⟨_,Reads.tuple ho hc hd hr⟩
 | .dict _,_,_,h,_=> by cases h
theorem Dp.readsAll(I:Inv X pins σ H s):∀(ds:List PyData) (vs:List V) (us:List Value),DpAll X.K H vs ds->Vals vs us->∃as,ReadsAll s.heap us ds as
 | [],_,_,h,r=> by
  cases h
  cases r
  exact⟨_,ReadsAll.nil⟩
 | d::ds,_,_,h,r=> by
  cases h with
  | cons h1 h2=>
   cases r with
   | cons r1 r2=>
    obtain⟨as,q1⟩:=Dp.reads I d _ _ h1 r1
    obtain⟨bs,q2⟩:=Dp.readsAll I ds _ _ h2 r2
    exact⟨_,ReadsAll.cons q1 q2⟩
end
end
section
variable {X:Cx}
def zza(K:PySem.W.Frag):R2:=fun x y H Q=>∃d e,Dp K H x d/\Dp K H y e/\SeqAt.shaped d=true/\SeqAt.shaped e=true/\Q (.bl (PyData.eqv d e)) H
theorem zvM(hu:X.A.units + 64 < cLine):OpR X (compareOp .Eq) (zza X.K):=by
 intro pins s σ H x y v u Q I rx ry h
 obtain⟨d,e,hd,he,sd,se,q⟩:=h
 obtain⟨as,r1⟩:=Dp.reads I d x v hd rx
 obtain⟨bs,r2⟩:=Dp.reads I e y u he ry
 exact SeqAt.compareEq_shaped r1 r2 sd se hu ⟨.bl _,H,I,rfl,q⟩
end
end L2
namespace L2
open PySem PySem.Spec PyProof.Rows
abbrev zsB(h:Heap)(c:Addr)(v:Option Value):Prop:=h.IsCell c v
def zy4(scope sc:Scope):Scope:=
 {scope with names:=scope.names.map fun (n,k)=> if (k== .free && sc.kind== .function && sc.names.lookup n==some .cell) then (n,.cell) else (n,k)}
def zcM(cells:List (Str×Addr)):List (Str×NameKind)->List (Str×Addr)->List (Str×Addr)
 | [],acc=> acc
 |(n,k)::r,acc=> if k== .free then zcM cells r ((n,(cells.lookup n).getD 0)::acc) else zcM cells r acc
theorem zin(env:Env)(f:Str×NameKind->List (Str×Addr)->Sem (ForInStep (List (Str×Addr))))
  (hf:∀n k c,f (n,k) c=if k== .free then (do let a <- cellOf env n; pure (.yield ((n,a)::c))) else pure (.yield c)):
  ∀(names:List (Str×NameKind)) (acc:List (Str×Addr)),(∀y∈names,y.2= .free->∃c,env.cells.lookup y.1=some c)->forIn names acc f=pure (zcM env.cells names acc)
 | [],acc,_=> by rw[List.forIn_nil]; rfl
 |(n,k)::r,acc,h=> by
  rw[List.forIn_cons,hf]
  have ih:=fun acc=> zin env f hf r acc fun y hy=> h y (List.mem_cons_of_mem _ hy)
  unfold zcM
  by_cases hk:(k==NameKind.free)=true
  .rw[if_pos hk,if_pos hk]
   obtain⟨c,hc⟩:=h (n,k) List.mem_cons_self (by simpa using hk)
   have e:cellOf env n=pure c:=by unfold cellOf; rw[hc]
   rw[e]
   have e2:(env.cells.lookup n).getD 0=c:=by rw[hc]; rfl
   rw[e2]
   exact ih _
  .rw[if_neg hk,if_neg hk]
   exact ih _
theorem zod{scope:Scope}{env:Env}(h:∀y∈scope.names,y.2= .free->∃c,env.cells.lookup y.1=some c):closureFor scope env=pure (zcM env.cells scope.names []):=by
 simp only[closureFor]
 rw[zin env _ (fun n k c=> rfl) scope.names [] h]
 rfl
theorem zh6{α:Type}:∀{l:List (Str×α)} {n:Str} {c:α},(n,c)∈l->∃c',l.lookup n=some c'
 |(k,v)::r,n,c,h=> by
  rw[List.lookup_cons]
  cases hb:n==k with
  | true=> exact⟨_,rfl⟩
  | false=>
   rcases List.mem_cons.mp h with e | h
   .cases e; simp at hb
   .exact zh6 h
theorem zfZ{cells:List (Str×Addr)}:∀{names:List (Str×NameKind)} {acc:List (Str×Addr)} {n:Str} {c:Addr},(n,c)∈zcM cells names acc->(n,c)∈acc\/((n,.free)∈names/\c=(cells.lookup n).getD 0)
 | [],_,_,_,h=> .inl h
 |(m,k)::r,acc,n,c,h=> by
  unfold zcM at h
  split at h
  .rename_i hk
   have hk:k= .free:=by simpa using hk
   rcases zfZ h with h |⟨h1,h2⟩
   .rcases List.mem_cons.mp h with e | h
    .cases e; exact .inr ⟨hk ▸ List.mem_cons_self,rfl⟩
    .exact .inl h
   .exact .inr ⟨List.mem_cons_of_mem _ h1,h2⟩
  .rcases zfZ h with h |⟨h1,h2⟩
   .exact .inl h
   .exact .inr ⟨List.mem_cons_of_mem _ h1,h2⟩
theorem zhm{cells:List (Str×Addr)}:∀{names:List (Str×NameKind)} {acc:List (Str×Addr)} {p:Str×Addr},p∈acc->p∈zcM cells names acc
 | [],_,_,h=> h
 |(m,k)::r,acc,p,h=> by
  unfold zcM
  split
  .exact zhm (List.mem_cons_of_mem _ h)
  .exact zhm h
theorem zhl{cells:List (Str×Addr)}:∀{names:List (Str×NameKind)} {acc:List (Str×Addr)} {n:Str},(n,.free)∈names->(n,(cells.lookup n).getD 0)∈zcM cells names acc
 |(m,k)::r,acc,n,h=> by
  unfold zcM
  rcases List.mem_cons.mp h with e | h
  .cases e
   exact zhm List.mem_cons_self
  .split
   .exact zhl h
   .exact zhl h
theorem zgu:∀{names:List (Str×NameKind)} {h:Heap} {acc:List (Str×Addr)} {x:Str} {c:Addr},(x,c)∈cellsFrom h.objs.size names acc->
  (x,c)∈acc\/((x,.cell)∈names/\h.objs.size<=c/\zsB (pushCells h names) c none)
 | [],_,_,_,_,h=> .inl h
 |(n,k)::r,h,acc,x,c,hm=> by
  unfold cellsFrom at hm
  unfold pushCells
  split at hm
  .rename_i hk
   rw[if_pos hk]
   have hk:k= .cell:=by simpa using hk
   rw[<- Heap.size_push h {cls:= .type "cell",data:= .cell none}] at hm
   rcases zgu hm with hm |⟨h1,h2,h3⟩
   .rcases List.mem_cons.mp hm with e | hm
    .cases e
     exact .inr ⟨hk ▸ List.mem_cons_self,Nat.le_refl _,_,pushCells_keeps r _ _ _ (Heap.get?_push_size _ rfl),rfl⟩
    .exact .inl hm
   .rw[Heap.size_push] at h2
    exact .inr ⟨List.mem_cons_of_mem _ h1,Nat.le_of_succ_le h2,h3⟩
  .rename_i hk
   rw[if_neg hk]
   rcases zgu hm with hm |⟨h1,h2,h3⟩
   .exact .inl hm
   .exact .inr ⟨List.mem_cons_of_mem _ h1,h2,h3⟩
theorem zhM:∀{names:List (Str×NameKind)} {n:Nat} {acc:List (Str×Addr)} {p:Str×Addr},p∈acc->p∈cellsFrom n names acc
 | [],_,_,_,h=> h
 |(m,k)::r,n,acc,p,h=> by
  unfold cellsFrom
  split
  .exact zhM (List.mem_cons_of_mem _ h)
  .exact zhM h
theorem zjo:∀{names:List (Str×NameKind)} {n:Nat} {acc:List (Str×Addr)} {x:Str},(x,.cell)∈names->∃c,(x,c)∈cellsFrom n names acc
 |(m,k)::r,n,acc,x,h=> by
  unfold cellsFrom
  rcases List.mem_cons.mp h with e | h
  .cases e
   exact⟨n,zhM List.mem_cons_self⟩
  .split
   .exact zjo h
   .exact zjo h
theorem zjn:∀{names:List (Str×NameKind)} {h:Heap} {acc:List (Str×Addr)} {x y:Str} {c:Addr},(∀p∈acc,p.2 < h.objs.size)->(∀x y c,(x,c)∈acc->(y,c)∈acc->x=y)->
  (x,c)∈cellsFrom h.objs.size names acc->(y,c)∈cellsFrom h.objs.size names acc->x=y
 | [],_,_,_,_,_,_,hi,h1,h2=> hi _ _ _ h1 h2
 |(n,k)::r,h,acc,x,y,c,hl,hi,h1,h2=> by
  unfold cellsFrom at h1 h2
  split at h1
  .rename_i hk
   rw[if_pos hk] at h2
   rw[<- Heap.size_push h {cls:= .type "cell",data:= .cell none}] at h1 h2
   refine zjn (h:=h.push _) (fun p hp=> ?_) (fun x y c a b=> ?_) h1 h2
   .rw[Heap.size_push]
    rcases List.mem_cons.mp hp with rfl | hp
    .exact Nat.lt_succ_self _
    .exact Nat.lt_succ_of_lt (hl p hp)
   .rcases List.mem_cons.mp a with e | a <;> rcases List.mem_cons.mp b with e' | b
    .cases e; cases e'; rfl
    .cases e; exact absurd (hl _ b) (Nat.lt_irrefl _)
    .cases e'; exact absurd (hl _ a) (Nat.lt_irrefl _)
    .exact hi _ _ _ a b
  .rename_i hk
   rw[if_neg hk] at h2
   exact zjn hl hi h1 h2
theorem zl4{M:Model}{A:Around}{E:Value->Shared->Prop}{s:Shared}{scope:Scope}{globals:Addr}{closure:List (Str×Addr)}{qual:Str}{func:Option Addr}{code:Value}{around:Env}{builtins:Addr}{Q:Env->Shared->Prop}
  (h:Q (newEnv scope s.heap.objs.size globals (cellsFrom (s.heap.objs.size + 1) scope.names closure) qual func code (some around) builtins)
   {s with heap:=pushCells (s.heap.push {cls:= .type "dict",data:= .dict #[]}) scope.names}):
  wpAny M A (newFunctionEnv scope globals closure [] qual func code (some around) builtins) Q E s:=by
 simp only[newFunctionEnv,Option.isSome_some,if_true]
 refine wpAny_bind (wpAny_alloc ?_)
 refine wpAny_bind (wpAny_layCells _ (fun n k c=> rfl) scope.names closure _ _ ?_)
 rw[show ({s with heap:=s.heap.push {cls:= .type "dict",data:= .dict #[]}}:Shared).heap.objs.size=s.heap.objs.size + 1 from Heap.size_push ..]
 rw[List.forIn_nil]
 exact wpAny_bind (wpAny_pure (wpAny_pure h))
theorem zhk{sc:Scope}:∀{names:List (Str×NameKind)} {x:Str} {k:NameKind},
  (names.map fun (n,k)=> if (k==NameKind.free && sc.kind== .function && sc.names.lookup n==some .cell) then (n,NameKind.cell) else (n,k)).lookup x=some k->
  ∃k',names.lookup x=some k'/\(k=k'\/(k'= .free/\k= .cell))
 | [],_,_,h=> by simp at h
 |(n,k₀)::r,x,k,h=> by
  have ih:=@zhk sc r x k
  have h':List.lookup x ((if (k₀==NameKind.free && sc.kind== .function && sc.names.lookup n==some .cell)=true then (n,NameKind.cell) else (n,k₀))::(r.map _))=some k:=h
  cases hx:x==n with
  | true=>
   simp only[List.lookup_cons,hx]
   by_cases hc:(k₀==NameKind.free && sc.kind== .function && sc.names.lookup n==some .cell)=true
   .rw[if_pos hc] at h'
    simp only[List.lookup_cons,hx] at h'
    cases h'
    simp only[Bool.and_eq_true,beq_iff_eq] at hc
    exact⟨k₀,rfl,.inr ⟨hc.1.1,rfl⟩⟩
   .rw[if_neg hc] at h'
    simp only[List.lookup_cons,hx] at h'
    cases h'
    exact⟨_,rfl,.inl rfl⟩
  | false=>
   simp only[List.lookup_cons,hx]
   by_cases hc:(k₀==NameKind.free && sc.kind== .function && sc.names.lookup n==some .cell)=true
   .rw[if_pos hc] at h'
    simp only[List.lookup_cons,hx] at h'
    exact ih h'
   .rw[if_neg hc] at h'
    simp only[List.lookup_cons,hx] at h'
    exact ih h'
structure BlkOk (N:List Str) (sc scope:Scope) (own:List (Str×Nat)):Prop where
 kind:scope.kind= .function
 uniq:∀y∈scope.names,scope.names.lookup y.1=some y.2
 ix:∀p∈own,N[p.2]? =some p.1
 free:∀y∈scope.names,y.2= .free->sc.names.lookup y.1=some .cell\/sc.names.lookup y.1=some .free
 own:∀y∈scope.names,y.2= .local\/y.2= .cell->y.1∈own.map (·.1)\/y.1∉N
def zjA(σ:St):List Nat->St
 | []=> σ
 | v::vs=> (zjA σ vs).set v none
theorem zhc(σ:St):∀vs:List Nat,(zjA σ vs).length=σ.length
 | []=> rfl
 | v::vs=> by unfold zjA; rw[List.length_set,zhc σ vs]
theorem ziG{σ:St}{i:Nat}{x:V}:∀{vs:List Nat},(zjA σ vs)[i]? =some (some x)->σ[i]? =some (some x)/\i∉vs
 | [],h=> ⟨h,by simp⟩
 | v::vs,h=> by
  unfold zjA at h
  by_cases hi:v=i
  .subst hi
   by_cases hv:v < (zjA σ vs).length
   .rw[List.getElem?_set_self hv] at h; cases h
   .rw[List.getElem?_eq_none (by simpa using hv)] at h; cases h
  .rw[List.getElem?_set_ne hi] at h
   obtain⟨h1,h2⟩:=ziG h
   exact⟨h1,by simp only[List.mem_cons,not_or]; exact⟨fun e=> hi e.symm,h2⟩⟩
abbrev Cx.blk(X:Cx)(s:Shared)(H:Hp)(scope:Scope)(cenv:Env)(fp:List Addr):Cx:={X with s_0:=s,H_0:=H,env:=cenv,outer:=X.stack,ex:=fp,fn:=fun x=> scope.names.lookup x==some .cell,pn:=[],xe:=fun _ _=> False}
section
variable {X:Cx}{pins:List (Addr×Obj)}{σ:St}{H:Hp}{s:Shared}
theorem zmy{scope:Scope}{own:List (Str×Nat)}{fp:List Addr}(I:Inv X pins σ H s)(ok:BlkOk X.N X.env.scope scope own)(hN:X.N.Nodup)(hfp:∀b∈fp,zqe X pins H b/\b < s.heap.objs.size):
  Inv (X.blk s H scope (compEnvC scope (cellsFrom (s.heap.objs.size + 1) scope.names (zcM X.env.cells scope.names [])) s.heap.objs.size X.env) fp) [] (zjA σ (own.map (·.2))) H {s with heap:=pushCells (s.heap.push {cls:= .type "dict",data:= .dict #[]}) scope.names}:=by
 have hfree:∀y∈scope.names,y.2= .free->∃c,X.env.cells.lookup y.1=some c:=fun y hy e=> by
  rcases ok.free y hy e with k | k
  .exact I.ok.has _ (.inl k)
  .exact I.ok.has _ (.inr k)
 generalize hcenv:compEnvC scope (cellsFrom (s.heap.objs.size + 1) scope.names (zcM X.env.cells scope.names [])) s.heap.objs.size X.env=cenv
 have kp:∀b o,s.heap.get? b=some o->(pushCells (s.heap.push {cls:= .type "dict",data:= .dict #[]}) scope.names).get? b=some o:=fun b o e=> pushCells_keeps _ _ _ _ (Heap.get?_push_of_some _ e)
 have hL:cenv.locals=s.heap.objs.size:=by rw[<- hcenv]; rfl
 have hcl:cenv.cells=cellsFrom (s.heap.objs.size + 1) scope.names (zcM X.env.cells scope.names []):=by rw[<- hcenv]; rfl
 have hsc:cenv.scope=zy4 scope X.env.scope:=by rw[<- hcenv]; rfl
 rw[<- Heap.size_push s.heap {cls:= .type "dict",data:= .dict #[]}] at hcl
 have cm:∀{y c},(y,c)∈zcM X.env.cells scope.names []->X.env.cells.lookup y=some c/\c < s.heap.objs.size:=fun {y c} hm=> by
  rcases zfZ hm with hm |⟨h1,rfl⟩
  .cases hm
  .obtain⟨c,hc⟩:=hfree _ h1 rfl
   rw[hc]
   obtain⟨w,z⟩:=I.cell _ _ hc
   exact⟨rfl,z.lt⟩
 have mem:∀{y c},cenv.cells.lookup y=some c->(X.env.cells.lookup y=some c/\c < s.heap.objs.size)\/(s.heap.objs.size + 1<=c/\zsB (pushCells (s.heap.push {cls:= .type "dict",data:= .dict #[]}) scope.names) c none):=fun {y c} e=> by
  rw[hcl] at e
  rcases zgu (PySem.mem_of_lookup e) with hm |⟨_,h2,h3⟩
  .exact .inl (cm hm)
  .rw[Heap.size_push] at h2; exact .inr ⟨h2,h3⟩
 have look:∀{y},scope.names.lookup y=some .free->∃c,cenv.cells.lookup y=some c/\X.env.cells.lookup y=some c:=fun {y} hl=> by
  have hy:(y,NameKind.free)∈scope.names:=PySem.mem_of_lookup hl
  obtain⟨c',e'⟩:=zh6 (zhM (names:=scope.names) (n:=(s.heap.push {cls:= .type "dict",data:= .dict #[]}).objs.size) (zhl (cells:=X.env.cells) (acc:=[]) hy))
  rw[<- hcl] at e'
  refine⟨c',e',?_⟩
  rw[hcl] at e'
  rcases zgu (PySem.mem_of_lookup e') with hm |⟨h1,_,_⟩
  .exact (cm hm).1
  .have:=ok.uniq _ h1
   rw[hl] at this; cases this
 have okB:(X.blk s H scope cenv fp).Ok:=by
  refine⟨I.ok.mod,by show cenv.scope.kind=_; rw[hsc]; exact ok.kind,by show cenv.globals=_; rw[<- hcenv]; exact I.ok.glob,by show cenv.builtins=_; rw[<- hcenv]; exact I.ok.blt,by show s.heap.objs.size<=cenv.locals; rw[hL]; exact Nat.le_refl _,
   fun y z c e1 e2=> ?_,fun y hy=> ?_,fun y c z e=> ?_,I.ok.hd,I.ok.frames,.inl rfl,fun b hb=> ⟨?_,fun y c e z=> ?_⟩,I.bs,Nat.le_trans I.ok.bsz I.sz,fun b o e hb=> ?_,fun b hb z=> ?_,I.stack,I.stkFree⟩
  .have e1:cenv.cells.lookup y=some c:=e1
   have e2:cenv.cells.lookup z=some c:=e2
   rw[hcl] at e1 e2
   refine zjn (fun p hp=> ?_) (fun y z c a b=> I.ok.inj y z c (cm a).1 (cm b).1) (PySem.mem_of_lookup e1) (PySem.mem_of_lookup e2)
   rw[Heap.size_push]
   exact Nat.lt_succ_of_lt (cm (y:=p.1) (c:=p.2) hp).2
  .show∃c,cenv.cells.lookup y=some c
   have key:∀k,cenv.kindOf y=some k->(k= .cell\/k= .free)->∃c,cenv.cells.lookup y=some c:=fun k hk hk'=> by
    unfold Env.kindOf at hk
    rw[hsc] at hk
    obtain⟨k',e,r⟩:=zhk hk
    have:k'= .cell\/k'= .free:=by
     rcases r with rfl |⟨rfl,_⟩
     .exact hk'
     .exact .inr rfl
    rcases this with rfl | rfl
    .obtain⟨c,hm⟩:=zjo (n:=(s.heap.push {cls:= .type "dict",data:= .dict #[]}).objs.size) (acc:=zcM X.env.cells scope.names []) (PySem.mem_of_lookup e)
     obtain⟨c',e'⟩:=zh6 hm
     exact⟨c',by rw[hcl]; exact e'⟩
    .obtain⟨c,h1,_⟩:=look e
     exact⟨c,h1⟩
   rcases hy with hy | hy
   .exact key _ hy (.inl rfl)
   .exact key _ hy (.inr rfl)
  .have z:(scope.names.lookup y==some NameKind.cell)=true:=z
   have z:scope.names.lookup y=some .cell:=by simpa using z
   have e:cenv.cells.lookup y=some c:=e
   rw[hcl] at e
   rcases zgu (PySem.mem_of_lookup e) with hm |⟨_,h2,_⟩
   .rcases zfZ hm with hm |⟨h1,_⟩
    .cases hm
    .have q:=ok.uniq _ h1
     rw[z] at q; cases q
   .rw[Heap.size_push] at h2
    exact Nat.le_of_succ_le h2
  .show b≠cenv.locals
   rw[hL]; exact Nat.ne_of_lt (hfp b hb).2
  .have e:cenv.cells.lookup y=some c:=e
   rcases mem e with⟨h1,_⟩ |⟨h1,_⟩
   .exact (hfp b hb).1.2.2.2.2.1 y c h1 z
   .have h2:s.heap.objs.size + 1<=b:=by rw[<- z]; exact h1
    exact absurd (Nat.lt_of_lt_of_le (hfp b hb).2 (Nat.le_of_succ_le h2)) (Nat.lt_irrefl _)
  .rcases (hfp b hb).1.2.2.2.1 with z | z
   .exact I.ok.noex b o e z
   .exact absurd (Nat.lt_of_lt_of_le (Heap.lt_size e) (Nat.le_trans I.ok.bsz z)) (Nat.lt_irrefl _)
  .rcases List.mem_cons.mp (I.stkSub b z) with z | z
   .exact (hfp b hb).1.2.1 z
   .exact (hfp b hb).1.2.2.1 z
 refine⟨okB,rfl,I.bare,Un.kept kp,⟨fun _=> none,?_,fun i y av e1 e2 e3=> ?_⟩,fun y c e=> ?_,?_,fun y c e=> ?_,fun p hp=> ?_,I.hok.kept kp,by rw[zhc]; exact I.len⟩
 .show Heap.Ns _ cenv.locals _
  rw[hL]
  exact Heap.Ns.keeps (Heap.Ns.new ..) fun b o e=> pushCells_keeps _ _ _ _ e
 .obtain⟨e2,hne⟩:=ziG e2
  have hfr:scope.names.lookup y=some .free/\(cenv.kindOf y=some .cell\/cenv.kindOf y=some .free):=by
   have key:∀k,cenv.scope.names.lookup y=some k->k= .local\/k= .cell\/k= .free->scope.names.lookup y=some .free/\(cenv.kindOf y=some .cell\/cenv.kindOf y=some .free):=fun k hk hk'=> by
    have hk0:=hk
    rw[hsc] at hk
    obtain⟨k',e,r⟩:=zhk hk
    have no:¬(k'= .local\/k'= .cell):=fun hh=> by
     rcases ok.own _ (PySem.mem_of_lookup e) hh with e' | e'
     .obtain⟨p,hp,hpy⟩:=List.mem_map.mp e'
      have e3:=ok.ix p hp
      have:p.1=y:=hpy
      rw[this] at e3
      exact hne (List.mem_map.mpr ⟨p,hp,zkv hN e3 e1⟩)
     .exact e' (List.mem_of_getElem? e1)
    rcases r with rfl |⟨rfl,rfl⟩
    .rcases hk' with rfl | rfl | rfl
     .exact absurd (.inl rfl) no
     .exact absurd (.inr rfl) no
     .exact⟨e,.inr hk0⟩
    .exact⟨e,.inl hk0⟩
   have e3:Vis cenv.scope y:=e3
   rcases e3 with e3 | e3 | e3
   .exact key _ e3 (.inl rfl)
   .exact key _ e3 (.inr (.inl rfl))
   .exact key _ e3 (.inr (.inr rfl))
  obtain⟨m,hn,hl⟩:=I.loc
  have hvis:Vis X.env.scope y:=(ok.free _ (PySem.mem_of_lookup hfr.1) rfl).elim (fun k=> .inr (.inl k)) (fun k=> .inr (.inr k))
  obtain⟨w,r,q⟩:=hl i y av e1 e2 hvis
  refine⟨w,r,.inr ⟨hfr.2,?_⟩⟩
  obtain⟨c,h1,h2⟩:=look hfr.1
  rcases q with⟨k,_⟩ |⟨_,c',e',z⟩
  .have k:X.env.scope.names.lookup y=some .local:=k
   rcases ok.free _ (PySem.mem_of_lookup hfr.1) rfl with k' | k' <;> rw[show X.env.scope.names.lookup y=_ from k'] at k <;> cases k
  .rw[h2] at e'; cases e'
   exact⟨c,h1,z.keeps kp⟩
 .have e:cenv.cells.lookup y=some c:=e
  rcases mem e with⟨h1,_⟩ |⟨_,z⟩
  .obtain⟨w,z⟩:=I.cell y c h1
   exact⟨w,z.keeps kp⟩
  .exact⟨_,z⟩
 .show H cenv.locals=none
  rw[hL]; exact I.hok.fresh (Nat.le_refl _)
 .have e:cenv.cells.lookup y=some c:=e
  rcases mem e with⟨h1,_⟩ |⟨h1,_⟩
  .exact I.freeC y c h1
  .exact I.hok.fresh (Nat.le_of_succ_le h1)
 .exact absurd (show p∈([]:List (Addr×Obj)) ++ [] from hp) (by simp)
theorem zwL{E:Value->Shared->Prop}{D:Addr}{xs:List V}{y:V}{v:Value}{Q:Value->Shared->Prop}(I:Inv X pins σ H s)(hD:H D=some (.lst xs))(hz:xs.length < sizeLine)(r:RelV y v)
  (h:∀s',Inv X pins σ (upd H D (.lst (xs ++ [y]))) s'->Q .none s'):wpAny (model X.prog X.w) X.A (call (.builtin "list.append") [.ref D,v]) Q E s:=by
 obtain⟨hz',its,n,ri,e⟩:=I.hok D _ hD
 have hl:=ri.length
 refine append_at (hsz:=by rw[List.size_toArray]; omega) e fun h' sb ho'=> ?_
 refine h {s with heap:=h'} (I.write (t':=s.toks) (by rw[hD]; trivial) (.inl rfl) (fun b u hb q=> (sb.2 b hb).trans q) ⟨_,ho'⟩ ⟨by rw[List.length_append]; exact hz,its ++ [v],n + 1,ri.append (.cons r .nil),?_⟩)
 rw[ho']
 simp
def PTs(X:Cx)(ifs:List Expr)(t:TT):Prop:=
 ∀(pins:List (Addr×Obj)) (s:Shared) (σ:St) (H:Hp) (Q:Bool->Hp->Prop),Inv X pins σ H s->t σ H Q->
  wpAny (model X.prog X.w) X.A (forIn ifs true fun c r=> if r=true then do let ok <- isTrue c X.env (eval c X.env); pure (ForInStep.yield ok) else pure (ForInStep.yield r)) (TP X pins σ Q) X.xe s
def zyG:TT:=fun _ H Q=> Q true H
theorem zs6:PTs X [] zyG:=fun _ _ _ H _ I h=> wpAny_tests_nil ⟨H,I,h⟩
end
theorem zuI{α:Type}{t:Sem α}{Q Q':α->Shared->Prop}{M:Model}{A:Around}{E:Value->Shared->Prop}{s:Shared}(h:wpAny M A t Q (fun _ _=> False) s)(hQ:∀a s,Q a s->Q' a s):wpAny M A t Q' E s:=wpAny_mono h hQ fun _ _ z=> False.elim z
theorem zlB{prog:Program}{w:World}{A:Around}{R:Result->Shared->Prop}{s:Shared}{elt target iter:Expr}{ifs:List Expr}{scope:Scope}{pos:Pos}{it acc:Value}{env:Env}(I:Nat->Shared->Prop)
  (turn:∀n s,I n s->wpAny (model prog w) A (pyNext it) (fun r s₁=> match r with
   | none=> R (.ok .next) s₁
   | some v=> wpAny (model prog w) A (letOwnedTupleGo target it v) (fun _ s₁'=> wpAny (model prog w) A (assign target env v) (fun _ s₂=>
     wpAny (model prog w) A (forIn ifs true fun c r=> if r=true then do let ok <- isTrue c env (eval c env); pure (ForInStep.yield ok) else pure (ForInStep.yield r)) (fun ok s₃=>
      if ok=true then wpAny (model prog w) A (eval elt env) (fun x s₄=>
       wpAny (model prog w) A (call (.builtin "list.append") [acc,x]) (fun _ s₅=>∃m,m < n/\I m s₅) (notedBy (model prog w) A env fun e s'=> R (.error e) s') s₄) (notedBy (model prog w) A env fun e s'=> R (.error e) s') s₃
      else∃m,m < n/\I m s₃) (notedBy (model prog w) A env fun e s'=> R (.error e) s') s₂) (notedBy (model prog w) A env fun e s'=> R (.error e) s') s₁') (notedBy (model prog w) A env fun e s'=> R (.error e) s') s₁) (notedBy (model prog w) A env fun e s'=> R (.error e) s') s)
  (n:Nat) (h:I n s):
  codeAny (model prog w) A (.compLoop (.ListComp elt [⟨target,iter,ifs,0⟩] scope pos) 0 it acc env) R s:=by
 refine codeAny_loop rfl I (fun n s hI=> ?_) n h
 show wpAny _ A ((compTurn (.ListComp elt [⟨target,iter,ifs,0⟩] scope pos) 0 it acc env).onRaise (fun x=> do noteFrame x env; theTreesLotGoes x)) _ _ s
 refine wpAny_noted ?_
 rw[compTurn_list]
 refine wpAny_bind (wpAny_standAt (wpAny_bind (wpAny_mono (turn n s hI) (fun r s₁ h₁=> ?_) fun _ _ h'=> h')))
 cases r with
 | none=> exact wpAny_pure h₁
 | some v=>
  refine wpAny_bind (wpAny_mono h₁ (fun _ s₁' h₁'=> ?_) fun _ _ h'=> h')
  refine wpAny_bind (wpAny_mono h₁' (fun _ s₂ h₂=> wpAny_bind (wpAny_mono h₂ (fun ok s₃ h₃=> ?_) fun _ _ h'=> h')) fun _ _ h'=> h')
  cases ok with
  | false=> exact wpAny_pure ⟨rfl,h₃⟩
  | true=>
   exact wpAny_bind (wpAny_bind (wpAny_mono h₃ (fun x s₄ h₄=> wpAny_bind (wpAny_mono h₄ (fun _ s₅ h₅=> wpAny_pure (wpAny_pure ⟨rfl,h₅⟩)) fun _ _ h'=> h')) fun _ _ h'=> h'))
section
variable {X:Cx}
def tLc(wi:TI)(g:TG)(tt:TT)(te:TE)(vs:List Nat):TE:=fun σ H Q=> wi σ H fun J H1=>∀D,H1 D=none->∃W:Nat->Nat->Hp->Prop,(∃m,W 0 m (upd H1 D (.lst [])))/\∀i m H,W i m H->
 (J.stop i H/\Q (.ref D) H)\/(J.go i H/\∃Nx:Hp->Prop,(∀H',Nx H'->∃m',m' < m/\W (i + 1) m' H')/\∀x H',J.yld i H x H'->g x (zjA σ vs) H' fun σ2 H2=> zjA σ2 vs=zjA σ vs/\tt σ2 H2 fun b H3=>
  if b=true then te σ2 H3 fun y H4=>∃acc,H4 D=some (.lst acc)/\acc.length < sizeLine/\Nx (upd H4 D (.lst (acc ++ [y]))) else Nx H3)
theorem ztv{pins:List (Addr×Obj)}{s:Shared}{σ:St}{H:Hp}{Q:VK}{elt tg iter:Expr}{ifs:List Expr}{scope:Scope}{own:List (Str×Nat)}{pos pos':Pos}{wi:TI}{g:TG}{tt:TT}{te:TE}{use:Option (Value->Sem Unit)}{Qf:Value->Shared->Prop}
  (hc:X.calm=true) (hN:X.N.Nodup) (I:Inv X pins σ H s) (hi:PI X tg iter wi) (ok:BlkOk X.N X.env.scope scope own)
  (hg:∀(s:Shared) (H:Hp) (C:Addr) (cl:List (Str×Addr)) (fp:List Addr),PG (X.blk s H scope (compEnvC scope cl C X.env) fp) tg g) (ht:∀(s:Shared) (H:Hp) (C:Addr) (cl:List (Str×Addr)) (fp:List Addr),PTs (X.blk s H scope (compEnvC scope cl C X.env) fp) ifs tt)
  (he:∀(s:Shared) (H:Hp) (C:Addr) (cl:List (Str×Addr)) (fp:List Addr),PE (X.blk s H scope (compEnvC scope cl C X.env) fp) elt te) (hs:∀x,foldedSetIterable iter X.env x=pure x)
  (h:tLc wi g tt te (own.map (·.2)) σ H Q)
  (hRR:∀D C s' m H',Inv X pins σ H' s'->Q (.ref D) H'->s'.heap.Ns C m->zqe X pins H' C->compPost (model X.prog X.w) X.A X.xe use Qf (.ref D) C (.ok .next) s'):
  wpAny (model X.prog X.w) X.A (comprehension (.ListComp elt [⟨tg,iter,ifs,0⟩] scope pos) scope X.env pos' (newList []) false (eval iter X.env) use) Qf X.xe s:=by
 have hfree:∀y∈scope.names,y.2= .free->∃c,X.env.cells.lookup y.1=some c:=fun y hy e=> by
  rcases ok.free y hy e with k | k
  .exact I.ok.has _ (.inl k)
  .exact I.ok.has _ (.inr k)
 refine wpAny_comprehension_free (use:=use) rfl hs (zod hfree) ok.kind (fun y hy e=> by rw[ok.uniq y hy,e])
  (thn (hi pins s σ H _ I h) fun xv s1 hx=> thn hx fun itv s2 h2=> ?_)
 obtain⟨it,fp,tn,J,H2,e,I2,T,st2,f2,q⟩:=h2
 subst e
 refine wpAny_newObj_type (zl4 ?_) (by show 0<=sizeLine; decide)
 generalize hD:s2.heap.objs.size=D
 have hDn:H2 D=none:=I2.hok.fresh (Nat.le_of_eq hD)
 obtain⟨W,⟨m0,w0⟩,turn⟩:=q D hDn
 generalize hs3:({s2 with heap:=s2.heap.push {cls:= .type "list",data:= .seq ([]:List Value).toArray}}:Shared)=s3
 have I3:Inv X pins σ (upd H2 D (.lst [])) s3:=by
  rw[<- hs3]
  refine I2.laid (t':=s2.toks) (fun b o e=> Heap.get?_push_of_some _ e) (Nat.le_of_eq hD) ⟨Nat.zero_le _,[],0,.nil,?_⟩
  rw[<- hD]
  exact Heap.get?_push_size _ rfl
 have h3:s3.heap=s2.heap.push {cls:= .type "list",data:= .seq ([]:List Value).toArray}:=by rw[<- hs3]
 have sz:∀b∈fp,b < s2.heap.objs.size:=fun b hb=> by
  obtain⟨o,e,_⟩:=T.obj _ _ st2 b hb
  exact Heap.lt_size e
 have f3:∀b∈fp,zqe X pins (upd H2 D (.lst [])) b/\b < s3.heap.objs.size:=fun b hb=> by
  have hlt:=sz b hb
  refine⟨⟨?_,(f2 b hb).2⟩,by rw[h3,Heap.size_push]; exact Nat.lt_succ_of_lt hlt⟩
  rw[zbH (by rw[<- hD]; exact Nat.ne_of_lt hlt)]
  exact (f2 b hb).1
 have st3:tn 0 s3.heap:=T.keep _ _ _ st2 fun b _ o e=> by rw[h3]; exact Heap.get?_push_of_some _ e
 have I4:=zmy I3 ok hN f3
 have pg:=hg s3 (upd H2 D (.lst [])) s3.heap.objs.size (cellsFrom (s3.heap.objs.size + 1) scope.names (zcM X.env.cells scope.names [])) fp
 have pt:=ht s3 (upd H2 D (.lst [])) s3.heap.objs.size (cellsFrom (s3.heap.objs.size + 1) scope.names (zcM X.env.cells scope.names [])) fp
 have pe:=he s3 (upd H2 D (.lst [])) s3.heap.objs.size (cellsFrom (s3.heap.objs.size + 1) scope.names (zcM X.env.cells scope.names [])) fp
 show codeAny _ _ (.compStart (.ListComp elt [⟨tg,iter,ifs,0⟩] scope pos) 0 (.ref it) (.ref D) (compEnvC scope (cellsFrom (s3.heap.objs.size + 1) scope.names (zcM X.env.cells scope.names [])) s3.heap.objs.size X.env)) (compPost (model X.prog X.w) X.A X.xe use Qf (.ref D) s3.heap.objs.size) {s3 with heap:=pushCells (s3.heap.push {cls:= .type "dict",data:= .dict #[]}) scope.names}
 have nfp:∀b∈fp,(upd H2 D (.lst [])) b=none:=fun b hb=> (f3 b hb).1.1
 generalize hce:compEnvC scope (cellsFrom (s3.heap.objs.size + 1) scope.names (zcM X.env.cells scope.names [])) s3.heap.objs.size X.env=ce at I4 pg pt pe |-
 have cL:ce.locals=s3.heap.objs.size:=by subst hce; rfl
 generalize hH3:upd H2 D (.lst [])=H3 at I3 I4 pg pt pe w0 nfp f3
 generalize hs4:({s3 with heap:=pushCells (s3.heap.push {cls:= .type "dict",data:= .dict #[]}) scope.names}:Shared)=s4 at I4 |-
 have st4:tn 0 s4.heap:=T.keep _ _ _ st3 fun b _ o e=> by rw[<- hs4]; exact pushCells_keeps _ _ _ _ (Heap.get?_push_of_some _ e)
 have stat:∀{σ':St} {H':Hp} {s':Shared},Inv (X.blk s3 H3 scope ce fp) [] σ' H' s'->(∀b∈fp,H' b=none)->∀b∈fp,zqe (X.blk s3 H3 scope ce fp) [] H' b:=fun {σ' H' s'} I' hn b hb=>
  ⟨hn b hb,(I'.ok.exf b hb).1,I'.ok.exfs b hb,.inl hb,fun x c e=> (I'.ok.exf b hb).2 x c e,fun p hp=> absurd (show p∈([]:List (Addr×Obj)) ++ [] from hp) (by simp)⟩
 have loop:codeAny (model X.prog X.w) X.A (.compLoop (.ListComp elt [⟨tg,iter,ifs,0⟩] scope pos) 0 (.ref it) (.ref D) ce) (compPost (model X.prog X.w) X.A X.xe use Qf (.ref D) s3.heap.objs.size) s4:=by
  refine zlB (fun n s'=>∃i H',Inv (X.blk s3 H3 scope ce fp) [] (zjA σ (own.map (·.2))) H' s'/\tn i s'.heap/\(∀b∈fp,H' b=none)/\W i n H') ?_ m0 ⟨0,H3,I4,st4,nfp,w0⟩
  rintro n s5 ⟨i,H5,I5,st5,n5,w5⟩
  rcases turn i n H5 w5 with⟨stop,qq⟩ |⟨go,Nx,hNx,step⟩
  .have td:=T.done (X.blk s3 H3 scope ce fp) rfl rfl rfl hc i [] s5 _ H5 (fun _ _=> False) I5 (stat I5 n5) st5 stop
   refine zuI td fun r s6 zz=> ?_
   obtain⟨hr,I6⟩:=zz
   subst hr
   have I7:Inv X pins σ H5 s6:=I3.call' (ch:=fp) I6.os I6.base I6.hok I6.bare fun b hb=> ⟨(f3 b hb).1.2.2.2.1,(f3 b hb).1.2.1,(f3 b hb).1.2.2.2.2.1,(f3 b hb).1.2.2.2.2.2⟩
   have nC:H5 s3.heap.objs.size=none:=by
    have z:H5 ce.locals=none:=I6.free
    rw[cL] at z
    exact z
   obtain⟨m,hn,_⟩:=I6.loc
   have hn:s6.heap.Ns ce.locals m:=hn
   rw[cL] at hn
   exact hRR D s3.heap.objs.size s6 m H5 I7 qq hn (I3.fpOk (Nat.le_refl _) nC)
  .have ti:=T.item (X.blk s3 H3 scope ce fp) rfl rfl rfl hc i [] s5 _ H5 (fun _ _=> False) I5 (stat I5 n5) st5 go
   refine zuI ti fun r s6 zz=> ?_
   obtain⟨u,hr,h6⟩:=zz
   subst hr
   refine zuI h6 fun _ s7 zz=> ?_
   obtain⟨x,H7,I7,r7,y7,st7,n7⟩:=zz
   have I7':=I7.pinned (stat I7 n7) (T.obj _ _ st7)
   refine zuI (pg _ s7 _ H7 x u _ I7' r7 (step x H7 y7)) fun _ s8 zz=> ?_
   obtain⟨σ8,H8,I8,hw8,q8⟩:=zz
   refine zuI (pt _ s8 σ8 H8 _ I8 q8) fun b s9 zz=> ?_
   obtain⟨H9,I9,q9⟩:=zz
   have fin:∀{s':Shared} {H':Hp},Inv (X.blk s3 H3 scope ce fp) ([] ++ zk7 fp s7.heap) σ8 H' s'->Nx H'->∃m,m < n/\∃i H',Inv (X.blk s3 H3 scope ce fp) [] (zjA σ (own.map (·.2))) H' s'/\tn i s'.heap/\(∀b∈fp,H' b=none)/\W i m H':=fun {s' H'} I' nx=> by
    obtain⟨m',hm,w'⟩:=hNx H' nx
    have pin':∀b∈fp,∀o,s7.heap.get? b=some o->s'.heap.get? b=some o/\H' b=none:=fun b hb o e=>
     let z:=I'.pin (b,o) (List.mem_append_right _ (List.mem_append_right _ (zh5 hb e)))
     ⟨z.1,z.2.1⟩
    have hl:(zjA σ (own.map (·.2))).length=σ8.length:=by rw[<- hw8,zhc]
    refine⟨m',hm,i + 1,H',(I'.unpinned (pins:=[])).weak hl (fun j v e=> ?_),T.keep _ _ _ st7 fun b hb o e=> (pin' b hb o e).1,fun b hb=> ?_,w'⟩
    .rw[<- hw8] at e
     exact (ziG e).1
    .obtain⟨o,e,_⟩:=T.obj _ _ st7 b hb
     exact (pin' b hb o e).2
   cases b with
   | false=>
    simp only[Bool.false_eq_true,if_false] at q9 |-
    exact fin I9 q9
   | true=>
    simp only[if_true] at q9 |-
    refine zuI (pe _ s9 σ8 H9 _ I9 q9) fun z s10 zz=> ?_
    obtain⟨yv,H10,I10,r10,acc,hD10,hz10,nx⟩:=zz
    exact zwL (X:=X.blk s3 H3 scope ce fp) I10 hD10 hz10 r10 fun s11 I11=> fin I11 nx
 exact codeAny_compStart_list loop (T.self X.A 0 _ _ _ st4 loop)
theorem zx1{elt tg iter:Expr}{ifs:List Expr}{scope:Scope}{own:List (Str×Nat)}{pos:Pos}{wi:TI}{g:TG}{tt:TT}{te:TE}(hc:X.calm=true)(hN:X.N.Nodup)(hi:PI X tg iter wi)(ok:BlkOk X.N X.env.scope scope own)
  (hg:∀(s:Shared) (H:Hp) (C:Addr) (cl:List (Str×Addr)) (fp:List Addr),PG (X.blk s H scope (compEnvC scope cl C X.env) fp) tg g) (ht:∀(s:Shared) (H:Hp) (C:Addr) (cl:List (Str×Addr)) (fp:List Addr),PTs (X.blk s H scope (compEnvC scope cl C X.env) fp) ifs tt)
  (he:∀(s:Shared) (H:Hp) (C:Addr) (cl:List (Str×Addr)) (fp:List Addr),PE (X.blk s H scope (compEnvC scope cl C X.env) fp) elt te) (hs:∀x,foldedSetIterable iter X.env x=pure x:=by intro _; rfl):
  PE X (.ListComp elt [⟨tg,iter,ifs,0⟩] scope pos) (tLc wi g tt te (own.map (·.2))):=by
 intro pins s σ H Q I h
 rw[eval_ListComp]
 refine ztv hc hN I hi ok hg ht he hs h fun D C s' m H' I' q hn f=> ⟨m,hn,fun h'' sb=> ?_⟩
 obtain⟨f0,f1,f2,f3,f4,f5⟩:=f
 exact⟨.ref D,H',I'.turned (t':=s'.toks) (fun b o hb e=> (sb.2 b hb).trans e) f0 f1 f3 f4 f5,rfl,q⟩
end
theorem ztu{K:PySem.W.Frag}{a:Addr}{xs:List V}{g:TG}{tt:TT}{te:TE}{vs:List Nat}{σ:St}{H1:Hp}{D:Addr}{Qd:Hp->Prop}(Pv:Nat->Hp->Prop)(h0:Pv 0 (upd H1 D (.lst [])))(hl:∀i H,i<=xs.length->Pv i H->SqL K H a xs)
  (hs:∀i x H,xs[i]? =some x->Pv i H->g x (zjA σ vs) H fun σ2 H2=> zjA σ2 vs=zjA σ vs/\tt σ2 H2 fun b H3=>
   if b=true then te σ2 H3 fun y H4=>∃acc,H4 D=some (.lst acc)/\acc.length < sizeLine/\Pv (i + 1) (upd H4 D (.lst (acc ++ [y]))) else Pv (i + 1) H3) (hd:∀H,Pv xs.length H->Qd H):
  ∃W:Nat->Nat->Hp->Prop,(∃m,W 0 m (upd H1 D (.lst [])))/\∀i m H,W i m H->
   ((Itl K a).stop i H/\Qd H)\/((Itl K a).go i H/\∃Nx:Hp->Prop,(∀H',Nx H'->∃m',m' < m/\W (i + 1) m' H')/\∀x H',(Itl K a).yld i H x H'->g x (zjA σ vs) H' fun σ2 H2=> zjA σ2 vs=zjA σ vs/\tt σ2 H2 fun b H3=>
    if b=true then te σ2 H3 fun y H4=>∃acc,H4 D=some (.lst acc)/\acc.length < sizeLine/\Nx (upd H4 D (.lst (acc ++ [y]))) else Nx H3):=by
 refine⟨fun i m H=> m=xs.length - i/\i<=xs.length/\Pv i H,⟨xs.length,by simp,Nat.zero_le _,h0⟩,?_⟩
 rintro i m H ⟨rfl,hi,p⟩
 have q:=hl i H hi p
 by_cases hlt:i < xs.length
 .refine .inr ⟨⟨xs,xs[i],q,by simp[hlt]⟩,Pv (i + 1),fun H' p'=> ⟨xs.length - (i + 1),by omega,rfl,hlt,p'⟩,fun x H' y=> ?_⟩
  obtain⟨e,y⟩:=y
  subst e
  exact hs i x _ (y xs q) p
 .have e:i=xs.length:=by omega
  subst e
  exact .inl ⟨⟨xs,q,Nat.le_refl _⟩,hd H p⟩
def zyO(N:List Str)(sc scope:Scope)(own:List (Str×Nat)):Bool:=
 (match scope.kind with | .function=> true | _=> false) && (scope.names.all fun y=> decide (scope.names.lookup y.1=some y.2)) && (own.all fun p=> decide (N[p.2]? =some p.1)) &&
  (scope.names.all fun y=> match y.2 with
   | .free=> (match sc.names.lookup y.1 with | some .cell=> true | some .free=> true | _=> false)
   | .local=> decide (y.1∈own.map (·.1)) || decide (y.1∉N)
   | .cell=> decide (y.1∈own.map (·.1)) || decide (y.1∉N)
   | _=> true)
theorem znt{N:List Str}{sc scope:Scope}{own:List (Str×Nat)}(h:zyO N sc scope own=true):BlkOk N sc scope own:=by
 unfold zyO at h
 simp only[Bool.and_eq_true,List.all_eq_true,decide_eq_true_eq] at h
 obtain⟨⟨⟨h1,h2⟩,h3⟩,h4⟩:=h
 refine⟨?_,h2,h3,fun y hy e=> ?_,fun y hy e=> ?_⟩
 .split at h1
  .assumption
  .cases h1
 .have q:=h4 y hy
  simp only[e] at q
  split at q <;> first | exact .inl (by assumption) | exact .inr (by assumption) | cases q
 .have q:=h4 y hy
  rcases e with e | e <;> (simp only[e,Bool.or_eq_true,decide_eq_true_eq] at q; exact q)
end L2
namespace L2
open PySem PySem.Spec PyProof.Rows
section
variable {prog:Program}{w:World}{A:Around}{R:Result->Shared->Prop}{s:Shared}{elt t0 i0 t1 i1:Expr}{ifs0 ifs1:List Expr}{scope:Scope}{pos:Pos}{it acc:Value}{env:Env}
end
section
variable {X:Cx}
end
end L2
namespace L2
open PySem PySem.Spec PyProof.Rows
section
variable {κ:Type}[DecidableEq κ]
def zjX(kvs:List (κ×V))(k:κ):Option V:=(kvs.find? fun kv=> decide (kv.1=k)).map (·.2)
def zmV(kvs:List (κ×V))(k:κ)(v:V):List (κ×V):=
 if (kvs.any fun kv=> decide (kv.1=k))=true then kvs.map (fun kv=> if kv.1=k then (kv.1,v) else kv) else kvs ++ [(k,v)]
def zmr(kvs:List (κ×V))(k:κ):List (κ×V):=kvs.filter fun kv=> decide (kv.1≠k)
theorem zhr{p:κ×V}{r:List (κ×V)}{k:κ}(e:p.1=k):zjX (p::r) k=some p.2:=by simp[zjX,List.find?_cons,e]
theorem zhs{p:κ×V}{r:List (κ×V)}{k:κ}(e:¬p.1=k):zjX (p::r) k=zjX r k:=by simp[zjX,List.find?_cons,e]
theorem zmG(k:κ):∀kvs:List (κ×V),(kvs.any fun kv=> decide (kv.1=k))=(zjX kvs k).isSome
 | []=> rfl
 | p::r=> by
  rw[List.any_cons]
  by_cases e:p.1=k
  .simp only[zhr e,decide_eq_true e,Bool.true_or,Option.isSome_some]
  .rw[zhs e,decide_eq_false e,Bool.false_or]; exact zmG k r
theorem zjc(kvs:List (κ×V))(k:κ)(v:V):(zmV kvs k v).length<=kvs.length + 1:=by
 unfold zmV
 split
 .rw[List.length_map]; omega
 .rw[List.length_append,List.length_cons,List.length_nil]; omega
theorem RelO.isSome_eq{o:Option V}{u:Option Value}(r:RelO o u):o.isSome=u.isSome:=by
 cases o with
 | none=> cases u with
  | none=> rfl
  | some _=> exact (show False from r).elim
 | some _=> cases u with
  | none=> exact (show False from r).elim
  | some _=> rfl
theorem RelO.getD{o:Option V}{u:Option Value}{d:V}{d':Value}(r:RelO o u)(rd:RelV d d'):RelV (o.getD d) (u.getD d'):=by
 cases o with
 | none=> cases u with
  | none=> exact rd
  | some _=> exact (show False from r).elim
 | some _=> cases u with
  | none=> exact (show False from r).elim
  | some _=> exact r
theorem KV.val{kvs:List (κ×V)}{vs:List (κ×Value)}(r:KV kvs vs)(k:κ):RelO (zjX kvs k) (valueAt vs k):=by
 unfold KV at r
 induction r with
 | nil=> exact True.intro
 | @cons p q ps qs h t ih=>
  obtain⟨h1,h2⟩:=h
  by_cases e:p.1=k
  .have e':q.1=k:=h1.symm.trans e
   have b:valueAt (q::qs) k=some q.2:=by simp[valueAt,List.find?_cons,e']
   rw[zhr e,b]; exact h2
  .have e':¬q.1=k:=fun z=> e (h1.trans z)
   have b:valueAt (q::qs) k=valueAt qs k:=by simp[valueAt,List.find?_cons,e']
   rw[zhs e,b]; exact ih
theorem KV.any{kvs:List (κ×V)}{vs:List (κ×Value)}(r:KV kvs vs)(k:κ):(kvs.any fun kv=> decide (kv.1=k))=vs.any fun kv=> decide (kv.1=k):=by
 unfold KV at r
 induction r with
 | nil=> rfl
 | cons h t ih=> rw[List.any_cons,List.any_cons,ih,h.1]
theorem KV.repl{kvs:List (κ×V)}{vs:List (κ×Value)}(r:KV kvs vs)(k:κ){y:V}{u:Value}(ry:RelV y u):
  KV (kvs.map fun kv=> if kv.1=k then (kv.1,y) else kv) (vs.map fun kv=> if kv.1=k then (kv.1,u) else kv):=by
 unfold KV at r |-
 induction r with
 | nil=> exact .nil
 | @cons p q ps qs h t ih=>
  rw[List.map_cons,List.map_cons]
  refine .cons ?_ ih
  obtain⟨h1,h2⟩:=h
  by_cases e:p.1=k
  .rw[if_pos e,if_pos (h1.symm.trans e)]; exact⟨h1,ry⟩
  .rw[if_neg e,if_neg (fun z=> e (h1.trans z))]; exact⟨h1,h2⟩
theorem KV.put{kvs:List (κ×V)}{vs:List (κ×Value)}(r:KV kvs vs)(k:κ){y:V}{u:Value}(ry:RelV y u):KV (zmV kvs k y) (stored vs k u):=by
 unfold zmV stored
 rw[r.any k]
 by_cases e:(vs.any fun kv=> decide (kv.1=k))=true
 .rw[if_pos e,if_pos e]; exact r.repl k ry
 .rw[if_neg e,if_neg e]; exact Paired.snoc r ⟨rfl,ry⟩
theorem KV.drop{kvs:List (κ×V)}{vs:List (κ×Value)}(r:KV kvs vs)(k:κ):KV (zmr kvs k) (without vs k):=by
 unfold KV at r |-
 unfold zmr without
 induction r with
 | nil=> exact .nil
 | @cons p q ps qs h t ih=>
  obtain⟨h1,h2⟩:=h
  rw[List.filter_cons,List.filter_cons]
  by_cases e:p.1=k
  .have a:¬decide (p.1≠k)=true:=by simp[e]
   have b:¬decide (q.1≠k)=true:=by simp[h1.symm.trans e]
   rw[if_neg a,if_neg b]; exact ih
  .have e':¬q.1=k:=fun z=> e (h1.trans z)
   have a:decide (p.1≠k)=true:=by simp[e]
   have b:decide (q.1≠k)=true:=by simp[e']
   rw[if_pos a,if_pos b]; exact .cons ⟨h1,h2⟩ ih
theorem KV.length{kvs:List (κ×V)}{vs:List (κ×Value)}(r:KV kvs vs):kvs.length=vs.length:=Paired.length r
theorem zrP(kvs:List (κ×V))(k:κ):(zmr kvs k).length<=kvs.length:=List.length_filter_le _ _
end
theorem zl8{P:Program}{w:World}{k:Key}{u:Value}(r:RelV (kV k) u):(zdV P w).is k u=true:=by
 cases k with
 | inl i=> obtain⟨t,e⟩:=(show∃t,u=Value.int i t from r); subst e; exact zhj P w i t
 | inr x=> obtain⟨t,e⟩:=(show∃t,u=Value.str x t from r); subst e; exact zl6 P w x t
abbrev KT(H:Hp):List (zfs×V)->List (zfs×Addr×Value)->Prop:=Paired fun p q=> p.1=q.1/\KeyAt H p.1 q.2.1/\RelV p.2 q.2.2
theorem KT.val{H:Hp}{kvs:List (zfs×V)}{xs:List (zfs×Addr×Value)}(r:KT H kvs xs)(k:zfs):RelO (zjX kvs k) ((atKey xs k).map (·.2)):=by
 induction r with
 | nil=> exact True.intro
 | @cons p q ps qs h t ih=>
  obtain⟨h1,_,h2⟩:=h
  by_cases e:p.1=k
  .have e':q.1=k:=h1.symm.trans e
   have b:atKey (q::qs) k=some q.2:=by simp[atKey,List.find?_cons,e']
   rw[zhr e,b]; exact h2
  .have e':¬q.1=k:=fun z=> e (h1.trans z)
   have b:atKey (q::qs) k=atKey qs k:=by simp[atKey,List.find?_cons,e']
   rw[zhs e,b]; exact ih
theorem KT.repl{H:Hp}{kvs:List (zfs×V)}{xs:List (zfs×Addr×Value)}(r:KT H kvs xs)(k:zfs){y:V}{u:Value}(ry:RelV y u):
  KT H (kvs.map fun kv=> if kv.1=k then (kv.1,y) else kv) (xs.map (putAt k u)):=by
 induction r with
 | nil=> exact .nil
 | @cons p q ps qs h t ih=>
  rw[List.map_cons,List.map_cons]
  refine .cons ?_ ih
  obtain⟨h1,h2,h3⟩:=h
  unfold putAt
  by_cases e:p.1=k
  .rw[if_pos e,if_pos (h1.symm.trans e)]; exact⟨h1,h2,ry⟩
  .rw[if_neg e,if_neg (fun z=> e (h1.trans z))]; exact⟨h1,h2,h3⟩
theorem KT.put{H:Hp}{kvs:List (zfs×V)}{xs:List (zfs×Addr×Value)}(r:KT H kvs xs)(k:zfs){b:Addr}{y:V}{u:Value}(hb:KeyAt H k b)(ry:RelV y u):
  KT H (zmV kvs k y) (storedH xs k b u):=by
 have e:(kvs.any fun kv=> decide (kv.1=k))=(atKey xs k).isSome:=by
  rw[zmG,(r.val k).isSome_eq,Option.isSome_map]
 unfold zmV storedH
 rw[e]
 by_cases q:(atKey xs k).isSome=true
 .rw[if_pos q,if_pos q]; exact r.repl k ry
 .rw[if_neg q,if_neg q]; exact Paired.snoc r ⟨rfl,hb,ry⟩
theorem KT.keeps{H H':Hp}{kvs:List (zfs×V)}{xs:List (zfs×Addr×Value)}(r:KT H kvs xs)(ht:∀b ys,H b=some (.tup ys)->H' b=some (.tup ys)):KT H' kvs xs:=
 Paired.mapP r fun _ _ z=> ⟨z.1,z.2.1.keeps ht,z.2.2⟩
section
variable {P:Program}{w:World}{H:Hp}{h:Heap}{a:Addr}
theorem zu7{u:HO}(ok:HOk P w H h)(e:Rd H a u):ObjOk P w H h a u:=e.ok ok
theorem zob{kvs:List (Key×V)}(ok:HOk P w H h)(e:Rd H a (.dK kvs)):kvs.length<=sizeLine/\(a==sysModules)=false/\∃vs,KV kvs vs/\h.DictOf (zdV P w) a vs:=
 show ObjOk P w H h a (.dK kvs) from zu7 ok e
theorem zt7{kvs:List (Key×V)}(ok:HOk P w H h)(e:H a=some (.dK kvs)):kvs.length<=sizeLine/\(a==sysModules)=false/\∃vs,KV kvs vs/\h.DictOf (zdV P w) a vs:=zob ok (.inl e)
theorem zj5:∀{ns:List Int} {us:List Value},Vals (ns.map V.int) us->ItemsAre (intKind P w) ns us
 | [],_,r=> by rw[List.map_nil] at r; cases r; exact .nil
 | k::ks,_,r=> by
  rw[List.map_cons] at r
  cases r with
  | cons h t=>
   obtain⟨t',rfl⟩:=h
   exact .cons (by simp[intKind,Value.isInt]) (zj5 t)
theorem zlm{k:zfs}(ok:HOk P w H h)(e:KeyAt H k a):(zfX (intKind P w)).is h k a:=by
 obtain⟨i,z⟩:=k
 obtain⟨e0,e⟩:=e
 cases z with
 | inl m=>
  obtain⟨_,its,r,o,h1,h2,n,h3⟩:=(show ObjOk P w H h a (.tup [.int i,.int m]) from ok a _ e)
  cases r with
  | cons r1 r=>
   cases r with
   | cons r2 r=>
    cases r
    obtain⟨t1,rfl⟩:=r1
    obtain⟨t2,rfl⟩:=r2
    exact⟨o,_,_,n,h1,h2,h3,by simp[intKind,Value.isInt],by simp[NIt,intKind,Value.isInt],e0⟩
 | inr ns=>
  obtain⟨c,e,ec⟩:=e
  obtain⟨_,its,r,o,h1,h2,n,h3⟩:=(show ObjOk P w H h a (.tup [.int i,.ref c]) from ok a _ e)
  obtain⟨_,its',r',o',h1',h2',n',h3'⟩:=(show ObjOk P w H h c (.tup (ns.map V.int)) from ok c _ ec)
  cases r with
  | cons r1 r=>
   cases r with
   | cons r2 r=>
    cases r
    obtain⟨t1,rfl⟩:=r1
    cases r2
    exact⟨o,_,_,n,h1,h2,h3,by simp[intKind,Value.isInt],⟨c,rfl,o',its'.toArray,n',h1',h2',h3',by simpa using zj5 r'⟩,e0⟩
theorem zoa{kvs:List (zfs×V)}(ok:HOk P w H h)(e:Rd H a (.dT kvs)):kvs.length<=sizeLine/\(a==sysModules)=false/\
  ∃xs,KT H kvs xs/\h.DictOfH (zfX (intKind P w)) a xs:=by
 obtain⟨z,y,xs,r,o,es,ep,h1,h2,h3,h4,h5⟩:=(show ObjOk P w H h a (.dT kvs) from zu7 ok e)
 refine⟨z,y,xs,r,o,es,ep,h1,h2,h3,h4,fun x hx=> ?_,h5⟩
 have all:∀{l:List (zfs×V)} {m:List (zfs×Addr×Value)},KT H l m->∀x∈m,(zfX (intKind P w)).is h x.1 x.2.1:=by
  intro l m q
  induction q with
  | nil=> intro x hx; exact nomatch hx
  | @cons p q ps qs hq t ih=>
   intro x hx
   rcases List.mem_cons.mp hx with e | hx
   .subst e
    exact zlm ok (by rw[<- hq.1]; exact hq.2.1)
   .exact ih x hx
 exact all r x hx
theorem zym{kvs:List (zfs×V)}(ok:HOk P w H h)(e:H a=some (.dT kvs)):kvs.length<=sizeLine/\(a==sysModules)=false/\
  ∃xs,KT H kvs xs/\h.DictOfH (zfX (intKind P w)) a xs:=zoa ok (.inl e)
end
theorem zhE{P:Program}{w:World}{knd:KeyKind P w Int}{A:Around}(hu:A.units + 2 < cLine):(zfX knd).room A.in1:=hu
def DGet(H:Hp)(a:Addr)(y:V)(r:Option V):Prop:=
 (∃kvs k,Rd H a (.dK kvs)/\y=kV k/\r=zjX kvs k)\/∃kvs k b,Rd H a (.dT kvs)/\y= .ref b/\KeyAt H k b/\r=zjX kvs k
def DPut(H:Hp)(a:Addr)(y v:V)(H':Hp):Prop:=
 (∃kvs k,H a=some (.dK kvs)/\y=kV k/\kvs.length < sizeLine/\H'=upd H a (.dK (zmV kvs k v)))\/
 ∃kvs k b,H a=some (.dT kvs)/\y= .ref b/\KeyAt H k b/\kvs.length < sizeLine/\H'=upd H a (.dT (zmV kvs k v))
theorem DGet.k{H:Hp}{a:Addr}{kvs:List (Key×V)}{k:Key}(e:H a=some (.dK kvs)):DGet H a (kV k) (zjX kvs k):= .inl ⟨kvs,k,.inl e,rfl,rfl⟩
theorem DGet.t{H:Hp}{a b:Addr}{kvs:List (zfs×V)}{k:zfs}(e:H a=some (.dT kvs))(eb:KeyAt H k b):DGet H a (.ref b) (zjX kvs k):= .inr ⟨kvs,k,b,.inl e,rfl,eb,rfl⟩
theorem DPut.k{H:Hp}{a:Addr}{kvs:List (Key×V)}{k:Key}{v:V}(e:H a=some (.dK kvs))(hl:kvs.length < sizeLine):DPut H a (kV k) v (upd H a (.dK (zmV kvs k v))):= .inl ⟨kvs,k,e,rfl,hl,rfl⟩
theorem DPut.t{H:Hp}{a b:Addr}{kvs:List (zfs×V)}{k:zfs}{v:V}(e:H a=some (.dT kvs))(eb:KeyAt H k b)(hl:kvs.length < sizeLine):
  DPut H a (.ref b) v (upd H a (.dT (zmV kvs k v))):= .inr ⟨kvs,k,b,e,rfl,eb,hl,rfl⟩
section
variable {X:Cx}{pins:List (Addr×Obj)}{σ:St}{H:Hp}{s:Shared}{a:Addr}{y v:V}{u r:Value}{o:Option V}{A:Around}{E:Value->Shared->Prop}
theorem Inv.big(I:Inv X pins σ H s):sysModules < s.heap.objs.size:=by
 have h:mainGlobals < s.heap.objs.size:=(I.mod.glob.keeps I.bk).lt
 exact Nat.lt_trans (by decide) h
theorem zp3{Q:Value->Shared->Prop}(hu:A.units + 2 < cLine)(I:Inv X pins σ H s)(g:DGet H a y (some v))(ry:RelV y u)(h:∀w' s',Inv X pins σ H s'->RelV v w'->Q w' s'):
  wpAny (model X.prog X.w) A (getItem (.ref a) u) Q E s:=by
 rcases g with⟨kvs,k,e,ey,l⟩ |⟨kvs,k,b,e,ey,eb,l⟩
 .subst ey
  obtain⟨z,hd,vs,rel,dd⟩:=zob I.hok e
  obtain⟨w',hw,rw'⟩:=RelO.some_of (v:=v) (o:=valueAt vs k) (by rw[l]; exact rel.val k)
  exact wpAny_getItem_of (zl8 ry) dd.mapOf hw (h w' _ (I.tok _) rw')
 .subst ey
  cases (show u=Value.ref b from ry)
  obtain⟨z,hd,xs,rel,dd⟩:=zoa I.hok e
  obtain⟨w',hw,rw'⟩:=RelO.some_of (v:=v) (o:=(atKey xs k).map (·.2)) (by rw[l]; exact rel.val k)
  obtain⟨p,hp,hp2⟩:=Option.map_eq_some_iff.mp hw
  refine wpAny_getItem_heap (zhE hu) (zlm I.hok eb) dd hp ?_
  rw[hp2]
  exact h w' _ (I.tok _) rw'
theorem zt9{Q:Value->Shared->Prop}(hu:A.units + 2 < cLine)(I:Inv X pins σ H s)(g:DGet H a y o)(ry:RelV y u)(h:∀s',Inv X pins σ H s'->Q (.bool (!o.isSome)) s'):
  wpAny (model X.prog X.w) A (compareOp .NotIn u (.ref a)) Q E s:=by
 rcases g with⟨kvs,k,e,ey,l⟩ |⟨kvs,k,b,e,ey,eb,l⟩
 .subst ey
  obtain⟨z,hd,vs,rel,dd⟩:=zob I.hok e
  refine wpAny_notIn_of (zl8 ry) hd dd.mapOf ?_
  rw[<- (rel.val k).isSome_eq,<- l]
  exact h _ (I.tok _)
 .subst ey
  cases (show u=Value.ref b from ry)
  obtain⟨z,hd,xs,rel,dd⟩:=zoa I.hok e
  refine wpAny_notIn_heap (zhE hu) (zlm I.hok eb) hd dd ?_
  have q:=(rel.val k).isSome_eq
  rw[Option.isSome_map] at q
  rw[<- q,<- l]
  exact h _ (I.tok _)
theorem zmu{h':Heap}{t':Nat}{ob:HO}(I:Inv X pins σ H s)(mu:Mut (H a))(hs:Heap.SameBut a s.heap h')(he:∃q,h'.get? a=some q)(new:ObjOk X.prog X.w (upd H a ob) h' a ob):
  Inv X pins σ (upd H a ob) {s with heap:=h',toks:=t'}:=
 I.write (x:=a) (e:=a) mu (.inl rfl) (fun b q hb z=> (hs.2 b hb).trans z) he new
theorem zso{P:Program}{w:World}{H':Hp}{h':Heap}{kvs:List (Key×V)}{vs:List (Key×Value)}(z:kvs.length<=sizeLine)(hd:(a==sysModules)=false)(rel:KV kvs vs)(dd:h'.DictOf (zdV P w) a vs):
  ObjOk P w H' h' a (.dK kvs):=⟨z,hd,vs,rel,dd⟩
theorem zp2{H':Hp}{Q:Unit->Shared->Prop}(hu:A.units + 2 < cLine)(I:Inv X pins σ H s)(g:DPut H a y v H')(ry:RelV y u)(rv:RelV v r)(h:∀s',Inv X pins σ H' s'->Q () s'):
  wpAny (model X.prog X.w) A (setItem (.ref a) u r) Q E s:=by
 rcases g with⟨kvs,k,e,ey,l,eH⟩ |⟨kvs,k,b,e,ey,eb,l,eH⟩
 .subst ey eH
  obtain⟨z,hd,vs,rel,dd⟩:=zt7 I.hok e
  have hz:vs.length<=sizeLine:=by rw[<- rel.length]; exact z
  have hl:(zmV kvs k v).length<=sizeLine:=by have:=zjc kvs k v; omega
  refine wpAny_setItem_pairs (hsz:=hz) (zl8 ry) dd fun h' dd' hs=> h _ ?_
  have he:∃q,h'.get? a=some q:=let ⟨q,_,_,hq,_⟩:=dd';⟨q,hq⟩
  exact zmu I (by rw[e]; exact True.intro) hs he (zso hl hd (rel.put k rv) dd')
 .subst ey eH
  cases (show u=Value.ref b from ry)
  obtain⟨z,hd,xs,rel,dd⟩:=zym I.hok e
  have hz:xs.length<=sizeLine:=by rw[<- Paired.length rel]; exact z
  have hl:(zmV kvs k v).length<=sizeLine:=by have:=zjc kvs k v; omega
  refine wpAny_setItem_heap (hsz:=hz) (zhE hu) (zlm I.hok eb) dd fun h' dd' hs=> h _ ?_
  obtain⟨q,es,ep,hq,h2,h3,h4,_,h5⟩:=dd'
  refine zmu I (by rw[e]; exact True.intro) hs ⟨q,hq⟩ ⟨hl,hd,_,(rel.put k eb rv).keeps fun c ys ec=> ?_,q,es,ep,hq,h2,h3,h4,h5⟩
  rw[zbH (zaU ec e (fun z=> nomatch z))]
  exact ec
end
section
variable {X:Cx}{pins:List (Addr×Obj)}{σ:St}{H:Hp}{s:Shared}{a:Addr}{kvs:List (Key×V)}{k:Key}{u:Value}{A:Around}{E:Value->Shared->Prop}
theorem zyn{v:V}{more:List Value}{Q:Value->Shared->Prop}(I:Inv X pins σ H s)(e:H a=some (.dK kvs))(ry:RelV (kV k) u)(l:zjX kvs k=some v)(hm:more=[]\/∃x,more=[x])
  (h:∀w' s',Inv X pins σ (upd H a (.dK (zmr kvs k))) s'->RelV v w'->Q w' s'):wpAny (model X.prog X.w) A (call (.builtin "dict.pop") (.ref a::u::more)) Q E s:=by
 obtain⟨z,hd,vs,rel,dd⟩:=zt7 I.hok e
 obtain⟨w',hw,rw'⟩:=RelO.some_of (v:=v) (o:=valueAt vs k) (by rw[<- l]; exact rel.val k)
 have hp:(keyPart u).isSome=true:=by
  cases k with
  | inl i=> obtain⟨t,q⟩:=(show∃t,u=Value.int i t from ry); subst q; rfl
  | inr x=> obtain⟨t,q⟩:=(show∃t,u=Value.str x t from ry); subst q; rfl
 have ha:argsOk "dict.pop" ⟨.ref a::u::more,[]⟩:=by
  rcases hm with q |⟨x,q⟩
  .subst q; exact PySem.F.args_dict_pop_2 _ _
  .subst q; exact PySem.F.args_dict_pop_3 _ _ _
 refine call_meetsIn PySem.F.slot_dict_pop dd.typeIs PySem.F.entry_dict_pop ha (meets_dict_pop_there (zdV X.prog X.w) a (zl8 ry) more hm hp)
  ⟨vs,w',dd,by rw[<- rel.length]; exact z,hw,fun h' dd' hs=> h w' _ ?_ rw'⟩
 have he:∃q,h'.get? a=some q:=let ⟨q,_,_,hq,_⟩:=dd';⟨q,hq⟩
 exact zmu I (by rw[e]; exact True.intro) hs he (zso (Nat.le_trans (zrP kvs k) z) hd (rel.drop k) dd')
end
def zxm(i:Expr):Prop:=∀ov iv,subscripted i false ov iv=operate [ov,iv] (getItem ov iv)
theorem zoz{prog:Program}{w:World}{A:Around}{E:Value->Shared->Prop}{s:Shared}{env:Env}{value slice:Expr}{pos:Pos}{T id:String}{Q:Value->Shared->Prop}
  (hl:typeLookup (.type T) "__getitem__"=pure (some (.builtin id))) (hs:zxm slice)
  (h:wpAny (model prog w) A (eval value env) (fun o s₁=> wpAny (model prog w) A (eval slice env) (fun i s₂=> s₂.TypeIs o T/\wpAny (model prog w) A (getItem o i) Q E s₂) E s₁) E s):
  wpAny (model prog w) A (eval (.Subscript value slice pos) env) Q E s:=by
 refine Subscript_ (wpAny_mono h (fun o s₁ h₁=> wpAny_mono h₁ (fun i s₂ h₂=> ?_) fun _ _ x=> x) fun _ _ x=> x)
 obtain⟨hT,h₂⟩:=h₂
 unfold subscriptTail
 refine wpAny_bind ?_
 rw[getitemInPython_of_ne hT.not_modules]
 refine wpAny_bind (wpAny_specialOf hT hl ?_)
 have fin:wpAny (model prog w) A (subscripted slice false o i) (fun r s₃=> wpAny (model prog w) A (letTemporaryGo value o r >>=fun _=> pure r) Q E s₃) E s₂:=by
  rw[hs o i]
  exact wpAny_operating (wpAny_mono h₂ (fun r s₃ h₃=> wpAny_bind (wpAny_letTemporaryGo (wpAny_pure h₃))) fun _ _ x=> x)
 first
  | exact wpAny_pure (wpAny_bind fin)
  | exact wpAny_bind (wpAny_pure (wpAny_bind fin))
  | exact wpAny_bind fin
theorem zmt{X:Cx}{pins:List (Addr×Obj)}{σ:St}{H:Hp}{s:Shared}{a:Addr}{y:V}{o:Option V}(I:Inv X pins σ H s)(g:DGet H a y o):s.TypeIs (.ref a) "dict":=by
 rcases g with⟨kvs,k,e,_,_⟩ |⟨kvs,k,b,e,_,_,_⟩
 .obtain⟨_,_,vs,_,dd⟩:=zob I.hok e
  exact dd.typeIs
 .obtain⟨_,_,xs,_,dd⟩:=zoa I.hok e
  exact dd.typeIs
def zxF(td ty:TE):TE:=fun σ H Q=> td σ H fun x H1=> ty σ H1 fun y H2=>∃a v,x= .ref a/\DGet H2 a y (some v)/\Q v H2
def zsJ(ty td:TE):TE:=fun σ H Q=> ty σ H fun y H1=> td σ H1 fun x H2=>∃a o,x= .ref a/\DGet H2 a y o/\Q (.bl (!o.isSome)) H2
def zxK(td ty tv:TE):TS:=fun D σ H=> tv σ H fun v H1=> td σ H1 fun x H2=> ty σ H2 fun y H3=>∃a H4,x= .ref a/\DPut H3 a y v H4/\D.nx σ H4
section
variable {X:Cx}{o i e value:Expr}{pos pos' tpos:Pos}{td ty tv:TE}
theorem ztg(hu:X.A.units + 2 < cLine)(ho:PE X o td)(hi:PE X i ty)(hs:zxm i):PE X (.Subscript o i pos) (zxF td ty):=by
 intro pins s σ H Q I h
 refine zoz PySem.F.slot_dict_getitem.lookup hs (thn (ho pins s σ H _ I h) fun u s1 ⟨x,H1,I1,rx,q1⟩=> thn (hi pins s1 σ H1 _ I1 q1) fun iv s2 zz=> ?_)
 obtain⟨y,H2,I2,ry,a,v,ex,g,q2⟩:=zz
 subst ex
 obtain rfl:u=Value.ref a:=rx
 exact⟨zmt I2 g,zp3 hu I2 g ry fun w' s3 I3 rw'=> ⟨v,H2,I3,rw',q2⟩⟩
theorem zo4(hu:X.A.units + 2 < cLine)(hi:PE X i ty)(ho:PE X o td):PC X .NotIn i o (zsJ ty td):=by
 intro pins s σ H Q I h
 refine thn (hi pins s σ H _ I h) fun iv s1 ⟨y,H1,I1,ry,q1⟩=> thn (ho pins s1 σ H1 _ I1 q1) fun u s2 zz=> ?_
 obtain⟨x,H2,I2,rx,a,ov,ex,g,q2⟩:=zz
 subst ex
 obtain rfl:u=Value.ref a:=rx
 exact zt9 hu I2 g ry fun s3 I3=> ⟨.bl (!ov.isSome),H2,I3,rfl,q2⟩
theorem zoV(hu:X.A.units + 2 < cLine)(ho:PE X o td)(hi:PE X i ty)(hv:PE X value tv)(hs:swapsWith value (some (.Subscript o i pos')) pos.line X.env=pure false):
  PS X (.Assign [.Subscript o i pos'] value pos) (zxK td ty tv):=by
 intro pins s σ H D I h
 refine wpAny_Assign_Subscript (thn (hv pins s σ H _ I h) fun r s1 ⟨v,H1,I1,rv,q1⟩=> thn (ho pins s1 σ H1 _ I1 q1) fun u s2 ⟨x,H2,I2,rx,q2⟩=> thn (hi pins s2 σ H2 _ I2 q2) fun iv s3 zz=> ?_) hs
 obtain⟨y,H3,I3,ry,a,H4,ex,g,q3⟩:=zz
 subst ex
 obtain rfl:u=Value.ref a:=rx
 exact zp2 hu I3 g ry rv fun s4 I4=> ⟨σ,H4,I4,q3⟩
end
theorem zrR{P:Program}{w:World}{H:Hp}(h:Heap)(hb:sysModules < h.objs.size):ObjOk P w H (h.push {cls:= .type "dict",data:= .dict #[]}) h.objs.size (.dK []):=
 ⟨Nat.zero_le _,beq_eq_false_iff_ne.mpr (Ne.symm (Nat.ne_of_lt hb)),[],.nil,Heap.DictOf.new h⟩
theorem zrO{P:Program}{w:World}{H:Hp}(h:Heap)(hb:sysModules < h.objs.size):ObjOk P w H (h.push {cls:= .type "dict",data:= .dict #[]}) h.objs.size (.dT []):=
 ⟨Nat.zero_le _,beq_eq_false_iff_ne.mpr (Ne.symm (Nat.ne_of_lt hb)),[],.nil,_,#[],0,Heap.get?_push_size _ rfl,⟨rfl,rfl,rfl⟩,rfl,rfl,List.nodup_nil⟩
def zuY:TE:=fun _ H Q=>∀p,H p=none->Q (.ref p) (upd H p (.dK []))
def zuX:TE:=fun _ H Q=>∀p,H p=none->Q (.ref p) (upd H p (.dT []))
section
variable {X:Cx}{pos:Pos}
theorem zqS:PE X (.Dict [] [] pos) zuY:=fun pins s σ H Q I h=>
 wpAny_Dict_empty ⟨.ref s.heap.objs.size,_,I.laid (a:=s.heap.objs.size) (o:= .dK []) (t':=s.toks) (fun _ _ q=> Heap.get?_push_of_some _ q) (Nat.le_refl _) (zrR s.heap I.big),rfl,h _ (I.hok.fresh (Nat.le_refl _))⟩
theorem zqR:PE X (.Dict [] [] pos) zuX:=fun pins s σ H Q I h=>
 wpAny_Dict_empty ⟨.ref s.heap.objs.size,_,I.laid (a:=s.heap.objs.size) (o:= .dT []) (t':=s.toks) (fun _ _ q=> Heap.get?_push_of_some _ q) (Nat.le_refl _) (zrO s.heap I.big),rfl,h _ (I.hok.fresh (Nat.le_refl _))⟩
end
structure M1 (X:Cx) (o:Expr) (m:Str) (apos:Pos) (e:Expr) (cpos:Pos):Prop where
 base:attributeBase o m X.env (eval o X.env)=eval o X.env
 few:((backTo cpos (starEach [e] X.env)).all (fun x=> !x.1) && (backToKw cpos (keywordEach [] X.env)).all (fun x=> x.1.isSome)
  && decide (([e]:List Expr).length + ([]:List Keyword).length + (if ([]:List Keyword).isEmpty then 0 else 1) < 30))=true
 line:(apos.endLine==cpos.line)=true
 trees:backTo cpos (starEach [e] X.env)=[(false,eval e X.env)]
structure M2 (X:Cx) (o:Expr) (m:Str) (apos:Pos) (e f:Expr) (cpos:Pos):Prop where
 base:attributeBase o m X.env (eval o X.env)=eval o X.env
 few:((backTo cpos (starEach [e,f] X.env)).all (fun x=> !x.1) && (backToKw cpos (keywordEach [] X.env)).all (fun x=> x.1.isSome)
  && decide (([e,f]:List Expr).length + ([]:List Keyword).length + (if ([]:List Keyword).isEmpty then 0 else 1) < 30))=true
 line:(apos.endLine==cpos.line)=true
 trees:backTo cpos (starEach [e,f] X.env)=[(false,eval e X.env),(false,eval f X.env)]
def IsD(H:Hp)(a:Addr):Prop:=(∃kvs,Rd H a (.dK kvs))\/∃kvs,Rd H a (.dT kvs)
theorem zsh{X:Cx}{pins:List (Addr×Obj)}{σ:St}{H:Hp}{s:Shared}{a:Addr}(I:Inv X pins σ H s)(d:IsD H a):
  s.TypeIs (.ref a) "dict"/\(∀b,Value.ref a= .ref b->∃ob,s.heap.get? b=some ob/\ob.dict=none)/\(a==sysModules)=false:=by
 rcases d with⟨kvs,e⟩ |⟨kvs,e⟩
 .obtain⟨_,hd,vs,_,dd⟩:=zob I.hok e
  refine⟨dd.typeIs,fun b q=> ?_,hd⟩
  cases q
  obtain⟨ob,_,_,h1,h2,_⟩:=dd
  exact⟨ob,h1,h2.2.1⟩
 .obtain⟨_,hd,xs,_,dd⟩:=zoa I.hok e
  refine⟨dd.typeIs,fun b q=> ?_,hd⟩
  cases q
  obtain⟨ob,_,_,h1,h2,_⟩:=dd
  exact⟨ob,h1,h2.2.1⟩
section
variable {X:Cx}{pins:List (Addr×Obj)}{σ:St}{H:Hp}{s:Shared}{a:Addr}{y d:V}{u r:Value}{o:Option V}{A:Around}{E:Value->Shared->Prop}
theorem zwG{Q:Value->Shared->Prop}(hu:A.units + 2 < cLine)(I:Inv X pins σ H s)(g:DGet H a y o)(ry:RelV y u)(rd:RelV d r)(h:∀w' s',Inv X pins σ H s'->RelV (o.getD d) w'->Q w' s'):
  wpAny (model X.prog X.w) A (call (.builtin "dict.get") [.ref a,u,r]) Q E s:=by
 rcases g with⟨kvs,k,e,ey,l⟩ |⟨kvs,k,b,e,ey,eb,l⟩
 .subst ey
  obtain⟨z,hd,vs,rel,dd⟩:=zob I.hok e
  refine call_meetsIn PySem.F.slot_dict_get dd.typeIs PySem.F.entry_dict_get (PySem.F.args_dict_get_3 _ _ _) (meets_dict_get_default (zdV X.prog X.w) a (zl8 ry) hd r) ⟨_,dd.mapOf,h _ _ (I.tok _) ?_⟩
  rw[l]
  exact (rel.val k).getD rd
 .subst ey
  cases (show u=Value.ref b from ry)
  obtain⟨z,hd,xs,rel,dd⟩:=zoa I.hok e
  refine call_meetsIn PySem.F.slot_dict_get dd.typeIs PySem.F.entry_dict_get (PySem.F.args_dict_get_3 _ _ _) (meetsH_dict_get_default (zfX (intKind X.prog X.w)) a b hd r) ⟨zhE hu,k,xs,zlm I.hok eb,dd,h _ _ (I.tok _) ?_⟩
  rw[l]
  exact (rel.val k).getD rd
end
def zuZ(td ty tx:TE):TE:=fun σ H Q=> td σ H fun x H1=>∃a,x= .ref a/\IsD H1 a/\ty σ H1 fun y H2=> tx σ H2 fun z H3=>∃o,DGet H3 a y o/\Q (o.getD z) H3
def zuW(td ty:TE):TE:=fun σ H Q=> td σ H fun x H1=>∃a,x= .ref a/\IsD H1 a/\ty σ H1 fun y H2=>∃kvs k v,H2 a=some (.dK kvs)/\y=kV k/\zjX kvs k=some v/\Q v (upd H2 a (.dK (zmr kvs k)))
section
variable {X:Cx}{o e f:Expr}{apos cpos:Pos}{td ty tx:TE}
theorem zqT(hu:X.A.units + 2 < cLine)(ho:PE X o td)(he:PE X e ty)(hf:PE X f tx)(m:M2 X o "get" apos e f cpos):PE X (.Call (.Attribute o "get" apos) [e,f] [] cpos) (zuZ td ty tx):=by
 intro pins s σ H Q I h
 refine wpAny_Call_method m.base m.few m.line PySem.F.plainAttrs_dict PySem.F.slot_dict_get PySem.F.type_dict_get (thn (ho pins s σ H _ I h) fun u s1 zz=> ?_)
 obtain⟨x,H1,I1,rx,a,ex,d,q1⟩:=zz
 subst ex
 obtain rfl:u=Value.ref a:=rx
 obtain⟨t1,t2,_⟩:=zsh I1 d
 refine⟨t1,t2,?_⟩
 rw[m.trees]
 refine Calls.callWith_builtin rfl (Calls.evalArgs_plain (Calls.spliced_cons (thn (he pins s1 σ H1 _ I1 q1) fun iv s2 ⟨y,H2,I2,ry,q2⟩=>
  Calls.spliced_cons (thn (hf pins s2 σ H2 _ I2 q2) fun fv s3 ⟨z,H3,I3,rz,ov,g,q3⟩=> Calls.spliced_nil ?_))))
 exact zwG hu I3 g ry rz fun w' s4 I4 rw'=> ⟨_,H3,I4,rw',q3⟩
theorem zqQ(ho:PE X o td)(he:PE X e ty)(m:M1 X o "pop" apos e cpos):PE X (.Call (.Attribute o "pop" apos) [e] [] cpos) (zuW td ty):=by
 intro pins s σ H Q I h
 refine wpAny_Call_method m.base m.few m.line PySem.F.plainAttrs_dict PySem.F.slot_dict_pop PySem.F.type_dict_pop (thn (ho pins s σ H _ I h) fun u s1 zz=> ?_)
 obtain⟨x,H1,I1,rx,a,ex,d,q1⟩:=zz
 subst ex
 obtain rfl:u=Value.ref a:=rx
 obtain⟨t1,t2,_⟩:=zsh I1 d
 refine⟨t1,t2,?_⟩
 rw[m.trees]
 refine Calls.callWith_builtin rfl (Calls.evalArgs_plain (Calls.spliced_cons (thn (he pins s1 σ H1 _ I1 q1) fun iv s2 ⟨y,H2,I2,ry,kvs,k,v,ea,ey,l,q2⟩=> Calls.spliced_nil ?_)))
 subst ey
 exact zyn I2 ea ry l (.inl rfl) fun w' s3 I3 rw'=> ⟨v,_,I3,rw',q2⟩
end
section
variable {X:Cx}{pins:List (Addr×Obj)}{σ:St}{H:Hp}{s:Shared}{a:Addr}{kvs:List (Key×V)}{A:Around}{E:Value->Shared->Prop}
end
section
variable {X:Cx}{pins:List (Addr×Obj)}{σ:St}{H:Hp}{s:Shared}{a:Addr}{y:V}{u:Value}{A:Around}{E:Value->Shared->Prop}
end
end L2
namespace L2
open PySem PySem.Spec PyProof.Rows
section
variable {prog:Program}{w:World}{A:Around}{E:Value->Shared->Prop}
end
section
variable {X:Cx}
end
end L2
namespace L2
open PySem PySem.Spec PyProof.Rows
section
variable {X:Cx}{pins:List (Addr×Obj)}{σ:St}{H:Hp}{s:Shared}{h':Heap}
theorem Inv.turnedNew{t':Nat}{ch:List Addr}{T:Addr}{ob:HO}(I:Inv X pins σ H s)(k:∀b o,b∉ch->s.heap.get? b=some o->h'.get? b=some o)(hf:∀b∈ch,zqe X pins H b)(hT:s.heap.objs.size<=T)
  (new:ObjOk X.prog X.w (upd H T ob) h' T ob):Inv X pins σ (upd H T ob) {s with heap:=h',toks:=t'}:=by
 have hn:H T=none:=I.hok.fresh hT
 have nit:∀b u,H b=some u->b∉ch:=fun b u e z=> by
  have q:=(hf b z).1
  rw[q] at e; cases e
 refine I.step (g':=s.gens) (d':=s.drawn) (ch:=ch) (fun b hb=> ⟨(hf b hb).2.2.2.1,(hf b hb).2.1,(hf b hb).2.2.2.2.1,(hf b hb).2.2.2.2.2⟩) (fun b o _ _ hc e _=> k b o hc e) (fun b o _ _ hc e _=> ⟨o.slots,k b o hc e⟩)
  (fun b o _ e n=> ?_) (fun b o hc e=> ⟨o,k b o hc e⟩) (fun b xs e=> ?_) (fun b o u e=> ?_) (fun b ps e=> ⟨#[],?_⟩) (fun m hm=> ?_) (fun b u e=> ?_) I.bare
 .rw[zbH (Nat.ne_of_lt (Nat.lt_of_lt_of_le (Heap.lt_size e) hT))]; exact n
 .rw[zbH (zcl e hn)]; exact e
 .rw[zbH (zcl e hn)]; exact e
 .rw[zbH (zcl e hn),e]; simp
 .obtain⟨o,es,ep,ho,r⟩:=hm
  exact⟨o,es,ep,k _ o (fun z=> (hf _ z).2.1 rfl) ho,r⟩
 .by_cases hb:b=T
  .subst hb
   rw[zbS] at e
   cases e
   exact new
  .rw[zbH hb] at e
   refine (I.hok b u e).stay (fun c v hc q=> k c v ?_ q) (fun c q=> by rw[zbH (zcl q hn)]; exact q) fun c xs q=> by rw[zbH (zcl q hn)]; exact q
   rcases hc with z | z
   .rw[z]; exact nit b u e
   .exact nit c _ z
end
section
variable {X:Cx}
end
section
variable {X:Cx}{tg:Expr}
end
section
variable {X:Cx}{tg:Expr}
end
section
variable {prog:Program}{w:World}{A:Around}{E:Value->Shared->Prop}{s:Shared}
end
section
variable {X:Cx}{pins:List (Addr×Obj)}{σ:St}{H:Hp}{s:Shared}{d:Addr}{o:Obj}
end
section
variable {P:Program}{w:World}{K:PySem.W.Frag}{tg:Expr}{d:Addr}{o:Obj}{es:Array DictEntry}{ep:Nat}
end
section
variable {X:Cx}{tg e:Expr}{td:TE}{apos cpos:Pos}
end
end L2
section
namespace Bits
open PySem PyProof.Rows
end Bits
end
section
namespace TL
open PySem PySem.Builtin PySem.Builtin.Str PySem.StrLaws
end TL
end
namespace L2
open PySem PySem.Spec PyProof.Rows
section
variable {X:Cx}{pins:List (Addr×Obj)}{σ:St}{H:Hp}{s:Shared}{Q:VK}
end
section
variable {X:Cx}
end
section
variable {X:Cx}{o e:Expr}{to te:TE}
end
end L2
namespace L2
open PySem PySem.Spec PyProof.Rows
section
variable {X:Cx}
end
end L2
namespace Att
open PySem PySem.W PySem.Calls PyProof.Rows
section
variable {prog:Program}{w:World}{A:Around}{E:Value->Shared->Prop}{s:Shared}{K:Frag}
end
end Att
namespace L2
open PySem PySem.Spec PyProof.Rows
end L2
namespace L2
open PySem PySem.Spec PyProof.Rows
end L2
namespace L2
open PySem PySem.Spec PyProof.Rows
def zaF(s:Stmt)(j:Nat):Stmt:=match s with
 | .ClassDef _ _ _ body _ _ _ _ _ _ _=> body.getD j (.Pass ⟨0,0,0,0⟩)
 | _=> .Pass ⟨0,0,0,0⟩
def zfn(s:Stmt):Arguments:=match s with
 | .FunctionDef _ a _ _ _ _ _ _ _ _=> a
 | _=> {posonlyargs:=[],args:=[],vararg:=none,kwonlyargs:=[],kw_defaults:=[],kwarg:=none,defaults:=[]}
def zew(s:Stmt):List Stmt:=match s with
 | .FunctionDef _ _ b _ _ _ _ _ _ _=> b
 | _=> []
def zaf(s:Stmt):Scope:=match s with
 | .FunctionDef _ _ _ _ _ _ sc _ _ _=> sc
 | _=> {kind:= .function,names:=[],isGenerator:=false,isCoroutine:=false}
abbrev CX0:CXT:=fun _ _ _ _ _ _=> False
abbrev E0:XK:=fun _ _ _=> False
theorem zo5{X:Cx}:zio CX0 X E0:=fun _ _ _ _ _ _ _ h=> h.elim
structure Fun (K:PySem.W.Frag) (x qual:Str) (st:Stmt) (f:Addr) (fd:FuncData):Prop where
 ex:∃(oc:Value) (od:Option Addr) (kV doc pm:Value) (an:Option Addr) (cdv ct:Value) (osl:Array (Option Value)),
  fd=PySem.W.fnOf x qual (zfn st) (zew st) (zaf st) .none kV doc pm an cdv ct/\K.lookup f=some ⟨oc,od,.func fd,osl⟩/\PySem.W.codeIn K cdv qual=true
 kp:PySem.W.keepIn K (.ref f)=true
section
variable {P:Program}{w:World}{K:PySem.W.Frag}{mg:Str->Option Value}{base:Heap}
theorem Fun.ok{x qual:Str}{st:Stmt}{f:Addr}{fd:FuncData}{N ps:List Str}{k:Nat}{sp:Sp}(F:Fun K x qual st f fd)(S:FnScope N ps (zaf st))(len:∀vs H Q E,sp vs H Q E->vs.length=ps.length)
  (hbody:∀(cdv:Value) (A:Around) (outer:List Env) (s:Shared) (H:Hp) (vs:List V) (Q:VK) (E:XK),Room k (A.deeper (envOfC qual (zaf st) s.heap.objs.size f cdv))->sp vs H Q E->
   ∃t,PSs (zue CX0 P w K mg base N qual (zaf st) f cdv A outer s H E).nox (zew st) t/\t {nx:=fun _ H'=> Q .non H',rt:=Q} (start N vs) H):FnOk P w K mg base CX0 (k + 1) f fd ps sp:=by
 obtain⟨oc,od,kV,doc,pm,an,cdv,ct,osl,rfl,lk,hcd⟩:=F.ex
 refine zyg lk hcd S len fun A outer s H vs Q E hr hsp=> ?_
 obtain⟨t,h,q⟩:=hbody cdv A outer s H vs Q E hr hsp
 exact⟨t,h.nox,q⟩
theorem Fun.binds{x qual:Str}{st:Stmt}{f:Addr}{fd:FuncData}{ps:List Str}(F:Fun K x qual st f fd)
  (h:∀(kV doc pm:Value) (an:Option Addr) (cdv ct:Value) (us:List Value),us.length=ps.length->bindArgs (PySem.W.fnOf x qual (zfn st) (zew st) (zaf st) .none kV doc pm an cdv ct) ⟨us,[]⟩=pure (ps.zip us)):Binds K fd ps []:=by
 obtain⟨oc,od,kV,doc,pm,an,cdv,ct,osl,rfl,lk,hcd⟩:=F.ex
 exact .all (h kV doc pm an cdv ct)
theorem zj8{x qual:Str}{st:Stmt}{f:Addr}{oc:Value}{od an:Option Addr}{osl:Array (Option Value)}{kV doc pm cdv ct:Value}(l:K.lookup f=some ⟨oc,od,.func (PySem.W.fnOf x qual (zfn st) (zew st) (zaf st) .none kV doc pm an cdv ct),osl⟩)
  (c:PySem.W.codeIn K cdv qual=true) (k:PySem.W.keepIn K (.ref f)=true):Fun K x qual st f (PySem.W.fnOf x qual (zfn st) (zew st) (zaf st) .none kV doc pm an cdv ct):=⟨⟨oc,od,kV,doc,pm,an,cdv,ct,osl,rfl,l,c⟩,k⟩
end
theorem zmb{A:Around}{k:Nat}(hr:Room k A):A.units + 2 < cLine:=Nat.lt_of_le_of_lt (Nat.add_le_add_left (by decide:2<=64) _) hr.units
theorem zhu{n:Nat}(h:n<=1000):n < sizeLine:=Nat.lt_of_le_of_lt h (by decide)
section
variable {X:Cx}
theorem pv(i:Nat){x:Str}{pos:Pos}(hN:X.N[i]? =some x:=by rfl)(hv:Vis X.env.scope x:=by first | exact Or.inl rfl | exact Or.inr (Or.inl rfl) | exact Or.inr (Or.inr rfl))(hd:(x==("__debug__":Str))=false:=by decide)
  (hcd:(x==("__classdict__":Str))=false:=by decide):PE X (.Name x pos) (zyH i):=zvu hN hv hd hcd
end
theorem ztz{A B:Prop}(h:B):if false=true then A else B:=by
 rw[if_neg Bool.false_ne_true]
 exact h
theorem zty{A B:Prop}(h:A):if true=true then A else B:=by
 rw[if_pos rfl]
 exact h
theorem zzk{c A B:Prop}[Decidable c](h1:c->A)(h2:¬c->B):if c then A else B:=by
 by_cases h:c
 .rw[if_pos h]
  exact h1 h
 .rw[if_neg h]
  exact h2 h
def zxu(H H':Hp):Prop:=∀b o,H b=some o->H' b=some o
section
variable {κ:Type}[DecidableEq κ]
end
end L2
namespace L2
open PySem PySem.Spec PyProof.Rows
open PySem.W (WData Codec OpenSpec Well WellAll ReadsW ReadsAllW)
mutual
inductive Dw (K:PySem.W.Frag) (H:Hp):V->WData->Prop
 | non:Dw K H .non .none
 | bl (b:Bool):Dw K H (.bl b) (.bool b)
 | int (i:Int):Dw K H (.int i) (.int i)
 | str (x:Str):Dw K H (.str x) (.str x)
 | byt (b:Array UInt8):Dw K H (.byt b) (.bytes b.toList)
 | lst {a:Addr} {xs:List V} {ds:List WData}:SqL K H a xs->DwAll K H xs ds->Dw K H (.ref a) (.list ds)
 | tup {a:Addr} {xs:List V} {ds:List WData}:SqT K H a xs->DwAll K H xs ds->Dw K H (.ref a) (.tuple ds)
inductive DwAll (K:PySem.W.Frag) (H:Hp):List V->List WData->Prop
 | nil:DwAll K H [] []
 | cons {v:V} {vs:List V} {d:WData} {ds:List WData}:Dw K H v d->DwAll K H vs ds->DwAll K H (v::vs) (d::ds)
end
theorem dw_ints{K:PySem.W.Frag}{H:Hp}:∀ns:List Int,DwAll K H (ns.map V.int) (ns.map WData.int)
 | []=> .nil
 | n::r=> .cons (.int n) (dw_ints r)
theorem ints_dw{K:PySem.W.Frag}{H:Hp}:∀(ns:List Int) (xs:List V),DwAll K H xs (ns.map WData.int)->xs=ns.map V.int
 | [],xs,h=> by
  cases h
  rfl
 | n::r,xs,h=> by
  cases h with
  | cons h1 h2=>
   cases h1
   rw[ints_dw r _ h2] <;> rfl
section
variable {P:Program}{w:World}{K:PySem.W.Frag}{H:Hp}{h:Heap}{R:PySem.W.WRecords}{cl:Str->Option Addr}
theorem zu4{a:Addr}{xs:List V}(hok:HOk P w H h)(KX:K.In h)(q:SqL K H a xs):∃(its:List Value) (o:Obj) (n:Nat),Vals xs its/\h.get? a=some o/\o.cls= .type "list"/\o.data= .seq its.toArray n:=by
 rcases q with q |⟨o,its,n,e,hc,_,hd,_,hv⟩
 .obtain⟨_,its,n,hv,e⟩:=(show ObjOk P w H h a (.lst xs) from q.ok hok)
  exact⟨its,_,n,hv,e,rfl,rfl⟩
 .exact⟨its.toList,o,n,hv,KX _ _ e,hc,by simp[hd]⟩
theorem zu3{a:Addr}{xs:List V}(hok:HOk P w H h)(KX:K.In h)(q:SqT K H a xs):∃(its:List Value) (o:Obj) (n:Nat),Vals xs its/\h.get? a=some o/\o.cls= .type "tuple"/\o.data= .seq its.toArray n:=by
 rcases q with q |⟨o,its,n,e,hc,hd,_,hv⟩
 .obtain⟨_,its,hv,o,e,hc,n,hd⟩:=(show ObjOk P w H h a (.tup xs) from q.ok hok)
  exact⟨its,o,n,hv,e,hc,hd⟩
 .exact⟨its.toList,o,n,hv,KX _ _ e,hc,by simp[hd]⟩
mutual
theorem Dw.reads(hok:HOk P w H h)(KX:K.In h):∀(d:WData) (v:V) (u:Value),Dw K H v d->RelV v u->∃as,ReadsW R cl h u d as
 | .none,_,_,x,r=> by
  cases x
  cases r
  exact⟨_,ReadsW.none⟩
 | .bool b,_,_,x,r=> by
  cases x
  cases r
  exact⟨_,ReadsW.bool b⟩
 | .int i,_,_,x,r=> by
  cases x
  obtain⟨t,rfl⟩:=r
  exact⟨_,ReadsW.int i t⟩
 | .str s,_,_,x,r=> by
  cases x
  obtain⟨t,rfl⟩:=r
  exact⟨_,ReadsW.str s t⟩
 | .bytes b,_,_,x,r=> by
  cases x
  obtain⟨t,rfl⟩:=r
  exact⟨_,ReadsW.bytes _ t⟩
 | .list ds,_,_,x,r=> by
  cases x with
  | lst hs ha=>
   cases r
   obtain⟨its,o,n,rv,ho,hc,hd⟩:=zu4 hok KX hs
   obtain⟨as,hr⟩:=Dw.readsAll hok KX ds _ its ha rv
   exact⟨_,ReadsW.list ho hc hd hr⟩
 | .tuple ds,_,_,x,r=> by
  cases x with
  | tup hs ha=>
   cases r
   obtain⟨its,o,n,rv,ho,hc,hd⟩:=zu3 hok KX hs
   obtain⟨as,hr⟩:=Dw.readsAll hok KX ds _ its ha rv
   exact⟨_,ReadsW.tuple ho hc hd hr⟩
 | .float _,_,_,x,_=> by cases x
 | .dict _,_,_,x,_=> by cases x
 | .bytearray _,_,_,x,_=> by cases x
 | .set _,_,_,x,_=> by cases x
 | .frozenset _,_,_,x,_=> by cases x
 | .obj _ _,_,_,x,_=> by cases x
theorem Dw.readsAll(hok:HOk P w H h)(KX:K.In h):∀(ds:List WData) (vs:List V) (us:List Value),DwAll K H vs ds->Vals vs us->∃as,ReadsAllW R cl h us ds as
 | [],_,_,x,r=> by
  cases x
  cases r
  exact⟨_,ReadsAllW.nil⟩
 | d::ds,_,_,x,r=> by
  cases x with
  | cons h1 h2=>
   cases r with
   | cons r1 r2=>
    obtain⟨as,q1⟩:=Dw.reads hok KX d _ _ h1 r1
    obtain⟨bs,q2⟩:=Dw.readsAll hok KX ds _ _ h2 r2
    exact⟨_,ReadsAllW.cons q1 q2⟩
end
end
mutual
def plW:WData->Bool
 | .none=> true
 | .bool _=> true
 | .int _=> true
 | .str _=> true
 | .bytes _=> true
 | .list xs=> zon xs
 | .tuple xs=> zon xs
 | _=> false
def zon:List WData->Bool
 | []=> true
 | x::r=> plW x && zon r
end
theorem zmY{α:Type}{f:α->WData}(h:∀a,plW (f a)=true):∀l:List α,zon (l.map f)=true
 | []=> rfl
 | x::r=> by
  show (plW (f x) && zon (r.map f))=true
  rw[h x,zmY h r] <;> rfl
theorem zij:∀(c:Codec) (a:c.denote),plW (c.enc a)=true
 | .unit,_=> rfl
 | .bool,_=> rfl
 | .int _ _,_=> rfl
 | .nat _ _,_=> rfl
 | .u8,_=> rfl
 | .bytes _ _,_=> rfl
 | .text _ _ _ _,_=> rfl
 | .list _ _ c,a=> zmY (fun x=> zij c x) a
 | .pair c d,a=> by
  show (plW (c.enc a.1) && (plW (d.enc a.2) && true))=true
  rw[zij c a.1,zij d a.2] <;> rfl
 | .triple c d e,a=> by
  show (plW (c.enc a.1) && (plW (d.enc a.2.1) && (plW (e.enc a.2.2) && true)))=true
  rw[zij c a.1,zij d a.2.1,zij e a.2.2] <;> rfl
 | .option c,none=> rfl
 | .option c,some x=> zij c x
theorem zk6:∀(cs:List Codec) (a:Codec.denoteAll cs),zon (Codec.encAll cs a)=true
 | [],_=> rfl
 | c::cs,a=> by
  show (plW (c.enc a.1) && zon (Codec.encAll cs a.2))=true
  rw[zij c a.1,zk6 cs a.2] <;> rfl
theorem zhU:∀{xs:List WData} {d:WData},d∈xs->d.weight<=WData.weightAll xs
 | [],d,h=> absurd h (by simp)
 | x::r,d,h=> by
  show d.weight<=x.weight + 1 + WData.weightAll r
  rcases List.mem_cons.mp h with e | m
  .rw[e]
   omega
  .have z:=zhU m
   omega
def toV:Value->V
 | .none=> .non
 | .bool b=> .bl b
 | .int i _=> .int i
 | .str x _=> .str x
 | .bytes b _=> .byt b
 | .ref a=> .ref a
 | _=> .non
def OkU(A:List Addr):Value->Prop
 | .none=> True
 | .bool _=> True
 | .int _ _=> True
 | .str _ _=> True
 | .bytes _ _=> True
 | .ref a=> a∈A
 | _=> False
theorem OkU.mono{A B:List Addr}(h:∀a∈A,a∈B):∀{u:Value},OkU A u->OkU B u:=fun {u} x=> by
 cases u with
 | ref a=> exact h a x
 | none=> trivial
 | bool b=> trivial
 | int i t=> trivial
 | str s t=> trivial
 | bytes b t=> trivial
 | _=> exact False.elim x
theorem zqA{A:List Addr}{u:Value}(x:OkU A u):RelV (toV u) u:=by
 cases u with
 | ref a=> rfl
 | none=> rfl
 | bool b=> rfl
 | int i t=> exact⟨t,rfl⟩
 | str s t=> exact⟨t,rfl⟩
 | bytes b t=> exact⟨t,rfl⟩
 | _=> exact False.elim x
theorem zgG{A:List Addr}:∀{vs:List Value},(∀u∈vs,OkU A u)->Vals (vs.map toV) vs
 | [],_=> .nil
 | u::r,h=> .cons (zqA (h u (List.mem_cons_self ..))) (zgG fun x hx=> h x (List.mem_cons_of_mem _ hx))
def ArgOb(h:Heap)(A:List Addr)(a:Addr):Prop:=∃vs:List Value,vs.length<=sizeLine/\(∀u∈vs,OkU A u)/\
 (h.get? a=some {cls:= .type "list",data:= .seq vs.toArray}\/h.get? a=some {cls:= .type "tuple",data:= .seq vs.toArray})
theorem ArgOb.mono{h:Heap}{A B:List Addr}{a:Addr}(k:∀a∈A,a∈B)(x:ArgOb h A a):ArgOb h B a:=by
 obtain⟨vs,h1,h2,h3⟩:=x
 exact⟨vs,h1,fun u hu=> (h2 u hu).mono k,h3⟩
theorem zfO{P:Params}{h:Heap}:∀{vs:List Value} {ds:List WData},WellAll P h vs ds->vs.length=ds.length
 | _,_,.nil=> rfl
 | _,_,.cons _ b=> by
  show _ + 1=_ + 1
  rw[zfO b]
theorem zkV{P:Params}{h:Heap}{v:Value}{ds:List WData}(x:Well P h v (.list ds)):∃(a:Addr) (vs:List Value),v= .ref a/\h.get? a=some {cls:= .type "list",data:= .seq vs.toArray}/\WellAll P h vs ds:=by
 cases x with
 | list ho hall=> exact⟨_,_,rfl,ho,hall⟩
theorem zjW{P:Params}{h:Heap}{v:Value}{ds:List WData}(x:Well P h v (.tuple ds)):∃(a:Addr) (vs:List Value),v= .ref a/\h.get? a=some {cls:= .type "tuple",data:= .seq vs.toArray}/\WellAll P h vs ds:=by
 cases x with
 | tuple ho hall=> exact⟨_,_,rfl,ho,hall⟩
theorem zkW{P:Params}{h:Heap}{us:List Value}{d:WData}{ds:List WData}(x:WellAll P h us (d::ds)):∃(v:Value) (vs:List Value),us=v::vs/\Well P h v d/\WellAll P h vs ds:=by
 cases x with
 | cons a b=> exact⟨_,_,rfl,a,b⟩
theorem zph{n:Nat}(h:n<=1048576):n<=sizeLine:=Nat.le_trans h (by decide)
section
variable {P:Params}{h:Heap}
mutual
theorem zrX:∀(d:WData) (v:Value),Well P h v d->plW d=true->d.weight<=1048576->∃A:List Addr,OkU A v/\∀a∈A,ArgOb h A a
 | .none,_,x,_,_=> by
  cases x
  exact⟨[],trivial,fun a m=> absurd m (by simp)⟩
 | .bool b,_,x,_,_=> by
  cases x
  exact⟨[],trivial,fun a m=> absurd m (by simp)⟩
 | .int i,_,x,_,_=> by
  cases x
  exact⟨[],trivial,fun a m=> absurd m (by simp)⟩
 | .str s,_,x,_,_=> by
  cases x
  exact⟨[],trivial,fun a m=> absurd m (by simp)⟩
 | .bytes b,_,x,_,_=> by
  cases x
  exact⟨[],trivial,fun a m=> absurd m (by simp)⟩
 | .list ds,_,x,p,z=> by
  obtain⟨a,vs,rfl,ho,hall⟩:=zkV x
  have z2:WData.weightAll ds<=1048576:=z
  obtain⟨A,h1,h2⟩:=ziE ds _ hall p fun d hd=> Nat.le_trans (zhU hd) z2
  have k:∀b∈A,b∈a::A:=fun b hb=> List.mem_cons_of_mem _ hb
  refine⟨a::A,List.mem_cons_self ..,fun b hb=> ?_⟩
  rcases List.mem_cons.mp hb with e | m
  .rw[e]
   exact⟨vs,zph (by rw[zfO hall]; exact Nat.le_trans (PySem.W.length_le_weightAllW ds) z2),fun u hu=> (h1 u hu).mono k,.inl ho⟩
  .exact (h2 b m).mono k
 | .tuple ds,_,x,p,z=> by
  obtain⟨a,vs,rfl,ho,hall⟩:=zjW x
  have z2:WData.weightAll ds<=1048576:=z
  obtain⟨A,h1,h2⟩:=ziE ds _ hall p fun d hd=> Nat.le_trans (zhU hd) z2
  have k:∀b∈A,b∈a::A:=fun b hb=> List.mem_cons_of_mem _ hb
  refine⟨a::A,List.mem_cons_self ..,fun b hb=> ?_⟩
  rcases List.mem_cons.mp hb with e | m
  .rw[e]
   exact⟨vs,zph (by rw[zfO hall]; exact Nat.le_trans (PySem.W.length_le_weightAllW ds) z2),fun u hu=> (h1 u hu).mono k,.inr ho⟩
  .exact (h2 b m).mono k
 | .float _,_,_,p,_=> Bool.noConfusion (show false=true from p)
 | .dict _,_,_,p,_=> Bool.noConfusion (show false=true from p)
 | .bytearray _,_,_,p,_=> Bool.noConfusion (show false=true from p)
 | .set _,_,_,p,_=> Bool.noConfusion (show false=true from p)
 | .frozenset _,_,_,p,_=> Bool.noConfusion (show false=true from p)
 | .obj _ _,_,_,p,_=> Bool.noConfusion (show false=true from p)
theorem ziE:∀(ds:List WData) (vs:List Value),WellAll P h vs ds->zon ds=true->(∀d∈ds,d.weight<=1048576)->∃A:List Addr,(∀u∈vs,OkU A u)/\∀a∈A,ArgOb h A a
 | [],_,x,_,_=> by
  cases x
  exact⟨[],fun u m=> absurd m (by simp),fun a m=> absurd m (by simp)⟩
 | d::ds,_,x,p,z=> by
  obtain⟨v,vs,rfl,x1,x2⟩:=zkW x
  have q:plW d=true/\zon ds=true:=Bool.and_eq_true_iff.mp p
  obtain⟨A,a1,a2⟩:=zrX d v x1 q.1 (z d (List.mem_cons_self ..))
  obtain⟨B,b1,b2⟩:=ziE ds vs x2 q.2 fun e he=> z e (List.mem_cons_of_mem _ he)
  have kA:∀b∈A,b∈A ++ B:=fun b hb=> List.mem_append.mpr (.inl hb)
  have kB:∀b∈B,b∈A ++ B:=fun b hb=> List.mem_append.mpr (.inr hb)
  refine⟨A ++ B,fun u hu=> ?_,fun b hb=> ?_⟩
  .rcases List.mem_cons.mp hu with e | m
   .rw[e]
    exact a1.mono kA
   .exact (b1 u m).mono kB
  .rcases List.mem_append.mp hb with m | m
   .exact (a2 b m).mono kA
   .exact (b2 b m).mono kB
end
end
def zxt(o:Obj):Option HO:=match o.data with
 | .seq vs _=> if (o.cls==Value.type "list")=true then some (.frz o (.lst (vs.toList.map toV))) else some (.frz o (.tup (vs.toList.map toV)))
 | _=> none
def zkQ(K:PySem.W.Frag)(h:Heap)(A:List Addr):Hp:=fun b=> if b∈A then (if (K.lookup b).isNone=true then (h.get? b).bind zxt else none) else none
def zqc(H:Hp):Prop:=∀b,H b=none\/∃o u,H b=some (.frz o u)
theorem znc(vs:List Value):zxt {cls:= .type "list",data:= .seq vs.toArray}=some (.frz {cls:= .type "list",data:= .seq vs.toArray} (.lst (vs.map toV))):=by
 show (if (Value.type "list"==Value.type "list")=true then some (HO.frz {cls:= .type "list",data:= .seq vs.toArray} (.lst (vs.toArray.toList.map toV))) else some (HO.frz {cls:= .type "list",data:= .seq vs.toArray} (.tup (vs.toArray.toList.map toV))))=_
 rw[if_pos (beq_self_eq_true _)]
theorem znb(vs:List Value):zxt {cls:= .type "tuple",data:= .seq vs.toArray}=some (.frz {cls:= .type "tuple",data:= .seq vs.toArray} (.tup (vs.map toV))):=by
 show (if (Value.type "tuple"==Value.type "list")=true then some (HO.frz {cls:= .type "tuple",data:= .seq vs.toArray} (.lst (vs.toArray.toList.map toV))) else some (HO.frz {cls:= .type "tuple",data:= .seq vs.toArray} (.tup (vs.toArray.toList.map toV))))=_
 rw[if_neg (by decide)]
section
variable {P:Program}{w:World}{K:PySem.W.Frag}{h:Heap}{A:List Addr}
theorem zkP{b:Addr}{o:Obj}(hb:b∈A)(hk:K.lookup b=none)(e:h.get? b=some o):zkQ K h A b=zxt o:=by
 unfold zkQ
 rw[if_pos hb,hk,if_pos (show (none:Option Obj).isNone=true from rfl),e] <;> rfl
theorem ztn{b:Addr}{u:HO}(q:zkQ K h A b=some u):b∈A/\K.lookup b=none:=by
 unfold zkQ at q
 by_cases hb:b∈A
 .rw[if_pos hb] at q
  cases hk:K.lookup b with
  | none=> exact⟨hb,rfl⟩
  | some o=>
   rw[hk,if_neg (by simp)] at q
   cases q
 .rw[if_neg hb] at q
  cases q
theorem zkO(ar:∀a∈A,ArgOb h A a){b:Addr}{u:HO}(q:zkQ K h A b=some u):K.lookup b=none/\∃vs:List Value,vs.length<=sizeLine/\(∀u∈vs,OkU A u)/\
  ((h.get? b=some {cls:= .type "list",data:= .seq vs.toArray}/\u= .frz {cls:= .type "list",data:= .seq vs.toArray} (.lst (vs.map toV)))\/
  (h.get? b=some {cls:= .type "tuple",data:= .seq vs.toArray}/\u= .frz {cls:= .type "tuple",data:= .seq vs.toArray} (.tup (vs.map toV)))):=by
 obtain⟨hb,hk⟩:=ztn q
 obtain⟨vs,h1,h2,h3⟩:=ar b hb
 refine⟨hk,vs,h1,h2,?_⟩
 rcases h3 with e | e
 .rw[zkP hb hk e,znc] at q
  exact .inl ⟨e,(Option.some.inj q).symm⟩
 .rw[zkP hb hk e,znb] at q
  exact .inr ⟨e,(Option.some.inj q).symm⟩
theorem zp4(ar:∀a∈A,ArgOb h A a):zqc (zkQ K h A):=fun b=> by
 cases q:zkQ K h A b with
 | none=> exact .inl rfl
 | some u=>
  obtain⟨_,vs,_,_,⟨_,e⟩ |⟨_,e⟩⟩:=zkO ar q
  .exact .inr ⟨_,_,by rw[e]⟩
  .exact .inr ⟨_,_,by rw[e]⟩
theorem zuk(ar:∀a∈A,ArgOb h A a):HOk P w (zkQ K h A) h:=fun b u q=> by
 obtain⟨_,vs,h1,h2,⟨e,rfl⟩ |⟨e,rfl⟩⟩:=zkO ar q
 .exact⟨e,by rw[List.length_map]; exact h1,vs,_,zgG h2,e⟩
 .exact⟨e,by rw[List.length_map]; exact h1,vs,zgG h2,_,e,rfl,_,rfl⟩
theorem zkk{c c':Value}{vs us:List Value}(e:(some {cls:=c,data:= .seq vs.toArray}:Option Obj)=some {cls:=c',data:= .seq us.toArray}):c=c'/\vs=us:=by
 have e1:=Option.some.inj e
 have e2:c=c':=congrArg Obj.cls e1
 have e3:Data.seq vs.toArray=Data.seq us.toArray:=congrArg Obj.data e1
 injection e3 with e4
 refine⟨e2,?_⟩
 have e5:=congrArg Array.toList e4
 simpa using e5
theorem zzq(KX:K.In h)(ar:∀a∈A,ArgOb h A a){a:Addr}{vs:List Value}(ha:a∈A)(e:h.get? a=some {cls:= .type "list",data:= .seq vs.toArray}):(∀u∈vs,OkU A u)/\SqL K (zkQ K h A) a (vs.map toV):=by
 obtain⟨us,h1,h2,h3⟩:=ar a ha
 have hu:us=vs:=by
  rcases h3 with q | q
  .rw[e] at q
   exact (zkk q).2.symm
  .rw[e] at q
   exact absurd (Value.type.inj (zkk q).1) (by decide)
 subst hu
 refine⟨h2,?_⟩
 cases hk:K.lookup a with
 | none=> exact .inl (.inr ⟨_,by rw[zkP ha hk e,znc]⟩)
 | some o=>
  have e2:=KX a o hk
  rw[e] at e2
  obtain rfl:=Option.some.inj e2
  exact .inr ⟨_,us.toArray,_,hk,rfl,rfl,rfl,by rw[List.size_toArray]; exact h1,by simpa using zgG h2⟩
theorem zzp(KX:K.In h)(ar:∀a∈A,ArgOb h A a){a:Addr}{vs:List Value}(ha:a∈A)(e:h.get? a=some {cls:= .type "tuple",data:= .seq vs.toArray}):(∀u∈vs,OkU A u)/\SqT K (zkQ K h A) a (vs.map toV):=by
 obtain⟨us,h1,h2,h3⟩:=ar a ha
 have hu:us=vs:=by
  rcases h3 with q | q
  .rw[e] at q
   exact absurd (Value.type.inj (zkk q).1) (by decide)
  .rw[e] at q
   exact (zkk q).2.symm
 subst hu
 refine⟨h2,?_⟩
 cases hk:K.lookup a with
 | none=> exact .inl (.inr ⟨_,by rw[zkP ha hk e,znb]⟩)
 | some o=>
  have e2:=KX a o hk
  rw[e] at e2
  obtain rfl:=Option.some.inj e2
  exact .inr ⟨_,us.toArray,_,hk,rfl,rfl,by rw[List.size_toArray]; exact h1,by simpa using zgG h2⟩
mutual
theorem zwF{Pm:Params}(KX:K.In h)(ar:∀a∈A,ArgOb h A a):∀(d:WData) (v:Value),Well Pm h v d->plW d=true->OkU A v->Dw K (zkQ K h A) (toV v) d
 | .none,_,x,_,_=> by
  cases x
  exact .non
 | .bool b,_,x,_,_=> by
  cases x
  exact .bl b
 | .int i,_,x,_,_=> by
  cases x
  exact .int i
 | .str s,_,x,_,_=> by
  cases x
  exact .str s
 | .bytes b,_,x,_,_=> by
  cases x
  have z:=Dw.byt (K:=K) (H:=zkQ K h A) b.toArray
  exact z
 | .list ds,_,x,p,hu=> by
  obtain⟨a,vs,rfl,ho,hall⟩:=zkV x
  obtain⟨h2,hs⟩:=zzq KX ar hu ho
  exact .lst hs (znp KX ar ds _ hall p h2)
 | .tuple ds,_,x,p,hu=> by
  obtain⟨a,vs,rfl,ho,hall⟩:=zjW x
  obtain⟨h2,hs⟩:=zzp KX ar hu ho
  exact .tup hs (znp KX ar ds _ hall p h2)
 | .float _,_,_,p,_=> Bool.noConfusion (show false=true from p)
 | .dict _,_,_,p,_=> Bool.noConfusion (show false=true from p)
 | .bytearray _,_,_,p,_=> Bool.noConfusion (show false=true from p)
 | .set _,_,_,p,_=> Bool.noConfusion (show false=true from p)
 | .frozenset _,_,_,p,_=> Bool.noConfusion (show false=true from p)
 | .obj _ _,_,_,p,_=> Bool.noConfusion (show false=true from p)
theorem znp{Pm:Params}(KX:K.In h)(ar:∀a∈A,ArgOb h A a):∀(ds:List WData) (vs:List Value),WellAll Pm h vs ds->zon ds=true->(∀u∈vs,OkU A u)->DwAll K (zkQ K h A) (vs.map toV) ds
 | [],_,x,_,_=> by
  cases x
  exact .nil
 | d::ds,_,x,p,hu=> by
  obtain⟨v,vs,rfl,x1,x2⟩:=zkW x
  have q:plW d=true/\zon ds=true:=Bool.and_eq_true_iff.mp p
  exact .cons (zwF KX ar d v x1 q.1 (hu _ (List.mem_cons_self ..))) (znp KX ar ds vs x2 q.2 fun u m=> hu u (List.mem_cons_of_mem _ m))
end
end
theorem zoG{P:Program}{w:World}{K:PySem.W.Frag}{mg mb:Str->Option Value}{CX:CXT}{k:Nat}{fa:Addr}{fd:FuncData}{ps:List Str}{sp:Sp}{s₁:Shared}{vals:List Value}{ds:List WData}{R:PySem.W.WRecords}{cl:Str->Option Addr}{d0:WData}
  (KX:K.In s₁.heap) (hns:s₁.heap.Ns mainGlobals mg) (hb:s₁.heap.Ns builtinsNs mb) (hbb:∀x:Str,x≠"__name__"->mb x=bootBuiltins x) (hlim:s₁.heap.NoLimit) (hg:s₁.gens=#[])
  (hwl:WellAll w.params s₁.heap vals ds) (hpl:zon ds=true) (hwt:∀d∈ds,d.weight<=1048576) (hr:Room k callerA)
  (F:∀base:Heap,K.In base->base.Ns mainGlobals mg->FnOk P w K mg base CX k fa fd ps sp) (hbind:∀(s:Shared) (us:List Value),us.length=ps.length->BindsTo s fd ⟨us,[]⟩ (ps.zip us)) (hlen:ds.length=ps.length)
  (hsp:∀(H:Hp) (xs:List V),zqc H->DwAll K H xs ds->sp xs H (fun v H'=> Dw K H' v d0) fun _ _ _=> False)
  (hCX:∀H e s',CX [] H s₁ (fun _ _ _=> False) e s'->False):
  codeAny (model P w) callerA (.call (.ref fa) ⟨vals,[]⟩) (fun r s'=>∃u as,r= .ok (.ret u)/\ReadsW R cl s'.heap u d0 as/\OldK s₁.heap s'.heap/\s'.os=s₁.os/\AllBare s'.gens) s₁:=by
 obtain⟨A,ho,ar⟩:=ziE ds vals hwl hpl hwt
 have hO:zqc (zkQ K s₁.heap A):=zp4 ar
 have hok:HOk P w (zkQ K s₁.heap A) s₁.heap:=zuk ar
 have hS:=znp KX ar ds vals hwl hpl ho
 have hV:=zgG ho
 have hK:∀b u,zkQ K s₁.heap A b=some u->K.lookup b=none:=fun b u q=> (zkO ar q).1
 have noA:∀{b:Addr} {o:Obj} {es:Array DictEntry} {ep:Nat},s₁.heap.get? b=some o->o.data= .dict es ep->zkQ K s₁.heap A b=none:=fun {b o es ep} e d=> by
  cases q:zkQ K s₁.heap A b with
  | none=> rfl
  | some u=>
   obtain⟨_,vs,_,_,⟨e2,_⟩ |⟨e2,_⟩⟩:=zkO ar q
   .rw[e2] at e
    cases e
    have d':Data.seq vs.toArray _=Data.dict es ep:=d
    cases d'
   .rw[e2] at e
    cases e
    have d':Data.seq vs.toArray _=Data.dict es ep:=d
    cases d'
 generalize zkQ K s₁.heap A=H at hO hok hS hK noA
 have base_of:∀{b:Addr} {o:Obj},s₁.heap.get? b=some o->H b=none->(zrd s₁.heap H).get? b=some o:=fun e n=> zrc e n
 have nsK:∀{b:Addr} {m:Str->Option Value},s₁.heap.Ns b m->(zrd s₁.heap H).Ns b m:=fun {b m} ⟨o,es,ep,e,d,r⟩=> ⟨o,es,ep,base_of e (noA e d),d,r⟩
 have nK:∀b o,K.lookup b=some o->H b=none:=fun b o e=> by
  cases q:H b with
  | none=> rfl
  | some u=>
   rw[hK b u q] at e
   cases e
 have hKb:K.In (zrd s₁.heap H):=fun b o e=> base_of (KX b o e) (nK b o e)
 have hM:Mod K mg (zrd s₁.heap H):=⟨hKb,nsK hns,⟨mb,nsK hb,hbb⟩,let ⟨mc,h1,h2⟩:=hlim;⟨mc,nsK h1,h2⟩⟩
 have e0:Env0 P w K mg (zrd s₁.heap H) callerA [] s₁ H:=⟨rfl,hM,fun b o e=> ztm e,Nat.le_of_eq (zps _ _),trivial,fun b hb=> absurd (show b∈([]:List Addr) from hb) (by simp),hok,.of_eq hg⟩
 have hl:vals.length=ps.length:=by rw[zfO hwl]; exact hlen
 refine codeAny_mono ((F _ hKb (nsK hns)).run callerA [] s₁ H ⟨vals,[]⟩ vals (vals.map toV) _ _ hr e0 (hbind s₁ vals hl) hV (hsp H _ hO hS)) fun r s' x=> ?_
 cases r with
 | error e=> exact (hCX H e s' x).elim
 | ok fl=>
  cases fl with
  | next=> exact False.elim x
  | brk=> exact False.elim x
  | cont=> exact False.elim x
  | ret u=>
   obtain⟨v,H',os,bare,un,hok',r',q⟩:=x
   have kept:∀b o,s₁.heap.get? b=some o->s'.heap.get? b=some o:=fun b o e=> by
    cases q2:H b with
    | none=> exact un.keep b o e q2 (by intro z; exact absurd (show b∈([]:List Addr) from z) (by simp)) (by simp)
    | some u2=>
     rcases hO b with z |⟨ob,u3,z⟩
     .rw[q2] at z
      cases z
     .have z2:=un.frzs b ob _ z
      obtain⟨e1,_⟩:=hok b _ z
      obtain⟨e2,_⟩:=hok' b _ z2
      rw[e] at e1
      cases e1
      exact e2
   have KX':K.In s'.heap:=fun b o e=> kept b o (KX b o e)
   obtain⟨as,hrd⟩:=Dw.reads (R:=R) (cl:=cl) hok' KX' d0 v u q r'
   exact⟨u,as,rfl,hrd,OldK.of_keep kept,os,bare⟩
theorem zjL{ds:List WData}(h:WData.layableAll ds=true):∀d∈ds,d.weight<=1048576:=fun d hd=>
 (PySem.W.layableW_iff.mp (List.all_eq_true.mp h d hd)).2.2
theorem zkb:∀(cs:List Codec) (a:Codec.denoteAll cs),(Codec.encAll cs a).length=cs.length
 | [],_=> rfl
 | c::cs,a=> by
  show (Codec.encAll cs a.2).length + 1=cs.length + 1
  rw[zkb cs a.2]
theorem zoq{r:OpenSpec}{k:Nat}{q:Program}{loose:List Str}{XP:(Str->Option Value)->Heap->Prop}{YP:World->Heap->Prop}{d:DefRec}{K:Params->PySem.W.Frag}{CX:World->CXT}{ps:List Str}{sp:World->Sp}
  (hwell:r.wellSaid=true) (hdf:d.params.defaults=[]) (hlen:r.args.length=ps.length) (hr:Room k callerA)
  (hY:∀(w:World) (h:Heap),YP w h->(K w.params).In h)
  (F:∀(w:World) (mg:Str->Option Value) (fa:Addr) (h:Heap),YP w h->(K w.params).In h->h.Ns mainGlobals mg->mg d.name=some (.ref fa)->
   ∃fd:FuncData,(∀(s:Shared) (us:List Value),us.length=ps.length->BindsTo s fd ⟨us,[]⟩ (ps.zip us))/\
    ∀base:Heap,(K w.params).In base->base.Ns mainGlobals mg->FnOk r.prog w (K w.params) mg base (CX w) k fa fd ps (sp w))
  (hsp:∀(w:World) (H:Hp) (xs:List V) (a:Codec.denoteAll r.args),zqc H->Codec.withinAll r.args a=true->Codec.app r.args r.asked a=true->DwAll (K w.params) H xs (Codec.encAll r.args a)->
   sp w xs H (fun v H'=> Dw (K w.params) H' v (r.ret.enc (Codec.app r.args r.f a))) fun _ _ _=> False)
  (hCX:∀(w:World) (H:Hp) (s:Shared) (e:Value) (s':Shared),CX w [] H s (fun _ _ _=> False) e s'->False):
  PySem.W.WalkOS q loose XP YP r d [] (fun f vs=> PySem.call f vs):=by
 intro w s_0 s₁ mg mb G Y fa o pm cd doc dV kV ho hd hcd hD hmg hg args vals as hpre hlay hrd hwl hlo
 obtain⟨a,e1,e2⟩:=PySem.W.os_pre_some hpre
 obtain⟨e3,hwi⟩:=Codec.encAll_of_decAll r.args args a e1
 subst e3
 have KX:=hY w _ Y
 obtain⟨fd,hb,hF⟩:=F w mg fa _ Y KX G.T.g hmg
 refine PySem.W.enter_call (codeAny_mono (zoG (R:=[]) (cl:=classAt s_0.heap) (d0:=r.ret.enc (Codec.app r.args r.f a)) KX G.T.g G.T.b G.T.builtins G.T.nolimit hg hwl (zk6 _ _) (zjL hlay) hr hF hb (by rw[zkb]; exact hlen)
  (fun H xs hO hS=> hsp w H xs a hO hwi e2 hS) fun H e s'=> hCX w H s₁ e s') fun r' s' hq=> ?_)
 obtain⟨u,as',rfl,h1,h2,h3,h4⟩:=hq
 exact⟨.inl ⟨u,_,as',rfl,fun _=> rfl,h1,(OpenSpec.post_iff hwell hwi _ _).mpr rfl,fun z=> Bool.noConfusion (show false=true from z)⟩,h2,h3,h4⟩
theorem walk_specK{r:OpenSpec}{k:Nat}{q:Program}{loose:List Str}{XP:(Str->Option Value)->Heap->Prop}{YP:World->Heap->Prop}{d:DefRec}{K:Params->PySem.W.Frag}{CX:CXT}{ps:List Str}{sp:PySem.W.Frag->Sp}
  (hwell:r.wellSaid=true) (hdf:d.params.defaults=[]) (hlen:r.args.length=ps.length) (hr:Room k callerA)
  (hY:∀(w:World) (h:Heap),YP w h->(K w.params).In h)
  (F:∀(w:World) (mg:Str->Option Value) (fa:Addr) (h:Heap),YP w h->(K w.params).In h->h.Ns mainGlobals mg->mg d.name=some (.ref fa)->
   ∃fd:FuncData,(∀(s:Shared) (us:List Value),us.length=ps.length->BindsTo s fd ⟨us,[]⟩ (ps.zip us))/\
    ∀base:Heap,(K w.params).In base->base.Ns mainGlobals mg->FnOk r.prog w (K w.params) mg base CX k fa fd ps (sp (K w.params)))
  (hsp:∀(K:PySem.W.Frag) (H:Hp) (xs:List V) (a:Codec.denoteAll r.args),zqc H->Codec.withinAll r.args a=true->Codec.app r.args r.asked a=true->DwAll K H xs (Codec.encAll r.args a)->
   sp K xs H (fun v H'=> Dw K H' v (r.ret.enc (Codec.app r.args r.f a))) fun _ _ _=> False)
  (hCX:∀(H:Hp) (s:Shared) (e:Value) (s':Shared),CX [] H s (fun _ _ _=> False) e s'->False):
  PySem.W.WalkOS q loose XP YP r d [] (fun f vs=> PySem.call f vs):=
 zoq (K:=K) (CX:=fun _=> CX) (sp:=fun w=> sp (K w.params)) hwell hdf hlen hr hY F (fun w H xs a h1 h2 h3 h4=> hsp (K w.params) H xs a h1 h2 h3 h4) fun _ H s e s'=> hCX H s e s'
end L2
set_option maxHeartbeats 4000000
namespace TS
noncomputable section
open PySem PySem.Spec PyProof.Rows L2
def GI(mg:Str->Option Value)(x:Str)(n:Int):Prop:=∃t,mg x=some (.int n t)
theorem zc5{X:Cx}{x:Str}{n:Int}{pos:Pos}(h:GI X.mg x n)(hg:Gl X x:=by rfl)(hd:(x==("__debug__":Str))=false:=by decide):PE X (.Name x pos) (tC (.int n)):=by
 obtain⟨t,h⟩:=h
 exact zo0 hg h ⟨t,rfl⟩ hd
theorem znH{X:Cx}{x:Str}{a:Addr}{pos:Pos}(h:X.mg x=some (.ref a))(hg:Gl X x:=by rfl)(hd:(x==("__debug__":Str))=false:=by decide):PE X (.Name x pos) (tC (.ref a)):=zo0 hg h rfl hd
section
variable (P:Program)(w:World)(K:PySem.W.Frag)(mg:Str->Option Value)(base:Heap)
def CG(k:Nat)(x:Str)(ps:List Str)(sp:Sp):Prop:=∃f fd,FnOk P w K mg base CX0 k f fd ps sp/\mg x=some (.ref f)/\PySem.W.keepIn K (.ref f)=true/\Binds K fd ps []
def CM(k:Nat)(C:Addr)(m:Str)(ps:List Str)(sp:Sp):Prop:=∃f fd,FnOk P w K mg base CX0 k f fd ps sp/\Meth K C m f/\Binds K fd ps []
def CC(k:Nat)(C:Addr)(x:Str)(ps:List Str)(sp:Sp):Prop:=∃f fd,FnOk P w K mg base CX0 k f fd ps sp/\Mk K C f/\mg x=some (.ref C)/\Binds K fd ps []
def FG(x:Str)(st:Stmt)(ps:List Str):Prop:=∃f fd,Fun K x x st f fd/\mg x=some (.ref f)/\Binds K fd ps []
def FM(C:Addr)(m qual:Str)(st:Stmt)(ps:List Str):Prop:=∃f fd,Fun K m qual st f fd/\Meth K C m f/\Binds K fd ps []
def FC(C:Addr)(x qual:Str)(st:Stmt)(ps:List Str):Prop:=∃f fd,Fun K "__init__" qual st f fd/\Mk K C f/\mg x=some (.ref C)/\Binds K fd ps []
end
section
variable {X:Cx}{k:Nat}{C:Addr}{x m:Str}{ps:List Str}{sp:Sp}{e o:Expr}{es:List Expr}{t:TA}{ta:TE}{p pos apos:Pos}
theorem zx3(G:CG X.prog X.w X.K X.mg X.base k x ps sp)(hr:Room k X.A)(ha:PA X (e::es) t)(hg:Gl X x:=by rfl)(hdb:(x==("__debug__":Str))=false:=by decide)
  (he:starEach (e::es) X.env=(false,eval e X.env)::starEach es X.env:=by rfl) (hpl:(backTo pos (starEach es X.env)).any (·.1)=false:=by rfl):
  PE X (.Call (.Name x p) (e::es) [] pos) (zu1 sp [] E0 t):=by
 obtain⟨f,fd,F,h1,h2,h3⟩:=G
 exact zth F hr hg h1 h2 h3 .nil zo5 ha hdb he hpl
theorem zx2{pl:Sem Bool}(ho:PE X o ta)(c:Cls X.K C)(G:CM X.prog X.w X.K X.mg X.base k C m ps sp)(hr:Room k X.A)(ha:PA X (e::es) t)
  (hst:starEach (e::es) X.env=(false,eval e X.env)::starEach es X.env:=by rfl) (hpl:(backTo pos (starEach es X.env)).any (·.1)=false:=by rfl)
  (ht:eval (.Call (.Attribute o m apos) (e::es) [] pos) X.env=(do
   let ov <- eval o X.env
   standAt apos.atName
   let (f,first) <- holding [ov] (getMethod ov m pl)
   callWith pos f first (backTo pos (starEach (e::es) X.env)) (backToKw pos (keywordEach [] X.env))):=by rfl):
  PE X (.Call (.Attribute o m apos) (e::es) [] pos) (zqr C m sp [] E0 ta t):=by
 obtain⟨f,fd,F,h1,h2⟩:=G
 exact zte (pl:=pl) ho c h1 F hr h2 .nil zo5 ha hst hpl ht
theorem zvC{pl:Sem Bool}(ho:PE X o ta)(c:Cls X.K C)(G:CM X.prog X.w X.K X.mg X.base k C m ps sp)(hr:Room k X.A)
  (ht:eval (.Call (.Attribute o m apos) [] [] pos) X.env=(do
   let ov <- eval o X.env
   standAt apos.atName
   let (f,first) <- holding [ov] (getMethod ov m pl)
   callWith pos f first (backTo pos (starEach [] X.env)) (backToKw pos (keywordEach [] X.env))):=by rfl):
  PE X (.Call (.Attribute o m apos) [] [] pos) (zqr C m sp [] E0 ta zuU):=by
 obtain⟨f,fd,F,h1,h2⟩:=G
 exact zqN (pl:=pl) ho c h1 F hr h2 .nil zo5 ht
theorem zx4(G:CC X.prog X.w X.K X.mg X.base k C x ps sp)(hr:Room (k + 1) X.A)(ha:PA X (e::es) t)(hg:Gl X x:=by rfl)(hdb:(x==("__debug__":Str))=false:=by decide)
  (he:starEach (e::es) X.env=(false,eval e X.env)::starEach es X.env:=by rfl) (hpl:(backTo pos (starEach es X.env)).any (·.1)=false:=by rfl):
  PE X (.Call (.Name x p) (e::es) [] pos) (zqs C sp [] E0 t):=by
 obtain⟨f,fd,F,h1,h2,h3⟩:=G
 exact ztf h1 F hr hg h2 h3 .nil zo5 ha hdb he hpl
theorem zvD(G:CC X.prog X.w X.K X.mg X.base k C x ps sp)(hr:Room (k + 1) X.A)(hg:Gl X x:=by rfl)(hdb:(x==("__debug__":Str))=false:=by decide):
  PE X (.Call (.Name x p) [] [] pos) (zqs C sp [] E0 zuU):=by
 obtain⟨f,fd,F,h1,h2,h3⟩:=G
 exact zqO h1 F hr hg h2 h3 .nil zo5 hdb
end
section
variable {X:Cx}{a b c:Expr}{ta tb tc:TE}{pos:Pos}{n:Int}
def zyX(n:Int)(ta tb:TE):TE:=fun σ H Q=> ta σ H fun x H1=> tb σ H1 fun y H2=>∃i j,x= .int i/\y= .int j/\Q (.bl (decide (i<=j/\j<=n))) H2
theorem zvz(ha:PE X a ta)(hb:PE X b tb)(hc:PE X c (tC (.int n)))(hm:lastMarks [.LtE,.LtE] [b,c]=false:=by with_unfolding_all rfl):
  PE X (.Compare a [.LtE,.LtE] [b,c] pos) (zyX n ta tb):=by
 intro pins s σ H Q I h
 refine Compare_chain (thn (ha pins s σ H _ I h) fun v s1 ⟨x,H1,I1,r1,q1⟩=> chain_link (thn (hb pins s1 σ H1 _ I1 q1) fun u s2 zz=> ?_)) hm
 obtain⟨y,H2,I2,r2,i,j,ex,ey,q⟩:=zz
 subst ex ey
 refine thn (znJ pins s2 σ H2 _ _ v u (fun z H3=> z= .bl (decide (i<=j))/\H3=H2) I2 r1 r2 ⟨i,j,rfl,rfl,rfl,rfl⟩) fun d s3 zz=> ?_
 obtain⟨z,H3,I3,r3,ez,eH⟩:=zz
 subst ez eH
 cases r3
 refine wpAny_truthy_bool ?_
 by_cases hij:i<=j
 .rw[decide_eq_true hij]
  refine ite_tt (chain_last (thn (hc pins s3 σ _ (fun z H4=> z= .int n/\H4=H3) I3 ⟨rfl,rfl⟩) fun w' s4 zz=> ?_))
  obtain⟨z',H4,I4,r4,e4,eH4⟩:=zz
  subst e4 eH4
  refine znJ pins s4 σ H4 _ _ u w' Q I4 r2 r4 ⟨j,n,rfl,rfl,?_⟩
  show Q (.bl (decide (j<=n))) H4
  rw[show decide (j<=n)=decide (i<=j/\j<=n) by simp[hij]]
  exact q
 .rw[decide_eq_false hij]
  refine ite_ff ⟨.bl false,H3,I3,rfl,?_⟩
  rw[show false=decide (i<=j/\j<=n) by simp[hij]]
  exact q
def zxD(n:Int)(ta tb:TE):TT:=fun σ H Q=> ta σ H fun x H1=> tb σ H1 fun y H2=>∃i j,x= .int i/\y= .int j/\Q (decide (i<=j/\j<=n)) H2
theorem zvm(ha:PE X a ta)(hb:PE X b tb)(hc:PE X c (tC (.int n)))(hm:lastMarks [.LtE,.LtE] [b,c]=false:=by with_unfolding_all rfl):
  PT X (.Compare a [.LtE,.LtE] [b,c] pos) (zxD n ta tb):=by
 intro pins s σ H Q I h
 refine isTrue_chain (thn (ha pins s σ H _ I h) fun v s1 ⟨x,H1,I1,r1,q1⟩=> test_link (thn (hb pins s1 σ H1 _ I1 q1) fun u s2 zz=> ?_)) hm
 obtain⟨y,H2,I2,r2,i,j,ex,ey,q⟩:=zz
 subst ex ey
 refine thn (znJ pins s2 σ H2 _ _ v u (fun z H3=> z= .bl (decide (i<=j))/\H3=H2) I2 r1 r2 ⟨i,j,rfl,rfl,rfl,rfl⟩) fun d s3 zz=> ?_
 obtain⟨z,H3,I3,r3,ez,eH⟩:=zz
 subst ez eH
 cases r3
 refine wpAny_truthy_bool ?_
 by_cases hij:i<=j
 .rw[decide_eq_true hij]
  refine ite_tt (test_last (thn (hc pins s3 σ _ (fun z H4=> z= .int n/\H4=H3) I3 ⟨rfl,rfl⟩) fun w' s4 zz=> ?_))
  obtain⟨z',H4,I4,r4,e4,eH4⟩:=zz
  subst e4 eH4
  refine thn (znJ pins s4 σ H4 _ _ u w' (fun z H5=> z= .bl (decide (j<=n))/\H5=H4) I4 r2 r4 ⟨j,n,rfl,rfl,rfl,rfl⟩) fun d' s5 zz=> ?_
  obtain⟨z2,H5,I5,r5,ez,eH5⟩:=zz
  subst ez eH5
  cases r5
  refine wpAny_truthy_bool ⟨H5,I5,?_⟩
  rw[show decide (j<=n)=decide (i<=j/\j<=n) by simp[hij]]
  exact q
 .rw[decide_eq_false hij]
  refine ite_ff ⟨H3,I3,?_⟩
  rw[show false=decide (i<=j/\j<=n) by simp[hij]]
  exact q
end
section
variable {X:Cx}{e a:Expr}{es:List Expr}{n:Int}{ns:List Int}{ta:TE}{pos tpos:Pos}
def tKs(ns:List Int):TA:=fun _ H Q=> Q (ns.map V.int) H
theorem pk0:PA X [] (tKs []):=zfy
theorem pk1(h:PE X e (tC (.int n)))(hr:PA X es (tKs ns))(hs:starEach (e::es) X.env=(false,eval e X.env)::starEach es X.env:=by rfl):PA X (e::es) (tKs (n::ns)):=zel h hr hs
theorem zjg(i:Int):∀ns:List Int,inV (.int i) (ns.map V.int)=ns.contains i
 | []=> rfl
 | n::ns=> by
  have ih:=zjg i ns
  unfold inV at ih |-
  rw[List.map_cons,List.any_cons,ih,List.contains_cons]
  show ((n==i) || _)=_
  by_cases h:n=i
  .subst h; rfl
  .rw[beq_eq_false_iff_ne.mpr h,beq_eq_false_iff_ne.mpr (Ne.symm h)]
theorem zgs:∀ns:List Int,(ns.map V.int).all zkC=true
 | []=> rfl
 | n::ns=> by rw[List.map_cons,List.all_cons,zgs ns]; rfl
def zuV(neg:Bool)(ns:List Int)(ta:TE):TE:=fun σ H Q=> ta σ H fun x H1=>∃i,x= .int i/\∀H',zxu H1 H'->Q (.bl (if neg then !ns.contains i else ns.contains i)) H'
theorem zfQ{H:Hp}{p:Addr}{o:HO}(h:H p=none):zxu H (upd H p o):=fun b u e=> by rw[zbH (zcl e h)]; exact e
theorem zsb{x1}(hl:ns.length<=1000)(ha:PE X a ta)(hk:PA X es (tKs ns)):PC X .In a (.Tuple es x1 tpos) (zuV false ns ta):=by
 intro pins s σ H Q I h
 refine thn (ha pins s σ H _ I h) fun v s1 zz=> ?_
 obtain⟨x,H1,I1,r1,i,ex,q⟩:=zz
 subst ex
 refine thn (zoY hk pins s1 σ H1 (fun y H2=>∃p,y= .ref p/\H1 p=none/\H2=upd H1 p (.tup (ns.map V.int))) I1 ⟨by rw[List.length_map]; exact Nat.le_of_lt (zhu hl),fun p hp=> ⟨p,rfl,hp,rfl⟩⟩) fun u s2 zz=> ?_
 obtain⟨y,H2,I2,r2,p,ey,hp,eH⟩:=zz
 subst ey eH
 refine ziX pins s2 σ _ _ _ v u Q I2 r1 r2 ⟨p,_,rfl,.inr (SqT.of zbS),rfl,zgs ns,?_⟩
 rw[zjg]
 exact q _ (zfQ hp)
theorem zti{x1}(hl:ns.length<=1000)(ha:PE X a ta)(hk:PA X es (tKs ns)):PC X .NotIn a (.Tuple es x1 tpos) (zuV true ns ta):=by
 intro pins s σ H Q I h
 refine thn (ha pins s σ H _ I h) fun v s1 zz=> ?_
 obtain⟨x,H1,I1,r1,i,ex,q⟩:=zz
 subst ex
 refine thn (zoY hk pins s1 σ H1 (fun y H2=>∃p,y= .ref p/\H1 p=none/\H2=upd H1 p (.tup (ns.map V.int))) I1 ⟨by rw[List.length_map]; exact Nat.le_of_lt (zhu hl),fun p hp=> ⟨p,rfl,hp,rfl⟩⟩) fun u s2 zz=> ?_
 obtain⟨y,H2,I2,r2,p,ey,hp,eH⟩:=zz
 subst ey eH
 refine zk8 pins s2 σ _ _ _ v u Q I2 r1 r2 ⟨p,_,rfl,.inr (SqT.of zbS),rfl,zgs ns,?_⟩
 rw[zjg]
 exact q _ (zfQ hp)
theorem zvA{x1}(ha:PE X a ta)(hk:PA X es (tKs ns))(hl:ns.length<=1000:=by decide):PE X (.Compare a [.In] [.Tuple es x1 tpos] pos) (zuV false ns ta):=zsa (zsb hl ha hk) rfl
theorem ztd{x1}(ha:PE X a ta)(hk:PA X es (tKs ns))(hl:ns.length<=1000:=by decide):PE X (.Compare a [.NotIn] [.Tuple es x1 tpos] pos) (zuV true ns ta):=zsa (zti hl ha hk) rfl
theorem zvn{x1}(ha:PE X a ta)(hk:PA X es (tKs ns))(hl:ns.length<=1000:=by decide):PT X (.Compare a [.In] [.Tuple es x1 tpos] pos) (tB (zuV false ns ta)):=zmW (zsb hl ha hk) rfl
end
end
end TS
namespace TS
noncomputable section
inductive FV where
 | non | bl (b:Bool) | int (i:Int) | str (cs:List Nat) | ref (i:Nat)
 deriving DecidableEq,Inhabited
abbrev NK:=Int×Sum Int (List Int)
inductive FO where
 | lst (xs:List FV) | fz (xs:List FV) | tup (xs:List FV) | ins (c:Nat) (vs:List FV)
 | dK (kvs:List (Int×FV)) | dN (kvs:List (NK×FV))
 deriving DecidableEq,Inhabited
abbrev FH:=List FO
abbrev FS:=List (Option FV)
abbrev ME:=FS->FH->Option (FV×FH)
abbrev MT:=FS->FH->Option (Bool×FH)
abbrev MA:=FS->FH->Option (List FV×FH)
inductive Out where
 | nx (σ:FS) | rt (v:FV)
abbrev MS:=FS->FH->Option (Out×FH)
abbrev MF:=List FV->FH->Option (FV×FH)
noncomputable def LIM:Nat:=16777216
noncomputable def eC (v:FV):ME:=fun _ O=> some (v,O)
noncomputable def eV (i:Nat):ME:=fun σ O=> match σ[i]? with
 | some (some v)=> some (v,O)
 | _=> none
noncomputable def fld (O:FH) (v:FV) (c k:Nat):Option FV:=match v with
 | .ref i=> match O[i]? with
  | some (.ins c' vs)=> if c'=c then vs[k]? else none
  | _=> none
 | _=> none
noncomputable def eFld (c k:Nat) (a:ME):ME:=fun σ O=> (a σ O).bind fun p=> (fld p.2 p.1 c k).bind fun v=> some (v,p.2)
noncomputable def op2 (f:Int->Int->Option FV) (u v:FV):Option FV:=match u,v with
 | .int i,.int j=> f i j
 | _,_=> none
noncomputable def eOp (f:Int->Int->Option FV) (a b:ME):ME:=fun σ O=> (a σ O).bind fun p=> (b σ p.2).bind fun q=> (op2 f p.1 q.1).bind fun v=> some (v,q.2)
noncomputable def iAdd (i j:Int):Option FV:=some (.int (i + j))
noncomputable def iSub (i j:Int):Option FV:=some (.int (i - j))
noncomputable def iMulR (i j:Int):Option FV:=if -(2 ^ 64) < j/\j < 2 ^ 64 then some (.int (i * j)) else none
noncomputable def iMulL (i j:Int):Option FV:=if -(2 ^ 64) < i/\i < 2 ^ 64 then some (.int (i * j)) else none
noncomputable def iDiv (i j:Int):Option FV:=if 0 < j/\j < 1073741824 then some (.int (i / j)) else none
noncomputable def iMod (i j:Int):Option FV:=if 0 < j then some (.int (i % j)) else none
noncomputable def iAnd (i j:Int):Option FV:=if 0<=i/\0<=j then some (.int ((i.toNat &&& j.toNat:Nat):Int)) else none
noncomputable def iOr (i j:Int):Option FV:=if 0<=i/\0<=j then some (.int ((i.toNat ||| j.toNat:Nat):Int)) else none
noncomputable def iShl (i j:Int):Option FV:=if 0<=i/\i < 2 ^ 200/\0<=j/\j<=200 then some (.int ((i.toNat <<< j.toNat:Nat):Int)) else none
noncomputable def iShr (i j:Int):Option FV:=if 0<=i/\0<=j then some (.int ((i.toNat >>> j.toNat:Nat):Int)) else none
noncomputable def lstAt (O:FH) (v:FV):Option (List FV):=match v with
 | .ref i=> match O[i]? with
  | some (.lst xs)=> some xs
  | some (.fz xs)=> some xs
  | _=> none
 | _=> none
noncomputable def tupAt (O:FH) (v:FV):Option (List FV):=match v with
 | .ref i=> match O[i]? with
  | some (.tup xs)=> some xs
  | _=> none
 | _=> none
noncomputable def atF {α:Type} (xs:List α) (i:Int):Option α:=if 0<=i then xs[i.toNat]? else if 0<=(xs.length:Int) + i then xs[((xs.length:Int) + i).toNat]? else none
noncomputable def ixL (O:FH) (u v:FV):Option FV:=match v with
 | .int i=> (lstAt O u).bind fun xs=> atF xs i
 | _=> none
noncomputable def ixT (O:FH) (u v:FV):Option FV:=match v with
 | .int i=> (tupAt O u).bind fun xs=> atF xs i
 | _=> none
noncomputable def ixS (u v:FV):Option FV:=match u,v with
 | .str cs,.int i=> (atF cs i).bind fun c=> some (.str [c])
 | _,_=> none
noncomputable def eIxL (a b:ME):ME:=fun σ O=> (a σ O).bind fun p=> (b σ p.2).bind fun q=> (ixL q.2 p.1 q.1).bind fun v=> some (v,q.2)
noncomputable def eIxT (a b:ME):ME:=fun σ O=> (a σ O).bind fun p=> (b σ p.2).bind fun q=> (ixT q.2 p.1 q.1).bind fun v=> some (v,q.2)
noncomputable def eIxS (a b:ME):ME:=fun σ O=> (a σ O).bind fun p=> (b σ p.2).bind fun q=> (ixS p.1 q.1).bind fun v=> some (v,q.2)
noncomputable def new (O:FH) (o:FO):FV×FH:=(.ref O.length,O ++ [o])
noncomputable def slc2 (xs:List FV) (lo hi:FV):Option (List FV):=match lo,hi with
 | .int i,.int j=> if 0<=i/\0<=j then some ((xs.take j.toNat).drop i.toNat) else none
 | _,_=> none
noncomputable def slc1 (xs:List FV) (lo:FV):Option (List FV):=match lo with
 | .int i=> if 0<=i then some (xs.drop i.toNat) else none
 | _=> none
noncomputable def eSl2 (a b c:ME):ME:=fun σ O=> (a σ O).bind fun p=> (b σ p.2).bind fun q=> (c σ q.2).bind fun r=> (lstAt r.2 p.1).bind fun xs=> (slc2 xs q.1 r.1).bind fun ys=> some (new r.2 (.lst ys))
noncomputable def eSl1 (a b:ME):ME:=fun σ O=> (a σ O).bind fun p=> (b σ p.2).bind fun q=> (lstAt q.2 p.1).bind fun xs=> (slc1 xs q.1).bind fun ys=> some (new q.2 (.lst ys))
noncomputable def aNil:MA:=fun _ O=> some ([],O)
noncomputable def aCons (a:ME) (r:MA):MA:=fun σ O=> (a σ O).bind fun p=> (r σ p.2).bind fun q=> some (p.1::q.1,q.2)
noncomputable def eTup (a:MA):ME:=fun σ O=> (a σ O).bind fun p=> if p.1.length<=LIM then some (new p.2 (.tup p.1)) else none
noncomputable def eLst (a:MA):ME:=fun σ O=> (a σ O).bind fun p=> if p.1.length<=LIM then some (new p.2 (.lst p.1)) else none
noncomputable def eTupOf (a:ME):ME:=fun σ O=> (a σ O).bind fun p=> (lstAt p.2 p.1).bind fun xs=> some (new p.2 (.tup xs))
noncomputable def eCat (a b:ME):ME:=fun σ O=> (a σ O).bind fun p=> (b σ p.2).bind fun q=> (mutAt q.2 p.1).bind fun xs=> (mutAt q.2 q.1).bind fun ys=> if xs.length + ys.length<=LIM then some (new q.2 (.lst (xs ++ ys))) else none
where mutAt (O:FH) (v:FV):Option (List FV):=match v with
 | .ref i=> match O[i]? with
  | some (.lst xs)=> some xs
  | _=> none
 | _=> none
abbrev mutAt:=eCat.mutAt
noncomputable def eLen (a:ME):ME:=fun σ O=> (a σ O).bind fun p=> (lstAt p.2 p.1).bind fun xs=> some (.int xs.length,p.2)
noncomputable def lenS (v:FV):Option FV:=match v with
 | .str cs=> some (.int cs.length)
 | _=> none
noncomputable def eLenS (a:ME):ME:=fun σ O=> (a σ O).bind fun p=> (lenS p.1).bind fun v=> some (v,p.2)
noncomputable def ordS (v:FV):Option FV:=match v with
 | .str [c]=> some (.int c)
 | _=> none
noncomputable def eOrd (a:ME):ME:=fun σ O=> (a σ O).bind fun p=> (ordS p.1).bind fun v=> some (v,p.2)
noncomputable def wordL:List FV:=[.str [110,117,108,108],.str [102,97,108,115,101],.str [116,114,117,101]]
noncomputable def wordAt (v:FV):Option FV:=match v with
 | .int i=> if 0<=i then wordL[i.toNat]? else none
 | _=> none
noncomputable def eWord (a:ME):ME:=fun σ O=> (a σ O).bind fun p=> (wordAt p.1).bind fun v=> some (v,p.2)
noncomputable def escL:List (Int×Int):=[(34,34),(92,92),(47,47),(98,8),(102,12),(110,10),(114,13),(116,9)]
noncomputable def escAt (v:FV):Option FV:=match v with
 | .int i=> (escL.lookup i).map .int
 | _=> none
noncomputable def escIn (v:FV):Option Bool:=match v with
 | .int i=> some (escL.lookup i).isSome
 | _=> none
noncomputable def eEsc (a:ME):ME:=fun σ O=> (a σ O).bind fun p=> (escAt p.1).bind fun v=> some (v,p.2)
noncomputable def tNescIn (a:ME):MT:=fun σ O=> (a σ O).bind fun p=> (escIn p.1).bind fun b=> some (!b,p.2)
noncomputable def eApp (a b:ME):ME:=fun σ O=> (a σ O).bind fun p=> (mutAt p.2 p.1).bind fun _=> (b σ p.2).bind fun q=> match p.1 with
 | .ref i=> (mutAt q.2 p.1).bind fun xs=> if xs.length < LIM then some (.non,q.2.set i (.lst (xs ++ [q.1]))) else none
 | _=> none
noncomputable def eExt (a b:ME):ME:=fun σ O=> (a σ O).bind fun p=> (mutAt p.2 p.1).bind fun _=> (b σ p.2).bind fun q=> match p.1 with
 | .ref i=> (mutAt q.2 p.1).bind fun xs=> (mutAt q.2 q.1).bind fun ys=> if xs.length + ys.length<=LIM then some (.non,q.2.set i (.lst (xs ++ ys))) else none
 | _=> none
noncomputable def ePop (a:ME):ME:=fun σ O=> (a σ O).bind fun p=> match p.1 with
 | .ref i=> (mutAt p.2 p.1).bind fun xs=> (xs.getLast?).bind fun y=> some (y,p.2.set i (.lst xs.dropLast))
 | _=> none
noncomputable def dAt (O:FH) (v:FV):Option (List (Int×FV)):=match v with
 | .ref i=> match O[i]? with
  | some (.dK kvs)=> some kvs
  | _=> none
 | _=> none
noncomputable def nAt (O:FH) (v:FV):Option (List (NK×FV)):=match v with
 | .ref i=> match O[i]? with
  | some (.dN kvs)=> some kvs
  | _=> none
 | _=> none
noncomputable def intOf (v:FV):Option Int:=match v with
 | .int i=> some i
 | _=> none
noncomputable def keyOf (O:FH) (v:FV):Option NK:=(tupAt O v).bind fun xs=> match xs with
 | [.int k,.int n]=> if k=0 then none else some (k,.inl n)
 | [.int k,.ref j]=> if k=0 then (tupAt O (.ref j)).bind fun ys=> (ys.mapM intOf).bind fun ns=> some (k,.inr ns) else none
 | _=> none
noncomputable def putD {κ:Type} [DecidableEq κ] (k:κ) (v:FV) (l:List (κ×FV)):List (κ×FV):=
 if (l.any fun p=> decide (p.1=k))=true then l.map (fun p=> if p.1=k then (p.1,v) else p) else l ++ [(k,v)]
noncomputable def getD {κ:Type} [DecidableEq κ] (k:κ) (l:List (κ×FV)):Option FV:=(l.find? fun p=> decide (p.1=k)).map (·.2)
noncomputable def delD (k:Int) (l:List (Int×FV)):List (Int×FV):=l.filter fun p=> decide (p.1≠k)
noncomputable def eDNew:ME:=fun _ O=> some (new O (.dK []))
noncomputable def eNNew:ME:=fun _ O=> some (new O (.dN []))
noncomputable def eDGet (a b:ME):ME:=fun σ O=> (a σ O).bind fun p=> (b σ p.2).bind fun q=> (dAt q.2 p.1).bind fun kvs=> (intOf q.1).bind fun k=> (getD k kvs).bind fun v=> some (v,q.2)
noncomputable def eDPop (a b:ME):ME:=fun σ O=> (a σ O).bind fun p=> (dAt p.2 p.1).bind fun _=> (b σ p.2).bind fun q=> match p.1 with
 | .ref i=> (dAt q.2 p.1).bind fun kvs=> (intOf q.1).bind fun k=> (getD k kvs).bind fun v=> some (v,q.2.set i (.dK (delD k kvs)))
 | _=> none
noncomputable def tDin (a b:ME):MT:=fun σ O=> (a σ O).bind fun p=> (b σ p.2).bind fun q=> (dAt q.2 q.1).bind fun kvs=> (intOf p.1).bind fun k=> some ((getD k kvs).isSome,q.2)
noncomputable def tDnin (a b:ME):MT:=fun σ O=> (a σ O).bind fun p=> (b σ p.2).bind fun q=> (dAt q.2 q.1).bind fun kvs=> (intOf p.1).bind fun k=> some (!(getD k kvs).isSome,q.2)
noncomputable def eNGet (a b c:ME):ME:=fun σ O=> (a σ O).bind fun p=> (nAt p.2 p.1).bind fun _=> (b σ p.2).bind fun q=> (c σ q.2).bind fun r=> (nAt r.2 p.1).bind fun kvs=> (keyOf r.2 q.1).bind fun k=> some ((getD k kvs).getD r.1,r.2)
noncomputable def keys16 (kvs:List (Int×FV)):List FV:=((List.range 16).filter fun (n:Nat)=> (getD (n:Int) kvs).isSome).map fun (n:Nat)=> FV.int n
noncomputable def okKeys (kvs:List (Int×FV)):Bool:=decide ((kvs.map (·.1)).Nodup) && kvs.all fun p=> decide (0<=p.1) && decide (p.1 < 16)
noncomputable def eSortD (a:ME):ME:=fun σ O=> (a σ O).bind fun p=> (dAt p.2 p.1).bind fun kvs=> if okKeys kvs=true then some (new p.2 (.lst (keys16 kvs))) else none
noncomputable def tCmp (f:Int->Int->Bool) (a b:ME):MT:=fun σ O=> (a σ O).bind fun p=> (b σ p.2).bind fun q=> match p.1,q.1 with
 | .int i,.int j=> some (f i j,q.2)
 | _,_=> none
noncomputable def cEq (i j:Int):Bool:=decide (i=j)
noncomputable def cNe (i j:Int):Bool:= !decide (i=j)
noncomputable def cLt (i j:Int):Bool:=decide (i < j)
noncomputable def cLe (i j:Int):Bool:=decide (i<=j)
noncomputable def cGt (i j:Int):Bool:=decide (j < i)
noncomputable def cGe (i j:Int):Bool:=decide (j<=i)
noncomputable def tLe3 (n:Int) (a b:ME):MT:=fun σ O=> (a σ O).bind fun p=> (b σ p.2).bind fun q=> match p.1,q.1 with
 | .int i,.int j=> some (decide (i<=j/\j<=n),q.2)
 | _,_=> none
noncomputable def tLe3F (a b c:ME):MT:=fun σ O=> (a σ O).bind fun p=> (b σ p.2).bind fun q=> (c σ q.2).bind fun r=> match p.1,q.1,r.1 with
 | .int i,.int j,.int k=> if r.2=q.2 then some (decide (i<=j/\j<=k),r.2) else none
 | _,_,_=> none
noncomputable def tIn (ns:List Int) (a:ME):MT:=fun σ O=> (a σ O).bind fun p=> (intOf p.1).bind fun i=> some (ns.contains i,p.2)
noncomputable def tNin (ns:List Int) (a:ME):MT:=fun σ O=> (a σ O).bind fun p=> (intOf p.1).bind fun i=> some (!ns.contains i,p.2)
noncomputable def zmI (a:ME):MT:=fun σ O=> (a σ O).bind fun p=> some (decide (p.1= .non),p.2)
noncomputable def blOf (v:FV):Option Bool:=match v with
 | .bl b=> some b
 | _=> none
noncomputable def tVal (a:ME):MT:=fun σ O=> (a σ O).bind fun p=> (blOf p.1).bind fun b=> some (b,p.2)
noncomputable def zkR (a:MT):MT:=fun σ O=> (a σ O).bind fun p=> some (!p.1,p.2)
noncomputable def ziy (a b:MT):MT:=fun σ O=> (a σ O).bind fun p=> if p.1=true then b σ p.2 else some (false,p.2)
noncomputable def tOr (a b:MT):MT:=fun σ O=> (a σ O).bind fun p=> if p.1=true then some (true,p.2) else b σ p.2
noncomputable def tEqL (a b:ME):MT:=fun σ O=> (a σ O).bind fun p=> (b σ p.2).bind fun q=> (lstAt q.2 p.1).bind fun xs=> (lstAt q.2 q.1).bind fun ys=> (xs.mapM intOf).bind fun ns=> (ys.mapM intOf).bind fun ms=> some (decide (ns=ms),q.2)
noncomputable def eB (t:MT):ME:=fun σ O=> (t σ O).bind fun p=> some (.bl p.1,p.2)
noncomputable def eNot (a:ME):ME:=fun σ O=> (a σ O).bind fun p=> (blOf p.1).bind fun b=> some (.bl (!b),p.2)
noncomputable def eAnd (a b:ME):ME:=fun σ O=> (a σ O).bind fun p=> (blOf p.1).bind fun c=> if c=true then b σ p.2 else some (.bl false,p.2)
noncomputable def eOr (a b:ME):ME:=fun σ O=> (a σ O).bind fun p=> (blOf p.1).bind fun c=> if c=true then some (.bl true,p.2) else b σ p.2
noncomputable def eIf (t:MT) (a b:ME):ME:=fun σ O=> (t σ O).bind fun p=> if p.1=true then a σ p.2 else b σ p.2
noncomputable def eCall (f:MF) (a:MA):ME:=fun σ O=> (a σ O).bind fun p=> f p.1 p.2
noncomputable def insAt (O:FH) (v:FV) (c:Nat):Bool:=match v with
 | .ref i=> match O[i]? with
  | some (.ins c' _)=> decide (c'=c)
  | _=> false
 | _=> false
noncomputable def eMeth (c:Nat) (f:MF) (o:ME) (a:MA):ME:=fun σ O=> (o σ O).bind fun p=> if insAt p.2 p.1 c=true then (a σ p.2).bind fun q=> f (p.1::q.1) q.2 else none
noncomputable def eNew (c:Nat) (f:MF) (a:MA):ME:=fun σ O=> (a σ O).bind fun p=> (f (.ref p.2.length::p.1) (p.2 ++ [.ins c []])).bind fun q=> if q.1= .non then some (.ref p.2.length,q.2) else none
noncomputable def lcM (f:MF) (l:FV) (D:Nat) (all:List FV):List FV->FH->Option FH
 | [],O=> if lstAt O l=some all then some O else none
 | x::r,O=> if lstAt O l=some all then (f [x] O).bind fun p=> (blOf p.1).bind fun _=> (mutAt p.2 (.ref D)).bind fun acc=> if acc.length < LIM then lcM f l D all r (p.2.set D (.lst (acc ++ [p.1]))) else none else none
noncomputable def eAll (f:MF) (a:ME):ME:=fun σ O=> (a σ O).bind fun p=> (lstAt p.2 p.1).bind fun xs=> (lcM f p.1 p.2.length xs xs (p.2 ++ [.lst []])).bind fun O'=> (mutAt O' (.ref p.2.length)).bind fun ys=> (ys.mapM blOf).bind fun bs=> some (.bl (bs.all id),O')
noncomputable def sNx:MS:=fun σ O=> some (.nx σ,O)
noncomputable def sSeq (a b:MS):MS:=fun σ O=> (a σ O).bind fun p=> match p.1 with
 | .nx σ'=> b σ' p.2
 | .rt v=> some (.rt v,p.2)
noncomputable def sIf (t:MT) (a b:MS):MS:=fun σ O=> (t σ O).bind fun p=> if p.1=true then a σ p.2 else b σ p.2
noncomputable def sRet (a:ME):MS:=fun σ O=> (a σ O).bind fun p=> some (.rt p.1,p.2)
noncomputable def sRetN:MS:=fun _ O=> some (.rt .non,O)
noncomputable def sSet (i:Nat) (a:ME):MS:=fun σ O=> (a σ O).bind fun p=> some (.nx (σ.set i (some p.1)),p.2)
noncomputable def sEx (a:ME):MS:=fun σ O=> (a σ O).bind fun p=> some (.nx σ,p.2)
noncomputable def sNever:MS:=fun _ _=> none
noncomputable def sAug (i:Nat) (f:Int->Int->Option FV) (a:ME):MS:=fun σ O=> (eV i σ O).bind fun p=> (a σ p.2).bind fun q=> (op2 f p.1 q.1).bind fun v=> some (.nx (σ.set i (some v)),q.2)
noncomputable def putF (O:FH) (v:FV) (c k:Nat) (x:FV):Option FH:=match v with
 | .ref i=> match O[i]? with
  | some (.ins c' vs)=> if c'=c then (if k < vs.length then some (O.set i (.ins c (vs.set k x))) else if k=vs.length then some (O.set i (.ins c (vs ++ [x]))) else none) else none
  | _=> none
 | _=> none
noncomputable def zco (c k:Nat) (o a:ME):MS:=fun σ O=> (a σ O).bind fun p=> (o σ p.2).bind fun q=> (putF q.2 q.1 c k p.1).bind fun O'=> some (.nx σ,O')
noncomputable def zdU (c k:Nat) (f:Int->Int->Option FV) (o a:ME):MS:=fun σ O=> (o σ O).bind fun p=> (fld p.2 p.1 c k).bind fun x=> (a σ p.2).bind fun q=> (op2 f x q.1).bind fun y=> (putF q.2 p.1 c k y).bind fun O'=> some (.nx σ,O')
noncomputable def sDput (d k a:ME):MS:=fun σ O=> (a σ O).bind fun p=> (d σ p.2).bind fun q=> (k σ q.2).bind fun r=> match q.1 with
 | .ref i=> (dAt r.2 q.1).bind fun kvs=> (intOf r.1).bind fun n=> if kvs.length < LIM then some (.nx σ,r.2.set i (.dK (putD n p.1 kvs))) else none
 | _=> none
noncomputable def sNput (d k a:ME):MS:=fun σ O=> (a σ O).bind fun p=> (d σ p.2).bind fun q=> (k σ q.2).bind fun r=> match q.1 with
 | .ref i=> (nAt r.2 q.1).bind fun kvs=> (keyOf r.2 r.1).bind fun n=> if kvs.length < LIM then some (.nx σ,r.2.set i (.dN (putD n p.1 kvs))) else none
 | _=> none
noncomputable def sAugS (f:Int->Int->Option FV) (l i a:ME):MS:=fun σ O=> (l σ O).bind fun p=> (i σ p.2).bind fun q=> match p.1,q.1 with
 | .ref n,.int j=> if 0<=j then (mutAt q.2 p.1).bind fun xs=> (xs[j.toNat]?).bind fun x=> (a σ q.2).bind fun r=> if r.2=q.2 then (op2 f x r.1).bind fun y=> some (.nx σ,r.2.set n (.lst (xs.set j.toNat y))) else none else none
 | _,_=> none
noncomputable def loopW (t:MT) (b:MS):Nat->FS->FH->Option (Out×FH)
 | 0,_,_=> none
 | n + 1,σ,O=> (t σ O).bind fun p=> if p.1=true then (b σ p.2).bind fun q=> match q.1 with
   | .nx σ'=> loopW t b n σ' q.2
   | .rt v=> some (.rt v,q.2)
  else some (.nx σ,p.2)
noncomputable def sWhile (n:Nat) (t:MT) (b:MS):MS:=fun σ O=> loopW t b n σ O
noncomputable def loopL (i:Nat) (b:MS) (l:FV) (all:List FV):List FV->FS->FH->Option (Out×FH)
 | [],σ,O=> if lstAt O l=some all then some (.nx σ,O) else none
 | x::r,σ,O=> if lstAt O l=some all then (b (σ.set i (some x)) O).bind fun q=> match q.1 with
   | .nx σ'=> loopL i b l all r σ' q.2
   | .rt v=> some (.rt v,q.2)
  else none
noncomputable def sForL (i:Nat) (a:ME) (b:MS):MS:=fun σ O=> (a σ O).bind fun p=> (lstAt p.2 p.1).bind fun xs=> loopL i b p.1 xs xs σ p.2
noncomputable def loopR (i:Nat) (b:MS):Nat->Nat->FS->FH->Option (Out×FH)
 | _,0,σ,O=> some (.nx σ,O)
 | k,n + 1,σ,O=> (b (σ.set i (some (.int k))) O).bind fun q=> match q.1 with
   | .nx σ'=> loopR i b (k + 1) n σ' q.2
   | .rt v=> some (.rt v,q.2)
noncomputable def sForR (i n:Nat) (b:MS):MS:=fun σ O=> loopR i b 0 n σ O
noncomputable def mFn (n N:Nat) (b:MS):MF:=fun vs O=> if vs.length=n then (b (vs.map some ++ List.replicate (N - n) none) O).bind fun p=> match p.1 with
  | .nx _=> some (.non,p.2)
  | .rt v=> some (v,p.2)
 else none
noncomputable def m_word_begun_by:MF:=fun vs O=> match vs with
 | [.int b]=> some (if b=110 then .int 0 else if b=102 then .int 1 else if b=116 then .int 2 else .non,O)
 | _=> none
end
end TS
namespace TS
noncomputable section
open PySem PySem.Spec PyProof.Rows L2
abbrev Al:=List Addr
def RV(α:Al):FV->V->Prop
 | .non,v=> v= .non
 | .bl b,v=> v= .bl b
 | .int i,v=> v= .int i
 | .str cs,v=>∃x:Str,v= .str x/\x.cps.toList=cs/\cs.length<=1000
 | .ref i,v=>∃p,α[i]? =some p/\v= .ref p
abbrev RVs(α:Al):List FV->List V->Prop:=Paired (RV α)
theorem zta{α β:Al}{i:Nat}{p:Addr}(h:α <+:β)(e:α[i]? =some p):β[i]? =some p:=by
 obtain⟨t,rfl⟩:=h
 rw[List.getElem?_append_left (List.getElem?_eq_some_iff.mp e).1]; exact e
theorem RV.ext{α β:Al}{v:FV}{u:V}(h:α <+:β)(r:RV α v u):RV β v u:=by
 cases v with
 | ref i=> obtain⟨p,e,rfl⟩:=r; exact⟨p,zta h e,rfl⟩
 | _=> exact r
theorem RV.inj{α:Al}{v:FV}{x y:V}(a:RV α v x)(b:RV α v y):x=y:=by
 cases v with
 | non=> exact a.trans b.symm
 | bl _=> exact a.trans b.symm
 | int _=> exact a.trans b.symm
 | str cs=>
  obtain⟨x,rfl,e,_⟩:=a
  obtain⟨y,rfl,e',_⟩:=b
  obtain⟨x⟩:=x
  obtain⟨y⟩:=y
  have:x=y:=by
   have:=e.trans e'.symm
   exact Array.toList_inj.mp this
  rw[this]
 | ref i=>
  obtain⟨p,e,rfl⟩:=a
  obtain⟨q,e',rfl⟩:=b
  rw[e] at e'; cases e'; rfl
theorem RVs.ext{α β:Al}{xs:List FV}{ys:List V}(h:α <+:β)(r:RVs α xs ys):RVs β xs ys:=Paired.mapP r fun _ _ z=> z.ext h
theorem RVs.inj{α:Al}:∀{xs:List FV} {ys zs:List V},RVs α xs ys->RVs α xs zs->ys=zs
 | _,_,_,.nil,.nil=> rfl
 | _,_,_,.cons a r,.cons b q=> by rw[a.inj b,RVs.inj r q]
theorem RVs.length{α:Al}{xs:List FV}{ys:List V}(r:RVs α xs ys):xs.length=ys.length:=Paired.length r
theorem RVs.get{α:Al}:∀{xs:List FV} {ys:List V} {i:Nat} {x:FV},RVs α xs ys->xs[i]? =some x->∃y,ys[i]? =some y/\RV α x y
 | _,_,_,_,.nil,e=> by simp at e
 | _,_,0,_,.cons r _,e=> by simp at e; subst e; exact⟨_,rfl,r⟩
 | _,_,i + 1,x,.cons _ t,e=> by
  obtain⟨u,h1,h2⟩:=RVs.get (i:=i) (x:=x) t (by simpa using e)
  exact⟨u,by simpa using h1,h2⟩
theorem RVs.back{α:Al}:∀{xs:List FV} {ys:List V} {i:Nat} {y:V},RVs α xs ys->ys[i]? =some y->∃x,xs[i]? =some x/\RV α x y
 | _,_,_,_,.nil,e=> by simp at e
 | _,_,0,_,.cons r _,e=> by simp at e; subst e; exact⟨_,rfl,r⟩
 | _,_,i + 1,x,.cons _ t,e=> by
  obtain⟨u,h1,h2⟩:=RVs.back (i:=i) (y:=x) t (by simpa using e)
  exact⟨u,by simpa using h1,h2⟩
theorem RVs.app{α:Al}:∀{xs xs':List FV} {ys ys':List V},RVs α xs ys->RVs α xs' ys'->RVs α (xs ++ xs') (ys ++ ys')
 | _,_,_,_,.nil,s=> s
 | _,_,_,_,.cons r t,s=> .cons r (RVs.app t s)
theorem RVs.drop{α:Al}:∀{xs:List FV} {ys:List V} (n:Nat),RVs α xs ys->RVs α (xs.drop n) (ys.drop n)
 | _,_,0,r=> r
 | _,_,_ + 1,.nil=> .nil
 | _,_,n + 1,.cons _ t=> RVs.drop n t
theorem RVs.take{α:Al}:∀{xs:List FV} {ys:List V} (n:Nat),RVs α xs ys->RVs α (xs.take n) (ys.take n)
 | _,_,0,_=> .nil
 | _,_,_ + 1,.nil=> .nil
 | _,_,n + 1,.cons r t=> .cons r (RVs.take n t)
theorem RVs.set{α:Al}{x:FV}{y:V}(r:RV α x y):∀{xs:List FV} {ys:List V} (i:Nat),RVs α xs ys->RVs α (xs.set i x) (ys.set i y)
 | _,_,_,.nil=> .nil
 | _,_,0,.cons _ t=> .cons r t
 | _,_,i + 1,.cons q t=> .cons q (RVs.set r i t)
theorem RVs.dropLast{α:Al}{xs:List FV}{ys:List V}(r:RVs α xs ys):RVs α xs.dropLast ys.dropLast:=by
 rw[List.dropLast_eq_take,List.dropLast_eq_take,<- r.length]
 exact r.take _
theorem RVs.ints{α:Al}:∀{xs:List FV} {ns:List Int} {ys:List V},RVs α xs ys->xs.mapM intOf=some ns->ys=ns.map V.int
 | [],ns,_,.nil,e=> by simp at e; subst e; rfl
 | x::r,ns,_,.cons h t,e=> by
  rw[List.mapM_cons] at e
  cases x with
  | int i=>
   simp only[intOf,Option.bind_eq_bind,Option.bind_some,Option.bind_eq_some_iff,Option.pure_def,Option.some.injEq] at e
   obtain⟨ms,e1,rfl⟩:=e
   rw[RVs.ints t e1,show _=V.int i from h]; rfl
  | _=> simp[intOf] at e
structure Ad where
 f:Nat->Addr
 K:PySem.W.Frag
instance:CoeFun Ad (fun _=> Nat->Addr):=⟨Ad.f⟩
def KL(K:PySem.W.Frag)(p:Addr)(ys:List V):Prop:=∃(o:Obj) (its:Array Value) (n:Nat),K.lookup p=some o/\o.cls= .type "list"/\o.dict=none/\o.data= .seq its n/\its.size<=sizeLine/\Vals ys its.toList
def nms:Nat->List Str
 | 0=> ["held","at_root","wide","unshut","any_of","only"]
 | 1=> ["stage","figures"]
 | 2=> ["kind","places","telling","name","begun"]
 | 3=> ["characters","stage","missing","least","greatest","value","digits","first"]
 | 4=> ["questions","levels","awaited","which","is_told","string","number","word","spelled"]
 | 5=> ["questions","reader","taken","over"]
 | _=> []
theorem zsd:∀c,(nms c).Nodup
 | 0=> by decide
 | 1=> by decide
 | 2=> by decide
 | 3=> by decide
 | 4=> by decide
 | 5=> by decide
 | _ + 6=> List.nodup_nil
theorem ztp:∀c,(nms c).length<=9
 | 0=> by decide
 | 1=> by decide
 | 2=> by decide
 | 3=> by decide
 | 4=> by decide
 | 5=> by decide
 | _ + 6=> Nat.zero_le _
def RO(a:Ad)(H:Hp)(α:Al)(p:Addr):FO->Prop
 | .lst xs=>∃ys,RVs α xs ys/\H p=some (.lst ys)
 | .fz xs=>∃ys,RVs α xs ys/\((∃o,H p=some (.frz o (.lst ys)))\/KL a.K p ys)
 | .tup xs=>∃ys,RVs α xs ys/\H p=some (.tup ys)
 | .ins c vs=>∃dx fs,fs.map (·.1)=(nms c).take vs.length/\vs.length<=(nms c).length/\RVs α vs (fs.map (·.2))/\H p=some (.ins (a c) dx fs)
 | .dK kvs=>∃ys:List (Key×V),Paired (fun (x:Int×FV) (y:Key×V)=> y.1=Sum.inl x.1/\RV α x.2 y.2) kvs ys/\H p=some (.dK ys)
 | .dN kvs=>∃ys:List (zfs×V),Paired (fun (x:NK×FV) (y:zfs×V)=> y.1=x.1/\RV α x.2 y.2) kvs ys/\H p=some (.dT ys)
theorem RO.ext{a:Ad}{H:Hp}{α β:Al}{p:Addr}{o:FO}(h:α <+:β)(r:RO a H α p o):RO a H β p o:=by
 cases o with
 | lst xs=> obtain⟨ys,r,e⟩:=r; exact⟨ys,r.ext h,e⟩
 | fz xs=> obtain⟨ys,r,e⟩:=r; exact⟨ys,r.ext h,e⟩
 | tup xs=> obtain⟨ys,r,e⟩:=r; exact⟨ys,r.ext h,e⟩
 | ins c vs=> obtain⟨dx,fs,e1,e2,r,e⟩:=r; exact⟨dx,fs,e1,e2,r.ext h,e⟩
 | dK kvs=> obtain⟨ys,r,e⟩:=r; exact⟨ys,Paired.mapP r fun _ _ z=> ⟨z.1,z.2.ext h⟩,e⟩
 | dN kvs=> obtain⟨ys,r,e⟩:=r; exact⟨ys,Paired.mapP r fun _ _ z=> ⟨z.1,z.2.ext h⟩,e⟩
theorem RO.some{a:Ad}{H:Hp}{α:Al}{p:Addr}{o:FO}(r:RO a H α p o)(hn:∀xs,o≠ .fz xs):∃u,H p=some u/\∀ob v,u≠ .frz ob v:=by
 cases o with
 | lst xs=> obtain⟨ys,r,e⟩:=r; exact⟨_,e,fun _ _ z=> by cases z⟩
 | fz xs=> exact absurd rfl (hn xs)
 | tup xs=> obtain⟨ys,r,e⟩:=r; exact⟨_,e,fun _ _ z=> by cases z⟩
 | ins c vs=> obtain⟨dx,fs,e1,e2,r,e⟩:=r; exact⟨_,e,fun _ _ z=> by cases z⟩
 | dK kvs=> obtain⟨ys,r,e⟩:=r; exact⟨_,e,fun _ _ z=> by cases z⟩
 | dN kvs=> obtain⟨ys,r,e⟩:=r; exact⟨_,e,fun _ _ z=> by cases z⟩
theorem RO.stay{a:Ad}{H H':Hp}{α:Al}{p:Addr}{o:FO}(r:RO a H α p o)(h:∀u,H p= .some u->((∃xs,o= .fz xs)->∃ob v,u= .frz ob v)->H' p= .some u):RO a H' α p o:=by
 cases o with
 | lst xs=> obtain⟨ys,r,e⟩:=r; exact⟨ys,r,h _ e fun⟨_,z⟩=> by cases z⟩
 | fz xs=>
  obtain⟨ys,r,e⟩:=r
  refine⟨ys,r,?_⟩
  rcases e with⟨o,e⟩ | e
  .exact .inl ⟨o,h _ e fun _=> ⟨_,_,rfl⟩⟩
  .exact .inr e
 | tup xs=> obtain⟨ys,r,e⟩:=r; exact⟨ys,r,h _ e fun⟨_,z⟩=> by cases z⟩
 | ins c vs=> obtain⟨dx,fs,e1,e2,r,e⟩:=r; exact⟨dx,fs,e1,e2,r,h _ e fun⟨_,z⟩=> by cases z⟩
 | dK kvs=> obtain⟨ys,r,e⟩:=r; exact⟨ys,r,h _ e fun⟨_,z⟩=> by cases z⟩
 | dN kvs=> obtain⟨ys,r,e⟩:=r; exact⟨ys,r,h _ e fun⟨_,z⟩=> by cases z⟩
def zsy(O:FH)(i:Nat):Prop:=∀xs,O[i]?≠some (FO.fz xs)
structure Rep (a:Ad) (α:Al) (O:FH) (H:Hp):Prop where
 len:α.length=O.length
 inj:∀(i j:Nat) (p:Addr),α[i]? =some p->α[j]? =some p->zsy O i->zsy O j->i=j
 ob:∀(i:Nat) (o:FO) (p:Addr),O[i]? =some o->α[i]? =some p->RO a H α p o
section
variable {a:Ad}{α:Al}{O:FH}{H H':Hp}{p:Addr}{o:FO}{ho:HO}{i:Nat}
theorem Rep.here(R:Rep a α O H)(e:O[i]? =some o)(q:α[i]? =some p):RO a H α p o:=R.ob i o p e q
theorem Rep.same(R:Rep a α O H)(s:zxu H H'):Rep a α O H':=⟨R.len,R.inj,fun i o p e q=> (R.ob i o p e q).stay fun u z _=> s p u z⟩
theorem Rep.apart(R:Rep a α O H)(h:H p=none)(e:α[i]? =some p)(nf:zsy O i):False:=by
 have hi:i < O.length:=by rw[<- R.len]; exact (List.getElem?_eq_some_iff.mp e).1
 have eo:O[i]? =some O[i]:=List.getElem?_eq_getElem hi
 obtain⟨u,hu,_⟩:=(R.ob i O[i] p eo e).some fun xs z=> nf xs (by rw[eo,z])
 rw[h] at hu; cases hu
theorem Rep.new(R:Rep a α O H)(h:H p=none)(hs:zxu H H')(r:RO a H' (α ++ [p]) p o):Rep a (α ++ [p]) (O ++ [o]) H':=by
 have old:∀{i:Nat} {q:Addr},(α ++ [p])[i]? =some q->(i < O.length/\α[i]? =some q)\/(i=O.length/\q=p):=by
  intro i q e
  by_cases hi:i < O.length
  .rw[List.getElem?_append_left (by rw[R.len]; exact hi)] at e
   exact .inl ⟨hi,e⟩
  .have hi':i=O.length:=by
    have:=(List.getElem?_eq_some_iff.mp e).1
    simp[R.len] at this
    omega
   subst hi'
   rw[<- R.len,List.getElem?_append_right (Nat.le_refl _),Nat.sub_self] at e
   simp at e
   exact .inr ⟨rfl,e.symm⟩
 have nofz:∀{i:Nat},i < O.length->zsy (O ++ [o]) i->zsy O i:=fun hi n xs z=> n xs (by rw[List.getElem?_append_left hi]; exact z)
 refine⟨by simp[R.len],fun i j q e e' n n'=> ?_,fun i o' q e e'=> ?_⟩
 .rcases old e with⟨hi,ei⟩ |⟨hi,ei⟩ <;> rcases old e' with⟨hj,ej⟩ |⟨hj,ej⟩
  .exact R.inj i j q ei ej (nofz hi n) (nofz hj n')
  .subst ej; exact (R.apart h ei (nofz hi n)).elim
  .subst ei; exact (R.apart h ej (nofz hj n')).elim
  .rw[hi,hj]
 .rcases old e' with⟨hi,ei⟩ |⟨hi,ei⟩
  .rw[List.getElem?_append_left hi] at e
   exact ((R.ob i o' q e ei).stay fun u z _=> hs q u z).ext (List.prefix_append _ _)
  .subst hi ei
   rw[List.getElem?_append_right (Nat.le_refl _),Nat.sub_self] at e
   simp at e
   subst e
   exact r
theorem Rep.write{old:FO}(R:Rep a α O H)(he:O[i]? =some old)(hn:∀xs,old≠ .fz xs)(q:α[i]? =some p)(hs:∀b u,b≠p->H b=some u->H' b=some u)(r:RO a H' α p o):Rep a α (O.set i o) H':=by
 have hi:=(List.getElem?_eq_some_iff.mp he).1
 have ni:zsy O i:=fun xs z=> hn xs (by rw[he] at z; exact Option.some.inj z)
 obtain⟨u0,hu0,hu1⟩:=(R.ob i old p he q).some hn
 have nofz:∀{j:Nat},zsy (O.set i o) j->zsy O j:=fun {j} n xs z=> by
  by_cases hj:i=j
  .subst hj; exact ni xs z
  .exact n xs (by rw[List.getElem?_set_ne hj]; exact z)
 refine⟨by simp[R.len],fun j k b e e' n n'=> R.inj j k b e e' (nofz n) (nofz n'),fun j o' p' e e'=> ?_⟩
 by_cases hj:i=j
 .subst hj
  rw[q] at e'; cases e'
  rw[List.getElem?_set_self hi] at e
  cases e
  exact r
 .rw[List.getElem?_set_ne hj] at e
  refine (R.ob j o' p' e e').stay fun u z hz=> hs p' u (fun hp=> ?_) z
  subst hp
  by_cases hf:∃xs,o'= .fz xs
  .obtain⟨ob,v,rfl⟩:=hz hf
   rw[hu0] at z
   exact hu1 ob v (Option.some.inj z)
  .exact hj (R.inj i j _ q e' ni fun xs w=> hf ⟨xs,by rw[e] at w; exact Option.some.inj w⟩)
end
def RS(α:Al)(σ:FS)(σ':L2.St):Prop:=σ.length=σ'.length/\∀(i:Nat) v,σ[i]? =some (some v)->∃v',σ'[i]? =some (some v')/\RV α v v'
theorem RS.ext{α β:Al}{σ:FS}{σ':L2.St}(h:α <+:β)(r:RS α σ σ'):RS β σ σ':=⟨r.1,fun i v e=> let ⟨v',e',q⟩:=r.2 i v e;⟨v',e',q.ext h⟩⟩
theorem RS.set{α:Al}{σ:FS}{σ':L2.St}{i:Nat}{v:FV}{v':V}(r:RS α σ σ')(q:RV α v v'):RS α (σ.set i (some v)) (σ'.set i (some v')):=by
 refine⟨by simp[r.1],fun j u e=> ?_⟩
 by_cases hj:i=j
 .subst hj
  by_cases hi:i < σ.length
  .rw[List.getElem?_set_self hi] at e
   cases e
   exact⟨v',List.getElem?_set_self (by rw[<- r.1]; exact hi),q⟩
  .rw[List.getElem?_eq_none (by simp; omega)] at e; cases e
 .rw[List.getElem?_set_ne hj] at e |-
  exact r.2 j u e
def QE(a:Ad)(α:Al)(v:FV)(O:FH)(Q:VK):Prop:=∀(β:Al) (H:Hp) (v':V),α <+:β->Rep a β O H->RV β v v'->Q v' H
def QT(a:Ad)(α:Al)(b:Bool)(O:FH)(Q:Bool->Hp->Prop):Prop:=∀(β:Al) (H:Hp),α <+:β->Rep a β O H->Q b H
def QA(a:Ad)(α:Al)(vs:List FV)(O:FH)(Q:List V->Hp->Prop):Prop:=∀(β:Al) (H:Hp) (vs':List V),α <+:β->Rep a β O H->RVs β vs vs'->Q vs' H
def QO(a:Ad)(α:Al)(r:Out)(O:FH)(D:Ends):Prop:=∀(β:Al) (H:Hp),α <+:β->Rep a β O H->match r with
 | .nx σ=>∀σ',RS β σ σ'->D.nx σ' H
 | .rt v=>∀v',RV β v v'->D.rt v' H
def TF(a:Ad)(m:ME):TE:=fun σ' H Q=>∃α σ O v O',RS α σ σ'/\Rep a α O H/\m σ O=some (v,O')/\QE a α v O' Q
def TFt(a:Ad)(m:MT):TT:=fun σ' H Q=>∃α σ O v O',RS α σ σ'/\Rep a α O H/\m σ O=some (v,O')/\QT a α v O' Q
def TFa(a:Ad)(m:MA):TA:=fun σ' H Q=>∃α σ O v O',RS α σ σ'/\Rep a α O H/\m σ O=some (v,O')/\QA a α v O' Q
def TFs(a:Ad)(m:MS):L2.TS:=fun D σ' H=>∃α σ O r O',RS α σ σ'/\Rep a α O H/\m σ O=some (r,O')/\QO a α r O' D
def SpF(a:Ad)(m:MF):Sp:=fun vs' H Q _=>∃α vs O v O',RVs α vs vs'/\Rep a α O H/\m vs O=some (v,O')/\QE a α v O' Q
theorem TF.el{a:Ad}{m:ME}{σ':L2.St}{H:Hp}{Q:VK}{P:Prop}(h:TF a m σ' H Q)(k:∀α σ O v O',RS α σ σ'->Rep a α O H->m σ O=some (v,O')->QE a α v O' Q->P):P:=by
 obtain⟨α,σ,O,v,O',h1,h2,h3,h4⟩:=h
 exact k α σ O v O' h1 h2 h3 h4
theorem TFt.el{a:Ad}{m:MT}{σ':L2.St}{H:Hp}{Q:Bool->Hp->Prop}{P:Prop}(h:TFt a m σ' H Q)(k:∀α σ O v O',RS α σ σ'->Rep a α O H->m σ O=some (v,O')->QT a α v O' Q->P):P:=by
 obtain⟨α,σ,O,v,O',h1,h2,h3,h4⟩:=h
 exact k α σ O v O' h1 h2 h3 h4
theorem TFa.el{a:Ad}{m:MA}{σ':L2.St}{H:Hp}{Q:List V->Hp->Prop}{P:Prop}(h:TFa a m σ' H Q)(k:∀α σ O v O',RS α σ σ'->Rep a α O H->m σ O=some (v,O')->QA a α v O' Q->P):P:=by
 obtain⟨α,σ,O,v,O',h1,h2,h3,h4⟩:=h
 exact k α σ O v O' h1 h2 h3 h4
theorem TFs.el{a:Ad}{m:MS}{σ':L2.St}{H:Hp}{Q:Ends}{P:Prop}(h:TFs a m Q σ' H)(k:∀α σ O v O',RS α σ σ'->Rep a α O H->m σ O=some (v,O')->QO a α v O' Q->P):P:=by
 obtain⟨α,σ,O,v,O',h1,h2,h3,h4⟩:=h
 exact k α σ O v O' h1 h2 h3 h4
theorem zd7{α:Al}:α <+:α:=List.prefix_refl _
theorem QE.ext{a:Ad}{α β:Al}{v:FV}{O:FH}{Q:VK}(h:α <+:β)(q:QE a α v O Q):QE a β v O Q:=fun γ H v' p=> q γ H v' (h.trans p)
theorem QT.ext{a:Ad}{α β:Al}{v:Bool}{O:FH}{Q:Bool->Hp->Prop}(h:α <+:β)(q:QT a α v O Q):QT a β v O Q:=fun γ H p=> q γ H (h.trans p)
theorem QO.ext{a:Ad}{α β:Al}{r:Out}{O:FH}{D:Ends}(h:α <+:β)(q:QO a α r O D):QO a β r O D:=fun γ H p=> q γ H (h.trans p)
theorem bnd{α β:Type}{x:Option α}{f:α->Option β}{b:β}(h:x.bind f=some b):∃y,x=some y/\f y=some b:=by
 cases x with
 | none=> cases h
 | some y=> exact⟨y,rfl,h⟩
end
end TS
namespace TS
noncomputable section
open PySem PySem.Spec PyProof.Rows L2
section
variable {X:Cx}{a:Ad}{e ea eb ec o:Expr}{es rest:List Expr}{m ma mb mc:ME}{t ta tb:MT}{mar:MA}{pos p pos':Pos}{f x:Str}{n:Int}{c k i:Nat}
theorem q_c{v:V}{u:FV}(h:PE X e (tC v))(hv:∀α,RV α u v):PE X e (TF a (eC u)):=fun pins s σ' H Q I h0=> TF.el h0 fun α σ O w' O' hs hR hm q=> by
 cases hm
 exact h pins s σ' H Q I (q α H v zd7 hR (hv α))
theorem zaj{i:Int}{j}:PE X (.Constant (.int i) j pos) (TF a (eC (.int i))):=q_c zf1 fun _=> rfl
theorem zhq{b:Bool}{j}:PE X (.Constant (.bool b) j pos) (TF a (eC (.bl b))):=q_c zx5 fun _=> rfl
theorem zh1{j}:PE X (.Constant .none j pos) (TF a (eC .non)):=q_c zr9 fun _=> rfl
theorem zbn(h:GI X.mg x n)(hg:Gl X x:=by rfl)(hd:(x==("__debug__":Str))=false:=by decide):PE X (.Name x pos) (TF a (eC (.int n))):=q_c (zc5 h hg hd) fun _=> rfl
theorem zir(h:PE X e (TF a (eC (.int n)))):PE X (.UnaryOp .USub e pos) (TF a (eC (.int (-n)))):=fun pins s σ' H Q I h0=> TF.el h0 fun α σ O w' O' hs hR hm q=> by
 cases hm
 exact zxZ zuP h pins s σ' H Q I ⟨α,σ,O,_,_,hs,hR,rfl,fun β H1 v' p R r=> ⟨n,r,q β H1 _ p R rfl⟩⟩
theorem q_v(i:Nat){x:Str}{pos:Pos}(hN:X.N[i]? =some x:=by rfl)(hv:Vis X.env.scope x:=by first | exact Or.inl rfl | exact Or.inr (Or.inl rfl) | exact Or.inr (Or.inr rfl))(hd:(x==("__debug__":Str))=false:=by decide)
  (hcd:(x==("__classdict__":Str))=false:=by decide):PE X (.Name x pos) (TF a (eV i)):=fun pins s σ' H Q I h0=> TF.el h0 fun α σ O w' O' hs hR hm q=> by
 unfold eV at hm
 cases h:σ[i]? with
 | none=> rw[h] at hm; cases hm
 | some z=>
  cases z with
  | none=> rw[h] at hm; cases hm
  | some v=>
   rw[h] at hm; cases hm
   obtain⟨v',e',r⟩:=hs.2 i _ h
   exact pv i hN hv hd hcd pins s σ' H Q I ⟨v',e',q α H v' zd7 hR r⟩
theorem zpf:∀{fs:List (Str×V)} {k:Nat} {f:Str} {v:V},(fs.map (·.1)).Nodup->fs[k]? =some (f,v)->fs.lookup f=some v
 | [],k,f,v,_,e=> by simp at e
 | p::r,0,f,v,_,e=> by simp at e; subst e; simp[List.lookup]
 | p::r,k + 1,f,v,hn,e=> by
  rw[List.map_cons,List.nodup_cons] at hn
  have e':r[k]? =some (f,v):=by simpa using e
  have hne:(f==p.1)=false:=by
   rw[beq_eq_false_iff_ne]
   rintro rfl
   exact hn.1 (List.mem_map.mpr ⟨_,List.mem_of_getElem? e',rfl⟩)
  obtain⟨p1,p2⟩:=p
  rw[List.lookup_cons]
  simp only[hne]
  exact zpf hn.2 e'
theorem zlR{c n:Nat}:((nms c).take n).Nodup:=List.Nodup.sublist (List.take_sublist _ _) (zsd c)
theorem znf{α:Al}{c k:Nat}{fs:List (Str×V)}{vs:List FV}{v:FV}{f:Str}(e1:fs.map (·.1)=(nms c).take vs.length)(r:RVs α vs (fs.map (·.2)))(hv:vs[k]? =some v)(hf:(nms c)[k]? =some f):∃v',fs.lookup f=some v'/\RV α v v'/\fs[k]? =some (f,v'):=by
 obtain⟨v',h1,h2⟩:=r.get hv
 rw[List.getElem?_map] at h1
 obtain⟨⟨g,w'⟩,h3,h4⟩:=Option.map_eq_some_iff.mp h1
 have hk:k < vs.length:=(List.getElem?_eq_some_iff.mp hv).1
 have h5:(fs.map (·.1))[k]? =some g:=by rw[List.getElem?_map,h3]; rfl
 rw[e1,List.getElem?_take_of_lt hk,hf] at h5
 cases h5
 cases h4
 exact⟨w',zpf (by rw[e1]; exact zlR) h3,h2,h3⟩
theorem zpy{O:FH}{v u:FV}(h:fld O v c k=some u):∃j vs,v= .ref j/\O[j]? =some (.ins c vs)/\vs[k]? =some u:=by
 unfold fld at h
 split at h
 .split at h
  .split at h
   .rename_i hc; subst hc; exact⟨_,_,rfl,by assumption,h⟩
   .cases h
  .cases h
 .cases h
theorem zaz(c k:Nat)(he:PE X e (TF a m))(hb:attributeBase e f X.env (eval e X.env)=eval e X.env)(cl:Cls X.K (a c))(na:NoAttr X.K (a c) f)(hf:(nms c)[k]? =some f:=by rfl):PE X (.Attribute e f pos) (TF a (eFld c k m)):=fun pins s σ' H Q I h0=> TF.el h0 fun α σ O w' O' hs hR hm q=> by
 obtain⟨⟨v,O1⟩,h1,hm⟩:=bnd hm
 obtain⟨u,h2,hm⟩:=bnd hm
 cases hm
 obtain⟨j,vs,rfl,h3,h4⟩:=zpy h2
 refine zvB he hb pins s σ' H Q I ⟨α,σ,O,_,O1,hs,hR,h1,fun β H1 v' p R r=> ?_⟩
 obtain⟨pa,e1,rfl⟩:=r
 obtain⟨dx,fs,g1,g2,g3,g4⟩:=R.here h3 e1
 obtain⟨u',l1,l2,_⟩:=znf g1 g3 h4 hf
 exact⟨pa,a c,dx,fs,u',rfl,g4,cl,na,l1,q β H1 u' p R l2⟩
def OpM(X:Cx)(F:Operator->Value->Value->Sem Value)(op:Operator)(f:Int->Int->Option FV):Prop:=∃(C:Int->Int->Prop) (g:Int->Int->V),OpR X (F op) (rI C g)/\∀i j v,f i j=some v->C i j/\∀α,RV α v (g i j)
theorem zks{f:Int->Int->Option FV}{u v w:FV}(h:op2 f u v=some w):∃i j,u= .int i/\v= .int j/\f i j=some w:=by
 unfold op2 at h
 split at h
 .exact⟨_,_,rfl,rfl,h⟩
 .cases h
theorem zdk{op:Operator}{g:Int->Int->Option FV}(ho:OpM X binaryOp op g)(ha:PE X ea (TF a ma))(hb:PE X eb (TF a mb)):PE X (.BinOp ea op eb pos) (TF a (eOp g ma mb)):=fun pins s σ' H Q I h0=> TF.el h0 fun α σ O w' O' hs hR hm q=> by
 obtain⟨C,gv,ho,hc⟩:=ho
 obtain⟨⟨v,O1⟩,h1,hm⟩:=bnd hm
 obtain⟨⟨u,O2⟩,h2,hm⟩:=bnd hm
 obtain⟨z,h3,hm⟩:=bnd hm
 cases hm
 obtain⟨i,j,rfl,rfl,h4⟩:=zks h3
 obtain⟨c1,c2⟩:=hc i j _ h4
 refine zvv ho ha hb pins s σ' H Q I ⟨α,σ,O,_,O1,hs,hR,h1,fun β H1 v' p R r=> ⟨β,σ,O1,_,O2,hs.ext p,R,h2,fun γ H2 u' p2 R2 r2=> ?_⟩⟩
 cases r; cases r2
 exact⟨i,j,rfl,rfl,c1,q γ H2 _ (p.trans p2) R2 (c2 γ)⟩
theorem ziV{r:Value->Value->Sem Value}{g:Int->Int->V}(h:OpR X r (rI0 g)):OpR X r (rI (fun _ _=> True) g):=by
 rintro pins s σ H x y u v Q I rx ry ⟨i,j,e1,e2,_,q⟩
 exact h pins s σ H x y u v Q I rx ry ⟨i,j,e1,e2,q⟩
theorem zog{i j:Int}(hi:0<=i)(hj:0<=j):Builtin.bitAnd i j=((i.toNat &&& j.toNat:Nat):Int):=by
 obtain⟨n,rfl⟩:=Int.eq_ofNat_of_zero_le hi
 obtain⟨m,rfl⟩:=Int.eq_ofNat_of_zero_le hj
 rfl
theorem zlE{i j:Int}(hi:0<=i)(hj:0<=j):Builtin.bitOr i j=((i.toNat ||| j.toNat:Nat):Int):=by
 have e1:decide (0<=Builtin.bitNot i)=false:=decide_eq_false (by unfold Builtin.bitNot; omega)
 have e2:decide (0<=Builtin.bitNot j)=false:=decide_eq_false (by unfold Builtin.bitNot; omega)
 have e3:Builtin.bitNot (Builtin.bitNot i)=i:=by unfold Builtin.bitNot; omega
 have e4:Builtin.bitNot (Builtin.bitNot j)=j:=by unfold Builtin.bitNot; omega
 unfold Builtin.bitOr Builtin.bitAnd
 rw[e1,e2]
 simp only[e3,e4]
 unfold Builtin.bitNot
 omega
theorem zg9:OpM X binaryOp .Add iAdd:=⟨_,_,ziV zvQ,fun i j v h=> by cases h; exact⟨trivial,fun _=> rfl⟩⟩
theorem zqH:OpM X binaryOp .Sub iSub:=⟨_,_,ziV zvI,fun i j v h=> by cases h; exact⟨trivial,fun _=> rfl⟩⟩
theorem zqI:OpM X binaryOp .Mult iMulR:=⟨_,_,zsc,fun i j v h=> by
 unfold iMulR at h; split at h
 .cases h; exact⟨.inr (by assumption),fun _=> rfl⟩
 .cases h⟩
theorem zxW:OpM X binaryOp .Mult iMulL:=⟨_,_,zsc,fun i j v h=> by
 unfold iMulL at h; split at h
 .cases h; exact⟨.inl (by assumption),fun _=> rfl⟩
 .cases h⟩
theorem zuK:OpM X binaryOp .FloorDiv iDiv:=⟨_,_,ztk,fun i j v h=> by
 unfold iDiv at h; split at h
 .cases h; exact⟨by assumption,fun _=> rfl⟩
 .cases h⟩
theorem zuJ:OpM X binaryOp .Mod iMod:=⟨_,_,zvK,fun i j v h=> by
 unfold iMod at h; split at h
 .cases h; exact⟨by assumption,fun _=> rfl⟩
 .cases h⟩
theorem zxX:OpM X binaryOp .BitAnd iAnd:=⟨_,_,ziV zvP,fun i j v h=> by
 unfold iAnd at h; split at h
 .rename_i hc; cases h; exact⟨trivial,fun _=> by rw[zog hc.1 hc.2]; rfl⟩
 .cases h⟩
theorem qOr:OpM X binaryOp .BitOr iOr:=⟨_,_,ziV zx6,fun i j v h=> by
 unfold iOr at h; split at h
 .rename_i hc; cases h; exact⟨trivial,fun _=> by rw[zlE hc.1 hc.2]; rfl⟩
 .cases h⟩
theorem zxo:OpM X inplaceOp .BitOr iOr:=⟨_,_,ziV zv4,fun i j v h=> by
 unfold iOr at h; split at h
 .rename_i hc; cases h; exact⟨trivial,fun _=> by rw[zlE hc.1 hc.2]; rfl⟩
 .cases h⟩
theorem zk1:OpM X inplaceOp .Add iAdd:=⟨_,_,ziV ztB,fun i j v h=> by cases h; exact⟨trivial,fun _=> rfl⟩⟩
theorem zxO:OpM X inplaceOp .Sub iSub:=⟨_,_,ziV ztA,fun i j v h=> by cases h; exact⟨trivial,fun _=> rfl⟩⟩
theorem zzd:OpM X binaryOp .RShift iShr:=⟨_,_,zvJ,fun i j v h=> by
 unfold iShr at h; split at h
 .rename_i hc; cases h
  refine⟨hc.2,fun _=> ?_⟩
  obtain⟨n,rfl⟩:=Int.eq_ofNat_of_zero_le hc.1
  show V.int ((n:Int) / 2 ^ j.toNat)=V.int (((n:Int).toNat >>> j.toNat:Nat):Int)
  rw[Nat.shiftRight_eq_div_pow]
  simp
 .cases h⟩
def zzx(i j:Int):Prop:=0<=i/\i < 2 ^ 200/\0<=j/\j<=200
theorem ztj:OpR X (binaryOp .LShift) (rI zzx fun i j=> .int (i * 2 ^ j.toNat)):=opI fun i j _ _ _ _ _ hc q=> lshift_int hc.2.2.1 (by
 have hb:Builtin.Int.intBits i<=200:=by
  unfold Builtin.Int.intBits
  split
  .omega
  .rename_i hi
   have hi0:i.natAbs≠0:=by
    intro z
    have:i=0:=by omega
    rw[this] at hi
    exact hi rfl
   have h1:i.natAbs < 2 ^ 200:=by
    have:=hc.1; have:=hc.2.1
    have e:((i.natAbs:Nat):Int)=i:=by omega
    have:((i.natAbs:Nat):Int) < ((2 ^ 200:Nat):Int):=by rw[e]; exact hc.2.1
    exact Int.ofNat_lt.mp this
   have:=(Nat.log2_lt hi0).mpr h1
   omega
 have:=hc.2.2.2
 omega) q
theorem zxp:OpM X binaryOp .LShift iShl:=⟨_,_,ztj,fun i j v h=> by
 unfold iShl at h; split at h
 .rename_i hc; cases h
  refine⟨hc,fun _=> ?_⟩
  obtain⟨n,rfl⟩:=Int.eq_ofNat_of_zero_le hc.1
  show V.int ((n:Int) * 2 ^ j.toNat)=V.int (((n:Int).toNat <<< j.toNat:Nat):Int)
  rw[Nat.shiftLeft_eq]
  simp
 .cases h⟩
theorem zmJ{g:Int->Int->Bool}{σ:FS}{O O':FH}{b:Bool}(h:tCmp g ma mb σ O=some (b,O')):∃i j O1,ma σ O=some (.int i,O1)/\mb σ O1=some (.int j,O')/\b=g i j:=by
 obtain⟨⟨v,O1⟩,h1,h⟩:=bnd h
 obtain⟨⟨u,O2⟩,h2,h⟩:=bnd h
 dsimp only at h
 split at h
 .simp only[Option.some.injEq,Prod.mk.injEq] at h
  dsimp only at *
  subst_vars
  obtain⟨rfl,rfl⟩:=h
  exact⟨_,_,O1,h1,h2,rfl⟩
 .cases h
theorem zk0{op:CmpOp}{g:Int->Int->Bool}(ho:OpR X (compareOp op) (rI0 fun i j=> .bl (g i j)))(ha:PE X ea (TF a ma))(hb:PE X eb (TF a mb))(hm:behindInMarks op eb=false):PT X (.Compare ea [op] [eb] pos) (TFt a (tCmp g ma mb)):=fun pins s σ' H Q I h0=> TFt.el h0 fun α σ O w' O' hs hR hm' q=> by
 obtain⟨i,j,O1,h1,h2,rfl⟩:=zmJ hm'
 refine zkq ho ha hb hm pins s σ' H Q I ⟨α,σ,O,_,O1,hs,hR,h1,fun β H1 v' p R r=> ⟨β,σ,O1,_,O',hs.ext p,R,h2,fun γ H2 u' p2 R2 r2=> ?_⟩⟩
 cases r; cases r2
 exact⟨i,j,rfl,rfl,_,rfl,q γ H2 (p.trans p2) R2⟩
theorem zoK{op:CmpOp}{g:Int->Int->Bool}(ho:OpR X (compareOp op) (rI0 fun i j=> .bl (g i j)))(ha:PE X ea (TF a ma))(hb:PE X eb (TF a mb))(hm:behindInMarks op eb=false):PE X (.Compare ea [op] [eb] pos) (TF a (eB (tCmp g ma mb))):=fun pins s σ' H Q I h0=> TF.el h0 fun α σ O w' O' hs hR hm' q=> by
 obtain⟨⟨b,O2⟩,h,hm'⟩:=bnd hm'
 cases hm'
 obtain⟨i,j,O1,h1,h2,rfl⟩:=zmJ h
 refine zo1 ho ha hb hm pins s σ' H Q I ⟨α,σ,O,_,O1,hs,hR,h1,fun β H1 v' p R r=> ⟨β,σ,O1,_,_,hs.ext p,R,h2,fun γ H2 u' p2 R2 r2=> ?_⟩⟩
 cases r; cases r2
 exact⟨i,j,rfl,rfl,q γ H2 _ (p.trans p2) R2 rfl⟩
theorem opE:OpR X (compareOp .Eq) (rI0 fun i j=> .bl (cEq i j)):=by
 rintro pins s σ H x y u v Q I rx ry ⟨i,j,rfl,rfl,q⟩
 refine zvN pins s σ H _ _ u v Q I rx ry ⟨rfl,?_⟩
 rw[show decide (V.int i=V.int j)=cEq i j by unfold cEq; by_cases h:i=j <;> simp[h]]
 exact q
theorem opN:OpR X (compareOp .NotEq) (rI0 fun i j=> .bl (cNe i j)):=by
 rintro pins s σ H x y u v Q I rx ry ⟨i,j,rfl,rfl,q⟩
 refine zx7 pins s σ H _ _ u v Q I rx ry ⟨rfl,?_⟩
 rw[show (!decide (V.int i=V.int j))=cNe i j by unfold cNe; by_cases h:i=j <;> simp[h]]
 exact q
theorem zbe(ha:PE X ea (TF a ma))(hb:PE X eb (TF a mb)):PT X (.Compare ea [.Eq] [eb] pos) (TFt a (tCmp cEq ma mb)):=zk0 opE ha hb (zha _)
theorem znF(ha:PE X ea (TF a ma))(hb:PE X eb (TF a mb)):PT X (.Compare ea [.NotEq] [eb] pos) (TFt a (tCmp cNe ma mb)):=zk0 opN ha hb (zha _)
theorem zjD(ha:PE X ea (TF a ma))(hb:PE X eb (TF a mb)):PT X (.Compare ea [.Lt] [eb] pos) (TFt a (tCmp cLt ma mb)):=zk0 zx8 ha hb (zha _)
theorem zlX(ha:PE X ea (TF a ma))(hb:PE X eb (TF a mb)):PT X (.Compare ea [.Gt] [eb] pos) (TFt a (tCmp cGt ma mb)):=zk0 zx9 ha hb (zha _)
theorem zxN(ha:PE X ea (TF a ma))(hb:PE X eb (TF a mb)):PT X (.Compare ea [.GtE] [eb] pos) (TFt a (tCmp cGe ma mb)):=zk0 zvL ha hb (zha _)
theorem zkZ(ha:PE X ea (TF a ma))(hb:PE X eb (TF a mb)):PE X (.Compare ea [.Eq] [eb] pos) (TF a (eB (tCmp cEq ma mb))):=zoK opE ha hb (zha _)
theorem zqD(ha:PE X ea (TF a ma))(hb:PE X eb (TF a mb)):PE X (.Compare ea [.NotEq] [eb] pos) (TF a (eB (tCmp cNe ma mb))):=zoK opN ha hb (zha _)
theorem zxM(ha:PE X ea (TF a ma))(hb:PE X eb (TF a mb)):PE X (.Compare ea [.GtE] [eb] pos) (TF a (eB (tCmp cGe ma mb))):=zoK zvL ha hb (zha _)
theorem zmH{σ:FS}{O O':FH}{b:Bool}(h:tLe3 n ma mb σ O=some (b,O')):∃i j O1,ma σ O=some (.int i,O1)/\mb σ O1=some (.int j,O')/\b=decide (i<=j/\j<=n):=by
 obtain⟨⟨v,O1⟩,h1,h⟩:=bnd h
 obtain⟨⟨u,O2⟩,h2,h⟩:=bnd h
 dsimp only at h
 split at h
 .simp only[Option.some.injEq,Prod.mk.injEq] at h
  dsimp only at *
  subst_vars
  obtain⟨rfl,rfl⟩:=h
  exact⟨_,_,O1,h1,h2,rfl⟩
 .cases h
theorem zig(n:Int)(ha:PE X ea (TF a ma))(hb:PE X eb (TF a mb))(hc:PE X ec (tC (.int n)))(hm:lastMarks [.LtE,.LtE] [eb,ec]=false:=by with_unfolding_all rfl):PT X (.Compare ea [.LtE,.LtE] [eb,ec] pos) (TFt a (tLe3 n ma mb)):=fun pins s σ' H Q I h0=> TFt.el h0 fun α σ O w' O' hs hR hm' q=> by
 obtain⟨i,j,O1,h1,h2,rfl⟩:=zmH hm'
 refine zvm ha hb hc hm pins s σ' H Q I ⟨α,σ,O,_,O1,hs,hR,h1,fun β H1 v' p R r=> ⟨β,σ,O1,_,O',hs.ext p,R,h2,fun γ H2 u' p2 R2 r2=> ?_⟩⟩
 cases r; cases r2
 exact⟨i,j,rfl,rfl,q γ H2 (p.trans p2) R2⟩
theorem zoL(n:Int)(ha:PE X ea (TF a ma))(hb:PE X eb (TF a mb))(hc:PE X ec (tC (.int n)))(hm:lastMarks [.LtE,.LtE] [eb,ec]=false:=by with_unfolding_all rfl):PE X (.Compare ea [.LtE,.LtE] [eb,ec] pos) (TF a (eB (tLe3 n ma mb))):=fun pins s σ' H Q I h0=> TF.el h0 fun α σ O w' O' hs hR hm' q=> by
 obtain⟨⟨b,O2⟩,h,hm'⟩:=bnd hm'
 cases hm'
 obtain⟨i,j,O1,h1,h2,rfl⟩:=zmH h
 refine zvz ha hb hc hm pins s σ' H Q I ⟨α,σ,O,_,O1,hs,hR,h1,fun β H1 v' p R r=> ⟨β,σ,O1,_,_,hs.ext p,R,h2,fun γ H2 u' p2 R2 r2=> ?_⟩⟩
 cases r; cases r2
 exact⟨i,j,rfl,rfl,q γ H2 _ (p.trans p2) R2 rfl⟩
theorem zoy{σ:FS}{O O':FH}{b:Bool}(h:tLe3F ma mb mc σ O=some (b,O')):∃i j k O1,ma σ O=some (.int i,O1)/\mb σ O1=some (.int j,O')/\mc σ O'=some (.int k,O')/\b=decide (i<=j/\j<=k):=by
 simp only[tLe3F,Option.bind_eq_some_iff] at h
 obtain⟨⟨v,O1⟩,h1,⟨u,O2⟩,h2,⟨w,O3⟩,h3,h⟩:=h
 dsimp only at h h1 h2 h3
 cases v <;> cases u <;> cases w <;> simp only[reduceCtorEq] at h
 split at h
 case isFalse=> cases h
 rename_i hO
 subst hO
 simp only[Option.some.injEq,Prod.mk.injEq] at h
 obtain⟨rfl,rfl⟩:=h
 exact⟨_,_,_,O1,h1,h2,h3,rfl⟩
theorem zsU(ha:PE X ea (TF a ma))(hb:PE X eb (TF a mb))(hc:PE X ec (TF a mc))(hm:lastMarks [.LtE,.LtE] [eb,ec]=false:=by with_unfolding_all rfl):PT X (.Compare ea [.LtE,.LtE] [eb,ec] pos) (TFt a (tLe3F ma mb mc)):=fun pins s σ' H Q I h0=> TFt.el h0 fun α σ O w' O' hs hR hm' q=> by
 obtain⟨i,j,k,O1,h1,h2,h3,rfl⟩:=zoy hm'
 refine zqK znJ znJ ha hb hc hm pins s σ' H Q I ⟨α,σ,O,_,O1,hs,hR,h1,fun β H1 v' p R r=> ⟨β,σ,O1,_,_,hs.ext p,R,h2,fun γ H2 u' p2 R2 r2=> ?_⟩⟩
 cases r; cases r2
 refine⟨i,j,rfl,rfl,decide (i<=j),rfl,?_⟩
 by_cases hij:i<=j
 .rw[decide_eq_true hij,if_pos rfl]
  refine⟨γ,σ,O',_,O',(hs.ext p).ext p2,R2,h3,fun δ H3 w' p3 R3 r3=> ?_⟩
  cases r3
  refine⟨j,k,rfl,rfl,decide (j<=k),rfl,?_⟩
  have:=q δ H3 ((p.trans p2).trans p3) R3
  rw[show decide (i<=j/\j<=k)=decide (j<=k) by simp[hij]] at this
  exact this
 .rw[decide_eq_false hij,if_neg Bool.false_ne_true]
  refine⟨false,rfl,?_⟩
  have:=q γ H2 (p.trans p2) R2
  rw[show decide (i<=j/\j<=k)=false by simp[hij]] at this
  exact this
theorem zdl{v:FV}{i:Int}(h:intOf v=some i):v= .int i:=by
 unfold intOf at h; split at h
 .cases h; rfl
 .cases h
theorem zhN{v:FV}{i:Bool}(h:blOf v=some i):v= .bl i:=by
 unfold blOf at h; split at h
 .cases h; rfl
 .cases h
theorem zkn{ns:List Int}{x1}{tpos:Pos}(ha:PE X ea (TF a ma))(hk:PA X es (tKs ns))(hl:ns.length<=1000:=by decide):PT X (.Compare ea [.In] [.Tuple es x1 tpos] pos) (TFt a (tIn ns ma)):=fun pins s σ' H Q I h0=> TFt.el h0 fun α σ O w' O' hs hR hm' q=> by
 obtain⟨⟨v,O1⟩,h1,h⟩:=bnd hm'
 obtain⟨i,h2,h⟩:=bnd h
 cases h
 cases zdl h2
 refine zvn ha hk hl pins s σ' H Q I ⟨α,σ,O,_,O1,hs,hR,h1,fun β H1 v' p R r=> ?_⟩
 cases r
 exact⟨i,rfl,fun H' sm=> ⟨_,rfl,q β H' p (R.same sm)⟩⟩
theorem zsT{ns:List Int}{x1}{tpos:Pos}(ha:PE X ea (TF a ma))(hk:PA X es (tKs ns))(hl:ns.length<=1000:=by decide):PE X (.Compare ea [.In] [.Tuple es x1 tpos] pos) (TF a (eB (tIn ns ma))):=fun pins s σ' H Q I h0=> TF.el h0 fun α σ O w' O' hs hR hm' q=> by
 obtain⟨⟨b,O2⟩,h,hm'⟩:=bnd hm'
 cases hm'
 obtain⟨⟨v,O1⟩,h1,h⟩:=bnd h
 obtain⟨i,h2,h⟩:=bnd h
 cases h
 cases zdl h2
 refine zvA ha hk hl pins s σ' H Q I ⟨α,σ,O,_,O1,hs,hR,h1,fun β H1 v' p R r=> ?_⟩
 cases r
 exact⟨i,rfl,fun H' sm=> q β H' _ p (R.same sm) rfl⟩
theorem zu8{ns:List Int}{x1}{tpos:Pos}(ha:PE X ea (TF a ma))(hk:PA X es (tKs ns))(hl:ns.length<=1000:=by decide):PE X (.Compare ea [.NotIn] [.Tuple es x1 tpos] pos) (TF a (eB (tNin ns ma))):=fun pins s σ' H Q I h0=> TF.el h0 fun α σ O w' O' hs hR hm' q=> by
 obtain⟨⟨b,O2⟩,h,hm'⟩:=bnd hm'
 cases hm'
 obtain⟨⟨v,O1⟩,h1,h⟩:=bnd h
 obtain⟨i,h2,h⟩:=bnd h
 cases h
 cases zdl h2
 refine ztd ha hk hl pins s σ' H Q I ⟨α,σ,O,_,O1,hs,hR,h1,fun β H1 v' p R r=> ?_⟩
 cases r
 exact⟨i,rfl,fun H' sm=> q β H' _ p (R.same sm) rfl⟩
theorem RV.non_iff{α:Al}{v:FV}{v':V}(r:RV α v v'):decide (v'=V.non)=decide (v=FV.non):=by
 cases v with
 | non=> cases r; rfl
 | bl _=> cases r; rfl
 | int _=> cases r; rfl
 | str _=> obtain⟨x,rfl,_⟩:=r; rfl
 | ref _=> obtain⟨x,_,rfl⟩:=r; rfl
theorem zih{j}{p2:Pos}(ha:PE X ea (TF a ma)):PT X (.Compare ea [.Is] [.Constant .none j p2] pos) (TFt a (zmI ma)):=fun pins s σ' H Q I h0=> TFt.el h0 fun α σ O w' O' hs hR hm' q=> by
 obtain⟨⟨v,O1⟩,h1,h⟩:=bnd hm'
 cases h
 refine zmW (zvH ha) (zkw _ (by decide) (by decide)) pins s σ' H Q I ⟨α,σ,O,_,O1,hs,hR,h1,fun β H1 v' p R r=> ⟨_,rfl,?_⟩⟩
 rw[r.non_iff]
 exact q β H1 p R
theorem zdn(ha:PE X ea (TF a ma))(he:∀whole,isTrue ea X.env whole=(do let v <- whole; standAt ea.pos; holding [v] (truthy v)):=by intro _; rfl):PT X ea (TFt a (tVal ma)):=fun pins s σ' H Q I h0=> TFt.el h0 fun α σ O w' O' hs hR hm' q=> by
 obtain⟨⟨v,O1⟩,h1,h⟩:=bnd hm'
 obtain⟨i,h2,h⟩:=bnd h
 cases h
 cases zhN h2
 refine zvj ha he pins s σ' H Q I ⟨α,σ,O,_,O1,hs,hR,h1,fun β H1 v' p R r=> ?_⟩
 cases r
 exact⟨_,rfl,q β H1 p R⟩
theorem zfx(ha:PT X ea (TFt a ta)):PT X (.UnaryOp .Not ea pos) (TFt a (zkR ta)):=fun pins s σ' H Q I h0=> TFt.el h0 fun α σ O w' O' hs hR hm' q=> by
 obtain⟨⟨v,O1⟩,h1,h⟩:=bnd hm'
 cases h
 exact zvl ha pins s σ' H Q I ⟨α,σ,O,_,O1,hs,hR,h1,fun β H1 p R=> q β H1 p R⟩
theorem zkS(h:PW X ea (TFt a ta)):PT X ea (TFt a ta):=h.pt
theorem zd6(ha:PT X ea (TFt a ta)):PW X (.BoolOp .And [ea] pos) (TFt a ta):=zs5 ha
theorem zmQ(ha:PT X ea (TFt a ta)):PW X (.BoolOp .Or [ea] pos) (TFt a ta):=zvg ha
theorem zeM(ha:PT X ea (TFt a ta))(hb:PW X (.BoolOp .And (eb::rest) pos) (TFt a tb)):PW X (.BoolOp .And (ea::eb::rest) pos) (TFt a (ziy ta tb)):=fun wh pins s σ' H Q I ⟨α,σ,O,w',O',hs,hR,hm',q⟩=> by
 obtain⟨⟨v,O1⟩,h1,h⟩:=bnd hm'
 refine zvh ha hb wh pins s σ' H Q I ⟨α,σ,O,_,O1,hs,hR,h1,fun β H1 p R=> ?_⟩
 cases v with
 | true=> exact zty ⟨β,σ,O1,_,_,hs.ext p,R,h,q.ext p⟩
 | false=> cases h; exact ztz (q β H1 p R)
theorem zqC(ha:PT X ea (TFt a ta))(hb:PW X (.BoolOp .Or (eb::rest) pos) (TFt a tb)):PW X (.BoolOp .Or (ea::eb::rest) pos) (TFt a (tOr ta tb)):=fun wh pins s σ' H Q I ⟨α,σ,O,w',O',hs,hR,hm',q⟩=> by
 obtain⟨⟨v,O1⟩,h1,h⟩:=bnd hm'
 refine zxY ha hb wh pins s σ' H Q I ⟨α,σ,O,_,O1,hs,hR,h1,fun β H1 p R=> ?_⟩
 cases v with
 | true=> cases h; exact zty (q β H1 p R)
 | false=> exact ztz ⟨β,σ,O1,_,_,hs.ext p,R,h,q.ext p⟩
theorem zlY{op}(h:PE X ea (TF a ma)):PE X (.BoolOp op [ea] pos) (TF a ma):=zvw h
theorem zqG(ha:PE X ea (TF a ma))(hb:PE X (.BoolOp .And (eb::rest) pos) (TF a mb)):PE X (.BoolOp .And (ea::eb::rest) pos) (TF a (eAnd ma mb)):=fun pins s σ' H Q I h0=> TF.el h0 fun α σ O w' O' hs hR hm' q=> by
 obtain⟨⟨v,O1⟩,h1,h⟩:=bnd hm'
 obtain⟨b,h2,h⟩:=bnd h
 cases zhN h2
 refine zvG ha hb pins s σ' H Q I ⟨α,σ,O,_,O1,hs,hR,h1,fun β H1 v' p R r=> ⟨b,r,?_⟩⟩
 cases b with
 | true=> exact zty ⟨β,σ,O1,_,_,hs.ext p,R,h,q.ext p⟩
 | false=> cases h; exact ztz (q β H1 _ p R rfl)
theorem zxR(ha:PE X ea (TF a ma))(hb:PE X (.BoolOp .Or (eb::rest) pos) (TF a mb)):PE X (.BoolOp .Or (ea::eb::rest) pos) (TF a (eOr ma mb)):=fun pins s σ' H Q I h0=> TF.el h0 fun α σ O w' O' hs hR hm' q=> by
 obtain⟨⟨v,O1⟩,h1,h⟩:=bnd hm'
 obtain⟨b,h2,h⟩:=bnd h
 cases zhN h2
 refine zx0 ha hb pins s σ' H Q I ⟨α,σ,O,_,O1,hs,hR,h1,fun β H1 v' p R r=> ⟨b,r,?_⟩⟩
 cases b with
 | true=> cases h; exact zty (q β H1 _ p R rfl)
 | false=> exact ztz ⟨β,σ,O1,_,_,hs.ext p,R,h,q.ext p⟩
theorem zxS(ha:PE X ea (TF a ma)):PE X (.UnaryOp .Not ea pos) (TF a (eNot ma)):=fun pins s σ' H Q I h0=> TF.el h0 fun α σ O w' O' hs hR hm' q=> by
 obtain⟨⟨v,O1⟩,h1,h⟩:=bnd hm'
 obtain⟨b,h2,h⟩:=bnd h
 cases zhN h2
 cases h
 exact zvx ha pins s σ' H Q I ⟨α,σ,O,_,O1,hs,hR,h1,fun β H1 v' p R r=> ⟨b,r,q β H1 _ p R rfl⟩⟩
theorem zyJ(hc:PT X ec (TFt a t))(ha:PE X ea (TF a ma))(hb:PE X eb (TF a mb)):PE X (.IfExp ec ea eb pos) (TF a (eIf t ma mb)):=fun pins s σ' H Q I h0=> TF.el h0 fun α σ O w' O' hs hR hm' q=> by
 obtain⟨⟨v,O1⟩,h1,h⟩:=bnd hm'
 refine zqP hc ha hb pins s σ' H Q I ⟨α,σ,O,_,O1,hs,hR,h1,fun β H1 p R=> ?_⟩
 cases v with
 | true=> exact zty ⟨β,σ,O1,_,_,hs.ext p,R,h,q.ext p⟩
 | false=> exact ztz ⟨β,σ,O1,_,_,hs.ext p,R,h,q.ext p⟩
end
end
end TS
namespace TS
noncomputable section
open PySem PySem.Spec PyProof.Rows L2
section
variable {X:Cx}{a:Ad}{e ea eb ec o:Expr}{es rest:List Expr}{m ma mb mc:ME}{t ta tb:MT}{mar:MA}{pos p pos' apos:Pos}{f x:Str}{n:Int}{c k i:Nat}
theorem zpd{O:FH}{v:FV}{xs:List FV}(h:lstAt O v=some xs):∃j,v= .ref j/\(O[j]? =some (.lst xs)\/O[j]? =some (.fz xs)):=by
 unfold lstAt at h
 split at h
 .split at h
  .cases h; exact⟨_,rfl,.inl (by assumption)⟩
  .cases h; exact⟨_,rfl,.inr (by assumption)⟩
  .cases h
 .cases h
theorem zov{O:FH}{v:FV}{xs:List FV}(h:tupAt O v=some xs):∃j,v= .ref j/\O[j]? =some (.tup xs):=by
 unfold tupAt at h
 split at h
 .split at h
  .cases h; exact⟨_,rfl,by assumption⟩
  .cases h
 .cases h
theorem zhF{O:FH}{v:FV}{xs:List FV}(h:mutAt O v=some xs):∃j,v= .ref j/\O[j]? =some (.lst xs):=by
 unfold mutAt eCat.mutAt at h
 split at h
 .split at h
  .cases h; exact⟨_,rfl,by assumption⟩
  .cases h
 .cases h
theorem Rep.lst{α:Al}{O:FH}{H:Hp}{v:FV}{v':V}{xs:List FV}{K:PySem.W.Frag}(hK:a.K=K)(R:Rep a α O H)(h:lstAt O v=some xs)(r:RV α v v'):∃p ys,v'= .ref p/\SqL K H p ys/\RVs α xs ys:=by
 obtain⟨j,rfl,h'⟩:=zpd h
 obtain⟨p,e,rfl⟩:=r
 rcases h' with h' | h'
 .obtain⟨ys,r,e2⟩:=R.here h' e
  exact⟨p,ys,rfl,SqL.of e2,r⟩
 .obtain⟨ys,r,e2⟩:=R.here h' e
  refine⟨p,ys,rfl,?_,r⟩
  rcases e2 with⟨o,e2⟩ | e2
  .exact .inl (.inr ⟨o,e2⟩)
  .rw[hK] at e2; exact .inr e2
theorem Rep.tup{α:Al}{O:FH}{H:Hp}{v:FV}{v':V}{xs:List FV}(R:Rep a α O H)(h:tupAt O v=some xs)(r:RV α v v'):∃p ys,v'= .ref p/\H p=some (.tup ys)/\RVs α xs ys:=by
 obtain⟨j,rfl,h'⟩:=zov h
 obtain⟨p,e,rfl⟩:=r
 obtain⟨ys,r,e2⟩:=R.here h' e
 exact⟨p,ys,rfl,e2,r⟩
theorem Rep.writeM{α:Al}{O:FH}{H H':Hp}{i:Nat}{p:Addr}{o:FO}{xs:List FV}(R:Rep a α O H)(h:mutAt O (.ref i)=some xs)(q:α[i]? =some p)(hs:∀b u,b≠p->H b=some u->H' b=some u)(r:RO a H' α p o):Rep a α (O.set i o) H':=by
 obtain⟨j,e,h'⟩:=zhF h
 cases e
 exact R.write h' (fun _ z=> by cases z) q hs r
theorem Rep.mut{α:Al}{O:FH}{H:Hp}{v:FV}{v':V}{xs:List FV}(R:Rep a α O H)(h:mutAt O v=some xs)(r:RV α v v'):∃j p ys,v= .ref j/\α[j]? =some p/\v'= .ref p/\H p=some (.lst ys)/\RVs α xs ys:=by
 obtain⟨j,rfl,h'⟩:=zhF h
 obtain⟨p,e,rfl⟩:=r
 obtain⟨ys,r,e2⟩:=R.here h' e
 exact⟨j,p,ys,rfl,e,rfl,e2,r⟩
theorem zst{α:Type}{xs:List α}{i:Int}{x:α}(h:atF xs i=some x):∃j,ixN xs.length i=some j/\xs[j]? =some x:=by
 unfold atF at h
 unfold ixN
 by_cases h0:0<=i
 .rw[if_pos h0] at h |-
  have hl:=(List.getElem?_eq_some_iff.mp h).1
  rw[if_pos (by omega)]
  exact⟨_,rfl,h⟩
 .rw[if_neg h0] at h |-
  by_cases h1:0<=(xs.length:Int) + i
  .rw[if_pos h1] at h
   rw[if_pos (by omega)]
   exact⟨_,rfl,by rw[Int.add_comm]; exact h⟩
  .rw[if_neg h1] at h; cases h
theorem RVs.at{α:Al}{xs:List FV}{ys:List V}{i:Int}{x:FV}(r:RVs α xs ys)(h:atF xs i=some x):∃y,atI ys i=some y/\RV α x y:=by
 obtain⟨j,h1,h2⟩:=zst h
 obtain⟨y,h3,h4⟩:=r.get h2
 refine⟨y,?_,h4⟩
 unfold atI
 rw[<- r.length,h1]
 exact h3
theorem zf2(hK:a.K=X.K)(ha:PE X ea (TF a ma))(hb:PE X eb (TF a mb))(hs:zie eb):PE X (.Subscript ea eb pos) (TF a (eIxL ma mb)):=fun pins s σ' H Q I h0=> TF.el h0 fun α σ O w' O' hs' hR hm' q=> by
 obtain⟨⟨v,O1⟩,h1,h⟩:=bnd hm'
 obtain⟨⟨u,O2⟩,h2,h⟩:=bnd h
 obtain⟨z,h3,h⟩:=bnd h
 cases h
 unfold ixL at h3
 split at h3
 case h_2=> cases h3
 rename_i i hu
 cases hu
 obtain⟨xs,h4,h5⟩:=bnd h3
 refine zoZ ztx ha hb hs pins s σ' H Q I ⟨α,σ,O,_,O1,hs',hR,h1,fun β H1 v' p R r=> ⟨β,σ,O1,_,_,hs'.ext p,R,h2,fun γ H2 u' p2 R2 r2=> ?_⟩⟩
 cases r2
 obtain⟨pl,ys,rfl,g1,g2⟩:=R2.lst hK h4 (r.ext p2)
 obtain⟨y,g3,g4⟩:=g2.at h5
 exact⟨pl,ys,i,y,rfl,rfl,g1,g3,q γ H2 y (p.trans p2) R2 g4⟩
theorem zjE(ha:PE X ea (TF a ma))(hb:PE X eb (TF a mb))(hs:zie eb):PE X (.Subscript ea eb pos) (TF a (eIxT ma mb)):=fun pins s σ' H Q I h0=> TF.el h0 fun α σ O w' O' hs' hR hm' q=> by
 obtain⟨⟨v,O1⟩,h1,h⟩:=bnd hm'
 obtain⟨⟨u,O2⟩,h2,h⟩:=bnd h
 obtain⟨z,h3,h⟩:=bnd h
 cases h
 unfold ixT at h3
 split at h3
 case h_2=> cases h3
 rename_i i hu
 cases hu
 obtain⟨xs,h4,h5⟩:=bnd h3
 refine zoZ zsf ha hb hs pins s σ' H Q I ⟨α,σ,O,_,O1,hs',hR,h1,fun β H1 v' p R r=> ⟨β,σ,O1,_,_,hs'.ext p,R,h2,fun γ H2 u' p2 R2 r2=> ?_⟩⟩
 cases r2
 obtain⟨pl,ys,rfl,g1,g2⟩:=R2.tup h4 (r.ext p2)
 obtain⟨y,g3,g4⟩:=g2.at h5
 exact⟨pl,ys,i,y,rfl,rfl,SqT.of g1,g3,q γ H2 y (p.trans p2) R2 g4⟩
theorem zxT(ha:PE X ea (TF a ma))(hb:PE X eb (TF a mb))(hs:zie eb):PE X (.Subscript ea eb pos) (TF a (eIxS ma mb)):=fun pins s σ' H Q I h0=> TF.el h0 fun α σ O w' O' hs' hR hm' q=> by
 obtain⟨⟨v,O1⟩,h1,h⟩:=bnd hm'
 obtain⟨⟨u,O2⟩,h2,h⟩:=bnd h
 obtain⟨z,h3,h⟩:=bnd h
 cases h
 unfold ixS at h3
 split at h3
 case h_2=> cases h3
 rename_i cs i hv hu
 dsimp only at hv hu
 subst hv hu
 obtain⟨ch,h4,h5⟩:=bnd h3
 cases h5
 refine zoZ zsg ha hb hs pins s σ' H Q I ⟨α,σ,O,_,O1,hs',hR,h1,fun β H1 v' p R r=> ⟨β,σ,O1,_,_,hs'.ext p,R,h2,fun γ H2 u' p2 R2 r2=> ?_⟩⟩
 cases r2
 obtain⟨z,rfl,ez,hl⟩:=r
 subst ez
 obtain⟨j,g1,g2⟩:=zst h4
 refine⟨z,i,ch,rfl,rfl,?_,?_,q γ H2 _ (p.trans p2) R2 ⟨⟨#[ch]⟩,rfl,rfl,by show 1<=1000; decide⟩⟩
 .have:z.length=z.cps.toList.length:=by simp[Str.length]
  rw[this]
  exact Nat.le_of_lt (zhu hl)
 .unfold atI
  rw[g1]
  exact g2
theorem Rep.newL{α:Al}{O:FH}{H:Hp}{p:Addr}{xs:List FV}{ys:List V}(R:Rep a α O H)(h:H p=none)(r:RVs α xs ys):Rep a (α ++ [p]) (O ++ [.lst xs]) (upd H p (.lst ys)):=
 R.new h (zfQ h) ⟨ys,r.ext (List.prefix_append _ _),zbS⟩
theorem Rep.newT{α:Al}{O:FH}{H:Hp}{p:Addr}{xs:List FV}{ys:List V}(R:Rep a α O H)(h:H p=none)(r:RVs α xs ys):Rep a (α ++ [p]) (O ++ [.tup xs]) (upd H p (.tup ys)):=
 R.new h (zfQ h) ⟨ys,r.ext (List.prefix_append _ _),zbS⟩
theorem Rep.last{α:Al}{O:FH}{H:Hp}{p:Addr}(R:Rep a α O H):RV (α ++ [p]) (.ref O.length) (.ref p):=⟨p,by rw[<- R.len]; simp,rfl⟩
theorem zoI{n d:Nat}{i:Int}(h:0<=i):HT.sIx n d (some i)=min i.toNat n:=by
 obtain⟨k,rfl⟩:=Int.eq_ofNat_of_zero_le h
 exact HT.sIx_nat n d k
theorem zrS{ys:List V}{i:Int}(h:0<=i):zsq ys (some i) none=ys.drop i.toNat:=by
 unfold zsq
 rw[zoI h,HT.sIx_none]
 by_cases hl:i.toNat<=ys.length
 .rw[Nat.min_eq_left hl,List.take_of_length_le (by rw[List.length_drop]; omega)]
 .rw[Nat.min_eq_right (by omega),List.drop_of_length_le (Nat.le_refl _),List.drop_of_length_le (by omega)]; simp
theorem zrT{ys:List V}{i j:Int}(h:0<=i)(h':0<=j):zsq ys (some i) (some j)=(ys.take j.toNat).drop i.toNat:=by
 unfold zsq
 rw[zoI h,zoI h',List.drop_take]
 by_cases hl:i.toNat<=ys.length
 .rw[Nat.min_eq_left hl]
  by_cases hj:j.toNat<=ys.length
  .rw[Nat.min_eq_left hj]
  .rw[Nat.min_eq_right (by omega),List.take_of_length_le (by rw[List.length_drop]; omega),List.take_of_length_le (by rw[List.length_drop]; omega)]
 .have e1:min i.toNat ys.length=ys.length:=Nat.min_eq_right (by omega)
  rw[e1,List.drop_of_length_le (Nat.le_refl _),List.drop_of_length_le (by omega)]; simp
theorem zs1(hK:a.K=X.K)(ha:PE X ea (TF a ma))(hb:PE X eb (TF a mb))(hc:PE X ec (TF a mc)){p2:Pos}:PE X (.Subscript ea (.Slice (some eb) (some ec) none p2) pos) (TF a (eSl2 ma mb mc)):=fun pins s σ' H Q I h0=> TF.el h0 fun α σ O w' O' hs' hR hm' q=> by
 obtain⟨⟨v,O1⟩,h1,h⟩:=bnd hm'
 obtain⟨⟨u,O2⟩,h2,h⟩:=bnd h
 obtain⟨⟨w,O3⟩,h3,h⟩:=bnd h
 obtain⟨xs,h4,h⟩:=bnd h
 obtain⟨ys,h5,h⟩:=bnd h
 cases h
 refine zm0 zoH ha (zl0 hb) (zl0 hc) pins s σ' H Q I ⟨α,σ,O,_,O1,hs',hR,h1,fun β H1 v' p R r=> ⟨β,σ,O1,_,_,hs'.ext p,R,h2,fun γ H2 u' p2 R2 r2=> ?_⟩⟩
 unfold slc2 at h5
 split at h5
 case h_2=> cases h5
 rename_i i j hi hj
 dsimp only at hi hj
 subst hi hj
 split at h5
 case isFalse=> cases h5
 rename_i hc
 cases h5
 cases r2
 refine⟨i,rfl,γ,σ,O2,_,_,(hs'.ext p).ext p2,R2,h3,fun δ H3 w' p3 R3 r3=> ?_⟩
 cases r3
 obtain⟨pl,zs,rfl,g1,g2⟩:=R3.lst hK h4 (r.ext (p2.trans p3))
 refine⟨j,rfl,pl,zs,rfl,g1,fun pn hn=> ?_⟩
 rw[zrT hc.1 hc.2]
 exact q _ _ _ (((p.trans p2).trans p3).trans (List.prefix_append _ _)) (R3.newL hn ((g2.take _).drop _)) R3.last
theorem zs3(hK:a.K=X.K)(ha:PE X ea (TF a ma))(hb:PE X eb (TF a mb)){p2:Pos}:PE X (.Subscript ea (.Slice (some eb) none none p2) pos) (TF a (eSl1 ma mb)):=fun pins s σ' H Q I h0=> TF.el h0 fun α σ O w' O' hs' hR hm' q=> by
 obtain⟨⟨v,O1⟩,h1,h⟩:=bnd hm'
 obtain⟨⟨u,O2⟩,h2,h⟩:=bnd h
 obtain⟨xs,h4,h⟩:=bnd h
 obtain⟨ys,h5,h⟩:=bnd h
 cases h
 refine zm0 zoH ha (zl0 hb) ztb pins s σ' H Q I ⟨α,σ,O,_,O1,hs',hR,h1,fun β H1 v' p R r=> ⟨β,σ,O1,_,_,hs'.ext p,R,h2,fun γ H2 u' p2 R2 r2=> ?_⟩⟩
 unfold slc1 at h5
 split at h5
 case h_2=> cases h5
 rename_i i hi
 dsimp only at hi
 subst hi
 split at h5
 case isFalse=> cases h5
 rename_i hc
 cases h5
 cases r2
 obtain⟨pl,zs,rfl,g1,g2⟩:=R2.lst hK h4 (r.ext p2)
 refine⟨i,rfl,pl,zs,rfl,g1,fun pn hn=> ?_⟩
 rw[zrS hc]
 exact q _ _ _ ((p.trans p2).trans (List.prefix_append _ _)) (R2.newL hn (g2.drop _)) R2.last
theorem zah:PA X [] (TFa a aNil):=fun pos pins s σ' H Q I ⟨α,σ,O,w',O',hs',hR,hm',q⟩=> by
 cases hm'
 exact zfy pos pins s σ' H Q I (q α H [] zd7 hR .nil)
theorem zab(ha:PE X e (TF a m))(hr:PA X es (TFa a mar))(hs:starEach (e::es) X.env=(false,eval e X.env)::starEach es X.env:=by rfl):PA X (e::es) (TFa a (aCons m mar)):=fun pos pins s σ' H Q I ⟨α,σ,O,w',O',hs',hR,hm',q⟩=> by
 obtain⟨⟨v,O1⟩,h1,h⟩:=bnd hm'
 obtain⟨⟨u,O2⟩,h2,h⟩:=bnd h
 cases h
 exact zel ha hr hs pos pins s σ' H Q I ⟨α,σ,O,_,O1,hs',hR,h1,fun β H1 v' p R r=> ⟨β,σ,O1,_,_,hs'.ext p,R,h2,fun γ H2 u' p2 R2 r2=> q γ H2 _ (p.trans p2) R2 (.cons (r.ext p2) r2)⟩⟩
theorem zky{n:Nat}(h:n<=LIM):n<=sizeLine:=h
theorem zh0{x1}(h:PA X es (TFa a mar)):PE X (.Tuple es x1 pos) (TF a (eTup mar)):=fun pins s σ' H Q I h0=> TF.el h0 fun α σ O w' O' hs' hR hm' q=> by
 obtain⟨⟨v,O1⟩,h1,hm⟩:=bnd hm'
 dsimp only at hm
 split at hm
 case isFalse=> cases hm
 rename_i hl
 cases hm
 exact zoY h pins s σ' H Q I ⟨α,σ,O,_,O1,hs',hR,h1,fun β H1 v' p R r=> ⟨by rw[<- r.length]; exact zky hl,fun pn hn=> q _ _ _ (p.trans (List.prefix_append _ _)) (R.newT hn r) R.last⟩⟩
theorem zdb(h:PA X es (TFa a mar)):PE X (.List es pos) (TF a (eLst mar)):=fun pins s σ' H Q I h0=> TF.el h0 fun α σ O w' O' hs' hR hm' q=> by
 obtain⟨⟨v,O1⟩,h1,hm⟩:=bnd hm'
 dsimp only at hm
 split at hm
 case isFalse=> cases hm
 rename_i hl
 cases hm
 exact zvy h pins s σ' H Q I ⟨α,σ,O,_,O1,hs',hR,h1,fun β H1 v' p R r=> ⟨by rw[<- r.length]; exact zky hl,fun pn hn=> q _ _ _ (p.trans (List.prefix_append _ _)) (R.newL hn r) R.last⟩⟩
theorem zoO(hK:a.K=X.K)(hm:X.mg "tuple"=none)(ha:PE X ea (TF a ma))(hg:Gl X "tuple":=by rfl)(hs:starEach [ea] X.env=(false,eval ea X.env)::starEach [] X.env:=by rfl)(hpl:(backTo pos (starEach [] X.env)).any (·.1)=false:=by rfl):PE X (.Call (.Name "tuple" p) [ea] [] pos) (TF a (eTupOf ma)):=fun pins s σ' H Q I h0=> TF.el h0 fun α σ O w' O' hs' hR hm' q=> by
 obtain⟨⟨v,O1⟩,h1,h⟩:=bnd hm'
 obtain⟨xs,h2,h⟩:=bnd h
 cases h
 refine zo2 zkK hg hm boot_tuple (zel ha zfy hs) (by decide) (by decide) hs hpl pins s σ' H Q I ⟨α,σ,O,_,O1,hs',hR,h1,fun β H1 v' p R r=> ?_⟩
 obtain⟨pl,zs,rfl,g1,g2⟩:=R.lst hK h2 r
 exact⟨pl,zs,rfl,.inl ⟨g1,fun pn hn=> q _ _ _ (p.trans (List.prefix_append _ _)) (R.newT hn g2) R.last⟩⟩
theorem znG(ha:PE X ea (TF a ma))(hb:PE X eb (TF a mb)):PE X (.BinOp ea .Add eb pos) (TF a (eCat ma mb)):=fun pins s σ' H Q I h0=> TF.el h0 fun α σ O w' O' hs' hR hm' q=> by
 obtain⟨⟨v,O1⟩,h1,h⟩:=bnd hm'
 obtain⟨⟨u,O2⟩,h2,h⟩:=bnd h
 obtain⟨xs,h3,h⟩:=bnd h
 obtain⟨ys,h4,h⟩:=bnd h
 dsimp only at h
 split at h
 case isFalse=> cases h
 rename_i hl
 cases h
 refine zvv zvO ha hb pins s σ' H Q I ⟨α,σ,O,_,O1,hs',hR,h1,fun β H1 v' p R r=> ⟨β,σ,O1,_,_,hs'.ext p,R,h2,fun γ H2 u' p2 R2 r2=> ?_⟩⟩
 obtain⟨_,pl,zs,_,_,rfl,g1,g2⟩:=R2.mut h3 (r.ext p2)
 obtain⟨_,pl',zs',_,_,rfl,g1',g2'⟩:=R2.mut h4 r2
 exact⟨pl,pl',zs,zs',rfl,rfl,g1,g1',by rw[<- g2.length,<- g2'.length]; exact zky hl,fun pn hn=> q _ _ _ ((p.trans p2).trans (List.prefix_append _ _)) (R2.newL hn (g2.app g2')) R2.last⟩
theorem zeG(hK:a.K=X.K)(hm:X.mg "len"=none)(ha:PE X ea (TF a ma))(hg:Gl X "len":=by rfl)(hs:starEach [ea] X.env=(false,eval ea X.env)::starEach [] X.env:=by rfl)(hpl:(backTo pos (starEach [] X.env)).any (·.1)=false:=by rfl):PE X (.Call (.Name "len" p) [ea] [] pos) (TF a (eLen ma)):=fun pins s σ' H Q I h0=> TF.el h0 fun α σ O w' O' hs' hR hm' q=> by
 obtain⟨⟨v,O1⟩,h1,h⟩:=bnd hm'
 obtain⟨xs,h2,h⟩:=bnd h
 cases h
 refine zgH zlD hg hm PySem.boot_len (zel ha zfy hs) (by decide) (by decide) hs hpl pins s σ' H Q I ⟨α,σ,O,_,O1,hs',hR,h1,fun β H1 v' p R r=> ?_⟩
 obtain⟨pl,zs,rfl,g1,g2⟩:=R.lst hK h2 r
 exact⟨pl,zs,rfl,.inl g1,q _ _ _ p R (by rw[<- g2.length]; rfl)⟩
theorem zvb(hm:X.mg "len"=none)(ha:PE X ea (TF a ma))(hg:Gl X "len":=by rfl)(hs:starEach [ea] X.env=(false,eval ea X.env)::starEach [] X.env:=by rfl)(hpl:(backTo pos (starEach [] X.env)).any (·.1)=false:=by rfl):PE X (.Call (.Name "len" p) [ea] [] pos) (TF a (eLenS ma)):=fun pins s σ' H Q I h0=> TF.el h0 fun α σ O w' O' hs' hR hm' q=> by
 obtain⟨⟨v,O1⟩,h1,h⟩:=bnd hm'
 obtain⟨u,h2,h⟩:=bnd h
 cases h
 unfold lenS at h2
 split at h2
 case h_2=> cases h2
 rename_i cs hv
 dsimp only at hv
 subst hv
 cases h2
 refine zgH zlC hg hm PySem.boot_len (zel ha zfy hs) (by decide) (by decide) hs hpl pins s σ' H Q I ⟨α,σ,O,_,O1,hs',hR,h1,fun β H1 v' p R r=> ?_⟩
 obtain⟨z,rfl,ez,hl⟩:=r
 have e:z.length=cs.length:=by rw[<- ez]; simp[Str.length]
 exact⟨z,rfl,by rw[e]; exact Nat.le_of_lt (zhu hl),q _ _ _ p R (by rw[e]; rfl)⟩
theorem zxQ(hm:X.mg "ord"=none)(ha:PE X ea (TF a ma))(hg:Gl X "ord":=by rfl)(hs:starEach [ea] X.env=(false,eval ea X.env)::starEach [] X.env:=by rfl)(hpl:(backTo pos (starEach [] X.env)).any (·.1)=false:=by rfl):PE X (.Call (.Name "ord" p) [ea] [] pos) (TF a (eOrd ma)):=fun pins s σ' H Q I h0=> TF.el h0 fun α σ O w' O' hs' hR hm' q=> by
 obtain⟨⟨v,O1⟩,h1,h⟩:=bnd hm'
 obtain⟨u,h2,h⟩:=bnd h
 cases h
 unfold ordS at h2
 split at h2
 case h_2=> cases h2
 rename_i ch hv
 dsimp only at hv
 subst hv
 cases h2
 refine zgH zns hg hm boot_ord (zel ha zfy hs) (by decide) (by decide) hs hpl pins s σ' H Q I ⟨α,σ,O,_,O1,hs',hR,h1,fun β H1 v' p R r=> ?_⟩
 obtain⟨z,rfl,ez,hl⟩:=r
 obtain⟨z⟩:=z
 have e:z=#[ch]:=Array.toList_inj.mp ez
 subst e
 exact⟨_,rfl,rfl,q _ _ _ p R rfl⟩
theorem zk2(ha:PE X ea (TF a ma))(hb:PE X eb (TF a mb))(hbase:attributeBase ea "append" X.env (eval ea X.env)=eval ea X.env:=by rfl)
  (hfew:((backTo pos (starEach [eb] X.env)).all (fun x=> !x.1) && (backToKw pos (keywordEach [] X.env)).all (fun x=> x.1.isSome)
   && decide (([eb]:List Expr).length + ([]:List Keyword).length + (if ([]:List Keyword).isEmpty then 0 else 1) < 30))=true:=by rfl)
  (hline:(apos.endLine==pos.line)=true:=by rfl) (hs:starEach [eb] X.env=(false,eval eb X.env)::starEach [] X.env:=by rfl) (hplain:(backTo pos (starEach [] X.env)).any (·.1)=false:=by rfl):
  PE X (.Call (.Attribute ea "append" apos) [eb] [] pos) (TF a (eApp ma mb)):=fun pins s σ' H Q I h0=> TF.el h0 fun α σ O w' O' hs' hR hm' q=> by
 obtain⟨⟨v,O1⟩,h1,h⟩:=bnd hm'
 obtain⟨xs0,h0,h⟩:=bnd h
 obtain⟨⟨u,O2⟩,h2,h⟩:=bnd h
 obtain⟨j,rfl,_⟩:=zhF (show mutAt O1 v=some xs0 from h0)
 obtain⟨xs,h3,h⟩:=bnd h
 dsimp only at h
 split at h
 case isFalse=> cases h
 rename_i hl
 cases h
 refine zvF PySem.F.plainAttrs_list PySem.F.slot_list_append PySem.F.type_list_append zpb ha (zel hb zfy hs) hbase hfew hline hs hplain pins s σ' H Q I ⟨α,σ,O,_,O1,hs',hR,h1,fun β H1 v' p R r=> ?_⟩
 obtain⟨_,pl,zs,_,e1,rfl,g1,g2⟩:=R.mut h0 r
 refine⟨.inl ⟨rfl,_,SqL.of g1⟩,β,σ,O1,_,_,hs'.ext p,R,h2,fun γ H2 u' p2 R2 r2=> ?_⟩
 obtain⟨j',pl',zs',ej,e1',e2',g1',g2'⟩:=R2.mut h3 (r.ext p2)
 cases ej; cases e2'
 exact⟨pl,zs',u',rfl,rfl,g1',by rw[<- g2'.length]; exact hl,q γ _ _ (p.trans p2) (R2.writeM h3 e1' (fun b w hb e=> by rw[zbH hb]; exact e) ⟨_,g2'.app (.cons r2 .nil),zbS⟩) rfl⟩
theorem zlZ(ha:PE X ea (TF a ma))(hb:PE X eb (TF a mb))(hbase:attributeBase ea "extend" X.env (eval ea X.env)=eval ea X.env:=by rfl)
  (hfew:((backTo pos (starEach [eb] X.env)).all (fun x=> !x.1) && (backToKw pos (keywordEach [] X.env)).all (fun x=> x.1.isSome)
   && decide (([eb]:List Expr).length + ([]:List Keyword).length + (if ([]:List Keyword).isEmpty then 0 else 1) < 30))=true:=by rfl)
  (hline:(apos.endLine==pos.line)=true:=by rfl) (hs:starEach [eb] X.env=(false,eval eb X.env)::starEach [] X.env:=by rfl) (hplain:(backTo pos (starEach [] X.env)).any (·.1)=false:=by rfl):
  PE X (.Call (.Attribute ea "extend" apos) [eb] [] pos) (TF a (eExt ma mb)):=fun pins s σ' H Q I h0=> TF.el h0 fun α σ O w' O' hs' hR hm' q=> by
 obtain⟨⟨v,O1⟩,h1,h⟩:=bnd hm'
 obtain⟨xs0,h0,h⟩:=bnd h
 obtain⟨⟨u,O2⟩,h2,h⟩:=bnd h
 obtain⟨j,rfl,_⟩:=zhF (show mutAt O1 v=some xs0 from h0)
 obtain⟨xs,h3,h⟩:=bnd h
 obtain⟨ys,h4,h⟩:=bnd h
 dsimp only at h
 split at h
 case isFalse=> cases h
 rename_i hl
 cases h
 refine zvF PySem.F.plainAttrs_list PySem.F.slot_list_extend PySem.F.type_list_extend zpa ha (zel hb zfy hs) hbase hfew hline hs hplain pins s σ' H Q I ⟨α,σ,O,_,O1,hs',hR,h1,fun β H1 v' p R r=> ?_⟩
 obtain⟨_,pl,zs,_,e1,rfl,g1,g2⟩:=R.mut h0 r
 refine⟨.inl ⟨rfl,_,SqL.of g1⟩,β,σ,O1,_,_,hs'.ext p,R,h2,fun γ H2 u' p2 R2 r2=> ?_⟩
 obtain⟨j',pl',zs',ej,e1',e2',g1',g2'⟩:=R2.mut h3 (r.ext p2)
 obtain⟨_,pl2,zs2,_,_,rfl,f1,f2⟩:=R2.mut h4 r2
 cases ej; cases e2'
 exact⟨pl,pl2,zs',zs2,rfl,rfl,g1',f1,by rw[<- g2'.length,<- f2.length]; exact hl,q γ _ _ (p.trans p2) (R2.writeM h3 e1' (fun b w hb e=> by rw[zbH hb]; exact e) ⟨_,g2'.app f2,zbS⟩) rfl⟩
theorem zxP(ha:PE X ea (TF a ma))(hbase:attributeBase ea "pop" X.env (eval ea X.env)=eval ea X.env:=by rfl)(hline:(apos.endLine==pos.line)=true:=by rfl):
  PE X (.Call (.Attribute ea "pop" apos) [] [] pos) (TF a (ePop ma)):=fun pins s σ' H Q I h0=> TF.el h0 fun α σ O w' O' hs' hR hm' q=> by
 obtain⟨⟨v,O1⟩,h1,h⟩:=bnd hm'
 dsimp only at h
 split at h
 case h_2=> cases h
 rename_i i
 obtain⟨xs,h3,h⟩:=bnd h
 obtain⟨y,h4,h⟩:=bnd h
 cases h
 refine zvE PySem.F.plainAttrs_list PySem.F.slot_list_pop PySem.F.type_list_pop zvX ha hbase hline pins s σ' H Q I ⟨α,σ,O,_,O1,hs',hR,h1,fun β H1 v' p R r=> ?_⟩
 obtain⟨j',pl,zs,ej,e1,rfl,g1,g2⟩:=R.mut h3 r
 cases ej
 have h5:xs[xs.length - 1]? =some w':=by rw[<- List.getLast?_eq_getElem?]; exact h4
 obtain⟨y',f1,f2⟩:=g2.get h5
 rw[g2.length] at f1
 exact⟨.inl ⟨rfl,_,SqL.of g1⟩,pl,zs,y',rfl,rfl,g1,f1,q β _ _ p (R.writeM h3 e1 (fun b w hb e=> by rw[zbH hb]; exact e) ⟨_,g2.dropLast,zbS⟩) f2⟩
end
end
end TS
namespace TS
noncomputable section
open PySem PySem.Spec PyProof.Rows L2
section
variable {κ κ':Type}[DecidableEq κ][DecidableEq κ']{g:κ->κ'}{α:Al}
abbrev PD(α:Al)(g:κ->κ'):List (κ×FV)->List (κ'×V)->Prop:=Paired fun x y=> y.1=g x.1/\RV α x.2 y.2
theorem PD.get(hg:∀x y,g x=g y->x=y){l:List (κ×FV)}{l':List (κ'×V)}(r:PD α g l l')(k:κ):match getD k l with
  | none=> zjX l' (g k)=none
  | some v=>∃v',zjX l' (g k)=some v'/\RV α v v':=by
 induction r with
 | nil=> exact rfl
 | @cons p q ps qs h t ih=>
  by_cases e:p.1=k
  .have e1:getD k (p::ps)=some p.2:=by simp[getD,List.find?_cons,e]
   rw[e1]
   exact⟨q.2,zhr (by rw[h.1,e]),h.2⟩
  .have e1:getD k (p::ps)=getD k ps:=by simp[getD,List.find?_cons,e]
   rw[e1,zhs (fun z=> e (hg _ _ (h.1.symm.trans z)))]
   exact ih
theorem PD.some(hg:∀x y,g x=g y->x=y){l:List (κ×FV)}{l':List (κ'×V)}(r:PD α g l l'){k:κ}{v:FV}(h:getD k l=some v):∃v',zjX l' (g k)=some v'/\RV α v v':=by
 have:=r.get hg k
 rw[h] at this; exact this
theorem PD.isSome(hg:∀x y,g x=g y->x=y){l:List (κ×FV)}{l':List (κ'×V)}(r:PD α g l l')(k:κ):(zjX l' (g k)).isSome=(getD k l).isSome:=by
 have:=r.get hg k
 cases h:getD k l with
 | none=> rw[h] at this; rw[this]; rfl
 | some v=> rw[h] at this; obtain⟨v',e,_⟩:=this; rw[e]; rfl
theorem PD.any(hg:∀x y,g x=g y->x=y){l:List (κ×FV)}{l':List (κ'×V)}(r:PD α g l l')(k:κ):(l'.any fun y=> decide (y.1=g k))=(l.any fun x=> decide (x.1=k)):=by
 induction r with
 | nil=> rfl
 | @cons p q ps qs h t ih=>
  rw[List.any_cons,List.any_cons,ih,h.1]
  by_cases e:p.1=k
  .simp[e]
  .have:¬g p.1=g k:=fun z=> e (hg _ _ z)
   simp[e,this]
theorem PD.put(hg:∀x y,g x=g y->x=y){l:List (κ×FV)}{l':List (κ'×V)}(r:PD α g l l')(k:κ){v:FV}{v':V}(rv:RV α v v'):PD α g (putD k v l) (zmV l' (g k) v'):=by
 unfold putD zmV
 rw[r.any hg k]
 split
 .rename_i hh
  clear hh
  induction r with
  | nil=> exact .nil
  | @cons p q ps qs h t ih=>
   rw[List.map_cons,List.map_cons]
   refine .cons ?_ ih
   by_cases e:p.1=k
   .rw[if_pos e,if_pos (by rw[h.1,e])]; exact⟨h.1,rv⟩
   .rw[if_neg e,if_neg (fun z=> e (hg _ _ (h.1.symm.trans z)))]; exact h
 .rename_i hh
  clear hh
  induction r with
  | nil=> exact .cons ⟨rfl,rv⟩ .nil
  | cons h t ih=> exact .cons h ih
theorem PD.length{l:List (κ×FV)}{l':List (κ'×V)}(r:PD α g l l'):l.length=l'.length:=Paired.length r
end
theorem zh7(x y:Int)(h:(Sum.inl x:Key)=Sum.inl y):x=y:=by injection h
theorem PD.del{α:Al}{l:List (Int×FV)}{l':List (Key×V)}(r:PD α (fun i=> (Sum.inl i:Key)) l l')(k:Int):PD α (fun i=> (Sum.inl i:Key)) (delD k l) (zmr l' (Sum.inl k)):=by
 unfold delD zmr
 induction r with
 | nil=> exact .nil
 | @cons p q ps qs h t ih=>
  by_cases e:p.1=k
  .have e2:q.1=Sum.inl k:=by rw[h.1,e]
   rw[List.filter_cons_of_neg (by simp[e]),List.filter_cons_of_neg (by simp[e2])]
   exact ih
  .have e2:¬q.1=Sum.inl k:=fun z=> e (zh7 _ _ (h.1.symm.trans z))
   rw[List.filter_cons_of_pos (by simp[e]),List.filter_cons_of_pos (by simp[e2])]
   exact .cons h ih
section
variable {X:Cx}{a:Ad}{e ea eb ec o:Expr}{es rest:List Expr}{m ma mb mc:ME}{t ta tb:MT}{mar:MA}{pos p pos' apos tpos:Pos}{f x:Str}{n:Int}{c k i:Nat}
theorem zmv{O:FH}{v:FV}{xs:List (Int×FV)}(h:dAt O v=some xs):∃j,v= .ref j/\O[j]? =some (.dK xs):=by
 unfold dAt at h
 split at h
 .split at h
  .cases h; exact⟨_,rfl,by assumption⟩
  .cases h
 .cases h
theorem zo9{O:FH}{v:FV}{xs:List (NK×FV)}(h:nAt O v=some xs):∃j,v= .ref j/\O[j]? =some (.dN xs):=by
 unfold nAt at h
 split at h
 .split at h
  .cases h; exact⟨_,rfl,by assumption⟩
  .cases h
 .cases h
theorem Rep.writeD{α:Al}{O:FH}{H H':Hp}{i:Nat}{p:Addr}{o:FO}{xs:List (Int×FV)}(R:Rep a α O H)(h:dAt O (.ref i)=some xs)(q:α[i]? =some p)(hs:∀b u,b≠p->H b=some u->H' b=some u)(r:RO a H' α p o):Rep a α (O.set i o) H':=by
 obtain⟨j,e,h'⟩:=zmv h
 cases e
 exact R.write h' (fun _ z=> by cases z) q hs r
theorem Rep.writeN{α:Al}{O:FH}{H H':Hp}{i:Nat}{p:Addr}{o:FO}{xs:List (NK×FV)}(R:Rep a α O H)(h:nAt O (.ref i)=some xs)(q:α[i]? =some p)(hs:∀b u,b≠p->H b=some u->H' b=some u)(r:RO a H' α p o):Rep a α (O.set i o) H':=by
 obtain⟨j,e,h'⟩:=zo9 h
 cases e
 exact R.write h' (fun _ z=> by cases z) q hs r
theorem Rep.dk{α:Al}{O:FH}{H:Hp}{v:FV}{v':V}{xs:List (Int×FV)}(R:Rep a α O H)(h:dAt O v=some xs)(r:RV α v v'):∃j p ys,v= .ref j/\α[j]? =some p/\v'= .ref p/\H p=some (.dK ys)/\PD α (fun i=> (Sum.inl i:Key)) xs ys:=by
 obtain⟨j,rfl,h'⟩:=zmv h
 obtain⟨p,e,rfl⟩:=r
 obtain⟨ys,r,e2⟩:=R.here h' e
 exact⟨j,p,ys,rfl,e,rfl,e2,r⟩
theorem Rep.dn{α:Al}{O:FH}{H:Hp}{v:FV}{v':V}{xs:List (NK×FV)}(R:Rep a α O H)(h:nAt O v=some xs)(r:RV α v v'):∃j p ys,v= .ref j/\α[j]? =some p/\v'= .ref p/\H p=some (.dT ys)/\PD α (fun i:NK=> (i:zfs)) xs ys:=by
 obtain⟨j,rfl,h'⟩:=zo9 h
 obtain⟨p,e,rfl⟩:=r
 obtain⟨ys,r,e2⟩:=R.here h' e
 exact⟨j,p,ys,rfl,e,rfl,e2,r⟩
theorem Rep.key{α:Al}{O:FH}{H:Hp}{v:FV}{v':V}{k:NK}(R:Rep a α O H)(h:keyOf O v=some k)(r:RV α v v'):∃p,v'= .ref p/\KeyAt H k p:=by
 obtain⟨xs,h1,h⟩:=bnd h
 obtain⟨p,ys,rfl,e2,r2⟩:=R.tup h1 r
 split at h
 .split at h
  .cases h
  .rename_i hk
   cases h
   cases r2 with
   | cons a1 r2=>
    cases r2 with
    | cons a2 r2=>
     cases r2
     cases a1; cases a2
     exact⟨p,rfl,by simp[wfN,hk],e2⟩
 .split at h
  .rename_i hk
   obtain⟨zs,h2,h⟩:=bnd h
   obtain⟨ns,h3,h⟩:=bnd h
   cases h
   cases r2 with
   | cons a1 r2=>
    cases r2 with
    | cons a2 r2=>
     cases r2
     cases a1
     obtain⟨p2,ws,rfl,e3,r3⟩:=R.tup h2 a2
     rw[r3.ints h3] at e3
     exact⟨p,rfl,by simp[wfN,hk],p2,e2,e3⟩
  .cases h
 .cases h
theorem zve:PE X (.Dict [] [] pos) (TF a eDNew):=fun pins s σ' H Q I h0=> TF.el h0 fun α σ O w' O' hs' hR hm' q=> by
 cases hm'
 exact zqS pins s σ' H Q I fun pn hn=> q _ _ _ (List.prefix_append _ _) (hR.new hn (zfQ hn) ⟨[],.nil,zbS⟩) hR.last
theorem zr7:PE X (.Dict [] [] pos) (TF a eNNew):=fun pins s σ' H Q I h0=> TF.el h0 fun α σ O w' O' hs' hR hm' q=> by
 cases hm'
 exact zqR pins s σ' H Q I fun pn hn=> q _ _ _ (List.prefix_append _ _) (hR.new hn (zfQ hn) ⟨[],.nil,zbS⟩) hR.last
theorem zvf(hu:X.A.units + 2 < cLine)(ha:PE X ea (TF a ma))(hb:PE X eb (TF a mb))(hs:zxm eb:=by exact fun _ _=> rfl):PE X (.Subscript ea eb pos) (TF a (eDGet ma mb)):=fun pins s σ' H Q I h0=> TF.el h0 fun α σ O w' O' hs' hR hm' q=> by
 obtain⟨⟨v,O1⟩,h1,h⟩:=bnd hm'
 obtain⟨⟨u,O2⟩,h2,h⟩:=bnd h
 obtain⟨kvs,h3,h⟩:=bnd h
 obtain⟨k,h4,h⟩:=bnd h
 obtain⟨z,h5,h⟩:=bnd h
 cases h
 cases zdl h4
 refine ztg hu ha hb hs pins s σ' H Q I ⟨α,σ,O,_,O1,hs',hR,h1,fun β H1 v' p R r=> ⟨β,σ,O1,_,_,hs'.ext p,R,h2,fun γ H2 u' p2 R2 r2=> ?_⟩⟩
 cases r2
 obtain⟨_,pl,ys,_,_,rfl,g1,g2⟩:=R2.dk h3 (r.ext p2)
 obtain⟨z',e1,e2⟩:=g2.some zh7 h5
 exact⟨pl,z',rfl,by rw[<- e1]; exact DGet.k (k:=Sum.inl k) g1,q γ H2 z' (p.trans p2) R2 e2⟩
theorem zvd(ha:PE X ea (TF a ma))(hb:PE X eb (TF a mb))(hm:M1 X ea "pop" apos eb pos:=by exact⟨rfl,rfl,rfl,rfl⟩):PE X (.Call (.Attribute ea "pop" apos) [eb] [] pos) (TF a (eDPop ma mb)):=fun pins s σ' H Q I h0=> TF.el h0 fun α σ O w' O' hs' hR hm' q=> by
 obtain⟨⟨v,O1⟩,h1,h⟩:=bnd hm'
 obtain⟨kvs0,h0,h⟩:=bnd h
 obtain⟨⟨u,O2⟩,h2,h⟩:=bnd h
 obtain⟨j,rfl,_⟩:=zmv (show dAt O1 v=some kvs0 from h0)
 obtain⟨kvs,h3,h⟩:=bnd h
 obtain⟨k,h4,h⟩:=bnd h
 obtain⟨z,h5,h⟩:=bnd h
 cases h
 cases zdl h4
 refine zqQ ha hb hm pins s σ' H Q I ⟨α,σ,O,_,O1,hs',hR,h1,fun β H1 v' p R r=> ?_⟩
 obtain⟨_,pl,ys,_,_,rfl,g1,g2⟩:=R.dk h0 r
 refine⟨pl,rfl,.inl ⟨_,.inl g1⟩,β,σ,O1,_,_,hs'.ext p,R,h2,fun γ H2 u' p2 R2 r2=> ?_⟩
 cases r2
 obtain⟨j',pl',ys',ej,e1',e2',g1',g2'⟩:=R2.dk h3 (r.ext p2)
 cases ej; cases e2'
 obtain⟨z',e1,e2⟩:=g2'.some zh7 h5
 exact⟨ys',Sum.inl k,z',g1',rfl,e1,q γ _ _ (p.trans p2) (R2.writeD h3 e1' (fun b w hb e=> by rw[zbH hb]; exact e) ⟨_,g2'.del k,zbS⟩) e2⟩
theorem zoN(hu:X.A.units + 2 < cLine)(ha:PE X ea (TF a ma))(hb:PE X eb (TF a mb))(hm:behindInMarks .NotIn eb=false:=by rfl):PT X (.Compare ea [.NotIn] [eb] pos) (TFt a (tDnin ma mb)):=fun pins s σ' H Q I h0=> TFt.el h0 fun α σ O w' O' hs' hR hm' q=> by
 obtain⟨⟨v,O1⟩,h1,h⟩:=bnd hm'
 obtain⟨⟨u,O2⟩,h2,h⟩:=bnd h
 obtain⟨kvs,h3,h⟩:=bnd h
 obtain⟨k,h4,h⟩:=bnd h
 cases h
 cases zdl h4
 refine zmW (zo4 hu ha hb) hm pins s σ' H Q I ⟨α,σ,O,_,O1,hs',hR,h1,fun β H1 v' p R r=> ⟨β,σ,O1,_,_,hs'.ext p,R,h2,fun γ H2 u' p2 R2 r2=> ?_⟩⟩
 cases r
 obtain⟨_,pl,ys,_,_,rfl,g1,g2⟩:=R2.dk h3 r2
 refine⟨pl,_,rfl,DGet.k (k:=Sum.inl k) g1,_,rfl,?_⟩
 rw[g2.isSome zh7 k]
 exact q γ H2 (p.trans p2) R2
theorem zr8(hu:X.A.units + 2 < cLine)(ha:PE X ea (TF a ma))(hb:PE X eb (TF a mb))(hc:PE X ec (TF a mc))(hm:M2 X ea "get" apos eb ec pos:=by exact⟨rfl,rfl,rfl,rfl⟩):PE X (.Call (.Attribute ea "get" apos) [eb,ec] [] pos) (TF a (eNGet ma mb mc)):=fun pins s σ' H Q I h0=> TF.el h0 fun α σ O w' O' hs' hR hm' q=> by
 obtain⟨⟨v,O1⟩,h1,h⟩:=bnd hm'
 obtain⟨kvs0,h0,h⟩:=bnd h
 obtain⟨⟨u,O2⟩,h2,h⟩:=bnd h
 obtain⟨⟨d,O3⟩,h3,h⟩:=bnd h
 obtain⟨kvs,h4,h⟩:=bnd h
 obtain⟨k,h5,h⟩:=bnd h
 cases h
 refine zqT hu ha hb hc hm pins s σ' H Q I ⟨α,σ,O,_,O1,hs',hR,h1,fun β H1 v' p R r=> ?_⟩
 obtain⟨_,pl,ys,_,_,rfl,g1,g2⟩:=R.dn h0 r
 refine⟨pl,rfl,.inr ⟨_,.inl g1⟩,β,σ,O1,_,_,hs'.ext p,R,h2,fun γ H2 u' p2 R2 r2=> ⟨γ,σ,O2,_,_,(hs'.ext p).ext p2,R2,h3,fun δ H3 d' p3 R3 r3=> ?_⟩⟩
 obtain⟨j',pl',ys',ej,e1',e2',g1',g2'⟩:=R3.dn h4 (r.ext (p2.trans p3))
 cases e2'
 obtain⟨kp,rfl,hk⟩:=R3.key h5 (r2.ext p3)
 refine⟨_,DGet.t (k:=k) g1' hk,q δ H3 _ ((p.trans p2).trans p3) R3 ?_⟩
 have hv:=g2'.get (fun _ _ z=> z) k
 cases hg:getD k kvs with
 | none=> rw[hg] at hv; rw[hv]; exact r3
 | some z=>
  rw[hg] at hv
  obtain⟨z',e1,e2⟩:=hv
  rw[e1]; exact e2
variable {kk:Nat}{ps:List Str}{mf:MF}
theorem zcR(G:CG X.prog X.w X.K X.mg X.base kk x ps (SpF a mf))(hr:Room kk X.A)(ha:PA X (e::es) (TFa a mar))(hg:Gl X x:=by rfl)(hdb:(x==("__debug__":Str))=false:=by decide)
  (he:starEach (e::es) X.env=(false,eval e X.env)::starEach es X.env:=by rfl) (hpl:(backTo pos (starEach es X.env)).any (·.1)=false:=by rfl):
  PE X (.Call (.Name x p) (e::es) [] pos) (TF a (eCall mf mar)):=fun pins s σ' H Q I h0=> TF.el h0 fun α σ O w' O' hs' hR hm' q=> by
 obtain⟨⟨vs,O1⟩,h1,h⟩:=bnd hm'
 refine zx3 G hr ha hg hdb he hpl pins s σ' H Q I ⟨α,σ,O,_,O1,hs',hR,h1,fun β H1 vs' p R r=> ?_⟩
 show SpF a mf (vs' ++ []) H1 Q E0
 rw[List.append_nil]
 exact⟨β,vs,O1,_,_,r,R,h,q.ext p⟩
theorem zli:∀{fs:List (Str×V)} {f:Str},f∉fs.map (·.1)->fs.lookup f=none
 | [],f,_=> rfl
 |(g,v)::r,f,h=> by
  rw[List.map_cons,List.mem_cons,not_or] at h
  rw[List.lookup_cons]
  simp only[beq_eq_false_iff_ne.mpr h.1]
  exact zli h.2
theorem zpr{O:FH}{v:FV}(h:insAt O v c=true):∃j vs,v= .ref j/\O[j]? =some (.ins c vs):=by
 unfold insAt at h
 split at h
 .split at h
  .rename_i c' vs _ _
   have:=of_decide_eq_true h
   subst this
   exact⟨_,_,rfl,by assumption⟩
  .cases h
 .cases h
theorem Rep.ins{α:Al}{O:FH}{H:Hp}{v:FV}{v':V}(R:Rep a α O H)(h:insAt O v c=true)(r:RV α v v'){ms:Str}(hm:ms∉nms c):∃p dx fs,v'= .ref p/\H p=some (.ins (a c) dx fs)/\fs.lookup ms=none:=by
 obtain⟨j,vs,rfl,h'⟩:=zpr h
 obtain⟨p,e,rfl⟩:=r
 obtain⟨dx,fs,g1,g2,g3,g4⟩:=R.here h' e
 exact⟨p,dx,fs,rfl,g4,zli (by rw[g1]; exact fun z=> hm (List.mem_of_mem_take z))⟩
theorem zbm{pl:Sem Bool}{ms:Str}(c:Nat)(G:CM X.prog X.w X.K X.mg X.base kk (a c) ms ps (SpF a mf))(cl:Cls X.K (a c))(hr:Room kk X.A)(ho:PE X o (TF a m))(ha:PA X (e::es) (TFa a mar))(hn:ms∉nms c:=by decide)
  (hst:starEach (e::es) X.env=(false,eval e X.env)::starEach es X.env:=by rfl) (hpl:(backTo pos (starEach es X.env)).any (·.1)=false:=by rfl)
  (ht:eval (.Call (.Attribute o ms apos) (e::es) [] pos) X.env=(do
   let ov <- eval o X.env
   standAt apos.atName
   let (f,first) <- holding [ov] (getMethod ov ms pl)
   callWith pos f first (backTo pos (starEach (e::es) X.env)) (backToKw pos (keywordEach [] X.env))):=by rfl):
  PE X (.Call (.Attribute o ms apos) (e::es) [] pos) (TF a (eMeth c mf m mar)):=fun pins s σ' H Q I h0=> TF.el h0 fun α σ O w' O' hs' hR hm' q=> by
 obtain⟨⟨v,O1⟩,h1,h⟩:=bnd hm'
 dsimp only at h
 split at h
 case isFalse=> cases h
 rename_i hi
 obtain⟨⟨vs,O2⟩,h2,h⟩:=bnd h
 refine zx2 (pl:=pl) ho cl G hr ha hst hpl ht pins s σ' H Q I ⟨α,σ,O,_,O1,hs',hR,h1,fun β H1 v' p R r=> ?_⟩
 obtain⟨pa,dx,fs,rfl,g1,g2⟩:=R.ins hi r hn
 refine⟨pa,dx,fs,rfl,g1,g2,β,σ,O1,_,_,hs'.ext p,R,h2,fun γ H2 vs' p2 R2 r2=> ?_⟩
 show SpF a mf (V.ref pa::(vs' ++ [])) H2 Q E0
 rw[List.append_nil]
 exact⟨γ,v::vs,O2,_,_,.cons (r.ext p2) r2,R2,h,q.ext (p.trans p2)⟩
theorem zb4{pl:Sem Bool}{ms:Str}(c:Nat)(G:CM X.prog X.w X.K X.mg X.base kk (a c) ms ps (SpF a mf))(cl:Cls X.K (a c))(hr:Room kk X.A)(ho:PE X o (TF a m))(hn:ms∉nms c:=by decide)
  (ht:eval (.Call (.Attribute o ms apos) [] [] pos) X.env=(do
   let ov <- eval o X.env
   standAt apos.atName
   let (f,first) <- holding [ov] (getMethod ov ms pl)
   callWith pos f first (backTo pos (starEach [] X.env)) (backToKw pos (keywordEach [] X.env))):=by rfl):
  PE X (.Call (.Attribute o ms apos) [] [] pos) (TF a (eMeth c mf m aNil)):=fun pins s σ' H Q I h0=> TF.el h0 fun α σ O w' O' hs' hR hm' q=> by
 obtain⟨⟨v,O1⟩,h1,h⟩:=bnd hm'
 dsimp only at h
 split at h
 case isFalse=> cases h
 rename_i hi
 obtain⟨⟨vs,O2⟩,h2,h⟩:=bnd h
 cases h2
 refine zvC (pl:=pl) ho cl G hr ht pins s σ' H Q I ⟨α,σ,O,_,O1,hs',hR,h1,fun β H1 v' p R r=> ?_⟩
 obtain⟨pa,dx,fs,rfl,g1,g2⟩:=R.ins hi r hn
 exact⟨pa,dx,fs,rfl,g1,g2,β,[v],_,_,_,.cons r .nil,R,h,q.ext p⟩
theorem Rep.made{α:Al}{O:FH}{H:Hp}{x dx:Addr}(R:Rep a α O H)(nx:H x=none)(nd:H dx=none):Rep a (α ++ [x]) (O ++ [.ins c []]) (upd (upd H dx (.own x)) x (.ins (a c) dx [])):=
 R.new nx (fun b u e=> by rw[zbH (zcl e nx),zbH (zcl e nd)]; exact e) ⟨dx,[],rfl,Nat.zero_le _,.nil,zbS⟩
theorem zlz{σ:FS}{O O':FH}{v:FV}(h:eNew c mf mar σ O=some (v,O')):∃vs O1,mar σ O=some (vs,O1)/\mf (.ref O1.length::vs) (O1 ++ [.ins c []])=some (.non,O')/\v= .ref O1.length:=by
 obtain⟨⟨vs,O1⟩,h1,h⟩:=bnd h
 obtain⟨⟨z,O2⟩,h2,h⟩:=bnd h
 dsimp only at h h2
 split at h
 .rename_i hz; subst hz; cases h; exact⟨vs,O1,h1,h2,rfl⟩
 .cases h
theorem zs4(c:Nat)(G:CC X.prog X.w X.K X.mg X.base kk (a c) x ps (SpF a mf))(hr:Room (kk + 1) X.A)(ha:PA X (e::es) (TFa a mar))(hg:Gl X x:=by rfl)(hdb:(x==("__debug__":Str))=false:=by decide)
  (he:starEach (e::es) X.env=(false,eval e X.env)::starEach es X.env:=by rfl) (hpl:(backTo pos (starEach es X.env)).any (·.1)=false:=by rfl):
  PE X (.Call (.Name x p) (e::es) [] pos) (TF a (eNew c mf mar)):=fun pins s σ' H Q I h0=> TF.el h0 fun α σ O w' O' hs' hR hm' q=> by
 obtain⟨vs,O1,h1,h2,rfl⟩:=zlz hm'
 refine zx4 G hr ha hg hdb he hpl pins s σ' H Q I ⟨α,σ,O,_,O1,hs',hR,h1,fun β H1 vs' p R r=> fun xa dx nx nd ne=> ?_⟩
 show SpF a mf (V.ref xa::(vs' ++ [])) _ _ E0
 rw[List.append_nil]
 exact⟨β ++ [xa],_,_,_,_,.cons R.last (r.ext (List.prefix_append _ _)),R.made nx nd,h2,fun γ H2 v' p2 R2 r2=> ⟨r2,q γ H2 _ ((p.trans (List.prefix_append _ _)).trans p2) R2 (R.last.ext p2)⟩⟩
theorem zii(c:Nat)(G:CC X.prog X.w X.K X.mg X.base kk (a c) x ps (SpF a mf))(hr:Room (kk + 1) X.A)(hg:Gl X x:=by rfl)(hdb:(x==("__debug__":Str))=false:=by decide):
  PE X (.Call (.Name x p) [] [] pos) (TF a (eNew c mf aNil)):=fun pins s σ' H Q I h0=> TF.el h0 fun α σ O w' O' hs' hR hm' q=> by
 obtain⟨vs,O1,h1,h2,rfl⟩:=zlz hm'
 cases h1
 exact zvD G hr hg hdb pins s σ' H Q I fun xa dx nx nd ne=> ⟨α ++ [xa],_,_,_,_,.cons hR.last .nil,hR.made nx nd,h2,fun γ H2 v' p2 R2 r2=> ⟨r2,q γ H2 _ ((List.prefix_append _ _).trans p2) R2 (hR.last.ext p2)⟩⟩
end
end
end TS
namespace TS
noncomputable section
open PySem PySem.Spec PyProof.Rows L2
section
variable {X:Cx}{a:Ad}{e ea eb ec o:Expr}{es rest:List Expr}{m ma mb mc mo:ME}{t ta tb:MT}{mar:MA}{ms mr:MS}{pos p pos' apos tpos:Pos}{f x:Str}{n:Int}{c k i:Nat}{st:Stmt}{sts body:List Stmt}
theorem QO.nx{α:Al}{σ:FS}{O:FH}{D:Ends}{β:Al}{H:Hp}{σ':L2.St}(q:QO a α (.nx σ) O D)(p:α <+:β)(R:Rep a β O H)(r:RS β σ σ'):D.nx σ' H:=q β H p R σ' r
theorem QO.rt{α:Al}{v:FV}{O:FH}{D:Ends}{β:Al}{H:Hp}{v':V}(q:QO a α (.rt v) O D)(p:α <+:β)(R:Rep a β O H)(r:RV β v v'):D.rt v' H:=q β H p R v' r
theorem zai:PSs X [] (TFs a sNx):=fun pins s σ' H D I ⟨α,σ,O,w',O',hs',hR,hm',q⟩=> by
 cases hm'
 exact zoR pins s σ' H D I (q.nx zd7 hR hs')
theorem zac(h:PS X st (TFs a ms)):PSs X [st] (TFs a ms):=zkr h
theorem zaa(h1:PS X st (TFs a ms))(h2:PSs X sts (TFs a mr)):PSs X (st::sts) (TFs a (sSeq ms mr)):=fun pins s σ' H D I h0=> TFs.el h0 fun α σ O w' O' hs' hR hm' q=> by
 obtain⟨⟨r,O1⟩,g1,h⟩:=bnd hm'
 refine zmX h1 h2 pins s σ' H D I ⟨α,σ,O,r,O1,hs',hR,g1,fun β H1 p R=> ?_⟩
 cases r with
 | nx σ1=> exact fun σ1' r1=> ⟨β,σ1,O1,_,_,r1,R,h,q.ext p⟩
 | rt v=> cases h; exact fun v' r=> q.rt p R r
theorem zmS:PS X st (TFs a sNever):=fun pins s σ' H D I ⟨α,σ,O,w',O',hs',hR,hm',q⟩=> by cases hm'
theorem zay(hc:PT X ec (TFt a t))(ha:PSs X sts (TFs a ms))(hb:PSs X body (TFs a mr)):PS X (.If ec sts body pos) (TFs a (sIf t ms mr)):=fun pins s σ' H D I h0=> TFs.el h0 fun α σ O w' O' hs' hR hm' q=> by
 obtain⟨⟨b,O1⟩,g1,h⟩:=bnd hm'
 refine zvq hc ha hb pins s σ' H D I ⟨α,σ,O,b,O1,hs',hR,g1,fun β H1 p R=> ?_⟩
 cases b with
 | true=> exact zty ⟨β,σ,O1,_,_,hs'.ext p,R,h,q.ext p⟩
 | false=> exact ztz ⟨β,σ,O1,_,_,hs'.ext p,R,h,q.ext p⟩
theorem zad(ha:PE X e (TF a m)):PS X (.Return (some e) pos) (TFs a (sRet m)):=fun pins s σ' H D I h0=> TFs.el h0 fun α σ O w' O' hs' hR hm' q=> by
 obtain⟨⟨v,O1⟩,g1,h⟩:=bnd hm'
 cases h
 exact zoS ha pins s σ' H D I ⟨α,σ,O,v,_,hs',hR,g1,fun β H1 v' p R r=> q.rt p R r⟩
theorem zsV:PS X (.Return none pos) (TFs a sRetN):=fun pins s σ' H D I h0=> TFs.el h0 fun α σ O w' O' hs' hR hm' q=> by
 cases hm'
 exact zs7 pins s σ' H D I (q.rt zd7 hR rfl)
theorem zda(ha:PE X e (TF a m))(hs:swapsWith e none pos.line X.env=pure false:=by rfl):PS X (.Expr e pos) (TFs a (sEx m)):=fun pins s σ' H D I h0=> TFs.el h0 fun α σ O w' O' hs' hR hm' q=> by
 obtain⟨⟨v,O1⟩,g1,h⟩:=bnd hm'
 cases h
 exact zs8 ha hs pins s σ' H D I ⟨α,σ,O,v,_,hs',hR,g1,fun β H1 v' p R r=> q.nx p R (hs'.ext p)⟩
theorem zbd{i:Nat}{x:Str}(hN:X.N.Nodup)(ha:PE X e (TF a m))(hi:X.N[i]? =some x:=by rfl)(hx:Loc X.env.scope x:=by exact Or.inl rfl)(hs:swapsWith e (some (.Name x pos')) pos.line X.env=pure false:=by rfl)
  (hf:X.fn x=true\/X.env.scope.names.lookup x=some .local:=by first | exact .inl rfl | exact .inr rfl):PS X (.Assign [.Name x pos'] e pos) (TFs a (sSet i m)):=fun pins s σ' H D I h0=> TFs.el h0 fun α σ O w' O' hs' hR hm' q=> by
 obtain⟨⟨v,O1⟩,g1,h⟩:=bnd hm'
 cases h
 exact zvp hN hi hx ha hs hf pins s σ' H D I ⟨α,σ,O,v,_,hs',hR,g1,fun β H1 v' p R r=> q.nx p R ((hs'.ext p).set r)⟩
theorem zmT{i:Nat}{x:Str}{op:Operator}{g:Int->Int->Option FV}(ho:OpM X inplaceOp op g)(hN:X.N.Nodup)(ha:PE X e (TF a m))(hi:X.N[i]? =some x:=by rfl)(hx:Loc X.env.scope x:=by exact Or.inl rfl)
  (hf:X.fn x=true\/X.env.scope.names.lookup x=some .local:=by first | exact .inl rfl | exact .inr rfl):PS X (.AugAssign (.Name x pos') op e pos) (TFs a (sAug i g m)):=fun pins s σ' H D I h0=> TFs.el h0 fun α σ O w' O' hs' hR hm' q=> by
 obtain⟨C,gv,ho,hc⟩:=ho
 obtain⟨⟨v,O1⟩,g1,h⟩:=bnd hm'
 obtain⟨⟨u,O2⟩,g2,h⟩:=bnd h
 obtain⟨z,g3,h⟩:=bnd h
 cases h
 obtain⟨ii,jj,rfl,rfl,g4⟩:=zks g3
 obtain⟨c1,c2⟩:=hc _ _ _ g4
 unfold eV at g1
 split at g1
 case h_2=> cases g1
 rename_i w hw
 cases g1
 obtain⟨v',e1,r1⟩:=hs'.2 _ _ hw
 cases r1
 refine zvs hN hi hx ha ho hf pins s σ' H D I ⟨_,e1,α,σ,_,_,_,hs',hR,g2,fun β H1 u' p R r=> ?_⟩
 cases r
 exact⟨ii,jj,rfl,rfl,c1,q.nx p R ((hs'.ext p).set (c2 β))⟩
theorem zko:∀{fs:List (Str×V)} {k:Nat} {f:Str} {v w:V},(fs.map (·.1)).Nodup->fs[k]? =some (f,w)->L2.putF f v fs=fs.set k (f,v)
 | [],k,f,v,w,_,e=> by simp at e
 |(g,y)::r,0,f,v,w,_,e=> by
  simp at e
  obtain⟨rfl,rfl⟩:=e
  simp[L2.putF]
 |(g,y)::r,k + 1,f,v,w,hn,e=> by
  rw[List.map_cons,List.nodup_cons] at hn
  have e':r[k]? =some (f,w):=by simpa using e
  have hne:¬g=f:=by
   rintro rfl
   exact hn.1 (List.mem_map.mpr ⟨_,List.mem_of_getElem? e',rfl⟩)
  rw[L2.putF,if_neg hne,zko hn.2 e',List.set_cons_succ]
theorem zkp:∀{fs:List (Str×V)} {f:Str} {v:V},f∉fs.map (·.1)->L2.putF f v fs=fs ++ [(f,v)]
 | [],f,v,_=> rfl
 |(g,y)::r,f,v,h=> by
  rw[List.map_cons,List.mem_cons,not_or] at h
  rw[L2.putF,if_neg (fun z=> h.1 z.symm),zkp h.2]; rfl
theorem zqJ{O O':FH}{v y:FV}(h:putF O v c k y=some O'):∃j vs,v= .ref j/\O[j]? =some (.ins c vs)/\((k < vs.length/\O'=O.set j (.ins c (vs.set k y)))\/(k=vs.length/\O'=O.set j (.ins c (vs ++ [y])))):=by
 unfold putF at h
 split at h
 .split at h
  .split at h
   .rename_i hc
    subst hc
    split at h
    .cases h; exact⟨_,_,rfl,by assumption,.inl ⟨by assumption,rfl⟩⟩
    .split at h
     .cases h; exact⟨_,_,rfl,by assumption,.inr ⟨by assumption,rfl⟩⟩
     .cases h
   .cases h
  .cases h
 .cases h
theorem Rep.fld{α:Al}{O O':FH}{H:Hp}{v y:FV}{v' y':V}(R:Rep a α O H)(h:putF O v c k y=some O')(r:RV α v v')(ry:RV α y y')(hf:(nms c)[k]? =some f):∃p dx fs,v'= .ref p/\H p=some (.ins (a c) dx fs)/\fs.length < 1000/\Rep a α O' (upd H p (.ins (a c) dx (L2.putF f y' fs))):=by
 obtain⟨j,vs,rfl,h1,h2⟩:=zqJ h
 obtain⟨p,e,rfl⟩:=r
 obtain⟨dx,fs,g1,g2,g3,g4⟩:=R.here h1 e
 have hlen:fs.length=vs.length:=by rw[g3.length,List.length_map]
 have hfew:=ztp c
 refine⟨p,dx,fs,rfl,g4,by omega,?_⟩
 rcases h2 with⟨hk,rfl⟩ |⟨hk,rfl⟩
 .refine R.write h1 (fun _ z=> by cases z) e (fun b w hb e=> by rw[zbH hb]; exact e) ⟨dx,_,?_,by rw[List.length_set]; exact g2,?_,zbS⟩
  .obtain⟨w,_,_,e3⟩:=znf g1 g3 (v:=vs[k]) (List.getElem?_eq_getElem hk) hf
   rw[zko (by rw[g1]; exact zlR) e3,List.map_set,List.length_set,g1]
   refine List.ext_getElem? fun i=> ?_
   by_cases hi:k=i
   .subst hi
    rw[List.getElem?_set_self (by rw[List.length_take]; omega),List.getElem?_take_of_lt hk,hf]
   .rw[List.getElem?_set_ne hi]
  .obtain⟨w,_,_,e3⟩:=znf g1 g3 (v:=vs[k]) (List.getElem?_eq_getElem hk) hf
   rw[zko (by rw[g1]; exact zlR) e3,List.map_set]
   exact g3.set ry k
 .have hkl:=(List.getElem?_eq_some_iff.mp hf).1
  have hnew:f∉fs.map (·.1):=by
   rw[g1]
   intro hm
   obtain⟨i,hi,ei⟩:=List.mem_iff_getElem.mp hm
   rw[List.getElem_take] at ei
   have hi2:i < vs.length:=by rw[List.length_take] at hi; omega
   have:i=k:=(List.getElem?_inj (by omega) (zsd c)).mp (by rw[hf,List.getElem?_eq_getElem (by omega),ei])
   omega
  refine R.write h1 (fun _ z=> by cases z) e (fun b w hb e=> by rw[zbH hb]; exact e) ⟨dx,_,?_,by rw[List.length_append,List.length_singleton]; omega,?_,zbS⟩
  .rw[zkp hnew,List.map_append,g1,List.length_append,List.length_singleton]
   subst hk
   rw[List.take_succ,hf]; rfl
  .rw[zkp hnew,List.map_append]
   exact g3.app (.cons ry .nil)
theorem zax(c k:Nat)(ho:PE X o (TF a mo))(ha:PE X e (TF a m))(cl:Cls X.K (a c))(na:NoAttr X.K (a c) f)(hf:(nms c)[k]? =some f:=by rfl)(hs:swapsWith e (some (.Attribute o f pos')) pos.line X.env=pure false:=by rfl):
  PS X (.Assign [.Attribute o f pos'] e pos) (TFs a (zco c k mo m)):=fun pins s σ' H D I h0=> TFs.el h0 fun α σ O w' O' hs' hR hm' q=> by
 obtain⟨⟨v,O1⟩,g1,h⟩:=bnd hm'
 obtain⟨⟨u,O2⟩,g2,h⟩:=bnd h
 obtain⟨O3,g3,h⟩:=bnd h
 cases h
 refine zvr ho ha hs pins s σ' H D I ⟨α,σ,O,v,_,hs',hR,g1,fun β H1 v' p R r=> ⟨β,σ,O1,u,_,hs'.ext p,R,g2,fun γ H2 u' p2 R2 r2=> ?_⟩⟩
 obtain⟨pa,dx,fs,rfl,k1,k2,k3⟩:=R2.fld g3 r2 (r.ext p2) hf
 exact⟨pa,a c,dx,fs,rfl,k1,cl,na,k2,q.nx (p.trans p2) k3 (hs'.ext (p.trans p2))⟩
theorem zep{op:Operator}{g:Int->Int->Option FV}(c k:Nat)(ho:OpM X inplaceOp op g)(hoo:PE X o (TF a mo))(ha:PE X e (TF a m))(cl:Cls X.K (a c))(na:NoAttr X.K (a c) f)(hf:(nms c)[k]? =some f:=by rfl):
  PS X (.AugAssign (.Attribute o f tpos) op e pos) (TFs a (zdU c k g mo m)):=fun pins s σ' H D I h0=> TFs.el h0 fun α σ O w' O' hs' hR hm' q=> by
 obtain⟨C,gv,ho,hc⟩:=ho
 obtain⟨⟨v,O1⟩,g1,h⟩:=bnd hm'
 obtain⟨y,g2,h⟩:=bnd h
 obtain⟨⟨u,O2⟩,g3,h⟩:=bnd h
 obtain⟨z,g4,h⟩:=bnd h
 obtain⟨O3,g5,h⟩:=bnd h
 cases h
 dsimp only at g2 g3 g4 g5
 obtain⟨ii,jj,rfl,rfl,g6⟩:=zks g4
 obtain⟨c1,c2⟩:=hc _ _ _ g6
 obtain⟨j,vs,rfl,h3,h4⟩:=zpy g2
 refine zoU hoo ha ho pins s σ' H D I ⟨α,σ,O,_,_,hs',hR,g1,fun β H1 v' p R r=> ?_⟩
 have r0:=r
 obtain⟨pa,e1,rfl⟩:=r
 obtain⟨dx,fs,k1,k2,k3,k4⟩:=R.here h3 e1
 obtain⟨u',l1,l2,_⟩:=znf k1 k3 h4 hf
 cases l2
 refine⟨pa,a c,dx,fs,_,rfl,k4,cl,na,l1,β,σ,O1,_,_,hs'.ext p,R,g3,fun γ H2 y' p2 R2 r2=> ?_⟩
 cases r2
 obtain⟨pa',dx',fs',e2,m1,m2,m3⟩:=R2.fld g5 (r0.ext p2) (c2 γ) hf
 cases e2
 exact⟨ii,jj,rfl,rfl,c1,dx',fs',m1,m2,q.nx (p.trans p2) m3 (hs'.ext (p.trans p2))⟩
theorem zsY(hu:X.A.units + 2 < cLine)(ho:PE X o (TF a mo))(hb:PE X eb (TF a mb))(ha:PE X e (TF a m))(hs:swapsWith e (some (.Subscript o eb pos')) pos.line X.env=pure false:=by rfl):
  PS X (.Assign [.Subscript o eb pos'] e pos) (TFs a (sDput mo mb m)):=fun pins s σ' H D I h0=> TFs.el h0 fun α σ O w' O' hs' hR hm' q=> by
 obtain⟨⟨v,O1⟩,g1,h⟩:=bnd hm'
 obtain⟨⟨u,O2⟩,g2,h⟩:=bnd h
 obtain⟨⟨z,O3⟩,g3,h⟩:=bnd h
 dsimp only at h
 split at h
 case h_2=> cases h
 obtain⟨kvs,g4,h⟩:=bnd h
 obtain⟨n,g5,h⟩:=bnd h
 split at h
 case isFalse=> cases h
 rename_i hl
 cases h
 cases zdl g5
 refine zoV hu ho hb ha hs pins s σ' H D I ⟨α,σ,O,v,_,hs',hR,g1,fun β H1 v' p R r=> ⟨β,σ,O1,_,_,hs'.ext p,R,g2,fun γ H2 u' p2 R2 r2=> ⟨γ,σ,O2,_,_,hs'.ext (p.trans p2),R2,g3,fun δ H3 z' p3 R3 r3=> ?_⟩⟩⟩
 cases r3
 obtain⟨j',pl,ys,ej,e1,rfl,k1,k2⟩:=R3.dk g4 (r2.ext p3)
 cases ej
 exact⟨pl,_,rfl,DPut.k (k:=Sum.inl n) k1 (by rw[<- k2.length]; exact hl),q.nx ((p.trans p2).trans p3) (R3.writeD g4 e1 (fun b w hb e=> by rw[zbH hb]; exact e) ⟨_,k2.put zh7 n (r.ext (p2.trans p3)),zbS⟩) (hs'.ext ((p.trans p2).trans p3))⟩
theorem zsW(hu:X.A.units + 2 < cLine)(ho:PE X o (TF a mo))(hb:PE X eb (TF a mb))(ha:PE X e (TF a m))(hs:swapsWith e (some (.Subscript o eb pos')) pos.line X.env=pure false:=by rfl):
  PS X (.Assign [.Subscript o eb pos'] e pos) (TFs a (sNput mo mb m)):=fun pins s σ' H D I h0=> TFs.el h0 fun α σ O w' O' hs' hR hm' q=> by
 obtain⟨⟨v,O1⟩,g1,h⟩:=bnd hm'
 obtain⟨⟨u,O2⟩,g2,h⟩:=bnd h
 obtain⟨⟨z,O3⟩,g3,h⟩:=bnd h
 dsimp only at h
 split at h
 case h_2=> cases h
 obtain⟨kvs,g4,h⟩:=bnd h
 obtain⟨n,g5,h⟩:=bnd h
 split at h
 case isFalse=> cases h
 rename_i hl
 cases h
 refine zoV hu ho hb ha hs pins s σ' H D I ⟨α,σ,O,v,_,hs',hR,g1,fun β H1 v' p R r=> ⟨β,σ,O1,_,_,hs'.ext p,R,g2,fun γ H2 u' p2 R2 r2=> ⟨γ,σ,O2,_,_,hs'.ext (p.trans p2),R2,g3,fun δ H3 z' p3 R3 r3=> ?_⟩⟩⟩
 obtain⟨j',pl,ys,ej,e1,rfl,k1,k2⟩:=R3.dn g4 (r2.ext p3)
 cases ej
 obtain⟨kp,rfl,hk⟩:=R3.key g5 r3
 exact⟨pl,_,rfl,DPut.t (k:=n) k1 hk (by rw[<- k2.length]; exact hl),q.nx ((p.trans p2).trans p3) (R3.writeN g4 e1 (fun b w hb e=> by rw[zbH hb]; exact e) ⟨_,k2.put (fun _ _ z=> z) n (r.ext (p2.trans p3)),zbS⟩) (hs'.ext ((p.trans p2).trans p3))⟩
theorem zrg:zyR X (fun o i H Q=>∃(p:Addr) (xs:List V) (j:Int) (v:V),o= .ref p/\i= .int j/\0<=j/\H p=some (.lst xs)/\xs[j.toNat]? =some v/\Q v H):=by
 rintro pins s σ H o i ov iv Q I ro ri ⟨pl,xs,j,v,rfl,rfl,h0,hp,hv,q⟩
 cases ro
 obtain⟨t,rfl⟩:=ri
 obtain⟨its,r,pl',hz⟩:=I.list (SqL.of hp)
 obtain⟨w,ew,rw'⟩:=r.get hv
 have hl:=r.length
 have hn:=zjb
 have hlt:=(List.getElem?_eq_some_iff.mp hv).1
 exact wpAny_getItem_list pl'.isList h0 (by omega) (by simpa using ew) ⟨v,H,I,rw',q⟩
theorem znE{g:Int->Int->Option FV}{σ:FS}{O O':FH}{r:Out}(h:sAugS g mo mb m σ O=some (r,O')):∃(n:Nat) (j:Int) (xs:List FV) (y w z:FV) (O1 O2:FH),mo σ O=some (.ref n,O1)/\mb σ O1=some (.int j,O2)/\0<=j/\mutAt O2 (.ref n)=some xs/\xs[j.toNat]? =some y/\m σ O2=some (w,O2)/\op2 g y w=some z/\r= .nx σ/\O'=O2.set n (.lst (xs.set j.toNat z)):=by
 simp only[sAugS,Option.bind_eq_some_iff] at h
 obtain⟨⟨v,O1⟩,h1,⟨u,O2⟩,h2,h⟩:=h
 dsimp only at h h1 h2
 cases v <;> cases u <;> simp only[reduceCtorEq] at h
 split at h
 case isFalse=> cases h
 rename_i hj
 simp only[Option.bind_eq_some_iff] at h
 obtain⟨xs,h3,y,h4,⟨w,O3⟩,h5,h⟩:=h
 dsimp only at h h5
 split at h
 case isFalse=> cases h
 rename_i hO
 subst hO
 simp only[Option.bind_eq_some_iff,Option.some.injEq,Prod.mk.injEq] at h
 obtain⟨z,h6,rfl,rfl⟩:=h
 exact⟨_,_,xs,y,w,z,O1,_,h1,h2,hj,h3,h4,h5,h6,rfl,rfl⟩
theorem zsZ{op:Operator}{g:Int->Int->Option FV}(ho:OpM X inplaceOp op g)(hl:PE X o (TF a mo))(hi:PE X eb (TF a mb))(ha:PE X e (TF a m))
  (haug:∀ov iv new,augStore eb ov iv new=(do holding [new,ov,iv] (setItem ov iv new); release [new,ov,iv] []; pure .next):=by intros; rfl):PS X (.AugAssign (.Subscript o eb tpos) op e pos) (TFs a (sAugS g mo mb m)):=fun pins s σ' H D I h0=> TFs.el h0 fun α σ O w' O' hs' hR hm' q=> by
 obtain⟨C,gv,ho,hc⟩:=ho
 obtain⟨n,j,xs,y,w,z,O1,O3,g1,g2,hj,g3,g4,g5,g6,rfl,rfl⟩:=znE hm'
 obtain⟨ii,jj,rfl,rfl,g7⟩:=zks g6
 obtain⟨c1,c2⟩:=hc _ _ _ g7
 refine zs9 hl hi zrg ha ho zqz haug pins s σ' H D I ⟨α,σ,O,_,_,hs',hR,g1,fun β H1 v' p R r=> ⟨β,σ,O1,_,_,hs'.ext p,R,g2,fun γ H2 u' p2 R2 r2=> ?_⟩⟩
 cases r2
 obtain⟨j',pl,ys,ej,e1,rfl,k1,k2⟩:=R2.mut g3 (r.ext p2)
 cases ej
 obtain⟨y',k3,k4⟩:=k2.get g4
 cases k4
 refine⟨pl,ys,j,_,rfl,rfl,hj,k1,k3,γ,σ,O3,_,_,hs'.ext (p.trans p2),R2,g5,fun δ H3 w' p3 R3 r3=> ?_⟩
 cases r3
 refine⟨ii,jj,rfl,rfl,c1,?_⟩
 obtain⟨j',pl',ys',ej',e1',e2',k1',k2'⟩:=R3.mut g3 ((r.ext p2).ext p3)
 cases ej'; cases e2'
 have hlt:=(List.getElem?_eq_some_iff.mp g4).1
 refine⟨pl,ys',j,j.toNat,rfl,rfl,k1',?_,q.nx ((p.trans p2).trans p3) (R3.writeM g3 e1' (fun b w hb e=> by rw[zbH hb]; exact e) ⟨_,k2'.set (c2 δ) _,zbS⟩) (hs'.ext ((p.trans p2).trans p3))⟩
 unfold ixN
 rw[if_pos hj,if_pos (by rw[<- k2'.length]; omega)]
theorem zhz(N:Nat)(hc:PT X ec (TFt a t))(hb:PSs X body (TFs a ms))(hp:PassesOwn (model X.prog X.w) X.A X.env X.xe:=by exact PassesOwn.never):PS X (.While ec body [] pos) (TFs a (sWhile N t ms)):=fun pins s σ' H D I h0=> TFs.el h0 fun α σ O w' O' hs' hR hm' q=> by
 refine zqL hp hc hb pins s σ' H D I ⟨fun n σ' H=>∃α σ O r O',RS α σ σ'/\Rep a α O H/\loopW t ms n σ O=some (r,O')/\QO a α r O' D,⟨N,α,σ,O,_,_,hs',hR,hm',q⟩,?_⟩
 rintro n σ' H ⟨α,σ,O,r,O',hs',hR,hm',q⟩
 cases n with
 | zero=> cases hm'
 | succ n=>
  rw[loopW] at hm'
  obtain⟨⟨b,O1⟩,g1,h⟩:=bnd hm'
  refine⟨α,σ,O,b,O1,hs',hR,g1,fun β H1 p R=> ?_⟩
  cases b with
  | false=>
   cases h
   exact ztz (q.nx p R (hs'.ext p))
  | true=>
   obtain⟨⟨r1,O2⟩,g2,h⟩:=bnd h
   refine zty ⟨fun σ1' H'=>∃α σ O r O',RS α σ σ1'/\Rep a α O H'/\loopW t ms n σ O=some (r,O')/\QO a α r O' D,fun σ1' H' z=> ⟨n,Nat.lt_succ_self _,z⟩,β,σ,O1,r1,O2,hs'.ext p,R,g2,fun γ H2 p2 R2=> ?_⟩
   cases r1 with
   | nx σ1=> exact fun σ1' r1=> ⟨γ,σ1,O2,_,_,r1,R2,h,q.ext (p.trans p2)⟩
   | rt v=> cases h; exact fun v' rv=> q.rt (p.trans p2) R2 rv
theorem znS{l:FV}{all:List FV}:∀{xs:List FV} {σ:FS} {O:FH} {r:Out×FH},loopL i ms l all xs σ O=some r->lstAt O l=some all
 | [],σ,O,r,h=> by rw[loopL] at h; split at h; assumption; cases h
 | x::xs,σ,O,r,h=> by rw[loopL] at h; split at h; assumption; cases h
theorem ziW{i:Nat}{x:Str}(hK:a.K=X.K)(hN:X.N.Nodup)(ha:PE X e (TF a m))(hb:PSs X body (TFs a ms))(hi:X.N[i]? =some x:=by rfl)(hx:Loc X.env.scope x:=by exact Or.inl rfl)(hf:X.fn x=true\/X.env.scope.names.lookup x=some .local:=by first | exact .inl rfl | exact .inr rfl)
  (hc:X.calm=true:=by rfl) (hp:PassesOwn (model X.prog X.w) X.A X.env X.xe:=by exact PassesOwn.never) (hfs:∀x,foldedSetIterable e X.env x=pure x:=by intro _; rfl):PS X (.For (.Name x pos') e body [] pos) (TFs a (sForL i m ms)):=fun pins s σ' H D I h0=> TFs.el h0 fun α σ O w' O' hs' hR hm' q=> by
 obtain⟨⟨v,O1⟩,g1,h⟩:=bnd hm'
 obtain⟨all,g2,h⟩:=bnd h
 refine zoT hp hc (zoX ha) (zh2 hN hi hx hf) hb hfs pins s σ' H D I ⟨α,σ,O,_,_,hs',hR,g1,fun β H1 v' p R r=> ?_⟩
 obtain⟨pl,ys,rfl,k1,k2⟩:=R.lst hK g2 r
 refine⟨pl,rfl,⟨ys,k1⟩,zri (xs:=ys) (fun j σ' H=>∃γ σ O r O',β <+:γ/\RS γ σ σ'/\Rep a γ O H/\loopL i ms v all (all.drop j) σ O=some (r,O')/\QO a γ r O' D) ⟨β,σ,O1,_,_,zd7,hs'.ext p,R,h,q.ext p⟩ ?_ ?_ ?_⟩
 .rintro j σ1 H2 _ ⟨γ,σ2,O2,r2,O3,p2,hs2,R2,h2,q2⟩
  have hl:=znS h2
  obtain⟨pl',ys',e1,k1',k2'⟩:=R2.lst hK hl (r.ext p2)
  cases e1
  rw[(k2.ext p2).inj k2']
  exact k1'
 .rintro j y σ1 H2 hy ⟨γ,σ2,O2,r2,O3,p2,hs2,R2,h2,q2⟩
  obtain⟨z,hz,rz⟩:=k2.back hy
  have hd:all.drop j=z::all.drop (j + 1):=by
   obtain⟨hlt,rfl⟩:=List.getElem?_eq_some_iff.mp hz
   exact List.drop_eq_getElem_cons hlt
  rw[hd,loopL] at h2
  split at h2
  case isFalse=> cases h2
  obtain⟨⟨r3,O4⟩,g3,h2⟩:=bnd h2
  refine⟨γ,_,O2,r3,O4,hs2.set (rz.ext p2),R2,g3,fun δ H3 p3 R3=> ?_⟩
  cases r3 with
  | nx σ3=> exact fun σ3' rs=> ⟨δ,σ3,O4,_,_,p2.trans p3,rs,R3,h2,q2.ext p3⟩
  | rt u=> cases h2; exact fun u' ru=> q2.rt p3 R3 ru
 .rintro σ1 H2 ⟨γ,σ2,O2,r2,O3,p2,hs2,R2,h2,q2⟩
  rw[<- k2.length,List.drop_length,loopL] at h2
  split at h2
  case isFalse=> cases h2
  cases h2
  exact q2.nx zd7 R2 hs2
theorem zsX{i:Nat}{x:Str}{ea:Expr}(nn:Nat)(hN:X.N.Nodup)(hm:X.mg "range"=none)(ha:PE X ea (tC (.int (nn:Int))))(hb:PSs X body (TFs a ms))(hi:X.N[i]? =some x:=by rfl)(hx:Loc X.env.scope x:=by exact Or.inl rfl)(hf:X.fn x=true\/X.env.scope.names.lookup x=some .local:=by first | exact .inl rfl | exact .inr rfl)
  (hc:X.calm=true:=by rfl) (hg:Gl X "range":=by rfl) (hs:starEach [ea] X.env=[(false,eval ea X.env)]:=by rfl) (hsm:(nn:Int) < 2 ^ 62:=by decide) (hp:PassesOwn (model X.prog X.w) X.A X.env X.xe:=by exact PassesOwn.never) (hfs:∀x,foldedSetIterable (.Call (.Name "range" p) [ea] [] tpos) X.env x=pure x:=by intro _; rfl):PS X (.For (.Name x pos') (.Call (.Name "range" p) [ea] [] tpos) body [] pos) (TFs a (sForR i nn ms)):=fun pins s σ' H D I h0=> TFs.el h0 fun α σ O w' O' hs' hR hm' q=> by
 refine zoT hp hc (zoW hg hm (zel ha zfy hs) hs) (zh2 hN hi hx hf) hb hfs pins s σ' H D I ⟨nn,rfl,by omega,hsm,?_⟩
 rw[Int.toNat_natCast]
 refine zpw (n:=nn) (lo:=0) (fun j σ' H=>∃γ σ O r O',RS γ σ σ'/\Rep a γ O H/\loopR i ms j (nn - j) σ O=some (r,O')/\QO a γ r O' D) ⟨α,σ,O,_,_,hs',hR,hm',q⟩ ?_ ?_
 .rintro j σ1 H2 hj ⟨γ,σ2,O2,r2,O3,hs2,R2,h2,q2⟩
  rw[show nn - j=(nn - (j + 1)) + 1 by omega,loopR] at h2
  obtain⟨⟨r3,O4⟩,g3,h2⟩:=bnd h2
  refine⟨γ,_,O2,r3,O4,hs2.set (by rw[Int.zero_add]; exact rfl),R2,g3,fun δ H3 p3 R3=> ?_⟩
  cases r3 with
  | nx σ3=> exact fun σ3' rs=> ⟨δ,σ3,O4,_,_,rs,R3,h2,q2.ext p3⟩
  | rt u=> cases h2; exact fun u' ru=> q2.rt p3 R3 ru
 .rintro σ1 H2 ⟨γ,σ2,O2,r2,O3,hs2,R2,h2,q2⟩
  rw[Nat.sub_self,loopR] at h2
  cases h2
  exact q2.nx zd7 R2 hs2
end
section
variable {P:Program}{w:World}{K:PySem.W.Frag}{mg:Str->Option Value}{base:Heap}{a:Ad}{C:Addr}{x m qual:Str}{st:Stmt}{N ps:List Str}{k:Nat}{b:MS}
theorem zqx{α:Al}{vs:List FV}{vs':List V}(r:RVs α vs vs')(n:Nat):RS α (vs.map some ++ List.replicate n none) (vs'.map some ++ List.replicate n none):=by
 refine⟨by simp[r.length],fun i v e=> ?_⟩
 by_cases hi:i < vs.length
 .rw[List.getElem?_append_left (by simpa using hi),List.getElem?_map] at e
  obtain⟨z,hz,ez⟩:=Option.map_eq_some_iff.mp e
  cases ez
  obtain⟨v',h1,h2⟩:=r.get hz
  exact⟨v',by rw[List.getElem?_append_left (by simpa[<- r.length] using hi),List.getElem?_map,h1]; rfl,h2⟩
 .rw[List.getElem?_append_right (by simpa using hi),List.getElem?_replicate] at e
  split at e <;> cases e
def zaB(P:Program)(w:World)(K:PySem.W.Frag)(mg:Str->Option Value)(base:Heap)(a:Ad)(N:List Str)(qual:Str)(st:Stmt)(k:Nat)(b:MS):Prop:=
 ∀(f:Addr) (cdv:Value) (A:Around) (outer:List Env) (s:Shared) (H:Hp) (E:XK),Room k (A.deeper (envOfC qual (zaf st) s.heap.objs.size f cdv))->
  PSs (zue CX0 P w K mg base N qual (zaf st) f cdv A outer s H E).nox (zew st) (TFs a b)
theorem zrj{f:Addr}{fd:FuncData}(F:Fun K x qual st f fd)(S:FnScope N ps (zaf st))(hb:zaB P w K mg base a N qual st k b):FnOk P w K mg base CX0 (k + 1) f fd ps (SpF a (mFn ps.length N.length b)):=by
 refine F.ok S (fun vs H Q E h=> ?_) fun cdv A outer s H vs Q E hr h=> ?_
 .obtain⟨α,us,O,v,O',r,hR,hm,q⟩:=h
  unfold mFn at hm
  split at hm
  .rename_i hl; rw[<- r.length]; exact hl
  .cases hm
 .obtain⟨α,us,O,v,O',r,hR,hm,q⟩:=h
  unfold mFn at hm
  split at hm
  case isFalse=> cases hm
  rename_i hl
  obtain⟨⟨o,O1⟩,h1,hm⟩:=bnd hm
  refine⟨_,hb f cdv A outer s H E hr,α,_,O,o,O1,?_,hR,h1,fun β H1 p R=> ?_⟩
  .unfold L2.start
   rw[<- r.length,hl]
   exact zqx r _
  .cases o with
   | nx σ=> cases hm; exact fun σ' _=> q β H1 _ p R rfl
   | rt u=> cases hm; exact fun u' ru=> q β H1 u' p R ru
theorem zfo(F:FG K mg x st ps)(S:FnScope N ps (zaf st))(hb:zaB P w K mg base a N x st k b):CG P w K mg base (k + 1) x ps (SpF a (mFn ps.length N.length b)):=by
 obtain⟨f,fd,F,hm,hB⟩:=F
 exact⟨f,fd,zrj F S hb,hm,F.kp,hB⟩
theorem zb5(F:FM K C m qual st ps)(S:FnScope N ps (zaf st))(hb:zaB P w K mg base a N qual st k b):CM P w K mg base (k + 1) C m ps (SpF a (mFn ps.length N.length b)):=by
 obtain⟨f,fd,F,hm,hB⟩:=F
 exact⟨f,fd,zrj F S hb,hm,hB⟩
theorem zoe(F:FC K mg C x qual st ps)(S:FnScope N ps (zaf st))(hb:zaB P w K mg base a N qual st k b):CC P w K mg base (k + 1) C x ps (SpF a (mFn ps.length N.length b)):=by
 obtain⟨f,fd,F,hm,hg,hB⟩:=F
 exact⟨f,fd,zrj F S hb,hm,hg,hB⟩
end
end
end TS
namespace TS
noncomputable section
open PySem PySem.Spec PyProof.Rows L2
section
variable {X:Cx}{a:Ad}{e ea eb ec o:Expr}{es rest:List Expr}{m ma mb mc mo:ME}{t ta tb:MT}{mar:MA}{ms mr:MS}{pos p pos' apos tpos:Pos}{f x:Str}{n:Int}{c k i:Nat}
theorem zvk{ns:List Int}{q:Addr}(ha:PE X ea (TF a ma))(hm:X.mg x=some (.ref q))(ht:∀H,SqT X.K H q (ns.map V.int))(hg:Gl X x:=by rfl)(hd:(x==("__debug__":Str))=false:=by decide)(hb:behindInMarks .In (.Name x pos')=false:=by rfl):
  PT X (.Compare ea [.In] [.Name x pos'] pos) (TFt a (tIn ns ma)):=fun pins s σ' H Q I h0=> TFt.el h0 fun α σ O w' O' hs hR hm' q'=> by
 obtain⟨⟨v,O1⟩,h1,h⟩:=bnd hm'
 obtain⟨i,h2,h⟩:=bnd h
 cases h
 cases zdl h2
 refine zkq ziX ha (znH hm hg hd) hb pins s σ' H Q I ⟨α,σ,O,_,O1,hs,hR,h1,fun β H1 v' p R r=> ?_⟩
 cases r
 refine⟨q,_,rfl,.inr (ht H1),rfl,zgs ns,_,rfl,?_⟩
 show Q (if false=true then _ else inV (.int i) (ns.map V.int)) H1
 rw[if_neg Bool.false_ne_true,zjg]
 exact q' β H1 p R
theorem zvi{ns:List Int}{q:Addr}(ha:PE X ea (TF a ma))(hm:X.mg x=some (.ref q))(ht:∀H,SqT X.K H q (ns.map V.int))(hg:Gl X x:=by rfl)(hd:(x==("__debug__":Str))=false:=by decide)(hb:behindInMarks .In (.Name x pos')=false:=by rfl):
  PE X (.Compare ea [.In] [.Name x pos'] pos) (TF a (eB (tIn ns ma))):=fun pins s σ' H Q I h0=> TF.el h0 fun α σ O w' O' hs hR hm' q'=> by
 obtain⟨⟨b,O2⟩,h,hm'⟩:=bnd hm'
 cases hm'
 obtain⟨⟨v,O1⟩,h1,h⟩:=bnd h
 obtain⟨i,h2,h⟩:=bnd h
 cases h
 cases zdl h2
 refine zo1 ziX ha (znH hm hg hd) hb pins s σ' H Q I ⟨α,σ,O,_,O1,hs,hR,h1,fun β H1 v' p R r=> ?_⟩
 cases r
 refine⟨q,_,rfl,.inr (ht H1),rfl,zgs ns,?_⟩
 show Q (.bl (if false=true then _ else inV (.int i) (ns.map V.int))) H1
 rw[if_neg Bool.false_ne_true,zjg]
 exact q' β H1 _ p R rfl
theorem zs0{q:Addr}(hm:X.mg x=some (.ref q))(ht:∀H,SqT X.K H q [.str "null",.str "false",.str "true"])(hb:PE X eb (TF a mb))(hs:zie eb:=by exact fun _ _=> rfl)(hg:Gl X x:=by rfl)(hd:(x==("__debug__":Str))=false:=by decide):
  PE X (.Subscript (.Name x pos') eb pos) (TF a (eWord mb)):=fun pins s σ' H Q I h0=> TF.el h0 fun α σ O w' O' hs' hR hm' q'=> by
 obtain⟨⟨v,O1⟩,h1,h⟩:=bnd hm'
 obtain⟨u,h2,h⟩:=bnd h
 cases h
 unfold wordAt at h2
 split at h2
 case h_2=> cases h2
 rename_i i hv
 dsimp only at hv
 subst hv
 split at h2
 case isFalse=> cases h2
 rename_i h0
 refine zoZ zsf (znH hm hg hd) hb hs pins s σ' H Q I ⟨α,σ,O,_,O1,hs',hR,h1,fun β H1 v' p R r=> ?_⟩
 cases r
 have hl:i.toNat < 3:=by
  have:=(List.getElem?_eq_some_iff.mp h2).1
  exact this
 have key:∃z:Str,([V.str "null",V.str "false",V.str "true"]:List V)[i.toNat]? =some (.str z)/\∀β,RV β w' (.str z):=by
  match hi:i.toNat,hl with
  | 0,_=> rw[hi] at h2; cases h2; exact⟨_,rfl,fun _=> ⟨_,rfl,rfl,by decide⟩⟩
  | 1,_=> rw[hi] at h2; cases h2; exact⟨_,rfl,fun _=> ⟨_,rfl,rfl,by decide⟩⟩
  | 2,_=> rw[hi] at h2; cases h2; exact⟨_,rfl,fun _=> ⟨_,rfl,rfl,by decide⟩⟩
 obtain⟨z,hz,rz⟩:=key
 refine⟨q,_,i,.str z,rfl,rfl,ht H1,?_,q' β H1 _ p R (rz β)⟩
 unfold atI ixN
 rw[if_pos h0,if_pos (by show i < 3; omega)]
 exact hz
theorem zms{K:PySem.W.Frag}{H:Hp}:∀ns:List Int,DpAll K H (ns.map V.int) (ns.map PyData.int)
 | []=> .nil
 | n::ns=> .cons (.int n) (zms ns)
theorem zrM:∀ns ms:List Int,PyData.eqv (.list (ns.map PyData.int)) (.list (ms.map PyData.int))=decide (ns=ms):=by
 have key:∀ns ms:List Int,PyData.eqvAll (ns.map PyData.int) (ms.map PyData.int)=decide (ns=ms):=by
  intro ns
  induction ns with
  | nil=> intro ms; cases ms <;> simp[PyData.eqvAll]
  | cons n ns ih=>
   intro ms
   cases ms with
   | nil=> simp[PyData.eqvAll]
   | cons m ms=>
    simp only[List.map_cons,PyData.eqvAll,ih]
    by_cases h:n=m <;> by_cases h':ns=ms <;> simp[PyData.eqv,h,h']
 intro ns ms
 simp only[PyData.eqv,key]
theorem zm7:∀ns:List Int,PyData.canLayAll0 (ns.map PyData.int)=true
 | []=> rfl
 | n::ns=> by rw[List.map_cons,PyData.canLayAll0,zm7 ns]; rfl
theorem zlA:∀ns:List Int,PyData.depthAll (ns.map PyData.int)<=1
 | []=> by simp[PyData.depthAll]
 | n::ns=> by
  have:=zlA ns
  simp only[List.map_cons,PyData.depthAll,PyData.depth]
  omega
theorem ziJ(ns:List Int):SeqAt.shaped (.list (ns.map PyData.int))=true:=by
 have h1:=zm7 ns
 have h2:=zlA ns
 unfold SeqAt.shaped
 rw[Bool.and_eq_true]
 refine⟨h1,decide_eq_true ?_⟩
 simp only[PyData.depth]
 omega
theorem zu9{kk:Nat}(hK:a.K=X.K)(hr:Room kk X.A)(ha:PE X ea (TF a ma))(hb:PE X eb (TF a mb)):PT X (.Compare ea [.Eq] [eb] pos) (TFt a (tEqL ma mb)):=fun pins s σ' H Q I h0=> TFt.el h0 fun α σ O w' O' hs' hR hm' q=> by
 obtain⟨⟨v,O1⟩,h1,h⟩:=bnd hm'
 obtain⟨⟨u,O2⟩,h2,h⟩:=bnd h
 obtain⟨xs,h3,h⟩:=bnd h
 obtain⟨ys,h4,h⟩:=bnd h
 obtain⟨ns,h5,h⟩:=bnd h
 obtain⟨ns2,h6,h⟩:=bnd h
 cases h
 refine zkq (zvM hr.units) ha hb (zha _) pins s σ' H Q I ⟨α,σ,O,_,O1,hs',hR,h1,fun β H1 v' p R r=> ⟨β,σ,O1,_,_,hs'.ext p,R,h2,fun γ H2 u' p2 R2 r2=> ?_⟩⟩
 obtain⟨pl,zs,rfl,g1,g2⟩:=R2.lst hK h3 (r.ext p2)
 obtain⟨pl',zs',rfl,g1',g2'⟩:=R2.lst hK h4 r2
 rw[g2.ints h5] at g1
 rw[g2'.ints h6] at g1'
 refine⟨_,_,.lst g1 (zms ns),.lst g1' (zms ns2),ziJ _,ziJ _,_,rfl,?_⟩
 rw[zrM]
 exact q γ H2 (p.trans p2) R2
theorem zq5{f:MF}{l:FV}{D:Nat}{all:List FV}:∀{xs:List FV} {O O':FH},lcM f l D all xs O=some O'->lstAt O l=some all
 | [],O,O',h=> by rw[lcM] at h; split at h; assumption; cases h
 | x::xs,O,O',h=> by rw[lcM] at h; split at h; assumption; cases h
theorem zsr{α:Al}:∀{xs:List FV} {bs:List Bool} {ys:List V},RVs α xs ys->xs.mapM blOf=some bs->ys=bs.map V.bl
 | [],bs,_,.nil,e=> by simp at e; subst e; rfl
 | x::r,bs,_,.cons h t,e=> by
  rw[List.mapM_cons] at e
  cases x with
  | bl i=>
   simp only[blOf,Option.bind_eq_bind,Option.bind_some,Option.bind_eq_some_iff,Option.pure_def,Option.some.injEq] at e
   obtain⟨ms,e1,rfl⟩:=e
   rw[zsr t e1,show _=V.bl i from h]; rfl
  | _=> simp[blOf] at e
theorem zxV{kk:Nat}{ps:List Str}{mf:MF}{sc:Scope}{i:Nat}{y gname:Str}{p1 p2 p3 p4 p5 p6 p7:Pos}(hK:a.K=X.K)(G:CG X.prog X.w X.K X.mg X.base kk gname ps (SpF a mf))(hr:Room kk X.A)(hmall:X.mg "all"=none)(hN:X.N.Nodup)(ha:PE X ea (TF a ma))
  (hc:X.calm=true:=by rfl) (ok:BlkOk X.N X.env.scope sc [(y,i)]:=by exact znt (by decide +kernel))
  (hg:∀(s:Shared) (H:Hp) (C:Addr) (cl:List (Str×Addr)) (fp:List Addr),PG (X.blk s H sc (compEnvC sc cl C X.env) fp) (.Name y p1) (ztE i):=by exact fun _ _ _ _ _=> zh2 (by assumption) rfl (Or.inl rfl) (Or.inr rfl))
  (he:∀(s:Shared) (H:Hp) (C:Addr) (cl:List (Str×Addr)) (fp:List Addr),PE (X.blk s H sc (compEnvC sc cl C X.env) fp) (.Call (.Name gname p2) [.Name y p3] [] p4) (TF a (eCall mf (aCons (eV i) aNil))):=by exact fun _ _ _ _ _=> zcR G hr (zab (q_v i) zah))
  (hs:∀x,foldedSetIterable ea X.env x=pure x:=by intro _; rfl) (hga:Gl X "all":=by rfl) (hst:starEach [.ListComp (.Call (.Name gname p2) [.Name y p3] [] p4) [⟨.Name y p1,ea,[],0⟩] sc p5] X.env=(false,eval (.ListComp (.Call (.Name gname p2) [.Name y p3] [] p4) [⟨.Name y p1,ea,[],0⟩] sc p5) X.env)::starEach [] X.env:=by rfl) (hpl:(backTo p7 (starEach [] X.env)).any (·.1)=false:=by rfl):
  PE X (.Call (.Name "all" p6) [.ListComp (.Call (.Name gname p2) [.Name y p3] [] p4) [⟨.Name y p1,ea,[],0⟩] sc p5] [] p7) (TF a (eAll mf ma)):=fun pins s σ' H Q I h0=> TF.el h0 fun α σ O w' O' hs' hR hm' q=> by
 obtain⟨⟨v,O1⟩,h1,h⟩:=bnd hm'
 obtain⟨xs,h2,h⟩:=bnd h
 obtain⟨O2,h3,h⟩:=bnd h
 obtain⟨acc,h4,h⟩:=bnd h
 obtain⟨bs,h5,h⟩:=bnd h
 cases h
 refine zgH (zwJ hc) hga hmall boot_all (zel (zx1 hc hN (zoX ha) ok hg (fun _ _ _ _ _=> zs6) he hs) zfy hst) (by decide) (by decide) hst hpl pins s σ' H Q I ?_
 refine⟨α,σ,O,_,O1,hs',hR,h1,fun β H1 v' p R r=> ?_⟩
 obtain⟨pl,ys,rfl,k1,k2⟩:=R.lst hK h2 r
 refine⟨pl,rfl,⟨ys,k1⟩,fun D hD=> ?_⟩
 have Rn:Rep a (β ++ [D]) (O1 ++ [.lst []]) (upd H1 D (.lst [])):=R.newL hD .nil
 have hw:RS (β ++ [D]) (σ.set i none) (zjA σ' [i]):=by
  refine⟨by simp[zjA,hs'.1],fun j z e=> ?_⟩
  show∃v',(σ'.set i none)[j]? =_/\_
  by_cases hj:i=j
  .subst hj
   by_cases hl:i < σ.length
   .rw[List.getElem?_set_self hl] at e; cases e
   .rw[List.getElem?_eq_none (by simp; omega)] at e; cases e
  .rw[List.getElem?_set_ne hj] at e |-
   obtain⟨v',e',r'⟩:=hs'.2 j z e
   exact⟨v',e',r'.ext (p.trans (List.prefix_append _ _))⟩
 refine ztu (xs:=ys) (fun j H=>∃γ O,(β ++ [D]) <+:γ/\Rep a γ O H/\lcM mf v O1.length xs (xs.drop j) O=some O') ⟨β ++ [D],_,zd7,Rn,h3⟩ ?_ ?_ ?_
 .rintro j H2 _ ⟨γ,O3,p2,R2,h6⟩
  obtain⟨pl',ys',e1,k1',k2'⟩:=R2.lst hK (zq5 h6) (r.ext ((List.prefix_append _ _).trans p2))
  cases e1
  rw[(k2.ext ((List.prefix_append _ _).trans p2)).inj k2']
  exact k1'
 .rintro j y' H2 hy ⟨γ,O3,p2,R2,h6⟩
  obtain⟨z,hz,rz⟩:=k2.back hy
  have hd:xs.drop j=z::xs.drop (j + 1):=by
   obtain⟨hlt,rfl⟩:=List.getElem?_eq_some_iff.mp hz
   exact List.drop_eq_getElem_cons hlt
  rw[hd,lcM] at h6
  split at h6
  case isFalse=> cases h6
  obtain⟨⟨b,O4⟩,g3,h6⟩:=bnd h6
  obtain⟨bb,g4,h6⟩:=bnd h6
  obtain⟨acc',g5,h6⟩:=bnd h6
  split at h6
  case isFalse=> cases h6
  rename_i hl
  refine⟨?_,?_⟩
  .show (((σ'.set i none).set i (some y')).set i none)=σ'.set i none
   simp
  .unfold zyG
   dsimp only
   rw[if_pos rfl]
   refine⟨γ,(σ.set i none).set i (some z),O3,b,O4,(hw.ext p2).set (rz.ext ((List.prefix_append _ _).trans p2)),R2,?_,fun δ H4 b' p3 R4 rb=> ?_⟩
   .have hl2:i < ((σ.set i none).set i (some z)).length:=by
     have e1:=hs'.1
     have e2:=I.len
     have e3:=(List.getElem?_eq_some_iff.mp (ok.ix (y,i) (by simp))).1
     simp only[List.length_set]
     omega
    have e4:eV i ((σ.set i none).set i (some z)) O3=some (z,O3):=by
     unfold eV
     rw[List.getElem?_set_self (by simpa using hl2)]
    unfold eCall aCons aNil
    rw[e4]
    exact g3
   .have rD:RV δ (.ref O1.length) (.ref D):=(R.last.ext p2).ext p3
    obtain⟨j',pl',zs',ej,e1',e2',g1',g2'⟩:=R4.mut g5 rD
    cases ej; cases e2'
    exact⟨zs',g1',by rw[<- g2'.length]; exact hl,δ,_,p2.trans p3,R4.writeM (o:= .lst (acc' ++ [b])) g5 e1' (fun b w hb e=> by rw[zbH hb]; exact e) ⟨_,g2'.app (.cons rb .nil),zbS⟩,h6⟩
 .rintro H2 ⟨γ,O3,p2,R2,h6⟩
  rw[<- k2.length,List.drop_length,lcM] at h6
  split at h6
  case isFalse=> cases h6
  cases h6
  have rD:RV γ (.ref O1.length) (.ref D):=R.last.ext p2
  obtain⟨j',pl',zs',ej,e1',e2',g1',g2'⟩:=R2.mut h4 rD
  cases ej; cases e2'
  rw[zsr g2' h5] at g1'
  exact⟨D,bs,rfl,SqL.of g1',q γ H2 _ ((p.trans (List.prefix_append _ _)).trans p2) R2 rfl⟩
end
end
end TS
namespace L2
open PySem
open AutoSeq1 (wpAny_loadPart')
section
variable {prog:Program}{w:World}{A:Around}{E:Value->Shared->Prop}{s:Shared}
theorem zh4{it t:Addr}{i:Nat}{items:Array Value}{x:Value}{Q:Value->Shared->Prop}(hit:s.heap.IsTupleIter it t i)
  (ht:s.heap.IsTuple t items) (hx:items[i]? =some x)
  (hQ:∀h',h'.IsTupleIter it t (i + 1)->Heap.SameBut it s.heap h'->Q x {s with heap:=h'}):
  wpAny (model prog w) A (Builtin.SmallTypes.nextOf (.ref it)) Q E s:=by
 obtain⟨o,ho,hc,hd⟩:=id hit
 obtain⟨ol,hol,_,nl,hdl⟩:=ht
 unfold Builtin.SmallTypes.nextOf
 refine wpAny_bind (wpAny_callSpecial?_slot (name:=Str.ofString "__next__") hit.typeIs F.slot_tuple_iterator_next
  (wpAny_call_entry F.slot_tuple_iterator_next hit.typeIs F.entry_tuple_iterator_next ?_ (F.args_tuple_iterator_next_1 _)))
 show wpAny _ _ (field (.ref it) 0 >>=_) _ _ s
 refine wpAny_bind (wpAny_field ho hd (x:= .ref t) rfl ?_)
 show wpAny _ _ (if (Value.ref t==Value.none)=true then _ else _) _ _ s
 rw[if_neg (show¬((Value.ref t==Value.none)=true) from Bool.false_ne_true)]
 show wpAny _ _ (field (.ref it) 1 >>=_) _ _ s
 refine wpAny_bind (wpAny_field ho hd (x:= .int i 0) rfl ?_)
 show wpAny _ _ (seqItems? (.ref t) >>=_) _ _ s
 refine wpAny_bind (wpAny_seqItems hol hdl ?_)
 simp only[Int.toNat_natCast,hx]
 refine wpAny_bind (wpAny_setField ho hd (by simp) (wpAny_pure ⟨x,rfl,wpAny_pure (hQ _ ?_ (Heap.SameBut.update ..))⟩))
 exact⟨_,Heap.get?_update_self _ ho (Obj.isFreed_of_fields (Obj.data_mapFields hd _)),(Obj.cls_mapFields ..).trans hc,by
  rw[Obj.data_mapFields hd]; simp[rawInt]⟩
theorem ziu{it t:Addr}{i:Nat}{items:Array Value}{Q:Value->Shared->Prop}(hh:A.handled=none)
  (hit:s.heap.IsTupleIter it t i) (ht:s.heap.IsTuple t items) (hx:items[i]? =none)
  (hE:∀h' e,Heap.ExtBut it s.heap h'->(∃o,h'.get? e=some o/\o.cls= .type "StopIteration")->E (.ref e) {s with heap:=h'}):
  wpAny (model prog w) A (Builtin.SmallTypes.nextOf (.ref it)) Q E s:=by
 obtain⟨o,ho,hc,hd⟩:=id hit
 obtain⟨ol,hol,_,nl,hdl⟩:=ht
 unfold Builtin.SmallTypes.nextOf
 refine wpAny_bind (wpAny_callSpecial?_slot (name:=Str.ofString "__next__") hit.typeIs F.slot_tuple_iterator_next
  (wpAny_call_entry F.slot_tuple_iterator_next hit.typeIs F.entry_tuple_iterator_next ?_ (F.args_tuple_iterator_next_1 _)))
 show wpAny _ _ (field (.ref it) 0 >>=_) _ _ s
 refine wpAny_bind (wpAny_field ho hd (x:= .ref t) rfl ?_)
 show wpAny _ _ (if (Value.ref t==Value.none)=true then _ else _) _ _ s
 rw[if_neg (show¬((Value.ref t==Value.none)=true) from Bool.false_ne_true)]
 show wpAny _ _ (field (.ref it) 1 >>=_) _ _ s
 refine wpAny_bind (wpAny_field ho hd (x:= .int i 0) rfl ?_)
 show wpAny _ _ (seqItems? (.ref t) >>=_) _ _ s
 refine wpAny_bind (wpAny_seqItems hol hdl ?_)
 simp only[Int.toNat_natCast,hx]
 refine wpAny_bind (wpAny_rule (wpAny_bind (wpAny_setField ho hd (by simp) ?_)))
 show wpAny _ _ (newExc (.type "StopIteration") [] >>=_) _ _ _
 refine wpAny_bind ?_
 simp only[newExc,newTuple]
 refine wpAny_bind (wpAny_newObj_type ?_ (by size_fits))
 refine wpAny_bind (m:=firstArgMember _ _) (wpAny_of_eq (a:=Value.none) (by first | rfl |(simp only[firstArgMember]; rfl)) ?_)
 refine wpAny_newObj_type ?_ (by size_fits)
 simp only[raiseNew]
 refine wpAny_bind (wpAny_handled ?_)
 first | rw[show A.in1.handled=none from hh] | rw[hh]
 refine wpAny_bind (wpAny_pure (wpAny_throw ?_))
 exact hE _ _ (((Heap.SameBut.update ..).extBut.push _).push _) ⟨_,Heap.get?_push_size _ rfl,rfl⟩
end
theorem zjl{prog:Program}{w:World}{A:Around}(hh:A.handled=none)(it l:Addr)(hne:l≠it)(items:Array Value):
  Draws prog w A it [it,l] items.size (fun i v=> items[i]? =some v) (fun i h=> h.IsTupleIter it l i/\h.IsTuple l items) where
 live:=fun _ _ st=> let ⟨o,ho,_⟩:=st.1;⟨o,ho⟩
 frame:=fun _ _ _ st hk=> ⟨st.1.at fun o e=> hk it (by simp) o e,let ⟨o,ho,r⟩:=st.2;⟨o,hk l (by simp) o ho,r⟩⟩
 item:=fun i s Q E hi st hQ=> by
  refine zh4 st.1 st.2 (x:=items[i]) (by simp[hi]) fun h' hit' hs'=> ?_
  exact hQ _ h' s.toks (by simp[hi]) ⟨hit',st.2.extBut hs'.extBut hne⟩ hs'
 done:=fun s Q E st hE=> ziu hh st.1 st.2 (by simp) hE
theorem zgX(l:Addr)(items:Array Value)(n:Nat)(dct:Option Addr)(sl:Array (Option Value)):
  Meets (Builtin.«enumerate.__new__» ⟨[.type "enumerate",.ref l],[]⟩) (fun _ R s=> s.heap.get? l=some {cls:= .type "tuple",dict:=dct,data:= .seq items n,slots:=sl}/\
   R (.ok (.ret (.ref (s.heap.push {cls:= .type "tuple_iterator",data:= .fields #[.ref l,.int 0 0]}).objs.size)))
    {s with heap:=(s.heap.push {cls:= .type "tuple_iterator",data:= .fields #[.ref l,.int 0 0]}).push {cls:= .type "enumerate",data:= .fields #[.none,.bool false,.ref s.heap.objs.size,rawInt 0,.none,.none]}}):=
 .of_wp fun prog w A R s h=> by
  obtain⟨hp,g,d,tk,os⟩:=s; obtain⟨hl,h⟩:=h
  have hsub:=sub_enumerate
  have hL:Heap.IsTuple (Shared.heap ⟨hp,g,d,tk,os⟩) l items:=⟨_,hl,rfl,n,rfl⟩
  wp_walk using wpAny_loadPart' hl
  refine wpAny_stack_any fun st=> wpAny_pure ?_
  split
  .rename_i c _ _ _ _ _
   cases (c==Value.type "enumerate")
   .wp_walk using wpAny_loadPart' hl,wpAny_pyIter_tuple hL
    exact⟨_,rfl,h⟩
   .wp_walk using wpAny_loadPart' hl,wpAny_pyIter_tuple hL
    exact⟨_,rfl,h⟩
  .wp_walk using wpAny_loadPart' hl,wpAny_pyIter_tuple hL
   exact⟨_,rfl,h⟩
section
variable {prog:Program}{w:World}{A:Around}{E:Value->Shared->Prop}{s:Shared}
theorem zgZ{l:Addr}{items:Array Value}{Q:Value->Shared->Prop}(hL:s.heap.IsTuple l items)
  (h:∀h',IsEnum h' (s.heap.objs.size + 1) s.heap.objs.size 0 .none->h'.IsTupleIter s.heap.objs.size l 0->h'.objs.size=s.heap.objs.size + 2->
   (∀b o,s.heap.get? b=some o->h'.get? b=some o)->Q (.ref (s.heap.objs.size + 1)) {s with heap:=h'}):
  wpAny (model prog w) A (call (.type "enumerate") [.ref l]) Q E s:=by
 obtain⟨⟨c,dct,dt,sl⟩,hl,hc,n,hd⟩:=hL
 replace hc:c= .type "tuple":=hc
 replace hd:dt= .seq items n:=hd
 subst hc hd
 refine callType_new F.called_enumerate (by decide) (F.typeCall_enumerate_1 _) (F.newCall_enumerate_1 _) (fun obj=> F.args_object_init_2 obj _) F.entry_enumerate_new
  (zgX l items n dct sl) ⟨hl,?_⟩
 have hz:(s.heap.push {cls:= .type "tuple_iterator",data:= .fields #[.ref l,.int 0 0]}).objs.size=s.heap.objs.size + 1:=Heap.size_push ..
 show _/\_
 rw[hz]
 have he:IsEnum ((s.heap.push {cls:= .type "tuple_iterator",data:= .fields #[.ref l,.int 0 0]}).push
   {cls:= .type "enumerate",data:= .fields #[.none,.bool false,.ref s.heap.objs.size,rawInt 0,.none,.none]}) (s.heap.objs.size + 1) s.heap.objs.size 0 .none:=by
  have:=Heap.get?_push_size (s.heap.push {cls:= .type "tuple_iterator",data:= .fields #[.ref l,.int 0 0]})
   (o:={cls:= .type "enumerate",data:= .fields #[.none,.bool false,.ref s.heap.objs.size,rawInt 0,.none,.none]}) rfl
  rw[hz] at this; exact this
 refine⟨⟨_,he,rfl⟩,h _ he ⟨_,Heap.get?_push_of_some _ (Heap.get?_push_size _ rfl),rfl,rfl⟩ (by rw[Heap.size_push,hz]) fun b o x=> Heap.get?_push_of_some _ (Heap.get?_push_of_some _ x)⟩
end
end L2
namespace L2
open PySem PySem.Spec PyProof.Rows
def Iet(K:PySem.W.Frag)(a:Addr):It:=
 ⟨fun i H=>∃(xs:List V) (x:V),SqT K H a xs/\xs[i]? =some x,fun i H v H'=>∃T x,v= .ref T/\H T=none/\H'=upd H T (.tup [.int (i:Nat),x])/\∀xs,SqT K H a xs->xs[i]? =some x,fun i H=>∃xs:List V,SqT K H a xs/\xs.length=i⟩
theorem znA{P:Program}{w:World}{K:PySem.W.Frag}{elts:List Expr}{kk:Nat}{tpos:Pos}(a e it:Addr)(hai:a≠it)(hae:a≠e):
  Turn P w K (.Tuple elts kk tpos) (Iet K a) [e,it] e (fun i h=> (∃old,IsEnum h e it ((i:Nat):Int) old)/\h.IsTupleIter it a i/\e≠it) where
 mem:=by simp
 obj:=fun i h st b hb=> by
  obtain⟨⟨old,he⟩,⟨o,ho,hc,hd⟩,_⟩:=st
  have e':b=e\/b=it:=by simpa using hb
  rcases e' with z | z
  .rw[z]; exact⟨_,he,fun v q=> nomatch q⟩
  .rw[z]; exact⟨o,ho,fun v q=> by rw[hd] at q; cases q⟩
 keep:=fun i h h' st k=> let ⟨⟨old,he⟩,hi,hne⟩:=st;⟨⟨old,k e (by simp) _ he⟩,hi.at fun o q=> k it (by simp) o q,hne⟩
 item:=by
  intro X hP hw hK hc i pins s σ H E I hf st hg
  subst hP hw hK
  obtain⟨⟨old,he⟩,hit,hne⟩:=st
  obtain⟨xs,x,hq,hx⟩:=hg
  obtain⟨its,rv,p,hz⟩:=I.tuple hq
  obtain⟨u,hu,ru⟩:=rv.get hx
  have hel:e < s.heap.objs.size:=Heap.lt_size he
  have hil:it < s.heap.objs.size:=by obtain⟨_,q,_⟩:=hit; exact Heap.lt_size q
  have hlt:i < its.toArray.size:=by
   have:=(List.getElem?_eq_some_iff.mp hu).1
   simpa using this
  refine wpAny_pyNext_enum_itemD (D:=zjl (A:=X.A.in1) (I.ok.hd hc) it a hai its.toArray) he ⟨hit,p⟩ hlt hne (by simp[hne,Ne.symm hae]) fun y h' tk hy ho hs' hT hsz hk=> ?_
  have ey:y=u:=by
   have e1:its.toArray[i]? =some y:=hy
   have e2:its.toArray[i]? =some u:=by simpa using hu
   rw[e1] at e2; exact Option.some.inj e2
  subst ey
  refine⟨_,rfl,wpAny_letOwnedTupleGo_enum (s:={s with heap:=h',toks:=tk + 1}) ho fun h'' he' sb=> ?_⟩
  have hT2:h''.get? s.heap.objs.size=some {cls:= .type "tuple",data:= .seq #[.int i tk,y]}:=(sb.2 _ (Nat.ne_of_gt hel)).trans hT
  have new:ObjOk X.prog X.w (upd H s.heap.objs.size (.tup [.int (i:Nat),x])) h'' s.heap.objs.size (.tup [.int (i:Nat),x]):=
   ⟨by show 2<=sizeLine; decide,[.int i tk,y],.cons ⟨_,rfl⟩ (.cons ru .nil),⟨_,hT2,rfl,_,rfl⟩⟩
  have I1:Inv X pins σ (upd H s.heap.objs.size (.tup [.int (i:Nat),x])) {s with heap:=h'',toks:=tk + 1}:=
   I.turnedNew (ch:=[e,it]) (fun b ob hb q=> (sb.2 b (fun z=> hb (by simp[z]))).trans (hk b ob (fun z=> hb (by simp[z])) (fun z=> hb (by simp[z])) q)) hf (Nat.le_refl _) new
  refine⟨.ref s.heap.objs.size,_,I1,rfl,⟨_,x,rfl,I.hok.fresh (Nat.le_refl _),rfl,fun ys hy=> by rw[I.tuple_inj hy hq]; exact hx⟩,⟨⟨y,?_⟩,hs'.1.at fun o q=> (sb.2 it (Ne.symm hne)).trans q,hne⟩,fun b hb=> ?_⟩
  .have e1:((i + 1:Nat):Int)=(i:Int) + 1:=by omega
   rw[e1]; exact he'
  .have hb':b < s.heap.objs.size:=by
    have e':b=e\/b=it:=by simpa using hb
    rcases e' with z | z
    .rw[z]; exact hel
    .rw[z]; exact hil
   rw[zbH (Nat.ne_of_lt hb')]
   exact (hf b hb).1
 done:=by
  intro X hP hw hK hc i pins s σ H E I hf st hg
  subst hP hw hK
  obtain⟨⟨old,he⟩,hit,hne⟩:=st
  obtain⟨xs,hq,hx⟩:=hg
  obtain⟨its,rv,p,hz⟩:=I.tuple hq
  obtain⟨f0,f1,f2,f3,f4,f5⟩:=hf it (by simp)
  have hl:=rv.length
  have hi:its.toArray.size=i:=by simp; omega
  refine wpAny_pyNext_enum_endD (D:=zjl (A:=X.A.in1) (I.ok.hd hc) it a hai its.toArray) he (by rw[hi]; exact⟨hit,p⟩) fun h' eb=> ⟨rfl,I.turned (t':=s.toks) (fun b o hb q=> eb b o hb q) f0 f1 f3 f4 f5⟩
 self:=fun A i s Q E st h=> let ⟨⟨_,he⟩,_⟩:=st; wpAny_pyIter_enum he h
def zv5(K:PySem.W.Frag)(ta:TA):TI:=fun σ H R=> ta σ H fun vs H1=>∃a xs,vs=[.ref a]/\SqT K H1 a xs/\R (Iet K a) H1
theorem zqM{X:Cx}{e:Expr}{ta:TA}{p pos tpos:Pos}{elts:List Expr}{kk:Nat}(hg:Gl X "enumerate")(hm:X.mg "enumerate"=none)(ha:PA X [e] ta)(hs:starEach [e] X.env=[(false,eval e X.env)]:=by rfl):
  PI X (.Tuple elts kk tpos) (.Call (.Name "enumerate" p) [e] [] pos) (zv5 X.K ta):=by
 intro pins s σ H R I h
 refine Call_ (zm6 I hg hm boot_enumerate (PyProof.Rows.callWith_type1 (thn (ha pos pins s σ H _ I h) fun us s1 zz=> ?_) hs rfl))
 obtain⟨vs,H1,I1,r1,q1⟩:=zz
 obtain⟨a,xs,ex,hq,q⟩:=q1
 subst ex
 cases r1 with
 | cons r rr=>
  cases rr
  cases r
  obtain⟨its,rv,p',hz⟩:=I1.tuple hq
  have hal:a < s1.heap.objs.size:=by obtain⟨_,q,_⟩:=p'; exact Heap.lt_size q
  refine zgZ p' fun h' he hit hsz hk=> wpAny_pyIter_enum he ?_
  have I2:Inv X pins σ H1 {s1 with heap:=h'}:=I1.kept (t':=s1.toks) hk
  refine⟨s1.heap.objs.size + 1,[s1.heap.objs.size + 1,s1.heap.objs.size],_,_,H1,rfl,I2,znA a (s1.heap.objs.size + 1) s1.heap.objs.size (Nat.ne_of_lt hal) (Nat.ne_of_lt (Nat.lt_succ_of_lt hal)),⟨⟨.none,he⟩,hit,Nat.succ_ne_self _⟩,fun b hb=> ?_,q⟩
  have e':b=s1.heap.objs.size + 1\/b=s1.heap.objs.size:=by simpa using hb
  have hle:s1.heap.objs.size<=b:=by
   rcases e' with z | z
   .rw[z]; exact Nat.le_add_right _ _
   .rw[z]; exact Nat.le_refl _
  exact I1.fpOk hle (I1.hok.fresh hle)
theorem zpx{K:PySem.W.Frag}{a:Addr}{xs:List V}{g:TG}{tb:TS}{D:Ends}{σ:St}{H:Hp}(ht:∀H,SqT K H a xs)(Pv:Nat->St->Hp->Prop)(h0:Pv 0 σ H)
  (hs:∀i x σ H T,xs[i]? =some x->H T=none->Pv i σ H->g (.ref T) σ (upd H T (.tup [.int (i:Nat),x])) fun σ2 H2=> tb {D with nx:=Pv (i + 1),ct:=Pv (i + 1),bk:=D.nx} σ2 H2) (hd:∀σ H,Pv xs.length σ H->D.nx σ H):
  ∃W:Nat->Nat->St->Hp->Prop,(∃m,W 0 m σ H)/\∀i m σ H,W i m σ H->
   ((Iet K a).stop i H/\D.nx σ H)\/((Iet K a).go i H/\∃N:St->Hp->Prop,(∀σ' H',N σ' H'->∃m',m' < m/\W (i + 1) m' σ' H')/\∀x H',(Iet K a).yld i H x H'->g x σ H' fun σ2 H2=> tb {D with nx:=N,ct:=N,bk:=D.nx} σ2 H2):=by
 refine⟨fun i m σ H=> m=xs.length - i/\i<=xs.length/\Pv i σ H,⟨xs.length,by simp,Nat.zero_le _,h0⟩,?_⟩
 rintro i m σ H ⟨rfl,hi,p⟩
 by_cases hlt:i < xs.length
 .refine .inr ⟨⟨xs,xs[i],ht H,by simp[hlt]⟩,Pv (i + 1),fun σ' H' p'=> ⟨xs.length - (i + 1),by omega,rfl,hlt,p'⟩,fun x H' y=> ?_⟩
  obtain⟨T,z,rfl,hT,rfl,hz⟩:=y
  exact hs i z σ H T (hz xs (ht H)) hT p
 .have e:i=xs.length:=by omega
  subst e
  exact .inl ⟨⟨xs,ht H,rfl⟩,hd σ H p⟩
theorem zoc{X:Cx}(hc:X.calm=true):zlM X (.builtin "sorted") (fun vs H Q=>∃(a:Addr) (kvs:List (Key×V)) (ns:List Int),vs=[V.ref a]/\H a=some (.dK kvs)/\kvs.map (·.1)=ns.map Sum.inl/\ns.length < 64/\
  ∀(ns':List Int) (p:Addr),ns'.Perm ns->ns'.Pairwise (·<=·)->H p=none->Q (.ref p) (upd H p (.lst (ns'.map V.int)))):=by
 intro pins s σ H vs us Q I r h
 obtain⟨a,kvs,ns,rfl,ha,hk,h64,q⟩:=h
 rw[Vals.ref1 r]
 obtain⟨hz,hd,vs,rel,dd⟩:=zt7 I.hok ha
 obtain⟨ep,hat⟩:=dd.dictAt
 have hlen:vs.length=ns.length:=by
  have e1:=Paired.length rel
  have e2:=congrArg List.length hk
  simp only[List.length_map] at e2
  omega
 have keyAt:∀(j:Nat) (k:Key) (x:Value),vs[j]? =some (k,x)->∃n,ns[j]? =some n/\k=Sum.inl n:=by
  intro j k x e
  have hj:j < kvs.length:=by
   have:=(List.getElem?_eq_some_iff.mp e).1
   rw[Paired.length rel]; exact this
  have key:∀{l:List (Key×V)} {m:List (Key×Value)} (j:Nat),KV l m->∀k x,m[j]? =some (k,x)->(l.map (·.1))[j]? =some k:=by
   intro l m j rl
   induction rl generalizing j with
   | nil=> intro k x e; simp at e
   | @cons p q ps qs h t ih=>
    intro k x e
    cases j with
    | zero=> simp at e; simp[h.1,e]
    | succ j=> simpa using ih j k x (by simpa using e)
  have e2:=key j rel k x e
  rw[hk,List.getElem?_map] at e2
  obtain⟨n,h1,h2⟩:=Option.map_eq_some_iff.mp e2
  exact⟨n,h1,h2.symm⟩
 refine Calls.call_function_entry kind_sorted plain_sorted entry_sorted (args_sorted1 _) ?_
 unfold Builtin.«sorted»
 refine wpAny_bind (m:=checkCount "sorted" 1 1 _) (wpAny_pure ?_)
 refine wpAny_bind (PySem.W.kdu_collect (A:=X.A.in1) (PySem.W.kdl_dict (knd:=zdV X.prog X.w) (kvs:=vs) (ep:=ep) hd) (I.ok.hd hc) hat (by rw[hlen]; exact zlS h64) fun h' tk acc hkp hacc=> ?_)
 have hI:IntsAre acc.toList ns:=by
  have gen:∀(l:List Value) (ms:List Int),l.length=ms.length->(∀(j:Nat) (v:Value),l[j]? =some v->∃n t,ms[j]? =some n/\v= .int n t)->IntsAre l ms:=by
   intro l
   induction l with
   | nil=> intro ms hl _; cases ms with
    | nil=> exact .nil
    | cons _ _=> simp at hl
   | cons v l ih=>
    intro ms hl hv
    cases ms with
    | nil=> simp at hl
    | cons n ms=>
     obtain⟨n',t,e1,e2⟩:=hv 0 v rfl
     simp at e1
     subst e1 e2
     exact .cons _ _ (ih ms (by simpa using hl) fun j v e=> by simpa using hv (j + 1) v (by simpa using e))
  refine gen _ _ (by rw[Array.length_toList,hacc.1,hlen]) fun j v e=> ?_
  obtain⟨k,x,h1,h2⟩:=hacc.2 j v (by rw[<- Array.getElem?_toList]; exact e)
  obtain⟨n,h3,rfl⟩:=keyAt j k x h1
  rcases zcL (show zl7 (Sum.inl n) v=true from h2) with⟨i,t,e1,e2⟩ |⟨z,t,e1,e2⟩
  .cases e1; exact⟨_,t,h3,e2⟩
  .cases e1
 refine wpAny_bind (wpAny_newList ?_ (by rw[Array.length_toList,hacc.1,hlen]; exact zlS h64))
 have hoL:(h'.push (seqObj "list" acc.toList.toArray 0)).get? h'.objs.size=some (seqObj "list" acc.toList.toArray 0):=Heap.get?_push_size _ rfl
 refine wpAny_bind (wpAny_holding (wpAny_call_entry slot_list_sort ⟨_,hoL,rfl⟩ entry_list_sort (list_sort_tree hoL hI (by rw[hI.length]; exact h64) fun out ns' a1 a2 a3=> ⟨_,rfl,?_⟩) (args_list_sort _)))
 refine wpAny_pure ⟨_,rfl,?_⟩
 obtain⟨ep',he'⟩:=PyProof.Rows.sortedHeap_at (vs:=acc.toList) (out:=out) hoL
 have hlen':(ns'.map V.int).length<=sizeLine:=by rw[List.length_map,a2.length_eq]; exact zlS h64
 have I1:Inv X pins σ H {s with heap:=h',toks:=tk}:=I.kept (t':=tk) hkp
 exact⟨.ref _,upd H h'.objs.size (.lst (ns'.map V.int)),I1.laid (t':=tk) (fun b u e=> by rw[PyProof.Rows.sortedHeap_old (Nat.ne_of_lt (Heap.lt_size e)) (by rw[Heap.size_push]; exact Nat.lt_succ_of_lt (Heap.lt_size e))]; exact Heap.get?_push_of_some _ e) (Nat.le_refl _) ⟨hlen',out.toList,ep',zif a1,he'⟩,rfl,q ns' _ a2 a3 (I1.hok.fresh (Nat.le_refl _))⟩
end L2
namespace TS
noncomputable section
open PySem PySem.Spec PyProof.Rows L2
def zzw(es:Array DictEntry):Prop:=Paired (fun (p:Int×Int) (e:DictEntry)=> e.hash=hashInt p.1/\RelV (.int p.1) e.key/\RelV (.int p.2) e.val) escL es.toList
def zqf(K:PySem.W.Frag)(q:Addr):Prop:=∃o es ep,K.lookup q=some o/\o.ExactDict/\o.data= .dict es ep/\(q==sysModules)=false/\zzw es
theorem znm{P:Program}{w:World}{K:PySem.W.Frag}{h:Heap}{q:Addr}(X:K.In h)(E:zqf K q):(q==sysModules)=false/\∃vs,KV (escL.map fun p=> ((Sum.inl p.1:Key),V.int p.2)) vs/\h.DictOf (zdV P w) q vs:=by
 obtain⟨o,es,ep,h1,h2,h3,h4,h5⟩:=E
 refine⟨h4,?_⟩
 have key:∀(l:List (Int×Int)) (m:List DictEntry),Paired (fun (p:Int×Int) (e:DictEntry)=> e.hash=hashInt p.1/\RelV (.int p.1) e.key/\RelV (.int p.2) e.val) l m->
   ∃vs:List (Key×Value),KV (l.map fun p=> ((Sum.inl p.1:Key),V.int p.2)) vs/\(∀e∈m,∃k,(zdV P w).is k e.key=true/\e.hash=(zdV P w).hash k)/\Pairs (zdV P w) m vs/\vs.map (·.1)=l.map fun p=> (Sum.inl p.1:Key):=by
  intro l m r
  induction r with
  | nil=> exact⟨[],.nil,fun e he=> by simp at he,.nil,rfl⟩
  | @cons p e ps es h t ih=>
   obtain⟨vs,i1,i2,i3,i4⟩:=ih
   obtain⟨h1,⟨t1,h2⟩,h3⟩:=h
   refine⟨(Sum.inl p.1,e.val)::vs,.cons ⟨rfl,h3⟩ i1,fun e' he'=> ?_,.cons (by show (zdV P w).is (Sum.inl p.1) e.key=true; rw[h2]; exact zhj P w p.1 t1) rfl i3,by simp[i4]⟩
   .rcases List.mem_cons.mp he' with rfl | he'
    .exact⟨Sum.inl p.1,by rw[h2]; exact zhj P w p.1 t1,h1⟩
    .exact i2 e' he'
 obtain⟨vs,k1,k2,k3,k4⟩:=key escL es.toList h5
 exact⟨vs,k1,o,es,ep,X _ _ h1,h2,h3,fun e he=> k2 e (by simpa using he),k3,by rw[k4]; decide⟩
theorem zpS(i:Int):zjX (escL.map fun p=> ((Sum.inl p.1:Key),V.int p.2)) (Sum.inl i)=(escL.lookup i).map V.int:=by
 have key:∀l:List (Int×Int),zjX (l.map fun p=> ((Sum.inl p.1:Key),V.int p.2)) (Sum.inl i)=(l.lookup i).map V.int:=by
  intro l
  induction l with
  | nil=> rfl
  | cons p l ih=>
   obtain⟨p1,p2⟩:=p
   rw[List.map_cons]
   by_cases h:p1=i
   .subst h
    rw[zhr rfl]
    simp[List.lookup]
   .rw[zhs (fun z=> h (zh7 _ _ z)),ih,List.lookup_cons]
    simp only[beq_eq_false_iff_ne.mpr (Ne.symm h)]
 exact key escL
section
variable {X:Cx}{a:Ad}{e ea eb ec o:Expr}{m ma mb mc mo:ME}{pos p pos' apos tpos:Pos}{f x:Str}{n:Int}
theorem zvc{q:Addr}(hm:X.mg x=some (.ref q))(E:zqf X.K q)(hb:PE X eb (TF a mb))(hs:zxm eb:=by exact fun _ _=> rfl)(hg:Gl X x:=by rfl)(hd:(x==("__debug__":Str))=false:=by decide):
  PE X (.Subscript (.Name x pos') eb pos) (TF a (eEsc mb)):=fun pins s σ' H Q I h0=> TF.el h0 fun α σ O w' O' hs' hR hm' q'=> by
 obtain⟨⟨v,O1⟩,h1,h⟩:=bnd hm'
 obtain⟨u,h2,h⟩:=bnd h
 cases h
 unfold escAt at h2
 split at h2
 case h_2=> cases h2
 rename_i i hv
 dsimp only at hv
 subst hv
 obtain⟨n,h3,rfl⟩:=Option.map_eq_some_iff.mp h2
 refine zoz PySem.F.slot_dict_getitem.lookup hs (thn (znH hm hg hd pins s σ' H (fun x H1=> x= .ref q/\H1=H) I ⟨rfl,rfl⟩) fun u s1 zz=> ?_)
 obtain⟨x,H1,I1,rx,ex,eH⟩:=zz
 subst ex eH
 refine thn (hb pins s1 σ' H1 (fun y H2=> y= .int i/\Q (.int n) H2) I1 ⟨α,σ,O,_,O1,hs',hR,h1,fun β H2 v' p R r=> ⟨r,q' β H2 _ p R rfl⟩⟩) fun iv s2 zz=> ?_
 obtain⟨y,H2,I2,ry,ey,qy⟩:=zz
 subst ey
 obtain rfl:u=Value.ref q:=rx
 obtain⟨hne,vs,rel,dd⟩:=znm (P:=X.prog) (w:=X.w) I2.kIn E
 refine⟨dd.typeIs,?_⟩
 obtain⟨w',hw,rw'⟩:=RelO.some_of (v:= .int n) (o:=valueAt vs (Sum.inl i)) (by
  have:=rel.val (Sum.inl i:Key)
  rw[zpS,h3] at this
  exact this)
 exact wpAny_getItem_of (zl8 (k:=Sum.inl i) ry) dd.mapOf hw ⟨.int n,H2,I2.tok _,rw',qy⟩
theorem zqE{q:Addr}(hm:X.mg x=some (.ref q))(E:zqf X.K q)(ha:PE X ea (TF a ma))(hg:Gl X x:=by rfl)(hd:(x==("__debug__":Str))=false:=by decide)(hbm:behindInMarks .NotIn (.Name x pos')=false:=by rfl):
  PT X (.Compare ea [.NotIn] [.Name x pos'] pos) (TFt a (tNescIn ma)):=fun pins s σ' H Q I h0=> TFt.el h0 fun α σ O w' O' hs' hR hm' q'=> by
 obtain⟨⟨v,O1⟩,h1,h⟩:=bnd hm'
 obtain⟨u,h2,h⟩:=bnd h
 cases h
 unfold escIn at h2
 split at h2
 case h_2=> cases h2
 rename_i i hv
 dsimp only at hv
 subst hv
 cases h2
 have hpc:PC X .NotIn ea (.Name x pos') (fun σ' H Q=> TF a ma σ' H fun y H1=>∃i,y= .int i/\Q (.bl (!(escL.lookup i).isSome)) H1):=by
  intro pins s σ H Q I h
  refine thn (ha pins s σ H _ I h) fun iv s1 ⟨y,H1,I1,ry,i,ey,q1⟩=> thn (znH hm hg hd pins s1 σ H1 (fun x H2=> x= .ref q/\Q (.bl (!(escL.lookup i).isSome)) H2) I1 ⟨rfl,q1⟩) fun u s2 zz=> ?_
  obtain⟨x,H2,I2,rx,ex,q2⟩:=zz
  subst ex ey
  obtain rfl:u=Value.ref q:=rx
  obtain⟨hne,vs,rel,dd⟩:=znm (P:=X.prog) (w:=X.w) I2.kIn E
  refine wpAny_notIn_of (zl8 (k:=Sum.inl i) ry) hne dd.mapOf ?_
  have e1:=(rel.val (Sum.inl i:Key)).isSome_eq
  rw[zpS,Option.isSome_map] at e1
  rw[<- e1]
  exact⟨.bl _,H2,I2.tok _,rfl,q2⟩
 exact zmW hpc hbm pins s σ' H Q I ⟨α,σ,O,_,O1,hs',hR,h1,fun β H2 v' p R r=> ⟨i,r,_,rfl,q' β H2 p R⟩⟩
def zpl(kvs:List (Int×FV)):List Int:=((List.range 16).filter fun (n:Nat)=> (getD (n:Int) kvs).isSome).map fun (n:Nat)=> (n:Int)
theorem zj4(kvs:List (Int×FV))(h:okKeys kvs=true):(kvs.map (·.1)).Perm (zpl kvs):=by
 unfold okKeys at h
 rw[Bool.and_eq_true,decide_eq_true_eq,List.all_eq_true] at h
 obtain⟨hn,hr⟩:=h
 refine (List.perm_ext_iff_of_nodup hn ?_).mpr fun z=> ?_
 .have hnd:((List.range 16).filter fun (n:Nat)=> (getD (n:Int) kvs).isSome).Nodup:=List.Nodup.sublist List.filter_sublist List.nodup_range
  exact List.Pairwise.map (R:=fun (x y:Nat)=> x≠y) _ (fun x y h z=> h (Int.ofNat.inj z)) hnd
 .unfold zpl
  rw[List.mem_map,List.mem_map]
  constructor
  .rintro⟨p,hp,rfl⟩
   have:=hr p hp
   simp only[Bool.and_eq_true,decide_eq_true_eq] at this
   refine⟨p.1.toNat,List.mem_filter.mpr ⟨List.mem_range.mpr (by omega),?_⟩,by omega⟩
   have e:((p.1.toNat:Nat):Int)=p.1:=by omega
   rw[e]
   unfold getD
   rw[Option.isSome_map,List.find?_isSome]
   exact⟨p,hp,by simp⟩
  .rintro⟨n,hn,rfl⟩
   have:=(List.mem_filter.mp hn).2
   unfold getD at this
   rw[Option.isSome_map,List.find?_isSome] at this
   obtain⟨p,hp,e⟩:=this
   exact⟨p,hp,by simpa using e⟩
theorem zkA(kvs:List (Int×FV))(h:okKeys kvs=true)(ns':List Int)(hp:ns'.Perm (kvs.map (·.1)))(hs:ns'.Pairwise (·<=·)):ns'.map FV.int=keys16 kvs:=by
 have e:ns'=zpl kvs:=by
  refine PySem.W.ksm_same (hp.trans (zj4 kvs h)) hs ?_
  refine List.Pairwise.map _ (fun x y h=> ?_) (List.Pairwise.sublist List.filter_sublist (List.pairwise_lt_range (n:=16)))
  show (x:Int)<=(y:Int)
  omega
 rw[e,zpl,keys16,List.map_map]
 rfl
theorem zo3{β:Al}:∀{kvs:List (Int×FV)} {ys:List (Key×V)},PD β (fun i=> (Sum.inl i:Key)) kvs ys->ys.map (·.1)=(kvs.map (·.1)).map Sum.inl
 | _,_,.nil=> rfl
 | _,_,.cons h t=> by simp only[List.map_cons,zo3 t,h.1]
theorem zoP(hm:X.mg "sorted"=none)(ha:PE X ea (TF a ma))(hc:X.calm=true:=by rfl)(hg:Gl X "sorted":=by rfl)(hs:starEach [ea] X.env=(false,eval ea X.env)::starEach [] X.env:=by rfl)(hpl:(backTo pos (starEach [] X.env)).any (·.1)=false:=by rfl):PE X (.Call (.Name "sorted" p) [ea] [] pos) (TF a (eSortD ma)):=fun pins s σ' H Q I h0=> TF.el h0 fun α σ O w' O' hs' hR hm' q=> by
 obtain⟨⟨v,O1⟩,h1,h⟩:=bnd hm'
 obtain⟨kvs,h2,h⟩:=bnd h
 split at h
 case isFalse=> cases h
 rename_i hk
 cases h
 refine zgH (zoc hc) hg hm boot_sorted (zel ha zfy hs) (by decide) (by decide) hs hpl pins s σ' H Q I ⟨α,σ,O,_,O1,hs',hR,h1,fun β H1 v' p R r=> ?_⟩
 obtain⟨_,pl,ys,_,_,rfl,g1,g2⟩:=R.dk h2 r
 have hkeys:=zo3 g2
 have hlen:(kvs.map (·.1)).length < 64:=by
  have e:=(zj4 kvs hk).length_eq
  have:=List.length_filter_le (fun (n:Nat)=> (getD (n:Int) kvs).isSome) (List.range 16)
  unfold zpl at e
  rw[List.length_map (as:=(List.range 16).filter _),List.length_range] at *
  omega
 refine⟨pl,ys,kvs.map (·.1),rfl,g1,hkeys,hlen,fun ns' pn hp hsr hn=> ?_⟩
 refine q _ _ _ (p.trans (List.prefix_append _ _)) (R.newL (xs:=keys16 kvs) hn ?_) R.last
 rw[<- zkA kvs hk ns' hp hsr]
 clear hp hsr
 induction ns' with
 | nil=> exact .nil
 | cons n ns' ih=> exact .cons rfl ih
end
end
end TS
namespace TS
noncomputable section
def za4:MS:=(sSeq (zco 3 1 (eV 0) (eC (.int 3))) (sSeq (zco 3 5 (eV 0) (eC (.int 0))) (zco 3 6 (eV 0) (eC (.int 0)))))
def zaS:MF:=mFn 1 1 za4
def zaK:MS:=(sSeq (sIf (ziy (tCmp cEq (eFld 3 1 (eV 0)) (eC (.int 4))) (tCmp cEq (eV 1) (eC (.int 92)))) (sSeq (zco 3 1 (eV 0) (eC (.int 5))) (sRet (eC (.int 0)))) sNx) (sSeq (sIf (ziy (tCmp cEq (eFld 3 1 (eV 0)) (eC (.int 5))) (tCmp cEq (eV 1) (eC (.int 117)))) (sSeq (sEx (eMeth 3 zaS (eV 0) aNil)) (sRet (eC (.int 0)))) sNx) (sRet (eC (.int 2)))))
def zaX:MF:=mFn 2 2 zaK
def zdF:MS:=(sSeq (sIf (tLe3 223 (eC (.int 194)) (eV 0)) (sRet (eC (.int 1))) sNx) (sSeq (sIf (tLe3 239 (eC (.int 224)) (eV 0)) (sRet (eC (.int 2))) sNx) (sSeq (sIf (tLe3 244 (eC (.int 240)) (eV 0)) (sRet (eC (.int 3))) sNx) (sRet (eC (.int 0))))))
def zdB:MF:=mFn 1 1 zdF
def zdE:MS:=(sSeq (sIf (tCmp cEq (eV 0) (eC (.int 224))) (sRet (eC (.int 160))) sNx) (sSeq (sIf (tCmp cEq (eV 0) (eC (.int 240))) (sRet (eC (.int 144))) sNx) (sRet (eC (.int 128)))))
def zdA:MF:=mFn 1 1 zdE
def zcU:MS:=(sSeq (sIf (tCmp cEq (eV 0) (eC (.int 237))) (sRet (eC (.int 159))) sNx) (sSeq (sIf (tCmp cEq (eV 0) (eC (.int 244))) (sRet (eC (.int 143))) sNx) (sRet (eC (.int 191)))))
def zcT:MF:=mFn 1 1 zcU
def zbE:MS:=(sSeq (sSet 2 (eCall zdB (aCons (eV 1) aNil))) (sSeq (sIf (tCmp cEq (eV 2) (eC (.int 0))) (sRet (eC (.int 2))) sNx) (sSeq (zco 3 2 (eV 0) (eV 2)) (sSeq (zco 3 3 (eV 0) (eCall zdA (aCons (eV 1) aNil))) (sSeq (zco 3 4 (eV 0) (eCall zcT (aCons (eV 1) aNil))) (sSeq (zco 3 1 (eV 0) (eC (.int 1))) (sSeq (sEx (eApp (eFld 3 0 (eV 0)) (eV 1))) (sRet (eC (.int 0))))))))))
def zb2:MF:=mFn 2 3 zbE
def zbz:MS:=(sSeq (sIf (tCmp cEq (eV 1) (eC (.int 34))) (sRet (eC (.int 1))) sNx) (sSeq (sIf (tCmp cEq (eV 1) (eC (.int 92))) (sSeq (zco 3 1 (eV 0) (eC (.int 2))) (sRet (eC (.int 0)))) sNx) (sSeq (sIf (tCmp cLt (eV 1) (eC (.int 32))) (sRet (eC (.int 2))) sNx) (sSeq (sIf (tCmp cGe (eV 1) (eC (.int 128))) (sRet (eMeth 3 zb2 (eV 0) (aCons (eV 1) aNil))) sNx) (sSeq (sEx (eApp (eFld 3 0 (eV 0)) (eV 1))) (sRet (eC (.int 0))))))))
def zbZ:MF:=mFn 2 2 zbz
def za1:MS:=(sSeq (sIf (zkR (tLe3F (eFld 3 3 (eV 0)) (eV 1) (eFld 3 4 (eV 0)))) (sRet (eC (.int 2))) sNx) (sSeq (sEx (eApp (eFld 3 0 (eV 0)) (eV 1))) (sSeq (zdU 3 2 iSub (eV 0) (eC (.int 1))) (sSeq (zco 3 3 (eV 0) (eC (.int 128))) (sSeq (zco 3 4 (eV 0) (eC (.int 191))) (sSeq (sIf (tCmp cEq (eFld 3 2 (eV 0)) (eC (.int 0))) (zco 3 1 (eV 0) (eC (.int 0))) sNx) (sRet (eC (.int 0)))))))))
def zbp:MF:=mFn 2 2 za1
def zbg:MS:=(sSeq (sIf (tCmp cEq (eV 1) (eC (.int 117))) (sSeq (sEx (eMeth 3 zaS (eV 0) aNil)) (sRet (eC (.int 0)))) sNx) (sSeq (sIf (tNescIn (eV 1)) (sRet (eC (.int 2))) sNx) (sSeq (sEx (eApp (eFld 3 0 (eV 0)) (eEsc (eV 1)))) (sSeq (zco 3 1 (eV 0) (eC (.int 0))) (sRet (eC (.int 0)))))))
def zbB:MF:=mFn 2 2 zbg
def zfN:MS:=(sRet (eB (tLe3 57 (eC (.int 48)) (eV 0))))
def zcm:MF:=mFn 1 1 zfN
def zcC:MS:=(sSeq (sIf (tVal (eCall zcm (aCons (eV 0) aNil))) (sRet (eOp iSub (eV 0) (eC (.int 48)))) sNx) (sSeq (sIf (tLe3 70 (eC (.int 65)) (eV 0)) (sRet (eOp iSub (eV 0) (eC (.int 55)))) sNx) (sSeq (sIf (tLe3 102 (eC (.int 97)) (eV 0)) (sRet (eOp iSub (eV 0) (eC (.int 87)))) sNx) (sRet (eC .non)))))
def zcB:MF:=mFn 1 1 zcC
def zed:MS:=(sSeq (sIf (tCmp cEq (eV 2) (eC (.int 0))) (sRet (eNot (eAnd (eB (tCmp cEq (eV 1) (eC (.int 2)))) (eB (tLe3 223 (eC (.int 220)) (eV 0)))))) sNx) (sSeq (sIf (tCmp cEq (eV 1) (eC (.int 1))) (sRet (eB (tCmp cEq (eV 0) (eC (.int 13))))) sNx) (sRet (eB (tCmp cGe (eV 0) (eC (.int 220)))))))
def zea:MF:=mFn 3 3 zed
def zgD:MS:=(sSeq (sIf (tCmp cLt (eV 0) (eC (.int 128))) (sRet (eLst (aCons (eV 0) aNil))) sNx) (sSeq (sIf (tCmp cLt (eV 0) (eC (.int 2048))) (sRet (eLst (aCons (eOp iAdd (eC (.int 192)) (eOp iDiv (eV 0) (eC (.int 64)))) (aCons (eOp iAdd (eC (.int 128)) (eOp iMod (eV 0) (eC (.int 64)))) aNil)))) sNx) (sSeq (sIf (tCmp cLt (eV 0) (eC (.int 65536))) (sRet (eLst (aCons (eOp iAdd (eC (.int 224)) (eOp iDiv (eV 0) (eC (.int 4096)))) (aCons (eOp iAdd (eC (.int 128)) (eOp iMod (eOp iDiv (eV 0) (eC (.int 64))) (eC (.int 64)))) (aCons (eOp iAdd (eC (.int 128)) (eOp iMod (eV 0) (eC (.int 64)))) aNil))))) sNx) (sRet (eLst (aCons (eOp iAdd (eC (.int 240)) (eOp iDiv (eV 0) (eC (.int 262144)))) (aCons (eOp iAdd (eC (.int 128)) (eOp iMod (eOp iDiv (eV 0) (eC (.int 4096))) (eC (.int 64)))) (aCons (eOp iAdd (eC (.int 128)) (eOp iMod (eOp iDiv (eV 0) (eC (.int 64))) (eC (.int 64)))) (aCons (eOp iAdd (eC (.int 128)) (eOp iMod (eV 0) (eC (.int 64)))) aNil)))))))))
def zgp:MF:=mFn 1 1 zgD
def zbi:MS:=(sSeq (sIf (tLe3 56319 (eC (.int 55296)) (eFld 3 5 (eV 0))) (sSeq (zco 3 7 (eV 0) (eFld 3 5 (eV 0))) (sSeq (zco 3 1 (eV 0) (eC (.int 4))) sRetN)) sNx) (sSeq (sSet 1 (eFld 3 5 (eV 0))) (sSeq (sIf (tCmp cNe (eFld 3 7 (eV 0)) (eC (.int 0))) (sSeq (sSet 1 (eOp iSub (eOp iAdd (eOp iAdd (eC (.int 65536)) (eOp iMulR (eOp iSub (eFld 3 7 (eV 0)) (eC (.int 55296))) (eC (.int 1024)))) (eFld 3 5 (eV 0))) (eC (.int 56320)))) (zco 3 7 (eV 0) (eC (.int 0)))) sNx) (sSeq (sEx (eExt (eFld 3 0 (eV 0)) (eCall zgp (aCons (eV 1) aNil)))) (zco 3 1 (eV 0) (eC (.int 0)))))))
def zby:MF:=mFn 1 2 zbi
def zbh:MS:=(sSeq (sSet 2 (eCall zcB (aCons (eV 1) aNil))) (sSeq (sIf (zmI (eV 2)) (sRet (eC (.int 2))) sNx) (sSeq (sSet 3 (eOp iAdd (eOp iMulR (eFld 3 5 (eV 0)) (eC (.int 16))) (eV 2))) (sSeq (sIf (zkR (tVal (eCall zea (aCons (eV 3) (aCons (eOp iAdd (eFld 3 6 (eV 0)) (eC (.int 1))) (aCons (eFld 3 7 (eV 0)) aNil)))))) (sRet (eC (.int 2))) sNx) (sSeq (zco 3 5 (eV 0) (eV 3)) (sSeq (zdU 3 6 iAdd (eV 0) (eC (.int 1))) (sSeq (sIf (tCmp cEq (eFld 3 6 (eV 0)) (eC (.int 4))) (sEx (eMeth 3 zby (eV 0) aNil)) sNx) (sRet (eC (.int 0))))))))))
def zbx:MF:=mFn 2 4 zbh
def zaT:MS:=(sSeq (sIf (tCmp cEq (eFld 3 1 (eV 0)) (eC (.int 0))) (sRet (eMeth 3 zbZ (eV 0) (aCons (eV 1) aNil))) sNx) (sSeq (sIf (tCmp cEq (eFld 3 1 (eV 0)) (eC (.int 1))) (sRet (eMeth 3 zbp (eV 0) (aCons (eV 1) aNil))) sNx) (sSeq (sIf (tCmp cEq (eFld 3 1 (eV 0)) (eC (.int 2))) (sRet (eMeth 3 zbB (eV 0) (aCons (eV 1) aNil))) sNx) (sSeq (sIf (tCmp cEq (eFld 3 1 (eV 0)) (eC (.int 3))) (sRet (eMeth 3 zbx (eV 0) (aCons (eV 1) aNil))) sNx) (sRet (eMeth 3 zaX (eV 0) (aCons (eV 1) aNil)))))))
def zag:MF:=mFn 2 2 zaT
def zbX:MS:=(sIf (tVal (eFld 4 4 (eV 0))) (sEx (eExt (eV 3) (eCat (eLst (aCons (eV 1) (aCons (eFld 4 3 (eV 0)) (aCons (eLen (eV 2)) aNil)))) (eV 2)))) sNx)
def zaL:MF:=mFn 4 4 zbX
def zbr:MS:=(sSeq (sSet 3 (eMeth 3 zag (eFld 4 5 (eV 0)) (aCons (eV 1) aNil))) (sSeq (sIf (tCmp cEq (eV 3) (eC (.int 1))) (sSeq (sEx (eMeth 4 zaL (eV 0) (aCons (eC (.int 4)) (aCons (eFld 3 0 (eFld 4 5 (eV 0))) (aCons (eV 2) aNil))))) (zco 4 2 (eV 0) (eC (.int 5)))) sNx) (sRet (eB (tCmp cNe (eV 3) (eC (.int 2)))))))
def zaC:MF:=mFn 3 4 zbr
def zbq:MS:=(sSeq (sSet 3 (eMeth 3 zag (eFld 4 5 (eV 0)) (aCons (eV 1) aNil))) (sSeq (sIf (tCmp cEq (eV 3) (eC (.int 1))) (sSeq (sSet 4 (eIxL (eFld 4 1 (eV 0)) (eC (.int (-1))))) (sSeq (sSet 5 (eFld 3 0 (eFld 4 5 (eV 0)))) (sSeq (zco 2 3 (eV 4) (eTupOf (eV 5))) (sSeq (sIf (tCmp cEq (eFld 2 2 (eV 4)) (eC (.int 1))) (sEx (eExt (eV 2) (eCat (eLst (aCons (eC (.int 3)) (aCons (eLen (eV 5)) aNil))) (eV 5)))) sNx) (zco 4 2 (eV 0) (eC (.int 4))))))) sNx) (sRet (eB (tCmp cNe (eV 3) (eC (.int 2)))))))
def zau:MF:=mFn 3 6 zbq
def za9:MS:=(sSeq (sSet 3 (eWord (eFld 4 7 (eV 0)))) (sSeq (sIf (tCmp cNe (eOrd (eIxS (eV 3) (eFld 4 8 (eV 0)))) (eV 1)) (sRet (eC (.bl false))) sNx) (sSeq (zdU 4 8 iAdd (eV 0) (eC (.int 1))) (sSeq (sIf (tCmp cEq (eFld 4 8 (eV 0)) (eLenS (eV 3))) (sSeq (sIf (tVal (eFld 4 4 (eV 0))) (sEx (eExt (eV 2) (eLst (aCons (eC (.int 6)) (aCons (eFld 4 3 (eV 0)) (aCons (eFld 4 7 (eV 0)) aNil)))))) sNx) (zco 4 2 (eV 0) (eC (.int 5)))) sNx) (sRet (eC (.bl true)))))))
def zas:MF:=mFn 3 4 za9
def zb9:MS:=(sRet (eOp iShr (eV 1) (eOp iMulR (eC (.int 16)) (eC (.int 8)))))
def zbt:MF:=mFn 2 2 zb9
def zbo:MS:=(sSeq (sIf (tCmp cEq (eLen (eFld 4 1 (eV 0))) (eC (.int 0))) (sRet (eC (.int 0))) sNx) (sRet (eFld 2 2 (eIxL (eFld 4 1 (eV 0)) (eC (.int (-1)))))))
def zap:MF:=mFn 1 1 zbo
def zcv:MS:=(zdU 2 4 iAdd (eV 0) (eC (.int 1)))
def zbD:MF:=mFn 1 1 zcv
def zcX:MS:=(sSeq (sSet 3 (eOp iOr (eIxL (eFld 0 4 (eV 0)) (eIxT (eV 2) (eC (.int 0)))) (eNGet (eFld 0 5 (eV 0)) (eV 2) (eC (.int 0))))) (sRet (eOp iOr (eOp iShl (eOp iAnd (eV 1) (eV 3)) (eC (.int 16))) (eOp iAnd (eV 1) (eFld 0 2 (eV 0))))))
def zaJ:MF:=mFn 3 4 zcX
def zdZ:MS:=(sSeq (sIf (tCmp cEq (eFld 2 0 (eV 0)) (eC (.int 1))) (sRet (eTup (aCons (eC (.int 1)) (aCons (eOp iSub (eFld 2 4 (eV 0)) (eC (.int 1))) aNil)))) sNx) (sRet (eTup (aCons (eC (.int 0)) (aCons (eFld 2 3 (eV 0)) aNil)))))
def zbk:MF:=mFn 1 1 zdZ
def zb1:MS:=(sSeq (sSet 1 (eFld 0 1 (eFld 4 0 (eV 0)))) (sSeq (sIf (tCmp cGt (eLen (eFld 4 1 (eV 0))) (eC (.int 0))) (sSeq (sSet 2 (eIxL (eFld 4 1 (eV 0)) (eC (.int (-1))))) (sSeq (sEx (eMeth 2 zbD (eV 2) aNil)) (sSet 1 (eMeth 0 zaJ (eFld 4 0 (eV 0)) (aCons (eFld 2 1 (eV 2)) (aCons (eMeth 2 zbk (eV 2) aNil) aNil)))))) sNx) (sSeq (zco 4 3 (eV 0) (eMeth 0 zbt (eFld 4 0 (eV 0)) (aCons (eV 1) aNil))) (sSeq (sSet 3 (eMeth 4 zap (eV 0) aNil)) (sSeq (zco 4 4 (eV 0) (eOr (eB (tCmp cEq (eV 3) (eC (.int 1)))) (eAnd (eB (tCmp cEq (eV 3) (eC (.int 0)))) (eB (tCmp cNe (eFld 4 3 (eV 0)) (eC (.int 0))))))) (sRet (eV 1)))))))
def zal:MF:=mFn 1 4 zb1
def zc8:MS:=(sSeq (zco 2 0 (eV 0) (eV 1)) (sSeq (zco 2 1 (eV 0) (eV 2)) (sSeq (zco 2 2 (eV 0) (eV 3)) (sSeq (zco 2 3 (eV 0) (eTup aNil)) (zco 2 4 (eV 0) (eC (.int 0)))))))
def zbQ:MF:=mFn 4 4 zc8
def zca:MS:=(sRet (eAnd (eB (tCmp cNe (eV 1) (eC (.int 0)))) (eB (tCmp cEq (eOp iAnd (eV 1) (eFld 0 3 (eV 0))) (eC (.int 0))))))
def zbu:MF:=mFn 2 2 zca
def zbK:MS:=(sSeq (sIf (tCmp cEq (eMeth 4 zap (eV 0) aNil) (eC (.int 2))) (sRet (eC (.int 2))) sNx) (sSeq (sIf (zkR (tVal (eFld 4 4 (eV 0)))) (sRet (eC (.int 0))) sNx) (sSeq (sIf (tVal (eMeth 0 zbu (eFld 4 0 (eV 0)) (aCons (eFld 4 3 (eV 0)) aNil))) (sRet (eC (.int 2))) sNx) (sRet (eC (.int 1))))))
def zba:MF:=mFn 1 1 zbK
def zcO:MS:=(sSeq (sIf (tCmp cEq (eLen (eFld 4 1 (eV 0))) (eC (.int 32))) (sRet (eC (.bl false))) sNx) (sSeq (sSet 3 (eMeth 4 zal (eV 0) aNil)) (sSeq (sIf (tVal (eFld 4 4 (eV 0))) (sEx (eExt (eV 2) (eLst (aCons (eC (.int 1)) (aCons (eFld 4 3 (eV 0)) (aCons (eV 1) aNil)))))) sNx) (sSeq (sEx (eApp (eFld 4 1 (eV 0)) (eNew 2 zbQ (aCons (eV 1) (aCons (eV 3) (aCons (eMeth 4 zba (eV 0) aNil) aNil)))))) (sSeq (zco 4 2 (eV 0) (eIf (tCmp cEq (eV 1) (eC (.int 1))) (eC (.int 1)) (eC (.int 3)))) (sRet (eC (.bl true))))))))
def zaM:MF:=mFn 3 4 zcO
def zbJ:MS:=(sSeq (zco 3 0 (eV 0) (eLst aNil)) (sSeq (zco 3 1 (eV 0) (eC (.int 0))) (sSeq (zco 3 2 (eV 0) (eC (.int 0))) (sSeq (zco 3 3 (eV 0) (eC (.int 0))) (sSeq (zco 3 4 (eV 0) (eC (.int 0))) (sSeq (zco 3 5 (eV 0) (eC (.int 0))) (sSeq (zco 3 6 (eV 0) (eC (.int 0))) (zco 3 7 (eV 0) (eC (.int 0))))))))))
def zat:MF:=mFn 1 1 zbJ
def zbM:MS:=(sSeq (zco 1 0 (eV 0) (eC (.int 0))) (zco 1 1 (eV 0) (eLst aNil)))
def zaD:MF:=mFn 1 1 zbM
def zb7:MS:=(sSeq (sIf (tIn [0,1] (eV 0)) (sRet (eIf (tCmp cEq (eV 1) (eC (.int 48))) (eC (.int 2)) (eC (.int 3)))) sNx) (sSeq (sIf (tCmp cEq (eV 0) (eC (.int 2))) (sRet (eC .non)) sNx) (sSeq (sIf (tCmp cEq (eV 0) (eC (.int 3))) (sRet (eC (.int 3))) sNx) (sSeq (sIf (tIn [4,5] (eV 0)) (sRet (eC (.int 5))) sNx) (sRet (eC (.int 8)))))))
def zb6:MF:=mFn 2 2 zb7
def zdD:MS:=(sSeq (sIf (tVal (eCall zcm (aCons (eV 1) aNil))) (sRet (eCall zb6 (aCons (eV 0) (aCons (eV 1) aNil)))) sNx) (sSeq (sIf (ziy (tCmp cEq (eV 1) (eC (.int 45))) (tCmp cEq (eV 0) (eC (.int 0)))) (sRet (eC (.int 1))) sNx) (sSeq (sIf (ziy (tCmp cEq (eV 1) (eC (.int 46))) (tIn [2,3] (eV 0))) (sRet (eC (.int 4))) sNx) (sSeq (sIf (ziy (tIn [69,101] (eV 1)) (tIn [2,3,5] (eV 0))) (sRet (eC (.int 6))) sNx) (sSeq (sIf (ziy (tIn [43,45] (eV 1)) (tCmp cEq (eV 0) (eC (.int 6)))) (sRet (eC (.int 7))) sNx) (sRet (eC .non)))))))
def zdz:MF:=mFn 2 2 zdD
def zfM:MS:=(sRet (eB (tIn [2,3,5,8] (eV 0))))
def zem:MF:=mFn 1 1 zfM
def zcu:MS:=(sSeq (sSet 2 (eCall zdz (aCons (eFld 1 0 (eV 0)) (aCons (eV 1) aNil)))) (sSeq (sIf (zmI (eV 2)) (sRet (eC (.bl false))) sNx) (sSeq (sSet 3 (eOp iAdd (eLen (eFld 1 1 (eV 0))) (eC (.int 1)))) (sSeq (sIf (zkR (tVal (eCall zem (aCons (eV 2) aNil)))) (sAug 3 iAdd (eC (.int 1))) sNx) (sSeq (sIf (tCmp cGt (eV 3) (eC (.int 64))) (sRet (eC (.bl false))) sNx) (sSeq (zco 1 0 (eV 0) (eV 2)) (sSeq (sEx (eApp (eFld 1 1 (eV 0)) (eV 1))) (sRet (eC (.bl true))))))))))
def zaH:MF:=mFn 2 4 zcu
def zbG:MS:=(sSeq (sSet 2 (eNew 1 zaD aNil)) (sSeq (sIf (zkR (tVal (eMeth 1 zaH (eV 2) (aCons (eV 1) aNil)))) (sRet (eC (.bl false))) sNx) (sSeq (zco 4 6 (eV 0) (eV 2)) (sSeq (zco 4 2 (eV 0) (eC (.int 8))) (sSeq (sEx (eMeth 4 zal (eV 0) aNil)) (sRet (eC (.bl true))))))))
def zaQ:MF:=mFn 2 3 zbG
def za2:MS:=(sSeq (sIf (tCmp cEq (eV 1) (eC (.int 123))) (sRet (eMeth 4 zaM (eV 0) (aCons (eC (.int 0)) (aCons (eV 2) aNil)))) sNx) (sSeq (sIf (tCmp cEq (eV 1) (eC (.int 91))) (sRet (eMeth 4 zaM (eV 0) (aCons (eC (.int 1)) (aCons (eV 2) aNil)))) sNx) (sSeq (sIf (tCmp cEq (eV 1) (eC (.int 34))) (sSeq (zco 4 5 (eV 0) (eNew 3 zat aNil)) (sSeq (zco 4 2 (eV 0) (eC (.int 7))) (sSeq (sEx (eMeth 4 zal (eV 0) aNil)) (sRet (eC (.bl true)))))) sNx) (sSeq (sSet 3 (eCall m_word_begun_by (aCons (eV 1) aNil))) (sSeq (sIf (zmI (eV 3)) (sRet (eMeth 4 zaQ (eV 0) (aCons (eV 1) aNil))) sNx) (sSeq (zco 4 7 (eV 0) (eV 3)) (sSeq (zco 4 8 (eV 0) (eC (.int 1))) (sSeq (zco 4 2 (eV 0) (eC (.int 9))) (sSeq (sEx (eMeth 4 zal (eV 0) aNil)) (sRet (eC (.bl true))))))))))))
def zak:MF:=mFn 3 4 za2
def zbj:MS:=(sSeq (sIf (tCmp cEq (eLen (eFld 4 1 (eV 0))) (eC (.int 0))) (sRet (eC (.bl false))) sNx) (sSeq (sIf (tCmp cEq (eFld 2 0 (eIxL (eFld 4 1 (eV 0)) (eC (.int (-1))))) (eC (.int 1))) (sRet (eB (tIn [44,93] (eV 1)))) sNx) (sRet (eB (tIn [44,125] (eV 1))))))
def zam:MF:=mFn 2 2 zbj
def zbO:MS:=(sSeq (sSet 2 (ePop (eFld 4 1 (eV 0)))) (sSeq (sIf (tCmp cEq (eFld 2 2 (eV 2)) (eC (.int 1))) (sEx (eExt (eV 1) (eLst (aCons (eC (.int 2)) (aCons (eFld 2 0 (eV 2)) aNil))))) sNx) (zco 4 2 (eV 0) (eC (.int 5)))))
def zar:MF:=mFn 2 3 zbO
def zaW:MS:=(sSeq (sIf (zkR (tVal (eMeth 4 zam (eV 0) (aCons (eV 1) aNil)))) (sRet (eC (.bl false))) sNx) (sSeq (sIf (tCmp cNe (eV 1) (eC (.int 44))) (sEx (eMeth 4 zar (eV 0) (aCons (eV 2) aNil))) (sIf (tCmp cEq (eFld 2 0 (eIxL (eFld 4 1 (eV 0)) (eC (.int (-1))))) (eC (.int 1))) (zco 4 2 (eV 0) (eC (.int 0))) (zco 4 2 (eV 0) (eC (.int 2))))) (sRet (eC (.bl true)))))
def zao:MF:=mFn 3 3 zaW
def zcr:MS:=(sSeq (sIf (tCmp cNe (eV 1) (eC (.int 58))) (sRet (eC (.bl false))) sNx) (sSeq (zco 4 2 (eV 0) (eC (.int 0))) (sRet (eC (.bl true)))))
def zbC:MF:=mFn 2 2 zcr
def za0:MS:=(sSeq (sIf (tCmp cEq (eV 1) (eC (.int 34))) (sSeq (zco 4 5 (eV 0) (eNew 3 zat aNil)) (sSeq (zco 4 2 (eV 0) (eC (.int 6))) (sRet (eC (.bl true))))) sNx) (sSeq (sIf (ziy (tCmp cEq (eV 1) (eC (.int 125))) (tCmp cEq (eFld 4 2 (eV 0)) (eC (.int 3)))) (sSeq (sEx (eMeth 4 zar (eV 0) (aCons (eV 2) aNil))) (sRet (eC (.bl true)))) sNx) (sRet (eC (.bl false)))))
def zaw:MF:=mFn 3 3 za0
def za6:MS:=(sSeq (sIf (tCmp cEq (eFld 4 2 (eV 0)) (eC (.int 5))) (sRet (eMeth 4 zao (eV 0) (aCons (eV 1) (aCons (eV 2) aNil)))) sNx) (sSeq (sIf (tCmp cEq (eFld 4 2 (eV 0)) (eC (.int 4))) (sRet (eMeth 4 zbC (eV 0) (aCons (eV 1) aNil))) sNx) (sSeq (sIf (tIn [2,3] (eFld 4 2 (eV 0))) (sRet (eMeth 4 zaw (eV 0) (aCons (eV 1) (aCons (eV 2) aNil)))) sNx) (sSeq (sIf (ziy (tCmp cEq (eFld 4 2 (eV 0)) (eC (.int 1))) (tCmp cEq (eV 1) (eC (.int 93)))) (sSeq (sEx (eMeth 4 zar (eV 0) (aCons (eV 2) aNil))) (sRet (eC (.bl true)))) sNx) (sRet (eMeth 4 zak (eV 0) (aCons (eV 1) (aCons (eV 2) aNil))))))))
def zan:MF:=mFn 3 3 za6
def zgE:MS:=(sSeq (sSet 2 (eC (.int 0))) (sSeq (sWhile 100000 (ziy (tCmp cLt (eV 2) (eC (.int 2))) (ziy (tCmp cLt (eOp iAdd (eV 1) (eV 2)) (eLen (eV 0))) (tCmp cEq (eIxL (eV 0) (eOp iAdd (eV 1) (eV 2))) (eC (.int 46))))) (sAug 2 iAdd (eC (.int 1)))) (sRet (eV 2))))
def zeP:MF:=mFn 2 3 zgE
def zcq:MS:=(sRet (eAnd (eB (tLe3 126 (eC (.int 33)) (eV 0))) (eB (tNin [46,91,93,42,34,92] (eV 0)))))
def zbU:MF:=mFn 1 1 zcq
def zec:MS:=(sSeq (sIf (tCmp cEq (eIxL (eV 0) (eV 1)) (eC (.int 42))) (sRet (eTup (aCons (eTup (aCons (eV 2) (aCons (eC (.int 0)) (aCons (eC .non) aNil)))) (aCons (eOp iAdd (eV 1) (eC (.int 1))) aNil)))) sNx) (sSeq (sSet 3 (eV 1)) (sSeq (sWhile 100000 (ziy (tCmp cLt (eV 3) (eLen (eV 0))) (tVal (eCall zbU (aCons (eIxL (eV 0) (eV 3)) aNil)))) (sAug 3 iAdd (eC (.int 1)))) (sSeq (sIf (zkR (tLe3 32 (eC (.int 1)) (eOp iSub (eV 3) (eV 1)))) (sRet (eC .non)) sNx) (sRet (eTup (aCons (eTup (aCons (eV 2) (aCons (eC (.int 0)) (aCons (eTupOf (eSl2 (eV 0) (eV 1) (eV 3))) aNil)))) (aCons (eV 3) aNil))))))))
def zbY:MF:=mFn 3 4 zec
def zen:MS:=(sSeq (sIf (zkR (tLe3 6 (eC (.int 1)) (eLen (eV 0)))) (sRet (eC (.bl false))) sNx) (sSeq (sIf (ziy (tCmp cEq (eIxL (eV 0) (eC (.int 0))) (eC (.int 48))) (tCmp cGt (eLen (eV 0)) (eC (.int 1)))) (sRet (eC (.bl false))) sNx) (sRet (eAll zcm (eV 0)))))
def zc6:MF:=mFn 1 2 zen
def zfK:MS:=(sSeq (sSet 1 (eC (.int 0))) (sSeq (sForL 2 (eV 0) (sSet 1 (eOp iSub (eOp iAdd (eOp iMulR (eV 1) (eC (.int 10))) (eV 2)) (eC (.int 48))))) (sRet (eV 1))))
def zeI:MF:=mFn 1 3 zfK
def zcN:MS:=(sSeq (sSet 3 (eV 1)) (sSeq (sWhile 100000 (ziy (tCmp cLt (eV 3) (eLen (eV 0))) (tCmp cNe (eIxL (eV 0) (eV 3)) (eC (.int 93)))) (sAug 3 iAdd (eC (.int 1)))) (sSeq (sIf (tCmp cEq (eV 3) (eLen (eV 0))) (sRet (eC .non)) sNx) (sSeq (sSet 4 (eSl2 (eV 0) (eV 1) (eV 3))) (sSeq (sIf (tEqL (eV 4) (eLst (aCons (eC (.int 42)) aNil))) (sRet (eTup (aCons (eTup (aCons (eV 2) (aCons (eC (.int 1)) (aCons (eC .non) aNil)))) (aCons (eOp iAdd (eV 3) (eC (.int 1))) aNil)))) sNx) (sSeq (sIf (zkR (tVal (eCall zc6 (aCons (eV 4) aNil)))) (sRet (eC .non)) sNx) (sRet (eTup (aCons (eTup (aCons (eV 2) (aCons (eC (.int 1)) (aCons (eCall zeI (aCons (eV 4) aNil)) aNil)))) (aCons (eOp iAdd (eV 3) (eC (.int 1))) aNil))))))))))
def za5:MF:=mFn 3 5 zcN
def zfL:MS:=(sSeq (sSet 2 (eCall zeP (aCons (eV 0) (aCons (eV 1) aNil)))) (sSeq (sSet 3 (eOp iAdd (eV 1) (eV 2))) (sSeq (sIf (tCmp cEq (eV 3) (eLen (eV 0))) (sRet (eC .non)) sNx) (sSeq (sIf (ziy (tCmp cEq (eIxL (eV 0) (eV 3)) (eC (.int 91))) (tCmp cNe (eV 2) (eC (.int 1)))) (sRet (eCall za5 (aCons (eV 0) (aCons (eOp iAdd (eV 3) (eC (.int 1))) (aCons (eB (tCmp cEq (eV 2) (eC (.int 2)))) aNil))))) sNx) (sSeq (sIf (tCmp cEq (eV 2) (eC (.int 0))) (sRet (eC .non)) sNx) (sRet (eCall zbY (aCons (eV 0) (aCons (eV 3) (aCons (eB (tCmp cEq (eV 2) (eC (.int 2)))) aNil))))))))))
def zcA:MF:=mFn 2 4 zfL
def zeJ:MS:=(sSeq (sIf (tCmp cGt (eLen (eV 0)) (eC (.int 300))) (sRet (eC .non)) sNx) (sSeq (sSet 1 (eLst aNil)) (sSeq (sSet 2 (eC (.int 0))) (sSeq (sWhile 100000 (tCmp cLt (eV 2) (eLen (eV 0))) (sSeq (sSet 3 (eCall zcA (aCons (eV 0) (aCons (eV 2) aNil)))) (sSeq (sIf (tOr (zmI (eV 3)) (tCmp cEq (eLen (eV 1)) (eC (.int 8)))) (sRet (eC .non)) sNx) (sSeq (sEx (eApp (eV 1) (eIxT (eV 3) (eC (.int 0))))) (sSet 2 (eIxT (eV 3) (eC (.int 1)))))))) (sRet (eV 1))))))
def zbw:MF:=mFn 1 4 zeJ
def zcb:MS:=(sSeq (zco 0 0 (eV 0) eDNew) (sSeq (zco 0 1 (eV 0) (eC (.int 0))) (sSeq (zco 0 2 (eV 0) (eC (.int 0))) (sSeq (zco 0 3 (eV 0) (eC (.int 0))) (sSeq (zco 0 4 (eV 0) (eLst (aCons (eC (.int 0)) (aCons (eC (.int 0)) aNil)))) (zco 0 5 (eV 0) eNNew))))))
def zaN:MF:=mFn 1 1 zcb
def zbL:MS:=(sSeq (sForR 1 16 (sIf (tDnin (eV 1) (eFld 0 0 (eV 0))) (sRet (eV 1)) sNx)) (sRet (eC .non)))
def zbb:MF:=mFn 1 2 zbL
def zbA:MS:=(sSeq (sSet 3 (eOp iShl (eC (.int 1)) (eOp iAdd (eOp iMulL (eC (.int 16)) (eOp iSub (eC (.int 8)) (eLen (eV 2)))) (eV 1)))) (sSeq (zdU 0 1 iOr (eV 0) (eV 3)) (sForL 4 (eV 2) (sSeq (sIf (tVal (eIxT (eV 4) (eC (.int 0)))) (zdU 0 2 iOr (eV 0) (eV 3)) sNx) (sSeq (sIf (zmI (eIxT (eV 4) (eC (.int 2)))) (sAugS iOr (eFld 0 4 (eV 0)) (eIxT (eV 4) (eC (.int 1))) (eV 3)) (sSeq (sSet 5 (eTup (aCons (eIxT (eV 4) (eC (.int 1))) (aCons (eIxT (eV 4) (eC (.int 2))) aNil)))) (sNput (eFld 0 5 (eV 0)) (eV 5) (eOp iOr (eNGet (eFld 0 5 (eV 0)) (eV 5) (eC (.int 0))) (eV 3))))) (sSet 3 (eOp iShl (eV 3) (eC (.int 16)))))))))
def zaI:MF:=mFn 3 6 zbA
def zct:MS:=(sSeq (zco 0 1 (eV 0) (eC (.int 0))) (sSeq (zco 0 2 (eV 0) (eC (.int 0))) (sSeq (zco 0 3 (eV 0) (eC (.int 0))) (sSeq (zco 0 4 (eV 0) (eLst (aCons (eC (.int 0)) (aCons (eC (.int 0)) aNil)))) (sSeq (zco 0 5 (eV 0) eNNew) (sForL 1 (eSortD (eFld 0 0 (eV 0))) (sSeq (sSet 2 (eDGet (eFld 0 0 (eV 0)) (eV 1))) (sSeq (sIf (tCmp cEq (eIxT (eV 2) (eC (.int 0))) (eC (.int 0))) (zdU 0 3 iOr (eV 0) (eOp iShl (eC (.int 1)) (eV 1))) sNx) (sEx (eMeth 0 zaI (eV 0) (aCons (eV 1) (aCons (eIxT (eV 2) (eC (.int 1))) aNil))))))))))))
def zaZ:MF:=mFn 1 3 zct
def zdj:MS:=(sSeq (sDput (eFld 0 0 (eV 0)) (eV 1) (eTup (aCons (eV 2) (aCons (eV 3) aNil)))) (sEx (eMeth 0 zaZ (eV 0) aNil)))
def zcp:MF:=mFn 4 4 zdj
def zb8:MS:=(sSeq (sEx (eDPop (eFld 0 0 (eV 0)) (eV 1))) (sEx (eMeth 0 zaZ (eV 0) aNil)))
def zbs:MF:=mFn 2 2 zb8
def zbT:MS:=(sRet (eCall zem (aCons (eFld 1 0 (eV 0)) aNil)))
def zaE:MF:=mFn 1 1 zbT
def zcW:MS:=(sSeq (zco 4 0 (eV 0) (eV 1)) (sSeq (zco 4 1 (eV 0) (eLst aNil)) (sSeq (zco 4 2 (eV 0) (eC (.int 0))) (sSeq (zco 4 3 (eV 0) (eC (.int 0))) (sSeq (zco 4 4 (eV 0) (eC (.bl false))) (sSeq (zco 4 5 (eV 0) (eNew 3 zat aNil)) (sSeq (zco 4 6 (eV 0) (eNew 1 zaD aNil)) (sSeq (zco 4 7 (eV 0) (eC (.int 0))) (zco 4 8 (eV 0) (eC (.int 0)))))))))))
def za3:MF:=mFn 2 2 zcW
def zc7:MS:=(sSeq (sSet 1 (eFld 0 1 (eFld 4 0 (eV 0)))) (sForL 2 (eFld 4 1 (eV 0)) (sSeq (zco 2 1 (eV 2) (eV 1)) (sSet 1 (eMeth 0 zaJ (eFld 4 0 (eV 0)) (aCons (eV 1) (aCons (eMeth 2 zbk (eV 2) aNil) aNil)))))))
def zbf:MF:=mFn 1 3 zc7
def zcs:MS:=(sSeq (sEx (eMeth 4 zaL (eV 0) (aCons (eC (.int 5)) (aCons (eFld 1 1 (eFld 4 6 (eV 0))) (aCons (eV 1) aNil))))) (zco 4 2 (eV 0) (eC (.int 5))))
def zaY:MF:=mFn 2 2 zcs
def zdK:MS:=(sSeq (sIf (tCmp cEq (eFld 4 2 (eV 0)) (eC (.int 7))) (sRet (eMeth 4 zaC (eV 0) (aCons (eV 1) (aCons (eV 2) aNil)))) sNx) (sSeq (sIf (tCmp cEq (eFld 4 2 (eV 0)) (eC (.int 6))) (sRet (eMeth 4 zau (eV 0) (aCons (eV 1) (aCons (eV 2) aNil)))) sNx) (sSeq (sIf (tCmp cEq (eFld 4 2 (eV 0)) (eC (.int 8))) sNever sNx) (sSeq (sIf (tCmp cEq (eFld 4 2 (eV 0)) (eC (.int 9))) (sRet (eMeth 4 zas (eV 0) (aCons (eV 1) (aCons (eV 2) aNil)))) sNx) (sRet (eOr (eB (tIn [32,9,10,13] (eV 1))) (eMeth 4 zan (eV 0) (aCons (eV 1) (aCons (eV 2) aNil)))))))))
def zci:MF:=mFn 3 3 zdK
def zbc:MS:=(sSeq (sIf (tVal (eMeth 1 zaH (eFld 4 6 (eV 0)) (aCons (eV 1) aNil))) (sRet (eC (.bl true))) sNx) (sSeq (sIf (tOr (zkR (tVal (eMeth 1 zaE (eFld 4 6 (eV 0)) aNil))) (zkR (tOr (tIn [32,9,10,13] (eV 1)) (tVal (eMeth 4 zam (eV 0) (aCons (eV 1) aNil)))))) (sRet (eC (.bl false))) sNx) (sSeq (sEx (eMeth 4 zaY (eV 0) (aCons (eV 2) aNil))) (sRet (eMeth 4 zci (eV 0) (aCons (eV 1) (aCons (eV 2) aNil)))))))
def zaA:MF:=mFn 3 3 zbc
def zcd:MS:=(sSeq (sIf (tCmp cEq (eFld 4 2 (eV 0)) (eC (.int 7))) (sRet (eMeth 4 zaC (eV 0) (aCons (eV 1) (aCons (eV 2) aNil)))) sNx) (sSeq (sIf (tCmp cEq (eFld 4 2 (eV 0)) (eC (.int 6))) (sRet (eMeth 4 zau (eV 0) (aCons (eV 1) (aCons (eV 2) aNil)))) sNx) (sSeq (sIf (tCmp cEq (eFld 4 2 (eV 0)) (eC (.int 8))) (sRet (eMeth 4 zaA (eV 0) (aCons (eV 1) (aCons (eV 2) aNil)))) sNx) (sSeq (sIf (tCmp cEq (eFld 4 2 (eV 0)) (eC (.int 9))) (sRet (eMeth 4 zas (eV 0) (aCons (eV 1) (aCons (eV 2) aNil)))) sNx) (sRet (eOr (eB (tIn [32,9,10,13] (eV 1))) (eMeth 4 zan (eV 0) (aCons (eV 1) (aCons (eV 2) aNil)))))))))
def zav:MF:=mFn 3 3 zcd
def zbF:MS:=(sSeq (sIf (tCmp cGt (eLen (eFld 4 1 (eV 0))) (eC (.int 0))) (sRet (eC (.bl false))) sNx) (sSeq (sIf (ziy (tCmp cEq (eFld 4 2 (eV 0)) (eC (.int 8))) (tVal (eMeth 1 zaE (eFld 4 6 (eV 0)) aNil))) (sEx (eMeth 4 zaY (eV 0) (aCons (eV 1) aNil))) sNx) (sRet (eB (tCmp cEq (eFld 4 2 (eV 0)) (eC (.int 5)))))))
def zaG:MF:=mFn 2 2 zbF
def zcV:MS:=(sSeq (zco 5 0 (eV 0) (eNew 0 zaN aNil)) (sSeq (zco 5 1 (eV 0) (eNew 4 za3 (aCons (eFld 5 0 (eV 0)) aNil))) (sSeq (zco 5 2 (eV 0) (eC (.int 0))) (zco 5 3 (eV 0) (eC (.bl false))))))
def zbV:MF:=mFn 1 1 zcV
def zdI:MS:=(sSeq (zco 5 0 (eV 0) (eNew 0 zaN aNil)) (sSeq (zco 5 1 (eV 0) (eNew 4 za3 (aCons (eFld 5 0 (eV 0)) aNil))) (sSeq (zco 5 2 (eV 0) (eC (.int 0))) (sSeq (zco 5 3 (eV 0) (eC (.bl false))) (sRet (eLst (aCons (eC (.int 0)) aNil)))))))
def zcg:MF:=mFn 1 1 zdI
def zcY:MS:=(sSeq (sSet 3 (eCall zbw (aCons (eV 2) aNil))) (sSeq (sIf (tOr (tCmp cGt (eV 1) (eC (.int 1))) (zmI (eV 3))) (sRet (eLst (aCons (eC (.int (-1))) aNil))) sNx) (sSeq (sSet 4 (eMeth 0 zbb (eFld 5 0 (eV 0)) aNil)) (sSeq (sIf (zmI (eV 4)) (sRet (eLst (aCons (eC (.int (-2))) aNil))) sNx) (sSeq (sEx (eMeth 0 zcp (eFld 5 0 (eV 0)) (aCons (eV 4) (aCons (eV 1) (aCons (eV 3) aNil))))) (sSeq (sEx (eMeth 4 zbf (eFld 5 1 (eV 0)) aNil)) (sRet (eLst (aCons (eC (.int 0)) (aCons (eV 4) aNil))))))))))
def zbv:MF:=mFn 3 5 zcY
def zdm:MS:=(sSeq (sIf (tDnin (eV 1) (eFld 0 0 (eFld 5 0 (eV 0)))) (sRet (eLst (aCons (eC (.int (-1))) aNil))) sNx) (sSeq (sEx (eMeth 0 zbs (eFld 5 0 (eV 0)) (aCons (eV 1) aNil))) (sSeq (sEx (eMeth 4 zbf (eFld 5 1 (eV 0)) aNil)) (sRet (eLst (aCons (eC (.int 0)) aNil))))))
def zb0:MF:=mFn 2 2 zdm
def zcD:MS:=(sSeq (sIf (tCmp cGt (eOp iAdd (eFld 5 2 (eV 0)) (eLen (eV 1))) (eC (.int 65536))) (sRet (eLst (aCons (eC (.int (-3))) aNil))) sNx) (sSeq (sIf (tVal (eFld 5 3 (eV 0))) (sRet (eLst (aCons (eC (.int (-2))) aNil))) sNx) (sSeq (sSet 2 (eLst aNil)) (sSeq (sForL 3 (eV 1) (sSeq (sIf (zkR (tVal (eMeth 4 zav (eFld 5 1 (eV 0)) (aCons (eV 3) (aCons (eV 2) aNil))))) (sSeq (zco 5 3 (eV 0) (eC (.bl true))) (sRet (eCat (eLst (aCons (eC (.int 1)) aNil)) (eV 2)))) sNx) (zdU 5 2 iAdd (eV 0) (eC (.int 1))))) (sRet (eCat (eLst (aCons (eC (.int 0)) aNil)) (eV 2)))))))
def zbl:MF:=mFn 2 4 zcD
def zdi:MS:=(sSeq (sIf (tVal (eFld 5 3 (eV 0))) (sRet (eLst (aCons (eC (.int (-2))) aNil))) sNx) (sSeq (zco 5 3 (eV 0) (eC (.bl true))) (sSeq (sSet 1 (eLst aNil)) (sSeq (sIf (zkR (tVal (eMeth 4 zaG (eFld 5 1 (eV 0)) (aCons (eV 1) aNil)))) (sRet (eLst (aCons (eC (.int 1)) aNil))) sNx) (sRet (eCat (eLst (aCons (eC (.int 0)) aNil)) (eV 1)))))))
def zbP:MF:=mFn 1 2 zdi
def zdG:MS:=(sRet (eLst (aCons (eC (.int 0)) (aCons (eFld 5 2 (eV 0)) aNil))))
def zce:MF:=mFn 1 1 zdG
def zdH:MS:=(sRet (eLst (aCons (eC (.int 0)) (aCons (eLen (eFld 4 1 (eFld 5 1 (eV 0)))) aNil))))
def zcf:MF:=mFn 1 1 zdH
def zdJ:MS:=(sRet (eCat (eLst (aCons (eC (.int 0)) aNil)) (eSortD (eFld 0 0 (eFld 5 0 (eV 0))))))
def zch:MF:=mFn 1 1 zdJ
def zid:MS:=(sSeq (sSet 1 (eCall zbw (aCons (eV 0) aNil))) (sSeq (sIf (zmI (eV 1)) (sRet (eLst (aCons (eC (.int (-1))) aNil))) sNx) (sRet (eLst (aCons (eC (.int 0)) (aCons (eLen (eV 1)) aNil))))))
def zfl:MF:=mFn 1 2 zid
def zcc:MS:=(sSeq (sSet 2 (eIxL (eV 0) (eV 1))) (sSeq (sIf (tIn [2,6,7,8,9] (eV 2)) (sRet (eOp iAdd (eV 1) (eC (.int 1)))) sNx) (sSeq (sIf (tCmp cEq (eV 2) (eC (.int 4))) (sRet (eOp iAdd (eV 1) (eC (.int 2)))) sNx) (sSeq (sIf (tCmp cEq (eV 2) (eC (.int 3))) (sRet (eOp iAdd (eOp iAdd (eV 1) (eC (.int 3))) (eIxL (eV 0) (eOp iAdd (eV 1) (eC (.int 2)))))) sNx) (sSeq (sIf (tIn [1,5] (eV 2)) (sRet (eOp iAdd (eOp iAdd (eV 1) (eC (.int 2))) (eIxL (eV 0) (eOp iAdd (eV 1) (eC (.int 1)))))) sNx) sNever)))))
def zaV:MF:=mFn 2 3 zcc
def zbW:MS:=(sSeq (sSet 2 (eIxL (eV 1) (eC (.int 0)))) (sSeq (sIf (tCmp cEq (eV 2) (eC (.int 1))) (sRet (eCall zfl (aCons (eSl1 (eV 1) (eC (.int 2))) aNil))) sNx) (sSeq (sIf (tCmp cEq (eV 2) (eC (.int 2))) (sRet (eMeth 5 zcg (eV 0) aNil)) sNx) (sSeq (sIf (tCmp cEq (eV 2) (eC (.int 3))) (sRet (eMeth 5 zbv (eV 0) (aCons (eIxL (eV 1) (eC (.int 1))) (aCons (eSl1 (eV 1) (eC (.int 3))) aNil)))) sNx) (sSeq (sIf (tCmp cEq (eV 2) (eC (.int 4))) (sRet (eMeth 5 zb0 (eV 0) (aCons (eIxL (eV 1) (eC (.int 1))) aNil))) sNx) (sSeq (sIf (tCmp cEq (eV 2) (eC (.int 5))) (sRet (eMeth 5 zbl (eV 0) (aCons (eSl1 (eV 1) (eC (.int 2))) aNil))) sNx) (sSeq (sIf (tCmp cEq (eV 2) (eC (.int 6))) (sRet (eMeth 5 zbP (eV 0) aNil)) sNx) (sSeq (sIf (tCmp cEq (eV 2) (eC (.int 7))) (sRet (eMeth 5 zce (eV 0) aNil)) sNx) (sSeq (sIf (tCmp cEq (eV 2) (eC (.int 8))) (sRet (eMeth 5 zcf (eV 0) aNil)) sNx) (sRet (eMeth 5 zch (eV 0) aNil)))))))))))
def zaP:MF:=mFn 2 3 zbW
def zgF:MS:=(sSeq (sSet 1 (eNew 5 zbV aNil)) (sSeq (sSet 2 (eLst aNil)) (sSeq (sSet 3 (eC (.int 0))) (sSeq (sWhile 100000 (tCmp cLt (eV 3) (eLen (eV 0))) (sSeq (sSet 4 (eCall zaV (aCons (eV 0) (aCons (eV 3) aNil)))) (sSeq (sSet 5 (eCall zaP (aCons (eV 1) (aCons (eSl2 (eV 0) (eV 3) (eV 4)) aNil)))) (sSeq (sEx (eApp (eV 2) (eLen (eV 5)))) (sSeq (sEx (eExt (eV 2) (eV 5))) (sSet 3 (eV 4))))))) (sRet (eV 2))))))
def zgq:MF:=mFn 1 6 zgF
end
end TS
namespace TS
noncomputable section
open PySem PySem.Spec PyProof.Rows L2
noncomputable def top (i:Nat):Stmt:=PySem.Challenge.pw_textsift_s01_answers.main.body.getD i (.Pass ⟨0,0,0,0⟩)
abbrev zhZ:Stmt:=top 19
abbrev zhX:Stmt:=top 25
abbrev ziR:Stmt:=top 26
abbrev ziT:Stmt:=top 27
abbrev zfR:Stmt:=top 28
abbrev zdM:Stmt:=top 29
abbrev zfe:Stmt:=top 30
abbrev zfS:Stmt:=top 31
abbrev zhW:Stmt:=top 32
abbrev zdw:Stmt:=zaF (top 37) 0
abbrev zc3:Stmt:=zaF (top 37) 1
abbrev zeL:Stmt:=zaF (top 37) 2
abbrev zdt:Stmt:=zaF (top 37) 3
abbrev zdR:Stmt:=zaF (top 37) 4
abbrev zcK:Stmt:=zaF (top 37) 5
abbrev zek:Stmt:=zaF (top 37) 6
abbrev zdu:Stmt:=zaF (top 37) 7
abbrev zdv:Stmt:=zaF (top 37) 8
abbrev zfc:Stmt:=top 49
abbrev zdp:Stmt:=top 50
abbrev zhY:Stmt:=top 51
abbrev zc4:Stmt:=zaF (top 52) 0
abbrev zdS:Stmt:=zaF (top 52) 1
abbrev zc9:Stmt:=zaF (top 52) 2
abbrev zev:Stmt:=zaF (top 57) 0
abbrev zdT:Stmt:=zaF (top 57) 1
abbrev zgi:Stmt:=zaF (top 57) 2
abbrev zd4:Stmt:=top 69
abbrev zff:Stmt:=top 70
abbrev zfd:Stmt:=top 71
abbrev zeg:Stmt:=top 72
abbrev ziS:Stmt:=top 73
abbrev zfU:Stmt:=top 74
abbrev zcZ:Stmt:=zaF (top 75) 0
abbrev zdN:Stmt:=zaF (top 75) 1
abbrev zcE:Stmt:=zaF (top 75) 2
abbrev zcP:Stmt:=zaF (top 75) 3
abbrev zbR:Stmt:=zaF (top 75) 4
abbrev zb3:Stmt:=zaF (top 75) 5
abbrev zcn:Stmt:=zaF (top 75) 6
abbrev zcF:Stmt:=zaF (top 75) 7
abbrev zcG:Stmt:=zaF (top 75) 8
abbrev zbI:Stmt:=zaF (top 75) 9
abbrev zgf:Stmt:=top 89
abbrev zej:Stmt:=zaF (top 90) 0
abbrev zeu:Stmt:=zaF (top 90) 1
abbrev zeF:Stmt:=zaF (top 90) 2
abbrev zd5:Stmt:=zaF (top 90) 3
abbrev zdP:Stmt:=zaF (top 90) 4
abbrev zcH:Stmt:=zaF (top 90) 5
abbrev zcJ:Stmt:=zaF (top 90) 6
abbrev zcy:Stmt:=zaF (top 90) 7
abbrev zdr:Stmt:=zaF (top 90) 8
abbrev zdg:Stmt:=zaF (top 90) 9
abbrev zds:Stmt:=zaF (top 90) 10
abbrev zcQ:Stmt:=zaF (top 90) 11
abbrev zc0:Stmt:=zaF (top 90) 12
abbrev zcI:Stmt:=zaF (top 90) 13
abbrev zdq:Stmt:=zaF (top 90) 14
abbrev zdf:Stmt:=zaF (top 90) 15
abbrev zc1:Stmt:=zaF (top 90) 16
abbrev zc2:Stmt:=zaF (top 90) 17
abbrev zdQ:Stmt:=zaF (top 90) 18
abbrev zde:Stmt:=zaF (top 90) 19
abbrev zdO:Stmt:=zaF (top 90) 20
abbrev zei:Stmt:=zaF (top 90) 21
abbrev zeh:Stmt:=zaF (top 103) 0
abbrev zfi:Stmt:=zaF (top 103) 1
abbrev zgh:Stmt:=zaF (top 103) 2
abbrev zfW:Stmt:=zaF (top 103) 3
abbrev zfV:Stmt:=zaF (top 103) 4
abbrev zgg:Stmt:=zaF (top 103) 5
abbrev zfg:Stmt:=zaF (top 103) 6
abbrev zfh:Stmt:=zaF (top 103) 7
abbrev zfj:Stmt:=zaF (top 103) 8
abbrev zlV:Stmt:=top 104
abbrev ziU:Stmt:=top 105
abbrev zfT:Stmt:=top 106
abbrev zhg:Stmt:=top 107
theorem scK{N P:List Str}{s:Scope}(a:s.kind= .function:=by rfl)(b:s.isCoroutine=false:=by rfl)(c:s.isGenerator=false:=by rfl)(d:N.Nodup:=by decide +kernel)(e:N.take P.length=P:=by rfl)(f:∀x∈P,s.names.lookup x=some .local\/s.names.lookup x=some .cell:=by decide +kernel)(g:∀y∈s.names,y.2≠ .free:=by decide +kernel):FnScope N P s:=⟨a,b,c,d,e,f,g⟩
theorem zlU:FnScope ["byte"] ["byte"] (zaf zhZ):=scK
theorem sc_steps_of:FnScope ["path","steps","at","found"] ["path"] (zaf zhX):=scK
theorem sc_step_at:FnScope ["path","at","dots","begin"] ["path","at"] (zaf ziR):=scK
theorem sc_dots_at:FnScope ["path","at","dots"] ["path","at"] (zaf ziT):=scK
theorem sc_member_step:FnScope ["path","begin","wide","end"] ["path","begin","wide"] (zaf zfR):=scK
theorem zgN:FnScope ["byte"] ["byte"] (zaf zdM):=scK
theorem sc_element_step:FnScope ["path","begin","wide","end","within"] ["path","begin","wide"] (zaf zfe):=scK
theorem sc_is_number:FnScope ["digits","byte"] ["digits"] (zaf zfS):=scK
theorem sc_value_of:FnScope ["digits","number","byte"] ["digits"] (zaf zhW):=scK
theorem zge:FnScope ["self"] ["self"] (zaf zdw):=scK
theorem sc_Questions_free_number:FnScope ["self","number"] ["self"] (zaf zc3):=scK
theorem ziq:FnScope ["self","number","shut","steps"] ["self","number","shut","steps"] (zaf zeL):=scK
theorem zgb:FnScope ["self","number"] ["self","number"] (zaf zdt):=scK
theorem sc_Questions_lay_out:FnScope ["self","number","question"] ["self"] (zaf zdR):=scK
theorem sc_Questions_lay_out_steps:FnScope ["self","number","steps","bit","step","link"] ["self","number","steps"] (zaf zcK):=scK
theorem sc_Questions_along:FnScope ["self","places","link","fitting"] ["self","places","link"] (zaf zek):=scK
theorem zgc:FnScope ["self","places"] ["self","places"] (zaf zdu):=scK
theorem zgd:FnScope ["self","which"] ["self","which"] (zaf zdv):=scK
theorem ziK:FnScope ["stage","byte"] ["stage","byte"] (zaf zfc):=scK
theorem zga:FnScope ["stage","byte"] ["stage","byte"] (zaf zdp):=scK
theorem zlT:FnScope ["stage"] ["stage"] (zaf zhY):=scK
theorem zfw:FnScope ["self"] ["self"] (zaf zc4):=scK
theorem sc_NumberReader_take:FnScope ["self","byte","stage","least"] ["self","byte"] (zaf zdS):=scK
theorem zfP:FnScope ["self"] ["self"] (zaf zc9):=scK
theorem zhV:FnScope ["self","kind","places","telling"] ["self","kind","places","telling"] (zaf zev):=scK
theorem zgS:FnScope ["self"] ["self"] (zaf zdT):=scK
theorem zkl:FnScope ["self"] ["self"] (zaf zgi):=scK
theorem zhe:FnScope ["byte"] ["byte"] (zaf zd4):=scK
theorem ziM:FnScope ["lead"] ["lead"] (zaf zff):=scK
theorem ziL:FnScope ["lead"] ["lead"] (zaf zfd):=scK
theorem zhv:FnScope ["lead"] ["lead"] (zaf zeg):=scK
theorem znD:FnScope ["code"] ["code"] (zaf ziS):=scK
theorem zjB:FnScope ["value","count","first"] ["value","count","first"] (zaf zfU):=scK
theorem zft:FnScope ["self"] ["self"] (zaf zcZ):=scK
theorem zgO:FnScope ["self","byte"] ["self","byte"] (zaf zdN):=scK
theorem zeR:FnScope ["self","byte"] ["self","byte"] (zaf zcE):=scK
theorem sc_StringReader_take_lead:FnScope ["self","byte","missing"] ["self","byte"] (zaf zcP):=scK
theorem zd3:FnScope ["self","byte"] ["self","byte"] (zaf zbR):=scK
theorem zeo:FnScope ["self","byte"] ["self","byte"] (zaf zb3):=scK
theorem zeE:FnScope ["self"] ["self"] (zaf zcn):=scK
theorem sc_StringReader_take_digit:FnScope ["self","byte","digit","value"] ["self","byte"] (zaf zcF):=scK
theorem sc_StringReader_end_digits:FnScope ["self","code"] ["self"] (zaf zcG):=scK
theorem zd0:FnScope ["self","byte"] ["self","byte"] (zaf zbI):=scK
theorem sc_word_begun_by:FnScope ["byte","number","word"] ["byte"] (zaf zgf):=scK
theorem zhy:FnScope ["self","questions"] ["self","questions"] (zaf zej):=scK
theorem sc_Reader_retrace:FnScope ["self","places","level"] ["self"] (zaf zeu):=scK
theorem zg8:FnScope ["self","byte","told"] ["self","byte","told"] (zaf zeF):=scK
theorem zhf:FnScope ["self","byte","told"] ["self","byte","told"] (zaf zd5):=scK
theorem zgQ:FnScope ["self","byte"] ["self","byte"] (zaf zdP):=scK
theorem zeS:FnScope ["self","byte","told"] ["self","byte","told"] (zaf zcH):=scK
theorem zeT:FnScope ["self","byte"] ["self","byte"] (zaf zcJ):=scK
theorem zeK:FnScope ["self","byte","told"] ["self","byte","told"] (zaf zcy):=scK
theorem sc_Reader_begin_value:FnScope ["self","byte","told","word"] ["self","byte","told"] (zaf zdr):=scK
theorem sc_Reader_begin_number:FnScope ["self","byte","number"] ["self","byte"] (zaf zdg):=scK
theorem sc_Reader_begin_level:FnScope ["self","kind","told","places"] ["self","kind","told"] (zaf zds):=scK
theorem zfb:FnScope ["self"] ["self"] (zaf zcQ):=scK
theorem zfu:FnScope ["self"] ["self"] (zaf zc0):=scK
theorem sc_Reader_settle_questions:FnScope ["self","places","level","telling"] ["self"] (zaf zcI):=scK
theorem sc_Reader_close_level:FnScope ["self","told","level"] ["self","told"] (zaf zdq):=scK
theorem sc_Reader_take_in_name:FnScope ["self","byte","told","done","level","characters"] ["self","byte","told"] (zaf zdf):=scK
theorem sc_Reader_take_in_string:FnScope ["self","byte","told","done"] ["self","byte","told"] (zaf zc1):=scK
theorem zfv:FnScope ["self","byte","told"] ["self","byte","told"] (zaf zc2):=scK
theorem zgR:FnScope ["self","told"] ["self","told"] (zaf zdQ):=scK
theorem sc_Reader_take_in_word:FnScope ["self","byte","told","word"] ["self","byte","told"] (zaf zde):=scK
theorem zgP:FnScope ["self","sign","row","told"] ["self","sign","row","told"] (zaf zdO):=scK
theorem zhx:FnScope ["self","told"] ["self","told"] (zaf zei):=scK
theorem zhw:FnScope ["self"] ["self"] (zaf zeh):=scK
theorem ziP:FnScope ["self"] ["self"] (zaf zfi):=scK
theorem sc_Sifter_ask:FnScope ["self","shut","path","steps","number"] ["self","shut","path"] (zaf zgh):=scK
theorem zjC:FnScope ["self","number"] ["self","number"] (zaf zfW):=scK
theorem sc_Sifter_feed:FnScope ["self","piece","told","byte"] ["self","piece"] (zaf zfV):=scK
theorem sc_Sifter_end:FnScope ["self","told"] ["self"] (zaf zgg):=scK
theorem ziN:FnScope ["self"] ["self"] (zaf zfg):=scK
theorem ziO:FnScope ["self"] ["self"] (zaf zfh):=scK
theorem ziQ:FnScope ["self"] ["self"] (zaf zfj):=scK
theorem sc_check:FnScope ["path","steps"] ["path"] (zaf zlV):=scK
theorem sc_answers:FnScope ["calls","sifter","answered","at","end","answer"] ["calls"] (zaf ziU):=scK
theorem sc_end_of_call:FnScope ["calls","at","number"] ["calls","at"] (zaf zfT):=scK
theorem sc_answer_to:FnScope ["sifter","call","number"] ["sifter","call"] (zaf zhg):=scK
structure Txt (K:PySem.W.Frag) (mg:Str->Option Value) (a:Ad):Prop where
 eK:a.K=K
 zzC:Cls K (a 0)
 zzJ:Cls K (a 1)
 zzG:Cls K (a 2)
 zzB:Cls K (a 3)
 zzA:Cls K (a 4)
 zzD:Cls K (a 5)
 zzN:NoAttr K (a 0) "held"
 zz1:NoAttr K (a 0) "at_root"
 zz9:NoAttr K (a 0) "wide"
 zAa:NoAttr K (a 0) "unshut"
 zAb:NoAttr K (a 0) "any_of"
 zz2:NoAttr K (a 0) "only"
 zAc:NoAttr K (a 1) "stage"
 zAd:NoAttr K (a 1) "figures"
 zz3:NoAttr K (a 2) "kind"
 zAr:NoAttr K (a 2) "places"
 zAe:NoAttr K (a 2) "telling"
 zAs:NoAttr K (a 2) "name"
 zAt:NoAttr K (a 2) "begun"
 zzO:NoAttr K (a 3) "characters"
 zzH:NoAttr K (a 3) "stage"
 zAf:NoAttr K (a 3) "missing"
 zAg:NoAttr K (a 3) "least"
 zAh:NoAttr K (a 3) "greatest"
 zzP:NoAttr K (a 3) "value"
 zz4:NoAttr K (a 3) "digits"
 zzV:NoAttr K (a 3) "first"
 zzR:NoAttr K (a 4) "questions"
 zzI:NoAttr K (a 4) "levels"
 zzE:NoAttr K (a 4) "awaited"
 zzS:NoAttr K (a 4) "which"
 zzW:NoAttr K (a 4) "is_told"
 zzT:NoAttr K (a 4) "string"
 zzX:NoAttr K (a 4) "number"
 zAi:NoAttr K (a 4) "word"
 zz5:NoAttr K (a 4) "spelled"
 zzK:NoAttr K (a 5) "questions"
 zzU:NoAttr K (a 5) "reader"
 zz6:NoAttr K (a 5) "taken"
 zzY:NoAttr K (a 5) "over"
 zAj:GI mg "QUOTE" 34
 zAu:GI mg "STAR" 42
 zBa:GI mg "PLUS" 43
 zAv:GI mg "COMMA" 44
 zAI:GI mg "MINUS" 45
 zAw:GI mg "DOT" 46
 zAk:GI mg "ZERO" 48
 zBb:GI mg "NINE" 57
 zBc:GI mg "COLON" 58
 zAx:GI mg "BRACKET" 91
 zAy:GI mg "BACKSLASH" 92
 zAl:GI mg "BRACKET_END" 93
 zAJ:GI mg "SMALL_U" 117
 zBd:GI mg "BRACE" 123
 zAK:GI mg "BRACE_END" 125
 zAm:GI mg "OBJECT" 0
 zzQ:GI mg "ARRAY" 1
 zBe:GI mg "MOST_BYTES_paths" 300
 zBf:GI mg "MOST_STEPS" 8
 zBg:GI mg "MOST_NAME_BYTES" 32
 zBh:GI mg "MOST_DIGITS" 6
 zBi:GI mg "MOST_QUESTIONS" 16
 zAn:GI mg "ROW" 16
 zAL:GI mg "LAST_ROW" 8
 zBj:GI mg "MOST_BYTES_figures" 64
 zAz:GI mg "AT_START" 0
 zAM:GI mg "AFTER_MINUS" 1
 zz7:GI mg "AFTER_ZERO" 2
 zzZ:GI mg "IN_WHOLE" 3
 zAN:GI mg "AFTER_POINT" 4
 zAo:GI mg "IN_FRACTION" 5
 zAO:GI mg "AFTER_E" 6
 zBk:GI mg "AFTER_SIGN" 7
 zAP:GI mg "IN_EXPONENT" 8
 zAA:GI mg "CHOSEN" 0
 zAp:GI mg "ALL" 1
 zAB:GI mg "NOTHING" 2
 zzL:GI mg "GOES_ON" 0
 zAC:GI mg "CLOSES" 1
 zzM:GI mg "WRONG" 2
 zz8:GI mg "PLAIN" 0
 zAQ:GI mg "IN_CHARACTER" 1
 zAR:GI mg "IN_ESCAPE" 2
 zAS:GI mg "IN_DIGITS" 3
 zAT:GI mg "BEFORE_SECOND_HALF" 4
 zAU:GI mg "IN_SECOND_HALF" 5
 zBl:GI mg "MOST_DEPTH" 32
 zAD:GI mg "VALUE" 0
 zAV:GI mg "VALUE_OR_END" 1
 zAW:GI mg "NAME" 2
 zAE:GI mg "NAME_OR_END" 3
 zAX:GI mg "COLON_BEHIND_NAME" 4
 zz0:GI mg "BEHIND_VALUE" 5
 zAF:GI mg "IN_NAME" 6
 zAG:GI mg "IN_STRING" 7
 zAq:GI mg "IN_NUMBER" 8
 zAH:GI mg "IN_WORD" 9
 zBm:GI mg "MOST_BYTES_sift" 65536
 zAY:GI mg "CHECK" 1
 zAZ:GI mg "BEGIN" 2
 zA0:GI mg "ASK" 3
 zA1:GI mg "DROP" 4
 zA2:GI mg "FEED" 5
 zA3:GI mg "END" 6
 zA4:GI mg "PLACE" 7
 zA5:GI mg "DEPTH" 8
 zBn:GI mg "ASKED" 9
 gB:mg "BLANKS"=some (.ref (a 6))
 tB:∀H,SqT K H (a 6) (([32,9,10,13]:List Int).map V.int)
 gW:mg "WORDS"=some (.ref (a 7))
 tW:∀H,SqT K H (a 7) [.str "null",.str "false",.str "true"]
 gE:mg "ESCAPES"=some (.ref (a 8))
 tE:zqf K (a 8)
 zzF:mg "len"=none
 zBo:mg "range"=none
 zA6:mg "sorted"=none
 zA7:mg "tuple"=none
 zBp:mg "all"=none
 zBq:mg "enumerate"=none
 zA8:mg "ord"=none
 zBr:FG K mg "is_digit" zhZ ["byte"]
 zBs:FG K mg "steps_of" zhX ["path"]
 zBt:FG K mg "step_at" ziR ["path","at"]
 zBu:FG K mg "dots_at" ziT ["path","at"]
 zBv:FG K mg "member_step" zfR ["path","begin","wide"]
 zBw:FG K mg "may_stand_in_name" zdM ["byte"]
 zBx:FG K mg "element_step" zfe ["path","begin","wide"]
 zBy:FG K mg "is_number" zfS ["digits"]
 zBz:FG K mg "value_of" zhW ["digits"]
 zBA:FC K mg (a 0) "Questions" "Questions.__init__" zdw ["self"]
 zBB:FM K (a 0) "free_number" "Questions.free_number" zc3 ["self"]
 zBC:FM K (a 0) "put" "Questions.put" zeL ["self","number","shut","steps"]
 zBD:FM K (a 0) "take_out" "Questions.take_out" zdt ["self","number"]
 zBE:FM K (a 0) "lay_out" "Questions.lay_out" zdR ["self"]
 zBF:FM K (a 0) "lay_out_steps" "Questions.lay_out_steps" zcK ["self","number","steps"]
 zBG:FM K (a 0) "along" "Questions.along" zek ["self","places","link"]
 zBH:FM K (a 0) "choosing" "Questions.choosing" zdu ["self","places"]
 zBI:FM K (a 0) "all_shut" "Questions.all_shut" zdv ["self","which"]
 zBJ:FG K mg "stage_behind" zfc ["stage","byte"]
 zBK:FG K mg "stage_behind_digit" zdp ["stage","byte"]
 zBL:FG K mg "is_whole" zhY ["stage"]
 zBM:FC K mg (a 1) "NumberReader" "NumberReader.__init__" zc4 ["self"]
 zBN:FM K (a 1) "take" "NumberReader.take" zdS ["self","byte"]
 zBO:FM K (a 1) "may_end" "NumberReader.may_end" zc9 ["self"]
 zBP:FC K mg (a 2) "Level" "Level.__init__" zev ["self","kind","places","telling"]
 zBQ:FM K (a 2) "count_value" "Level.count_value" zdT ["self"]
 zBR:FM K (a 2) "link" "Level.link" zgi ["self"]
 zBS:FG K mg "digit_of_sixteen" zd4 ["byte"]
 zBT:FG K mg "bytes_behind" zff ["lead"]
 zBU:FG K mg "least_second" zfd ["lead"]
 zBV:FG K mg "greatest_second" zeg ["lead"]
 zBW:FG K mg "in_utf8" ziS ["code"]
 zBX:FG K mg "can_be_code" zfU ["value","count","first"]
 zBY:FC K mg (a 3) "StringReader" "StringReader.__init__" zcZ ["self"]
 zBZ:FM K (a 3) "take" "StringReader.take" zdN ["self","byte"]
 zB0:FM K (a 3) "take_plain" "StringReader.take_plain" zcE ["self","byte"]
 zB1:FM K (a 3) "take_lead" "StringReader.take_lead" zcP ["self","byte"]
 zB2:FM K (a 3) "take_in_character" "StringReader.take_in_character" zbR ["self","byte"]
 zB3:FM K (a 3) "take_in_escape" "StringReader.take_in_escape" zb3 ["self","byte"]
 zB4:FM K (a 3) "begin_digits" "StringReader.begin_digits" zcn ["self"]
 zB5:FM K (a 3) "take_digit" "StringReader.take_digit" zcF ["self","byte"]
 zB6:FM K (a 3) "end_digits" "StringReader.end_digits" zcG ["self"]
 zB7:FM K (a 3) "take_before_digits" "StringReader.take_before_digits" zbI ["self","byte"]
 zB8:FG K mg "word_begun_by" zgf ["byte"]
 zB9:FC K mg (a 4) "Reader" "Reader.__init__" zej ["self","questions"]
 zCa:FM K (a 4) "retrace" "Reader.retrace" zeu ["self"]
 zA9:FM K (a 4) "take" "Reader.take" zeF ["self","byte","told"]
 zCb:FM K (a 4) "take_sign" "Reader.take_sign" zd5 ["self","byte","told"]
 zCc:FM K (a 4) "take_colon" "Reader.take_colon" zdP ["self","byte"]
 zCd:FM K (a 4) "take_before_name" "Reader.take_before_name" zcH ["self","byte","told"]
 zCe:FM K (a 4) "may_follow_value" "Reader.may_follow_value" zcJ ["self","byte"]
 zCf:FM K (a 4) "take_behind_value" "Reader.take_behind_value" zcy ["self","byte","told"]
 zCg:FM K (a 4) "begin_value" "Reader.begin_value" zdr ["self","byte","told"]
 zCh:FM K (a 4) "begin_number" "Reader.begin_number" zdg ["self","byte"]
 zCi:FM K (a 4) "begin_level" "Reader.begin_level" zds ["self","kind","told"]
 zCj:FM K (a 4) "telling_outside" "Reader.telling_outside" zcQ ["self"]
 zCk:FM K (a 4) "telling_within" "Reader.telling_within" zc0 ["self"]
 zCl:FM K (a 4) "settle_questions" "Reader.settle_questions" zcI ["self"]
 zCm:FM K (a 4) "close_level" "Reader.close_level" zdq ["self","told"]
 zCn:FM K (a 4) "take_in_name" "Reader.take_in_name" zdf ["self","byte","told"]
 zCo:FM K (a 4) "take_in_string" "Reader.take_in_string" zc1 ["self","byte","told"]
 zCp:FM K (a 4) "take_in_number" "Reader.take_in_number" zc2 ["self","byte","told"]
 zCq:FM K (a 4) "end_number" "Reader.end_number" zdQ ["self","told"]
 zCr:FM K (a 4) "take_in_word" "Reader.take_in_word" zde ["self","byte","told"]
 zCs:FM K (a 4) "tell_bytes" "Reader.tell_bytes" zdO ["self","sign","row","told"]
 zCt:FM K (a 4) "end_text" "Reader.end_text" zei ["self","told"]
 zCu:FC K mg (a 5) "Sifter" "Sifter.__init__" zeh ["self"]
 zCv:FM K (a 5) "begin" "Sifter.begin" zfi ["self"]
 zCw:FM K (a 5) "ask" "Sifter.ask" zgh ["self","shut","path"]
 zCx:FM K (a 5) "drop" "Sifter.drop" zfW ["self","number"]
 zCy:FM K (a 5) "feed" "Sifter.feed" zfV ["self","piece"]
 zCz:FM K (a 5) "end" "Sifter.end" zgg ["self"]
 zCA:FM K (a 5) "place" "Sifter.place" zfg ["self"]
 zCB:FM K (a 5) "depth" "Sifter.depth" zfh ["self"]
 zCC:FM K (a 5) "asked" "Sifter.asked" zfj ["self"]
 zCD:FG K mg "check" zlV ["path"]
 zCE:FG K mg "answers" ziU ["calls"]
 zCF:FG K mg "end_of_call" zfT ["calls","at"]
 zCG:FG K mg "answer_to" zhg ["sifter","call"]
section
variable {X:Cx}{a:Ad}{ea eb:Expr}{ma mb:ME}{pos pos':Pos}
theorem zqF(T:Txt X.K X.mg a)(ha:PE X ea (TF a ma))(hg:Gl X "BLANKS":=by rfl):PT X (.Compare ea [.In] [.Name "BLANKS" pos'] pos) (TFt a (tIn [32,9,10,13] ma)):=zvk ha T.gB T.tB hg
theorem zmR(T:Txt X.K X.mg a)(ha:PE X ea (TF a ma))(hg:Gl X "BLANKS":=by rfl):PE X (.Compare ea [.In] [.Name "BLANKS" pos'] pos) (TF a (eB (tIn [32,9,10,13] ma))):=zvi ha T.gB T.tB hg
theorem zva(T:Txt X.K X.mg a)(hb:PE X eb (TF a mb))(hs:zie eb:=by exact fun _ _=> rfl)(hg:Gl X "WORDS":=by rfl):PE X (.Subscript (.Name "WORDS" pos') eb pos) (TF a (eWord mb)):=zs0 T.gW T.tW hb hs hg
theorem zxU(T:Txt X.K X.mg a)(hb:PE X eb (TF a mb))(hs:zxm eb:=by exact fun _ _=> rfl)(hg:Gl X "ESCAPES":=by rfl):PE X (.Subscript (.Name "ESCAPES" pos') eb pos) (TF a (eEsc mb)):=zvc T.gE T.tE hb hs hg
theorem zoM(T:Txt X.K X.mg a)(ha:PE X ea (TF a ma))(hg:Gl X "ESCAPES":=by rfl):PT X (.Compare ea [.NotIn] [.Name "ESCAPES" pos'] pos) (TFt a (tNescIn ma)):=zqE T.gE T.tE ha hg
end
end
end TS
namespace TS
open PySem PySem.Spec PyProof.Rows L2
variable {P:Program}{w:World}{K:PySem.W.Frag}{mg:Str->Option Value}{base:Heap}{a:Ad}(T:Txt K mg a)
include T
theorem zmC:zaB P w K mg base a ["byte"] "is_digit" zhZ 0 zfN:=by
 intro f cdv A outer s H E hr
 unfold zfN
 exact (zac (zad (zoL 57 (zbn T.zAk) (q_v 0) (zc5 T.zBb))))
theorem zhh:CG P w K mg base 1 "is_digit" ["byte"] (SpF a zcm):=
 zfo (N:=["byte"]) (ps:=["byte"]) (k:=0) (b:=zfN) T.zBr zlU (zmC T)
theorem zho:zaB P w K mg base a ["byte"] "digit_of_sixteen" zd4 1 zcC:=by
 have G_is_digit:CG P w K mg base 1 "is_digit" ["byte"] (SpF a zcm):=zhh T
 intro f cdv A outer s H E hr
 unfold zcC
 exact (zaa (zay (zdn (zcR G_is_digit (hr.mono (by decide)) (zab (q_v 0) zah))) (zac (zad (zdk zqH (q_v 0) zaj))) zai) (zaa (zay (zig 70 zaj (q_v 0) zf1) (zac (zad (zdk zqH (q_v 0) zaj))) zai) (zaa (zay (zig 102 zaj (q_v 0) zf1) (zac (zad (zdk zqH (q_v 0) zaj))) zai) (zac (zad zh1)))))
theorem zhi:CG P w K mg base 2 "digit_of_sixteen" ["byte"] (SpF a zcB):=
 zfo (N:=["byte"]) (ps:=["byte"]) (k:=1) (b:=zcC) T.zBS zhe (zho T)
theorem zgv:zaB P w K mg base a ["stage","byte"] "stage_behind_digit" zdp 0 zb7:=by
 intro f cdv A outer s H E hr
 unfold zb7
 exact (zaa (zay (zkn (q_v 0) (pk1 (zc5 T.zAz) (pk1 (zc5 T.zAM) pk0))) (zac (zad (zyJ (zbe (q_v 1) (zbn T.zAk)) (zbn T.zz7) (zbn T.zzZ)))) zai) (zaa (zay (zbe (q_v 0) (zbn T.zz7)) (zac (zad zh1)) zai) (zaa (zay (zbe (q_v 0) (zbn T.zzZ)) (zac (zad (zbn T.zzZ))) zai) (zaa (zay (zkn (q_v 0) (pk1 (zc5 T.zAN) (pk1 (zc5 T.zAo) pk0))) (zac (zad (zbn T.zAo))) zai) (zac (zad (zbn T.zAP)))))))
theorem zgj:CG P w K mg base 1 "stage_behind_digit" ["stage","byte"] (SpF a zb6):=
 zfo (N:=["stage","byte"]) (ps:=["stage","byte"]) (k:=0) (b:=zb7) T.zBK zga (zgv T)
theorem zjp:zaB P w K mg base a ["stage","byte"] "stage_behind" zfc 1 zdD:=by
 have G_is_digit:CG P w K mg base 1 "is_digit" ["byte"] (SpF a zcm):=zhh T
 have G_stage_behind_digit:CG P w K mg base 1 "stage_behind_digit" ["stage","byte"] (SpF a zb6):=zgj T
 intro f cdv A outer s H E hr
 unfold zdD
 exact (zaa (zay (zdn (zcR G_is_digit (hr.mono (by decide)) (zab (q_v 1) zah))) (zac (zad (zcR G_stage_behind_digit (hr.mono (by decide)) (zab (q_v 0) (zab (q_v 1) zah))))) zai) (zaa (zay (zkS (zeM (zbe (q_v 1) (zbn T.zAI)) (zd6 (zbe (q_v 0) (zbn T.zAz))))) (zac (zad (zbn T.zAM))) zai) (zaa (zay (zkS (zeM (zbe (q_v 1) (zbn T.zAw)) (zd6 (zkn (q_v 0) (pk1 (zc5 T.zz7) (pk1 (zc5 T.zzZ) pk0)))))) (zac (zad (zbn T.zAN))) zai) (zaa (zay (zkS (zeM (zkn (q_v 1) (pk1 zf1 (pk1 zf1 pk0))) (zd6 (zkn (q_v 0) (pk1 (zc5 T.zz7) (pk1 (zc5 T.zzZ) (pk1 (zc5 T.zAo) pk0))))))) (zac (zad (zbn T.zAO))) zai) (zaa (zay (zkS (zeM (zkn (q_v 1) (pk1 (zc5 T.zBa) (pk1 (zc5 T.zAI) pk0))) (zd6 (zbe (q_v 0) (zbn T.zAO))))) (zac (zad (zbn T.zBk))) zai) (zac (zad zh1)))))))
theorem ziZ:CG P w K mg base 2 "stage_behind" ["stage","byte"] (SpF a zdz):=
 zfo (N:=["stage","byte"]) (ps:=["stage","byte"]) (k:=1) (b:=zdD) T.zBJ ziK (zjp T)
theorem zmB:zaB P w K mg base a ["stage"] "is_whole" zhY 0 zfM:=by
 intro f cdv A outer s H E hr
 unfold zfM
 exact (zac (zad (zsT (q_v 0) (pk1 (zc5 T.zz7) (pk1 (zc5 T.zzZ) (pk1 (zc5 T.zAo) (pk1 (zc5 T.zAP) pk0)))))))
theorem zi1:CG P w K mg base 1 "is_whole" ["stage"] (SpF a zem):=
 zfo (N:=["stage"]) (ps:=["stage"]) (k:=0) (b:=zfM) T.zBL zlT (zmB T)
theorem zjs:zaB P w K mg base a ["lead"] "bytes_behind" zff 0 zdF:=by
 intro f cdv A outer s H E hr
 unfold zdF
 exact (zaa (zay (zig 223 zaj (q_v 0) zf1) (zac (zad zaj)) zai) (zaa (zay (zig 239 zaj (q_v 0) zf1) (zac (zad zaj)) zai) (zaa (zay (zig 244 zaj (q_v 0) zf1) (zac (zad zaj)) zai) (zac (zad zaj)))))
theorem zi3:CG P w K mg base 1 "bytes_behind" ["lead"] (SpF a zdB):=
 zfo (N:=["lead"]) (ps:=["lead"]) (k:=0) (b:=zdF) T.zBT ziM (zjs T)
theorem zjq:zaB P w K mg base a ["lead"] "least_second" zfd 0 zdE:=by
 intro f cdv A outer s H E hr
 unfold zdE
 exact (zaa (zay (zbe (q_v 0) zaj) (zac (zad zaj)) zai) (zaa (zay (zbe (q_v 0) zaj) (zac (zad zaj)) zai) (zac (zad zaj))))
theorem zi0:CG P w K mg base 1 "least_second" ["lead"] (SpF a zdA):=
 zfo (N:=["lead"]) (ps:=["lead"]) (k:=0) (b:=zdE) T.zBU ziL (zjq T)
theorem zhO:zaB P w K mg base a ["lead"] "greatest_second" zeg 0 zcU:=by
 intro f cdv A outer s H E hr
 unfold zcU
 exact (zaa (zay (zbe (q_v 0) zaj) (zac (zad zaj)) zai) (zaa (zay (zbe (q_v 0) zaj) (zac (zad zaj)) zai) (zac (zad zaj))))
theorem zhA:CG P w K mg base 1 "greatest_second" ["lead"] (SpF a zcT):=
 zfo (N:=["lead"]) (ps:=["lead"]) (k:=0) (b:=zcU) T.zBV zhv (zhO T)
theorem zoj:zaB P w K mg base a ["code"] "in_utf8" ziS 0 zgD:=by
 intro f cdv A outer s H E hr
 unfold zgD
 exact (zaa (zay (zjD (q_v 0) zaj) (zac (zad (zdb (zab (q_v 0) zah)))) zai) (zaa (zay (zjD (q_v 0) zaj) (zac (zad (zdb (zab (zdk zg9 zaj (zdk zuK (q_v 0) zaj)) (zab (zdk zg9 zaj (zdk zuJ (q_v 0) zaj)) zah))))) zai) (zaa (zay (zjD (q_v 0) zaj) (zac (zad (zdb (zab (zdk zg9 zaj (zdk zuK (q_v 0) zaj)) (zab (zdk zg9 zaj (zdk zuJ (zdk zuK (q_v 0) zaj) zaj)) (zab (zdk zg9 zaj (zdk zuJ (q_v 0) zaj)) zah)))))) zai) (zac (zad (zdb (zab (zdk zg9 zaj (zdk zuK (q_v 0) zaj)) (zab (zdk zg9 zaj (zdk zuJ (zdk zuK (q_v 0) zaj) zaj)) (zab (zdk zg9 zaj (zdk zuJ (zdk zuK (q_v 0) zaj) zaj)) (zab (zdk zg9 zaj (zdk zuJ (q_v 0) zaj)) zah))))))))))
theorem znL:CG P w K mg base 1 "in_utf8" ["code"] (SpF a zgp):=
 zfo (N:=["code"]) (ps:=["code"]) (k:=0) (b:=zgD) T.zBW znD (zoj T)
theorem zjS:zaB P w K mg base a ["value","count","first"] "can_be_code" zfU 0 zed:=by
 intro f cdv A outer s H E hr
 unfold zed
 exact (zaa (zay (zbe (q_v 2) zaj) (zac (zad (zxS (zqG (zkZ (q_v 1) zaj) (zlY (zoL 223 zaj (q_v 0) zf1)))))) zai) (zaa (zay (zbe (q_v 1) zaj) (zac (zad (zkZ (q_v 0) zaj))) zai) (zac (zad (zxM (q_v 0) zaj)))))
theorem zjH:CG P w K mg base 1 "can_be_code" ["value","count","first"] (SpF a zea):=
 zfo (N:=["value","count","first"]) (ps:=["value","count","first"]) (k:=0) (b:=zed) T.zBX zjB (zjS T)
end TS
namespace TS
open PySem PySem.Spec PyProof.Rows L2
variable {P:Program}{w:World}{K:PySem.W.Frag}{mg:Str->Option Value}{base:Heap}{a:Ad}(T:Txt K mg a)
include T
theorem zis:CG P w K mg base 1 "word_begun_by" ["byte"] (SpF a m_word_begun_by):=by
 obtain⟨f,fd,F,hm,hB⟩:=T.zB8
 refine⟨f,fd,F.ok sc_word_begun_by (fun vs H Q E h=> ?_) (fun cdv A outer s H vs Q E hr h=> ?_),hm,F.kp,hB⟩
 .obtain⟨α,us,O,v,O',r,hR,hm,q⟩:=h
  unfold m_word_begun_by at hm
  split at hm
  .rw[<- r.length]; rfl
  .cases hm
 .obtain⟨α,us,O,v,O',r,hR,hm,q⟩:=h
  unfold m_word_begun_by at hm
  split at hm
  case h_2=> cases hm
  rename_i b
  simp only[Option.some.injEq,Prod.mk.injEq] at hm
  obtain⟨hv,rfl⟩:=hm
  have hv:=hv.symm
  obtain⟨b',rfl,rb⟩:∃b',vs=[b']/\b'=V.int b:=by
   cases r with
   | cons h t=> cases t; exact⟨_,rfl,h⟩
  subst rb
  refine⟨_,zmX (zoT PassesOwn.never rfl (zqM rfl T.zBq (zel (znH T.gW) zfy)) (zvt rfl (zmZ (zh2 (i:=1) sc_word_begun_by.nd rfl (Or.inl rfl)) (zmZ (zh2 (i:=2) sc_word_begun_by.nd rfl (Or.inl rfl)) ztc)))
    (zkr (zvq (zkq zvN (zgH zns rfl T.zA8 boot_ord (zel (zoZ zsg (pv 2) zf1 (fun _ _=> rfl)) zfy)) (pv 0) (zha _)) (zkr (zoS (pv 1))) zoR))) (zkr (zoS zr9)),?_⟩
  refine⟨a 7,_,rfl,T.tW H,zpx (xs:=[.str "null",.str "false",.str "true"]) T.tW (fun j σ' H'=> Rep a α O H'/\(∃x y,σ'=[some (.int b),x,y])/\(1<=j->b≠110)/\(2<=j->b≠102)/\(3<=j->b≠116)) ⟨hR,⟨none,none,rfl⟩,by omega,by omega,by omega⟩ ?_ ?_⟩
  .rintro j x σ1 H1 Tt hx hT ⟨R1,⟨y,z,rfl⟩,n1,n2,n3⟩
   have R2:Rep a α O (upd H1 Tt (.tup [.int (j:Nat),x])):=R1.same (zfQ hT)
   refine⟨Tt,_,rfl,SqT.of zbS,rfl,_,_,rfl,_,_,rfl,rfl,?_⟩
   have key:∃(st:Str) (c:Nat),x= .str st/\st.length<=sizeLine/\atI st.cps.toList 0=some c/\((b=c->v= .int (j:Nat))/\(b≠c->(1<=j + 1->b≠110)/\(2<=j + 1->b≠102)/\(3<=j + 1->b≠116))):=by
    match j,hx with
    | 0,hx=> cases hx; exact⟨_,110,rfl,by decide,rfl,fun e=> by rw[hv,if_pos (by omega)]; rfl,fun e=> ⟨fun _=> by omega,by omega,by omega⟩⟩
    | 1,hx=> cases hx; exact⟨_,102,rfl,by decide,rfl,fun e=> by rw[hv,if_neg (by omega),if_pos (by omega)]; rfl,fun e=> ⟨fun _=> n1 (by omega),fun _=> by omega,by omega⟩⟩
    | 2,hx=> cases hx; exact⟨_,116,rfl,by decide,rfl,fun e=> by rw[hv,if_neg (by omega),if_neg (by omega),if_pos (by omega)]; rfl,fun e=> ⟨fun _=> n1 (by omega),fun _=> n2 (by omega),fun _=> by omega⟩⟩
    | j + 3,hx=> simp at hx
   obtain⟨st,c,rfl,h1,h2,h3,h4⟩:=key
   refine⟨_,rfl,st,0,c,rfl,rfl,h1,h2,_,rfl,rfl,_,rfl,rfl,_,rfl,?_⟩
   refine zzk (fun e=> ?_) (fun e=> ?_)
   .have e':((c:Nat):Int)=b:=by
     have:=of_decide_eq_true e
     injection this
    refine⟨_,rfl,?_⟩
    exact q α _ _ zd7 R2 (by rw[h3 e'.symm]; exact rfl)
   .have e':b≠((c:Nat):Int):=fun z=> e (decide_eq_true (by rw[z]; rfl))
    exact⟨R2,⟨_,_,rfl⟩,h4 e'⟩
  .rintro σ1 H1 ⟨R1,⟨y,z,rfl⟩,n1,n2,n3⟩
   refine q α _ _ zd7 R1 ?_
   rw[hv,if_neg (n1 (by decide)),if_neg (n2 (by decide)),if_neg (n3 (by decide))]
   exact rfl
end TS
namespace TS
open PySem PySem.Spec PyProof.Rows L2
variable {P:Program}{w:World}{K:PySem.W.Frag}{mg:Str->Option Value}{base:Heap}{a:Ad}(T:Txt K mg a)
include T
theorem zeH:zaB P w K mg base a ["self"] "StringReader.begin_digits" zcn 0 za4:=by
 intro f cdv A outer s H E hr
 unfold za4
 exact (zaa (zax 3 1 (q_v 0) (zbn T.zAS) T.zzB T.zzH) (zaa (zax 3 5 (q_v 0) zaj T.zzB T.zzP) (zac (zax 3 6 (q_v 0) zaj T.zzB T.zz4))))
theorem zdd:CM P w K mg base 1 (a 3) "begin_digits" ["self"] (SpF a zaS):=
 zb5 (N:=["self"]) (ps:=["self"]) (k:=0) (b:=za4) T.zB4 zeE (zeH T)
theorem zd2:zaB P w K mg base a ["self","byte"] "StringReader.take_before_digits" zbI 1 zaK:=by
 have G_StringReader_begin_digits:CM P w K mg base 1 (a 3) "begin_digits" ["self"] (SpF a zaS):=zdd T
 intro f cdv A outer s H E hr
 unfold zaK
 exact (zaa (zay (zkS (zeM (zbe (zaz 3 1 (q_v 0) rfl T.zzB T.zzH) (zbn T.zAT)) (zd6 (zbe (q_v 1) (zbn T.zAy))))) (zaa (zax 3 1 (q_v 0) (zbn T.zAU) T.zzB T.zzH) (zac (zad (zbn T.zzL)))) zai) (zaa (zay (zkS (zeM (zbe (zaz 3 1 (q_v 0) rfl T.zzB T.zzH) (zbn T.zAU)) (zd6 (zbe (q_v 1) (zbn T.zAJ))))) (zaa (zda (zb4 3 G_StringReader_begin_digits T.zzB (hr.mono (by decide)) (q_v 0))) (zac (zad (zbn T.zzL)))) zai) (zac (zad (zbn T.zzM)))))
theorem zd1:CM P w K mg base 2 (a 3) "take_before_digits" ["self","byte"] (SpF a zaX):=
 zb5 (N:=["self","byte"]) (ps:=["self","byte"]) (k:=1) (b:=zaK) T.zB7 zd0 (zd2 T)
theorem zfp:zaB P w K mg base a ["self","byte","missing"] "StringReader.take_lead" zcP 1 zbE:=by
 have G_bytes_behind:CG P w K mg base 1 "bytes_behind" ["lead"] (SpF a zdB):=zi3 T
 have G_least_second:CG P w K mg base 1 "least_second" ["lead"] (SpF a zdA):=zi0 T
 have G_greatest_second:CG P w K mg base 1 "greatest_second" ["lead"] (SpF a zcT):=zhA T
 intro f cdv A outer s H E hr
 unfold zbE
 exact (zaa (zbd (i:=2) sc_StringReader_take_lead.nd (zcR G_bytes_behind (hr.mono (by decide)) (zab (q_v 1) zah))) (zaa (zay (zbe (q_v 2) zaj) (zac (zad (zbn T.zzM))) zai) (zaa (zax 3 2 (q_v 0) (q_v 2) T.zzB T.zAf) (zaa (zax 3 3 (q_v 0) (zcR G_least_second (hr.mono (by decide)) (zab (q_v 1) zah)) T.zzB T.zAg) (zaa (zax 3 4 (q_v 0) (zcR G_greatest_second (hr.mono (by decide)) (zab (q_v 1) zah)) T.zzB T.zAh) (zaa (zax 3 1 (q_v 0) (zbn T.zAQ) T.zzB T.zzH) (zaa (zda (zk2 (zaz 3 0 (q_v 0) rfl T.zzB T.zzO) (q_v 1))) (zac (zad (zbn T.zzL))))))))))
theorem zfk:CM P w K mg base 2 (a 3) "take_lead" ["self","byte"] (SpF a zb2):=
 zb5 (N:=["self","byte","missing"]) (ps:=["self","byte"]) (k:=1) (b:=zbE) T.zB1 sc_StringReader_take_lead (zfp T)
theorem zeZ:zaB P w K mg base a ["self","byte"] "StringReader.take_plain" zcE 2 zbz:=by
 have G_StringReader_take_lead:CM P w K mg base 2 (a 3) "take_lead" ["self","byte"] (SpF a zb2):=zfk T
 intro f cdv A outer s H E hr
 unfold zbz
 exact (zaa (zay (zbe (q_v 1) (zbn T.zAj)) (zac (zad (zbn T.zAC))) zai) (zaa (zay (zbe (q_v 1) (zbn T.zAy)) (zaa (zax 3 1 (q_v 0) (zbn T.zAR) T.zzB T.zzH) (zac (zad (zbn T.zzL)))) zai) (zaa (zay (zjD (q_v 1) zaj) (zac (zad (zbn T.zzM))) zai) (zaa (zay (zxN (q_v 1) zaj) (zac (zad (zbm 3 G_StringReader_take_lead T.zzB (hr.mono (by decide)) (q_v 0) (zab (q_v 1) zah)))) zai) (zaa (zda (zk2 (zaz 3 0 (q_v 0) rfl T.zzB T.zzO) (q_v 1))) (zac (zad (zbn T.zzL))))))))
theorem zeU:CM P w K mg base 3 (a 3) "take_plain" ["self","byte"] (SpF a zbZ):=
 zb5 (N:=["self","byte"]) (ps:=["self","byte"]) (k:=2) (b:=zbz) T.zB0 zeR (zeZ T)
theorem zeb:zaB P w K mg base a ["self","byte"] "StringReader.take_in_character" zbR 0 za1:=by
 intro f cdv A outer s H E hr
 unfold za1
 exact (zaa (zay (zfx (zsU (zaz 3 3 (q_v 0) rfl T.zzB T.zAg) (q_v 1) (zaz 3 4 (q_v 0) rfl T.zzB T.zAh))) (zac (zad (zbn T.zzM))) zai) (zaa (zda (zk2 (zaz 3 0 (q_v 0) rfl T.zzB T.zzO) (q_v 1))) (zaa (zep 3 2 zxO (q_v 0) zaj T.zzB T.zAf) (zaa (zax 3 3 (q_v 0) zaj T.zzB T.zAg) (zaa (zax 3 4 (q_v 0) zaj T.zzB T.zAh) (zaa (zay (zbe (zaz 3 2 (q_v 0) rfl T.zzB T.zAf) zaj) (zac (zax 3 1 (q_v 0) (zbn T.zz8) T.zzB T.zzH)) zai) (zac (zad (zbn T.zzL)))))))))
theorem zd8:CM P w K mg base 1 (a 3) "take_in_character" ["self","byte"] (SpF a zbp):=
 zb5 (N:=["self","byte"]) (ps:=["self","byte"]) (k:=0) (b:=za1) T.zB2 zd3 (zeb T)
theorem zet:zaB P w K mg base a ["self","byte"] "StringReader.take_in_escape" zb3 1 zbg:=by
 have G_StringReader_begin_digits:CM P w K mg base 1 (a 3) "begin_digits" ["self"] (SpF a zaS):=zdd T
 intro f cdv A outer s H E hr
 unfold zbg
 exact (zaa (zay (zbe (q_v 1) (zbn T.zAJ)) (zaa (zda (zb4 3 G_StringReader_begin_digits T.zzB (hr.mono (by decide)) (q_v 0))) (zac (zad (zbn T.zzL)))) zai) (zaa (zay (zoM T (q_v 1)) (zac (zad (zbn T.zzM))) zai) (zaa (zda (zk2 (zaz 3 0 (q_v 0) rfl T.zzB T.zzO) (zxU T (q_v 1)))) (zaa (zax 3 1 (q_v 0) (zbn T.zz8) T.zzB T.zzH) (zac (zad (zbn T.zzL)))))))
theorem zeq:CM P w K mg base 2 (a 3) "take_in_escape" ["self","byte"] (SpF a zbB):=
 zb5 (N:=["self","byte"]) (ps:=["self","byte"]) (k:=1) (b:=zbg) T.zB3 zeo (zet T)
theorem ze1:zaB P w K mg base a ["self","code"] "StringReader.end_digits" zcG 1 zbi:=by
 have G_in_utf8:CG P w K mg base 1 "in_utf8" ["code"] (SpF a zgp):=znL T
 intro f cdv A outer s H E hr
 unfold zbi
 exact (zaa (zay (zig 56319 zaj (zaz 3 5 (q_v 0) rfl T.zzB T.zzP) zf1) (zaa (zax 3 7 (q_v 0) (zaz 3 5 (q_v 0) rfl T.zzB T.zzP) T.zzB T.zzV) (zaa (zax 3 1 (q_v 0) (zbn T.zAT) T.zzB T.zzH) (zac zsV))) zai) (zaa (zbd (i:=1) sc_StringReader_end_digits.nd (zaz 3 5 (q_v 0) rfl T.zzB T.zzP)) (zaa (zay (znF (zaz 3 7 (q_v 0) rfl T.zzB T.zzV) zaj) (zaa (zbd (i:=1) sc_StringReader_end_digits.nd (zdk zqH (zdk zg9 (zdk zg9 zaj (zdk zqI (zdk zqH (zaz 3 7 (q_v 0) rfl T.zzB T.zzV) zaj) zaj)) (zaz 3 5 (q_v 0) rfl T.zzB T.zzP)) zaj)) (zac (zax 3 7 (q_v 0) zaj T.zzB T.zzV))) zai) (zaa (zda (zlZ (zaz 3 0 (q_v 0) rfl T.zzB T.zzO) (zcR G_in_utf8 (hr.mono (by decide)) (zab (q_v 1) zah)))) (zac (zax 3 1 (q_v 0) (zbn T.zz8) T.zzB T.zzH))))))
theorem zeW:CM P w K mg base 2 (a 3) "end_digits" ["self"] (SpF a zby):=
 zb5 (N:=["self","code"]) (ps:=["self"]) (k:=1) (b:=zbi) T.zB6 sc_StringReader_end_digits (ze1 T)
theorem ze0:zaB P w K mg base a ["self","byte","digit","value"] "StringReader.take_digit" zcF 2 zbh:=by
 have G_digit_of_sixteen:CG P w K mg base 2 "digit_of_sixteen" ["byte"] (SpF a zcB):=zhi T
 have G_can_be_code:CG P w K mg base 1 "can_be_code" ["value","count","first"] (SpF a zea):=zjH T
 have G_StringReader_end_digits:CM P w K mg base 2 (a 3) "end_digits" ["self"] (SpF a zby):=zeW T
 intro f cdv A outer s H E hr
 unfold zbh
 exact (zaa (zbd (i:=2) sc_StringReader_take_digit.nd (zcR G_digit_of_sixteen (hr.mono (by decide)) (zab (q_v 1) zah))) (zaa (zay (zih (q_v 2)) (zac (zad (zbn T.zzM))) zai) (zaa (zbd (i:=3) sc_StringReader_take_digit.nd (zdk zg9 (zdk zqI (zaz 3 5 (q_v 0) rfl T.zzB T.zzP) zaj) (q_v 2))) (zaa (zay (zfx (zdn (zcR G_can_be_code (hr.mono (by decide)) (zab (q_v 3) (zab (zdk zg9 (zaz 3 6 (q_v 0) rfl T.zzB T.zz4) zaj) (zab (zaz 3 7 (q_v 0) rfl T.zzB T.zzV) zah)))))) (zac (zad (zbn T.zzM))) zai) (zaa (zax 3 5 (q_v 0) (q_v 3) T.zzB T.zzP) (zaa (zep 3 6 zk1 (q_v 0) zaj T.zzB T.zz4) (zaa (zay (zbe (zaz 3 6 (q_v 0) rfl T.zzB T.zz4) zaj) (zac (zda (zb4 3 G_StringReader_end_digits T.zzB (hr.mono (by decide)) (q_v 0)))) zai) (zac (zad (zbn T.zzL))))))))))
theorem zeV:CM P w K mg base 3 (a 3) "take_digit" ["self","byte"] (SpF a zbx):=
 zb5 (N:=["self","byte","digit","value"]) (ps:=["self","byte"]) (k:=2) (b:=zbh) T.zB5 sc_StringReader_take_digit (ze0 T)
theorem zg1:zaB P w K mg base a ["self","byte"] "StringReader.take" zdN 3 zaT:=by
 have G_StringReader_take_before_digits:CM P w K mg base 2 (a 3) "take_before_digits" ["self","byte"] (SpF a zaX):=zd1 T
 have G_StringReader_take_plain:CM P w K mg base 3 (a 3) "take_plain" ["self","byte"] (SpF a zbZ):=zeU T
 have G_StringReader_take_in_character:CM P w K mg base 1 (a 3) "take_in_character" ["self","byte"] (SpF a zbp):=zd8 T
 have G_StringReader_take_in_escape:CM P w K mg base 2 (a 3) "take_in_escape" ["self","byte"] (SpF a zbB):=zeq T
 have G_StringReader_take_digit:CM P w K mg base 3 (a 3) "take_digit" ["self","byte"] (SpF a zbx):=zeV T
 intro f cdv A outer s H E hr
 unfold zaT
 exact (zaa (zay (zbe (zaz 3 1 (q_v 0) rfl T.zzB T.zzH) (zbn T.zz8)) (zac (zad (zbm 3 G_StringReader_take_plain T.zzB (hr.mono (by decide)) (q_v 0) (zab (q_v 1) zah)))) zai) (zaa (zay (zbe (zaz 3 1 (q_v 0) rfl T.zzB T.zzH) (zbn T.zAQ)) (zac (zad (zbm 3 G_StringReader_take_in_character T.zzB (hr.mono (by decide)) (q_v 0) (zab (q_v 1) zah)))) zai) (zaa (zay (zbe (zaz 3 1 (q_v 0) rfl T.zzB T.zzH) (zbn T.zAR)) (zac (zad (zbm 3 G_StringReader_take_in_escape T.zzB (hr.mono (by decide)) (q_v 0) (zab (q_v 1) zah)))) zai) (zaa (zay (zbe (zaz 3 1 (q_v 0) rfl T.zzB T.zzH) (zbn T.zAS)) (zac (zad (zbm 3 G_StringReader_take_digit T.zzB (hr.mono (by decide)) (q_v 0) (zab (q_v 1) zah)))) zai) (zac (zad (zbm 3 G_StringReader_take_before_digits T.zzB (hr.mono (by decide)) (q_v 0) (zab (q_v 1) zah))))))))
theorem zex:CM P w K mg base 4 (a 3) "take" ["self","byte"] (SpF a zag):=
 zb5 (N:=["self","byte"]) (ps:=["self","byte"]) (k:=3) (b:=zaT) T.zBZ zgO (zg1 T)
theorem zfE:zaB P w K mg base a ["self"] "StringReader.__init__" zcZ 0 zbJ:=by
 intro f cdv A outer s H E hr
 unfold zbJ
 exact (zaa (zax 3 0 (q_v 0) (zdb zah) T.zzB T.zzO) (zaa (zax 3 1 (q_v 0) (zbn T.zz8) T.zzB T.zzH) (zaa (zax 3 2 (q_v 0) zaj T.zzB T.zAf) (zaa (zax 3 3 (q_v 0) zaj T.zzB T.zAg) (zaa (zax 3 4 (q_v 0) zaj T.zzB T.zAh) (zaa (zax 3 5 (q_v 0) zaj T.zzB T.zzP) (zaa (zax 3 6 (q_v 0) zaj T.zzB T.zz4) (zac (zax 3 7 (q_v 0) zaj T.zzB T.zzV)))))))))
theorem zcS:CC P w K mg base 1 (a 3) "StringReader" ["self"] (SpF a zat):=
 zoe (N:=["self"]) (ps:=["self"]) (k:=0) (b:=zbJ) T.zBY zft (zfE T)
theorem zfJ:zaB P w K mg base a ["self"] "NumberReader.__init__" zc4 0 zbM:=by
 intro f cdv A outer s H E hr
 unfold zbM
 exact (zaa (zax 1 0 (q_v 0) (zbn T.zAz) T.zzJ T.zAc) (zac (zax 1 1 (q_v 0) (zdb zah) T.zzJ T.zAd)))
theorem zdX:CC P w K mg base 1 (a 1) "NumberReader" ["self"] (SpF a zaD):=
 zoe (N:=["self"]) (ps:=["self"]) (k:=0) (b:=zbM) T.zBM zfw (zfJ T)
theorem zg6:zaB P w K mg base a ["self","byte","stage","least"] "NumberReader.take" zdS 2 zcu:=by
 have G_stage_behind:CG P w K mg base 2 "stage_behind" ["stage","byte"] (SpF a zdz):=ziZ T
 have G_is_whole:CG P w K mg base 1 "is_whole" ["stage"] (SpF a zem):=zi1 T
 intro f cdv A outer s H E hr
 unfold zcu
 exact (zaa (zbd (i:=2) sc_NumberReader_take.nd (zcR G_stage_behind (hr.mono (by decide)) (zab (zaz 1 0 (q_v 0) rfl T.zzJ T.zAc) (zab (q_v 1) zah)))) (zaa (zay (zih (q_v 2)) (zac (zad zhq)) zai) (zaa (zbd (i:=3) sc_NumberReader_take.nd (zdk zg9 (zeG T.eK T.zzF (zaz 1 1 (q_v 0) rfl T.zzJ T.zAd)) zaj)) (zaa (zay (zfx (zdn (zcR G_is_whole (hr.mono (by decide)) (zab (q_v 2) zah)))) (zac (zmT (i:=3) zk1 sc_NumberReader_take.nd zaj)) zai) (zaa (zay (zlX (q_v 3) (zbn T.zBj)) (zac (zad zhq)) zai) (zaa (zax 1 0 (q_v 0) (q_v 2) T.zzJ T.zAc) (zaa (zda (zk2 (zaz 1 1 (q_v 0) rfl T.zzJ T.zAd) (q_v 1))) (zac (zad zhq)))))))))
theorem zeB:CM P w K mg base 3 (a 1) "take" ["self","byte"] (SpF a zaH):=
 zb5 (N:=["self","byte","stage","least"]) (ps:=["self","byte"]) (k:=2) (b:=zcu) T.zBN sc_NumberReader_take (zg6 T)
theorem zf0:zaB P w K mg base a ["self"] "NumberReader.may_end" zc9 1 zbT:=by
 have G_is_whole:CG P w K mg base 1 "is_whole" ["stage"] (SpF a zem):=zi1 T
 intro f cdv A outer s H E hr
 unfold zbT
 exact (zac (zad (zcR G_is_whole (hr.mono (by decide)) (zab (zaz 1 0 (q_v 0) rfl T.zzJ T.zAc) zah))))
theorem zd9:CM P w K mg base 2 (a 1) "may_end" ["self"] (SpF a zaE):=
 zb5 (N:=["self"]) (ps:=["self"]) (k:=1) (b:=zbT) T.zBO zfP (zf0 T)
end TS
namespace TS
open PySem PySem.Spec PyProof.Rows L2
variable {P:Program}{w:World}{K:PySem.W.Frag}{mg:Str->Option Value}{base:Heap}{a:Ad}(T:Txt K mg a)
include T
theorem zok:zaB P w K mg base a ["path","at","dots"] "dots_at" ziT 0 zgE:=by
 intro f cdv A outer s H E hr
 unfold zgE
 exact (zaa (zbd (i:=2) sc_dots_at.nd zaj) (zaa (zhz 100000 (zkS (zeM (zjD (q_v 2) zaj) (zeM (zjD (zdk zg9 (q_v 1) (q_v 2)) (zeG T.eK T.zzF (q_v 0))) (zd6 (zbe (zf2 T.eK (q_v 0) (zdk zg9 (q_v 1) (q_v 2)) (fun _ _=> rfl)) (zbn T.zAw)))))) (zac (zmT (i:=2) zk1 sc_dots_at.nd zaj))) (zac (zad (q_v 2)))))
theorem znM:CG P w K mg base 1 "dots_at" ["path","at"] (SpF a zeP):=
 zfo (N:=["path","at","dots"]) (ps:=["path","at"]) (k:=0) (b:=zgE) T.zBu sc_dots_at (zok T)
theorem zg0:zaB P w K mg base a ["byte"] "may_stand_in_name" zdM 0 zcq:=by
 intro f cdv A outer s H E hr
 unfold zcq
 exact (zac (zad (zqG (zoL 126 zaj (q_v 0) zf1) (zlY (zu8 (q_v 0) (pk1 (zc5 T.zAw) (pk1 (zc5 T.zAx) (pk1 (zc5 T.zAl) (pk1 (zc5 T.zAu) (pk1 (zc5 T.zAj) (pk1 (zc5 T.zAy) pk0)))))))))))
theorem zgU:CG P w K mg base 1 "may_stand_in_name" ["byte"] (SpF a zbU):=
 zfo (N:=["byte"]) (ps:=["byte"]) (k:=0) (b:=zcq) T.zBw zgN (zg0 T)
theorem zjQ:zaB P w K mg base a ["path","begin","wide","end"] "member_step" zfR 1 zec:=by
 have G_may_stand_in_name:CG P w K mg base 1 "may_stand_in_name" ["byte"] (SpF a zbU):=zgU T
 intro f cdv A outer s H E hr
 unfold zec
 exact (zaa (zay (zbe (zf2 T.eK (q_v 0) (q_v 1) (fun _ _=> rfl)) (zbn T.zAu)) (zac (zad (zh0 (zab (zh0 (zab (q_v 2) (zab (zbn T.zAm) (zab zh1 zah)))) (zab (zdk zg9 (q_v 1) zaj) zah))))) zai) (zaa (zbd (i:=3) sc_member_step.nd (q_v 1)) (zaa (zhz 100000 (zkS (zeM (zjD (q_v 3) (zeG T.eK T.zzF (q_v 0))) (zd6 (zdn (zcR G_may_stand_in_name (hr.mono (by decide)) (zab (zf2 T.eK (q_v 0) (q_v 3) (fun _ _=> rfl)) zah)))))) (zac (zmT (i:=3) zk1 sc_member_step.nd zaj))) (zaa (zay (zfx (zig 32 zaj (zdk zqH (q_v 3) (q_v 1)) (zc5 T.zBg))) (zac (zad zh1)) zai) (zac (zad (zh0 (zab (zh0 (zab (q_v 2) (zab (zbn T.zAm) (zab (zoO T.eK T.zA7 (zs1 T.eK (q_v 0) (q_v 1) (q_v 3))) zah)))) (zab (q_v 3) zah)))))))))
theorem zjF:CG P w K mg base 2 "member_step" ["path","begin","wide"] (SpF a zbY):=
 zfo (N:=["path","begin","wide","end"]) (ps:=["path","begin","wide"]) (k:=1) (b:=zec) T.zBv sc_member_step (zjQ T)
theorem zlJ:zaB P w K mg base a ["digits","byte"] "is_number" zfS 1 zen:=by
 have G_is_digit:CG P w K mg base 1 "is_digit" ["byte"] (SpF a zcm):=zhh T
 intro f cdv A outer s H E hr
 unfold zen
 exact (zaa (zay (zfx (zig 6 zaj (zeG T.eK T.zzF (q_v 0)) (zc5 T.zBh))) (zac (zad zhq)) zai) (zaa (zay (zkS (zeM (zbe (zf2 T.eK (q_v 0) zaj (fun _ _=> rfl)) (zbn T.zAk)) (zd6 (zlX (zeG T.eK T.zzF (q_v 0)) zaj)))) (zac (zad zhq)) zai) (zac (zad (zxV (i:=1) T.eK G_is_digit (hr.mono (by decide)) T.zBp sc_is_number.nd (q_v 0) (ok:=znt (N:=["digits","byte"]) (sc:=zaf zfS) (by decide +kernel)) (hg:=fun _ _ _ _ _=> zh2 sc_is_number.nd rfl (Or.inl rfl) (Or.inr rfl)) (he:=fun _ _ _ _ _=> zcR G_is_digit (hr.mono (by decide)) (zab (q_v 1) zah)))))))
theorem zk9:CG P w K mg base 2 "is_number" ["digits"] (SpF a zc6):=
 zfo (N:=["digits","byte"]) (ps:=["digits"]) (k:=1) (b:=zen) T.zBy sc_is_number (zlJ T)
theorem zmz:zaB P w K mg base a ["digits","number","byte"] "value_of" zhW 0 zfK:=by
 intro f cdv A outer s H E hr
 unfold zfK
 exact (zaa (zbd (i:=1) sc_value_of.nd zaj) (zaa (ziW (i:=2) T.eK sc_value_of.nd (q_v 0) (zac (zbd (i:=1) sc_value_of.nd (zdk zqH (zdk zg9 (zdk zqI (q_v 1) zaj) (q_v 2)) (zbn T.zAk))))) (zac (zad (q_v 1)))))
theorem zl3:CG P w K mg base 1 "value_of" ["digits"] (SpF a zeI):=
 zfo (N:=["digits","number","byte"]) (ps:=["digits"]) (k:=0) (b:=zfK) T.zBz sc_value_of (zmz T)
theorem zjr:zaB P w K mg base a ["path","begin","wide","end","within"] "element_step" zfe 2 zcN:=by
 have G_is_number:CG P w K mg base 2 "is_number" ["digits"] (SpF a zc6):=zk9 T
 have G_value_of:CG P w K mg base 1 "value_of" ["digits"] (SpF a zeI):=zl3 T
 intro f cdv A outer s H E hr
 unfold zcN
 exact (zaa (zbd (i:=3) sc_element_step.nd (q_v 1)) (zaa (zhz 100000 (zkS (zeM (zjD (q_v 3) (zeG T.eK T.zzF (q_v 0))) (zd6 (znF (zf2 T.eK (q_v 0) (q_v 3) (fun _ _=> rfl)) (zbn T.zAl))))) (zac (zmT (i:=3) zk1 sc_element_step.nd zaj))) (zaa (zay (zbe (q_v 3) (zeG T.eK T.zzF (q_v 0))) (zac (zad zh1)) zai) (zaa (zbd (i:=4) sc_element_step.nd (zs1 T.eK (q_v 0) (q_v 1) (q_v 3))) (zaa (zay (zu9 T.eK hr (q_v 4) (zdb (zab (zbn T.zAu) zah))) (zac (zad (zh0 (zab (zh0 (zab (q_v 2) (zab (zbn T.zzQ) (zab zh1 zah)))) (zab (zdk zg9 (q_v 3) zaj) zah))))) zai) (zaa (zay (zfx (zdn (zcR G_is_number (hr.mono (by decide)) (zab (q_v 4) zah)))) (zac (zad zh1)) zai) (zac (zad (zh0 (zab (zh0 (zab (q_v 2) (zab (zbn T.zzQ) (zab (zcR G_value_of (hr.mono (by decide)) (zab (q_v 4) zah)) zah)))) (zab (zdk zg9 (q_v 3) zaj) zah)))))))))))
theorem zi2:CG P w K mg base 3 "element_step" ["path","begin","wide"] (SpF a za5):=
 zfo (N:=["path","begin","wide","end","within"]) (ps:=["path","begin","wide"]) (k:=2) (b:=zcN) T.zBx sc_element_step (zjr T)
theorem zoi:zaB P w K mg base a ["path","at","dots","begin"] "step_at" ziR 3 zfL:=by
 have G_dots_at:CG P w K mg base 1 "dots_at" ["path","at"] (SpF a zeP):=znM T
 have G_member_step:CG P w K mg base 2 "member_step" ["path","begin","wide"] (SpF a zbY):=zjF T
 have G_element_step:CG P w K mg base 3 "element_step" ["path","begin","wide"] (SpF a za5):=zi2 T
 intro f cdv A outer s H E hr
 unfold zfL
 exact (zaa (zbd (i:=2) sc_step_at.nd (zcR G_dots_at (hr.mono (by decide)) (zab (q_v 0) (zab (q_v 1) zah)))) (zaa (zbd (i:=3) sc_step_at.nd (zdk zg9 (q_v 1) (q_v 2))) (zaa (zay (zbe (q_v 3) (zeG T.eK T.zzF (q_v 0))) (zac (zad zh1)) zai) (zaa (zay (zkS (zeM (zbe (zf2 T.eK (q_v 0) (q_v 3) (fun _ _=> rfl)) (zbn T.zAx)) (zd6 (znF (q_v 2) zaj)))) (zac (zad (zcR G_element_step (hr.mono (by decide)) (zab (q_v 0) (zab (zdk zg9 (q_v 3) zaj) (zab (zkZ (q_v 2) zaj) zah)))))) zai) (zaa (zay (zbe (q_v 2) zaj) (zac (zad zh1)) zai) (zac (zad (zcR G_member_step (hr.mono (by decide)) (zab (q_v 0) (zab (q_v 3) (zab (zkZ (q_v 2) zaj) zah)))))))))))
theorem znK:CG P w K mg base 4 "step_at" ["path","at"] (SpF a zcA):=
 zfo (N:=["path","at","dots","begin"]) (ps:=["path","at"]) (k:=3) (b:=zfL) T.zBt sc_step_at (zoi T)
theorem zmA:zaB P w K mg base a ["path","steps","at","found"] "steps_of" zhX 4 zeJ:=by
 have G_step_at:CG P w K mg base 4 "step_at" ["path","at"] (SpF a zcA):=znK T
 intro f cdv A outer s H E hr
 unfold zeJ
 exact (zaa (zay (zlX (zeG T.eK T.zzF (q_v 0)) (zbn T.zBe)) (zac (zad zh1)) zai) (zaa (zbd (i:=1) sc_steps_of.nd (zdb zah)) (zaa (zbd (i:=2) sc_steps_of.nd zaj) (zaa (zhz 100000 (zjD (q_v 2) (zeG T.eK T.zzF (q_v 0))) (zaa (zbd (i:=3) sc_steps_of.nd (zcR G_step_at (hr.mono (by decide)) (zab (q_v 0) (zab (q_v 2) zah)))) (zaa (zay (zkS (zqC (zih (q_v 3)) (zmQ (zbe (zeG T.eK T.zzF (q_v 1)) (zbn T.zBf))))) (zac (zad zh1)) zai) (zaa (zda (zk2 (q_v 1) (zjE (q_v 3) zaj (fun _ _=> rfl)))) (zac (zbd (i:=2) sc_steps_of.nd (zjE (q_v 3) zaj (fun _ _=> rfl)))))))) (zac (zad (q_v 1)))))))
theorem ziY:CG P w K mg base 5 "steps_of" ["path"] (SpF a zbw):=
 zfo (N:=["path","steps","at","found"]) (ps:=["path"]) (k:=4) (b:=zeJ) T.zBs sc_steps_of (zmA T)
theorem zrW:zaB P w K mg base a ["path","steps"] "check" zlV 5 zid:=by
 have G_steps_of:CG P w K mg base 5 "steps_of" ["path"] (SpF a zbw):=ziY T
 intro f cdv A outer s H E hr
 unfold zid
 exact (zaa (zbd (i:=1) sc_check.nd (zcR G_steps_of (hr.mono (by decide)) (zab (q_v 0) zah))) (zaa (zay (zih (q_v 1)) (zac (zad (zdb (zab (zir zaj) zah)))) zai) (zac (zad (zdb (zab zaj (zab (zeG T.eK T.zzF (q_v 1)) zah)))))))
theorem zqY:CG P w K mg base 6 "check" ["path"] (SpF a zfl):=
 zfo (N:=["path","steps"]) (ps:=["path"]) (k:=5) (b:=zid) T.zCD sc_check (zrW T)
end TS
namespace TS
open PySem PySem.Spec PyProof.Rows L2
variable {P:Program}{w:World}{K:PySem.W.Frag}{mg:Str->Option Value}{base:Heap}{a:Ad}(T:Txt K mg a)
include T
theorem zgA:zaB P w K mg base a ["self","places"] "Questions.choosing" zdu 0 zb9:=by
 intro f cdv A outer s H E hr
 unfold zb9
 exact (zac (zad (zdk zzd (q_v 1) (zdk zqI (zbn T.zAn) (zbn T.zAL)))))
theorem zgn:CM P w K mg base 1 (a 0) "choosing" ["self","places"] (SpF a zbt):=
 zb5 (N:=["self","places"]) (ps:=["self","places"]) (k:=0) (b:=zb9) T.zBH zgc (zgA T)
theorem zg7:zaB P w K mg base a ["self"] "Level.count_value" zdT 0 zcv:=by
 intro f cdv A outer s H E hr
 unfold zcv
 exact (zac (zep 2 4 zk1 (q_v 0) zaj T.zzG T.zAt))
theorem zgW:CM P w K mg base 1 (a 2) "count_value" ["self"] (SpF a zbD):=
 zb5 (N:=["self"]) (ps:=["self"]) (k:=0) (b:=zcv) T.zBQ zgS (zg7 T)
theorem zhS:zaB P w K mg base a ["self","places","link","fitting"] "Questions.along" zek 0 zcX:=by
 intro f cdv A outer s H E hr
 unfold zcX
 exact (zaa (zbd (i:=3) sc_Questions_along.nd (zdk qOr (zf2 T.eK (zaz 0 4 (q_v 0) rfl T.zzC T.zAb) (zjE (q_v 2) zaj (fun _ _=> rfl)) (fun _ _=> rfl)) (zr8 (zmb hr) (zaz 0 5 (q_v 0) rfl T.zzC T.zz2) (q_v 2) zaj))) (zac (zad (zdk qOr (zdk zxp (zdk zxX (q_v 1) (q_v 3)) (zbn T.zAn)) (zdk zxX (q_v 1) (zaz 0 2 (q_v 0) rfl T.zzC T.zz9))))))
theorem ze7:CM P w K mg base 1 (a 0) "along" ["self","places","link"] (SpF a zaJ):=
 zb5 (N:=["self","places","link","fitting"]) (ps:=["self","places","link"]) (k:=0) (b:=zcX) T.zBG sc_Questions_along (zhS T)
theorem zkN:zaB P w K mg base a ["self"] "Level.link" zgi 0 zdZ:=by
 intro f cdv A outer s H E hr
 unfold zdZ
 exact (zaa (zay (zbe (zaz 2 0 (q_v 0) rfl T.zzG T.zz3) (zbn T.zzQ)) (zac (zad (zh0 (zab (zbn T.zzQ) (zab (zdk zqH (zaz 2 4 (q_v 0) rfl T.zzG T.zAt) zaj) zah))))) zai) (zac (zad (zh0 (zab (zbn T.zAm) (zab (zaz 2 3 (q_v 0) rfl T.zzG T.zAs) zah))))))
theorem zhD:CM P w K mg base 1 (a 2) "link" ["self"] (SpF a zbk):=
 zb5 (N:=["self"]) (ps:=["self"]) (k:=0) (b:=zdZ) T.zBR zkl (zkN T)
theorem zic:zaB P w K mg base a ["self","kind","places","telling"] "Level.__init__" zev 0 zc8:=by
 intro f cdv A outer s H E hr
 unfold zc8
 exact (zaa (zax 2 0 (q_v 0) (q_v 1) T.zzG T.zz3) (zaa (zax 2 1 (q_v 0) (q_v 2) T.zzG T.zAr) (zaa (zax 2 2 (q_v 0) (q_v 3) T.zzG T.zAe) (zaa (zax 2 3 (q_v 0) (zh0 zah) T.zzG T.zAs) (zac (zax 2 4 (q_v 0) zaj T.zzG T.zAt))))))
theorem zh3:CC P w K mg base 1 (a 2) "Level" ["self","kind","places","telling"] (SpF a zbQ):=
 zoe (N:=["self","kind","places","telling"]) (ps:=["self","kind","places","telling"]) (k:=0) (b:=zc8) T.zBP zhV (zic T)
theorem zgB:zaB P w K mg base a ["self","which"] "Questions.all_shut" zdv 0 zca:=by
 intro f cdv A outer s H E hr
 unfold zca
 exact (zac (zad (zqG (zqD (q_v 1) zaj) (zlY (zkZ (zdk zxX (q_v 1) (zaz 0 3 (q_v 0) rfl T.zzC T.zAa)) zaj)))))
theorem zgo:CM P w K mg base 1 (a 0) "all_shut" ["self","which"] (SpF a zbu):=
 zb5 (N:=["self","which"]) (ps:=["self","which"]) (k:=0) (b:=zca) T.zBI zgd (zgB T)
theorem zgC:zaB P w K mg base a ["self"] "Questions.__init__" zdw 0 zcb:=by
 intro f cdv A outer s H E hr
 unfold zcb
 exact (zaa (zax 0 0 (q_v 0) zve T.zzC T.zzN) (zaa (zax 0 1 (q_v 0) zaj T.zzC T.zz1) (zaa (zax 0 2 (q_v 0) zaj T.zzC T.zz9) (zaa (zax 0 3 (q_v 0) zaj T.zzC T.zAa) (zaa (zax 0 4 (q_v 0) (zdb (zab zaj (zab zaj zah))) T.zzC T.zAb) (zac (zax 0 5 (q_v 0) zr7 T.zzC T.zz2)))))))
theorem zer:CC P w K mg base 1 (a 0) "Questions" ["self"] (SpF a zaN):=
 zoe (N:=["self"]) (ps:=["self"]) (k:=0) (b:=zcb) T.zBA zge (zgC T)
theorem zfI:zaB P w K mg base a ["self","number"] "Questions.free_number" zc3 0 zbL:=by
 intro f cdv A outer s H E hr
 unfold zbL
 exact (zaa (zsX (i:=1) 16 sc_Questions_free_number.nd T.zBo (zc5 T.zBi) (zac (zay (zoN (zmb hr) (q_v 1) (zaz 0 0 (q_v 0) rfl T.zzC T.zzN)) (zac (zad (q_v 1))) zai))) (zac (zad zh1)))
theorem zfC:CM P w K mg base 1 (a 0) "free_number" ["self"] (SpF a zbb):=
 zb5 (N:=["self","number"]) (ps:=["self"]) (k:=0) (b:=zbL) T.zBB sc_Questions_free_number (zfI T)
theorem ze5:zaB P w K mg base a ["self","number","steps","bit","step","link"] "Questions.lay_out_steps" zcK 0 zbA:=by
 intro f cdv A outer s H E hr
 unfold zbA
 exact (zaa (zbd (i:=3) sc_Questions_lay_out_steps.nd (zdk zxp zaj (zdk zg9 (zdk zxW (zbn T.zAn) (zdk zqH (zbn T.zAL) (zeG T.eK T.zzF (q_v 2)))) (q_v 1)))) (zaa (zep 0 1 zxo (q_v 0) (q_v 3) T.zzC T.zz1) (zac (ziW (i:=4) T.eK sc_Questions_lay_out_steps.nd (q_v 2) (zaa (zay (zdn (zjE (q_v 4) zaj (fun _ _=> rfl))) (zac (zep 0 2 zxo (q_v 0) (q_v 3) T.zzC T.zz9)) zai) (zaa (zay (zih (zjE (q_v 4) zaj (fun _ _=> rfl))) (zac (zsZ zxo (zaz 0 4 (q_v 0) rfl T.zzC T.zAb) (zjE (q_v 4) zaj (fun _ _=> rfl)) (q_v 3))) (zaa (zbd (i:=5) sc_Questions_lay_out_steps.nd (zh0 (zab (zjE (q_v 4) zaj (fun _ _=> rfl)) (zab (zjE (q_v 4) zaj (fun _ _=> rfl)) zah)))) (zac (zsW (zmb hr) (zaz 0 5 (q_v 0) rfl T.zzC T.zz2) (q_v 5) (zdk qOr (zr8 (zmb hr) (zaz 0 5 (q_v 0) rfl T.zzC T.zz2) (q_v 5) zaj) (q_v 3)))))) (zac (zbd (i:=3) sc_Questions_lay_out_steps.nd (zdk zxp (q_v 3) (zbn T.zAn))))))))))
theorem zeY:CM P w K mg base 1 (a 0) "lay_out_steps" ["self","number","steps"] (SpF a zaI):=
 zb5 (N:=["self","number","steps","bit","step","link"]) (ps:=["self","number","steps"]) (k:=0) (b:=zbA) T.zBF sc_Questions_lay_out_steps (ze5 T)
theorem zg5:zaB P w K mg base a ["self","number","question"] "Questions.lay_out" zdR 1 zct:=by
 have G_Questions_lay_out_steps:CM P w K mg base 1 (a 0) "lay_out_steps" ["self","number","steps"] (SpF a zaI):=zeY T
 intro f cdv A outer s H E hr
 unfold zct
 exact (zaa (zax 0 1 (q_v 0) zaj T.zzC T.zz1) (zaa (zax 0 2 (q_v 0) zaj T.zzC T.zz9) (zaa (zax 0 3 (q_v 0) zaj T.zzC T.zAa) (zaa (zax 0 4 (q_v 0) (zdb (zab zaj (zab zaj zah))) T.zzC T.zAb) (zaa (zax 0 5 (q_v 0) zr7 T.zzC T.zz2) (zac (ziW (i:=1) T.eK sc_Questions_lay_out.nd (zoP T.zA6 (zaz 0 0 (q_v 0) rfl T.zzC T.zzN)) (zaa (zbd (i:=2) sc_Questions_lay_out.nd (zvf (zmb hr) (zaz 0 0 (q_v 0) rfl T.zzC T.zzN) (q_v 1))) (zaa (zay (zbe (zjE (q_v 2) zaj (fun _ _=> rfl)) zaj) (zac (zep 0 3 zxo (q_v 0) (zdk zxp zaj (q_v 1)) T.zzC T.zAa)) zai) (zac (zda (zbm 0 G_Questions_lay_out_steps T.zzC (hr.mono (by decide)) (q_v 0) (zab (q_v 1) (zab (zjE (q_v 2) zaj (fun _ _=> rfl)) zah))))))))))))))
theorem zeA:CM P w K mg base 2 (a 0) "lay_out" ["self"] (SpF a zaZ):=
 zb5 (N:=["self","number","question"]) (ps:=["self"]) (k:=1) (b:=zct) T.zBE sc_Questions_lay_out (zg5 T)
theorem ziv:zaB P w K mg base a ["self","number","shut","steps"] "Questions.put" zeL 2 zdj:=by
 have G_Questions_lay_out:CM P w K mg base 2 (a 0) "lay_out" ["self"] (SpF a zaZ):=zeA T
 intro f cdv A outer s H E hr
 unfold zdj
 exact (zaa (zsY (zmb hr) (zaz 0 0 (q_v 0) rfl T.zzC T.zzN) (q_v 1) (zh0 (zab (q_v 2) (zab (q_v 3) zah)))) (zac (zda (zb4 0 G_Questions_lay_out T.zzC (hr.mono (by decide)) (q_v 0)))))
theorem zit:CM P w K mg base 3 (a 0) "put" ["self","number","shut","steps"] (SpF a zcp):=
 zb5 (N:=["self","number","shut","steps"]) (ps:=["self","number","shut","steps"]) (k:=2) (b:=zdj) T.zBC ziq (ziv T)
theorem zgz:zaB P w K mg base a ["self","number"] "Questions.take_out" zdt 2 zb8:=by
 have G_Questions_lay_out:CM P w K mg base 2 (a 0) "lay_out" ["self"] (SpF a zaZ):=zeA T
 intro f cdv A outer s H E hr
 unfold zb8
 exact (zaa (zda (zvd (zaz 0 0 (q_v 0) rfl T.zzC T.zzN) (q_v 1))) (zac (zda (zb4 0 G_Questions_lay_out T.zzC (hr.mono (by decide)) (q_v 0)))))
theorem zgm:CM P w K mg base 3 (a 0) "take_out" ["self","number"] (SpF a zbs):=
 zb5 (N:=["self","number"]) (ps:=["self","number"]) (k:=2) (b:=zb8) T.zBD zgb (zgz T)
end TS
namespace TS
open PySem PySem.Spec PyProof.Rows L2
variable {P:Program}{w:World}{K:PySem.W.Frag}{mg:Str->Option Value}{base:Heap}{a:Ad}(T:Txt K mg a)
include T
theorem zg2:zaB P w K mg base a ["self","sign","row","told"] "Reader.tell_bytes" zdO 0 zbX:=by
 intro f cdv A outer s H E hr
 unfold zbX
 exact (zac (zay (zdn (zaz 4 4 (q_v 0) rfl T.zzA T.zzW)) (zac (zda (zlZ (q_v 3) (znG (zdb (zab (q_v 1) (zab (zaz 4 3 (q_v 0) rfl T.zzA T.zzS) (zab (zeG T.eK T.zzF (q_v 2)) zah)))) (q_v 2))))) zai))
theorem zey:CM P w K mg base 1 (a 4) "tell_bytes" ["self","sign","row","told"] (SpF a zaL):=
 zb5 (N:=["self","sign","row","told"]) (ps:=["self","sign","row","told"]) (k:=0) (b:=zbX) T.zCs zgP (zg2 T)
theorem zfG:zaB P w K mg base a ["self","byte","told","done"] "Reader.take_in_string" zc1 4 zbr:=by
 have G_StringReader_take:CM P w K mg base 4 (a 3) "take" ["self","byte"] (SpF a zag):=zex T
 have G_Reader_tell_bytes:CM P w K mg base 1 (a 4) "tell_bytes" ["self","sign","row","told"] (SpF a zaL):=zey T
 intro f cdv A outer s H E hr
 unfold zbr
 exact (zaa (zbd (i:=3) sc_Reader_take_in_string.nd (zbm 3 G_StringReader_take T.zzB (hr.mono (by decide)) (zaz 4 5 (q_v 0) rfl T.zzA T.zzT) (zab (q_v 1) zah))) (zaa (zay (zbe (q_v 3) (zbn T.zAC)) (zaa (zda (zbm 4 G_Reader_tell_bytes T.zzA (hr.mono (by decide)) (q_v 0) (zab zaj (zab (zaz 3 0 (zaz 4 5 (q_v 0) rfl T.zzA T.zzT) rfl T.zzB T.zzO) (zab (q_v 2) zah))))) (zac (zax 4 2 (q_v 0) (zbn T.zz0) T.zzA T.zzE))) zai) (zac (zad (zqD (q_v 3) (zbn T.zzM))))))
theorem zdW:CM P w K mg base 5 (a 4) "take_in_string" ["self","byte","told"] (SpF a zaC):=
 zb5 (N:=["self","byte","told","done"]) (ps:=["self","byte","told"]) (k:=4) (b:=zbr) T.zCo sc_Reader_take_in_string (zfG T)
theorem zf5:zaB P w K mg base a ["self","byte","told","done","level","characters"] "Reader.take_in_name" zdf 4 zbq:=by
 have G_StringReader_take:CM P w K mg base 4 (a 3) "take" ["self","byte"] (SpF a zag):=zex T
 intro f cdv A outer s H E hr
 unfold zbq
 exact (zaa (zbd (i:=3) sc_Reader_take_in_name.nd (zbm 3 G_StringReader_take T.zzB (hr.mono (by decide)) (zaz 4 5 (q_v 0) rfl T.zzA T.zzT) (zab (q_v 1) zah))) (zaa (zay (zbe (q_v 3) (zbn T.zAC)) (zaa (zbd (i:=4) sc_Reader_take_in_name.nd (zf2 T.eK (zaz 4 1 (q_v 0) rfl T.zzA T.zzI) (zir zaj) (fun _ _=> rfl))) (zaa (zbd (i:=5) sc_Reader_take_in_name.nd (zaz 3 0 (zaz 4 5 (q_v 0) rfl T.zzA T.zzT) rfl T.zzB T.zzO)) (zaa (zax 2 3 (q_v 4) (zoO T.eK T.zA7 (q_v 5)) T.zzG T.zAs) (zaa (zay (zbe (zaz 2 2 (q_v 4) rfl T.zzG T.zAe) (zbn T.zAp)) (zac (zda (zlZ (q_v 2) (znG (zdb (zab zaj (zab (zeG T.eK T.zzF (q_v 5)) zah))) (q_v 5))))) zai) (zac (zax 4 2 (q_v 0) (zbn T.zAX) T.zzA T.zzE)))))) zai) (zac (zad (zqD (q_v 3) (zbn T.zzM))))))
theorem zef:CM P w K mg base 5 (a 4) "take_in_name" ["self","byte","told"] (SpF a zau):=
 zb5 (N:=["self","byte","told","done","level","characters"]) (ps:=["self","byte","told"]) (k:=4) (b:=zbq) T.zCn sc_Reader_take_in_name (zf5 T)
theorem zf4:zaB P w K mg base a ["self","byte","told","word"] "Reader.take_in_word" zde 0 za9:=by
 intro f cdv A outer s H E hr
 unfold za9
 exact (zaa (zbd (i:=3) sc_Reader_take_in_word.nd (zva T (zaz 4 7 (q_v 0) rfl T.zzA T.zAi))) (zaa (zay (znF (zxQ T.zA8 (zxT (q_v 3) (zaz 4 8 (q_v 0) rfl T.zzA T.zz5) (fun _ _=> rfl))) (q_v 1)) (zac (zad zhq)) zai) (zaa (zep 4 8 zk1 (q_v 0) zaj T.zzA T.zz5) (zaa (zay (zbe (zaz 4 8 (q_v 0) rfl T.zzA T.zz5) (zvb T.zzF (q_v 3))) (zaa (zay (zdn (zaz 4 4 (q_v 0) rfl T.zzA T.zzW)) (zac (zda (zlZ (q_v 2) (zdb (zab zaj (zab (zaz 4 3 (q_v 0) rfl T.zzA T.zzS) (zab (zaz 4 7 (q_v 0) rfl T.zzA T.zAi) zah))))))) zai) (zac (zax 4 2 (q_v 0) (zbn T.zz0) T.zzA T.zzE))) zai) (zac (zad zhq))))))
theorem zee:CM P w K mg base 1 (a 4) "take_in_word" ["self","byte","told"] (SpF a zas):=
 zb5 (N:=["self","byte","told","word"]) (ps:=["self","byte","told"]) (k:=0) (b:=za9) T.zCr sc_Reader_take_in_word (zf4 T)
theorem zfq:zaB P w K mg base a ["self"] "Reader.telling_outside" zcQ 0 zbo:=by
 intro f cdv A outer s H E hr
 unfold zbo
 exact (zaa (zay (zbe (zeG T.eK T.zzF (zaz 4 1 (q_v 0) rfl T.zzA T.zzI)) zaj) (zac (zad (zbn T.zAA))) zai) (zac (zad (zaz 2 2 (zf2 T.eK (zaz 4 1 (q_v 0) rfl T.zzA T.zzI) (zir zaj) (fun _ _=> rfl)) rfl T.zzG T.zAe))))
theorem zdy:CM P w K mg base 1 (a 4) "telling_outside" ["self"] (SpF a zap):=
 zb5 (N:=["self"]) (ps:=["self"]) (k:=0) (b:=zbo) T.zCj zfb (zfq T)
theorem ze3:zaB P w K mg base a ["self","places","level","telling"] "Reader.settle_questions" zcI 1 zb1:=by
 have G_Questions_choosing:CM P w K mg base 1 (a 0) "choosing" ["self","places"] (SpF a zbt):=zgn T
 have G_Reader_telling_outside:CM P w K mg base 1 (a 4) "telling_outside" ["self"] (SpF a zap):=zdy T
 have G_Level_count_value:CM P w K mg base 1 (a 2) "count_value" ["self"] (SpF a zbD):=zgW T
 have G_Questions_along:CM P w K mg base 1 (a 0) "along" ["self","places","link"] (SpF a zaJ):=ze7 T
 have G_Level_link:CM P w K mg base 1 (a 2) "link" ["self"] (SpF a zbk):=zhD T
 intro f cdv A outer s H E hr
 unfold zb1
 exact (zaa (zbd (i:=1) sc_Reader_settle_questions.nd (zaz 0 1 (zaz 4 0 (q_v 0) rfl T.zzA T.zzR) rfl T.zzC T.zz1)) (zaa (zay (zlX (zeG T.eK T.zzF (zaz 4 1 (q_v 0) rfl T.zzA T.zzI)) zaj) (zaa (zbd (i:=2) sc_Reader_settle_questions.nd (zf2 T.eK (zaz 4 1 (q_v 0) rfl T.zzA T.zzI) (zir zaj) (fun _ _=> rfl))) (zaa (zda (zb4 2 G_Level_count_value T.zzG (hr.mono (by decide)) (q_v 2))) (zac (zbd (i:=1) sc_Reader_settle_questions.nd (zbm 0 G_Questions_along T.zzC (hr.mono (by decide)) (zaz 4 0 (q_v 0) rfl T.zzA T.zzR) (zab (zaz 2 1 (q_v 2) rfl T.zzG T.zAr) (zab (zb4 2 G_Level_link T.zzG (hr.mono (by decide)) (q_v 2)) zah))))))) zai) (zaa (zax 4 3 (q_v 0) (zbm 0 G_Questions_choosing T.zzC (hr.mono (by decide)) (zaz 4 0 (q_v 0) rfl T.zzA T.zzR) (zab (q_v 1) zah)) T.zzA T.zzS) (zaa (zbd (i:=3) sc_Reader_settle_questions.nd (zb4 4 G_Reader_telling_outside T.zzA (hr.mono (by decide)) (q_v 0))) (zaa (zax 4 4 (q_v 0) (zxR (zkZ (q_v 3) (zbn T.zAp)) (zlY (zqG (zkZ (q_v 3) (zbn T.zAA)) (zlY (zqD (zaz 4 3 (q_v 0) rfl T.zzA T.zzS) zaj))))) T.zzA T.zzW) (zac (zad (q_v 1))))))))
theorem zcz:CM P w K mg base 2 (a 4) "settle_questions" ["self"] (SpF a zal):=
 zb5 (N:=["self","places","level","telling"]) (ps:=["self"]) (k:=1) (b:=zb1) T.zCl sc_Reader_settle_questions (ze3 T)
theorem zfF:zaB P w K mg base a ["self"] "Reader.telling_within" zc0 1 zbK:=by
 have G_Questions_all_shut:CM P w K mg base 1 (a 0) "all_shut" ["self","which"] (SpF a zbu):=zgo T
 have G_Reader_telling_outside:CM P w K mg base 1 (a 4) "telling_outside" ["self"] (SpF a zap):=zdy T
 intro f cdv A outer s H E hr
 unfold zbK
 exact (zaa (zay (zbe (zb4 4 G_Reader_telling_outside T.zzA (hr.mono (by decide)) (q_v 0)) (zbn T.zAB)) (zac (zad (zbn T.zAB))) zai) (zaa (zay (zfx (zdn (zaz 4 4 (q_v 0) rfl T.zzA T.zzW))) (zac (zad (zbn T.zAA))) zai) (zaa (zay (zdn (zbm 0 G_Questions_all_shut T.zzC (hr.mono (by decide)) (zaz 4 0 (q_v 0) rfl T.zzA T.zzR) (zab (zaz 4 3 (q_v 0) rfl T.zzA T.zzS) zah))) (zac (zad (zbn T.zAB))) zai) (zac (zad (zbn T.zAp))))))
theorem zfz:CM P w K mg base 2 (a 4) "telling_within" ["self"] (SpF a zba):=
 zb5 (N:=["self"]) (ps:=["self"]) (k:=1) (b:=zbK) T.zCk zfu (zfF T)
theorem zgy:zaB P w K mg base a ["self","kind","told","places"] "Reader.begin_level" zds 2 zcO:=by
 have G_Reader_settle_questions:CM P w K mg base 2 (a 4) "settle_questions" ["self"] (SpF a zal):=zcz T
 have G_Level___init__:CC P w K mg base 1 (a 2) "Level" ["self","kind","places","telling"] (SpF a zbQ):=zh3 T
 have G_Reader_telling_within:CM P w K mg base 2 (a 4) "telling_within" ["self"] (SpF a zba):=zfz T
 intro f cdv A outer s H E hr
 unfold zcO
 exact (zaa (zay (zbe (zeG T.eK T.zzF (zaz 4 1 (q_v 0) rfl T.zzA T.zzI)) (zbn T.zBl)) (zac (zad zhq)) zai) (zaa (zbd (i:=3) sc_Reader_begin_level.nd (zb4 4 G_Reader_settle_questions T.zzA (hr.mono (by decide)) (q_v 0))) (zaa (zay (zdn (zaz 4 4 (q_v 0) rfl T.zzA T.zzW)) (zac (zda (zlZ (q_v 2) (zdb (zab zaj (zab (zaz 4 3 (q_v 0) rfl T.zzA T.zzS) (zab (q_v 1) zah))))))) zai) (zaa (zda (zk2 (zaz 4 1 (q_v 0) rfl T.zzA T.zzI) (zs4 2 G_Level___init__ (hr.mono (by decide)) (zab (q_v 1) (zab (q_v 3) (zab (zb4 4 G_Reader_telling_within T.zzA (hr.mono (by decide)) (q_v 0)) zah)))))) (zaa (zax 4 2 (q_v 0) (zyJ (zbe (q_v 1) (zbn T.zzQ)) (zbn T.zAV) (zbn T.zAE)) T.zzA T.zzE) (zac (zad zhq)))))))
theorem zgl:CM P w K mg base 3 (a 4) "begin_level" ["self","kind","told"] (SpF a zaM):=
 zb5 (N:=["self","kind","told","places"]) (ps:=["self","kind","told"]) (k:=2) (b:=zcO) T.zCi sc_Reader_begin_level (zgy T)
theorem zf6:zaB P w K mg base a ["self","byte","number"] "Reader.begin_number" zdg 3 zbG:=by
 have G_NumberReader___init__:CC P w K mg base 1 (a 1) "NumberReader" ["self"] (SpF a zaD):=zdX T
 have G_Reader_settle_questions:CM P w K mg base 2 (a 4) "settle_questions" ["self"] (SpF a zal):=zcz T
 have G_NumberReader_take:CM P w K mg base 3 (a 1) "take" ["self","byte"] (SpF a zaH):=zeB T
 intro f cdv A outer s H E hr
 unfold zbG
 exact (zaa (zbd (i:=2) sc_Reader_begin_number.nd (zii 1 G_NumberReader___init__ (hr.mono (by decide)))) (zaa (zay (zfx (zdn (zbm 1 G_NumberReader_take T.zzJ (hr.mono (by decide)) (q_v 2) (zab (q_v 1) zah)))) (zac (zad zhq)) zai) (zaa (zax 4 6 (q_v 0) (q_v 2) T.zzA T.zzX) (zaa (zax 4 2 (q_v 0) (zbn T.zAq) T.zzA T.zzE) (zaa (zda (zb4 4 G_Reader_settle_questions T.zzA (hr.mono (by decide)) (q_v 0))) (zac (zad zhq)))))))
theorem zf3:CM P w K mg base 4 (a 4) "begin_number" ["self","byte"] (SpF a zaQ):=
 zb5 (N:=["self","byte","number"]) (ps:=["self","byte"]) (k:=3) (b:=zbG) T.zCh sc_Reader_begin_number (zf6 T)
theorem ze4:zaB P w K mg base a ["self","byte"] "Reader.may_follow_value" zcJ 0 zbj:=by
 intro f cdv A outer s H E hr
 unfold zbj
 exact (zaa (zay (zbe (zeG T.eK T.zzF (zaz 4 1 (q_v 0) rfl T.zzA T.zzI)) zaj) (zac (zad zhq)) zai) (zaa (zay (zbe (zaz 2 0 (zf2 T.eK (zaz 4 1 (q_v 0) rfl T.zzA T.zzI) (zir zaj) (fun _ _=> rfl)) rfl T.zzG T.zz3) (zbn T.zzQ)) (zac (zad (zsT (q_v 1) (pk1 (zc5 T.zAv) (pk1 (zc5 T.zAl) pk0))))) zai) (zac (zad (zsT (q_v 1) (pk1 (zc5 T.zAv) (pk1 (zc5 T.zAK) pk0)))))))
theorem zdo:CM P w K mg base 1 (a 4) "may_follow_value" ["self","byte"] (SpF a zam):=
 zb5 (N:=["self","byte"]) (ps:=["self","byte"]) (k:=0) (b:=zbj) T.zCe zeT (ze4 T)
theorem zgw:zaB P w K mg base a ["self","told","level"] "Reader.close_level" zdq 0 zbO:=by
 intro f cdv A outer s H E hr
 unfold zbO
 exact (zaa (zbd (i:=2) sc_Reader_close_level.nd (zxP (zaz 4 1 (q_v 0) rfl T.zzA T.zzI))) (zaa (zay (zbe (zaz 2 2 (q_v 2) rfl T.zzG T.zAe) (zbn T.zAp)) (zac (zda (zlZ (q_v 1) (zdb (zab zaj (zab (zaz 2 0 (q_v 2) rfl T.zzG T.zz3) zah)))))) zai) (zac (zax 4 2 (q_v 0) (zbn T.zz0) T.zzA T.zzE))))
theorem zdh:CM P w K mg base 1 (a 4) "close_level" ["self","told"] (SpF a zar):=
 zb5 (N:=["self","told","level"]) (ps:=["self","told"]) (k:=0) (b:=zbO) T.zCm sc_Reader_close_level (zgw T)
theorem zeQ:zaB P w K mg base a ["self","byte","told"] "Reader.take_behind_value" zcy 1 zaW:=by
 have G_Reader_may_follow_value:CM P w K mg base 1 (a 4) "may_follow_value" ["self","byte"] (SpF a zam):=zdo T
 have G_Reader_close_level:CM P w K mg base 1 (a 4) "close_level" ["self","told"] (SpF a zar):=zdh T
 intro f cdv A outer s H E hr
 unfold zaW
 exact (zaa (zay (zfx (zdn (zbm 4 G_Reader_may_follow_value T.zzA (hr.mono (by decide)) (q_v 0) (zab (q_v 1) zah)))) (zac (zad zhq)) zai) (zaa (zay (znF (q_v 1) (zbn T.zAv)) (zac (zda (zbm 4 G_Reader_close_level T.zzA (hr.mono (by decide)) (q_v 0) (zab (q_v 2) zah)))) (zac (zay (zbe (zaz 2 0 (zf2 T.eK (zaz 4 1 (q_v 0) rfl T.zzA T.zzI) (zir zaj) (fun _ _=> rfl)) rfl T.zzG T.zz3) (zbn T.zzQ)) (zac (zax 4 2 (q_v 0) (zbn T.zAD) T.zzA T.zzE)) (zac (zax 4 2 (q_v 0) (zbn T.zAW) T.zzA T.zzE))))) (zac (zad zhq))))
theorem zeO:CM P w K mg base 2 (a 4) "take_behind_value" ["self","byte","told"] (SpF a zao):=
 zb5 (N:=["self","byte","told"]) (ps:=["self","byte","told"]) (k:=1) (b:=zaW) T.zCf zeK (zeQ T)
theorem zg3:zaB P w K mg base a ["self","byte"] "Reader.take_colon" zdP 0 zcr:=by
 intro f cdv A outer s H E hr
 unfold zcr
 exact (zaa (zay (znF (q_v 1) (zbn T.zBc)) (zac (zad zhq)) zai) (zaa (zax 4 2 (q_v 0) (zbn T.zAD) T.zzA T.zzE) (zac (zad zhq))))
theorem zgV:CM P w K mg base 1 (a 4) "take_colon" ["self","byte"] (SpF a zbC):=
 zb5 (N:=["self","byte"]) (ps:=["self","byte"]) (k:=0) (b:=zcr) T.zCc zgQ (zg3 T)
theorem ze2:zaB P w K mg base a ["self","byte","told"] "Reader.take_before_name" zcH 2 za0:=by
 have G_StringReader___init__:CC P w K mg base 1 (a 3) "StringReader" ["self"] (SpF a zat):=zcS T
 have G_Reader_close_level:CM P w K mg base 1 (a 4) "close_level" ["self","told"] (SpF a zar):=zdh T
 intro f cdv A outer s H E hr
 unfold za0
 exact (zaa (zay (zbe (q_v 1) (zbn T.zAj)) (zaa (zax 4 5 (q_v 0) (zii 3 G_StringReader___init__ (hr.mono (by decide))) T.zzA T.zzT) (zaa (zax 4 2 (q_v 0) (zbn T.zAF) T.zzA T.zzE) (zac (zad zhq)))) zai) (zaa (zay (zkS (zeM (zbe (q_v 1) (zbn T.zAK)) (zd6 (zbe (zaz 4 2 (q_v 0) rfl T.zzA T.zzE) (zbn T.zAE))))) (zaa (zda (zbm 4 G_Reader_close_level T.zzA (hr.mono (by decide)) (q_v 0) (zab (q_v 2) zah))) (zac (zad zhq))) zai) (zac (zad zhq))))
theorem zeX:CM P w K mg base 3 (a 4) "take_before_name" ["self","byte","told"] (SpF a zaw):=
 zb5 (N:=["self","byte","told"]) (ps:=["self","byte","told"]) (k:=2) (b:=za0) T.zCd zeS (ze2 T)
theorem zhR:zaB P w K mg base a ["self","questions"] "Reader.__init__" zej 2 zcW:=by
 have G_StringReader___init__:CC P w K mg base 1 (a 3) "StringReader" ["self"] (SpF a zat):=zcS T
 have G_NumberReader___init__:CC P w K mg base 1 (a 1) "NumberReader" ["self"] (SpF a zaD):=zdX T
 intro f cdv A outer s H E hr
 unfold zcW
 exact (zaa (zax 4 0 (q_v 0) (q_v 1) T.zzA T.zzR) (zaa (zax 4 1 (q_v 0) (zdb zah) T.zzA T.zzI) (zaa (zax 4 2 (q_v 0) (zbn T.zAD) T.zzA T.zzE) (zaa (zax 4 3 (q_v 0) zaj T.zzA T.zzS) (zaa (zax 4 4 (q_v 0) zhq T.zzA T.zzW) (zaa (zax 4 5 (q_v 0) (zii 3 G_StringReader___init__ (hr.mono (by decide))) T.zzA T.zzT) (zaa (zax 4 6 (q_v 0) (zii 1 G_NumberReader___init__ (hr.mono (by decide))) T.zzA T.zzX) (zaa (zax 4 7 (q_v 0) zaj T.zzA T.zAi) (zac (zax 4 8 (q_v 0) zaj T.zzA T.zz5))))))))))
theorem ze6:CC P w K mg base 3 (a 4) "Reader" ["self","questions"] (SpF a za3):=
 zoe (N:=["self","questions"]) (ps:=["self","questions"]) (k:=2) (b:=zcW) T.zB9 zhy (zhR T)
theorem zib:zaB P w K mg base a ["self","places","level"] "Reader.retrace" zeu 1 zc7:=by
 have G_Questions_along:CM P w K mg base 1 (a 0) "along" ["self","places","link"] (SpF a zaJ):=ze7 T
 have G_Level_link:CM P w K mg base 1 (a 2) "link" ["self"] (SpF a zbk):=zhD T
 intro f cdv A outer s H E hr
 unfold zc7
 exact (zaa (zbd (i:=1) sc_Reader_retrace.nd (zaz 0 1 (zaz 4 0 (q_v 0) rfl T.zzA T.zzR) rfl T.zzC T.zz1)) (zac (ziW (i:=2) T.eK sc_Reader_retrace.nd (zaz 4 1 (q_v 0) rfl T.zzA T.zzI) (zaa (zax 2 1 (q_v 2) (q_v 1) T.zzG T.zAr) (zac (zbd (i:=1) sc_Reader_retrace.nd (zbm 0 G_Questions_along T.zzC (hr.mono (by decide)) (zaz 4 0 (q_v 0) rfl T.zzA T.zzR) (zab (q_v 1) (zab (zb4 2 G_Level_link T.zzG (hr.mono (by decide)) (q_v 2)) zah)))))))))
theorem zfB:CM P w K mg base 2 (a 4) "retrace" ["self"] (SpF a zbf):=
 zb5 (N:=["self","places","level"]) (ps:=["self"]) (k:=1) (b:=zc7) T.zCa sc_Reader_retrace (zib T)
theorem zg4:zaB P w K mg base a ["self","told"] "Reader.end_number" zdQ 1 zcs:=by
 have G_Reader_tell_bytes:CM P w K mg base 1 (a 4) "tell_bytes" ["self","sign","row","told"] (SpF a zaL):=zey T
 intro f cdv A outer s H E hr
 unfold zcs
 exact (zaa (zda (zbm 4 G_Reader_tell_bytes T.zzA (hr.mono (by decide)) (q_v 0) (zab zaj (zab (zaz 1 1 (zaz 4 6 (q_v 0) rfl T.zzA T.zzX) rfl T.zzJ T.zAd) (zab (q_v 1) zah))))) (zac (zax 4 2 (q_v 0) (zbn T.zz0) T.zzA T.zzE)))
theorem zez:CM P w K mg base 2 (a 4) "end_number" ["self","told"] (SpF a zaY):=
 zb5 (N:=["self","told"]) (ps:=["self","told"]) (k:=1) (b:=zcs) T.zCq zgR (zg4 T)
theorem zhQ:zaB P w K mg base a ["self","told"] "Reader.end_text" zei 2 zbF:=by
 have G_NumberReader_may_end:CM P w K mg base 2 (a 1) "may_end" ["self"] (SpF a zaE):=zd9 T
 have G_Reader_end_number:CM P w K mg base 2 (a 4) "end_number" ["self","told"] (SpF a zaY):=zez T
 intro f cdv A outer s H E hr
 unfold zbF
 exact (zaa (zay (zlX (zeG T.eK T.zzF (zaz 4 1 (q_v 0) rfl T.zzA T.zzI)) zaj) (zac (zad zhq)) zai) (zaa (zay (zkS (zeM (zbe (zaz 4 2 (q_v 0) rfl T.zzA T.zzE) (zbn T.zAq)) (zd6 (zdn (zb4 1 G_NumberReader_may_end T.zzJ (hr.mono (by decide)) (zaz 4 6 (q_v 0) rfl T.zzA T.zzX)))))) (zac (zda (zbm 4 G_Reader_end_number T.zzA (hr.mono (by decide)) (q_v 0) (zab (q_v 1) zah)))) zai) (zac (zad (zkZ (zaz 4 2 (q_v 0) rfl T.zzA T.zzE) (zbn T.zz0))))))
theorem zhC:CM P w K mg base 3 (a 4) "end_text" ["self","told"] (SpF a zaG):=
 zb5 (N:=["self","told"]) (ps:=["self","told"]) (k:=2) (b:=zbF) T.zCt zhx (zhQ T)
theorem zhP:zaB P w K mg base a ["self"] "Sifter.__init__" zeh 4 zcV:=by
 have G_Questions___init__:CC P w K mg base 1 (a 0) "Questions" ["self"] (SpF a zaN):=zer T
 have G_Reader___init__:CC P w K mg base 3 (a 4) "Reader" ["self","questions"] (SpF a za3):=ze6 T
 intro f cdv A outer s H E hr
 unfold zcV
 exact (zaa (zax 5 0 (q_v 0) (zii 0 G_Questions___init__ (hr.mono (by decide))) T.zzD T.zzK) (zaa (zax 5 1 (q_v 0) (zs4 4 G_Reader___init__ (hr.mono (by decide)) (zab (zaz 5 0 (q_v 0) rfl T.zzD T.zzK) zah)) T.zzD T.zzU) (zaa (zax 5 2 (q_v 0) zaj T.zzD T.zz6) (zac (zax 5 3 (q_v 0) zhq T.zzD T.zzY)))))
theorem zhB:CC P w K mg base 5 (a 5) "Sifter" ["self"] (SpF a zbV):=
 zoe (N:=["self"]) (ps:=["self"]) (k:=4) (b:=zcV) T.zCu zhw (zhP T)
theorem zjv:zaB P w K mg base a ["self"] "Sifter.begin" zfi 4 zdI:=by
 have G_Questions___init__:CC P w K mg base 1 (a 0) "Questions" ["self"] (SpF a zaN):=zer T
 have G_Reader___init__:CC P w K mg base 3 (a 4) "Reader" ["self","questions"] (SpF a za3):=ze6 T
 intro f cdv A outer s H E hr
 unfold zdI
 exact (zaa (zax 5 0 (q_v 0) (zii 0 G_Questions___init__ (hr.mono (by decide))) T.zzD T.zzK) (zaa (zax 5 1 (q_v 0) (zs4 4 G_Reader___init__ (hr.mono (by decide)) (zab (zaz 5 0 (q_v 0) rfl T.zzD T.zzK) zah)) T.zzD T.zzU) (zaa (zax 5 2 (q_v 0) zaj T.zzD T.zz6) (zaa (zax 5 3 (q_v 0) zhq T.zzD T.zzY) (zac (zad (zdb (zab zaj zah))))))))
theorem zi6:CM P w K mg base 5 (a 5) "begin" ["self"] (SpF a zcg):=
 zb5 (N:=["self"]) (ps:=["self"]) (k:=4) (b:=zdI) T.zCv ziP (zjv T)
theorem zkM:zaB P w K mg base a ["self","shut","path","steps","number"] "Sifter.ask" zgh 5 zcY:=by
 have G_steps_of:CG P w K mg base 5 "steps_of" ["path"] (SpF a zbw):=ziY T
 have G_Questions_free_number:CM P w K mg base 1 (a 0) "free_number" ["self"] (SpF a zbb):=zfC T
 have G_Questions_put:CM P w K mg base 3 (a 0) "put" ["self","number","shut","steps"] (SpF a zcp):=zit T
 have G_Reader_retrace:CM P w K mg base 2 (a 4) "retrace" ["self"] (SpF a zbf):=zfB T
 intro f cdv A outer s H E hr
 unfold zcY
 exact (zaa (zbd (i:=3) sc_Sifter_ask.nd (zcR G_steps_of (hr.mono (by decide)) (zab (q_v 2) zah))) (zaa (zay (zkS (zqC (zlX (q_v 1) zaj) (zmQ (zih (q_v 3))))) (zac (zad (zdb (zab (zir zaj) zah)))) zai) (zaa (zbd (i:=4) sc_Sifter_ask.nd (zb4 0 G_Questions_free_number T.zzC (hr.mono (by decide)) (zaz 5 0 (q_v 0) rfl T.zzD T.zzK))) (zaa (zay (zih (q_v 4)) (zac (zad (zdb (zab (zir zaj) zah)))) zai) (zaa (zda (zbm 0 G_Questions_put T.zzC (hr.mono (by decide)) (zaz 5 0 (q_v 0) rfl T.zzD T.zzK) (zab (q_v 4) (zab (q_v 1) (zab (q_v 3) zah))))) (zaa (zda (zb4 4 G_Reader_retrace T.zzA (hr.mono (by decide)) (zaz 5 1 (q_v 0) rfl T.zzD T.zzU))) (zac (zad (zdb (zab zaj (zab (q_v 4) zah)))))))))))
theorem zku:CM P w K mg base 6 (a 5) "ask" ["self","shut","path"] (SpF a zbv):=
 zb5 (N:=["self","shut","path","steps","number"]) (ps:=["self","shut","path"]) (k:=5) (b:=zcY) T.zCw sc_Sifter_ask (zkM T)
theorem zjU:zaB P w K mg base a ["self","number"] "Sifter.drop" zfW 3 zdm:=by
 have G_Questions_take_out:CM P w K mg base 3 (a 0) "take_out" ["self","number"] (SpF a zbs):=zgm T
 have G_Reader_retrace:CM P w K mg base 2 (a 4) "retrace" ["self"] (SpF a zbf):=zfB T
 intro f cdv A outer s H E hr
 unfold zdm
 exact (zaa (zay (zoN (zmb hr) (q_v 1) (zaz 0 0 (zaz 5 0 (q_v 0) rfl T.zzD T.zzK) rfl T.zzC T.zzN)) (zac (zad (zdb (zab (zir zaj) zah)))) zai) (zaa (zda (zbm 0 G_Questions_take_out T.zzC (hr.mono (by decide)) (zaz 5 0 (q_v 0) rfl T.zzD T.zzK) (zab (q_v 1) zah))) (zaa (zda (zb4 4 G_Reader_retrace T.zzA (hr.mono (by decide)) (zaz 5 1 (q_v 0) rfl T.zzD T.zzU))) (zac (zad (zdb (zab zaj zah)))))))
theorem zjJ:CM P w K mg base 4 (a 5) "drop" ["self","number"] (SpF a zb0):=
 zb5 (N:=["self","number"]) (ps:=["self","number"]) (k:=3) (b:=zdm) T.zCx zjC (zjU T)
theorem zkL:zaB P w K mg base a ["self","told"] "Sifter.end" zgg 3 zdi:=by
 have G_Reader_end_text:CM P w K mg base 3 (a 4) "end_text" ["self","told"] (SpF a zaG):=zhC T
 intro f cdv A outer s H E hr
 unfold zdi
 exact (zaa (zay (zdn (zaz 5 3 (q_v 0) rfl T.zzD T.zzY)) (zac (zad (zdb (zab (zir zaj) zah)))) zai) (zaa (zax 5 3 (q_v 0) zhq T.zzD T.zzY) (zaa (zbd (i:=1) sc_Sifter_end.nd (zdb zah)) (zaa (zay (zfx (zdn (zbm 4 G_Reader_end_text T.zzA (hr.mono (by decide)) (zaz 5 1 (q_v 0) rfl T.zzD T.zzU) (zab (q_v 1) zah)))) (zac (zad (zdb (zab zaj zah)))) zai) (zac (zad (znG (zdb (zab zaj zah)) (q_v 1))))))))
theorem zkt:CM P w K mg base 4 (a 5) "end" ["self"] (SpF a zbP):=
 zb5 (N:=["self","told"]) (ps:=["self"]) (k:=3) (b:=zdi) T.zCz sc_Sifter_end (zkL T)
theorem zjt:zaB P w K mg base a ["self"] "Sifter.place" zfg 0 zdG:=by
 intro f cdv A outer s H E hr
 unfold zdG
 exact (zac (zad (zdb (zab zaj (zab (zaz 5 2 (q_v 0) rfl T.zzD T.zz6) zah)))))
theorem zi4:CM P w K mg base 1 (a 5) "place" ["self"] (SpF a zce):=
 zb5 (N:=["self"]) (ps:=["self"]) (k:=0) (b:=zdG) T.zCA ziN (zjt T)
theorem zju:zaB P w K mg base a ["self"] "Sifter.depth" zfh 0 zdH:=by
 intro f cdv A outer s H E hr
 unfold zdH
 exact (zac (zad (zdb (zab zaj (zab (zeG T.eK T.zzF (zaz 4 1 (zaz 5 1 (q_v 0) rfl T.zzD T.zzU) rfl T.zzA T.zzI)) zah)))))
theorem zi5:CM P w K mg base 1 (a 5) "depth" ["self"] (SpF a zcf):=
 zb5 (N:=["self"]) (ps:=["self"]) (k:=0) (b:=zdH) T.zCB ziO (zju T)
theorem zjw:zaB P w K mg base a ["self"] "Sifter.asked" zfj 0 zdJ:=by
 intro f cdv A outer s H E hr
 unfold zdJ
 exact (zac (zad (znG (zdb (zab zaj zah)) (zoP T.zA6 (zaz 0 0 (zaz 5 0 (q_v 0) rfl T.zzD T.zzK) rfl T.zzC T.zzN)))))
theorem zi7:CM P w K mg base 1 (a 5) "asked" ["self"] (SpF a zch):=
 zb5 (N:=["self"]) (ps:=["self"]) (k:=0) (b:=zdJ) T.zCC ziQ (zjw T)
theorem zjR:zaB P w K mg base a ["calls","at","number"] "end_of_call" zfT 0 zcc:=by
 intro f cdv A outer s H E hr
 unfold zcc
 exact (zaa (zbd (i:=2) sc_end_of_call.nd (zf2 T.eK (q_v 0) (q_v 1) (fun _ _=> rfl))) (zaa (zay (zkn (q_v 2) (pk1 (zc5 T.zAZ) (pk1 (zc5 T.zA3) (pk1 (zc5 T.zA4) (pk1 (zc5 T.zA5) (pk1 (zc5 T.zBn) pk0)))))) (zac (zad (zdk zg9 (q_v 1) zaj))) zai) (zaa (zay (zbe (q_v 2) (zbn T.zA1)) (zac (zad (zdk zg9 (q_v 1) zaj))) zai) (zaa (zay (zbe (q_v 2) (zbn T.zA0)) (zac (zad (zdk zg9 (zdk zg9 (q_v 1) zaj) (zf2 T.eK (q_v 0) (zdk zg9 (q_v 1) zaj) (fun _ _=> rfl))))) zai) (zaa (zay (zkn (q_v 2) (pk1 (zc5 T.zAY) (pk1 (zc5 T.zA2) pk0))) (zac (zad (zdk zg9 (zdk zg9 (q_v 1) zaj) (zf2 T.eK (q_v 0) (zdk zg9 (q_v 1) zaj) (fun _ _=> rfl))))) zai) (zac zmS))))))
theorem zjG:CG P w K mg base 1 "end_of_call" ["calls","at"] (SpF a zaV):=
 zfo (N:=["calls","at","number"]) (ps:=["calls","at"]) (k:=0) (b:=zcc) T.zCF sc_end_of_call (zjR T)
end TS
namespace TS
open PySem PySem.Spec PyProof.Rows L2
variable {P:Program}{w:World}{K:PySem.W.Frag}{mg:Str->Option Value}{base:Heap}{a:Ad}(T:Txt K mg a)
include T
theorem zgx:zaB P w K mg base a ["self","byte","told","word"] "Reader.begin_value" zdr 4 za2:=by
 have G_word_begun_by:CG P w K mg base 1 "word_begun_by" ["byte"] (SpF a m_word_begun_by):=zis T
 have G_Reader_settle_questions:CM P w K mg base 2 (a 4) "settle_questions" ["self"] (SpF a zal):=zcz T
 have G_Reader_begin_level:CM P w K mg base 3 (a 4) "begin_level" ["self","kind","told"] (SpF a zaM):=zgl T
 have G_StringReader___init__:CC P w K mg base 1 (a 3) "StringReader" ["self"] (SpF a zat):=zcS T
 have G_Reader_begin_number:CM P w K mg base 4 (a 4) "begin_number" ["self","byte"] (SpF a zaQ):=zf3 T
 intro f cdv A outer s H E hr
 unfold za2
 exact (zaa (zay (zbe (q_v 1) (zbn T.zBd)) (zac (zad (zbm 4 G_Reader_begin_level T.zzA (hr.mono (by decide)) (q_v 0) (zab (zbn T.zAm) (zab (q_v 2) zah))))) zai) (zaa (zay (zbe (q_v 1) (zbn T.zAx)) (zac (zad (zbm 4 G_Reader_begin_level T.zzA (hr.mono (by decide)) (q_v 0) (zab (zbn T.zzQ) (zab (q_v 2) zah))))) zai) (zaa (zay (zbe (q_v 1) (zbn T.zAj)) (zaa (zax 4 5 (q_v 0) (zii 3 G_StringReader___init__ (hr.mono (by decide))) T.zzA T.zzT) (zaa (zax 4 2 (q_v 0) (zbn T.zAG) T.zzA T.zzE) (zaa (zda (zb4 4 G_Reader_settle_questions T.zzA (hr.mono (by decide)) (q_v 0))) (zac (zad zhq))))) zai) (zaa (zbd (i:=3) sc_Reader_begin_value.nd (zcR G_word_begun_by (hr.mono (by decide)) (zab (q_v 1) zah))) (zaa (zay (zih (q_v 3)) (zac (zad (zbm 4 G_Reader_begin_number T.zzA (hr.mono (by decide)) (q_v 0) (zab (q_v 1) zah)))) zai) (zaa (zax 4 7 (q_v 0) (q_v 3) T.zzA T.zAi) (zaa (zax 4 8 (q_v 0) zaj T.zzA T.zz5) (zaa (zax 4 2 (q_v 0) (zbn T.zAH) T.zzA T.zzE) (zaa (zda (zb4 4 G_Reader_settle_questions T.zzA (hr.mono (by decide)) (q_v 0))) (zac (zad zhq)))))))))))
theorem zgk:CM P w K mg base 5 (a 4) "begin_value" ["self","byte","told"] (SpF a zak):=
 zb5 (N:=["self","byte","told","word"]) (ps:=["self","byte","told"]) (k:=4) (b:=za2) T.zCg sc_Reader_begin_value (zgx T)
theorem zhp:zaB P w K mg base a ["self","byte","told"] "Reader.take_sign" zd5 5 za6:=by
 have G_Reader_begin_value:CM P w K mg base 5 (a 4) "begin_value" ["self","byte","told"] (SpF a zak):=zgk T
 have G_Reader_take_behind_value:CM P w K mg base 2 (a 4) "take_behind_value" ["self","byte","told"] (SpF a zao):=zeO T
 have G_Reader_take_colon:CM P w K mg base 1 (a 4) "take_colon" ["self","byte"] (SpF a zbC):=zgV T
 have G_Reader_take_before_name:CM P w K mg base 3 (a 4) "take_before_name" ["self","byte","told"] (SpF a zaw):=zeX T
 have G_Reader_close_level:CM P w K mg base 1 (a 4) "close_level" ["self","told"] (SpF a zar):=zdh T
 intro f cdv A outer s H E hr
 unfold za6
 exact (zaa (zay (zbe (zaz 4 2 (q_v 0) rfl T.zzA T.zzE) (zbn T.zz0)) (zac (zad (zbm 4 G_Reader_take_behind_value T.zzA (hr.mono (by decide)) (q_v 0) (zab (q_v 1) (zab (q_v 2) zah))))) zai) (zaa (zay (zbe (zaz 4 2 (q_v 0) rfl T.zzA T.zzE) (zbn T.zAX)) (zac (zad (zbm 4 G_Reader_take_colon T.zzA (hr.mono (by decide)) (q_v 0) (zab (q_v 1) zah)))) zai) (zaa (zay (zkn (zaz 4 2 (q_v 0) rfl T.zzA T.zzE) (pk1 (zc5 T.zAW) (pk1 (zc5 T.zAE) pk0))) (zac (zad (zbm 4 G_Reader_take_before_name T.zzA (hr.mono (by decide)) (q_v 0) (zab (q_v 1) (zab (q_v 2) zah))))) zai) (zaa (zay (zkS (zeM (zbe (zaz 4 2 (q_v 0) rfl T.zzA T.zzE) (zbn T.zAV)) (zd6 (zbe (q_v 1) (zbn T.zAl))))) (zaa (zda (zbm 4 G_Reader_close_level T.zzA (hr.mono (by decide)) (q_v 0) (zab (q_v 2) zah))) (zac (zad zhq))) zai) (zac (zad (zbm 4 G_Reader_begin_value T.zzA (hr.mono (by decide)) (q_v 0) (zab (q_v 1) (zab (q_v 2) zah)))))))))
theorem zeN:CM P w K mg base 6 (a 4) "take_sign" ["self","byte","told"] (SpF a zan):=
 zb5 (N:=["self","byte","told"]) (ps:=["self","byte","told"]) (k:=5) (b:=za6) T.zCb zhf (zhp T)
theorem zjx:zaB P w K mg base a ["self","byte","told"] "Reader.take" zeF 6 zdK:=by
 have G_Reader_take_in_string:CM P w K mg base 5 (a 4) "take_in_string" ["self","byte","told"] (SpF a zaC):=zdW T
 have G_Reader_take_in_name:CM P w K mg base 5 (a 4) "take_in_name" ["self","byte","told"] (SpF a zau):=zef T
 have G_Reader_take_in_word:CM P w K mg base 1 (a 4) "take_in_word" ["self","byte","told"] (SpF a zas):=zee T
 have G_Reader_take_sign:CM P w K mg base 6 (a 4) "take_sign" ["self","byte","told"] (SpF a zan):=zeN T
 intro f cdv A outer s H E hr
 unfold zdK
 exact (zaa (zay (zbe (zaz 4 2 (q_v 0) rfl T.zzA T.zzE) (zbn T.zAG)) (zac (zad (zbm 4 G_Reader_take_in_string T.zzA (hr.mono (by decide)) (q_v 0) (zab (q_v 1) (zab (q_v 2) zah))))) zai) (zaa (zay (zbe (zaz 4 2 (q_v 0) rfl T.zzA T.zzE) (zbn T.zAF)) (zac (zad (zbm 4 G_Reader_take_in_name T.zzA (hr.mono (by decide)) (q_v 0) (zab (q_v 1) (zab (q_v 2) zah))))) zai) (zaa (zay (zbe (zaz 4 2 (q_v 0) rfl T.zzA T.zzE) (zbn T.zAq)) (zac zmS) zai) (zaa (zay (zbe (zaz 4 2 (q_v 0) rfl T.zzA T.zzE) (zbn T.zAH)) (zac (zad (zbm 4 G_Reader_take_in_word T.zzA (hr.mono (by decide)) (q_v 0) (zab (q_v 1) (zab (q_v 2) zah))))) zai) (zac (zad (zxR (zmR T (q_v 1)) (zlY (zbm 4 G_Reader_take_sign T.zzA (hr.mono (by decide)) (q_v 0) (zab (q_v 1) (zab (q_v 2) zah)))))))))))
theorem zi8:CM P w K mg base 7 (a 4) "take" ["self","byte","told"] (SpF a zci):=
 zb5 (N:=["self","byte","told"]) (ps:=["self","byte","told"]) (k:=6) (b:=zdK) T.zA9 zg8 (zjx T)
theorem zfH:zaB P w K mg base a ["self","byte","told"] "Reader.take_in_number" zc2 7 zbc:=by
 have G_NumberReader_take:CM P w K mg base 3 (a 1) "take" ["self","byte"] (SpF a zaH):=zeB T
 have G_Reader_end_number:CM P w K mg base 2 (a 4) "end_number" ["self","told"] (SpF a zaY):=zez T
 have G_Reader_take0:CM P w K mg base 7 (a 4) "take" ["self","byte","told"] (SpF a zci):=zi8 T
 have G_NumberReader_may_end:CM P w K mg base 2 (a 1) "may_end" ["self"] (SpF a zaE):=zd9 T
 have G_Reader_may_follow_value:CM P w K mg base 1 (a 4) "may_follow_value" ["self","byte"] (SpF a zam):=zdo T
 intro f cdv A outer s H E hr
 unfold zbc
 exact (zaa (zay (zdn (zbm 1 G_NumberReader_take T.zzJ (hr.mono (by decide)) (zaz 4 6 (q_v 0) rfl T.zzA T.zzX) (zab (q_v 1) zah))) (zac (zad zhq)) zai) (zaa (zay (zkS (zqC (zfx (zdn (zb4 1 G_NumberReader_may_end T.zzJ (hr.mono (by decide)) (zaz 4 6 (q_v 0) rfl T.zzA T.zzX)))) (zmQ (zfx (zkS (zqC (zqF T (q_v 1)) (zmQ (zdn (zbm 4 G_Reader_may_follow_value T.zzA (hr.mono (by decide)) (q_v 0) (zab (q_v 1) zah)))))))))) (zac (zad zhq)) zai) (zaa (zda (zbm 4 G_Reader_end_number T.zzA (hr.mono (by decide)) (q_v 0) (zab (q_v 2) zah))) (zac (zad (zbm 4 G_Reader_take0 T.zzA (hr.mono (by decide)) (q_v 0) (zab (q_v 1) (zab (q_v 2) zah))))))))
theorem zfA:CM P w K mg base 8 (a 4) "take_in_number" ["self","byte","told"] (SpF a zaA):=
 zb5 (N:=["self","byte","told"]) (ps:=["self","byte","told"]) (k:=7) (b:=zbc) T.zCp zfv (zfH T)
theorem zjV:zaB P w K mg base a ["self","byte","told"] "Reader.take" zeF 8 zcd:=by
 have G_Reader_take_in_string:CM P w K mg base 5 (a 4) "take_in_string" ["self","byte","told"] (SpF a zaC):=zdW T
 have G_Reader_take_in_name:CM P w K mg base 5 (a 4) "take_in_name" ["self","byte","told"] (SpF a zau):=zef T
 have G_Reader_take_in_number:CM P w K mg base 8 (a 4) "take_in_number" ["self","byte","told"] (SpF a zaA):=zfA T
 have G_Reader_take_in_word:CM P w K mg base 1 (a 4) "take_in_word" ["self","byte","told"] (SpF a zas):=zee T
 have G_Reader_take_sign:CM P w K mg base 6 (a 4) "take_sign" ["self","byte","told"] (SpF a zan):=zeN T
 intro f cdv A outer s H E hr
 unfold zcd
 exact (zaa (zay (zbe (zaz 4 2 (q_v 0) rfl T.zzA T.zzE) (zbn T.zAG)) (zac (zad (zbm 4 G_Reader_take_in_string T.zzA (hr.mono (by decide)) (q_v 0) (zab (q_v 1) (zab (q_v 2) zah))))) zai) (zaa (zay (zbe (zaz 4 2 (q_v 0) rfl T.zzA T.zzE) (zbn T.zAF)) (zac (zad (zbm 4 G_Reader_take_in_name T.zzA (hr.mono (by decide)) (q_v 0) (zab (q_v 1) (zab (q_v 2) zah))))) zai) (zaa (zay (zbe (zaz 4 2 (q_v 0) rfl T.zzA T.zzE) (zbn T.zAq)) (zac (zad (zbm 4 G_Reader_take_in_number T.zzA (hr.mono (by decide)) (q_v 0) (zab (q_v 1) (zab (q_v 2) zah))))) zai) (zaa (zay (zbe (zaz 4 2 (q_v 0) rfl T.zzA T.zzE) (zbn T.zAH)) (zac (zad (zbm 4 G_Reader_take_in_word T.zzA (hr.mono (by decide)) (q_v 0) (zab (q_v 1) (zab (q_v 2) zah))))) zai) (zac (zad (zxR (zmR T (q_v 1)) (zlY (zbm 4 G_Reader_take_sign T.zzA (hr.mono (by decide)) (q_v 0) (zab (q_v 1) (zab (q_v 2) zah)))))))))))
theorem zjK:CM P w K mg base 9 (a 4) "take" ["self","byte","told"] (SpF a zav):=
 zb5 (N:=["self","byte","told"]) (ps:=["self","byte","told"]) (k:=8) (b:=zcd) T.zA9 zg8 (zjV T)
theorem zjT:zaB P w K mg base a ["self","piece","told","byte"] "Sifter.feed" zfV 9 zcD:=by
 have G_Reader_take:CM P w K mg base 9 (a 4) "take" ["self","byte","told"] (SpF a zav):=zjK T
 intro f cdv A outer s H E hr
 unfold zcD
 exact (zaa (zay (zlX (zdk zg9 (zaz 5 2 (q_v 0) rfl T.zzD T.zz6) (zeG T.eK T.zzF (q_v 1))) (zbn T.zBm)) (zac (zad (zdb (zab (zir zaj) zah)))) zai) (zaa (zay (zdn (zaz 5 3 (q_v 0) rfl T.zzD T.zzY)) (zac (zad (zdb (zab (zir zaj) zah)))) zai) (zaa (zbd (i:=2) sc_Sifter_feed.nd (zdb zah)) (zaa (ziW (i:=3) T.eK sc_Sifter_feed.nd (q_v 1) (zaa (zay (zfx (zdn (zbm 4 G_Reader_take T.zzA (hr.mono (by decide)) (zaz 5 1 (q_v 0) rfl T.zzD T.zzU) (zab (q_v 3) (zab (q_v 2) zah))))) (zaa (zax 5 3 (q_v 0) zhq T.zzD T.zzY) (zac (zad (znG (zdb (zab zaj zah)) (q_v 2))))) zai) (zac (zep 5 2 zk1 (q_v 0) zaj T.zzD T.zz6)))) (zac (zad (znG (zdb (zab zaj zah)) (q_v 2))))))))
theorem zjI:CM P w K mg base 10 (a 5) "feed" ["self","piece"] (SpF a zbl):=
 zb5 (N:=["self","piece","told","byte"]) (ps:=["self","piece"]) (k:=9) (b:=zcD) T.zCy sc_Sifter_feed (zjT T)
theorem zlK:zaB P w K mg base a ["sifter","call","number"] "answer_to" zhg 10 zbW:=by
 have G_Sifter_asked:CM P w K mg base 1 (a 5) "asked" ["self"] (SpF a zch):=zi7 T
 have G_check:CG P w K mg base 6 "check" ["path"] (SpF a zfl):=zqY T
 have G_Sifter_begin:CM P w K mg base 5 (a 5) "begin" ["self"] (SpF a zcg):=zi6 T
 have G_Sifter_ask:CM P w K mg base 6 (a 5) "ask" ["self","shut","path"] (SpF a zbv):=zku T
 have G_Sifter_drop:CM P w K mg base 4 (a 5) "drop" ["self","number"] (SpF a zb0):=zjJ T
 have G_Sifter_feed:CM P w K mg base 10 (a 5) "feed" ["self","piece"] (SpF a zbl):=zjI T
 have G_Sifter_end:CM P w K mg base 4 (a 5) "end" ["self"] (SpF a zbP):=zkt T
 have G_Sifter_place:CM P w K mg base 1 (a 5) "place" ["self"] (SpF a zce):=zi4 T
 have G_Sifter_depth:CM P w K mg base 1 (a 5) "depth" ["self"] (SpF a zcf):=zi5 T
 intro f cdv A outer s H E hr
 unfold zbW
 exact (zaa (zbd (i:=2) sc_answer_to.nd (zf2 T.eK (q_v 1) zaj (fun _ _=> rfl))) (zaa (zay (zbe (q_v 2) (zbn T.zAY)) (zac (zad (zcR G_check (hr.mono (by decide)) (zab (zs3 T.eK (q_v 1) zaj) zah)))) zai) (zaa (zay (zbe (q_v 2) (zbn T.zAZ)) (zac (zad (zb4 5 G_Sifter_begin T.zzD (hr.mono (by decide)) (q_v 0)))) zai) (zaa (zay (zbe (q_v 2) (zbn T.zA0)) (zac (zad (zbm 5 G_Sifter_ask T.zzD (hr.mono (by decide)) (q_v 0) (zab (zf2 T.eK (q_v 1) zaj (fun _ _=> rfl)) (zab (zs3 T.eK (q_v 1) zaj) zah))))) zai) (zaa (zay (zbe (q_v 2) (zbn T.zA1)) (zac (zad (zbm 5 G_Sifter_drop T.zzD (hr.mono (by decide)) (q_v 0) (zab (zf2 T.eK (q_v 1) zaj (fun _ _=> rfl)) zah)))) zai) (zaa (zay (zbe (q_v 2) (zbn T.zA2)) (zac (zad (zbm 5 G_Sifter_feed T.zzD (hr.mono (by decide)) (q_v 0) (zab (zs3 T.eK (q_v 1) zaj) zah)))) zai) (zaa (zay (zbe (q_v 2) (zbn T.zA3)) (zac (zad (zb4 5 G_Sifter_end T.zzD (hr.mono (by decide)) (q_v 0)))) zai) (zaa (zay (zbe (q_v 2) (zbn T.zA4)) (zac (zad (zb4 5 G_Sifter_place T.zzD (hr.mono (by decide)) (q_v 0)))) zai) (zaa (zay (zbe (q_v 2) (zbn T.zA5)) (zac (zad (zb4 5 G_Sifter_depth T.zzD (hr.mono (by decide)) (q_v 0)))) zai) (zac (zad (zb4 5 G_Sifter_asked T.zzD (hr.mono (by decide)) (q_v 0)))))))))))))
theorem zla:CG P w K mg base 11 "answer_to" ["sifter","call"] (SpF a zaP):=
 zfo (N:=["sifter","call","number"]) (ps:=["sifter","call"]) (k:=10) (b:=zbW) T.zCG sc_answer_to (zlK T)
theorem zol:zaB P w K mg base a ["calls","sifter","answered","at","end","answer"] "answers" ziU 11 zgF:=by
 have G_Sifter___init__:CC P w K mg base 5 (a 5) "Sifter" ["self"] (SpF a zbV):=zhB T
 have G_end_of_call:CG P w K mg base 1 "end_of_call" ["calls","at"] (SpF a zaV):=zjG T
 have G_answer_to:CG P w K mg base 11 "answer_to" ["sifter","call"] (SpF a zaP):=zla T
 intro f cdv A outer s H E hr
 unfold zgF
 exact (zaa (zbd (i:=1) sc_answers.nd (zii 5 G_Sifter___init__ (hr.mono (by decide)))) (zaa (zbd (i:=2) sc_answers.nd (zdb zah)) (zaa (zbd (i:=3) sc_answers.nd zaj) (zaa (zhz 100000 (zjD (q_v 3) (zeG T.eK T.zzF (q_v 0))) (zaa (zbd (i:=4) sc_answers.nd (zcR G_end_of_call (hr.mono (by decide)) (zab (q_v 0) (zab (q_v 3) zah)))) (zaa (zbd (i:=5) sc_answers.nd (zcR G_answer_to (hr.mono (by decide)) (zab (q_v 1) (zab (zs1 T.eK (q_v 0) (q_v 3) (q_v 4)) zah)))) (zaa (zda (zk2 (q_v 2) (zeG T.eK T.zzF (q_v 5)))) (zaa (zda (zlZ (q_v 2) (q_v 5))) (zac (zbd (i:=3) sc_answers.nd (q_v 4)))))))) (zac (zad (q_v 2)))))))
end TS
namespace TS
noncomputable section
open PySem PySem.Spec PyProof.Rows L2
section
variable {K:PySem.W.Frag}{h:Heap}{mg:Str->Option Value}{x m qual:Str}{st:Stmt}{ps:List Str}{C f:Addr}{od an:Option Addr}{sl:Array (Option Value)}{oc kV dc pm cd ct:Value}
theorem zi9(X:K.In h)(G:h.Ns mainGlobals mg)(a:PySem.W.nsIn K mainGlobals x=some (some (.ref f)))(l:K.lookup f=some ⟨oc,od,.func (PySem.W.fnOf x x (zfn st) (zew st) (zaf st) .none kV dc pm an cd ct),sl⟩)(c:PySem.W.codeIn K cd x=true)(k:PySem.W.keepIn K (.ref f)=true)
  (hb:∀(kV doc pm:Value) (an:Option Addr) (cdv ct:Value) (us:List Value),us.length=ps.length->bindArgs (PySem.W.fnOf x x (zfn st) (zew st) (zaf st) .none kV doc pm an cdv ct) ⟨us,[]⟩=pure (ps.zip us)):FG K mg x st ps:=
 ⟨f,_,zj8 l c k,PySem.W.mg_of X G a,(zj8 l c k).binds hb⟩
theorem zeC(a:PySem.W.findIn K (.ref C) m=some (some (.ref f)))(i:PySem.W.isFn K (.ref f)=true)(l:K.lookup f=some ⟨oc,od,.func (PySem.W.fnOf m qual (zfn st) (zew st) (zaf st) .none kV dc pm an cd ct),sl⟩)(c:PySem.W.codeIn K cd qual=true)(k:PySem.W.keepIn K (.ref f)=true)
  (hb:∀(kV doc pm:Value) (an:Option Addr) (cdv ct:Value) (us:List Value),us.length=ps.length->bindArgs (PySem.W.fnOf m qual (zfn st) (zew st) (zaf st) .none kV doc pm an cdv ct) ⟨us,[]⟩=pure (ps.zip us)):FM K C m qual st ps:=
 ⟨f,_,zj8 l c k,⟨a,i,k⟩,(zj8 l c k).binds hb⟩
theorem zuL(X:K.In h)(G:h.Ns mainGlobals mg)(aC:PySem.W.nsIn K mainGlobals x=some (some (.ref C)))(mk:PySem.W.makesIn K C=true)(kc:PySem.W.keepIn K (.ref C)=true)(a:PySem.W.findIn K (.ref C) "__init__"=some (some (.ref f)))(i:PySem.W.isFn K (.ref f)=true)(l:K.lookup f=some ⟨oc,od,.func (PySem.W.fnOf "__init__" qual (zfn st) (zew st) (zaf st) .none kV dc pm an cd ct),sl⟩)(c:PySem.W.codeIn K cd qual=true)(k:PySem.W.keepIn K (.ref f)=true)
  (hb:∀(kV doc pm:Value) (an:Option Addr) (cdv ct:Value) (us:List Value),us.length=ps.length->bindArgs (PySem.W.fnOf "__init__" qual (zfn st) (zew st) (zaf st) .none kV doc pm an cdv ct) ⟨us,[]⟩=pure (ps.zip us)):FC K mg C x qual st ps:=
 ⟨f,_,zj8 l c k,⟨mk,a,i,kc⟩,PySem.W.mg_of X G aC,(zj8 l c k).binds hb⟩
theorem zdx{n:Int}{t:Tok}(X:K.In h)(G:h.Ns mainGlobals mg)(a:PySem.W.nsIn K mainGlobals x=some (some (.int n t))):GI mg x n:=⟨t,PySem.W.mg_of X G a⟩
theorem zts(X:K.In h)(G:h.Ns mainGlobals mg)(a:PySem.W.nsIn K mainGlobals x=some none):mg x=none:=by
 obtain⟨o,es,ep,ho,hd,_,hf⟩:=G
 unfold PySem.W.nsIn at a
 split at a
 .rename_i c d es' n' sl q
  have:=X _ _ q
  rw[ho] at this
  cases this
  cases hd
  split at a
  .cases a
  .rename_i he
   rw[<- hf]
   unfold nsFind findBy
   rw[<- Array.find?_toList,he]
   rfl
 .cases a
end
def adOf(c0 c1 c2 c3 c4 c5 b6 b7 b8:Addr):Nat->Addr
 | 0=> c0
 | 1=> c1
 | 2=> c2
 | 3=> c3
 | 4=> c4
 | 5=> c5
 | 6=> b6
 | 7=> b7
 | _=> b8
def zsz:Prop:=∀ns:List Int,ns.length<=69000->(∀x∈ns,0<=x/\x<=16383)->PyWqaysf.answers_asked ns=true->
 ∃O' k,zgq [.ref 0] [.fz (ns.map FV.int)]=some (.ref k,O')/\O'[k]? =some (.lst ((PyWqaysf.answers ns).map FV.int))
def spAns(K:PySem.W.Frag):Sp:=fun vs H Q _=>∃(p:Addr) (ns:List Int),vs=[.ref p]/\((∃o,H p=some (.frz o (.lst (ns.map V.int))))\/KL K p (ns.map V.int))/\
 ns.length<=69000/\(∀x∈ns,0<=x/\x<=16383)/\PyWqaysf.answers_asked ns=true/\∀(H':Hp) (q:Addr),H' q=some (.lst ((PyWqaysf.answers ns).map V.int))->Q (.ref q) H'
theorem zkm{α:Al}:∀ns:List Int,RVs α (ns.map FV.int) (ns.map V.int)
 | []=> .nil
 | n::ns=> .cons rfl (zkm ns)
theorem zwM{a:Ad}(M:zsz){vs:List V}{H:Hp}{Q:VK}{E:XK}(h:spAns a.K vs H Q E):SpF a zgq vs H Q E:=by
 obtain⟨p,ns,rfl,hp,h1,h2,h3,k⟩:=h
 obtain⟨O',kx,e1,e2⟩:=M ns h1 h2 h3
 refine⟨[p],[.ref 0],[.fz (ns.map FV.int)],_,O',.cons ⟨p,rfl,rfl⟩ .nil,⟨rfl,fun i j q e e' n n'=> ?_,fun i o q e e'=> ?_⟩,e1,fun β H' v' pre R r=> ?_⟩
 .have h1:=(List.getElem?_eq_some_iff.mp e).1
  have h2:=(List.getElem?_eq_some_iff.mp e').1
  simp at h1 h2
  omega
 .have h1:=(List.getElem?_eq_some_iff.mp e').1
  simp at h1
  subst h1
  simp at e e'
  subst e e'
  exact⟨_,zkm ns,hp⟩
 .obtain⟨q,eq,rfl⟩:=r
  obtain⟨ys,ry,hy⟩:=R.here e2 eq
  rw[ry.inj (zkm _)] at hy
  exact k H' q hy
theorem fin_of{P:Program}{w:World}{K:PySem.W.Frag}{mg:Str->Option Value}{fa:Addr}{ad:Nat->Addr}(M:zsz)(T:Txt K mg ⟨ad,K⟩)(hfa:mg "answers"=some (.ref fa)):
  ∃fd:FuncData,(∀(s:Shared) (us:List Value),us.length=(["calls"]:List Str).length->BindsTo s fd ⟨us,[]⟩ ((["calls"]:List Str).zip us))/\∀base:Heap,K.In base->base.Ns mainGlobals mg->FnOk P w K mg base CX0 12 fa fd ["calls"] (spAns K):=by
 obtain⟨f,fd,F,hm,hB⟩:=T.zCE
 rw[hfa] at hm
 cases hm
 have hfd:=F.ex
 refine⟨fd,fun s us hl=> ?_,fun base _ _=> ?_⟩
 .obtain⟨oc,od,kV,doc,pm,an,cdv,ct,osl,rfl,_,_⟩:=hfd
  match us,hl with
  | [_],_=> exact .of_eq rfl
 .exact (zrj (N:=["calls","sifter","answered","at","end","answer"]) (ps:=["calls"]) (k:=11) (b:=zgF) F sc_answers (zol T)).imp fun vs H Q E h=> zwM (a:=⟨ad,K⟩) M h
end
end TS
namespace TS
noncomputable section
theorem zrV{α β:Type}{c:Prop}[Decidable c]{x y:Option α}{f:α->Option β}:(if c then x else y).bind f=if c then x.bind f else y.bind f:=by split <;> rfl
theorem zbN{α β:Type}{a:α}{f:α->Option β}:(some a).bind f=f a:=rfl
section
variable {σ:FS}{O:FH}{a b c:ME}{t u:MT}{s r:MS}{f:Int->Int->Option FV}{v:FV}{i k n N:Nat}{ma:MA}{mf:MF}{vs:List FV}
theorem zzs:eC v σ O=some (v,O):=rfl
theorem zyP:eV i σ O=match σ[i]? with | some (some v)=> some (v,O) | _=> none:=rfl
theorem zsw:eFld n k a σ O=(a σ O).bind fun p=> (fld p.2 p.1 n k).bind fun v=> some (v,p.2):=rfl
theorem zyB:eOp f a b σ O=(a σ O).bind fun p=> (b σ p.2).bind fun q=> (op2 f p.1 q.1).bind fun v=> some (v,q.2):=rfl
theorem zyv{x y:Int}:op2 f (.int x) (.int y)=f x y:=rfl
theorem zzt:eB t σ O=(t σ O).bind fun p=> some (.bl p.1,p.2):=rfl
theorem zw8:eNot a σ O=(a σ O).bind fun p=> (blOf p.1).bind fun b=> some (.bl (!b),p.2):=rfl
theorem zxh:eAnd a b σ O=(a σ O).bind fun p=> (blOf p.1).bind fun c=> if c=true then b σ p.2 else some (.bl false,p.2):=rfl
theorem zyA:eOr a b σ O=(a σ O).bind fun p=> (blOf p.1).bind fun c=> if c=true then some (.bl true,p.2) else b σ p.2:=rfl
theorem zyC:eIf t a b σ O=(t σ O).bind fun p=> if p.1=true then a σ p.2 else b σ p.2:=rfl
theorem zxj{x:Bool}:blOf (.bl x)=some x:=rfl
theorem zuv{x:Int}:intOf (.int x)=some x:=rfl
theorem zwT{g:Int->Int->Bool}:tCmp g a b σ O=(a σ O).bind fun p=> (b σ p.2).bind fun q=> match p.1,q.1 with | .int i,.int j=> some (g i j,q.2) | _,_=> none:=rfl
theorem zwQ{m:Int}:tLe3 m a b σ O=(a σ O).bind fun p=> (b σ p.2).bind fun q=> match p.1,q.1 with | .int i,.int j=> some (decide (i<=j/\j<=m),q.2) | _,_=> none:=rfl
theorem zun:tLe3F a b c σ O=(a σ O).bind fun p=> (b σ p.2).bind fun q=> (c σ q.2).bind fun r=> match p.1,q.1,r.1 with | .int i,.int j,.int k=> if r.2=q.2 then some (decide (i<=j/\j<=k),r.2) else none | _,_,_=> none:=rfl
theorem zys{ns:List Int}:tIn ns a σ O=(a σ O).bind fun p=> (intOf p.1).bind fun i=> some (ns.contains i,p.2):=rfl
theorem zwP{ns:List Int}:tNin ns a σ O=(a σ O).bind fun p=> (intOf p.1).bind fun i=> some (!ns.contains i,p.2):=rfl
theorem zwR:zmI a σ O=(a σ O).bind fun p=> some (decide (p.1= .non),p.2):=rfl
theorem zwN:tVal a σ O=(a σ O).bind fun p=> (blOf p.1).bind fun b=> some (b,p.2):=rfl
theorem zwO:zkR t σ O=(t σ O).bind fun p=> some (!p.1,p.2):=rfl
theorem zwU:ziy t u σ O=(t σ O).bind fun p=> if p.1=true then u σ p.2 else some (false,p.2):=rfl
theorem zyr:tOr t u σ O=(t σ O).bind fun p=> if p.1=true then some (true,p.2) else u σ p.2:=rfl
theorem zxk:aNil σ O=some ([],O):=rfl
theorem zuG:aCons a ma σ O=(a σ O).bind fun p=> (ma σ p.2).bind fun q=> some (p.1::q.1,q.2):=rfl
theorem zuF:eCall mf ma σ O=(ma σ O).bind fun p=> mf p.1 p.2:=rfl
theorem zuA:eMeth n mf a ma σ O=(a σ O).bind fun p=> if insAt p.2 p.1 n=true then (ma σ p.2).bind fun q=> mf (p.1::q.1) q.2 else none:=rfl
theorem zyt:sNx σ O=some (.nx σ,O):=rfl
theorem zp9:sSeq s r σ O=(s σ O).bind fun p=> match p.1 with | .nx σ'=> r σ' p.2 | .rt v=> some (.rt v,p.2):=rfl
theorem zyu:sIf t s r σ O=(t σ O).bind fun p=> if p.1=true then s σ p.2 else r σ p.2:=rfl
theorem zwW:sRet a σ O=(a σ O).bind fun p=> some (.rt p.1,p.2):=rfl
theorem zwV:sSet i a σ O=(a σ O).bind fun p=> some (.nx (σ.set i (some p.1)),p.2):=rfl
theorem zwY:sEx a σ O=(a σ O).bind fun p=> some (.nx σ,p.2):=rfl
theorem zr0:sNever σ O=none:=rfl
theorem zw1:mFn n N s vs O=if vs.length=n then (s (vs.map some ++ List.replicate (N - n) none) O).bind fun p=> match p.1 with | .nx _=> some (.non,p.2) | .rt v=> some (v,p.2) else none:=rfl
theorem zup:sRetN σ O=some (.rt .non,O):=rfl
theorem zwZ:sAug i f a σ O=(eV i σ O).bind fun p=> (a σ p.2).bind fun q=> (op2 f p.1 q.1).bind fun v=> some (.nx (σ.set i (some v)),q.2):=rfl
theorem zw2:fld O (.ref i) n k=match O[i]? with | some (.ins c' vs)=> if c'=n then vs[k]? else none | _=> none:=rfl
theorem zw0{x:FV}:putF O (.ref i) n k x=match O[i]? with | some (.ins c' vs)=> if c'=n then (if k < vs.length then some (O.set i (.ins n (vs.set k x))) else if k=vs.length then some (O.set i (.ins n (vs ++ [x]))) else none) else none | _=> none:=rfl
theorem zwX:zco n k a b σ O=(b σ O).bind fun p=> (a σ p.2).bind fun q=> (putF q.2 q.1 n k p.1).bind fun O'=> some (.nx σ,O'):=rfl
theorem zqa:zdU n k f a b σ O=(a σ O).bind fun p=> (fld p.2 p.1 n k).bind fun x=> (b σ p.2).bind fun q=> (op2 f x q.1).bind fun y=> (putF q.2 p.1 n k y).bind fun O'=> some (.nx σ,O'):=rfl
theorem zuw:insAt O (.ref i) n=match O[i]? with | some (.ins c' _)=> decide (c'=n) | _=> false:=rfl
theorem zfr:lstAt O (.ref i)=match O[i]? with | some (.lst xs)=> some xs | some (.fz xs)=> some xs | _=> none:=rfl
theorem zqb:mutAt O (.ref i)=match O[i]? with | some (.lst xs)=> some xs | _=> none:=rfl
theorem zum:tupAt O (.ref i)=match O[i]? with | some (.tup xs)=> some xs | _=> none:=rfl
theorem zyD:dAt O (.ref i)=match O[i]? with | some (.dK xs)=> some xs | _=> none:=rfl
theorem zyx:nAt O (.ref i)=match O[i]? with | some (.dN xs)=> some xs | _=> none:=rfl
theorem zsx:eApp a b σ O=(a σ O).bind fun p=> (mutAt p.2 p.1).bind fun _=> (b σ p.2).bind fun q=> match p.1 with | .ref i=> (mutAt q.2 p.1).bind fun xs=> if xs.length < LIM then some (.non,q.2.set i (.lst (xs ++ [q.1]))) else none | _=> none:=rfl
theorem zxe:eExt a b σ O=(a σ O).bind fun p=> (mutAt p.2 p.1).bind fun _=> (b σ p.2).bind fun q=> match p.1 with | .ref i=> (mutAt q.2 p.1).bind fun xs=> (mutAt q.2 q.1).bind fun ys=> if xs.length + ys.length<=LIM then some (.non,q.2.set i (.lst (xs ++ ys))) else none | _=> none:=rfl
theorem zw6:ePop a σ O=(a σ O).bind fun p=> match p.1 with | .ref i=> (mutAt p.2 p.1).bind fun xs=> (xs.getLast?).bind fun y=> some (y,p.2.set i (.lst xs.dropLast)) | _=> none:=rfl
theorem zxg:eCat a b σ O=(a σ O).bind fun p=> (b σ p.2).bind fun q=> (mutAt q.2 p.1).bind fun xs=> (mutAt q.2 q.1).bind fun ys=> if xs.length + ys.length<=LIM then some (new q.2 (.lst (xs ++ ys))) else none:=rfl
theorem zyw{o:FO}:new O o=(.ref O.length,O ++ [o]):=rfl
theorem zw9:eLst ma σ O=(ma σ O).bind fun p=> if p.1.length<=LIM then some (new p.2 (.lst p.1)) else none:=rfl
theorem zw3:eTup ma σ O=(ma σ O).bind fun p=> if p.1.length<=LIM then some (new p.2 (.tup p.1)) else none:=rfl
theorem zr1:eTupOf a σ O=(a σ O).bind fun p=> (lstAt p.2 p.1).bind fun xs=> some (new p.2 (.tup xs)):=rfl
theorem zxa:eLen a σ O=(a σ O).bind fun p=> (lstAt p.2 p.1).bind fun xs=> some (.int xs.length,p.2):=rfl
theorem zxd:eIxL a b σ O=(a σ O).bind fun p=> (b σ p.2).bind fun q=> (ixL q.2 p.1 q.1).bind fun v=> some (v,q.2):=rfl
theorem zyz{m:Int}:ixL O v (.int m)=(lstAt O v).bind fun xs=> atF xs m:=rfl
theorem zxb:eIxT a b σ O=(a σ O).bind fun p=> (b σ p.2).bind fun q=> (ixT q.2 p.1 q.1).bind fun v=> some (v,q.2):=rfl
theorem zyy{m:Int}:ixT O v (.int m)=(tupAt O v).bind fun xs=> atF xs m:=rfl
theorem zw5:eSl1 a b σ O=(a σ O).bind fun p=> (b σ p.2).bind fun q=> (lstAt q.2 p.1).bind fun xs=> (slc1 xs q.1).bind fun ys=> some (new q.2 (.lst ys)):=rfl
theorem zw4:eSl2 a b c σ O=(a σ O).bind fun p=> (b σ p.2).bind fun q=> (c σ q.2).bind fun r=> (lstAt r.2 p.1).bind fun xs=> (slc2 xs q.1 r.1).bind fun ys=> some (new r.2 (.lst ys)):=rfl
theorem zsv:eNew n mf ma σ O=(ma σ O).bind fun p=> (mf (.ref p.2.length::p.1) (p.2 ++ [.ins n []])).bind fun q=> if q.1= .non then some (.ref p.2.length,q.2) else none:=rfl
theorem zxf:eEsc a σ O=(a σ O).bind fun p=> (escAt p.1).bind fun v=> some (v,p.2):=rfl
theorem zp8:tNescIn a σ O=(a σ O).bind fun p=> (escIn p.1).bind fun b=> some (!b,p.2):=rfl
theorem zux:eWord a σ O=(a σ O).bind fun p=> (wordAt p.1).bind fun v=> some (v,p.2):=rfl
theorem zxc:eIxS a b σ O=(a σ O).bind fun p=> (b σ p.2).bind fun q=> (ixS p.1 q.1).bind fun v=> some (v,q.2):=rfl
theorem zw7:eOrd a σ O=(a σ O).bind fun p=> (ordS p.1).bind fun v=> some (v,p.2):=rfl
theorem zuB:eLenS a σ O=(a σ O).bind fun p=> (lenS p.1).bind fun v=> some (v,p.2):=rfl
theorem zuD:eDNew σ O=some (new O (.dK [])):=rfl
theorem zuy:eNNew σ O=some (new O (.dN [])):=rfl
theorem zuE:eDGet a b σ O=(a σ O).bind fun p=> (b σ p.2).bind fun q=> (dAt q.2 p.1).bind fun kvs=> (intOf q.1).bind fun k=> (getD k kvs).bind fun v=> some (v,q.2):=rfl
theorem zuC:eDPop a b σ O=(a σ O).bind fun p=> (dAt p.2 p.1).bind fun _=> (b σ p.2).bind fun q=> match p.1 with | .ref i=> (dAt q.2 p.1).bind fun kvs=> (intOf q.1).bind fun k=> (getD k kvs).bind fun v=> some (v,q.2.set i (.dK (delD k kvs))) | _=> none:=rfl
theorem zwS:tDin a b σ O=(a σ O).bind fun p=> (b σ p.2).bind fun q=> (dAt q.2 q.1).bind fun kvs=> (intOf p.1).bind fun k=> some ((getD k kvs).isSome,q.2):=rfl
theorem zuo:tDnin a b σ O=(a σ O).bind fun p=> (b σ p.2).bind fun q=> (dAt q.2 q.1).bind fun kvs=> (intOf p.1).bind fun k=> some (!(getD k kvs).isSome,q.2):=rfl
theorem zuz:eNGet a b c σ O=(a σ O).bind fun p=> (nAt p.2 p.1).bind fun _=> (b σ p.2).bind fun q=> (c σ q.2).bind fun r=> (nAt r.2 p.1).bind fun kvs=> (keyOf r.2 q.1).bind fun k=> some ((getD k kvs).getD r.1,r.2):=rfl
theorem zr2:eSortD a σ O=(a σ O).bind fun p=> (dAt p.2 p.1).bind fun kvs=> if okKeys kvs=true then some (new p.2 (.lst (keys16 kvs))) else none:=rfl
theorem zut:sDput a b c σ O=(c σ O).bind fun p=> (a σ p.2).bind fun q=> (b σ q.2).bind fun r=> match q.1 with | .ref i=> (dAt r.2 q.1).bind fun kvs=> (intOf r.1).bind fun n=> if kvs.length < LIM then some (.nx σ,r.2.set i (.dK (putD n p.1 kvs))) else none | _=> none:=rfl
theorem zuq:sNput a b c σ O=(c σ O).bind fun p=> (a σ p.2).bind fun q=> (b σ q.2).bind fun r=> match q.1 with | .ref i=> (nAt r.2 q.1).bind fun kvs=> (keyOf r.2 r.1).bind fun n=> if kvs.length < LIM then some (.nx σ,r.2.set i (.dN (putD n p.1 kvs))) else none | _=> none:=rfl
theorem zuu:sAugS f a b c σ O=(a σ O).bind fun p=> (b σ p.2).bind fun q=> match p.1,q.1 with | .ref n,.int j=> if 0<=j then (mutAt q.2 p.1).bind fun xs=> (xs[j.toNat]?).bind fun x=> (c σ q.2).bind fun r=> if r.2=q.2 then (op2 f x r.1).bind fun y=> some (.nx σ,r.2.set n (.lst (xs.set j.toNat y))) else none else none | _,_=> none:=rfl
theorem zus:sForL i a s σ O=(a σ O).bind fun p=> (lstAt p.2 p.1).bind fun xs=> loopL i s p.1 xs xs σ p.2:=rfl
theorem zur:sForR i n s σ O=loopR i s 0 n σ O:=rfl
theorem zrZ:sWhile n t s σ O=loopW t s n σ O:=rfl
theorem zxi:eAll mf a σ O=(a σ O).bind fun p=> (lstAt p.2 p.1).bind fun xs=> (lcM mf p.1 p.2.length xs xs (p.2 ++ [.lst []])).bind fun O'=> (mutAt O' (.ref p.2.length)).bind fun ys=> (ys.mapM blOf).bind fun bs=> some (.bl (bs.all id),O'):=rfl
theorem zzi:(0<=LIM)=True:=eq_true (by decide)
theorem zzh:(1<=LIM)=True:=eq_true (by decide)
theorem zzg:(2<=LIM)=True:=eq_true (by decide)
theorem zzf:(3<=LIM)=True:=eq_true (by decide)
theorem zze:(4<=LIM)=True:=eq_true (by decide)
theorem za7{x:FO}(h:i < O.length):(O.set i x)[i]? =some x:=List.getElem?_set_self h
theorem zaR{x:FO}(h:i≠k):(O.set i x)[k]? =O[k]?:=List.getElem?_set_ne h
theorem za8{x:FO}(h:i < O.length):(O ++ [x])[i]? =O[i]?:=List.getElem?_append_left h
theorem zaO{x:FO}(h:k=O.length):(O ++ [x])[k]? =some x:=by subst h; simp
theorem zhb{x:FO}:(O ++ [x]).length=O.length + 1:=by simp
theorem ze8{x:FO}:(O.set i x).length=O.length:=List.length_set
end
local macro_rules | `(tactic| walk_at "ev")=> `(tactic| simp only[zrV,zbN,Option.bind_none,zzs,zyP,zsw,zyB,zyv,zzt,zw8,zxh,zyA,zyC,zxj,zuv,zwT,zwQ,zun,zys,zwP,zwR,zwN,zwO,zwU,zyr,zxk,zuG,zuF,zuA,zyt,zp9,zyu,zwW,zwV,zwY,zr0,zw1,zup,zwZ,zw2,zw0,zwX,zqa,zuw,zfr,zqb,zum,zyD,zyx,zsx,zxe,zw6,zxg,zyw,zw9,zw3,zr1,zxa,zxd,zyz,zxb,zyy,zw5,zw4,zsv,zxf,zp8,zux,zxc,zw7,zuB,zuD,zuy,zuE,zuC,zwS,zuo,zuz,zr2,zut,zuq,zuu,zus,zur,zrZ,zxi,iAdd,iSub,iDiv,iMod,iMulR,iMulL,Int.reducePow,cEq,cNe,cLt,cLe,cGt,cGe,List.length_cons,List.length_nil,List.map_cons,List.map_nil,List.replicate,List.cons_append,List.nil_append,List.append_nil,List.set_cons_zero,List.set_cons_succ,List.getElem?_cons_zero,List.getElem?_cons_succ,Nat.reduceAdd,Nat.reduceSub,Nat.reduceEqDiff,Nat.reduceLT,Nat.reduceLeDiff,Int.reduceEq,Int.reduceLE,Int.reduceLT,Int.reduceNeg,Int.reduceAdd,Int.reduceSub,if_true,if_false,decide_eq_true_eq,Bool.not_eq_true',decide_eq_false_iff_not,Bool.not_true,Bool.not_false,reduceIte,reduceCtorEq,Bool.false_eq_true,decide_true,decide_false,Nat.zero_add,Nat.lt_irrefl,Nat.zero_lt_succ,ze8,zhb,List.set_set,zzi,zzh,zzg,zzf,zze,true_and,and_true,and_self,false_and,and_false])
local macro_rules | `(tactic| walk_at "evh")=> do
 let some t <- Lean.Macro.expandMacro? (<- `(tactic| walk_at "ev")) | Lean.Macro.throwUnsupported
 match t with
 | `(tactic| simp only[$a,*])=> `(tactic| simp only[$a,*,za7,zaR,za8,zaO,ne_eq,not_false_eq_true, *])
 | _=> Lean.Macro.throwUnsupported
theorem zyc{α:Type}{p q:Prop}[Decidable p][Decidable q]{x y:α}:(if p/\q then x else y)=if p then (if q then x else y) else y:=by
 by_cases h:p <;> by_cases h':q <;> simp[h,h']
def oI:Option Int->FV
 | none=> .non
 | some i=> .int i
def zl9(b:Int):Bool:=decide (48<=b/\b<=57)
theorem zh9(b:Int)(O:FH):zcm [.int b] O=some (.bl (zl9 b),O):=by
 unfold zcm zfN; walk_at "ev"; rfl
def znC(st b:Int):Option Int:=
 if [0,1].contains st=true then (if b=48 then some 2 else some 3) else if st=2 then none else if st=3 then some 3 else if [4,5].contains st=true then some 5 else some 8
theorem zgY(st b:Int)(O:FH):zb6 [.int st,.int b] O=some (oI (znC st b),O):=by
 unfold zb6 zb7; walk_at "ev"
 unfold znC; repeat' split
 all_goals rfl
def zkX(st b:Int):Option Int:=
 if zl9 b=true then znC st b else if b=45/\st=0 then some 1 else if b=46/\[2,3].contains st=true then some 4
 else if [69,101].contains b=true/\[2,3,5].contains st=true then some 6 else if [43,45].contains b=true/\st=6 then some 7 else none
theorem zjM(st b:Int)(O:FH):zdz [.int st,.int b] O=some (oI (zkX st b),O):=by
 unfold zdz zdD; walk_at "ev"
 simp only[zh9,zgY]
 walk_at "ev"
 unfold zkX
 simp only[zyc]
 repeat' split
 all_goals first | rfl | contradiction
def zuM(st:Int):Bool:=[2,3,5,8].contains st
theorem zke(st:Int)(O:FH):zem [.int st] O=some (.bl (zuM st),O):=by
 unfold zem zfM; walk_at "ev"; rfl
def zsi(b:Int):Option Int:=if zl9 b=true then some (b - 48) else if 65<=b/\b<=70 then some (b - 55) else if 97<=b/\b<=102 then some (b - 87) else none
theorem zfa(b:Int)(O:FH):zcB [.int b] O=some (oI (zsi b),O):=by
 unfold zcB zcC; walk_at "ev"
 simp only[zh9]
 walk_at "ev"
 unfold zsi; repeat' split
 all_goals rfl
def zss(b:Int):Int:=if 194<=b/\b<=223 then 1 else if 224<=b/\b<=239 then 2 else if 240<=b/\b<=244 then 3 else 0
theorem zjP(b:Int)(O:FH):zdB [.int b] O=some (.int (zss b),O):=by
 unfold zdB zdF; walk_at "ev"
 unfold zss; repeat' split
 all_goals rfl
def zj3(b:Int):Int:=if b=224 then 160 else if b=240 then 144 else 128
theorem zjN(b:Int)(O:FH):zdA [.int b] O=some (.int (zj3 b),O):=by
 unfold zdA zdE; walk_at "ev"
 unfold zj3; repeat' split
 all_goals rfl
def znO(b:Int):Int:=if b=237 then 159 else if b=244 then 143 else 191
theorem zia(b:Int)(O:FH):zcT [.int b] O=some (.int (znO b),O):=by
 unfold zcT zcU; walk_at "ev"
 unfold znO; repeat' split
 all_goals rfl
def zqj(v c f:Int):Bool:=if f=0 then !(decide (c=2) && decide (220<=v/\v<=223)) else if c=1 then decide (v=13) else decide (220<=v)
theorem zhL(v c f:Int)(O:FH):zea [.int v,.int c,.int f] O=some (.bl (zqj v c f),O):=by
 unfold zea zed; walk_at "ev"
 unfold zqj
 by_cases h1:f=0 <;> by_cases h2:c=2 <;> by_cases h3:c=1 <;> simp_all
def zuH(c:Int):List Int:=if c < 128 then [c] else if c < 2048 then [192 + c / 64,128 + c % 64] else if c < 65536 then [224 + c / 4096,128 + c / 64 % 64,128 + c % 64] else [240 + c / 262144,128 + c / 4096 % 64,128 + c / 64 % 64,128 + c % 64]
theorem zly(c:Int)(O:FH):zgp [.int c] O=some (.ref O.length,O ++ [.lst ((zuH c).map .int)]):=by
 unfold zgp zgD; walk_at "ev"
 unfold zuH
 repeat' split
 all_goals first | rfl | contradiction
theorem ct(c:Nat):∀l:List Nat,(l.map fun n:Nat=> (n:Int)).contains (c:Int)=l.contains c
 | []=> rfl
 | a::l=> by
  have e:((c:Int)==(a:Int))=(c==a):=by rw[Bool.eq_iff_iff,beq_iff_eq,beq_iff_eq]; exact Int.ofNat_inj
  rw[List.map_cons,List.contains_cons,List.contains_cons,ct c l,e]
def Fr(O O':FH)(S:List Nat):Prop:=O.length<=O'.length/\∀j,j < O.length->j∉S->O'[j]? =O[j]?
theorem Fr.refl{O:FH}{S:List Nat}:Fr O O S:=⟨Nat.le_refl _,fun _ _ _=> rfl⟩
theorem Fr.trans{O O1 O2:FH}{S T:List Nat}(h:Fr O O1 S)(h':Fr O1 O2 T)(hT:∀j,j < O.length->j∈T->j∈S):Fr O O2 S:=
 ⟨Nat.le_trans h.1 h'.1,fun j hj hn=> (h'.2 j (Nat.lt_of_lt_of_le hj h.1) fun z=> hn (hT j hj z)).trans (h.2 j hj hn)⟩
theorem Fr.set{O:FH}{S:List Nat}{i:Nat}{x:FO}(h:i∈S):Fr O (O.set i x) S:=⟨by simp,fun j _ hn=> List.getElem?_set_ne (by rintro rfl; exact hn h)⟩
theorem Fr.new{O:FH}{S:List Nat}{x:FO}:Fr O (O ++ [x]) S:=⟨by simp,fun j hj _=> List.getElem?_append_left hj⟩
theorem Fr.mono{O O':FH}{S T:List Nat}(h:Fr O O' S)(hs:∀j∈S,j∈T):Fr O O' T:=⟨h.1,fun j hj hn=> h.2 j hj fun z=> hn (hs j z)⟩
theorem Fr.get{O O':FH}{S:List Nat}{i:Nat}{o:FO}(h:Fr O O' S)(e:O[i]? =some o)(hn:i∉S):O'[i]? =some o:=(h.2 i (List.getElem?_eq_some_iff.mp e).1 hn).trans e
theorem zaq{O:FH}{i:Nat}{o:FO}(e:O[i]? =some o):i < O.length:=(List.getElem?_eq_some_iff.mp e).1
theorem zaU{O:FH}{i j:Nat}{o u:FO}(e:O[i]? =some o)(e':O[j]? =some u)(h:o≠u):i≠j:=by rintro rfl; rw[e] at e'; exact h (Option.some.inj e')
def fI(l:List Nat):List FV:=l.map fun (n:Nat)=> FV.int (n:Int)
theorem zcx(l:List Nat):(fI l).length=l.length:=by simp[fI]
theorem zhK(l r:List Nat):fI (l ++ r)=fI l ++ fI r:=by simp[fI]
theorem zlw{O:FH}{nu fg:Nat}{st:Int}(h1:O[nu]? =some (.ins 1 [.int st,.ref fg])):zaE [.ref nu] O=some (.bl (zuM st),O):=by
 have E1:=zke
 unfold zaE zbT
 walk_at "evh"
theorem zkd{O:FH}{nu fg:Nat}{st:Int}{buf:List Nat}{c:Nat}(h1:O[nu]? =some (.ins 1 [.int st,.ref fg]))(h2:O[fg]? =some (.lst (fI buf)))(hl:buf.length<=64):
  zaH [.ref nu,.int c] O=match zkX st c with
   | none=> some (.bl false,O)
   | some st'=> if 64 < buf.length + (if zuM st'=true then 1 else 2) then some (.bl false,O) else some (.bl true,(O.set nu (.ins 1 [.int st',.ref fg])).set fg (.lst (fI (buf ++ [c])))):=by
 have hne:nu≠fg:=zaU h1 h2 (by simp)
 have hne':=hne.symm
 have l1:=zaq h1
 have l2:=zaq h2
 have hL:(fI buf).length < LIM:=by rw[zcx]; unfold LIM; omega
 have E1:=zke
 have E2:=zjM
 unfold zaH zcu
 cases hs:zkX st c with
 | none=> walk_at "evh"; simp only[oI]; walk_at "evh"
 | some st'=>
  walk_at "evh"
  simp only[oI]
  walk_at "evh"
  rw[zcx]
  by_cases hw:zuM st'=true
  .simp only[hw]
   walk_at "evh"
   by_cases hb:64 < buf.length + 1
   .rw[if_pos (by omega),if_pos hb]
   .rw[if_neg (by omega),if_neg hb,zhK]; rfl
  .simp only[Bool.not_eq_true] at hw
   simp only[hw]
   walk_at "evh"
   by_cases hb:64 < buf.length + 2
   .rw[if_pos (by omega),if_pos hb]
   .rw[if_neg (by omega),if_neg hb,zhK]; rfl
open Sf
abbrev zyF(z:Sub)(fs:List FV)(sg mi le gr va di fi:Int):Prop:=fs=[.int sg,.int mi,.int le,.int gr,.int va,.int di,.int fi]/\match z with
 | .plain=> sg=0/\fi=0
 | .esc=> sg=2/\fi=0
 | .hex n v none=> sg=3/\va=(v:Int)/\di=(n:Int)/\fi=0/\n<=3
 | .hex n v (some h)=> sg=3/\va=(v:Int)/\di=(n:Int)/\fi=(h:Int)/\n<=3/\55296<=h/\h<=56319/\(n=0->v=0)/\(n=1->v=13)/\(n=2->220<=v/\v<=223)/\(n=3->3520<=v/\v<=3583)
 | .slash h=> sg=4/\fi=(h:Int)/\55296<=h/\h<=56319
 | .letter h=> sg=5/\fi=(h:Int)/\55296<=h/\h<=56319
 | .more l lo hi=> sg=1/\mi=(l:Int)/\le=(lo:Int)/\gr=(hi:Int)/\fi=0/\1<=l
def zqk(z:Sub)(fs:List FV):Prop:=∃sg mi le gr va di fi:Int,zyF z fs sg mi le gr va di fi
structure SkB (O:FH) (st ch:Nat) (buf bs:List Nat) (z':Sub) (m:Option (FV×FH)) (O':FH) (fs':List FV):Prop where
 x1:m=some (.int 0,O')
 x2:O'[st]? =some (.ins 3 (.ref ch::fs'))
 x3:O'[ch]? =some (.lst (fI (buf ++ bs)))
 x4:zqk z' fs'
 x5:Fr O O' [st,ch]
def zdc(O:FH)(st ch:Nat)(buf:List Nat)(z:Sub)(c:Nat)(m:Option (FV×FH)):Prop:=
 if z= .plain/\c=34 then m=some (.int 1,O) else match subTake z c with
  | none=> m=some (.int 2,O)
  | some (z',bs)=>∃O' fs',SkB O st ch buf bs z' m O' fs'
theorem ziw(n:Nat):(zuH (n:Int)).map FV.int=fI (utf8 n):=by
 unfold zuH utf8
 by_cases h1:n < 128
 .rw[if_pos (by omega),if_pos h1]; rfl
 .rw[if_neg (by omega),if_neg h1]
  by_cases h2:n < 2048
  .rw[if_pos (by omega),if_pos h2]; rfl
  .rw[if_neg (by omega),if_neg h2]
   by_cases h3:n < 65536
   .rw[if_pos (by omega),if_pos h3]; rfl
   .rw[if_neg (by omega),if_neg h3]; rfl
theorem zix(n:Nat):(utf8 n).length<=4:=by unfold utf8; (repeat' split); all_goals simp
section
variable {O:FH}{st ch:Nat}{buf:List Nat}{fs:List FV}
theorem zsN{n lo hi c:Nat}:subTake (.more n lo hi) c=if lo<=c/\c<=hi then some (if n=1 then .plain else .more (n - 1) 128 191,[c]) else none:=rfl
theorem zu2{c:Nat}:subTake .esc c=if c=117 then some (.hex 0 0 none,[]) else (shortOf c).map fun (x:Nat)=> (.plain,[x]):=rfl
theorem zqy{h c:Nat}:subTake (.slash h) c=if c=92 then some (.letter h,[]) else none:=rfl
theorem zoE{h c:Nat}:subTake (.letter h) c=if c=117 then some (.hex 0 0 (some h),[]) else none:=rfl
theorem zpj{c:Nat}(h:128<=c):subTake .plain c=if zss c=0 then none else some (.more (zss c).toNat (zj3 c).toNat (znO c).toNat,[c]):=by
 have e1:¬c=92:=by omega
 have e2:¬c < 32:=by omega
 have e3:¬c < 128:=by omega
 unfold subTake zss zj3 znO
 simp only[e1,e2,e3,if_false]
 by_cases a1:194<=c/\c<=223
 .have z1:(194:Int)<=c/\(c:Int)<=223:=by omega
  have z2:¬(c:Int)=224:=by omega
  have z3:¬(c:Int)=240:=by omega
  have z4:¬(c:Int)=237:=by omega
  have z5:¬(c:Int)=244:=by omega
  simp[a1,z1,z2,z3,z4,z5]
 .have z1:¬((194:Int)<=c/\(c:Int)<=223):=by omega
  simp only[a1,z1,if_false]
  by_cases a2:224<=c/\c<=239
  .have z2:(224:Int)<=c/\(c:Int)<=239:=by omega
   have z3:¬(c:Int)=240:=by omega
   have z5:¬(c:Int)=244:=by omega
   have y3:¬c=240:=by omega
   have y5:¬c=244:=by omega
   by_cases b1:c=224
   .subst b1; simp
   .by_cases b2:c=237
    .subst b2; simp
    .have b1':¬(c:Int)=224:=by omega
     have b2':¬(c:Int)=237:=by omega
     have b3:225<=c/\c<=239:=by omega
     simp[b1,b2,b1',b2',b3,z2,z3,z5]
  .have z2:¬((224:Int)<=c/\(c:Int)<=239):=by omega
   have y1:¬c=224:=by omega
   have y2:¬c=237:=by omega
   have y3:¬(225<=c/\c<=239):=by omega
   have y4:¬(c:Int)=224:=by omega
   have y5:¬(c:Int)=237:=by omega
   simp only[z2,y1,y2,y3,y4,y5,if_false]
   by_cases b1:c=240
   .subst b1; simp
   .by_cases b2:c=244
    .subst b2; simp
    .have b1':¬(c:Int)=240:=by omega
     have b2':¬(c:Int)=244:=by omega
     by_cases b3:241<=c/\c<=243
     .have b4:(240:Int)<=c/\(c:Int)<=244:=by omega
      simp[b1,b2,b1',b2',b3,b4]
     .have b4:¬((240:Int)<=c/\(c:Int)<=244):=by omega
      simp only[b1,b2,b3,b4,if_false]
      simp
theorem zug(c:Int):0<=zss c:=by unfold zss; (repeat' split); all_goals omega
theorem zpi(c:Int):0<=zj3 c:=by unfold zj3; (repeat' split); all_goals omega
theorem zq2(c:Int):0<=znO c:=by unfold znO; (repeat' split); all_goals omega
theorem fr2{X Y:FO}:Fr O ((O.set st X).set ch Y) [st,ch]:=(Fr.set (by simp)).trans (T:=[st,ch]) (Fr.set (by simp)) fun _ _ h=> h
theorem zyL{O:FH}{X Y:FO}:Fr O ((O.set ch X).set st Y) [st,ch]:=(Fr.set (by simp)).trans (T:=[st,ch]) (Fr.set (by simp)) fun _ _ h=> h
theorem zoB{c:Nat}(h1:O[st]? =some (.ins 3 (.ref ch::fs)))(h2:O[ch]? =some (.lst (fI buf)))(hl:buf.length + 4<=LIM)(hr:zqk .plain fs):zdc O st ch buf .plain c (zag [.ref st,.int c] O):=by
 obtain⟨sg,mi,le,gr,va,di,fi,rfl,rfl,rfl⟩:=hr
 have hne:st≠ch:=zaU h1 h2 (by simp)
 have hne':=hne.symm
 have l1:=zaq h1
 have l2:=zaq h2
 have hL:(fI buf).length < LIM:=by rw[zcx]; omega
 have E1:=zjP
 have E2:=zjN
 have E3:=zia
 unfold zag zaT zbZ zbz zb2 zbE
 walk_at "evh"
 unfold zdc
 by_cases c1:c=34
 .subst c1
  rw[if_pos ⟨rfl,rfl⟩]
  rfl
 .rw[if_neg fun z=> c1 z.2,if_neg (by omega)]
  by_cases c2:c=92
  .subst c2
   exact⟨_,_,rfl,za7 l1,by rw[zaR hne,h2,List.append_nil],⟨_,_,_,_,_,_,_,rfl,rfl,rfl⟩,Fr.set (by simp)⟩
  .rw[if_neg (by omega)]
   by_cases c3:c < 32
   .rw[if_pos (by omega)]
    simp only[subTake,c2,c3,if_true,if_false]
   .rw[if_neg (by omega)]
    by_cases c4:c < 128
    .rw[if_neg (by omega)]
     simp only[subTake,c2,c3,c4,if_true,if_false]
     exact⟨_,_,rfl,by rw[zaR hne',h1],by rw[za7 l2,zhK]; rfl,⟨_,_,_,_,_,_,_,rfl,rfl,rfl⟩,Fr.set (by simp)⟩
    .rw[if_pos (by omega),zpj (by omega)]
     by_cases c5:zss c=0
     .rw[if_pos c5,if_pos c5]
     .rw[if_neg c5,if_neg c5]
      have n1:=zug c
      have n2:=zpi c
      have n3:=zq2 c
      exact⟨_,_,rfl,by rw[zaR hne',za7 l1],by rw[za7 (by rw[ze8]; exact l2),zhK]; rfl,⟨_,_,_,_,_,_,_,rfl,rfl,by omega,by omega,by omega,rfl,by omega⟩,fr2⟩
theorem zqu{l lo hi c:Nat}(h1:O[st]? =some (.ins 3 (.ref ch::fs)))(h2:O[ch]? =some (.lst (fI buf)))(hl:buf.length + 4<=LIM)(hr:zqk (.more l lo hi) fs):zdc O st ch buf (.more l lo hi) c (zag [.ref st,.int c] O):=by
 obtain⟨sg,mi,le,gr,va,di,fi,rfl,rfl,rfl,rfl,rfl,rfl,hl1⟩:=hr
 have hne:st≠ch:=zaU h1 h2 (by simp)
 have hne':=hne.symm
 have l1:=zaq h1
 have l2:=zaq h2
 have hL:(fI buf).length < LIM:=by rw[zcx]; omega
 unfold zag zaT zbp za1
 walk_at "evh"
 unfold zdc
 rw[if_neg (fun z=> by cases z.1),zsN]
 by_cases c1:lo<=c/\c<=hi
 .have c1':(lo:Int)<=c/\(c:Int)<=hi:=by omega
  simp only[c1,c1',and_self,not_true,if_true,if_false]
  by_cases c2:l=1
  .subst c2
   exact⟨_,_,rfl,za7 (by rw[ze8]; exact l1),by rw[zaR hne,za7 l2,zhK]; rfl,⟨_,_,_,_,_,_,_,rfl,rfl,rfl⟩,(Fr.set (i:=ch) (by simp)).trans (T:=[st,ch]) (Fr.set (by simp)) fun _ _ h=> h⟩
  .have c2':¬(l:Int) - 1=0:=by omega
   simp only[c2,c2',if_false]
   exact⟨_,_,rfl,za7 (by rw[ze8]; exact l1),by rw[zaR hne,za7 l2,zhK]; rfl,⟨_,_,_,_,_,_,_,rfl,rfl,by omega,rfl,rfl,rfl,by omega⟩,(Fr.set (i:=ch) (by simp)).trans (T:=[st,ch]) (Fr.set (by simp)) fun _ _ h=> h⟩
 .have c1':¬((lo:Int)<=c/\(c:Int)<=hi):=by omega
  simp only[c1,c1',not_false_eq_true,if_true,if_false]
theorem znl(c:Nat):escL.lookup (c:Int)=(shortOf c).map fun (n:Nat)=> (n:Int):=by
 unfold escL shortOf shorts
 by_cases a1:c=34
 .subst a1; rfl
 .by_cases a2:c=92
  .subst a2; rfl
  .by_cases a3:c=47
   .subst a3; rfl
   .by_cases a4:c=98
    .subst a4; rfl
    .by_cases a5:c=102
     .subst a5; rfl
     .by_cases a6:c=110
      .subst a6; rfl
      .by_cases a7:c=114
       .subst a7; rfl
       .by_cases a8:c=116
        .subst a8; rfl
        .have g':∀k:Nat,¬c=k->(k==c)=false:=fun k h=> by rw[beq_eq_false_iff_ne]; omega
         have z1:((c:Int)==34)=false:=by rw[beq_eq_false_iff_ne]; omega
         have z2:((c:Int)==92)=false:=by rw[beq_eq_false_iff_ne]; omega
         have z3:((c:Int)==47)=false:=by rw[beq_eq_false_iff_ne]; omega
         have z4:((c:Int)==98)=false:=by rw[beq_eq_false_iff_ne]; omega
         have z5:((c:Int)==102)=false:=by rw[beq_eq_false_iff_ne]; omega
         have z6:((c:Int)==110)=false:=by rw[beq_eq_false_iff_ne]; omega
         have z7:((c:Int)==114)=false:=by rw[beq_eq_false_iff_ne]; omega
         have z8:((c:Int)==116)=false:=by rw[beq_eq_false_iff_ne]; omega
         simp only[List.lookup,List.find?,g' _ a1,g' _ a2,g' _ a3,g' _ a4,g' _ a5,g' _ a6,g' _ a7,g' _ a8,z1,z2,z3,z4,z5,z6,z7,z8]
         rfl
theorem zsL{c:Nat}(h1:O[st]? =some (.ins 3 (.ref ch::fs)))(h2:O[ch]? =some (.lst (fI buf)))(hl:buf.length + 4<=LIM)(hr:zqk .esc fs):zdc O st ch buf .esc c (zag [.ref st,.int c] O):=by
 obtain⟨sg,mi,le,gr,va,di,fi,rfl,rfl,rfl⟩:=hr
 have hne:st≠ch:=zaU h1 h2 (by simp)
 have hne':=hne.symm
 have l1:=zaq h1
 have l2:=zaq h2
 have hL:(fI buf).length < LIM:=by rw[zcx]; omega
 unfold zag zaT zbB zbg zaS za4
 walk_at "evh"
 unfold zdc
 rw[if_neg (fun z=> by cases z.1),zu2]
 by_cases c1:c=117
 .subst c1
  exact⟨_,_,rfl,za7 l1,by rw[zaR hne,h2,List.append_nil],⟨_,_,_,_,_,_,_,rfl,rfl,rfl,rfl,rfl,by omega⟩,Fr.set (by simp)⟩
 .have c1':¬(c:Int)=117:=by omega
  simp only[c1,c1',if_false,escIn,escAt,znl]
  cases hs:shortOf c with
  | none=> walk_at "evh"; rfl
  | some n=>
   have hE:escL.lookup (c:Int)=some (n:Int):=by rw[znl,hs]; rfl
   simp only[Option.map_some,Option.isSome_some]
   walk_at "evh"
   simp only[Option.map_some]
   walk_at "evh"
   exact⟨_,_,rfl,za7 (by rw[ze8]; exact l1),by rw[zaR hne,za7 l2,zhK]; rfl,⟨_,_,_,_,_,_,_,rfl,rfl,rfl⟩,(Fr.set (i:=ch) (by simp)).trans (T:=[st,ch]) (Fr.set (by simp)) fun _ _ h=> h⟩
theorem zoA{h c:Nat}(h1:O[st]? =some (.ins 3 (.ref ch::fs)))(h2:O[ch]? =some (.lst (fI buf)))(hr:zqk (.slash h) fs):zdc O st ch buf (.slash h) c (zag [.ref st,.int c] O):=by
 obtain⟨sg,mi,le,gr,va,di,fi,rfl,rfl,rfl,hh⟩:=hr
 have hne:st≠ch:=zaU h1 h2 (by simp)
 have l1:=zaq h1
 unfold zag zaT zaX zaK
 walk_at "evh"
 unfold zdc
 rw[if_neg (fun z=> by cases z.1),zqy]
 by_cases c1:c=92
 .subst c1
  exact⟨_,_,rfl,za7 l1,by rw[zaR hne,h2,List.append_nil],⟨_,_,_,_,_,_,_,rfl,rfl,rfl,hh⟩,Fr.set (by simp)⟩
 .have c1':¬(c:Int)=92:=by omega
  simp only[c1,c1',if_false]
theorem znB{h c:Nat}(h1:O[st]? =some (.ins 3 (.ref ch::fs)))(h2:O[ch]? =some (.lst (fI buf)))(hr:zqk (.letter h) fs):zdc O st ch buf (.letter h) c (zag [.ref st,.int c] O):=by
 obtain⟨sg,mi,le,gr,va,di,fi,rfl,rfl,rfl,hh⟩:=hr
 have hne:st≠ch:=zaU h1 h2 (by simp)
 have l1:=zaq h1
 unfold zag zaT zaX zaK zaS za4
 walk_at "evh"
 unfold zdc
 rw[if_neg (fun z=> by cases z.1),zoE]
 by_cases c1:c=117
 .subst c1
  exact⟨_,_,rfl,za7 l1,by rw[zaR hne,h2,List.append_nil],⟨_,_,_,_,_,_,_,rfl,rfl,rfl,rfl,rfl,by omega,hh.1,hh.2,fun _=> rfl,by omega,by omega,by omega⟩,Fr.set (by simp)⟩
 .have c1':¬(c:Int)=117:=by omega
  simp only[c1,c1',if_false]
theorem ziA(c:Nat):zsi c=(hexVal c).map fun (n:Nat)=> (n:Int):=by
 unfold zsi hexVal zl9
 by_cases a1:48<=c/\c<=57
 .have z:(48:Int)<=c/\(c:Int)<=57:=by omega
  simp only[a1,z,decide_true,if_true,and_self,Option.map_some]
  congr 1; omega
 .have z:¬((48:Int)<=c/\(c:Int)<=57):=by omega
  simp only[a1,z,decide_false,if_false,Bool.false_eq_true]
  by_cases a2:65<=c/\c<=70
  .have z:(65:Int)<=c/\(c:Int)<=70:=by omega
   simp only[a2,z,if_true,and_self,Option.map_some]
   congr 1; omega
  .have z:¬((65:Int)<=c/\(c:Int)<=70):=by omega
   simp only[a2,z,if_false]
   by_cases a3:97<=c/\c<=102
   .have z:(97:Int)<=c/\(c:Int)<=102:=by omega
    simp only[a3,z,if_true,and_self,Option.map_some]
    congr 1; omega
   .have z:¬((97:Int)<=c/\(c:Int)<=102):=by omega
    simp only[a3,z,if_false]; rfl
theorem zln{c d:Nat}(h:hexVal c=some d):d < 16:=by
 unfold hexVal at h
 split at h
 .cases h; omega
 .split at h
  .cases h; omega
  .split at h
   .cases h; omega
   .cases h
theorem zmL{n v c:Nat}{h:Option Nat}:subTake (.hex n v h) c=(hexVal c).bind (hexMore n v h):=rfl
theorem zqw{n v c:Nat}(h1:O[st]? =some (.ins 3 (.ref ch::fs)))(h2:O[ch]? =some (.lst (fI buf)))(hl:buf.length + 4<=LIM)(hr:zqk (.hex n v none) fs):zdc O st ch buf (.hex n v none) c (zag [.ref st,.int c] O):=by
 obtain⟨sg,mi,le,gr,va,di,fi,rfl,rfl,rfl,rfl,rfl,hn⟩:=hr
 have hne:st≠ch:=zaU h1 h2 (by simp)
 have hne':=hne.symm
 have l1:=zaq h1
 have l2:=zaq h2
 have E1:=zfa
 have E2:=zhL
 have E3:=zly
 have hne2:¬O.length=ch:=by omega
 unfold zag zaT zbx zbh zby zbi
 cases hd:hexVal c with
 | none=>
  have hD:zsi c=none:=by rw[ziA,hd]; rfl
  walk_at "evh"
  simp only[oI]
  walk_at "evh"
  unfold zdc
  rw[if_neg (fun z=> by cases z.1),zmL,hd]
  rfl
 | some d=>
  have hD:zsi c=some (d:Int):=by rw[ziA,hd]; rfl
  have hd16:=zln hd
  walk_at "evh"
  simp only[oI]
  walk_at "evh"
  unfold zdc
  rw[if_neg (fun z=> by cases z.1),zmL,hd]
  simp only[Option.bind_some,hexMore]
  by_cases b1:n=1/\220<=16 * v + d/\16 * v + d<=223
  .have hc:zqj ((v:Int) * 16 + d) ((n:Int) + 1) 0=false:=by
    have:(n:Int) + 1=2/\(220:Int)<=v * 16 + d/\(v:Int) * 16 + d<=223:=by omega
    simp[zqj,this]
   rw[if_pos b1]
   simp only[hc]
   walk_at "evh"
  .have hc:zqj ((v:Int) * 16 + d) ((n:Int) + 1) 0=true:=by
    have:¬((n:Int) + 1=2/\(220:Int)<=v * 16 + d/\(v:Int) * 16 + d<=223):=by omega
    simp only[zqj,if_true,Bool.not_eq_true',Bool.and_eq_false_iff,decide_eq_false_iff_not]
    omega
   rw[if_neg b1]
   have hU:(fI buf).length + ((zuH ((v:Int) * 16 + d)).map FV.int).length<=LIM:=by
    have e:(v:Int) * 16 + d=((16 * v + d:Nat):Int):=by omega
    rw[e,ziw,zcx,zcx]
    have:=zix (16 * v + d)
    omega
   simp only[hc]
   walk_at "evh"
   by_cases b2:n < 3
   .have b2':¬(n:Int) + 1=4:=by omega
    simp only[b2,b2',if_true,if_false]
    exact⟨_,_,rfl,za7 l1,by rw[zaR hne,h2,List.append_nil],⟨_,_,_,_,_,_,_,rfl,rfl,by omega,by omega,rfl,by omega⟩,Fr.set (by simp)⟩
   .have b2':(n:Int) + 1=4:=by omega
    simp only[b2,b2',if_true,if_false]
    by_cases b3:55296<=16 * v + d/\16 * v + d < 56320
    .have b3':(55296:Int)<=v * 16 + d/\(v:Int) * 16 + d<=56319:=by omega
     simp only[b3,b3',and_self,if_true]
     exact⟨_,_,rfl,za7 l1,by rw[zaR hne,h2,List.append_nil],⟨_,_,_,_,_,_,_,rfl,rfl,by omega,by omega,by omega⟩,Fr.set (by simp)⟩
    .have b3':¬((55296:Int)<=v * 16 + d/\(v:Int) * 16 + d<=56319):=by omega
     simp only[b3,b3',if_false]
     have e:(v:Int) * 16 + d=((16 * v + d:Nat):Int):=by omega
     refine⟨_,_,rfl,za7 (by rw[ze8,zhb,ze8]; omega),?_,⟨_,_,_,_,_,_,_,rfl,rfl,rfl⟩,?_⟩
     .rw[zaR hne,za7 (by rw[zhb,ze8]; omega),e,ziw,<- zhK]
     .exact ((Fr.set (i:=st) (S:=[st,ch]) (by simp)).trans (T:=[st,ch]) Fr.new fun _ _ h=> h).trans (T:=[st,ch]) zyL fun _ _ h=> h
theorem zyM{n v h d:Nat}(p1:55296<=h)(p3:n=0->v=0)(p4:n=1->v=13)(p5:n=2->220<=v/\v<=223)(p6:n=3->3520<=v/\v<=3583)(hn:n<=3)(hd:d < 16):
  zqj ((v:Int) * 16 + d) ((n:Int) + 1) h= !decide ((n=0/\16 * v + d≠13)\/(n=1/\¬(220<=16 * v + d/\16 * v + d<=223))):=by
 unfold zqj
 rw[if_neg (by omega)]
 match n,hn with
 | 0,_=>
  rw[if_pos (show ((0:Nat):Int) + 1=1 from rfl),<- decide_not]
  congr 1
  rw[p3 rfl]
  clear p3 p4 p5 p6 p1
  apply propext
  omega
 | 1,_=>
  rw[if_neg (by omega),<- decide_not]
  congr 1
  rw[p4 rfl]
  clear p3 p4 p5 p6 p1
  apply propext
  omega
 | 2,_=>
  rw[if_neg (by omega),<- decide_not]
  have:=p5 rfl
  clear p3 p4 p5 p6 p1
  congr 1
  apply propext
  omega
 | 3,_=>
  rw[if_neg (by omega),<- decide_not]
  have:=p6 rfl
  clear p3 p4 p5 p6 p1
  congr 1
  apply propext
  omega
theorem zzl{n v h d:Nat}(p1:55296<=h)(p6:n=3->3520<=v/\v<=3583)(z:¬n < 3)(hn:n<=3):(65536:Int) + ((h:Int) - 55296) * 1024 + ((v:Int) * 16 + d) - 56320=((65536 + 1024 * (h - 55296) + (16 * v + d - 56320):Nat):Int):=by
 obtain⟨q,_⟩:=p6 (by omega)
 clear p6 z hn
 omega
theorem zqv{n v h c:Nat}(h1:O[st]? =some (.ins 3 (.ref ch::fs)))(h2:O[ch]? =some (.lst (fI buf)))(hl:buf.length + 4<=LIM)(hr:zqk (.hex n v (some h)) fs):zdc O st ch buf (.hex n v (some h)) c (zag [.ref st,.int c] O):=by
 obtain⟨sg,mi,le,gr,va,di,fi,rfl,rfl,rfl,rfl,rfl,hn,p1,p2,p3,p4,p5,p6⟩:=hr
 have hne:st≠ch:=zaU h1 h2 (by simp)
 have hne':=hne.symm
 have l1:=zaq h1
 have l2:=zaq h2
 have E1:=zfa
 have E2:=zhL
 have E3:=zly
 have hne2:¬O.length=ch:=by omega
 have hh0:¬(h:Int)=0:=by omega
 unfold zag zaT zbx zbh zby zbi
 cases hd:hexVal c with
 | none=>
  have hD:zsi c=none:=by rw[ziA,hd]; rfl
  walk_at "evh"
  simp only[oI]
  walk_at "evh"
  unfold zdc
  rw[if_neg (fun z=> by cases z.1),zmL,hd]
  rfl
 | some d=>
  have hD:zsi c=some (d:Int):=by rw[ziA,hd]; rfl
  have hd16:=zln hd
  walk_at "evh"
  simp only[oI]
  walk_at "evh"
  unfold zdc
  rw[if_neg (fun z=> by cases z.1),zmL,hd]
  simp only[Option.bind_some,hexMore]
  by_cases b1:(n=0/\16 * v + d≠13)\/(n=1/\¬(220<=16 * v + d/\16 * v + d<=223))
  .have hc:zqj ((v:Int) * 16 + d) ((n:Int) + 1) h=false:=by rw[zyM p1 p3 p4 p5 p6 hn hd16,decide_eq_true b1]; rfl
   rw[if_pos b1]
   simp only[hc]
   walk_at "evh"
  .have hc:zqj ((v:Int) * 16 + d) ((n:Int) + 1) h=true:=by rw[zyM p1 p3 p4 p5 p6 hn hd16,decide_eq_false b1]; rfl
   rw[if_neg b1]
   have e:(65536:Int) + ((h:Int) - 55296) * 1024 + ((v:Int) * 16 + d) - 56320=((65536 + 1024 * (h - 55296) + (16 * v + d - 56320):Nat):Int)\/n < 3:=by
    by_cases z:n < 3
    .exact .inr z
    .exact .inl (zzl p1 p6 z hn)
   have hU:n=3->(fI buf).length + ((zuH ((65536:Int) + ((h:Int) - 55296) * 1024 + ((v:Int) * 16 + d) - 56320)).map FV.int).length<=LIM:=fun hn3=> by
    rcases e with e | e
    .rw[e,ziw,zcx,zcx]
     have:=zix (65536 + 1024 * (h - 55296) + (16 * v + d - 56320))
     omega
    .omega
   simp only[hc]
   by_cases b2:n < 3
   .have b2':¬(n:Int) + 1=4:=by omega
    clear hU e
    walk_at "evh"
    exact⟨_,_,rfl,za7 l1,by rw[zaR hne,h2,List.append_nil],⟨_,_,_,_,_,_,_,rfl,rfl,by omega,by omega,rfl,by omega,p1,p2,by omega,by omega,by omega,by omega⟩,Fr.set (by simp)⟩
   .have b2':(n:Int) + 1=4:=by omega
    have b3':¬((55296:Int)<=v * 16 + d/\(v:Int) * 16 + d<=56319):=by omega
    have hU':=hU (by omega)
    clear hU
    rcases e with e | e
    case inr=> omega
    clear p3 p4 p5 p6 b1
    clear E2 hD hd16 hd hn p1 p2
    generalize (65536:Int) + ((h:Int) - 55296) * 1024 + ((v:Int) * 16 + d) - 56320=W at *
    have e3:∀_:Unit,W=((65536 + 1024 * (h - 55296) + (16 * v + d - 56320):Nat):Int):=fun _=> e
    clear e
    walk_at "evh"
    refine⟨_,_,rfl,za7 (by rw[ze8,zhb,ze8]; omega),?_,⟨_,_,_,_,_,_,_,rfl,rfl,rfl⟩,?_⟩
    .rw[zaR hne,za7 (by rw[zhb,ze8]; omega),e3 (),ziw,<- zhK]
    .exact ((Fr.set (i:=st) (S:=[st,ch]) (by simp)).trans (T:=[st,ch]) Fr.new fun _ _ h=> h).trans (T:=[st,ch]) zyL fun _ _ h=> h
theorem zqt{z:Sub}{c:Nat}(h1:O[st]? =some (.ins 3 (.ref ch::fs)))(h2:O[ch]? =some (.lst (fI buf)))(hl:buf.length + 4<=LIM)(hr:zqk z fs):zdc O st ch buf z c (zag [.ref st,.int c] O):=by
 cases z with
 | plain=> exact zoB h1 h2 hl hr
 | esc=> exact zsL h1 h2 hl hr
 | hex n v h=>
  cases h with
  | none=> exact zqw h1 h2 hl hr
  | some h=> exact zqv h1 h2 hl hr
 | slash h=> exact zoA h1 h2 hr
 | letter h=> exact znB h1 h2 hr
 | more l lo hi=> exact zqu h1 h2 hl hr
end
theorem zmE{α:Type}(xs:List α)(n:Nat):atF xs (n:Int)=xs[n]?:=by
 unfold atF; rw[if_pos (by omega),Int.toNat_natCast]
theorem zv7(l:List Nat)(n:Nat):(fI l)[n]? =(l[n]?).map fun (c:Nat)=> FV.int (c:Int):=by unfold fI; rw[List.getElem?_map]
theorem zgK{l rest:List Nat}{n c:Nat}(h:l.drop n=c::rest):l[n]? =some c/\l.drop (n + 1)=rest/\n < l.length:=by
 have hn:n < l.length:=by
  by_cases hn:n < l.length
  .exact hn
  .rw[List.drop_of_length_le (by omega)] at h; cases h
 rw[List.drop_eq_getElem_cons hn] at h
 injection h with h1 h2
 exact⟨by rw[List.getElem?_eq_getElem hn,h1],h2,hn⟩
theorem zgJ{l:List Nat}{n:Nat}(h:l.drop n=[]):l.length<=n:=by
 by_cases hn:n < l.length
 .rw[List.drop_eq_getElem_cons hn] at h; cases h
 .omega
theorem zjf(c:Nat):zl9 (c:Int)=isDigit c:=by
 unfold zl9 isDigit
 by_cases a:48<=c/\c<=57
 .have z:(48:Int)<=c/\(c:Int)<=57:=by omega
  simp[a,z]
 .have z:¬((48:Int)<=c/\(c:Int)<=57):=by omega
  rw[decide_eq_false z]
  by_cases b:48<=c
  .have:¬c<=57:=by omega
   simp[b,this]
  .simp[b]
theorem zmp(c:Nat)(O:FH):zbU [.int c] O=some (.bl (nameByte c),O):=by
 unfold zbU zcq
 walk_at "ev"
 unfold nameByte
 by_cases h1:33<=c
 .by_cases h2:c<=126
  .have z:(33:Int)<=c/\(c:Int)<=126:=by omega
   have e:([46,91,93,42,34,92]:List Int).contains (c:Int)=([46,91,93,42,34,92]:List Nat).contains c:=ct c [46,91,93,42,34,92]
   simp only[h1,h2,z,and_self,if_true,decide_true,Bool.true_and,e]
  .have z:¬((33:Int)<=c/\(c:Int)<=126):=by omega
   simp only[h1,h2,z,if_false,decide_true,decide_false,Bool.true_and,Bool.false_and]
 .have z:¬((33:Int)<=c/\(c:Int)<=126):=by omega
  simp only[h1,z,if_false,decide_false,Bool.false_and]
section
variable {O:FH}{p:Nat}{path:List Nat}
def zfD:List Nat->Nat
 | []=> 0
 | c::r=> if c=46 then (match r with
  | []=> 1
  | d::_=> if d=46 then 2 else 1) else 0
theorem atP{i:Int}{n:Nat}(e:i=(n:Int)):atF (fI path) i=(path[n]?).map fun (c:Nat)=> FV.int (c:Int):=by rw[e,zmE,zv7]
theorem zpW{at_:Nat}(h1:O[p]? =some (.lst (fI path))):zeP [.ref p,.int at_] O=some (.int (zfD (path.drop at_)),O):=by
 unfold zeP zgE
 have hL:=zcx path
 have g0:=atP (path:=path) (i:=(at_:Int) + 0) (n:=at_) (by omega)
 have g1:=atP (path:=path) (i:=(at_:Int) + 1) (n:=at_ + 1) (by omega)
 rw[show (100000:Nat)=99999 + 1 from rfl]
 cases hd:path.drop at_ with
 | nil=>
  have:=zgJ hd
  have z:¬((at_:Int) + 0 < path.length):=by omega
  walk_at "evh"
  rw[loopW]
  walk_at "evh"
  rfl
 | cons c r=>
  obtain⟨q1,q2,q3⟩:=zgK hd
  have z:(at_:Int) + 0 < path.length:=by omega
  by_cases c1:c=46
  .subst c1
   walk_at "evh"
   rw[loopW]
   walk_at "evh"
   simp only[Option.map_some]
   walk_at "evh"
   simp only[show (↑(46:Nat):Int)=46 from rfl]
   walk_at "evh"
   rw[show (99999:Nat)=99998 + 1 from rfl]
   cases hr:r with
   | nil=>
    rw[hr] at q2
    have:=zgJ q2
    have z1:¬((at_:Int) + 1 < path.length):=by omega
    rw[loopW]
    walk_at "evh"
    rfl
   | cons d r'=>
    rw[hr] at q2
    obtain⟨q4,q5,q6⟩:=zgK q2
    have z1:(at_:Int) + 1 < path.length:=by omega
    by_cases d1:d=46
    .subst d1
     rw[loopW]
     walk_at "evh"
     simp only[Option.map_some]
     walk_at "evh"
     simp only[show (↑(46:Nat):Int)=46 from rfl]
     walk_at "evh"
     rw[show (99998:Nat)=99997 + 1 from rfl,loopW]
     walk_at "evh"
     rfl
    .have d2:¬(d:Int)=46:=by omega
     rw[loopW]
     walk_at "evh"
     simp only[Option.map_some]
     walk_at "evh"
     simp[zfD,d1]
  .have c2:¬(c:Int)=46:=by omega
   walk_at "evh"
   rw[loopW]
   walk_at "evh"
   simp only[Option.map_some]
   walk_at "evh"
   simp[zfD,c1]
end
def Kp(O O':FH):Prop:=∀(i:Nat) xs,O[i]? =some (FO.tup xs)->O'[i]? =some (FO.tup xs)
theorem Fr.kp{O O':FH}{S:List Nat}(h:Fr O O' S)(hS:∀j∈S,∀xs,O[j]?≠some (FO.tup xs)):Kp O O':=fun i xs e=> h.get e fun z=> hS i z xs e
theorem Kp.trans{O O1 O2:FH}(a:Kp O O1)(b:Kp O1 O2):Kp O O2:=fun i xs e=> b i xs (a i xs e)
def zqd(O:FH):Goal->FV->FV->Prop
 | .name b,k,v=> k= .int 0/\∃n,v= .ref n/\O[n]? =some (.tup (fI b))
 | .members,k,v=> k= .int 0/\v= .non
 | .number i,k,v=> k= .int 1/\v= .int i
 | .elements,k,v=> k= .int 1/\v= .non
def StepAt(O:FH)(s:Step)(v:FV):Prop:=∃i k key,v= .ref i/\O[i]? =some (.tup [.bl s.deep,k,key])/\zqd O s.goal k key
theorem StepAt.keep{O O':FH}{s:Step}{v:FV}(h:StepAt O s v)(k:Kp O O'):StepAt O' s v:=by
 obtain⟨i,kd,key,rfl,h1,h2⟩:=h
 refine⟨i,kd,key,rfl,k _ _ h1,?_⟩
 cases hg:s.goal with
 | name b=> rw[hg] at h2; obtain⟨a,n,b,c⟩:=h2; exact⟨a,n,b,k _ _ c⟩
 | members=> rw[hg] at h2; exact h2
 | number i=> rw[hg] at h2; exact h2
 | elements=> rw[hg] at h2; exact h2
def zmF(O:FH)(v:FV)(s:Step)(e:Nat):Prop:=∃f sv,v= .ref f/\O[f]? =some (.tup [sv,.int e])/\StepAt O s sv
section
variable {O:FH}{p:Nat}{path:List Nat}
theorem zpB(l:List Nat)(n:Nat):(fI l).take n=fI (l.take n):=by unfold fI; rw[List.map_take]
theorem zpC(l:List Nat)(n:Nat):(fI l).drop n=fI (l.drop n):=by unfold fI; rw[List.map_drop]
theorem zos(q:Nat->Bool)(l:List Nat):l.take (l.takeWhile q).length=l.takeWhile q:=by
 induction l with
 | nil=> rfl
 | cons c l ih=>
  rw[List.takeWhile_cons]
  split
  .simp[ih]
  .rfl
theorem zuQ(q:Nat->Bool)(l:List Nat):(l.takeWhile q).length<=l.length:=(List.takeWhile_sublist q).length_le
theorem zld(h1:O[p]? =some (.lst (fI path))){b:Int}{w:Bool}:∀(rest:List Nat) (e fuel:Nat),path.drop e=rest->rest.length < fuel->
  loopW (ziy (tCmp cLt (eV 3) (eLen (eV 0))) (tVal (eCall zbU (aCons (eIxL (eV 0) (eV 3)) aNil)))) (sAug 3 iAdd (eC (.int 1))) fuel [some (.ref p),some (.int b),some (.bl w),some (.int e)] O
   =some (.nx [some (.ref p),some (.int b),some (.bl w),some (.int ((e + (rest.takeWhile nameByte).length:Nat):Int))],O)
 | [],e,fuel + 1,hd,hf=> by
  have hL:=zcx path
  have:=zgJ hd
  have z:¬((e:Int) < path.length):=by omega
  rw[loopW]
  walk_at "evh"
  simp
 | c::rest,e,fuel + 1,hd,hf=> by
  have hL:=zcx path
  obtain⟨q1,q2,q3⟩:=zgK hd
  have z:(e:Int) < path.length:=by omega
  have g0:=atP (path:=path) (i:=(e:Int)) (n:=e) rfl
  have E1:=zmp
  rw[loopW]
  walk_at "evh"
  simp only[Option.map_some]
  walk_at "evh"
  by_cases hn:nameByte c=true
  .have ih:=zld h1 (b:=b) (w:=w) rest (e + 1) fuel q2 (by simp at hf; omega)
   simp only[hn,if_true]
   rw[show ((e:Int) + 1)=((e + 1:Nat):Int) by omega,ih,List.takeWhile_cons,if_pos hn]
   rw[List.length_cons,show e + 1 + (List.takeWhile nameByte rest).length=e + ((List.takeWhile nameByte rest).length + 1) by omega]
  .simp only[hn,if_false]
   rw[List.takeWhile_cons,if_neg hn]
   simp
theorem zkH{b:Nat}{w:Bool}{c:Nat}{r:List Nat}(h1:O[p]? =some (.lst (fI path)))(hl:path.length<=2000)(hd:path.drop b=c::r):
  match dotted (c::r) with
  | none=> zbY [.ref p,.int b,.bl w] O=some (.non,O)
  | some (g,r')=>∃O' v e,zbY [.ref p,.int b,.bl w] O=some (v,O')/\zmF O' v ⟨w,g⟩ e/\path.drop e=r'/\b < e/\Fr O O' []:=by
 obtain⟨q1,q2,q3⟩:=zgK hd
 have hL:=zcx path
 have g0:=atP (path:=path) (i:=(b:Int)) (n:=b) rfl
 have l1:=zaq h1
 unfold zbY zec
 by_cases c1:c=42
 .subst c1
  have e1:dotted (42::r)=some (.members,r):=by simp[dotted]
  rw[e1]
  simp only
  walk_at "evh"
  simp only[Option.map_some]
  walk_at "evh"
  simp only[show (↑(42:Nat):Int)=42 from rfl]
  walk_at "evh"
  refine⟨_,_,b + 1,rfl,⟨_,_,rfl,?_,⟨O.length,_,_,rfl,?_,rfl,rfl⟩⟩,q2,by omega,?_⟩
  .rw[zaO (by rw[zhb])]; rfl
  .rw[za8 (by rw[zhb]; omega),zaO rfl]
  .exact Fr.new.trans (T:=[]) Fr.new fun _ _ h=> h
 .have c2:¬(c:Int)=42:=by omega
  have hlp:=zld h1 (b:=b) (w:=w) (c::r) b 100000 hd (by have:=congrArg List.length hd; simp at this; simp; omega)
  have e1:dotted (c::r)=if 1<=((c::r).takeWhile nameByte).length/\((c::r).takeWhile nameByte).length<=32 then some (.name ((c::r).takeWhile nameByte),(c::r).drop ((c::r).takeWhile nameByte).length) else none:=by
   unfold dotted NAME
   rw[if_neg (by simp[c1])]
  rw[e1]
  generalize hn:(c::r).takeWhile nameByte=nm at *
  walk_at "evh"
  try simp only[Option.map_some]
  walk_at "evh"
  by_cases hb:1<=nm.length/\nm.length<=32
  .have hb':(1:Int)<=((b + nm.length:Nat):Int) - b/\((b + nm.length:Nat):Int) - b<=32:=by omega
   have hs:slc2 (fI path) (.int (b:Int)) (.int ((b + nm.length:Nat):Int))=some (fI nm):=by
    unfold slc2
    dsimp only
    rw[if_pos (by omega),Int.toNat_natCast,Int.toNat_natCast,zpB,zpC,List.drop_take,Nat.add_sub_cancel_left,hd,<- hn,zos]
   rw[if_pos hb]
   dsimp only
   rw[if_neg (fun z=> z hb')]
   walk_at "evh"
   refine⟨_,_,b + nm.length,rfl,⟨_,_,rfl,?_,⟨O.length + 1 + 1,_,_,rfl,?_,rfl,O.length + 1,rfl,?_⟩⟩,?_,by omega,?_⟩
   .rw[zaO (by simp)]
   .rw[za8 (by simp),zaO (by simp)]
   .rw[za8 (by simp),za8 (by simp),zaO (by simp)]
   .rw[<- hd,List.drop_drop]
   .exact ((Fr.new.trans (T:=[]) Fr.new fun _ _ h=> h).trans (T:=[]) Fr.new fun _ _ h=> h).trans (T:=[]) Fr.new fun _ _ h=> h
  .have hb':¬((1:Int)<=((b + nm.length:Nat):Int) - b/\((b + nm.length:Nat):Int) - b<=32):=by omega
   rw[if_neg hb]
   dsimp only
   rw[if_pos hb']
theorem zlg(h1:O[p]? =some (.lst (fI path))){b:Int}{w:Bool}{x:Option FV}:∀(rest:List Nat) (e fuel:Nat),path.drop e=rest->rest.length < fuel->
  loopW (ziy (tCmp cLt (eV 3) (eLen (eV 0))) (tCmp cNe (eIxL (eV 0) (eV 3)) (eC (.int 93)))) (sAug 3 iAdd (eC (.int 1))) fuel [some (.ref p),some (.int b),some (.bl w),some (.int e),x] O
   =some (.nx [some (.ref p),some (.int b),some (.bl w),some (.int ((e + (rest.takeWhile fun c=> c !=93).length:Nat):Int)),x],O)
 | [],e,fuel + 1,hd,hf=> by
  have hL:=zcx path
  have:=zgJ hd
  have z:¬((e:Int) < path.length):=by omega
  rw[loopW]
  walk_at "evh"
  simp
 | c::rest,e,fuel + 1,hd,hf=> by
  have hL:=zcx path
  obtain⟨q1,q2,q3⟩:=zgK hd
  have z:(e:Int) < path.length:=by omega
  have g0:=atP (path:=path) (i:=(e:Int)) (n:=e) rfl
  rw[loopW]
  walk_at "evh"
  simp only[Option.map_some]
  walk_at "evh"
  by_cases hn:c=93
  .have hn':(c:Int)=93:=by omega
   rw[if_neg (by simpa using hn')]
   rw[List.takeWhile_cons,if_neg (by simpa using hn)]
   simp
  .have hn':¬(c:Int)=93:=by omega
   have ih:=zlg h1 (b:=b) (w:=w) (x:=x) rest (e + 1) fuel q2 (by simp at hf; omega)
   rw[if_pos (by simpa using hn'),show ((e:Int) + 1)=((e + 1:Nat):Int) by omega,ih,List.takeWhile_cons,if_pos (by simpa using hn),List.length_cons,show e + 1 + (List.takeWhile (fun c=> c !=93) rest).length=e + ((List.takeWhile (fun c=> c !=93) rest).length + 1) by omega]
theorem zlj{D:Nat}{l:Nat}(all:List Nat)(hl:l≠D):∀(rest:List Nat) (done:List Bool) (O:FH),O[l]? =some (.lst (fI all))->O[D]? =some (.lst (done.map FV.bl))->done.length + rest.length < LIM->
  lcM zcm (.ref l) D (fI all) (fI rest) O=some (O.set D (.lst ((done ++ rest.map isDigit).map FV.bl)))
 | [],done,O,h1,h2,hL=> by
  show lcM zcm (.ref l) D (fI all) [] O=_
  rw[lcM]
  walk_at "evh"
  congr 1
  apply List.ext_getElem?
  intro i
  by_cases hi:D=i
  .subst hi; rw[h2,za7 (zaq h2)]
  .rw[zaR hi]
 | c::rest,done,O,h1,h2,hL=> by
  show lcM zcm (.ref l) D (fI all) (.int c::fI rest) O=_
  have E1:=zh9
  have hl':=hl.symm
  have hlt:(done.map FV.bl).length < LIM:=by simp at hL |-; omega
  rw[lcM]
  walk_at "evh"
  have l2:=zaq h2
  have ih:=zlj all hl rest (done ++ [isDigit c]) (O.set D (.lst (done.map FV.bl ++ [.bl (zl9 c)]))) (by rw[zaR hl',h1]) (by rw[za7 l2,zjf,List.map_append]; rfl) (by simp at hL |-; omega)
  rw[ih,List.set_set,List.append_assoc]
  rfl
theorem ztt(l:List Bool):(l.map FV.bl).mapM blOf=some l:=by
 induction l with
 | nil=> rfl
 | cons b l ih=> rw[List.map_cons,List.mapM_cons,ih]; rfl
theorem zkx(l:List Nat):(fI l).mapM intOf=some (l.map fun (n:Nat)=> (n:Int)):=by
 induction l with
 | nil=> rfl
 | cons b l ih=> show List.mapM intOf (.int b::fI l)=_; rw[List.mapM_cons,ih]; rfl
theorem zls{l:Nat}{d:List Nat}{c:Nat}{O2:FH}{bs:List Bool}{bv:List FV}(h1:O[l]? =some (.lst (fI d)))(hL:(fI d).length=d.length)(g0:atF (fI d) 0=some (.int c))(hlc:lcM zcm (.ref l) O.length (fI d) (fI d) (O ++ [.lst []])=some O2)(h2:O2[O.length]? =some (.lst bv))(hm:bv.mapM blOf=some bs):
  zc6 [.ref l] O=if¬((1:Int)<=d.length/\(d.length:Int)<=6) then some (.bl false,O) else if (c:Int)=48 then (if (1:Int) < d.length then some (.bl false,O) else some (.bl (bs.all id),O2)) else some (.bl (bs.all id),O2):=by
 unfold zc6 zen
 walk_at "evh"
theorem zkG{l:Nat}{d:List Nat}(h1:O[l]? =some (.lst (fI d)))(hL:(fI d).length=d.length)(hn:¬((1:Int)<=d.length/\(d.length:Int)<=6)):zc6 [.ref l] O=some (.bl false,O):=by
 unfold zc6 zen
 walk_at "evh"
theorem zmq{l:Nat}{d:List Nat}(h1:O[l]? =some (.lst (fI d)))(hl:d.length<=2000):
  ∃O',zc6 [.ref l] O=some (.bl (decide (1<=d.length/\d.length<=6/\¬(d.head? =some 48/\1 < d.length)) && d.all isDigit),O')/\Fr O O' []:=by
 have l1:=zaq h1
 by_cases c1:1<=d.length/\d.length<=6
 .obtain⟨c,hc⟩:∃c,d[0]? =some c:=⟨d[0],List.getElem?_eq_getElem (by omega)⟩
  have hh:d.head? =some c:=by rw[List.head?_eq_getElem?]; exact hc
  have g0:=atP (path:=d) (i:=(0:Int)) (n:=0) rfl
  rw[hc] at g0
  have hlc:=zlj (D:=O.length) (l:=l) d (by omega) d [] (O ++ [.lst []]) (by rw[za8 l1,h1]) (by rw[zaO rfl]; rfl) (by unfold LIM; simp; omega)
  have e3:(d.map isDigit).all id=d.all isDigit:=by rw[List.all_map]; rfl
  have E:=zls h1 (zcx d) g0 hlc (za7 (by simp)) (ztt _)
  rw[if_neg (fun z=> z (by omega)),List.nil_append,e3] at E
  have F2:Fr O ((O ++ [FO.lst []]).set O.length (.lst ((d.map isDigit).map FV.bl))) []:=(Fr.new (x:= .lst [])).trans (T:=[O.length]) (Fr.set (by simp)) fun j hj hm=> by simp at hm; omega
  rw[hh]
  by_cases c2:c=48
  .rw[if_pos (by omega)] at E
   by_cases c3:1 < d.length
   .rw[if_pos (by omega)] at E
    exact⟨_,by rw[E,decide_eq_false (fun z=> z.2.2 ⟨by rw[c2],c3⟩)]; rfl,Fr.refl⟩
   .rw[if_neg (by omega)] at E
    exact⟨_,by rw[E,decide_eq_true ⟨c1.1,c1.2,fun z=> c3 z.2⟩,Bool.true_and],F2⟩
  .rw[if_neg (by omega)] at E
   exact⟨_,by rw[E,decide_eq_true ⟨c1.1,c1.2,fun z=> c2 (by injection z.1)⟩,Bool.true_and],F2⟩
 .exact⟨O,by rw[zkG h1 (zcx d) (by omega),decide_eq_false (fun z=> c1 ⟨z.1,z.2.1⟩)]; rfl,Fr.refl⟩
def zxn(d:List Nat):Int:=d.foldl (fun (n:Int) (c:Nat)=> n * 10 + c - 48) 0
theorem zm2{l:Nat}{d:List Nat}(h1:O[l]? =some (.lst (fI d))):∀(rest:List Nat) (n:Int) (x:Option FV),
  ∃y,loopL 2 (sSet 1 (eOp iSub (eOp iAdd (eOp iMulR (eV 1) (eC (.int 10))) (eV 2)) (eC (.int 48)))) (.ref l) (fI d) (fI rest) [some (.ref l),some (.int n),x] O=some (.nx [some (.ref l),some (.int (rest.foldl (fun (n:Int) (c:Nat)=> n * 10 + c - 48) n)),y],O)
 | [],n,x=> ⟨x,by
  show loopL 2 _ (.ref l) (fI d) [] _ O=_
  rw[loopL]
  walk_at "evh"
  rfl⟩
 | c::rest,n,x=> by
  obtain⟨y,ih⟩:=zm2 h1 rest (n * 10 + c - 48) (some (.int c))
  refine⟨y,?_⟩
  show loopL 2 _ (.ref l) (fI d) (.int c::fI rest) _ O=_
  rw[loopL]
  walk_at "evh"
  rfl
theorem zn5{l:Nat}{d:List Nat}(h1:O[l]? =some (.lst (fI d))):zeI [.ref l] O=some (.int (zxn d),O):=by
 obtain⟨y,h⟩:=zm2 h1 d 0 none
 unfold zeI zfK
 walk_at "evh"
 rfl
end
section
variable {O:FH}{p:Nat}{path:List Nat}
theorem zsu{a b:ME}{σ:FS}:tEqL a b σ O=(a σ O).bind fun p=> (b σ p.2).bind fun q=> (lstAt q.2 p.1).bind fun xs=> (lstAt q.2 q.1).bind fun ys=> (xs.mapM intOf).bind fun ns=> (ys.mapM intOf).bind fun ms=> some (decide (ns=ms),q.2):=rfl
theorem q42:List.mapM intOf [FV.int 42]=some [42]:=rfl
def znT(W:List Nat):Bool:=decide (1<=W.length/\W.length<=6/\¬(W.head? =some 48/\1 < W.length)) && W.all isDigit
theorem zrD{b:Nat}{w:Bool}{e:Int}(h1:O[p]? =some (.lst (fI path)))(hL:(fI path).length=path.length)
  (hlp:loopW (ziy (tCmp cLt (eV 3) (eLen (eV 0))) (tCmp cNe (eIxL (eV 0) (eV 3)) (eC (.int 93)))) (sAug 3 iAdd (eC (.int 1))) 100000 [some (.ref p),some (.int b),some (.bl w),some (.int b),none] O
   =some (.nx [some (.ref p),some (.int b),some (.bl w),some (.int e),none],O)) (hz:e=path.length):za5 [.ref p,.int b,.bl w] O=some (.non,O):=by
 unfold za5 zcN
 walk_at "evh"
theorem zrC{b:Nat}{w:Bool}{e:Int}{W:List FV}(h1:O[p]? =some (.lst (fI path)))(l1:p < O.length)(hL:(fI path).length=path.length)
  (hlp:loopW (ziy (tCmp cLt (eV 3) (eLen (eV 0))) (tCmp cNe (eIxL (eV 0) (eV 3)) (eC (.int 93)))) (sAug 3 iAdd (eC (.int 1))) 100000 [some (.ref p),some (.int b),some (.bl w),some (.int b),none] O
   =some (.nx [some (.ref p),some (.int b),some (.bl w),some (.int e),none],O)) (hz:¬e=path.length) (hs:slc2 (fI path) (.int b) (.int e)=some W) (hm:W.mapM intOf=some [42])
  {O2:FH} (hO2:O ++ [FO.lst W] ++ [FO.lst [.int 42]]=O2) (hg1:O2[O.length]? =some (.lst W)) (hg2:O2[O.length + 1]? =some (.lst [.int 42])):
  za5 [.ref p,.int b,.bl w] O=some (.ref (O2.length + 1),O2 ++ [.tup [.bl w,.int 1,.non]] ++ [.tup [.ref O2.length,.int (e + 1)]]):=by
 have hq:=q42
 unfold za5 zcN
 walk_at "evh"
 simp only[zsu]
 walk_at "evh"
theorem zrB{b:Nat}{w:Bool}{e:Int}{W:List FV}{ns:List Int}{O2 O3:FH}{u:Bool}{n:Int}(h1:O[p]? =some (.lst (fI path)))(l1:p < O.length)(hL:(fI path).length=path.length)
  (hlp:loopW (ziy (tCmp cLt (eV 3) (eLen (eV 0))) (tCmp cNe (eIxL (eV 0) (eV 3)) (eC (.int 93)))) (sAug 3 iAdd (eC (.int 1))) 100000 [some (.ref p),some (.int b),some (.bl w),some (.int b),none] O
   =some (.nx [some (.ref p),some (.int b),some (.bl w),some (.int e),none],O)) (hz:¬e=path.length) (hs:slc2 (fI path) (.int b) (.int e)=some W) (hm:W.mapM intOf=some ns) (hk:¬ns=[42])
  (hO2:O ++ [FO.lst W] ++ [FO.lst [.int 42]]=O2) (hg1:O2[O.length]? =some (.lst W)) (hg2:O2[O.length + 1]? =some (.lst [.int 42])) (hN:zc6 [.ref O.length] O2=some (.bl u,O3)) (hV:zeI [.ref O.length] O3=some (.int n,O3)):
  za5 [.ref p,.int b,.bl w] O=if u=false then some (.non,O3) else some (.ref (O3.length + 1),O3 ++ [.tup [.bl w,.int 1,.int n]] ++ [.tup [.ref O3.length,.int (e + 1)]]):=by
 have hq:=q42
 unfold za5 zcN
 walk_at "evh"
 simp only[zsu]
 walk_at "evh"
theorem zsE(W:List Nat)(h:W.all isDigit=true):zxn W=((W.foldl (fun (n c:Nat)=> 10 * n + (c - 48)) 0:Nat):Int):=by
 unfold zxn
 suffices hh:∀(m:Nat),W.foldl (fun (n:Int) (c:Nat)=> n * 10 + c - 48) (m:Int)=((W.foldl (fun (n c:Nat)=> 10 * n + (c - 48)) m:Nat):Int) from hh 0
 induction W with
 | nil=> intro m; rfl
 | cons c W ih=>
  intro m
  rw[List.all_cons,Bool.and_eq_true] at h
  rw[List.foldl_cons,List.foldl_cons,<- ih h.2]
  congr 1
  have hc:=h.1
  unfold isDigit at hc
  simp at hc
  omega
theorem zot{q:Nat->Bool}:∀{l:List Nat},(∀x∈l,q x=true)->l.takeWhile q=l
 | [],_=> rfl
 | c::l,h=> by rw[List.takeWhile_cons,if_pos (h c (by simp)),zot fun x hx=> h x (by simp[hx])]
theorem zlO{q:Nat->Bool}{c:Nat}(hc:q c=false):∀{l:List Nat} (r:List Nat),(l ++ c::r).takeWhile q=l.takeWhile q/\(l.takeWhile q=l\/∃d t,d∈l/\q d=false/\(l ++ c::r).drop (l.takeWhile q).length=d::t)
 | [],r=> ⟨by simp[List.takeWhile_cons,hc],.inl rfl⟩
 | d::l,r=> by
  obtain⟨a,b⟩:=zlO hc (l:=l) r
  rw[List.cons_append,List.takeWhile_cons,List.takeWhile_cons]
  by_cases hd:q d=true
  .rw[if_pos hd,if_pos hd,a]
   refine⟨rfl,?_⟩
   rcases b with b |⟨e,t,he,hq,hr⟩
   .exact .inl (by rw[b])
   .exact .inr ⟨e,t,by simp[he],hq,by simpa using hr⟩
  .rw[if_neg hd,if_neg hd]
   exact⟨rfl,.inr ⟨d,l ++ c::r,by simp,by simpa using hd,rfl⟩⟩
theorem zoF:∀{r:List Nat},93∈r->∃W t,r=W ++ 93::t/\∀x∈W,(x !=93)=true
 | [],h=> by cases h
 | c::r,h=> by
  by_cases hc:c=93
  .exact⟨[],r,by rw[hc]; rfl,fun _ h=> by cases h⟩
  .obtain⟨W,t,e,hW⟩:=zoF (r:=r) (by simpa[Ne.symm hc] using h)
   exact⟨c::W,t,by rw[e]; rfl,fun x hx=> by
    rcases List.mem_cons.mp hx with rfl | hx
    .simpa using hc
    .exact hW x hx⟩
theorem zof(r:List Nat):bracket (91::r)=
  if (r.takeWhile fun c=> c !=93).length=r.length then none else if (r.takeWhile fun c=> c !=93)=[42] then some (.elements,r.drop ((r.takeWhile fun c=> c !=93).length + 1))
  else if znT (r.takeWhile fun c=> c !=93)=true then some (.number ((r.takeWhile fun c=> c !=93).foldl (fun (n c:Nat)=> 10 * n + (c - 48)) 0),r.drop ((r.takeWhile fun c=> c !=93).length + 1)) else none:=by
 have hb:bracket (91::r)=if r.take 2=[42,93] then some (.elements,r.drop 2) else if (r.drop (r.takeWhile isDigit).length).take 1=[93] then (numberOf (r.takeWhile isDigit)).map fun (i:Nat)=> (.number i,r.drop (1 + (r.takeWhile isDigit).length)) else none:=by
  unfold bracket
  rw[List.take_succ_cons,List.take_succ_cons,List.take_zero,List.drop_succ_cons]
  simp only[List.cons.injEq,true_and,if_true]
  simp only[List.drop_succ_cons,List.drop_zero,show∀n,1 + n=n + 1 from fun n=> Nat.add_comm 1 n,show∀n,2 + n=(n + 1) + 1 from fun n=> by omega]
 rw[hb]
 by_cases h93:93∈r
 .obtain⟨W,t,e,hW⟩:=zoF h93
  subst e
  have tW:((W ++ 93::t).takeWhile fun c=> c !=93)=W:=by rw[(zlO (q:=fun c=> c !=93) (c:=93) (by decide) t).1]; exact zot hW
  have n93:93∉W:=fun h=> by simpa using hW 93 h
  have r1:¬W.length=(W ++ 93::t).length:=by simp
  rw[tW,if_neg r1]
  have dW:(W ++ 93::t).drop (W.length + 1)=t:=by simp
  rw[dW]
  by_cases c42:W=[42]
  .subst c42; rfl
  .rw[if_neg c42]
   have n2:(W ++ 93::t).take 2≠[42,93]:=fun h=> by
    match W,n93,c42 with
    | [],_,_=> simp at h
    | [a],_,c42=> simp at h; exact c42 (by rw[h])
    | a::b::W,n93,_=> simp at h; exact n93 (by simp[h.2])
   rw[if_neg n2]
   obtain⟨q1,q2⟩:=zlO (q:=isDigit) (c:=93) (by decide) (l:=W) t
   rw[q1]
   rcases q2 with q2 |⟨d,u,hd,hq,hr⟩
   .have hall:W.all isDigit=true:=by
     rw[<- q2]; exact List.all_takeWhile
    rw[q2,if_pos (by simp),show (W ++ 93::t).drop (1 + W.length)=t by rw[Nat.add_comm]; exact dW]
    unfold numberOf znT
    rw[hall,Bool.and_true]
    by_cases g:1<=W.length/\W.length<=6/\¬(W.head? =some 48/\1 < W.length)
    .rw[decide_eq_true g,if_pos rfl,if_pos ⟨by cases W with | nil=> simp at g | cons a b=> rfl,g.2.1,by
      by_cases gg:W.length=1
      .exact .inl gg
      .exact .inr fun z=> g.2.2 ⟨z,by omega⟩⟩]
     rfl
    .have g':¬(W.isEmpty=false/\W.length<=6/\(W.length=1\/W.head?≠some 48)):=by
      intro ⟨z1,z2,z3⟩
      refine g ⟨?_,z2,?_⟩
      .cases W with | nil=> simp at z1 | cons a b=> simp
      .rintro⟨y1,y2⟩
       rcases z3 with z3 | z3
       .omega
       .exact z3 y1
     rw[decide_eq_false g,if_neg g',if_neg (by simp)]
     rfl
   .have nall:W.all isDigit=false:=by
     rw[List.all_eq_false]
     exact⟨d,hd,by simp[hq]⟩
    rw[hr,if_neg (by simp; rintro rfl; exact n93 hd)]
    unfold znT
    rw[nall,Bool.and_false,if_neg (by simp)]
 .have w1:(r.takeWhile fun c=> c !=93).length=r.length:=by rw[zot fun x hx=> by simp only[bne_iff_ne,ne_eq]; rintro rfl; exact h93 hx]
  have w2:¬r.take 2=[42,93]:=fun h=> h93 (List.take_subset 2 r (by rw[h]; simp))
  have w3:¬(r.drop (r.takeWhile isDigit).length).take 1=[93]:=fun h=> h93 (List.drop_subset _ _ (List.take_subset 1 _ (by rw[h]; simp)))
  rw[if_pos w1,if_neg w2,if_neg w3]
theorem zjO{b:Nat}{w:Bool}{r:List Nat}(h1:O[p]? =some (.lst (fI path)))(hl:path.length<=2000)(hb:b<=path.length)(hd:path.drop b=r):
  match bracket (91::r) with
  | none=>∃O',za5 [.ref p,.int b,.bl w] O=some (.non,O')/\Fr O O' []
  | some (g,r')=>∃O' v e,za5 [.ref p,.int b,.bl w] O=some (v,O')/\zmF O' v ⟨w,g⟩ e/\path.drop e=r'/\b < e/\Fr O O' []:=by
 have hL:=zcx path
 have l1:=zaq h1
 have hrl:r.length=path.length - b:=by rw[<- hd]; simp
 have hlp:=zlg h1 (b:=b) (w:=w) (x:=none) r b 100000 hd (by omega)
 rw[zof]
 have htl:=zuQ (fun c=> c !=93) r
 have hsl:slc2 (fI path) (.int (b:Int)) (.int ((b + (r.takeWhile fun c=> c !=93).length:Nat):Int))=some (fI (r.takeWhile fun c=> c !=93)):=by
  unfold slc2
  dsimp only
  rw[if_pos (by omega),Int.toNat_natCast,Int.toNat_natCast,zpB,zpC,List.drop_take,Nat.add_sub_cancel_left,hd,zos]
 generalize (r.takeWhile fun c=> c !=93)=W at *
 by_cases c1:W.length=r.length
 .rw[if_pos c1]
  exact⟨O,zrD h1 hL hlp (by omega),Fr.refl⟩
 .rw[if_neg c1]
  have hz:¬((b + W.length:Nat):Int)=path.length:=by omega
  have hdr:path.drop (b + W.length + 1)=r.drop (W.length + 1):=by rw[<- hd,List.drop_drop,Nat.add_assoc]
  by_cases c2:W=[42]
  .subst c2
   rw[if_pos rfl]
   have E:=zrC h1 l1 hL hlp hz hsl q42 rfl (by rw[za8 (by simp),zaO rfl]) (by rw[zaO (by simp)])
   refine⟨_,_,b + 1 + 1,E,⟨_,_,rfl,?_,⟨(O ++ [FO.lst (fI [42])] ++ [FO.lst [.int 42]]).length,.int 1,.non,rfl,?_,rfl,rfl⟩⟩,hdr,by omega,?_⟩
   .rw[zaO (by simp)]; rfl
   .rw[za8 (by simp),zaO (by simp)]
   .exact ((Fr.new.trans (T:=[]) Fr.new fun _ _ h=> h).trans (T:=[]) Fr.new fun _ _ h=> h).trans (T:=[]) Fr.new fun _ _ h=> h
  .rw[if_neg c2]
   have hk:¬(W.map fun (n:Nat)=> (n:Int))=[42]:=fun h=> c2 (by
    match W,h with
    | [a],h=> simp at h; rw[show a=42 by omega])
   have g1:(O ++ [FO.lst (fI W)] ++ [FO.lst [.int 42]])[O.length]? =some (.lst (fI W)):=by rw[za8 (by simp),zaO rfl]
   obtain⟨O3,hN,F3⟩:=zmq g1 (by omega)
   have hV:=zn5 (F3.get g1 (by simp))
   have E:=zrB h1 l1 hL hlp hz hsl (zkx W) hk rfl g1 (by rw[zaO (by simp)]) hN hV
   have F:Fr O O3 []:=(Fr.new.trans (T:=[]) Fr.new fun _ _ h=> h).trans (T:=[]) F3 fun _ _ h=> h
   change za5 _ _=if znT W=false then _ else _ at E
   by_cases c3:znT W=true
   .rw[if_pos c3]
    rw[if_neg (by simp[c3])] at E
    have hall:W.all isDigit=true:=by unfold znT at c3; rw[Bool.and_eq_true] at c3; exact c3.2
    refine⟨_,_,b + W.length + 1,E,⟨_,_,rfl,?_,⟨O3.length,.int 1,.int (zxn W),rfl,?_,rfl,?_⟩⟩,hdr,by omega,?_⟩
    .rw[zaO (by simp)]; rfl
    .rw[za8 (by simp),zaO (by simp)]
    .rw[zsE W hall]
    .exact (F.trans (T:=[]) Fr.new fun _ _ h=> h).trans (T:=[]) Fr.new fun _ _ h=> h
   .rw[if_neg c3]
    rw[if_pos (by simpa using c3)] at E
    exact⟨O3,E,F⟩
theorem zoD(b:List Nat):stepOf b=match b.drop (zfD b) with
  | []=> none
  | c::t=> if c=91/\zfD b≠1 then (bracket (91::t)).map fun (x:Goal×Bytes)=> (⟨decide (zfD b=2),x.1⟩,x.2) else if zfD b=0 then none else (dotted (c::t)).map fun (x:Goal×Bytes)=> (⟨decide (zfD b=2),x.1⟩,x.2):=by
 match b with
 | []=> rfl
 | c::r=>
  by_cases c1:c=46
  .subst c1
   match r with
   | []=> rfl
   | d::r=>
    by_cases c2:d=46
    .subst c2
     have hd:zfD (46::46::r)=2:=rfl
     rw[hd]
     match r with
     | []=> rfl
     | e::r=>
      by_cases c3:e=91
      .subst c3; simp[stepOf]
      .simp[stepOf,c3]
    .have hd:zfD (46::d::r)=1:=by simp[zfD,c2]
     rw[hd]
     simp[stepOf,c2]
  .have hd:zfD (c::r)=0:=by simp[zfD,c1]
   rw[hd]
   by_cases c3:c=91
   .subst c3; simp[stepOf]
   .have:bracket (c::r)=none:=by simp[bracket,c3]
    simp[stepOf,c1,c3,this]
theorem zrp{at_:Nat}{d:Int}(h1:O[p]? =some (.lst (fI path)))(hL:(fI path).length=path.length)(hD:zeP [.ref p,.int at_] O=some (.int d,O))(hz:(at_:Int) + d=path.length):
  zcA [.ref p,.int at_] O=some (.non,O):=by
 unfold zcA zfL
 walk_at "evh"
theorem zro{at_:Nat}{d:Int}{c:Int}(h1:O[p]? =some (.lst (fI path)))(hL:(fI path).length=path.length)(hD:zeP [.ref p,.int at_] O=some (.int d,O))(hz:¬(at_:Int) + d=path.length)(hc:atF (fI path) ((at_:Int) + d)=some (.int c)):
  zcA [.ref p,.int at_] O=if c=91 then (if¬d=1 then za5 [.ref p,.int ((at_:Int) + d + 1),.bl (decide (d=2))] O else if d=0 then some (.non,O) else zbY [.ref p,.int ((at_:Int) + d),.bl (decide (d=2))] O) else if d=0 then some (.non,O) else zbY [.ref p,.int ((at_:Int) + d),.bl (decide (d=2))] O:=by
 unfold zcA zfL
 walk_at "evh"
 generalize za5 _ _=x
 generalize zbY _ _=y
 cases x <;> cases y <;> rfl
theorem zrQ(b:List Nat):zfD b<=b.length:=by
 match b with
 | []=> simp[zfD]
 | [c]=> by_cases h:c=46 <;> simp[zfD,h]
 | c::d::r=> by_cases h:c=46 <;> by_cases h':d=46 <;> simp[zfD,h,h']
theorem zpT{at_:Nat}{b:List Nat}(h1:O[p]? =some (.lst (fI path)))(hl:path.length<=2000)(ha:at_<=path.length)(hb:path.drop at_=b):
  match stepOf b with
  | none=>∃O',zcA [.ref p,.int at_] O=some (.non,O')/\Fr O O' []
  | some (s,r')=>∃O' v e,zcA [.ref p,.int at_] O=some (v,O')/\zmF O' v s e/\path.drop e=r'/\at_ < e/\Fr O O' []:=by
 have hL:=zcx path
 have hD:=zpW (at_:=at_) h1
 rw[hb] at hD
 have hbl:b.length=path.length - at_:=by rw[<- hb]; simp
 have hle:=zrQ b
 have hdd:path.drop (at_ + zfD b)=b.drop (zfD b):=by rw[<- hb,List.drop_drop]
 rw[zoD]
 generalize zfD b=d at *
 cases hr:b.drop d with
 | nil=>
  have:=zgJ hr
  exact⟨O,zrp h1 hL hD (by omega),Fr.refl⟩
 | cons c t=>
  rw[hr] at hdd
  obtain⟨q1,q2,q3⟩:=zgK hdd
  have hc:atF (fI path) ((at_:Int) + (d:Int))=some (.int c):=by rw[atP (n:=at_ + d) (by omega),q1]; rfl
  have E:=zro h1 hL hD (by omega) hc
  dsimp only
  have hw:decide ((d:Int)=2)=decide (d=2):=decide_eq_decide.mpr (by omega)
  rw[hw] at E
  have hM:=zkH (w:=decide (d=2)) h1 hl hdd
  have hE:=zjO (b:=at_ + d + 1) (w:=decide (d=2)) h1 hl (by omega) q2
  rw[show ((at_ + d + 1:Nat):Int)=(at_:Int) + d + 1 by omega] at hE
  rw[show ((at_ + d:Nat):Int)=(at_:Int) + d by omega] at hM
  by_cases c1:c=91/\d≠1
  .rw[if_pos (by omega),if_pos (by omega)] at E
   rw[if_pos c1,E]
   cases hB:bracket (91::t) with
   | none=> rw[hB] at hE; exact hE
   | some x=>
    rw[hB] at hE
    obtain⟨O',v,e,k1,k2,k3,k4,k5⟩:=hE
    exact⟨O',v,e,k1,k2,k3,by omega,k5⟩
  .rw[if_neg c1]
   have E':zcA [.ref p,.int at_] O=if (d:Int)=0 then some (.non,O) else zbY [.ref p,.int ((at_:Int) + d),.bl (decide (d=2))] O:=by
    rw[E]
    by_cases c2:c=91
    .rw[if_pos (by omega),if_neg (by omega)]
    .rw[if_neg (by omega)]
   by_cases c3:d=0
   .rw[if_pos (by omega)] at E'
    rw[if_pos c3]
    exact⟨O,E',Fr.refl⟩
   .rw[if_neg (by omega)] at E'
    rw[if_neg c3,E']
    cases hB:dotted (c::t) with
    | none=> rw[hB] at hM; exact⟨O,hM,Fr.refl⟩
    | some x=>
     rw[hB] at hM
     obtain⟨O',v,e,k1,k2,k3,k4,k5⟩:=hM
     exact⟨O',v,e,k1,k2,k3,by omega,k5⟩
def StepsAt(O:FH):Path->List FV->Prop
 | [],[]=> True
 | s::p,v::vs=> StepAt O s v/\StepsAt O p vs
 | _,_=> False
theorem StepsAt.keep{O O':FH}(k:Kp O O'):∀{p:Path} {vs:List FV},StepsAt O p vs->StepsAt O' p vs
 | [],[],_=> trivial
 | _::_,_::_,h=> ⟨h.1.keep k,StepsAt.keep k h.2⟩
theorem StepsAt.len{O:FH}:∀{p:Path} {vs:List FV},StepsAt O p vs->vs.length=p.length
 | [],[],_=> rfl
 | _::_,_::_,h=> by simp[StepsAt.len h.2]
theorem StepsAt.snoc{O:FH}{s:Step}{v:FV}(h':StepAt O s v):∀{p:Path} {vs:List FV},StepsAt O p vs->StepsAt O (p ++ [s]) (vs ++ [v])
 | [],[],_=> ⟨h',trivial⟩
 | _::_,_::_,h=> ⟨h.1,StepsAt.snoc h' h.2⟩
end
section
variable {O O1:FH}{p L:Nat}{path:List Nat}
def stC:MT:=tCmp cLt (eV 2) (eLen (eV 0))
def stB:MS:=(sSeq (sSet 3 (eCall zcA (aCons (eV 0) (aCons (eV 2) aNil)))) (sSeq (sIf (tOr (zmI (eV 3)) (tCmp cEq (eLen (eV 1)) (eC (.int 8)))) (sRet (eC .non)) sNx) (sSeq (sEx (eApp (eV 1) (eIxT (eV 3) (eC (.int 0))))) (sSet 2 (eIxT (eV 3) (eC (.int 1)))))))
theorem zv8{x y:Option FV}{at_:Int}(h1:O[p]? =some (.lst (fI path)))(hL:(fI path).length=path.length):stC [some (.ref p),y,some (.int at_),x] O=some (decide (at_ < path.length),O):=by
 unfold stC
 walk_at "evh"
theorem ztJ{x y:Option FV}{at_:Int}(hS:zcA [.ref p,.int at_] O=some (.non,O1)):stB [some (.ref p),y,some (.int at_),x] O=some (.rt .non,O1):=by
 unfold stB
 walk_at "evh"
theorem ztI{x:Option FV}{at_:Int}{f:Nat}{vs:List FV}(hS:zcA [.ref p,.int at_] O=some (.ref f,O1))(h2:O1[L]? =some (.lst vs))(hn:(vs.length:Int)=8):stB [some (.ref p),some (.ref L),some (.int at_),x] O=some (.rt .non,O1):=by
 unfold stB
 walk_at "evh"
theorem ztH{x:Option FV}{at_:Int}{f:Nat}{vs:List FV}{sv:FV}{e:Int}(hS:zcA [.ref p,.int at_] O=some (.ref f,O1))(h2:O1[L]? =some (.lst vs))(hn:¬(vs.length:Int)=8)(hn':vs.length < LIM)(hf:O1[f]? =some (.tup [sv,.int e]))(hne:L≠f)
  (a0:atF [sv,FV.int e] 0=some sv) (a1:atF [sv,FV.int e] 1=some (.int e)):
  stB [some (.ref p),some (.ref L),some (.int at_),x] O=some (.nx [some (.ref p),some (.ref L),some (.int e),some (.ref f)],O1.set L (.lst (vs ++ [sv]))):=by
 unfold stB
 walk_at "evh"
theorem zf8(n:Nat)(b:List Nat)(hb:b≠[]):stepsOf n b=match n,stepOf b with
  | k + 1,some (s,r)=> (stepsOf k r).map fun (p:Path)=> s::p
  | _,_=> none:=by
 cases n with
 | zero=> unfold stepsOf; rw[if_neg hb]
 | succ k=> rw[stepsOf.eq_def]; dsimp only; rw[if_neg hb]; rfl
theorem ziH(n:Nat):stepsOf n []=some []:=by
 unfold stepsOf; rfl
theorem zj2(hl:path.length<=2000):∀(fuel at_:Nat) (b:List Nat) (done:Path) (vs:List FV) (x:Option FV) (O:FH),O[p]? =some (.lst (fI path))->O[L]? =some (.lst vs)->p≠L->StepsAt O done vs->done.length<=8->path.drop at_=b->b.length < fuel->
  match stepsOf (8 - done.length) b with
  | none=>∃O',loopW stC stB fuel [some (.ref p),some (.ref L),some (.int at_),x] O=some (.rt .non,O')/\Fr O O' [L]
  | some q=>∃O' vs' z y,loopW stC stB fuel [some (.ref p),some (.ref L),some (.int at_),x] O=some (.nx [some (.ref p),some (.ref L),z,y],O')/\O'[L]? =some (.lst vs')/\StepsAt O' (done ++ q) vs'/\Fr O O' [L]
 | 0,_,_,_,_,_,_,_,_,_,_,_,_,hf=> by omega
 | fuel + 1,at_,b,done,vs,x,O,h1,h2,hne,hS,hd,hb,hf=> by
  have hL:=zcx path
  have hbl:b.length=path.length - at_:=by rw[<- hb]; simp
  rw[loopW,zv8 h1 hL,zbN]
  dsimp only
  by_cases c1:b=[]
  .subst c1
   have hz:=zgJ hb
   rw[if_neg (by simp; omega)]
   rw[ziH]
   exact⟨O,vs,_,_,rfl,h2,by rw[List.append_nil]; exact hS,Fr.refl⟩
  .have hpos:0 < b.length:=by cases b with | nil=> exact absurd rfl c1 | cons _ _=> simp
   rw[if_pos (by simp; omega),zf8 _ _ c1]
   have hst:=zpT h1 hl (by omega) hb
   cases hB:stepOf b with
   | none=>
    rw[hB] at hst
    obtain⟨O',E,F⟩:=hst
    rw[ztJ E]
    have:(match 8 - done.length,(none:Option (Step×Bytes)) with
     | k + 1,some (s,r)=> (stepsOf k r).map fun (p:Path)=> s::p
     | _,_=> none)=none:=by cases 8 - done.length <;> rfl
    rw[this]
    exact⟨O',rfl,F.mono (by simp)⟩
   | some y=>
    obtain⟨s,r⟩:=y
    rw[hB] at hst
    obtain⟨O',v,e,E,⟨f,sv,rfl,hf2,hsv⟩,hr,he,F⟩:=hst
    have h2':=F.get h2 (by simp)
    have h1':=F.get h1 (by simp)
    have hSl:=hS.len
    by_cases c2:done.length=8
    .rw[ztI E h2' (by omega),c2]
     exact⟨O',rfl,F.mono (by simp)⟩
    .have hnf:L≠f:=zaU h2' hf2 (by simp)
     rw[ztH E h2' (by omega) (by unfold LIM; omega) hf2 hnf rfl rfl,zbN]
     dsimp only
     have hb8:8 - done.length=(8 - (done.length + 1)) + 1:=by omega
     rw[hb8]
     dsimp only
     have lL:=zaq h2'
     have Fs:Fr O' (O'.set L (.lst (vs ++ [sv]))) [L]:=Fr.set (by simp)
     have K1:Kp O O':=F.kp (by simp)
     have K2:Kp O' (O'.set L (.lst (vs ++ [sv]))):=Fs.kp (by
      intro j hj xs h
      simp at hj; subst hj
      rw[h2'] at h; cases h)
     have hS2:StepsAt (O'.set L (.lst (vs ++ [sv]))) (done ++ [s]) (vs ++ [sv]):=((hS.keep K1).keep K2).snoc (hsv.keep K2)
     have hrl:r.length=path.length - e:=by rw[<- hr]; simp
     have ih:=zj2 hl fuel e r (done ++ [s]) (vs ++ [sv]) (some (.ref f)) (O'.set L (.lst (vs ++ [sv]))) (by rw[zaR hne.symm]; exact h1') (za7 lL) hne hS2 (by simp; omega) hr (by omega)
     have F2:Fr O (O'.set L (.lst (vs ++ [sv]))) [L]:=(F.mono (by simp)).trans Fs fun _ _ h=> h
     rw[List.length_append,List.length_singleton] at ih
     cases hq:stepsOf (8 - (done.length + 1)) r with
     | none=>
      rw[hq] at ih
      obtain⟨O'',E2,F3⟩:=ih
      exact⟨O'',E2,F2.trans F3 fun _ _ h=> h⟩
     | some q=>
      rw[hq] at ih
      obtain⟨O'',vs',z,y,E2,k1,k2,F3⟩:=ih
      exact⟨O'',vs',z,y,E2,k1,by rw[List.append_assoc] at k2; exact k2,F2.trans F3 fun _ _ h=> h⟩
def zxl(O:FH)(v:FV)(q:Path):Prop:=∃L vs,v= .ref L/\O[L]? =some (.lst vs)/\StepsAt O q vs
theorem zpE(h1:O[p]? =some (.lst (fI path)))(hL:(fI path).length=path.length)(hz:(300:Int) < path.length):zbw [.ref p] O=some (.non,O):=by
 unfold zbw zeJ
 walk_at "evh"
theorem zlq{y:Out}(h1:O[p]? =some (.lst (fI path)))(hL:(fI path).length=path.length)(hz:¬(300:Int) < path.length)(hw:loopW stC stB 100000 [some (.ref p),some (.ref O.length),some (.int 0),none] (O ++ [.lst []])=some (y,O1)):
  zbw [.ref p] O=match y with | .nx σ=> (eV 1 σ O1).bind fun p=> some (p.1,p.2) | .rt v=> some (v,O1):=by
 unfold stC stB at hw
 unfold zbw zeJ
 walk_at "evh"
 cases y with
 | nx σ=> walk_at "ev"; cases σ[1]? with
  | none=> rfl
  | some z=> cases z <;> rfl
 | rt v=> walk_at "ev"
theorem zkc(h1:O[p]? =some (.lst (fI path)))(hl:path.length<=69000):
  match pathOf path with
  | none=>∃O',zbw [.ref p] O=some (.non,O')/\Fr O O' []
  | some q=>∃O' v,zbw [.ref p] O=some (v,O')/\zxl O' v q/\O.length<=(match v with | .ref i=> i | _=> 0)/\Fr O O' []:=by
 have hL:=zcx path
 unfold pathOf PATH STEPS
 by_cases c1:path.length<=300
 .rw[if_pos c1]
  have l1:=zaq h1
  have h:=zj2 (p:=p) (L:=O.length) (path:=path) (by omega) 100000 0 path [] [] none (O ++ [.lst []]) (by rw[za8 l1]; exact h1) (zaO rfl) (by omega) trivial (by simp) rfl (by omega)
  simp only[List.length_nil,Nat.sub_zero,List.nil_append] at h
  have Fn:Fr O (O ++ [FO.lst []]) []:=Fr.new
  have Ft:∀{O'},Fr (O ++ [FO.lst []]) O' [O.length]->Fr O O' []:=fun F=> Fn.trans F fun j hj hm=> by simp at hm; omega
  cases hq:stepsOf 8 path with
  | none=>
   rw[hq] at h
   obtain⟨O',E,F⟩:=h
   exact⟨O',zlq h1 hL (by omega) E,Ft F⟩
  | some q=>
   rw[hq] at h
   obtain⟨O',vs',z,y,E,k1,k2,F⟩:=h
   exact⟨O',.ref O.length,zlq h1 hL (by omega) E,⟨_,_,rfl,k1,k2⟩,Nat.le_refl _,Ft F⟩
 .rw[if_neg c1]
  exact⟨O,zpE h1 hL (by omega),Fr.refl⟩
end
open Sf Sq
section
variable {κ:Type}[DecidableEq κ]
theorem ziC(k:κ):getD k ([]:List (κ×FV))=none:=rfl
theorem zdC(k:κ)(p:κ×FV)(l:List (κ×FV)):getD k (p::l)=if p.1=k then some p.2 else getD k l:=by
 unfold getD
 rw[List.find?_cons]
 by_cases h:p.1=k
 .rw[if_pos h]; simp[h]
 .rw[if_neg h]; simp[h]
theorem zmd(k:κ)(l r:List (κ×FV)):getD k (l ++ r)=(getD k l).or (getD k r):=by
 induction l with
 | nil=> rfl
 | cons p l ih=> rw[List.cons_append,zdC,zdC]; split <;> simp[ih]
theorem getD_none(k:κ)(l:List (κ×FV)):(l.any fun p=> decide (p.1=k))=true↔¬getD k l=none:=by
 induction l with
 | nil=> simp[ziC]
 | cons p l ih=>
  rw[List.any_cons,zdC]
  by_cases h:p.1=k
  .simp[h]
  .rw[if_neg h,Bool.or_eq_true]; simp only[h,decide_false,Bool.false_eq_true,false_or]; exact ih
theorem zrh(k k':κ)(v:FV)(l:List (κ×FV)):getD k' (l.map fun p=> if p.1=k then (p.1,v) else p)=if k'=k then (if getD k l=none then none else some v) else getD k' l:=by
 induction l with
 | nil=> simp[ziC]
 | cons p l ih=>
  rw[List.map_cons,zdC,zdC,zdC,ih]
  by_cases h:p.1=k
  .rw[if_pos h]
   by_cases h':k'=k
   .subst h'; simp[h]
   .have:¬p.1=k':=fun z=> h' (z.symm.trans h)
    simp[h',this]
  .rw[if_neg h]
   by_cases h':k'=k
   .subst h'; simp[h]
   .simp[h']
theorem ziB(k k':κ)(v:FV)(l:List (κ×FV)):getD k' (putD k v l)=if k'=k then some v else getD k' l:=by
 unfold putD
 by_cases h:(l.any fun p=> decide (p.1=k))=true
 .rw[if_pos h,zrh,if_neg ((getD_none k l).mp h)]
 .rw[if_neg h,zmd,zdC,ziC]
  have hn:getD k l=none:=by
   by_cases z:getD k l=none
   .exact z
   .exact absurd ((getD_none k l).mpr z) h
  by_cases h':k'=k
  .subst h'; simp[hn]
  .rw[if_neg h',if_neg (fun z=> h' z.symm)]; simp
theorem zoQ(k:κ)(v:FV)(l:List (κ×FV)):(putD k v l).length<=l.length + 1:=by
 unfold putD; split <;> simp
theorem zmU(k:κ)(v:FV)(l:List (κ×FV)):(putD k v l).map (·.1)=if (l.any fun p=> decide (p.1=k))=true then l.map (·.1) else l.map (·.1) ++ [k]:=by
 unfold putD
 split
 .rw[List.map_map]; apply List.map_congr_left; intro p _; dsimp only[Function.comp]; split <;> rfl
 .simp
end
theorem zne(k k':Int)(l:List (Int×FV)):getD k' (delD k l)=if k'=k then none else getD k' l:=by
 unfold delD
 induction l with
 | nil=> simp[ziC]
 | cons p l ih=>
  rw[List.filter_cons]
  by_cases h:p.1=k
  .rw[if_neg (by simp[h]),ih,zdC]
   by_cases h':k'=k
   .simp[h']
   .rw[if_neg h',if_neg h',if_neg (fun z=> h' (z.symm.trans h))]
  .rw[if_pos (by simp[h]),zdC,zdC,ih]
   by_cases h':k'=k
   .subst h'; simp[h]
   .simp[h']
theorem zvS{k:Int}{v:FV}{l:List (Int×FV)}(h:okKeys l=true)(hk:0<=k/\k < 16):okKeys (putD k v l)=true:=by
 unfold okKeys at h |-
 rw[Bool.and_eq_true,decide_eq_true_eq] at h |-
 constructor
 .rw[zmU]
  split
  .exact h.1
  .rename_i hn
   rw[List.nodup_append]
   refine⟨h.1,by simp,?_⟩
   intro a ha b hb
   simp at hb
   subst hb
   rintro rfl
   rw[List.mem_map] at ha
   obtain⟨p,hp,e⟩:=ha
   exact hn (List.any_eq_true.mpr ⟨p,hp,by simp[e]⟩)
 .rw[List.all_eq_true]
  intro p hp
  have:p.1∈(putD k v l).map (·.1):=List.mem_map_of_mem hp
  rw[zmU] at this
  have hl:p.1∈l.map (·.1)\/p.1=k:=by
   split at this
   .exact .inl this
   .simpa using this
  rcases hl with hl | hl
  .rw[List.mem_map] at hl
   obtain⟨r,hr,e⟩:=hl
   have:=List.all_eq_true.mp h.2 r hr
   rw[<- e]; exact this
  .rw[hl]; simp[hk]
theorem zvT{k:Int}{l:List (Int×FV)}(h:okKeys l=true):okKeys (delD k l)=true:=by
 unfold okKeys at h |-
 rw[Bool.and_eq_true,decide_eq_true_eq] at h |-
 constructor
 .unfold delD
  exact h.1.sublist (List.Sublist.map _ List.filter_sublist)
 .rw[List.all_eq_true]
  intro p hp
  exact List.all_eq_true.mp h.2 p (List.mem_filter.mp hp).1
def zfm:Goal->Option NK
 | .name b=> some (0,.inr (b.map fun (n:Nat)=> (n:Int)))
 | .number i=> some (1,.inl i)
 | _=> none
def zdL:Place->NK
 | .member b=> (0,.inr (b.map fun (n:Nat)=> (n:Int)))
 | .element i=> (1,.inl i)
structure Lay where
 root:Nat
 wide:Nat
 a0:Nat
 a1:Nat
 only:NK->Nat
def Lay.fit(L:Lay)(x:Place):Nat:=(match x with | .member _=> L.a0 | .element _=> L.a1) ||| L.only (zdL x)
def zqh(L:Lay)(s:Step)(B:Nat):Lay:=
 {root:=L.root,wide:=if s.deep=true then L.wide ||| B else L.wide,
  a0:=(match s.goal with | .members=> L.a0 ||| B | _=> L.a0),a1:=(match s.goal with | .elements=> L.a1 ||| B | _=> L.a1),
  only:=(match zfm s.goal with | some k=> fun k'=> if k'=k then L.only k ||| B else L.only k' | none=> L.only)}
def zq6(L:Lay)(B:Nat):Path->Lay
 | []=> L
 | s::p=> zq6 (zqh L s B) (B <<< 16) p
theorem zlc{a b:List Nat}(h:a.map (fun (n:Nat)=> (n:Int))=b.map (fun (n:Nat)=> (n:Int))):a=b:=
 (List.map_inj_right (fun x y h=> by omega)).mp h
theorem zq8(L:Lay)(s:Step)(B:Nat)(x:Place):(zqh L s B).fit x=if s.goal.fits x=true then L.fit x ||| B else L.fit x:=by
 unfold zqh Lay.fit
 cases hg:s.goal with
 | name b=>
  cases x with
  | member n=>
   simp only[zfm,zdL,Goal.fits]
   by_cases h:b=n
   .subst h; simp[Nat.or_assoc]
   .have h2:¬((0:Int),(Sum.inr (n.map fun (n:Nat)=> (n:Int)):Sum Int (List Int)))=(0,.inr (b.map fun (n:Nat)=> (n:Int))):=fun z=> h (by injection z with _ z; injection z with z; exact (zlc z).symm)
    simp only[h2,if_false]
    simp[h]
  | element i=> simp[zfm,zdL,Goal.fits]
 | members=>
  cases x with
  | member n=> simp[zfm,zdL,Goal.fits,Nat.or_assoc,Nat.or_comm B]
  | element i=> simp[zfm,zdL,Goal.fits]
 | number j=>
  cases x with
  | member n=> simp[zfm,zdL,Goal.fits]
  | element i=>
   simp only[zfm,zdL,Goal.fits]
   by_cases h:j=i
   .subst h; simp[Nat.or_assoc]
   .have h2:¬((1:Int),(Sum.inl (i:Int):Sum Int (List Int)))=(1,.inl (j:Int)):=fun z=> h (by injection z with _ z; injection z with z; omega)
    simp only[h2,if_false]
    simp[h]
 | elements=>
  cases x with
  | member n=> simp[zfm,zdL,Goal.fits]
  | element i=> simp[zfm,zdL,Goal.fits,Nat.or_assoc,Nat.or_comm B]
def zqi(P:Step->Bool)(q:Path)(b k i:Nat):Bool:=decide (i % 16=k) && (decide (b<=i / 16) && (match q[i / 16 - b]? with | some s=> P s | none=> false))
theorem zrb(P:Step->Bool)(s:Step)(q:Path)(b k i:Nat)(hk:k < 16):zqi P (s::q) b k i=((P s && decide (i=16 * b + k)) || zqi P q (b + 1) k i):=by
 unfold zqi
 by_cases h1:i % 16=k
 .by_cases h2:i / 16=b
  .have e:i=16 * b + k:=by omega
   have z:¬b + 1<=b:=by omega
   rw[decide_eq_true e]
   simp only[h1,h2,Nat.sub_self,List.getElem?_cons_zero,decide_true,Nat.le_refl,Bool.true_and,z,decide_false,Bool.false_and,Bool.or_false,Bool.and_true]
  .have e:¬i=16 * b + k:=by omega
   by_cases h3:b<=i / 16
   .have z:b + 1<=i / 16:=by omega
    have e2:i / 16 - b=(i / 16 - (b + 1)) + 1:=by omega
    simp only[h1,h3,e,z,decide_true,decide_false,Bool.and_false,Bool.false_or,Bool.true_and,e2,List.getElem?_cons_succ]
   .have z:¬b + 1<=i / 16:=by omega
    simp[h1,h3,e,z]
 .have e:¬i=16 * b + k:=by omega
  simp[h1,e]
theorem zm8(f:Lay->Nat)(P:Step->Bool)(hf:∀L s B,f (zqh L s B)=if P s=true then f L ||| B else f L)(k:Nat)(hk:k < 16):∀(q:Path) (b:Nat) (L:Lay) (i:Nat),(f (zq6 L (2 ^ (16 * b + k)) q)).testBit i=((f L).testBit i || zqi P q b k i)
 | [],b,L,i=> by unfold zq6 zqi; simp
 | s::q,b,L,i=> by
  unfold zq6
  have e:(2 ^ (16 * b + k)) <<< 16=2 ^ (16 * (b + 1) + k):=by
   rw[Nat.shiftLeft_eq,<- Nat.pow_add]; congr 1; omega
  rw[e,zm8 f P hf k hk q (b + 1) _ i,hf,zrb P s q b k i hk]
  by_cases h:P s=true
  .rw[if_pos h,Nat.testBit_or,Nat.testBit_two_pow,h,Bool.true_and]
   rw[show decide (16 * b + k=i)=decide (i=16 * b + k) from decide_eq_decide.mpr ⟨Eq.symm,Eq.symm⟩,Bool.or_assoc]
  .simp[h]
def zxr(L:Lay)(k:Nat)(q:Path):Lay:=zq6 {L with root:=L.root ||| 2 ^ (16 * (8 - q.length) + k)} (2 ^ (16 * (8 - q.length) + k)) q
def zqg(l:List (Option Quest))(L:Lay)(k:Nat):Lay:=match l[k]? with
 | some (some Q)=> zxr L k Q.path
 | _=> L
def zu6(l:List (Option Quest))(P:Step->Bool)(i:Nat):Bool:=match l[i % 16]? with
 | some (some Q)=> zqi P Q.path (8 - Q.path.length) (i % 16) i
 | _=> false
def zsQ(l:List (Option Quest))(i:Nat):Bool:=match l[i % 16]? with
 | some (some Q)=> decide (i=16 * (8 - Q.path.length) + i % 16)
 | _=> false
theorem ziD(l:List (Option Quest))(f:Lay->Nat)(h:Nat->Nat->Bool)(hf:∀L k i,k < 16->(f (zqg l L k)).testBit i=((f L).testBit i || h k i)):∀(ks:List Nat) (L:Lay) (i:Nat),(∀k∈ks,k < 16)->(f (ks.foldl (zqg l) L)).testBit i=((f L).testBit i || ks.any fun k=> h k i)
 | [],L,i,_=> by simp
 | k::ks,L,i,hk=> by
  rw[List.foldl_cons,ziD l f h hf ks _ i (fun x hx=> hk x (by simp[hx])),hf L k i (hk k (by simp)),List.any_cons,Bool.or_assoc]
theorem zp5(l:List (Option Quest))(h:Nat->Nat->Bool)(hh:∀k i,h k i=true->i % 16=k/\∃Q,l[k]? =some (some Q))(ks:List Nat)(hks:∀k,k∈ks↔k < 16/\∃Q,l[k]? =some (some Q))(i:Nat):(ks.any fun k=> h k i)=h (i % 16) i:=by
 rw[Bool.eq_iff_iff,List.any_eq_true]
 constructor
 .rintro⟨k,hk,hb⟩
  rw[(hh k i hb).1]; exact hb
 .intro hb
  exact⟨i % 16,(hks _).mpr ⟨by omega,(hh _ _ hb).2⟩,hb⟩
def zuN(l:List (Option Quest))(P:Step->Bool)(k i:Nat):Bool:=match l[k]? with
 | some (some Q)=> zqi P Q.path (8 - Q.path.length) k i
 | _=> false
def zmc(l:List (Option Quest))(k i:Nat):Bool:=match l[k]? with
 | some (some Q)=> decide (i=16 * (8 - Q.path.length) + k)
 | _=> false
theorem zm9(l:List (Option Quest))(f:Lay->Nat)(P:Step->Bool)(hf:∀L s B,f (zqh L s B)=if P s=true then f L ||| B else f L)(h0:∀L r,f {L with root:=r}=f L)(L:Lay)(k i:Nat)(hk:k < 16):(f (zqg l L k)).testBit i=((f L).testBit i || zuN l P k i):=by
 unfold zqg zuN
 split
 .rename_i Q hQ
  unfold zxr
  rw[zm8 f P hf k hk,h0]
 .simp
theorem zlk:∀(q:Path) (B:Nat) (L:Lay),(zq6 L B q).root=L.root
 | [],_,_=> rfl
 | s::q,B,L=> by unfold zq6; rw[zlk q]; rfl
theorem zpk(l:List (Option Quest))(L:Lay)(k i:Nat)(hk:k < 16):(zqg l L k).root.testBit i=(L.root.testBit i || zmc l k i):=by
 unfold zqg zmc
 split
 .rename_i Q hQ
  unfold zxr
  rw[zlk]
  dsimp only
  rw[Nat.testBit_or,Nat.testBit_two_pow,show decide (16 * (8 - Q.path.length) + k=i)=decide (i=16 * (8 - Q.path.length) + k) from decide_eq_decide.mpr ⟨Eq.symm,Eq.symm⟩]
 .simp
theorem zpu{l:List (Option Quest)}{P:Step->Bool}{k i:Nat}(h:zuN l P k i=true):i % 16=k/\∃Q,l[k]? =some (some Q):=by
 unfold zuN at h
 split at h
 .rename_i Q hQ
  unfold zqi at h
  rw[Bool.and_eq_true,decide_eq_true_eq] at h
  exact⟨h.1,Q,hQ⟩
 .cases h
theorem znd{l:List (Option Quest)}{k i:Nat}(hk:k < 16)(h:zmc l k i=true):i % 16=k/\∃Q,l[k]? =some (some Q):=by
 unfold zmc at h
 split at h
 .rename_i Q hQ
  rw[decide_eq_true_eq] at h
  exact⟨by omega,Q,hQ⟩
 .cases h
def lay0:Lay:=⟨0,0,0,0,fun _=> 0⟩
structure LayOk (l:List (Option Quest)) (L:Lay):Prop where
 root:∀i,L.root.testBit i=zsQ l i
 wide:∀i,L.wide.testBit i=zu6 l (·.deep) i
 fit:∀x i,(L.fit x).testBit i=zu6 l (fun s=> s.goal.fits x) i
theorem zse(l:List (Option Quest))(ks:List Nat)(hks:∀k,k∈ks↔k < 16/\∃Q,l[k]? =some (some Q)):LayOk l (ks.foldl (zqg l) lay0):=by
 have hk:∀k∈ks,k < 16:=fun k h=> ((hks k).mp h).1
 refine⟨fun i=> ?_,fun i=> ?_,fun x i=> ?_⟩
 .rw[ziD l Lay.root (zmc l) (fun L k i h=> zpk l L k i h) ks lay0 i hk]
  have e:(ks.any fun k=> zmc l k i)=zmc l (i % 16) i:=by
   rw[Bool.eq_iff_iff,List.any_eq_true]
   constructor
   .rintro⟨k,h1,hb⟩
    rw[(znd (hk k h1) hb).1]; exact hb
   .intro hb
    exact⟨i % 16,(hks _).mpr ⟨by omega,(znd (by omega) hb).2⟩,hb⟩
  rw[e]
  show (Nat.testBit 0 i || _)=_
  rw[Nat.zero_testBit,Bool.false_or]
  rfl
 .rw[ziD l Lay.wide (zuN l (·.deep)) (fun L k i h=> zm9 l Lay.wide (·.deep) (fun _ _ _=> rfl) (fun _ _=> rfl) L k i h) ks lay0 i hk,zp5 l _ (fun _ _=> zpu) ks hks]
  show (Nat.testBit 0 i || _)=_
  rw[Nat.zero_testBit,Bool.false_or]
  rfl
 .rw[ziD l (fun L=> L.fit x) (zuN l fun s=> s.goal.fits x) (fun L k i h=> zm9 l (fun L=> L.fit x) (fun s=> s.goal.fits x) (fun L s B=> zq8 L s B x) (fun _ _=> by cases x <;> rfl) L k i h) ks lay0 i hk,zp5 l _ (fun _ _=> zpu) ks hks]
  have:(lay0.fit x).testBit i=false:=by cases x <;> simp[Lay.fit,lay0]
  rw[this,Bool.false_or]
  rfl
def zlW(q:Path)(w:List Place):List Nat:=w.foldl (advance q) [0]
def zk5(l:List (Option Quest))(w:List Place)(i:Nat):Bool:=match l[i % 16]? with
 | some (some Q)=> decide (8 - Q.path.length<=i / 16) && (zlW Q.path w).contains (i / 16 - (8 - Q.path.length))
 | _=> false
def zeD(l:List (Option Quest))(w:List Place)(n:Nat):Prop:=∀i,n.testBit i=zk5 l w i
structure QOk (l:List (Option Quest)):Prop where
 len:l.length=16
 short:∀(k:Nat) (Q:Quest),l[k]? =some (some Q)->Q.path.length<=8
theorem zj0(q:Path)(w:List Place)(x:Place):zlW q (w ++ [x])=advance q (zlW q w) x:=by unfold zlW; rw[List.foldl_append]; rfl
theorem zjz(q:Path)(a:List Nat)(x:Place)(j:Nat):(advance q a x).contains j=((decide (0 < j) && (a.contains (j - 1) && (match q[j - 1]? with | some s=> s.goal.fits x | none=> false))) ||(a.contains j && (match q[j]? with | some s=> s.deep | none=> false))):=by
 unfold advance
 rw[Bool.eq_iff_iff,List.contains_iff_mem,List.mem_filter,List.mem_range]
 refine⟨fun h=> h.2,fun h=> ⟨?_,h⟩⟩
 rw[Bool.or_eq_true] at h
 rcases h with h | h
 .rw[Bool.and_eq_true,Bool.and_eq_true,decide_eq_true_eq] at h
  have:=h.2.2
  split at this
  .rename_i s hs
   have:=(List.getElem?_eq_some_iff.mp hs).1
   omega
  .cases this
 .rw[Bool.and_eq_true] at h
  have:=h.2
  split at this
  .rename_i s hs
   have:=(List.getElem?_eq_some_iff.mp hs).1
   omega
  .cases this
theorem zl2{l:List (Option Quest)}{n:Nat}(h:∀i,n.testBit i=zsQ l i):zeD l [] n:=fun i=> by
 rw[h]
 unfold zsQ zk5 zlW
 split
 .rename_i Q hQ
  show _=(_ && List.contains [0] _)
  rw[Bool.eq_iff_iff]
  simp only[decide_eq_true_eq,Bool.and_eq_true,List.contains_iff_mem,List.mem_singleton]
  omega
 .rfl
theorem zk4{l:List (Option Quest)}{w:List Place}{x:Place}{n fit wide:Nat}(h:zeD l w n)(hf:∀i,fit.testBit i=zu6 l (fun s=> s.goal.fits x) i)(hw:∀i,wide.testBit i=zu6 l (·.deep) i):
  zeD l (w ++ [x]) (((n &&& fit) <<< 16) |||(n &&& wide)):=fun i=> by
 rw[Nat.testBit_or,Nat.testBit_shiftLeft,Nat.testBit_and,Nat.testBit_and,h,h,hf,hw]
 unfold zk5 zu6
 by_cases h16:16<=i
 .have e1:(i - 16) % 16=i % 16:=by omega
  have e2:(i - 16) / 16=i / 16 - 1:=by omega
  rw[e1]
  cases hq:l[i % 16]? with
  | none=> simp
  | some o=>
   cases o with
   | none=> simp
   | some Q=>
    dsimp only
    rw[zj0,zjz]
    unfold zqi
    rw[e1,e2,decide_eq_true h16]
    generalize 8 - Q.path.length=b
    simp only[decide_true,Bool.true_and]
    by_cases c1:b<=i / 16
    .by_cases c2:b<=i / 16 - 1
     .by_cases c3:0 < i / 16 - b
      .rw[show i / 16 - 1 - b=i / 16 - b - 1 by omega]
       simp[c1,c2,c3]
      .omega
     .have c3:¬0 < i / 16 - b:=by omega
      simp[c1,c2,c3]
    .have c2:¬b<=i / 16 - 1:=by omega
     simp[c1,c2]
 .rw[decide_eq_false (by omega),Bool.false_and,Bool.false_or]
  cases hq:l[i % 16]? with
  | none=> simp
  | some o=>
   cases o with
   | none=> simp
   | some Q=>
    dsimp only
    rw[zj0,zjz]
    unfold zqi
    generalize 8 - Q.path.length=b
    by_cases c1:b<=i / 16
    .have c3:¬0 < i / 16 - b:=by omega
     simp[c1,c3]
    .simp[c1]
theorem zmK(f:Nat->Bool):∀(n:Nat),((List.range n).map fun k=> if f k=true then 2 ^ k else 0).sum < 2 ^ n/\∀i,(((List.range n).map fun k=> if f k=true then 2 ^ k else 0).sum).testBit i=(decide (i < n) && f i)
 | 0=> ⟨by simp,fun i=> by simp⟩
 | n + 1=> by
  obtain⟨h1,h2⟩:=zmK f n
  rw[List.range_succ,List.map_append,List.sum_append,List.map_singleton]
  have e:[if f n=true then 2 ^ n else 0].sum=if f n=true then 2 ^ n else 0:=by simp
  rw[e]
  generalize ((List.range n).map fun k=> if f k=true then 2 ^ k else 0).sum=s at h1 h2 |-
  by_cases hn:f n=true
  .rw[if_pos hn]
   refine⟨by rw[Nat.pow_succ]; omega,fun i=> ?_⟩
   have e2:s + 2 ^ n=2 ^ n ||| s:=by
    have:=Nat.two_pow_add_eq_or_of_lt h1 1
    rw[Nat.mul_one] at this
    rw[Nat.add_comm]; exact this
   rw[e2,Nat.testBit_or,Nat.testBit_two_pow,h2]
   by_cases c:i=n
   .subst c; simp[hn]
   .have c':¬n=i:=fun z=> c z.symm
    rw[decide_eq_false c',Bool.false_or,show decide (i < n + 1)=decide (i < n) from decide_eq_decide.mpr (by omega)]
  .rw[if_neg hn,Nat.add_zero]
   refine⟨by rw[Nat.pow_succ]; omega,fun i=> ?_⟩
   rw[h2]
   by_cases c:i=n
   .subst c; simp[hn]
   .rw[show decide (i < n + 1)=decide (i < n) from decide_eq_decide.mpr (by omega)]
theorem zoo{β:Type}(g:Option Quest×Nat->β)(l:List (Option Quest)):l.zipIdx.map g=(List.range l.length).map fun k=> g (l.getD k none,k):=by
 apply List.ext_getElem?
 intro i
 rw[List.getElem?_map,List.getElem?_map,List.getElem?_zipIdx]
 by_cases h:i < l.length
 .rw[List.getElem?_range h,List.getElem?_eq_getElem h]
  simp only[Option.map_some,Nat.zero_add]
  rw[List.getD_eq_getElem?_getD,List.getElem?_eq_getElem h]; rfl
 .rw[List.getElem?_eq_none (by omega),List.getElem?_eq_none (by simp; omega)]; rfl
def chB(l:List (Option Quest))(w:List Place)(k:Nat):Bool:=match l[k]? with
 | some (some Q)=> chooses w Q.path
 | _=> false
theorem znx{l:List (Option Quest)}(h:l.length=16)(w:List Place)(i:Nat):(whichOf l w).testBit i=(decide (i < 16) && chB l w i):=by
 have e:whichOf l w=((List.range 16).map fun k=> if chB l w k=true then 2 ^ k else 0).sum:=by
  unfold whichOf
  rw[zoo,h]
  congr 1
  apply List.map_congr_left
  intro k hk
  unfold chB
  rw[List.getD_eq_getElem?_getD]
  cases l[k]? with
  | none=> simp
  | some o=> cases o <;> simp
 rw[e]
 exact (zmK (chB l w) 16).2 i
theorem zmO(q:Path)(w:List Place)(j:Nat)(hj:j∈zlW q w):j<=q.length:=by
 unfold zlW at hj
 have hh:∀(w:List Place) (a:List Nat),(∀j∈a,j<=q.length)->∀j∈w.foldl (advance q) a,j<=q.length:=by
  intro w
  induction w with
  | nil=> intro a h; exact h
  | cons x w ih=>
   intro a _
   apply ih
   intro j hj
   unfold advance at hj
   rw[List.mem_filter,List.mem_range] at hj
   omega
 exact hh w [0] (fun j hj=> by simp at hj; omega) j hj
theorem zmx{l:List (Option Quest)}{w:List Place}{n:Nat}(hl:QOk l)(h:zeD l w n):n >>> 128=whichOf l w:=by
 apply Nat.eq_of_testBit_eq
 intro i
 rw[Nat.testBit_shiftRight,znx hl.len,h]
 unfold zk5 chB chooses
 by_cases c:i < 16
 .rw[show (128 + i) % 16=i by omega,show (128 + i) / 16=8 by omega,decide_eq_true c,Bool.true_and]
  cases hq:l[i]? with
  | none=> rfl
  | some o=>
   cases o with
   | none=> rfl
   | some Q=>
    dsimp only
    have:=hl.short i Q hq
    rw[decide_eq_true (by omega),Bool.true_and,show 8 - (8 - Q.path.length)=Q.path.length by omega]
    rfl
 .rw[decide_eq_false c,Bool.false_and]
  cases hq:l[(128 + i) % 16]? with
  | none=> rfl
  | some o=>
   cases o with
   | none=> rfl
   | some Q=>
    dsimp only
    have hs:=hl.short _ Q hq
    rw[Bool.eq_false_iff]
    intro z
    rw[Bool.and_eq_true,List.contains_iff_mem] at z
    have hm:=z.2
    have hlt:=zmO Q.path
    have:=hlt w _ hm
    omega
def unB(l:List (Option Quest))(k:Nat):Bool:=match l[k]? with
 | some (some Q)=> !Q.shut
 | _=> false
theorem zsO{l:List (Option Quest)}{u n:Nat}(hl:l.length=16)(h:∀i,u.testBit i=unB l i):(!decide (n=0) && decide (n &&& u=0))=allShut l n:=by
 unfold allShut
 have e:(n &&& u=0)↔∀k,(n.testBit k && unB l k)=false:=by
  constructor
  .intro z k
   have:=congrArg (fun x=> x.testBit k) z
   simpa[h] using this
  .intro z
   apply Nat.eq_of_testBit_eq
   intro i
   rw[Nat.testBit_and,h,z]; simp
 rw[show (n !=0)= !decide (n=0) by rw[Bool.eq_iff_iff]; simp]
 congr 1
 rw[Bool.eq_iff_iff,decide_eq_true_eq,e,List.all_eq_true]
 constructor
 .intro z x hx
  obtain⟨o,k⟩:=x
  have hk:=List.mk_mem_zipIdx_iff_getElem?.mp hx
  have:=z k
  unfold unB at this
  rw[hk] at this
  cases o with
  | none=> simp
  | some Q=> cases hb:n.testBit k <;> cases hs:Q.shut <;> simp_all
 .intro z k
  unfold unB
  split
  .rename_i Q hQ
   have:=z (some Q,k) (List.mk_mem_zipIdx_iff_getElem?.mpr hQ)
   cases hb:n.testBit k <;> cases hs:Q.shut <;> simp_all
  .simp
theorem zgr(x y:Nat):iOr (x:Int) (y:Int)=some (.int ((x ||| y:Nat):Int)):=by
 unfold iOr; rw[if_pos (by omega),Int.toNat_natCast,Int.toNat_natCast]
theorem zhI(x y:Nat):iAnd (x:Int) (y:Int)=some (.int ((x &&& y:Nat):Int)):=by
 unfold iAnd; rw[if_pos (by omega),Int.toNat_natCast,Int.toNat_natCast]
theorem zra(x y:Nat):iShr (x:Int) (y:Int)=some (.int ((x >>> y:Nat):Int)):=by
 unfold iShr; rw[if_pos (by omega),Int.toNat_natCast,Int.toNat_natCast]
theorem zhH{x y:Nat}(hx:x < 2 ^ 200)(hy:y<=200):iShl (x:Int) (y:Int)=some (.int ((x <<< y:Nat):Int)):=by
 unfold iShl
 rw[if_pos,Int.toNat_natCast,Int.toNat_natCast]
 refine⟨by omega,?_,by omega,by omega⟩
 have:((2 ^ 200:Nat):Int)=(2:Int) ^ 200:=by norm_cast
 rw[<- this]
 exact Int.ofNat_lt.mpr hx
theorem at0{α:Type}{a:α}{l:List α}:atF (a::l) 0=some a:=rfl
theorem at1{α:Type}{a b:α}{l:List α}:atF (a::b::l) 1=some b:=rfl
theorem at2{α:Type}{a b c:α}{l:List α}:atF (a::b::c::l) 2=some c:=rfl
structure QH (O:FH) (q d a n un:Nat) (L:Lay) (nv:List (NK×FV)):Prop where
 hq:O[q]? =some (.ins 0 [.ref d,.int L.root,.int L.wide,.int un,.ref a,.ref n])
 ha:O[a]? =some (.lst [.int L.a0,.int L.a1])
 hn:O[n]? =some (.dN nv)
 ho:∀k,(getD k nv).getD (.int 0)= .int (L.only k)
section
variable {O:FH}{q d a n un:Nat}{L:Lay}{nv:List (NK×FV)}
def lyA:MS:=sIf (tVal (eIxT (eV 4) (eC (.int 0)))) (zdU 0 2 iOr (eV 0) (eV 3)) sNx
def lyB:MS:=(sIf (zmI (eIxT (eV 4) (eC (.int 2)))) (sAugS iOr (eFld 0 4 (eV 0)) (eIxT (eV 4) (eC (.int 1))) (eV 3)) (sSeq (sSet 5 (eTup (aCons (eIxT (eV 4) (eC (.int 1))) (aCons (eIxT (eV 4) (eC (.int 2))) aNil)))) (sNput (eFld 0 5 (eV 0)) (eV 5) (eOp iOr (eNGet (eFld 0 5 (eV 0)) (eV 5) (eC (.int 0))) (eV 3)))))
def lyC:MS:=(sSet 3 (eOp iShl (eV 3) (eC (.int 16))))
theorem zyl{σ0 x1 x2 x5:Option FV}{B s:Nat}{dp:Bool}{y z:FV}(H:QH O q d a n un L nv)(hs:O[s]? =some (.tup [.bl dp,y,z])):
  ∃O',lyA [some (.ref q),x1,x2,some (.int B),some (.ref s),x5] O=some (.nx [some (.ref q),x1,x2,some (.int B),some (.ref s),x5],O')/\QH O' q d a n un {L with wide:=if dp=true then L.wide ||| B else L.wide} nv/\Fr O O' [q]:=by
 obtain⟨hq,ha,hn,ho⟩:=H
 have lq:=zaq hq
 have e0:=@at0
 have E:=zgr
 unfold lyA
 cases dp with
 | false=>
  refine⟨O,?_,⟨hq,ha,hn,ho⟩,Fr.refl⟩
  clear ho
  walk_at "evh"
 | true=>
  refine⟨O.set q (.ins 0 [.ref d,.int L.root,.int (L.wide ||| B:Nat),.int un,.ref a,.ref n]),?_,⟨za7 lq,?_,?_,ho⟩,Fr.set (by simp)⟩
  .clear ho
   walk_at "evh"
  .rw[zaR (zaU hq ha (by simp))]; exact ha
  .rw[zaR (zaU hq hn (by simp))]; exact hn
theorem zyk{x1 x2 x5:Option FV}{B s:Nat}{dp:Bool}{y z:FV}{g:Goal}(H:QH O q d a n un L nv)(hs:O[s]? =some (.tup [.bl dp,y,z]))(hg:zqd O g y z)(hlim:nv.length < LIM):
  ∃O' x5' nv',lyB [some (.ref q),x1,x2,some (.int B),some (.ref s),x5] O=some (.nx [some (.ref q),x1,x2,some (.int B),some (.ref s),x5'],O')/\QH O' q d a n un (zqh L ⟨false,g⟩ B) nv'/\nv'.length<=nv.length + 1/\Fr O O' [a,n]:=by
 obtain⟨hq,ha,hn,ho⟩:=H
 have lq:=zaq hq
 have la:=zaq ha
 have ln:=zaq hn
 have ls:=zaq hs
 have nqa:=zaU hq ha (by simp)
 have nqn:=zaU hq hn (by simp)
 have nan:=zaU ha hn (by simp)
 have e0:=@at0
 have e1:=@at1
 have e2:=@at2
 have E:=zgr
 cases g with
 | members=>
  obtain⟨rfl,rfl⟩:=hg
  refine⟨O.set a (.lst [.int (L.a0 ||| B:Nat),.int L.a1]),x5,nv,?_,⟨?_,za7 la,?_,ho⟩,by omega,Fr.set (by simp)⟩
  .clear ho
   unfold lyB
   walk_at "evh"
   rfl
  .rw[zaR nqa.symm]; exact hq
  .rw[zaR nan]; exact hn
 | elements=>
  obtain⟨rfl,rfl⟩:=hg
  refine⟨O.set a (.lst [.int L.a0,.int (L.a1 ||| B:Nat)]),x5,nv,?_,⟨?_,za7 la,?_,ho⟩,by omega,Fr.set (by simp)⟩
  .clear ho
   unfold lyB
   walk_at "evh"
   rfl
  .rw[zaR nqa.symm]; exact hq
  .rw[zaR nan]; exact hn
 | number i=>
  obtain⟨rfl,rfl⟩:=hg
  have hk:keyOf (O ++ [.tup [.int 1,.int i]]) (.ref O.length)=some (1,.inl i):=by
   unfold keyOf tupAt
   dsimp only
   rw[zaO rfl]
   rfl
  have hg:=ho (1,.inl i)
  refine⟨(O ++ [FO.tup [.int 1,.int i]]).set n (.dN (putD (1,.inl i) (.int (L.only (1,.inl i) ||| B:Nat)) nv)),some (.ref O.length),_,?_,⟨?_,?_,za7 (by simp; omega),?_⟩,zoQ _ _ _,Fr.new.trans (T:=[n]) (Fr.set (by simp)) (by simp; omega)⟩
  .clear ho
   unfold lyB
   walk_at "evh"
  .rw[zaR nqn.symm,za8 lq]; exact hq
  .rw[zaR nan.symm,za8 la]; exact ha
  .intro k'
   rw[ziB]
   show _=FV.int ((if k'=(1,Sum.inl (i:Int)) then L.only (1,.inl i) ||| B else L.only k':Nat):Int)
   split
   .rfl
   .exact ho k'
 | name b=>
  obtain⟨rfl,m,rfl,hm⟩:=hg
  have lm:=zaq hm
  have hk:keyOf (O ++ [.tup [.int 0,.ref m]]) (.ref O.length)=some (0,.inr (b.map fun (n:Nat)=> (n:Int))):=by
   unfold keyOf tupAt
   dsimp only
   rw[zaO rfl]
   simp only[zbN,if_true]
   rw[za8 lm,hm]
   simp only[zbN]
   rw[zkx]
   rfl
  have hg:=ho (0,.inr (b.map fun (n:Nat)=> (n:Int)))
  generalize hK:((0:Int),(Sum.inr (b.map fun (n:Nat)=> (n:Int)):Sum Int (List Int)))=K at hk hg
  refine⟨(O ++ [FO.tup [.int 0,.ref m]]).set n (.dN (putD K (.int (L.only K ||| B:Nat)) nv)),some (.ref O.length),_,?_,⟨?_,?_,za7 (by simp; omega),?_⟩,zoQ _ _ _,Fr.new.trans (T:=[n]) (Fr.set (by simp)) (by simp; omega)⟩
  .clear ho hK
   unfold lyB
   walk_at "evh"
  .rw[zaR nqn.symm,za8 lq]; exact hq
  .rw[zaR nan.symm,za8 la]; exact ha
  .intro k'
   rw[ziB]
   show _=FV.int ((if k'=(0,Sum.inr (b.map fun (n:Nat)=> (n:Int))) then L.only (0,.inr (b.map fun (n:Nat)=> (n:Int))) ||| B else L.only k':Nat):Int)
   rw[hK]
   split
   .rfl
   .exact ho k'
theorem Fr.kp3{O O':FH}(H:QH O q d a n un L nv)(F:Fr O O' [q,a,n]):Kp O O':=F.kp (by
 intro j hj xs h
 simp at hj
 rcases hj with rfl | rfl | rfl
 .rw[H.hq] at h; cases h
 .rw[H.ha] at h; cases h
 .rw[H.hn] at h; cases h)
theorem zq7(L:Lay)(s:Step)(B:Nat):zqh {L with wide:=if s.deep=true then L.wide ||| B else L.wide} ⟨false,s.goal⟩ B=zqh L s B:=by
 unfold zqh
 cases s.goal <;> simp[zfm]
theorem zyK(b k:Nat):(2 ^ (16 * b + k)) <<< 16=2 ^ (16 * (b + 1) + k):=by
 rw[Nat.shiftLeft_eq,<- Nat.pow_add]; congr 1; omega
theorem zxJ{b k:Nat}(h:16 * b + k < 200):iShl ((2 ^ (16 * b + k):Nat):Int) 16=some (.int ((2 ^ (16 * (b + 1) + k):Nat):Int)):=by
 have E:=zhH (x:=2 ^ (16 * b + k)) (y:=16) (Nat.pow_lt_pow_right (by omega) h) (by omega)
 rw[zyK] at E
 exact E
theorem zwe{x0 x1 x2 x4 x5:Option FV}{X Y:Int}(E:iShl X 16=some (.int Y)):lyC [x0,x1,x2,some (.int X),x4,x5] O=some (.nx [x0,x1,x2,some (.int Y),x4,x5],O):=by
 unfold lyC
 walk_at "evh"
theorem zyj{x0 x1 x2 x4 x5:Option FV}{b k:Nat}(h:16 * b + k < 200):lyC [x0,x1,x2,some (.int (2 ^ (16 * b + k):Nat)),x4,x5] O=some (.nx [x0,x1,x2,some (.int (2 ^ (16 * (b + 1) + k):Nat)),x4,x5],O):=
 zwe (zxJ h)
def zpc:MS:=sSeq lyA (sSeq lyB lyC)
theorem ze9{s r:MS}{σ σ':FS}{O':FH}(h:s σ O=some (.nx σ',O')):sSeq s r σ O=r σ' O':=by
 rw[zp9,h]; rfl
theorem zm4{k Ls:Nat}{all:List FV}(hk:k < 16):∀(p:Path) (vs:List FV) (b:Nat) (L:Lay) (nv:List (NK×FV)) (O:FH) (x4 x5:Option FV),QH O q d a n un L nv->O[Ls]? =some (.lst all)->Ls≠a->StepsAt O p vs->b + p.length<=8->nv.length + p.length < LIM->
  ∃O' nv' y3 y4 y5,loopL 4 zpc (.ref Ls) all vs [some (.ref q),some (.int k),some (.ref Ls),some (.int (2 ^ (16 * b + k):Nat)),x4,x5] O=some (.nx [some (.ref q),some (.int k),some (.ref Ls),y3,y4,y5],O')/\QH O' q d a n un (zq6 L (2 ^ (16 * b + k)) p) nv'/\nv'.length<=nv.length + p.length/\Fr O O' [q,a,n]
 | [],[],b,L,nv,O,x4,x5,H,h1,hne,hS,hb,hl=> by
  refine⟨O,nv,some (.int (2 ^ (16 * b + k):Nat)),x4,x5,?_,H,by simp,Fr.refl⟩
  rw[loopL,if_pos (by rw[zfr,h1])]
 | s::p,v::vs,b,L,nv,O,x4,x5,H,h1,hne,hS,hb,hl=> by
  obtain⟨⟨i,kd,key,rfl,hi,hg⟩,hS2⟩:=hS
  obtain⟨O1,E1,H1,F1⟩:=zyl (σ0:=none) (x1:=some (.int k)) (x2:=some (.ref Ls)) (x5:=x5) (B:=2 ^ (16 * b + k)) H hi
  have K1:Kp O O1:=(F1.mono (T:=[q,a,n]) (by simp)).kp3 H
  have hg1:zqd O1 s.goal kd key:=by
   have:StepAt O1 s (.ref i):=(show StepAt O s (.ref i) from⟨i,kd,key,rfl,hi,hg⟩).keep K1
   obtain⟨i',kd',key',e,hi',hg'⟩:=this
   injection e with e
   subst e
   rw[K1 _ _ hi] at hi'
   injection hi' with hi'
   injection hi' with hi'
   injection hi' with _ hi'
   injection hi' with e1 hi'
   injection hi' with e2 hi'
   subst e1 e2
   exact hg'
  simp only[List.length_cons] at hb hl
  obtain⟨O2,x5',nv',E2,H2,hl2,F2⟩:=zyk (x1:=some (.int k)) (x2:=some (.ref Ls)) (x5:=x5) (B:=2 ^ (16 * b + k)) H1 (K1 _ _ hi) hg1 (by omega)
  rw[zq7 L s] at H2
  have F12:Fr O O2 [q,a,n]:=(F1.mono (by simp)).trans F2 (by simp; omega)
  have K2:Kp O O2:=F12.kp3 H
  have lsne:Ls∉[q,a,n]:=by
   have n1:=zaU h1 H.hq (by simp)
   have n2:=zaU h1 H.hn (by simp)
   simp[n1,n2,hne]
  have h1':=F12.get h1 lsne
  have E3:=zyj (O:=O2) (x0:=some (.ref q)) (x1:=some (.int k)) (x2:=some (.ref Ls)) (x4:=some (.ref i)) (x5:=x5') (b:=b) (k:=k) (by omega)
  obtain⟨O3,nv'',y3,y4,y5,E4,H4,hl4,F4⟩:=zm4 hk p vs (b + 1) (zqh L s (2 ^ (16 * b + k))) nv' O2 (some (.ref i)) x5' H2 h1' hne (hS2.keep K2) (by omega) (by omega)
  refine⟨O3,nv'',y3,y4,y5,?_,?_,by simp; omega,F12.trans F4 fun _ _ h=> h⟩
  .rw[loopL,if_pos (by rw[zfr,h1])]
   show ((sSeq lyA (sSeq lyB lyC) [some (.ref q),some (.int k),some (.ref Ls),some (.int (2 ^ (16 * b + k):Nat)),some (.ref i),x5] O).bind _)=_
   rw[ze9 E1,ze9 E2,E3]
   exact E4
  .unfold zq6
   rw[zyK]; exact H4
theorem zlr{k Ls:Nat}{r B R:Int}{d' w' u' a' n':FV}{vs:List FV}{σ':FS}{O':FH}(hq:O[q]? =some (.ins 0 [d',.int r,w',u',a',n']))(h1:O[Ls]? =some (.lst vs))(e3:iShl 1 (16 * ((8:Int) - (vs.length:Int)) + (k:Int))=some (.int B))(e4:iOr r B=some (.int R))(lq:q < O.length)(nqs:q≠Ls)
  (E:loopL 4 zpc (.ref Ls) vs vs [some (.ref q),some (.int k),some (.ref Ls),some (.int B),none,none] (O.set q (.ins 0 [d',.int R,w',u',a',n']))=some (.nx σ',O')):zaI [.ref q,.int k,.ref Ls] O=some (.non,O'):=by
 unfold zpc lyA lyB lyC at E
 unfold zaI zbA
 walk_at "evh"
theorem zjk{k Ls:Nat}{p:Path}{vs:List FV}(hk:k < 16)(H:QH O q d a n un L nv)(h1:O[Ls]? =some (.lst vs))(hne:Ls≠a)(hS:StepsAt O p vs)(hp:p.length<=8)(hl:nv.length + p.length < LIM):
  ∃O' nv',zaI [.ref q,.int k,.ref Ls] O=some (.non,O')/\QH O' q d a n un (zxr L k p) nv'/\nv'.length<=nv.length + p.length/\Fr O O' [q,a,n]:=by
 obtain⟨hq,ha,hn,ho⟩:=H
 have lq:=zaq hq
 have hvl:=hS.len
 have nqs:=zaU hq h1 (by simp)
 have H1:QH (O.set q (.ins 0 [.ref d,.int (L.root ||| 2 ^ (16 * (8 - p.length) + k):Nat),.int L.wide,.int un,.ref a,.ref n])) q d a n un {L with root:=L.root ||| 2 ^ (16 * (8 - p.length) + k)} nv:=
  ⟨za7 lq,by rw[zaR (zaU hq ha (by simp))]; exact ha,by rw[zaR (zaU hq hn (by simp))]; exact hn,ho⟩
 have Fs:Fr O (O.set q (.ins 0 [.ref d,.int (L.root ||| 2 ^ (16 * (8 - p.length) + k):Nat),.int L.wide,.int un,.ref a,.ref n])) [q,a,n]:=Fr.set (by simp)
 have K1:=Fs.kp3 ⟨hq,ha,hn,ho⟩
 obtain⟨O',nv',y3,y4,y5,E,H',hl',F⟩:=zm4 (Ls:=Ls) (all:=vs) hk p vs (8 - p.length) _ nv _ none none H1 (by rw[zaR nqs]; exact h1) hne (hS.keep K1) (by omega) hl
 refine⟨O',nv',?_,H',hl',Fs.trans F fun _ _ h=> h⟩
 have e3:iShl 1 (16 * ((8:Int) - (vs.length:Int)) + (k:Int))=some (.int ((2 ^ (16 * (8 - p.length) + k):Nat):Int)):=by
  have:=zhH (x:=1) (y:=16 * (8 - p.length) + k) (Nat.one_lt_two_pow (by omega)) (by omega)
  rw[Nat.one_shiftLeft] at this
  rw[show 16 * ((8:Int) - (vs.length:Int)) + (k:Int)=((16 * (8 - p.length) + k:Nat):Int) by omega]
  exact this
 exact zlr hq h1 e3 (zgr L.root (2 ^ (16 * (8 - p.length) + k))) lq nqs E
end
def HeldK(O:FH)(U:List Nat)(kvs:List (Int×FV))(k:Nat):Option (Option Quest)->Prop
 | some (some Q)=>∃t Ls vs,getD (k:Int) kvs=some (.ref t)/\O[t]? =some (.tup [.int (if Q.shut=true then 1 else 0),.ref Ls])/\O[Ls]? =some (.lst vs)/\Ls∈U/\StepsAt O Q.path vs
 | _=> getD (k:Int) kvs=none
structure HeldAt (O:FH) (d:Nat) (U:List Nat) (l:List (Option Quest)) (kvs:List (Int×FV)):Prop where
 hd:O[d]? =some (.dK kvs)
 ok:okKeys kvs=true
 at_:∀k,k < 16->HeldK O U kvs k l[k]?
 un:∀u∈U,∃vs,O[u]? =some (.lst vs)
 qok:QOk l
theorem HeldK.keep{O O':FH}{S U:List Nat}{kvs:List (Int×FV)}{k:Nat}{o:Option (Option Quest)}(h:HeldK O U kvs k o)(F:Fr O O' S)(K:Kp O O')(hU:∀u∈U,u∉S):HeldK O' U kvs k o:=by
 match o,h with
 | some (some Q),⟨t,Ls,vs,h1,h2,h3,h4,h5⟩=> exact⟨t,Ls,vs,h1,K _ _ h2,F.get h3 (hU Ls h4),h4,h5.keep K⟩
 | some none,h=> exact h
 | none,h=> exact h
theorem HeldAt.keep{O O':FH}{d:Nat}{S U:List Nat}{l:List (Option Quest)}{kvs:List (Int×FV)}(h:HeldAt O d U l kvs)(F:Fr O O' S)(K:Kp O O')(hd:d∉S)(hU:∀u∈U,u∉S):HeldAt O' d U l kvs:=
 ⟨F.get h.hd hd,h.ok,fun k hk=> (h.at_ k hk).keep F K hU,fun u hu=> by obtain⟨vs,e⟩:=h.un u hu; exact⟨vs,F.get e (hU u hu)⟩,h.qok⟩
section
variable {O:FH}{q d a n un:Nat}{L:Lay}{nv:List (NK×FV)}{U:List Nat}{l:List (Option Quest)}{kvs:List (Int×FV)}
def zqV:MS:=(sSeq (sSet 2 (eDGet (eFld 0 0 (eV 0)) (eV 1))) (sSeq (sIf (tCmp cEq (eIxT (eV 2) (eC (.int 0))) (eC (.int 0))) (zdU 0 3 iOr (eV 0) (eOp iShl (eC (.int 1)) (eV 1))) sNx) (sEx (eMeth 0 zaI (eV 0) (aCons (eV 1) (aCons (eIxT (eV 2) (eC (.int 1))) aNil))))))
theorem ztN{k:Int}{x:Option FV}{t Ls:Nat}{u B R:Int}{r' w' a' n':FV}{O':FH}(hq:O[q]? =some (.ins 0 [.ref d,r',w',.int u,a',n']))(hd:O[d]? =some (.dK kvs))(hk:getD k kvs=some (.ref t))(ht:O[t]? =some (.tup [.int 0,.ref Ls]))(e1:iShl 1 k=some (.int B))(e2:iOr u B=some (.int R))(lq:q < O.length)(nqt:q≠t)(nqd:q≠d)
  (E:zaI [.ref q,.int k,.ref Ls] (O.set q (.ins 0 [.ref d,r',w',.int R,a',n']))=some (.non,O')):
  zqV [some (.ref q),some (.int k),x] O=some (.nx [some (.ref q),some (.int k),some (.ref t)],O'):=by
 have a0:=@at0
 have a1:=@at1
 unfold zqV
 walk_at "evh"
theorem ztM{k:Int}{x:Option FV}{t Ls:Nat}{r' w' u' a' n':FV}{O':FH}(hq:O[q]? =some (.ins 0 [.ref d,r',w',u',a',n']))(hd:O[d]? =some (.dK kvs))(hk:getD k kvs=some (.ref t))(ht:O[t]? =some (.tup [.int 1,.ref Ls]))(lq:q < O.length)(nqt:q≠t)(nqd:q≠d)
  (E:zaI [.ref q,.int k,.ref Ls] O=some (.non,O')):
  zqV [some (.ref q),some (.int k),x] O=some (.nx [some (.ref q),some (.int k),some (.ref t)],O'):=by
 have a0:=@at0
 have a1:=@at1
 unfold zqV
 walk_at "evh"
def unK(l:List (Option Quest))(u k:Nat):Nat:=match l[k]? with
 | some (some Q)=> if Q.shut=true then u else u ||| 2 ^ k
 | _=> u
theorem zya(H:QH O q d a n un L nv)(hd:O[d]? =some (.dK kvs)):d∉[q,a,n]:=by
 have n1:=zaU hd H.hq (by simp)
 have n2:=zaU hd H.ha (by simp)
 have n3:=zaU hd H.hn (by simp)
 simp[n1,n2,n3]
theorem zyb(H:QH O q d a n un L nv)(h:HeldAt O d U l kvs)(hU:a∉U):∀u∈U,u∉[q,a,n]:=fun u hu=> by
 obtain⟨vs,e⟩:=h.un u hu
 have n1:=zaU e H.hq (by simp)
 have n3:=zaU e H.hn (by simp)
 have n2:u≠a:=fun z=> hU (z ▸ hu)
 simp[n1,n2,n3]
theorem zm3{K:Nat}{all:List FV}(hU:a∉U)(hKa:K≠a):∀(ks:List Nat) (un:Nat) (L:Lay) (nv:List (NK×FV)) (O:FH) (x1 x2:Option FV),QH O q d a n un L nv->HeldAt O d U l kvs->O[K]? =some (.lst all)->(∀k∈ks,k < 16/\∃Q,l[k]? =some (some Q))->nv.length + 8 * ks.length < LIM->
  ∃O' nv' y1 y2,loopL 1 zqV (.ref K) all (ks.map fun (k:Nat)=> FV.int k) [some (.ref q),x1,x2] O=some (.nx [some (.ref q),y1,y2],O')/\QH O' q d a n (ks.foldl (unK l) un) (ks.foldl (zqg l) L) nv'/\HeldAt O' d U l kvs/\Fr O O' [q,a,n]
 | [],un,L,nv,O,x1,x2,H,h,hK,hks,hlim=> by
  refine⟨O,nv,x1,x2,?_,H,h,Fr.refl⟩
  rw[List.map_nil,loopL,if_pos (by rw[zfr,hK])]
 | k::ks,un,L,nv,O,x1,x2,H,h,hK,hks,hlim=> by
  obtain⟨hk16,Q,hQ⟩:=hks k (by simp)
  have hat:=h.at_ k hk16
  rw[hQ] at hat
  obtain⟨t,Ls,vs,g1,g2,g3,g4,g5⟩:=hat
  have lq:=zaq H.hq
  have nqt:=zaU H.hq g2 (by simp)
  have nqd:=zaU H.hq h.hd (by simp)
  have nLs:Ls≠a:=fun z=> hU (z ▸ g4)
  have hs8:=h.qok.short k Q hQ
  simp only[List.length_cons] at hlim
  have hKn:K∉[q,a,n]:=by
   have n1:=zaU hK H.hq (by simp)
   have n3:=zaU hK H.hn (by simp)
   simp[n1,hKa,n3]
  have main:∃O1 nv1,zqV [some (.ref q),some (.int k),x2] O=some (.nx [some (.ref q),some (.int k),some (.ref t)],O1)/\QH O1 q d a n (unK l un k) (zqg l L k) nv1/\nv1.length<=nv.length + 8/\Fr O O1 [q,a,n]:=by
   unfold unK zqg
   rw[hQ]
   dsimp only
   cases hsh:Q.shut with
   | true=>
    rw[hsh] at g2
    obtain⟨O1,nv1,E,H1,hl1,F1⟩:=zjk hk16 H g3 nLs g5 hs8 (by omega)
    exact⟨O1,nv1,ztM H.hq h.hd g1 g2 lq nqt nqd E,H1,by omega,F1⟩
   | false=>
    rw[hsh] at g2
    have Fs:Fr O (O.set q (.ins 0 [.ref d,.int L.root,.int L.wide,.int (un ||| 2 ^ k:Nat),.ref a,.ref n])) [q,a,n]:=Fr.set (by simp)
    have K1:=Fs.kp3 H
    have H0:QH (O.set q (.ins 0 [.ref d,.int L.root,.int L.wide,.int (un ||| 2 ^ k:Nat),.ref a,.ref n])) q d a n (un ||| 2 ^ k) L nv:=
     ⟨za7 lq,by rw[zaR (zaU H.hq H.ha (by simp))]; exact H.ha,by rw[zaR (zaU H.hq H.hn (by simp))]; exact H.hn,H.ho⟩
    obtain⟨O1,nv1,E,H1,hl1,F1⟩:=zjk hk16 H0 (by rw[zaR (zaU H.hq g3 (by simp))]; exact g3) nLs (g5.keep K1) hs8 (by omega)
    have e1:iShl 1 (k:Int)=some (.int ((2 ^ k:Nat):Int)):=by
     have:=zhH (x:=1) (y:=k) (Nat.one_lt_two_pow (by omega)) (by omega)
     rw[Nat.one_shiftLeft] at this
     exact this
    exact⟨O1,nv1,ztN H.hq h.hd g1 g2 e1 (zgr un (2 ^ k)) lq nqt nqd E,H1,by omega,Fs.trans F1 fun _ _ h=> h⟩
  obtain⟨O1,nv1,E1,H1,hl1,F1⟩:=main
  have K1:=F1.kp3 H
  have h1:=h.keep F1 K1 (zya H h.hd) (zyb H h hU)
  obtain⟨O2,nv2,y1,y2,E2,H2,h2,F2⟩:=zm3 hU hKa ks _ _ nv1 O1 (some (.int k)) (some (.ref t)) H1 h1 (F1.get hK hKn) (fun k' hk'=> hks k' (by simp[hk'])) (by omega)
  refine⟨O2,nv2,y1,y2,?_,H2,h2,F1.trans F2 fun _ _ h=> h⟩
  rw[List.map_cons,loopL,if_pos (by rw[zfr,hK])]
  show ((zqV [some (.ref q),some (.int k),x2] O).bind _)=_
  rw[E1]
  exact E2
theorem zn0{v1 v2 v3 v4 v5:FV}{σ':FS}{O':FH}(hq:O[q]? =some (.ins 0 [.ref d,v1,v2,v3,v4,v5]))(hd:O[d]? =some (.dK kvs))(ok:okKeys kvs=true)(lq:q < O.length)(ld:d < O.length)(nqd:q≠d)
  (g1:q < O.length + 1) (g2:d < O.length + 1) (g3:q < O.length + 1 + 1) (g4:d < O.length + 1 + 1)
  (E:loopL 1 zqV (.ref (O.length + 1 + 1)) (keys16 kvs) (keys16 kvs) [some (.ref q),none,none] (((O.set q (FO.ins 0 [.ref d,.int 0,.int 0,.int 0,v4,v5]) ++ [FO.lst [.int 0,.int 0]]).set q (.ins 0 [.ref d,.int 0,.int 0,.int 0,.ref O.length,v5]) ++ [FO.dN []]).set q (.ins 0 [.ref d,.int 0,.int 0,.int 0,.ref O.length,.ref (O.length + 1)]) ++ [FO.lst (keys16 kvs)])=some (.nx σ',O')):
  zaZ [.ref q] O=some (.non,O'):=by
 unfold zqV at E
 unfold zaZ zct
 walk_at "evh"
theorem zor(l:List (Option Quest)):∀(ks:List Nat) (u i:Nat),(ks.foldl (unK l) u).testBit i=(u.testBit i ||(ks.contains i && unB l i))
 | [],u,i=> by simp
 | k::ks,u,i=> by
  rw[List.foldl_cons,zor l ks,List.contains_cons]
  have e:(unK l u k).testBit i=(u.testBit i ||((i==k) && unB l i)):=by
   unfold unK unB
   by_cases c:i=k
   .subst c
    split
    .rename_i Q hQ
     try rw[hQ]
     cases hs:Q.shut <;> simp[Nat.testBit_or,hQ,hs]
    .simp
   .split
    .rename_i Q hQ
     cases hs:Q.shut with
     | true=> simp[c]
     | false=>
      have c':¬k=i:=fun z=> c z.symm
      simp[Nat.testBit_or,c,c',Nat.testBit_two_pow]
    .simp[c]
  rw[e]
  cases u.testBit i <;> cases (i==k) <;> cases ks.contains i <;> cases unB l i <;> rfl
structure QB (O:FH) (q d a n:Nat) (U:List Nat) (l:List (Option Quest)) (un:Nat) (L:Lay) (nv:List (NK×FV)) (kvs:List (Int×FV)):Prop where
 x1:QH O q d a n un L nv
 x2:HeldAt O d U l kvs
 x3:LayOk l L
 x4:∀i,un.testBit i=unB l i
structure QAt (O:FH) (q d a n:Nat) (U:List Nat) (l:List (Option Quest)):Prop where
 ex:∃un L nv kvs,QB O q d a n U l un L nv kvs
 hU:a∉U
theorem zlx{v1 v2 v3 v4 v5:FV}(hq:O[q]? =some (.ins 0 [.ref d,v1,v2,v3,v4,v5]))(h:HeldAt O d U l kvs):
  ∃O' a n,zaZ [.ref q] O=some (.non,O')/\QAt O' q d a n U l/\O.length<=a/\O.length<=n/\Fr O O' [q]:=by
 have lq:=zaq hq
 have ld:=zaq h.hd
 have nqd:=zaU hq h.hd (by simp)
 generalize hO3:(((O.set q (FO.ins 0 [.ref d,.int 0,.int 0,.int 0,v4,v5]) ++ [FO.lst [.int 0,.int 0]]).set q (.ins 0 [.ref d,.int 0,.int 0,.int 0,.ref O.length,v5]) ++ [FO.dN []]).set q (.ins 0 [.ref d,.int 0,.int 0,.int 0,.ref O.length,.ref (O.length + 1)]) ++ [FO.lst (keys16 kvs)])=O3
 have F3:Fr O O3 [q]:=by
  rw[<- hO3]
  exact (((((Fr.set (by simp)).trans (T:=[q]) Fr.new fun _ _ h=> h).trans (T:=[q]) (Fr.set (by simp)) fun _ _ h=> h).trans (T:=[q]) Fr.new fun _ _ h=> h).trans (T:=[q]) (Fr.set (by simp)) fun _ _ h=> h).trans (T:=[q]) Fr.new fun _ _ h=> h
 have K3:Kp O O3:=F3.kp (by
  intro j hj xs e
  simp at hj; subst hj
  rw[hq] at e; cases e)
 have H3:QH O3 q d O.length (O.length + 1) 0 lay0 []:=by
  rw[<- hO3]
  refine⟨?_,?_,?_,fun _=> rfl⟩
  .rw[za8 (by simp; omega),za7 (by simp; omega)]; rfl
  .rw[za8 (by simp; omega),zaR (by omega),za8 (by simp),zaR (by omega),zaO (by simp)]; rfl
  .rw[za8 (by simp),zaR (by omega),zaO (by simp)]
 have hU3:∀u∈U,u∉[q]:=fun u hu=> by
  obtain⟨vs,e⟩:=h.un u hu
  have:=zaU e hq (by simp)
  simp[this]
 have h3:HeldAt O3 d U l kvs:=h.keep F3 K3 (by simp; exact fun z=> nqd z.symm) hU3
 have hK:O3[O.length + 1 + 1]? =some (.lst (keys16 kvs)):=by
  rw[<- hO3,zaO (by simp)]
 have hUa:O.length∉U:=fun z=> by
  obtain⟨vs,e⟩:=h.un _ z
  have:=zaq e
  omega
 have hks:∀k,k∈((List.range 16).filter fun (n:Nat)=> (getD (n:Int) kvs).isSome)↔k < 16/\∃Q,l[k]? =some (some Q):=by
  intro k
  rw[List.mem_filter,List.mem_range]
  constructor
  .rintro⟨hk,hs⟩
   refine⟨hk,?_⟩
   have:=h.at_ k hk
   cases hl:l[k]? with
   | none=> rw[hl] at this; rw[show getD (k:Int) kvs=none from this] at hs; cases hs
   | some o=>
    cases o with
    | none=> rw[hl] at this; rw[show getD (k:Int) kvs=none from this] at hs; cases hs
    | some Q=> exact⟨Q,rfl⟩
  .rintro⟨hk,Q,hQ⟩
   refine⟨hk,?_⟩
   have:=h.at_ k hk
   rw[hQ] at this
   obtain⟨t,_,_,g1,_⟩:=this
   rw[g1]; rfl
 have hlen:((List.range 16).filter fun (n:Nat)=> (getD (n:Int) kvs).isSome).length<=16:=by
  have:=List.length_filter_le (fun (n:Nat)=> (getD (n:Int) kvs).isSome) (List.range 16)
  simpa using this
 obtain⟨O',nv',y1,y2,E,H',h',F'⟩:=zm3 (l:=l) (kvs:=kvs) (U:=U) hUa (K:=O.length + 1 + 1) (all:=keys16 kvs) (by omega) _ 0 lay0 [] O3 none none H3 h3 hK (fun k hk=> (hks k).mp hk) (by unfold LIM; simp; omega)
 refine⟨O',O.length,O.length + 1,zn0 hq h.hd h.ok lq ld nqd (by omega) (by omega) (by omega) (by omega) (by rw[hO3]; exact E),⟨⟨_,_,nv',kvs,H',h',zse l _ hks,?_⟩,hUa⟩,by omega,by omega,?_⟩
 .intro i
  rw[zor,Nat.zero_testBit,Bool.false_or]
  cases hu:unB l i with
  | false=> simp
  | true=>
   rw[Bool.and_true,List.contains_iff_mem]
   apply (hks i).mpr
   unfold unB at hu
   split at hu
   .rename_i Q hQ
    refine⟨?_,Q,hQ⟩
    have:=(List.getElem?_eq_some_iff.mp hQ).1
    rw[h.qok.len] at this
    exact this
   .cases hu
 .exact F3.trans (T:=[q,O.length,O.length + 1]) F' (by simp; omega)
theorem QAt.keep{O O':FH}{S:List Nat}(h:QAt O q d a n U l)(F:Fr O O' S)(K:Kp O O')(hq:q∉S)(hd:d∉S)(ha:a∉S)(hn:n∉S)(hU:∀u∈U,u∉S):QAt O' q d a n U l:=by
 obtain⟨⟨un,L,nv,kvs,H,h1,h2,h3⟩,h4⟩:=h
 exact⟨⟨un,L,nv,kvs,⟨F.get H.hq hq,F.get H.ha ha,F.get H.hn hn,H.ho⟩,h1.keep F K hd hU,h2,h3⟩,h4⟩
end
section
variable {O:FH}{q d a n un:Nat}{L:Lay}{nv:List (NK×FV)}{U:List Nat}{l:List (Option Quest)}{kvs:List (Int×FV)}
theorem ziI:∀(n:Nat) (b:List Nat) (p:Path),stepsOf n b=some p->p.length<=n
 | n,[],p,h=> by rw[ziH] at h; injection h with h; subst h; simp
 | 0,c::b,p,h=> by rw[zf8 _ _ (by simp)] at h; cases h
 | n + 1,c::b,p,h=> by
  rw[zf8 _ _ (by simp)] at h
  cases hs:stepOf (c::b) with
  | none=> rw[hs] at h; cases h
  | some x=>
   obtain⟨s,r⟩:=x
   rw[hs] at h
   dsimp only at h
   cases hp:stepsOf n r with
   | none=> rw[hp] at h; cases h
   | some p'=>
    rw[hp] at h
    injection h with h
    subst h
    have:=ziI n r p' hp
    simp; omega
theorem znI{b:List Nat}{p:Path}(h:pathOf b=some p):p.length<=8:=by
 unfold pathOf at h
 split at h
 .exact ziI _ _ _ h
 .cases h
theorem QOk.set{k:Nat}{o:Option Quest}(h:QOk l)(ho:∀Q,o=some Q->Q.path.length<=8):QOk (l.set k o):=by
 refine⟨by rw[List.length_set]; exact h.len,fun j Q hj=> ?_⟩
 by_cases c:k=j
 .subst c
  have hlt:k < l.length:=by
   have:=(List.getElem?_eq_some_iff.mp hj).1
   simpa using this
  rw[List.getElem?_set_self hlt] at hj
  injection hj with hj
  exact ho Q hj
 .rw[List.getElem?_set_ne c] at hj
  exact h.short j Q hj
theorem zvW:∀(l m:List Int),l.Nodup->(∀x∈l,x∈m)->l.length<=m.length
 | [],m,_,_=> by simp
 | x::l,m,h,hs=> by
  rw[List.nodup_cons] at h
  have hx:=hs x (by simp)
  have ih:=zvW l (m.erase x) h.2 fun y hy=> (List.mem_erase_of_ne (by rintro rfl; exact h.1 hy)).mpr (hs y (by simp[hy]))
  rw[List.length_erase_of_mem hx] at ih
  have:0 < m.length:=List.length_pos_of_mem hx
  simp; omega
theorem zvZ{kvs:List (Int×FV)}(h:okKeys kvs=true):kvs.length<=16:=by
 unfold okKeys at h
 rw[Bool.and_eq_true,decide_eq_true_eq] at h
 have hs:∀x∈kvs.map (·.1),x∈(List.range 16).map (fun (n:Nat)=> (n:Int)):=by
  intro x hx
  rw[List.mem_map] at hx
  obtain⟨p,hp,rfl⟩:=hx
  have:=List.all_eq_true.mp h.2 p hp
  simp at this
  rw[List.mem_map]
  exact⟨p.1.toNat,by simp; omega,by omega⟩
 have:=zvW _ _ h.1 hs
 simpa using this
theorem zwd{k sh:Int}{Ls:Nat}{v1 v2 v3 v4 v5:FV}{O':FH}(hq:O[q]? =some (.ins 0 [.ref d,v1,v2,v3,v4,v5]))(hd:O[d]? =some (.dK kvs))(hl:kvs.length < LIM)(lq:q < O.length)(ld:d < O.length)(ndq:d≠q)(g1:d < O.length + 1)
  (E:zaZ [.ref q] ((O ++ [FO.tup [.int sh,.ref Ls]]).set d (.dK (putD k (.ref O.length) kvs)))=some (.non,O')):zcp [.ref q,.int k,.int sh,.ref Ls] O=some (.non,O'):=by
 unfold zcp zdj
 walk_at "evh"
theorem HeldAt.put{k Ls:Nat}{Q:Quest}{vs:List FV}(h:HeldAt O d U l kvs)(hk:k < 16)(h1:O[Ls]? =some (.lst vs))(hS:StepsAt O Q.path vs)(hp:Q.path.length<=8):
  HeldAt ((O ++ [FO.tup [.int (if Q.shut=true then 1 else 0),.ref Ls]]).set d (.dK (putD (k:Int) (.ref O.length) kvs))) d (Ls::U) (l.set k (some Q)) (putD (k:Int) (.ref O.length) kvs):=by
 have ld:=zaq h.hd
 have ll:=zaq h1
 have F:Fr O ((O ++ [FO.tup [.int (if Q.shut=true then 1 else 0),.ref Ls]]).set d (.dK (putD (k:Int) (.ref O.length) kvs))) [d]:=Fr.new.trans (T:=[d]) (Fr.set (by simp)) fun _ _ h=> h
 have K:Kp O _:=F.kp (by intro j hj xs e; simp at hj; subst hj; rw[h.hd] at e; cases e)
 have nU:∀u∈U,u∉[d]:=fun u hu=> by
  obtain⟨ws,e⟩:=h.un u hu
  have:=zaU e h.hd (by simp)
  simp[this]
 have nL:Ls∉[d]:=by have:=zaU h1 h.hd (by simp); simp[this]
 refine⟨za7 (by simp; omega),zvS h.ok (by omega),fun j hj=> ?_,fun u hu=> ?_,h.qok.set (fun Q' e=> by injection e with e; subst e; exact hp)⟩
 .by_cases c:k=j
  .subst c
   rw[List.getElem?_set_self (by rw[h.qok.len]; exact hj)]
   refine⟨O.length,Ls,vs,by rw[ziB,if_pos rfl],?_,F.get h1 nL,by simp,hS.keep K⟩
   rw[zaR (by omega),zaO rfl]
  .rw[List.getElem?_set_ne c]
   have:=(h.at_ j hj).keep F K nU
   have e:getD (j:Int) (putD (k:Int) (.ref O.length) kvs)=getD (j:Int) kvs:=by rw[ziB,if_neg (by omega)]
   generalize hx:l[j]? =x at this
   match x,this with
   | some (some Q'),⟨t,L',vs',g1,g2,g3,g4,g5⟩=> exact⟨t,L',vs',e.trans g1,g2,g3,by simp[g4],g5⟩
   | some none,g=> exact e.trans g
   | none,g=> exact e.trans g
 .rcases List.mem_cons.mp hu with rfl | hu
  .exact⟨vs,F.get h1 nL⟩
  .obtain⟨ws,e⟩:=h.un u hu
   exact⟨ws,F.get e (nU u hu)⟩
theorem zyi{k Ls:Nat}{Q:Quest}{vs:List FV}(h:QAt O q d a n U l)(hk:k < 16)(h1:O[Ls]? =some (.lst vs))(hS:StepsAt O Q.path vs)(hp:Q.path.length<=8):
  ∃O' a' n',zcp [.ref q,.int k,.int (if Q.shut=true then 1 else 0),.ref Ls] O=some (.non,O')/\QAt O' q d a' n' (Ls::U) (l.set k (some Q))/\O.length<=a'/\O.length<=n'/\Fr O O' [q,d]:=by
 obtain⟨⟨un,L,nv,kvs,H,hh,-,-⟩,-⟩:=h
 have lq:=zaq H.hq
 have ld:=zaq hh.hd
 have ndq:=zaU hh.hd H.hq (by simp)
 have h2:=hh.put hk h1 hS hp
 have hq2:((O ++ [FO.tup [.int (if Q.shut=true then 1 else 0),.ref Ls]]).set d (.dK (putD (k:Int) (.ref O.length) kvs)))[q]? =some (.ins 0 [.ref d,.int L.root,.int L.wide,.int un,.ref a,.ref n]):=by
  rw[zaR ndq,za8 lq]; exact H.hq
 obtain⟨O',a',n',E,hQ,g1,g2,F⟩:=zlx hq2 h2
 have:=zvZ hh.ok
 simp at g1 g2
 refine⟨O',a',n',zwd H.hq hh.hd (by unfold LIM; omega) lq ld ndq (by omega) E,hQ,by omega,by omega,?_⟩
 exact (Fr.new.trans (T:=[d]) (Fr.set (by simp)) (by simp; omega)).trans (T:=[q]) F (by simp; omega)
theorem zme{k:Int}{v0 v1 v2 v3 v4 v5:FV}{O':FH}(hq:O[q]? =some (.ins 0 [.ref d,v1,v2,v3,v4,v5]))(hd:O[d]? =some (.dK kvs))(hg:getD k kvs=some v0)(lq:q < O.length)(ld:d < O.length)(ndq:d≠q)
  (E:zaZ [.ref q] (O.set d (.dK (delD k kvs)))=some (.non,O')):zbs [.ref q,.int k] O=some (.non,O'):=by
 unfold zbs zb8
 walk_at "evh"
theorem HeldAt.del{k:Nat}(h:HeldAt O d U l kvs)(hk:k < 16):
  HeldAt (O.set d (.dK (delD (k:Int) kvs))) d U (l.set k none) (delD (k:Int) kvs):=by
 have ld:=zaq h.hd
 have F:Fr O (O.set d (.dK (delD (k:Int) kvs))) [d]:=Fr.set (by simp)
 have K:Kp O _:=F.kp (by intro j hj xs e; simp at hj; subst hj; rw[h.hd] at e; cases e)
 have nU:∀u∈U,u∉[d]:=fun u hu=> by
  obtain⟨ws,e⟩:=h.un u hu
  have:=zaU e h.hd (by simp)
  simp[this]
 refine⟨za7 ld,zvT h.ok,fun j hj=> ?_,fun u hu=> ?_,h.qok.set (fun Q' e=> by cases e)⟩
 .by_cases c:k=j
  .subst c
   rw[List.getElem?_set_self (by rw[h.qok.len]; exact hj)]
   show getD _ _=none
   rw[zne,if_pos rfl]
  .rw[List.getElem?_set_ne c]
   have:=(h.at_ j hj).keep F K nU
   have e:getD (j:Int) (delD (k:Int) kvs)=getD (j:Int) kvs:=by rw[zne,if_neg (by omega)]
   generalize hx:l[j]? =x at this
   match x,this with
   | some (some Q'),⟨t,L',vs',g1,g2,g3,g4,g5⟩=> exact⟨t,L',vs',e.trans g1,g2,g3,g4,g5⟩
   | some none,g=> exact e.trans g
   | none,g=> exact e.trans g
 .obtain⟨ws,e⟩:=h.un u hu
  exact⟨ws,F.get e (nU u hu)⟩
theorem zn6{k:Nat}{Q:Quest}(h:QAt O q d a n U l)(hk:l[k]? =some (some Q)):
  ∃O' a' n',zbs [.ref q,.int k] O=some (.non,O')/\QAt O' q d a' n' U (l.set k none)/\O.length<=a'/\O.length<=n'/\Fr O O' [q,d]:=by
 obtain⟨⟨un,L,nv,kvs,H,hh,-,-⟩,-⟩:=h
 have lq:=zaq H.hq
 have ld:=zaq hh.hd
 have ndq:=zaU hh.hd H.hq (by simp)
 have hk16:k < 16:=by
  have:=(List.getElem?_eq_some_iff.mp hk).1
  rw[hh.qok.len] at this; exact this
 have hat:=hh.at_ k hk16
 rw[hk] at hat
 obtain⟨t,_,_,g,_⟩:=hat
 obtain⟨O',a',n',E,hQ,g1,g2,F⟩:=zlx (show (O.set d (.dK (delD (k:Int) kvs)))[q]? =_ by rw[zaR ndq]; exact H.hq) (hh.del hk16)
 rw[ze8] at g1 g2
 refine⟨O',a',n',zme H.hq hh.hd g lq ld ndq E,hQ,g1,g2,?_⟩
 exact (Fr.set (by simp)).trans (T:=[q]) F (by simp; omega)
theorem zkB(h:HeldAt O d U l kvs){k:Nat}(hk:k < 16):(getD (k:Int) kvs).isSome=(l.getD k none).isSome:=by
 have:=h.at_ k hk
 rw[List.getD_eq_getElem?_getD]
 generalize hx:l[k]? =x at this
 match x,this with
 | some (some Q'),⟨t,L',vs',g1,_⟩=> rw[g1]; rfl
 | some none,g=> rw[show getD (k:Int) kvs=none from g]; rfl
 | none,g=> rw[show getD (k:Int) kvs=none from g]; rfl
theorem ztQ{k:Int}{x:Option FV}{v1 v2 v3 v4 v5:FV}(hq:O[q]? =some (.ins 0 [.ref d,v1,v2,v3,v4,v5]))(hd:O[d]? =some (.dK kvs)):sIf (tDnin (eV 1) (eFld 0 0 (eV 0))) (sRet (eV 1)) sNx [some (.ref q),some (.int k)] O=if (getD k kvs).isSome=false then some (.rt (.int k),O) else some (.nx [some (.ref q),some (.int k)],O):=by
 walk_at "evh"
theorem zle{v1 v2 v3 v4 v5:FV}(hq:O[q]? =some (.ins 0 [.ref d,v1,v2,v3,v4,v5]))(h:HeldAt O d U l kvs):∀(m k:Nat) (x:Option FV),k + m<=16->
  ∃y,loopR 1 (sIf (tDnin (eV 1) (eFld 0 0 (eV 0))) (sRet (eV 1)) sNx) k m [some (.ref q),x] O=match (List.range' k m).find? (fun (j:Nat)=> (l.getD j none).isNone) with
   | some j=> some (.rt (.int j),O)
   | none=> some (.nx [some (.ref q),y],O)
 | 0,k,x,hk=> ⟨x,by rw[loopR]; rfl⟩
 | m + 1,k,x,hk=> by
  obtain⟨y,ih⟩:=zle hq h m (k + 1) (some (.int k)) (by omega)
  refine⟨y,?_⟩
  rw[loopR]
  show ((sIf (tDnin (eV 1) (eFld 0 0 (eV 0))) (sRet (eV 1)) sNx [some (.ref q),some (.int k)] O).bind _)=_
  rw[ztQ (x:=none) hq h.hd,zkB h (by omega),List.range'_succ,List.find?_cons]
  cases hx:l.getD k none with
  | none=> rfl
  | some Q=> simp only[Option.isSome_some,Option.isNone_some]; exact ih
theorem zwE(h:QAt O q d a n U l):zbb [.ref q] O=some (match freeOf l with | some k=> .int k | none=> .non,O):=by
 obtain⟨⟨un,L,nv,kvs,H,hh,-,-⟩,-⟩:=h
 obtain⟨y,E⟩:=zle H.hq hh 16 0 none (by omega)
 unfold freeOf MOST
 rw[List.range_eq_range']
 unfold zbb zbL
 walk_at "ev"
 rw[E]
 cases List.find? (fun (j:Nat)=> (l.getD j none).isNone) (List.range' 0 16) with
 | none=> rfl
 | some j=> rfl
end
section
variable {O:FH}{q d a n un:Nat}{L:Lay}{nv:List (NK×FV)}{U:List Nat}{l:List (Option Quest)}{kvs:List (Int×FV)}
theorem zk3{w:List Place}{p:Nat}(hl:QOk l)(h:zeD l w p):p < 2 ^ 144:=by
 apply Nat.lt_pow_two_of_testBit
 intro i hi
 rw[h]
 unfold zk5
 split
 .rename_i Q hQ
  have hs:=hl.short _ Q hQ
  rw[Bool.eq_false_iff]
  intro z
  rw[Bool.and_eq_true,List.contains_iff_mem] at z
  have:=zmO Q.path w _ z.2
  omega
 .rfl
def kindOf:Place->Int
 | .member _=> 0
 | .element _=> 1
def zsA(O:FH)(t:Nat)(x:Place):Prop:=∃v,O[t]? =some (.tup [.int (kindOf x),v])/\keyOf O (.ref t)=some (zdL x)
theorem znk{t:Nat}{pl k fo f fa fs fw w r:Int}{v v0 v1 v3:FV}{as:List FV}{K:NK}(hq:O[q]? =some (.ins 0 [v0,v1,.int w,v3,.ref a,.ref n]))(ha:O[a]? =some (.lst as))(hn:O[n]? =some (.dN nv))(ht:O[t]? =some (.tup [.int k,v]))(hK:keyOf O (.ref t)=some K)
  (e1:atF as k=some (.int fa)) (e2:(getD K nv).getD (.int 0)= .int fo) (e3:iOr fa fo=some (.int f)) (e4:iAnd pl f=some (.int fs)) (e5:iShl fs 16=some (.int fw)) (e6:iAnd pl w=some (.int r)) (e7:∃z,iOr fw r=some z):
  zaJ [.ref q,.int pl,.ref t] O=(iOr fw r).bind fun z=> some (z,O):=by
 obtain⟨z,e7⟩:=e7
 have a0:=@at0
 unfold zaJ zcX
 walk_at "evh"
def zul(L:Lay):Place->Nat
 | .member _=> L.a0
 | .element _=> L.a1
theorem ztG(L:Lay)(x:Place):zul L x ||| L.only (zdL x)=L.fit x:=by cases x <;> rfl
theorem zpX{t pl:Nat}{w:List Place}{x:Place}(h:QAt O q d a n U l)(hp:zeD l w pl)(hx:zsA O t x):
  ∃pl':Nat,zaJ [.ref q,.int pl,.ref t] O=some (.int pl',O)/\zeD l (w ++ [x]) pl':=by
 obtain⟨⟨un,L,nv,kvs,H,hh,hL,-⟩,-⟩:=h
 obtain⟨v,ht,hK⟩:=hx
 have hlt:=zk3 hh.qok hp
 have e1:atF [FV.int L.a0,FV.int L.a1] (kindOf x)=some (.int (zul L x:Int)):=by cases x <;> rfl
 have e3:=zgr (zul L x) (L.only (zdL x))
 rw[ztG] at e3
 have e4:=zhI pl (L.fit x)
 have hlt2:pl &&& L.fit x < 2 ^ 200:=Nat.lt_of_le_of_lt Nat.and_le_left (Nat.lt_trans hlt (Nat.pow_lt_pow_right (by omega) (by omega)))
 have e5:=zhH hlt2 (show 16<=200 by omega)
 have e6:=zhI pl L.wide
 have e7:=zgr ((pl &&& L.fit x) <<< 16) (pl &&& L.wide)
 refine⟨_,?_,zk4 hp (hL.fit x) hL.wide⟩
 rw[znk H.hq H.ha H.hn ht hK e1 (H.ho _) e3 e4 e5 e6 ⟨_,e7⟩,e7]
 rfl
theorem zn8{pl:Nat}{w:List Place}(h:QAt O q d a n U l)(hp:zeD l w pl):zbt [.ref q,.int pl] O=some (.int (whichOf l w),O):=by
 obtain⟨⟨un,L,nv,kvs,H,hh,hL,-⟩,-⟩:=h
 have e:=zra pl 128
 rw[zmx hh.qok hp] at e
 unfold zbt zb9
 walk_at "ev"
 rw[show (16:Int) * 8=((128:Nat):Int) from rfl,e]
 rfl
theorem zmo{wh u r:Int}{v0 v1 v2 v4 v5:FV}(hq:O[q]? =some (.ins 0 [v0,v1,v2,.int u,v4,v5]))(e:iAnd wh u=some (.int r)):zbu [.ref q,.int wh] O=some (.bl (!decide (wh=0) && decide (r=0)),O):=by
 unfold zbu zca
 by_cases c:wh=0
 .subst c
  walk_at "evh"
  rfl
 .walk_at "evh"
  rfl
theorem zn9{wh:Nat}(h:QAt O q d a n U l):zbu [.ref q,.int wh] O=some (.bl (allShut l wh),O):=by
 obtain⟨⟨un,L,nv,kvs,H,hh,hL,hu⟩,-⟩:=h
 rw[zmo H.hq (zhI wh un),<- zsO hh.qok.len hu]
 rw[show decide ((wh:Int)=0)=decide (wh=0) from decide_eq_decide.mpr (by omega),show decide (((wh &&& un:Nat):Int)=0)=decide (wh &&& un=0) from decide_eq_decide.mpr (by omega)]
theorem QAt.root(h:QAt O q d a n U l):∃(pl:Nat) (v2 v3:FV),O[q]? =some (.ins 0 [.ref d,.int pl,v2,v3,.ref a,.ref n])/\zeD l [] pl:=by
 obtain⟨⟨un,L,nv,kvs,H,hh,hL,-⟩,-⟩:=h
 exact⟨L.root,_,_,H.hq,zl2 hL.root⟩
theorem znh{i:Nat}{bg:Int}{v1 v2 v3:FV}(hi:O[i]? =some (.ins 2 [.int 1,v1,v2,v3,.int bg])):zbk [.ref i] O=some (.ref O.length,O ++ [.tup [.int 1,.int (bg - 1)]]):=by
 unfold zbk zdZ
 walk_at "evh"
theorem zni{i:Nat}{v1 v2 v3 v4:FV}(hi:O[i]? =some (.ins 2 [.int 0,v1,v2,v3,v4])):zbk [.ref i] O=some (.ref O.length,O ++ [.tup [.int 0,v3]]):=by
 unfold zbk zdZ
 walk_at "evh"
theorem zsn{i nm:Nat}{bg:Int}{v1 v2:FV}{f:Frame}(hi:O[i]? =some (.ins 2 [.int (if f.arr=true then 1 else 0),v1,v2,.ref nm,.int bg]))(hn:O[nm]? =some (.tup (fI f.name)))(hb:f.arr=true->bg=f.index + 1):
  ∃o,zbk [.ref i] O=some (.ref O.length,O ++ [o])/\zsA (O ++ [o]) O.length f.place:=by
 unfold Frame.place
 cases ha:f.arr with
 | true=>
  rw[ha] at hi
  refine⟨_,znh hi,.int (bg - 1),by rw[zaO rfl]; rfl,?_⟩
  unfold keyOf tupAt
  dsimp only
  rw[zaO rfl,hb ha]
  show some ((1:Int),(Sum.inl ((f.index:Int) + 1 - 1):Sum Int (List Int)))=some (1,.inl (f.index:Int))
  congr 3
  omega
 | false=>
  rw[ha] at hi
  have ln:=zaq hn
  refine⟨_,zni hi,.ref nm,by rw[zaO rfl]; rfl,?_⟩
  unfold keyOf tupAt
  dsimp only
  rw[zaO rfl]
  simp only[zbN,if_true]
  rw[za8 ln,hn]
  simp only[zbN]
  rw[zkx]
  rfl
theorem zpG(hq:O[q]? =some (.ins 0 []))(lq:q < O.length)(g1:q < O.length + 1)(g2:q < O.length + 1 + 1)(g3:q < O.length + 1 + 1 + 1):∃O',zaN [.ref q] O=some (.non,O')/\O'=(((O ++ [FO.dK []]).set q (.ins 0 [.ref O.length,.int 0,.int 0,.int 0]) ++ [FO.lst [.int 0,.int 0]]).set q (.ins 0 [.ref O.length,.int 0,.int 0,.int 0,.ref (O.length + 1)]) ++ [FO.dN []]).set q (.ins 0 [.ref O.length,.int 0,.int 0,.int 0,.ref (O.length + 1),.ref (O.length + 1 + 1)]):=by
 refine⟨_,?_,rfl⟩
 unfold zaN zcb
 walk_at "evh"
theorem zrN(hq:O[q]? =some (.ins 0 [])):∃O',zaN [.ref q] O=some (.non,O')/\QAt O' q O.length (O.length + 1) (O.length + 1 + 1) [] (List.replicate 16 none)/\Fr O O' [q]:=by
 have lq:=zaq hq
 obtain⟨O',E,hO'⟩:=zpG hq lq (by omega) (by omega) (by omega)
 refine⟨O',E,⟨⟨0,lay0,[],[],⟨?_,?_,?_,fun _=> rfl⟩,⟨?_,rfl,fun k hk=> ?_,fun u hu=> (by cases hu),⟨by simp,fun k Q h=> ?_⟩⟩,zse _ [] fun k=> ?_,fun i=> ?_⟩,by simp⟩,?_⟩
 .rw[hO',za7 (by simp; omega)]; rfl
 .rw[hO',zaR (by omega),za8 (by simp),zaR (by omega),zaO (by simp)]; rfl
 .rw[hO',zaR (by omega),zaO (by simp)]
 .rw[hO',zaR (by omega),za8 (by simp <;> omega),zaR (by omega),za8 (by simp <;> omega),zaR (by omega),zaO (by simp)]
 .rw[List.getElem?_replicate,if_pos hk]; rfl
 .rw[List.getElem?_replicate] at h; split at h <;> cases h
 .rw[List.getElem?_replicate]
  constructor
  .intro h; cases h
  .rintro⟨_,Q,h⟩; split at h <;> cases h
 .unfold unB
  rw[List.getElem?_replicate]
  split
  .rename_i Q h; split at h <;> cases h
  .simp
 .rw[hO']
  exact ((((Fr.new.trans (T:=[q]) (Fr.set (by simp)) fun _ _ h=> h).trans (T:=[q]) Fr.new fun _ _ h=> h).trans (T:=[q]) (Fr.set (by simp)) fun _ _ h=> h).trans (T:=[q]) Fr.new fun _ _ h=> h).trans (T:=[q]) (Fr.set (by simp)) fun _ _ h=> h
end
def leO:Option Nat->Nat->Bool
 | some t,d=> decide (t<=d)
 | none,_=> false
def zck(tel out:Option Nat)(d:Nat):Int:=if leO out d=true then 2 else if leO tel d=true then 1 else 0
structure LvB (O:FH) (l:List (Option Quest)) (tel out:Option Nat) (f:Frame) (fs:List Frame) (i:Nat) (b:Bool) (pl nm:Nat) (bg:Int):Prop where
 x1:O[i]? =some (.ins 2 [.int (if f.arr=true then 1 else 0),.int pl,.int (zck tel out (fs.length + 1)),.ref nm,.int bg])
 x2:O[nm]? =some (.tup (fI f.name))
 x3:zeD l (fs.reverse.map Frame.place) pl
 x4:f.arr=true->bg=if b=true then (f.index:Int) else (f.index:Int) + 1
def LvAt(O:FH)(l:List (Option Quest))(tel out:Option Nat):List Frame->List Nat->Bool->Prop
 | [],[],_=> True
 | f::fs,i::is,b=> (∃(pl nm:Nat) (bg:Int),LvB O l tel out f fs i b pl nm bg)/\i∉is/\LvAt O l tel out fs is false
 | _,_,_=> False
theorem LvAt.len{O:FH}{l:List (Option Quest)}{tel out:Option Nat}:∀{fs:List Frame} {is:List Nat} {b:Bool},LvAt O l tel out fs is b->is.length=fs.length
 | [],[],_,_=> rfl
 | _::_,_::_,_,h=> by simp[LvAt.len h.2.2]
 | [],_::_,_,h=> h.elim
 | _::_,[],_,h=> h.elim
theorem LvAt.ins{O:FH}{l:List (Option Quest)}{tel out:Option Nat}:∀{fs:List Frame} {is:List Nat} {b:Bool},LvAt O l tel out fs is b->∀i∈is,∃vs,O[i]? =some (.ins 2 vs)
 | [],[],_,_,i,hi=> by cases hi
 | _::_,j::is,_,h,i,hi=> by
  rcases List.mem_cons.mp hi with rfl | hi
  .obtain⟨⟨_,_,_,h1,_⟩,_⟩:=h
   exact⟨_,h1⟩
  .exact LvAt.ins h.2.2 i hi
 | [],_::_,_,h,_,_=> h.elim
 | _::_,[],_,h,_,_=> h.elim
theorem LvAt.keep{O O':FH}{S:List Nat}{l:List (Option Quest)}{tel out:Option Nat}(F:Fr O O' S)(K:Kp O O'):∀{fs:List Frame} {is:List Nat} {b:Bool},LvAt O l tel out fs is b->(∀i∈is,i∉S)->LvAt O' l tel out fs is b
 | [],[],_,_,_=> trivial
 | f::fs,i::is,b,⟨⟨pl,nm,bg,h1,h2,h3,h4⟩,h5,h6⟩,hS=> ⟨⟨pl,nm,bg,F.get h1 (hS i (by simp)),K _ _ h2,h3,h4⟩,h5,LvAt.keep F K h6 fun j hj=> hS j (by simp[hj])⟩
 | [],_::_,_,h,_=> h.elim
 | _::_,[],_,h,_=> h.elim
theorem LvAt.tell{O:FH}{l:List (Option Quest)}{tel out tel' out':Option Nat}:∀{fs:List Frame} {is:List Nat} {b:Bool},LvAt O l tel out fs is b->(∀d,d<=fs.length->zck tel out d=zck tel' out' d)->LvAt O l tel' out' fs is b
 | [],[],_,_,_=> trivial
 | f::fs,i::is,b,⟨⟨pl,nm,bg,h1,h2,h3,h4⟩,h5,h6⟩,hd=> ⟨⟨pl,nm,bg,by rw[<- hd _ (by simp)]; exact h1,h2,h3,h4⟩,h5,LvAt.tell h6 fun d hh=> hd d (by simp; omega)⟩
 | [],_::_,_,h,_=> h.elim
 | _::_,[],_,h,_=> h.elim
def zae(q lv st nu:Nat)(aw wh:Int)(tb:Bool)(wd sp:Int):FO:= .ins 4 [.ref q,.ref lv,.int aw,.int wh,.bl tb,.ref st,.ref nu,.int wd,.int sp]
theorem ztF{n N:Nat}{s:MS}{vs:List FV}{O O':FH}{v:FV}(h:vs.length=n)(hb:s (vs.map some ++ List.replicate (N - n) none) O=some (.rt v,O')):mFn n N s vs O=some (v,O'):=by
 rw[zw1,if_pos h,hb]; rfl
section
variable {O:FH}{q d a n:Nat}{U:List Nat}{l:List (Option Quest)}{rd lv st nu:Nat}{aw wh wd sp:Int}{tb:Bool}{tel out:Option Nat}{fs:List Frame}{is:List Nat}
theorem zgI(i:Nat)(is:List Nat):atF ((i::is).reverse.map FV.ref) (-1)=some (.ref i):=by
 unfold atF
 rw[if_neg (by omega),if_pos (by simp; omega)]
 have e:(((((i::is).reverse.map FV.ref).length:Nat):Int) + -1).toNat=is.length:=by simp; omega
 rw[e]
 simp
theorem zmi(hr:O[rd]? =some (zae q lv st nu aw wh tb wd sp))(hl:O[lv]? =some (.lst [])):zap [.ref rd] O=some (.int 0,O):=by
 unfold zae at hr
 unfold zap zbo
 walk_at "evh"
 rfl
theorem zmh{xs:List FV}{i:Nat}{k pl t nm bg:FV}(hr:O[rd]? =some (zae q lv st nu aw wh tb wd sp))(hl:O[lv]? =some (.lst xs))(hx:¬(xs.length:Int)=0)(hi:atF xs (-1)=some (.ref i))(hO:O[i]? =some (.ins 2 [k,pl,t,nm,bg])):zap [.ref rd] O=some (t,O):=by
 unfold zae at hr
 unfold zap zbo
 walk_at "evh"
theorem zlv{b:Bool}(hr:O[rd]? =some (zae q lv st nu aw wh tb wd sp))(hl:O[lv]? =some (.lst (is.reverse.map FV.ref)))(h:LvAt O l tel out fs is b)(h0:∀t,tel=some t->1<=t)(h1:∀t,out=some t->1<=t):zap [.ref rd] O=some (.int (zck tel out fs.length),O):=by
 match fs,is,h with
 | [],[],_=>
  have e:zck tel out ([]:List Frame).length=0:=by
   unfold zck
   have a:leO out 0=false:=by
    cases out with
    | none=> rfl
    | some t=> have:=h1 t rfl; simp[leO]; omega
   have b:leO tel 0=false:=by
    cases tel with
    | none=> rfl
    | some t=> have:=h0 t rfl; simp[leO]; omega
   simp[a,b]
  rw[e]
  exact zmi hr hl
 | f::fs,i::is,⟨⟨pl,nm,bg,g1,_,_,_⟩,_⟩=>
  exact zmh hr hl (by simp; omega) (zgI i is) g1
def seA:MS:=(sSet 1 (eFld 0 1 (eFld 4 0 (eV 0))))
def seB:MS:=(sIf (tCmp cGt (eLen (eFld 4 1 (eV 0))) (eC (.int 0))) (sSeq (sSet 2 (eIxL (eFld 4 1 (eV 0)) (eC (.int (-1))))) (sSeq (sEx (eMeth 2 zbD (eV 2) aNil)) (sSet 1 (eMeth 0 zaJ (eFld 4 0 (eV 0)) (aCons (eFld 2 1 (eV 2)) (aCons (eMeth 2 zbk (eV 2) aNil) aNil)))))) sNx)
def seC:MS:=(zco 4 3 (eV 0) (eMeth 0 zbt (eFld 4 0 (eV 0)) (aCons (eV 1) aNil)))
def seD:MS:=(sSet 3 (eMeth 4 zap (eV 0) aNil))
def seE:MS:=(zco 4 4 (eV 0) (eOr (eB (tCmp cEq (eV 3) (eC (.int 1)))) (eAnd (eB (tCmp cEq (eV 3) (eC (.int 0)))) (eB (tCmp cNe (eFld 4 3 (eV 0)) (eC (.int 0)))))))
theorem zsj{v0 v1 v2 v3 v4 v5:FV}(hr:O[rd]? =some (zae q lv st nu aw wh tb wd sp))(hq:O[q]? =some (.ins 0 [v0,v1,v2,v3,v4,v5])):seA [some (.ref rd),none,none,none] O=some (.nx [some (.ref rd),some v1,none,none],O):=by
 unfold zae at hr
 unfold seA
 walk_at "evh"
theorem ztL{x:Option FV}(hr:O[rd]? =some (zae q lv st nu aw wh tb wd sp))(hl:O[lv]? =some (.lst [])):seB [some (.ref rd),x,none,none] O=some (.nx [some (.ref rd),x,none,none],O):=by
 unfold zae at hr
 unfold seB
 walk_at "evh"
 rfl
theorem zrH{i:Nat}{k pl t nm:FV}{bg:Int}(hO:O[i]? =some (.ins 2 [k,pl,t,nm,.int bg])):zbD [.ref i] O=some (.non,O.set i (.ins 2 [k,pl,t,nm,.int (bg + 1)])):=by
 unfold zbD zcv
 walk_at "evh"
theorem ztK{x:Option FV}{xs:List FV}{i t':Nat}{k pl t nm pl':FV}{bg:Int}{vq:List FV}{O2:FH}(hr:O[rd]? =some (zae q lv st nu aw wh tb wd sp))(hl:O[lv]? =some (.lst xs))(hx:(0:Int) < (xs.length:Int))(hi:atF xs (-1)=some (.ref i))(hO:O[i]? =some (.ins 2 [k,pl,t,nm,.int bg]))(hq:O[q]? =some (.ins 0 vq))(li:i < O.length)(nir:i≠rd)(niq:i≠q)
  (E1:zbD [.ref i] O=some (.non,O.set i (.ins 2 [k,pl,t,nm,.int (bg + 1)]))) (E2:zbk [.ref i] (O.set i (.ins 2 [k,pl,t,nm,.int (bg + 1)]))=some (.ref t',O2)) (E3:zaJ [.ref q,pl,.ref t'] O2=some (pl',O2)):
  seB [some (.ref rd),x,none,none] O=some (.nx [some (.ref rd),some pl',some (.ref i),none],O2):=by
 unfold zae at hr
 unfold seB
 walk_at "evh"
theorem zwb{x:FV}{y z:Option FV}{wh':Int}{vq:List FV}(hr:O[rd]? =some (zae q lv st nu aw wh tb wd sp))(hq:O[q]? =some (.ins 0 vq))(E:zbt [.ref q,x] O=some (.int wh',O)):seC [some (.ref rd),some x,y,z] O=some (.nx [some (.ref rd),some x,y,z],O.set rd (zae q lv st nu aw wh' tb wd sp)):=by
 unfold zae at *
 unfold seC
 walk_at "evh"
theorem zwa{x y:Option FV}{t:FV}(hr:O[rd]? =some (zae q lv st nu aw wh tb wd sp))(E:zap [.ref rd] O=some (t,O)):seD [some (.ref rd),x,y,none] O=some (.nx [some (.ref rd),x,y,some t],O):=by
 unfold zae at *
 unfold seD
 walk_at "evh"
theorem zv9{x y:Option FV}{t:Int}(hr:O[rd]? =some (zae q lv st nu aw wh tb wd sp)):seE [some (.ref rd),x,y,some (.int t)] O=some (.nx [some (.ref rd),x,y,some (.int t)],O.set rd (zae q lv st nu aw wh (decide (t=1) ||(decide (t=0) && !decide (wh=0))) wd sp)):=by
 unfold zae at *
 unfold seE
 by_cases c1:t=1
 .subst c1
  walk_at "evh"
  rfl
 .by_cases c0:t=0
  .subst c0
   walk_at "evh"
   rfl
  .walk_at "evh"
   rfl
def SOk(O:FH)(a:Nat)(U S:List Nat):Prop:=∀j∈S,(∃c vs,c≠0/\O[j]? =some (.ins c vs))\/((∃vs,O[j]? =some (.lst vs))/\j≠a/\j∉U)
theorem SOk.kp{O O':FH}{S:List Nat}(h:SOk O a U S)(F:Fr O O' S):Kp O O':=F.kp fun j hj xs e=> by
 rcases h j hj with⟨c,vs,_,z⟩ |⟨⟨vs,z⟩,_⟩ <;> rw[z] at e <;> cases e
theorem QAt.fr{O O':FH}{S:List Nat}(h:QAt O q d a n U l)(F:Fr O O' S)(hS:SOk O a U S):QAt O' q d a n U l:=by
 have h':=h
 obtain⟨⟨un,L,nv,kvs,H,hh,_,_⟩,_⟩:=h'
 have ex:∀{j:Nat} {o:FO},O[j]? =some o->(∀c vs,c≠0->o≠ .ins c vs)->(∀vs,o= .lst vs->j=a\/j∈U)->j∉S:=fun {j o} e h1 h2 hj=> by
  rcases hS j hj with⟨c,vs,hc,z⟩ |⟨⟨vs,z⟩,k1,k2⟩
  .rw[z] at e; injection e with e; exact h1 c vs hc e.symm
  .rw[z] at e
   injection e with e
   rcases h2 vs e.symm with k | k
   .exact k1 k
   .exact k2 k
 refine h.keep F (hS.kp F) (ex H.hq ?_ ?_) (ex hh.hd ?_ ?_) (ex H.ha ?_ ?_) (ex H.hn ?_ ?_) fun u hu=> ?_
 .intro c vs hc e; injection e with e; exact hc e.symm
 .intro vs e; cases e
 .intro c vs hc e; cases e
 .intro vs e; cases e
 .intro c vs hc e; cases e
 .intro vs e; exact .inl rfl
 .intro c vs hc e; cases e
 .intro vs e; cases e
 .obtain⟨ws,e⟩:=hh.un u hu
  exact ex e (fun c vs hc e=> by cases e) fun vs e=> .inr hu
theorem zxv{tel out:Option Nat}{D:Nat}(h0:∀t,tel=some t->t<=D)(h1:∀t,out=some t->t<=D)(w:Nat):(decide (zck tel out D=1) ||(decide (zck tel out D=0) && !decide ((w:Int)=0)))=(out.isNone && (tel.isSome || w !=0)):=by
 have ew:(!decide ((w:Int)=0))=(w !=0):=by
  rw[show decide ((w:Int)=0)=decide (w=0) from decide_eq_decide.mpr (by omega)]; rfl
 rw[ew]
 unfold zck
 cases out with
 | some o=> simp[leO,h1 o rfl]
 | none=>
  cases tel with
  | some t=> simp[leO,h0 t rfl]
  | none=> simp[leO]
theorem zf9{O:FH}{i:Nat}{x:FO}{fs:List Frame}{is:List Nat}{b:Bool}(h:LvAt O l tel out fs is b)(hi:i∉is)(hx:∀xs,O[i]?≠some (.tup xs)):LvAt (O.set i x) l tel out fs is b:=
 h.keep (S:=[i]) (Fr.set (by simp)) ((Fr.set (S:=[i]) (by simp)).kp fun j hj xs=> by simp at hj; subst hj; exact hx xs) fun j hj=> by simp; rintro rfl; exact hi hj
theorem znn(hr:O[rd]? =some (zae q lv st nu aw wh tb wd sp))(hl:O[lv]? =some (.lst (is.reverse.map FV.ref)))(h:LvAt O l tel out fs is true)(hQ:QAt O q d a n U l)(h0:∀t,tel=some t->1<=t/\t<=fs.length)(h1:∀t,out=some t->1<=t/\t<=fs.length):
  ∃(O':FH) (pl':Nat),zal [.ref rd] O=some (.int pl',O')/\O'[rd]? =some (zae q lv st nu aw (whichOf l (fs.reverse.map Frame.place)) (out.isNone && (tel.isSome || whichOf l (fs.reverse.map Frame.place) !=0)) wd sp)/\zeD l (fs.reverse.map Frame.place) pl'/\LvAt O' l tel out fs is false/\Fr O O' (rd::is):=by
 have lr:=zaq hr
 have nri:rd∉is:=fun z=> by
  obtain⟨vs,e⟩:=h.ins rd z
  rw[hr] at e; cases e
 have nrl:rd≠lv:=zaU hr hl (by simp[zae])
 have main:∃(O2:FH) (pl':Nat) (y:Option FV),sSeq seA (sSeq seB (sSeq seC (sSeq seD (sSeq seE (sRet (eV 1)))))) [some (.ref rd),none,none,none] O=sSeq seC (sSeq seD (sSeq seE (sRet (eV 1)))) [some (.ref rd),some (.int pl'),y,none] O2/\zeD l (fs.reverse.map Frame.place) pl'/\LvAt O2 l tel out fs is false/\Fr O O2 is/\QAt O2 q d a n U l:=by
  obtain⟨pl0,v2,v3,hq,hp0⟩:=hQ.root
  match fs,is,h with
  | [],[],_=>
   refine⟨O,pl0,none,?_,hp0,trivial,Fr.refl,hQ⟩
   rw[ze9 (zsj hr hq),ze9 (ztL hr hl)]
  | f::fs,i::is,⟨⟨pl,nm,bg,g1,g2,g3,g4⟩,g5,g6⟩=>
   have li:=zaq g1
   have nir:=zaU g1 hr (by simp[zae])
   have niq:=zaU g1 hq (by simp)
   have nin:=zaU g1 g2 (by simp)
   have hS1:SOk O a U [i]:=fun j hj=> by simp at hj; subst hj; exact .inl ⟨2,_,by decide,g1⟩
   have F1:Fr O (O.set i (.ins 2 [.int (if f.arr=true then 1 else 0),.int pl,.int (zck tel out (fs.length + 1)),.ref nm,.int (bg + 1)])) [i]:=Fr.set (by simp)
   have g1':=za7 (x:= .ins 2 [.int (if f.arr=true then 1 else 0),.int pl,.int (zck tel out (fs.length + 1)),.ref nm,.int (bg + 1)]) li
   have g2':(O.set i (.ins 2 [.int (if f.arr=true then 1 else 0),.int pl,.int (zck tel out (fs.length + 1)),.ref nm,.int (bg + 1)]))[nm]? =some (.tup (fI f.name)):=by rw[zaR nin]; exact g2
   obtain⟨o,E2,hLk⟩:=zsn g1' g2' (fun z=> by rw[g4 z]; rfl)
   have Fn:Fr O (O.set i (.ins 2 [.int (if f.arr=true then 1 else 0),.int pl,.int (zck tel out (fs.length + 1)),.ref nm,.int (bg + 1)]) ++ [o]) [i]:=F1.trans (T:=[i]) Fr.new fun _ _ h=> h
   have hQ2:=hQ.fr Fn hS1
   obtain⟨pl',E3,hp'⟩:=zpX hQ2 g3 hLk
   refine⟨_,pl',some (.ref i),?_,?_,?_,Fn.mono (by simp),hQ2⟩
   .rw[ze9 (zsj hr hq),ze9 (ztK hr hl (by simp) (zgI i is) g1 hq li nir niq (zrH g1) E2 E3)]
   .rw[List.reverse_cons,List.map_append]; exact hp'
   .refine⟨⟨pl,nm,bg + 1,?_,?_,g3,fun z=> ?_⟩,g5,g6.keep Fn (hS1.kp Fn) fun j hj=> by simp; rintro rfl; exact g5 hj⟩
    .rw[za8 (by simp; exact li)]; exact g1'
    .rw[za8 (by simp; exact zaq g2)]; exact g2'
    .rw[g4 z]; try rfl
 obtain⟨O2,pl',y,E,hp',hL2,F2,hQ2⟩:=main
 have hr2:=F2.get hr nri
 have lr2:=zaq hr2
 obtain⟨_,_,_,hq2,_⟩:=hQ2.root
 have hl2:O2[lv]? =some (.lst (is.reverse.map FV.ref)):=F2.get hl fun z=> by
  obtain⟨vs,e⟩:=h.ins lv z
  rw[hl] at e; cases e
 generalize hw:whichOf l (fs.reverse.map Frame.place)=w at *
 have E3:=zwb (y:=y) (z:=none) hr2 hq2 (by rw[zn8 hQ2 hp',hw])
 have nt:∀xs,O2[rd]?≠some (.tup xs):=fun xs z=> by rw[hr2] at z; cases z
 have hr3:(O2.set rd (zae q lv st nu aw w tb wd sp))[rd]? =some (zae q lv st nu aw w tb wd sp):=za7 lr2
 have hl3:(O2.set rd (zae q lv st nu aw w tb wd sp))[lv]? =some (.lst (is.reverse.map FV.ref)):=by rw[zaR nrl]; exact hl2
 have hL3:LvAt (O2.set rd (zae q lv st nu aw w tb wd sp)) l tel out fs is false:=zf9 hL2 nri nt
 have E4:=zwa (x:=some (.int pl')) (y:=y) hr3 (zlv hr3 hl3 hL3 (fun t z=> (h0 t z).1) (fun t z=> (h1 t z).1))
 have E5:=zv9 (x:=some (.int pl')) (y:=y) (t:=zck tel out fs.length) hr3
 rw[zxv (fun t z=> (h0 t z).2) (fun t z=> (h1 t z).2) w,List.set_set] at E5
 refine⟨O2.set rd (zae q lv st nu aw w (out.isNone && (tel.isSome || w !=0)) wd sp),pl',?_,za7 lr2,hp',zf9 hL2 nri nt,(F2.mono (by intro j hj; simp[hj])).trans (T:=[rd]) (Fr.set (by simp)) (by simp; intro j _ z; exact .inl z)⟩
 refine ztF rfl ?_
 show sSeq seA (sSeq seB (sSeq seC (sSeq seD (sSeq seE (sRet (eV 1)))))) [some (.ref rd),none,none,none] O=_
 rw[E,ze9 E3,ze9 E4,ze9 E5]
 rfl
end
def evF(l:List Ev):List FV:=(l.flatMap SqNeutral.evNums).map FV.int
section
variable {O:FH}{q d a n:Nat}{U:List Nat}{l:List (Option Quest)}{rd lv st nu T:Nat}{aw wh wd sp:Int}{tb:Bool}{tel out:Option Nat}{fs:List Frame}{is:List Nat}{tl:List FV}
theorem zna(i:Nat)(is:List Nat):((i::is).reverse.map FV.ref).getLast? =some (.ref i):=by simp
theorem zll(i:Nat)(is:List Nat):((i::is).reverse.map FV.ref).dropLast=is.reverse.map FV.ref:=by
 rw[List.reverse_cons,List.map_append]; simp
theorem zpO{xs ys:List FV}{i:Nat}{k:Int}{pl nm bg:FV}(hr:O[rd]? =some (zae q lv st nu aw wh tb wd sp))(hl:O[lv]? =some (.lst xs))(e1:xs.getLast? =some (.ref i))(e2:xs.dropLast=ys)(hi:O[i]? =some (.ins 2 [.int k,pl,.int 1,nm,bg]))(hT:O[T]? =some (.lst tl))(hlim:tl.length + 2<=LIM)(lr:rd < O.length)(lt:T < O.length)(n1:lv≠i)(n2:lv≠rd)(n3:lv≠T)(n4:T≠rd)(g1:T < O.length + 1)(g2:rd < O.length + 1)(li:i < O.length):
  zar [.ref rd,.ref T] O=some (.non,(((O.set lv (.lst ys)) ++ [FO.lst [.int 2,.int k]]).set T (.lst (tl ++ [FV.int 2,FV.int k]))).set rd (zae q lv st nu 5 wh tb wd sp)):=by
 unfold zae at *
 unfold zar zbO
 walk_at "evh"
theorem zpP{xs ys:List FV}{i:Nat}{k t:Int}{pl nm bg:FV}(hr:O[rd]? =some (zae q lv st nu aw wh tb wd sp))(hl:O[lv]? =some (.lst xs))(e1:xs.getLast? =some (.ref i))(e2:xs.dropLast=ys)(hi:O[i]? =some (.ins 2 [.int k,pl,.int t,nm,bg]))(ht:¬t=1)(lr:rd < O.length)(n1:lv≠i)(n2:lv≠rd):
  zar [.ref rd,.ref T] O=some (.non,(O.set lv (.lst ys)).set rd (zae q lv st nu 5 wh tb wd sp)):=by
 unfold zae at *
 unfold zar zbO
 walk_at "evh"
theorem zht{tel out:Option Nat}{D:Nat}(h0:∀t,tel=some t->t<=D)(h1:∀t,out=some t->t<=D):(zck tel out D=1)↔(out.isNone && tel.isSome)=true:=by
 unfold zck
 cases out with
 | some o=> simp[leO,h1 o rfl]
 | none=>
  cases tel with
  | some t=> simp[leO,h0 t rfl]
  | none=> simp[leO]
theorem zjY{tel out:Option Nat}{D e:Nat}(he:e < D):zck tel out e=zck (if tel=some D then none else tel) (if out=some D then none else out) e:=by
 have hh:∀o:Option Nat,leO o e=leO (if o=some D then none else o) e:=by
  intro o
  by_cases c:o=some D
  .subst c; rw[if_pos rfl]; simp[leO]; omega
  .rw[if_neg c]
 unfold zck
 rw[<- hh,<- hh]
theorem zt6{b:Bool}{f:Frame}{i:Nat}(hr:O[rd]? =some (zae q lv st nu aw wh tb wd sp))(hl:O[lv]? =some (.lst ((i::is).reverse.map FV.ref)))(h:LvAt O l tel out (f::fs) (i::is) b)(hT:O[T]? =some (.lst tl))(nT:lv≠T)(hlim:tl.length + 2<=LIM)(h0:∀t,tel=some t->t<=fs.length + 1)(h1:∀t,out=some t->t<=fs.length + 1):
  ∃O',zar [.ref rd,.ref T] O=some (.non,O')/\O'[rd]? =some (zae q lv st nu 5 wh tb wd sp)/\O'[lv]? =some (.lst (is.reverse.map FV.ref))/\
   LvAt O' l (if tel=some (fs.length + 1) then none else tel) (if out=some (fs.length + 1) then none else out) fs is false/\
   O'[T]? =some (.lst (tl ++ evF (if out.isNone && tel.isSome then [.closes (if f.arr=true then 1 else 0)] else [])))/\Fr O O' [rd,lv,T]:=by
 obtain⟨⟨pl,nm,bg,g1,g2,g3,g4⟩,g5,g6⟩:=h
 have lr:=zaq hr
 have ll:=zaq hl
 have lT:=zaq hT
 have li:=zaq g1
 have n1:=zaU hl g1 (by simp)
 have n2:=zaU hl hr (by simp[zae])
 have n4:=zaU hT hr (by simp[zae])
 have hS:SOk O 0 [0] []:=fun j hj=> by cases hj
 have nis:∀j∈is,j∉[rd,lv,T]:=fun j hj=> by
  obtain⟨vs,e⟩:=g6.ins j hj
  have m1:=zaU e hr (by simp[zae])
  have m2:=zaU e hl (by simp)
  have m3:=zaU e hT (by simp)
  simp[m1,m2,m3]
 have hK:∀{O'},Fr O O' [rd,lv,T]->Kp O O':=fun F=> F.kp fun j hj xs e=> by
  simp at hj
  rcases hj with rfl | rfl | rfl
  .rw[hr] at e; cases e
  .rw[hl] at e; cases e
  .rw[hT] at e; cases e
 by_cases c:zck tel out (fs.length + 1)=1
 .rw[c] at g1
  have F:Fr O ((((O.set lv (.lst (is.reverse.map FV.ref))) ++ [FO.lst [.int 2,.int (if f.arr=true then 1 else 0)]]).set T (.lst (tl ++ [FV.int 2,FV.int (if f.arr=true then 1 else 0)]))).set rd (zae q lv st nu 5 wh tb wd sp)) [rd,lv,T]:=
   (((Fr.set (by simp)).trans (T:=[]) Fr.new (by simp)).trans (T:=[T]) (Fr.set (by simp)) (by simp; omega)).trans (T:=[rd]) (Fr.set (by simp)) (by simp; omega)
  refine⟨_,zpO hr hl (zna i is) (zll i is) g1 hT hlim lr lT n1 n2 nT n4 (by omega) (by omega) li,za7 (by simp; omega),?_,?_,?_,F⟩
  .rw[zaR n2.symm,zaR nT.symm,za8 (by simp; exact ll),za7 ll]
  .exact (g6.keep F (hK F) nis).tell fun e he=> zjY (D:=fs.length + 1) (by omega)
  .rw[zaR n4.symm,za7 (by simp; omega),if_pos ((zht h0 h1).mp c)]
   cases f.arr <;> rfl
 .have F:Fr O ((O.set lv (.lst (is.reverse.map FV.ref))).set rd (zae q lv st nu 5 wh tb wd sp)) [rd,lv,T]:=
   (Fr.set (by simp)).trans (T:=[rd]) (Fr.set (by simp)) (by simp; omega)
  refine⟨_,zpP hr hl (zna i is) (zll i is) g1 c lr n1 n2,za7 (by simp; omega),?_,?_,?_,F⟩
  .rw[zaR n2.symm,za7 ll]
  .exact (g6.keep F (hK F) nis).tell fun e he=> zjY (D:=fs.length + 1) (by omega)
  .rw[zaR n4.symm,zaR nT,if_neg fun z=> c ((zht h0 h1).mpr z)]
   rw[hT]; unfold evF; simp
theorem zvV{c:Nat}{f:MF}{ma:MA}{σ:FS}{vs:List FV}{O':FH}(hm:ma σ O=some (vs,O))(E:f (.ref O.length::vs) (O ++ [.ins c []])=some (.non,O')):eNew c f ma σ O=some (.ref O.length,O'):=by
 rw[zsv,hm,zbN]
 dsimp only
 rw[E]
 rfl
theorem zmf{i:Nat}(hi:O[i]? =some (.ins 3 []))(li:i < O.length)(g:i < O.length + 1):zat [.ref i] O=some (.non,(O ++ [FO.lst []]).set i (.ins 3 [.ref O.length,.int 0,.int 0,.int 0,.int 0,.int 0,.int 0,.int 0])):=by
 unfold zat zbJ
 walk_at "evh"
theorem zmj{i:Nat}(hi:O[i]? =some (.ins 1 []))(li:i < O.length)(g:i < O.length + 1):zaD [.ref i] O=some (.non,(O.set i (FO.ins 1 [.int 0]) ++ [FO.lst []]).set i (.ins 1 [.int 0,.ref O.length])):=by
 unfold zaD zbM
 walk_at "evh"
theorem zmk{i:Nat}{k p t:FV}(hi:O[i]? =some (.ins 2 []))(li:i < O.length)(g:i < O.length + 1):zbQ [.ref i,k,p,t] O=some (.non,(O.set i (FO.ins 2 [k,p,t]) ++ [FO.tup []]).set i (.ins 2 [k,p,t,.ref O.length,.int 0])):=by
 unfold zbQ zc8
 walk_at "evh"
theorem zpV{σ:FS}{ma:MA}{k p t:FV}(hm:ma σ O=some ([k,p,t],O)):∃O',eNew 2 zbQ ma σ O=some (.ref O.length,O')/\O'[O.length]? =some (.ins 2 [k,p,t,.ref (O.length + 1),.int 0])/\O'[O.length + 1]? =some (.tup [])/\Fr O O' []:=by
 have E:=zmk (O:=O ++ [FO.ins 2 []]) (i:=O.length) (k:=k) (p:=p) (t:=t) (by rw[zaO rfl]) (by simp) (by simp <;> omega)
 rw[zhb] at E
 refine⟨_,zvV hm E,za7 (by simp <;> omega),?_,?_⟩
 .rw[zaR (by omega),zaO (by simp)]
 .exact ((Fr.new.trans (T:=[O.length]) (Fr.set (by simp)) (by simp; omega)).trans (T:=[]) Fr.new (by simp)).trans (T:=[O.length]) (Fr.set (by simp)) (by simp; omega)
end
section
variable {O:FH}{q d a n:Nat}{U:List Nat}{l:List (Option Quest)}{rd lv st nu T:Nat}{aw wh wd sp:Int}{tb:Bool}{tel out:Option Nat}{fs:List Frame}{is:List Nat}{tl:List FV}
theorem zpD{t:Int}{sh:Bool}{vq:List FV}(hr:O[rd]? =some (zae q lv st nu aw wh tb wd sp))(hq:O[q]? =some (.ins 0 vq))(E:zap [.ref rd] O=some (.int t,O))(E2:zbu [.ref q,.int wh] O=some (.bl sh,O)):
  zba [.ref rd] O=some (.int (if t=2 then 2 else if tb=false then 0 else if sh=true then 2 else 1),O):=by
 unfold zae at *
 unfold zba zbK
 walk_at "evh"
 repeat' split
 all_goals rfl
def zqo(tel out:Option Nat)(w D:Nat):Option Nat:=if (out.isNone && (tel.isSome || w !=0))=true then some (tel.getD D) else tel
def zqU(l:List (Option Quest))(tel out:Option Nat)(w D:Nat):Option Nat:=if (out.isNone && (tel.isSome || w !=0))=true then (if allShut l w=true then some D else none) else out
theorem zop{tel out:Option Nat}{D w:Nat}(h0:∀t,tel=some t->1<=t/\t<=D)(h1:∀t,out=some t->1<=t/\t<=D):
  (if zck tel out D=2 then (2:Int) else if (out.isNone && (tel.isSome || w !=0))=false then 0 else if allShut l w=true then 2 else 1)=zck (zqo tel out w (D + 1)) (zqU l tel out w (D + 1)) (D + 1):=by
 unfold zqo zqU
 cases out with
 | some o=>
  have:=h1 o rfl
  have e1:leO (some o) D=true:=by simp[leO]; omega
  have e2:leO (some o) (D + 1)=true:=by simp[leO]; omega
  simp[zck,e1,e2]
 | none=>
  have e0:zck tel none D≠2:=fun z=> by
   unfold zck at z
   rw[if_neg (by simp[leO])] at z
   split at z <;> omega
  rw[if_neg e0]
  cases tel with
  | some t=>
   have:=h0 t rfl
   have e3:leO (some t) (D + 1)=true:=by simp[leO]; omega
   by_cases c:allShut l w=true
   .simp[zck,leO,c]
   .simp[zck,leO,c,e3]; omega
  | none=>
   by_cases cw:w=0
   .simp[zck,leO,cw]
   .by_cases c:allShut l w=true
    .simp[zck,leO,c,cw]
    .simp[zck,leO,c,cw]
theorem zqn{tel out:Option Nat}{D w e:Nat}(he:e<=D)(hw:∀t,tel=some t->t<=D):zck tel out e=zck (zqo tel out w (D + 1)) (zqU l tel out w (D + 1)) e:=by
 unfold zqo zqU
 cases out with
 | some o=> simp
 | none=>
  cases tel with
  | some t=>
   by_cases c:allShut l w=true
   .have:¬D + 1<=e:=by omega
    simp[zck,leO,c,this]
   .simp[zck,leO,c]
  | none=>
   by_cases cw:w=0
   .simp[cw]
   .have:¬D + 1<=e:=by omega
    by_cases c:allShut l w=true
    .simp[zck,leO,c,cw,this]
    .simp[zck,leO,c,cw,this]
def blA:MS:=(sIf (tCmp cEq (eLen (eFld 4 1 (eV 0))) (eC (.int 32))) (sRet (eC (.bl false))) sNx)
def blB:MS:=(sSet 3 (eMeth 4 zal (eV 0) aNil))
def blC:MS:=(sIf (tVal (eFld 4 4 (eV 0))) (sEx (eExt (eV 2) (eLst (aCons (eC (.int 1)) (aCons (eFld 4 3 (eV 0)) (aCons (eV 1) aNil)))))) sNx)
def blM:MA:=(aCons (eV 1) (aCons (eV 3) (aCons (eMeth 4 zba (eV 0) aNil) aNil)))
def blD:MS:=(sEx (eApp (eFld 4 1 (eV 0)) (eNew 2 zbQ blM)))
def blE:MS:=(zco 4 2 (eV 0) (eIf (tCmp cEq (eV 1) (eC (.int 1))) (eC (.int 1)) (eC (.int 3))))
theorem zsk{xs:List FV}{x y z:Option FV}(hr:O[rd]? =some (zae q lv st nu aw wh tb wd sp))(hl:O[lv]? =some (.lst xs)):blA [some (.ref rd),x,y,z] O=if (xs.length:Int)=32 then some (.rt (.bl false),O) else some (.nx [some (.ref rd),x,y,z],O):=by
 unfold zae at *
 unfold blA
 walk_at "evh"
theorem zwo{x y:Option FV}{pl:FV}{O1:FH}(hr:O[rd]? =some (zae q lv st nu aw wh tb wd sp))(E:zal [.ref rd] O=some (pl,O1)):blB [some (.ref rd),x,y,none] O=some (.nx [some (.ref rd),x,y,some pl],O1):=by
 unfold zae at *
 unfold blB
 walk_at "evh"
theorem ztZ{k:FV}{z:Option FV}(hr:O[rd]? =some (zae q lv st nu aw wh true wd sp))(hT:O[T]? =some (.lst tl))(lT:T < O.length)(hlim:tl.length + 3<=LIM):blC [some (.ref rd),some k,some (.ref T),z] O=some (.nx [some (.ref rd),some k,some (.ref T),z],(O ++ [FO.lst [.int 1,.int wh,k]]).set T (.lst (tl ++ [FV.int 1,FV.int wh,k]))):=by
 unfold zae at *
 unfold blC
 walk_at "evh"
theorem zt0{k:FV}{z:Option FV}(hr:O[rd]? =some (zae q lv st nu aw wh false wd sp)):blC [some (.ref rd),some k,some (.ref T),z] O=some (.nx [some (.ref rd),some k,some (.ref T),z],O):=by
 unfold zae at *
 unfold blC
 walk_at "evh"
theorem zwl{k y z t:FV}(hr:O[rd]? =some (zae q lv st nu aw wh tb wd sp))(E:zba [.ref rd] O=some (t,O)):blM [some (.ref rd),some k,some y,some z] O=some ([k,z,t],O):=by
 unfold zae at *
 unfold blM
 walk_at "evh"
theorem zwn{xs:List FV}{σ:FS}{v:FV}{O1:FH}(h0:σ[0]? =some (some (.ref rd)))(hr:O[rd]? =some (zae q lv st nu aw wh tb wd sp))(hl:O[lv]? =some (.lst xs))(hl1:O1[lv]? =some (.lst xs))(hlim:xs.length < LIM)(E:eNew 2 zbQ blM σ O=some (v,O1)):blD σ O=some (.nx σ,O1.set lv (.lst (xs ++ [v]))):=by
 unfold blD
 rw[zwY,zsx,zsw,zyP,h0]
 simp only[zbN]
 rw[zw2,hr]
 unfold zae
 simp only[zbN,if_true,List.getElem?_cons_zero,List.getElem?_cons_succ,zqb,hl,E,hl1,hlim]
theorem zwm{k:Int}{y z:Option FV}(hr:O[rd]? =some (zae q lv st nu aw wh tb wd sp)):blE [some (.ref rd),some (.int k),y,z] O=some (.nx [some (.ref rd),some (.int k),y,z],O.set rd (zae q lv st nu (if k=1 then 1 else 3) wh tb wd sp)):=by
 unfold zae at *
 unfold blE
 walk_at "evh"
 split <;> rfl
theorem zoh{k:FV}(hr:O[rd]? =some (zae q lv st nu aw wh tb wd sp))(hl:O[lv]? =some (.lst (is.reverse.map FV.ref)))(hn:is.length=32):zaM [.ref rd,k,.ref T] O=some (.bl false,O):=by
 have E:=zsk (x:=some k) (y:=some (.ref T)) (z:=none) hr hl
 rw[if_pos (by simp[hn])] at E
 refine ztF rfl ?_
 show sSeq blA _ [some (.ref rd),some k,some (.ref T),none] O=_
 rw[zp9,E]
 rfl
theorem zkJ{arr:Bool}(hr:O[rd]? =some (zae q lv st nu aw wh tb wd sp))(hl:O[lv]? =some (.lst (is.reverse.map FV.ref)))(h:LvAt O l tel out fs is true)(hQ:QAt O q d a n U l)(h0:∀t,tel=some t->1<=t/\t<=fs.length)(h1:∀t,out=some t->1<=t/\t<=fs.length)
  (hT:O[T]? =some (.lst tl)) (nT:lv≠T) (ha:lv≠a/\lv∉U) (hb:T≠a/\T∉U) (hlim:tl.length + 3<=LIM) (hf:fs.length < 32) {w:Nat} (hw:whichOf l (fs.reverse.map Frame.place)=w):
  ∃(O':FH) (i:Nat),zaM [.ref rd,.int (if arr=true then 1 else 0),.ref T] O=some (.bl true,O')/\O'[rd]? =some (zae q lv st nu (if arr=true then 1 else 3) w (out.isNone && (tel.isSome || w !=0)) wd sp)/\O'[lv]? =some (.lst ((i::is).reverse.map FV.ref))/\
   LvAt O' l (zqo tel out w (fs.length + 1)) (zqU l tel out w (fs.length + 1)) (⟨arr,0,[]⟩::fs) (i::is) arr/\
   O'[T]? =some (.lst (tl ++ evF (if (out.isNone && (tel.isSome || w !=0))=true then [.opens w (if arr=true then 1 else 0)] else [])))/\Fr O O' (rd::lv::T::is)/\O.length<=i:=by
 have hlen:=h.len
 have nrl:rd≠lv:=zaU hr hl (by simp[zae])
 have nrT:rd≠T:=zaU hr hT (by simp[zae])
 obtain⟨O1,pl,E1,hr1,hp1,hL1,F1⟩:=znn hr hl h hQ h0 h1
 rw[hw] at hr1
 have nlis:lv∉rd::is:=fun z=> by
  rcases List.mem_cons.mp z with z | z
  .exact nrl z.symm
  .obtain⟨vs,e⟩:=h.ins lv z; rw[hl] at e; cases e
 have nTis:T∉rd::is:=fun z=> by
  rcases List.mem_cons.mp z with z | z
  .exact nrT z.symm
  .obtain⟨vs,e⟩:=h.ins T z; rw[hT] at e; cases e
 have nris:rd∉is:=fun z=> by obtain⟨vs,e⟩:=h.ins rd z; rw[hr] at e; cases e
 have hl1:=F1.get hl nlis
 have hT1:=F1.get hT nTis
 have S1:SOk O a U (rd::is):=fun j hj=> by
  rcases List.mem_cons.mp hj with rfl | hj
  .exact .inl ⟨4,_,by decide,hr⟩
  .obtain⟨vs,e⟩:=h.ins j hj; exact .inl ⟨2,vs,by decide,e⟩
 have hQ1:=hQ.fr F1 S1
 have mainC:∃O2,blC [some (.ref rd),some (.int (if arr=true then 1 else 0)),some (.ref T),some (.int pl)] O1=some (.nx [some (.ref rd),some (.int (if arr=true then 1 else 0)),some (.ref T),some (.int pl)],O2)/\O2[T]? =some (.lst (tl ++ evF (if (out.isNone && (tel.isSome || w !=0))=true then [.opens w (if arr=true then 1 else 0)] else [])))/\Fr O1 O2 [T]:=by
  cases hb:(out.isNone && (tel.isSome || w !=0)) with
  | true=>
   rw[hb] at hr1
   refine⟨_,ztZ hr1 hT1 (zaq hT1) hlim,?_,Fr.new.trans (T:=[T]) (Fr.set (by simp)) fun _ _ h=> h⟩
   rw[za7 (by simp; have:=zaq hT1; omega)]
   cases arr <;> rfl
  | false=>
   rw[hb] at hr1
   refine⟨O1,zt0 hr1,?_,Fr.refl⟩
   rw[hT1]; unfold evF; simp
 obtain⟨O2,E2,hT2,F2⟩:=mainC
 have S2:SOk O1 a U [T]:=fun j hj=> by simp at hj; subst hj; exact .inr ⟨⟨_,hT1⟩,hb⟩
 have hQ2:=hQ1.fr F2 S2
 have hr2:=F2.get hr1 (by simp; exact nrT)
 have hl2:=F2.get hl1 (by simp; exact nT)
 have hL2:=hL1.keep F2 (S2.kp F2) fun j hj=> by
  simp; rintro rfl; exact nTis (by simp[hj])
 obtain⟨_,_,_,hq2,_⟩:=hQ2.root
 have E3:=zpD hr2 hq2 (zlv hr2 hl2 hL2 (fun t z=> (h0 t z).1) (fun t z=> (h1 t z).1)) (zn9 hQ2)
 rw[zop h0 h1] at E3
 obtain⟨O3,E4,g1,g2,F3⟩:=zpV (zwl (k:= .int (if arr=true then 1 else 0)) (y:= .ref T) (z:= .int pl) hr2 E3)
 have hl3:=F3.get hl2 (by simp)
 have hr3:=F3.get hr2 (by simp)
 have E5:=zwn (σ:=[some (.ref rd),some (.int (if arr=true then 1 else 0)),some (.ref T),some (.int pl)]) rfl hr2 hl2 hl3 (by simp; unfold LIM; omega) E4
 have ll2:=zaq hl2
 have ll3:=zaq hl3
 have F4:Fr O3 (O3.set lv (.lst (is.reverse.map FV.ref ++ [.ref O2.length]))) [lv]:=Fr.set (by simp)
 have hr4:(O3.set lv (.lst (is.reverse.map FV.ref ++ [.ref O2.length])))[rd]? =_:=(zaR nrl.symm).trans hr3
 have E6:=zwm (k:=if arr=true then 1 else 0) (y:=some (.ref T)) (z:=some (.int pl)) hr4
 have lr4:=zaq hr4
 have F5:Fr (O3.set lv (.lst (is.reverse.map FV.ref ++ [.ref O2.length]))) ((O3.set lv (.lst (is.reverse.map FV.ref ++ [.ref O2.length]))).set rd (zae q lv st nu (if (if arr=true then (1:Int) else 0)=1 then 1 else 3) w (out.isNone && (tel.isSome || w !=0)) wd sp)) [rd]:=Fr.set (by simp)
 have F35:Fr O2 _ [rd,lv]:=(F3.mono (by simp)).trans ((F4.mono (T:=[rd,lv]) (by simp)).trans F5 (by simp; omega)) fun _ _ h=> h
 have K35:Kp O2 _:=F35.kp fun j hj xs e=> by
  simp at hj
  rcases hj with rfl | rfl
  .rw[hr2] at e; cases e
  .rw[hl2] at e; cases e
 refine⟨(O3.set lv (.lst (is.reverse.map FV.ref ++ [.ref O2.length]))).set rd (zae q lv st nu (if (if arr=true then (1:Int) else 0)=1 then 1 else 3) w (out.isNone && (tel.isSome || w !=0)) wd sp),O2.length,?_,?_,?_,⟨⟨pl,O2.length + 1,0,?_,?_,hp1,fun z=> ?_⟩,?_,?_⟩,?_,?_,?_⟩
 .refine ztF rfl ?_
  show sSeq blA (sSeq blB (sSeq blC (sSeq blD (sSeq blE (sRet (eC (.bl true))))))) [some (.ref rd),some (.int (if arr=true then 1 else 0)),some (.ref T),none] O=_
  have E0:=zsk (x:=some (.int (if arr=true then 1 else 0))) (y:=some (.ref T)) (z:=none) hr hl
  rw[if_neg (show¬(((is.reverse.map FV.ref).length:Nat):Int)=32 by simp; omega)] at E0
  rw[ze9 E0,ze9 (zwo hr E1),ze9 E2,ze9 E5,ze9 E6]
  rfl
 .rw[za7 lr4]; cases arr <;> rfl
 .rw[zaR nrl,za7 ll3]; simp
 .have n1:lv≠O2.length:=by omega
  have n2:rd≠O2.length:=by have:=zaq hr2; omega
  rw[zaR n2,zaR n1]; exact g1
 .have n1:lv≠O2.length + 1:=by omega
  have n2:rd≠O2.length + 1:=by have:=zaq hr2; omega
  rw[zaR n2,zaR n1]; exact g2
 .rw[if_pos z]; rfl
 .intro z
  obtain⟨vs,e⟩:=hL2.ins _ z
  have:=zaq e
  omega
 .refine (hL2.keep F35 K35 fun j hj=> ?_).tell fun e he=> zqn he fun t z=> (h0 t z).2
  simp
  refine⟨?_,?_⟩
  .rintro rfl; exact nris hj
  .rintro rfl; exact nlis (by simp[hj])
 .exact F35.get hT2 (by simp; exact⟨fun z=> nrT z.symm,fun z=> nT z.symm⟩)
 .refine ((F1.mono ?_).trans (F2.mono (T:=rd::lv::T::is) ?_) fun _ _ h=> h).trans F35 ?_
  .intro j hj; simp at hj |-; rcases hj with h | h <;> simp[h]
  .intro j hj; simp at hj |-; simp[hj]
  .intro j _ hj; simp at hj |-; rcases hj with h | h <;> simp[h]
 .have:=F1.1
  have:=F2.1
  omega
end
def awN:Mode->Int
 | .value c=> if c=true then 1 else 0
 | .name c=> if c=true then 3 else 2
 | .colon=> 4
 | .after=> 5
 | .str k _=> if k=true then 6 else 7
 | .num _=> 8
 | .lit _ _=> 9
def stN:Num->Int
 | .minus=> 1
 | .zero=> 2
 | .whole=> 3
 | .point=> 4
 | .fraction=> 5
 | .e=> 6
 | .sign=> 7
 | .exponent=> 8
def zpp:Mode->Bool
 | .value _=> true
 | _=> false
def znU(fr:List Frame):Prop:=∃f l,fr=f::l/\f.arr=false
def znv:Mode->List Frame->Prop
 | .value true,fr=>∃f l,fr=f::l/\f.arr=true
 | .name _,fr=> znU fr
 | .colon,fr=> znU fr
 | .str true _,fr=> znU fr
 | _,_=> True
def zr3(O:FH)(st nu:Nat)(wh:Int)(tb:Bool)(wd sp:Int)(s:State):Mode->List Nat->Prop
 | .str key z,X=>∃ch fs,X=[st,ch]/\O[st]? =some (.ins 3 (.ref ch::fs))/\O[ch]? =some (.lst (fI s.reader.buf))/\zqk z fs/\(key=false->wh=s.which/\tb=tells s)
 | .num z,X=>∃fg,X=[nu,fg]/\O[nu]? =some (.ins 1 [.int (stN z),.ref fg])/\O[fg]? =some (.lst (fI s.reader.buf))/\s.reader.buf.length<=64/\wh=s.which/\tb=tells s
 | .lit k n,X=> X=[]/\wd=k/\sp=n/\k<=2/\n < (literal k).length/\wh=s.which/\tb=tells s
 | _,X=> X=[]
abbrev RdB(O:FH)(rd q lv:Nat)(X:List Nat)(s:State)(st nu:Nat)(wh:Int)(tb:Bool)(wd sp:Int):Prop:=O[rd]? =some (zae q lv st nu (awN s.reader.mode) wh tb wd sp)/\zr3 O st nu wh tb wd sp s s.reader.mode X
structure RdAt (O:FH) (rd q lv:Nat) (is X:List Nat) (s:State):Prop where
 ex:∃(st nu:Nat) (wh:Int) (tb:Bool) (wd sp:Int),RdB O rd q lv X s st nu wh tb wd sp
 hl:O[lv]? =some (.lst (is.reverse.map FV.ref))
 lvs:LvAt O s.quests s.telling s.out s.reader.frames is (zpp s.reader.mode)
 h0:∀t,s.telling=some t->1<=t/\t<=s.reader.frames.length
 h1:∀t,s.out=some t->1<=t/\t<=s.reader.frames.length
 ok:znv s.reader.mode s.reader.frames
 dp:s.reader.frames.length<=32
 nX:lv∉X
abbrev RwB(O:FH)(rd q lv:Nat)(is:List Nat)(s:State)(st nu:Nat)(aw wh:Int)(tb:Bool)(wd sp:Int)(b:Bool):Prop:=O[rd]? =some (zae q lv st nu aw wh tb wd sp)/\O[lv]? =some (.lst (is.reverse.map FV.ref))/\LvAt O s.quests s.telling s.out s.reader.frames is b
structure RdW (O:FH) (rd q lv:Nat) (is:List Nat) (s:State):Prop where
 ex:∃(st nu:Nat) (aw wh:Int) (tb:Bool) (wd sp:Int) (b:Bool),RwB O rd q lv is s st nu aw wh tb wd sp b
theorem RdAt.w{O:FH}{rd q lv:Nat}{is X:List Nat}{s:State}(h:RdAt O rd q lv is X s):RdW O rd q lv is s:=by
 obtain⟨st,nu,wh,tb,wd,sp,hr,_⟩:=h.ex
 exact⟨st,nu,_,wh,tb,wd,sp,_,hr,h.hl,h.lvs⟩
structure Env (O:FH) (q d a n lv T:Nat) (U X:List Nat) (s:State) (tl:List FV):Prop where
 hQ:QAt O q d a n U s.quests
 hT:O[T]? =some (.lst tl)
 nT:lv≠T
 tX:T∉X
 lU:lv≠a/\lv∉U
 tU:T≠a/\T∉U
 xU:∀j∈X,j≠a/\j∉U
 lim:tl.length + s.reader.buf.length + 64<=LIM
def fin(s:State)(r:Reader)(sr:List Sure):State×List Ev:=tellAll s.reader.way (deepOf s.reader r) {s with reader:=r,taken:=s.taken + 1} sr
structure TkB (O:FH) (rd q lv T:Nat) (is X:List Nat) (tl:List FV) (s:State) (r:Reader) (sr:List Sure) (m:Option (FV×FH)) (O':FH) (is' X':List Nat):Prop where
 x1:m=some (.bl true,O')
 x2:RdAt O' rd q lv is' X' (fin s r sr).1
 x3:O'[T]? =some (.lst (tl ++ evF (fin s r sr).2))
 x4:Fr O O' (rd::lv::T::(is ++ X))
 x5:∀j∈X',j∈X\/O.length<=j
def zkT(O:FH)(rd q lv T:Nat)(is X:List Nat)(tl:List FV)(s:State)(g:Got)(m:Option (FV×FH)):Prop:=match g with
 | none=>∃O',m=some (.bl false,O')/\RdW O' rd q lv is s/\O'[T]? =some (.lst tl)/\Fr O O' (rd::lv::T::(is ++ X))
 | some (r,sr)=>∃O' is' X',TkB O rd q lv T is X tl s r sr m O' is' X'
theorem zgt:evF []=[]:=rfl
theorem zh8(a b:List Ev):evF (a ++ b)=evF a ++ evF b:=by unfold evF; rw[List.flatMap_append,List.map_append]
section
variable {O:FH}{q d a n:Nat}{U X:List Nat}{rd lv st nu T:Nat}{aw wh wd sp:Int}{tb:Bool}{is:List Nat}{tl:List FV}{s:State}{c:Nat}
theorem zgM(c:Nat):([32,9,10,13]:List Int).contains (c:Int)=isBlank c:=(ct c [32,9,10,13]).trans (by unfold isBlank; simp only[List.contains_cons,List.contains_nil,Bool.or_false])
def mfB:List Frame->Nat->Bool
 | [],_=> false
 | f::_,c=> if f.arr=true then (c==44 || c==93) else (c==44 || c==125)
theorem zfY(f:Frame)(l:List Frame)(c:Nat):mfB (f::l) c=if f.arr=true then (c==44 || c==93) else (c==44 || c==125):=rfl
theorem ztP(hr:O[rd]? =some (zae q lv st nu aw wh tb wd sp))(hl:O[lv]? =some (.lst [])):zam [.ref rd,.int c] O=some (.bl false,O):=by
 unfold zae at *
 unfold zam zbj
 walk_at "evh"
 rfl
theorem ztO{xs vs:List FV}{i:Nat}{k:Int}(hr:O[rd]? =some (zae q lv st nu aw wh tb wd sp))(hl:O[lv]? =some (.lst xs))(hx:¬(xs.length:Int)=0)(hi:atF xs (-1)=some (.ref i))(hO:O[i]? =some (.ins 2 (.int k::vs))):zam [.ref rd,.int c] O=if k=1 then some (.bl (([44,93]:List Int).contains (c:Int)),O) else some (.bl (([44,125]:List Int).contains (c:Int)),O):=by
 unfold zae at *
 unfold zam zbj
 walk_at "evh"
theorem zwC{l:List (Option Quest)}{tel out:Option Nat}{fs:List Frame}{b:Bool}(hr:O[rd]? =some (zae q lv st nu aw wh tb wd sp))(hl:O[lv]? =some (.lst (is.reverse.map FV.ref)))(h:LvAt O l tel out fs is b):zam [.ref rd,.int c] O=some (.bl (mfB fs c),O):=by
 have e1:([44,93]:List Int).contains (c:Int)=(c==44 || c==93):=(ct c [44,93]).trans (by simp only[List.contains_cons,List.contains_nil,Bool.or_false])
 have e2:([44,125]:List Int).contains (c:Int)=(c==44 || c==125):=(ct c [44,125]).trans (by simp only[List.contains_cons,List.contains_nil,Bool.or_false])
 match fs,is,h with
 | [],[],_=> exact ztP hr hl
 | f::fs,i::is,⟨⟨pl,nm,bg,g1,_,_,_⟩,_⟩=>
  rw[ztO hr hl (by simp; omega) (zgI i is) g1,e1,e2]
  rw[zfY]
  cases f.arr <;> rfl
theorem zim(hr:O[rd]? =some (zae q lv st nu aw wh tb wd sp))(E:zam [.ref rd,.int c] O=some (.bl false,O)):zao [.ref rd,.int c,.ref T] O=some (.bl false,O):=by
 unfold zae at *
 unfold zao zaW
 walk_at "evh"
theorem zjj{O1:FH}(hr:O[rd]? =some (zae q lv st nu aw wh tb wd sp))(E:zam [.ref rd,.int c] O=some (.bl true,O))(hc:¬(c:Int)=44)(E1:zar [.ref rd,.ref T] O=some (.non,O1)):zao [.ref rd,.int c,.ref T] O=some (.bl true,O1):=by
 unfold zae at *
 unfold zao zaW
 walk_at "evh"
theorem zji{xs vs:List FV}{i:Nat}{k:Int}(hr:O[rd]? =some (zae q lv st nu aw wh tb wd sp))(E:zam [.ref rd,.int c] O=some (.bl true,O))(hc:(c:Int)=44)(hl:O[lv]? =some (.lst xs))(hi:atF xs (-1)=some (.ref i))(hO:O[i]? =some (.ins 2 (.int k::vs))):zao [.ref rd,.int c,.ref T] O=some (.bl true,O.set rd (zae q lv st nu (if k=1 then 0 else 2) wh tb wd sp)):=by
 rw[hc] at E |-
 unfold zae at *
 unfold zao zaW
 walk_at "evh"
 split <;> rfl
theorem RdAt.same{O':FH}{S:List Nat}(h:RdAt O rd q lv is X s)(F:Fr O O' S)(K:Kp O O')(nr:rd∉S)(nl:lv∉S)(ni:∀i∈is,i∉S)(nx:∀i∈X,i∉S):RdAt O' rd q lv is X s:=by
 obtain⟨⟨st,nu,wh,tb,wd,sp,hr,hs⟩,hl,lvs,h0,h1,ok,dp,nX⟩:=h
 refine⟨⟨st,nu,wh,tb,wd,sp,F.get hr nr,?_⟩,F.get hl nl,lvs.keep F K ni,h0,h1,ok,dp,nX⟩
 generalize s.reader.mode=m at hs
 match m,hs with
 | .str key z,⟨ch,fs,e,k1,k2,k3,k4⟩=> subst e; exact⟨ch,fs,rfl,F.get k1 (nx _ (by simp)),F.get k2 (nx _ (by simp)),k3,k4⟩
 | .num z,⟨fg,e,k1,k2,k3,k4⟩=> subst e; exact⟨fg,rfl,F.get k1 (nx _ (by simp)),F.get k2 (nx _ (by simp)),k3,k4⟩
 | .lit k n,hs=> exact hs
 | .value _,hs=> exact hs
 | .name _,hs=> exact hs
 | .colon,hs=> exact hs
 | .after,hs=> exact hs
theorem RdAt.tk{t:Nat}(h:RdAt O rd q lv is X s):RdAt O rd q lv is X {s with taken:=t}:=⟨h.ex,h.hl,h.lvs,h.h0,h.h1,h.ok,h.dp,h.nX⟩
theorem zf7(h:RdAt O rd q lv is X s)(E:O[T]? =some (.lst tl)):zkT O rd q lv T is X tl s (some (s.reader,[])) (some (.bl true,O)):=
 ⟨O,is,X,rfl,h.tk,by rw[show (fin s s.reader []).2=[] from rfl,zgt,List.append_nil]; exact E,Fr.refl,fun j hj=> .inl hj⟩
theorem zcj{l:List (Option Quest)}{tel out:Option Nat}{fs:List Frame}{b:Bool}(h:LvAt O l tel out fs is b){j:Nat}{o:FO}(e:O[j]? =some o)(ho:∀vs,o≠ .ins 2 vs):j∉is:=fun z=> by
 obtain⟨vs,e'⟩:=h.ins j z
 rw[e] at e'
 injection e' with e'
 exact ho vs e'
theorem zrY{f:Frame}{l:List Frame}(hb:isBlank c=false)(hf:s.reader.frames=f::l)(h1:c≠44)(h2:mfB (f::l) c=false):afterTake s.reader c=none:=by
 unfold afterTake
 rw[if_neg (by simp[hb]),hf]
 dsimp only
 rw[zfY] at h2
 cases ha:f.arr with
 | true=> rw[ha] at h2; simp at h2; simp[h1,h2]
 | false=> rw[ha] at h2; simp at h2; simp[h1,h2]
theorem zkI{f:Frame}{fs:List Frame}{i:Nat}(h:RdAt O rd q lv (i::is) [] s)(hf:s.reader.frames=f::fs)(E:Env O q d a n lv T U [] s tl)(hr:O[rd]? =some (zae q lv st nu aw wh tb wd sp)):
  ∃O',zar [.ref rd,.ref T] O=some (.non,O')/\∀m,m=some (.bl true,O')->zkT O rd q lv T (i::is) [] tl s (closed s.reader (if f.arr=true then 1 else 0)) m:=by
     have hlv:=h.lvs
     rw[hf] at hlv
     have hl:=h.hl
     have hlim:=E.lim
     obtain⟨O',E1,k1,k2,k3,k4,k5⟩:=zt6 hr hl hlv E.hT E.nT (by omega) (fun t z=> by have:=(h.h0 t z).2; rw[hf] at this; exact this) (fun t z=> by have:=(h.h1 t z).2; rw[hf] at this; exact this)
     have hD:deepOf s.reader ⟨.after,s.reader.frames.drop 1,[]⟩=fs.length + 1:=by
      unfold deepOf; rw[hf]; simp
     refine⟨O',E1,fun m hm=> ?_⟩
     unfold closed
     refine⟨O',is,[],hm,⟨⟨st,nu,wh,tb,wd,sp,k1,rfl⟩,k2,?_,fun t z=> ?_,fun t z=> ?_,trivial,?_,by simp⟩,?_,k5.mono ?_,fun j hj=> (by cases hj)⟩
     .unfold fin; rw[hD,hf]; exact k3
     .unfold fin at z |-
      rw[hD,hf] at z
      rw[hD,hf]
      change (if s.telling=some (fs.length + 1) then none else s.telling)=some t at z
      split at z
      .cases z
      .rename_i hne
       have:=h.h0 t z
       rw[hf] at this
       simp only[List.length_cons] at this
       refine⟨this.1,?_⟩
       show t<=fs.length
       have:t≠fs.length + 1:=fun y=> hne (by rw[z,y])
       omega
     .unfold fin at z |-
      rw[hD,hf] at z
      rw[hD,hf]
      change (if s.out=some (fs.length + 1) then none else s.out)=some t at z
      split at z
      .cases z
      .rename_i hne
       have:=h.h1 t z
       rw[hf] at this
       simp only[List.length_cons] at this
       refine⟨this.1,?_⟩
       show t<=fs.length
       have:t≠fs.length + 1:=fun y=> hne (by rw[z,y])
       omega
     .have:=h.dp
      rw[hf] at this
      unfold fin
      rw[hf]
      show fs.length<=32
      simp at this; omega
     .rw[k4]
      unfold fin
      rw[hD]
      congr 3
      show evF _=evF (_ ++ [])
      rw[List.append_nil]
      rfl
     .intro j hj; simp at hj |-; rcases hj with h | h | h <;> simp[h]
theorem zpY(h:RdAt O rd q lv is X s)(hm:s.reader.mode= .after)(E:Env O q d a n lv T U X s tl):
  zkT O rd q lv T is X tl s (afterTake s.reader c) (if isBlank c=true then some (.bl true,O) else zao [.ref rd,.int c,.ref T] O):=by
 by_cases hb:isBlank c=true
 .have e:afterTake s.reader c=some (s.reader,[]):=by unfold afterTake; rw[if_pos hb]
  rw[e,if_pos hb]
  exact zf7 h E.hT
 .rw[if_neg hb]
  simp only[Bool.not_eq_true] at hb
  obtain⟨st,nu,wh,tb,wd,sp,hr,hs⟩:=h.ex
  rw[hm] at hr hs
  have hs:X=[]:=hs
  subst hs
  have hlv:=h.lvs
  have hm1:=zwC (c:=c) hr h.hl hlv
  have lr:=zaq hr
  cases hf:s.reader.frames with
  | nil=>
   have e:afterTake s.reader c=none:=by unfold afterTake; rw[if_neg (by simp[hb]),hf]
   rw[e]
   rw[hf] at hm1
   exact⟨O,zim hr hm1,h.w,E.hT,Fr.refl⟩
  | cons f fs=>
   rw[hf] at hm1 hlv
   have hlen:=hlv.len
   match is,hlv,hlen,h with
   | i::is,hlv,_,h=>
   have hl:=h.hl
   have nri:rd∉i::is:=zcj hlv hr (by simp[zae])
   have nrl:rd≠lv:=zaU hr hl (by simp[zae])
   have nrT:rd≠T:=zaU hr E.hT (by simp[zae])
   have nt:∀xs,O[rd]?≠some (.tup xs):=fun xs z=> by rw[hr] at z; cases z
   obtain⟨⟨pl,nm,bg,g1,g2,g3,g4⟩,g5,g6⟩:=id hlv
   rw[hm] at g4
   by_cases c44:c=44
   .have hmt:mfB (f::fs) c=true:=by rw[zfY]; subst c44; cases f.arr <;> rfl
    rw[hmt] at hm1
    have EB:=zji (T:=T) hr hm1 (by omega) hl (zgI i is) g1
    have e:afterTake s.reader c=some (if f.arr=true then⟨.value false,{f with index:=f.index + 1}::fs,[]⟩ else⟨.name false,f::fs,[]⟩,[]):=by
     unfold afterTake; rw[if_neg (by simp[hb]),hf]; simp[c44]
    rw[e]
    have hTT:∀x,(O.set rd x)[T]? =some (.lst tl):=fun x=> by rw[zaR nrT]; exact E.hT
    have hll:∀x,(O.set rd x)[lv]? =some (.lst ((i::is).reverse.map FV.ref)):=fun x=> by rw[zaR nrl]; exact hl
    cases ha:f.arr with
    | true=>
     rw[ha] at EB
     refine⟨_,i::is,[],EB,⟨⟨st,nu,wh,tb,wd,sp,za7 lr,rfl⟩,hll _,?_,fun t z=> ?_,fun t z=> ?_,trivial,?_,by simp⟩,?_,Fr.set (by simp),fun j hj=> .inl hj⟩
     .have:=zf9 (x:=zae q lv st nu (if (if true=true then (1:Int) else 0)=1 then 0 else 2) wh tb wd sp) hlv nri nt
      obtain⟨⟨pl',nm',bg',k1,k2,k3,k4⟩,k5,k6⟩:=this
      refine⟨⟨pl',nm',bg',?_,k2,k3,fun _=> ?_⟩,k5,k6⟩
      .rw[ha] at k1; exact k1
      .have e5:bg'=(f.index:Int) + 1:=by have:=k4 ha; rw[hm] at this; exact this
       show bg'=((f.index + 1:Nat):Int)
       omega
     .have:=h.h0 t z; rw[hf] at this; exact this
     .have:=h.h1 t z; rw[hf] at this; exact this
     .have:=h.dp; rw[hf] at this; exact this
     .show _=some (FO.lst (tl ++ []))
      rw[List.append_nil]; exact hTT _
    | false=>
     rw[ha] at EB
     refine⟨_,i::is,[],EB,⟨⟨st,nu,wh,tb,wd,sp,za7 lr,rfl⟩,hll _,?_,fun t z=> ?_,fun t z=> ?_,⟨f,fs,rfl,ha⟩,?_,by simp⟩,?_,Fr.set (by simp),fun j hj=> .inl hj⟩
     .have:=zf9 (x:=zae q lv st nu (if (if false=true then (1:Int) else 0)=1 then 0 else 2) wh tb wd sp) hlv nri nt
      rw[hm] at this
      exact this
     .have:=h.h0 t z; rw[hf] at this; exact this
     .have:=h.h1 t z; rw[hf] at this; exact this
     .have:=h.dp; rw[hf] at this; exact this
     .show _=some (FO.lst (tl ++ []))
      rw[List.append_nil]; exact hTT _
   .cases hmf:mfB (f::fs) c with
    | false=>
     rw[hmf] at hm1
     rw[zrY hb hf c44 hmf]
     exact⟨O,zim hr hm1,h.w,E.hT,Fr.refl⟩
    | true=>
     rw[hmf] at hm1
     obtain⟨O',E1,hcl⟩:=zkI h hf E hr
     have e:afterTake s.reader c=closed s.reader (if f.arr=true then 1 else 0):=by
      unfold afterTake
      rw[if_neg (by simp[hb]),hf]
      rw[zfY] at hmf
      cases ha:f.arr with
      | true=> rw[ha] at hmf; simp[c44] at hmf; simp[hmf,ha]
      | false=> rw[ha] at hmf; simp[c44] at hmf; simp[hmf,ha]
     rw[e]
     exact hcl _ (zjj hr hm1 (by omega) E1)
end
section
variable {O:FH}{q d a n:Nat}{U X:List Nat}{rd lv st nu T:Nat}{aw wh wd sp:Int}{tb:Bool}{is:List Nat}{tl:List FV}{s:State}{c:Nat}
theorem zes(hr:O[rd]? =some (zae q lv st nu aw wh tb wd sp))(h7:¬aw=7)(h6:¬aw=6)(h8:¬aw=8)(h9:¬aw=9):zav [.ref rd,.int c,.ref T] O=if isBlank c=true then some (.bl true,O) else zan [.ref rd,.int c,.ref T] O:=by
 have hb:=zgM c
 unfold zae at *
 unfold zav zcd
 walk_at "evh"
 split
 .rfl
 .generalize zan _ _=x; cases x <;> rfl
theorem zkF(hr:O[rd]? =some (zae q lv st nu aw wh tb wd sp))(h7:¬aw=7)(h6:¬aw=6)(h8:¬aw=8)(h9:¬aw=9):zci [.ref rd,.int c,.ref T] O=if isBlank c=true then some (.bl true,O) else zan [.ref rd,.int c,.ref T] O:=by
 have hb:=zgM c
 unfold zae at *
 unfold zci zdK
 walk_at "evh"
 split
 .rfl
 .generalize zan _ _=x; cases x <;> rfl
theorem zkD(hr:O[rd]? =some (zae q lv st nu 7 wh tb wd sp)):zav [.ref rd,.int c,.ref T] O=zaC [.ref rd,.int c,.ref T] O:=by
 unfold zae at *
 unfold zav zcd
 walk_at "evh"
 generalize zaC _ _=x; cases x <;> rfl
theorem zkE(hr:O[rd]? =some (zae q lv st nu 6 wh tb wd sp)):zav [.ref rd,.int c,.ref T] O=zau [.ref rd,.int c,.ref T] O:=by
 unfold zae at *
 unfold zav zcd
 walk_at "evh"
 generalize zau _ _=x; cases x <;> rfl
theorem zrn(hr:O[rd]? =some (zae q lv st nu 8 wh tb wd sp)):zav [.ref rd,.int c,.ref T] O=zaA [.ref rd,.int c,.ref T] O:=by
 unfold zae at *
 unfold zav zcd
 walk_at "evh"
 generalize zaA _ _=x; cases x <;> rfl
theorem zrm(hr:O[rd]? =some (zae q lv st nu 9 wh tb wd sp)):zav [.ref rd,.int c,.ref T] O=zas [.ref rd,.int c,.ref T] O:=by
 unfold zae at *
 unfold zav zcd
 walk_at "evh"
 generalize zas _ _=x; cases x <;> rfl
theorem zng(hr:O[rd]? =some (zae q lv st nu 5 wh tb wd sp)):zan [.ref rd,.int c,.ref T] O=zao [.ref rd,.int c,.ref T] O:=by
 unfold zae at *
 unfold zan za6
 walk_at "evh"
 generalize zao _ _=x; cases x <;> rfl
theorem zrq(hr:O[rd]? =some (zae q lv st nu 4 wh tb wd sp)):zan [.ref rd,.int c,.ref T] O=zbC [.ref rd,.int c] O:=by
 unfold zae at *
 unfold zan za6
 walk_at "evh"
 generalize zbC _ _=x; cases x <;> rfl
theorem zrr(hr:O[rd]? =some (zae q lv st nu aw wh tb wd sp))(h5:¬aw=5)(h4:¬aw=4)(h2:([2,3]:List Int).contains aw=true):zan [.ref rd,.int c,.ref T] O=zaw [.ref rd,.int c,.ref T] O:=by
 unfold zae at *
 unfold zan za6
 walk_at "evh"
 generalize zaw _ _=x; cases x <;> rfl
theorem zzo:([2,3]:List Int).contains 0=false:=rfl
theorem zyN:([2,3]:List Int).contains 1=false:=rfl
theorem zrt(hr:O[rd]? =some (zae q lv st nu 0 wh tb wd sp)):zan [.ref rd,.int c,.ref T] O=zak [.ref rd,.int c,.ref T] O:=by
 have h:=zzo
 unfold zae at *
 unfold zan za6
 walk_at "evh"
 generalize zak _ _=x; cases x <;> rfl
theorem zrs(hr:O[rd]? =some (zae q lv st nu 1 wh tb wd sp))(hc:¬(c:Int)=93):zan [.ref rd,.int c,.ref T] O=zak [.ref rd,.int c,.ref T] O:=by
 have h:=zyN
 unfold zae at *
 unfold zan za6
 walk_at "evh"
 generalize zak _ _=x; cases x <;> rfl
theorem zpF{O1:FH}(hr:O[rd]? =some (zae q lv st nu 1 wh tb wd sp))(hc:(c:Int)=93)(E:zar [.ref rd,.ref T] O=some (.non,O1)):zan [.ref rd,.int c,.ref T] O=some (.bl true,O1):=by
 have h:=zyN
 rw[hc]
 unfold zae at *
 unfold zan za6
 walk_at "evh"
theorem zrI(hr:O[rd]? =some (zae q lv st nu aw wh tb wd sp)):zbC [.ref rd,.int c] O=if (c:Int)=58 then some (.bl true,O.set rd (zae q lv st nu 0 wh tb wd sp)) else some (.bl false,O):=by
 unfold zae at *
 unfold zbC zcr
 by_cases hc:(c:Int)=58
 .rw[hc]; walk_at "evh"
 .walk_at "evh"
theorem zpH{O1:FH}(hr1:O1[rd]? =some (zae q lv st nu aw wh tb wd sp))(hc:(c:Int)=34)(lr1:rd < O1.length)(E:zat [.ref O.length] (O ++ [.ins 3 []])=some (.non,O1)):zaw [.ref rd,.int c,.ref T] O=some (.bl true,O1.set rd (zae q lv O.length nu 6 wh tb wd sp)):=by
 rw[hc]
 unfold zae at *
 unfold zaw za0
 walk_at "evh"
theorem zpJ{O1:FH}(hr:O[rd]? =some (zae q lv st nu 3 wh tb wd sp))(hc:(c:Int)=125)(E:zar [.ref rd,.ref T] O=some (.non,O1)):zaw [.ref rd,.int c,.ref T] O=some (.bl true,O1):=by
 rw[hc]
 unfold zae at *
 unfold zaw za0
 walk_at "evh"
theorem zpI(hr:O[rd]? =some (zae q lv st nu aw wh tb wd sp))(hc:¬(c:Int)=34)(hd:¬(c:Int)=125\/¬aw=3):zaw [.ref rd,.int c,.ref T] O=some (.bl false,O):=by
 unfold zae at *
 unfold zaw za0
 rcases hd with hd | hd
 .walk_at "evh"
 .walk_at "evh"
  by_cases h:(c:Int)=125
  .rw[if_pos h]
  .rw[if_neg h]
theorem zkh:∃O1,zat [.ref O.length] (O ++ [.ins 3 []])=some (.non,O1)/\O1[O.length]? =some (.ins 3 [.ref (O.length + 1),.int 0,.int 0,.int 0,.int 0,.int 0,.int 0,.int 0])/\O1[O.length + 1]? =some (.lst [])/\Fr O O1 []:=by
 have E:=zmf (O:=O ++ [FO.ins 3 []]) (i:=O.length) (by rw[zaO rfl]) (by simp) (by simp <;> omega)
 rw[zhb] at E
 refine⟨_,E,za7 (by simp <;> omega),?_,?_⟩
 .rw[zaR (by omega),zaO (by simp)]
 .exact (Fr.new.trans (T:=[]) Fr.new (by simp)).trans (T:=[O.length]) (Fr.set (by simp)) (by simp; omega)
theorem zm1:∃O1,zaD [.ref O.length] (O ++ [.ins 1 []])=some (.non,O1)/\O1[O.length]? =some (.ins 1 [.int 0,.ref (O.length + 1)])/\O1[O.length + 1]? =some (.lst [])/\Fr O O1 []:=by
 have E:=zmj (O:=O ++ [FO.ins 1 []]) (i:=O.length) (by rw[zaO rfl]) (by simp) (by simp <;> omega)
 rw[zhb] at E
 refine⟨_,E,za7 (by simp <;> omega),?_,?_⟩
 .rw[zaR (by omega),zaO (by simp)]
 .exact ((Fr.new.trans (T:=[O.length]) (Fr.set (by simp)) (by simp; omega)).trans (T:=[]) Fr.new (by simp)).trans (T:=[O.length]) (Fr.set (by simp)) (by simp; omega)
end
section
variable {O:FH}{q d a n:Nat}{U X:List Nat}{rd lv st nu T:Nat}{aw wh wd sp:Int}{tb:Bool}{is:List Nat}{tl:List FV}{s:State}{c:Nat}
theorem zvY{l:List (Option Quest)}{tel out:Option Nat}{fs:List Frame}{b b':Bool}(h:LvAt O l tel out fs is b)(ho:znU fs):LvAt O l tel out fs is b':=by
 obtain⟨f,l',rfl,hf⟩:=ho
 match is,h with
 | i::is,⟨⟨pl,nm,bg,g1,g2,g3,g4⟩,g5,g6⟩=> exact⟨⟨pl,nm,bg,g1,g2,g3,fun z=> by rw[hf] at z; cases z⟩,g5,g6⟩
theorem zsH(h:RdAt O rd q lv is X s)(hm:s.reader.mode= .after)(E:Env O q d a n lv T U X s tl):zkT O rd q lv T is X tl s (take s.reader c) (zav [.ref rd,.int c,.ref T] O):=by
 obtain⟨st,nu,wh,tb,wd,sp,hr,hs⟩:=h.ex
 rw[hm] at hr
 have e:take s.reader c=afterTake s.reader c:=by unfold take; rw[hm]
 rw[e,zes hr (by decide) (by decide) (by decide) (by decide),zng hr]
 exact zpY h hm E
theorem zsG(h:RdAt O rd q lv is X s)(hm:s.reader.mode= .colon)(E:Env O q d a n lv T U X s tl):zkT O rd q lv T is X tl s (take s.reader c) (zav [.ref rd,.int c,.ref T] O):=by
 obtain⟨st,nu,wh,tb,wd,sp,hr,hs⟩:=h.ex
 have hok:=h.ok
 have hlv:=h.lvs
 rw[hm] at hr hs hok hlv
 have hs:X=[]:=hs
 subst hs
 have lr:=zaq hr
 have nrl:rd≠lv:=zaU hr h.hl (by simp[zae])
 have nrT:rd≠T:=zaU hr E.hT (by simp[zae])
 have nri:rd∉is:=zcj hlv hr (by simp[zae])
 rw[zes hr (by decide) (by decide) (by decide) (by decide),zrq hr,zrI hr]
 have e:take s.reader c=if isBlank c=true then some (s.reader,[]) else if c=58 then some ({s.reader with mode:= .value false},[]) else none:=by unfold take; rw[hm]
 rw[e]
 by_cases hb:isBlank c=true
 .rw[if_pos hb,if_pos hb]
  exact zf7 h E.hT
 .rw[if_neg hb,if_neg hb]
  by_cases hc:c=58
  .rw[if_pos hc,if_pos (by omega)]
   have hlv':LvAt O s.quests s.telling s.out s.reader.frames is true:=zvY hlv hok
   refine⟨_,is,[],rfl,⟨⟨st,nu,wh,tb,wd,sp,za7 lr,rfl⟩,by rw[zaR nrl]; exact h.hl,zf9 hlv' nri (fun xs z=> by rw[hr] at z; cases z),h.h0,h.h1,trivial,h.dp,by simp⟩,?_,Fr.set (by simp),fun j hj=> .inl hj⟩
   show _=some (FO.lst (tl ++ []))
   rw[zaR nrT,List.append_nil]; exact E.hT
  .rw[if_neg hc,if_neg (by omega)]
   exact⟨O,rfl,h.w,E.hT,Fr.refl⟩
theorem zuR{cl:Bool}(h:RdAt O rd q lv is X s)(hm:s.reader.mode= .name cl)(E:Env O q d a n lv T U X s tl):zkT O rd q lv T is X tl s (take s.reader c) (zav [.ref rd,.int c,.ref T] O):=by
 obtain⟨st,nu,wh,tb,wd,sp,hr,hs⟩:=h.ex
 have hok:=h.ok
 have hlv:=h.lvs
 rw[hm] at hr hs hok hlv
 have hs:X=[]:=hs
 subst hs
 have hok:znU s.reader.frames:=hok
 have lr:=zaq hr
 have ll:=zaq h.hl
 have nrl:rd≠lv:=zaU hr h.hl (by simp[zae])
 have nrT:rd≠T:=zaU hr E.hT (by simp[zae])
 have nri:rd∉is:=zcj hlv hr (by simp[zae])
 have ha:∀k,k=7\/k=6\/k=8\/k=9\/k=5\/k=4->¬awN (.name cl)=k:=by
  intro k hk; cases cl <;> simp[awN] <;> omega
 rw[zes hr (ha 7 (by simp)) (ha 6 (by simp)) (ha 8 (by simp)) (ha 9 (by simp)),zrr hr (ha 5 (by simp)) (ha 4 (by simp)) (by cases cl <;> rfl)]
 have e:take s.reader c=if isBlank c=true then some (s.reader,[]) else if c=34 then some ({s.reader with mode:= .str true .plain,buf:=[]},[]) else if c=125/\cl=true then closed s.reader 0 else none:=by unfold take; rw[hm]
 rw[e]
 by_cases hb:isBlank c=true
 .rw[if_pos hb,if_pos hb]
  exact zf7 h E.hT
 .rw[if_neg hb,if_neg hb]
  by_cases hc:c=34
  .rw[if_pos hc]
   obtain⟨O1,E1,g1,g2,F1⟩:=zkh (O:=O)
   have hr1:=F1.get hr (by simp)
   have lr1:=zaq hr1
   rw[zpH hr1 (by omega) lr1 E1]
   have K1:Kp O O1:=F1.kp (by simp)
   refine⟨_,is,[O.length,O.length + 1],rfl,⟨⟨O.length,nu,wh,tb,wd,sp,za7 lr1,⟨O.length + 1,_,rfl,?_,?_,⟨0,0,0,0,0,0,0,rfl,rfl,rfl⟩,fun z=> by cases z⟩⟩,?_,?_,h.h0,h.h1,hok,h.dp,by simp; omega⟩,?_,?_,fun j hj=> ?_⟩
   .rw[zaR (by omega)]; exact g1
   .rw[zaR (by omega)]; exact g2
   .rw[zaR nrl]; exact F1.get h.hl (by simp)
   .exact zf9 (hlv.keep F1 K1 (by simp)) nri (fun xs z=> by rw[hr1] at z; cases z)
   .show _=some (FO.lst (tl ++ []))
    rw[zaR nrT,List.append_nil]; exact F1.get E.hT (by simp)
   .exact (F1.mono (by simp)).trans (T:=[rd]) (Fr.set (by simp)) (by intro j _ z; simp at z; simp[z])
   .simp at hj; exact .inr (by omega)
  .rw[if_neg hc]
   obtain⟨f,fs,hf,hfa⟩:=hok
   by_cases hcl:c=125/\cl=true
   .rw[if_pos hcl]
    obtain⟨h125,rfl⟩:=hcl
    have hlen:=h.lvs.len
    rw[hf] at hlen
    match is,hlen,h with
    | i::is,_,h=>
     obtain⟨O',E1,hk⟩:=zkI h hf E hr
     have:=hk _ (zpJ (c:=c) (T:=T) hr (by omega) E1)
     rw[hfa] at this
     exact this
   .rw[if_neg hcl,zpI (c:=c) hr (by omega) (by
     by_cases z:c=125
     .right
      have:¬cl=true:=fun y=> hcl ⟨z,y⟩
      cases cl <;> simp_all[awN]
     .left; omega)]
    exact⟨O,rfl,h.w,E.hT,Fr.refl⟩
theorem zhd{O1:FH}{m':Mode}{buf':List Nat}{X':List Nat}{st' nu':Nat}{wd' sp':Int}(hlv:LvAt O s.quests s.telling s.out s.reader.frames is true)(h:RdAt O rd q lv is [] s)(E:Env O q d a n lv T U [] s tl)
  (F1:Fr O O1 [rd]) (hr:O[rd]? =some (zae q lv st nu aw wh tb wd sp)) (hr1:O1[rd]? =some (zae q lv st' nu' (awN m') wh tb wd' sp')) (hv:zpp m'=false) (hok:znv m' s.reader.frames) (hX:∀j∈X',O.length<=j)
  (hsub:∀(O':FH) (wh:Int) (tb:Bool) (s':State),Fr O1 O' (rd::is)->s'.reader.buf=buf'->wh=s'.which->tb=tells s'->zr3 O' st' nu' wh tb wd' sp' s' m' X'):
  ∃(O':FH) (pl:Nat),zal [.ref rd] O1=some (.int pl,O')/\∀m,m=some (.bl true,O')->zkT O rd q lv T is [] tl s (some (⟨m',s.reader.frames,buf'⟩,[.begins])) m:=by
 have lr:=zaq hr
 have ll:=zaq h.hl
 have nrl:rd≠lv:=zaU hr h.hl (by simp[zae])
 have nrT:rd≠T:=zaU hr E.hT (by simp[zae])
 have nri:rd∉is:=zcj hlv hr (by simp[zae])
 have S1:SOk O a U [rd]:=fun j hj=> by simp at hj; subst hj; exact .inl ⟨4,_,by decide,hr⟩
 have K1:=S1.kp F1
 have hl1:=F1.get h.hl (by simp; exact fun z=> nrl z.symm)
 have hT1:=F1.get E.hT (by simp; exact fun z=> nrT z.symm)
 have hlv1:=hlv.keep F1 K1 fun j hj=> by simp; rintro rfl; exact nri hj
 obtain⟨O',pl,E1,k1,k2,k3,k4⟩:=znn hr1 hl1 hlv1 (E.hQ.fr F1 S1) h.h0 h.h1
 refine⟨O',pl,E1,fun m hm=> ?_⟩
 have nl2:lv∉rd::is:=by
  simp
  exact⟨fun z=> nrl z.symm,zcj hlv h.hl (by simp)⟩
 have nT2:T∉rd::is:=by
  simp
  exact⟨fun z=> nrT z.symm,zcj hlv E.hT (by simp)⟩
 refine⟨O',is,X',hm,⟨⟨st',nu',_,_,wd',sp',k1,hsub O' _ _ _ k4 rfl rfl rfl⟩,k4.get hl1 nl2,?_,h.h0,h.h1,hok,h.dp,fun z=> ?_⟩,?_,?_,fun j hj=> ?_⟩
 .show LvAt O' s.quests s.telling s.out s.reader.frames is (zpp m')
  rw[hv]; exact k3
 .have:=hX _ z; omega
 .show _=some (FO.lst (tl ++ []))
  rw[List.append_nil]; exact k4.get hT1 nT2
 .exact (F1.mono (by simp)).trans k4 (by intro j _ z; simp at z |-; rcases z with z | z <;> simp[z])
 .exact .inr (hX j hj)
end
section
variable {O:FH}{q d a n:Nat}{U X:List Nat}{rd lv st nu T:Nat}{aw wh wd sp:Int}{tb:Bool}{is:List Nat}{tl:List FV}{s:State}{c:Nat}
theorem zrJ{vs:List FV}(hr:O[rd]? =some (.ins 4 vs))(hc:(c:Int)=123):zak [.ref rd,.int c,.ref T] O=zaM [.ref rd,.int 0,.ref T] O:=by
 rw[hc]
 unfold zak za2
 walk_at "evh"
 generalize zaM _ _=x; cases x <;> rfl
theorem ztX{vs:List FV}(hr:O[rd]? =some (.ins 4 vs))(hc:(c:Int)=91):zak [.ref rd,.int c,.ref T] O=zaM [.ref rd,.int 1,.ref T] O:=by
 rw[hc]
 unfold zak za2
 walk_at "evh"
 generalize zaM _ _=x; cases x <;> rfl
theorem ztY{O1 O2:FH}{pl:FV}(hr1:O1[rd]? =some (zae q lv st nu aw wh tb wd sp))(lr1:rd < O1.length)(hc:(c:Int)=34)(E1:zat [.ref O.length] (O ++ [.ins 3 []])=some (.non,O1))(E2:zal [.ref rd] (O1.set rd (zae q lv O.length nu 7 wh tb wd sp))=some (pl,O2)):zak [.ref rd,.int c,.ref T] O=some (.bl true,O2):=by
 rw[hc]
 unfold zae at *
 unfold zak za2
 walk_at "evh"
theorem zwh{O2:FH}{pl:FV}{k:Int}(hr:O[rd]? =some (zae q lv st nu aw wh tb wd sp))(lr:rd < O.length)(h1:¬(c:Int)=123)(h2:¬(c:Int)=91)(h3:¬(c:Int)=34)(E1:m_word_begun_by [.int c] O=some (.int k,O))(E2:zal [.ref rd] (O.set rd (zae q lv st nu 9 wh tb k 1))=some (pl,O2)):zak [.ref rd,.int c,.ref T] O=some (.bl true,O2):=by
 unfold zae at *
 unfold zak za2
 walk_at "evh"
theorem zwi(hr:O[rd]? =some (zae q lv st nu aw wh tb wd sp))(h1:¬(c:Int)=123)(h2:¬(c:Int)=91)(h3:¬(c:Int)=34)(E1:m_word_begun_by [.int c] O=some (.non,O)):zak [.ref rd,.int c,.ref T] O=zaQ [.ref rd,.int c] O:=by
 unfold zae at *
 unfold zak za2
 walk_at "evh"
 generalize zaQ _ _=x; cases x <;> rfl
theorem zwk{O1 O2:FH}{vs:List FV}(E1:zaD [.ref O.length] (O ++ [.ins 1 []])=some (.non,O1))(hn:O1[O.length]? =some (.ins 1 vs))(E2:zaH [.ref O.length,.int c] O1=some (.bl false,O2)):zaQ [.ref rd,.int c] O=some (.bl false,O2):=by
 unfold zaQ zbG
 walk_at "evh"
theorem zwj{O1 O2 O3:FH}{vs:List FV}{pl:FV}(E1:zaD [.ref O.length] (O ++ [.ins 1 []])=some (.non,O1))(hn:O1[O.length]? =some (.ins 1 vs))(E2:zaH [.ref O.length,.int c] O1=some (.bl true,O2))(hr2:O2[rd]? =some (zae q lv st nu aw wh tb wd sp))(lr2:rd < O2.length)(E3:zal [.ref rd] (O2.set rd (zae q lv st O.length 8 wh tb wd sp))=some (pl,O3)):zaQ [.ref rd,.int c] O=some (.bl true,O3):=by
 unfold zae at *
 unfold zaQ zbG
 walk_at "evh"
def zj9(c:Nat):Option Num:=if c=45 then some .minus else if c=48 then some .zero else if isDigit c=true then some .whole else none
theorem zpz(c:Nat):zkX 0 (c:Int)=(zj9 c).map stN:=by
 unfold zkX zj9
 rw[zjf]
 by_cases hd:isDigit c=true
 .rw[if_pos hd]
  have h45:¬c=45:=by rintro rfl; cases hd
  rw[if_neg h45]
  unfold znC
  rw[if_pos (show ([0,1]:List Int).contains 0=true from rfl)]
  by_cases h48:c=48
  .rw[if_pos (by omega),if_pos h48]; rfl
  .rw[if_neg (by omega),if_neg h48,if_pos hd]; rfl
 .rw[if_neg hd]
  have h48:¬c=48:=by rintro rfl; exact hd rfl
  rw[if_neg h48,if_neg hd]
  by_cases h45:c=45
  .subst h45; rfl
  .rw[if_neg h45,if_neg (by omega)]
   have e1:([2,3]:List Int).contains 0=false:=rfl
   have e2:([2,3,5]:List Int).contains 0=false:=rfl
   simp[e1,e2]
theorem zkg{r:Reader}{cl:Bool}(hb:isBlank c=false)(h34:¬c=34)(hw:¬c=110/\¬c=102/\¬c=116)(h91:¬c=91)(h123:¬c=123)(hcl:¬(c=93/\cl=true)):valueTake r cl c=(zj9 c).map fun z=> (({r with mode:= .num z,buf:=[c]}:Reader),[.begins]):=by
 unfold valueTake zj9
 rw[if_neg (by simp[hb]),if_neg h34]
 by_cases h45:c=45
 .rw[if_pos h45,if_pos h45]; rfl
 .rw[if_neg h45,if_neg h45]
  by_cases h48:c=48
  .rw[if_pos h48,if_pos h48]; rfl
  .rw[if_neg h48,if_neg h48]
   by_cases hd:isDigit c=true
   .rw[if_pos hd,if_pos hd]; rfl
   .rw[if_neg hd,if_neg hd,if_neg hw.1,if_neg hw.2.1,if_neg hw.2.2,if_neg h91,if_neg h123,if_neg hcl]; rfl
theorem zqq{cl:Bool}(h:RdAt O rd q lv is [] s)(hm:s.reader.mode= .value cl)(E:Env O q d a n lv T U [] s tl)(hr:O[rd]? =some (zae q lv st nu aw wh tb wd sp)):
  zkT O rd q lv T is [] tl s ((zj9 c).map fun z=> (({s.reader with mode:= .num z,buf:=[c]}:Reader),[.begins])) (zaQ [.ref rd,.int c] O):=by
 have hlv:=h.lvs
 rw[hm] at hlv
 have lr:=zaq hr
 have ll:=zaq h.hl
 have nri:rd∉is:=zcj hlv hr (by simp[zae])
 obtain⟨O1,E1,g1,g2,F1⟩:=zm1 (O:=O)
 have E2:=zkd (buf:=[]) (c:=c) g1 g2 (by simp)
 rw[zpz] at E2
 cases hf:zj9 c with
 | none=>
  rw[hf] at E2
  refine⟨O1,zwk E1 g1 E2,⟨st,nu,aw,wh,tb,wd,sp,true,F1.get hr (by simp),F1.get h.hl (by simp),hlv.keep F1 (F1.kp (by simp)) (by simp)⟩,F1.get E.hT (by simp),F1.mono (by simp)⟩
 | some z=>
  rw[hf] at E2
  have hlt:¬64 < ([]:List Nat).length + (if zuM (stN z)=true then 1 else 2):=by
   split <;> simp
  dsimp only[Option.map_some] at E2
  rw[if_neg hlt] at E2
  generalize hO2:(O1.set O.length (.ins 1 [.int (stN z),.ref (O.length + 1)])).set (O.length + 1) (.lst (fI ([] ++ [c])))=O2 at E2
  have l1:=zaq g1
  have l2:=zaq g2
  have F2:Fr O O2 []:=by
   rw[<- hO2]
   exact (F1.trans (T:=[O.length]) (Fr.set (by simp)) (by simp; omega)).trans (T:=[O.length + 1]) (Fr.set (by simp)) (by simp; omega)
  have k1:O2[O.length]? =some (.ins 1 [.int (stN z),.ref (O.length + 1)]):=by rw[<- hO2,zaR (by omega),za7 l1]
  have k2:O2[O.length + 1]? =some (.lst (fI [c])):=by rw[<- hO2,za7 (by simp; exact l2)]; rfl
  have hr2:=F2.get hr (by simp)
  have lr2:=zaq hr2
  have nX:∀j,O.length<=j->j∉rd::is:=fun j hj z=> by
   rcases List.mem_cons.mp z with z | z
   .omega
   .obtain⟨vs,e⟩:=hlv.ins _ z; have:=zaq e; omega
  obtain⟨O',pl,E3,hk⟩:=zhd (O1:=O2.set rd (zae q lv st O.length 8 wh tb wd sp)) (m':= .num z) (buf':=[c]) (X':=[O.length,O.length + 1]) (st':=st) (nu':=O.length) (wd':=wd) (sp':=sp) hlv h E ((F2.mono (by simp)).trans (T:=[rd]) (Fr.set (by simp)) (by simp)) hr (za7 lr2) rfl trivial (by intro j hj; simp at hj; omega)
   (fun O' wh tb s' F hb hw ht=> ⟨O.length + 1,rfl,F.get ((zaR (by omega)).trans k1) (nX _ (by omega)),(by rw[hb]; exact F.get ((zaR (by omega)).trans k2) (nX _ (by omega))),(by rw[hb]; simp),hw,ht⟩)
  exact hk _ (zwj E1 g1 E2 hr2 lr2 E3)
end
section
variable {O:FH}{q d a n:Nat}{U X:List Nat}{rd lv st nu T:Nat}{aw wh wd sp:Int}{tb:Bool}{is:List Nat}{tl:List FV}{s:State}{c:Nat}
theorem zqp{cl:Bool}(h:RdAt O rd q lv is [] s)(hm:s.reader.mode= .value cl)(E:Env O q d a n lv T U [] s tl)(hr:O[rd]? =some (zae q lv st nu aw wh tb wd sp))(hc:c=34):
  zkT O rd q lv T is [] tl s (some (({s.reader with mode:= .str false .plain,buf:=[]}:Reader),[.begins])) (zak [.ref rd,.int c,.ref T] O):=by
 have hlv:=h.lvs
 rw[hm] at hlv
 have lr:=zaq hr
 obtain⟨O1,E1,g1,g2,F1⟩:=zkh (O:=O)
 have hr1:=F1.get hr (by simp)
 have lr1:=zaq hr1
 have nX:∀j,O.length<=j->j∉rd::is:=fun j hj z=> by
  rcases List.mem_cons.mp z with z | z
  .omega
  .obtain⟨vs,e⟩:=hlv.ins _ z; have:=zaq e; omega
 obtain⟨O',pl,E3,hk⟩:=zhd (O1:=O1.set rd (zae q lv O.length nu 7 wh tb wd sp)) (m':= .str false .plain) (buf':=[]) (X':=[O.length,O.length + 1]) (st':=O.length) (nu':=nu) (wd':=wd) (sp':=sp) hlv h E ((F1.mono (by simp)).trans (T:=[rd]) (Fr.set (by simp)) (by simp)) hr (za7 lr1) rfl trivial (by intro j hj; simp at hj; omega)
  (fun O' wh tb s' F hb hw ht=> ⟨O.length + 1,_,rfl,F.get ((zaR (by omega)).trans g1) (nX _ (by omega)),(by rw[hb]; exact F.get ((zaR (by omega)).trans g2) (nX _ (by omega))),⟨0,0,0,0,0,0,0,rfl,rfl,rfl⟩,fun _=> ⟨hw,ht⟩⟩)
 exact hk _ (ztY hr1 lr1 (by omega) E1 E3)
theorem zow{cl:Bool}{k:Nat}(h:RdAt O rd q lv is [] s)(hm:s.reader.mode= .value cl)(E:Env O q d a n lv T U [] s tl)(hr:O[rd]? =some (zae q lv st nu aw wh tb wd sp))(hc:¬c=123/\¬c=91/\¬c=34)(hk2:k<=2)(E1:m_word_begun_by [.int c] O=some (.int k,O)):
  zkT O rd q lv T is [] tl s (some (({s.reader with mode:= .lit k 1,buf:=[]}:Reader),[.begins])) (zak [.ref rd,.int c,.ref T] O):=by
 have hlv:=h.lvs
 rw[hm] at hlv
 have lr:=zaq hr
 obtain⟨O',pl,E3,hk⟩:=zhd (O1:=O.set rd (zae q lv st nu 9 wh tb k 1)) (m':= .lit k 1) (buf':=[]) (X':=[]) (st':=st) (nu':=nu) (wd':=k) (sp':=1) hlv h E (Fr.set (by simp)) hr (za7 lr) rfl trivial (by intro j hj; cases hj)
  (fun O' wh tb s' F hb hw ht=> ⟨rfl,rfl,rfl,hk2,(by match k,hk2 with | 0,_=> decide | 1,_=> decide | 2,_=> decide),hw,ht⟩)
 exact hk _ (zwh hr lr (by omega) (by omega) (by omega) E1 E3)
theorem zr5{cl arr:Bool}{m:Option (FV×FH)}(h:RdAt O rd q lv is [] s)(hm:s.reader.mode= .value cl)(E:Env O q d a n lv T U [] s tl)(hr:O[rd]? =some (zae q lv st nu aw wh tb wd sp))(hmm:m=zaM [.ref rd,.int (if arr=true then 1 else 0),.ref T] O):
  zkT O rd q lv T is [] tl s (opened s.reader arr) m:=by
 subst hmm
 have hlv:=h.lvs
 rw[hm] at hlv
 have hlen:=hlv.len
 have hdp:=h.dp
 unfold opened DEEPEST
 by_cases hD:32<=s.reader.frames.length
 .rw[if_pos hD]
  exact⟨O,zoh hr h.hl (by omega),h.w,E.hT,Fr.refl⟩
 .rw[if_neg hD]
  have hlim:=E.lim
  obtain⟨O',i,E1,k1,k2,k3,k4,k5,k6⟩:=zkJ (arr:=arr) hr h.hl hlv E.hQ h.h0 h.h1 E.hT E.nT E.lU E.tU (by omega) (by omega) rfl
  have hdeep:deepOf s.reader ⟨if arr=true then .value true else .name true,⟨arr,0,[]⟩::s.reader.frames,[]⟩=s.reader.frames.length + 1:=by
   unfold deepOf; simp
  have e1:(fin s ⟨if arr=true then .value true else .name true,⟨arr,0,[]⟩::s.reader.frames,[]⟩ [.begins,.opens (if arr=true then 1 else 0)])=(({s with reader:=⟨if arr=true then .value true else .name true,⟨arr,0,[]⟩::s.reader.frames,[]⟩,taken:=s.taken + 1,which:=whichOf s.quests s.reader.way,telling:=zqo s.telling s.out (whichOf s.quests s.reader.way) (s.reader.frames.length + 1),out:=zqU s.quests s.telling s.out (whichOf s.quests s.reader.way) (s.reader.frames.length + 1)}:State),if (s.out.isNone && (s.telling.isSome || whichOf s.quests s.reader.way !=0))=true then [Ev.opens (whichOf s.quests s.reader.way) (if arr=true then 1 else 0)] else []):=by
   unfold fin
   rw[hdeep]
   unfold zqo zqU
   cases hc:(s.out.isNone && (s.telling.isSome || whichOf s.quests s.reader.way !=0)) with
   | true=> simp only[tellAll,tellOne,tells,hc,if_true]; rfl
   | false=> simp only[tellAll,tellOne,tells,hc,Bool.false_eq_true,if_false]; rfl
  refine⟨O',i::is,[],E1,?_,?_,k5.mono (by intro j hj; simp at hj |-; rcases hj with z | z | z | z <;> simp[z]),fun j hj=> ?_⟩
  .rw[e1]
   refine⟨⟨st,nu,(whichOf s.quests s.reader.way:Int),(s.out.isNone && (s.telling.isSome || whichOf s.quests s.reader.way !=0)),wd,sp,?_,?_⟩,k2,?_,fun t z=> ?_,fun t z=> ?_,?_,?_,by simp⟩
   .have:awN (if arr=true then .value true else .name true)=if arr=true then 1 else 3:=by cases arr <;> rfl
    show O'[rd]? =some (zae q lv st nu (awN (if arr=true then .value true else .name true)) _ _ wd sp)
    rw[this]; exact k1
   .show zr3 _ _ _ _ _ _ _ _ (if arr=true then .value true else .name true) []
    cases arr <;> rfl
   .have:zpp (if arr=true then .value true else .name true)=arr:=by cases arr <;> rfl
    show LvAt _ _ _ _ _ _ (zpp (if arr=true then .value true else .name true))
    rw[this]; exact k3
   .change zqo s.telling s.out (whichOf s.quests s.reader.way) (s.reader.frames.length + 1)=some t at z
    show 1<=t/\t<=s.reader.frames.length + 1
    unfold zqo at z
    cases ht:s.telling with
    | none=>
     rw[ht] at z
     split at z
     .injection z with z; simp at z; omega
     .cases z
    | some t'=>
     have:=h.h0 t' ht
     rw[ht] at z
     split at z
     .injection z with z; simp at z; omega
     .injection z with z; omega
   .change zqU s.quests s.telling s.out (whichOf s.quests s.reader.way) (s.reader.frames.length + 1)=some t at z
    show 1<=t/\t<=s.reader.frames.length + 1
    unfold zqU at z
    split at z
    .split at z
     .injection z with z; omega
     .cases z
    .have:=h.h1 t z; omega
   .show znv (if arr=true then .value true else .name true) (⟨arr,0,[]⟩::s.reader.frames)
    cases arr with
    | true=> exact⟨_,_,rfl,rfl⟩
    | false=> exact⟨_,_,rfl,rfl⟩
   .show (⟨arr,0,[]⟩::s.reader.frames).length<=32
    simp; omega
  .rw[e1]; exact k4
  .cases hj
theorem zsC(c:Nat)(O:FH):m_word_begun_by [.int c] O=some (if c=110 then .int 0 else if c=102 then .int 1 else if c=116 then .int 2 else .non,O):=by
 show some (if (c:Int)=110 then FV.int 0 else if (c:Int)=102 then .int 1 else if (c:Int)=116 then .int 2 else .non,O)=_
 by_cases h1:c=110
 .rw[if_pos (by omega),if_pos h1]
 .rw[if_neg (by omega),if_neg h1]
  by_cases h2:c=102
  .rw[if_pos (by omega),if_pos h2]
  .rw[if_neg (by omega),if_neg h2]
   by_cases h3:c=116
   .rw[if_pos (by omega),if_pos h3]
   .rw[if_neg (by omega),if_neg h3]
theorem zox{cl:Bool}(h:RdAt O rd q lv is [] s)(hm:s.reader.mode= .value cl)(E:Env O q d a n lv T U [] s tl)(hr:O[rd]? =some (zae q lv st nu aw wh tb wd sp))(hb:isBlank c=false)(hcl:¬(c=93/\cl=true)):
  zkT O rd q lv T is [] tl s (valueTake s.reader cl c) (zak [.ref rd,.int c,.ref T] O):=by
 have hw:=zsC c O
 have hb':¬isBlank c=true:=by simp[hb]
 by_cases h34:c=34
 .have e:valueTake s.reader cl c=some (({s.reader with mode:= .str false .plain,buf:=[]}:Reader),[.begins]):=by unfold valueTake; rw[if_neg hb',if_pos h34]
  rw[e]; exact zqp h hm E hr h34
 .by_cases h91:c=91
  .subst h91
   have e:valueTake s.reader cl 91=opened s.reader true:=rfl
   rw[e]; exact zr5 h hm E hr (ztX hr (by omega))
  .by_cases h123:c=123
   .subst h123
    have e:valueTake s.reader cl 123=opened s.reader false:=rfl
    rw[e]; exact zr5 h hm E hr (zrJ hr (by omega))
   .by_cases h110:c=110
    .subst h110
     exact zow (k:=0) h hm E hr (by decide) (by decide) hw
    .by_cases h102:c=102
     .subst h102
      exact zow (k:=1) h hm E hr (by decide) (by decide) hw
     .by_cases h116:c=116
      .subst h116
       exact zow (k:=2) h hm E hr (by decide) (by decide) hw
      .rw[zkg hb h34 ⟨h110,h102,h116⟩ h91 h123 hcl,zwi hr (by omega) (by omega) (by omega) (by rw[hw,if_neg h110,if_neg h102,if_neg h116])]
       exact zqq h hm E hr
theorem zsF{cl:Bool}(h:RdAt O rd q lv is X s)(hm:s.reader.mode= .value cl)(E:Env O q d a n lv T U X s tl):zkT O rd q lv T is X tl s (take s.reader c) (zav [.ref rd,.int c,.ref T] O):=by
 obtain⟨st,nu,wh,tb,wd,sp,hr,hs⟩:=h.ex
 have hok:=h.ok
 rw[hm] at hr hs hok
 have hs:X=[]:=hs
 subst hs
 have e:take s.reader c=valueTake s.reader cl c:=by unfold take; rw[hm]
 rw[e]
 cases cl with
 | false=>
  rw[zes hr (by decide) (by decide) (by decide) (by decide),zrt hr]
  by_cases hb:isBlank c=true
  .have e:valueTake s.reader false c=some (s.reader,[]):=by unfold valueTake; rw[if_pos hb]
   rw[e,if_pos hb]; exact zf7 h E.hT
  .rw[if_neg hb]
   exact zox h hm E hr (by simpa using hb) (by simp)
 | true=>
  rw[zes hr (by decide) (by decide) (by decide) (by decide)]
  by_cases hb:isBlank c=true
  .have e:valueTake s.reader true c=some (s.reader,[]):=by unfold valueTake; rw[if_pos hb]
   rw[e,if_pos hb]; exact zf7 h E.hT
  .rw[if_neg hb]
   by_cases hc:c=93
   .obtain⟨f,fs,hf,hfa⟩:=hok
    have hlen:=h.lvs.len
    rw[hf] at hlen
    match is,hlen,h with
    | i::is,_,h=>
     obtain⟨O',E1,hk⟩:=zkI h hf E hr
     have:=hk _ (zpF (c:=c) (T:=T) hr (by omega) E1)
     rw[hfa] at this
     have e:valueTake s.reader true c=closed s.reader 1:=by subst hc; rfl
     rw[e]; exact this
   .rw[zrs hr (by omega)]
    exact zox h hm E hr (by simpa using hb) (fun z=> hc z.1)
end
section
variable {O:FH}{q d a n:Nat}{U X:List Nat}{rd lv st nu T:Nat}{aw wh wd sp:Int}{tb:Bool}{is:List Nat}{tl:List FV}{s:State}{c:Nat}
theorem zrk{k:Int}{b:Nat}{bs:List FV}{O2:FH}(hr:O[rd]? =some (zae q lv st nu aw wh true wd sp))(hb:O[b]? =some (.lst bs))(hT:O[T]? =some (.lst tl))(lb:b < O.length)(lT:T < O.length)(g1:b < O.length + 1)(g2:T < O.length + 1)(h1:3 + bs.length<=LIM)(h2:tl.length + (3 + bs.length)<=LIM)
  (hO2:O ++ [FO.lst [.int k,.int wh,.int bs.length]]=O2) (k1:O2[O.length]? =some (.lst [.int k,.int wh,.int bs.length])) (k2:O2[b]? =some (.lst bs)) (k3:O2[T]? =some (.lst tl)) (k5:T < O2.length) (e:([FV.int k,.int wh,.int bs.length] ++ bs).length=3 + bs.length):
  zaL [.ref rd,.int k,.ref b,.ref T] O=some (.non,(O2 ++ [FO.lst ([FV.int k,.int wh,.int bs.length] ++ bs)]).set T (.lst (tl ++ ([FV.int k,.int wh,.int bs.length] ++ bs)))):=by
 unfold zae at *
 unfold zaL zbX
 simp only[List.cons_append,List.nil_append,List.length_cons] at e
 have e2:bs.length + 1 + 1 + 1=3 + bs.length:=by omega
 walk_at "evh"
theorem zrl{k:Int}{b:Nat}(hr:O[rd]? =some (zae q lv st nu aw wh false wd sp)):zaL [.ref rd,.int k,.ref b,.ref T] O=some (.non,O):=by
 unfold zae at *
 unfold zaL zbX
 walk_at "evh"
theorem zsm{k:Int}{b:Nat}{bs:List FV}(hr:O[rd]? =some (zae q lv st nu aw wh tb wd sp))(hb:O[b]? =some (.lst bs))(hT:O[T]? =some (.lst tl))(hl:tl.length + bs.length + 3<=LIM):
  ∃O2,zaL [.ref rd,.int k,.ref b,.ref T] O=some (.non,O2)/\O2[T]? =some (.lst (tl ++ if tb=true then ([.int k,.int wh,.int bs.length] ++ bs) else []))/\Fr O O2 [T]:=by
 have lb:=zaq hb
 have lT:=zaq hT
 cases tb with
 | false=> exact⟨O,zrl hr,by simp[hT],Fr.refl⟩
 | true=>
  refine⟨_,zrk hr hb hT lb lT (by omega) (by omega) (by omega) (by omega) rfl (zaO rfl) (by rw[za8 lb]; exact hb) (by rw[za8 lT]; exact hT) (by simp; omega) (by simp; omega),?_,?_⟩
  .rw[za7 (by simp; omega)]; rfl
  .exact (Fr.new.trans (T:=[]) Fr.new (by simp)).trans (T:=[T]) (Fr.set (by simp)) (by simp)
theorem ziz(b:List Nat):(SqNeutral.ints b).map FV.int=fI b:=by unfold SqNeutral.ints fI; rw[List.map_map]; rfl
theorem zrL(w:Nat)(b:List Nat):evF [.text w b]=[.int 4,.int w,.int b.length] ++ fI b:=by
 unfold evF SqNeutral.evNums
 simp[ziz]
theorem zka(w:Nat)(b:List Nat):evF [.number w b]=[.int 5,.int w,.int b.length] ++ fI b:=by
 unfold evF SqNeutral.evNums
 simp[ziz]
theorem zt5(b:List Nat):evF [.key b]=[.int 3,.int b.length] ++ fI b:=by
 unfold evF SqNeutral.evNums
 simp[ziz]
theorem znj{k:Int}{O1:FH}{vs:List FV}(hr:O[rd]? =some (zae q lv st nu aw wh tb wd sp))(hs:O[st]? =some (.ins 3 vs))(E:zag [.ref st,.int c] O=some (.int k,O1))(hk:¬k=1):zaC [.ref rd,.int c,.ref T] O=some (.bl (!decide (k=2)),O1):=by
 unfold zae at *
 unfold zaC zbr
 walk_at "evh"
theorem zpK{O2:FH}{ch:Nat}{vs:List FV}(hr:O[rd]? =some (zae q lv st nu aw wh tb wd sp))(hs:O[st]? =some (.ins 3 (.ref ch::vs)))(E:zag [.ref st,.int c] O=some (.int 1,O))(E2:zaL [.ref rd,.int 4,.ref ch,.ref T] O=some (.non,O2))(hr2:O2[rd]? =some (zae q lv st nu aw wh tb wd sp)):zaC [.ref rd,.int c,.ref T] O=some (.bl true,O2.set rd (zae q lv st nu 5 wh tb wd sp)):=by
 unfold zae at *
 unfold zaC zbr
 walk_at "evh"
theorem zlt{k:Int}{O1:FH}{vs:List FV}(hr:O[rd]? =some (zae q lv st nu aw wh tb wd sp))(hs:O[st]? =some (.ins 3 vs))(E:zag [.ref st,.int c] O=some (.int k,O1))(hk:¬k=1):zau [.ref rd,.int c,.ref T] O=some (.bl (!decide (k=2)),O1):=by
 unfold zae at *
 unfold zau zbq
 walk_at "evh"
theorem zn2{O1:FH}{ch i:Nat}{vs xs bs:List FV}{k pl nm bg:FV}{t:Int}(hr:O[rd]? =some (zae q lv st nu aw wh tb wd sp))(hs:O[st]? =some (.ins 3 (.ref ch::vs)))(hc:O[ch]? =some (.lst bs))(hl:O[lv]? =some (.lst xs))(hi:atF xs (-1)=some (.ref i))(hO:O[i]? =some (.ins 2 [k,pl,.int t,nm,bg]))(li:i < O.length)(E:zag [.ref st,.int c] O=some (.int 1,O))(ht:¬t=1)
  (hO1:(O ++ [FO.tup bs]).set i (.ins 2 [k,pl,.int t,.ref O.length,bg])=O1) (k1:O1[i]? =some (.ins 2 [k,pl,.int t,.ref O.length,bg])) (hr1:O1[rd]? =some (zae q lv st nu aw wh tb wd sp)):zau [.ref rd,.int c,.ref T] O=some (.bl true,O1.set rd (zae q lv st nu 4 wh tb wd sp)):=by
 unfold zae at *
 unfold zau zbq
 walk_at "evh"
theorem zn1{O1 O2 O3:FH}{ch i:Nat}{vs xs bs:List FV}{k pl nm bg:FV}(hr:O[rd]? =some (zae q lv st nu aw wh tb wd sp))(hs:O[st]? =some (.ins 3 (.ref ch::vs)))(hc:O[ch]? =some (.lst bs))(hl:O[lv]? =some (.lst xs))(hi:atF xs (-1)=some (.ref i))(hO:O[i]? =some (.ins 2 [k,pl,.int 1,nm,bg]))(li:i < O.length)(E:zag [.ref st,.int c] O=some (.int 1,O))
  (hO1:(O ++ [FO.tup bs]).set i (.ins 2 [k,pl,.int 1,.ref O.length,bg])=O1) (k1:O1[i]? =some (.ins 2 [k,pl,.int 1,.ref O.length,bg])) (k2:O1[ch]? =some (.lst bs)) (k3:O1[T]? =some (.lst tl)) (hO2:O1 ++ [FO.lst [.int 3,.int bs.length]]=O2) (k4:O2[O1.length]? =some (.lst [.int 3,.int bs.length])) (k5:O2[ch]? =some (.lst bs)) (k6:O2[T]? =some (.lst tl)) (lT:T < O2.length) (h1:2 + bs.length<=LIM) (h2:tl.length + (2 + bs.length)<=LIM) (e2:bs.length + 1 + 1=2 + bs.length)
  (hO3:(O2 ++ [FO.lst (.int 3:: .int bs.length::bs)]).set T (.lst (tl ++ (.int 3:: .int bs.length::bs)))=O3) (hr3:O3[rd]? =some (zae q lv st nu aw wh tb wd sp)):zau [.ref rd,.int c,.ref T] O=some (.bl true,O3.set rd (zae q lv st nu 4 wh tb wd sp)):=by
 unfold zae at *
 unfold zau zbq
 walk_at "evh"
theorem zxw{key:Bool}{z:Sub}(h:RdAt O rd q lv is X s)(hm:s.reader.mode= .str key z)(E:Env O q d a n lv T U X s tl):zkT O rd q lv T is X tl s (take s.reader c) (zav [.ref rd,.int c,.ref T] O):=by
 obtain⟨st,nu,wh,tb,wd,sp,hr,hs⟩:=h.ex
 have hok:=h.ok
 have hlv:=h.lvs
 rw[hm] at hr hs hok hlv
 obtain⟨ch,vs,rfl,g1,g2,g3,g4⟩:=hs
 have hlim:=E.lim
 have lr:=zaq hr
 have nrl:rd≠lv:=zaU hr h.hl (by simp[zae])
 have nrT:rd≠T:=zaU hr E.hT (by simp[zae])
 have nri:rd∉is:=zcj hlv hr (by simp[zae])
 have nrs:rd≠st:=zaU hr g1 (by simp[zae])
 have nrc:rd≠ch:=zaU hr g2 (by simp[zae])
 have nlc:lv≠ch:=fun z=> h.nX (by simp[z])
 have nls:lv≠st:=fun z=> h.nX (by simp[z])
 have nTc:T≠ch:=fun z=> E.tX (by simp[z])
 have nTs:T≠st:=fun z=> E.tX (by simp[z])
 have nis:∀i∈is,i∉[st,ch]:=fun i hi=> by
  obtain⟨ws,e⟩:=hlv.ins i hi
  have a1:=zaU e g1 (by simp)
  have a2:=zaU e g2 (by simp)
  simp[a1,a2]
 have ST:=zqt (c:=c) g1 g2 (by unfold LIM at hlim |-; omega) g3
 have e:take s.reader c=if z= .plain/\c=34 then some (strEnd s.reader key) else (subTake z c).map fun (x:Sub×Bytes)=> ({s.reader with mode:= .str key x.1,buf:=s.reader.buf ++ x.2},[]):=by unfold take; rw[hm]
 rw[e]
 unfold zdc at ST
 by_cases hend:z= .plain/\c=34
 .rw[if_pos hend] at ST |-
  cases key with
  | false=>
   rw[zkD hr]
   obtain⟨hw,ht⟩:=g4 rfl
   obtain⟨O2,E2,k1,F2⟩:=zsm (k:=4) hr g2 E.hT (by rw[zcx]; omega)
   have hr2:=F2.get hr (by simp; exact nrT)
   have lr2:=zaq hr2
   have S2:SOk O a U [T]:=fun j hj=> by simp at hj; subst hj; exact .inr ⟨⟨_,E.hT⟩,E.tU⟩
   refine⟨_,is,[],zpK hr g1 ST E2 hr2,⟨⟨st,nu,wh,tb,wd,sp,za7 lr2,rfl⟩,?_,?_,h.h0,h.h1,trivial,h.dp,by simp⟩,?_,?_,fun j hj=> (by cases hj)⟩
   .rw[zaR nrl]; exact F2.get h.hl (by simp; exact E.nT)
   .exact zf9 (hlv.keep F2 (S2.kp F2) fun i hi=> by simp; rintro rfl; exact zcj hlv E.hT (by simp) hi) nri (fun xs z=> by rw[hr2] at z; cases z)
   .rw[zaR nrT,k1]
    congr 3
    show _=evF ((if tells {s with reader:=ended s.reader,taken:=s.taken + 1}=true then [.text s.which s.reader.buf] else []) ++ [])
    rw[List.append_nil,show tells {s with reader:=ended s.reader,taken:=s.taken + 1}=tells s from rfl,ht]
    cases tells s with
    | false=> rfl
    | true=> rw[if_pos rfl,if_pos rfl,zrL,zcx,hw]
   .exact (F2.mono (by simp)).trans (T:=[rd]) (Fr.set (by simp)) (by intro j _ z; simp at z; simp[z])
  | true=>
   rw[zkE hr]
   obtain⟨f,fs,hf,hfa⟩:=(hok:znU _)
   have hl:=h.hl
   rw[hf] at hlv
   have hlen:=hlv.len
   match is,hlen,hlv,hl,nri,nis with
   | i::is,_,hlv,hl,nri,nis=>
   obtain⟨⟨pl,nm,bg,j1,j2,j3,j4⟩,j5,j6⟩:=id hlv
   have li:=zaq j1
   have lT:=zaq E.hT
   have lc:=zaq g2
   have nir:=zaU j1 hr (by simp[zae])
   have nic:=zaU j1 g2 (by simp)
   have niT:=zaU j1 E.hT (by simp)
   have nil:=zaU j1 hl (by simp)
   generalize hO1:(O ++ [FO.tup (fI s.reader.buf)]).set i (.ins 2 [.int (if f.arr=true then 1 else 0),.int pl,.int (zck s.telling s.out (fs.length + 1)),.ref O.length,.int bg])=O1
   have F1:Fr O O1 [i]:=by rw[<- hO1]; exact Fr.new.trans (T:=[i]) (Fr.set (by simp)) fun _ _ h=> h
   have K1:Kp O O1:=F1.kp fun j hj xs e=> by simp at hj; subst hj; rw[j1] at e; cases e
   have m1:O1[i]? =some (.ins 2 [.int (if f.arr=true then 1 else 0),.int pl,.int (zck s.telling s.out (fs.length + 1)),.ref O.length,.int bg]):=by rw[<- hO1,za7 (by simp; omega)]
   have m2:O1[O.length]? =some (.tup (fI s.reader.buf)):=by rw[<- hO1,zaR (by omega),zaO rfl]
   have hr1:=F1.get hr (by simp; exact nir.symm)
   have hT1:=F1.get E.hT (by simp; exact niT.symm)
   have hl1:=F1.get hl (by simp; exact nil.symm)
   have hlv1:LvAt O1 s.quests s.telling s.out ({f with name:=s.reader.buf}::fs) (i::is) false:=⟨⟨pl,O.length,bg,m1,m2,j3,fun z=> by rw[hfa] at z; cases z⟩,j5,j6.keep F1 K1 fun j hj=> by simp; rintro rfl; exact j5 hj⟩
   have hD1:∀t,s.telling=some t->t<=fs.length + 1:=fun t z=> by have:=(h.h0 t z).2; rw[hf] at this; exact this
   have hD2:∀t,s.out=some t->t<=fs.length + 1:=fun t z=> by have:=(h.h1 t z).2; rw[hf] at this; exact this
   have er:strEnd s.reader true=(⟨.colon,{f with name:=s.reader.buf}::fs,[]⟩,[.key s.reader.buf]):=by unfold strEnd; rw[if_pos rfl,hf]
   rw[er]
   have mainT:∃O3,zau [.ref rd,.int c,.ref T] O=some (.bl true,O3.set rd (zae q lv st nu 4 wh tb wd sp))/\O3[T]? =some (.lst (tl ++ evF (if s.out.isNone && s.telling.isSome then [.key s.reader.buf] else [])))/\Fr O1 O3 [T]:=by
    by_cases c1:zck s.telling s.out (fs.length + 1)=1
    .rw[c1] at j1 hO1 m1
     have lT1:=zaq hT1
     have hc1:=F1.get g2 (by simp; exact nic.symm)
     have lc1:=zaq hc1
     have hr3:((O1 ++ [FO.lst [.int 3,.int (fI s.reader.buf).length]] ++ [FO.lst (.int 3:: .int (fI s.reader.buf).length::fI s.reader.buf)]).set T (.lst (tl ++ (.int 3:: .int (fI s.reader.buf).length::fI s.reader.buf))))[rd]? =some (zae q lv st nu 6 wh tb wd sp):=by
      rw[zaR nrT.symm,za8 (by simp; have:=zaq hr1; omega),za8 (zaq hr1)]; exact hr1
     refine⟨_,zn1 hr g1 g2 hl (zgI i is) j1 li ST hO1 m1 hc1 hT1 rfl (zaO rfl) (by rw[za8 lc1]; exact hc1) (by rw[za8 lT1]; exact hT1) (by simp; omega) (by rw[zcx]; omega) (by rw[zcx]; omega) (by omega) rfl hr3,?_,?_⟩
     .rw[za7 (by simp; omega),if_pos ((zht hD1 hD2).mp c1),zt5,zcx]; rfl
     .exact (Fr.new.trans (T:=[]) Fr.new (by simp)).trans (T:=[T]) (Fr.set (by simp)) (by simp)
    .refine⟨O1,zn2 hr g1 g2 hl (zgI i is) j1 li ST c1 hO1 m1 hr1,?_,Fr.refl⟩
     rw[if_neg fun z=> c1 ((zht hD1 hD2).mpr z),hT1,zgt,List.append_nil]
   obtain⟨O3,E3,k3,F3⟩:=mainT
   have hr3:=F3.get hr1 (by simp; exact nrT)
   have lr3:=zaq hr3
   have S3:Kp O1 O3:=F3.kp fun j hj xs e=> by simp at hj; subst hj; rw[hT1] at e; cases e
   refine⟨_,i::is,[],E3,⟨⟨st,nu,wh,tb,wd,sp,za7 lr3,rfl⟩,?_,?_,fun t z=> ?_,fun t z=> ?_,⟨_,_,rfl,hfa⟩,?_,by simp⟩,?_,?_,fun j hj=> (by cases hj)⟩
   .rw[zaR nrl]; exact F3.get hl1 (by simp; exact E.nT)
   .exact zf9 (hlv1.keep F3 S3 fun j hj=> by simp; rintro rfl; exact zcj hlv E.hT (by simp) hj) nri (fun xs z=> by rw[hr3] at z; cases z)
   .have:=h.h0 t z; rw[hf] at this; exact this
   .have:=h.h1 t z; rw[hf] at this; exact this
   .have:=h.dp; rw[hf] at this; exact this
   .rw[zaR nrT,k3]
    congr 3
    show _=evF ((if s.out.isNone && s.telling.isSome then [.key s.reader.buf] else []) ++ [])
    rw[List.append_nil]
   .refine ((F1.mono ?_).trans (F3.mono (T:=rd::lv::T::(i::is ++ [st,ch])) ?_) fun _ _ h=> h).trans (T:=[rd]) (Fr.set (by simp)) (by intro j _ z; simp at z; simp[z])
    .intro j hj; simp at hj; simp[hj]
    .intro j hj; simp at hj; simp[hj]
 .rw[if_neg hend] at ST |-
  cases hsub:subTake z c with
  | none=>
   rw[hsub] at ST
   refine⟨O,?_,h.w,E.hT,Fr.refl⟩
   cases key with
   | false=> rw[zkD hr,znj hr g1 ST (by decide)]; rfl
   | true=> rw[zkE hr,zlt hr g1 ST (by decide)]; rfl
  | some x=>
   obtain⟨z',bs⟩:=x
   rw[hsub] at ST
   obtain⟨O',fs',E1,k1,k2,k3,F⟩:=ST
   have K:Kp O O':=F.kp fun j hj xs e=> by
    simp at hj
    rcases hj with rfl | rfl
    .rw[g1] at e; cases e
    .rw[g2] at e; cases e
   refine⟨O',is,[st,ch],?_,⟨⟨st,nu,wh,tb,wd,sp,F.get hr (by simp; exact⟨nrs,nrc⟩),⟨ch,fs',rfl,k1,k2,k3,g4⟩⟩,F.get h.hl (by simp; exact⟨nls,nlc⟩),hlv.keep F K nis,h.h0,h.h1,?_,h.dp,h.nX⟩,?_,F.mono ?_,fun j hj=> .inl hj⟩
   .cases key with
    | false=> rw[zkD hr,znj hr g1 E1 (by decide)]; rfl
    | true=> rw[zkE hr,zlt hr g1 E1 (by decide)]; rfl
   .show znv (.str key z') s.reader.frames
    cases key with
    | false=> trivial
    | true=> exact hok
   .show _=some (FO.lst (tl ++ []))
    rw[List.append_nil]; exact F.get E.hT (by simp; exact⟨nTs,nTc⟩)
   .intro j hj; simp at hj; rcases hj with z | z <;> simp[z]
end
section
variable {O:FH}{q d a n:Nat}{U X:List Nat}{rd lv st nu T:Nat}{aw wh wd sp:Int}{tb:Bool}{is:List Nat}{tl:List FV}{s:State}{c:Nat}
theorem znW{cs:List Nat}{x:Nat}(hr:O[rd]? =some (zae q lv st nu aw wh tb wd sp))(hw:wordAt (.int wd)=some (.str cs))(hx:ixS (.str cs) (.int sp)=some (.str [x]))(ho:ordS (.str [x])=some (.int x))(hc:¬(x:Int)=c):zas [.ref rd,.int c,.ref T] O=some (.bl false,O):=by
 unfold zae at *
 unfold zas za9
 walk_at "evh"
theorem znV{cs:List Nat}{x:Nat}{len:Int}(hr:O[rd]? =some (zae q lv st nu aw wh tb wd sp))(hw:wordAt (.int wd)=some (.str cs))(hx:ixS (.str cs) (.int sp)=some (.str [x]))(ho:ordS (.str [x])=some (.int x))(hc:(x:Int)=c)(hl:lenS (.str cs)=some (.int len))(hn:¬sp + 1=len)(lr:rd < O.length):zas [.ref rd,.int c,.ref T] O=some (.bl true,O.set rd (zae q lv st nu aw wh tb wd (sp + 1))):=by
 unfold zae at *
 unfold zas za9
 walk_at "evh"
theorem zlp{cs:List Nat}{x:Nat}{len:Int}(hr:O[rd]? =some (zae q lv st nu aw wh false wd sp))(hw:wordAt (.int wd)=some (.str cs))(hx:ixS (.str cs) (.int sp)=some (.str [x]))(ho:ordS (.str [x])=some (.int x))(hc:(x:Int)=c)(hl:lenS (.str cs)=some (.int len))(hn:sp + 1=len)(lr:rd < O.length):zas [.ref rd,.int c,.ref T] O=some (.bl true,O.set rd (zae q lv st nu 5 wh false wd len)):=by
 unfold zae at *
 unfold zas za9
 walk_at "evh"
theorem zlo{cs:List Nat}{x:Nat}{len:Int}(hr:O[rd]? =some (zae q lv st nu aw wh true wd sp))(hT:O[T]? =some (.lst tl))(hw:wordAt (.int wd)=some (.str cs))(hx:ixS (.str cs) (.int sp)=some (.str [x]))(ho:ordS (.str [x])=some (.int x))(hc:(x:Int)=c)(hl:lenS (.str cs)=some (.int len))(hn:sp + 1=len)(lr:rd < O.length)(lT:T < O.length)(nrT:rd≠T)(nTr:T≠rd)(g:rd < O.length + 1)(hlim:tl.length + 3<=LIM):zas [.ref rd,.int c,.ref T] O=some (.bl true,((O.set rd (zae q lv st nu aw wh true wd len) ++ [FO.lst [.int 6,.int wh,.int wd]]).set T (.lst (tl ++ [FV.int 6,FV.int wh,FV.int wd]))).set rd (zae q lv st nu 5 wh true wd len)):=by
 unfold zae at *
 unfold zas za9
 walk_at "evh"
theorem zsD{k:Nat}(hk:k<=2):wordAt (.int (k:Int))=some (.str (literal k)):=by
 match k,hk with
 | 0,_=> rfl
 | 1,_=> rfl
 | 2,_=> rfl
theorem zxy{k m:Nat}(h:RdAt O rd q lv is X s)(hm:s.reader.mode= .lit k m)(E:Env O q d a n lv T U X s tl):zkT O rd q lv T is X tl s (take s.reader c) (zav [.ref rd,.int c,.ref T] O):=by
 obtain⟨st,nu,wh,tb,wd,sp,hr,hs⟩:=h.ex
 have hlv:=h.lvs
 rw[hm] at hr hs hlv
 obtain⟨rfl,rfl,rfl,hk2,hml,hw,ht⟩:=hs
 have hlim:=E.lim
 have lr:=zaq hr
 have lT:=zaq E.hT
 have nrl:rd≠lv:=zaU hr h.hl (by simp[zae])
 have nrT:rd≠T:=zaU hr E.hT (by simp[zae])
 have nri:rd∉is:=zcj hlv hr (by simp[zae])
 have nt:∀xs,O[rd]?≠some (.tup xs):=fun xs z=> by rw[hr] at z; cases z
 have hW:=zsD hk2
 have e:take s.reader c=if (literal k)[m]? =some c then (if m + 1=(literal k).length then some (ended s.reader,[.plain k]) else some ({s.reader with mode:= .lit k (m + 1)},[])) else none:=by unfold take; rw[hm]
 rw[e,zrm hr]
 have hg:(literal k)[m]? =some (literal k)[m]:=List.getElem?_eq_getElem hml
 have hx:ixS (.str (literal k)) (.int (m:Int))=some (.str [(literal k)[m]]):=by
  unfold ixS
  dsimp only
  rw[zmE,hg]
  rfl
 have hL:lenS (.str (literal k))=some (.int ((literal k).length:Int)):=rfl
 rw[hg]
 by_cases c1:(literal k)[m]=c
 .rw[if_pos (by rw[c1])]
  by_cases c2:m + 1=(literal k).length
  .rw[if_pos c2]
   have evs:evF (fin s (ended s.reader) [.plain k]).2=if tells s=true then [.int 6,.int s.which,.int k] else []:=by
    show evF ((if tells {s with reader:=ended s.reader,taken:=s.taken + 1}=true then [.plain s.which k] else []) ++ [])=_
    rw[List.append_nil,show tells {s with reader:=ended s.reader,taken:=s.taken + 1}=tells s from rfl]
    cases tells s <;> rfl
   cases hb:tb with
   | false=>
    subst hb
    refine⟨_,is,[],zlp hr hW hx rfl (by omega) hL (by omega) lr,⟨⟨st,nu,wh,false,k,(literal k).length,za7 lr,rfl⟩,?_,?_,h.h0,h.h1,trivial,h.dp,by simp⟩,?_,Fr.set (by simp),fun j hj=> .inl hj⟩
    .rw[zaR nrl]; exact h.hl
    .exact zf9 hlv nri nt
    .rw[zaR nrT,evs,if_neg (by rw[<- ht]; simp),List.append_nil]; exact E.hT
   | true=>
    subst hb
    have F:Fr O (((O.set rd (zae q lv st nu 9 wh true k (literal k).length) ++ [FO.lst [.int 6,.int wh,.int k]]).set T (.lst (tl ++ [FV.int 6,FV.int wh,FV.int k]))).set rd (zae q lv st nu 5 wh true k (literal k).length)) [rd,T]:=
     (((Fr.set (by simp)).trans (T:=[]) Fr.new (by simp)).trans (T:=[T]) (Fr.set (by simp)) (by simp; omega)).trans (T:=[rd]) (Fr.set (by simp)) (by simp; omega)
    have K:Kp O _:=F.kp fun j hj xs e=> by
     simp at hj
     rcases hj with rfl | rfl
     .rw[hr] at e; cases e
     .rw[E.hT] at e; cases e
    refine⟨_,is,[],zlo hr E.hT hW hx rfl (by omega) hL (by omega) lr lT nrT nrT.symm (by omega) (by omega),⟨⟨st,nu,wh,true,k,(literal k).length,za7 (by simp; omega),rfl⟩,?_,?_,h.h0,h.h1,trivial,h.dp,by simp⟩,?_,F.mono (T:=rd::lv::T::(is ++ [])) (by intro j hj; simp at hj; rcases hj with z | z <;> simp[z]),fun j hj=> .inl hj⟩
    .exact F.get h.hl (by simp; exact⟨nrl.symm,E.nT⟩)
    .refine hlv.keep F K fun i hi=> ?_
     simp
     exact⟨fun z=> nri (z ▸ hi),fun z=> zcj hlv E.hT (by simp) (z ▸ hi)⟩
    .rw[zaR nrT,za7 (by simp; omega),evs,if_pos ht.symm,hw]
  .rw[if_neg c2]
   refine⟨_,is,[],znV hr hW hx rfl (by omega) hL (by omega) lr,⟨⟨st,nu,wh,tb,k,(m + 1:Nat),za7 lr,⟨rfl,rfl,rfl,hk2,by omega,hw,ht⟩⟩,?_,?_,h.h0,h.h1,trivial,h.dp,by simp⟩,?_,Fr.set (by simp),fun j hj=> .inl hj⟩
   .rw[zaR nrl]; exact h.hl
   .exact zf9 hlv nri nt
   .show _=some (FO.lst (tl ++ []))
    rw[zaR nrT,List.append_nil]; exact E.hT
 .rw[if_neg (by intro z; injection z with z; exact c1 z)]
  exact⟨O,znW hr hW hx rfl (by omega),h.w,E.hT,Fr.refl⟩
end
section
variable {O:FH}{q d a n:Nat}{U X:List Nat}{rd lv st nu T:Nat}{aw wh wd sp:Int}{tb:Bool}{is:List Nat}{tl:List FV}{s:State}{c:Nat}
theorem zlN(z:Num):zuM (stN z)=numEnds z:=by cases z <;> rfl
theorem zto(z:Num)(c:Nat):zkX (stN z) (c:Int)=(numTake z c).map stN:=by
 unfold zkX
 rw[zjf]
 by_cases hd:isDigit c=true
 .rw[if_pos hd]
  have hr:48<=c/\c<=57:=by unfold isDigit at hd; simp at hd; exact hd
  have n1:¬c=46:=by omega
  have n2:¬c=101:=by omega
  have n3:¬c=69:=by omega
  have n4:¬c=43:=by omega
  have n5:¬c=45:=by omega
  by_cases h48:c=48
  .have h48':(c:Int)=48:=by omega
   cases z <;> simp[znC,stN,numTake,hd,h48,h48',n1,n2,n3,n4,n5] <;> simp_all
  .have h48':¬(c:Int)=48:=by omega
   cases z <;> simp[znC,stN,numTake,hd,h48,h48',n1,n2,n3,n4,n5]
 .rw[if_neg hd]
  have n0:¬c=48:=by rintro rfl; exact hd rfl
  by_cases h1:c=46
  .subst h1; cases z <;> rfl
  .have h1':¬(c:Int)=46:=by omega
   by_cases h2:c=101
   .subst h2; cases z <;> rfl
   .have h2':¬(c:Int)=101:=by omega
    by_cases h3:c=69
    .subst h3; cases z <;> rfl
    .have h3':¬(c:Int)=69:=by omega
     by_cases h4:c=43
     .subst h4; cases z <;> rfl
     .have h4':¬(c:Int)=43:=by omega
      by_cases h5:c=45
      .subst h5; cases z <;> rfl
      .have h5':¬(c:Int)=45:=by omega
       cases z <;> simp[stN,numTake,hd,n0,h1,h2,h3,h4,h5,h1',h2',h3',h4',h5']
theorem zqZ{z y:Num}(h:numTake z c=some y):isBlank c=false/\∀fs,mfB fs c=false:=by
 have hc:isDigit c=true\/c=46\/c=101\/c=69\/c=43\/c=45:=by
  by_cases hd:isDigit c=true
  .exact .inl hd
  .have n0:¬c=48:=by rintro rfl; exact hd rfl
   by_cases h1:c=46
   .simp[h1]
   .by_cases h2:c=101
    .simp[h2]
    .by_cases h3:c=69
     .simp[h3]
     .by_cases h4:c=43
      .simp[h4]
      .by_cases h5:c=45
       .simp[h5]
       .exfalso
        cases z <;> simp[numTake,hd,n0,h1,h2,h3,h4,h5] at h
 have hr:43<=c/\c≠44/\c≠93/\c≠125:=by
  rcases hc with hd | hc
  .unfold isDigit at hd; simp at hd; omega
  .omega
 constructor
 .unfold isBlank
  have a:¬c=32:=by omega
  have b:¬c=9:=by omega
  have d:¬c=10:=by omega
  have e:¬c=13:=by omega
  simp[a,b,d,e]
 .intro fs
  cases fs with
  | nil=> rfl
  | cons f l=>
   rw[zfY]
   split <;> simp[hr]
theorem zpM{O1:FH}{vs:List FV}(hr:O[rd]? =some (zae q lv st nu aw wh tb wd sp))(hn:O[nu]? =some (.ins 1 vs))(E:zaH [.ref nu,.int c] O=some (.bl true,O1)):zaA [.ref rd,.int c,.ref T] O=some (.bl true,O1):=by
 unfold zae at *
 unfold zaA zbc
 walk_at "evh"
theorem zjh{vs:List FV}{me mf:Bool}(hr:O[rd]? =some (zae q lv st nu aw wh tb wd sp))(hn:O[nu]? =some (.ins 1 vs))(E:zaH [.ref nu,.int c] O=some (.bl false,O))(E2:zaE [.ref nu] O=some (.bl me,O))(E3:zam [.ref rd,.int c] O=some (.bl mf,O))(hb:([32,9,10,13]:List Int).contains (c:Int)=isBlank c)(hno:(me && (isBlank c || mf))=false):zaA [.ref rd,.int c,.ref T] O=some (.bl false,O):=by
 unfold zae at *
 unfold zaA zbc
 cases me with
 | false=> walk_at "evh"
 | true=>
  cases hbb:isBlank c with
  | true=> rw[hbb] at hno; simp at hno
  | false=>
   rw[hbb] at hb hno
   have hmf:mf=false:=by simpa using hno
   subst hmf
   clear hno hbb
   walk_at "evh"
theorem zpL{vs:List FV}{mf:Bool}{O1:FH}(hr:O[rd]? =some (zae q lv st nu aw wh tb wd sp))(hn:O[nu]? =some (.ins 1 vs))(E:zaH [.ref nu,.int c] O=some (.bl false,O))(E2:zaE [.ref nu] O=some (.bl true,O))(E3:zam [.ref rd,.int c] O=some (.bl mf,O))(hb:([32,9,10,13]:List Int).contains (c:Int)=isBlank c)(hyes:(isBlank c || mf)=true)
  (E4:zaY [.ref rd,.ref T] O=some (.non,O1)) (hr1:∃ws,O1[rd]? =some (.ins 4 ws)):zaA [.ref rd,.int c,.ref T] O=zci [.ref rd,.int c,.ref T] O1:=by
 obtain⟨ws,hr1⟩:=hr1
 unfold zae at *
 unfold zaA zbc
 cases hbb:isBlank c with
 | true=>
  rw[hbb] at hb
  clear hyes hbb
  walk_at "evh"
  generalize zci _ _=x; cases x <;> rfl
 | false=>
  rw[hbb] at hb hyes
  have hmf:mf=true:=by simpa using hyes
  subst hmf
  clear hyes hbb
  walk_at "evh"
  generalize zci _ _=x; cases x <;> rfl
theorem zpN{O1:FH}{fg:Nat}{stg:FV}(hr:O[rd]? =some (zae q lv st nu aw wh tb wd sp))(hn:O[nu]? =some (.ins 1 [stg,.ref fg]))(E:zaL [.ref rd,.int 5,.ref fg,.ref T] O=some (.non,O1))(hr1:O1[rd]? =some (zae q lv st nu aw wh tb wd sp)):zaY [.ref rd,.ref T] O=some (.non,O1.set rd (zae q lv st nu 5 wh tb wd sp)):=by
 unfold zae at *
 unfold zaY zcs
 walk_at "evh"
end
section
variable {O:FH}{q d a n:Nat}{U X:List Nat}{rd lv st nu T:Nat}{aw wh wd sp:Int}{tb:Bool}{is:List Nat}{tl:List FV}{s:State}{c:Nat}
theorem zp7{r:Reader}(h:(isBlank c || mfB r.frames c)=true):∃x,afterTake r c=some x:=by
 unfold afterTake
 by_cases hb:isBlank c=true
 .rw[if_pos hb]; exact⟨_,rfl⟩
 .rw[if_neg hb]
  simp only[Bool.not_eq_true] at hb
  rw[hb,Bool.false_or] at h
  cases hf:r.frames with
  | nil=> rw[hf] at h; cases h
  | cons f l=>
   rw[hf,zfY] at h
   dsimp only
   by_cases c44:c=44
   .rw[if_pos c44]; exact⟨_,rfl⟩
   .rw[if_neg c44]
    cases ha:f.arr with
    | true=> rw[ha] at h; simp[c44] at h; rw[if_pos ⟨h,rfl⟩]; exact⟨_,rfl⟩
    | false=> rw[ha] at h; simp[c44] at h; rw[if_neg (by simp),if_pos ⟨h,rfl⟩]; exact⟨_,rfl⟩
theorem zom{r:Reader}(h:(isBlank c || mfB r.frames c)=false):afterTake r c=none:=by
 rw[Bool.or_eq_false_iff] at h
 unfold afterTake
 rw[if_neg (by simp[h.1])]
 cases hf:r.frames with
 | nil=> rfl
 | cons f l=>
  have h2:=h.2
  rw[hf,zfY] at h2
  dsimp only
  cases ha:f.arr with
  | true=> rw[ha] at h2; simp at h2; simp[h2]
  | false=> rw[ha] at h2; simp at h2; simp[h2]
theorem zno{z:Num}{fg:Nat}(h:RdAt O rd q lv is [nu,fg] s)(hm:s.reader.mode= .num z)(E:Env O q d a n lv T U [nu,fg] s tl)(hr:O[rd]? =some (zae q lv st nu aw wh tb wd sp))(g1:O[nu]? =some (.ins 1 [.int (stN z),.ref fg]))(g2:O[fg]? =some (.lst (fI s.reader.buf)))(hw:wh=s.which)(ht:tb=tells s):
  ∃O',zaY [.ref rd,.ref T] O=some (.non,O')/\RdAt O' rd q lv is [] {s with reader:=ended s.reader}/\O'[T]? =some (.lst (tl ++ evF (if tells s=true then [.number s.which s.reader.buf] else [])))/\Fr O O' [rd,T]:=by
 have hlv:=h.lvs
 rw[hm] at hlv
 have hlim:=E.lim
 have nrl:rd≠lv:=zaU hr h.hl (by simp[zae])
 have nrT:rd≠T:=zaU hr E.hT (by simp[zae])
 have nri:rd∉is:=zcj hlv hr (by simp[zae])
 obtain⟨O2,E2,k1,F2⟩:=zsm (k:=5) hr g2 E.hT (by rw[zcx]; omega)
 have hr2:=F2.get hr (by simp; exact nrT)
 have lr2:=zaq hr2
 have K2:Kp O O2:=F2.kp fun j hj xs e=> by simp at hj; subst hj; rw[E.hT] at e; cases e
 refine⟨_,zpN hr g1 E2 hr2,⟨⟨st,nu,wh,tb,wd,sp,za7 lr2,rfl⟩,?_,?_,h.h0,h.h1,trivial,h.dp,by simp⟩,?_,?_⟩
 .rw[zaR nrl]; exact F2.get h.hl (by simp; exact E.nT)
 .exact zf9 (hlv.keep F2 K2 fun i hi=> by simp; rintro rfl; exact zcj hlv E.hT (by simp) hi) nri (fun xs z=> by rw[hr2] at z; cases z)
 .rw[zaR nrT,k1,ht]
  congr 3
  cases tells s with
  | false=> rfl
  | true=> rw[if_pos rfl,if_pos rfl,zka,zcx,hw]
 .exact (F2.mono (by simp)).trans (T:=[rd]) (Fr.set (by simp)) (by intro j _ z; simp at z; simp[z])
theorem zxx{z:Num}(h:RdAt O rd q lv is X s)(hm:s.reader.mode= .num z)(E:Env O q d a n lv T U X s tl)(hl80:tl.length + s.reader.buf.length + 80<=LIM):zkT O rd q lv T is X tl s (take s.reader c) (zav [.ref rd,.int c,.ref T] O):=by
 obtain⟨st,nu,wh,tb,wd,sp,hr,hs⟩:=h.ex
 have hlv:=h.lvs
 rw[hm] at hr hs hlv
 obtain⟨fg,rfl,g1,g2,g64,hw,ht⟩:=hs
 have lr:=zaq hr
 have l1:=zaq g1
 have l2:=zaq g2
 have nrl:rd≠lv:=zaU hr h.hl (by simp[zae])
 have nrT:rd≠T:=zaU hr E.hT (by simp[zae])
 have nri:rd∉is:=zcj hlv hr (by simp[zae])
 have nnf:nu≠fg:=zaU g1 g2 (by simp)
 have nrn:rd≠nu:=zaU hr g1 (by simp[zae])
 have nrf:rd≠fg:=zaU hr g2 (by simp[zae])
 have nlf:lv≠fg:=fun z=> h.nX (by simp[z])
 have nln:lv≠nu:=fun z=> h.nX (by simp[z])
 have nTf:T≠fg:=fun z=> E.tX (by simp[z])
 have nTn:T≠nu:=fun z=> E.tX (by simp[z])
 have e:take s.reader c=match numTake z c with
  | some y=> if LONGEST<=s.reader.buf.length\/(s.reader.buf.length + 1=LONGEST/\numEnds y=false) then none else some ({s.reader with mode:= .num y,buf:=s.reader.buf ++ [c]},[])
  | none=> if numEnds z=true then (afterTake (ended s.reader) c).map fun (x:Reader×List Sure)=> (x.1,.number s.reader.buf::x.2) else none:=by unfold take; rw[hm]; dsimp only; cases numTake z c <;> rfl
 rw[e,zrn hr]
 have NT:=zkd (c:=c) g1 g2 g64
 rw[zto] at NT
 have ME:=zlw g1
 rw[zlN] at ME
 have MF:=zwC (c:=c) hr h.hl hlv
 cases hn:numTake z c with
 | some y=>
  rw[hn] at NT
  dsimp only[Option.map_some] at NT
  rw[zlN] at NT
  dsimp only
  obtain⟨nb,nm⟩:=zqZ hn
  unfold LONGEST
  by_cases hlong:64<=s.reader.buf.length\/(s.reader.buf.length + 1=64/\numEnds y=false)
  .rw[if_pos hlong]
   rw[if_pos (by
    rcases hlong with z |⟨z1,z2⟩
    .split <;> omega
    .rw[z2]; simp; omega)] at NT
   refine⟨O,zjh hr g1 NT ME MF (zgM c) (by rw[nb,nm]; simp),h.w,E.hT,Fr.refl⟩
  .rw[if_neg hlong]
   rw[if_neg (by
    cases hy:numEnds y with
    | true=> simp; omega
    | false=>
     have:¬s.reader.buf.length + 1=64:=fun z=> hlong (.inr ⟨z,hy⟩)
     simp; omega)] at NT
   have F:Fr O ((O.set nu (.ins 1 [.int (stN y),.ref fg])).set fg (.lst (fI (s.reader.buf ++ [c])))) [nu,fg]:=(Fr.set (by simp)).trans (T:=[fg]) (Fr.set (by simp)) (by simp; omega)
   have K:Kp O _:=F.kp fun j hj xs e=> by
    simp at hj
    rcases hj with rfl | rfl
    .rw[g1] at e; cases e
    .rw[g2] at e; cases e
   refine⟨_,is,[nu,fg],zpM hr g1 NT,⟨⟨st,nu,wh,tb,wd,sp,F.get hr (by simp; exact⟨nrn,nrf⟩),⟨fg,rfl,?_,za7 (by simp; exact l2),?_,hw,ht⟩⟩,F.get h.hl (by simp; exact⟨nln,nlf⟩),?_,h.h0,h.h1,trivial,h.dp,h.nX⟩,?_,F.mono (T:=rd::lv::T::(is ++ [nu,fg])) ?_,fun j hj=> .inl hj⟩
   .rw[zaR nnf.symm,za7 l1]
   .show (s.reader.buf ++ [c]).length<=64
    simp; omega
   .refine hlv.keep F K fun i hi=> ?_
    obtain⟨ws,e⟩:=hlv.ins i hi
    have a1:=zaU e g1 (by simp)
    have a2:=zaU e g2 (by simp)
    simp[a1,a2]
   .show _=some (FO.lst (tl ++ []))
    rw[List.append_nil]; exact F.get E.hT (by simp; exact⟨nTn,nTf⟩)
   .intro j hj; simp at hj; rcases hj with z | z <;> simp[z]
 | none=>
  rw[hn] at NT
  have NT:zaH [.ref nu,.int c] O=some (.bl false,O):=NT
  dsimp only
  cases hne:numEnds z with
  | false=>
   rw[if_neg (by simp)]
   rw[hne] at ME
   exact⟨O,zjh hr g1 NT ME MF (zgM c) rfl,h.w,E.hT,Fr.refl⟩
  | true=>
   rw[if_pos rfl]
   rw[hne] at ME
   cases hyes:(isBlank c || mfB s.reader.frames c) with
   | false=>
    rw[zom (r:=ended s.reader) hyes]
    exact⟨O,zjh hr g1 NT ME MF (zgM c) (by rw[Bool.true_and]; exact hyes),h.w,E.hT,Fr.refl⟩
   | true=>
    obtain⟨x,hx⟩:=zp7 (r:=ended s.reader) hyes
    obtain⟨O1,E1,h1,k1,F1⟩:=zno h hm E hr g1 g2 hw ht
    obtain⟨st',nu',wh',tb',wd',sp',hr1,_⟩:=h1.ex
    have hr1:O1[rd]? =some (zae q lv st' nu' 5 wh' tb' wd' sp'):=hr1
    have S1:SOk O a U [rd,T]:=fun j hj=> by
     simp at hj
     rcases hj with rfl | rfl
     .exact .inl ⟨4,_,by decide,hr⟩
     .exact .inr ⟨⟨_,E.hT⟩,E.tU⟩
    have Emid:Env O1 q d a n lv T U [] {s with reader:=ended s.reader} (tl ++ evF (if tells s=true then [.number s.which s.reader.buf] else [])):=by
     refine⟨E.hQ.fr F1 S1,k1,E.nT,by simp,E.lU,E.tU,by simp,?_⟩
     show (tl ++ evF _).length + ([]:List Nat).length + 64<=LIM
     rw[List.length_append]
     cases tells s with
     | false=> simp[evF]; omega
     | true=> rw[if_pos rfl,zka]; simp[zcx]; omega
    have A:=zpY (c:=c) h1 rfl Emid
    have EB:zaA [.ref rd,.int c,.ref T] O=if isBlank c=true then some (.bl true,O1) else zao [.ref rd,.int c,.ref T] O1:=by
     rw[zpL hr g1 NT ME MF (zgM c) hyes E1 ⟨_,hr1⟩,zkF hr1 (by decide) (by decide) (by decide) (by decide),zng hr1]
    rw[EB]
    change zkT O1 rd q lv T is [] _ _ (afterTake (ended s.reader) c) _ at A
    rw[hx] at A |-
    obtain⟨r',sr⟩:=x
    obtain⟨O',is',X',m1,m2,m3,m4,m5⟩:=A
    refine⟨O',is',X',m1,m2,?_,?_,fun j hj=> ?_⟩
    .rw[m3]
     show some (FO.lst ((tl ++ evF (if tells s=true then [.number s.which s.reader.buf] else [])) ++ evF (fin {s with reader:=ended s.reader} r' sr).2))=some (FO.lst (tl ++ evF ((if tells s=true then [.number s.which s.reader.buf] else []) ++ (fin {s with reader:=ended s.reader} r' sr).2)))
     rw[zh8,List.append_assoc]
    .refine (F1.mono ?_).trans m4 ?_
     .intro j hj; simp at hj; rcases hj with z | z <;> simp[z]
     .intro j _ hj; simp at hj |-; rcases hj with z | z | z | z <;> simp[z]
    .rcases m5 j hj with z | z
     .cases z
     .right; have:=F1.1; omega
theorem zwB(h:RdAt O rd q lv is X s)(E:Env O q d a n lv T U X s tl)(hl80:tl.length + s.reader.buf.length + 80<=LIM):zkT O rd q lv T is X tl s (take s.reader c) (zav [.ref rd,.int c,.ref T] O):=by
 cases hm:s.reader.mode with
 | value cl=> exact zsF h hm E
 | after=> exact zsH h hm E
 | name cl=> exact zuR h hm E
 | colon=> exact zsG h hm E
 | str key z=> exact zxw h hm E
 | num z=> exact zxx h hm E hl80
 | lit k m=> exact zxy h hm E
end
section
variable {O:FH}{q d a n:Nat}{U X:List Nat}{rd lv st nu T:Nat}{aw wh wd sp:Int}{tb:Bool}{is:List Nat}{tl:List FV}{s:State}{c:Nat}{l l':List (Option Quest)}{tel out:Option Nat}
theorem zp6{t pl:Nat}{w:List Place}{k:Int}{v:FV}{K:NK}(h:QAt O q d a n U l)(hp:zeD l w pl)(ht:O[t]? =some (.tup [.int k,v]))(hk:k=0\/k=1)(hK:keyOf O (.ref t)=some K):
  ∃pl':Nat,zaJ [.ref q,.int pl,.ref t] O=some (.int pl',O):=by
 obtain⟨⟨un,L,nv,kvs,H,hh,hL,-⟩,-⟩:=h
 have hlt:=zk3 hh.qok hp
 obtain⟨fa,e1⟩:∃fa:Nat,atF [FV.int L.a0,FV.int L.a1] k=some (.int fa):=by
  rcases hk with rfl | rfl
  .exact⟨L.a0,rfl⟩
  .exact⟨L.a1,rfl⟩
 have e3:=zgr fa (L.only K)
 have e4:=zhI pl (fa ||| L.only K)
 have hlt2:pl &&& (fa ||| L.only K) < 2 ^ 200:=Nat.lt_of_le_of_lt Nat.and_le_left (Nat.lt_trans hlt (Nat.pow_lt_pow_right (by omega) (by omega)))
 have e5:=zhH hlt2 (show 16<=200 by omega)
 have e6:=zhI pl L.wide
 have e7:=zgr ((pl &&& (fa ||| L.only K)) <<< 16) (pl &&& L.wide)
 refine⟨((pl &&& (fa ||| L.only K)) <<< 16) |||(pl &&& L.wide),?_⟩
 rw[znk H.hq H.ha H.hn ht hK e1 (H.ho _) e3 e4 e5 e6 ⟨_,e7⟩,e7]
 rfl
theorem zq4{i nm:Nat}{bg:Int}{v1 v2:FV}{f:Frame}(hi:O[i]? =some (.ins 2 [.int (if f.arr=true then 1 else 0),v1,v2,.ref nm,.int bg]))(hn:O[nm]? =some (.tup (fI f.name))):
  ∃k v K,zbk [.ref i] O=some (.ref O.length,O ++ [.tup [.int k,v]])/\(k=0\/k=1)/\keyOf (O ++ [.tup [.int k,v]]) (.ref O.length)=some K:=by
 cases ha:f.arr with
 | true=>
  rw[ha] at hi
  refine⟨1,.int (bg - 1),(1,.inl (bg - 1)),znh hi,.inr rfl,?_⟩
  unfold keyOf tupAt
  dsimp only
  rw[zaO rfl]
  rfl
 | false=>
  rw[ha] at hi
  have ln:=zaq hn
  refine⟨0,.ref nm,(0,.inr (f.name.map fun (n:Nat)=> (n:Int))),zni hi,.inl rfl,?_⟩
  unfold keyOf tupAt
  dsimp only
  rw[zaO rfl]
  simp only[zbN,if_true]
  rw[za8 ln,hn]
  simp only[zbN]
  rw[zkx]
  rfl
def reB:MS:=(sSeq (zco 2 1 (eV 2) (eV 1)) (sSet 1 (eMeth 0 zaJ (eFld 4 0 (eV 0)) (aCons (eV 1) (aCons (eMeth 2 zbk (eV 2) aNil) aNil)))))
theorem zlh{k:Nat}{b:MS}{v:FV}{all:List FV}:∀(xs ys:List FV) (σ σ':FS) (O O':FH),loopL k b v all xs σ O=some (.nx σ',O')->loopL k b v all (xs ++ ys) σ O=loopL k b v all ys σ' O'
 | [],ys,σ,σ',O,O',h=> by
  rw[loopL] at h
  split at h
  .injection h with h; injection h with h1 h2; injection h1 with h1; subst h1 h2; rfl
  .cases h
 | x::xs,ys,σ,σ',O,O',h=> by
  rw[List.cons_append,loopL]
  rw[loopL] at h
  split at h
  .rename_i hl
   rw[if_pos hl]
   cases hb:b (σ.set k (some x)) O with
   | none=> rw[hb] at h; cases h
   | some r=>
    obtain⟨o,O1⟩:=r
    rw[hb] at h
    rw[zbN] at h |-
    cases o with
    | nx σ1=> exact zlh xs ys σ1 σ' O1 O' h
    | rt v=> cases h
  .cases h
theorem zwc{i t':Nat}{k t nm bg p0:FV}{pl pl':FV}{vq:List FV}{O2:FH}(hr:O[rd]? =some (zae q lv st nu aw wh tb wd sp))(hO:O[i]? =some (.ins 2 [k,p0,t,nm,bg]))(hq:O[q]? =some (.ins 0 vq))(li:i < O.length)(nir:i≠rd)(niq:i≠q)
  (E2:zbk [.ref i] (O.set i (.ins 2 [k,pl,t,nm,bg]))=some (.ref t',O2)) (E3:zaJ [.ref q,pl,.ref t'] O2=some (pl',O2)):
  reB [some (.ref rd),some pl,some (.ref i)] O=some (.nx [some (.ref rd),some pl',some (.ref i)],O2):=by
 unfold zae at hr
 unfold reB
 walk_at "evh"
theorem zpe{all:List FV}:∀(fs:List Frame) (is:List Nat) (b:Bool) (O:FH) (pl0:Nat) (x2:Option FV),LvAt O l tel out fs is b->QAt O q d a n U l'->O[rd]? =some (zae q lv st nu aw wh tb wd sp)->O[lv]? =some (.lst all)->zeD l' [] pl0->
  ∃(O':FH) (x2':Option FV) (pl:Nat),loopL 2 reB (.ref lv) all (is.reverse.map FV.ref) [some (.ref rd),some (.int pl0),x2] O=some (.nx [some (.ref rd),some (.int pl),x2'],O')/\LvAt O' l' tel out fs is b/\(b=false->zeD l' (fs.reverse.map Frame.place) pl)/\Fr O O' is
 | [],[],b,O,pl0,x2,h,hQ,hr,hl,hp=> by
  refine⟨O,x2,pl0,?_,trivial,fun _=> hp,Fr.refl⟩
  rw[List.reverse_nil,List.map_nil,loopL,if_pos (by rw[zfr,hl])]
 | [],_::_,_,_,_,_,h,_,_,_,_=> h.elim
 | _::_,[],_,_,_,_,h,_,_,_,_=> h.elim
 | f::fs,i::is,b,O,pl0,x2,h,hQ,hr,hl,hp=> by
  obtain⟨⟨p0,nm,bg,g1,g2,g3,g4⟩,g5,g6⟩:=id h
  obtain⟨O1,x2',pl1,E1,hL1,hp1,F1⟩:=zpe fs is false O pl0 x2 g6 hQ hr hl hp
  have hp1:=hp1 rfl
  have S1:SOk O a U is:=fun j hj=> by obtain⟨vs,e⟩:=g6.ins j hj; exact .inl ⟨2,vs,by decide,e⟩
  have K1:=S1.kp F1
  have hQ1:=hQ.fr F1 S1
  have nri:rd∉i::is:=zcj h hr (by simp[zae])
  have nli:lv∉i::is:=zcj h hl (by simp)
  have hr1:=F1.get hr (fun z=> nri (by simp[z]))
  have hl1:=F1.get hl (fun z=> nli (by simp[z]))
  have g1':=F1.get g1 g5
  have g2':=K1 _ _ g2
  have li:=zaq g1'
  obtain⟨_,_,_,hq1,_⟩:=hQ1.root
  have nir:i≠rd:=fun z=> nri (by simp[z])
  have niq:=zaU g1' hq1 (by simp)
  have nin:=zaU g1' g2' (by simp)
  have m1:(O1.set i (.ins 2 [.int (if f.arr=true then 1 else 0),.int pl1,.int (zck tel out (fs.length + 1)),.ref nm,.int bg]))[i]? =some (.ins 2 [.int (if f.arr=true then 1 else 0),.int pl1,.int (zck tel out (fs.length + 1)),.ref nm,.int bg]):=za7 li
  have m2:(O1.set i (.ins 2 [.int (if f.arr=true then 1 else 0),.int pl1,.int (zck tel out (fs.length + 1)),.ref nm,.int bg]))[nm]? =some (.tup (fI f.name)):=by rw[zaR nin]; exact g2'
  have S2:SOk O1 a U [i]:=fun j hj=> by simp at hj; subst hj; exact .inl ⟨2,_,by decide,g1'⟩
  have main:∃(o:FO) (pl:Nat),zbk [.ref i] (O1.set i (.ins 2 [.int (if f.arr=true then 1 else 0),.int pl1,.int (zck tel out (fs.length + 1)),.ref nm,.int bg]))=some (.ref O1.length,O1.set i (.ins 2 [.int (if f.arr=true then 1 else 0),.int pl1,.int (zck tel out (fs.length + 1)),.ref nm,.int bg]) ++ [o])/\zaJ [.ref q,.int pl1,.ref O1.length] (O1.set i (.ins 2 [.int (if f.arr=true then 1 else 0),.int pl1,.int (zck tel out (fs.length + 1)),.ref nm,.int bg]) ++ [o])=some (.int pl,O1.set i (.ins 2 [.int (if f.arr=true then 1 else 0),.int pl1,.int (zck tel out (fs.length + 1)),.ref nm,.int bg]) ++ [o])/\(b=false->zeD l' ((f::fs).reverse.map Frame.place) pl):=by
   have hFn:∀o:FO,Fr O1 (O1.set i (.ins 2 [.int (if f.arr=true then 1 else 0),.int pl1,.int (zck tel out (fs.length + 1)),.ref nm,.int bg]) ++ [o]) [i]:=fun o=> (Fr.set (by simp)).trans (T:=[i]) Fr.new fun _ _ h=> h
   cases b with
   | false=>
    obtain⟨o,E2,hLk⟩:=zsn m1 m2 (fun z=> by rw[g4 z]; rfl)
    rw[ze8] at E2 hLk
    obtain⟨pl,E3,hp3⟩:=zpX (hQ1.fr (hFn o) S2) hp1 hLk
    exact⟨o,pl,E2,E3,fun _=> by rw[List.reverse_cons,List.map_append]; exact hp3⟩
   | true=>
    obtain⟨k,v,K,E2,hk,hK⟩:=zq4 m1 m2
    rw[ze8] at E2 hK
    obtain⟨pl,E3⟩:=zp6 (t:=O1.length) (hQ1.fr (hFn _) S2) hp1 (by rw[zaO (by simp)]) hk hK
    exact⟨_,pl,E2,E3,fun z=> by cases z⟩
  obtain⟨o,pl,E2,E3,hpl⟩:=main
  have F2:Fr O1 (O1.set i (.ins 2 [.int (if f.arr=true then 1 else 0),.int pl1,.int (zck tel out (fs.length + 1)),.ref nm,.int bg]) ++ [o]) [i]:=(Fr.set (by simp)).trans (T:=[i]) Fr.new fun _ _ h=> h
  refine⟨_,some (.ref i),pl,?_,⟨⟨pl1,nm,bg,?_,?_,hp1,g4⟩,g5,?_⟩,hpl,(F1.mono (by intro j hj; simp[hj])).trans F2 (by intro j _ hj; simp at hj; simp[hj])⟩
  .rw[List.reverse_cons,List.map_append,zlh _ _ _ _ _ _ E1]
   show loopL 2 reB (.ref lv) all [.ref i] _ O1=_
   rw[loopL,if_pos (by rw[zfr,hl1])]
   show ((reB [some (.ref rd),some (.int pl1),some (.ref i)] O1).bind _)=_
   rw[zwc hr1 g1' hq1 li nir niq E2 E3,zbN]
   dsimp only
   have hl2:=F2.get hl1 (by simp; exact fun z=> nli (by simp[z]))
   rw[loopL,if_pos (by rw[zfr,hl2])]
  .rw[za8 (by simp; exact li)]; exact m1
  .rw[za8 (by simp; exact zaq g2')]; exact m2
  .exact hL1.keep F2 (S2.kp F2) fun j hj=> by simp; rintro rfl; exact g5 hj
theorem znY{σ':FS}{O':FH}{xs:List FV}{v0 v1 v2 v3 v4 v5:FV}(hr:O[rd]? =some (zae q lv st nu aw wh tb wd sp))(hq:O[q]? =some (.ins 0 [v0,v1,v2,v3,v4,v5]))(hl:O[lv]? =some (.lst xs))(E:loopL 2 reB (.ref lv) xs xs [some (.ref rd),some v1,none] O=some (.nx σ',O')):zbf [.ref rd] O=some (.non,O'):=by
 unfold reB at E
 unfold zae at hr
 unfold zbf zc7
 walk_at "evh"
theorem zlu{fs:List Frame}{b:Bool}(h:LvAt O l tel out fs is b)(hQ:QAt O q d a n U l')(hr:O[rd]? =some (zae q lv st nu aw wh tb wd sp))(hl:O[lv]? =some (.lst (is.reverse.map FV.ref))):
  ∃O',zbf [.ref rd] O=some (.non,O')/\LvAt O' l' tel out fs is b/\Fr O O' is:=by
 obtain⟨pl0,v2,v3,hq,hp⟩:=hQ.root
 obtain⟨O',x2',pl,E,hL,_,F⟩:=zpe fs is b O pl0 none h hQ hr hl hp
 exact⟨O',znY hr hq hl E,hL,F⟩
end
def szS:Sure->Nat
 | .begins=> 0
 | .opens _=> 3
 | .closes _=> 2
 | .key b=> 2 + b.length
 | .text b=> 3 + b.length
 | .number b=> 3 + b.length
 | .plain _=> 3
def szL(l:List Sure):Nat:=(l.map szS).sum
theorem zvR(s:State)(w:List Place)(D:Nat)(x:Sure):(evF (tellOne s w D x).2).length<=szS x:=by
 have hi:∀b:List Nat,(SqNeutral.ints b).length=b.length:=fun b=> by unfold SqNeutral.ints; simp
 cases x <;> simp only[tellOne,szS] <;> (try split) <;> simp[evF,SqNeutral.evNums,hi] <;> omega
theorem zkf(w:List Place)(D:Nat):∀(l:List Sure) (s:State),(evF (tellAll w D s l).2).length<=szL l
 | [],s=> by simp[tellAll,evF,szL]
 | x::l,s=> by
  show (evF ((tellOne s w D x).2 ++ (tellAll w D (tellOne s w D x).1 l).2)).length<=_
  rw[zh8,List.length_append]
  have h1:=zvR s w D x
  have h2:=zkf w D l (tellOne s w D x).1
  have e:szL (x::l)=szS x + szL l:=by unfold szL; simp
  omega
theorem zxs{α:Type}{c:Prop}[Decidable c]{x y:Option α}{p:α}(h:(if c then x else y)=some p):x=some p\/y=some p:=by
 split at h
 .exact .inl h
 .exact .inr h
theorem zsK{z z':Sub}{c:Nat}{bs:List Nat}(h:subTake z c=some (z',bs)):bs.length<=4:=by
 have hx:∀n v hi d z' bs,hexMore n v hi d=some (z',bs)->bs.length<=4:=by
  intro n v hi d z' bs h
  unfold hexMore at h
  dsimp only at h
  cases hi with
  | none=>
   dsimp only at h
   repeat' split at h
   all_goals (try cases h)
   all_goals first | exact zix _ | simp
  | some x=>
   dsimp only at h
   repeat' split at h
   all_goals (try cases h)
   all_goals first | exact zix _ | simp
 cases z with
 | plain=>
  unfold subTake at h
  dsimp only at h
  repeat' split at h
  all_goals (try cases h)
  all_goals simp
 | esc=>
  unfold subTake at h
  dsimp only at h
  split at h
  .cases h; simp
  .cases hs:shortOf c with
   | none=> rw[hs] at h; cases h
   | some x=> rw[hs] at h; cases h; simp
 | hex n v hi=>
  unfold subTake at h
  dsimp only at h
  cases hs:hexVal c with
  | none=> rw[hs] at h; cases h
  | some x=> rw[hs] at h; exact hx _ _ _ _ _ _ h
 | slash x=>
  unfold subTake at h
  dsimp only at h
  split at h
  .cases h; simp
  .cases h
 | letter x=>
  unfold subTake at h
  dsimp only at h
  split at h
  .cases h; simp
  .cases h
 | more a b d=>
  unfold subTake at h
  dsimp only at h
  split at h
  .cases h; simp
  .cases h
theorem znu{r r':Reader}{c:Nat}{sr:List Sure}(h:afterTake r c=some (r',sr)):szL sr + r'.buf.length<=r.buf.length + 2:=by
 unfold afterTake closed at h
 split at h
 .cases h; simp[szL]
 .split at h
  .cases h
  .repeat' split at h
   all_goals (try cases h)
   all_goals simp[szL,szS]
def Bd(b:Nat)(o:Option (Reader×List Sure)):Prop:=∀x,o=some x->szL x.2 + x.1.buf.length<=b
theorem zwK{b:Nat}{c:Prop}[Decidable c]{x y:Option (Reader×List Sure)}(h1:Bd b x)(h2:Bd b y):Bd b (if c then x else y):=by split <;> assumption
theorem zui{b:Nat}:Bd b none:=fun _ h=> by cases h
theorem zuh{b:Nat}{r:Reader}{sr:List Sure}(h:szL sr + r.buf.length<=b):Bd b (some (r,sr)):=fun _ e=> by cases e; exact h
theorem zql{r:Reader}{cl:Bool}{c:Nat}:Bd (r.buf.length + 12) (valueTake r cl c):=by
 unfold valueTake opened closed
 repeat' first | apply zwK | exact zui |(apply zuh; simp[szL,szS])
theorem zlQ{r r':Reader}{c:Nat}{sr:List Sure}(h:take r c=some (r',sr)):szL sr + r'.buf.length<=r.buf.length + 12:=by
 unfold take at h
 cases hm:r.mode with
 | value cl=>
  rw[hm] at h
  dsimp only at h
  exact zql _ h
 | after=>
  rw[hm] at h
  have:=znu h
  omega
 | name cl=>
  rw[hm] at h
  dsimp only at h
  unfold closed at h
  repeat' split at h
  all_goals (try cases h)
  all_goals simp[szL,szS]
 | colon=>
  rw[hm] at h
  dsimp only at h
  repeat' split at h
  all_goals (try cases h)
  all_goals simp[szL,szS]
 | str key z=>
  rw[hm] at h
  dsimp only at h
  split at h
  .injection h with h
   unfold strEnd ended at h
   split at h
   .cases h; simp[szL,szS]; omega
   .cases h; simp[szL,szS]; omega
  .cases hs:subTake z c with
   | none=> rw[hs] at h; cases h
   | some x=>
    obtain⟨z',bs⟩:=x
    rw[hs] at h
    have:=zsK hs
    cases h
    simp[szL,szS]; omega
 | num z=>
  rw[hm] at h
  dsimp only at h
  split at h
  .split at h
   .cases h
   .cases h; simp[szL,szS]
  .split at h
   .cases hs:afterTake (ended r) c with
    | none=> rw[hs] at h; cases h
    | some x=>
     obtain⟨r1,sr1⟩:=x
     rw[hs] at h
     have h1:=znu hs
     have e:(ended r).buf.length=0:=rfl
     cases h
     have e2:szL (.number r.buf::sr1)=3 + r.buf.length + szL sr1:=by unfold szL; simp[szS]
     dsimp only
     omega
   .cases h
 | lit k m=>
  rw[hm] at h
  dsimp only at h
  unfold ended at h
  repeat' split at h
  all_goals (try cases h)
  all_goals simp[szL,szS]
section
variable {O:FH}{q d a n:Nat}{U X:List Nat}{rd lv st nu T:Nat}{aw wh wd sp:Int}{tb:Bool}{is:List Nat}{tl:List FV}{s:State}{c:Nat}
theorem znZ{A1 B1:FH}(hr:O[rd]? =some (.ins 4 []))(lr:rd < O.length)(g1:rd < O.length + 1)
  {A:FH} (hA:(O.set rd (.ins 4 [.ref q]) ++ [FO.lst []]).set rd (.ins 4 [.ref q,.ref O.length,.int 0,.int 0,.bl false])=A) (hAr:A[rd]? =some (.ins 4 [.ref q,.ref O.length,.int 0,.int 0,.bl false])) (E1:zat [.ref A.length] (A ++ [.ins 3 []])=some (.non,A1)) (hr1:A1[rd]? =some (.ins 4 [.ref q,.ref O.length,.int 0,.int 0,.bl false]))
  {B:FH} (hB:A1.set rd (.ins 4 [.ref q,.ref O.length,.int 0,.int 0,.bl false,.ref A.length])=B) (E2:zaD [.ref B.length] (B ++ [.ins 1 []])=some (.non,B1)) (hr2:B1[rd]? =some (.ins 4 [.ref q,.ref O.length,.int 0,.int 0,.bl false,.ref A.length])) (lr2:rd < B1.length):
  za3 [.ref rd,.ref q] O=some (.non,B1.set rd (zae q O.length A.length B.length 0 0 false 0 0)):=by
 unfold zae
 unfold za3 zcW
 walk_at "evh"
theorem zpU(hr:O[rd]? =some (.ins 4 [])):∃(O':FH) (st nu:Nat),za3 [.ref rd,.ref q] O=some (.non,O')/\O'[rd]? =some (zae q O.length st nu 0 0 false 0 0)/\O'[O.length]? =some (.lst [])/\Fr O O' [rd]:=by
 have lr:=zaq hr
 generalize hA:(O.set rd (.ins 4 [.ref q]) ++ [FO.lst []]).set rd (.ins 4 [.ref q,.ref O.length,.int 0,.int 0,.bl false])=A
 have lA:A.length=O.length + 1:=by rw[<- hA]; simp
 have FA:Fr O A [rd]:=by rw[<- hA]; exact ((Fr.set (by simp)).trans (T:=[]) Fr.new (by simp)).trans (T:=[rd]) (Fr.set (by simp)) (by simp)
 have hAr:A[rd]? =some (.ins 4 [.ref q,.ref O.length,.int 0,.int 0,.bl false]):=by rw[<- hA,za7 (by simp; omega)]
 have hAl:A[O.length]? =some (.lst []):=by rw[<- hA,zaR (by omega),zaO (by simp)]
 obtain⟨A1,E1,_,_,F1⟩:=zkh (O:=A)
 have hr1:=F1.get hAr (by simp)
 generalize hB:A1.set rd (.ins 4 [.ref q,.ref O.length,.int 0,.int 0,.bl false,.ref A.length])=B
 have lr1:=zaq hr1
 have FB:Fr A1 B [rd]:=by rw[<- hB]; exact Fr.set (by simp)
 have hBr:B[rd]? =some (.ins 4 [.ref q,.ref O.length,.int 0,.int 0,.bl false,.ref A.length]):=by rw[<- hB,za7 lr1]
 obtain⟨B1,E2,_,_,F2⟩:=zm1 (O:=B)
 have hr2:=F2.get hBr (by simp)
 have lr2:=zaq hr2
 have hl:B1[O.length]? =some (.lst []):=F2.get (FB.get (F1.get hAl (by simp)) (by simp; omega)) (by simp)
 refine⟨_,A.length,B.length,znZ hr lr (by omega) hA hAr E1 hr1 hB E2 hr2 lr2,za7 lr2,?_,?_⟩
 .rw[zaR (by omega)]; exact hl
 .exact (((FA.trans (T:=[]) F1 (by simp)).trans FB fun _ _ h=> h).trans (T:=[]) F2 (by simp)).trans (T:=[rd]) (Fr.set (by simp)) fun _ _ h=> h
theorem zml{xs:List FV}(hr:O[rd]? =some (zae q lv st nu aw wh tb wd sp))(hl:O[lv]? =some (.lst xs))(hx:(0:Int) < xs.length):zaG [.ref rd,.ref T] O=some (.bl false,O):=by
 unfold zae at *
 unfold zaG zbF
 walk_at "evh"
theorem zdY(hr:O[rd]? =some (zae q lv st nu aw wh tb wd sp))(hl:O[lv]? =some (.lst []))(h8:¬aw=8):zaG [.ref rd,.ref T] O=some (.bl (decide (aw=5)),O):=by
 unfold zae at *
 unfold zaG zbF
 walk_at "evh"
 simp
theorem zmn{vs:List FV}(hr:O[rd]? =some (zae q lv st nu 8 wh tb wd sp))(hl:O[lv]? =some (.lst []))(hn:O[nu]? =some (.ins 1 vs))(E:zaE [.ref nu] O=some (.bl false,O)):zaG [.ref rd,.ref T] O=some (.bl false,O):=by
 unfold zae at *
 unfold zaG zbF
 walk_at "evh"
 simp
theorem zmm{vs:List FV}{O1:FH}{st' nu':Nat}{wh' wd' sp':Int}{tb':Bool}(hr:O[rd]? =some (zae q lv st nu 8 wh tb wd sp))(hl:O[lv]? =some (.lst []))(hn:O[nu]? =some (.ins 1 vs))(E:zaE [.ref nu] O=some (.bl true,O))(E2:zaY [.ref rd,.ref T] O=some (.non,O1))(hr1:O1[rd]? =some (zae q lv st' nu' 5 wh' tb' wd' sp')):zaG [.ref rd,.ref T] O=some (.bl true,O1):=by
 unfold zae at *
 unfold zaG zbF
 walk_at "evh"
 simp
theorem zn7(h:RdAt O rd q lv is X s)(E:Env O q d a n lv T U X s tl):
  match finish s.reader with
  | none=> zaG [.ref rd,.ref T] O=some (.bl false,O)
  | some sr=>∃O',zaG [.ref rd,.ref T] O=some (.bl true,O')/\RdW O' rd q lv is s/\O'[T]? =some (.lst (tl ++ evF (tellAll [] 0 s sr).2))/\(tellAll [] 0 s sr).1=s/\Fr O O' [rd,T]:=by
 obtain⟨st,nu,wh,tb,wd,sp,hr,hs⟩:=h.ex
 have hlv:=h.lvs
 have hlen:=hlv.len
 unfold finish
 cases hf:s.reader.frames with
 | cons f fs=>
  rw[if_pos (by simp)]
  rw[hf] at hlen
  exact zml hr h.hl (by simp at hlen |-; omega)
 | nil=>
  rw[if_neg (by simp)]
  rw[hf] at hlen
  match is,hlen,h with
  | [],_,h=>
  have hl:=h.hl
  cases hm:s.reader.mode with
  | after=>
   rw[hm] at hr
   refine⟨O,zdY hr hl (by decide),h.w,?_,rfl,Fr.refl⟩
   rw[show (tellAll [] 0 s []).2=[] from rfl,zgt,List.append_nil]; exact E.hT
  | num z=>
   rw[hm] at hr hs
   obtain⟨fg,rfl,g1,g2,g64,hw,ht⟩:=hs
   have ME:=zlw g1
   rw[zlN] at ME
   dsimp only
   cases hne:numEnds z with
   | false=>
    rw[hne] at ME
    exact zmn hr hl g1 ME
   | true=>
    rw[hne] at ME
    obtain⟨O1,E1,h1,k1,F1⟩:=zno h hm E hr g1 g2 hw ht
    obtain⟨st',nu',wh',tb',wd',sp',hr1,_⟩:=h1.ex
    refine⟨O1,zmm hr hl g1 ME E1 hr1,?_,?_,rfl,F1⟩
    .obtain⟨⟨a1,a2,a3,a4,a5,a6,a7,a8,b1,b2,b3⟩⟩:=h1.w
     exact⟨⟨a1,a2,a3,a4,a5,a6,a7,a8,b1,b2,b3⟩⟩
    .rw[k1]
     show _=some (FO.lst (tl ++ evF ((if tells s=true then [.number s.which s.reader.buf] else []) ++ [])))
     rw[List.append_nil]
  | value cl=> rw[hm] at hr; rw[zdY hr hl (by cases cl <;> decide)]; cases cl <;> rfl
  | name cl=> rw[hm] at hr; rw[zdY hr hl (by cases cl <;> decide)]; cases cl <;> rfl
  | colon=> rw[hm] at hr; rw[zdY hr hl (by decide)]; rfl
  | str key z=> rw[hm] at hr; rw[zdY hr hl (by cases key <;> simp[awN])]; cases key <;> rfl
  | lit k m=> rw[hm] at hr; rw[zdY hr hl (by simp[awN])]; rfl
end
def zgT(s:State):Bool:=match s.phase with
 | .open_=> false
 | _=> true
structure StB (O:FH) (sf:Nat) (Z:List Nat) (s:State) (q rd lv d a n:Nat) (U is X:List Nat):Prop where
 x1:O[sf]? =some (.ins 5 [.ref q,.ref rd,.int s.taken,.bl (zgT s)])
 x2:QAt O q d a n U s.quests
 x3:RdW O rd q lv is s
 x4:s.phase= .open_->RdAt O rd q lv is X s
 x5:lv≠a/\lv∉U/\lv∉Z
 x6:∀j∈X,j≠a/\j∉U/\j < O.length/\j∉Z
 x7:∀z∈Z,z≠a/\z∉U
structure StAt (O:FH) (sf:Nat) (Z:List Nat) (s:State):Prop where
 ex:∃(q rd lv d a n:Nat) (U is X:List Nat),StB O sf Z s q rd lv d a n U is X
 bf:s.reader.buf.length<=12 * s.taken
 tk:s.taken<=65536
def ZOk(O:FH)(Z:List Nat):Prop:=∀z∈Z,∃xs,O[z]? =some (.lst xs)\/O[z]? =some (.fz xs)
section
variable {O:FH}{q d a n sf:Nat}{U X:List Nat}{rd lv st nu T:Nat}{aw wh wd sp:Int}{tb:Bool}{is:List Nat}{tl:List FV}{s:State}{c:Nat}
theorem znX{A A1 B B1:FH}{rd0:Nat}(hs:O[sf]? =some (.ins 5 []))(ls:sf < O.length)(E1:zaN [.ref O.length] (O ++ [.ins 0 []])=some (.non,A))(hA:A[sf]? =some (.ins 5 []))(hA1:A.set sf (.ins 5 [.ref O.length])=A1)(k1:A1[sf]? =some (.ins 5 [.ref O.length]))(E2:za3 [.ref A1.length,.ref O.length] (A1 ++ [.ins 4 []])=some (.non,B))(hB:B[sf]? =some (.ins 5 [.ref O.length]))(lB:sf < B.length):
  zbV [.ref sf] O=some (.non,B.set sf (.ins 5 [.ref O.length,.ref A1.length,.int 0,.bl false])):=by
 unfold zbV zcV
 walk_at "evh"
theorem zmg{A A1 B:FH}{v0 v1 v2 v3:FV}(hs:O[sf]? =some (.ins 5 [v0,v1,v2,v3]))(ls:sf < O.length)(E1:zaN [.ref O.length] (O ++ [.ins 0 []])=some (.non,A))(hA:A[sf]? =some (.ins 5 [v0,v1,v2,v3]))(hA1:A.set sf (.ins 5 [.ref O.length,v1,v2,v3])=A1)(k1:A1[sf]? =some (.ins 5 [.ref O.length,v1,v2,v3]))(E2:za3 [.ref A1.length,.ref O.length] (A1 ++ [.ins 4 []])=some (.non,B))(hB:B[sf]? =some (.ins 5 [.ref O.length,v1,v2,v3]))(lB:sf < B.length):
  zcg [.ref sf] O=some (.ref B.length,B.set sf (.ins 5 [.ref O.length,.ref A1.length,.int 0,.bl false]) ++ [.lst [.int 0]]):=by
 unfold zcg zdI
 walk_at "evh"
theorem made{vs ws:List FV}{Z:List Nat}(hs:O[sf]? =some (.ins 5 vs))(hZ:ZOk O Z):∃(A A1 B:FH),zaN [.ref O.length] (O ++ [.ins 0 []])=some (.non,A)/\A[sf]? =some (.ins 5 vs)/\A.set sf (.ins 5 ws)=A1/\A1[sf]? =some (.ins 5 ws)/\za3 [.ref A1.length,.ref O.length] (A1 ++ [.ins 4 []])=some (.non,B)/\B[sf]? =some (.ins 5 ws)/\sf < B.length/\O.length<=B.length/\
  ∀O',Fr (B.set sf (.ins 5 [.ref O.length,.ref A1.length,.int 0,.bl false])) O' []->StAt O' sf Z start/\Fr O O' [sf]:=by
 have ls:=zaq hs
 obtain⟨A,E1,hQ,FA⟩:=zrN (O:=O ++ [FO.ins 0 []]) (q:=O.length) (by rw[zaO rfl])
 have hA:A[sf]? =some (.ins 5 vs):=FA.get (by rw[za8 ls]; exact hs) (by simp; omega)
 have lA:=zaq hA
 have FOA:Fr O A []:=Fr.new.trans (T:=[O.length]) FA (by simp; omega)
 generalize hA1:A.set sf (.ins 5 ws)=A1
 have FA1:Fr A A1 [sf]:=by rw[<- hA1]; exact Fr.set (by simp)
 have k1:A1[sf]? =some (.ins 5 ws):=by rw[<- hA1,za7 lA]
 have lA1:A1.length=A.length:=by rw[<- hA1]; simp
 have SA:∀a U,SOk A a U [sf]:=fun a U j hj=> by simp at hj; subst hj; exact .inl ⟨5,_,by decide,hA⟩
 have hQ1:=hQ.fr FA1 (SA _ _)
 obtain⟨B,st,nu,E2,hr,hl,FB⟩:=zpU (O:=A1 ++ [FO.ins 4 []]) (rd:=A1.length) (q:=O.length) (by rw[zaO rfl])
 have lk1:=zaq k1
 have hB:B[sf]? =some (.ins 5 ws):=FB.get (by rw[za8 lk1]; exact k1) (by simp; omega)
 have lB:=zaq hB
 have FAB:Fr A1 B []:=Fr.new.trans (T:=[A1.length]) FB (by simp; omega)
 have hQB:=hQ1.fr FAB (fun j hj=> by cases hj)
 have SB:∀a U,SOk B a U [sf]:=fun a U j hj=> by simp at hj; subst hj; exact .inl ⟨5,_,by decide,hB⟩
 refine⟨A,A1,B,E1,hA,hA1,k1,E2,hB,lB,?_,fun O' F=> ?_⟩
 .have:=FOA.1; have:=FAB.1; omega
 .have FS:Fr B (B.set sf (.ins 5 [.ref O.length,.ref A1.length,.int 0,.bl false])) [sf]:=Fr.set (by simp)
  have hQS:=(hQB.fr FS (SB _ _)).fr F (fun j hj=> by cases hj)
  have hs':O'[sf]? =some (.ins 5 [.ref O.length,.ref A1.length,.int 0,.bl false]):=F.get (za7 lB) (by simp)
  have hr':O'[A1.length]? =some (zae O.length (A1 ++ [FO.ins 4 []]).length st nu 0 0 false 0 0):=F.get (FS.get hr (by simp; omega)) (by simp)
  have hl':O'[(A1 ++ [FO.ins 4 []]).length]? =some (.lst []):=F.get (FS.get hl (by simp; omega)) (by simp)
  have RA:RdAt O' A1.length O.length (A1 ++ [FO.ins 4 []]).length [] [] start:=⟨⟨st,nu,0,false,0,0,hr',rfl⟩,hl',trivial,fun t z=> (by cases z),fun t z=> (by cases z),trivial,(by simp[start,fresh]),(by simp)⟩
  have zl:∀z∈Z,z < O.length:=fun z hz=> by
   obtain⟨xs,e | e⟩:=hZ z hz <;> exact zaq e
  have lOA:O.length + 1<=A.length:=by have:=FA.1; simp at this; omega
  refine⟨⟨⟨O.length,A1.length,(A1 ++ [FO.ins 4 []]).length,_,_,_,[],[],[],hs',hQS,RA.w,fun _=> RA,?_,by simp,?_⟩,by simp[start,fresh],by simp[start]⟩,?_⟩
  .obtain⟨⟨_,_,_,_,H,_⟩,_⟩:=hQ1
   have:=zaq H.ha
   refine⟨?_,by simp,fun z=> ?_⟩
   .simp; simp at this; omega
   .have:=zl _ z; simp at this; omega
  .intro z hz
   have:=zl z hz
   exact⟨by simp; omega,by simp⟩
  .exact ((((FOA.mono (by simp)).trans FA1 fun _ _ h=> h).trans (T:=[]) FAB (by simp)).trans FS fun _ _ h=> h).trans (T:=[]) F (by simp)
theorem zwD{Z:List Nat}(hs:O[sf]? =some (.ins 5 []))(hZ:ZOk O Z):∃O',zbV [.ref sf] O=some (.non,O')/\StAt O' sf Z start/\Fr O O' [sf]:=by
 have ls:=zaq hs
 obtain⟨A,A1,B,E1,hA,hA1,k1,E2,hB,lB,_,hk⟩:=made (ws:=[.ref O.length]) hs hZ
 obtain⟨h1,h2⟩:=hk _ Fr.refl
 exact⟨_,znX (rd0:=0) (B1:=[]) hs ls E1 hA hA1 k1 E2 hB lB,h1,h2⟩
structure DdB (O:FH) (sf:Nat) (Z:List Nat) (r:State×Answer) (m:Option (FV×FH)) (O':FH) (k:Nat):Prop where
 x1:m=some (.ref k,O')
 x2:O'[k]? =some (.lst ((SqNeutral.told r.2).map FV.int))
 x3:O.length<=k
 x4:StAt O' sf Z r.1
 x5:∀z∈Z,O'[z]? =O[z]?
def Did(O:FH)(sf:Nat)(Z:List Nat)(r:State×Answer)(m:Option (FV×FH)):Prop:=∃(O':FH) (k:Nat),DdB O sf Z r m O' k
theorem zkU{O':FH}{S Z:List Nat}(F:Fr O O' S)(hZ:ZOk O Z)(h:∀z∈Z,z∉S):∀z∈Z,O'[z]? =O[z]?:=fun z hz=> by
 have:z < O.length:=by obtain⟨xs,e | e⟩:=hZ z hz <;> exact zaq e
 exact F.2 z this (h z hz)
theorem zuO{Z:List Nat}(hZ:ZOk O Z){j c:Nat}{vs:List FV}(e:O[j]? =some (.ins c vs)):j∉Z:=fun z=> by
 obtain⟨xs,e' | e'⟩:=hZ j z <;> rw[e] at e' <;> cases e'
theorem zuc{Z:List Nat}(h:StAt O sf Z s)(hZ:ZOk O Z):Did O sf Z (step s .begin_) (zcg [.ref sf] O):=by
 obtain⟨q,rd,lv,d,a,n,U,is,X,hs,_⟩:=h.ex
 have ls:=zaq hs
 obtain⟨A,A1,B,E1,hA,hA1,k1,E2,hB,lB,lOB,hk⟩:=made (ws:=[.ref O.length,.ref rd,.int s.taken,.bl (zgT s)]) hs hZ
 have E:=zmg hs ls E1 hA hA1 k1 E2 hB lB
 obtain⟨h1,h2⟩:=hk _ (Fr.new (x:= .lst [.int 0]))
 exact⟨_,B.length,E,by rw[zaO (by simp)]; rfl,lOB,h1,zkU h2 hZ fun z hz=> by simp; rintro rfl; exact zuO hZ hs hz⟩
theorem StAt.new{O':FH}{Z:List Nat}(h:StAt O sf Z s)(F:Fr O O' []):StAt O' sf Z s:=by
 obtain⟨⟨q,rd,lv,d,a,n,U,is,X,hs,hQ,hW,hR,h1,h2,h3⟩,h4,h5⟩:=h
 have K:Kp O O':=F.kp (by simp)
 refine⟨⟨q,rd,lv,d,a,n,U,is,X,F.get hs (by simp),hQ.fr F (fun j hj=> by cases hj),?_,fun z=> (hR z).same F K (by simp) (by simp) (by simp) (by simp),h1,fun j hj=> ?_,h3⟩,h4,h5⟩
 .obtain⟨⟨a1,a2,a3,a4,a5,a6,a7,a8,b1,b2,b3⟩⟩:=hW
  exact⟨⟨a1,a2,a3,a4,a5,a6,a7,a8,F.get b1 (by simp),F.get b2 (by simp),b3.keep F K (by simp)⟩⟩
 .obtain⟨k1,k2,k3,k4⟩:=h2 j hj
  exact⟨k1,k2,by have:=F.1; omega,k4⟩
theorem zru{v0 v1 v2 v3:FV}(hs:O[sf]? =some (.ins 5 [v0,v1,v2,v3])):zce [.ref sf] O=some (.ref O.length,O ++ [.lst [.int 0,v2]]):=by
 unfold zce zdG
 walk_at "evh"
theorem zgL{Z:List Nat}{xs:List Int}{r:State×Answer}{m:Option (FV×FH)}(h:StAt O sf Z s)(hZ:ZOk O Z)(hm:m=some (.ref O.length,O ++ [.lst (xs.map FV.int)]))(hr:r.1=s)(hx:SqNeutral.told r.2=xs):Did O sf Z r m:=by
 have F:Fr O (O ++ [FO.lst (xs.map FV.int)]) []:=Fr.new
 exact⟨_,O.length,hm,by rw[zaO rfl,hx],Nat.le_refl _,by rw[hr]; exact h.new F,zkU F hZ (by simp)⟩
theorem zt8{Z:List Nat}(h:StAt O sf Z s)(hZ:ZOk O Z):Did O sf Z (step s .place) (zce [.ref sf] O):=by
 obtain⟨q,rd,lv,d,a,n,U,is,X,hs,_⟩:=h.ex
 exact zgL (xs:=[0,(s.taken:Int)]) h hZ (zru hs) rfl rfl
theorem zrG{v0 v2 v3:FV}{xs:List FV}(hs:O[sf]? =some (.ins 5 [v0,.ref rd,v2,v3]))(hr:O[rd]? =some (zae q lv st nu aw wh tb wd sp))(hl:O[lv]? =some (.lst xs)):zcf [.ref sf] O=some (.ref O.length,O ++ [.lst [.int 0,.int xs.length]]):=by
 unfold zae at hr
 unfold zcf zdH
 walk_at "evh"
theorem zua{Z:List Nat}(h:StAt O sf Z s)(hZ:ZOk O Z):Did O sf Z (step s .depth) (zcf [.ref sf] O):=by
 obtain⟨q,rd,lv,d,a,n,U,is,X,hs,hQ,hW,_⟩:=h.ex
 obtain⟨⟨a1,a2,a3,a4,a5,a6,a7,a8,b1,b2,b3⟩⟩:=hW
 have E:=zrG hs b1 b2
 refine zgL (xs:=[0,(s.reader.frames.length:Int)]) h hZ ?_ rfl rfl
 rw[E,List.length_map,List.length_reverse,b3.len]
 rfl
theorem zrK{v1 v2 v3 w1 w2 w3 w4 w5:FV}{kvs:List (Int×FV)}{O1:FH}(hs:O[sf]? =some (.ins 5 [.ref q,v1,v2,v3]))(hq:O[q]? =some (.ins 0 [.ref d,w1,w2,w3,w4,w5]))(hd:O[d]? =some (.dK kvs))(ok:okKeys kvs=true)(l1:sf < O.length)(l2:q < O.length)(l3:d < O.length)(hl:(keys16 kvs).length + 1<=LIM)(e:1 + (keys16 kvs).length=(keys16 kvs).length + 1)
  (hO1:O ++ [FO.lst [.int 0]] ++ [FO.lst (keys16 kvs)]=O1) (k1:O1[O.length]? =some (.lst [.int 0])) (k2:O1[O.length + 1]? =some (.lst (keys16 kvs))):zch [.ref sf] O=some (.ref O1.length,O1 ++ [.lst (.int 0::keys16 kvs)]):=by
 unfold zch zdJ
 walk_at "evh"
theorem ztw{l:List (Option Quest)}{kvs:List (Int×FV)}(h:HeldAt O d U l kvs):keys16 kvs=((List.range 16).filter fun (k:Nat)=> (l.getD k none).isSome).map fun (k:Nat)=> FV.int (k:Int):=by
 unfold keys16
 congr 1
 apply List.filter_congr
 intro k hk
 exact zkB h (List.mem_range.mp hk)
theorem zud{Z:List Nat}(h:StAt O sf Z s)(hZ:ZOk O Z):Did O sf Z (step s .asked) (zch [.ref sf] O):=by
 obtain⟨q,rd,lv,d,a,n,U,is,X,hs,hQ,hW,_⟩:=h.ex
 obtain⟨⟨un,L,nv,kvs,H,hh,_,_⟩,_⟩:=hQ
 have hlen:(keys16 kvs).length<=16:=by
  unfold keys16
  rw[List.length_map]
  have:=List.length_filter_le (fun (n:Nat)=> (getD (n:Int) kvs).isSome) (List.range 16)
  simpa using this
 have E:=zrK hs H.hq hh.hd hh.ok (zaq hs) (zaq H.hq) (zaq hh.hd) (by unfold LIM; omega) (by omega) rfl (by rw[za8 (by simp),zaO rfl]) (by rw[zaO (by simp)])
 have F:Fr O (O ++ [FO.lst [.int 0]] ++ [FO.lst (keys16 kvs)] ++ [FO.lst (.int 0::keys16 kvs)]) []:=(Fr.new.trans (T:=[]) Fr.new (by simp)).trans (T:=[]) Fr.new (by simp)
 refine⟨_,_,E,?_,(by simp),h.new F,zkU F hZ (by simp)⟩
 rw[zaO rfl,ztw hh]
 show some (FO.lst (.int 0::_))=some (FO.lst (FV.int 0::(SqNeutral.ints ((List.range MOST).filter fun (q:Nat)=> (s.quests.getD q none).isSome)).map FV.int))
 rw[ziz]
 rfl
end
section
variable {O:FH}{q d a n sf p:Nat}{U X Z:List Nat}{rd lv st nu T:Nat}{aw wh wd sp:Int}{tb:Bool}{is:List Nat}{tl:List FV}{s:State}{c:Nat}{path:List Nat}
theorem zpR{O1:FH}(E:zbw [.ref p] O=some (.non,O1)):zfl [.ref p] O=some (.ref O1.length,O1 ++ [.lst [.int (-1)]]):=by
 unfold zfl zid
 walk_at "evh"
theorem zpQ{O1:FH}{L:Nat}{vs:List FV}(E:zbw [.ref p] O=some (.ref L,O1))(hL:O1[L]? =some (.lst vs)):zfl [.ref p] O=some (.ref O1.length,O1 ++ [.lst [.int 0,.int vs.length]]):=by
 unfold zfl zid
 walk_at "evh"
theorem zjm{O1:FH}{xs:List Int}{r:State×Answer}{m:Option (FV×FH)}(h:StAt O sf Z s)(hZ:ZOk O Z)(F1:Fr O O1 [])(hm:m=some (.ref O1.length,O1 ++ [.lst (xs.map FV.int)]))(hr:r.1=s)(hx:SqNeutral.told r.2=xs):Did O sf Z r m:=by
 have F:Fr O (O1 ++ [FO.lst (xs.map FV.int)]) []:=F1.trans (T:=[]) Fr.new (by simp)
 exact⟨_,O1.length,hm,by rw[zaO rfl,hx],F1.1,by rw[hr]; exact h.new F,zkU F hZ (by simp)⟩
theorem zub(h:StAt O sf Z s)(hZ:ZOk O Z)(hp:O[p]? =some (.lst (fI path)))(hl:path.length<=69000):Did O sf Z (step s (.check path)) (zfl [.ref p] O):=by
 have hS:=zkc hp hl
 cases hq:pathOf path with
 | none=>
  rw[hq] at hS
  obtain⟨O1,E,F⟩:=hS
  exact zjm (xs:=[-1]) h hZ F (zpR E) rfl (by show SqNeutral.told (match pathOf path with | none=> no 1 | some x=> .nums [x.length])=_; rw[hq]; rfl)
 | some x=>
  rw[hq] at hS
  obtain⟨O1,v,E,⟨L,vs,rfl,k1,k2⟩,_,F⟩:=hS
  refine zjm (xs:=[0,(x.length:Int)]) h hZ F ?_ rfl (by show SqNeutral.told (match pathOf path with | none=> no 1 | some x=> .nums [x.length])=_; rw[hq]; rfl)
  rw[zpQ E k1,k2.len]
  rfl
theorem zmP{O2:FH}{a' n':Nat}{U':List Nat}{l':List (Option Quest)}(hs:O[sf]? =some (.ins 5 [.ref q,.ref rd,.int s.taken,.bl (zgT s)]))(hQ:QAt O q d a n U s.quests)(hW:RdW O rd q lv is s)(hR:s.phase= .open_->RdAt O rd q lv is X s)(h1:lv≠a/\lv∉U/\lv∉Z)(h2:∀j∈X,j≠a/\j∉U/\j < O.length/\j∉Z)(h3:∀z∈Z,z≠a/\z∉U)(h4:s.reader.buf.length<=12 * s.taken)(h5:s.taken<=65536)(hZ:ZOk O Z)
  (F:Fr O O2 [q,d]) (hQ2:QAt O2 q d a' n' U' l') (ga:O.length<=a') (gU:∀u∈U',u∈U\/O.length<=u):
  ∃(O3:FH),(∃vs,O2[rd]? =some (.ins 4 vs))/\O2[sf]? =some (.ins 5 [.ref q,.ref rd,.int s.taken,.bl (zgT s)])/\zbf [.ref rd] O2=some (.non,O3)/\O.length<=O3.length/\∀O4,Fr O3 O4 []->StAt O4 sf Z {s with quests:=l'}/\∀z∈Z,O4[z]? =O[z]?:=by
 obtain⟨⟨st,nu,aw,wh,tb,wd,sp,b,b1,b2,b3⟩⟩:=id hW
 obtain⟨⟨un,L,nv,kvs,H,hh,_,_⟩,_⟩:=id hQ
 have nS:∀{j:Nat} {o:FO},O[j]? =some o->(∀vs,o≠ .ins 0 vs)->(∀k,o≠ .dK k)->j∉[q,d]:=fun {j o} e k1 k2 hj=> by
  simp at hj
  rcases hj with rfl | rfl
  .rw[H.hq] at e; injection e with e; exact k1 _ e.symm
  .rw[hh.hd] at e; injection e with e; exact k2 _ e.symm
 have K:Kp O O2:=F.kp fun j hj xs e=> by
  simp at hj
  rcases hj with rfl | rfl
  .rw[H.hq] at e; cases e
  .rw[hh.hd] at e; cases e
 have b1':=F.get b1 (nS b1 (by simp[zae]) (by simp[zae]))
 have b2':=F.get b2 (nS b2 (by simp) (by simp))
 have hs':=F.get hs (nS hs (by simp) (by simp))
 have nis:∀i∈is,i∉[q,d]:=fun i hi=> by
  obtain⟨vs,e⟩:=b3.ins i hi
  exact nS e (by simp) (by simp)
 have b3':=b3.keep F K nis
 obtain⟨O3,E3,hL3,F3⟩:=zlu b3' hQ2 b1' b2'
 have S3:SOk O2 a' U' is:=fun j hj=> by obtain⟨vs,e⟩:=b3'.ins j hj; exact .inl ⟨2,vs,by decide,e⟩
 have K3:=S3.kp F3
 have nri:rd∉is:=zcj b3' b1' (by simp[zae])
 have nli:lv∉is:=zcj b3' b2' (by simp)
 have nsi:sf∉is:=zcj b3' hs' (by simp)
 refine⟨O3,⟨_,b1'⟩,hs',E3,?_,fun O4 F4=> ?_⟩
 .have:=F.1; have:=F3.1; omega
 .have K4:Kp O3 O4:=F4.kp (by simp)
  have ll:=zaq b2
  have zl:∀z∈Z,z < O.length:=fun z hz=> by obtain⟨xs,e | e⟩:=hZ z hz <;> exact zaq e
  have gt:∀{j:Nat} {o:FO},O[j]? =some o->(∀vs,o≠ .ins 0 vs)->(∀k,o≠ .dK k)->j∉is->O4[j]? =some o:=fun e k1 k2 k3=> F4.get (F3.get (F.get e (nS e k1 k2)) k3) (by simp)
  have nU:∀{j:Nat},j < O.length->j∉U->j∉U':=fun hj hu z=> by
   rcases gU _ z with z | z
   .exact hu z
   .omega
  refine⟨⟨⟨q,rd,lv,d,a',n',U',is,X,F4.get (F3.get hs' nsi) (by simp),(hQ2.fr F3 S3).fr F4 (fun j hj=> by cases hj),⟨⟨st,nu,aw,wh,tb,wd,sp,b,F4.get (F3.get b1' nri) (by simp),F4.get (F3.get b2' nli) (by simp),hL3.keep F4 K4 (by simp)⟩⟩,fun ho=> ?_,⟨by omega,nU ll h1.2.1,h1.2.2⟩,fun j hj=> ?_,fun z hz=> ?_⟩,h4,h5⟩,fun z hz=> ?_⟩
  .have hA:=hR ho
   obtain⟨st,nu,wh,tb,wd,sp,r1,r2⟩:=hA.ex
   have r3:=hA.lvs
   have r3':=r3.keep F K nis
   have r1':=F.get r1 (nS r1 (by simp[zae]) (by simp[zae]))
   obtain⟨O3',E3',hL3',_⟩:=zlu r3' hQ2 r1' b2'
   rw[E3] at E3'
   injection E3' with E3'
   injection E3' with _ E3'
   subst E3'
   refine⟨⟨st,nu,wh,tb,wd,sp,F4.get (F3.get r1' nri) (by simp),?_⟩,F4.get (F3.get b2' nli) (by simp),hL3'.keep F4 K4 (by simp),hA.h0,hA.h1,hA.ok,hA.dp,hA.nX⟩
   change zr3 O4 st nu wh tb wd sp {s with quests:=l'} s.reader.mode X
   generalize s.reader.mode=m at r2
   match m,r2 with
   | .str key z,⟨ch,fs,e,k1,k2,k3,k4⟩=> exact⟨ch,fs,e,gt k1 (by simp) (by simp) (zcj b3 k1 (by simp)),gt k2 (by simp) (by simp) (zcj b3 k2 (by simp)),k3,k4⟩
   | .num z,⟨fg,e,k1,k2,k3,k4⟩=> exact⟨fg,e,gt k1 (by simp) (by simp) (zcj b3 k1 (by simp)),gt k2 (by simp) (by simp) (zcj b3 k2 (by simp)),k3,k4⟩
   | .lit k n,hs=> exact hs
   | .value _,hs=> exact hs
   | .name _,hs=> exact hs
   | .colon,hs=> exact hs
   | .after,hs=> exact hs
  .obtain⟨k1,k2,k3,k4⟩:=h2 j hj
   exact⟨by omega,nU k3 k2,by have:=F.1; have:=F3.1; have:=F4.1; omega,k4⟩
  .have:=zl z hz
   exact⟨by omega,nU this (h3 z hz).2⟩
  .obtain⟨xs,e | e⟩:=hZ z hz
   .rw[e]; exact gt e (by simp) (by simp) (zcj b3 e (by simp))
   .rw[e]; exact gt e (by simp) (by simp) (zcj b3 e (by simp))
end
section
variable {O:FH}{q d a n sf p:Nat}{U X Z:List Nat}{rd lv st nu T:Nat}{aw wh wd sp:Int}{tb:Bool}{is:List Nat}{tl:List FV}{s:State}{c:Nat}{path:List Nat}
theorem zt4{z:Int}{v:FV}{O1:FH}(E:zbw [.ref p] O=some (v,O1))(hz:1 < z):zbv [.ref sf,.int z,.ref p] O=some (.ref O1.length,O1 ++ [.lst [.int (-1)]]):=by
 unfold zbv zcY
 walk_at "evh"
theorem zt3{z:Int}{O1:FH}(E:zbw [.ref p] O=some (.non,O1))(hz:¬1 < z):zbv [.ref sf,.int z,.ref p] O=some (.ref O1.length,O1 ++ [.lst [.int (-1)]]):=by
 unfold zbv zcY
 walk_at "evh"
theorem zt2{z:Int}{O1:FH}{L:Nat}{v1 v2 v3:FV}{vq:List FV}(E:zbw [.ref p] O=some (.ref L,O1))(hz:¬1 < z)(hs:O1[sf]? =some (.ins 5 [.ref q,v1,v2,v3]))(hq:O1[q]? =some (.ins 0 vq))(E2:zbb [.ref q] O1=some (.non,O1)):zbv [.ref sf,.int z,.ref p] O=some (.ref O1.length,O1 ++ [.lst [.int (-2)]]):=by
 unfold zbv zcY
 walk_at "evh"
theorem zt1{z k:Int}{O1 O2 O3:FH}{L:Nat}{v2 v3:FV}{vq vr:List FV}(E:zbw [.ref p] O=some (.ref L,O1))(hz:¬1 < z)(hs:O1[sf]? =some (.ins 5 [.ref q,.ref rd,v2,v3]))(hq:O1[q]? =some (.ins 0 vq))(E2:zbb [.ref q] O1=some (.int k,O1))(E3:zcp [.ref q,.int k,.int z,.ref L] O1=some (.non,O2))(hs2:O2[sf]? =some (.ins 5 [.ref q,.ref rd,v2,v3]))(hr2:O2[rd]? =some (.ins 4 vr))(E4:zbf [.ref rd] O2=some (.non,O3)):zbv [.ref sf,.int z,.ref p] O=some (.ref O3.length,O3 ++ [.lst [.int 0,.int k]]):=by
 unfold zbv zcY
 walk_at "evh"
theorem zpv{l:List (Option Quest)}{k:Nat}(h:freeOf l=some k):k < 16:=by
 unfold freeOf at h
 have:=List.mem_of_find?_eq_some h
 exact List.mem_range.mp this
theorem zyp{z:Nat}(h:StAt O sf Z s)(hZ:ZOk O Z)(hp:O[p]? =some (.lst (fI path)))(hl:path.length<=69000):Did O sf Z (step s (.ask z path)) (zbv [.ref sf,.int z,.ref p] O):=by
 have hS:=zkc hp hl
 have est:step s (.ask z path)=if 1 < z then (s,no 1) else (match pathOf path with
  | none=> (s,no 1)
  | some x=> match freeOf s.quests with
   | none=> (s,no 2)
   | some q=> ({s with quests:=s.quests.set q (some ⟨x,z==1⟩)},.nums [q])):=rfl
 rw[est]
 by_cases hz:1 < z
 .rw[if_pos hz]
  have:∃v O1,zbw [.ref p] O=some (v,O1)/\Fr O O1 []:=by
   cases hq:pathOf path with
   | none=> rw[hq] at hS; obtain⟨O1,E,F⟩:=hS; exact⟨_,_,E,F⟩
   | some x=> rw[hq] at hS; obtain⟨O1,v,E,_,_,F⟩:=hS; exact⟨_,_,E,F⟩
  obtain⟨v,O1,E,F⟩:=this
  exact zjm (xs:=[-1]) h hZ F (zt4 E (by omega)) rfl rfl
 .rw[if_neg hz]
  cases hq:pathOf path with
  | none=>
   rw[hq] at hS
   obtain⟨O1,E,F⟩:=hS
   exact zjm (xs:=[-1]) h hZ F (zt3 E (by omega)) rfl rfl
  | some x=>
   rw[hq] at hS
   obtain⟨O1,v,E,⟨L,vs,rfl,k1,k2⟩,kL,F⟩:=hS
   have kL:O.length<=L:=kL
   have h1:=h.new F
   have hZ1:ZOk O1 Z:=fun y hy=> by
    obtain⟨xs,e | e⟩:=hZ y hy
    .exact⟨xs,.inl (F.get e (by simp))⟩
    .exact⟨xs,.inr (F.get e (by simp))⟩
   obtain⟨q,rd,lv,d,a,n,U,is,X,hs,hQ,hW,hR,g1,g2,g3⟩:=h.ex
   have K:Kp O O1:=F.kp (by simp)
   have hs1:=F.get hs (by simp)
   have hQ1:QAt O1 q d a n U s.quests:=hQ.fr F (fun j hj=> by cases hj)
   obtain⟨_,_,_,hq1,_⟩:=hQ1.root
   have EF:=zwE hQ1
   dsimp only
   cases hf:freeOf s.quests with
   | none=>
    rw[hf] at EF
    exact zjm (xs:=[-2]) h hZ F (zt2 E (by omega) hs1 hq1 EF) rfl rfl
   | some k=>
    rw[hf] at EF
    have hk:=zpv hf
    obtain⟨O2,a',n',E3,hQ2,ga,gn,F2⟩:=zyi (k:=k) (Q:=⟨x,z==1⟩) hQ1 hk k1 k2 (znI hq)
    have ez:(.int (if (⟨x,z==1⟩:Quest).shut=true then 1 else 0):FV)= .int (z:Int):=by
     have:z=0\/z=1:=by omega
     rcases this with rfl | rfl <;> rfl
    rw[ez] at E3
    have hW1:RdW O1 rd q lv is s:=by
     obtain⟨⟨a1,a2,a3,a4,a5,a6,a7,a8,b1,b2,b3⟩⟩:=hW
     exact⟨⟨a1,a2,a3,a4,a5,a6,a7,a8,F.get b1 (by simp),F.get b2 (by simp),b3.keep F K (by simp)⟩⟩
    have hlv:lv < O.length:=by
     obtain⟨⟨a1,a2,a3,a4,a5,a6,a7,a8,b1,b2,b3⟩⟩:=hW
     exact zaq b2
    have zl:∀y∈Z,y < O.length:=fun y hy=> by obtain⟨xs,e | e⟩:=hZ y hy <;> exact zaq e
    obtain⟨O3,⟨vr,hr2⟩,hs2,E4,lO,hst⟩:=zmP (O2:=O2) (U:=L::U) (a:=a) (s:=s) (Z:=Z) (X:=X) hs1 (by
      obtain⟨⟨un,Ly,nv,kvs,H,hh,i1,i2⟩,i3⟩:=hQ1
      refine⟨⟨un,Ly,nv,kvs,H,⟨hh.hd,hh.ok,fun j hj=> ?_,fun u hu=> ?_,hh.qok⟩,i1,i2⟩,?_⟩
      .have:=hh.at_ j hj
       generalize s.quests[j]? =o at this
       match o,this with
       | some (some Q'),⟨t,L',vs',m1,m2,m3,m4,m5⟩=> exact⟨t,L',vs',m1,m2,m3,by simp[m4],m5⟩
       | some none,m=> exact m
       | none,m=> exact m
      .rcases List.mem_cons.mp hu with rfl | hu
       .exact⟨vs,k1⟩
       .exact hh.un u hu
      .simp
       refine⟨?_,i3⟩
       obtain⟨⟨_,_,_,_,H0,_⟩,_⟩:=hQ
       have:=zaq H0.ha
       omega) hW1 (fun ho=> (hR ho).same F K (by simp) (by simp) (by simp) (by simp)) ⟨g1.1,by simp; exact⟨by omega,g1.2.1⟩,g1.2.2⟩
      (fun j hj=> by
       obtain⟨m1,m2,m3,m4⟩:=g2 j hj
       refine⟨m1,by simp; exact⟨by omega,m2⟩,by have:=F.1; omega,m4⟩) (fun y hy=> ⟨(g3 y hy).1,by have:=zl y hy; simp; exact⟨by omega,(g3 y hy).2⟩⟩) h.bf h.tk hZ1 F2 hQ2 ga (fun u hu=> .inl hu)
    have Ea:=zt1 E (by omega) hs1 hq1 EF E3 hs2 hr2 E4
    obtain⟨hst1,hst2⟩:=hst _ (Fr.new (x:= .lst [.int 0,.int k]))
    exact⟨_,O3.length,Ea,by rw[zaO rfl]; rfl,by have:=F.1; omega,hst1,fun y hy=> by
     rw[hst2 y hy]
     exact F.2 y (zl y hy) (by simp)⟩
theorem zre{l:List (Option Quest)}{kvs:List (Int×FV)}(h:HeldAt O d U l kvs)(k:Nat):(getD (k:Int) kvs).isSome=(l.getD k none).isSome:=by
 by_cases hk:k < 16
 .exact zkB h hk
 .rw[List.getD_eq_getElem?_getD,List.getElem?_eq_none (by rw[h.qok.len]; omega)]
  have ok:=h.ok
  unfold okKeys at ok
  rw[Bool.and_eq_true] at ok
  cases hg:getD (k:Int) kvs with
  | none=> rfl
  | some v=>
   exfalso
   unfold getD at hg
   cases hf:kvs.find? fun p=> decide (p.1=(k:Int)) with
   | none=> rw[hf] at hg; cases hg
   | some y=>
    have h1:=List.find?_some hf
    have h2:=List.all_eq_true.mp ok.2 y (List.mem_of_find?_eq_some hf)
    simp at h1 h2
    omega
theorem zrF{k:Int}{v1 v2 v3 w1 w2 w3 w4 w5:FV}{kvs:List (Int×FV)}(hs:O[sf]? =some (.ins 5 [.ref q,v1,v2,v3]))(hq:O[q]? =some (.ins 0 [.ref d,w1,w2,w3,w4,w5]))(hd:O[d]? =some (.dK kvs))(hk:(getD k kvs).isSome=false):zb0 [.ref sf,.int k] O=some (.ref O.length,O ++ [.lst [.int (-1)]]):=by
 unfold zb0 zdm
 walk_at "evh"
theorem zrE{k:Int}{v2 v3 w1 w2 w3 w4 w5:FV}{kvs:List (Int×FV)}{O2 O3:FH}{vr:List FV}(hs:O[sf]? =some (.ins 5 [.ref q,.ref rd,v2,v3]))(hq:O[q]? =some (.ins 0 [.ref d,w1,w2,w3,w4,w5]))(hd:O[d]? =some (.dK kvs))(hk:(getD k kvs).isSome=true)(E3:zbs [.ref q,.int k] O=some (.non,O2))(hs2:O2[sf]? =some (.ins 5 [.ref q,.ref rd,v2,v3]))(hr2:O2[rd]? =some (.ins 4 vr))(E4:zbf [.ref rd] O2=some (.non,O3)):zb0 [.ref sf,.int k] O=some (.ref O3.length,O3 ++ [.lst [.int 0]]):=by
 unfold zb0 zdm
 walk_at "evh"
theorem zwI{k:Nat}(h:StAt O sf Z s)(hZ:ZOk O Z):Did O sf Z (step s (.drop k)) (zb0 [.ref sf,.int k] O):=by
 obtain⟨q,rd,lv,d,a,n,U,is,X,hs,hQ,hW,hR,g1,g2,g3⟩:=h.ex
 obtain⟨⟨un,Ly,nv,kvs,H,hh,i1,i2⟩,i3⟩:=id hQ
 have est:step s (.drop k)=if (s.quests.getD k none).isNone=true then (s,no 1) else ({s with quests:=s.quests.set k none},DONE):=rfl
 rw[est]
 have hk:=zre hh k
 cases hg:s.quests.getD k none with
 | none=>
  rw[hg] at hk
  rw[if_pos (show (none:Option Quest).isNone=true from rfl)]
  exact zgL (xs:=[-1]) h hZ (zrF hs H.hq hh.hd hk) rfl rfl
 | some Q=>
  rw[hg] at hk
  rw[if_neg (by simp)]
  have hl:s.quests[k]? =some (some Q):=by
   rw[List.getD_eq_getElem?_getD] at hg
   cases hx:s.quests[k]? with
   | none=> rw[hx] at hg; cases hg
   | some o=> rw[hx] at hg; exact congrArg some hg
  obtain⟨O2,a',n',E3,hQ2,ga,gn,F2⟩:=zn6 hQ hl
  obtain⟨O3,⟨vr,hr2⟩,hs2,E4,lO,hst⟩:=zmP hs hQ hW hR g1 g2 g3 h.bf h.tk hZ F2 hQ2 ga (fun u hu=> .inl hu)
  obtain⟨hst1,hst2⟩:=hst _ (Fr.new (x:= .lst [.int 0]))
  exact⟨_,O3.length,zrE hs H.hq hh.hd hk E3 hs2 hr2 E4,by rw[zaO rfl]; rfl,lO,hst1,hst2⟩
end
theorem zqW(s:State)(w:List Place)(D:Nat)(x:Sure):(tellOne s w D x).1.quests=s.quests/\(tellOne s w D x).1.reader=s.reader/\(tellOne s w D x).1.taken=s.taken/\(tellOne s w D x).1.phase=s.phase:=by
 cases x <;> unfold tellOne <;> dsimp only <;> (try split) <;> exact⟨rfl,rfl,rfl,rfl⟩
theorem ziF(w:List Place)(D:Nat):∀(l:List Sure) (s:State),(tellAll w D s l).1.quests=s.quests/\(tellAll w D s l).1.reader=s.reader/\(tellAll w D s l).1.taken=s.taken/\(tellAll w D s l).1.phase=s.phase
 | [],s=> ⟨rfl,rfl,rfl,rfl⟩
 | x::l,s=> by
  have h1:=zqW s w D x
  have h2:=ziF w D l (tellOne s w D x).1
  exact⟨h2.1.trans h1.1,h2.2.1.trans h1.2.1,h2.2.2.1.trans h1.2.2.1,h2.2.2.2.trans h1.2.2.2⟩
section
variable {O:FH}{q d a n sf p:Nat}{U X Z:List Nat}{rd lv st nu T:Nat}{aw wh wd sp:Int}{tb:Bool}{is:List Nat}{tl:List FV}{s:State}{c:Nat}{path:List Nat}
theorem RdAt.xs(h:RdAt O rd q lv is X s):∀j∈X,(∃k vs,(k=1\/k=3)/\O[j]? =some (.ins k vs))\/∃vs,O[j]? =some (.lst vs):=by
 obtain⟨st,nu,wh,tb,wd,sp,_,hs⟩:=h.ex
 generalize s.reader.mode=m at hs
 match m,hs with
 | .str key z,⟨ch,fs,e,k1,k2,k3,k4⟩=>
  subst e
  intro j hj
  simp at hj
  rcases hj with rfl | rfl
  .exact .inl ⟨3,_,.inr rfl,k1⟩
  .exact .inr ⟨_,k2⟩
 | .num z,⟨fg,e,k1,k2,k3,k4⟩=>
  subst e
  intro j hj
  simp at hj
  rcases hj with rfl | rfl
  .exact .inl ⟨1,_,.inl rfl,k1⟩
  .exact .inr ⟨_,k2⟩
 | .lit k n,hs=> intro j hj; rw[hs.1] at hj; cases hj
 | .value _,hs=> intro j hj; rw[show X=[] from hs] at hj; cases hj
 | .name _,hs=> intro j hj; rw[show X=[] from hs] at hj; cases hj
 | .colon,hs=> intro j hj; rw[show X=[] from hs] at hj; cases hj
 | .after,hs=> intro j hj; rw[show X=[] from hs] at hj; cases hj
theorem zyh(h:StAt O sf (T::Z) s)(ho:s.phase= .open_)(hT:O[T]? =some (.lst tl))(hZ:ZOk O Z)(nTZ:T∉Z)(hb:tl.length + s.reader.buf.length<=12 * s.taken)(ht:s.taken < 65536):
  ∃q rd,O[sf]? =some (.ins 5 [.ref q,.ref rd,.int s.taken,.bl false])/\(∃vs,O[rd]? =some (.ins 4 vs))/\match take s.reader c with
   | none=>∃O1,zav [.ref rd,.int c,.ref T] O=some (.bl false,O1)/\O1[sf]? =some (.ins 5 [.ref q,.ref rd,.int s.taken,.bl false])/\O1[T]? =some (.lst tl)/\O.length<=O1.length/\∀O2,Fr (O1.set sf (.ins 5 [.ref q,.ref rd,.int s.taken,.bl true])) O2 []->StAt O2 sf Z {s with phase:= .wrong}/\∀z∈Z,O2[z]? =O[z]?
   | some (r,sr)=>∃O1,zav [.ref rd,.int c,.ref T] O=some (.bl true,O1)/\O1[sf]? =some (.ins 5 [.ref q,.ref rd,.int s.taken,.bl false])/\O.length<=O1.length/\StAt (O1.set sf (.ins 5 [.ref q,.ref rd,.int (s.taken + 1),.bl false])) sf (T::Z) (fin s r sr).1/\(O1.set sf (.ins 5 [.ref q,.ref rd,.int (s.taken + 1),.bl false]))[T]? =some (.lst (tl ++ evF (fin s r sr).2))/\∀z∈Z,(O1.set sf (.ins 5 [.ref q,.ref rd,.int (s.taken + 1),.bl false]))[z]? =O[z]?:=by
 obtain⟨q,rd,lv,d,a,n,U,is,X,hs,hQ,hW,hR,g1,g2,g3⟩:=h.ex
 have hA:=hR ho
 have eo:zgT s=false:=by unfold zgT; rw[ho]
 rw[eo] at hs
 obtain⟨st,nu,wh,tb,wd,sp,hr,_⟩:=hA.ex
 have gT:=g3 T (by simp)
 have En:Env O q d a n lv T U X s tl:=⟨hQ,hT,fun z=> g1.2.2 (by simp[z]),fun z=> (g2 T z).2.2.2 (by simp),⟨g1.1,g1.2.1⟩,gT,fun j hj=> ⟨(g2 j hj).1,(g2 j hj).2.1⟩,by unfold LIM; omega⟩
 have TK:=zwB (c:=c) hA En (by unfold LIM; omega)
 have hxs:=hA.xs
 have ls:=zaq hs
 have nsS:sf∉rd::lv::T::(is ++ X):=by
  have n1:=zaU hs hr (by simp[zae])
  have n2:=zaU hs hA.hl (by simp)
  have n3:=zaU hs hT (by simp)
  have n4:sf∉is:=zcj hA.lvs hs (by simp)
  have n5:sf∉X:=fun z=> by
   rcases hxs sf z with⟨k,vs,hk,e⟩ |⟨vs,e⟩
   .rw[hs] at e; injection e with e; injection e with e; omega
   .rw[hs] at e; cases e
  simp[n1,n2,n3,n4,n5]
 have nzS:∀z∈Z,z∉rd::lv::T::(is ++ X):=fun z hz=> by
  have n2:z≠lv:=fun y=> g1.2.2 (by rw[<- y]; simp[hz])
  have n3:z≠T:=fun y=> nTZ (y ▸ hz)
  have n5:z∉X:=fun y=> (g2 z y).2.2.2 (by simp[hz])
  have hzo:=hZ z hz
  have n1:z≠rd:=fun y=> by
   obtain⟨xs,e | e⟩:=hzo <;> rw[y,hr] at e <;> cases e
  have n4:z∉is:=by
   obtain⟨xs,e | e⟩:=hzo
   .exact zcj hA.lvs e (by simp)
   .exact zcj hA.lvs e (by simp)
  simp[n1,n2,n3,n4,n5]
 have SK:SOk O a U (rd::lv::T::(is ++ X)):=fun j hj=> by
  simp at hj
  rcases hj with rfl | rfl | rfl | hj | hj
  .exact .inl ⟨4,_,by decide,hr⟩
  .exact .inr ⟨⟨_,hA.hl⟩,g1.1,g1.2.1⟩
  .exact .inr ⟨⟨_,hT⟩,gT⟩
  .obtain⟨vs,e⟩:=hA.lvs.ins j hj; exact .inl ⟨2,vs,by decide,e⟩
  .rcases hxs j hj with⟨k,vs,hk,e⟩ | e
   .exact .inl ⟨k,vs,by omega,e⟩
   .exact .inr ⟨e,(g2 j hj).1,(g2 j hj).2.1⟩
 have zl:∀z∈Z,z < O.length:=fun z hz=> by obtain⟨xs,e | e⟩:=hZ z hz <;> exact zaq e
 have lT:=zaq hT
 refine⟨q,rd,hs,⟨_,hr⟩,?_⟩
 cases htk:take s.reader c with
 | none=>
  rw[htk] at TK
  obtain⟨O1,E1,hW1,hT1,F1⟩:=TK
  have hs1:=F1.get hs nsS
  have ls1:=zaq hs1
  refine⟨O1,E1,hs1,hT1,F1.1,fun O2 F2=> ?_⟩
  have FS:Fr O1 (O1.set sf (.ins 5 [.ref q,.ref rd,.int s.taken,.bl true])) [sf]:=Fr.set (by simp)
  have S2:SOk O1 a U [sf]:=fun j hj=> by simp at hj; subst hj; exact .inl ⟨5,_,by decide,hs1⟩
  have KS:=S2.kp FS
  have K2:Kp _ O2:=F2.kp (by simp)
  obtain⟨⟨a1,a2,a3,a4,a5,a6,a7,a8,b1,b2,b3⟩⟩:=hW1
  have m1:=zaU b1 hs1 (by simp[zae])
  have m2:=zaU b2 hs1 (by simp)
  refine⟨⟨⟨q,rd,lv,d,a,n,U,is,[],F2.get (za7 ls1) (by simp),((hQ.fr F1 SK).fr FS S2).fr F2 (fun j hj=> by cases hj),⟨⟨a1,a2,a3,a4,a5,a6,a7,a8,F2.get (FS.get b1 (by simp; exact m1)) (by simp),F2.get (FS.get b2 (by simp; exact m2)) (by simp),(b3.keep FS KS fun i hi=> by simp; rintro rfl; exact zcj b3 hs1 (by simp) hi).keep F2 K2 (by simp)⟩⟩,fun z=> (by cases z),⟨g1.1,g1.2.1,fun z=> g1.2.2 (by simp[z])⟩,(by simp),fun z hz=> g3 z (by simp[hz])⟩,h.bf,h.tk⟩,fun z hz=> ?_⟩
  have e1:=F1.2 z (zl z hz) (nzS z hz)
  have nz:z≠sf:=fun y=> by obtain⟨xs,e | e⟩:=hZ z hz <;> rw[y,hs] at e <;> cases e
  rw[F2.2 z (by have:=zl z hz; have:=F1.1; simp; omega) (by simp),zaR nz.symm,e1]
 | some x=>
  obtain⟨r,sr⟩:=x
  rw[htk] at TK
  obtain⟨O1,is',X',E1,hA1,hT1,F1,hnew⟩:=TK
  have hs1:=F1.get hs nsS
  have ls1:=zaq hs1
  have FS:Fr O1 (O1.set sf (.ins 5 [.ref q,.ref rd,.int (s.taken + 1),.bl false])) [sf]:=Fr.set (by simp)
  have S2:SOk O1 a U [sf]:=fun j hj=> by simp at hj; subst hj; exact .inl ⟨5,_,by decide,hs1⟩
  have KS:=S2.kp FS
  obtain⟨e1,e2,e3,e4⟩:=ziF s.reader.way (deepOf s.reader r) sr {s with reader:=r,taken:=s.taken + 1}
  have e1:(fin s r sr).1.quests=s.quests:=e1
  have e2:(fin s r sr).1.reader=r:=e2
  have e3:(fin s r sr).1.taken=s.taken + 1:=e3
  have e4:(fin s r sr).1.phase=s.phase:=e4
  have hxs1:=hA1.xs
  obtain⟨st1,nu1,wh1,tb1,wd1,sp1,r1,_⟩:=hA1.ex
  have ns1:rd∉[sf]:=by have:=zaU r1 hs1 (by simp[zae]); simp[this]
  have ns2:lv∉[sf]:=by have:=zaU hA1.hl hs1 (by simp); simp[this]
  have ns3:∀i∈is',i∉[sf]:=fun i hi=> by simp; rintro rfl; exact zcj hA1.lvs hs1 (by simp) hi
  have ns4:∀i∈X',i∉[sf]:=fun i hi=> by
   simp
   rintro rfl
   rcases hxs1 i hi with⟨k,vs,hk,e⟩ |⟨vs,e⟩
   .rw[hs1] at e; injection e with e; injection e with e; omega
   .rw[hs1] at e; cases e
  have hA2:=hA1.same FS KS ns1 ns2 ns3 ns4
  have hsz:=zlQ htk
  have hsz2:(evF (fin s r sr).2).length<=szL sr:=zkf _ _ sr _
  refine⟨O1,E1,hs1,F1.1,⟨⟨q,rd,lv,d,a,n,U,is',X',?_,?_,hA2.w,fun _=> hA2,g1,fun j hj=> ?_,g3⟩,?_,?_⟩,?_,fun z hz=> ?_⟩
  .rw[za7 ls1,e3,show zgT (fin s r sr).1=false by unfold zgT; rw[e4,ho]]; rfl
  .rw[e1]; exact (hQ.fr F1 SK).fr FS S2
  .have hlt:j < O1.length:=by
    rcases hxs1 j hj with⟨k,vs,hk,e⟩ |⟨vs,e⟩ <;> exact zaq e
   rcases hnew j hj with z | z
   .obtain⟨m1,m2,m3,m4⟩:=g2 j z
    exact⟨m1,m2,by simp; exact hlt,m4⟩
   .have la:a < O.length:=by obtain⟨⟨_,_,_,_,H0,_⟩,_⟩:=hQ; exact zaq H0.ha
    refine⟨by omega,fun y=> ?_,by simp; exact hlt,fun y=> ?_⟩
    .obtain⟨⟨_,_,_,_,_,hh,_⟩,_⟩:=hQ
     obtain⟨vs,e⟩:=hh.un j y
     have:=zaq e; omega
    .rcases List.mem_cons.mp y with y | y
     .omega
     .have:=zl j y; omega
  .rw[e2,e3]; omega
  .rw[e3]; omega
  .have nT:T≠sf:=zaU hT1 hs1 (by simp)
   rw[zaR nT.symm]; exact hT1
  .have e1:=F1.2 z (zl z hz) (nzS z hz)
   have nz:z≠sf:=fun y=> by obtain⟨xs,e | e⟩:=hZ z hz <;> rw[y,hs] at e <;> cases e
   rw[zaR nz.symm,e1]
end
section
variable {O:FH}{q d a n sf R:Nat}{U X Z:List Nat}{rd lv st nu T:Nat}{aw wh wd sp:Int}{tb:Bool}{is:List Nat}{tl:List FV}{s:State}{c:Nat}{path:List Nat}
def fdB:MS:=(sSeq (sIf (zkR (tVal (eMeth 4 zav (eFld 5 1 (eV 0)) (aCons (eV 3) (aCons (eV 2) aNil))))) (sSeq (zco 5 3 (eV 0) (eC (.bl true))) (sRet (eCat (eLst (aCons (eC (.int 1)) aNil)) (eV 2)))) sNx) (zdU 5 2 iAdd (eV 0) (eC (.int 1))))
theorem zwf{O1:FH}{vr:List FV}{v0:FV}{t:Int}{x:Option FV}(hs:O[sf]? =some (.ins 5 [v0,.ref rd,.int t,.bl false]))(hr:O[rd]? =some (.ins 4 vr))(E:zav [.ref rd,.int c,.ref T] O=some (.bl true,O1))(hs1:O1[sf]? =some (.ins 5 [v0,.ref rd,.int t,.bl false])):fdB [some (.ref sf),x,some (.ref T),some (.int c)] O=some (.nx [some (.ref sf),x,some (.ref T),some (.int c)],O1.set sf (.ins 5 [v0,.ref rd,.int (t + 1),.bl false])):=by
 unfold fdB
 walk_at "evh"
theorem zwg{O1 O2 O3:FH}{vr:List FV}{v0:FV}{t:Int}{x:Option FV}(hs:O[sf]? =some (.ins 5 [v0,.ref rd,.int t,.bl false]))(hr:O[rd]? =some (.ins 4 vr))(E:zav [.ref rd,.int c,.ref T] O=some (.bl false,O1))(hs1:O1[sf]? =some (.ins 5 [v0,.ref rd,.int t,.bl false]))(hO2:O1.set sf (.ins 5 [v0,.ref rd,.int t,.bl true])=O2)(hO3:O2 ++ [FO.lst [.int 1]]=O3)(k1:O3[O2.length]? =some (.lst [.int 1]))(k2:O3[T]? =some (.lst tl))(hl:tl.length + 1<=LIM)(e:1 + tl.length=tl.length + 1):
  fdB [some (.ref sf),x,some (.ref T),some (.int c)] O=some (.rt (.ref O3.length),O3 ++ [.lst (.int 1::tl)]):=by
 unfold fdB
 walk_at "evh"
theorem StAt.add{O':FH}(h:StAt O sf Z s)(hT:O.length<=T)(F:Fr O O' []):StAt O' sf (T::Z) s:=by
 obtain⟨⟨q,rd,lv,d,a,n,U,is,X,hs,hQ,hW,hR,h1,h2,h3⟩,h4,h5⟩:=h.new F
 obtain⟨q0,rd0,lv0,d0,a0,n0,U0,is0,X0,hs0,hQ0,hW0,hR0,k1,k2,k3⟩:=h.ex
 have K:Kp O O':=F.kp (by simp)
 have la:a0 < O.length:=by obtain⟨⟨_,_,_,_,H0,_⟩,_⟩:=hQ0; exact zaq H0.ha
 have ll:lv0 < O.length:=by obtain⟨⟨a1,a2,a3,a4,a5,a6,a7,a8,b1,b2,b3⟩⟩:=hW0; exact zaq b2
 have lU:∀u∈U0,u < O.length:=fun u hu=> by
  obtain⟨⟨_,_,_,_,_,hh,_⟩,_⟩:=hQ0
  obtain⟨vs,e⟩:=hh.un u hu
  exact zaq e
 have hW1:RdW O' rd0 q0 lv0 is0 s:=by
  obtain⟨⟨a1,a2,a3,a4,a5,a6,a7,a8,b1,b2,b3⟩⟩:=hW0
  exact⟨⟨a1,a2,a3,a4,a5,a6,a7,a8,F.get b1 (by simp),F.get b2 (by simp),b3.keep F K (by simp)⟩⟩
 refine⟨⟨q0,rd0,lv0,d0,a0,n0,U0,is0,X0,F.get hs0 (by simp),hQ0.fr F (fun j hj=> by cases hj),hW1,fun z=> (hR0 z).same F K (by simp) (by simp) (by simp) (by simp),⟨k1.1,k1.2.1,?_⟩,fun j hj=> ?_,fun z hz=> ?_⟩,h4,h5⟩
 .simp; exact⟨by omega,k1.2.2⟩
 .obtain⟨m1,m2,m3,m4⟩:=k2 j hj
  exact⟨m1,m2,by have:=F.1; omega,by simp; exact⟨by omega,m4⟩⟩
 .rcases List.mem_cons.mp hz with rfl | hz
  .exact⟨by omega,fun y=> by have:=lU _ y; omega⟩
  .exact k3 z hz
theorem StAt.sub{Z':List Nat}(h:StAt O sf Z s)(hZ:∀z∈Z',z∈Z):StAt O sf Z' s:=by
 obtain⟨⟨q,rd,lv,d,a,n,U,is,X,hs,hQ,hW,hR,h1,h2,h3⟩,h4,h5⟩:=h
 exact⟨⟨q,rd,lv,d,a,n,U,is,X,hs,hQ,hW,hR,⟨h1.1,h1.2.1,fun z=> h1.2.2 (hZ _ z)⟩,fun j hj=> ⟨(h2 j hj).1,(h2 j hj).2.1,(h2 j hj).2.2.1,fun z=> (h2 j hj).2.2.2 (hZ _ z)⟩,fun z hz=> h3 z (hZ z hz)⟩,h4,h5⟩
theorem zil(s:State)(c:Nat)(r:List Nat):feedAll s (c::r)=match take s.reader c with
  | none=> ({s with phase:= .wrong},[],false)
  | some x=> ((feedAll (fin s x.1 x.2).1 r).1,(fin s x.1 x.2).2 ++ (feedAll (fin s x.1 x.2).1 r).2.1,(feedAll (fin s x.1 x.2).1 r).2.2):=by
 rw[feedAll]
 cases take s.reader c with
 | none=> rfl
 | some x=> rfl
theorem ZOk.keep{O':FH}(h:ZOk O Z)(e:∀z∈Z,O'[z]? =O[z]?):ZOk O' Z:=fun z hz=> by
 obtain⟨xs,k⟩:=h z hz
 exact⟨xs,by rw[e z hz]; exact k⟩
theorem zlf{all:List FV}(hR:R∈Z)(nTZ:T∉Z):∀(rest:List Nat) (O:FH) (s:State) (tl:List FV) (x:Option FV),StAt O sf (T::Z) s->s.phase= .open_->O[T]? =some (.lst tl)->ZOk O Z->O[R]? =some (.lst all)->tl.length + s.reader.buf.length<=12 * s.taken->s.taken + rest.length<=65536->
  if (feedAll s rest).2.2=true then∃O' x',loopL 3 fdB (.ref R) all (fI rest) [some (.ref sf),some (.ref R),some (.ref T),x] O=some (.nx [some (.ref sf),some (.ref R),some (.ref T),x'],O')/\StAt O' sf (T::Z) (feedAll s rest).1/\O'[T]? =some (.lst (tl ++ evF (feedAll s rest).2.1))/\(∀z∈Z,O'[z]? =O[z]?)/\(tl ++ evF (feedAll s rest).2.1).length<=786432/\O.length<=O'.length
  else∃O' k,loopL 3 fdB (.ref R) all (fI rest) [some (.ref sf),some (.ref R),some (.ref T),x] O=some (.rt (.ref k),O')/\O'[k]? =some (.lst (.int 1::(tl ++ evF (feedAll s rest).2.1)))/\O.length<=k/\StAt O' sf Z (feedAll s rest).1/\∀z∈Z,O'[z]? =O[z]?
 | [],O,s,tl,x,h,ho,hT,hZ,hRR,hb,ht=> by
  rw[if_pos (by rfl)]
  refine⟨O,x,?_,h,by rw[show (feedAll s []).2.1=[] from rfl,zgt,List.append_nil]; exact hT,fun _ _=> rfl,?_,Nat.le_refl _⟩
  .show loopL 3 fdB (.ref R) all [] _ O=_
   rw[loopL,if_pos (by rw[zfr,hRR])]
  .rw[show (feedAll s []).2.1=[] from rfl,zgt,List.append_nil]
   simp at ht; omega
 | c::rest,O,s,tl,x,h,ho,hT,hZ,hRR,hb,ht=> by
  simp only[List.length_cons] at ht
  obtain⟨q,rd,hs,⟨vr,hr⟩,hm⟩:=zyh (c:=c) h ho hT hZ nTZ hb (by omega)
  have eb:loopL 3 fdB (.ref R) all (fI (c::rest)) [some (.ref sf),some (.ref R),some (.ref T),x] O=(fdB [some (.ref sf),some (.ref R),some (.ref T),some (.int c)] O).bind fun q=> match q.1 with
   | .nx σ'=> loopL 3 fdB (.ref R) all (fI rest) σ' q.2
   | .rt v=> some (.rt v,q.2):=by
   show loopL 3 fdB (.ref R) all (.int c::fI rest) _ O=_
   rw[loopL,if_pos (by rw[zfr,hRR])]
   rfl
  rw[zil,eb]
  cases htk:take s.reader c with
  | none=>
   rw[htk] at hm
   obtain⟨O1,E1,hs1,hT1,lO,hk⟩:=hm
   rw[if_neg (by simp)]
   have ls1:=zaq hs1
   have nT:T≠sf:=zaU hT1 hs1 (by simp)
   have lT1:=zaq hT1
   have E2:=zwg (x:=some (.ref R)) hs hr E1 hs1 rfl rfl (zaO rfl) (by rw[za8 (by simp; exact lT1),zaR nT.symm]; exact hT1) (by unfold LIM; omega) (by omega)
   obtain⟨h1,h2⟩:=hk _ (Fr.new.trans (T:=[]) (Fr.new (x:= .lst (.int 1::tl))) (by simp))
   refine⟨_,_,by rw[E2]; rfl,?_,?_,h1,h2⟩
   .rw[zaO rfl,zgt,List.append_nil]
   .simp; omega
  | some y=>
   obtain⟨r,sr⟩:=y
   rw[htk] at hm
   obtain⟨O1,E1,hs1,lO,hS,hT1,hz⟩:=hm
   have E2:=zwf (x:=some (.ref R)) hs hr E1 hs1
   dsimp only
   have e4:=(ziF s.reader.way (deepOf s.reader r) sr {s with reader:=r,taken:=s.taken + 1})
   have e3:(fin s r sr).1.taken=s.taken + 1:=e4.2.2.1
   have e2:(fin s r sr).1.reader=r:=e4.2.1
   have ep:(fin s r sr).1.phase= .open_:=e4.2.2.2.trans ho
   have hsz:=zlQ htk
   have hsz2:(evF (fin s r sr).2).length<=szL sr:=zkf _ _ sr _
   have ih:=zlf hR nTZ rest _ (fin s r sr).1 (tl ++ evF (fin s r sr).2) (some (.int c)) hS ep hT1 (hZ.keep hz) (by rw[hz R hR]; exact hRR) (by rw[List.length_append,e2,e3]; omega) (by rw[e3]; omega)
   have lO2:O.length<=(O1.set sf (.ins 5 [.ref q,.ref rd,.int (s.taken + 1),.bl false])).length:=by simp; exact lO
   cases hok:(feedAll (fin s r sr).1 rest).2.2 with
   | true=>
    rw[hok,if_pos rfl] at ih
    rw[if_pos rfl]
    obtain⟨O',x',k1,k2,k3,k4,k5,k6⟩:=ih
    refine⟨O',x',by rw[E2]; exact k1,k2,by rw[zh8,<- List.append_assoc]; exact k3,fun z hz'=> (k4 z hz').trans (hz z hz'),by rw[zh8,<- List.append_assoc]; exact k5,by omega⟩
   | false=>
    rw[hok,if_neg (by simp)] at ih
    rw[if_neg (by simp)]
    obtain⟨O',k,k1,k2,k3,k4,k5⟩:=ih
    refine⟨O',k,by rw[E2]; exact k1,by rw[zh8,<- List.append_assoc]; exact k2,by omega,k4,fun z hz'=> (k5 z hz').trans (hz z hz')⟩
end
section
variable {O:FH}{q d a n sf R:Nat}{U X Z:List Nat}{rd lv st nu T:Nat}{aw wh wd sp:Int}{tb:Bool}{is:List Nat}{tl:List FV}{s:State}{c:Nat}{path:List Nat}
theorem zrv{v0 v1 v3:FV}{t:Int}{bs:List FV}(hs:O[sf]? =some (.ins 5 [v0,v1,.int t,v3]))(hR:O[R]? =some (.lst bs))(h:(65536:Int) < t + bs.length):zbl [.ref sf,.ref R] O=some (.ref O.length,O ++ [.lst [.int (-3)]]):=by
 unfold zbl zcD
 walk_at "evh"
theorem zrw{v0 v1:FV}{t:Int}{bs:List FV}(hs:O[sf]? =some (.ins 5 [v0,v1,.int t,.bl true]))(hR:O[R]? =some (.lst bs))(h:¬(65536:Int) < t + bs.length):zbl [.ref sf,.ref R] O=some (.ref O.length,O ++ [.lst [.int (-2)]]):=by
 unfold zbl zcD
 walk_at "evh"
theorem zrx{v0 v1:FV}{t:Int}{bs:List FV}{O':FH}{k:Nat}(hs:O[sf]? =some (.ins 5 [v0,v1,.int t,.bl false]))(hR:O[R]? =some (.lst bs))(lR:R < O.length)(h:¬(65536:Int) < t + bs.length)(E:loopL 3 fdB (.ref R) bs bs [some (.ref sf),some (.ref R),some (.ref O.length),none] (O ++ [.lst []])=some (.rt (.ref k),O')):zbl [.ref sf,.ref R] O=some (.ref k,O'):=by
 unfold fdB at E
 unfold zbl zcD
 walk_at "evh"
theorem zry{v0 v1 x':FV}{t:Int}{bs:List FV}{O' O1:FH}{y:Option FV}(hs:O[sf]? =some (.ins 5 [v0,v1,.int t,.bl false]))(hR:O[R]? =some (.lst bs))(lR:R < O.length)(h:¬(65536:Int) < t + bs.length)(E:loopL 3 fdB (.ref R) bs bs [some (.ref sf),some (.ref R),some (.ref O.length),none] (O ++ [.lst []])=some (.nx [some (.ref sf),some (.ref R),some (.ref O.length),y],O'))(hO1:O' ++ [FO.lst [.int 0]]=O1)(k1:O1[O'.length]? =some (.lst [.int 0]))(k2:O1[O.length]? =some (.lst tl))(hl:tl.length + 1<=LIM)(e:1 + tl.length=tl.length + 1):zbl [.ref sf,.ref R] O=some (.ref O1.length,O1 ++ [.lst (.int 0::tl)]):=by
 unfold fdB at E
 unfold zbl zcD
 walk_at "evh"
theorem zwH{b:List Nat}(h:StAt O sf Z s)(hZ:ZOk O Z)(hR:R∈Z)(hb:O[R]? =some (.lst (fI b))):Did O sf Z (step s (.feed b)) (zbl [.ref sf,.ref R] O):=by
 obtain⟨q,rd,lv,d,a,n,U,is,X,hs,_⟩:=h.ex
 have est:step s (.feed b)=if ALL < s.taken + b.length then (s,no 3) else if s.phase≠ .open_ then (s,no 2) else ((feedAll s b).1,.told (if (feedAll s b).2.2=true then 0 else 1) (feedAll s b).2.1):=rfl
 rw[est]
 unfold ALL
 have hlen:((fI b).length:Int)=b.length:=by rw[zcx]
 have lR:=zaq hb
 by_cases c3:65536 < s.taken + b.length
 .rw[if_pos c3]
  exact zgL (xs:=[-3]) h hZ (zrv hs hb (by omega)) rfl rfl
 .rw[if_neg c3]
  by_cases ho:s.phase= .open_
  .rw[if_neg (fun z=> z ho)]
   have eo:zgT s=false:=by unfold zgT; rw[ho]
   rw[eo] at hs
   have zl:∀z∈Z,z < O.length:=fun z hz=> by obtain⟨xs,e | e⟩:=hZ z hz <;> exact zaq e
   have F0:Fr O (O ++ [FO.lst []]) []:=Fr.new
   have hZ0:∀z∈Z,(O ++ [FO.lst []])[z]? =O[z]?:=fun z hz=> za8 (zl z hz)
   have LF:=zlf (sf:=sf) (T:=O.length) (all:=fI b) hR (fun z=> by have:=zl _ z; omega) b _ s [] none (h.add (Nat.le_refl _) F0) ho (zaO rfl) (hZ.keep hZ0) (by rw[za8 lR]; exact hb) (by simp; exact h.bf) (by omega)
   cases hok:(feedAll s b).2.2 with
   | true=>
    rw[hok,if_pos rfl] at LF
    obtain⟨O',x',k1,k2,k3,k4,k5,k6⟩:=LF
    rw[List.nil_append] at k3 k5
    have lT:=zaq k3
    have E:=zry (x':= .non) hs hb lR (by omega) k1 rfl (zaO rfl) (by rw[za8 lT]; exact k3) (by unfold LIM; omega) (by omega)
    have F2:Fr O' (O' ++ [FO.lst [.int 0]] ++ [FO.lst (.int 0::evF (feedAll s b).2.1)]) []:=Fr.new.trans (T:=[]) Fr.new (by simp)
    refine⟨_,_,E,by rw[zaO rfl]; rfl,by simp at k6 |-; omega,(k2.new F2).sub (by intro z hz; simp[hz]),fun z hz=> ?_⟩
    rw[F2.2 z (by have:=zl z hz; simp at k6; omega) (by simp),k4 z hz,hZ0 z hz]
   | false=>
    rw[hok,if_neg (by simp)] at LF
    obtain⟨O',k,k1,k2,k3,k4,k5⟩:=LF
    exact⟨O',k,zrx hs hb lR (by omega) k1,k2,by simp at k3; omega,k4,fun z hz=> (k5 z hz).trans (hZ0 z hz)⟩
  .rw[if_pos ho]
   have eo:zgT s=true:=by unfold zgT; cases hp:s.phase <;> simp_all
   rw[eo] at hs
   exact zgL (xs:=[-2]) h hZ (zrw hs hb (by omega)) rfl rfl
theorem ztU{v0 v1 v2:FV}(hs:O[sf]? =some (.ins 5 [v0,v1,v2,.bl true])):zbP [.ref sf] O=some (.ref O.length,O ++ [.lst [.int (-2)]]):=by
 unfold zbP zdi
 walk_at "evh"
theorem ztV{v0 v2:FV}{O1 O2:FH}{vr:List FV}(hs:O[sf]? =some (.ins 5 [v0,.ref rd,v2,.bl false]))(hO1:O.set sf (.ins 5 [v0,.ref rd,v2,.bl true]) ++ [FO.lst []]=O1)(hs1:O1[sf]? =some (.ins 5 [v0,.ref rd,v2,.bl true]))(hr1:O1[rd]? =some (.ins 4 vr))(E:zaG [.ref rd,.ref O.length] O1=some (.bl false,O2)):zbP [.ref sf] O=some (.ref O2.length,O2 ++ [.lst [.int 1]]):=by
 unfold zbP zdi
 walk_at "evh"
theorem ztW{v0 v2:FV}{O1 O2 O3:FH}{vr:List FV}(hs:O[sf]? =some (.ins 5 [v0,.ref rd,v2,.bl false]))(hO1:O.set sf (.ins 5 [v0,.ref rd,v2,.bl true]) ++ [FO.lst []]=O1)(hs1:O1[sf]? =some (.ins 5 [v0,.ref rd,v2,.bl true]))(hr1:O1[rd]? =some (.ins 4 vr))(E:zaG [.ref rd,.ref O.length] O1=some (.bl true,O2))(hO3:O2 ++ [FO.lst [.int 0]]=O3)(k1:O3[O2.length]? =some (.lst [.int 0]))(k2:O3[O.length]? =some (.lst tl))(hl:tl.length + 1<=LIM)(e:1 + tl.length=tl.length + 1):zbP [.ref sf] O=some (.ref O3.length,O3 ++ [.lst (.int 0::tl)]):=by
 unfold zbP zdi
 walk_at "evh"
theorem zyo(h:StAt O sf Z s)(hZ:ZOk O Z):Did O sf Z (step s .end_) (zbP [.ref sf] O):=by
 have est:step s .end_=if s.phase≠ .open_ then (s,no 2) else (match finish s.reader with
  | none=> ({s with phase:= .ended},.told 1 [])
  | some l=> ({(tellAll [] 0 s l).1 with phase:= .ended},.told 0 (tellAll [] 0 s l).2)):=rfl
 rw[est]
 by_cases ho:s.phase= .open_
 .rw[if_neg (fun z=> z ho)]
  obtain⟨q,rd,lv,d,a,n,U,is,X,hs,hQ,hW,hR,g1,g2,g3⟩:=h.ex
  have eo:zgT s=false:=by unfold zgT; rw[ho]
  rw[eo] at hs
  have hA:=hR ho
  obtain⟨st,nu,wh,tb,wd,sp,hr,_⟩:=hA.ex
  have ls:=zaq hs
  have zl:∀z∈Z,z < O.length:=fun z hz=> by obtain⟨xs,e | e⟩:=hZ z hz <;> exact zaq e
  generalize hO1:O.set sf (.ins 5 [.ref q,.ref rd,.int s.taken,.bl true]) ++ [FO.lst []]=O1
  have F1:Fr O O1 [sf]:=by rw[<- hO1]; exact (Fr.set (by simp)).trans (T:=[]) Fr.new (by simp)
  have S1:SOk O a U [sf]:=fun j hj=> by simp at hj; subst hj; exact .inl ⟨5,_,by decide,hs⟩
  have K1:=S1.kp F1
  have hxs:=hA.xs
  have ns4:∀i∈X,i∉[sf]:=fun i hi=> by
   simp
   rintro rfl
   rcases hxs i hi with⟨k,vs,hk,e⟩ |⟨vs,e⟩
   .rw[hs] at e; injection e with e; injection e with e; omega
   .rw[hs] at e; cases e
  have nrs:=zaU hr hs (by simp[zae])
  have nls:=zaU hA.hl hs (by simp)
  have hA1:=hA.same F1 K1 (by simp; exact nrs) (by simp; exact nls) (fun i hi=> by simp; rintro rfl; exact zcj hA.lvs hs (by simp) hi) ns4
  have hr1:=F1.get hr (by simp; exact nrs)
  have hs1:O1[sf]? =some (.ins 5 [.ref q,.ref rd,.int s.taken,.bl true]):=by rw[<- hO1,za8 (by simp; exact ls),za7 ls]
  have hT1:O1[O.length]? =some (.lst []):=by rw[<- hO1,zaO (by simp)]
  have hQ1:=hQ.fr F1 S1
  have la:a < O.length:=by obtain⟨⟨_,_,_,_,H0,_⟩,_⟩:=hQ; exact zaq H0.ha
  have ll:=zaq hA.hl
  have lU:∀u∈U,u < O.length:=fun u hu=> by
   obtain⟨⟨_,_,_,_,_,hh,_⟩,_⟩:=hQ
   obtain⟨vs,e⟩:=hh.un u hu
   exact zaq e
  have hbf:=h.bf
  have htk:=h.tk
  have En:Env O1 q d a n lv O.length U X s []:=⟨hQ1,hT1,by omega,fun z=> by have:=(g2 _ z).2.2.1; omega,⟨g1.1,g1.2.1⟩,⟨by omega,fun z=> by have:=lU _ z; omega⟩,fun j hj=> ⟨(g2 j hj).1,(g2 j hj).2.1⟩,by unfold LIM; simp; omega⟩
  have ET:=zn7 hA1 En
  have nz:∀z∈Z,z∉[sf]:=fun z hz=> by simp; rintro rfl; exact zuO hZ hs hz
  cases hf:finish s.reader with
  | none=>
   rw[hf] at ET
   dsimp only
   have F2:Fr O1 (O1 ++ [FO.lst [.int 1]]) []:=Fr.new
   have K2:Kp O1 (O1 ++ [FO.lst [.int 1]]):=F2.kp (by simp)
   refine⟨_,O1.length,ztV hs hO1 hs1 hr1 ET,by rw[zaO rfl]; rfl,F1.1,⟨⟨q,rd,lv,d,a,n,U,is,[],F2.get hs1 (by simp),hQ1.fr F2 (fun j hj=> by cases hj),?_,fun z=> (by cases z),g1,(by simp),g3⟩,h.bf,h.tk⟩,zkU (F1.trans (T:=[]) F2 (by simp)) hZ nz⟩
   obtain⟨⟨a1,a2,a3,a4,a5,a6,a7,a8,b1,b2,b3⟩⟩:=hA1.w
   exact⟨⟨a1,a2,a3,a4,a5,a6,a7,a8,F2.get b1 (by simp),F2.get b2 (by simp),b3.keep F2 K2 (by simp)⟩⟩
  | some sr=>
   rw[hf] at ET
   dsimp only at ET |-
   obtain⟨O2,E2,hW2,hT2,e1,F2⟩:=ET
   rw[List.nil_append] at hT2
   have S2:SOk O1 a U [rd,O.length]:=fun j hj=> by
    simp at hj
    rcases hj with rfl | rfl
    .exact .inl ⟨4,_,by decide,hr1⟩
    .exact .inr ⟨⟨_,hT1⟩,by omega,fun z=> by have:=lU _ z; omega⟩
   have hs2:=F2.get hs1 (by simp; exact⟨nrs.symm,by omega⟩)
   have lT2:=zaq hT2
   have hsz:(evF (tellAll [] 0 s sr).2).length + 1<=LIM:=by
    have h1:=zkf [] 0 sr s
    have h2:szL sr<=3 + s.reader.buf.length:=by
     unfold finish at hf
     split at hf
     .cases hf
     .split at hf
      .cases hf; simp[szL]
      .split at hf
       .cases hf; simp[szL,szS]
       .cases hf
      .cases hf
    unfold LIM; omega
   have E3:=ztW hs hO1 hs1 hr1 E2 rfl (zaO rfl) (by rw[za8 lT2]; exact hT2) hsz (by omega)
   have F3:Fr O2 (O2 ++ [FO.lst [.int 0]] ++ [FO.lst (.int 0::evF (tellAll [] 0 s sr).2)]) []:=Fr.new.trans (T:=[]) Fr.new (by simp)
   have K3:Kp O2 _:=F3.kp (by simp)
   refine⟨_,_,E3,by rw[zaO rfl]; rfl,by simp; have:=F1.1; have:=F2.1; omega,?_,fun z hz=> ?_⟩
   .rw[e1]
    refine⟨⟨q,rd,lv,d,a,n,U,is,[],F3.get hs2 (by simp),(hQ1.fr F2 S2).fr F3 (fun j hj=> by cases hj),?_,fun z=> (by cases z),g1,(by simp),g3⟩,h.bf,h.tk⟩
    obtain⟨⟨a1,a2,a3,a4,a5,a6,a7,a8,b1,b2,b3⟩⟩:=hW2
    exact⟨⟨a1,a2,a3,a4,a5,a6,a7,a8,F3.get b1 (by simp),F3.get b2 (by simp),b3.keep F3 K3 (by simp)⟩⟩
   .have lz:=zl z hz
    have:=F1.1
    have:=F2.1
    have n1:z≠rd:=fun y=> by obtain⟨xs,e | e⟩:=hZ z hz <;> rw[y,hr] at e <;> cases e
    rw[F3.2 z (by omega) (by simp),F2.2 z (by omega) (by simp; exact⟨n1,by omega⟩),F1.2 z lz (nz z hz)]
 .rw[if_pos ho]
  obtain⟨q,rd,lv,d,a,n,U,is,X,hs,_⟩:=h.ex
  have eo:zgT s=true:=by unfold zgT; cases hp:s.phase <;> simp_all
  rw[eo] at hs
  exact zgL (xs:=[-2]) h hZ (ztU hs) rfl rfl
end
def psi(s:State):Nat:=if s.phase= .open_ then s.reader.buf.length else 0
theorem zpA:∀(b:List Nat) (s:State),s.phase= .open_->(evF (feedAll s b).2.1).length + psi (feedAll s b).1<=s.reader.buf.length + 12 * b.length
 | [],s,ho=> by
  show (evF []).length + psi s<=_
  unfold psi; rw[if_pos ho,zgt]; simp
 | c::b,s,ho=> by
  rw[zil]
  cases htk:take s.reader c with
  | none=>
   show (evF []).length + psi {s with phase:= .wrong}<=_
   have:psi {s with phase:= .wrong}=0:=rfl
   rw[this,zgt]; simp
  | some y=>
   obtain⟨r,sr⟩:=y
   dsimp only
   have e4:=(ziF s.reader.way (deepOf s.reader r) sr {s with reader:=r,taken:=s.taken + 1})
   have e2:(fin s r sr).1.reader=r:=e4.2.1
   have ep:(fin s r sr).1.phase= .open_:=e4.2.2.2.trans ho
   have ih:=zpA b (fin s r sr).1 ep
   rw[e2] at ih
   have hsz:=zlQ htk
   have hsz2:(evF (fin s r sr).2).length<=szL sr:=zkf _ _ sr _
   rw[zh8,List.length_append]
   simp only[List.length_cons]
   omega
def zhT:Call->Nat
 | .feed b=> b.length
 | _=> 0
theorem zvo(s:State)(l:List (Option Quest)):psi {s with quests:=l}=psi s:=rfl
theorem zsM(s:State)(x:Call):(SqNeutral.told (step s x).2).length + 1 + psi (step s x).1<=psi s + 20 * (zhT x + 1):=by
 have le:∀l:List Ev,(l.flatMap SqNeutral.evNums).length=(evF l).length:=fun l=> by unfold evF; simp
 cases x with
 | check p=>
  show (SqNeutral.told (match pathOf p with | none=> no 1 | some x=> .nums [x.length])).length + 1 + psi s<=_
  cases pathOf p <;> simp[SqNeutral.told,no,SqNeutral.ints,zhT] <;> omega
 | begin_=>
  show (SqNeutral.told DONE).length + 1 + psi start<=_
  have:psi start=0:=rfl
  rw[this]; simp[SqNeutral.told,DONE,SqNeutral.ints,zhT]; try omega
 | ask z p=>
  unfold step
  dsimp only
  split
  .simp[SqNeutral.told,no,zhT]; omega
  .split
   .simp[SqNeutral.told,no,zhT]; omega
   .split
    .simp[SqNeutral.told,no,zhT]; omega
    .rw[zvo]; simp[SqNeutral.told,SqNeutral.ints,zhT]; omega
 | drop k=>
  unfold step
  dsimp only
  split
  .simp[SqNeutral.told,no,zhT]; omega
  .rw[zvo]; simp[SqNeutral.told,DONE,SqNeutral.ints,zhT]; omega
 | feed b=>
  unfold step
  dsimp only
  split
  .simp[SqNeutral.told,no,zhT]; omega
  .split
   .simp[SqNeutral.told,no,zhT]; omega
   .rename_i ho
    have ho:s.phase= .open_:=by simpa using ho
    have:=zpA b s ho
    have e:psi s=s.reader.buf.length:=by unfold psi; rw[if_pos ho]
    simp only[SqNeutral.told,List.length_cons,le,zhT]
    omega
 | end_=>
  unfold step
  dsimp only
  split
  .simp[SqNeutral.told,no,zhT]; omega
  .rename_i ho
   have ho:s.phase= .open_:=by simpa using ho
   have e:psi s=s.reader.buf.length:=by unfold psi; rw[if_pos ho]
   cases hf:finish s.reader with
   | none=>
    have:psi {s with phase:= .ended}=0:=rfl
    dsimp only
    rw[this]; simp[SqNeutral.told,zhT]; try omega
   | some sr=>
    dsimp only
    have h1:=zkf [] 0 sr s
    have h2:szL sr<=3 + s.reader.buf.length:=by
     unfold finish at hf
     split at hf
     .cases hf
     .split at hf
      .cases hf; simp[szL]
      .split at hf
       .cases hf; simp[szL,szS]
       .cases hf
      .cases hf
    have:psi {(tellAll [] 0 s sr).1 with phase:= .ended}=0:=rfl
    rw[this]
    simp only[SqNeutral.told,List.length_cons,le,zhT]
    omega
 | place=> show (SqNeutral.told (.nums [s.taken])).length + 1 + psi s<=_; simp[SqNeutral.told,SqNeutral.ints,zhT]; omega
 | depth=> show (SqNeutral.told (.nums [s.reader.frames.length])).length + 1 + psi s<=_; simp[SqNeutral.told,SqNeutral.ints,zhT]; omega
 | asked=>
  show (SqNeutral.told (.nums ((List.range MOST).filter fun (q:Nat)=> (s.quests.getD q none).isSome))).length + 1 + psi s<=_
  have:=List.length_filter_le (fun (q:Nat)=> (s.quests.getD q none).isSome) (List.range MOST)
  simp only[SqNeutral.told,SqNeutral.ints,List.length_cons,List.length_map,zhT]
  have e:(List.range MOST).length=16:=by simp[MOST]
  omega
section
variable {O:FH}{sf C:Nat}{Z:List Nat}{s:State}{ns:List Int}
theorem StAt.zset{A:Nat}{x:FO}{xs:List FV}(h:StAt O sf Z s)(hA:A∈Z)(e:O[A]? =some (.lst xs)):StAt (O.set A x) sf Z s:=by
 obtain⟨⟨q,rd,lv,d,a,n,U,is,X,hs,hQ,hW,hR,h1,h2,h3⟩,h4,h5⟩:=h
 have F:Fr O (O.set A x) [A]:=Fr.set (by simp)
 have S:SOk O a U [A]:=fun j hj=> by simp at hj; subst hj; exact .inr ⟨⟨_,e⟩,h3 _ hA⟩
 have K:=S.kp F
 have nA:∀{j:Nat} {o:FO},O[j]? =some o->(∀vs,o≠ .lst vs)->j∉[A]:=fun {j o} e' ho hj=> by
  simp at hj; subst hj; rw[e] at e'; injection e' with e'; exact ho _ e'.symm
 refine⟨⟨q,rd,lv,d,a,n,U,is,X,F.get hs (nA hs (by simp)),hQ.fr F S,?_,fun z=> ?_,h1,fun j hj=> ?_,h3⟩,h4,h5⟩
 .obtain⟨⟨a1,a2,a3,a4,a5,a6,a7,a8,b1,b2,b3⟩⟩:=hW
  exact⟨⟨a1,a2,a3,a4,a5,a6,a7,a8,F.get b1 (nA b1 (by simp[zae])),F.get b2 (by simp; rintro rfl; exact h1.2.2 hA),b3.keep F K fun i hi=> by obtain⟨vs,e'⟩:=b3.ins i hi; exact nA e' (by simp)⟩⟩
 .have hr:=hR z
  obtain⟨a1,a2,a3,a4,a5,a6,b1,_⟩:=hr.ex
  exact hr.same F K (nA b1 (by simp[zae])) (by simp; rintro rfl; exact h1.2.2 hA) (fun i hi=> by obtain⟨vs,e'⟩:=hr.lvs.ins i hi; exact nA e' (by simp)) (fun i hi=> by simp; rintro rfl; exact (h2 i hi).2.2.2 hA)
 .obtain⟨m1,m2,m3,m4⟩:=h2 j hj
  exact⟨m1,m2,by simp; exact m3,m4⟩
def zzz(ns:List Int)(at_:Nat):Option Nat:=match ns.drop at_ with
 | []=> none
 | p::r=> if p=2\/p=6\/p=7\/p=8\/p=9 then some (at_ + 1) else if p=4 then some (at_ + 2) else if p=3 then (r[1]?).map fun k=> at_ + 3 + k.toNat else if p=1\/p=5 then (r[0]?).map fun k=> at_ + 2 + k.toNat else none
def inL(ns:List Int):List FV:=ns.map FV.int
theorem atI{i:Int}{n:Nat}(e:i=(n:Int)):atF (inL ns) i=(ns[n]?).map FV.int:=by rw[e,zmE]; unfold inL; rw[List.getElem?_map]
theorem ztC:(inL ns).length=ns.length:=by unfold inL; simp
theorem ztT{at_ p:Int}(h1:O[C]? =some (.fz (inL ns)))(g:atF (inL ns) at_=some (.int p))(hp:([2,6,7,8,9]:List Int).contains p=true):zaV [.ref C,.int at_] O=some (.int (at_ + 1),O):=by
 unfold zaV zcc
 walk_at "evh"
theorem c4:([2,6,7,8,9]:List Int).contains 4=false:=rfl
theorem c3:([2,6,7,8,9]:List Int).contains 3=false:=rfl
theorem c1:([2,6,7,8,9]:List Int).contains 1=false:=rfl
theorem c5:([2,6,7,8,9]:List Int).contains 5=false:=rfl
theorem c11:([1,5]:List Int).contains 1=true:=rfl
theorem c55:([1,5]:List Int).contains 5=true:=rfl
theorem ztR{at_:Int}(h1:O[C]? =some (.fz (inL ns)))(g:atF (inL ns) at_=some (.int 4)):zaV [.ref C,.int at_] O=some (.int (at_ + 2),O):=by
 have h:=c4
 unfold zaV zcc
 walk_at "evh"
theorem ztS{at_ k:Int}(h1:O[C]? =some (.fz (inL ns)))(g:atF (inL ns) at_=some (.int 3))(g2:atF (inL ns) (at_ + 2)=some (.int k)):zaV [.ref C,.int at_] O=some (.int (at_ + 3 + k),O):=by
 have h:=c3
 unfold zaV zcc
 walk_at "evh"
theorem zrA{at_ k:Int}(h1:O[C]? =some (.fz (inL ns)))(g:atF (inL ns) at_=some (.int 1))(g2:atF (inL ns) (at_ + 1)=some (.int k)):zaV [.ref C,.int at_] O=some (.int (at_ + 2 + k),O):=by
 have h:=c1
 have h':=c11
 unfold zaV zcc
 walk_at "evh"
theorem zrz{at_ k:Int}(h1:O[C]? =some (.fz (inL ns)))(g:atF (inL ns) at_=some (.int 5))(g2:atF (inL ns) (at_ + 1)=some (.int k)):zaV [.ref C,.int at_] O=some (.int (at_ + 2 + k),O):=by
 have h:=c5
 have h':=c55
 unfold zaV zcc
 walk_at "evh"
theorem zwx{xs row:List FV}(h1:O[C]? =some (.lst xs))(g:atF xs 0=some (.int 1))(hr:slc1 xs (.int 2)=some row):zaP [.ref sf,.ref C] O=zfl [.ref O.length] (O ++ [.lst row]):=by
 unfold zaP zbW
 walk_at "evh"
 generalize zfl _ _=x; cases x <;> rfl
theorem zww{xs vs:List FV}(hs:O[sf]? =some (.ins 5 vs))(h1:O[C]? =some (.lst xs))(g:atF xs 0=some (.int 2)):zaP [.ref sf,.ref C] O=zcg [.ref sf] O:=by
 unfold zaP zbW
 walk_at "evh"
 generalize zcg _ _=x; cases x <;> rfl
theorem zwv{xs vs row:List FV}{z:FV}(hs:O[sf]? =some (.ins 5 vs))(h1:O[C]? =some (.lst xs))(g:atF xs 0=some (.int 3))(g2:atF xs 1=some z)(hr:slc1 xs (.int 3)=some row):zaP [.ref sf,.ref C] O=zbv [.ref sf,z,.ref O.length] (O ++ [.lst row]):=by
 unfold zaP zbW
 walk_at "evh"
 generalize zbv _ _=x; cases x <;> rfl
theorem zwu{xs vs:List FV}{z:FV}(hs:O[sf]? =some (.ins 5 vs))(h1:O[C]? =some (.lst xs))(g:atF xs 0=some (.int 4))(g2:atF xs 1=some z):zaP [.ref sf,.ref C] O=zb0 [.ref sf,z] O:=by
 unfold zaP zbW
 walk_at "evh"
 generalize zb0 _ _=x; cases x <;> rfl
theorem zwt{xs vs row:List FV}(hs:O[sf]? =some (.ins 5 vs))(h1:O[C]? =some (.lst xs))(g:atF xs 0=some (.int 5))(hr:slc1 xs (.int 2)=some row):zaP [.ref sf,.ref C] O=zbl [.ref sf,.ref O.length] (O ++ [.lst row]):=by
 unfold zaP zbW
 walk_at "evh"
 generalize zbl _ _=x; cases x <;> rfl
theorem zws{xs vs:List FV}(hs:O[sf]? =some (.ins 5 vs))(h1:O[C]? =some (.lst xs))(g:atF xs 0=some (.int 6)):zaP [.ref sf,.ref C] O=zbP [.ref sf] O:=by
 unfold zaP zbW
 walk_at "evh"
 generalize zbP _ _=x; cases x <;> rfl
theorem zwr{xs vs:List FV}(hs:O[sf]? =some (.ins 5 vs))(h1:O[C]? =some (.lst xs))(g:atF xs 0=some (.int 7)):zaP [.ref sf,.ref C] O=zce [.ref sf] O:=by
 unfold zaP zbW
 walk_at "evh"
 generalize zce _ _=x; cases x <;> rfl
theorem zwq{xs vs:List FV}(hs:O[sf]? =some (.ins 5 vs))(h1:O[C]? =some (.lst xs))(g:atF xs 0=some (.int 8)):zaP [.ref sf,.ref C] O=zcf [.ref sf] O:=by
 unfold zaP zbW
 walk_at "evh"
 generalize zcf _ _=x; cases x <;> rfl
theorem zwp{xs vs:List FV}(hs:O[sf]? =some (.ins 5 vs))(h1:O[C]? =some (.lst xs))(g:atF xs 0=some (.int 9)):zaP [.ref sf,.ref C] O=zch [.ref sf] O:=by
 unfold zaP zbW
 walk_at "evh"
 generalize zch _ _=x; cases x <;> rfl
end
section
variable {O:FH}{sf C:Nat}{Z:List Nat}{s:State}{ns:List Int}
theorem Did.sub{Z':List Nat}{r:State×Answer}{m:Option (FV×FH)}(h:Did O sf Z r m)(hZ:∀z∈Z',z∈Z):Did O sf Z' r m:=by
 obtain⟨O',k,h1,h2,h3,h4,h5⟩:=h
 exact⟨O',k,h1,h2,h3,h4.sub hZ,fun z hz=> h5 z (hZ z hz)⟩
theorem Did.old{r:State×Answer}{m:Option (FV×FH)}{x:FO}(h:Did (O ++ [x]) sf Z r m)(hZ:ZOk O Z):Did O sf Z r m:=by
 obtain⟨O',k,h1,h2,h3,h4,h5⟩:=h
 refine⟨O',k,h1,h2,by simp at h3; omega,h4,fun z hz=> ?_⟩
 rw[h5 z hz,za8]
 obtain⟨xs,e | e⟩:=hZ z hz <;> exact zaq e
theorem zl5{l:List Int}(h:∀x∈l,0<=x):fI (SqNeutral.nats l)=inL l:=by
 unfold fI SqNeutral.nats inL
 rw[List.map_map]
 apply List.map_congr_left
 intro x hx
 have:=h x hx
 show FV.int ((x.toNat:Nat):Int)=FV.int x
 rw[Int.toNat_of_nonneg this]
theorem zmN{r x t:List Int}(h:PyFlat.row r=some (x,t)):∃m r',r=m::r'/\0<=m/\m.toNat<=r'.length/\x=r'.take m.toNat/\t=r'.drop m.toNat:=by
 cases r with
 | nil=> cases h
 | cons m r'=>
  unfold PyFlat.row at h
  dsimp only at h
  split at h
  .rename_i hm
   injection h with h
   injection h with h1 h2
   exact⟨m,r',rfl,hm.1,hm.2,h1.symm,h2.symm⟩
  .cases h
theorem zu5{r:List Int}{xs:List (List Int)}{t:List Int}(h:PyFlat.rows 1 r=some (xs,t)):∃x,xs=[x]/\PyFlat.row r=some (x,t):=by
 unfold PyFlat.rows at h
 cases hr:PyFlat.row r with
 | none=> rw[hr] at h; cases h
 | some y=>
  obtain⟨x,s⟩:=y
  rw[hr] at h
  dsimp only at h
  unfold PyFlat.rows at h
  injection h with h
  injection h with h1 h2
  subst h1 h2
  exact⟨x,rfl,rfl⟩
def znw(ns:List Int)(at_:Nat)(c:List (List Int))(t:List Int):Prop:=
 ∃e,at_ < e/\e<=ns.length/\t=ns.drop e/\(
  (∃p,(p=2\/p=6\/p=7\/p=8\/p=9)/\e=at_ + 1/\ns[at_]? =some p/\c=[[p]])\/
  (∃x,e=at_ + 2/\ns[at_]? =some 4/\ns[at_ + 1]? =some x/\c=[[4,x]])\/
  (∃x m,e=at_ + 3 + m/\ns[at_]? =some 3/\ns[at_ + 1]? =some x/\ns[at_ + 2]? =some (m:Int)/\c=[[3,x],(ns.drop (at_ + 3)).take m])\/
  (∃p m,(p=1\/p=5)/\e=at_ + 2 + m/\ns[at_]? =some p/\ns[at_ + 1]? =some ((m:Nat):Int)/\c=[[p],(ns.drop (at_ + 2)).take m]))
theorem zhJ{l r:List Int}{n:Nat}{x:Int}(h:l.drop n=x::r):l[n]? =some x/\l.drop (n + 1)=r/\n < l.length:=by
 have hn:n < l.length:=by
  by_cases hn:n < l.length
  .exact hn
  .rw[List.drop_of_length_le (by omega)] at h; cases h
 rw[List.drop_eq_getElem_cons hn] at h
 injection h with h1 h2
 exact⟨by rw[List.getElem?_eq_getElem hn,h1],h2,hn⟩
theorem zuf{at_:Nat}{c:List (List Int)}{t:List Int}(h:PyFlat.call PyWqaysf.shape (ns.drop at_)=some (c,t)):znw ns at_ c t:=by
 cases hd:ns.drop at_ with
 | nil=> rw[hd] at h; cases h
 | cons p r=>
  rw[hd] at h
  obtain⟨g0,d1,l0⟩:=zhJ hd
  unfold PyFlat.call at h
  dsimp only at h
  have plain:PyWqaysf.shape p=some (0,0)->(p=2\/p=6\/p=7\/p=8\/p=9)->znw ns at_ c t:=fun hs hp=> by
   rw[hs] at h
   dsimp only at h
   rw[if_neg (by omega)] at h
   unfold PyFlat.rows at h
   injection h with h
   injection h with h1 h2
   simp at h1 h2
   exact⟨at_ + 1,by omega,by omega,by rw[d1,h2],.inl ⟨p,hp,rfl,g0,h1.symm⟩⟩
  have one:PyWqaysf.shape p=some (0,1)->(p=1\/p=5)->znw ns at_ c t:=fun hs hp=> by
   rw[hs] at h
   dsimp only at h
   rw[if_neg (by omega)] at h
   cases hr:PyFlat.rows 1 (r.drop 0) with
   | none=> rw[hr] at h; cases h
   | some y=>
    obtain⟨xs,t'⟩:=y
    rw[hr] at h
    injection h with h
    injection h with h1 h2
    subst h2
    obtain⟨x,rfl,hrow⟩:=zu5 hr
    obtain⟨m,r',e1,e2,e3,e4,e5⟩:=zmN hrow
    rw[List.drop_zero] at e1
    rw[e1] at d1
    obtain⟨g1,d2,l1⟩:=zhJ d1
    have hl:r'.length=ns.length - (at_ + 2):=by rw[<- d2]; simp
    refine⟨at_ + 2 + m.toNat,by omega,by omega,?_,.inr (.inr (.inr ⟨p,m.toNat,hp,rfl,g0,?_,?_⟩))⟩
    .rw[e5,<- d2,List.drop_drop]
    .rw[g1,Int.toNat_of_nonneg e2]
    .rw[<- h1,e4]; show [p::r.take 0,_]=_; rw[d2]; rfl
  by_cases p1:p=1
  .exact one (by rw[p1]; rfl) (.inl p1)
  by_cases p2:p=2
  .exact plain (by rw[p2]; rfl) (by simp[p2])
  by_cases p3:p=3
  .subst p3
   have hs:PyWqaysf.shape 3=some (1,1):=rfl
   rw[hs] at h
   dsimp only at h
   split at h
   .cases h
   .rename_i hlt
    cases r with
    | nil=> simp at hlt
    | cons x r=>
     obtain⟨g1,d2,l1⟩:=zhJ d1
     cases hr:PyFlat.rows 1 ((x::r).drop 1) with
     | none=> rw[hr] at h; cases h
     | some y=>
      obtain⟨xs,t'⟩:=y
      rw[hr] at h
      injection h with h
      injection h with h1 h2
      subst h2
      obtain⟨y,rfl,hrow⟩:=zu5 hr
      obtain⟨m,r',e1,e2,e3,e4,e5⟩:=zmN hrow
      have e1:r=m::r':=e1
      rw[e1] at d2
      obtain⟨g2,d3,l2⟩:=zhJ d2
      have hl:r'.length=ns.length - (at_ + 3):=by rw[<- d3]; simp
      refine⟨at_ + 3 + m.toNat,by omega,by omega,?_,.inr (.inr (.inl ⟨x,m.toNat,rfl,g0,g1,?_,?_⟩))⟩
      .rw[e5,<- d3,List.drop_drop]
      .rw[g2,Int.toNat_of_nonneg e2]
      .rw[<- h1,e4,d3]; rfl
  by_cases p4:p=4
  .subst p4
   have hs:PyWqaysf.shape 4=some (1,0):=rfl
   rw[hs] at h
   dsimp only at h
   split at h
   .cases h
   .rename_i hlt
    cases r with
    | nil=> simp at hlt
    | cons x r=>
     obtain⟨g1,d2,l1⟩:=zhJ d1
     unfold PyFlat.rows at h
     injection h with h
     injection h with h1 h2
     simp at h1 h2
     exact⟨at_ + 2,by omega,by omega,by rw[d2,h2],.inr (.inl ⟨x,rfl,g0,g1,h1.symm⟩)⟩
  by_cases p5:p=5
  .exact one (by rw[p5]; rfl) (.inr p5)
  by_cases p6:p=6
  .exact plain (by rw[p6]; rfl) (by simp[p6])
  by_cases p7:p=7
  .exact plain (by rw[p7]; rfl) (by simp[p7])
  by_cases p8:p=8
  .exact plain (by rw[p8]; rfl) (by simp[p8])
  by_cases p9:p=9
  .exact plain (by rw[p9]; rfl) (by simp[p9])
  .exfalso
   have hs:PyWqaysf.shape p=none:=by unfold PyWqaysf.shape; simp[p1,p2,p3,p4,p5,p6,p7,p8,p9]
   rw[hs] at h
   cases h
end
section
variable {O:FH}{sf C:Nat}{Z:List Nat}{s:State}{ns:List Int}
theorem zrU{at_ e j:Nat}(h:at_ + j < e):((ns.take e).drop at_)[j]? =ns[at_ + j]?:=by
 rw[List.getElem?_drop,List.getElem?_take,if_pos h]
theorem znr{at_ e j:Nat}:((ns.take e).drop at_).drop j=(ns.drop (at_ + j)).take (e - (at_ + j)):=by
 rw[List.drop_drop,List.drop_take]
theorem zhn{at_ e j:Nat}{x:Int}(h:at_ + j < e)(hx:ns[at_ + j]? =some x):atF (inL ((ns.take e).drop at_)) (j:Int)=some (.int x):=by
 rw[atI (n:=j) rfl,zrU h,hx]; rfl
theorem zr6{l:List Int}{j:Nat}:slc1 (inL l) (.int (j:Int))=some (inL (l.drop j)):=by
 unfold slc1
 dsimp only
 rw[if_pos (by omega),Int.toNat_natCast]
 unfold inL; rw[List.map_drop]
theorem zqX{at_:Nat}{c:List (List Int)}{t:List Int}(hc:znw ns at_ c t)(hlen:ns.length<=69000)(hnn:∀x∈ns,0<=x):
  ∃(e:Nat) (x:Sq.Call),at_ < e/\e<=ns.length/\t=ns.drop e/\SqNeutral.callOf (PyWqaysf.whole c)=some x/\zhT x + 1<=e - at_/\(∀(O:FH) (D:Nat),O[D]? =some (.fz (inL ns))->zaV [.ref D,.int at_] O=some (.int e,O))/\
   ∀(O:FH) (s:State) (C:Nat) (Z:List Nat),O[C]? =some (.lst (inL ((ns.take e).drop at_)))->StAt O sf Z s->ZOk O Z->Did O sf Z (Sq.step s x) (zaP [.ref sf,.ref C] O):=by
 obtain⟨e,he1,he2,ht,hc⟩:=hc
 have sfo:∀{O:FH} {Z:List Nat} {s:State},StAt O sf Z s->∃vs,O[sf]? =some (.ins 5 vs):=fun h=> by
  obtain⟨q,rd,lv,d,a,n,U,is,X,hs,_⟩:=h.ex
  exact⟨_,hs⟩
 have hrow:∀k m,∀x∈(ns.drop k).take m,0<=x:=fun k m x hx=> hnn x (List.drop_subset _ _ (List.take_subset _ _ hx))
 have hrl:∀k m,((ns.drop k).take m).length<=69000:=fun k m=> by
  rw[List.length_take,List.length_drop]; omega
 rcases hc with⟨p,hp,rfl,g0,rfl⟩ |⟨x,rfl,g0,g1,rfl⟩ |⟨x,m,rfl,g0,g1,g2,rfl⟩ |⟨p,m,hp,rfl,g0,g1,rfl⟩
 .have E0:∀(O:FH) (D:Nat),O[D]? =some (.fz (inL ns))->zaV [.ref D,.int at_] O=some (.int ((at_ + 1:Nat):Int),O):=fun O D hD=> by
   have:=ztT (p:=p) hD (by rw[atI (n:=at_) rfl,g0]; rfl) (by rcases hp with rfl | rfl | rfl | rfl | rfl <;> rfl)
   rw[this]; congr 3
  have a0:atF (inL ((ns.take (at_ + 1)).drop at_)) 0=some (.int p):=zhn (j:=0) (by omega) g0
  rcases hp with rfl | rfl | rfl | rfl | rfl
  .exact⟨at_ + 1,.begin_,he1,he2,ht,rfl,by simp[zhT],E0,fun O s C Z hC h hZ=> by obtain⟨vs,hs⟩:=sfo h; rw[zww hs hC a0]; exact zuc h hZ⟩
  .exact⟨at_ + 1,.end_,he1,he2,ht,rfl,by simp[zhT],E0,fun O s C Z hC h hZ=> by obtain⟨vs,hs⟩:=sfo h; rw[zws hs hC a0]; exact zyo h hZ⟩
  .exact⟨at_ + 1,.place,he1,he2,ht,rfl,by simp[zhT],E0,fun O s C Z hC h hZ=> by obtain⟨vs,hs⟩:=sfo h; rw[zwr hs hC a0]; exact zt8 h hZ⟩
  .exact⟨at_ + 1,.depth,he1,he2,ht,rfl,by simp[zhT],E0,fun O s C Z hC h hZ=> by obtain⟨vs,hs⟩:=sfo h; rw[zwq hs hC a0]; exact zua h hZ⟩
  .exact⟨at_ + 1,.asked,he1,he2,ht,rfl,by simp[zhT],E0,fun O s C Z hC h hZ=> by obtain⟨vs,hs⟩:=sfo h; rw[zwp hs hC a0]; exact zud h hZ⟩
 .have hx0:0<=x:=hnn x (List.mem_of_getElem? g1)
  refine⟨at_ + 2,.drop x.toNat,he1,he2,ht,rfl,by simp[zhT],fun O D hD=> ?_,fun O s C Z hC h hZ=> ?_⟩
  .rw[ztR hD (by rw[atI (n:=at_) rfl,g0]; rfl)]; congr 3
  .obtain⟨vs,hs⟩:=sfo h
   rw[zwu hs hC (zhn (j:=0) (by omega) g0) (zhn (j:=1) (by omega) g1)]
   have:=zwI (k:=x.toNat) h hZ
   rw[Int.toNat_of_nonneg hx0] at this
   exact this
 .have hx0:0<=x:=hnn x (List.mem_of_getElem? g1)
  refine⟨at_ + 3 + m,.ask x.toNat (SqNeutral.nats ((ns.drop (at_ + 3)).take m)),he1,he2,ht,rfl,by simp only[zhT]; omega,fun O D hD=> ?_,fun O s C Z hC h hZ=> ?_⟩
  .rw[ztS (k:=(m:Int)) hD (by rw[atI (n:=at_) rfl,g0]; rfl) (by rw[atI (n:=at_ + 2) (by omega),g2]; rfl)]; congr 3
  .obtain⟨vs,hs⟩:=sfo h
   have hr:=zr6 (l:=(ns.take (at_ + 3 + m)).drop at_) (j:=3)
   rw[znr,show at_ + 3 + m - (at_ + 3)=m by omega] at hr
   rw[zwv hs hC (zhn (j:=0) (by omega) g0) (zhn (j:=1) (by omega) g1) hr]
   have h':=h.new (Fr.new (x:= .lst (inL ((ns.drop (at_ + 3)).take m))))
   have hZ':ZOk (O ++ [.lst (inL ((ns.drop (at_ + 3)).take m))]) Z:=hZ.keep fun z hz=> za8 (by obtain⟨xs,e | e⟩:=hZ z hz <;> exact zaq e)
   have:=zyp (p:=O.length) (path:=SqNeutral.nats ((ns.drop (at_ + 3)).take m)) (z:=x.toNat) h' hZ' (by rw[zaO rfl,zl5 (hrow _ _)]) (by unfold SqNeutral.nats; rw[List.length_map]; exact hrl _ _)
   rw[Int.toNat_of_nonneg hx0] at this
   exact this.old hZ
 .have E0:∀(O:FH) (D:Nat),O[D]? =some (.fz (inL ns))->zaV [.ref D,.int at_] O=some (.int ((at_ + 2 + m:Nat):Int),O):=fun O D hD=> by
   rcases hp with rfl | rfl
   .rw[zrA (k:=(m:Int)) hD (by rw[atI (n:=at_) rfl,g0]; rfl) (by rw[atI (n:=at_ + 1) (by omega),g1]; rfl)]; congr 3
   .rw[zrz (k:=(m:Int)) hD (by rw[atI (n:=at_) rfl,g0]; rfl) (by rw[atI (n:=at_ + 1) (by omega),g1]; rfl)]; congr 3
  have hr:=zr6 (l:=(ns.take (at_ + 2 + m)).drop at_) (j:=2)
  rw[znr,show at_ + 2 + m - (at_ + 2)=m by omega] at hr
  have hln:(SqNeutral.nats ((ns.drop (at_ + 2)).take m)).length<=m:=by unfold SqNeutral.nats; rw[List.length_map,List.length_take]; omega
  have hZn:∀{O:FH} {Z:List Nat},ZOk O Z->∀x,ZOk (O ++ [x]) Z:=fun {O Z} hZ x=> hZ.keep fun z hz=> za8 (by obtain⟨xs,e | e⟩:=hZ z hz <;> exact zaq e)
  rcases hp with rfl | rfl
  .refine⟨at_ + 2 + m,.check (SqNeutral.nats ((ns.drop (at_ + 2)).take m)),he1,he2,ht,rfl,by simp[zhT]; omega,E0,fun O s C Z hC h hZ=> ?_⟩
   rw[zwx hC (zhn (j:=0) (by omega) g0) hr]
   have h':=h.new (Fr.new (x:= .lst (inL ((ns.drop (at_ + 2)).take m))))
   have:=zub (p:=O.length) (path:=SqNeutral.nats ((ns.drop (at_ + 2)).take m)) h' (hZn hZ _) (by rw[zaO rfl,zl5 (hrow _ _)]) (by unfold SqNeutral.nats; rw[List.length_map]; exact hrl _ _)
   exact this.old hZ
  .refine⟨at_ + 2 + m,.feed (SqNeutral.nats ((ns.drop (at_ + 2)).take m)),he1,he2,ht,rfl,by simp only[zhT]; omega,E0,fun O s C Z hC h hZ=> ?_⟩
   obtain⟨vs,hs⟩:=sfo h
   rw[zwt hs hC (zhn (j:=0) (by omega) g0) hr]
   have h':=h.add (T:=O.length) (Nat.le_refl _) (Fr.new (x:= .lst (inL ((ns.drop (at_ + 2)).take m))))
   have hZ2:ZOk (O ++ [.lst (inL ((ns.drop (at_ + 2)).take m))]) (O.length::Z):=fun z hz=> by
    rcases List.mem_cons.mp hz with rfl | hz
    .exact⟨_,.inl (zaO rfl)⟩
    .exact hZn hZ _ z hz
   have:=zwH (R:=O.length) (b:=SqNeutral.nats ((ns.drop (at_ + 2)).take m)) h' hZ2 (by simp) (by rw[zaO rfl,zl5 (hrow _ _)])
   exact (this.sub (by intro z hz; simp[hz])).old hZ
end
section
variable {O:FH}{sf A:Nat}{s:State}{ns:List Int}
def anC:MT:=(tCmp cLt (eV 3) (eLen (eV 0)))
def anB:MS:=(sSeq (sSet 4 (eCall zaV (aCons (eV 0) (aCons (eV 3) aNil)))) (sSeq (sSet 5 (eCall zaP (aCons (eV 1) (aCons (eSl2 (eV 0) (eV 3) (eV 4)) aNil)))) (sSeq (sEx (eApp (eV 2) (eLen (eV 5)))) (sSeq (sEx (eExt (eV 2) (eV 5))) (sSet 3 (eV 4))))))
theorem zwy{x1 x2 x4 x5:Option FV}{at_:Int}{xs:List FV}(h1:O[0]? =some (.fz xs)):anC [some (.ref 0),x1,x2,some (.int at_),x4,x5] O=some (decide (at_ < xs.length),O):=by
 unfold anC
 walk_at "evh"
theorem zwz{x4 x5:Option FV}{at_ e:Int}{xs row ans res:List FV}{O2:FH}{k:Nat}(h0:O[0]? =some (.fz xs))(E1:zaV [.ref 0,.int at_] O=some (.int e,O))(hs:slc2 xs (.int at_) (.int e)=some row)(E2:zaP [.ref sf,.ref O.length] (O ++ [.lst row])=some (.ref k,O2))(hk:O2[k]? =some (.lst res))(hA:O2[A]? =some (.lst ans))(lA:A < O2.length)(nAk:A≠k)(hl1:ans.length < LIM)(hl2:(ans ++ [FV.int res.length]).length + res.length<=LIM):
  anB [some (.ref 0),some (.ref sf),some (.ref A),some (.int at_),x4,x5] O=some (.nx [some (.ref 0),some (.ref sf),some (.ref A),some (.int e),some (.int e),some (.ref k)],O2.set A (.lst (ans ++ [.int res.length] ++ res))):=by
 unfold anB
 walk_at "evh"
theorem zl1{c:List (List Int)}{cs:List (List (List Int))}:(PyFlat.told (PyFlat.played SqNeutral.step s (c::cs))).map FV.int=FV.int ((SqNeutral.step s c).2.length:Int)::((SqNeutral.step s c).2.map FV.int ++ (PyFlat.told (PyFlat.played SqNeutral.step (SqNeutral.step s c).1 cs)).map FV.int):=by
 rw[PyFlat.played]
 unfold PyFlat.told
 rw[List.flatMap_cons,List.map_append]
 rfl
theorem zm5(hlen:ns.length<=69000)(hnn:∀x∈ns,0<=x)(hA0:A≠0):∀(f fuel at_:Nat) (cs:List (List (List Int))) (s:State) (O:FH) (ans:List FV) (x4 x5:Option FV),PyFlat.calls PyWqaysf.shape f (ns.drop at_)=some cs->at_<=ns.length->StAt O sf [0,A] s->O[0]? =some (.fz (inL ns))->O[A]? =some (.lst ans)->ans.length + psi s<=80 * at_->ns.length - at_ < fuel->
  ∃(O':FH) (y3 y4 y5:Option FV),loopW anC anB fuel [some (.ref 0),some (.ref sf),some (.ref A),some (.int at_),x4,x5] O=some (.nx [some (.ref 0),some (.ref sf),some (.ref A),y3,y4,y5],O')/\O'[A]? =some (.lst (ans ++ (PyFlat.told (PyFlat.played SqNeutral.step s (cs.map PyWqaysf.whole))).map FV.int))
 | _,0,_,_,_,_,_,_,_,_,_,_,_,_,_,hf=> by omega
 | f,fuel + 1,at_,cs,s,O,ans,x4,x5,hc,ha,hS,h0,hA,hsz,hf=> by
  rw[loopW,zwy h0,zbN]
  dsimp only
  rw[ztC]
  by_cases hend:at_ < ns.length
  .rw[if_pos (by simp; exact hend)]
   cases hd:ns.drop at_ with
   | nil=>
    have:=congrArg List.length hd
    simp at this; omega
   | cons p r=>
    cases f with
    | zero=> rw[hd] at hc; cases hc
    | succ f=>
     rw[hd] at hc
     unfold PyFlat.calls at hc
     cases hcall:PyFlat.call PyWqaysf.shape (p::r) with
     | none=> rw[hcall] at hc; cases hc
     | some y=>
      obtain⟨c,t⟩:=y
      rw[hcall] at hc
      dsimp only at hc
      rw[<- hd] at hcall
      obtain⟨e,x,he1,he2,ht,hx,hcost,E1,hdid⟩:=zqX (sf:=sf) (zuf hcall) hlen hnn
      cases hcs:PyFlat.calls PyWqaysf.shape f t with
      | none=> rw[hcs] at hc; cases hc
      | some cs'=>
       rw[hcs] at hc
       injection hc with hc
       subst hc
       have hZ:ZOk O [0,A]:=fun z hz=> by
        simp at hz
        rcases hz with rfl | rfl
        .exact⟨_,.inr h0⟩
        .exact⟨_,.inl hA⟩
       have l0:=zaq h0
       have lA:=zaq hA
       have hslc:slc2 (inL ns) (.int (at_:Int)) (.int (e:Int))=some (inL ((ns.take e).drop at_)):=by
        unfold slc2
        dsimp only
        rw[if_pos (by omega),Int.toNat_natCast,Int.toNat_natCast]
        unfold inL; rw[List.map_drop,List.map_take]
       have F1:Fr O (O ++ [FO.lst (inL ((ns.take e).drop at_))]) []:=Fr.new
       have hZ1:ZOk (O ++ [FO.lst (inL ((ns.take e).drop at_))]) [0,A]:=hZ.keep fun z hz=> za8 (by obtain⟨xs,e | e⟩:=hZ z hz <;> exact zaq e)
       obtain⟨O2,k,E2,hk,lk,hS2,hz2⟩:=hdid _ s O.length [0,A] (zaO rfl) (hS.new F1) hZ1
       have h02:O2[0]? =some (.fz (inL ns)):=by rw[hz2 0 (by simp),za8 l0]; exact h0
       have hA2:O2[A]? =some (.lst ans):=by rw[hz2 A (by simp),za8 lA]; exact hA
       have hst:=zsM s x
       have nAk:A≠k:=by simp at lk; omega
       have e1:SqNeutral.step s (PyWqaysf.whole c)=((Sq.step s x).1,SqNeutral.told (Sq.step s x).2):=by
        unfold SqNeutral.step; rw[hx]
       have EB:=zwz (x4:=x4) (x5:=x5) h0 (E1 O 0 h0) hslc E2 hk hA2 (zaq hA2) nAk (by unfold LIM; omega) (by rw[List.length_append,List.length_map]; simp only[List.length_cons,List.length_nil]; unfold LIM; omega)
       rw[EB,zbN]
       dsimp only
       subst ht
       obtain⟨O',y3,y4,y5,k1,k2⟩:=zm5 hlen hnn hA0 f fuel e cs' (Sq.step s x).1 _ (ans ++ [.int ((SqNeutral.told (Sq.step s x).2).map FV.int).length] ++ (SqNeutral.told (Sq.step s x).2).map FV.int) (some (.int e)) (some (.ref k)) hcs he2 (hS2.zset (by simp) hA2) (by rw[zaR hA0]; exact h02) (za7 (zaq hA2)) (by
        simp only[List.length_append,List.length_map,List.length_cons,List.length_nil]; omega) (by omega)
       refine⟨O',y3,y4,y5,k1,?_⟩
       rw[k2,List.map_cons,zl1,e1]
       congr 2
       simp[List.length_map]
  .rw[if_neg (by simp; omega)]
   have hd:ns.drop at_=[]:=List.drop_of_length_le (by omega)
   rw[hd] at hc
   have:cs=[]:=by cases f <;> (unfold PyFlat.calls at hc; injection hc with hc; exact hc.symm)
   subst this
   exact⟨O,_,_,_,rfl,by rw[hA]; simp[PyFlat.played,PyFlat.told]⟩
theorem zn3{xs:List FV}{O1 O':FH}{y3 y4 y5:Option FV}(h0:O[0]? =some (.fz xs))(E1:zbV [.ref O.length] (O ++ [.ins 5 []])=some (.non,O1))(E2:loopW anC anB 100000 [some (.ref 0),some (.ref O.length),some (.ref O1.length),some (.int 0),none,none] (O1 ++ [.lst []])=some (.nx [some (.ref 0),some (.ref O.length),some (.ref O1.length),y3,y4,y5],O')):zgq [.ref 0] O=some (.ref O1.length,O'):=by
 unfold anC anB at E2
 unfold zgq zgF
 walk_at "evh"
theorem main_eq(ns:List Int)(hlen:ns.length<=69000)(hr:∀x∈ns,0<=x/\x<=16383)(hask:PyWqaysf.answers_asked ns=true):
  ∃(O':FH) (k:Nat),zgq [.ref 0] [.fz (ns.map FV.int)]=some (.ref k,O')/\O'[k]? =some (.lst ((PyWqaysf.answers ns).map FV.int)):=by
 unfold PyWqaysf.answers_asked PyWqaysf.calls at hask
 unfold PyWqaysf.answers PyWqaysf.calls
 cases hc:PyFlat.calls PyWqaysf.shape ns.length ns with
 | none=> rw[hc] at hask; cases hask
 | some cs=>
  dsimp only
  have hZ:ZOk ([FO.fz (inL ns)] ++ [FO.ins 5 []]) [0]:=fun z hz=> by simp at hz; subst hz; exact⟨_,.inr rfl⟩
  obtain⟨O1,E1,hS,F1⟩:=zwD (O:=[FO.fz (inL ns)] ++ [FO.ins 5 []]) (sf:=1) (Z:=[0]) rfl hZ
  have h01:O1[0]? =some (.fz (inL ns)):=F1.get (i:=0) rfl (by simp)
  have l01:=zaq h01
  have hS1:=hS.add (T:=O1.length) (Nat.le_refl _) (Fr.new (x:= .lst []))
  obtain⟨O',y3,y4,y5,E2,hk⟩:=zm5 (sf:=1) (A:=O1.length) hlen (fun x hx=> (hr x hx).1) (by omega) ns.length 100000 0 cs start (O1 ++ [FO.lst []]) [] none none (by rw[List.drop_zero]; exact hc) (by omega) (hS1.sub (by intro z hz; simp at hz |-; rcases hz with h | h <;> simp[h])) (by rw[za8 l01]; exact h01) (zaO rfl) (by simp[psi,start,fresh]) (by omega)
  refine⟨O',O1.length,?_,hk⟩
  exact zn3 (O:=[FO.fz (inL ns)]) rfl E1 E2
end
end
end TS
structure PySem.W.Fast:Prop where
 (tw16117514888035917327 tw15168021941196615819 tw4971968803441933763 tw7750199373890281306 tw4713821149426398869 tw1672089101502582615 tw9678035791146325593 tw8115065866072503132 tw13206243693795667388 tw15327400139660455366 tw13097723820101845245 tw8616202794594128678 tw12463088168039066818 tw304368507640626010 tw15967132582369734928 tw3945705240008891321 tw17000502945353574938 tw17178723419909402508 tw909500274034623070 tw15827287438705604534 tw10580618496446462439 tw6064966489787710854 tw16213711996782095251 tw1643700506078508631 tw2312270713769461244 tw2014437549243982831 tw15679840671295606022 tw2554083197910682862 tw5886677036334130169 tw16412565363179662842 tw16008926768762243190 tw8137448751024364888 tw15914388342558313514 tw6839734973413710578 tw13752336782614981723 tw12379124523429352449 tw15638938755474950541 tw13731957323773441408 tw16608934410194507558 tw14712533112178173745 tw17509273267873980227 tw15154780842284586800 tw11302816533591461012 tw4588666505166736960 tw12380811950607552051 tw6792273649385602775 tw15234976014801675396 tw9323580038801787086 tw5256209065908335112 tw14308512690854713836 tw1763169182437001482 tw8163687109774263345 tw1511175302575627694 tw14838038751127869129 tw1740217001693183112 tw13466319754550629353 tw12295186450036763214 tw361210436711210491 tw15192935780551332145 tw13066217392247262814 tw2381555447715155946 tw13466867957071132294 tw10957716084674609889 tw15574112768476645000 tw6944621117449607498 tw9007097718688909380 tw15221679130030874889 tw9347003450033696296 tw13660970378893891224 tw10779328793407224903 tw10570125268806625063 tw16265119595134761793 tw8859840182452628266 tw6880805240852851128 tw15366858203350917438 tw4857190170656811399 tw4585652061715922370 tw8812551036580489831 tw6774632813760022649 tw8064432988997714444 tw17825540886689117240 tw3267658587830883101 tw9291327088416626184 tw16181045651434479097 tw2252502116556048693 tw12484137459453637914 tw16262365529110110642 tw11397042339087357516 tw6922609228587001686 tw11256179738046228138 tw6274659785600141342 tw4693443987738733524 tw12187066952040064855 tw14770482414220368219 tw76402498769228670 tw11294878744637228646 tw18277047813098041688 tw6746294463386914871 tw5352299447514909804 tw12230822170620270932 tw5407854901579407913 tw502029359954220193 tw8099396749148452824 tw973047797149157294 tw913432038597711797 tw8989217979237609316 tw16217260506059322136 tw16899774620042731159 tw3976474751069056612 tw5248382459055716336 tw6468626812497470185 tw3653327855996404938 tw9080381555218785615 tw11499685597660339916 tw7107909606400731026 tw14913624534884144078 tw13366527863095883314 tw8823679870411200354 tw8859522956287162017 tw3475110540450007386 tw15643167632510826495 tw8083564848600440297 tw4609910890182807161 tw14696268464557479148 tw8451491704098209636 tw2395427399680874646 tw14575831420255675418 tw1481746721653408118 tw12984926907955168307 tw14089401769911143131 tw9705370920976423130 tw7448908531843313904 tw8560363298167881869 tw11560918881084781645 tw13302125695341680734 tw10003965293170528780 tw12023890823840715665 tw15625013809405250987 tw12967993217203255712 tw14647456623267326823 tw1463682365758916235 tw6203463961703121450 tw1681311938867745288 tw5194679142119686040 tw16436940869981885278 tw14053791212878952887 tw7974871263771744412 tw8358873702920044318 tw16330531725420650527 tw1179652834188486265 tw1650149285845007407 tw3425591076037936422 tw3760682189861144314 tw4844392109941723023 tw8354568619308594314 tw18178436578351196897 tw9155414311803422346 tw9830873086594422519 tw18279900625515418059 tw11106677183207022795 tw2075551748848335986 tw15662769587150156642 tw15130280401460456068 tw15606394441929400932 tw376605465040448007 tw6895429428375389183 tw17167537078222761435 tw11346367744424131252 tw2620020032979918018 tw672000694682225543 tw1127693728898778676 tw17907427351054786547 tw17461080690970967501 tw18385482061344726838 tw7390537715663007827 tw9770320375546123162 tw9363808958297495954 tw437181858989565508 tw1944794603554599546 tw16087206981703430263 tw7259918489795667258 tw11139798815088049402 tw16308303104213850330 tw5398085836123379126 tw12487092825617066244 tw18309358045125162790 tw8821836276143038995 tw15121636364587517075 tw14195111377208862781 tw9507298100418032344 tw11113571304980802495 tw17646890490597850555 tw13894587586937663873 tw2452265656856625200 tw14786307114457227032 tw8723543023443208861 tw15231799687086351334 tw13393959133311562467 tw17416822770770799870 tw488488046209799537 tw2281745952728285047 tw3843997863053760821 tw5539182177097862360 tw10376846274718998215 tw7395561807633139140 tw16205786363603172835 tw9034457179275204965 tw13614088834509476524 tw7648740821596115647 tw1634900841091073782 tw15199322081644780565 tw2316302665396421525 tw13584871449439521827 tw3909410474561278026 tw15921600488106918531 tw6414887640660876775 tw1674858967054345549 tw3048953042884992500 tw14894014488436641559 tw1927894975956668158 tw5949064922866036629 tw10481062061490379889 tw7433401264768336660 tw1717214738389458943 tw11928085560528623112 tw3145147581912953933 tw7161789870703138486 tw16312642445201248242 tw12987675120455238804 tw14985341109653154909 tw7232149610755956899 tw3486252459425963125 tw14124105358808711103 tw5304664137281123388 tw11075750213649566649 tw10836200407537794717 tw2536256029979701366 tw87453961770645859 tw12820799478783796488 tw165818023791158935 tw16843471514557757677 tw3614789858911421760 tw11835302478168860116 tw448156191008262573 tw448557070615822434 tw2963187016168553483 tw4134901960225510985 tw9821871349224020452 tw453384674065686893 tw8562002859253139322 tw2501576881607871853 tw5288975897734244110 tw11565752068984545583 tw13368440549997508813 tw9853820781896794327 tw14840681531920884574 tw9567707632348545245 tw17867629485291006852 tw1676401304800810634 tw12869074250223395713 tw17678334149454984482 tw944002904684508998 tw6556606394364323940 tw15393159076146500819 tw15725903448647174072 tw11038335446170906254 tw8814863831052173946 tw14844795072724314078 tw5753984543872644127 tw15118767470032059729 tw10299063393031301876 tw13439338418345406368 tw2812962521751869453 tw8073743039935252866 tw8316877392727335982 tw3514362999287461523 tw16455376980204564760 tw1837218244299839947 tw16549197157328488574 tw11395986588618934139 tw5047948871457994846 tw1202289180318467995 tw1699139062354603014 tw11008355123048079416 tw12807582677230162972 tw12119719545302709831 tw4155297012507351234 tw14215050164169096185 tw8682448445134737559 tw14928671519999860100 tw2416657147894851967 tw12023588494533515618 tw15171317789752644851 tw14274293733335335014 tw13999124448213246417 tw5409351715974900049 tw17597003447079005463 tw5639848427328178147 tw4060945931236238471 tw14121656658391868968 tw8044263745882621776 tw1433740954171779565 tw17892312749703814935 tw10127542974229765921 tw8668264669715030439 tw10861705896593637551 tw379788342426226202 tw9086002426323034492 tw10344945940542582126 tw9712258112782452638 tw2886610463971553975 tw772619767874853917 tw16597069024209161529 tw12676097558341514520 tw2182745913471761181 tw2513233988529900318 tw242955752592800681 tw7287342442730564363 tw13987284616608589391 tw6258926278429927568 tw9230504932362341983 tw11579052507626482712 tw17084365617779612755 tw13035314693747538014 tw9947495188139566308 tw8494326344324835629 tw14751371469325080144 tw7190811624165883590 tw2418571746142747433 tw4725823323389671286 tw12741611804218815514 tw13433142179187546753 tw4104539141801119481 tw12251239161843339179 tw1247954076275439220 tw16923275589698831379 tw3720677538109874064 tw16226141627584359867 tw16040026129069346314 tw4955988635716427371 tw3467907090640573948 tw16395474489834296596 tw1931390239494672326 tw3044089334013974565 tw15407046671367873973 tw8664192834839649304 tw4995698144159500191 tw3381796900350154518 tw11497665689326065472 tw743933738051673279 tw3184278953486277961 tw16261496273409040326 tw12518998159606229326 tw9388699695417865168 tw66943298483003686 tw4051143298640263090 tw15000246377941506531 tw16037607247197908053 tw5196636880263128551 tw16164805811192216998:True)
namespace TS
open PySem PySem.Spec PyProof.Rows L2
theorem l1{α:Type}{P:List α->Prop}(h:∀a,P [a]):∀us:List α,us.length=1->P us
 | [a],_=> h a
theorem l2{α:Type}{P:List α->Prop}(h:∀a b,P [a,b]):∀us:List α,us.length=2->P us
 | [a,b],_=> h a b
theorem l3{α:Type}{P:List α->Prop}(h:∀a b c,P [a,b,c]):∀us:List α,us.length=3->P us
 | [a,b,c],_=> h a b c
theorem l4{α:Type}{P:List α->Prop}(h:∀a b c d,P [a,b,c,d]):∀us:List α,us.length=4->P us
 | [a,b,c,d],_=> h a b c d
theorem ad0{a b c d e f g h i:Addr}:adOf a b c d e f g h i 0=a:=rfl
theorem ad1{a b c d e f g h i:Addr}:adOf a b c d e f g h i 1=b:=rfl
theorem ad2{a b c d e f g h i:Addr}:adOf a b c d e f g h i 2=c:=rfl
theorem ad3{a b c d e f g h i:Addr}:adOf a b c d e f g h i 3=d:=rfl
theorem ad4{a b c d e f g h i:Addr}:adOf a b c d e f g h i 4=e:=rfl
theorem ad5{a b c d e f g h i:Addr}:adOf a b c d e f g h i 5=f:=rfl
theorem mkB{K:PySem.W.Frag}{b6:Addr}{b6d:Option Addr}{b6n:Nat}{b6s:Array (Option Value)}{b60 b61 b62 b63:Tok}(lB:K.lookup b6=some ⟨.type "tuple",b6d,.seq #[.int 32 b60,.int 9 b61,.int 10 b62,.int 13 b63] b6n,b6s⟩):∀H,SqT K H b6 (([32,9,10,13]:List Int).map V.int):=fun _=> .inr ⟨_,_,_,lB,rfl,rfl,by show 4<=sizeLine; decide,.cons ⟨_,rfl⟩ (.cons ⟨_,rfl⟩ (.cons ⟨_,rfl⟩ (.cons ⟨_,rfl⟩ .nil)))⟩
theorem mkW{K:PySem.W.Frag}{b7:Addr}{b7d:Option Addr}{b7n:Nat}{b7s:Array (Option Value)}{b70 b71 b72:Tok}(lW:K.lookup b7=some ⟨.type "tuple",b7d,.seq #[.str "null" b70,.str "false" b71,.str "true" b72] b7n,b7s⟩):∀H,SqT K H b7 [.str "null",.str "false",.str "true"]:=fun _=> .inr ⟨_,_,_,lW,rfl,rfl,by show 3<=sizeLine; decide,.cons ⟨_,rfl⟩ (.cons ⟨_,rfl⟩ (.cons ⟨_,rfl⟩ .nil))⟩
theorem mkE{K:PySem.W.Frag}{b8:Addr}{b8n:Nat}{e0a e0b e1a e1b e2a e2b e3a e3b e4a e4b e5a e5b e6a e6b e7a e7b:Tok}(lE:K.lookup b8=some ⟨.type "dict",none,.dict #[⟨34,.int 34 e0a,.int 34 e0b⟩,⟨92,.int 92 e1a,.int 92 e1b⟩,⟨47,.int 47 e2a,.int 47 e2b⟩,⟨98,.int 98 e3a,.int 8 e3b⟩,⟨102,.int 102 e4a,.int 12 e4b⟩,⟨110,.int 110 e5a,.int 10 e5b⟩,⟨114,.int 114 e6a,.int 13 e6b⟩,⟨116,.int 116 e7a,.int 9 e7b⟩] b8n,#[]⟩)(sE:(b8==sysModules)=false):zqf K b8:=⟨_,_,_,lE,⟨rfl,rfl,rfl⟩,rfl,sE,.cons ⟨(show (34:Int)=hashInt 34 by decide +kernel),⟨_,rfl⟩,⟨_,rfl⟩⟩ (.cons ⟨(show (92:Int)=hashInt 92 by decide +kernel),⟨_,rfl⟩,⟨_,rfl⟩⟩ (.cons ⟨(show (47:Int)=hashInt 47 by decide +kernel),⟨_,rfl⟩,⟨_,rfl⟩⟩ (.cons ⟨(show (98:Int)=hashInt 98 by decide +kernel),⟨_,rfl⟩,⟨_,rfl⟩⟩ (.cons ⟨(show (102:Int)=hashInt 102 by decide +kernel),⟨_,rfl⟩,⟨_,rfl⟩⟩ (.cons ⟨(show (110:Int)=hashInt 110 by decide +kernel),⟨_,rfl⟩,⟨_,rfl⟩⟩ (.cons ⟨(show (114:Int)=hashInt 114 by decide +kernel),⟨_,rfl⟩,⟨_,rfl⟩⟩ (.cons ⟨(show (116:Int)=hashInt 116 by decide +kernel),⟨_,rfl⟩,⟨_,rfl⟩⟩ (.nil))))))))⟩
end TS
open PySem PySem.W PyProof.Rows TS
set_option maxRecDepth 100000 in
set_option maxHeartbeats 0 in
theorem PySem.Challenge.cw_textsift_s01_answers_holds : PySem.Challenge.rw_textsift_s01_answers.Holds := by
 w_on; k_headS; (case hw=> exact⟨[.list [.int 9]],by decide +kernel,by decide +kernel⟩)
 k_fillS
 refine L2.walk_specK (r:=PySem.Challenge.rw_textsift_s01_answers) (k:=12) (CX:=L2.CX0) (ps:=["calls"]) (sp:=TS.spAns) (by decide +kernel) rfl rfl ⟨rfl,by decide,by decide⟩ (fun w h Y=> PySem.W.kIn_of Y) ?F ?S (fun _ _ _ _ z=> z)
 case F=>
  intro w mg fa h Y KX G hmg
  refine' TS.fin_of (ad:=TS.adOf 149 205 240 367 543 633 15 372 245) TS.main_eq (T:=⟨rfl,⟨?_,?_,?_,?_⟩,
   ⟨?_,?_,?_,?_⟩,
   ⟨?_,?_,?_,?_⟩,
   ⟨?_,?_,?_,?_⟩,
   ⟨?_,?_,?_,?_⟩,
   ⟨?_,?_,?_,?_⟩,
   ?_,
   ?_,
   ?_,
   ?_,
   ?_,
   ?_,
   ?_,
   ?_,
   ?_,
   ?_,
   ?_,
   ?_,
   ?_,
   ?_,
   ?_,
   ?_,
   ?_,
   ?_,
   ?_,
   ?_,
   ?_,
   ?_,
   ?_,
   ?_,
   ?_,
   ?_,
   ?_,
   ?_,
   ?_,
   ?_,
   ?_,
   ?_,
   ?_,
   ?_,
   zdx KX G ?_,
   zdx KX G ?_,
   zdx KX G ?_,
   zdx KX G ?_,
   zdx KX G ?_,
   zdx KX G ?_,
   zdx KX G ?_,
   zdx KX G ?_,
   zdx KX G ?_,
   zdx KX G ?_,
   zdx KX G ?_,
   zdx KX G ?_,
   zdx KX G ?_,
   zdx KX G ?_,
   zdx KX G ?_,
   zdx KX G ?_,
   zdx KX G ?_,
   zdx KX G ?_,
   zdx KX G ?_,
   zdx KX G ?_,
   zdx KX G ?_,
   zdx KX G ?_,
   zdx KX G ?_,
   zdx KX G ?_,
   zdx KX G ?_,
   zdx KX G ?_,
   zdx KX G ?_,
   zdx KX G ?_,
   zdx KX G ?_,
   zdx KX G ?_,
   zdx KX G ?_,
   zdx KX G ?_,
   zdx KX G ?_,
   zdx KX G ?_,
   zdx KX G ?_,
   zdx KX G ?_,
   zdx KX G ?_,
   zdx KX G ?_,
   zdx KX G ?_,
   zdx KX G ?_,
   zdx KX G ?_,
   zdx KX G ?_,
   zdx KX G ?_,
   zdx KX G ?_,
   zdx KX G ?_,
   zdx KX G ?_,
   zdx KX G ?_,
   zdx KX G ?_,
   zdx KX G ?_,
   zdx KX G ?_,
   zdx KX G ?_,
   zdx KX G ?_,
   zdx KX G ?_,
   zdx KX G ?_,
   zdx KX G ?_,
   zdx KX G ?_,
   zdx KX G ?_,
   zdx KX G ?_,
   zdx KX G ?_,
   zdx KX G ?_,
   zdx KX G ?_,
   zdx KX G ?_,
   zdx KX G ?_,
   zdx KX G ?_,
   zdx KX G ?_,
   zdx KX G ?_,
   zdx KX G ?_,
   PySem.W.mg_of KX G ?_,
   mkB ?_,
   PySem.W.mg_of KX G ?_,
   mkW ?_,
   PySem.W.mg_of KX G ?_,
   mkE ?_ ?_,
   zts KX G ?_,
   zts KX G ?_,
   zts KX G ?_,
   zts KX G ?_,
   zts KX G ?_,
   zts KX G ?_,
   zts KX G ?_,
   zi9 KX G ?_ ?_ ?_ ?_ (fun _ _ _ _ _ _=> l1 fun _=> rfl),
   zi9 KX G ?_ ?_ ?_ ?_ (fun _ _ _ _ _ _=> l1 fun _=> rfl),
   zi9 KX G ?_ ?_ ?_ ?_ (fun _ _ _ _ _ _=> l2 fun _ _=> rfl),
   zi9 KX G ?_ ?_ ?_ ?_ (fun _ _ _ _ _ _=> l2 fun _ _=> rfl),
   zi9 KX G ?_ ?_ ?_ ?_ (fun _ _ _ _ _ _=> l3 fun _ _ _=> rfl),
   zi9 KX G ?_ ?_ ?_ ?_ (fun _ _ _ _ _ _=> l1 fun _=> rfl),
   zi9 KX G ?_ ?_ ?_ ?_ (fun _ _ _ _ _ _=> l3 fun _ _ _=> rfl),
   zi9 KX G ?_ ?_ ?_ ?_ (fun _ _ _ _ _ _=> l1 fun _=> rfl),
   zi9 KX G ?_ ?_ ?_ ?_ (fun _ _ _ _ _ _=> l1 fun _=> rfl),
   zuL KX G ?_ ?_ ?_ ?_ ?_ ?_ ?_ ?_ (fun _ _ _ _ _ _=> l1 fun _=> rfl),
   zeC ?_ ?_ ?_ ?_ ?_ (fun _ _ _ _ _ _=> l1 fun _=> rfl),
   zeC ?_ ?_ ?_ ?_ ?_ (fun _ _ _ _ _ _=> l4 fun _ _ _ _=> rfl),
   zeC ?_ ?_ ?_ ?_ ?_ (fun _ _ _ _ _ _=> l2 fun _ _=> rfl),
   zeC ?_ ?_ ?_ ?_ ?_ (fun _ _ _ _ _ _=> l1 fun _=> rfl),
   zeC ?_ ?_ ?_ ?_ ?_ (fun _ _ _ _ _ _=> l3 fun _ _ _=> rfl),
   zeC ?_ ?_ ?_ ?_ ?_ (fun _ _ _ _ _ _=> l3 fun _ _ _=> rfl),
   zeC ?_ ?_ ?_ ?_ ?_ (fun _ _ _ _ _ _=> l2 fun _ _=> rfl),
   zeC ?_ ?_ ?_ ?_ ?_ (fun _ _ _ _ _ _=> l2 fun _ _=> rfl),
   zi9 KX G ?_ ?_ ?_ ?_ (fun _ _ _ _ _ _=> l2 fun _ _=> rfl),
   zi9 KX G ?_ ?_ ?_ ?_ (fun _ _ _ _ _ _=> l2 fun _ _=> rfl),
   zi9 KX G ?_ ?_ ?_ ?_ (fun _ _ _ _ _ _=> l1 fun _=> rfl),
   zuL KX G ?_ ?_ ?_ ?_ ?_ ?_ ?_ ?_ (fun _ _ _ _ _ _=> l1 fun _=> rfl),
   zeC ?_ ?_ ?_ ?_ ?_ (fun _ _ _ _ _ _=> l2 fun _ _=> rfl),
   zeC ?_ ?_ ?_ ?_ ?_ (fun _ _ _ _ _ _=> l1 fun _=> rfl),
   zuL KX G ?_ ?_ ?_ ?_ ?_ ?_ ?_ ?_ (fun _ _ _ _ _ _=> l4 fun _ _ _ _=> rfl),
   zeC ?_ ?_ ?_ ?_ ?_ (fun _ _ _ _ _ _=> l1 fun _=> rfl),
   zeC ?_ ?_ ?_ ?_ ?_ (fun _ _ _ _ _ _=> l1 fun _=> rfl),
   zi9 KX G ?_ ?_ ?_ ?_ (fun _ _ _ _ _ _=> l1 fun _=> rfl),
   zi9 KX G ?_ ?_ ?_ ?_ (fun _ _ _ _ _ _=> l1 fun _=> rfl),
   zi9 KX G ?_ ?_ ?_ ?_ (fun _ _ _ _ _ _=> l1 fun _=> rfl),
   zi9 KX G ?_ ?_ ?_ ?_ (fun _ _ _ _ _ _=> l1 fun _=> rfl),
   zi9 KX G ?_ ?_ ?_ ?_ (fun _ _ _ _ _ _=> l1 fun _=> rfl),
   zi9 KX G ?_ ?_ ?_ ?_ (fun _ _ _ _ _ _=> l3 fun _ _ _=> rfl),
   zuL KX G ?_ ?_ ?_ ?_ ?_ ?_ ?_ ?_ (fun _ _ _ _ _ _=> l1 fun _=> rfl),
   zeC ?_ ?_ ?_ ?_ ?_ (fun _ _ _ _ _ _=> l2 fun _ _=> rfl),
   zeC ?_ ?_ ?_ ?_ ?_ (fun _ _ _ _ _ _=> l2 fun _ _=> rfl),
   zeC ?_ ?_ ?_ ?_ ?_ (fun _ _ _ _ _ _=> l2 fun _ _=> rfl),
   zeC ?_ ?_ ?_ ?_ ?_ (fun _ _ _ _ _ _=> l2 fun _ _=> rfl),
   zeC ?_ ?_ ?_ ?_ ?_ (fun _ _ _ _ _ _=> l2 fun _ _=> rfl),
   zeC ?_ ?_ ?_ ?_ ?_ (fun _ _ _ _ _ _=> l1 fun _=> rfl),
   zeC ?_ ?_ ?_ ?_ ?_ (fun _ _ _ _ _ _=> l2 fun _ _=> rfl),
   zeC ?_ ?_ ?_ ?_ ?_ (fun _ _ _ _ _ _=> l1 fun _=> rfl),
   zeC ?_ ?_ ?_ ?_ ?_ (fun _ _ _ _ _ _=> l2 fun _ _=> rfl),
   zi9 KX G ?_ ?_ ?_ ?_ (fun _ _ _ _ _ _=> l1 fun _=> rfl),
   zuL KX G ?_ ?_ ?_ ?_ ?_ ?_ ?_ ?_ (fun _ _ _ _ _ _=> l2 fun _ _=> rfl),
   zeC ?_ ?_ ?_ ?_ ?_ (fun _ _ _ _ _ _=> l1 fun _=> rfl),
   zeC ?_ ?_ ?_ ?_ ?_ (fun _ _ _ _ _ _=> l3 fun _ _ _=> rfl),
   zeC ?_ ?_ ?_ ?_ ?_ (fun _ _ _ _ _ _=> l3 fun _ _ _=> rfl),
   zeC ?_ ?_ ?_ ?_ ?_ (fun _ _ _ _ _ _=> l2 fun _ _=> rfl),
   zeC ?_ ?_ ?_ ?_ ?_ (fun _ _ _ _ _ _=> l3 fun _ _ _=> rfl),
   zeC ?_ ?_ ?_ ?_ ?_ (fun _ _ _ _ _ _=> l2 fun _ _=> rfl),
   zeC ?_ ?_ ?_ ?_ ?_ (fun _ _ _ _ _ _=> l3 fun _ _ _=> rfl),
   zeC ?_ ?_ ?_ ?_ ?_ (fun _ _ _ _ _ _=> l3 fun _ _ _=> rfl),
   zeC ?_ ?_ ?_ ?_ ?_ (fun _ _ _ _ _ _=> l2 fun _ _=> rfl),
   zeC ?_ ?_ ?_ ?_ ?_ (fun _ _ _ _ _ _=> l3 fun _ _ _=> rfl),
   zeC ?_ ?_ ?_ ?_ ?_ (fun _ _ _ _ _ _=> l1 fun _=> rfl),
   zeC ?_ ?_ ?_ ?_ ?_ (fun _ _ _ _ _ _=> l1 fun _=> rfl),
   zeC ?_ ?_ ?_ ?_ ?_ (fun _ _ _ _ _ _=> l1 fun _=> rfl),
   zeC ?_ ?_ ?_ ?_ ?_ (fun _ _ _ _ _ _=> l2 fun _ _=> rfl),
   zeC ?_ ?_ ?_ ?_ ?_ (fun _ _ _ _ _ _=> l3 fun _ _ _=> rfl),
   zeC ?_ ?_ ?_ ?_ ?_ (fun _ _ _ _ _ _=> l3 fun _ _ _=> rfl),
   zeC ?_ ?_ ?_ ?_ ?_ (fun _ _ _ _ _ _=> l3 fun _ _ _=> rfl),
   zeC ?_ ?_ ?_ ?_ ?_ (fun _ _ _ _ _ _=> l2 fun _ _=> rfl),
   zeC ?_ ?_ ?_ ?_ ?_ (fun _ _ _ _ _ _=> l3 fun _ _ _=> rfl),
   zeC ?_ ?_ ?_ ?_ ?_ (fun _ _ _ _ _ _=> l4 fun _ _ _ _=> rfl),
   zeC ?_ ?_ ?_ ?_ ?_ (fun _ _ _ _ _ _=> l2 fun _ _=> rfl),
   zuL KX G ?_ ?_ ?_ ?_ ?_ ?_ ?_ ?_ (fun _ _ _ _ _ _=> l1 fun _=> rfl),
   zeC ?_ ?_ ?_ ?_ ?_ (fun _ _ _ _ _ _=> l1 fun _=> rfl),
   zeC ?_ ?_ ?_ ?_ ?_ (fun _ _ _ _ _ _=> l3 fun _ _ _=> rfl),
   zeC ?_ ?_ ?_ ?_ ?_ (fun _ _ _ _ _ _=> l2 fun _ _=> rfl),
   zeC ?_ ?_ ?_ ?_ ?_ (fun _ _ _ _ _ _=> l2 fun _ _=> rfl),
   zeC ?_ ?_ ?_ ?_ ?_ (fun _ _ _ _ _ _=> l1 fun _=> rfl),
   zeC ?_ ?_ ?_ ?_ ?_ (fun _ _ _ _ _ _=> l1 fun _=> rfl),
   zeC ?_ ?_ ?_ ?_ ?_ (fun _ _ _ _ _ _=> l1 fun _=> rfl),
   zeC ?_ ?_ ?_ ?_ ?_ (fun _ _ _ _ _ _=> l1 fun _=> rfl),
   zi9 KX G ?_ ?_ ?_ ?_ (fun _ _ _ _ _ _=> l1 fun _=> rfl),
   zi9 KX G ?_ ?_ ?_ ?_ (fun _ _ _ _ _ _=> l1 fun _=> rfl),
   zi9 KX G ?_ ?_ ?_ ?_ (fun _ _ _ _ _ _=> l2 fun _ _=> rfl),
   zi9 KX G ?_ ?_ ?_ ?_ (fun _ _ _ _ _ _=> l2 fun _ _=> rfl)⟩) hmg
  all_goals (try dsimp only[ad0,ad1,ad2,ad3,ad4,ad5,L2.NoAttr])
  all_goals (try k_is)
  all_goals (try k_is)
  all_goals (try first | rfl | decide)
 case S=>
  intro K H xs a hO hwi hask hx
  cases hx with
  | cons h1 h2=>
   cases h2
   cases h1 with
   | lst hs ha=>
    have e:=L2.ints_dw a.1 _ ha
    subst e
    have q:((Codec.inLen 0 69000 a.1 && a.1.all (Codec.inInt 0 16383)) && true)=true:=hwi
    rw[Bool.and_eq_true,Bool.and_eq_true] at q
    refine⟨_,a.1,rfl,?_,(Codec.inNat_iff.mp q.1.1).2,fun x hx=> ?_,hask,fun H' p hp=> .lst (L2.SqL.of hp) (L2.dw_ints _)⟩
    .rcases hs with (h |⟨o,h⟩) | h
     .rcases hO _ with z |⟨o,u,z⟩
      .rw[h] at z; cases z
      .rw[h] at z; cases z
     .exact .inl ⟨o,h⟩
     .exact .inr h
    .have:=List.all_eq_true.mp q.1.2 x hx
     simpa[Codec.inInt] using this
