import PyProof.Rows.All
import Wide.All
import OpenK.AllK
import Wide.FinOn
import Lean
import PyProof.EqAt
import PyProof.EqKinds
import PyProof.TupleCall
import PySem.Challenge.RW_outweave_k56_whole_woven_otherwise
set_option Elab.async false
set_option linter.all false
set_option maxRecDepth 100000
set_option maxHeartbeats 4000000
set_option compiler.extract_closed false
local macro_rules|`(command|#print $s:str)=>do
 let q:Array (Lean.TSyntax `command):=<-((s.getString.splitOn " ")++(List.range 842).map (s!"o_{·+43}")).toArray.mapM fun x=>`(command|theorem $(Lean.mkIdent (.mkStr `PySem.W.Fast (if x.startsWith "tw" then x else s!"tw{(Lean.Name.mkStr `PySem.Challenge.cw_outweave_k56_whole_woven_otherwise_holds x).hash}"))):ident:True:=⟨⟩)
 return Lean.mkNullNode (q.map (·.raw))
#print "sts_137 sts_500 heap_39 tree_648 sts_354 tree_499 sts_594 sts_750 sts_159 tree_70 tree_433 tree_432 sts_554 sts_433 tree_236 sts_115 tw9527985949428609204 tree_180 sts_323 tree_195 sts_649 tw3881393647817503334 sts_691 heap_885 heap_46 tree_884 sts_196 tree_264 tree_553 sts_237 tree_593 tree_353 tree_92 tree_690 tree_749 sts_435 sts_71 view_39 tree_322 tree_829 sts_181 sts_93 sts_830 tree_136 tree_158 tree_114 env_41 tree_47 sts_265 sts_49"
local macro_rules|`(command|def $i:declId $s:optDeclSig $v:declVal)=>`(command|noncomputable def $i:declId $s:optDeclSig $v:declVal)
local macro_rules|`(command|abbrev $i:declId $s:optDeclSig $v:declVal)=>`(command|noncomputable abbrev $i:declId $s:optDeclSig $v:declVal)
local macro_rules|`(tactic|omega)=>`(tactic|first|lia|fail)
set_option genSizeOf false
noncomputable section
section
open PySem PyProof.Rows
abbrev za:=@wpAny_bind
abbrev zb:=@wpAny_pure
abbrev zc:=@Nat.le_refl
abbrev zd:=@List.mem_cons_self
abbrev ze:=@List.length_map
abbrev zg:=@List.length_append
abbrev zh:=@List.map_cons
abbrev zi:=@List.getElem?_set_ne
abbrev zj:=@List.mem_singleton
abbrev zk:=@List.mem_cons
abbrev zl:=@List.mem_cons_of_mem
abbrev zm:=@Heap.lt_size
abbrev zo:=@decide_eq_false
abbrev zq:=@Heap.get?_push_of_some
abbrev zt:=@Nat.ne_of_lt
abbrev zu:=@List.length_cons
abbrev zv:=@List.mem_map
abbrev zw:=@decide_eq_true
abbrev zx:=@List.getElem?_eq_some_iff
abbrev zy:=@List.mem_append
abbrev zz:=@List.append_assoc
abbrev zA:=@Bool.false_ne_true
abbrev zB:=@List.getElem?_eq_getElem
abbrev zC:=@Bool.and_eq_true
abbrev zD:=@Heap.get?_push_size
abbrev zE:=@List.append_nil
abbrev zF:=@Option.some.inj
abbrev zG:=@List.getElem?_append_left
abbrev zH:=@List.getElem?_map
abbrev zI:=@List.map_append
abbrev zJ:=@Nat.le_trans
abbrev zK:=@List.size_toArray
abbrev zL:=@List.map_map
abbrev zM:=@Nat.lt_of_lt_of_le
abbrev zN:=@List.getElem?_append_right
abbrev zO:=@List.nil_append
abbrev zP:=@List.mem_of_getElem?
abbrev zQ:=@List.mem_append_right
abbrev zR:=@List.length_singleton
abbrev zS:=@wpAny_holding
abbrev zT:=@of_decide_eq_true
abbrev zU:=@List.getElem?_set_self
abbrev zV:=@wpAny_mono
abbrev zW:=@Nat.lt_irrefl
abbrev zX:=@List.length_set
abbrev zY:=@List.map_nil
abbrev zZ:=@wpAny_rule
abbrev ja:=@List.map_congr_left
abbrev jb:=@codeAny_builtin
abbrev jc:=@Nat.le_add_right
abbrev jd:=@List.length_nil
abbrev je:=@List.nodup_append
abbrev jf:=@List.getElem?_cons_zero
abbrev jg:=@Nat.lt_succ_self
abbrev jh:=@List.getElem_mem
abbrev jj:=@List.getElem?_cons_succ
abbrev jk:=@List.mem_append_left
abbrev jm:=@List.all_eq_true
abbrev jo:=@Nat.lt_succ_of_lt
abbrev jp:=@Nat.zero_add
abbrev jq:=@Heap.get?_update_other
abbrev jr:=@List.getElem?_eq_none
abbrev js:=@Option.map_eq_some_iff
abbrev jt:=@List.getD_eq_getElem?_getD
abbrev ju:=@wpAny_updateSeq
abbrev jv:=@Int.emod_nonneg
abbrev jw:=@Int.emod_lt_of_pos
abbrev jx:=@Classical.not_not
abbrev jy:=@List.mem_of_mem_drop
end
namespace L2
open PySem PySem.Spec PyProof.Rows
abbrev SV(x:Str):=(x == ("__debug__":Str))=false
abbrev SW(n:Env)(e:Expr)(l:List Expr):=starEach (e::l) n=(false,eval e n)::starEach l n
abbrev SY(n:Env)(p:Pos)(l:List Expr):=(backTo p (starEach l n)).any (·.1)=false
abbrev DC:=Sum Int Str
def oJ:DC->Value->Bool
 | .inl k,v=>Value.isInt k v
 | .inr x,v=>Value.isStrOf x v
def Q5(w:World):DC->Int
 | .inl k=>hashInt k
 | .inr x=>hashStr w x
theorem jN:∀{k:DC}{v:Value},oJ k v=true->(∃i t,k=Sum.inl i/\v=Value.int i t)\/(∃x t,k=Sum.inr x/\v=Value.str x t)
 | .inl i,v,h=>by
  obtain⟨t,e⟩:=Value.isInt_shape h;exact .inl ⟨i,t,rfl,e⟩
 | .inr x,v,h=>by
  obtain⟨t,e⟩:=Value.isStrOf_shape h;exact .inr ⟨x,t,rfl,e⟩
def Q6(i:Int)(t:Tok):oJ (.inl i) (.int i t)=true:=by simp[oJ,Value.isInt]
def Q7(x:Str)(t:Tok):oJ (.inr x) (.str x t)=true:=by simp[oJ,Value.isStrOf]
def Q8(a b:Int):decide ((Sum.inl a:DC)=Sum.inl b)=(a == b):=by
 by_cases e:a=b
 ·subst e;simp
 ·have h:¬(Sum.inl a:DC)=Sum.inl b:=λq=>e (Sum.inl.inj q)
  rw[zo h];exact(beq_eq_false_iff_ne.mpr e).symm
def Q9(a b:Str):decide ((Sum.inr a:DC)=Sum.inr b)=decide (a=b):=by
 by_cases e:a=b
 ·simp
 ·have h:¬(Sum.inr a:DC)=Sum.inr b:=λq=>e (Sum.inr.inj q)
  rw[zo h,zo e]
def Ra(a:Int)(b:Str):decide ((Sum.inl a:DC)=Sum.inr b)=false:=zo λq=>nomatch q
def Rb(a:Str)(b:Int):decide ((Sum.inr a:DC)=Sum.inl b)=false:=zo λq=>nomatch q
def cW(prog:Program)(w:World):PySem.KeyKind prog w DC where
 is:=oJ
 hash:=Q5 w
 inj:=λv a b ha hb=>by
  rcases jN ha with⟨i,t,rfl,rfl⟩ | ⟨x,t,rfl,rfl⟩
  ·rcases jN hb with⟨j,u,rfl,e⟩ | ⟨y,u,rfl,e⟩
   ·injection e with e1 _;rw[e1]
   ·exact nomatch e
  ·rcases jN hb with⟨j,u,rfl,e⟩ | ⟨y,u,rfl,e⟩
   ·exact nomatch e
   ·injection e with e1 _;rw[e1]
 byValue:=λk v h=>by
  rcases jN h with⟨i,t,rfl,rfl⟩ | ⟨x,t,rfl,rfl⟩<;>rfl
 pyHash:=λhv h=>by
  rcases jN hv with⟨i,t,rfl,rfl⟩ | ⟨x,t,rfl,rfl⟩
  ·exact wpAny_pyHash_int h
  ·exact wpAny_pyHash_str h
 eqBool:=λhu hv h=>by
  rcases jN hu with⟨i,t,rfl,rfl⟩ | ⟨x,t,rfl,rfl⟩
  ·rcases jN hv with⟨j,u,rfl,rfl⟩ | ⟨y,u,rfl,rfl⟩
   ·rw[Q8] at h;exact wpAny_eqBool_int h
   ·rw[Ra] at h;exact SeqAt.EqAt.int_str i t y u _ _ _ _ h
  ·rcases jN hv with⟨j,u,rfl,rfl⟩ | ⟨y,u,rfl,rfl⟩
   ·rw[Rb] at h;exact SeqAt.EqAt.str_int x t j u _ _ _ _ h
   ·rw[Q9] at h;exact wpAny_eqBool_str h
 «strs»:=λk x t v h=>by
  rcases jN h with⟨i,u,rfl,e⟩ | ⟨y,u,rfl,e⟩
  ·exact nomatch e
  ·injection e with e1 _
   subst e1
   cases v<;>rfl
def Rc(a:Program)(w:World)(i:Int)(t:Tok):(cW a w).is (.inl i) (.int i t)=true:=Q6 i t
def Rf(a:Program)(w:World)(x:Str)(t:Tok):(cW a w).is (.inr x) (.str x t)=true:=Q7 x t
inductive V where
 | Pl | bl (b:Bool) | int (i:Int) | str (x:Str) | QN (b:Array UInt8) | RH (b:UInt64) | ref (a:Addr) | ty (n:String)
 deriving DecidableEq
def C6:V->Value->Prop
 | .Pl,u=>u=Value.none
 | .bl b,u=>u=Value.bool b
 | .int i,u=>∃t,u=Value.int i t
 | .str x,u=>∃t,u=Value.str x t
 | .QN b,u=>∃t,u=Value.bytes b t
 | .RH b,u=>∃t,u=Value.float b t
 | .ref a,u=>u=Value.ref a
 | .ty n,u=>u=Value.type n
abbrev aJ:List V->List Value->Prop:=Paired C6
def aJ.length(r:aJ a us):a.length=us.length:=Paired.length r
theorem aJ.get:∀{a:List V}{us:List Value}{i:Nat}{x:V},aJ a us->a[i]?=some x->∃u,us[i]?=some u/\C6 x u
 | _,_,_,_,.nil,e=>by simp at e
 | _,_,0,_,.cons r _,e=>by simp at e;subst e;exact⟨_,rfl,r⟩
 | _,_,i+1,x,.cons _ t,e=>by
  obtain⟨u,c,b⟩:=aJ.get (i:=i) (x:=x) t (by simpa using e);exact⟨u,by simpa using c,b⟩
theorem aJ.set(r:C6 x u):∀{a:List V}{b:List Value} (i:Nat),aJ a b->aJ (a.set i x) (b.set i u)
 | _,_,_,.nil=>.nil
 | _,_,0,.cons _ t=>.cons r t
 | _,_,i+1,.cons q t=>.cons q (aJ.set r i t)
theorem aJ.append:∀{b a:List V}{d c:List Value},aJ b d->aJ a c->aJ (b++a) (d++c)
 | _,_,_,_,.nil,s=>s
 | _,_,_,_,.cons r t,s=>.cons r (aJ.append t s)
theorem aJ.take:∀{a:List V}{b:List Value} (n:Nat),aJ a b->aJ (a.take n) (b.take n)
 | _,_,0,_=>.nil
 | _,_,_+1,.nil=>.nil
 | _,_,n+1,.cons r t=>.cons r (aJ.take n t)
theorem aJ.drop:∀{a:List V}{b:List Value} (n:Nat),aJ a b->aJ (a.drop n) (b.drop n)
 | _,_,0,r=>r
 | _,_,_+1,.nil=>.nil
 | _,_,n+1,.cons _ t=>aJ.drop n t
def dJ:Option V->Option Value->Prop
 |some v,some u=>C6 v u
 |none,none=>True
 | _,_=>False
def KV:List (κ×V)->List (κ×Value)->Prop:=Paired λ(p:κ×V)(q:κ×Value)=>p.1=q.1/\C6 p.2 q.2
def kV:DC->V
 | .inl i=>.int i
 | .inr x=>.str x
section
variable {prog:Program}{w:World}{K:Type}[DecidableEq K](knd:KeyKind prog w K)(ik:Int->K)
def fJ(h:Heap)(k:Int×List K)(a:Addr):Prop:=∃o items n u c,h.get? a=some o/\o.cls=.type "tuple"/\o.data=.seq items n/\items.toList=[u,.ref c]/\knd.is (ik k.1) u=true/\IsTupleKey knd h k.2 c
variable {knd ik}
def fJ.typeIs{s:Shared}{k:Int×List K}{a:Addr}(x:fJ knd ik s.heap k a):s.TypeIs (.ref a) "tuple":=let ⟨o,_,_,_,_,ho,hc,_⟩:=x;⟨o,ho,hc⟩
def fJ.inj(m:∀i j,ik i=ik j->i=j){h:Heap}{a:Addr}{x y:Int×List K}(t:fJ knd ik h x a)(s:fJ knd ik h y a):x=y:=by
 obtain⟨o,items,n,u,c,z,_,C,B,v,A⟩:=t;obtain⟨r,f,H,G,I,k,_,e,d,g,l⟩:=s;obtain rfl:o=r:=zF (z.symm.trans k);rw[C] at e
 injection e with E _
 subst E;rw[B] at d
 injection d with F b
 injection b with b _
 injection b with b
 subst F b;have q:=m _ _ (knd.inj _ _ _ v g);have p:=A.inj l;exact Prod.ext q p
def fJ.keeps{h l:Heap}{k:Int×List K}{a d:Addr}{o:Obj}{s t}(x:fJ knd ik h k a)(i:h.get? d=some o)(j:o.data=.dict s t)(hs:Heap.SameBut d h l):fJ knd ik l k a:=by
 obtain⟨g,items,n,u,c,e,r,b,q,m,p⟩:=x
 have f:a≠d:=by
  rintro rfl;obtain rfl:g=o:=zF (e.symm.trans i);rw[j] at b;exact nomatch b
 exact⟨g,items,n,u,c,(hs.2 a f).trans e,r,b,q,m,p.keeps i j hs⟩
variable {A:Around}{E:Value->Shared->Prop}{s:Shared}
def xq(knd:KeyKind prog w K)(ik:Int->K)(k:Int×List K):Int:=reduceHash (Builtin.Tuple.tupleHashOf [knd.hash (ik k.1),tupleKeyHash knd k.2])
def Rg{k:Int×List K}{a:Addr}{Q:Int->Shared->Prop}(e:A.units+1<cLine)(m:fJ knd ik s.heap k a)(h:Q (xq knd ik k) {s with toks:=s.toks+(k.2.length+3)}):
  wpAny (model prog w) A (pyHash (.ref a)) Q E s:=by
 have f:=m.typeIs;have p:A.units<cLine:=Nat.lt_of_le_of_lt (jc _ 1) e;obtain⟨o,items,n,u,c,q,_,t,r,j,l⟩:=m;unfold pyHash
 first | unfold pyHashByItsType | skip
 first | refine za (wpAny_cRoomFor_or (.inr p) ?_) | skip
 refine za (wpAny_specialOf f F.slot_tuple_hash.lookup ?_);show wpAny _ _ (if(some (Value.builtin "tuple.__hash__") == some Value.none)=true then _ else _) Q E s;rw[if_neg (by rw[beq_builtin_none];exact zA)];refine za (wpAny_specialOf f F.slot_tuple_hash.lookup ?_);show wpAny _ _ (callSpecialIfBoundUnlessNone? (.ref a) "__hash__" _ >>= _) Q E s;refine za (wpAny_callSpecialIfBoundUnlessNone?_slot f F.slot_tuple_hash (wpAny_call_entry F.slot_tuple_hash f F.entry_tuple_hash ?_ (F.args_tuple_hash_1 _)));show wpAny _ _ (Builtin.Tuple.tupleItemsOf (.ref a) >>= _) _ _ s;refine za (wpAny_tupleItemsOf q t ?_)
 refine za ?_;rw[<-Array.forIn_toList,r];refine wpAny_forIn_list _
  (λrest (b:Array Int) s'=>(rest=[u,.ref c]/\b.toList=[]/\s'=s)\/(rest=[.ref c]/\b.toList=[knd.hash (ik k.1)]/\s' = {s with toks:=s.toks+1})\/(rest=[]/\b.toList=[knd.hash (ik k.1),tupleKeyHash knd k.2]/\s' = {s with toks:=s.toks+(k.2.length+2)}))
  _ ?_ ?_ _ _ (.inl ⟨rfl,rfl,rfl⟩)
 ·rintro x rest b s' (⟨d,hb,rfl⟩ | ⟨d,hb,rfl⟩ | ⟨d,hb,rfl⟩)
  ·injection d with i g
   subst i g;refine za (knd.pyHash j ?_)
   first
    | exact zb (.inr (.inl ⟨rfl,by simp[hb],rfl⟩))
    | exact za (zb (zb (.inr (.inl ⟨rfl,by simp[hb],rfl⟩))))
  ·injection d with i g
   subst i g;refine za (wpAny_pyHash_tuple (tupleKind_room_in1 (knd:=knd) e) (s:={s with toks:=s.toks+1}) l ?_)
   first
    | exact zb (.inr (.inr ⟨rfl,by simp[hb],by simp[Nat.add_assoc,Nat.add_comm];omega⟩))
    | exact za (zb (zb (.inr (.inr ⟨rfl,by simp[hb],by simp[Nat.add_assoc,Nat.add_comm];omega⟩))))
  ·cases d
 ·rintro b s' (⟨d,hb,rfl⟩ | ⟨d,hb,rfl⟩ | ⟨d,hb,rfl⟩)
  ·cases d
  ·cases d
  ·show wpAny _ _ (retInt (Builtin.Tuple.tupleHashOf b.toList)) _ _ _;rw[hb];refine wpAny_ret_mkInt ?_;show wpAny _ _ (if(decide (-(2:Int) ^ 63<=Builtin.Tuple.tupleHashOf [knd.hash (ik k.1),tupleKeyHash knd k.2])&&decide (Builtin.Tuple.tupleHashOf [knd.hash (ik k.1),tupleKeyHash knd k.2]<2 ^ 63))=true then _ else _) Q E _;unfold xq reduceHash at h
   by_cases d:(decide (-(2:Int) ^ 63<=Builtin.Tuple.tupleHashOf [knd.hash (ik k.1),tupleKeyHash knd k.2])&&decide (Builtin.Tuple.tupleHashOf [knd.hash (ik k.1),tupleKeyHash knd k.2]<2 ^ 63))=true
   ·rw[if_pos d];rw[if_pos d] at h;exact zb (by simpa [Nat.add_assoc] using h)
   ·rw[if_neg d];rw[if_neg d] at h;exact za (zZ (zb (by simpa [Nat.add_assoc] using h)))
def Rh(H:∀i j,ik i=ik j->i=j)(hu:A.units+2<cLine){x y:Int×List K}{a b:Addr}{P:Fin->Shared->Prop}(hx:fJ knd ik s.heap x a)(T:fJ knd ik s.heap y b)(h:P (.done (.ret (.bool (decide (x=y))))) s):
  wpAny (model prog w) A (Builtin.«tuple.__eq__» ⟨[.ref a,.ref b],[]⟩) P E s:=by
 have R:=T.typeIs;obtain⟨oa,m,na,ua,Y,G,_,J,g,Q,O⟩:=hx;obtain⟨ob,l,nb,Z,X,F,_,I,f,N,L⟩:=T
 have C:(m.size == l.size)=true:=by
  have W:m.toList.length=2:=by rw[g];rfl
  have U:l.toList.length=2:=by rw[f];rfl
  rw[Array.length_toList] at W U;rw[W,U];rfl
 show wpAny _ _ (isInstance (.ref b) (.type "tuple") >>= _) _ _ s;refine za (wpAny_isInstance R isSubtype_tuple_tuple ?_);simp only[Bool.not_true,Bool.false_eq_true,if_false];refine za (wpAny_tupleItemsOf G J ?_);refine za (wpAny_tupleItemsOf F I ?_);refine za ?_;rw[g,f];refine wpAny_forIn_list _
  (λrest r n=>r.1=none/\n=s/\(rest=[(ua,Z),(.ref Y,.ref X)]\/(rest=[(.ref Y,.ref X)]/\x.1=y.1)\/(rest=[]/\x.1=y.1/\x.2=y.2)))
  _ ?_ ?_ _ _ ⟨rfl,rfl,.inl rfl⟩
 ·rintro⟨u,v⟩ rest r n ⟨t,rfl,(c | ⟨c,o⟩ | ⟨c,_⟩)⟩
  ·injection c with e q
   injection e with e p
   subst e q p;refine za (knd.eqBool (a:=ik x.1) (b:=ik y.1) Q N ?_)
   by_cases d:x.1=y.1
   ·rw[zw (by rw[d])];simp only[Bool.not_true,Bool.false_eq_true,if_false];exact zb ⟨by simp,by simp,.inr (.inl ⟨by simp,d⟩)⟩
   ·rw[zo (λz=>d (H _ _ z))];simp only[Bool.not_false,if_true]
    have B:decide (x=y)=false:=zo λz=>d (by rw[z])
    rw[B] at h;exact za (zb (zb (zb h)))
  ·injection c with e q
   injection e with e p
   subst e q p;refine za (wpAny_eqBool_tuple (by omega) O L ?_)
   by_cases d:x.2=y.2
   ·rw[zw d];simp only[Bool.not_true,Bool.false_eq_true,if_false];exact zb ⟨by simp,by simp,.inr (.inr ⟨by simp,o,d⟩)⟩
   ·rw[zo d];simp only[Bool.not_false,if_true]
    have B:decide (x=y)=false:=zo λz=>d (by rw[z])
    rw[B] at h;exact za (zb (zb (zb h)))
  ·cases c
 ·rintro⟨r1,r2⟩ n ⟨t,rfl,(c | ⟨c,o⟩ | ⟨c,o,e2⟩)⟩
  ·cases c
  ·cases c
  ·simp only at t;subst t;refine zb ?_
   have k:(m.size == l.size)=decide (x=y):=by rw[C,zw (Prod.ext o e2)]
   show P (.done (.ret (.bool (m.size == l.size)))) n;rw[k];exact h
def Ri(d:∀i j,ik i=ik j->i=j){x y:Int×List K}{a b:Addr}{Q:Bool->Shared->Prop}(n:A.units+4<cLine)(f:fJ knd ik s.heap x a)(g:fJ knd ik s.heap y b)(h:Q (decide (x=y)) s):
  wpAny (model prog w) A (eqBool (.ref a) (.ref b)) Q E s:=by
 have m:A.units<cLine:=by omega
 have l:A.in1.units+2<cLine:=by
  show A.units+1+2<cLine;omega
 have k:A.units+2<cLine:=by omega
 unfold eqBool
 try with_reducible refine zS ?_
 show wpAny _ _ (if(Value.ref a == Value.ref b)=true then _ else _) Q E s
 by_cases c:(Value.ref a == Value.ref b)=true
 ·rw[if_pos c]
  have e:a=b:=by have:=eq_of_beq c;injection this
  subst e;obtain rfl:=f.inj d g;exact za (zZ (zb (by simpa using h)))
 ·rw[if_neg c]
  exact za (wpAny_richCompare_same_room (op:=.Eq) f.typeIs g.typeIs F.slot_tuple_eq
   (wpAny_call_entry F.slot_tuple_eq f.typeIs F.entry_tuple_eq (Rh d (by first | exact l | exact k) f g ⟨_,rfl,(λe=>nomatch e),wpAny_truthy_bool h⟩) (F.args_tuple_eq_2 _ _)) m)
def Rj{m:Nat}{g:List K}{a:Addr}{Q:Bool->Shared->Prop}(e:IsTupleKey knd s.heap g a)(h:Q true s):wpAny (model prog w) A (eqIsQuiet (m+1) (.ref a)) Q E s:=by
 have f:=e.typeIs;obtain⟨o,items,n,i,_,k,j⟩:=e;unfold eqIsQuiet;refine za (wpAny_specialOf f F.slot_tuple_eq.lookup ?_);show wpAny _ _ (isInstance (.ref a) (.type "tuple") >>= _) _ _ s;refine za (wpAny_isInstance f isSubtype_tuple_tuple ?_);simp only[Bool.not_true,Bool.false_eq_true,if_false];refine za (wpAny_seqItems i k ?_);refine za ?_;show wpAny _ _ (forIn items _ _) _ _ s;rw[<-Array.forIn_toList];refine wpAny_forIn_list _ (λrest r b=>r.1=none/\b=s/\∀v∈rest,carriedByValue v=true) _ ?_ ?_ _ _ ⟨rfl,rfl,j.byValue⟩
 ·rintro v rest r b ⟨c,rfl,hall⟩;rw[eqIsQuiet_byValue _ (hall v zd)];refine za (zb ?_);simp only[Bool.not_true,Bool.false_eq_true,if_false];exact zb ⟨rfl,rfl,λu d=>hall u (zl _ d)⟩
 ·rintro⟨p,l⟩ b ⟨c,rfl,_⟩;simp only at c;subst c;exact zb h
def Rk{k:Int×List K}{a:Addr}{Q:Bool->Shared->Prop}(j:fJ knd ik s.heap k a)(h:Q true s):wpAny (model prog w) A (eqIsQuiet 8 (.ref a)) Q E s:=by
 have l:=j.typeIs;obtain⟨o,items,n,u,c,p,_,t,q,g,i⟩:=j;unfold eqIsQuiet;refine za (wpAny_specialOf l F.slot_tuple_eq.lookup ?_);show wpAny _ _ (isInstance (.ref a) (.type "tuple") >>= _) _ _ s;refine za (wpAny_isInstance l isSubtype_tuple_tuple ?_);simp only[Bool.not_true,Bool.false_eq_true,if_false];refine za (wpAny_seqItems p t ?_);refine za ?_;show wpAny _ _ (forIn items _ _) _ _ s;rw[<-Array.forIn_toList,q];refine wpAny_forIn_list _ (λrest r d=>r.1=none/\d=s/\∀v∈rest,v=u\/v=.ref c) _ ?_ ?_ _ _ ⟨rfl,rfl,λv m=>by simpa using m⟩
 ·rintro v rest r d ⟨f,rfl,hall⟩
  rcases hall v zd with e | e
  ·rw[e,eqIsQuiet_byValue _ (knd.byValue _ _ g)];refine za (zb ?_);simp only[Bool.not_true,Bool.false_eq_true,if_false];exact zb ⟨rfl,rfl,λu b=>hall u (zl _ b)⟩
  ·rw[e];refine za (Rj i ?_);simp only[Bool.not_true,Bool.false_eq_true,if_false];exact zb ⟨rfl,rfl,λu b=>hall u (zl _ b)⟩
 ·rintro⟨y,x⟩ d ⟨f,rfl,_⟩;simp only at f;subst f;exact zb h
end
abbrev NK:=Int×List DC
def oK(prog:Program)(w:World):HeapKind prog w NK where
 is:=fJ (cW prog w) Sum.inl
 hash:=xq (cW prog w) Sum.inl
 draws:=λk=>k.2.length+3
 room:=λA=>A.units+4<cLine
 inj:=λhx hy=>hx.inj (λ_ _ e=>Sum.inl.inj e) hy
 keeps:=λx ho hd hs=>x.keeps ho hd hs
 pyHash:=λhu hk h=>Rg (by omega) hk h
 eqBool:=λhu hx hy h=>Ri (λ_ _ e=>Sum.inl.inj e) hu hx hy h
 quiet:=λhk h=>Rk hk h
inductive HO where
 | lst (xs:List V)
 | tup (xs:List V)
 | dK (kvs:List (DC×V)) | dT (kvs:List (List DC×V))
 | dN (K:List (Addr×Obj)) (kvs:List (NK×V))
 | set (S:Int->Bool) (n:Nat)
 | ins (C dx:Addr) (fs:List (Str×V))
 | own (x:Addr)
 | xd (fs:List (Str×V))
 | met (f x:Addr)
 | rng (lo hi:Int)
 | Pp (o:Obj) (u:HO)
 | RI (ps:Array Value)
 | ext (φ:Heap->Prop)
abbrev Hp:=Addr->Option HO
def DB(H:Hp)(a:Addr)(o:HO):Hp:=λb=>if b=a then some o else H b
def bG:DB H a o a=some o:=by unfold DB;rw[if_pos rfl]
def aH(h:b≠a):DB H a o b=H b:=by unfold DB;rw[if_neg h]
def IB{H:Hp} (h:H a=some o)(c:H b=some u)(d:o≠u):a≠b:=by
 intro e;subst e;rw[h] at c;exact d (zF c)
def cj{H:Hp} (h:H a=some o)(c:H b=none):a≠b:=by
 intro e;subst e;rw[h] at c;cases c
def GH(K:List (Addr×Obj))(H:Hp)(k:NK)(b:Addr):Prop:=∃c,H b=some (.tup [.int k.1,.ref c]) /\
 (H c=some (.tup (k.2.map kV))\/∃(o:Obj)(a:Array Value)(n:Nat),K.lookup c=some o/\o.cls=.type "tuple"/\o.data=.seq a n/\a.size<=sizeLine/\aJ (k.2.map kV) a.toList)
def GH.mono{K:List (Addr×Obj)} (x:GH K H k b)(d:∀b a,H b=some (.tup a)->g b=some (.tup a)):GH K g k b:=by
 obtain⟨c,f,e⟩:=x;exact⟨c,d _ _ f,e.imp (d _ _) id⟩
section
variable (P:Program)(w:World)
def cC(H:Hp)(h:Heap)(a:Addr):HO->Prop
 | .lst b=>b.length<=sizeLine/\∃(c:List Value)(n:Nat),aJ b c/\h.get? a=some {cls:=.type "list",data:=.seq c.toArray n}
 | .tup b=>b.length<=sizeLine/\∃c:List Value,aJ b c/\IsTup h a c.toArray
 | .dK kvs=>kvs.length<=sizeLine/\(a == sysModules)=false/\∃i,KV kvs i/\h.DictOf (cW P w) a i
 | .dT kvs=>kvs.length<=sizeLine/\(a == sysModules)=false/\∃b:List (List DC×Addr×Value),
   Paired (λ(p:List DC×V)(q:List DC×Addr×Value)=>p.1=q.1/\H q.2.1=some (.tup (p.1.map kV))/\C6 p.2 q.2.2) kvs b /\
   ∃o e g,h.get? a=some o/\o.ExactDict/\o.data=.dict e g/\e.toList=b.map (entryOfKey (tupleKind (cW P w)))/\(b.map (·.1)).Nodup
 | .dN K kvs=>kvs.length<=sizeLine/\(a == sysModules)=false/\∃b:List (NK×Addr×Value),
   Paired (λ(p:NK×V)(q:NK×Addr×Value)=>p.1=q.1/\GH K H p.1 q.2.1/\C6 p.2 q.2.2) kvs b /\
   ∃o e g,h.get? a=some o/\o.ExactDict/\o.data=.dict e g/\e.toList=b.map (entryOfKey (oK P w))/\(b.map (·.1)).Nodup
 | .set S n=>h.SetOf (intKind P w) a S n
 | .ins C dx fs=>H dx=some (.own a)/\fs.length<=1000/\dx≠a/\h.get? a=some (PySem.W.instObj C dx) /\
   ∃d,h.Ns1 dx d/\(∀f,dJ (fs.lookup f) (d f))/\PySem.Within d (fs.map (·.1))
 | .own _=>∃o,h.get? a=some o
 | .xd fs=>∃d,h.Ns1 a d/\∀f,dJ (fs.lookup f) (d f)
 | .rng lo hi=>∃t u v,h.get? a=some {cls:=.type "range",data:=.fields #[.int lo t,.int hi u,.int 1 v]}
 | .Pp o u=>h.get? a=some o/\cC H h a u
 | .RI ps=>h.get? a=some {cls:=.none,data:=.fields ps}
 | .met f x=>h.get? a=some (PySem.W.methodObj (.ref f) (.ref x))
 | .ext φ=>φ h/\(∃o,h.get? a=some o)/\∀k j:Heap,φ k->(∀o,k.get? a=some o->j.get? a=some o)->φ j
def EI(H:Hp)(h:Heap):Prop:=∀a o,H a=some o->cC P w H h a o
end
def cC.lt(x:cC P w H h a o):a<h.objs.size:=by
 cases o with
 |lst c=>obtain⟨_,_,_,_,e⟩:=x;exact zm e
 |tup c=>obtain⟨_,_,_,p⟩:=x;exact p.lt
 |dK b=>obtain⟨_,_,_,_,o,_,_,e,_⟩:=x;exact zm e
 |dT b=>obtain⟨_,_,_,_,o,_,_,e,_⟩:=x;exact zm e
 |dN K b=>obtain⟨_,_,_,_,o,_,_,e,_⟩:=x;exact zm e
 |set S n=>obtain⟨o,_,_,_,e,_⟩:=x;exact zm e
 |ins C k d=>obtain⟨_,_,_,e,_⟩:=x;exact zm e
 |own y=>obtain⟨_,e⟩:=x;exact zm e
 |xd d=>obtain⟨_,⟨_,_,_,e,_⟩,_⟩:=x;exact zm e
 |rng lo j=>obtain⟨_,_,_,e⟩:=x;exact zm e
 |Pp i u=>obtain⟨e,_⟩:=x;exact zm e
 |RI g=>exact zm (show h.get? a=some _ from x)
 |met f y=>exact zm (show h.get? a=some _ from x)
 |ext φ=>obtain⟨_,⟨_,e⟩,_⟩:=x;exact zm e
theorem Paired.QX:∀{d:List α}{c:List β},Paired F d c->(∀a b,F a b->G a b)->Paired G d c
 | _,_,.nil,_=>.nil
 | _,_,.cons r t,f=>.cons (f _ _ r) (Paired.QX t f)
def cC.P6(x:cC P w H h a o)(k:∀b u,(b=a\/H b=some (.own a))->h.get? b=some u->h'.get? b=some u)
  (J:∀b,H b=some (.own a)->H' b=some (.own a)) (E:∀b l,H b=some (.tup l)->H' b=some (.tup l)):cC P w H' h' a o:=by
 induction o with
 |lst l=>obtain⟨z,m,n,r,e⟩:=x;exact⟨z,m,n,r,k _ _ (.inl rfl) e⟩
 |tup l=>obtain⟨z,m,r,g,e,c⟩:=x;exact⟨z,m,r,g,k _ _ (.inl rfl) e,c⟩
 |dK s=>obtain⟨z,y,F,r,g,i,j,e,c⟩:=x;exact⟨z,y,F,r,g,i,j,k _ _ (.inl rfl) e,c⟩
 |dT s =>
  obtain⟨z,y,l,r,g,i,j,e,c⟩:=x;exact⟨z,y,l,Paired.QX r λp q z=>⟨z.1,E _ _ z.2.1,z.2.2⟩,g,i,j,k _ _ (.inl rfl) e,c⟩
 |dN K s =>
  obtain⟨z,y,l,r,g,i,j,e,c⟩:=x;exact⟨z,y,l,Paired.QX r λp q z=>⟨z.1,z.2.1.mono E,z.2.2⟩,g,i,j,k _ _ (.inl rfl) e,c⟩
 |set S n=>obtain⟨g,i,j,t,e,c⟩:=x;exact⟨g,i,j,t,k _ _ (.inl rfl) e,c⟩
 |ins C dx L =>
  obtain⟨d,z,G,e,B,⟨A,i,j,N,c⟩,r⟩:=x;exact⟨J _ d,z,G,k _ _ (.inl rfl) e,B,⟨A,i,j,k _ _ (.inr d) N,c⟩,r⟩
 |own y=>obtain⟨g,e⟩:=x;exact⟨g,k _ _ (.inl rfl) e⟩
 |xd L=>obtain⟨B,⟨A,i,j,e,c⟩,r⟩:=x;exact⟨B,⟨A,i,j,k _ _ (.inl rfl) e,c⟩,r⟩
 |rng lo O=>obtain⟨t,u,v,e⟩:=x;exact⟨t,u,v,k _ _ (.inl rfl) e⟩
 |Pp g u I=>obtain⟨e,q⟩:=x;exact⟨k _ _ (.inl rfl) e,I q⟩
 |RI ps =>
  have e:h.get? a=some {cls:=.none,data:=.fields ps}:=x;show h'.get? a=some {cls:=.none,data:=.fields ps};exact k a _ (.inl rfl) e
 |met f y =>
  have e:h.get? a=some (PySem.W.methodObj (.ref f) (.ref y)):=x;show h'.get? a=some (PySem.W.methodObj (.ref f) (.ref y));exact k a _ (.inl rfl) e
 |ext φ=>obtain⟨p,⟨o,e⟩,st⟩:=x;exact⟨st _ _ p λo q=>k _ _ (.inl rfl) q,⟨o,k _ _ (.inl rfl) e⟩,st⟩
def EI.lt(x:EI P w H h)(e:H a=some o):a<h.objs.size:=(x a o e).lt
def EI.fresh{a:Addr}(x:EI P w H h)(e:h.objs.size<=a):H a=none:=by
 cases q:H a with
 |none=>rfl
 |some u=>exact absurd (zM (x.lt q) e) (zW _)
def EI.kept(x:EI P w H h)(k:∀b u,h.get? b=some u->c.get? b=some u):EI P w H c:=λa o e =>
 (x a o e).P6 (λb u _ q=>k b u q) (λ_ q=>q) λ_ _ q=>q
def EI.laid{a:Addr}(x:EI P w H h)(k:∀b u,h.get? b=some u->h'.get? b=some u)(i:h.objs.size<=a)(d:cC P w (DB H a o) h' a o):EI P w (DB H a o) h':=λb u e=>by
 have f:=x.fresh i
 by_cases g:b=a
 ·subst g;rw[bG] at e;cases e;exact d
 ·rw[aH g] at e
  exact(x b u e).P6 (λc v _ q=>k c v q) (λc q=>by rw[aH (cj q f)];exact q) λc j q=>by rw[aH (cj q f)];exact q
def Rd(H:Hp)(a:Addr)(u:HO):Prop:=H a=some u\/∃o,H a=some (.Pp o u)
def Rd.ok(r:Rd H a u)(x:EI P w H h):cC P w H h a u:=by
 rcases r with r | ⟨o,r⟩
 ·exact x a u r
 ·obtain⟨_,q⟩:=x a _ r;exact q
def KL:Option HO->Prop
 |some (.lst _)=>True
 |some (.dK _)=>True
 |some (.dT _)=>True
 |some (.dN _ _)=>True
 |some (.set _ _)=>True
 |some (.ins _ _ _)=>True
 |some (.ext _)=>True
 | _=>False
def EI.write(p:EI P w H h)(i:KL (H x))(o:e=x\/H e=some (.own x))(k:∀b u,b≠e->h.get? b=some u->t.get? b=some u)(n:∃u,t.get? e=some u)
  (m:cC P w (DB H x A) t x A):EI P w (DB H x A) t:=λb u q=>by
 have d:∀c y,H c=some (.own y)->c≠x:=λc y r z=>by subst z;rw[r] at i;exact i
 have f:∀c g,H c=some (.tup g)->c≠x:=λc g r z=>by subst z;rw[r] at i;exact i
 by_cases l:b=x
 ·subst l;rw[bG] at q;cases q;exact m
 ·rw[aH l] at q
  by_cases a:b=e
  ·have q':H b=some (.own x):=by
    rcases o with z | z
    ·exact absurd (a.trans z) l
    ·rw[a];exact z
   rw[q] at q';cases q';obtain⟨v,s⟩:=n;exact⟨v,by rw[a];exact s⟩
  ·refine(p b u q).P6 (λc v j r=>k c v ?_ r) (λc r=>by rw[aH (d c b r)];exact r) λc g r=>by rw[aH (f c g r)];exact r
   rcases j with rfl | j
   ·exact a
   ·rintro rfl
    rcases o with z | z
    ·exact d c b j z
    ·rw[j] at z;cases z;exact l rfl
structure Un(fs ex:List Addr)(H H':Hp)(h h':Heap):Prop where
 keep:∀b o,h.get? b=some o->H b=none->b∉fs->b∉ex->h'.get? b=some o
 slot:∀b o,h.get? b=some o->H b=none->b∈fs->b∉ex->∃sl,h'.get? b=some {o with slots:=sl}
 free:∀b o,h.get? b=some o->H b=none->b∉ex->H' b=none
 there:∀b o,h.get? b=some o->b∉ex->∃o',h'.get? b=some o'
 Qr:∀b xs,H b=some (.tup xs)->H' b=some (.tup xs)
 P5:∀b o u,H b=some (.Pp o u)->H' b=some (.Pp o u)
 QA:∀b ps,H b=some (.RI ps)->∃more,H' b=some (.RI (ps++more))
def Un.any(u:Un g i H j h f) (q:h.get? b=some e)(n:H b=none)(a:b∉i):∃d,f.get? b=some {e with slots:=d}:=by
 by_cases c:b∈g
 ·exact u.slot b e q n c a
 ·exact⟨e.slots,u.keep b e q n c a⟩
def Un.kept(k:∀b u,h.get? b=some u->c.get? b=some u):Un d e H H h c :=
 ⟨λb ob q _ _ _=>k b ob q,λb ob q _ _ _=>⟨ob.slots,k b ob q⟩,λ_ _ _ n _=>n,λb ob q _=>⟨ob,k b ob q⟩,λ_ _ q=>q,λ_ _ _ q=>q,λ_ a q=>⟨#[],by rw[q];simp⟩⟩
def Un.refl:Un a b H H h h:=Un.kept λ_ _ q=>q
def Un.laid{h:Heap}{a:Addr}(k:∀b u,h.get? b=some u->h'.get? b=some u)(hp:h.objs.size<=a)(hn:H a=none):Un fs ex H (DB H a o) h h' where
 keep:=λb u q _ _ _=>k b u q
 slot:=λb u q _ _ _=>⟨u.slots,k b u q⟩
 free:=λb u q n _=>by rw[aH (zt (zM (zm q) hp))];exact n
 there:=λb u q _=>⟨u,k b u q⟩
 Qr:=λb xs q=>by rw[aH (cj q hn)];exact q
 P5:=λb u xs q=>by rw[aH (cj q hn)];exact q
 QA:=λb ps q=>⟨#[],by rw[aH (cj q hn),q];simp⟩
def Un.write(c:KL (H x))(m:e=x\/H e=some (.own x))(k:∀b u,b≠e->h.get? b=some u->s.get? b=some u)(f:∃u,s.get? e=some u):Un t v H (DB H x o) h s:=by
 have g:∀b,H b=none->b≠x:=λb n z=>by subst z;rw[n] at c;exact c
 have i:∀b,H b=none->b≠e:=λb n z=>by
  subst z
  rcases m with r | r
  ·exact g b n r
  ·rw[n] at r;cases r
 have d:∀b u,H b=some u->¬KL (some u)->b≠x:=λb u q l z=>by subst z;rw[q] at c;exact l c
 refine⟨λb u q n _ _=>k b u (i b n) q,λb u q n _ _=>⟨u.slots,k b u (i b n) q⟩,λb u q n _=>by rw[aH (g b n)];exact n,λb u q _=>?_,
  λb j q=>by rw[aH (d b _ q λz=>z)];exact q,λb u j q=>by rw[aH (d b _ q λz=>z)];exact q,λb p q=>⟨#[],by rw[aH (d b _ q λz=>z),q];simp⟩⟩
 by_cases a:b=e
 ·subst a;exact f
 ·exact⟨u,k b u a q⟩
def MM(h:Heap)(H:Hp):List Addr:=(List.range h.objs.size).filter λa=>(H a).isSome
def jO(h:Heap)(H:Hp):Heap:=PySem.W.hideAll h (MM h H)
def Rm(h:Heap)(H:Hp):(jO h H).objs.size=h.objs.size:=PySem.W.hideAll_size _ _
def Rn(e:h.get? b=some o)(n:H b=none):(jO h H).get? b=some o :=
 PySem.W.hideAll_get _ e λa=>by
  have q :=(List.mem_filter.mp a).2;rw[n] at q;simp at q
def Ro(e:(jO h H).get? b=some o):h.get? b=some o/\H b=none:=by
 have e' :=PySem.W.of_hideAll _ e;refine⟨e',?_⟩
 cases q:H b with
 |none=>rfl
 |some x =>
  have a:b∈MM h H:=List.mem_filter.mpr ⟨List.mem_range.mpr (zm e'),by simp[q]⟩;have z:(jO h H).get? b=none:=PySem.W.hideAll_none _ a;rw[z] at e;cases e
def Rq(g h:Heap)(L:Addr):List (Addr×Obj):=(List.range h.objs.size).filterMap λa=>if a=L\/(g.get? a).isSome=true then none else(h.get? a).map λo=>(a,o)
def rest(g h:Heap)(L d:Addr):List (Addr×Obj):=(Rq g h L).filter λp=>decide (p.1≠d)
structure Mod(K:PySem.W.Frag)(mg:Str->Option Value)(base:Heap):Prop where
 SR:K.In base
 glob:base.Ns mainGlobals mg
 blt:∃mb,base.Ns builtinsNs mb/\∀x:Str,x≠"__name__"->mb x=bootBuiltins x
 nolimit:base.NoLimit
structure Cx where
 prog:Program
 w:World
 K:PySem.W.Frag
 mg:Str->Option Value
 base:Heap
 A:Around
 N:List Str
 s₀:Shared
 H₀:Hp
 env:Env
 outer:List Env
 stack:List Env
 ex:List Addr
 fn:Str->Bool
 calm:Bool
 pn:List (Addr×Obj)
 xe:Value->Shared->Prop
def GS(l:List Env):List Addr:=l.filterMap (·.frame)
abbrev Cx.fs(X:Cx):List Addr:=GS X.outer
def G0(a:Scope)(x:Str):Prop:=a.names.lookup x=some .local\/a.names.lookup x=some .cell\/a.names.lookup x=some .free
def HI(a:Scope)(x:Str):Prop:=a.names.lookup x=some .local\/a.names.lookup x=some .cell
def MC(a:Env)(h:Heap)(m:Str->Option Value)(x:Str)(u:Value):Prop :=
 (a.kindOf x=some .local/\m x=some u)\/((a.kindOf x=some .cell\/a.kindOf x=some .free)/\∃c,a.cells.lookup x=some c/\h.IsCell c (some u))
structure Cx.Ok(X:Cx):Prop where
 mod:Mod X.K X.mg X.base
 kind:X.env.scope.kind=.function
 glob:X.env.globals=mainGlobals
 blt:X.env.builtins=builtinsNs
 above:X.s₀.heap.objs.size<=X.env.locals
 inj:∀x y c,X.env.cells.lookup x=some c->X.env.cells.lookup y=some c->x=y
 has:∀x,(X.env.kindOf x=some .cell\/X.env.kindOf x=some .free)->∃c,X.env.cells.lookup x=some c
 SA:∀x c,X.fn x=true->X.env.cells.lookup x=some c->X.s₀.heap.objs.size<=c
 hd:X.calm=true->X.A.handled=none
 frames:X.A.frames=some X.stack
 stk:X.stack=X.outer\/(X.stack=X.env::X.outer/\X.env.frame=some X.env.locals)
 exf:∀b∈X.ex,b≠X.env.locals/\∀x c,X.env.cells.lookup x=some c->c≠b
 bs:∀b o,X.base.get? b=some o->X.s₀.heap.get? b=some o/\X.H₀ b=none
 RA:X.base.objs.size<=X.s₀.heap.objs.size
 Q0:∀b o,X.base.get? b=some o->b∉X.ex
 Q4:∀b∈X.ex,b∉X.fs
 P3:X.s₀.heap.FunFrames X.base X.outer
 Sa:∀b∈X.fs,X.H₀ b=none
structure C5(X:Cx)(pins:List (Addr×Obj))(σ:List (Option V))(H:Hp)(s:Shared):Prop where
 ok:X.Ok
 os:s.os=X.s₀.os
 bare:AllBare s.gens
 base:Un X.fs X.ex X.H₀ H X.s₀.heap s.heap
 loc:∃m,s.heap.Ns X.env.locals m/\∀(i:Nat)(x:Str)(v:V),X.N[i]?=some x->σ[i]?=some (some v)->G0 X.env.scope x->∃u,C6 v u/\MC X.env s.heap m x u
 cell:∀x c,X.env.cells.lookup x=some c->∃v,s.heap.IsCell c v
 free:H X.env.locals=none
 Pw:∀x c,X.env.cells.lookup x=some c->H c=none
 pin:∀p∈X.pn++pins,s.heap.get? p.1=some p.2/\H p.1=none/\p.1≠X.env.locals/\p.1∉X.fs/\∀v,p.2.data≠.cell v
 Pm:EI X.prog X.w H s.heap
 len:σ.length=X.N.length
def Cx.Ok.nofr{X:Cx}(a:X.Ok) (e:X.base.get? b=some o):b∉X.fs:=λc=>by
 have:=(a.P3.mem c).1
 rw[e] at this;cases this
def C5.bs(I:C5 X a σ H s):∀b o,X.base.get? b=some o->s.heap.get? b=some o/\H b=none:=λb o e =>
 ⟨I.base.keep b o (I.ok.bs b o e).1 (I.ok.bs b o e).2 (I.ok.nofr e) (I.ok.Q0 b o e),I.base.free b o (I.ok.bs b o e).1 (I.ok.bs b o e).2 (I.ok.Q0 b o e)⟩
def C5.bk(I:C5 X a σ H s):∀b o,X.base.get? b=some o->s.heap.get? b=some o:=λb o e=>(I.bs b o e).1
def C5.mod(I:C5 X a σ H s):Mod X.K X.mg X.base:=I.ok.mod
def C5.PR(I:C5 X a σ H s):X.K.In s.heap:=I.ok.mod.SR.keeps I.bk
def C5.lt(I:C5 X a σ H s):X.env.locals<s.heap.objs.size:=let ⟨_,hn,_⟩:=I.loc;hn.lt
def C5.sz(I:C5 X a σ H s):X.s₀.heap.objs.size<=s.heap.objs.size:=zJ I.ok.above (Nat.le_of_lt I.lt)
def C5.Q3(I:C5 X d σ H s){a:Addr}(h:s.heap.objs.size<=a):a∉X.fs:=λc=>by
 obtain⟨_,o,b,_⟩:=I.ok.P3.mem c;exact absurd (zM (zm b) (zJ I.sz h)) (zW _)
def C5.SO(I:C5 X j σ H s):∀x c,X.env.cells.lookup x=some c->c≠X.env.locals:=λx c e z=>by
 obtain⟨v,o,d,f⟩:=I.cell x c e;obtain⟨m,⟨g,h,i,a,b,_⟩,_⟩:=I.loc;rw[z,a] at d;cases d;rw[b] at f;cases f
def C5.P3(I:C5 X n σ H s):s.heap.FunFrames X.base X.outer:=by
 have all:∀(l:List Env),(∀b∈GS l,b∈X.fs)->X.s₀.heap.FunFrames X.base l->s.heap.FunFrames X.base l:=by
  intro l
  induction l with
  |nil=>intro _ _;trivial
  |cons env r ih =>
   intro hs i;obtain⟨j,⟨L,o,a,h,g,k⟩,f⟩:=i;have d:L∈X.fs:=hs L (by unfold GS;rw[List.filterMap_cons,a];exact zd)
   obtain⟨m,e⟩:=I.base.slot L o g (I.ok.Sa L d) d λz=>I.ok.Q4 L z d
   exact⟨j,⟨L,_,a,h,e,k⟩,ih (λb c=>hs b (by unfold GS;rw[List.filterMap_cons,a];exact zl _ c)) f⟩
 exact all X.outer (λ_ c=>c) I.ok.P3
def C5.stack(I:C5 X c σ H s):s.heap.FunFrames X.base X.stack:=by
 rcases I.ok.stk with e | ⟨e,b⟩
 ·rw[e];exact I.P3
 ·rw[e];obtain⟨m,a,_⟩:=I.loc;refine .cons (by rw[I.ok.kind];decide) b a ?_ I.P3;exact Heap.get?_none_of_le (zJ I.ok.RA I.ok.above)
def C5.P4(I:C5 X d σ H s):∀b∈GS X.stack,b∈X.env.locals::X.fs:=λb a=>by
 rcases I.ok.stk with e | ⟨e,c⟩
 ·rw[e] at a;exact zl _ a
 ·rw[e] at a;unfold GS at a;rw[List.filterMap_cons,c] at a;exact a
def C5.QT(I:C5 X d σ H s):∀b∈GS X.stack,H b=none:=λb a=>by
 rcases zk.mp (I.P4 b a) with e | a
 ·rw[e];exact I.free
 ·obtain⟨_,o,c,_⟩:=I.ok.P3.mem a
  exact I.base.free b o c (I.ok.Sa b a) λz=>I.ok.Q4 b z a
def C5.step{ch:List Addr}(I:C5 X pins σ H s)
  (g:∀b∈ch,(b∈X.ex\/X.s₀.heap.objs.size<=b)/\b≠X.env.locals/\(∀x c,X.env.cells.lookup x=some c->c≠b)/\∀p∈X.pn++pins,p.1≠b)
  (h:∀b o,b≠X.env.locals->b∉X.fs->b∉ch->s.heap.get? b=some o->H b=none->h'.get? b=some o)
  (B:∀b o,b≠X.env.locals->b∈X.fs->b∉ch->s.heap.get? b=some o->H b=none->∃R,h'.get? b=some {o with slots:=R}) (free:∀b o,b∉ch->s.heap.get? b=some o->H b=none->H' b=none)
  (E:∀b o,b∉ch->s.heap.get? b=some o->∃G,h'.get? b=some G)
  (L:∀b A,H b=some (.tup A)->H' b=some (.tup A)) (P:∀b o u,H b=some (.Pp o u)->H' b=some (.Pp o u)) (N:∀b Q,H b=some (.RI Q)->∃O,H' b=some (.RI (Q++O)))
  (ns:∀m,s.heap.Ns X.env.locals m->h'.Ns X.env.locals m) (Pm:EI X.prog X.w H' h') (hg:AllBare g'):
  C5 X pins σ H' {s with heap:=h',gens:=g',drawn:=d',toks:=t'}:=by
 have K:∀b o,X.s₀.heap.get? b=some o->b≠X.env.locals:=λb o e=>zt (zM (zm e) I.ok.above)
 have y:∀b o,X.s₀.heap.get? b=some o->b∉X.ex->b∉ch:=λb o e a C=>by
  rcases(g b C).1 with z | z
  ·exact a z
  ·exact absurd (zM (zm e) z) (zW _)
 have j:∀x c,X.env.cells.lookup x=some c->∀v,s.heap.IsCell c v->h'.IsCell c v:=λx c e v ⟨o,F,T⟩=>by
  have f:c∉ch:=λz=>(g c z).2.2.1 x c e rfl
  by_cases hc:c∈X.fs
  ·obtain⟨R,q⟩:=B c o (I.SO x c e) hc f F (I.Pw x c e);exact⟨_,q,T⟩
  ·exact⟨o,h c o (I.SO x c e) hc f F (I.Pw x c e),T⟩
 refine⟨I.ok,I.os,hg,⟨λb o e n C a=>?_,λb o e n C a=>?_,λb o e n a=>?_,λb o e a=>?_,λb A e=>L b A (I.base.Qr b A e),λb o A e=>P b o A (I.base.P5 b o A e),λb Q e=>?_⟩,?_,λx c e=>?_,?_,λx c e=>?_,λp Z=>?_,Pm,I.len⟩
 ·exact h b o (K b o e) C (y b o e a) (I.base.keep b o e n C a) (I.base.free b o e n a)
 ·obtain⟨R,t⟩:=I.base.slot b o e n C a;obtain⟨U,J⟩:=B b _ (K b o e) C (y b o e a) t (I.base.free b o e n a);exact⟨U,J⟩
 ·obtain⟨G,t⟩:=I.base.there b o e a;exact free b G (y b o e a) t (I.base.free b o e n a)
 ·obtain⟨G,t⟩:=I.base.there b o e a;exact E b G (y b o e a) t
 ·obtain⟨m1,t⟩:=I.base.QA b Q e;obtain⟨m2,J⟩:=N b _ t;exact⟨m1++m2,by rw[J,Array.append_assoc]⟩
 ·obtain⟨m,hn,hl⟩:=I.loc;refine⟨m,ns m hn,λi x v t J e3=>?_⟩;obtain⟨u,r,l⟩:=hl i x v t J e3;refine⟨u,r,?_⟩
  rcases l with l | ⟨k,c,e,z⟩
  ·exact .inl l
  ·exact .inr ⟨k,c,e,j x c e _ z⟩
 ·obtain⟨v,z⟩:=I.cell x c e;exact⟨v,j x c e v z⟩
 ·obtain⟨m,⟨o,_,_,F,_⟩,_⟩:=I.loc;exact free _ o (λz=>(g _ z).2.1 rfl) F I.free
 ·obtain⟨v,o,F,T⟩:=I.cell x c e;exact free c o (λz=>(g c z).2.2.1 x c e rfl) F (I.Pw x c e)
 ·obtain⟨e,n,Y,W,d⟩:=I.pin p Z
  have f:p.1∉ch:=λz=>(g p.1 z).2.2.2 p Z rfl
  exact⟨h p.1 p.2 Y W f e n,free p.1 p.2 f e n,Y,W,d⟩
def C5.un(I:C5 X v σ H s)(u:Un X.fs [] H x s.heap h')(Pm:EI X.prog X.w x h'):C5 X v σ x {s with heap:=h',toks:=t'}:=by
 obtain⟨m,⟨o,q,t,g,r⟩,_⟩:=id I.loc;obtain⟨k,j⟩:=u.any g I.free (by simp)
 exact I.step (g':=s.gens) (d':=s.drawn) (ch:=[]) (λ_ z=>nomatch z) (λb o _ c _ e n=>u.keep b o e n c (by simp)) (λb o _ c _ e n=>u.slot b o e n c (by simp)) (λb o _ e n=>u.free b o e n (by simp)) (λb o _ e=>u.there b o e (by simp)) u.Qr u.P5 u.QA (λp i=>by
  obtain⟨l,d,f,a,h⟩:=i;rw[g] at a;cases a
  exact⟨_,d,f,j,h⟩) Pm I.bare
def C5.call(I:C5 X E σ H s)(u:Un (GS X.stack) ch H F s.heap h')(Pm:EI X.prog X.w F h')(q:AllBare g')
  (f:∀b∈ch,(b∈X.ex\/X.s₀.heap.objs.size<=b)/\b≠X.env.locals/\(∀x c,X.env.cells.lookup x=some c->c≠b)/\∀p∈X.pn++E,p.1≠b):
  C5 X E σ F {s with heap:=h',gens:=g',drawn:=d',toks:=t'}:=by
 obtain⟨m,⟨o,B,C,j,r⟩,_⟩:=id I.loc
 obtain⟨v,g⟩:=u.any j I.free λz=>(f _ z).2.1 rfl
 exact I.step (ch:=ch) f (λb o g t a e n=>u.keep b o e n (λz=>(zk.mp (I.P4 b z)).elim g t) a) (λb o _ _ a e n=>u.any e n a) (λb o a e n=>u.free b o e n a) (λb o a e=>u.there b o e a) u.Qr u.P5 u.QA (λA l=>by
  obtain⟨y,h,i,d,k⟩:=l;rw[j] at d;cases d
  exact⟨_,h,i,g,k⟩) Pm q
def C5.turned(I:C5 X C σ H s)(k:∀b o,b≠it->s.heap.get? b=some o->E.get? b=some o)(h:H it=none)(f:it≠X.env.locals)
  (w:it∈X.ex\/X.s₀.heap.objs.size<=it) (t:∀x c,X.env.cells.lookup x=some c->c≠it) (l:∀p∈X.pn++C,p.1≠it):C5 X C σ H {s with heap:=E,toks:=t'}:=by
 have d:∀b u,H b=some u->b≠it:=λb u e z=>by rw[z,h] at e;cases e
 refine I.step (g':=s.gens) (d':=s.drawn) (ch:=[it]) (λb j=>?_) (λb o _ _ a e _=>k b o (λz=>a (by simp[z])) e) (λb o _ _ a e _=>⟨o.slots,k b o (λz=>a (by simp[z])) e⟩) (λ_ _ _ _ n=>n)
  (λb o a e=>⟨o,k b o (λz=>a (by simp[z])) e⟩) (λ_ _ e=>e) (λ_ _ _ e=>e) (λb B e=>⟨#[],by rw[e];simp⟩) (λm i=>?_) (λb u e=>?_) I.bare
 ·have e:b=it:=by simpa using j
  subst e;exact⟨w,f,t,l⟩
 ·obtain⟨o,y,A,g,r⟩:=i;exact⟨o,y,A,k _ o (Ne.symm f) g,r⟩
 ·refine(I.Pm b u e).P6 (λc v a q=>k c v ?_ q) (λ_ q=>q) λ_ _ q=>q
  rcases a with z | z
  ·rw[z];exact d b u e
  ·exact d c _ z
def C5.tok(I:C5 X a σ H s)(t:Nat):C5 X a σ H {s with toks:=t}:=I.un Un.refl I.Pm
def C5.kept(I:C5 X a σ H s)(k:∀b u,s.heap.get? b=some u->c.get? b=some u):C5 X a σ H {s with heap:=c,toks:=t'}:=I.un (Un.kept k) (I.Pm.kept k)
def C5.laid{a:Addr} (I:C5 X e σ H s)(k:∀b u,s.heap.get? b=some u->h'.get? b=some u)(c:s.heap.objs.size<=a)(d:cC X.prog X.w (DB H a o) h' a o):
  C5 X e σ (DB H a o) {s with heap:=h',toks:=t'}:=I.un (Un.laid k c (I.Pm.fresh c)) (I.Pm.laid k c d)
def C5.write(I:C5 X g σ H s)(d:KL (H x))(f:e=x\/H e=some (.own x))(k:∀b u,b≠e->s.heap.get? b=some u->h.get? b=some u)(a:∃u,h.get? e=some u)
  (c:cC X.prog X.w (DB H x o) h x o):C5 X g σ (DB H x o) {s with heap:=h,toks:=t'}:=I.un (Un.write d f k a) (I.Pm.write d f k a c)
def C5.P2(I:C5 X c σ H s)(h:∀p∈b,s.heap.get? p.1=some p.2/\H p.1=none/\p.1≠X.env.locals/\p.1∉X.fs/\∀v,p.2.data≠.cell v):C5 X b σ H s :=
 ⟨I.ok,I.os,I.bare,I.base,I.loc,I.cell,I.free,I.Pw,λp a=>(zy.mp a).elim (λz=>I.pin p (jk _ z)) (h p),I.Pm,I.len⟩
def Em{N:List Str}(c:N.Nodup){i:Nat} (a:N[i]?=some x)(b:N[j]?=some x):i=j:=by
 obtain⟨g,e⟩:=zx.mp a;obtain⟨f,d⟩:=zx.mp b;exact(List.getElem_inj c).mp (e.trans d.symm)
def Rr(I:C5 X pins σ H s)(hN:X.N.Nodup)(R:X.N[i]?=some x)(t:HI X.env.scope x)(r:C6 v u)
  (h:∀s',C5 X pins (σ.set i (some v)) H s'->(∃a,Heap.SameBut a s.heap s'.heap/\(a=X.env.locals\/X.env.cells.lookup x=some a))->Q () s') (hf:X.fn x=true\/X.env.scope.names.lookup x=some .local:=by first | exact .inl rfl | exact .inr rfl | assumption):wpAny M A (storeName X.env x u) Q E s:=by
 obtain⟨m,hn,hl⟩:=id I.loc
 have Z:(X.env.scope.kind == .class || (X.env.scope.kind == .module&&X.env.locals != X.env.globals))=false:=by rw[I.ok.kind];rfl
 have G:i<σ.length:=by rw[I.len];exact(zx.mp R).1
 have O:=I.SO
 have g:∀{a:Addr}{P:Heap},(∃o,s.heap.get? a=some o/\H a=none)->Heap.SameBut a s.heap P->EI X.prog X.w H P:=λ{a P} ha hs b ob e=>by
  obtain⟨_,_,B⟩:=ha
  refine(I.Pm b ob e).P6 (λc w' l q=>(hs.2 c ?_).trans q) (λ_ q=>q) λ_ _ q=>q
  rintro rfl
  rcases l with rfl | l
  ·rw[B] at e;cases e
  ·rw[B] at l;cases l
 rcases t with F | F
 ·refine wpAny_storeName_local F hn (λP hn' hs=>?_) Z;obtain⟨oL,_,_,hoL,_⟩:=id hn;refine h _ ⟨I.ok,I.os,I.bare,⟨λb o e n K t=>?_,λb o e n K t=>?_,I.base.free,λb o e t=>?_,I.base.Qr,I.base.P5,I.base.QA⟩,⟨_,hn',λj y v' f C e3=>?_⟩,λy c e=>?_,I.free,I.Pw,λp hp=>?_,g ⟨oL,hoL,I.free⟩ hs,by simpa using I.len⟩ ⟨_,hs,.inl rfl⟩
  ·exact(hs.2 b (zt (zM (zm e) I.ok.above))).trans (I.base.keep b o e n K t)
  ·obtain⟨sl,f⟩:=I.base.slot b o e n K t;exact⟨sl,(hs.2 b (zt (zM (zm e) I.ok.above))).trans f⟩
  ·obtain⟨o',f⟩:=I.base.there b o e t;exact⟨o',(hs.2 b (zt (zM (zm e) I.ok.above))).trans f⟩
  ·by_cases J:j=i
   ·subst J;rw[R] at f;cases f;rw[zU G] at C;cases C;exact⟨u,r,.inl ⟨F,by simp⟩⟩
   ·rw[zi (Ne.symm J)] at C;obtain⟨u',r',q⟩:=hl j y v' f C e3;refine⟨u',r',?_⟩
    rcases q with⟨k,e⟩ | ⟨k,c,e,z⟩
    ·refine .inl ⟨k,?_⟩
     have:y≠x:=λe=>J (Em hN f (e ▸ R))
     simp[this,e]
    ·exact .inr ⟨k,c,e,z.sameBut hs (O y c e)⟩
  ·obtain⟨w',z⟩:=I.cell y c e;exact⟨w',z.sameBut hs (O y c e)⟩
  ·obtain⟨e,n,ne,nf,d⟩:=I.pin p hp;exact⟨(hs.2 p.1 ne).trans e,n,ne,nf,d⟩
 ·have L:X.fn x=true:=by
   rcases hf with z | z
   ·exact z
   ·rw[z] at F;cases F
  obtain⟨c,l⟩:=I.ok.has x (.inl F);obtain⟨w',z⟩:=I.cell x c l;refine wpAny_storeName_cell I.ok.kind F l z (λP W hs=>?_);obtain⟨oc,T,Y⟩:=id z;refine h {s with heap:=P} ⟨I.ok,I.os,I.bare,⟨λb o e n K t=>?_,λb o e n K t=>?_,I.base.free,λb o e t=>?_,I.base.Qr,I.base.P5,I.base.QA⟩,⟨m,hn.sameBut hs (Ne.symm (O x c l)),λj y v' f C e3=>?_⟩,λy c' e=>?_,I.free,I.Pw,λp hp=>?_,g ⟨oc,T,I.Pw x c l⟩ hs,by simpa using I.len⟩ ⟨c,hs,.inr l⟩
  ·exact(hs.2 b (zt (zM (zm e) (I.ok.SA x c L l)))).trans (I.base.keep b o e n K t)
  ·obtain⟨sl,f⟩:=I.base.slot b o e n K t;exact⟨sl,(hs.2 b (zt (zM (zm e) (I.ok.SA x c L l)))).trans f⟩
  ·obtain⟨o',f⟩:=I.base.there b o e t;exact⟨o',(hs.2 b (zt (zM (zm e) (I.ok.SA x c L l)))).trans f⟩
  ·by_cases J:j=i
   ·subst J;rw[R] at f;cases f;rw[zU G] at C;cases C;exact⟨u,r,.inr ⟨.inl F,c,l,W⟩⟩
   ·rw[zi (Ne.symm J)] at C;obtain⟨u',r',q⟩:=hl j y v' f C e3;refine⟨u',r',?_⟩
    rcases q with q | ⟨k,c',e,z'⟩
    ·exact .inl q
    ·refine .inr ⟨k,c',e,z'.sameBut hs ?_⟩;rintro rfl;exact J (Em hN f (I.ok.inj _ _ _ e l ▸ R))
  ·by_cases U:c'=c
   ·subst U;exact⟨_,W⟩
   ·obtain⟨w2,z2⟩:=I.cell y c' e;exact⟨w2,z2.sameBut hs U⟩
  ·obtain⟨e,n,ne,nf,d⟩:=I.pin p hp;refine⟨(hs.2 p.1 ?_).trans e,n,ne,nf,d⟩;intro q;rw[q,T] at e;have q':oc=p.2:=zF e;exact d w' (by rw[<-q'];exact Y)
def xu(I:C5 X f σ H s)(d:X.N.Nodup)(c:X.N[i]?=some x)(b:HI X.env.scope x)(r:C6 v u)
  (h:∀a,C5 X f (σ.set i (some v)) H a->Q () a) (e:X.fn x=true\/X.env.scope.names.lookup x=some .local:=by first | exact .inl rfl | exact .inr rfl | assumption):wpAny M A (storeName X.env x u) Q E s :=
 Rr I d c b r λa I' _=>h a I'
def C5.call'(I:C5 X i σ H s)(f:j.os=s.os)(u:Un (GS X.stack) ch H k s.heap j.heap)(Pm:EI X.prog X.w k j.heap)(g:AllBare j.gens)
  (a:∀b∈ch,(b∈X.ex\/X.s₀.heap.objs.size<=b)/\b≠X.env.locals/\(∀x c,X.env.cells.lookup x=some c->c≠b)/\∀p∈X.pn++i,p.1≠b):C5 X i σ k j:=by
 obtain⟨h,g',d',t',d⟩:=j;have e:d=s.os:=f;subst e;exact I.call (g':=g') (t':=t') (d':=d') u Pm g a
abbrev XK:=Value->Option Addr->Hp->Prop
abbrev St:=List (Option V)
abbrev VK:=V->Hp->Prop
abbrev TE:=St->Hp->VK->Prop
abbrev TT:=St->Hp->(Bool->Hp->Prop)->Prop
abbrev TA:=St->Hp->(List V->Hp->Prop)->Prop
structure EL where
 nx:St->Hp->Prop
 rt:VK
 bk:St->Hp->Prop:=λ_ _=>False
 ct:St->Hp->Prop:=λ_ _=>False
abbrev TS:=EL->St->Hp->Prop
inductive EP (X:Cx) (pins:List (Addr×Obj)) (σ:St) (Q:VK) (u:Value) (s':Shared):Prop
 | mk:∀v H',C5 X pins σ H' s'->C6 v u->Q v H'->EP X pins σ Q u s'
def TP(X:Cx)(a:List (Addr×Obj))(σ:St)(Q:Bool->Hp->Prop)(b:Bool)(d:Shared):Prop:=∃c,C5 X a σ c d/\Q b c
inductive AP (X:Cx) (pins:List (Addr×Obj)) (σ:St) (Q:List V->Hp->Prop) (us:List Value) (s':Shared):Prop
 | mk:∀vs H',C5 X pins σ H' s'->aJ vs us->Q vs H'->AP X pins σ Q us s'
def SP(X:Cx)(b:List (Addr×Obj))(D:EL)(f:Flow)(d:Shared):Prop :=
 match f with
 | .next=>∃a c,C5 X b a c d/\D.nx a c
 | .brk=>∃a c,C5 X b a c d/\D.bk a c
 | .cont=>∃a c,C5 X b a c d/\D.ct a c
 | .ret u=>∃v a c,C5 X b a c d/\C6 v u/\D.rt v c
def PE(X:Cx)(e:Expr)(t:TE):Prop :=
 ∀(a:List (Addr×Obj))(s:Shared)(σ:St)(H:Hp)(Q:VK),C5 X a σ H s->t σ H Q->wpAny (model X.prog X.w) X.A (eval e X.env) (EP X a σ Q) X.xe s
def PT(X:Cx)(e:Expr)(t:TT):Prop :=
 ∀(a:List (Addr×Obj))(s:Shared)(σ:St)(H:Hp)(Q:Bool->Hp->Prop),C5 X a σ H s->t σ H Q->wpAny (model X.prog X.w) X.A (isTrue e X.env (eval e X.env)) (TP X a σ Q) X.xe s
def PW(X:Cx)(e:Expr)(t:TT):Prop :=
 ∀(b:Sem Value)(a:List (Addr×Obj))(s:Shared)(σ:St)(H:Hp)(Q:Bool->Hp->Prop),C5 X a σ H s->t σ H Q->wpAny (model X.prog X.w) X.A (isTrue e X.env b) (TP X a σ Q) X.xe s
def PW.pt(h:PW X e t):PT X e t:=h _
def PA(X:Cx)(c:List Expr)(t:TA):Prop :=
 ∀(b:Pos)(a:List (Addr×Obj))(s:Shared)(σ:St)(H:Hp)(Q:List V->Hp->Prop),C5 X a σ H s->t σ H Q->wpAny (model X.prog X.w) X.A (spliced (backTo b (starEach c X.env))) (AP X a σ Q) X.xe s
def PS(X:Cx)(st:Stmt)(t:TS):Prop :=
 ∀(a:List (Addr×Obj))(s:Shared)(σ:St)(H:Hp)(D:EL),C5 X a σ H s->t D σ H->wpAny (model X.prog X.w) X.A (exec st X.env) (SP X a D) X.xe s
def Fs(X:Cx)(st:List Stmt)(t:TS):Prop :=
 ∀(a:List (Addr×Obj))(s:Shared)(σ:St)(H:Hp)(D:EL),C5 X a σ H s->t D σ H->wpAny (model X.prog X.w) X.A (execs st X.env) (SP X a D) X.xe s
def thn{t:Sem α}{Q b:α->Shared->Prop} (h:wpAny M A t Q E s)(c:∀a s,Q a s->b a s):wpAny M A t b E s:=zV h c λ_ _ x=>x
def Rt(i:Nat):TE:=λσ H Q=>∃v,σ[i]?=some (some v)/\Q v H
def tC(v:V):TE:=λ_ H Q=>Q v H
def jP{X:Cx} {f:Pos}(t:X.N[i]?=some x)(n:G0 X.env.scope x)(d:SV x:=by decide)(g:(x == ("__classdict__":Str))=false:=by decide):PE X (.Name x f) (Rt i):=by
 intro k s σ H Q I h;obtain⟨v,e,h⟩:=h;obtain⟨m,o,q⟩:=I.loc;obtain⟨u,r,l⟩:=q i x v t e n;have fin:EP X _ σ Q u s:=⟨v,H,I,r,h⟩
 rcases l with⟨b,p⟩ | ⟨b,c,j,a⟩
 ·exact wpAny_Name (wpAny_loadName_local I.ok.kind b o p fin) d
 ·rcases b with b | b
  ·exact wpAny_Name (wpAny_loadName_cell I.ok.kind b j a fin) d
  ·exact wpAny_Name (wpAny_loadName_free I.ok.kind b j a fin g) d
def Ru:PE X (.Constant (.int i) j a) (tC (.int i)):=λ_ _ _ H _ I h=>wpAny_Constant_int ⟨.int i,H,I.tok _,⟨_,rfl⟩,h⟩
def Rv:PE X (.Constant (.bool b) j a) (tC (.bl b)):=λ_ _ _ H _ I h=>Constant_bool ⟨.bl b,H,I,rfl,h⟩
def Rw:PE X (.Constant .none j a) (tC .Pl):=λ_ _ _ H _ I h=>Constant_none ⟨.Pl,H,I,rfl,h⟩
def En:PE X (.Constant (.str x) j a) (tC (.str x)):=λ_ _ _ H _ I h=>Calls.Constant_str ⟨.str x,H,I.tok _,⟨_,rfl⟩,h⟩
def Gl(X:Cx)(x:Str):Prop:=X.env.kindOf x=some .globalImplicit
def qO{σ:St} (I:C5 X d σ H s)(b:Gl X x)(a:X.mg x=some u)(h:Q u s)
  (c:SV x:=by decide):wpAny (model X.prog X.w) X.A (eval (.Name x pos) X.env) Q E s :=
 Calls.Name_function_global I.ok.kind b (Calls.loadGlobal_global (by rw[I.ok.glob];exact I.mod.glob.keeps I.bk) a h) c
def jQ{E:Value->Shared->Prop} {σ:St} {a:Pos} (I:C5 X j σ H s)(e:Gl X x)(d:X.mg x=none)(b:bootBuiltins x=some u)(h:Q u s)
  (c:x≠"__name__":=by decide) (f:SV x:=by decide):wpAny (model X.prog X.w) X.A (eval (.Name x a) X.env) Q E s:=by
 obtain⟨mb,i,g⟩:=I.mod.blt;exact Calls.Name_function_global I.ok.kind e (Calls.loadGlobal_builtin (by rw[I.ok.glob];exact I.mod.glob.keeps I.bk) d (by rw[I.ok.blt];exact i.keeps I.bk) ((g x c).trans b) h) f
def Rx(b:Gl X x)(a:X.mg x=some u)(r:C6 v u)(c:SV x:=by decide):PE X (.Name x pos) (tC v):=
 λ_ _ _ H _ I h=>qO I b a ⟨v,H,I,r,h⟩ c
def Ry{a:Pos}(e:Gl X x)(d:X.mg x=none)(b:bootBuiltins x=some u)(r:C6 v u)(c:x≠"__name__":=by decide)(f:SV x:=by decide):PE X (.Name x a) (tC v):=
 λ_ _ _ H _ I h=>jQ I e d b ⟨v,H,I,r,h⟩ c f
def PC(X:Cx)(f:CmpOp)(a b:Expr)(t:TE):Prop :=
 ∀(c:List (Addr×Obj))(s:Shared)(σ:St)(H:Hp)(Q:VK),C5 X c σ H s->t σ H Q ->
  wpAny (model X.prog X.w) X.A (eval a X.env) (λv e=>wpAny (model X.prog X.w) X.A (eval b X.env) (λu d=>wpAny (model X.prog X.w) X.A (compareOp f v u) (EP X c σ Q) X.xe d) X.xe e) X.xe s
def Rz(b:Expr) (h:e≠.In)(a:e≠.NotIn):behindInMarks e b=false:=by
 have d:(e == CmpOp.In)=false:=by cases e<;>first | rfl | exact absurd rfl h
 have c:(e == CmpOp.NotIn)=false:=by cases e<;>first | rfl | exact absurd rfl a
 cases b<;>simp[behindInMarks,d,c]
def Eo(a:TE):TE:=λσ H Q=>a σ H λx b=>Q (.bl (decide (x=.Pl))) b
def Ep(a:TE):TE:=λσ H Q=>a σ H λx b=>Q (.bl (!decide (x=.Pl))) b
def C6.QM(r:C6 x v):(v == Value.none)=decide (x=.Pl):=by
 cases x with
 |Pl=>cases r;rfl
 |bl _=>cases r;rfl
 |int _=>obtain⟨t,rfl⟩:=r;rfl
 |str _=>obtain⟨t,rfl⟩:=r;rfl
 |QN _=>obtain⟨t,rfl⟩:=r;rfl
 |RH _=>obtain⟨t,rfl⟩:=r;rfl
 |ref _=>cases r;rfl
 |ty _=>cases r;rfl
def RB(c:PE X a e):PC X .Is a (.Constant .none j d) (Eo e):=by
 intro b s σ H Q I h
 refine thn (c _ s σ H _ I h) λv s1 ⟨x,H1,I1,r1,q1⟩=>?_
 exact Constant_none (is_none_gen ⟨.bl _,H1,I1,by rw[r1.QM];rfl,q1⟩)
def RC(c:PE X a e):PC X .IsNot a (.Constant .none j d) (Ep e):=by
 intro b s σ H Q I h
 refine thn (c _ s σ H _ I h) λv s1 ⟨x,H1,I1,r1,q1⟩=>?_
 exact Constant_none (isnot_none_gen ⟨.bl _,H1,I1,by rw[r1.QM];rfl,q1⟩)
def tB(t:TE):TT:=λσ H Q=>t σ H λx a=>∃c,x=.bl c/\Q c a
def xx(h:PC X l a b t)(e:behindInMarks l b=false:=by first | exact Rz _ (by decide) (by decide) | rfl):PT X (.Compare a [l] [b] pos) (tB t):=by
 intro f s σ H Q I g;refine wpAny_isTrue_Compare1 (thn (h _ s σ H _ I g) λv k e=>thn e λu j i=>thn i λc s3 ⟨x,H1,I1,r1,q1⟩=>?_) e;obtain⟨d,rfl,q⟩:=q1;cases r1;exact wpAny_truthy_bool ⟨H1,I1,q⟩
def Er(t u:TT):TT:=λσ H Q=>t σ H λc a=>if c=true then u σ a Q else Q false a
def MR(t u:TT):TT:=λσ H Q=>t σ H λc a=>if c=true then Q true a else u σ a Q
def RD(t:TT):TT:=λσ H Q=>t σ H λc a=>Q (!c) a
def RG(d:PT X a tA):PW X (.BoolOp .And [a] pos) tA:=by
 intro f b s σ H Q I h;refine isTrue_and (thn (d _ s σ H Q I h) λc g e=>?_)
 cases c with
 |true=>exact isTrue_and_nil e
 |false=>exact e
def RJ(d:PT X a tA):PW X (.BoolOp .Or [a] pos) tA:=by
 intro f b s σ H Q I h;refine isTrue_or (thn (d _ s σ H Q I h) λc g e=>?_)
 cases c with
 |false=>exact isTrue_or_nil e
 |true=>exact e
def RK{rest:List Expr}(g:PT X a tA)(f:PW X (.BoolOp .And (b::rest) pos) tB'):PW X (.BoolOp .And (a::b::rest) pos) (Er tA tB'):=by
 intro e d s σ H Q I h;refine isTrue_and (thn (g _ s σ H _ I h) λc s1 ⟨H1,I1,q1⟩=>?_)
 cases c with
 |true=>exact f e _ s1 σ H1 Q I1 q1
 |false=>exact⟨H1,I1,q1⟩
def RL{rest:List Expr}(g:PT X a tA)(f:PW X (.BoolOp .Or (b::rest) pos) tB'):PW X (.BoolOp .Or (a::b::rest) pos) (MR tA tB'):=by
 intro e d s σ H Q I h;refine isTrue_or (thn (g _ s σ H _ I h) λc s1 ⟨H1,I1,q1⟩=>?_)
 cases c with
 |true=>exact⟨H1,I1,q1⟩
 |false=>exact f e _ s1 σ H1 Q I1 q1
def RM(c:PT X a d):PT X (.UnaryOp .Not a e) (RD d):=by
 intro b s σ H Q I h;exact isTrue_not (c _ s σ H _ I h)
def RN(d b:TE):TE:=λσ H Q=>d σ H λx a=>∃c,x=.bl c/\if c=true then b σ a Q else Q (.bl false) a
def RP(a:TE):TE:=λσ H Q=>a σ H λx b=>∃c,x=.bl c/\Q (.bl (!c)) b
def RQ(h:PE X a t):PE X (.BoolOp e [a] d) t:=λb s σ H Q I c=>BoolOp_one (h _ s σ H Q I c)
def RT{rest:List Expr}(g:PE X a ta)(f:PE X (.BoolOp .And (b::rest) pos) tb):PE X (.BoolOp .And (a::b::rest) pos) (RN ta tb):=by
 intro e s σ H Q I h;refine BoolOp_and (thn (g _ s σ H _ I h) λv s1 ⟨x,H1,I1,r1,d⟩=>?_);obtain⟨c,rfl,d⟩:=d;cases r1;refine wpAny_truthy_bool ?_
 cases c with
 |true=>exact f _ s1 σ H1 Q I1 d
 |false=>exact⟨.bl _,H1,I1,rfl,d⟩
def RV(e:PE X a f):PE X (.UnaryOp .Not a g) (RP f):=by
 intro d s σ H Q I h;refine UnaryOp_ (thn (e _ s σ H _ I h) λv s1 ⟨x,H1,I1,r1,b⟩=>?_);obtain⟨c,rfl,b⟩:=b;cases r1;exact not_of (wpAny_truthy_bool ⟨.bl _,H1,I1,rfl,b⟩)
def N3(t:TT)(d b:TE):TE:=λσ H Q=>t σ H λc a=>if c=true then d σ a Q else b σ a Q
def Es(f:PT X c tA)(i:PE X a ta)(g:PE X b tb):PE X (.IfExp c a b pos) (N3 tA ta tb):=by
 intro e s σ H Q I h;refine wpAny_IfExp (thn (f _ s σ H _ I h) λd s1 ⟨H1,I1,q1⟩=>?_)
 cases d with
 |true=>exact i _ s1 σ H1 Q I1 q1
 |false=>exact g _ s1 σ H1 Q I1 q1
def Ee(K:PySem.W.Frag)(H:Hp)(a:Addr)(c:List V):Prop :=
 Rd H a (.lst c) \/
  ∃(o:Obj)(b:Array Value)(n:Nat),K.lookup a=some o/\o.cls=.type "list"/\o.dict=none/\o.data=.seq b n/\b.size<=sizeLine/\aJ c b.toList
def ER(K:PySem.W.Frag)(H:Hp)(a:Addr)(c:List V):Prop :=
 Rd H a (.tup c) \/
  ∃(o:Obj)(b:Array Value)(n:Nat),K.lookup a=some o/\o.cls=.type "tuple"/\o.data=.seq b n/\b.size<=sizeLine/\aJ c b.toList
def RX:Value->Option V
 | .none=>some .Pl
 | .bool b=>some (.bl b)
 | .int i _=>some (.int i)
 | .str x _=>some (.str x)
 | .bytes b _=>some (.QN b)
 | .float b _=>some (.RH b)
 | .ref a=>some (.ref a)
 | .type n=>some (.ty n)
 | _=>none
def C6.abs(r:C6 x u):RX u=some x:=by
 cases x with
 |Pl=>cases r;rfl
 |bl _=>cases r;rfl
 |int _=>obtain⟨t,rfl⟩:=r;rfl
 |str _=>obtain⟨t,rfl⟩:=r;rfl
 |QN _=>obtain⟨t,rfl⟩:=r;rfl
 |RH _=>obtain⟨t,rfl⟩:=r;rfl
 |ref _=>cases r;rfl
 |ty _=>cases r;rfl
def C6.inj{x y:V}{u:Value}(r:C6 x u)(q:C6 y u):x=y:=zF (r.abs.symm.trans q.abs)
theorem aJ.inj:∀{b a:List V}{c:List Value},aJ b c->aJ a c->b=a
 | _,_,_,.nil,.nil=>rfl
 | _,_,_,.cons r t,.cons r' t'=>by rw[r.inj r',aJ.inj t t']
def C5.list{σ:St}(I:C5 X i σ H s)(h:Ee X.K H a g):∃b:List Value,aJ g b/\PlainL s.heap a b.toArray/\g.length<=sizeLine:=by
 rcases h with h | ⟨o,b,n,c,f,d,hs,hz,r⟩
 ·obtain⟨z,b,n,r,e⟩:=h.ok I.Pm;exact⟨b,r,⟨_,n,e,rfl,rfl,rfl⟩,z⟩
 ·refine⟨b.toList,r,⟨o,n,I.PR a o c,f,d,by simpa using hs⟩,?_⟩;have e:=r.length;simp only[Array.length_toList] at e;omega
def C5.tuple{σ:St}(I:C5 X g σ H s)(h:ER X.K H a f):∃b:List Value,aJ f b/\IsTup s.heap a b.toArray/\f.length<=sizeLine:=by
 rcases h with h | ⟨o,b,n,c,d,hs,hz,r⟩
 ·obtain⟨z,b,r,p⟩:=h.ok I.Pm;exact⟨b,r,p,z⟩
 ·refine⟨b.toList,r,⟨o,I.PR a o c,d,n,by simpa using hs⟩,?_⟩;have e:=r.length;simp only[Array.length_toList] at e;omega
def C5.P1{σ:St}(I:C5 X p σ H s)(h:Ee X.K H a t)(j:Ee X.K H a q):t=q:=by
 obtain⟨c,r,⟨o,n,e,_,_,d⟩,_⟩:=I.list h;obtain⟨b,i,⟨l,m,f,_,_,g⟩,_⟩:=I.list j;rw[e] at f;cases f;rw[d] at g
 injection g with k _
 have:c=b:=by simpa using congrArg Array.toList k
 subst this;exact r.inj i
def C5.QV{σ:St}(I:C5 X p σ H s)(h:ER X.K H a t)(j:ER X.K H a q):t=q:=by
 obtain⟨c,r,⟨o,e,_,n,d⟩,_⟩:=I.tuple h;obtain⟨b,i,⟨l,f,_,m,g⟩,_⟩:=I.tuple j;rw[e] at f;cases f;rw[d] at g
 injection g with k _
 have:c=b:=by simpa using congrArg Array.toList k
 subst this;exact r.inj i
abbrev Cx.P8(X:Cx)(E:Value->Shared->Prop):Cx:={X with xe:=E}
abbrev Cx.QQ(X:Cx):Cx:=X.P8 λ_ _=>False
def Cx.Ok.P8{X:Cx}(a:X.Ok)(E:Value->Shared->Prop):(X.P8 E).Ok :=
 ⟨a.mod,a.kind,a.glob,a.blt,a.above,a.inj,a.has,a.SA,a.hd,a.frames,a.stk,a.exf,a.bs,a.RA,a.Q0,a.Q4,a.P3,a.Sa⟩
def Cx.Ok.PH{X:Cx} (a:(X.P8 E).Ok):X.Ok :=
 ⟨a.mod,a.kind,a.glob,a.blt,a.above,a.inj,a.has,a.SA,a.hd,a.frames,a.stk,a.exf,a.bs,a.RA,a.Q0,a.Q4,a.P3,a.Sa⟩
def C5.P8{σ:St}(I:C5 X a σ H s)(E:Value->Shared->Prop):C5 (X.P8 E) a σ H s:=⟨I.ok.P8 E,I.os,I.bare,I.base,I.loc,I.cell,I.free,I.Pw,I.pin,I.Pm,I.len⟩
def C5.PH{σ:St}(I:C5 (X.P8 E) a σ H s):C5 X a σ H s:=⟨I.ok.PH,I.os,I.bare,I.base,I.loc,I.cell,I.free,I.Pw,I.pin,I.Pm,I.len⟩
def SP.PH(h:SP (X.P8 E) pins D f s'):SP X pins D f s':=by
 cases f with
 |next=>obtain⟨a,b,I,q⟩:=h;exact⟨a,b,I.PH,q⟩
 |brk=>obtain⟨a,b,I,q⟩:=h;exact⟨a,b,I.PH,q⟩
 |cont=>obtain⟨a,b,I,q⟩:=h;exact⟨a,b,I.PH,q⟩
 |ret u=>obtain⟨v,a,b,I,r,q⟩:=h;exact⟨v,a,b,I.PH,r,q⟩
def Fs.QQ{st:List Stmt} (h:Fs X.QQ st t):Fs X st t:=λpins s σ H D I hw =>
 zV (h pins s σ H D (I.P8 _) hw) (λ_ _ q=>q.PH) λ_ _ z=>False.elim z
def RZ:TS:=λD σ H=>D.nx σ H
def R0(t u:TS):TS:=λD σ H=>t {D with nx:=u D} σ H
def R1:Fs X [] RZ:=λ_ _ σ H _ I h=>wpAny_execs_nil ⟨σ,H,I,h⟩
def R3{st:Stmt}{rest:List Stmt}(d:PS X st t)(c:Fs X rest u):Fs X (st::rest) (R0 t u):=by
 intro a s σ H D I h;refine wpAny_execs_cons (thn (d _ s σ H _ I h) λf b q=>?_)
 cases f with
 |next =>
  obtain⟨i,g,e,q⟩:=q;exact c _ b _ g D e q
 | ret v
 | brk
 |cont=>exact q
def R4{st:Stmt}(b:PS X st t):Fs X [st] t:=by
 intro a s σ H D I h;refine wpAny_execs_cons (thn (b _ s σ H D I h) λf c q=>?_)
 cases f with
 |next=>exact wpAny_execs_nil q
 | ret v
 | brk
 |cont=>exact q
def R5:TS:=λD σ H=>D.bk σ H
def R6:PS X (.Break a) R5:=λ_ _ σ H _ I h=>wpAny_Break ⟨σ,H,I,h⟩
def C5.quiet{σ:St} (I:C5 X a σ H s):interactive X.env=false:=by simp[interactive,I.ok.kind]
def R7(a:TE):TS:=λD σ H=>a σ H λ_ b=>D.nx σ b
def oM(b:PE X e d)(hs:swapsWith e none c.line X.env=pure false:=by rfl):PS X (.Expr e c) (R7 d):=by
 intro a s σ H D I h;exact wpAny_Expr_any (thn (b _ s σ H _ I h) λv s1 ⟨x,H1,I1,r1,q1⟩=>⟨σ,H1,I1,q1⟩) I.quiet hs
def R8(a:TE):TS:=λD σ H=>a σ H D.rt
def xA(b:PE X e c):PS X (.Return (some e) d) (R8 c):=by
 intro a s σ H D I h;exact wpAny_Return_some (thn (b _ s σ H _ I h) λv s1 ⟨x,H1,I1,r1,q1⟩=>⟨x,σ,H1,I1,r1,q1⟩)
def R9(c:TT)(t u:TS):TS:=λD σ H=>c σ H λb a=>if b=true then t D σ a else u D σ a
def Sd(f:PT X c tc)(i:Fs X a t)(g:Fs X b u):PS X (.If c a b pos) (R9 tc t u):=by
 intro e s σ H D I h;refine wpAny_If (thn (f _ s σ H _ I h) λd s1 ⟨H1,I1,q1⟩=>?_)
 cases d with
 |true=>exact i _ s1 σ H1 D I1 q1
 |false=>exact g _ s1 σ H1 D I1 q1
def Sg:TS:=λ_ _ _=>False
def Sh{st:Stmt}:PS X st Sg:=λ_ _ _ _ _ _ h=>h.elim
abbrev TG:=V->St->Hp->(St->Hp->Prop)->Prop
abbrev KI:=List V->St->Hp->(St->Hp->Prop)->Prop
def PG(X:Cx)(a:Expr)(t:TG):Prop :=
 ∀(b:List (Addr×Obj))(s:Shared)(σ:St)(H:Hp)(v:V)(u:Value)(Q:St->Hp->Prop),C5 X b σ H s->C6 v u->t v σ H Q ->
  wpAny (model X.prog X.w) X.A (assign a X.env u) (λ_ e=>∃c d,C5 X b c d e/\Q c d) X.xe s
def II(X:Cx)(f:List Expr)(t:KI):Prop :=
 ∀(a:List (Addr×Obj))(s:Shared)(σ:St)(H:Hp)(c:List V)(d:List Value)(Q:St->Hp->Prop),C5 X a σ H s->aJ c d->t c σ H Q ->
  wpAny (model X.prog X.w) X.A (assignInOrder ((assignEach f X.env).map (·.2)) d) (λ_ g=>∃b e,C5 X a b e g/\Q b e) X.xe s
abbrev Et:=V->V->V->Hp->(Hp->Prop)->Prop
def Eu(X:Cx)(t:Et):Prop :=
 ∀(a:List (Addr×Obj))(s:Shared)(σ:St)(H:Hp)(o i v:V)(b c u:Value)(Q:Hp->Prop),C5 X a σ H s->C6 o b->C6 i c->C6 v u->t o i v H Q ->
  wpAny (model X.prog X.w) X.A (setItem b c u) (λ_ e=>∃d,C5 X a σ d e/\Q d) X.xe s
def qP(i:Nat):TG:=λv σ H Q=>Q (σ.set i (some v)) H
def Sq(d:X.N.Nodup)(c:X.N[i]?=some x)(b:HI X.env.scope x)(g:X.fn x=true\/X.env.scope.names.lookup x=some .local:=by first | exact .inl rfl | exact .inr rfl | assumption):PG X (.Name x pos) (qP i):=by
 intro a s σ H v u Q I r h;exact wpAny_assign_Name (xu I d c b r λf e=>⟨_,H,e,h⟩)
def Ss:KI:=λa σ H Q=>a=[]/\Q σ H
def Su(t:TG)(u:KI):KI:=λb σ H Q=>∃v r,b=v::r/\t v σ H λa c=>u r a c Q
def Sw:II X [] Ss:=by
 intro a s σ H b c Q I r h;obtain⟨e,h⟩:=h;exact assignInOrder_nil ⟨σ,H,I,h⟩
def Sx(c:PG X e t)(b:II X es u)
  (hs:(assignEach (e::es) X.env).map (·.2)=assign e X.env::(assignEach es X.env).map (·.2):=by rfl):II X (e::es) (Su t u):=by
 intro a s σ H f i Q I r h;obtain⟨v,g,d,h⟩:=h;subst d
 cases r with
 |cons r rr =>
  rw[hs];refine assignInOrder_cons (thn (c _ s σ H _ _ _ I r h) λ_ s1 ⟨σ1,H1,I1,q1⟩=>?_);exact b _ s1 _ H1 _ _ Q I1 rr q1
def Sy(K:PySem.W.Frag)(n:Nat)(t:KI):TG:=λv σ H Q=>∃a b,v=.ref a/\ER K H a b/\b.length=n/\t b σ H Q
def SJ{d:Pos} {k:Nat} (x:X.calm=true)(h:II X E t)
  (q:(assignEach E X.env).length=n:=by rfl) (f:(assignEach E X.env).findIdx? (·.1)=none:=by rfl):PG X (.Tuple E k d) (Sy X.K n t):=by
 intro g s σ H v u Q I r c;obtain⟨a,i,y,p,w,c⟩:=c;subst y;cases r;obtain⟨A,j,m,B⟩:=I.tuple p
 refine assign_Tuple_tuple (I.ok.hd x) m (by simp[q,<-w,j.length]) f λC l=>?_
 have z :=I.kept (t':=s.toks) λb o e=>l b o (zt (zm e)) e
 exact h _ _ σ H i _ Q z (by simpa) c
def SM(a b:TE)(t:Et):TG:=λv σ H Q=>a σ H λo e=>b σ e λi d=>t o i v d λc=>Q σ c
def SN(b:PE X o f)(c:PE X i g)(hs:Eu X t)
  (d:∀v,assign (.Subscript o i e) X.env v=(do
   let ov <-holding [v] (eval o X.env)
   let iv <-holding [v,ov] (eval i X.env)
   standAt e
   holding [v,ov,iv] (setItem ov iv v)
   release [v,ov,iv] []):=by intro _;rfl):PG X (.Subscript o i e) (SM f g t):=by
 intro a s σ H v u Q I r h;refine za (zS (thn (b _ s σ H _ I h) λov s1 ⟨x,H1,I1,r1,q1⟩=>?_));refine za (zS (thn (c _ s1 σ H1 _ I1 q1) λiv s2 ⟨y,H2,I2,r2,q2⟩=>?_));refine za (wpAny_standAt (za (zS (thn (hs _ s2 σ H2 x y v ov iv u _ I2 r1 r2 r q2) λ_ s3 ⟨H3,I3,q3⟩=>?_))));exact wpAny_release ⟨σ,H3,I3,q3⟩
def qQ(a:TE)(g:TG):TS:=λD σ H=>a σ H λx b=>g x σ b D.nx
def Ew{a:Pos} (f:PE X e l)(d:PG X k g)(hs:swapsWithSole [k] e a.line X.env=pure false:=by rfl)(c:swappedStores [k] e X.env=pure none:=by rfl)
  (i:(assignEach [k] X.env).map (·.2)=[assign k X.env]:=by rfl):PS X (.Assign [k] e a) (qQ l g):=by
 intro b s σ H D I h;refine wpAny_Assign_stores (thn (f _ s σ H _ I h) λv s1 ⟨x,H1,I1,r1,q1⟩=>?_) hs c;rw[i]
 exact thn (d _ s1 σ H1 x v _ I1 r1 q1) λ_ j q=>q
def Ex{a:Pos} (j:X.N.Nodup)(d:X.N[i]?=some x)(c:HI X.env.scope x)(g:PE X e n)(hs:swapsWith e (some (.Name x m)) a.line X.env=pure false:=by rfl)(f:X.fn x=true\/X.env.scope.names.lookup x=some .local:=by first | exact .inl rfl | exact .inr rfl | assumption):
  PS X (.Assign [.Name x m] e a) (qQ n (qP i)):=by
 intro b s σ H D I h;refine wpAny_Assign_Name (thn (g b s σ H _ I h) λv s1 ⟨y,H1,I1,r1,q1⟩=>?_) hs;exact xu I1 j d c r1 (λl k=>⟨_,H1,k,q1⟩) f
def Ey(c:TT)(g:TS):TS:=λD σ H=>∃W:Nat->St->Hp->Prop,(∃m,W m σ H)/\∀m σ H,W m σ H ->
 c σ H λb e=>if b=true then ∃N:St->Hp->Prop,(∀a f,N a f->∃d,d<m/\W d a f)/\g {D with nx:=N,ct:=N,bk:=D.nx} σ e else D.nx σ e
def SQ(j:PassesOwn (model X.prog X.w) X.A X.env X.xe)(y:PT X c tc)(z:Fs X body tb):PS X (.While c body [] pos) (Ey tc tb):=by
 intro m s σ H D I h;obtain⟨W,⟨t,p⟩,d⟩:=h;refine wpAny_While (codeAny_whileLoop (λn q=>∃a l,C5 X _ a l q/\W n a l) ?_ t ⟨σ,H,I,p⟩);rintro n s1 ⟨σ1,H1,I1,w1⟩;refine wpAny_passesOwn j (thn (y _ s1 _ H1 _ I1 (d n _ H1 w1)) λb s2 ⟨H2,I2,e⟩=>?_)
 cases b with
 |true =>
  obtain⟨N,B,e⟩:=e;refine wpAny_passesOwn j (thn (z _ s2 _ H2 _ I2 e) λf E i=>?_)
  cases f with
  | next
  |cont =>
   obtain⟨g,k,C,r⟩:=i;obtain⟨u,x,o⟩:=B _ k r;exact⟨u,x,g,k,C,o⟩
  | brk
  |ret v=>exact i
 |false =>
  exact wpAny_execs_nil ⟨σ1,H2,I2,e⟩
structure It where
 go:Nat->Hp->Prop
 So:Nat->Hp->V->Hp->Prop
 stop:Nat->Hp->Prop
def gh(X:Cx)(a:List (Addr×Obj))(H:Hp)(b:Addr):Prop :=
 H b=none/\b≠X.env.locals/\b∉X.fs/\(b∈X.ex\/X.s₀.heap.objs.size<=b)/\(∀x c,X.env.cells.lookup x=some c->c≠b)/\∀p∈X.pn++a,p.1≠b
def C5.Ql{σ:St} {b:Addr}(I:C5 X g σ H s)(a:s.heap.objs.size<=b)(f:h b=none):gh X g h b:=by
 refine⟨f,Nat.ne_of_gt (zM I.lt a),I.Q3 a,.inr (zJ I.sz a),λx c e z=>?_,λp d z=>?_⟩
 ·obtain⟨v,q⟩:=I.cell x c e;exact absurd (zM q.lt (by rw[z];exact a)) (zW _)
 ·exact absurd (zM (zm (I.pin p d).1) (by rw[z];exact a)) (zW _)
structure EO(P:Program)(w:World)(K:PySem.W.Frag)(tg:Expr)(J:It)(fp:List Addr)(it:Addr)(tn:Nat->Heap->Prop):Prop where
 mem:it∈fp
 obj:∀i h,tn i h->∀b∈fp,∃o,h.get? b=some o/\∀v,o.data≠.cell v
 keep:∀i h h',tn i h->(∀b∈fp,∀o,h.get? b=some o->h'.get? b=some o)->tn i h'
 item:∀(X:Cx),X.prog=P->X.w=w->X.K=K->X.calm=true->∀(i:Nat)(pins:List (Addr×Obj))(s:Shared)(σ:St)(H:Hp)(E:Value->Shared->Prop),C5 X pins σ H s->(∀b∈fp,gh X pins H b)->tn i s.heap->J.go i H ->
  wpAny (model P w) X.A (pyNext (.ref it)) (λr s1=>∃u,r=some u /\
   wpAny (model P w) X.A (letOwnedTupleGo tg (.ref it) u) (λ_ s2=>∃x H',C5 X pins σ H' s2/\C6 x u/\J.So i H x H'/\tn (i+1) s2.heap/\∀b∈fp,H' b=none) E s1) E s
 done:∀(X:Cx),X.prog=P->X.w=w->X.K=K->X.calm=true->∀(i:Nat)(pins:List (Addr×Obj))(s:Shared)(σ:St)(H:Hp)(E:Value->Shared->Prop),C5 X pins σ H s->(∀b∈fp,gh X pins H b)->tn i s.heap->J.stop i H ->
  wpAny (model P w) X.A (pyNext (.ref it)) (λr s1=>r=none/\C5 X pins σ H s1) E s
 self:∀(A:Around)(i:Nat)(s:Shared)(Q:Value->Shared->Prop)(E:Value->Shared->Prop),tn i s.heap->Q (.ref it) s->wpAny (model P w) A (pyIter (.ref it)) Q E s
abbrev TI:=St->Hp->(It->Hp->Prop)->Prop
def NO(X:Cx)(a:List (Addr×Obj))(σ:St)(g:Expr)(R:It->Hp->Prop)(d:Value)(f:Shared):Prop :=
 ∃(it:Addr)(fp:List Addr)(e:Nat->Heap->Prop)(J:It)(c:Hp),d=.ref it/\C5 X a σ c f/\EO X.prog X.w X.K g J fp it e/\e 0 f.heap/\(∀b∈fp,gh X a c b)/\R J c
def PI(X:Cx)(c iter:Expr)(b:TI):Prop :=
 ∀(a:List (Addr×Obj))(s:Shared)(σ:St)(H:Hp)(R:It->Hp->Prop),C5 X a σ H s->b σ H R ->
  wpAny (model X.prog X.w) X.A (eval iter X.env) (λv d=>wpAny (model X.prog X.w) X.A (pyIter v) (NO X a σ c R) X.xe d) X.xe s
def oN(b:s.heap.get? it=some o)(e:o.cls=.type n)(d:o.data=.fields f)
  (c:["enumerate","zip","dict_itemiterator","dict_reverseitemiterator","odict_iterator","itertools.zip_longest","itertools.pairwise"].contains n=false) (a:Q () s):wpAny M A (letOwnedTupleGo g (.ref it) u) Q E s:=by
 unfold letOwnedTupleGo
 cases g<;>first
  | exact zb a
  | (cases u<;>first
    | exact zb a
    | (refine za (wpAny_load b ?_)
       rw[e,d];show wpAny M A (if(["enumerate","zip","dict_itemiterator","dict_reverseitemiterator","odict_iterator","itertools.zip_longest","itertools.pairwise"].contains n&&f[0]? == some (rawInt _))=true then _ else _) Q E s;rw[if_neg (by intro h;rw[c,Bool.false_and] at h;cases h)]
       exact zb a))
def MH(K:PySem.W.Frag)(a:Addr):It :=
 ⟨λi H=>∃b x,Ee K H a b/\b[i]?=some x,λi H x c=>c=H/\∀b,Ee K H a b->b[i]?=some x,λi H=>∃b,Ee K H a b/\b.length<=i⟩
def NU(K:PySem.W.Frag)(a:Addr):It :=
 ⟨λi H=>∃b x,ER K H a b/\b[i]?=some x,λi H x c=>c=H/\∀b,ER K H a b->b[i]?=some x,λi H=>∃b,ER K H a b/\b.length<=i⟩
def KP(lo:Int)(n:Nat):It:=⟨λi _=>i<n,λi H x a=>a=H/\x=.int (lo+i),λi _=>n<=i⟩
def SX{K:PySem.W.Frag} (a it:Addr):EO P w K tg (MH K a) [it] it (λi h=>h.IsListIter it a i) where
 mem:=by simp
 obj:=λi h st b hb=>by
  have e:b=it:=by simpa using hb
  subst e;obtain⟨o,e,c,d⟩:=st;exact⟨o,e,λv z=>by rw[d] at z;cases z⟩
 keep:=λi h h' st k=>st.at λo e=>k it (by simp) o e
 item:=by
  intro X hP hw hK hc i pins s σ H E I hf st hg;subst hP hw hK;obtain⟨xs,x,hq,hx⟩:=hg;obtain⟨its,rv,p,hz⟩:=I.list hq;obtain⟨u,hu,ru⟩:=rv.get hx;obtain⟨f0,f1,f2,f3,f4,f5⟩:=hf it (by simp)
  refine wpAny_pyNext_list_item st p.isList (x:=u) (by simpa using hu) λh' st' sb=>?_
  have I1:C5 X pins σ H {s with heap:=h'}:=I.turned (t':=s.toks) (λb o hb e=>(sb.2 b hb).trans e) f0 f1 f3 f4 f5;obtain⟨o,e,c,d⟩:=id st';exact⟨u,rfl,oN (s:={s with heap:=h'}) e c d (by decide) ⟨x,H,I1,ru,⟨rfl,λys hy=>by rw[I.P1 hy hq];exact hx⟩,st',λb hb=>(hf b hb).1⟩⟩
 done:=by
  intro X hP hw hK hc i pins s σ H E I hf st hg;subst hP hw hK;obtain⟨xs,hq,hx⟩:=hg;obtain⟨its,rv,p,hz⟩:=I.list hq;obtain⟨f0,f1,f2,f3,f4,f5⟩:=hf it (by simp);have hl:=rv.length
  exact wpAny_pyNext_list_end (I.ok.hd hc) st p.isList (by simp;omega) λh' eb=>⟨rfl,I.turned (t':=s.toks) (λb o hb e=>eb b o hb e) f0 f1 f3 f4 f5⟩
 self:=λ_ _ _ _ _ st h=>wpAny_pyIter_listiter st h
def S5{K:PySem.W.Frag} (a it:Addr):EO P w K tg (NU K a) [it] it (λi h=>h.IsTupleIter it a i) where
 mem:=by simp
 obj:=λi h st b hb=>by
  have e:b=it:=by simpa using hb
  subst e;obtain⟨o,e,c,d⟩:=st;exact⟨o,e,λv z=>by rw[d] at z;cases z⟩
 keep:=λi h h' st k=>st.at λo e=>k it (by simp) o e
 item:=by
  intro X hP hw hK hc i pins s σ H E I hf st hg;subst hP hw hK;obtain⟨xs,x,hq,hx⟩:=hg;obtain⟨its,rv,p,hz⟩:=I.tuple hq;obtain⟨u,hu,ru⟩:=rv.get hx;obtain⟨f0,f1,f2,f3,f4,f5⟩:=hf it (by simp)
  refine wpAny_pyNext_tuple_item st (show s.heap.IsTuple a its.toArray from p) (x:=u) (by simpa using hu) λh' st' sb=>?_
  have I1:C5 X pins σ H {s with heap:=h'}:=I.turned (t':=s.toks) (λb o hb e=>(sb.2 b hb).trans e) f0 f1 f3 f4 f5;obtain⟨o,e,c,d⟩:=id st';exact⟨u,rfl,oN (s:={s with heap:=h'}) e c d (by decide) ⟨x,H,I1,ru,⟨rfl,λys hy=>by rw[I.QV hy hq];exact hx⟩,st',λb hb=>(hf b hb).1⟩⟩
 done:=by
  intro X hP hw hK hc i pins s σ H E I hf st hg;subst hP hw hK;obtain⟨xs,hq,hx⟩:=hg;obtain⟨its,rv,p,hz⟩:=I.tuple hq;obtain⟨f0,f1,f2,f3,f4,f5⟩:=hf it (by simp);have hl:=rv.length
  exact wpAny_pyNext_tuple_end (I.ok.hd hc) st (show s.heap.IsTuple a its.toArray from p) (by simp;omega) λh' eb=>⟨rfl,I.turned (t':=s.toks) (λb o hb e=>eb b o hb e) f0 f1 f3 f4 f5⟩
 self:=λ_ _ _ _ _ st h=>wpAny_pyIter_tupleiter st h
def S7{K:PySem.W.Frag} (it:Addr)(lo:Int)(n:Nat):EO P w K tg (KP lo n) [it] it (λi h=>IsRangeIter h it (lo+(i:Nat) * 1) ((n:Int) - (i:Nat)) 1) where
 mem:=by simp
 obj:=λi h st b hb=>by
  have e:b=it:=by simpa using hb
  subst e
  exact⟨_,st,λv z=>by
   have z':Data.fields _=Data.cell v:=z
   cases z'⟩
 keep:=λi h h' st k=>k it (by simp) _ st
 item:=by
  intro X hP hw hK hc i pins s σ H E I hf st hg;subst hP hw hK;obtain⟨f0,f1,f2,f3,f4,f5⟩:=hf it (by simp);have W:=Walks.range (prog:=X.prog) (w:=X.w) (I.ok.hd hc) it lo 1 n
  refine W.item i s _ _ hg st λv h' tk hv st' kk=>?_
  obtain⟨t,rfl⟩:=hv;have I1:C5 X pins σ H {s with heap:=h',toks:=tk}:=I.turned (λb o hb e=>kk b o (by simpa using hb) e) f0 f1 f3 f4 f5;refine⟨_,rfl,oN (s:={s with heap:=h',toks:=tk}) (n:="range_iterator") st' rfl rfl (by decide) ⟨.int (lo+i),H,I1,⟨t,?_⟩,⟨rfl,rfl⟩,st',λb hb=>(hf b hb).1⟩⟩;rw[Int.mul_one]
 done:=by
  intro X hP hw hK hc i pins s σ H E I hf st hg;subst hP hw hK;obtain⟨f0,f1,f2,f3,f4,f5⟩:=hf it (by simp)
  exact wpAny_pyNext_range_end (I.ok.hd hc) st (by have:n<=i:=hg;omega) λh' eb=>⟨rfl,I.turned (t':=s.toks) (λb o hb e=>eb b o hb e) f0 f1 f3 f4 f5⟩
 self:=λ_ _ _ _ _ st h=>wpAny_pyIter_rangeiter st h
def Ez(K:PySem.W.Frag)(d:TE):TI:=λσ H R=>d σ H λx b=>∃a,x=.ref a/\(∃c,Ee K b a c)/\R (MH K a) b
def S8(K:PySem.W.Frag)(d:TE):TI:=λσ H R=>d σ H λx b=>∃a,x=.ref a/\(∃c,ER K b a c)/\R (NU K a) b
def xB(f:PE X l n):PI X r l (Ez X.K n):=by
 intro c s σ H R I h
 refine thn (f _ s σ H _ I h) λv s1 ⟨x,H1,I1,r1,q1⟩=>?_
 obtain⟨a,e,⟨j,d⟩,q⟩:=q1;subst e;cases r1;obtain⟨i,k,p,m⟩:=I1.list d;refine wpAny_pyIter_list p.isList ?_;refine⟨s1.heap.objs.size,[s1.heap.objs.size],_,_,H1,rfl,I1.kept λb o e=>zq _ e,SX a _,⟨_,zD _ rfl,rfl,rfl⟩,λb g=>?_,q⟩
 have e :=by simpa using g
 subst e;exact I1.Ql (zc _) (I1.Pm.fresh (zc _))
def S9(f:PE X l n):PI X r l (S8 X.K n):=by
 intro c s σ H R I h
 refine thn (f _ s σ H _ I h) λv s1 ⟨x,H1,I1,r1,q1⟩=>?_
 obtain⟨a,e,⟨j,d⟩,q⟩:=q1;subst e;cases r1;obtain⟨i,k,p,m⟩:=I1.tuple d;refine wpAny_pyIter_tuple (p) ?_;refine⟨s1.heap.objs.size,[s1.heap.objs.size],_,_,H1,rfl,I1.kept λb o e=>zq _ e,S5 a _,⟨_,zD _ rfl,rfl,rfl⟩,λb g=>?_,q⟩
 have e :=by simpa using g
 subst e;exact I1.Ql (zc _) (I1.Pm.fresh (zc _))
def Tc{σ:St} {lo:Int} (I:C5 X l σ H s)(h:-(2 ^ 62)<=lo)(g:lo<2 ^ 62)(f:-(2 ^ 62)<=k)(d:k<2 ^ 62)
  (q:R (KP lo (k - lo).toNat) H):wpAny (model X.prog X.w) X.A (pyIter (.ref s.heap.objs.size)) (NO X l σ m R) E {s with heap:=s.heap.push {cls:=.type "range",data:=.fields #[.int lo t,.int k u,.int 1 v]},toks:=tk}:=by
 refine wpAny_pyIter_range (IsRange.new ..) (small_one h g f d) ?_
 have a:C5 X l σ H {s with heap:=s.heap.push {cls:=.type "range",data:=.fields #[.int lo t,.int k u,.int 1 v]},toks:=tk}:=I.kept λb o e=>zq _ e
 refine⟨(s.heap.push {cls:=.type "range",data:=.fields #[.int lo t,.int k u,.int 1 v]}).objs.size,[(s.heap.push {cls:=.type "range",data:=.fields #[.int lo t,.int k u,.int 1 v]}).objs.size],_,_,H,rfl,
  a.kept (t':=tk) λb o e=>zq _ e,S7 _ lo (k - lo).toNat,?_,λb c=>?_,q⟩
 ·have j:lo+((0:Nat):Int) * 1=lo:=by simp
  have i:(((k - lo).toNat:Nat):Int) - ((0:Nat):Int)=Builtin.Range.rangeSize lo k 1:=by rw[rangeSize_one];split<;>omega
  show IsRangeIter _ _ (lo+((0:Nat):Int) * 1) ((((k - lo).toNat:Nat):Int) - ((0:Nat):Int)) 1;rw[j,i];exact zD _ rfl
 ·have e:b=(s.heap.push {cls:=.type "range",data:=.fields #[.int lo t,.int k u,.int 1 v]}).objs.size:=by simpa using c
  subst e;exact a.Ql (zc _) (a.Pm.fresh (zc _))
def Td(b:TA):TI:=λσ H R=>b σ H λa c=>∃j:Int,a=[.int j]/\-(2 ^ 62)<=j/\j<2 ^ 62/\R (KP 0 j.toNat) c
def Te(g:Gl X "range")(f:X.mg "range" = none)(i:PA X [a] ta)(hs:starEach [a] X.env=[(false,eval a X.env)]:=by rfl):PI X tg (.Call (.Name "range" p) [a] [] pos) (Td ta):=by
 intro c s σ H R I h;refine Call_ (jQ I g f boot_range (PyProof.Rows.callWith_type1 (thn (i _ _ s σ H _ I h) λus s1 ⟨vs,H1,I1,r1,b⟩=>?_) hs));obtain⟨j,e,b,d,q⟩:=b;subst e
 cases r1 with
 |cons r rr =>
  cases rr;obtain⟨t,rfl⟩:=r;exact call_range_1 (Tc I1 (by omega) (by omega) b d (by simpa))
def EY(e:TI)(g:TG)(f:TS):TS:=λD σ H=>e σ H λJ j=>∃W:Nat->Nat->St->Hp->Prop,(∃m,W 0 m σ j)/\∀i m σ H,W i m σ H ->
 (J.stop i H/\D.nx σ H)\/(J.go i H/\∃N:St->Hp->Prop,(∀b a,N b a->∃d,d<m/\W (i+1) d b a)/\∀x a,J.So i H x a->g x σ a λc h=>f {D with nx:=N,ct:=N,bk:=D.nx} c h)
def qR(fp:List Addr)(h:Heap):List (Addr×Obj):=fp.filterMap λb=>(h.get? b).map λo=>(b,o)
def uq(a:b∈fp)(e:h.get? b=some o):(b,o)∈qR fp h:=List.mem_filterMap.mpr ⟨b,a,by rw[e];rfl⟩
def Tf(a:p∈qR fp h):p.1∈fp/\h.get? p.1=some p.2:=by
 obtain⟨b,c,e⟩:=List.mem_filterMap.mp a
 cases q:h.get? b with
 |none=>rw[q] at e;cases e
 |some o =>
  rw[q] at e;have e' :=zF e;subst e';exact⟨c,q⟩
def C5.pinned{σ:St} (I:C5 X l σ H s)(h:∀b∈fp,gh X l H b)(g:∀b∈fp,∃o,s.heap.get? b=some o/\∀v,o.data≠.cell v):C5 X (l++qR fp s.heap) σ H s :=
 I.P2 λp f=>(zy.mp f).elim (λz=>I.pin p (zQ _ z)) λz=>by
  obtain⟨a,e⟩:=Tf z;obtain⟨k,j,i,_⟩:=h p.1 a;obtain⟨o,c,d⟩:=g p.1 a;rw[e] at c;cases c;exact⟨e,k,j,i,d⟩
def C5.PF{σ:St} (I:C5 X (b++c) σ H s):C5 X b σ H s:=I.P2 λp a=>I.pin p (zQ _ (jk _ a))
def Tg(C:PassesOwn (model X.prog X.w) X.A X.env X.xe)(Z:X.calm=true)(hi:PI X tg iter wi)(hg:PG X tg g)(j:Fs X body tb)
  (hs:∀x,foldedSetIterable iter X.env x=pure x:=by intro _;rfl):PS X (.For tg iter body [] pos) (EY wi g tb):=by
 intro c s σ H D I h;refine wpAny_For (thn (hi c s σ H _ I h) λv s1 h1=>thn h1 λitv s2 h2=>?_) hs;obtain⟨it,fp,R,J,H2,e,I2,T,Q,f2,W,⟨m0,w0⟩,G⟩:=h2;subst e
 have t:∀{y:Hp},(∀b∈fp,y b=none)->∀b∈fp,gh X c y b:=λhn b j=>⟨hn b j,(f2 b j).2⟩
 refine codeAny_forLoop_any (λn Y=>∃i q y,C5 X c q y Y/\R i Y.heap/\(∀b∈fp,y b=none)/\W i n q y) ?_ m0 ⟨0,σ,H2,I2,Q,λb j=>(f2 b j).1,w0⟩;rintro n U ⟨i,p,L,I3,E,F,w3⟩
 rcases G i n p L w3 with⟨K,qn⟩ | ⟨go,N,hN,step⟩
 ·refine wpAny_passesOwn C (thn (T.done X rfl rfl rfl Z i c U p L X.xe I3 (t F) E K) λr s4 ⟨P,I4⟩=>?_);subst P;exact wpAny_execs_nil ⟨p,L,I4,qn⟩
 ·refine wpAny_passesOwn C (thn (T.item X rfl rfl rfl Z i c U p L X.xe I3 (t F) E go) λr s4 ⟨u,P,h4⟩=>?_);subst P;refine wpAny_passesOwn C (thn h4 λ_ s5 ⟨x,H5,I5,r5,y5,st5,fr5⟩=>?_);have I5':=I5.pinned (t fr5) (T.obj _ _ st5);refine wpAny_passesOwn C (thn (hg _ s5 p H5 x u _ I5' r5 (step x H5 y5)) λ_ s6 ⟨σ6,H6,I6,q6⟩=>?_);refine wpAny_passesOwn C (thn (j _ s6 σ6 H6 _ I6 q6) λf O z=>?_)
  have again:∀{a:St}{l:Hp},C5 X (c++qR fp s5.heap) a l O->N a l->∃m,m<n/\∃i q y,C5 X c q y O/\R i O.heap/\(∀b∈fp,y b=none)/\W i m q y:=λ{a l} k B=>by
   obtain⟨m',hm,w7⟩:=hN a l B;refine⟨m',hm,i+1,a,l,k.PF,T.keep _ _ _ st5 λb j o e=>(k.pin (b,o) (zQ _ (zQ _ (uq j e)))).1,λb j=>?_,w7⟩;obtain⟨o,e,d⟩:=T.obj _ _ st5 b j;exact(k.pin (b,o) (zQ _ (zQ _ (uq j e)))).2.1
  cases f with
  |next=>obtain⟨a,l,k,B⟩:=z;exact again k B
  |cont=>obtain⟨a,l,k,B⟩:=z;exact again k B
  |brk=>obtain⟨a,l,k,z⟩:=z;exact⟨a,l,k.PF,z⟩
  |ret v=>obtain⟨x7,a,l,k,r7,z⟩:=z;exact⟨x7,a,l,k.PF,r7,z⟩
abbrev R2:=V->V->Hp->VK->Prop
def EB(X:Cx)(f:Value->Value->Sem Value)(r:R2):Prop :=
 ∀(a:List (Addr×Obj))(s:Shared)(σ:St)(H:Hp)(x y:V)(v u:Value)(Q:VK),C5 X a σ H s->C6 x v->C6 y u->r x y H Q ->
  wpAny (model X.prog X.w) X.A (f v u) (EP X a σ Q) X.xe s
def MA(X:Cx)(f:Value->Sem Value)(r:V->Hp->VK->Prop):Prop :=
 ∀(a:List (Addr×Obj))(s:Shared)(σ:St)(H:Hp)(x:V)(v:Value)(Q:VK),C5 X a σ H s->C6 x v->r x H Q ->
  wpAny (model X.prog X.w) X.A (f v) (EP X a σ Q) X.xe s
def gj(X:Cx)(f:Value)(r:List V->Hp->VK->Prop):Prop :=
 ∀(a:List (Addr×Obj))(s:Shared)(σ:St)(H:Hp)(b:List V)(c:List Value)(Q:VK),C5 X a σ H s->aJ b c->r b H Q ->
  wpAny (model X.prog X.w) X.A (call f c) (EP X a σ Q) X.xe s
def Th(X:Cx)(r:V->Hp->(Bool->Hp->Prop)->Prop):Prop :=
 ∀(a:List (Addr×Obj))(s:Shared)(σ:St)(H:Hp)(x:V)(v:Value)(Q:Bool->Hp->Prop),C5 X a σ H s->C6 x v->r x H Q ->
  wpAny (model X.prog X.w) X.A (truthy v) (TP X a σ Q) X.xe s
def Jn(r:R2)(b a:TE):TE:=λσ H Q=>b σ H λx d=>a σ d λy c=>r x y c Q
def N1(r:V->Hp->VK->Prop)(a:TE):TE:=λσ H Q=>a σ H λx b=>r x b Q
def rI(C:Int->Int->Prop)(g:Int->Int->V):R2:=λx y H Q=>∃i j,x=.int i/\y=.int j/\C i j/\Q (g i j) H
def Iy(g:Int->Int->V):R2:=λx y H Q=>∃i j,x=.int i/\y=.int j/\Q (g i j) H
def rU(g:Int->V):V->Hp->VK->Prop:=λx H Q=>∃i,x=.int i/\Q (g i) H
def xC(l:PE X a o)(k:PE X b n) {σ:St} {R:V->V->Hp->Prop}(I:C5 X m σ H s)
  (h:o σ H λx i=>n σ i λy c=>R x y c) {f:Value->Value->Sem Value}
  (j:∀v u g x y c,C5 X m σ c g->C6 x v->C6 y u->R x y c->wpAny (model X.prog X.w) X.A (f v u) Q X.xe g):
  wpAny (model X.prog X.w) X.A (eval a X.env) (λv e=>wpAny (model X.prog X.w) X.A (eval b X.env) (λu d=>wpAny (model X.prog X.w) X.A (f v u) Q X.xe d) X.xe e) X.xe s:=by
 refine thn (l _ s σ H _ I h) λv s1 ⟨x,i,I1,r1,q1⟩=>?_
 refine thn (k _ s1 σ i _ I1 q1) λu g ⟨y,c,I2,r2,q2⟩=>?_
 exact j v u g x y c I2 r1 r2 q2
def Ti(g:EB X (binaryOp o) r)(j:PE X a n)(i:PE X b m):PE X (.BinOp a o b p) (Jn r n m):=by
 intro c s σ H Q I h;exact wpAny_BinOp (xC j i I h λv u d x y l k f e q=>g _ d σ l x y v u Q k f e q)
def Tj(c:MA X (unaryOp f) r)(d:PE X a e):PE X (.UnaryOp f a g) (N1 r e):=by
 intro b s σ H Q I h;exact UnaryOp_ (thn (d _ s σ H _ I h) λv s1 ⟨x,H1,I1,r1,q1⟩=>c _ s1 σ H1 x v Q I1 r1 q1)
def Ll{g:Int->Int->Int}
  (rule:∀(i j:Int)(t u:Tok)(s:Shared)(Q:Value->Shared->Prop)(E:Value->Shared->Prop),C i j->Q (.int (g i j) s.toks) {s with toks:=s.toks+1}->wpAny (model X.prog X.w) X.A (f (.int i t) (.int j u)) Q E s):
  EB X f (rI C λi j=>.int (g i j)):=by
 intro a s σ H x y v u Q I d c h;obtain⟨i,j,rfl,rfl,e,q⟩:=h;obtain⟨t,rfl⟩:=d;obtain⟨b,rfl⟩:=c;exact rule i j t b s _ _ e ⟨.int _,H,I.tok _,⟨_,rfl⟩,q⟩
def Fb{g:Int->Int->Int}
  (rule:∀(i j:Int)(t u:Tok)(s:Shared)(Q:Value->Shared->Prop)(E:Value->Shared->Prop),Q (.int (g i j) s.toks) {s with toks:=s.toks+1}->wpAny (model X.prog X.w) X.A (f (.int i t) (.int j u)) Q E s):
  EB X f (Iy λi j=>.int (g i j)):=by
 intro a s σ H x y v u Q I d c h;obtain⟨i,j,rfl,rfl,q⟩:=h;obtain⟨t,rfl⟩:=d;obtain⟨b,rfl⟩:=c;exact rule i j t b s _ _ ⟨.int _,H,I.tok _,⟨_,rfl⟩,q⟩
def xD{g:Int->Int->Bool}
  (rule:∀(i j:Int)(t u:Tok)(s:Shared)(Q:Value->Shared->Prop)(E:Value->Shared->Prop),Q (.bool (g i j)) s->wpAny (model X.prog X.w) X.A (f (.int i t) (.int j u)) Q E s):
  EB X f (Iy λi j=>.bl (g i j)):=by
 intro a s σ H x y v u Q I d c h;obtain⟨i,j,rfl,rfl,q⟩:=h;obtain⟨t,rfl⟩:=d;obtain⟨b,rfl⟩:=c;exact rule i j t b s _ _ ⟨.bl _,H,I,rfl,q⟩
def Tn(i j:Int):Prop:=0<j/\j<1073741824
def Tp(i j:Int):Prop:=0<=j/\j<=1000000/\i.natAbs<2 ^ 64
def xE(i j:Int):Prop:=(-(2 ^ 64)<i/\i<2 ^ 64)\/(-(2 ^ 64)<j/\j<2 ^ 64)
def xE.ok(h:xE i j):IntMulOk i j:=by
 rcases h with⟨b,a⟩ | ⟨b,a⟩
 ·exact .of_left (intBits_le_64 b a)
 ·exact .of_right (intBits_le_64 b a)
def Tq:EB X (binaryOp .Add) (Iy λi j=>.int (i+j)):=Fb λ_ _ _ _ _ _ _ q=>add_int q
def Tr:EB X (binaryOp .Sub) (Iy λi j=>.int (i - j)):=Fb λ_ _ _ _ _ _ _ q=>sub_int q
def Tt:EB X (binaryOp .Mult) (rI xE λi j=>.int (i * j)):=Ll λ_ _ _ _ _ _ _ a q=>mul_int q a.ok
def Tu:EB X (binaryOp .FloorDiv) (rI Tn λi j=>.int (i / j)):=Ll λi j _ _ _ _ _ a q=>by
 have c:(0:Int)<j:=a.1;have b:j<1073741824:=a.2;exact floordiv_int (by omega) (by rw[Int.fdiv_eq_ediv_of_nonneg i (by omega)];exact q) (.inl (PyProof.noPylong_small (by omega)))
def Tv:EB X (binaryOp .Mod) (rI (λ_ j=>0<j) λi j=>.int (i % j)):=Ll λi j _ _ _ _ _ a q=>by
 have b:(0:Int)<j:=a;exact mod_int' (by omega) (by rw[Int.fmod_eq_emod_of_nonneg i (by omega)];exact q)
def Tw:EB X (binaryOp .Pow) (rI Tp λi j=>.int (i ^ j.toNat)):=Ll λ_ _ _ _ _ _ _ a q=>pow_int_small a.1 a.2.1 a.2.2 q
def PD{g:Int->Int}
  (rule:∀(i:Int)(t:Tok)(s:Shared)(Q:Value->Shared->Prop)(E:Value->Shared->Prop),Q (.int (g i) s.toks) {s with toks:=s.toks+1}->wpAny (model X.prog X.w) X.A (f (.int i t)) Q E s):
  MA X f (rU λi=>.int (g i)):=by
 intro a s σ H x v Q I b h;obtain⟨i,rfl,q⟩:=h;obtain⟨t,rfl⟩:=b;exact rule i t s _ _ ⟨.int _,H,I.tok _,⟨_,rfl⟩,q⟩
def Tz:MA X (unaryOp .USub) (rU λi=>.int (-i)):=PD λ_ _ _ _ _ q=>neg_int q
def TF:EB X (binaryOp .Add) (λx y H Q=>∃i k,x=.int i/\y=.bl k/\Q (.int (i+b2i k)) H):=by
 intro a s σ H x y v u Q I c b h;obtain⟨i,k,rfl,rfl,q⟩:=h;obtain⟨t,rfl⟩:=c;cases b;exact add_int_bool ⟨.int _,H,I.tok _,⟨_,rfl⟩,q⟩
def Fd:V->V->Bool
 | .Pl,.Pl=>true | .Pl,.int _=>true | .int _,.Pl=>true | .Pl,.bl _=>true | .bl _,.Pl=>true | .Pl,.str _=>true | .str _,.Pl=>true
 | .int _,.int _=>true | .bl _,.bl _=>true | .str _,.str _=>true | .QN _,.QN _=>true
 | .int _,.str _=>true | .str _,.int _=>true | .bl _,.str _=>true | .str _,.bl _=>true
 | _,_=>false
def OB:R2:=λx y H Q=>Fd x y=true/\Q (.bl (decide (x=y))) H
def Oy:R2:=λx y H Q=>Fd x y=true/\Q (.bl (!decide (x=y))) H
def Fe:decide (V.int i=V.int j)=(i == j):=by
 rw[Bool.eq_iff_iff];simp
def Ff:decide (V.bl i=V.bl j)=(i == j):=by
 rw[Bool.eq_iff_iff];simp
def Fg:decide (V.str i=V.str j)=(i == j):=by
 rw[Bool.eq_iff_iff];simp
def Fi:decide (V.QN i=V.QN j)=(i.toList == j.toList):=by
 rw[Bool.eq_iff_iff];cases i;cases j;simp
def cu{σ:St} (I:C5 X a σ H s)(q:Q (.bl k) H)(e:k=b):EP X a σ Q (.bool b) s:=by
 subst e;exact⟨.bl k,H,I,rfl,q⟩
def xF:EB X (compareOp .Eq) OB:=by
 intro d s σ H x y v u Q I c a h;obtain⟨hs,q⟩:=h
 cases x with
 |Pl =>
  cases c
  cases y with
  |Pl=>cases a;exact PySem.EqNone.eq_none_none (cu I q (by simp))
  |bl j=>cases a;exact PySem.EqNone.eq_none_bool (cu I q (by simp))
  |int j=>obtain⟨b,rfl⟩:=a;exact PySem.EqNone.eq_none_int (cu I q (by simp))
  |str j=>obtain⟨b,rfl⟩:=a;exact PySem.EqNone.eq_none_str (cu I q (by simp))
  | _=>exact absurd (show false=true from hs) zA
 |bl i =>
  cases c
  cases y with
  |Pl=>cases a;exact PySem.EqNone.eq_bool_none (cu I q (by simp))
  |bl j=>cases a;exact eq_bool (cu I q Ff)
  |str j=>obtain⟨b,rfl⟩:=a;exact PySem.EqMixed.eq_bool_str (cu I q (by simp))
  | _=>exact absurd (show false=true from hs) zA
 |int i =>
  obtain⟨t,rfl⟩:=c
  cases y with
  |Pl=>cases a;exact PySem.EqNone.eq_int_none (cu I q (by simp))
  |int j=>obtain⟨b,rfl⟩:=a;exact eq_int (cu I q Fe)
  |str j=>obtain⟨b,rfl⟩:=a;exact PySem.EqMixed.eq_int_str (cu I q (by simp))
  | _=>exact absurd (show false=true from hs) zA
 |str i =>
  obtain⟨t,rfl⟩:=c
  cases y with
  |Pl=>cases a;exact PySem.EqNone.eq_str_none (cu I q (by simp))
  |bl j=>cases a;exact PySem.EqMixed.eq_str_bool (cu I q (by simp))
  |int j=>obtain⟨b,rfl⟩:=a;exact PySem.EqMixed.eq_str_int (cu I q (by simp))
  |str j=>obtain⟨b,rfl⟩:=a;exact eq_str (cu I q Fg)
  | _=>exact absurd (show false=true from hs) zA
 |QN i =>
  obtain⟨t,rfl⟩:=c
  cases y with
  |QN j=>obtain⟨b,rfl⟩:=a;exact PySem.W.eq_bytes (cu I q Fi)
  | _=>exact absurd (show false=true from hs) zA
 | _=>cases y<;>exact absurd (show false=true from hs) zA
def xG:EB X (compareOp .NotEq) Oy:=by
 intro d s σ H x y v u Q I c a h;obtain⟨hs,q⟩:=h
 cases x with
 |Pl =>
  cases c
  cases y with
  |Pl=>cases a;exact PySem.EqNone.ne_none_none (cu I q (by simp))
  |bl j=>cases a;exact PySem.EqNone.ne_none_bool (cu I q (by simp))
  |int j=>obtain⟨b,rfl⟩:=a;exact PySem.EqNone.ne_none_int (cu I q (by simp))
  |str j=>obtain⟨b,rfl⟩:=a;exact PySem.EqNone.ne_none_str (cu I q (by simp))
  | _=>exact absurd (show false=true from hs) zA
 |bl i =>
  cases c
  cases y with
  |Pl=>cases a;exact PySem.EqNone.ne_bool_none (cu I q (by simp))
  |bl j=>cases a;exact ne_bool (cu I q (congrArg not Ff))
  |str j=>obtain⟨b,rfl⟩:=a;exact PySem.EqMixed.ne_bool_str (cu I q (by simp))
  | _=>exact absurd (show false=true from hs) zA
 |int i =>
  obtain⟨t,rfl⟩:=c
  cases y with
  |Pl=>cases a;exact PySem.EqNone.ne_int_none (cu I q (by simp))
  |int j=>obtain⟨b,rfl⟩:=a;exact ne_int (cu I q (congrArg not Fe))
  |str j=>obtain⟨b,rfl⟩:=a;exact PySem.EqMixed.ne_int_str (cu I q (by simp))
  | _=>exact absurd (show false=true from hs) zA
 |str i =>
  obtain⟨t,rfl⟩:=c
  cases y with
  |Pl=>cases a;exact PySem.EqNone.ne_str_none (cu I q (by simp))
  |bl j=>cases a;exact PySem.EqMixed.ne_str_bool (cu I q (by simp))
  |int j=>obtain⟨b,rfl⟩:=a;exact PySem.EqMixed.ne_str_int (cu I q (by simp))
  |str j=>obtain⟨b,rfl⟩:=a;exact ne_str (cu I q (congrArg not Fg))
  | _=>exact absurd (show false=true from hs) zA
 |QN i =>
  obtain⟨t,rfl⟩:=c
  cases y with
  |QN j=>obtain⟨b,rfl⟩:=a;exact PySem.W.ne_bytes (cu I q (congrArg not Fi))
  | _=>exact absurd (show false=true from hs) zA
 | _=>cases y<;>exact absurd (show false=true from hs) zA
def TJ:EB X (compareOp .Lt) (Iy λi j=>.bl (decide (i<j))):=xD λ_ _ _ _ _ _ _ q=>lt_int q
def TQ:EB X (compareOp .LtE) (Iy λi j=>.bl (decide (i<=j))):=xD λ_ _ _ _ _ _ _ q=>le_int q
def TV:EB X (compareOp .Gt) (Iy λi j=>.bl (decide (j<i))):=xD λ_ _ _ _ _ _ _ q=>gt_int q
def TY:EB X (compareOp .In) (λx y H Q=>∃i j,x=.str i/\y=.str j/\Q (.bl (!(Builtin.Str.occurrences j i 0 j.length 1).isEmpty)) H):=by
 intro a s σ H x y v u Q I c b h;obtain⟨i,j,rfl,rfl,q⟩:=h;obtain⟨t,rfl⟩:=c;obtain⟨d,rfl⟩:=b;exact in_str (cu I q rfl)
def oO(b:Expr) (h:e≠.In:=by decide)(a:e≠.NotIn:=by decide):behindInMarks e b=false:=by
 have d:(e == CmpOp.In)=false:=by cases e<;>first | rfl | exact absurd rfl h
 have c:(e == CmpOp.NotIn)=false:=by cases e<;>first | rfl | exact absurd rfl a
 cases b<;>simp[behindInMarks,d,c]
def T3(g:EB X (compareOp n) r)(k:PE X a p)(j:PE X b o)(i:behindInMarks n b=false):PE X (.Compare a [n] [b] t) (Jn r p o):=by
 intro c s σ H Q I h;exact wpAny_Compare1 (xC k j I h λv u d x y m l f e q=>g c d σ m x y v u Q l f e q) i
def ur(t:TE):TT:=λσ H Q=>t σ H λx a=>∃k,x=.bl k/\Q k a
def Fj(f:EB X (compareOp l) r)(j:PE X a n)(i:PE X b m)(g:behindInMarks l b=false):PT X (.Compare a [l] [b] o) (ur (Jn r n m)):=by
 intro d s σ H Q I h
 refine wpAny_isTrue_Compare1 (thn (j _ s σ H _ I h) λv s1 ⟨x,H1,I1,r1,q1⟩=>thn (i _ s1 σ H1 _ I1 q1) λu s2 ⟨y,H2,I2,r2,q2⟩ =>
  thn (f _ s2 σ H2 x y v u _ I2 r1 r2 q2) λc s3 ⟨z,H3,I3,r3,k,e,q3⟩=>?_) g
 subst e;cases r3;exact wpAny_truthy_bool ⟨H3,I3,q3⟩
def xH(r f:R2)(e d c:TE):TE:=λσ H Q=>e σ H λx i=>d σ i λy h=>r x y h λz a=>∃k,z=.bl k /\
 (if k=true then c σ a λb g=>f y b g Q else Q (.bl false) a)
def T4(i:EB X (compareOp op) r)(f:EB X (compareOp op') r')(n:PE X a ta)(m:PE X b tb)(l:PE X c tc)
  (j:lastMarks [op,op'] [b,c]=false:=by with_unfolding_all rfl):PE X (.Compare a [op,op'] [b,c] pos) (xH r r' ta tb tc):=by
 intro g s σ H Q I h
 refine Compare_chain (thn (n _ s σ H _ I h) λv s1 ⟨x,H1,I1,r1,q1⟩=>chain_link (thn (m _ s1 σ H1 _ I1 q1) λu s2 ⟨y,H2,I2,r2,q2⟩ =>
  thn (i _ s2 σ H2 x y v u _ I2 r1 r2 q2) λd s3 ⟨z,H3,I3,r3,k,e,q3⟩=>?_)) j
 subst e;cases r3;refine wpAny_truthy_bool ?_
 cases k with
 |false=>exact ite_ff ⟨.bl _,H3,I3,rfl,q3⟩
 |true=>exact ite_tt (chain_last (thn (l _ s3 σ H3 _ I3 q3) λw' s4 ⟨z',H4,I4,r4,q4⟩=>f _ s4 σ H4 y z' u w' Q I4 r2 r4 q4))
def T5(j:EB X (compareOp op) r)(f:EB X (compareOp op') r')(o:PE X a ta)(n:PE X b tb)(m:PE X c tc)
  (l:lastMarks [op,op'] [b,c]=false:=by with_unfolding_all rfl):PT X (.Compare a [op,op'] [b,c] pos) (ur (xH r r' ta tb tc)):=by
 intro g s σ H Q I h
 refine isTrue_chain (thn (o _ s σ H _ I h) λv s1 ⟨x,H1,I1,r1,q1⟩=>test_link (thn (n _ s1 σ H1 _ I1 q1) λu s2 ⟨y,H2,I2,r2,q2⟩ =>
  thn (j _ s2 σ H2 x y v u _ I2 r1 r2 q2) λd s3 ⟨z,H3,I3,r3,k,e,q3⟩=>?_)) l
 subst e;cases r3;refine wpAny_truthy_bool ?_
 cases k with
 |false =>
  obtain⟨q,p,i⟩:=q3;cases p;exact ite_ff ⟨H3,I3,i⟩
 |true =>
  refine ite_tt (test_last (thn (m _ s3 σ H3 _ I3 q3) λw' s4 ⟨z',H4,I4,r4,q4⟩=>thn (f _ s4 σ H4 y z' u w' _ I4 r2 r4 q4) λd' s5 ⟨z2,H5,I5,r5,k2,e2,q5⟩=>?_));subst e2;cases r5;exact wpAny_truthy_bool ⟨H5,I5,q5⟩
def xJ(K:PySem.W.Frag)(x:V)(H:Hp)(k:Bool):Prop :=
 match x with
 | .Pl=>k=false
 | .bl b=>k=b
 | .int i=>k=(i != 0)
 | .str y=>y.length<=sizeLine/\k=((y.length:Int) != 0)
 | .QN y=>y.size<=sizeLine/\k=((y.size:Int) != 0)
 | .ref p=>(∃a,Ee K H p a/\k = !a.isEmpty)\/(∃a,ER K H p a/\k = !a.isEmpty)\/∃c,H p=some (.dK c)/\k = !c.isEmpty
 | _=>False
def T6(r:KV a b):(!b.isEmpty) = !a.isEmpty:=by
 cases r<;>rfl
def Fo(r:aJ b a):(!a.toArray.isEmpty) = !b.isEmpty:=by
 cases r<;>simp
def qT:(sizeLine:Nat)<2 ^ 63:=by decide
def xK:Th X (λx H Q=>∃k,xJ X.K x H k/\Q k H):=by
 intro o s σ H x v Q I d h;obtain⟨k,e,q⟩:=h;have B:=qT;have hs:sizeLine=16777216:=sizeLine_eq
 cases x with
 |Pl =>
  cases d;have a:k=false:=e;subst a;exact truthy_none ⟨H,I,q⟩
 |bl b =>
  cases d;have a:k=b:=e;subst a;exact wpAny_truthy_bool ⟨H,I,q⟩
 |int i =>
  obtain⟨t,rfl⟩:=d;have a:k=(i != 0):=e;subst a;exact PySem.P.truthy_int ⟨H,I,q⟩
 |str y =>
  obtain⟨t,rfl⟩:=d;obtain⟨z,a⟩ :=e;subst a;exact PySem.P.truthy_str (by omega) ⟨H,I.tok _,q⟩
 |QN y =>
  obtain⟨t,rfl⟩:=d;obtain⟨z,a⟩ :=e;subst a;exact PySem.W.truthy_bytes (by omega) ⟨H,I.tok _,q⟩
 |ref p =>
  cases d;have a :=e
  rcases a with⟨u,f,a⟩ | ⟨u,f,a⟩ | ⟨j,f,a⟩
  ·subst a;obtain⟨l,r,g,n⟩:=I.list f;have c:=r.length;exact wpAny_truthy_list g.isList (by simp only[zK];omega) ⟨H,I.tok _,by rw[Fo r];exact q⟩
  ·subst a;obtain⟨l,r,g,n⟩:=I.tuple f;have c:=r.length;exact truthy_tuple g (by simp only[zK];omega) ⟨H,I.tok _,by rw[Fo r];exact q⟩
  ·subst a;obtain⟨n,A,w,r,m⟩ :=I.Pm p _ f;have c:j.length=w.length:=Paired.length r;exact wpAny_truthy_dict A m (by omega) ⟨H,I.tok _,by rw[T6 r];exact q⟩
 | _=>exact(show False from e).elim
def T7(f:PE X a g)(e:∀b,isTrue a X.env b=(do let v <-b;standAt a.pos;holding [v] (truthy v))):
  PT X a (λσ H Q=>g σ H λx d=>∃k,xJ X.K x d k/\Q k d):=by
 intro c s σ H Q I h;exact isTrue_plain (thn (f c s σ H _ I h) λv s1 ⟨x,H1,I1,r1,q1⟩=>xK c s1 σ H1 x v Q I1 r1 q1) (e _)
def T8:EB X (binaryOp .Add) (λx y H Q=>∃i j,x=.str i/\y=.str j/\i.length+j.length<=sizeLine/\Q (.str (i++j)) H):=by
 intro a s σ H x y v u Q I d c h;obtain⟨i,j,rfl,rfl,e,q⟩:=h;obtain⟨t,rfl⟩:=d;obtain⟨b,rfl⟩:=c
 exact add_str λb tk=>⟨.str _,H,I.tok _,⟨_,rfl⟩,q⟩
def DT(r:aJ [x] us):∃u,us=[u]/\C6 x u:=by
 cases r with
 |cons b a=>cases a;exact⟨_,rfl,b⟩
def Ic(r:aJ [x,y] us):∃u a,us=[u,a]/\C6 x u/\C6 y a:=by
 cases r with
 |cons r1 r2 =>
  cases r2 with
  |cons c b=>cases b;exact⟨_,_,rfl,r1,c⟩
def Fp:gj X (.type "int") (λa H Q=>(∃i,a=[.int i]/\Q (.int i) H)\/∃k,a=[.bl k]/\Q (.int (if k then 1 else 0)) H):=by
 intro b s σ H a d Q I r h
 rcases h with⟨i,rfl,q⟩ | ⟨k,rfl,q⟩
 ·obtain⟨u,rfl,t,rfl⟩:=DT r;exact call_int_int ⟨.int i,H,I,⟨_,rfl⟩,q⟩
 ·obtain⟨u,rfl,c⟩:=DT r;cases c;exact call_int_bool ⟨.int (if k then 1 else 0),H,I.tok _,⟨_,rfl⟩,q⟩
def T9:gj X (.type "str") (λa H Q=>∃i,a=[.int i]/\i.natAbs.log2<1920/\Q (.str (toString i)) H):=by
 intro b s σ H a d Q I r h;obtain⟨i,rfl,c,q⟩:=h;obtain⟨u,rfl,t,rfl⟩:=DT r;exact PySem.P.str_of_int c ⟨.str _,H,I.tok _,⟨_,rfl⟩,q⟩
def Ua(K:PySem.W.Frag)(x:V)(H:Hp)(n:Nat):Prop :=
 match x with
 | .str y=>y.length<=sizeLine/\n=y.length
 | .QN y=>y.size<=sizeLine/\n=y.size
 | .ref p=>(∃a,Ee K H p a/\n=a.length)\/∃a,ER K H p a/\n=a.length
 | _=>False
def E2:gj X (.builtin "len") (λc H Q=>∃x n,c=[x]/\Ua X.K x H n/\Q (.int n) H):=by
 intro k s σ H c o Q I r h;obtain⟨x,n,rfl,e,q⟩:=h;obtain⟨u,rfl,d⟩:=DT r;have hs :=sizeLine_eq
 cases x with
 |str y =>
  obtain⟨t,rfl⟩:=d;obtain⟨m,b⟩ :=e;subst b;exact len_str (by omega) ⟨.int _,H,I.tok _,⟨_,rfl⟩,q⟩
 |QN y =>
  obtain⟨t,rfl⟩:=d;obtain⟨m,b⟩ :=e;subst b;exact PySem.W.len_bytes (by omega) ⟨.int _,H,I.tok _,⟨_,rfl⟩,q⟩
 |ref p =>
  cases d;have b :=e
  rcases b with⟨c,i,b⟩ | ⟨c,i,b⟩
  ·subst b;obtain⟨j,f,g,l⟩:=I.list i;have a:=f.length;exact Calls.call_len_list g.isList (by simp;omega) ⟨.int _,H,I.tok _,⟨_,by simp only[zK];rw[a]⟩,q⟩
  ·subst b;obtain⟨j,f,g,l⟩:=I.tuple i;have a:=f.length;exact len_tuple g (by simp;omega) ⟨.int _,H,I.tok _,⟨_,by simp only[zK];rw[a]⟩,q⟩
 | _=>exact(e).elim
structure mK(h:Heap)(x dx C:Addr)(mA:Str->Option Value):Prop where
 obj:h.get? x=some (PySem.W.instObj C dx)
 ns:h.Ns1 dx mA
 ne:dx≠x
def Ub{h:Heap} (n:h.Ns1 r p):∃d,h.get? r=some d/\∀b,PySem.W.lookIn b d=some (p b):=by
 obtain⟨o,f,m,i,l,k,_,j⟩:=n;refine⟨o,i,λb=>?_⟩;have e:=j b;unfold nsFind findBy at e;rw[<-Array.find?_toList] at e;unfold PySem.W.lookIn;rw[l]
 dsimp
 split
 ·rename_i y q;rw[q] at e;exact congrArg _ e
 ·rename_i q;rw[q] at e
  have a:f.toList.any (·.refKey)=false:=by
   rw[List.any_eq_false];intro y g;obtain⟨z,t,c⟩:=k y (Array.mem_toList_iff.mp g);simp[DictEntry.refKey,c]
  have a':¬f.toList.any (·.refKey)=true:=by rw[a];exact zA
  rw[if_neg a'];exact congrArg _ e
def mK.look(I:mK h x d C c):∃b,PySem.W.InstAt h x (PySem.W.instObj C d) C (some b)/\∀a,PySem.W.lookIn a b=some (c a):=
 let ⟨b,ho,hl⟩:=Ub I.ns
 ⟨b,⟨I.obj,rfl,rfl,ho⟩,hl⟩
def Uc{K:PySem.W.Frag} (X:K.In s.heap)(I:mK s.heap x k C j)(e:PySem.W.plainGet K C i=true)(d:PySem.W.hasDictIn K C=true)
  (f:PySem.W.findIn K (.ref C) i=some none) (b:j i=some v) (a:PySem.W.handedIn v=true) (h:Q v {s with toks:=s.toks+1}):
  wpAny (model prog w) A (getAttr (.ref x) i expr) Q E s:=by
 obtain⟨g,J,c⟩:=I.look;exact PySem.W.get_value X J (PySem.W.plainGet_of e).1 (PySem.W.findObj_own d f rfl (by rw[c,b])) a h
def Ud{K:PySem.W.Frag} (X:K.In s.heap)(I:mK s.heap x m C k)(a:PySem.W.plainGet K C i=true)
  (g:PySem.W.findIn K (.ref C) i=some (some (.ref f))) (d:PySem.W.isFn K (.ref f)=true) (c:k i=none) (h:Q (.ref f,[.ref x]) s):
  wpAny (model j w) A (getMethod (.ref x) i l) Q E s:=by
 obtain⟨b,J,e⟩:=I.look;exact PySem.W.method_fn X J (PySem.W.plainGet_of a).1 (PySem.W.plainGet_of a).2 g (beq_iff_eq.mp d) (by show(PySem.W.lookIn _ b).map _=some _;rw[e,c];rfl) h
def Ue{K:PySem.W.Frag} (X:K.In s.heap)(I:mK s.heap x H C G)
  (hs:PySem.W.findIn K (.ref C) "__setattr__" = some (some (.builtin "object.__setattr__"))) (m:PySem.W.plainOver K C=true) (l:PySem.W.takerIn K C F=some none) (n:PySem.W.hasDictIn K C=true)
  (k:PySem.Within G ns) (p:ns.length<=sizeLine)
  (h:∀d,mK d x H C (λy=>if y=F then some v else G y)->Heap.SameBut H s.heap d->Q () {s with heap:=d,toks:=s.toks+2}):
  wpAny (model prog w) A (setAttr (.ref x) F v) Q E s:=by
 obtain⟨t,J,z⟩:=I.look;refine PySem.W.set_plain X J hs (PySem.W.osa_open X J m l λb=>?_);obtain⟨B,o,g⟩:=PySem.W.any_some n;have j :=I.obj;refine za (zb (za (za (wpAny_loadPart j (za (PySem.W.Looks.here (PySem.W.looks_clsIn X o) ?_))))));rw[g];refine zb (za (zb (za ?_)))
 refine wpAny_nsSet1 I.ns λd c a=>?_
 obtain⟨u,q,r,e,f,i⟩:=c.count (PySem.Within.cons _ v k);refine za (wpAny_lookBehind e (by rw[f];exact pastItsLine_dict (zJ i (by rw[zu];omega))) ?_);exact zb (h _ ⟨(a.2 _ (Ne.symm I.ne)).trans I.obj,c,I.ne⟩ a)
def Ug{s:Shared}{K:PySem.W.Frag} (X:K.In s.heap)(b:PySem.W.makesIn K C=true)
  (c:PySem.W.findIn K (.ref C) "__init__" = some (some (.ref f))) (e:PySem.W.typeIn K (.ref f)=some (.type "function"))
  (h:codeAny (model j w) (A.under (.builtin "type.__call__" ⟨.ref C::k,l⟩)) (.call (.ref f) ⟨.ref (s.heap.objs.size+1)::k,l⟩) (PySem.W.InitBack (s.heap.objs.size+1) R)
   {s with heap:=(s.heap.push PySem.W.emptyDict).push (PySem.W.instObj C s.heap.objs.size)}):
  codeAny (model j w) A (.call (.ref C) ⟨k,l⟩) R s:=by
 obtain⟨i,g,d,t,os⟩:=s;exact PySem.W.make_core (PySem.W.makes_of X b) (PySem.W.looks_findIn X c) (λa=>PySem.W.bind_fn X a e) (.inl rfl) h
def dX(f:Str)(v:V):List (Str×V)->List (Str×V)
 | []=>[(f,v)]
 | (g,x)::r=>if g=f then(g,v)::r else(g,x)::dX f v r
theorem Fq(f g:Str)(v:V):∀c:List (Str×V),(dX f v c).lookup g=if g=f then some v else c.lookup g
 | []=>by
  show List.lookup g [(f,v)]=_
  by_cases h:g=f
  ·have a :=beq_iff_eq.mpr h;simp [List.lookup,a,if_pos h]
  ·have a :=beq_eq_false_iff_ne.mpr h;simp [List.lookup,a,if_neg h]
 | (k,x)::r=>by
  have d:=Fq f g v r;rw[show dX f v _=if k=f then(k,v)::r else(k,x)::dX f v r from rfl]
  by_cases b:k=f
  ·rw[if_pos b]
   by_cases h:g=k
   ·have a :=beq_iff_eq.mpr h;simp [List.lookup,a,if_pos (h.trans b)]
   ·have a :=beq_eq_false_iff_ne.mpr h;simp [List.lookup,a,if_neg λe:g=f=>h (e.trans b.symm)]
  ·rw[if_neg b]
   by_cases h:g=k
   ·have a :=beq_iff_eq.mpr h;simp [List.lookup,a,if_neg λe =>b (h.symm.trans e)]
   ·have a :=beq_eq_false_iff_ne.mpr h;simp [List.lookup,a];exact d
theorem xN(f:Str)(v:V):∀a:List (Str×V),f∈(dX f v a).map (·.1)/\∀g,g∈a.map (·.1)->g∈(dX f v a).map (·.1)
 | []=>⟨by simp[dX],λg h=>by simp at h⟩
 | (k,x)::r=>by
  obtain⟨d,c⟩:=xN f v r;rw[show dX f v _=if k=f then(k,v)::r else(k,x)::dX f v r from rfl]
  by_cases b:k=f
  ·subst b;exact⟨by simp,λg h=>by simpa using h⟩
  ·rw[if_neg b];refine⟨?_,λg h=>?_⟩
   ·exact zl _ d
   ·rcases zk.mp h with e | e
    ·exact zk.mpr (.inl e)
    ·exact zl _ (c g e)
theorem Ft(f:Str)(v:V):∀b:List (Str×V),(dX f v b).length<=b.length+1
 | []=>by simp[dX]
 | (k,x)::r=>by
  have c:=Ft f v r;rw[show dX f v _=if k=f then(k,v)::r else(k,x)::dX f v r from rfl]
  by_cases a:k=f
  ·rw[if_pos a,zu,zu];omega
  ·rw[if_neg a,zu,zu];omega
def dJ.some_of(r:dJ (some v) o):∃u,o=some u/\C6 v u:=by
 cases o with
 |none=>exact(show False from r).elim
 |some u=>exact⟨u,rfl,r⟩
def dJ.none_of(r:dJ none o):o=none:=by
 cases o with
 |none=>rfl
 |some u=>exact(show False from r).elim
def Uh(r:C6 v u):PySem.W.handedIn u=true:=by
 cases v with
 | Pl
 |bl b=>cases(r);rfl
 | int i
 | str x
 | QN b
 |RH b=>obtain⟨t,e⟩:=(r);cases e;rfl
 | ref a
 |ty n=>cases(r);rfl
def uv(c:EI P w H h)(e:H a=some (.ins C k j)):∃b,mK h a k C b/\(∀f,dJ (j.lookup f) (b f))/\PySem.Within b (j.map (·.1))/\j.length<=1000/\H k=some (.own a):=by
 obtain⟨d,z,i,g,b,n,r,q⟩:=(c a _ e);exact⟨b,⟨g,n,i⟩,r,q,z,d⟩
structure F8(K:PySem.W.Frag)(C:Addr):Prop where
 pg:PySem.W.plainGet K C Str.empty=true
 hd:PySem.W.hasDictIn K C=true
 po:PySem.W.plainOver K C=true
 sa:PySem.W.findIn K (.ref C) "__setattr__" = some (some (.builtin "object.__setattr__"))
def F8.get{K:PySem.W.Frag}{C:Addr}(c:F8 K C)(f:Str):PySem.W.plainGet K C f=true:=c.pg
def mL(K:PySem.W.Frag)(C:Addr)(f:Str):Prop:=PySem.W.findIn K (.ref C) f=some none
def mL.SF{K:PySem.W.Frag} (n:mL K C f):PySem.W.takerIn K C f=some none:=by
 unfold PySem.W.takerIn;rw[show PySem.W.findIn K (.ref C) f=some none from n];rfl
structure qU(K:PySem.W.Frag)(C:Addr)(m:Str)(f:Addr):Prop where
 at_:PySem.W.findIn K (.ref C) m=some (some (.ref f))
 fn:PySem.W.isFn K (.ref f)=true
 kp:PySem.W.keepIn K (.ref f)=true
def Ui{σ:St} (I:C5 X k σ H s)(e:H a=some (.ins C o m))(c:F8 X.K C)(n:mL X.K C f)(l:m.lookup f=some v)
  (h:∀u d,C5 X k σ H d->C6 v u->Q u d):wpAny (model X.prog X.w) A (getAttr (.ref a) f b) Q E s:=by
 obtain⟨j,O,r,_⟩:=uv I.Pm e;obtain⟨u,i,g⟩:=dJ.some_of (by rw[<-l];exact r f);exact Uc I.PR O (c.get f) c.hd n i (Uh g) (h u _ (I.tok _) g)
def Fv{σ:St} (I:C5 X f σ H s)(e:H a=some (.ins C n i))(c:F8 X.K C)(k:qU X.K C m g)(l:i.lookup m=none)
  (h:Q (.ref g,[.ref a]) s):wpAny (model X.prog X.w) A (getMethod (.ref a) m j) Q E s:=by
 obtain⟨d,O,r,_⟩:=uv I.Pm e;have b :=dJ.none_of (by rw[<-l];exact r m);exact Ud I.PR O (c.get m) k.at_ k.fn b h
def Uj{σ:St} (I:C5 X L σ H s)(e:H a=some (.ins C N J))(c:F8 X.K C)(n:mL X.K C f)(G:J.length<1000)(m:C6 y u)
  (h:∀j,C5 X L σ (DB H a (.ins C N (dX f y J))) j->Q () j):wpAny (model X.prog X.w) A (setAttr (.ref a) f u) Q E s:=by
 obtain⟨p,O,r,i,_,k⟩:=uv I.Pm e
 have t:(J.map (·.1)).length<=sizeLine:=by rw[ze,sizeLine_eq];omega
 refine Ue I.PR O c.sa c.po n.SF c.hd i t λF d l=>h _ ?_
 have x:∃o,F.get? N=some o:=let ⟨o,_,_,e',_⟩:=d.ns;⟨o,e'⟩;refine I.write (by rw[e];exact True.intro) (.inr k) (λb q B z=>(l.2 b B).trans z) x ?_;refine⟨by rw[aH O.ne];exact k,?_,O.ne,d.obj,_,d.ns,λg=>?_,λg v=>?_⟩
 ·have:=Ft f y J;omega
 ·rw[Fq]
  by_cases q:g=f
  ·rw[if_pos q,if_pos q];exact m
  ·rw[if_neg q,if_neg q];exact r g
 ·by_cases q:g=f
  ·rw[q];exact(xN f y J).1
  ·refine(xN f y J).2 g (i g λz=>v ?_);show(if g=f then some u else p g)=none;rw[if_neg q];exact z
def C5.made{σ:St}(I:C5 X k σ H s):C5 X k σ (DB (DB H s.heap.objs.size (.own (s.heap.objs.size+1))) (s.heap.objs.size+1) (.ins C s.heap.objs.size []))
  {s with heap:=(s.heap.push PySem.W.emptyDict).push (PySem.W.instObj C s.heap.objs.size)}:=by
 have d:(s.heap.push PySem.W.emptyDict).get? s.heap.objs.size=some PySem.W.emptyDict:=zD s.heap rfl
 have i:((s.heap.push PySem.W.emptyDict).push (PySem.W.instObj C s.heap.objs.size)).get? (s.heap.objs.size+1)=some (PySem.W.instObj C s.heap.objs.size):=by
  have:=zD (s.heap.push PySem.W.emptyDict) (o:=PySem.W.instObj C s.heap.objs.size) rfl
  rwa [Heap.size_push] at this
 have h:(s.heap.push PySem.W.emptyDict).Ns s.heap.objs.size (λ_=>none):=⟨PySem.W.emptyDict,#[],_,d,rfl,(λe g=>absurd g (by simp)),λ_=>rfl⟩;have j:=I.laid (a:=s.heap.objs.size) (o:=.own (s.heap.objs.size+1)) (h':=s.heap.push PySem.W.emptyDict) (t':=s.toks) (λb u q=>zq _ q) (zc _) ⟨_,d⟩;refine j.laid (a:=s.heap.objs.size+1) (o:=.ins C s.heap.objs.size []) (t':=s.toks) (λb u q=>zq _ q) (Nat.le_of_eq (Heap.size_push _ _)) ?_;have c:s.heap.objs.size≠s.heap.objs.size+1:=zt (jg _);refine⟨by rw[aH c,bG],Nat.zero_le _,c,i,λ_=>none,(Heap.Ns1.of_empty h).at λo q=>zq _ q,λ_=>True.intro,λy f=>absurd rfl f⟩
def Uk(b:attributeBase e f c (eval e c)=eval e c)
  (h:wpAny (model d w) A (eval e c) (λo a=>wpAny (model d w) A (getAttr o f true) Q E a) E s):wpAny (model d w) A (eval (.Attribute e f g) c) Q E s :=
 Attribute_any_ h (by rw[arm_eval_Attribute,b])
def Ul(K:PySem.W.Frag)(d:TE)(f:Str):TE:=λσ H Q=>d σ H λx c=>∃a C e b v,x=.ref a/\c a=some (.ins C e b)/\F8 K C/\mL K C f/\b.lookup f=some v/\Q v c
def Um(K:PySem.W.Frag)(g e:TE)(f:Str):TS:=λD σ H=>e σ H λy h=>g σ h λx d=>∃a C c b,x=.ref a/\d a=some (.ins C c b)/\F8 K C/\mL K C f/\b.length<1000 /\
 D.nx σ (DB d a (.ins C c (dX f y b)))
def Uo(g:PE X e o)(i:attributeBase e f X.env (eval e X.env)=eval e X.env):PE X (.Attribute e f p) (Ul X.K o f):=by
 intro b s σ H Q I h;refine Uk i (thn (g _ s σ H _ I h) λu s1 ⟨x,H1,I1,rx,a,C,dx,fs,v,ex,ea,c,n,l,q⟩=>?_);subst ex;obtain rfl :=rx
 exact Ui I1 ea c n l λk m j d=>⟨v,H1,j,d,q⟩
def Up(e:PE X o r)(d:PE X j p)(hs:swapsWith j (some (.Attribute o f k)) m.line X.env=pure false):PS X (.Assign [.Attribute o f k] j m) (Um X.K r p f):=by
 intro b s σ H D I h;refine plainObj_wpAny_Assign_Attribute (thn (d _ s σ H _ I h) λu s1 ⟨y,H1,I1,ry,q⟩=>thn (e _ s1 σ H1 _ I1 q) λov s2 ⟨x,H2,I2,rx,a,C,dx,fs,ex,ea,c,n,l,q2⟩=>?_) hs;subst ex;obtain rfl :=rx
 exact Uj I2 ea c n l ry λi g=>⟨σ,_,g,q2⟩
inductive gP (K:PySem.W.Frag) (H:Hp):V->Value->Prop where
 | Pl:gP K H .Pl (.type "NoneType")
 | bl (x:Bool):gP K H (.bl x) (.type "bool")
 | int (i:Int):gP K H (.int i) (.type "int")
 | str (x:Str):gP K H (.str x) (.type "str")
 | RH (x:UInt64):gP K H (.RH x) (.type "float")
 | lst {a:Addr}{xs:List V} (e:H a=some (.lst xs)):gP K H (.ref a) (.type "list")
 | Pp {a:Addr}{o:Obj}{xs:List V} (e:H a=some (.Pp o (.lst xs))):gP K H (.ref a) (.type "list")
 | tup {a:Addr}{xs:List V} (e:H a=some (.tup xs)):gP K H (.ref a) (.type "tuple")
 | dK {a:Addr}{kvs:List (DC×V)} (e:H a=some (.dK kvs)):gP K H (.ref a) (.type "dict")
 | dT {a:Addr}{kvs:List (List DC×V)} (e:H a=some (.dT kvs)):gP K H (.ref a) (.type "dict")
 | ins {a C dx:Addr}{fs:List (Str×V)} (e:H a=some (.ins C dx fs)) (cl:F8 K C) (ha:PySem.W.findIn K (.ref C) "__class__" = some (some (.builtin "object.__class__")))
   (hn:PySem.W.specialIn K (.builtin "object.__class__") "__get__" = some (some (.builtin "getset_descriptor.__get__"))) (htk:PySem.W.takesIn K (.builtin "object.__class__")=some true)
   (hm:PySem.W.mroIn K C (.type "object")=some true):gP K H (.ref a) (.ref C)
def qW{σ:St} (I:C5 X pins σ H s)(d:C6 x u)(k:gP X.K H x t)(e:PySem.W.kitOne X.K t c=some b)(h:∀tk,Q (.bool b) {s with toks:=tk}):
  wpAny (model X.prog X.w) A (call (.builtin "isinstance") [u,c]) Q E s:=by
 cases k with
 |Pl=>cases(show u=Value.none from d);exact PySem.W.kia_one PySem.W.kitx_none I.PR True.intro e (λz=>nomatch z) h
 |bl y=>cases(show u=Value.bool y from d);exact PySem.W.kia_one PySem.W.kitx_bool I.PR True.intro e (λz=>nomatch z) h
 |int i=>obtain⟨t,q⟩:=(show ∃t,u=Value.int i t from d);cases q;exact PySem.W.kia_one PySem.W.kitx_int I.PR True.intro e (λz=>nomatch z) h
 |str y=>obtain⟨t,q⟩:=(show ∃t,u=Value.str y t from d);cases q;exact PySem.W.kia_one PySem.W.kitx_str I.PR True.intro e (λz=>nomatch z) h
 |RH y=>obtain⟨t,q⟩:=(show ∃t,u=Value.float y t from d);cases q;exact PySem.W.kia_one PySem.W.kitx_float I.PR True.intro e (λz=>nomatch z) h
 | @lst a g ea =>
  cases(show u=Value.ref a from d);obtain⟨_,_,n,_,f⟩:=(show cC X.prog X.w H s.heap a (.lst g) from I.Pm a _ ea);exact PySem.W.kia_one PySem.W.kitx_list I.PR ⟨_,f,rfl⟩ e (λz=>nomatch z) h
 | @Pp a ob g ea =>
  cases(show u=Value.ref a from d);obtain⟨_,_,_,n,_,f⟩:=(show cC X.prog X.w H s.heap a (.Pp ob (.lst g)) from I.Pm a _ ea);exact PySem.W.kia_one PySem.W.kitx_list I.PR ⟨_,f,rfl⟩ e (λz=>nomatch z) h
 | @tup a g ea =>
  cases(show u=Value.ref a from d);obtain⟨_,_,_,p⟩:=(show cC X.prog X.w H s.heap a (.tup g) from I.Pm a _ ea);obtain⟨o,f,j,_⟩:=p;exact PySem.W.kia_one PySem.W.kitx_tuple I.PR ⟨o,f,j⟩ e (λz=>nomatch z) h
 | @dK a kvs ea =>
  cases(show u=Value.ref a from d);obtain⟨_,_,r,_,p⟩:=(show cC X.prog X.w H s.heap a (.dK kvs) from I.Pm a _ ea);obtain⟨o,l,m,f,j,_⟩:=p;exact PySem.W.kia_one PySem.W.kitx_dict I.PR ⟨o,f,j.1⟩ e (λz=>nomatch z) h
 | @dT a kvs ea =>
  cases(show u=Value.ref a from d);obtain⟨_,_,g,_,o,l,m,f,j,_⟩:=(show cC X.prog X.w H s.heap a (.dT kvs) from I.Pm a _ ea);exact PySem.W.kia_one PySem.W.kitx_dict I.PR ⟨o,f,j.1⟩ e (λz=>nomatch z) h
 | @ins a C dx fs ea cl ha hn htk hm =>
  cases(show u=Value.ref a from d);obtain⟨B,O,_⟩:=uv I.Pm ea;obtain⟨v,J,_⟩:=O.look;exact PySem.W.kia_one (PySem.W.kitx_own (cl.get _) cl.hd ha hn htk hm) I.PR J e (λz=>nomatch z) h
structure aY(k:Nat)(A:Around):Prop where
 hd:A.handled=none
 dp:A.depth+3 * k+5<recursionLimit
 un:A.units+16 * k+200<cLine
def aY.mono(r:aY k A)(h:j<=k):aY j A:=⟨r.hd,by have:=r.dp;omega,by have:=r.un;omega⟩
def aY.deeper(r:aY (k+1) A)(a:Env):aY k (A.deeper a):=
 ⟨r.hd,by have:=r.dp;show A.depth+1+3 * k+5<_;omega,by have:=r.un;show A.units+3+16 * k+200<_;omega⟩
def Uq{A:Around}:(A.under (.builtin "type.__call__" ⟨.ref C::a,b⟩)).depth=A.depth+1:=by
 first | rfl | simp
def Ur{A:Around}:(A.under (.builtin "type.__call__" ⟨.ref C::a,b⟩)).units=A.units+1:=by
 first | rfl | simp
def aY.make(r:aY (k+1) A)(C:Addr)(a:List Value)(b:List (Str×Value)):aY k (A.under (.builtin "type.__call__" ⟨.ref C::a,b⟩)):=
 ⟨r.hd,by have:=r.dp;rw[Uq];omega,by have:=r.un;rw[Ur];omega⟩
def aY.depth(r:aY k A):A.depth<recursionLimit:=by have:=r.dp;omega
def aY.units(r:aY k A):A.units+64<cLine:=by have:=r.un;omega
def qX:TA:=λ_ H Q=>Q [] H
def Us(c:TE)(b:TA):TA:=λσ H Q=>c σ H λx e=>b σ e λa d=>Q (x::a) d
def fK:PA X [] qX:=λ_ _ _ _ H Q I h=>Calls.spliced_nil ⟨[],H,I,.nil,h⟩
def dZ(c:PE X e g)(b:PA X f t)(hs:SW X.env e f:=by rfl):PA X (e::f) (Us g t):=by
 intro d a s σ H Q I h;rw[hs];show wpAny _ _ (spliced ((false,eval e _)::backTo _ _)) _ _ s;refine Calls.spliced_cons (thn (c _ s σ H _ I h) λu s1 ⟨x,H1,I1,r1,q1⟩=>?_)
 exact thn (b _ _ s1 σ H1 _ I1 q1) λus s2 ⟨xs,H2,I2,r2,q2⟩=>⟨x::xs,H2,I2,.cons r1 r2,q2⟩
def Ut(t:TA):TE:=λσ H Q=>t σ H λa b=>a.length<=sizeLine/\∀p,b p=none->Q (.ref p) (DB b p (.tup a))
def Uu(t:TA):TE:=λσ H Q=>t σ H λa b=>a.length<=sizeLine/\∀p,b p=none->Q (.ref p) (DB b p (.lst a))
def Uv(h:PA X f t):PE X (.Tuple f i g) (Ut t):=by
 intro a s σ H Q I c;refine wpAny_Tuple_spliced (thn (h _ _ s σ H _ I c) λus s1 ⟨xs,H1,I1,r,z,q⟩=>⟨by rw[<-r.length];exact z,?_⟩);have d :=I1.Pm.fresh (zc _);refine⟨.ref _,DB H1 _ _,I1.laid (λb u e=>zq _ e) (zc _) ?_,rfl,q _ d⟩;exact⟨z,us,r,⟨_,zD _ rfl,rfl,_,rfl⟩⟩
def Uw(h:PA X f t):PE X (.List f g) (Uu t):=by
 intro a s σ H Q I c;refine wpAny_List_spliced (thn (h _ _ s σ H _ I c) λus s1 ⟨xs,H1,I1,r,z,q⟩=>⟨by rw[<-r.length];exact z,?_⟩);have d :=I1.Pm.fresh (zc _);refine⟨.ref _,DB H1 _ _,I1.laid (λb u e=>zq _ e) (zc _) ?_,rfl,q _ d⟩;exact⟨z,us,0,r,zD _ rfl⟩
abbrev Sp:=List V->Hp->VK->XK->Prop
abbrev JY:=List Env->Hp->Shared->XK->Value->Shared->Prop
structure mO(P:Program)(w:World)(K:PySem.W.Frag)(mg:Str->Option Value)(base:Heap)(A:Around)(outer:List Env)(s:Shared)(H:Hp):Prop where
 frames:A.frames=some outer
 mod:Mod K mg base
 bs:∀b o,base.get? b=some o->s.heap.get? b=some o/\H b=none
 RA:base.objs.size<=s.heap.objs.size
 P3:s.heap.FunFrames base outer
 Sa:∀b∈GS outer,H b=none
 Pm:EI P w H s.heap
 bare:AllBare s.gens
inductive CE (outer:List Env) (P:Program) (w:World) (H:Hp) (s:Shared) (Q:VK) (u:Value) (s':Shared):Prop
 | mk:∀v H',s'.os=s.os->AllBare s'.gens->Un (GS outer) [] H H' s.heap s'.heap->EI P w H' s'.heap->C6 v u->Q v H'->CE outer P w H s Q u s'
def CR(c:JY)(a:List Env)(P:Program)(w:World)(H:Hp)(s:Shared)(Q:VK)(E:XK)(r:Result)(b:Shared):Prop :=
 match r with
 | .ok (.ret u)=>CE a P w H s Q u b
 | .ok _=>False
 | .error e=>c a H s E e b
structure cX(P:Program)(w:World)(K:PySem.W.Frag)(mg:Str->Option Value)(base:Heap)(CX:JY)(k:Nat)(f:Addr)(fd:FuncData)(ps:List Str)(sp:Sp):Prop where
 len:∀vs H Q E,sp vs H Q E->vs.length=ps.length
 run:∀(A:Around)(outer:List Env)(s:Shared)(H:Hp)(args:Args)(us:List Value)(vs:List V)(Q:VK)(E:XK),aY k A->mO P w K mg base A outer s H->BindsTo s fd args (ps.zip us)->aJ vs us->sp vs H Q E ->
  codeAny (model P w) A (.call (.ref f) args) (CR CX outer P w H s Q E) s
def cX.imp{K:PySem.W.Frag} (F:cX P w K p l t k f r o n)
  (h:∀b H Q E,m b H Q E->n b H Q E):cX P w K p l t k f r o m :=
 ⟨λb H Q E q=>F.len b H Q E (h _ _ _ _ q),λA a s H c d b Q E g i j e hs=>F.run A a s H c d b Q E g i j e (h _ _ _ _ hs)⟩
def mO.make{K:PySem.W.Frag} (e:mO P w K f d A c s H)(C:Addr)(a:List Value)(b:List (Str×Value)):
  mO P w K f d (A.under (.builtin "type.__call__" ⟨.ref C::a,b⟩)) c s H:=⟨by first | exact e.frames | (simpa [Around.under,Code.envs,Code.isFrame,pushEnvs] using e.frames),e.mod,e.bs,e.RA,e.P3,e.Sa,e.Pm,e.bare⟩
def C5.SD{σ:St}(I:C5 X a σ H s):mO X.prog X.w X.K X.mg X.base X.A X.stack s H :=
 ⟨I.ok.frames,I.ok.mod,I.bs,zJ I.ok.RA I.sz,I.stack,I.QT,I.Pm,I.bare⟩
def C5.after{σ:St} (I:C5 X f σ H s)(h:CE X.stack X.prog X.w H s Q u i):EP X f σ Q u i:=by
 obtain⟨v,e,os,bare,un,Pm,r,q⟩:=h;obtain⟨c,g,d,t,a⟩:=i;obtain rfl:a=s.os:=os;exact⟨v,e,I.call (h':=c) (g':=g) (d':=d) (t':=t) (ch:=[]) un Pm bare (λb z=>absurd z (by simp)),r,q⟩
def qY(c:Sp)(a:List V)(E:XK)(t:TA):TE:=λσ H Q=>t σ H λb d=>c (b++a) d Q E
def xO(C:Addr)(m:Str)(f:Sp)(b:List V)(E:XK)(e:TE)(t:TA):TE:=λσ H Q=>e σ H λx d=>∃a g c,x=.ref a/\d a=some (.ins C g c)/\c.lookup m=none /\
 t σ d λvs h=>f (x::(vs++b)) h Q E
def xP(C:Addr)(e:Sp)(c:List V)(E:XK)(t:TA):TE:=λσ H Q=>t σ H λd b=>∀x a,b x=none->b a=none->a≠x ->
 e (.ref x::(d++c)) (DB (DB b a (.own x)) x (.ins C a [])) (λv f=>v=.Pl/\Q (.ref x) f) E
def DU(K:PySem.W.Frag)(c:FuncData)(a:List Str)(b:List Value):Prop :=
 ∀(s:Shared)(us:List Value),K.In s.heap->(us++b).length=a.length->BindsTo s c ⟨us,[]⟩ (a.zip (us++b))
def DU.all{K:PySem.W.Frag} (h:∀a:List Value,a.length=c.length->bindArgs d ⟨a,[]⟩=pure (c.zip a)):DU K d c []:=λs a _ b=>by
 rw[zE] at b ⊢;exact .of_eq (h a b)
def jR(c:JY)(X:Cx)(E:XK):Prop:=∀(a:List (Addr×Obj))(σ:St)(H:Hp)(s:Shared)(e:Value)(b:Shared),C5 X a σ H s->c X.stack H s E e b->X.xe e b
def uw{σ:St} (F:cX X.prog X.w X.K X.mg X.base CX k f fd ps sp)(g:aY k X.A)(l:DU X.K fd ps ds)(j:aJ dvs ds)(d:jR CX X E)
  (I:C5 X pins σ H s) (r:aJ vs us) (h:sp (vs++dvs) H Q E):wpAny (model X.prog X.w) X.A (call (.ref f) us) (EP X pins σ Q) X.xe s:=by
 have b:aJ (vs++dvs) (us++ds):=r.append j
 have i:(us++ds).length=ps.length:=by rw[<-b.length];exact F.len _ _ _ _ h
 refine wpAny_call (codeAny_mono (F.run X.A X.stack s H ⟨us,[]⟩ (us++ds) (vs++dvs) Q E g I.SD (l s us I.PR i) b h) λr c a=>?_)
 cases r with
 |error e=>exact d pins σ H s e c I a
 |ok fl =>
  cases fl with
  |ret u=>exact I.after a
  |next=>exact False.elim a
  |brk=>exact False.elim a
  |cont=>exact False.elim a
def Fw{p a:Pos}(F:cX X.prog X.w X.K X.mg X.base J k f C B z)(i:aY k X.A)(m:Gl X x)(j:X.mg x=some (.ref f))(l:PySem.W.keepIn X.K (.ref f)=true)(u:DU X.K C B G)(o:aJ dvs G)(g:jR J X E)
  (v:PA X (e::y) t) (c:SV x:=by decide) (n:SW X.env e y:=by rfl) (b:SY X.env a y:=by rfl):
  PE X (.Call (.Name x p) (e::y) [] a) (qY z dvs E t):=by
 intro d s σ H Q I h;refine wpAny_Call_Name_kw (qO I m j ?_ c);refine PySem.W.callWith_K I.ok.mod.SR l (thn (v _ _ s σ H _ I h) λus s1 ⟨vs,H1,I1,r,q⟩=>⟨I1.PR,?_⟩) n b;exact uw F i u o g I1 r q
def Ux(F:cX X.prog X.w X.K X.mg X.base t k f q o n)(d:aY k X.A)(i:Gl X x)(e:X.mg x=some (.ref f))(g:PySem.W.keepIn X.K (.ref f)=true)(l:DU X.K q o r)(j:aJ m r)(c:jR t X E)
  (a:SV x:=by decide):PE X (.Call (.Name x p) [] [] pos) (qY n m E qX):=by
 intro b s σ H Q I h;refine wpAny_Call_Name_kw (qO I i e ?_ a);exact PySem.W.callWith_K0 I.PR g (uw F d l j c I .nil h)
def Uy{b d:Pos}{pl:Sem Bool}(z:PE X o O)(c:F8 X.K C)(n:qU X.K C m f)(F:cX X.prog X.w X.K X.mg X.base Y k f T R P)(y:aY k X.A)(G:DU X.K T R U)(B:aJ N U)(p:jR Y X E)(J:PA X (e::L) t)
  (i:SW X.env e L:=by rfl) (j:SY X.env b L:=by rfl)
  (v:eval (.Call (.Attribute o m d) (e::L) [] b) X.env=(do
   let ov <-eval o X.env
   standAt d.atName
   let (f,first) <-holding [ov] (getMethod ov m pl)
   callWith b f first (backTo b (starEach (e::L) X.env)) (backToKw b (keywordEach [] X.env))):=by rfl):
  PE X (.Call (.Attribute o m d) (e::L) [] b) (xO C m P N E O t):=by
 intro g s σ H Q I h;refine PySem.W.methodCall_KW (pl:=pl) (thn (z g s σ H _ I h) λu s1 ⟨x,H1,I1,rx,a,dx,fs,ex,ea,l,q⟩=>?_) v;subst ex;obtain rfl:u=Value.ref a:=rx;refine Fv I1 ea c n l ?_;refine PySem.W.callWith_K (first:=[.ref a]) (h₀:=X.base) I.ok.mod.SR n.kp (thn (J b g s1 σ H1 _ I1 q) λus s2 ⟨vs,H2,I2,r,q2⟩=>⟨I2.PR,?_⟩) i j;exact uw (us:=.ref a::us) (vs:=.ref a::vs) F y G B p I2 (.cons rfl r) q2
def Uz(j:PE X o y)(c:F8 X.K C)(d:qU X.K C m f)(F:cX X.prog X.w X.K X.mg X.base L k f G B z)(i:aY k X.A)(p:DU X.K G B J)(n:aJ v J)(e:jR L X E)
  (g:eval (.Call (.Attribute o m t) [] [] r) X.env=(do
   let ov <-eval o X.env
   standAt t.atName
   let (f,first) <-holding [ov] (getMethod ov m pl)
   callWith r f first (backTo r (starEach [] X.env)) (backToKw r (keywordEach [] X.env))):=by rfl):
  PE X (.Call (.Attribute o m t) [] [] r) (xO C m z v E y qX):=by
 intro b s σ H Q I h;refine PySem.W.methodCall_KW (pl:=pl) (thn (j b s σ H _ I h) λu s1 ⟨x,H1,I1,rx,a,dx,fs,ex,ea,l,q⟩=>?_) g;subst ex;obtain rfl:u=Value.ref a:=rx;refine Fv I1 ea c d l ?_;exact PySem.W.callWith_K0 (first:=[.ref a]) I1.PR d.kp (uw (us:=[.ref a]) (vs:=[.ref a]) F i p n e I1 (.cons rfl .nil) q)
structure Mk(K:PySem.W.Frag)(C f:Addr):Prop where
 makes:PySem.W.makesIn K C=true
 init:PySem.W.findIn K (.ref C) "__init__" = some (some (.ref f))
 fn:PySem.W.isFn K (.ref f)=true
 kp:PySem.W.keepIn K (.ref C)=true
def Fx{σ:St} (M:Mk X.K C f)(F:cX X.prog X.w X.K X.mg X.base CX k f fd ps sp)(n:aY (k+1) X.A)(q:DU X.K fd ps ds)(p:aJ dvs ds)
  (m:jR CX X E) (I:C5 X pins σ H s) (r:aJ vs us)
  (h:∀x b,H x=none->H b=none->b≠x->sp (.ref x::(vs++dvs)) (DB (DB H b (.own x)) x (.ins C b [])) (λv z=>v=.Pl/\Q (.ref x) z) E):
  wpAny (model X.prog X.w) X.A (call (.ref C) us) (EP X pins σ Q) X.xe s:=by
 have g:=h _ _ (I.Pm.fresh (Nat.le_succ _)) (I.Pm.fresh (zc _)) (zt (jg _));have c:=C5.made (C:=C) I;have d:aJ (V.ref (s.heap.objs.size+1)::(vs++dvs)) _:=.cons rfl (r.append p)
 have o :=by
  have e:=d.length;rw[F.len _ _ _ _ g] at e;exact e.symm
 refine wpAny_call (Ug I.PR M.makes M.init (beq_iff_eq.mp M.fn) (codeAny_mono (F.run _ _ _ _ _ _ _ _ E (n.make C us [])
  (c.SD.make C us []) (q _ _ c.PR o) d g) λr i a=>?_))
 cases r with
 |error e=>exact m _ σ _ _ e i c a
 |ok fl =>
  cases fl with
  |ret u =>
   obtain⟨v,B,y,j,t,l⟩:=c.after a;subst t;exact⟨j,⟨V.ref _,B,y,rfl,l⟩⟩
  | next
  | brk
  |cont=>exact False.elim a
def Fy{p a:Pos}(M:Mk X.K C f)(F:cX X.prog X.w X.K X.mg X.base J k f B z y)(i:aY (k+1) X.A)(l:Gl X x)(j:X.mg x=some (.ref C))(o:DU X.K B z G)(n:aJ dvs G)(g:jR J X E)
  (u:PA X (e::v) t) (c:SV x:=by decide) (m:SW X.env e v:=by rfl) (b:SY X.env a v:=by rfl):
  PE X (.Call (.Name x p) (e::v) [] a) (xP C y dvs E t):=by
 intro d s σ H Q I h;refine wpAny_Call_Name_kw (qO I l j ?_ c);refine PySem.W.callWith_K I.ok.mod.SR M.kp (thn (u _ _ s σ H _ I h) λus s1 ⟨vs,H1,I1,r,q⟩=>⟨I1.PR,?_⟩) m b;exact Fx M F i o n g I1 r q
def UG(M:Mk X.K C f)(F:cX X.prog X.w X.K X.mg X.base r k f o n m)(d:aY (k+1) X.A)(g:Gl X x)(e:X.mg x=some (.ref C))(j:DU X.K o n q)(i:aJ l q)(c:jR r X E)
  (a:SV x:=by decide):PE X (.Call (.Name x p) [] [] pos) (xP C m l E qX):=by
 intro b s σ H Q I h;refine wpAny_Call_Name_kw (qO I g e ?_ a);exact PySem.W.callWith_K0 I.PR M.kp (Fx M F d j i c I .nil h)
structure eV(N P:List Str)(sc:Scope):Prop where
 kind:sc.kind=.function
 co:sc.isCoroutine=false
 gen:sc.isGenerator=false
 nd:N.Nodup
 pre:N.take P.length=P
 par:∀x∈P,sc.names.lookup x=some .local\/sc.names.lookup x=some .cell
 Sj:∀y∈sc.names,y.2≠.free
theorem Fz{kindOf:Str->Option NameKind}:∀{a:List (Str×Value)}{m:Str->Option Value},(∀v,(x,v)∉a)->bindL kindOf a m x=m x
 | [],_,_=>rfl
 | (n,v)::r,m,h=>by
  unfold bindL;rw[Fz λw b=>h w (zl _ b)]
  split
  ·have:x≠n:=by rintro rfl;exact h v zd
   simp[this]
  ·rfl
theorem FJ{kindOf:Str->Option NameKind}:∀{a:List (Str×Value)}{m:Str->Option Value},(∀v,(x,v)∉a)->bindC kindOf a m x=m x
 | [],_,_=>rfl
 | (n,v)::r,m,h=>by
  unfold bindC;rw[FJ λw b=>h w (zl _ b)]
  split
  ·rfl
  ·have:x≠n:=by rintro rfl;exact h v zd
   simp[this]
theorem FN{kindOf:Str->Option NameKind}{x:Str}{v:Value}:∀{P:List Str}{a:List Value}{i:Nat}{m:Str->Option Value},P.Nodup->P[i]?=some x->a[i]?=some v->kindOf x=some .local ->
  bindL kindOf (P.zip a) m x=some v
 | [],_,_,_,_,h,_,_=>by simp at h
 | _::_,[],_,_,_,_,h,_=>by simp at h
 |p::P,w::a,0,m,nd,h1,h2,hk=>by
  simp at h1 h2;subst h1;subst h2
  show bindL _ ((p,w)::P.zip a) m p=_;unfold bindL;rw[Fz λv b=>(List.nodup_cons.mp nd).1 (List.of_mem_zip b).1,if_pos hk];simp
 |p::P,w::a,i+1,m,nd,h1,h2,hk=>by
  unfold bindL;exact FN (List.nodup_cons.mp nd).2 (by simpa) (by simpa) hk
theorem FP{kindOf:Str->Option NameKind}{x:Str}{v:Value}:∀{P:List Str}{a:List Value}{i:Nat}{m:Str->Option Value},P.Nodup->P[i]?=some x->a[i]?=some v->kindOf x≠some .local ->
  bindC kindOf (P.zip a) m x=some v
 | [],_,_,_,_,h,_,_=>by simp at h
 | _::_,[],_,_,_,_,h,_=>by simp at h
 |p::P,w::a,0,m,nd,h1,h2,hk=>by
  simp at h1 h2;subst h1;subst h2
  show bindC _ ((p,w)::P.zip a) m p=_;unfold bindC;rw[FJ λv b=>(List.nodup_cons.mp nd).1 (List.of_mem_zip b).1,if_neg hk];simp
 |p::P,w::a,i+1,m,nd,h1,h2,hk=>by
  unfold bindC;exact FP (List.nodup_cons.mp nd).2 (by simpa) (by simpa) hk
def start(N:List Str)(a:List V):St:=a.map some++List.replicate (N.length - a.length) none
def gD(CX:JY)(P:Program)(w:World)(K:PySem.W.Frag)(mg:Str->Option Value)(base:Heap)(N:List Str)(qual:Str)(scope:Scope)(f:Addr)(cd:Value)(A:Around)(outer:List Env)(s:Shared)(H:Hp)(E:XK):Cx where
 prog:=P
 w:=w
 K:=K
 mg:=mg
 base:=base
 A:=A.deeper (envOfC qual scope s.heap.objs.size f cd)
 N:=N
 s₀:=s
 H₀:=H
 env:=envOfC qual scope s.heap.objs.size f cd
 outer:=outer
 stack:=envOfC qual scope s.heap.objs.size f cd::outer
 ex:=[]
 calm:=true
 fn:=λ_=>true
 pn:=[]
 xe:=λe s'=>wpAny (model P w) (A.deeper (envOfC qual scope s.heap.objs.size f cd)) (leaving (envOfC qual scope s.heap.objs.size f cd) e) (λ_ s''=>CX outer H s E e s'') (λe' s''=>CX outer H s E e' s'') s'
def FQ{a:Scope} (h:a.names.lookup x=some .cell):∃c,(cellsFrom n a.names []).lookup x=some c:=by
 have q:=PySem.W.cellsFrom_some _ n [] (.inl h);exact Option.isSome_iff_exists.mp q
def UJ{K:PySem.W.Frag}
  (S:eV N Y Q) (G:A.handled=none) (g:mO P w K mg U A T s H) (L:X.length=Y.length) (r:aJ X us)
  (x:InCallC s s.heap.objs.size (bindL (envOfC R Q s.heap.objs.size f Z).kindOf (Y.zip us) λ_=>none) (cellsFrom (s.heap.objs.size+1) Q.names []) (bindC (envOfC R Q s.heap.objs.size f Z).kindOf (Y.zip us) λ_=>none) s1):
  C5 (gD CX P w K mg U N R Q f Z A T s H E) [] (start N X) H s1:=by
 have J :=by have:=congrArg List.length S.pre;rw[List.length_take] at this;omega
 obtain⟨o,tk,rfl,C⟩:=x.done
 have j:∀b,b∉(gD CX P w K mg U N R Q f Z A T s H E).ex:=λb z=>absurd (show b∈[] from z) (by simp)
 refine⟨⟨g.mod,S.kind,rfl,rfl,zc _,λy z c o d=>?_,λy l=>?_,λy c _ h=>?_,λ_=>G,Around.frames_deeper g.frames,.inr ⟨rfl,rfl⟩,λb z=>absurd z (j b),g.bs,g.RA,λb _ _=>j b,λb z=>absurd z (j b),g.P3,g.Sa⟩,
  rfl,g.bare,Un.kept C,⟨_,x.toInCall.ns,λi y v o d O=>?_⟩,λy c h=>⟨_,x.cell y c h⟩,g.Pm.fresh (zc _),λy c h=>?_,λp m=>absurd (show p∈[] from m) (by simp),g.Pm.kept C,?_⟩
 ·exact name_of_addr x.apart (PySem.mem_of_lookup o) (PySem.mem_of_lookup d)
 ·rcases l with l | l
  ·exact FQ l
  ·exact absurd rfl (S.Sj _ (PySem.mem_of_lookup l))
 ·exact Nat.le_of_lt (x.above y c (PySem.mem_of_lookup h))
 ·have t:i<X.length:=by
   unfold start at d
   by_cases t:i<X.length
   ·exact t
   ·rw[zN (by simpa using t)] at d;rw[List.getElem?_replicate] at d
    split at d<;>cases d
  have I:X[i]?=some v:=by
   unfold start at d;rw[zG (by simpa),zH] at d
   cases e:X[i]? with
   |none=>rw[e] at d;cases d
   |some a=>rw[e] at d;cases d;rfl
  obtain⟨u,B,F⟩:=r.get I
  have m:Y[i]?=some y:=by
   rw[<-S.pre,List.getElem?_take_of_lt (by omega)];exact o
  have n:Y.Nodup:=by rw[<-S.pre];exact S.nd.sublist (List.take_sublist _ _)
  refine⟨u,F,?_⟩
  rcases S.par y (zP m) with k | k
  ·exact .inl ⟨k,FN n m B k⟩
  ·obtain⟨c,e⟩:=FQ k;refine .inr ⟨.inl k,c,e,?_⟩;have q:=x.cell y c e;rw[FP n m B (by show Q.names.lookup y≠_;rw[k];decide)] at q;exact q
 ·exact g.Pm.fresh (Nat.le_of_lt (x.above y c (PySem.mem_of_lookup h)))
 ·unfold start;show _=N.length;rw[zg,ze,List.length_replicate];omega
def xQ{K:PySem.W.Frag} {kV:Value}
       (lk:K.lookup f=some ⟨oc,od,.func (PySem.W.fnOf name qual params body scope dV kV doc pm an cdv ct),osl⟩) (C:PySem.W.codeIn K cdv qual=true) (S:eV N ps scope)
  (len:∀c H Q E,sp c H Q E->c.length=ps.length)
  (i:∀(A:Around)(a:List Env)(s:Shared)(H:Hp)(c:List V)(Q:VK)(E:XK),aY k (A.deeper (envOfC qual scope s.heap.objs.size f cdv))->sp c H Q E ->
   ∃t,Fs (gD CX P w K mg base N qual scope f cdv A a s H E) body t/\t {nx:=λ_ g=>Q .Pl g,rt:=Q} (start N c) H):
  cX P w K mg base CX (k+1) f (PySem.W.fnOf name qual params body scope dV kV doc pm an cdv ct) ps sp:=by
 refine⟨len,λA a s H L O c Q E z j Y r l=>?_⟩;have U:=len _ _ _ _ l
 have G:K.In s.heap:=j.mod.SR.keeps λb o e=>(j.bs b o e).1
 have B:s.heap.NoLimit:=j.mod.nolimit.keeps λb o e=>(j.bs b o e).1
 have h:∀y∈ps.zip O,scope.names.lookup y.1=some .local\/(scope.names.lookup y.1=some .cell/\((cellsFrom (s.heap.objs.size+1) scope.names []).lookup y.1).isSome=true):=λ⟨n,v⟩ hy=>by
  rcases S.par n (List.of_mem_zip hy).1 with q | q
  ·exact .inl q
  ·exact .inr ⟨q,PySem.W.cellsFrom_some _ _ _ (.inl q)⟩
 refine codeAny_call_function z.depth (G _ _ lk) rfl S.co S.gen rfl (PySem.W.codeRec_of G C) (Y _ _ _ _ ?_)
 refine wpAny_newFunctionEnv_cells S.kind h λenv X F x=>?_
 subst X;refine⟨B.keeps x.toInCall.keep,codeAny_func ?_⟩;obtain⟨t,R,T⟩:=i A a s H c Q E (z.deeper _) l;have I:C5 (gD CX P w K mg base N qual scope f cdv A a s H E) [] (start N c) H F:=UJ S z.hd j U r x
 refine zV (R [] F (start N c) H _ I T) (λZ m hs=>?_) λe m hs=>hs
 have fin:∀{d:St}{g:Hp}{v:V}{u:Value},C5 (gD CX P w K mg base N qual scope f cdv A a s H E) [] d g m->C6 v u->Q v g->CE a P w H s Q u m :=
  λ{d g v u} J p q=>⟨v,g,J.os,J.bare,J.base,J.Pm,p,q⟩
 cases Z with
 |ret u =>
  obtain⟨v,d,g,J,p,q⟩:=hs;exact fin J p q
 |next =>
  obtain⟨d,g,J,q⟩:=hs;exact fin (v:=V.Pl) (u:=Value.none) J rfl q
 |brk =>
  obtain⟨_,_,_,q⟩:=hs;exact False.elim q
 |cont =>
  obtain⟨_,_,_,q⟩:=hs;exact False.elim q
def LP(r:List V->Hp->VK->Prop)(t:TA):TE:=λσ H Q=>t σ H λa b=>r a b Q
def xR{p b:Pos}{id:String}(l:gj X (.builtin id) r)(j:Gl X x)(i:X.mg x=none)(f:bootBuiltins x=some (.builtin id))(m:PA X (e::n) t)(g:x≠"__name__":=by decide)(d:SV x:=by decide)
  (k:SW X.env e n:=by rfl) (c:SY X.env b n:=by rfl):PE X (.Call (.Name x p) (e::n) [] b) (LP r t):=by
 intro a s σ H Q I h;refine wpAny_Call_Name_kw (jQ I j i f ?_ g d);exact PyProof.Rows.callWith_builtin1 (thn (m b a s σ H _ I h) λus s1 ⟨vs,H1,I1,r1,q1⟩=>l a s1 σ H1 vs us Q I1 r1 q1) k c
def ux{p b:Pos}(l:gj X (.type T) r)(j:Gl X x)(i:X.mg x=none)(f:bootBuiltins x=some (.type T))(m:PA X (e::n) t)(g:x≠"__name__":=by decide)(d:SV x:=by decide)
  (k:SW X.env e n:=by rfl) (c:SY X.env b n:=by rfl):PE X (.Call (.Name x p) (e::n) [] b) (LP r t):=by
 intro a s σ H Q I h;refine wpAny_Call_Name_kw (jQ I j i f ?_ g d);exact PyProof.Rows.callWith_type1 (thn (m b a s σ H _ I h) λus s1 ⟨vs,H1,I1,r1,q1⟩=>l a s1 σ H1 vs us Q I1 r1 q1) k c
end L2
namespace HT
open PySem PyProof.Rows
section
open PySem.SeqAt
open PySem.AutoSeq1 (wpAny_loadPart')
open PySem.MeetsSeq PySem.MeetsSeq2 PySem.MeetsSeq3
end
def cat_tup(u:IsTup s.heap t B.toArray)(v:IsTup s.heap b z.toArray)(m:B≠[])
  (y:z=[]->Q (.ref t) s) (x:z≠[]->Q (.ref s.heap.objs.size) {s with heap:=s.heap.push {cls:=.type "tuple",data:=.seq (B++z).toArray}})
  (j:B.length+z.length<=sizeLine):wpAny (model prog w) A (binaryOp .Add (.ref t) (.ref b)) Q E s:=by
 obtain⟨⟨cls,q,data,k⟩,i,p,n,o⟩:=id u;obtain⟨⟨r,g,data2,c⟩,a,f,l,d⟩:=id v;simp only at p o f d;subst p o f d
 have e:B.toArray++z.toArray=(B++z).toArray:=by simp
 by_cases h:z=[]
 ·exact concat_meets ⟨_,i,rfl⟩ ⟨_,a,rfl⟩ noFill_tuple_add seq_tuple_add PySem.F.slot_tuple_add PySem.F.entry_tuple_add (PySem.F.args_tuple_add_2 _ _)
   (tuple_addW1 t b B.toArray z.toArray n l q g k c (by simpa using m) (by simp[h])) ⟨i,a,y h⟩
 ·refine concat_meets ⟨_,i,rfl⟩ ⟨_,a,rfl⟩ noFill_tuple_add seq_tuple_add PySem.F.slot_tuple_add PySem.F.entry_tuple_add (PySem.F.args_tuple_add_2 _ _)
   (tuple_addW2 t b B.toArray z.toArray n l q g k c (by simpa using m) (by simpa using h) (by rw[zK,zK];exact j)) ⟨i,a,?_⟩
  rw[e];exact x h
def sIx(n d:Nat):Option Int->Nat
 |none=>d
 |some v=>if v<0 then(v+(n:Int)).toNat else min v.toNat n
def sIx_none(n d:Nat):sIx n d none=d:=rfl
def sIx_nat(n d k:Nat):sIx n d (some (k:Int))=min k n:=by
 show(if k<0 then k+(n:Int).toNat else min _ n)=min k n;rw[if_neg (by omega),Int.toNat_natCast]
def sIx_le(n d:Nat)(b:d<=n)(o:Option Int):sIx n d o<=n:=by
 cases o with
 |none=>exact b
 |some v =>
  show(if v<0 then(v+n).toNat else min _ n)<=n
  by_cases a:v<0
  ·rw[if_pos a];omega
  ·rw[if_neg a];exact Nat.min_le_right _ _
def FT(v:Int)(n d:Nat):(if v<0 then max (v+(n:Int)) 0 else min v (n:Int))=((sIx n d (some v):Nat):Int):=by
 show(if v<0 then max _ 0 else min v n)=(if v<0 then(v+(n:Int)).toNat else min v.toNat n)
 by_cases a:v<0
 ·simp only[if_pos a];omega
 ·simp [if_neg a];omega
def UL(lo a:Option Int)(n:Nat):Builtin.Slice.sliceAdjust lo a 1 (n:Int)=(((sIx n 0 lo:Nat):Int),((sIx n n a:Nat):Int)):=by
 refine Prod.ext ?_ ?_
 ·cases lo with
  |none=>rfl
  |some v=>exact FT v n 0
 ·cases a with
  |none=>rfl
  |some v=>exact FT v n n
def UT(i j:Nat):Builtin.Slice.slicePlaces (i:Int) (j:Int) 1=j - i:=by
 unfold Builtin.Slice.slicePlaces
 split<;>omega
def FW(p:IsPart v o)(h:Q o s):wpAny (model prog w) A (Builtin.Slice.slicePartIndex v) Q E s:=by
 cases p with
 |none=>exact slicePart_none h
 |int =>exact slicePart_int h
def sliceApplied_gen{lo:Option Int}{n:Nat} (hs:s.heap.IsSliceOf k j i .none)(d:IsPart j lo)(c:IsPart i f)
  (h:Q (((sIx n 0 lo:Nat):Int),1,sIx n n f - sIx n 0 lo) s):wpAny (model g w) A (Builtin.Slice.sliceApplied (.ref k) (pure (n:Int))) Q E s:=by
 obtain⟨os,a,e,b⟩:=id hs;refine za (za (wpAny_field a b rfl (za (wpAny_field a b rfl (za (wpAny_field a b rfl (zb ?_)))))));refine za (slicePart_none ?_);refine za (FW d (za (FW c (za (zb ?_)))));show wpAny _ _ (match Builtin.Slice.sliceAdjust lo f 1 n with | (lo,f)=>pure (lo,(1:Int),Builtin.Slice.slicePlaces lo f 1)) _ _ s;rw[UL];show wpAny _ _ (pure _) _ _ s;rw[UT];exact zb h
def UV(a:Array Value)(i k:Nat):((List.range k).filterMap λ(m:Nat)=>a[((i:Int)+(m:Int) * 1).toNat]?).toArray=((a.toList.drop i).take k).toArray:=by
 have e:(λ(m:Nat)=>a[(i+(m:Int) * 1).toNat]?)=λm=>a[i+m]?:=by
  funext m
  have:((i:Int)+m * 1).toNat=i+m:=by omega
  rw[this]
 rw[e]
 have:=pick_run a i k
 rw[List.filterMap_map] at this
 have b:((λx=>a[x]?) ∘ λx=>i+x)=λm=>a[i+m]?:=rfl
 rw[b] at this;rw[this]
def getItem_tuple_cut{lo:Option Int} (b:IsTup s.heap t items)(hs:s.heap.IsSliceOf p u r .none)(i:IsPart u lo)(g:IsPart r o)
  (j:¬(sIx items.size 0 lo=0/\sIx items.size items.size o=items.size))
  (h:Q (.ref s.heap.objs.size) {s with heap:=s.heap.push {cls:=.type "tuple",data:=.seq ((items.toList.drop (sIx items.size 0 lo)).take (sIx items.size items.size o - sIx items.size 0 lo)).toArray}})
  (k:items.size<=sizeLine):wpAny (model prog w) A (getItem (.ref t) (.ref p)) Q E s:=by
 have a :=by
  show((items.toList.drop (sIx items.size 0 lo)).take (sIx items.size items.size o - sIx items.size 0 lo)).toArray.size<=sizeLine;rw[zK,List.length_take,List.length_drop,Array.length_toList];omega
 obtain⟨os,c,e,l⟩:=id hs;have f:s.TypeIs (.ref p) "slice":=⟨os,c,e⟩;unfold getItem
 try with_reducible refine zS ?_
 refine za (wpAny_sequenceKey b.typeIs (by decide) ?_)
 refine za (wpAny_callSpecial?_slot b.typeIs PyProof.Rows.slot_tuple_getitem
  (wpAny_call_entry PyProof.Rows.slot_tuple_getitem b.typeIs entry_tuple_getitem ?_))
 show wpAny _ _ (Builtin.Tuple.tupleItemsOf (.ref t) >>= _) _ _ s;refine za (tupleItemsOf_ b ?_);refine za (wpAny_typeOf f ?_);refine za (sliceApplied_gen hs i g ?_)
 have d:¬((((sIx items.size 0 lo:Nat):Int) == 0&&(1:Int) == 1&&(sIx items.size items.size o - sIx items.size 0 lo) == items.size)=true):=by
  intro q;rw[zC,zC] at q;have n :=eq_of_beq q.1.1;have m :=eq_of_beq q.2;exact j ⟨by omega,by omega⟩
 show wpAny _ _ (if(((sIx items.size 0 lo:Nat):Int) == 0&&(1:Int) == 1&&(sIx items.size items.size o - sIx items.size 0 lo) == items.size)=true then _ else _) _ _ s;rw[if_neg d,UV]
 first
  | exact za (wpAny_newObj_type (zb ⟨_,rfl,zb h⟩) a)
  | exact za
  | exact za
  | exact za
end HT
namespace L2
open PySem PySem.Spec PyProof.Rows
abbrev TO:=St->Hp->(Option Int->Hp->Prop)->Prop
def PO(X:Cx)(e:Option Expr)(t:TO):Prop :=
 ∀(a:List (Addr×Obj))(s:Shared)(σ:St)(H:Hp)(Q:Option Int->Hp->Prop),C5 X a σ H s->t σ H Q ->
  wpAny (model X.prog X.w) X.A (evalPart e X.env) (λu c=>∃o b,C5 X a σ b c/\IsPart u o/\Q o b) X.xe s
def UW:TO:=λ_ H Q=>Q none H
def U0(t:TE):TO:=λσ H Q=>t σ H λx a=>∃i,x=.int i/\Q (some i) a
def FO:∀{a:List Value},aJ (ns.map V.int) a->IntsAre a ns:=by
 induction ns with
 |nil=>intro a r;cases r;exact .nil
 |cons n ns ih =>
  intro a r
  cases r with
  |cons r1 r2 =>
   obtain⟨t,e⟩:=r1;subst e;exact .cons n t (ih r2)
def U3:PO X none UW:=by
 intro a s σ H Q I h;exact zb ⟨none,H,I,.none,h⟩
def U4(h:PE X e c):PO X (some e) (U0 c):=by
 intro a s σ H Q I b
 refine thn (h _ s σ H _ I b) λu s1 ⟨x,H1,I1,r1,q1⟩=>?_
 obtain⟨i,rfl,q⟩:=q1;obtain⟨t,rfl⟩:=r1;exact⟨some i,H1,I1,.int i t,q⟩
def JO(X:Cx)(r:V->Option Int->Option Int->Hp->VK->Prop):Prop :=
 ∀(a:List (Addr×Obj))(s:Shared)(σ:St)(H:Hp)(x:V)(v c b:Value)(lo e:Option Int)(d:Addr)(Q:VK),C5 X a σ H s->C6 x v->s.heap.IsSliceOf d c b .none->IsPart c lo->IsPart b e->r x lo e H Q ->
  ∃T id,typeLookup (.type T) "__getitem__" = pure (some (.builtin id))/\s.TypeIs v T/\wpAny (model X.prog X.w) X.A (getItem v (.ref d)) (EP X a σ Q) X.xe s
def N2(r:V->Option Int->Option Int->Hp->VK->Prop)(c:TE)(a b:TO):TE:=λσ H Q=>c σ H λx f=>a σ f λl e=>b σ e λu d=>r x l u d Q
def U5{lo:Option Expr} (f:JO X r)(j:PE X e y)(g:PO X lo p)(c:PO X o t):PE X (.Subscript e (.Slice lo o none z) B) (N2 r y p t):=by
 intro a s σ H Q I h;refine Subscript_ (thn (j a s σ H _ I h) λv s1 ⟨x,H1,I1,r1,q1⟩=>?_);refine wpAny_Slice (thn (g a s1 σ H1 _ I1 q1) λvl s2 ⟨l,H2,I2,pl,q2⟩=>thn (c a s2 σ H2 _ I2 q2) λvu s3 ⟨u,H3,I3,pu,q3⟩=>?_);rw[evalPart_none];refine zb ?_
 have m:C5 X a σ H3 {s3 with heap:=s3.heap.push {cls:=.type "slice",data:=.fields #[vl,vu,.none]}}:=I3.kept (t':=s3.toks) λb n q=>zq _ q
 obtain⟨T,id,k,d,i⟩:=f a {s3 with heap:=s3.heap.push {cls:=.type "slice",data:=.fields #[vl,vu,.none]}} σ H3 x v vl vu l u s3.heap.objs.size Q m r1 (Heap.IsSliceOf.new ..) pl pu q3;show wpAny (model X.prog X.w) X.A (subscriptTail e (.Slice lo o none z) v (.ref s3.heap.objs.size)) (EP X a σ Q) X.xe {s3 with heap:=s3.heap.push {cls:=.type "slice",data:=.fields #[vl,vu,.none]}};exact tail_any (ops:=[.ref s3.heap.objs.size,v]) d k i (by with_unfolding_all rfl)
def mQ(a:List V)(lo b:Option Int):List V:=(a.drop (HT.sIx a.length 0 lo)).take (HT.sIx a.length a.length b - HT.sIx a.length 0 lo)
def FZ(a:List V)(lo b:Option Int):(mQ a lo b).length<=a.length:=by
 unfold mQ;rw[List.length_take,List.length_drop];omega
def U6(K:PySem.W.Frag):V->Option Int->Option Int->Hp->VK->Prop:=λx lo c H Q=>∃a b,x=.ref a/\ER K H a b /\
 ¬(HT.sIx b.length 0 lo=0/\HT.sIx b.length b.length c=b.length)/\∀p,H p=none->Q (.ref p) (DB H p (.tup (mQ b lo c)))
def U7:JO X (U6 X.K):=by
 intro i s σ H x v t p lo o u Q I j hs l k h;obtain⟨a,e,rfl,m,n,q⟩:=h;cases j;obtain⟨d,r,g,f⟩:=I.tuple m
 have c:d.toArray.size=e.length:=by exact r.length.symm
 refine⟨"tuple",_,PyProof.Rows.slot_tuple_getitem.lookup,g.typeIs,?_⟩;refine HT.getItem_tuple_cut g hs l k (by rw[c];exact n) ?_ (by rw[c];exact f);rw[c];refine⟨.ref _,_,I.laid (λb w q=>zq _ q) (zc _) ?_,rfl,q _ (I.Pm.fresh (zc _))⟩;exact⟨zJ (FZ e lo o) f,_,(r.drop _).take _,IsTup.new _ _⟩
def U8(K:PySem.W.Frag):R2:=λx y H Q=>∃a b d c,x=.ref a/\y=.ref b/\ER K H a d/\ER K H b c/\d≠[]/\d.length+c.length<=sizeLine /\
 (c=[]->Q (.ref a) H)/\(c≠[]->∀p,H p=none->Q (.ref p) (DB H p (.tup (d++c))))
def aJ.QE(r:aJ xs us):us=[]↔xs=[]:=by
 cases r with
 |nil=>simp
 |cons _ _=>simp
def U9:EB X (binaryOp .Add) (U8 X.K):=by
 intro f s σ H x y v u Q I j i h;obtain⟨a,b,B,A,rfl,rfl,r,p,o,e,l,k⟩:=h;cases j;cases i;obtain⟨t,d,n,_⟩:=I.tuple r;obtain⟨g,c,m,_⟩:=I.tuple p;refine HT.cat_tup n m (λz=>o (d.QE.mp z)) (λz=>⟨.ref a,H,I,rfl,l (c.QE.mp z)⟩) (λz=>?_) (by rw[<-d.length,<-c.length];exact e);refine⟨.ref _,_,I.laid (λb C q=>zq _ q) (zc _) ?_,rfl,k (λw=>z (c.QE.mpr w)) _ (I.Pm.fresh (zc _))⟩;exact⟨by rw[zg];exact e,_,d.append c,IsTup.new _ _⟩
def He(n:Nat)(i:Int):Option Nat:=if 0<=i then(if i<n then some i.toNat else none) else if -(n:Int)<=i then some (i+n).toNat else none
def Qb{α:Type}(a:List α)(i:Int):Option α:=(He a.length i).bind λj=>a[j]?
def Ga(h:He n i=some j):seqIndex? i n=some j/\j<n/\-(n:Int)<=i/\i<n:=by
 unfold He at h
 by_cases b:0<=i
 ·rw[if_pos b] at h
  by_cases a:i<n
  ·rw[if_pos a] at h;have e :=zF h;exact⟨by rw[seqIndex_of b a,e],by omega⟩
  ·rw[if_neg a] at h;cases h
 ·rw[if_neg b] at h
  by_cases a:-n<=i
  ·rw[if_pos a] at h;have e :=zF h;exact⟨by rw[seqIndex_neg (by omega) a,e],by omega⟩
  ·rw[if_neg a] at h;cases h
def xT(h:Qb xs i=some v):∃j,seqIndex? i xs.length=some j/\xs[j]?=some v/\j<xs.length/\-(xs.length:Int)<=i/\i<xs.length:=by
 unfold Qb at h
 cases e:He _ i with
 |none=>rw[e] at h;cases h
 |some j =>
  rw[e] at h;obtain⟨d,c,b,a⟩:=Ga e;exact⟨j,d,h,c,b,a⟩
def uy(b:Expr):Prop:=∀o i,subscripted b false o i=operate [o,i] (getItem o i)
def KO(X:Cx)(r:R2):Prop :=
 ∀(c a:Expr)(b:List (Addr×Obj))(s:Shared)(σ:St)(H:Hp)(x y:V)(v u:Value)(Q:VK),C5 X b σ H s->C6 x v->C6 y u->r x y H Q ->
  subscripted a false v u=operate [v,u] (getItem v u)->wpAny (model X.prog X.w) X.A (subscriptTail c a v u) (EP X b σ Q) X.xe s
def JU(X:Cx)(id:String)(r:V->List V->Hp->VK->Prop):Prop :=
 ∀(a:List (Addr×Obj))(s:Shared)(σ:St)(H:Hp)(x:V)(b:List V)(v:Value)(c:List Value)(Q:VK),C5 X a σ H s->C6 x v->aJ b c->r x b H Q ->
  wpAny (model X.prog X.w) X.A (call (.builtin id) (v::c)) (EP X a σ Q) X.xe s
def Va(g:KO X r)(j:PE X a n)(i:PE X b m)(hs:uy b):PE X (.Subscript a b o) (Jn r n m):=by
 intro c s σ H Q I h;exact Subscript_ (xC j i I h λv u d x y l k f e q=>g a b c d σ l x y v u Q k f e q (hs _ _))
def Vb(K:PySem.W.Frag):R2:=λx y H Q=>∃p a i v,x=.ref p/\y=.int i/\Ee K H p a/\Qb a i=some v/\Q v H
def Vc(K:PySem.W.Frag):R2:=λx y H Q=>∃p a i v,x=.ref p/\y=.int i/\ER K H p a/\Qb a i=some v/\Q v H
def Vd:R2:=λx y H Q=>∃z i c,x=.str z/\y=.int i/\z.length<=sizeLine/\Qb z.cps.toList i=some c/\Q (.str ⟨#[c]⟩) H
def Ve:KO X (Vb X.K):=by
 intro f g l s σ H x y v u Q I n m h hs;obtain⟨p,G,i,z,rfl,rfl,o,B,q⟩:=h;cases n;obtain⟨t,rfl⟩:=m;obtain⟨e,r,b,J⟩:=I.list o;obtain⟨j,a,F,N,E,C⟩:=xT B;obtain⟨w,O,d⟩:=r.get F;have A:=r.length;have L:=qT;have fin:EP X _ σ Q w s:=⟨z,H,I,d,q⟩
 by_cases k:0<=i
 ·have c :=by
   rw[seqIndex_of k C] at a;exact zF a
  exact item_listR b.isList k (by omega) (by rw[c];simpa) fin hs
 ·have c:(i+e.toArray.size).toNat=j:=by
   rw[seqIndex_neg (by omega) E] at a;rw[zK,<-A];exact zF a
  exact subscriptTail_builtinR b.isList.typeIs slot_list_getitem.lookup
   (wpAny_getItem_list_neg b.isList (by omega) (by rw[zK]<;>omega) (by omega) (by rw[c];simpa) ⟨rfl,fin⟩) hs
def Vf:KO X (Vc X.K):=by
 intro b c e s σ H x y v u Q I g f h hs;obtain⟨p,B,i,z,rfl,rfl,k,m,q⟩:=h;cases g;obtain⟨t,rfl⟩:=f;obtain⟨A,r,d,C⟩:=I.tuple k;obtain⟨j,o,n,F⟩:=xT m;obtain⟨w,G,a⟩:=r.get n;have l:=r.length;have E:=qT;have fin:EP X _ σ Q w s:=⟨z,H,I,a,q⟩;exact subscriptTail_builtinR d.typeIs slot_tuple_getitem.lookup
  (getItem_tuple d (by omega) (by omega) (by rw[zK,<-l];exact o) (by simpa) ⟨rfl,fin⟩) hs
def Vg:KO X Vd:=by
 intro a b e s σ H x y v u Q I g f h hs;obtain⟨z,i,c,rfl,rfl,A,l,q⟩:=h;obtain⟨t,rfl⟩:=g;obtain⟨w,rfl⟩:=f;obtain⟨j,d,o,n,m⟩:=xT l
 have k:z.cps.toList.length=z.length:=by simp[Str.length]
 rw[k] at d n m;have B:=qT
 exact tail_any (typeIs_str s z t) slot_str_getitem.lookup (getItem_str (by
  have r:decide (i < -2 ^ 63)=false:=zo (by omega);have p:decide (i>=2 ^ 63)=false:=zo (by omega)
  rw[r,p,Bool.or_false]) (by rw[d];simpa using o) ⟨.str _,H,I.tok _,⟨_,rfl⟩,q⟩) hs
def Vh(a:List Value)(n j:Nat)(u:Value):Obj.mapSeq (·.setIfInBounds j u) {cls:=.type "list",data:=.seq a.toArray n} = {cls:=.type "list",data:=.seq (a.set j u).toArray n}:=by
 simp[Obj.mapSeq]
def C5.lst{X:Cx}{b:List (Addr×Obj)}{σ:St}{H:Hp}{s:Shared}{p:Addr}{c:List V}(I:C5 X b σ H s)(h:H p=some (.lst c)):
  ∃(a:List Value)(n:Nat),aJ c a/\s.heap.get? p=some {cls:=.type "list",data:=.seq a.toArray n}/\c.length<=sizeLine:=by
 obtain⟨z,a,n,r,e⟩:=I.Pm p _ h;exact⟨a,n,r,e,z⟩
def C5.RS{σ:St} {a:List Value} (I:C5 X j σ H s)(h:H p=some (.lst k))
  (g:s.heap.get? p=some {cls:=.type "list",data:=.seq a.toArray n}) (c:f {cls:=.type "list",data:=.seq a.toArray n} = {cls:=.type "list",data:=.seq its'.toArray n'}) (r:aJ ys its') (d:ys.length<=sizeLine) (t:Nat):
  C5 X j σ (DB H p (.lst ys)) {s with heap:=s.heap.update p f,toks:=t}:=by
 have e:(s.heap.update p f).get? p=some {cls:=.type "list",data:=.seq its'.toArray n'}:=by
  rw[Heap.get?_update_self f g (by rw[c]<;>rfl),c]
 refine I.write (x:=p) (e:=p) (by rw[h];trivial) (.inl rfl) (λb u i q=>(jq _ _ (Ne.symm i)).trans q) ⟨_,e⟩ ?_;exact⟨d,its',n',r,e⟩
def Vi:V->V->V->Hp->(Hp->Prop)->Prop:=λo i v H Q=>∃p a k j,o=.ref p/\i=.int k/\H p=some (.lst a)/\He a.length k=some j/\Q (DB H p (.lst (a.set j v)))
def GT:Eu X Vi:=by
 intro w s σ H o i v E F u Q I y z x h;obtain⟨p,C,k,j,rfl,rfl,f,B,q⟩:=h;cases y;obtain⟨t,rfl⟩:=z;obtain⟨e,n,r,b,A⟩:=I.lst f;obtain⟨a,J,l,g⟩:=Ga B;have c:=r.length;have G:=qT;have I' :=
  I.RS f b (Vh _ n j u) (r.set x j) (by rw[zX];exact A) s.toks
 by_cases m:0<=k
 ·have d :=by
   rw[seqIndex_of m g] at a;exact zF a
  exact PySem.W.ki_setAt b m (by omega) (by rw[zK,<-c];exact g) (by rw[d];exact⟨_,I',q⟩)
 ·have d:(k+e.toArray.size).toNat=j:=by
   rw[seqIndex_neg (by omega) l] at a;rw[zK,<-c];exact zF a
  exact PySem.W.ki_setBack b (by omega) (by rw[zK,<-c];exact l) (by omega) (by rw[d];exact⟨_,I',q⟩)
def Gb(lo a:Option Int)(n:Nat):(sliceBounds lo a none n).1=((HT.sIx n 0 lo:Nat):Int)/\(sliceBounds lo a none n).2.1=((HT.sIx n n a:Nat):Int)/\(sliceBounds lo a none n).2.2=1:=by
 refine⟨?_,?_⟩
 ·cases lo with
  |none=>simp[sliceBounds,HT.sIx]
  |some i =>
   simp [sliceBounds,HT.sIx,if_true]
   by_cases h:i<0
   ·simp [h]<;>omega
   ·simp [h]<;>omega
 ·cases a with
  |none=>simp[sliceBounds,HT.sIx]
  |some i =>
   simp [sliceBounds,HT.sIx,if_true]
   by_cases h:i<0
   ·simp [h]<;>omega
   ·simp [h]<;>omega
def Vj(a:List Value)(lo b:Option Int):slicePick a.toArray lo b none=((a.drop (HT.sIx a.length 0 lo)).take (HT.sIx a.length a.length b - HT.sIx a.length 0 lo)).toArray:=by
 obtain⟨e,d,c⟩:=Gb lo b _;unfold slicePick;rw[e,d,c]
 simp only[sliceRange_one,pick_run]<;>rfl
def Vk(K:PySem.W.Frag):V->Option Int->Option Int->Hp->VK->Prop:=λx lo c H Q=>∃a b,x=.ref a/\Ee K H a b/\∀p,H p=none->Q (.ref p) (DB H p (.lst (mQ b lo c)))
def Vl:JO X (Vk X.K):=by
 intro e s σ H x v p o lo m t Q I g hs j i h;obtain⟨a,f,rfl,l,q⟩:=h;cases g;obtain⟨n,r,d,k⟩:=I.list l;have c:=r.length;refine⟨"list",_,slot_list_getitem.lookup,d.isList.typeIs,?_⟩;refine wpAny_getItem_list_slice d.isList hs j i .none (by simp) ?_;rw[Vj,<-c];refine⟨.ref _,_,I.laid (λb u q=>zq _ q) (zc _) ?_,rfl,q _ (I.Pm.fresh (zc _))⟩;exact⟨zJ (FZ f lo m) k,_,0,(r.drop _).take _,zD _ rfl⟩
def iW:V->Bool
 | .Pl=>true
 | .bl _=>true
 | .int _=>true
 | .str _=>true
 | _=>false
def HZ:V->V->Bool
 | .Pl,.Pl=>true
 | .bl a,.bl b=>a == b
 | .bl a,.int b=>(if a then 1 else 0) == b
 | .int a,.bl b=>a == (if b then 1 else 0)
 | .int a,.int b=>a == b
 | .str a,.str b=>a == b
 | _,_=>false
def Vm(e:C6 y u)(c:C6 x v)(g:iW y=true)(f:iW x=true):SeqAt.EqAt A s u v (HZ y x):=by
 cases y with
 |Pl =>
  cases e
  cases x with
  |Pl=>cases c;exact SeqAt.EqAt.same _
  |bl b=>cases c;exact SeqAt.EqAt.none_bool b
  |int b=>obtain⟨t,rfl⟩:=c;exact SeqAt.EqAt.none_int b t
  |str b=>obtain⟨t,rfl⟩:=c;exact SeqAt.EqAt.none_str b t
  | _=>exact absurd (show false=true from f) zA
 |bl a =>
  cases e
  cases x with
  |Pl=>cases c;exact SeqAt.EqAt.bool_none a
  |bl b=>cases c;exact SeqAt.EqAt.bool_bool a b
  |int b=>obtain⟨t,rfl⟩:=c;exact SeqAt.EqAt.bool_int a b t
  |str b=>obtain⟨t,rfl⟩:=c;exact SeqAt.EqAt.bool_str a b t
  | _=>exact absurd (show false=true from f) zA
 |int a =>
  obtain⟨d,rfl⟩:=e
  cases x with
  |Pl=>cases c;exact SeqAt.EqAt.int_none a d
  |bl b=>cases c;exact SeqAt.EqAt.int_bool a d b
  |int b=>obtain⟨t,rfl⟩:=c;exact SeqAt.EqAt.int_int a d b t
  |str b=>obtain⟨t,rfl⟩:=c;exact SeqAt.EqAt.int_str a d b t
  | _=>exact absurd (show false=true from f) zA
 |str a =>
  obtain⟨d,rfl⟩:=e
  cases x with
  |Pl=>cases c;exact SeqAt.EqAt.str_none a d
  |bl b=>cases c;exact SeqAt.EqAt.str_bool a d b
  |int b=>obtain⟨t,rfl⟩:=c;exact SeqAt.EqAt.str_int a d b t
  |str b=>obtain⟨t,rfl⟩:=c;exact SeqAt.EqAt.str_str a d b t
  | _=>exact absurd (show false=true from f) zA
 | _=>exact absurd (show false=true from g) zA
def KA(x:V)(u:Value):Bool:=match u with
 | .none=>HZ .Pl x
 | .bool b=>HZ (.bl b) x
 | .int i _=>HZ (.int i) x
 | .str z _=>HZ (.str z) x
 | _=>false
def Gd(r:C6 y u)(f:iW y=true):KA x u=HZ y x:=by
 cases y with
 | Pl
 | bl b
 | int i
 |str z=>obtain⟨t,rfl⟩:=r;rfl
 | _=>exact absurd (f) zA
theorem xU:∀{a:List V}{b:List Value},aJ a b->a.all iW=true->b.any (KA x)=a.any λy=>HZ y x
 | _,_,.nil,_=>rfl
 |y::a,u::b,.cons r t,f=>by
  rw[List.all_cons,zC] at f;rw[List.any_cons,List.any_cons,Gd r f.1,xU t f.2]
theorem xV{s:Shared}{x:V}{v:Value}(d:C6 x v)(e:iW x=true):∀{b:List V}{c:List Value},aJ b c->b.all iW=true->∀u∈c,SeqAt.EqAt A s u v (KA x u)
 | _,_,.nil,_=>λu a=>by cases a
 |y::b,u::c,.cons r t,f=>λg a=>by
  rw[List.all_cons,zC] at f
  rcases zk.mp a with rfl | a
  ·rw[Gd r f.1];exact Vm r d f.1 e
  ·exact xV d e t f.2 g a
def LB(x:V)(a:List V):Bool:=a.any λy=>HZ y x
def OA(K:PySem.W.Frag)(b:Bool):R2:=λx y H Q=>∃p a,y=.ref p/\(Ee K H p a\/ER K H p a)/\iW x=true/\a.all iW=true/\Q (.bl (if b then !LB x a else LB x a)) H
def Vn:EB X (compareOp .In) (OA X.K false):=by
 intro i s σ H x y v u Q I f j h;obtain⟨p,l,rfl,b,g,c,q⟩:=h;cases j
 rcases b with b | b
 ·obtain⟨a,r,d,k⟩:=I.list b;refine SeqAt.in_listAt _ d.isList (λw e=>xV f g r c w (by simpa using e)) ⟨.bl _,H,I,rfl,?_⟩;rw[show a.toArray.any _=a.any (KA x) by simp,xU r c];exact q
 ·obtain⟨a,r,d,k⟩:=I.tuple b;refine SeqAt.in_tupleAt _ d (λw e=>xV f g r c w (by simpa using e)) ⟨.bl _,H,I,rfl,?_⟩;rw[show a.toArray.any _=a.any (KA x) by simp,xU r c];exact q
def Ge:gj X (.type "list") (λy H Q=>∃p d,y=[.ref p]/\(Ee X.K H p d\/ER X.K H p d)/\∀l,H l=none->Q (.ref l) (DB H l (.lst d))):=by
 intro A s σ H y C Q I r h;obtain⟨p,d,rfl,k,q⟩:=h;obtain⟨u,rfl,B⟩:=DT r;cases B;have fin:∀(a),aJ d _->d.length<=sizeLine->∀(c:Heap)(g),(∀b z,s.heap.get? b=some z->c.get? b=some z) ->
   c.get? _=some _->EP X _ σ Q _ _:=λa f j c g i e =>
  ⟨.ref _,_,I.laid (t':=s.toks) i (zc _) (show cC _ _ _ c _ (.lst d) from⟨j,a,g,f,e⟩),rfl,q _ (I.Pm.fresh (zc _))⟩
 rcases k with k | k
 ·obtain⟨a,f,t,j⟩:=I.list k;have m:=f.length;obtain⟨o,v,x,n,w⟩:=t.isList
  exact call_list_seq p (.inl rfl) v x w λc g i e=>fin _ f j c g i e
 ·obtain⟨a,f,t,j⟩:=I.tuple k;have m:=f.length;obtain⟨o,v,x,n,w⟩:=t
  exact call_list_seq p (.inr rfl) v x w λc g i e=>fin _ f j c g i e
def LM(K:PySem.W.Frag)(T:String)(x:V)(H:Hp):Prop:=match x with
 | .str _=>T = "str"
 | .int _=>T = "int"
 | .ref p=>(T = "list"/\∃b,Ee K H p b)\/(T = "tuple"/\∃o,K.lookup p=some o/\o.cls=.type "tuple"/\o.dict=none) \/
   (T = "dict"/\((∃a,H p=some (.dK a))\/∃a,H p=some (.dT a)))\/(T = "set"/\∃S n,H p=some (.set S n))
 | _=>False
def Gf{σ:St} (I:C5 X pins σ H s)(r:C6 x v)(f:LM X.K T x H):
  s.TypeIs v T/\∀a,v=.ref a->∃l,s.heap.get? a=some l/\l.dict=none:=by
 cases x with
 |str z =>
  obtain⟨t,rfl⟩:=r;cases(f);exact⟨typeIs_str s z t,λ_ e=>nomatch e⟩
 |int i =>
  obtain⟨t,rfl⟩:=r;cases(f);exact⟨typeIs_int s i t,λ_ e=>nomatch e⟩
 |ref p =>
  cases r
  rcases f with⟨rfl,w,m⟩ | ⟨rfl,o,b,q,g⟩ | ⟨rfl,b⟩ | ⟨rfl,S,n,b⟩
  ·obtain⟨u,_,k,_⟩:=I.list m;refine⟨k.isList.typeIs,λa e=>?_⟩;cases e;obtain⟨o,n,e,c,g,_⟩:=k;exact⟨o,e,g⟩
  ·refine⟨⟨o,I.PR p o b,q⟩,λa e=>?_⟩;cases e;exact⟨o,I.PR _ o b,g⟩
  ·have z:∃o,s.heap.get? p=some o/\o.ExactDict:=by
    rcases b with⟨j,b⟩ | ⟨j,b⟩
    ·obtain⟨_,_,_,_,o,_,_,e,d,_⟩:=I.Pm p _ b;exact⟨o,e,d⟩
    ·obtain⟨_,_,_,_,o,_,_,e,d,_⟩:=I.Pm p _ b;exact⟨o,e,d⟩
   obtain⟨o,e,d⟩:=z;refine⟨⟨o,e,d.1⟩,λa h=>?_⟩;cases h;exact⟨o,e,d.2.1⟩
  ·obtain⟨o,_,_,_,e,d,_⟩:=I.Pm p _ b;refine⟨⟨o,e,d.1⟩,λa h=>?_⟩;cases h;exact⟨o,e,d.2.1⟩
 | _=>exact False.elim f
def Vo(K:PySem.W.Frag)(T:String)(r:V->List V->Hp->VK->Prop)(b:TE):TE:=λσ H Q=>b σ H λx a=>LM K T x a/\r x [] a Q
def N4(K:PySem.W.Frag)(T:String)(r:V->List V->Hp->VK->Prop)(c:TE)(t:TA):TE:=λσ H Q=>c σ H λx a=>LM K T x a/\t σ a λb d=>r x b d Q
def Vp{b a:Pos}{id:String}(i:PlainAttrs T)(e:Slot T n id)(f:typeOf (.builtin id)=pure (.type "method_descriptor"))(k:JU X id r)(j:PE X o p)
  (d:attributeBase o n X.env (eval o X.env)=eval o X.env:=by rfl) (c:(b.endLine == a.line)=true:=by rfl):PE X (.Call (.Attribute o n b) [] [] a) (Vo X.K T r p):=by
 intro g s σ H Q I h;refine wpAny_Call_method0_late d c (thn (j _ s σ H _ I h) λv s1 ⟨x,H1,I1,r1,ty,q1⟩=>?_);obtain⟨m,l⟩:=Gf I1 r1 ty;exact⟨T,id,i,e,f,m,l,Calls.callWith_builtin rfl (PySem.evalArgs_none (k _ s1 σ H1 x [] v [] Q I1 r1 .nil q1))⟩
def lu{c a:Pos}{id:String}(m:PlainAttrs T)(g:Slot T y id)(j:typeOf (.builtin id)=pure (.type "method_descriptor"))(p:JU X id r)(n:PE X o A)(q:PA X (e::z) t)
  (f:attributeBase o y X.env (eval o X.env)=eval o X.env:=by rfl)
  (i:((backTo a (starEach (e::z) X.env)).all (λx=>!x.1)&&(backToKw a (keywordEach [] X.env)).all (λx=>x.1.isSome)
   && decide ((e::z).length+([]:List Keyword).length+(if([]:List Keyword).isEmpty then 0 else 1)<30))=true:=by rfl)
  (d:(c.endLine == a.line)=true:=by rfl) (hs:SW X.env e z:=by rfl) (b:SY X.env a z:=by rfl):
  PE X (.Call (.Attribute o y c) (e::z) [] a) (N4 X.K T r A t):=by
 intro l s σ H Q I h;refine wpAny_Call_method_late f i d rfl (thn (n _ s σ H _ I h) λv s1 ⟨x,H1,I1,r1,ty,q1⟩=>?_);obtain⟨w,u⟩:=Gf I1 r1 ty;refine⟨T,id,m,g,j,w,u,?_⟩;have k:=q a _ s1 σ H1 _ I1 q1;rw[hs] at k ⊢;refine Calls.callWith_builtin (by show(false || (backTo _ _).any _)=false;rw[b]<;>rfl) (Calls.evalArgs_plain ?_)
 exact thn k λus s2 ⟨vs,H2,I2,r2,q2⟩=>p _ s2 σ H2 x vs v us Q I2 r1 r2 q2
def MB(X:Cx)(id:String)(r:V->List V->Hp->VK->Prop):Prop :=
 ∀(a:List (Addr×Obj))(s:Shared)(σ:St)(H:Hp)(x:V)(b:List V)(v:Value)(c:List Value)(Q:VK),C5 X a σ H s->C6 x v->aJ b c->r x b H Q ->
  wpAny (model X.prog X.w) X.A (call (.builtin id) (v::c)) (EP X a σ Q) X.xe s
theorem aJ.one:∀{x:V}{a:List Value},aJ [x] a->∃u,a=[u]/\C6 x u
 | _,_,.cons r .nil=>⟨_,rfl,r⟩
theorem aJ.zero:∀{a:List Value},aJ [] a->a=[]
 | _,.nil=>rfl
def aJ.reverse(h:aJ xs us):aJ xs.reverse us.reverse:=by
 induction h with
 |nil=>exact .nil
 |cons r t a=>rw[List.reverse_cons,List.reverse_cons];exact aJ.append a (.cons r .nil)
theorem aJ.rep(h:aJ xs us):∀k:Nat,aJ (List.replicate k xs).flatten (List.replicate k us).flatten
 | 0=>.nil
 |k+1=>by
  rw[List.replicate_succ,List.replicate_succ,List.flatten_cons,List.flatten_cons];exact aJ.append h (aJ.rep h k)
theorem E8(b:List Value):∀(k:Nat)(a:List Value),
  List.foldl (λd c=>d++c) a.toArray (List.replicate k b.toArray)=(a++(List.replicate k b).flatten).toArray
 | 0,a=>by simp
 |k+1,a=>by
  have e:a.toArray++b.toArray=(a++b).toArray:=by simp
  have f:a++b++(List.replicate k b).flatten=a++(List.replicate (k+1) b).flatten:=by
   rw[List.replicate_succ,List.flatten_cons,zz]
  rw[<-f,<-E8,<-e,List.replicate_succ,List.foldl_cons]
def C5.Se{σ:St}{a:List Value} (I:C5 X k σ H s)(i:H l=some (.lst m))
  (e:s.heap.get? l=some {cls:=.type "list",data:=.seq a.toArray n}) (g:f a.toArray=its'.toArray) (c:aJ ys its') (b:ys.length<=sizeLine):
  C5 X k σ (DB H l (.lst ys)) {s with heap:=s.heap.update l (Obj.mapSeq f),toks:=t'}:=by
 have q:=PySem.IsL.update e f;rw[g] at q;refine I.write (x:=l) (e:=l) (by rw[i];exact trivial) (.inl rfl) (λj u h d=>(jq s.heap (Obj.mapSeq f) (Ne.symm h)).trans d) ⟨_,q⟩ ?_;exact⟨b,its',_,c,q⟩
def C5.SU{σ:St} (I:C5 X d σ H s)(b:aJ e c)(a:e.length<=sizeLine):
  C5 X d σ (DB H s.heap.objs.size (.lst e)) {s with heap:=s.heap.push {cls:=.type "list",data:=.seq c.toArray},toks:=t'}:=
 I.laid (λ_ _ q=>zq _ q) (zc _) ⟨a,c,0,b,zD _ rfl⟩
def C5.fresh{σ:St}(I:C5 X a σ H s):H s.heap.objs.size=none:=I.Pm.fresh (zc _)
def C5.RY{σ:St}(I:C5 X d σ H s)(b:H l=some (.lst c)):c.length<=sizeLine/\∃(a:List Value)(n:Nat),aJ c a/\c.length=a.length/\s.heap.get? l=some {cls:=.type "list",data:=.seq a.toArray n}:=by
 obtain⟨z,a,n,r,e⟩:=I.Pm l _ b;exact⟨z,a,n,r,r.length,e⟩
def Gg(h:n<=sizeLine):Builtin.List.listTooLong n=false:=by
 exact zo (by omega)
def Vq:V->List V->Hp->VK->Prop:=λx b H Q=>∃l a y,x=.ref l/\b=[y]/\H l=some (.lst a)/\a.length<sizeLine/\Q .Pl (DB H l (.lst (a++[y])))
def Gh:MB X "list.append" Vq:=by
 intro b s σ H x j v k Q I c d h;obtain⟨l,i,y,rfl,rfl,a,m,q⟩:=h;cases c;obtain⟨u,rfl,f⟩:=d.one;obtain⟨z,g,n,r,o,e⟩:=I.RY a;refine call_meets F.slot_list_append ⟨_,e,rfl⟩ F.entry_list_append (F.args_list_append_2 _ _) (PySem.list_append l _ n u) ⟨e,?_⟩;refine⟨.Pl,_,I.Se a e (by simp) (r.append (.cons f .nil)) ?_,rfl,q⟩;rw[zg,zR];omega
def Vr:V->List V->Hp->VK->Prop:=λx b H Q=>∃l a,x=.ref l/\b=[]/\H l=some (.lst a)/\Q .Pl (DB H l (.lst a.reverse))
def Vs:MB X "list.reverse" Vr:=by
 intro c s σ H x j v k Q I d f h;obtain⟨l,i,rfl,rfl,b,q⟩:=h;cases d;have a:=f.zero;subst a;obtain⟨z,g,n,r,m,e⟩:=I.RY b;refine call_meets F.slot_list_reverse ⟨_,e,rfl⟩ F.entry_list_reverse (F.args_list_reverse_1 _) (AutoSeq1.list_reverse_list_0 l _ n (by rw[zK];omega)) ⟨e,?_⟩;refine⟨.Pl,_,I.Se b e (by simp) r.reverse ?_,rfl,q⟩;rw[List.length_reverse];omega
def HV{α:Type}(a:List α)(k:Nat):(List.replicate k a).flatten.length=k * a.length:=by
 induction k with
 |zero=>simp
 |succ k b=>rw[List.replicate_succ,List.flatten_cons,zg,b,Nat.succ_mul,Nat.add_comm]
end L2
namespace Att
open PySem PySem.W PySem.Calls PyProof.Rows
def Vt:∀(c:List Int)(d:List Value),WellAll P h d (c.map WData.int)->IntsAre d c:=by
 intro c
 induction c with
 |nil =>
  intro d w;cases w;exact .nil
 |cons n c ih =>
  intro d w
  cases w with
  |cons a b =>
   cases a;exact .cons _ _ (ih _ b)
def Vu{l:OpenLaw} (o:l.most=some n)
  (b:l.row.toRowW.claim.pre args=true) (i:WellAll P h vals args):
  ∃a k c,vals=[Value.ref a]/\args=[WData.list (c.map WData.int)]/\h.get? a=some {cls:=.type "list",data:=.seq k.toArray}/\IntsAre k c/\c.length<=n:=by
 have j :=(pre_splitW b).1;have p :=(pre_splitW b).2;obtain⟨d,r,rfl,u,t⟩:=hasAllW_cons j;obtain rfl:=hasAllW_nil t;obtain⟨v,rfl,s⟩:=hasW_list u;obtain⟨c,rfl⟩:=items_int s
 have e :=by
  have g :=by
   have g:=(holds_andW p).1;rw[o] at g;exact g
  have q:=condW_of g (w_not (w_lt w_lit (w_len_list (w_arg rfl))))
  first
   | (exact absurd)
   | (simp at q;omega)
 cases i with
 |cons w1 w2 =>
  cases w2
  cases w1 with
  |list m f=>exact⟨_,_,c,rfl,rfl,m,Vt c _ f,e⟩
def Vv(l:OpenLaw)(a:List WData):l.row.toRowW.claim.post a (.bool true) a=true :=
 postW_of
  (show WShape.has [] _ _=true by first | rfl | decide | simp)
  (w_eq_bool (w_res rfl) w_lit) rfl
def attach_call{l:OpenLaw}
  (I:l.most=some n) (z:d.params.defaults=[])
  (call:∀(w:World)(c b:Shared)(t mb:Str->Option Value)(i:Addr)(o:Obj)(v u e:Value)(a:Addr)(h:List Value)(s:List Int),
   Ground q W [] Z w c t mb b.heap->X w b.heap ->
   b.heap.get? i=some o->o.data=.func (docDef d.name d.params d.body d.scope v u e)->b.heap.CodeRec u d.name->t d.name=some (.ref i) ->
   b.heap.get? a=some {cls:=.type "list",data:=.seq h.toArray}->IntsAre h s->s.length<=n->b.gens = #[] ->
   codeAny (model l.prog w) callerA (.call (.ref i) ⟨[.ref a],[]⟩) (λr p=>r=.ok (.ret (.bool true))/\OldK b.heap p.heap/\p.os=b.os/\AllBare p.gens) b):
  WalkO q W Z X l.row.toRowW d [] (λf h=>PySem.call f h):=by
 intro w c b t mb G Y i o v u e Q kV H L A hD y K E B U j C R x T;obtain rfl:Q=.none:=Dflts.none hD z;obtain rfl:kV=.none:=Dflts.noKw hD;obtain⟨a,h,s,rfl,rfl,k,g,m⟩:=Vu I j x;refine enter_call (codeAny_mono (call w c b t mb i o v u e a h s G Y H (fd_plain L) A y k g m K) λr p F=>?_);obtain⟨rfl,P,O,N⟩:=F;exact⟨.inl ⟨.bool true,.bool true,[],rfl,λ_=>rfl,.bool true,Vv l _,λ_=>⟨List.Pairwise.nil,λ_ J=>(nomatch J)⟩⟩,P,O,N⟩
end Att
namespace L2
open PySem PySem.Spec PyProof.Rows
theorem Gi:∀{a:List Value}{b:List Int},IntsAre a b->aJ (b.map V.int) a
 | _,_,.nil=>.nil
 | _,_,.cons n t h=>.cons ⟨t,rfl⟩ (Gi h)
def uz(H:Hp):Prop:=∀b,H b=none\/∃o a,H b=some (.Pp o (.lst a))
def Da(s:Stmt)(j:Nat):Stmt:=match s with
 | .ClassDef _ _ _ body _ _ _ _ _ _ _=>body.getD j (.Pass ⟨0,0,0,0⟩)
 | _=>.Pass ⟨0,0,0,0⟩
def dq(s:Stmt):Arguments:=match s with
 | .FunctionDef _ a _ _ _ _ _ _ _ _=>a
 | _=>{posonlyargs:=[],args:=[],vararg:=none,kwonlyargs:=[],kw_defaults:=[],kwarg:=none,defaults:=[]}
def cD(s:Stmt):List Stmt:=match s with
 | .FunctionDef _ _ b _ _ _ _ _ _ _=>b
 | _=>[]
def aQ(s:Stmt):Scope:=match s with
 | .FunctionDef _ _ _ _ _ _ sc _ _ _=>sc
 | _=>{kind:=.function,names:=[],isGenerator:=false,isCoroutine:=false}
abbrev FA:JY:=λ_ _ _ _ _ _=>False
abbrev E0:XK:=λ_ _ _=>False
def lz:jR FA X E0:=λ_ _ _ _ _ _ _ h=>h.elim
structure HK(K:PySem.W.Frag)(x qual:Str)(st:Stmt)(f:Addr)(fd:FuncData):Prop where
 ex:∃(oc:Value)(od:Option Addr)(kV doc pm:Value)(an:Option Addr)(cdv ct:Value)(osl:Array (Option Value)),
  fd=PySem.W.fnOf x qual (dq st) (cD st) (aQ st) .none kV doc pm an cdv ct/\K.lookup f=some ⟨oc,od,.func fd,osl⟩/\PySem.W.codeIn K cdv qual=true
 kp:PySem.W.keepIn K (.ref f)=true
def HK.ok{K:PySem.W.Frag} {st:Stmt} (F:HK K x u st f B)(S:eV N z (aQ st))(len:∀vs H Q E,y vs H Q E->vs.length=z.length)
  (c:∀(b:Value)(A:Around)(a:List Env)(s:Shared)(H:Hp)(vs:List V)(Q:VK)(E:XK),aY k (A.deeper (envOfC u (aQ st) s.heap.objs.size f b))->y vs H Q E ->
   ∃t,Fs (gD FA P w K mg v N u (aQ st) f b A a s H E).QQ (cD st) t/\t {nx:=λ_ i=>Q .Pl i,rt:=Q} (start N vs) H):cX P w K mg v FA (k+1) f B z y:=by
 obtain⟨o,n,kV,l,m,r,b,p,j,rfl,lk,e⟩:=F.ex
 refine xQ lk e S len λA a s H vs Q E g d=>?_
 obtain⟨t,h,q⟩:=c b A a s H vs Q E g d;exact⟨t,h.QQ,q⟩
def HK.binds{K:PySem.W.Frag} {st:Stmt} (F:HK K x m st f o)
  (h:∀(kV a d:Value)(g:Option Addr)(b e:Value)(c:List Value),c.length=n.length->bindArgs (PySem.W.fnOf x m (dq st) (cD st) (aQ st) .none kV a d g b e) ⟨c,[]⟩=pure (n.zip c)):DU K o n []:=by
 obtain⟨l,k,kV,a,d,g,b,e,i,rfl,lk,j⟩:=F.ex;exact .all (h kV a d g b e)
def Gj{K:PySem.W.Frag} {st:Stmt} {kV:Value}(l:K.lookup f=some ⟨m,j,.func (PySem.W.fnOf x a (dq st) (cD st) (aQ st) .none kV d g i b h),e⟩)
  (c:PySem.W.codeIn K b a=true) (k:PySem.W.keepIn K (.ref f)=true):HK K x a st f (PySem.W.fnOf x a (dq st) (cD st) (aQ st) .none kV d g i b h):=⟨⟨m,j,kV,d,g,i,b,h,e,rfl,l,c⟩,k⟩
def xW(a:aY k A):A.units+1<cLine:=Nat.lt_of_le_of_lt (Nat.add_le_add_left (by decide) _) a.units
def Dx(H a:Hp):Prop:=∀b o,H b=some o->a b=some o
def Dx.refl(H:Hp):Dx H H:=λ_ _ h=>h
def Dx.trans(a:Dx H e)(b:Dx e d):Dx H d:=λc o h=>b c o (a c o h)
def Dx.seq{K:PySem.W.Frag} (e:Dx H c)(h:Ee K H a b):Ee K c a b:=by
 rcases h with(h | ⟨o,h⟩) | h
 ·exact .inl (.inl (e _ _ h))
 ·exact .inl (.inr ⟨o,e _ _ h⟩)
 ·exact .inr h
section
variable {κ:Type}[DecidableEq κ]
def dw(a:List (κ×V))(k:κ):Option V:=(a.find? λb=>decide (b.1=k)).map (·.2)
def D0(a:List (κ×V))(k:κ)(v:V):List (κ×V):=
 if(a.any λb=>decide (b.1=k))=true then a.map (λb=>if b.1=k then(b.1,v) else b) else a++[(k,v)]
def oR{p:κ×V}{r:List (κ×V)}{k:κ}(e:p.1=k):dw (p::r) k=some p.2:=by simp[dw,List.find?_cons,e]
def oU{p:κ×V}{r:List (κ×V)}{k:κ}(e:¬p.1=k):dw (p::r) k=dw r k:=by simp[dw,List.find?_cons,e]
theorem xX(k:κ):∀a:List (κ×V),(a.any λb=>decide (b.1=k))=(dw a k).isSome
 | []=>rfl
 |p::r=>by
  rw[List.any_cons]
  by_cases e:p.1=k
  ·simp only[oR e,zw e,Bool.true_or,Option.isSome_some]
  ·rw[oU e,zo e,Bool.false_or];exact xX k r
def uA(a:List (κ×V))(k:κ)(v:V):(D0 a k v).length<=a.length+1:=by
 unfold D0
 split
 ·rw[ze];omega
 ·rw[zg,zu,jd];omega
def dJ.PU{o:Option V}{u:Option Value}(r:dJ o u):o.isSome=u.isSome:=by
 cases o with
 |none=>cases u with
  |none=>rfl
  |some _=>exact(show False from r).elim
 |some _=>cases u with
  |none=>exact(show False from r).elim
  |some _=>rfl
def KV.val{a:List (κ×V)}{c:List (κ×Value)}(r:KV a c)(k:κ):dJ (dw a k) (valueAt c k):=by
 unfold KV at r
 induction r with
 |nil=>exact True.intro
 | @cons p q ps qs h t ih =>
  obtain⟨d,f⟩:=h
  by_cases e:p.1=k
  ·have e':q.1=k:=d.symm.trans e
   have b:valueAt (q::qs) k=some q.2:=by simp[valueAt,List.find?_cons,e']
   rw[oR e,b];exact f
  ·have e':¬q.1=k:=λz=>e (d.trans z)
   have b:valueAt (q::qs) k=valueAt qs k:=by simp[valueAt,List.find?_cons,e']
   rw[oU e,b];exact ih
def KV.any{a:List (κ×V)}{vs:List (κ×Value)}(r:KV a vs)(k:κ):(a.any λb=>decide (b.1=k))=vs.any λb=>decide (b.1=k):=by
 unfold KV at r
 induction r with
 |nil=>rfl
 |cons h t c=>rw[List.any_cons,List.any_cons,c,h.1]
def KV.P7{b:List (κ×V)}{d:List (κ×Value)}(r:KV b d)(k:κ){y:V}{u:Value}(f:C6 y u):
  KV (b.map λa=>if a.1=k then(a.1,y) else a) (d.map λa=>if a.1=k then(a.1,u) else a):=by
 unfold KV at r ⊢
 induction r with
 |nil=>exact .nil
 | @cons p q ps qs h t ih =>
  rw[zh,zh];refine .cons ?_ ih;obtain⟨c,g⟩:=h
  by_cases e:p.1=k
  ·rw[if_pos e,if_pos (c.symm.trans e)];exact⟨c,f⟩
  ·rw[if_neg e,if_neg (λz=>e (c.trans z))];exact⟨c,g⟩
def KV.put{a:List (κ×V)}{b:List (κ×Value)}(r:KV a b)(k:κ){y:V}{u:Value}(c:C6 y u):KV (D0 a k y) (stored b k u):=by
 unfold D0 stored;rw[r.any k]
 by_cases e:(b.any λd=>decide (d.1=k))=true
 ·rw[if_pos e,if_pos e];exact r.P7 k c
 ·rw[if_neg e,if_neg e];exact Paired.snoc r ⟨rfl,c⟩
def KV.length{a:List (κ×V)}{vs:List (κ×Value)}(r:KV a vs):a.length=vs.length:=Paired.length r
end
def oV(r:C6 (kV k) u):(cW P w).is k u=true:=by
 cases k with
 |inl i=>obtain⟨t,e⟩:=(r);subst e;exact Rc P w i t
 |inr x=>obtain⟨t,e⟩:=(r);subst e;exact Rf P w x t
theorem uB:∀{a:List DC}{b:List Value},aJ (a.map kV) b->ItemsAre (cW P w) a b
 | [],_,r=>by cases r;exact .nil
 |k::a,_,r=>by
  cases r with
  |cons h t=>exact .cons (oV h) (uB t)
abbrev KT(H:Hp):List (List DC×V)->List (List DC×Addr×Value)->Prop:=Paired λp q=>p.1=q.1/\H q.2.1=some (.tup (p.1.map kV))/\C6 p.2 q.2.2
def KT.val(r:KT H kvs xs)(k:List DC):dJ (dw kvs k) ((atKey xs k).map (·.2)):=by
 induction r with
 |nil=>exact True.intro
 | @cons p q ps qs h t ih =>
  obtain⟨a,_,c⟩:=h
  by_cases e:p.1=k
  ·have e':q.1=k:=a.symm.trans e
   have b:atKey (q::qs) k=some q.2:=by simp[atKey,List.find?_cons,e']
   rw[oR e,b];exact c
  ·have e':¬q.1=k:=λz=>e (a.trans z)
   have b:atKey (q::qs) k=atKey qs k:=by simp[atKey,List.find?_cons,e']
   rw[oU e,b];exact ih
def KT.P7(r:KT H kvs xs)(k:List DC) (d:C6 y u):
  KT H (kvs.map λb=>if b.1=k then(b.1,y) else b) (xs.map (putAt k u)):=by
 induction r with
 |nil=>exact .nil
 | @cons p q ps qs h t ih =>
  rw[zh,zh];refine .cons ?_ ih;obtain⟨a,c,f⟩:=h;unfold putAt
  by_cases e:p.1=k
  ·rw[if_pos e,if_pos (a.symm.trans e)];exact⟨a,c,d⟩
  ·rw[if_neg e,if_neg (λz=>e (a.trans z))];exact⟨a,c,f⟩
def KT.put(r:KT H f g)(k:List DC) (d:H b=some (.tup (k.map kV)))(a:C6 y u):
  KT H (D0 f k y) (storedH g k b u):=by
 have e:(f.any λc=>decide (c.1=k))=(atKey g k).isSome:=by
  rw[xX,(r.val k).PU,Option.isSome_map]
 unfold D0 storedH;rw[e]
 by_cases q:(atKey g k).isSome=true
 ·rw[if_pos q,if_pos q];exact r.P7 k a
 ·rw[if_neg q,if_neg q];exact Paired.snoc r ⟨rfl,d,a⟩
def KT.keeps(r:KT H d e)(c:∀b a,H b=some (.tup a)->f b=some (.tup a)):KT f d e :=
 Paired.QX r λ_ _ z=>⟨z.1,c _ _ z.2.1,z.2.2⟩
def xY(b:EI P w H h)(e:Rd H a u):cC P w H h a u:=e.ok b
def uC(c:EI P w H h)(e:Rd H a (.dK d)):d.length<=sizeLine/\(a == sysModules)=false/\∃b,KV d b/\h.DictOf (cW P w) a b :=
 xY c e
def uD(c:EI P w H h)(e:H a=some (.dK d)):d.length<=sizeLine/\(a == sysModules)=false/\∃b,KV d b/\h.DictOf (cW P w) a b:=uC c (.inl e)
def uE(c:EI P w H h)(e:H a=some (.tup (i.map kV))):(tupleKind (cW P w)).is h i a:=by
 obtain⟨_,b,r,o,g,f,n,d⟩:=(show cC P w H h a (.tup (i.map kV)) from c a _ e);exact⟨o,b.toArray,n,g,f,d,by simpa using uB r⟩
def uF(d:EI P w H h)(e:Rd H a (.dT u)):u.length<=sizeLine/\(a == sysModules)=false /\
  ∃c,KT H u c/\h.DictOfH (tupleKind (cW P w)) a c:=by
 obtain⟨z,y,c,r,o,n,s,k,j,i,g,f⟩:=(xY d e);refine⟨z,y,c,r,o,n,s,k,j,i,g,λx b=>?_,f⟩
 have all:∀{l}{m},KT H l m->∀x∈m,(tupleKind (cW P w)).is h x.1 x.2.1:=by
  intro l m q
  induction q with
  |nil=>intro x b;exact nomatch b
  | @cons p q ps qs hq t ih =>
   intro x b
   rcases zk.mp b with e | b
   ·subst e;exact uE d (by rw[<-hq.1];exact hq.2.1)
   ·exact ih x b
 exact all r x b
def Vw(c:EI P w H h)(e:H a=some (.dT d)):d.length<=sizeLine/\(a == sysModules)=false /\
  ∃b,KT H d b/\h.DictOfH (tupleKind (cW P w)) a b:=uF c (.inl e)
def jT(H:Hp)(a:Addr)(y:V)(r:Option V):Prop :=
 (∃c k,Rd H a (.dK c)/\y=kV k/\r=dw c k)\/∃c k b,Rd H a (.dT c)/\y=.ref b/\H b=some (.tup (k.map kV))/\r=dw c k
def qZ(H:Hp)(a:Addr)(y v:V)(d:Hp):Prop :=
 (∃c k,H a=some (.dK c)/\y=kV k/\c.length<sizeLine/\d=DB H a (.dK (D0 c k v))) \/
 ∃c k b,H a=some (.dT c)/\y=.ref b/\H b=some (.tup (k.map kV))/\c.length<sizeLine/\d=DB H a (.dT (D0 c k v))
def jT.k{k:DC}(e:H a=some (.dK b)):jT H a (kV k) (dw b k):=.inl ⟨b,k,.inl e,rfl,rfl⟩
def qZ.k{k:DC} (e:H a=some (.dK c))(b:c.length<sizeLine):qZ H a (kV k) v (DB H a (.dK (D0 c k v))):=.inl ⟨c,k,e,rfl,b,rfl⟩
def C5.big{σ:St}(I:C5 X a σ H s):sysModules<s.heap.objs.size:=by
 have h:mainGlobals<s.heap.objs.size:=(I.mod.glob.keeps I.bk).lt;exact Nat.lt_trans (by decide) h
def Vx{σ:St} (C:A.units+1<cLine)(I:C5 X L σ H s)(g:jT H a y (some v))(t:C6 y u)(h:∀f r,C5 X L σ H r->C6 v f->Q f r):
  wpAny (model X.prog X.w) A (getItem (.ref a) u) Q E s:=by
 rcases g with⟨n,k,e,j,l⟩ | ⟨n,k,b,e,j,J,l⟩
 ·subst j;obtain⟨z,G,B,d,m⟩:=uC I.Pm e;obtain⟨f,i,c⟩:=dJ.some_of (v:=v) (o:=valueAt B k) (by rw[l];exact d.val k);exact wpAny_getItem_of (oV t) m.mapOf i (h f _ (I.tok _) c)
 ·subst j;cases(show u=Value.ref b from t);obtain⟨z,G,x,d,m⟩:=uF I.Pm e;obtain⟨f,i,c⟩:=dJ.some_of (v:=v) (o:=(atKey x k).map (·.2)) (by rw[l];exact d.val k);obtain⟨p,F,q⟩:=js.mp i;refine wpAny_getItem_heap (tupleKind_room_in1 C) (uE I.Pm J) m F ?_;rw[q];exact h f _ (I.tok _) c
def Vy{σ:St} (p:A.units+1<cLine)(I:C5 X x σ H s)(g:jT H a y o)(n:C6 y u)(h:∀m,C5 X x σ H m->Q (.bool (!o.isSome)) m):
  wpAny (model X.prog X.w) A (compareOp .NotIn u (.ref a)) Q E s:=by
 rcases g with⟨j,k,e,f,l⟩ | ⟨j,k,b,e,f,r,l⟩
 ·subst f;obtain⟨z,d,v,c,i⟩:=uC I.Pm e;refine wpAny_notIn_of (oV n) d i.mapOf ?_;rw[<-(c.val k).PU,<-l];exact h _ (I.tok _)
 ·subst f;cases(n);obtain⟨z,d,t,c,i⟩:=uF I.Pm e;refine wpAny_notIn_heap (tupleKind_room_in1 p) (uE I.Pm r) d i ?_;have q:=(c.val k).PU;rw[Option.isSome_map] at q;rw[<-q,<-l];exact h _ (I.tok _)
def xZ{σ:St} (I:C5 X h σ H s)(d:KL (H a))(hs:Heap.SameBut a s.heap i)(f:∃q,i.get? a=some q)(c:cC X.prog X.w (DB H a j) i a j):
  C5 X h σ (DB H a j) {s with heap:=i,toks:=t'}:=
 I.write (x:=a) (e:=a) d (.inl rfl) (λb q g z=>(hs.2 b g).trans z) f c
def yc(z:e.length<=sizeLine)(c:(a == sysModules)=false)(b:KV e f)(d:g.DictOf (cW P w) a f):
  cC P w h g a (.dK e):=⟨z,c,f,b,d⟩
def Vz{σ:St} (O:A.units+1<cLine)(I:C5 X pins σ H s)(g:qZ H a y v H')(C:C6 y u)(F:C6 v r)(h:∀B,C5 X pins σ H' B->Q () B):
  wpAny (model X.prog X.w) A (setItem (.ref a) u r) Q E s:=by
 rcases g with⟨f,k,e,p,l,t⟩ | ⟨f,k,b,e,p,K,l,t⟩
 ·subst p t;obtain⟨z,o,N,d,x⟩:=uD I.Pm e
  have m:N.length<=sizeLine:=by rw[<-d.length];exact z
  have n:(D0 f k v).length<=sizeLine:=by have:=uA f k v;omega
  refine wpAny_setItem_pairs (hsz:=m) (oV C) x λG i hs=>h _ ?_
  have P:∃q,G.get? a=some q:=let ⟨q,_,_,j,_⟩:=i;⟨q,j⟩;exact xZ I (by rw[e];exact True.intro) hs P (yc n o (d.put k F) i)
 ·subst p t;cases(show u=Value.ref b from C);obtain⟨z,o,L,d,x⟩:=Vw I.Pm e
  have m:L.length<=sizeLine:=by rw[<-Paired.length d];exact z
  have n:(D0 f k v).length<=sizeLine:=by have:=uA f k v;omega
  refine wpAny_setItem_heap (hsz:=m) (tupleKind_room_in1 O) (uE I.Pm K) x λG i hs=>h _ ?_
  obtain⟨q,Y,Z,j,W,U,T,_,R⟩:=i;refine xZ I (by rw[e];exact True.intro) hs ⟨q,j⟩ ⟨n,o,_,(d.put k K F).keeps λc ys J=>?_,q,Y,Z,j,W,U,T,R⟩;rw[aH (IB J e (λz=>nomatch z))];exact J
def ye(i:Expr):Prop:=∀a b,subscripted i false a b=operate [a,b] (getItem a b)
def Gk{id:String}
  (g:typeLookup (.type T) "__getitem__" = pure (some (.builtin id))) (hs:ye l)
  (h:wpAny (model k w) A (eval m n) (λo d=>wpAny (model k w) A (eval l n) (λi a=>a.TypeIs o T/\wpAny (model k w) A (getItem o i) Q E a) E d) E s):
  wpAny (model k w) A (eval (.Subscript m l p) n) Q E s:=by
 refine Subscript_ (zV h (λo d f=>zV f (λi a b=>?_) λ_ _ x=>x) λ_ _ x=>x);obtain⟨j,b⟩:=b;refine za ?_;refine za (wpAny_specialOf j g ?_)
 have fin:wpAny (model k w) A (subscripted l false o i) (λr c=>wpAny (model k w) A (letTemporaryGo m o r >>= λ_=>pure r) Q E c) E a:=by
  rw[hs];exact wpAny_operating (zV b (λr c e=>za (wpAny_letTemporaryGo (zb e))) λ_ _ x=>x)
 first
  | exact zb (za fin)
  | exact za
  | exact za
def VB{σ:St} (I:C5 X i σ H s)(g:jT H a y o):s.TypeIs (.ref a) "dict":=by
 rcases g with⟨d,k,e,_⟩ | ⟨d,k,b,e,_⟩
 ·obtain⟨_,_,h,_,c⟩:=uC I.Pm e;exact c.typeIs
 ·obtain⟨_,_,f,_,c⟩:=uF I.Pm e;exact c.typeIs
def VD(d c:TE):TE:=λσ H Q=>d σ H λx e=>c σ e λy b=>∃a v,x=.ref a/\jT b a y (some v)/\Q v b
def Gm(c d:TE):TE:=λσ H Q=>c σ H λy e=>d σ e λx b=>∃a o,x=.ref a/\jT b a y o/\Q (.bl (!o.isSome)) b
def VF(e c d:TE):TS:=λD σ H=>d σ H λv h=>e σ h λx g=>c σ g λy f=>∃a b,x=.ref a/\qZ f a y v b/\D.nx σ b
def VH(d:X.A.units+1<cLine)(e:PE X o n)(f:PE X i m)(hs:ye i):PE X (.Subscript o i p) (VD n m):=by
 intro c s σ H Q I h;refine Gk PySem.F.slot_dict_getitem.lookup hs (thn (e _ s σ H _ I h) λu s1 ⟨x,H1,I1,rx,q1⟩=>thn (f _ s1 σ H1 _ I1 q1) λiv s2 ⟨y,H2,I2,ry,a,v,ex,g,q2⟩=>?_);subst ex;obtain rfl :=rx;exact⟨VB I2 g,Vx d I2 g ry λk l j b=>⟨v,H2,j,b,q2⟩⟩
def VJ(c:X.A.units+1<cLine)(e:PE X i k)(d:PE X o l):PC X .NotIn i o (Gm k l):=by
 intro b s σ H Q I h
 refine thn (e _ s σ H _ I h) λiv s1 ⟨y,H1,I1,ry,q1⟩=>thn (d _ s1 σ H1 _ I1 q1) λu s2 ⟨x,H2,I2,rx,a,ov,ex,g,q2⟩=>?_
 subst ex;obtain rfl :=rx
 exact Vy c I2 g ry λj f=>⟨.bl _,H2,f,rfl,q2⟩
def VL(d:X.A.units+1<cLine)(e:PE X o t)(f:PE X i p)(c:PE X l q)(hs:swapsWith l (some (.Subscript o i m)) n.line X.env=pure false):
  PS X (.Assign [.Subscript o i m] l n) (VF t p q):=by
 intro b s σ H D I h;refine wpAny_Assign_Subscript (thn (c _ s σ H _ I h) λr s1 ⟨v,H1,I1,rv,q1⟩=>thn (e _ s1 σ H1 _ I1 q1) λu s2 ⟨x,H2,I2,rx,q2⟩=>thn (f _ s2 σ H2 _ I2 q2) λiv s3 ⟨y,H3,I3,ry,a,H4,ex,g,q3⟩=>?_) hs;subst ex;obtain rfl :=rx
 exact Vz d I3 g ry rv λk j=>⟨σ,H4,j,q3⟩
def VM(h:Heap)(a:sysModules<h.objs.size):cC P w H (h.push {cls:=.type "dict",data:=.dict #[]}) h.objs.size (.dK []):=
 ⟨Nat.zero_le _,beq_eq_false_iff_ne.mpr (Ne.symm (zt a)),[],.nil,Heap.DictOf.new h⟩
def VN:TE:=λ_ H Q=>∀p,H p=none->Q (.ref p) (DB H p (.dK []))
def VP:PE X (.Dict [] [] a) VN:=λpins s σ H Q I h =>
 wpAny_Dict_empty ⟨.ref _,_,I.laid (λ_ _ q=>zq _ q) (zc _) (VM _ I.big),rfl,h _ (I.Pm.fresh (zc _))⟩
def yg:List (TE×TE)->St->Hp->(List (V×V)->Hp->Prop)->Prop
 | [],_,H,Q=>Q [] H
 | (tk,tv)::r,σ,H,Q=>tk σ H λx d=>tv σ d λy c=>yg r σ c λa b=>Q ((x,y)::a) b
abbrev VV:List (V×V)->List (Value×Value)->Prop:=Paired λp q=>C6 p.1 q.1/\C6 p.2 q.2
def OO(X:Cx)(e:Pos)(c:List (Option Expr))(a:List Expr)(d:List (TE×TE)):Prop :=
 ∀(b:List (Addr×Obj))(s:Shared)(σ:St)(H:Hp)(Q:List (V×V)->Hp->Prop),C5 X b σ H s->yg d σ H Q ->
  wpAny (model X.prog X.w) X.A (evalPairs (pairTrees c a X.env e)) (λh i=>∃f g,C5 X b σ g i/\VV f h/\Q f g) X.xe s
def lA(b a:List (DC×V)):List (DC×V):=a.foldl (λc d=>D0 c d.1 d.2) b
def KV.merge:∀{b:List (DC×V)}{d:List (DC×Value)}{a:List (DC×V)}{c:List (DC×Value)},KV b d->KV a c->KV (lA a b) (merged c d):=by
 intro b d a c r;unfold KV at r
 induction r generalizing a c with
 |nil=>intro q;exact q
 | @cons p q ps qs h t ih =>
  intro f
  have e:KV (D0 a p.1 p.2) (stored c q.1 q.2):=by
   have:=f.put p.1 h.2
   rw[<-h.1];exact this
  exact ih e
theorem Gn:∀(b a:List (DC×V)),(lA a b).length<=a.length+b.length
 | [],a=>by show a.length<=a.length+0;omega
 |p::r,a=>by
  have d:=Gn r (D0 a p.1 p.2);have c:=uA a p.1 p.2;show(lA (D0 _ _ _) r).length<=_;rw[zu];omega
def jU(a:List (Str×Addr)):List (Str×NameKind)->List (Str×Addr)->List (Str×Addr)
 | [],acc=>acc
 | (n,k)::r,acc=>if k == .free then jU a r ((n,(a.lookup n).getD 0)::acc) else jU a r acc
def lB(a:Scope)(env:Env):List (Str×Addr):=jU env.cells a.names []
def Gp(d:∀y∈scope.names,y.2=.free->∃c,env.cells.lookup y.1=some c):closureFor scope env=pure (lB scope env):=by
 simp only[closureFor,lB]
 generalize []=e
 generalize scope.names=b at d
 induction b generalizing e with
 |nil=>rfl
 |cons y r ih =>
  obtain⟨n,k⟩:=y
  have f:=λa=>ih a λz h=>d z (zl _ h)
  by_cases g:k=.free
  ·obtain⟨c,i⟩:=d _ zd g;have hc' :=i;subst g;simp only[List.forIn_cons,cellOf,hc',jU];exact f _
  ·have j:(k == NameKind.free)=false:=by simpa
   simp only[List.forIn_cons,j,jU];exact f _
theorem yh:∀{a:List (Str×NameKind)}{b:List (Str×Addr)},(jU cells a b).lookup x=some c->b.lookup x=some c\/(∃k,(x,k)∈a/\k=.free/\(cells.lookup x).getD 0=c)
 | [],b,h=>.inl h
 | (n,k)::r,b,h=>by
  unfold jU at h
  by_cases g:k=.free
  ·subst g
   rcases yh h with z | ⟨k,d,q⟩
   ·rw[List.lookup_cons] at z
    by_cases f:x=n
    ·subst f;simp at z;exact .inr ⟨.free,zd,rfl,z⟩
    ·have e:(x == n)=false:=by simpa
     rw[e] at z;exact .inl z
   ·exact .inr ⟨k,zl _ d,q⟩
  ·have e :=by simpa
   simp [e] at h
   rcases yh h with z | ⟨k,d,q⟩
   ·exact .inl z
   ·exact .inr ⟨k,zl _ d,q⟩
theorem uG:∀{a:List (Str×NameKind)}{b:List (Str×Addr)},((∃c,b.lookup x=some c)\/(x,NameKind.free)∈a)->∃c,(jU cells a b).lookup x=some c
 | [],b,h=>by
  rcases h with h | h
  ·exact h
  ·cases h
 | (n,k)::r,b,h=>by
  unfold jU
  by_cases g:k=.free
  ·subst g;refine uG ?_
   by_cases f:x=n
   ·subst f;exact .inl ⟨(cells.lookup x).getD 0,by simp⟩
   ·have d:(x == n)=false:=by simpa
    rcases h with⟨c,h⟩ | h
    ·exact .inl ⟨c,by rw[List.lookup_cons,d];exact h⟩
    ·rcases zk.mp h with e | h
     ·cases e;exact absurd rfl f
     ·exact .inr h
  ·have d :=by simpa
   simp [d]
   refine uG ?_
   rcases h with h | h
   ·exact .inl h
   ·rcases zk.mp h with e | h
    ·cases e;exact absurd rfl g
    ·exact .inr h
def jV(a b:Scope):List (Str×NameKind):=
 a.names.map λ(n,k)=>if(k == .free&&b.kind == .function&&b.names.lookup n == some .cell) then(n,.cell) else(n,k)
def Gq(i:∀y∈j.names,y.2≠.cell) (h:(jV j l).lookup x=some k)(g:k=.cell\/k=.free):(x,NameKind.free)∈j.names:=by
 have f:=PySem.mem_of_lookup h;obtain⟨⟨n,d⟩,c,a⟩:=zv.mp f
 dsimp at a
 by_cases b:(d == NameKind.free&&l.kind == .function&&l.names.lookup n == some .cell)=true
 ·rw[if_pos b] at a
  have e :=by
   simp at b
   exact b.1.1
  cases a;rw[<-e];exact c
 ·rw[if_neg b] at a;cases a
  rcases g with e | e
  ·exact absurd e (i _ c)
  ·rw[<-e];exact c
def bN(b own:List Str)(a:List Nat):List Str:=own++a.map λj=>b.getD j (Str.ofString "")
def D9(own:List Str)(a:List Nat)(σ:St):St:=own.map (λ_=>none)++a.map λj=>(σ[j]?).join
def lC(a:Scope)(b:List Str)(scope:Scope)(own:List Str)(c:List Nat):Bool :=
 (scope.kind == .function)&&scope.names.all (λy=>y.2 != .cell)&&scope.names.all (λy=>y.2 != .local || scope.names.lookup y.1 == some .local) &&
 scope.names.all (λy=>y.2 != .free || a.names.lookup y.1 == some .cell || a.names.lookup y.1 == some .free) &&
 c.all λj=>decide (j<b.length)&&scope.names.contains (b.getD j (Str.ofString ""),NameKind.free)&&((jV scope a).lookup (b.getD j (Str.ofString "")) == some .cell || (jV scope a).lookup (b.getD j (Str.ofString "")) == some .free)
structure jW(sc0:Scope)(N0:List Str)(scope:Scope)(own:List Str)(PM:List Nat):Prop where
 kind:scope.kind=.function
 QS:∀y∈scope.names,y.2≠.cell
 names:∀y∈scope.names,y.2=.local->scope.names.lookup y.1=some .local
 free:∀y∈scope.names,y.2=.free->sc0.names.lookup y.1=some .cell\/sc0.names.lookup y.1=some .free
 PM:∀j∈PM,j<N0.length/\(N0.getD j (Str.ofString ""),NameKind.free)∈scope.names/\((jV scope sc0).lookup (N0.getD j (Str.ofString ""))=some .cell\/(jV scope sc0).lookup (N0.getD j (Str.ofString ""))=some .free)
def jW.of{PM:List Nat}(h:lC o p n own PM=true):jW o p n own PM:=by
 unfold lC at h;simp only[zC,jm,beq_iff_eq,bne_iff_ne,ne_eq,Bool.or_eq_true,decide_eq_true_eq,List.contains_iff_mem] at h;obtain⟨⟨⟨⟨m,l⟩,k⟩,i⟩,g⟩:=h;refine⟨m,l,λy d e=>?_,λy d e=>?_,λj f=>?_⟩
 ·rcases k y d with z | z
  ·exact absurd e z
  ·exact z
 ·rcases i y d with(z | z) | z
  ·exact absurd e z
  ·exact .inl z
  ·exact .inr z
 ·obtain⟨⟨a,b⟩,c⟩:=g j f;exact⟨a,b,c⟩
def bQ(X:Cx)(scope:Scope)(C:Addr)(N':List Str)(s:Shared)(H:Hp)(ex:List Addr):Cx where
 prog:=X.prog
 w:=X.w
 K:=X.K
 mg:=X.mg
 base:=X.base
 A:=X.A
 N:=N'
 s₀:=s
 H₀:=H
 env:=compEnvC scope (lB scope X.env) C X.env
 outer:=X.stack
 stack:=X.stack
 ex:=ex
 fn:=λ_=>false
 calm:=X.calm
 pn:=[]
 xe:=λ_ _=>False
def lD(X:Cx)(b:List Expr)(t:TT):Prop :=
 ∀(a:List (Addr×Obj))(s:Shared)(σ:St)(H:Hp)(Q:Bool->Hp->Prop),C5 X a σ H s->t σ H Q ->
  wpAny (model X.prog X.w) X.A (forIn b true λc r=>if r=true then do let ok <-isTrue c X.env (eval c X.env);pure (ForInStep.yield ok) else pure (ForInStep.yield r)) (TP X a σ Q) X.xe s
def VR:TT:=λ_ H Q=>Q true H
def V0:lD X [] VR:=λ_ _ _ H _ I h=>wpAny_tests_nil ⟨H,I,h⟩
def V1(h:PT X c t):lD X [c] t:=λa s σ H Q I q=>wpAny_tests_one (h _ s σ H Q I q)
def Gs(J:It)(g:TG)(j:TT)(k:TE)(Q:List V->Hp->Prop)(f:St)(o:Hp):Prop :=
 ∃W:Nat->Nat->List V->St->Hp->Prop,(∃m,W 0 m [] f o)/\∀i m c σ H,W i m c σ H ->
  (J.stop i H/\Q c H)\/(J.go i H/\c.length<sizeLine/\∃N:List V->St->Hp->Prop,(∀c e d,N c e d->∃h,h<m/\W (i+1) h c e d)/\∀x d,J.So i H x d->g x σ d λa n=>j a n λb H3 =>
   if b=true then k a H3 λy l=>N (c++[y]) a l else N c a H3)
def uH(d:TI)(own:List Str)(a:List Nat)(g:TG)(e:TT)(f:TE):TE:=λσ H Q =>
 d σ H λJ h=>Gs J g e f (λb c=>b.length<=sizeLine/\∀p,c p=none->Q (.ref p) (DB c p (.lst b))) (D9 own a σ) h
theorem V2(I:Nat->Shared->Prop)
  (p:∀n s,I n s->wpAny (model prog w) A (pyNext it) (λr d=>match r with
   |none=>R (.ok .next) d
   |some v=>wpAny (model prog w) A (letOwnedTupleGo target it v) (λ_ e=>wpAny (model prog w) A (assign target env v) (λ_ i =>
     wpAny (model prog w) A (forIn ifs true λc r=>if r=true then do let o <-isTrue c env (eval c env);pure (ForInStep.yield o) else pure (ForInStep.yield r)) (λo b =>
      if o=true then wpAny (model prog w) A (eval elt env) (λx g =>
       wpAny (model prog w) A (call (.builtin "list.append") [acc,x]) (λ_ f=>∃m,m<n/\I m f) (λ_ _=>False) g) (λ_ _=>False) b
      else ∃m,m<n/\I m b) (λ_ _=>False) i) (λ_ _=>False) e) (λ_ _=>False) d) (λ_ _=>False) s)
  (n:Nat) (h:I n s):
  codeAny (model prog w) A (.compLoop (.ListComp elt [⟨target,iter,ifs,0⟩] scope pos) 0 it acc env) R s:=by
 refine codeAny_loop rfl I (λn s hI=>?_) n h;refine wpAny_noted ?_;rw[compTurn_list];refine za (wpAny_standAt (za (zV (p n s hI) (λr d k=>?_) λ_ _ a=>a.elim)))
 cases r with
 |none=>exact zb k
 |some v =>
  refine za (zV k (λ_ e l=>?_) λ_ _ a=>a.elim);refine za (zV l (λ_ i u=>za (zV u (λo b j=>?_) λ_ _ a=>a.elim)) λ_ _ a=>a.elim)
  cases o with
  |false=>exact zb ⟨rfl,j⟩
  |true =>
   exact za (za (zV j (λx g t=>za (zV t (λ_ f q=>zb (zb ⟨rfl,q⟩)) λ_ _ a=>a.elim)) λ_ _ a=>a.elim))
def yj{d:List (Addr×Obj)}{σ:St}{h:Shared}{m:Hp}{a b:Scope}{k own:List Str}{g:List Nat}(l:C5 X d σ m h)(f:X.env.scope=b)(i:jW b k a own g):∀y∈a.names,y.2=.free->∃c,X.env.cells.lookup y.1=some c:=λy j e=>by
 refine l.ok.has _ ?_;have q:=i.free y j e;rw[<-f] at q;exact q
def lE{σ:St}(g:C5 X l σ p n)(a:X.env.scope=j)(b:jW j o scope own m) (h:(lB scope X.env).lookup x=some c):X.env.cells.lookup x=some c:=by
 rcases yh h with z | ⟨k,d,f,q⟩
 ·simp at z
 ·obtain⟨i,e⟩:=yj g a b _ d f;have e' :=e;rw[e'] at q;rw[e',<-q];rfl
def V3{σ:St}(a:C5 X v σ E A)(f:X.env.scope=u)(g:jW u G scope own B)(T:EO X.prog X.w X.K H J fp it F)(j:F 0 A.heap)(i:∀b∈fp,gh X v E b)
  (C:Addr) (l:A.heap.objs.size<=C):(bQ X scope C (bN G own B) A E fp).Ok:=by
 have m:∀b∈fp,b<A.heap.objs.size:=λb d=>by
  obtain⟨o,e,_⟩:=T.obj 0 _ j b d;exact zm e
 have k:(relabel scope X.env).names=jV scope u:=by rw[<-f];rfl
 refine⟨a.ok.mod,g.kind,a.ok.glob,a.ok.blt,l,λx y c t s=>?_,λx p=>?_,λx c hf _=>absurd hf (by simp[bQ]),a.ok.hd,a.ok.frames,.inl rfl,λb d=>⟨?_,λx c h=>?_⟩,a.bs,zJ a.ok.RA a.sz,
  λb o e d=>?_,λb d n=>?_,a.stack,a.QT⟩
 ·exact a.ok.inj x y c (lE a f g t) (lE a f g s)
 ·have hx':(jV scope u).lookup x=some .cell\/(jV scope u).lookup x=some .free:=by rw[<-k];exact p
  have r:(x,NameKind.free)∈scope.names:=by
   rcases hx' with q | q
   ·exact Gq g.QS q (.inl rfl)
   ·exact Gq g.QS q (.inr rfl)
  exact uG (.inr r)
 ·exact zt (zM (m b d) l)
 ·exact(i b d).2.2.2.2.1 x c (lE a f g h)
 ·rcases(i b d).2.2.2.1 with z | z
  ·exact a.ok.Q0 b o e z
  ·exact absurd (zM (zm e) (zJ a.ok.RA z)) (zW _)
 ·rcases zk.mp (a.P4 b n) with z | z
  ·exact(i b d).2.1 z
  ·exact(i b d).2.2.1 z
def V4{σ:St}(d:C5 X pins σ H2 s2)(a:X.env.scope=sc0)(G:X.N=N0)(f:jW sc0 N0 scope own PM)(T:EO X.prog X.w X.K tg J fp it tn)(B:tn 0 s2.heap)(Y:∀b∈fp,gh X pins H2 b)
  (C:Addr) (Q:s2.heap.objs.size<=C) (e:∀b o,s2.heap.get? b=some o->h₁.get? b=some o) (F:h₁.Ns C m):
  C5 (bQ X scope C (bN N0 own PM) s2 H2 fp) [] (D9 own PM σ) H2 {s2 with heap:=h₁,toks:=tk}:=by
 have E:(relabel scope X.env).names=jV scope sc0:=by rw[<-a];rfl
 refine⟨V3 d a f T B Y C Q,rfl,d.bare,Un.kept e,⟨m,F,λi x v e1 e2 _=>?_⟩,λx c h=>?_,d.Pm.fresh Q,λx c h=>?_,λp R=>absurd (show p∈[] from R) (by simp),d.Pm.kept e,?_⟩
 ·have e1':(bN N0 _ _)[i]?=some x:=e1;unfold bN at e1';unfold D9 at e2
  by_cases P:i<own.length
  ·rw[zG (by simpa),zH] at e2
   cases q:own[i]? with
   | none
   |some z=>rw[q] at e2;cases e2
  ·rw[zN (by simpa using P),zH] at e2;rw[zN (by simpa using P),zH] at e1';rw[ze] at e2
   cases q:PM[i - own.length]? with
   |none=>rw[q] at e2;cases e2
   |some j =>
    rw[q] at e1' e2;have A:N0.getD j _=x:=zF e1';have k:σ[j]?.join=some v:=zF e2;obtain⟨O,s,L⟩:=f.PM j (zP q);rw[A] at s L
    have Z:X.N[j]?=some x:=by
     rw[G,zB O];rw[jt,zB O] at A;exact congrArg _ A
    have H:σ[j]?=some (some v):=by
     cases z:σ[j]? with
     |none=>rw[z] at k;cases k
     |some o=>rw[z] at k;cases o with
      | none
      |some y=>exact congrArg _ k
    have I:X.env.kindOf x=some .cell\/X.env.kindOf x=some .free:=by
     have z:=f.free _ s rfl;rw[<-a] at z;exact z
    obtain⟨m0,hn0,U⟩:=d.loc;obtain⟨u,r,l⟩:=U j x v Z H (I.elim (λz=>.inr (.inl z)) λz=>.inr (.inr z));refine⟨u,r,.inr ⟨?_,?_⟩⟩
    ·show(relabel _ _).names.lookup x=_\/(relabel _ _).names.lookup x=_;rw[E];exact L
    ·rcases l with⟨l,_⟩ | ⟨_,c,W,⟨o,n,t⟩⟩
     ·rcases I with z | z<;>(rw[z] at l;cases l)
     ·obtain⟨c',g⟩:=uG (.inr s);have z:=lE d a f g;rw[W] at z;cases z;exact⟨c,g,o,e _ _ n,t⟩
 ·obtain⟨v,o,n,t⟩:=d.cell x c (lE d a f h);exact⟨v,o,e _ _ n,t⟩
 ·exact d.Pw x c (lE d a f h)
 ·show(D9 _ _ σ).length=(bN N0 _ _).length;unfold D9 bN;simp
def Gu{σ:St} {RR:Value->Addr->Result->Shared->Prop} (hc:X.calm=true)(I2:C5 X pins σ H2 f)(hsc:X.env.scope=sc0)(hN0:X.N=N0)(ok:jW sc0 N0 scope own t)
  (hg:∀C s H ex,PG (bQ X scope C (bN N0 own t) s H ex) tg g) (ht:∀C s H ex,lD (bQ X scope C (bN N0 own t) s H ex) ifs tt) (he:∀C s H ex,PE (bQ X scope C (bN N0 own t) s H ex) elt te)
  (T:EO X.prog X.w X.K tg J fp it tn) (st2:tn 0 f.heap) (f2:∀b∈fp,gh X pins H2 b) (hW:Gs J g tt te Q (D9 own t σ) H2)
  (hRR:∀D C oC P G Z,C5 X (pins++[(C,oC)]) σ (DB G D (.lst P)) Z->(∀h:Heap,h.get? C=some oC->∃m,h.Ns C m)->gh X pins (DB G D (.lst P)) C->G D=none->Q P G->RR (.ref D) C (.ok .next) Z)
  (hQsz:∀P G,Q P G->P.length<=sizeLine):
  wpAny (model X.prog X.w) X.A (newList []) (λacc R=>wpAny (model X.prog X.w) X.A (newFunctionEnv scope X.env.globals (lB scope X.env) [] X.env.qual none .none (some X.env)) (λcenv s₄ =>
   codeAny (model X.prog X.w) X.A (.compStart (.ListComp elt [⟨tg,iter,ifs,0⟩] scope pos) 0 (.ref it) acc {cenv with scope:=relabel scope X.env}) (RR acc cenv.locals) s₄) E R) E f:=by
 refine wpAny_newObj_type (wpAny_newFunctionEnv ok.QS (by intro y hy;simp at hy) (λh₁ O B=>?_) ok.kind);dsimp only at O B ⊢
 generalize hP2:f.heap.push {cls:=.type "list",dict:=none,data:=.seq ([]:List Value).toArray}=F at O B ⊢
 have hC:F.objs.size=f.heap.objs.size+1:=by rw[<-hP2,Heap.size_push]
 have hDC:f.heap.objs.size≠F.objs.size:=by rw[hC];exact zt (jg _)
 have hCle:f.heap.objs.size<=F.objs.size:=by rw[hC];exact Nat.le_succ _
 have Y:∀b,b<f.heap.objs.size->b≠F.objs.size/\b≠f.heap.objs.size:=λb l=>⟨by rw[hC];exact zt (jo l),zt l⟩
 have ltf:∀b∈fp,b<f.heap.objs.size:=λb l=>by
  obtain⟨o,e,_⟩:=T.obj 0 _ st2 b l;exact zm e
 have old:∀b o,f.heap.get? b=some o->h₁.get? b=some o:=λb o e=>B.extBut b o (Y b (zm e)).1 (zq _ (hP2 ▸ zq _ e))
 have hacc:h₁.PlainList f.heap.objs.size #[]:=⟨_,B.extBut _ _ hDC (zq _ (hP2 ▸ zD _ rfl))⟩
 have st₁:tn 0 h₁:=T.keep _ _ _ st2 λb _ o e=>old b o e
 have hDno:∀b∈fp,f.heap.objs.size≠b:=λb l=>(Y b (ltf b l)).2.symm
 generalize hXe:bQ X scope F.objs.size (bN N0 own t) f H2 fp=X'
 have loop:∀R:Shared,R = {f with heap:=h₁,toks:=f.toks+([]:List (Str×Value)).length} ->
   codeAny (model X.prog X.w) X.A (.compLoop (.ListComp elt [⟨tg,iter,ifs,0⟩] scope pos) 0 (.ref it) (.ref f.heap.objs.size) (compEnvC scope (lB scope X.env) F.objs.size X.env))
    (RR (.ref f.heap.objs.size) F.objs.size) R:=by
  rintro R rfl;obtain⟨W,⟨m0,w0⟩,turn⟩:=hW;subst hXe
  have stat:∀{G:Hp}{oD:Obj},(∀b∈fp,G b=none)->∀b∈fp,gh (bQ X scope F.objs.size (bN N0 own t) f H2 fp) [(f.heap.objs.size,oD)] G b:=λ{G oD} hn b l =>
   ⟨hn b l,(Y b (ltf b l)).1,λz=>by
    rcases zk.mp (I2.P4 b z) with z | z
    ·exact(f2 b l).2.1 z
    ·exact(f2 b l).2.2.1 z,.inl l,λx c h=>(f2 b l).2.2.2.2.1 x c (lE I2 hsc ok h),λp hp=>by
    have e:p=(f.heap.objs.size,oD):=by simpa [bQ] using hp
    rw[e];exact hDno b l⟩
  have notcell:∀x c,(lB scope X.env).lookup x=some c->c≠f.heap.objs.size:=λx c h z=>by
   obtain⟨v,o,ho,hd⟩:=I2.cell x c (lE I2 hsc ok h);exact absurd (zm ho) (by rw[z];exact zW _)
  have Q3:f.heap.objs.size∉GS X.stack:=λz=>by
   rcases zk.mp (I2.P4 _ z) with z | z
   ·exact absurd I2.lt (by rw[z];exact zW _)
   ·exact I2.Q3 (zc _) z
  have pinD:∀{L:St}{G:Hp}{Z:Shared}{j:Array Value}{k:Nat},C5 (bQ X scope F.objs.size (bN N0 own t) f H2 fp) [] L G Z->G f.heap.objs.size=none ->
    Z.heap.get? f.heap.objs.size=some {cls:=.type "list",data:=.seq j k}->C5 (bQ X scope F.objs.size (bN N0 own t) f H2 fp) [(f.heap.objs.size,{cls:=.type "list",data:=.seq j k})] L G Z :=
   λ{L G Z j k} I hn hd=>I.P2 λp hp=>by
    have e:p=(f.heap.objs.size,{cls:=.type "list",data:=.seq j k}):=by simpa using hp
    subst e;exact⟨hd,hn,hDC,Q3,λv z=>by cases z⟩
  obtain⟨k0,hk0⟩:=hacc;refine V2 (env:=compEnvC scope (lB scope X.env) F.objs.size X.env)
   (λn Z=>∃i P j k L G,C5 (bQ X scope F.objs.size (bN N0 own t) f H2 fp) [(f.heap.objs.size,{cls:=.type "list",data:=.seq j k})] L G Z/\tn i Z.heap/\(∀b∈fp,G b=none)/\aJ P j.toList/\W i n P L G) ?_ m0
   ⟨0,[],#[],k0,_,H2,pinD (V4 I2 hsc hN0 ok T st2 f2 _ hCle old O) (I2.Pm.fresh (zc _)) hk0,st₁,λb l=>(f2 b l).1,.nil,w0⟩
  rintro n s3 ⟨i,P,j,k,σ3,H3,I3,st3,fr3,hv,w3⟩
  rcases turn i n P σ3 H3 w3 with⟨stop,qn⟩ | ⟨go,hsz,N,hN,step⟩
  ·refine thn (T.done (bQ X scope F.objs.size (bN N0 own t) f H2 fp) rfl rfl rfl hc i _ s3 σ3 H3 _ I3 (stat fr3) st3 stop) λr s4 ⟨hr,I4⟩=>?_
   subst hr;show RR _ _ (.ok .next) s4;obtain⟨hd4,U,_⟩:=I4.pin (f.heap.objs.size,{cls:=.type "list",data:=.seq j k}) (by simp[bQ]);dsimp only at hd4 U;obtain⟨m4,hns4,_⟩:=id I4.loc;have hns4':s4.heap.Ns F.objs.size m4:=hns4;obtain⟨oC,es,ep,hoC,rC⟩:=id hns4';have SO:F.objs.size≠f.heap.objs.size:=hDC.symm;have Pw:H3 F.objs.size=none:=I4.free;have hchC:gh X pins (DB H3 f.heap.objs.size (.lst P)) F.objs.size:=I2.Ql hCle (by rw[aH SO];exact Pw)
   have hlen:P.length=j.size:=by have e:=hv.length;simpa using e
   have I5:C5 X pins σ (DB H3 f.heap.objs.size (.lst P)) s4:=by
    refine I2.call' (ch:=fp) I4.os ⟨I4.base.keep,I4.base.slot,λb o e n hx=>?_,I4.base.there,λb xs e=>?_,λb o u e=>?_,λb ps e=>?_⟩ (λb u e=>?_) I4.bare λb l=>?_
    ·rw[aH (zt (zm e))];exact I4.base.free b o e n hx
    ·have q:=I4.base.Qr b xs e;rw[aH (cj q U)];exact q
    ·have q:=I4.base.P5 b o u e;rw[aH (cj q U)];exact q
    ·obtain⟨more,q⟩:=I4.base.QA b ps e;exact⟨more,by rw[aH (cj q U)];exact q⟩
    ·by_cases l:b=f.heap.objs.size
     ·subst l;rw[bG] at e;cases e;exact⟨hQsz P H3 qn,j.toList,k,hv,by simpa using hd4⟩
     ·rw[aH l] at e
      exact(I4.Pm b u e).P6 (λ_ _ _ q=>q) (λc q=>by rw[aH (cj q U)];exact q) λc xs q=>by rw[aH (cj q U)];exact q
    ·obtain⟨_,a2,_,a4,a5,a6⟩:=f2 b l;exact⟨a4,a2,a5,a6⟩
   refine hRR f.heap.objs.size F.objs.size oC P H3 s4 (I5.P2 λp hp=>?_) (λh e=>⟨m4,oC,es,ep,e,rC⟩) hchC U qn
   rcases zy.mp hp with z | z
   ·exact I5.pin p (zQ _ z)
   ·have e:p=(F.objs.size,oC):=by simpa using z
    subst e
    exact⟨hoC,hchC.1,hchC.2.1,hchC.2.2.1,λv z=>by
     have:=rC.1
     rw[this] at z;cases z⟩
  ·refine thn (T.item (bQ X scope F.objs.size (bN N0 own t) f H2 fp) rfl rfl rfl hc i _ s3 σ3 H3 _ I3 (stat fr3) st3 go) λr s4 ⟨u,hr,h4⟩=>?_
   subst hr
   refine thn h4 λ_ s5 ⟨x,H5,I5,r5,y5,st5,fr5⟩=>?_
   have I5':=I5.pinned (stat fr5) (T.obj _ _ st5)
   refine thn (hg _ _ _ _ _ s5 σ3 H5 x u _ I5' r5 (step x H5 y5)) λ_ s6 ⟨σ6,H6,I6,q6⟩=>?_
   refine thn (ht _ _ _ _ _ s6 σ6 H6 _ I6 q6) λb s7 ⟨H7,I7,q7⟩=>?_
   have keepT:∀{L:St}{G:Hp}{Z:Shared},C5 (bQ X scope F.objs.size (bN N0 own t) f H2 fp) ([(f.heap.objs.size,{cls:=.type "list",data:=.seq j k})]++qR fp s5.heap) L G Z->tn (i+1) Z.heap/\∀b∈fp,G b=none:=λ{L G Z} I'=>by
    refine⟨T.keep _ _ _ st5 λb l o e=>(I'.pin (b,o) (zQ _ (zQ _ (uq l e)))).1,λb l=>?_⟩;obtain⟨o,e,d⟩:=T.obj _ _ st5 b l;exact(I'.pin (b,o) (zQ _ (zQ _ (uq l e)))).2.1
   cases b with
   |false =>
    rw[if_neg zA] at q7 ⊢;obtain⟨m',hm,w7⟩:=hN _ _ _ q7;obtain⟨a,b⟩:=keepT I7;exact⟨m',hm,i+1,P,j,k,σ6,H7,I7.PF,a,b,hv,w7⟩
   |true =>
    rw[if_pos rfl] at q7 ⊢
    refine thn (he _ _ _ _ _ s7 σ6 H7 _ I7 q7) λv s8 ⟨y,H8,I8,r8,q8⟩=>?_
    obtain⟨m',hm,w8⟩:=hN _ _ _ q8;obtain⟨a,b⟩:=keepT I8;obtain⟨hd8,hn8,_⟩:=I8.pin (f.heap.objs.size,{cls:=.type "list",data:=.seq j k}) (by simp[bQ]);dsimp only at hd8 hn8
    have hl:j.size<=sizeLine:=by
     have e:=hv.length;simp at e;omega
    refine wpAny_list_append_plain (hsz:=hl) ⟨k,hd8⟩ λh9 hl9 hs9=>?_
    obtain⟨k9,hd9⟩:=hl9
    have I8':C5 (bQ X scope F.objs.size (bN N0 own t) f H2 fp) [] σ6 H8 s8:=I8.P2 λp hp=>absurd hp (by simp)
    have I9:C5 (bQ X scope F.objs.size (bN N0 own t) f H2 fp) [] σ6 H8 {s8 with heap:=h9}:=
     I8'.turned (t':=s8.toks) (it:=f.heap.objs.size) (λb o l e=>hs9.extBut b o l e) hn8 hDC (.inr (zc _)) notcell (λp hp=>absurd (show p∈([]:List (Addr×Obj)) from hp) (by simp))
    refine⟨m',hm,i+1,P++[y],j.push v,k9,σ6,H8,pinD I9 hn8 hd9,T.keep _ _ _ a λb l o e=>hs9.extBut b o (hDno b l).symm e,b,?_,w8⟩;rw[Array.toList_push];exact hv.append (.cons r8 .nil)
 exact codeAny_compStart_list (loop _ rfl) (T.self _ 0 _ _ _ st₁ (loop _ rfl))
def Gv{l:Pos} (i:Scope)(f own:List Str)(a:List Nat)(K:X.calm=true)(E:PI X tg iter wi)
  (F:∀C s H d,PG (bQ X scope C (bN f own a) s H d) tg g) (A:∀C s H d,lD (bQ X scope C (bN f own a) s H d) ifs tt) (G:∀C s H d,PE (bQ X scope C (bN f own a) s H d) elt te)
  (j:X.env.scope=i:=by rfl) (r:X.N=f:=by rfl) (c:lC i f scope own a=true:=by decide +kernel) (hs:∀x,foldedSetIterable iter X.env x=pure x:=by intro _;rfl):
  PE X (.ListComp elt [⟨tg,iter,ifs,0⟩] scope l) (uH wi own a g tt te):=by
 intro w s σ H Q I h;have c:=jW.of c;refine wpAny_comprehension_free rfl hs (Gp (yj I j c)) c.kind c.names (thn (E _ s σ H _ I h) λxv s1 U=>thn U λitv s2 R=>?_);obtain⟨it,fp,tn,J,H2,e,I2,T,k,f2,O⟩:=R;subst e
 refine Gu K I2 j r c F A G T k f2 O (λD C z y v s' u p t hD q=>?_) λy v q=>q.1
 obtain⟨P⟩:=u.pin (C,z) (by simp);obtain⟨m,B⟩:=p _ P;refine⟨m,B,λh' n=>⟨.ref D,DB v D _,?_,rfl,q.2 D hD⟩⟩;obtain⟨f0,f1,f2',Z,Y,W⟩:=t;exact u.PF.turned (λb o L e=>n.extBut b o L e) f0 f1 Z Y W
def Gw{d:Pos}(p:Scope)(l own:List Str)(a:List Nat)(hN:X.N.Nodup)(R:X.N[i]?=some x)(Z:HI X.env.scope x)(hc:X.calm=true)(hi:PI X tg iter wi)
  (hg:∀C s H k,PG (bQ X scope C (bN l own a) s H k) tg g) (U:∀C s H k,lD (bQ X scope C (bN l own a) s H k) ifs tt) (he:∀C s H k,PE (bQ X scope C (bN l own a) s H k) elt te)
  (z:swapsWith (.ListComp elt [⟨tg,iter,ifs,0⟩] scope pos) (some (.Name x pos')) d.line X.env=pure true:=by rfl)
  (hf:X.fn x=true\/X.env.scope.names.lookup x=some .local:=by first | exact .inl rfl | exact .inr rfl | assumption)
  (r:X.env.scope=p:=by rfl) (F:X.N=l:=by rfl) (f:lC p l scope own a=true:=by decide +kernel) (hs:∀x,foldedSetIterable iter X.env x=pure x:=by intro _;rfl):
  PS X (.Assign [.Name x pos'] (.ListComp elt [⟨tg,iter,ifs,0⟩] scope pos) d) (qQ (uH wi own a g tt te) (qP i)):=by
 intro c s σ H D I h;have f:=jW.of f;rw[exec_Assign_Name_used _ _ _ _ z];refine za (wpAny_standAt (za ?_));show wpAny _ X.A (do let _ <-comprehension (.ListComp elt [⟨tg,iter,ifs,0⟩] scope pos) scope X.env _ (newList []) false (eval iter X.env) (some (assign (.Name x pos') X.env))) _ _ s
 refine za (zV (wpAny_comprehension_free (use:=some (assign (.Name x pos') X.env)) (Q:=λ_ j=>SP X c D .next j) rfl hs (Gp (yj I r f)) f.kind f.names
  (thn (hi c s σ H _ I h) λxv s1 h1=>thn h1 λitv s2 h2=>?_)) (λ_ j W=>zb (zb W)) λ_ _ e=>e)
 obtain⟨it,fp,tn,J,H2,e,I2,T,u,f2,hW⟩:=h2;subst e
 refine Gu (RR:=λK C=>compPost (model X.prog X.w) X.A X.xe (some (assign (.Name x pos') X.env)) (λ_ j=>SP X c D .next j) K C) hc I2 r F f hg U he T u f2 hW (λn C P L O j I' E G hD q=>?_) λL O q=>q.1
 show wpAny _ X.A (assign (.Name x pos') X.env (.ref n)) _ _ _;refine wpAny_assign_Name (xu (v:=.ref n) I' hN R Z rfl (λy t=>?_) hf);obtain⟨hC,hCn,_⟩:=t.pin (C,P) (by simp);obtain⟨m,Y⟩:=E _ hC;refine⟨m,Y,λh' B=>⟨σ.set i (some (.ref n)),DB O n (.lst L),?_,q.2 n hD⟩⟩;obtain⟨f0,f1,f2',f3,f4,f5⟩:=G;exact t.PF.turned (t':=y.toks) (it:=C) (λb o hb e=>B.extBut b o hb e) f0 f1 f3 f4 f5
inductive GL (P:Program) (w:World) (K:PySem.W.Frag) (mg:Str->Option Value) (base:Heap) (x:Str) (ps:List Str) (k:Nat) (sp:Sp):Prop
 | mk:∀f fd,mg x=some (.ref f)->PySem.W.keepIn K (.ref f)=true->DU K fd ps []->cX P w K mg base FA k f fd ps sp->(∃oc od osl,K.lookup f=some ⟨oc,od,.func fd,osl⟩)->GL P w K mg base x ps k sp
def DZ(K:PySem.W.Frag)(a:Str->Option Value)(x:Str)(st:Stmt):Prop:=∃f b,a x=some (.ref f)/\HK K x x st f b
def DZ.can{K:PySem.W.Frag} {st:Stmt} (D:DZ K C x st)(S:eV N z (aQ st))
  (p:∀(kV i j:Value)(u:Option Addr)(b r:Value)(e:List Value),e.length=z.length->bindArgs (PySem.W.fnOf x x (dq st) (cD st) (aQ st) .none kV i j u b r) ⟨e,[]⟩=pure (z.zip e))
  (len:∀c H Q E,B c H Q E->c.length=z.length)
  (d:∀(f:Addr)(b:Value)(A:Around)(a:List Env)(s:Shared)(H:Hp)(c:List V)(Q:VK)(E:XK),aY k (A.deeper (envOfC x (aQ st) s.heap.objs.size f b))->B c H Q E ->
   ∃t,Fs (gD FA P w K C y N x (aQ st) f b A a s H E).QQ (cD st) t/\t {nx:=λ_ v=>Q .Pl v,rt:=Q} (start N c) H):GL P w K C y x z (k+1) B:=by
 obtain⟨f,q,o,F⟩:=D;obtain⟨m,l,_,_,_,_,_,_,g,_,lk,_⟩:=F.ex;exact⟨f,q,o,F.kp,F.binds p,F.ok S len λb A a s H c Q E n h=>d f b A a s H c Q E n h,m,l,g,lk⟩
def V5{p a:Pos}(C:GL X.prog X.w X.K X.mg X.base x r k q)(d:aY k X.A)(m:PA X (e::o) t)(i:Gl X x:=by rfl)(c:SV x:=by decide)
  (j:SW X.env e o:=by rfl) (b:SY X.env a o:=by rfl):
  PE X (.Call (.Name x p) (e::o) [] a) (qY q [] E0 t):=by
 obtain⟨f,n,g,h,l,F,_⟩:=C;exact Fw F d i g h l .nil lz m c j b
def V6{p a:Pos}(C:GL X.prog X.w X.K X.mg X.base x l k j)(c:aY k X.A)(g:Gl X x:=by rfl)(b:SV x:=by decide):
  PE X (.Call (.Name x p) [] [] a) (qY j [] E0 qX):=by
 obtain⟨f,i,d,e,h,F,_⟩:=C;exact Ux F c g d e h .nil lz b
def Dx.PY{K:PySem.W.Frag} (e:Dx H c)(h:ER K H a b):ER K c a b:=by
 rcases h with(h | ⟨o,h⟩) | h
 ·exact .inl (.inl (e _ _ h))
 ·exact .inl (.inr ⟨o,e _ _ h⟩)
 ·exact .inr h
mutual
def Rep(K:PySem.W.Frag)(H:Hp):V->PyData->Prop
 |v,.none=>v=.Pl
 |v,.bool b=>v=.bl b
 |v,.int i=>v=.int i
 |v,.str x=>v=.str x
 |v,.list ds=>∃a c,v=.ref a/\Ee K H a c/\b8 K H c ds
 |v,.tuple ds=>∃a c,v=.ref a/\ER K H a c/\b8 K H c ds
 | _,.dict _=>False
def b8(K:PySem.W.Frag)(H:Hp):List V->List PyData->Prop
 |xs,[]=>xs=[]
 |xs,d::ds=>∃x r,xs=x::r/\Rep K H x d/\b8 K H r ds
end
mutual
theorem Rep.mono{K:PySem.W.Frag} (e:Dx H H'):∀(d:PyData){v:V},Rep K H v d->Rep K H' v d
 | .none,v,h=>by exact h
 | .bool b,v,h=>by exact h
 | .int i,v,h=>by exact h
 | .str x,v,h=>by exact h
 | .list ds,v,h=>by
  obtain⟨a,c,j,g,f⟩:=h;exact⟨a,c,j,e.seq g,b8.mono e ds f⟩
 | .tuple ds,v,h=>by
  obtain⟨a,c,j,g,f⟩:=h;exact⟨a,c,j,e.PY g,b8.mono e ds f⟩
 | .dict _,v,h=>by exact h.elim
theorem b8.mono{K:PySem.W.Frag}{H c:Hp}(e:Dx H c):∀(b:List PyData){a:List V},b8 K H a b->b8 K c a b
 | [],a,h=>by rw[b8] at h ⊢;exact h
 |d::b,a,h=>by
  rw[b8] at h ⊢;obtain⟨x,r,i,g,f⟩:=h;exact⟨x,r,i,Rep.mono e d g,b8.mono e b f⟩
end
def b8.nil{K:PySem.W.Frag}:b8 K H [] []:=by rw[b8]
def b8.cons{K:PySem.W.Frag}{H:Hp}{x:V}{a:List V}{d:PyData}{ds:List PyData}(h:Rep K H x d)(hs:b8 K H a ds):b8 K H (x::a) (d::ds):=by
 rw[b8];exact⟨x,a,rfl,h,hs⟩
mutual
theorem Rep.reads{c:List (Addr×Obj)}{σ:St}{H:Hp}{s:Shared}(I:C5 X c σ H s):∀(d:PyData){v:V}{u:Value},Rep X.K H v d->C6 v u->∃y,Reads s.heap u d y
 | .none,v,u,h,r=>by subst h;cases(r);exact⟨_,.none⟩
 | .bool b,v,u,h,r=>by subst h;cases(r);exact⟨_,.bool b⟩
 | .int i,v,u,h,r=>by subst h;obtain⟨t,rfl⟩:=(r);exact⟨_,.int i t⟩
 | .str x,v,u,h,r=>by subst h;obtain⟨t,rfl⟩:=(r);exact⟨_,.str x t⟩
 | .list ds,v,u,h,r=>by
  obtain⟨a,w,rfl,m,l⟩:=h;cases(r);obtain⟨p,e,f,_⟩:=I.list m;obtain⟨q⟩:=b8.reads I ds l e;obtain⟨o,g,k,n,j⟩:=f.isList;exact⟨_,.list g k j (by simpa)⟩
 | .tuple ds,v,u,h,r=>by
  obtain⟨a,w,rfl,m,l⟩:=h;cases(r);obtain⟨p,e,f,_⟩:=I.tuple m;obtain⟨q⟩:=b8.reads I ds l e;obtain⟨o,g,k,n,j⟩:=f;exact⟨_,.tuple g k j (by simpa)⟩
 | .dict _,v,u,h,r=>by exact h.elim
theorem b8.reads(I:C5 X pins σ H s):∀(c:List PyData){a:List V}{b:List Value},b8 X.K H a c->aJ a b->∃e,ReadsAll s.heap b c e
 | [],a,b,h,r=>by rw[b8] at h;subst h;cases r;exact⟨_,.nil⟩
 |d::c,a,b,h,r=>by
  rw[b8] at h;obtain⟨x,rest,rfl,i,g⟩:=h
  cases r with
  |cons r1 r2 =>
   obtain⟨e,q⟩:=Rep.reads I d i r1;obtain⟨j,f⟩:=b8.reads I c g r2;exact⟨_,.cons q f⟩
end
def GW(d:PyData):Bool:=d.canLay0&&decide (d.depth<=60)
def Gx(K:PySem.W.Frag)(a:Bool):R2:=λx y H Q=>∃d e,Rep K H x d/\Rep K H y e/\GW d=true/\GW e=true/\Q (.bl (if a then !PyData.eqv d e else PyData.eqv d e)) H
def V7(l:aY k X.A):EB X (compareOp .Eq) (Gx X.K false):=by
 intro c s σ H x y v u Q I g f h;obtain⟨d,e,n,m,b,a,q⟩:=h;obtain⟨p,j⟩:=Rep.reads I d n g;obtain⟨o,i⟩:=Rep.reads I e m f;unfold GW at b a;simp at b a;exact SeqAt.compareEq_reads j i b.1 a.1 (by have:=l.units;omega) ⟨.bl _,H,I,rfl,q⟩
def V8(l:aY k X.A):EB X (compareOp .NotEq) (Gx X.K true):=by
 intro c s σ H x y v u Q I g f h;obtain⟨d,e,n,m,b,a,q⟩:=h;obtain⟨p,j⟩:=Rep.reads I d n g;obtain⟨o,i⟩:=Rep.reads I e m f;unfold GW at b a;simp at b a;exact SeqAt.compareNe_reads j i b.1 a.1 (by have:=l.units;omega) ⟨.bl _,H,I,rfl,q⟩
def S(l:List Nat):Str:=⟨l.toArray⟩
def iB(l:List Nat):(S l).cps.toList=l:=by simp[S]
def fO(l:List Nat):(S l).length=l.length:=by simp[S,Str.length]
def V9(x:Str):S x.cps.toList=x:=by simp[S]
def Wa(a b:List Nat):S a++S b=S (a++b):=by
 show Str.mk _=Str.mk _;simp[S]
def q9(h:S a=S b):a=b:=by have:=congrArg (λx =>x.cps.toList) h;simpa [iB]
def Wb:EB X (compareOp .LtE) (λx y H Q=>∃i j,x=.str i/\y=.str j/\Q (.bl (!decide (j.cps.toList<i.cps.toList))) H):=by
 intro a s σ H x y v u Q I c b h;obtain⟨i,j,rfl,rfl,q⟩:=h;obtain⟨t,rfl⟩:=c;obtain⟨d,rfl⟩:=b;exact P.le_str ⟨.bl _,H,I,rfl,q⟩
def Wc:EB X (compareOp .In) (λx y H Q=>∃c l,x=.str (S [c])/\y=.str (S l)/\Q (.bl (decide (c∈l))) H):=by
 intro a s σ H x y v u Q I d b h;obtain⟨c,l,rfl,rfl,q⟩:=h;refine TY a s σ H _ _ v u Q I d b ⟨S [c],S l,rfl,rfl,?_⟩;have e:=PySem.StrLaws.found_one (S l) c;rw[iB] at e;show Q (.bl (!(Builtin.Str.occurrences (S l) (S [c]) 0 (S l).length 1).isEmpty)) H;rw[show S [c]=⟨#[c]⟩ from rfl,e];exact q
def ME(l:List Nat):It:=⟨λi _=>i<l.length,λi H x a=>a=H/\∃c,l[i]?=some c/\x=.str (S [c]),λi _=>l.length<=i⟩
def Wd{K:PySem.W.Frag} (l:List Nat)(it:Addr)(t:Tok):EO P w K tg (ME l) [it] it (λi h=>h.IsStrIter it "str_ascii_iterator" (S l) t i) where
 mem:=by simp
 obj:=λi h st b hb=>by
  have e:b=it:=by simpa using hb
  subst e;obtain⟨o,e,c,d⟩:=st;exact⟨o,e,λv z=>by rw[d] at z;cases z⟩
 keep:=λi h h' st k=>let ⟨o,ho,r⟩:=st;⟨o,k it (by simp) o ho,r⟩
 item:=by
  intro X hP hw hK hc i pins s σ H E I hf st hg;subst hP hw hK;obtain⟨f0,f1,f2,f3,f4,f5⟩:=hf it (by simp);have hg':i<l.length:=hg
  refine wpAny_pyNext_ascii_item st (c:=l[i]) (by simp[S,hg']) λh' st' sb=>?_
  have I1:C5 X pins σ H {s with heap:=h',toks:=s.toks+1}:=I.turned (λb o hb e=>(sb.2 b hb).trans e) f0 f1 f3 f4 f5;obtain⟨o,e,c,d⟩:=id st';exact⟨_,rfl,oN (s:={s with heap:=h',toks:=s.toks+1}) e c d (by decide) ⟨.str (S [l[i]]),H,I1,⟨_,rfl⟩,⟨rfl,l[i],by simp[hg'],rfl⟩,st',λb hb=>(hf b hb).1⟩⟩
 done:=by
  intro X hP hw hK hc i pins s σ H E I hf st hg;subst hP hw hK;obtain⟨f0,f1,f2,f3,f4,f5⟩:=hf it (by simp);have hg':l.length<=i:=hg
  exact wpAny_pyNext_ascii_end (I.ok.hd hc) st (by simp[S,hg']) λh' eb=>⟨rfl,I.turned (t':=s.toks) (λb o hb e=>eb b o hb e) f0 f1 f3 f4 f5⟩
 self:=λ_ _ _ _ _ st h=>wpAny_pyIter_striter_ascii st h
def DH(l:List Nat):Bool:=l.all (· < 128)
def We(a:TE):TI:=λσ H R=>a σ H λx b=>∃l,x=.str (S l)/\DH l=true/\R (ME l) b
def Wf(c:PE X e g):PI X i e (We g):=by
 intro a s σ H R I h
 refine thn (c _ s σ H _ I h) λv s1 ⟨x,H1,I1,r1,q1⟩=>?_
 obtain⟨l,e,f,q⟩:=q1;subst e;obtain⟨t,rfl⟩:=r1;refine wpAny_pyIter_ascii (by simpa [S,DH] using f) ?_;refine⟨s1.heap.objs.size,[s1.heap.objs.size],_,_,H1,rfl,I1.kept λb o e=>zq _ e,Wd l _ t,⟨_,zD _ rfl,rfl,rfl⟩,λb d=>?_,q⟩
 have e :=by simpa using d
 subst e;exact I1.Ql (zc _) (I1.Pm.fresh (zc _))
def Wg(E:X.calm=true):gj X (.builtin "all") (λm H Q=>∃(a:Addr)(d:List Bool),m=[.ref a]/\Ee X.K H a (d.map V.bl)/\Q (.bl (d.all id)) H):=by
 intro w s σ H m J Q I r h;obtain⟨a,d,rfl,G,q⟩:=h;obtain⟨u,rfl,j⟩:=DT r;cases j;obtain⟨c,g,p,N⟩:=I.list G;refine call_all_walk (wpAny_pyIter_list p.isList ?_);have l:a≠s.heap.objs.size:=zt (zm p.isList.choose_spec.1)
 refine⟨s.heap.objs.size,_,_,c.toArray.size,_,_,λi=>d.getD i true,rfl,Walks.list (A:=X.A.in1) (I.ok.hd E) s.heap.objs.size a l c.toArray,
  ⟨⟨_,zD _ rfl,rfl,rfl⟩,p.isList.at λo e=>zq _ e⟩,λi v L P R n B=>?_,λO tk C=>?_⟩
 ·have F:(d.map V.bl)[i]?=some (V.bl (d.getD i true)):=by
   have f:i<c.length:=by
    have z:=Array.getElem?_eq_some_iff.mp n;simpa using z.1
   have k:=g.length;rw[ze] at k;rw[zH,zB (by omega),jt,zB (by omega)];rfl
  obtain⟨u,t,j⟩:=g.get F
  have hv':c[i]?=some v:=by simpa using n
  rw[hv'] at t;cases t;cases(show v=.bool _ from j);exact wpAny_truthy_bool B
 ·refine⟨.bl (d.all id),H,I.kept λb o e=>C b o (λz=>?_) (zq _ e),?_,q⟩
  ·have z':b=s.heap.objs.size:=by simpa using z
   exact absurd (zm e) (by rw[z'];exact zW _)
  ·have k:c.length=d.length:=by have:=g.length;rw[ze] at this;exact this.symm
   have e:(List.range c.toArray.size).all (λi=>d.getD i true)=d.all id:=by
    rw[zK,k];rw[Bool.eq_iff_iff,jm,jm];constructor
    ·intro h x y;obtain⟨i,f,rfl⟩:=List.mem_iff_getElem.mp y
     have:=h i (List.mem_range.mpr f)
     rw[jt,zB f] at this;exact this
    ·intro h i f;have hi':=List.mem_range.mp f;rw[jt,zB hi'];exact h _ (jh hi')
   show Value.bool _=Value.bool _;rw[e]
structure OR(mg:Str->Option Value):Prop where
 len_:mg "len" = none
 isinstance_:mg "isinstance" = none
 all_:mg "all" = none
 sum_:mg "sum" = none
 max_:mg "max" = none
 min_:mg "min" = none
 int_:mg "int" = none
 str_:mg "str" = none
 bool_:mg "bool" = none
 list_:mg "list" = none
 tuple_:mg "tuple" = none
 dict_:mg "dict" = none
 range_:mg "range" = none
 enumerate_:mg "enumerate" = none
 zip_:mg "zip" = none
def Gy{a:Pos}(h:∃u,X.mg x=some u/\C6 v u)(c:Gl X x:=by rfl)(d:SV x:=by decide):PE X (.Name x a) (tC v):=by
 obtain⟨u,b,r⟩:=h;exact Rx c b r d
def cI{α:Type}(l:List α)(lo a:Option Int):List α:=(l.drop (HT.sIx l.length 0 lo)).take (HT.sIx l.length l.length a - HT.sIx l.length 0 lo)
def Wh(l:List Nat)(lo a:Option Int):Txt.slice (S l) lo a=S (cI l lo a):=by
 obtain⟨b,d,c⟩:=Gb lo a _
 have e:Builtin.Str.strSliceIndices lo a 1 (S l).length=(List.range (HT.sIx l.length l.length a - HT.sIx l.length 0 lo)).map (HT.sIx l.length 0 lo + ·):=by
  show sliceRange (sliceBounds lo a none l.length).1 (sliceBounds lo a none l.length).2.1 (sliceBounds lo a none l.length).2.2=_;rw[b,d,c,sliceRange_one]
 unfold Txt.slice;rw[e,pick_run]
 split
 ·rename_i h
  have j :=by simpa [fO] using h
  have i:HT.sIx _ _ a<=l.length:=HT.sIx_le _ _ (zc _) a;have g:HT.sIx _ 0 lo<=l.length:=HT.sIx_le _ _ (Nat.zero_le _) lo
  have f:HT.sIx l.length 0 lo=0:=by omega
  have b:HT.sIx l.length l.length a=l.length:=by omega
  unfold cI;rw[f,b];simp
 ·rfl
def Wi:V->Option Int->Option Int->Hp->VK->Prop:=λx lo a H Q=>∃l,x=.str (S l)/\l.length<=sizeLine/\Q (.str (S (cI l lo a))) H
def FX(p:IsPart v o):∃q:Option (Int×Tok),v=partValue q/\q.map (·.1)=o:=by
 cases p with
 |none=>exact⟨none,rfl,rfl⟩
 |int i t=>exact⟨some (i,t),rfl,rfl⟩
def Wj:JO X Wi:=by
 intro d s σ H x v o n lo b p Q I e hs g f h;obtain⟨l,rfl,i,q⟩:=h;obtain⟨t,rfl⟩:=e;obtain⟨u,rfl,m⟩:=FX g;obtain⟨r,rfl,j⟩:=FX f;refine⟨"str",_,F.slot_str_getitem.lookup,typeIs_str _ _ _,?_⟩;refine wpAny_getItem_str_slice (st:=none) hs rfl ?_;unfold sliceMade slicePicked;rw[m,j];refine post_val_or_str ⟨?_,λa k=>?_⟩
 ·exact zJ (Txt.slice_le _ _ _) (by exact i)
 ·have c:=Wh;unfold Txt.slice at c;show EP X _ σ Q (.str (if(1 == 1&&(Builtin.Str.strSliceIndices lo b 1 _).length == (S l).length)=true then S l else⟨((Builtin.Str.strSliceIndices lo b 1 _).filterMap _).toArray⟩) a) _;rw[c];exact⟨.str _,H,I.tok k,⟨a,rfl⟩,q⟩
namespace HT2
def getItem_tuple_whole{lo:Option Int} (a:IsTup s.heap t items)(hs:s.heap.IsSliceOf n p o .none)(j:IsPart p lo)(i:IsPart o m)
  (f:HT.sIx items.size 0 lo=0/\HT.sIx items.size items.size m=items.size) (h:Q (.ref t) s):wpAny (model l w) A (getItem (.ref t) (.ref n)) Q E s:=by
 obtain⟨os,c,d,k⟩:=id hs;have e:s.TypeIs (.ref n) "slice":=⟨os,c,d⟩;unfold getItem
 try with_reducible refine zS ?_
 refine za (wpAny_sequenceKey a.typeIs (by decide) ?_)
 refine za (wpAny_callSpecial?_slot a.typeIs PyProof.Rows.slot_tuple_getitem
  (wpAny_call_entry PyProof.Rows.slot_tuple_getitem a.typeIs entry_tuple_getitem ?_))
 show wpAny _ _ (Builtin.Tuple.tupleItemsOf (.ref t) >>= _) _ _ s;refine za (tupleItemsOf_ a ?_);refine za (wpAny_typeOf e ?_);refine za (HT.sliceApplied_gen hs j i ?_)
 have b:(((HT.sIx items.size 0 lo:Nat):Int) == 0&&(1:Int) == 1&&(HT.sIx items.size items.size m - HT.sIx items.size 0 lo) == items.size)=true:=by
  rw[f.1,f.2];simp
 show wpAny _ _ (if(((HT.sIx _ 0 lo:Nat):Int) == 0&&(1:Int) == 1&&(HT.sIx _ _ m - HT.sIx _ 0 lo) == items.size)=true then _ else _) _ _ s;rw[if_pos b]
 have hex:∀{g:Around}{E'}{Q'},Q' true s->wpAny (model l w) g (Builtin.Tuple.tupleIsExact (.ref t)) Q' E' s:=λ{g E' Q'} hq=>by
  exact za (wpAny_typeOf a.typeIs (zb hq))
 refine za (hex ?_);exact za (zZ (zb ⟨_,rfl,zb h⟩))
end HT2
def Wk(K:PySem.W.Frag):V->Option Int->Option Int->Hp->VK->Prop:=λx lo c H Q=>∃a b,x=.ref a/\ER K H a b /\
 ((HT.sIx b.length 0 lo=0/\HT.sIx b.length b.length c=b.length)->Q (.ref a) H)/\(¬(HT.sIx b.length 0 lo=0/\HT.sIx b.length b.length c=b.length)->∀p,H p=none->Q (.ref p) (DB H p (.tup (mQ b lo c))))
def Wl(K:PySem.W.Frag)(u:X.K=K:=by rfl):JO X (Wk K):=by
 subst u;intro m s σ H x v o n lo l p Q I f hs i g h;obtain⟨a,b,rfl,j,t,q⟩:=h
 by_cases d:HT.sIx b.length 0 lo=0/\HT.sIx b.length b.length l=b.length
 ·cases f;obtain⟨e,r,k,w⟩:=I.tuple j
  have c:e.toArray.size=b.length:=by exact r.length.symm
  exact⟨"tuple",_,PyProof.Rows.slot_tuple_getitem.lookup,k.typeIs,HT2.getItem_tuple_whole k hs i g (by rw[c];exact d) ⟨.ref a,H,I,rfl,t d⟩⟩
 ·exact U7 _ s σ H _ v o n lo l p Q I f hs i g ⟨a,b,rfl,j,d,q d⟩
inductive H0 (K:PySem.W.Frag) (H:Hp):V->String->Prop where
 | Pl:H0 K H .Pl "NoneType"
 | bl (x:Bool):H0 K H (.bl x) "bool"
 | int (i:Int):H0 K H (.int i) "int"
 | str (x:Str):H0 K H (.str x) "str"
 | lst {a:Addr}{xs:List V} (e:Ee K H a xs):H0 K H (.ref a) "list"
 | tup {a:Addr}{xs:List V} (e:ER K H a xs):H0 K H (.ref a) "tuple"
 | dK {a:Addr}{kvs:List (DC×V)} (e:H a=some (.dK kvs)):H0 K H (.ref a) "dict"
def Wm(K:PySem.W.Frag):List V->Hp->VK->Prop:=λa H Q=>∃x n t b,a=[x,.ty n]/\H0 K H x t/\PySem.W.kitOne K (.type t) (.type n)=some b/\Q (.bl b) H
def Wn(K:PySem.W.Frag)(w:X.K=K:=by rfl):gj X (.builtin "isinstance") (Wm K):=by
 subst w;intro l s σ H k A Q I r h;obtain⟨x,n,t,b,rfl,m,e,q⟩:=h;obtain⟨u,c,rfl,d,v⟩:=Ic r;cases(v)
 have fin:∀tk,EP X _ σ Q _ _:=λtk=>⟨.bl b,H,I.tok tk,rfl,q⟩
 cases m with
 |Pl=>exact qW I d .Pl e fin
 |bl y=>exact qW I d (.bl y) e fin
 |int i=>exact qW I d (.int i) e fin
 |str y=>exact qW I d (.str y) e fin
 | @lst a k ea =>
  cases(d);obtain⟨j,_,p,_⟩:=I.list ea;obtain⟨o,f,g,_⟩:=p.isList;exact PySem.W.kia_one PySem.W.kitx_list I.PR ⟨o,f,g⟩ e (λz=>nomatch z) fin
 | @tup a k ea =>
  cases(d);obtain⟨j,_,p,_⟩:=I.tuple ea;obtain⟨o,f,g,_⟩:=p;exact PySem.W.kia_one PySem.W.kitx_tuple I.PR ⟨o,f,g⟩ e (λz=>nomatch z) fin
 | @dK a kvs ea=>exact qW I d (.dK ea) e fin
def Wo(K:PySem.W.Frag)(n:String):PySem.W.kitOne K (.type n) (.type n)=some true:=by
 unfold PySem.W.kitOne;rw[if_pos (beq_self_eq_true _)]
theorem uI:∀{ds:List PyData},(∀d∈ds,d.canLay0=true)->PyData.canLayAll0 ds=true
 | [],_=>rfl
 |d::ds,h=>by rw[PyData.canLayAll0,h d zd,uI λx a=>h x (zl _ a)];rfl
theorem uJ:∀{ds:List PyData},(∀d∈ds,d.depth<=n)->PyData.depthAll ds<=n
 | [],_=>by exact Nat.zero_le _
 |d::ds,h=>by
  exact Nat.max_le.mpr ⟨h d zd,uJ λx a=>h x (zl _ a)⟩
def Wq(b:n<60) (h:∀d∈c,d.canLay0=true/\d.depth<=n):GW (.list c)=true:=by
 unfold GW;rw[zC];refine⟨?_,zw ?_⟩
 ·exact uI λd a=>(h d a).1
 ·show PyData.depthAll c+1<=60
  have:=uJ λd a=>(h d a).2
  omega
theorem Gz:∀{b:List (List Nat)}{a:List Value},aJ (b.map λl=>V.str (S l)) a->StrsAre a (b.map S)
 | [],a,r=>by rw[zY] at r;cases r;exact .nil
 |l::b,a,r=>by
  rw[zh] at r
  cases r with
  |cons r1 r2 =>
   obtain⟨t,e⟩:=r1;subst e;exact .cons _ t (Gz r2)
theorem GC:∀(b:List (List Nat))(a:Array Nat),(b.map S).foldl (λc p=>c++(S []).cps++p.cps) a=a++b.flatten.toArray
 | [],a=>by simp
 |l::b,a=>by
  rw[zh,List.foldl_cons,GC b];simp[S]
def Wr(a:List (List Nat)):Txt.join (S []) (a.map S)=S a.flatten:=by
 show Builtin.Str.glued (S []) (a.map S)=_;unfold Builtin.Str.glued
 cases a with
 |nil=>rfl
 |cons l a =>
  show Str.mk ((a.map S).foldl (λb p=>b++(S []).cps++p.cps) (S l).cps)=_;rw[GC];simp[S]
def Kj(K:PySem.W.Frag):V->List V->Hp->VK->Prop:=λx b H Q=>∃(p:Addr)(a:List (List Nat)),x=.str (S [])/\b=[.ref p]/\Ee K H p (a.map λl=>V.str (S l))/\(a.map List.length).sum<=1000000/\Q (.str (S a.flatten)) H
def Ws(K:PySem.W.Frag)(n:X.K=K:=by rfl):JU X "str.join" (Kj K):=by
 subst n;intro b s σ H x r v w Q I d i h;obtain⟨p,a,rfl,rfl,m,y,q⟩:=h;obtain⟨t,rfl⟩:=d;obtain⟨u,rfl,g⟩:=DT i;cases g;obtain⟨o,f,j,_⟩:=I.list m
 refine join_list j.isList (ys:=a.map S) (by simpa using Gz f) ?_ λc k=>⟨.str (S a.flatten),H,I.tok k,⟨c,?_⟩,q⟩
 ·have e:((a.map S).map (·.length)).sum=(a.map List.length).sum:=by
   rw[zL];exact congrArg List.sum (ja λl _=>fO l)
  rw[e,fO];simp only[jd,Nat.mul_zero];omega
 ·rw[Wr]
def Wt:V->List V->Hp->VK->Prop:=λx a H Q=>∃l m,x=.str (S l)/\a=[.str (S m)]/\Q (.bl (decide (l.take m.length=m))) H
def Wu(l m:List Nat):Txt.startswith (S l) (S m)=decide (l.take m.length=m):=by
 unfold Txt.startswith;rw[StrLaws.subAt_eq,iB,iB,fO,fO,List.drop_zero,Bool.eq_iff_iff,zC,decide_eq_true_eq,decide_eq_true_eq,beq_iff_eq];constructor
 ·exact λh=>h.2
 ·intro h;refine⟨?_,h⟩
  have:=congrArg List.length h
  rw[List.length_take] at this;omega
def Wv:R2:=λx y H Q=>∃(l:List Nat)(n:Int),x=.str (S l)/\y=.int n/\-1000000<n/\n<1000000/\l.length * n.toNat<=16777216/\Q (.str (S (List.replicate n.toNat l).flatten)) H
theorem GD(l:List Nat):∀(n:Nat)(a:Array Nat),(List.replicate n (S l).cps).foldl (· ++ ·) a=a++(List.replicate n l).flatten.toArray
 | 0,a=>by simp
 |n+1,a=>by
  rw[List.replicate_succ,List.foldl_cons,GD l n,List.replicate_succ,List.flatten_cons];simp[S]
def Ww:EB X (binaryOp .Mult) Wv:=by
 intro b s σ H x y v u Q I d c h;obtain⟨l,n,rfl,rfl,A,w,r,q⟩:=h;obtain⟨t,rfl⟩:=d;obtain⟨m,rfl⟩:=c;have hs:sizeLine=16777216:=sizeLine_eq
 by_cases i:n<1
 ·have k:n.toNat=0:=by omega
  rw[k] at q;exact P.mul_str_none i (by omega) ⟨.str (S []),H,I.tok _,⟨s.toks,rfl⟩,q⟩
 refine P.mul_str ?_ (λ_ _=>?_) (λ_ _=>?_) ?_
 ·rw[zo (by omega),zo (by omega)];rfl
 ·rw[fO];intro f
  have p:(l.length:Int) * n<=16777216:=by
   have:((l.length * n.toNat:Nat):Int)<=16777216:=by omega
   rw[Int.natCast_mul,Int.toNat_of_nonneg (by omega)] at this;exact this
  have j:(2 ^ 63 - 1) / n<(l.length:Int):=f;have o:=(Int.ediv_lt_iff_lt_mul (show 0<n by omega)).mp j;omega
 ·rw[fO];unfold Builtin.Str.tooLong;exact zo (by omega)
 ·rw[if_neg (by omega)]
  by_cases a:(n == 1 || (S l).length == 0)=true
  ·rw[if_pos a]
   have e:(List.replicate n.toNat l).flatten=l:=by
    rw[Bool.or_eq_true,beq_iff_eq,beq_iff_eq,fO] at a
    rcases a with z | z
    ·rw[z];show(List.replicate 1 l).flatten=l;simp
    ·have z':=List.eq_nil_of_length_eq_zero z;subst z';rw[List.flatten_eq_nil_iff];intro x g;exact(List.mem_replicate.mp g).2
   rw[e] at q;exact⟨.str (S l),H,I,⟨t,rfl⟩,q⟩
  ·rw[if_neg a,GD];refine⟨?_,.str (S (List.replicate n.toNat l).flatten),H,I.tok _,⟨s.toks,?_⟩,q⟩
   ·show(#[]++(List.replicate n.toNat l).flatten.toArray).size<=sizeLine;simp only[Array.size_append,zK,List.length_flatten,List.map_replicate,List.sum_replicate_nat];simp;rw[Nat.mul_comm];omega
   ·congr 1;simp[S]
def Wx:JU X "str.startswith" Wt:=by
 intro a s σ H x e v f Q I b d h;obtain⟨l,m,rfl,rfl,q⟩:=h;obtain⟨t,rfl⟩:=b;obtain⟨u,rfl,c⟩:=DT d;obtain⟨g,rfl⟩:=c;exact SC.startswith ⟨.bl _,H,I,rfl,by rw[Wu];exact q⟩
inductive D where
 | Pl | bl (b:Bool) | int (i:Int) | str (l:List Nat) | lst (ds:List D) | tup (ds:List D) | QP (ks vs:List D) | ob (n:Nat)
inductive Ob where
 | ins (c:Str) (fs:List (Str×D))
 | ml (ds:List D)
 | dt (kvs:List (List DC×D))
 | df (kvs:List (List DC×D))
 | dk (kvs:List (DC×D))
 | kf (kvs:List (DC×D))
 | xc (c:Str) (fs:List (Str×D))
 | gone
 | dn (kvs:List (NK×D))
 | nf (kvs:List (NK×D))
abbrev au:=List Ob
abbrev aN:=List (Option D)
structure Xc where
 cls:Str
 fs:List (Str×D)
inductive C8 (α:Type) where
 | ok (a:α) (O:au) | ex (x:Xc) (O:au) | no
inductive Fl where
 | nx (ρ:aN) (O:au) | rt (d:D) (O:au) | bk (ρ:aN) (O:au) | ct (ρ:aN) (O:au) | ex (x:Xc) (O:au) | no
abbrev M(α:Type):=aN->au->C8 α
abbrev MS:=aN->au->Fl
def C8.bind(r:C8 α)(f:α->au->C8 β):C8 β:=match r with
 | .ok a O=>f a O
 | .ex x O=>.ex x O
 | .no=>.no
def C8.Pi{r:C8 α}{f:α->au->C8 β}{b:β} (h:r.bind f=.ok b O'):∃a O,r=.ok a O/\f a O=.ok b O':=by
 cases r with
 |ok a O=>exact⟨a,O,rfl,h⟩
 |ex x O=>cases h
 |no=>cases h
def ym:Expr->Bool
 | .Starred _ _=>false
 | _=>true
def bT(h:ym e=true):starEach (e::b) a=(false,eval e a)::starEach b a:=by
 cases e<;>first | rfl | cases h
theorem cF:∀{a:List Expr},a.all ym=true->(backTo pos (starEach a env)).any (·.1)=false
 | [],_=>by simp[starEach,backTo]
 |e::a,h=>by
  rw[List.all_cons,zC] at h;rw[bT h.1];show(false || (backTo _ _).any _)=false;rw[cF h.2];rfl
def oW(h:ym e=true):starEach [e] a=[(false,eval e a)]:=by rw[bT h];simp[starEach]
abbrev Frag:=PySem.W.Frag
def uK:DC->D
 | .inl i=>.int i
 | .inr x=>.str x.cps.toList
def E3(K:Frag)(H:Hp)(a:Addr)(c:List V):Prop:=Rd H a (.lst c)\/∃(b:List Value)(n:Nat),K.lookup a=some {cls:=.type "list",data:=.seq b.toArray n}/\b.length<=sizeLine/\aJ c b
def E3.sq{K:Frag} (h:E3 K H a f):Ee K H a f:=by
 rcases h with h | ⟨b,n,c,e,d⟩
 ·exact .inl h
 ·exact .inr ⟨_,b.toArray,n,c,rfl,rfl,rfl,by simpa,by simpa⟩
def E3.ok{σ:St} (h:E3 X.K H a f)(I:C5 X g σ H s):f.length<=sizeLine/\∃(b:List Value)(n:Nat),aJ f b/\s.heap.get? a=some {cls:=.type "list",data:=.seq b.toArray n}:=by
 rcases h with h | ⟨b,n,e,d,c⟩
 ·exact h.ok I.Pm
 ·exact⟨by rw[c.length];exact d,b,n,c,I.PR a _ e⟩
def KG(K:Frag)(F:Hp)(a:Addr)(c:List V):Prop :=
 F a=some (.tup c)\/∃(o:Obj)(b:Array Value)(n:Nat),K.lookup a=some o/\o.cls=.type "tuple"/\o.data=.seq b n/\b.size<=sizeLine/\aJ c b.toList
def KG.sq{K:Frag} (h:KG K F a b):ER K F a b:=h.imp .inl id
mutual
def Rp(K:Frag)(F:Hp)(e:List Addr):V->D->Prop
 |v,.Pl=>v=.Pl
 |v,.bl b=>v=.bl b
 |v,.int i=>v=.int i
 |v,.str l=>v=.str (S l)
 |v,.lst ds=>∃a d,v=.ref a/\E3 K F a d/\Rps K F e d ds
 |v,.tup ds=>∃a d,v=.ref a/\KG K F a d/\Rps K F e d ds
 |v,.QP ks vs=>∃(a:Addr)(c:List (DC×V)),v=.ref a/\F a=some (.dK c)/\ks=c.map (λp=>uK p.1)/\Rps K F e (c.map (·.2)) vs
 |v,.ob n=>∃a,v=.ref a/\e[n]?=some a
def Rps(K:Frag)(F:Hp)(a:List Addr):List V->List D->Prop
 |xs,[]=>xs=[]
 |xs,d::ds=>∃x r,xs=x::r/\Rp K F a x d/\Rps K F a r ds
end
section
variable {K:Frag}{F F':Hp}{as as':List Addr}
def Rd.mono(e:Dx H b)(h:Rd H a u):Rd b a u:=by
 rcases h with h | ⟨o,h⟩
 ·exact .inl (e _ _ h)
 ·exact .inr ⟨o,e _ _ h⟩
def E3.mono{K:Frag} (e:Dx H c)(h:E3 K H a b):E3 K c a b:=h.imp (λz=>z.mono e) id
mutual
theorem Rp.mono(e:Dx F F')(j:∀(n:Nat)(a:Addr),as[n]?=some a->as'[n]?=some a):∀(d:D){v:V},Rp K F as v d->Rp K F' as' v d
 | .Pl,v,h=>by rw[Rp] at h ⊢;exact h
 | .bl b,v,h=>by rw[Rp] at h ⊢;exact h
 | .int i,v,h=>by rw[Rp] at h ⊢;exact h
 | .str x,v,h=>by rw[Rp] at h ⊢;exact h
 | .lst ds,v,h=>by
  rw[Rp] at h ⊢;obtain⟨a,k,f,c,g⟩:=h;exact⟨a,k,f,c.mono e,Rps.mono e j ds g⟩
 | .tup ds,v,h=>by
  rw[Rp] at h ⊢;obtain⟨a,k,f,c,g⟩:=h;exact⟨a,k,f,c.imp (e _ _) id,Rps.mono e j ds g⟩
 | .QP ks vs,v,h=>by
  rw[Rp] at h ⊢;obtain⟨a,l,f,c,g,m⟩:=h;exact⟨a,l,f,e _ _ c,g,Rps.mono e j vs m⟩
 | .ob n,v,h=>by
  rw[Rp] at h ⊢;obtain⟨a,f,c⟩:=h;exact⟨a,f,j _ _ c⟩
theorem Rps.mono(e:Dx F F')(f:∀(n:Nat)(a:Addr),as[n]?=some a->as'[n]?=some a):∀(c:List D){b:List V},Rps K F as b c->Rps K F' as' b c
 | [],b,h=>by rw[Rps] at h ⊢;exact h
 |d::c,b,h=>by
  rw[Rps] at h ⊢;obtain⟨x,r,j,i,g⟩:=h;exact⟨x,r,j,Rp.mono e f d i,Rps.mono e f c g⟩
end
def Rp.Pl{K:Frag}:Rp K F as .Pl .Pl:=by rw[Rp]
def Rp.bl{K:Frag}:Rp K F as (.bl b) (.bl b):=by rw[Rp]
def Rp.int{K:Frag}:Rp K F as (.int i) (.int i):=by rw[Rp]
def Rp.str{K:Frag}:Rp K F as (.str (S l)) (.str l):=by rw[Rp]
def Rp.Sl{K:Frag} (h:Rp K F as v .Pl):v=.Pl:=by rw[Rp] at h;exact h
def Rp.QI{K:Frag} (h:Rp K F as v (.bl b)):v=.bl b:=by rw[Rp] at h;exact h
def Rp.PD{K:Frag} (h:Rp K F as v (.int i)):v=.int i:=by exact h
def Rp.PZ{K:Frag} (h:Rp K F as v (.str l)):v=.str (S l):=by rw[Rp] at h;exact h
def Rp.Sr{K:Frag} (h:Rp K F as v (.lst c)):∃a b,v=.ref a/\E3 K F a b/\Rps K F as b c:=by rw[Rp] at h;exact h
def Rp.unT'{K:Frag} (h:Rp K F as v (.tup c)):∃a b,v=.ref a/\KG K F a b/\Rps K F as b c:=by rw[Rp] at h;exact h
def Rp.QR{K:Frag} (h:Rp K F as v (.tup c)):∃a b,v=.ref a/\ER K F a b/\Rps K F as b c:=let ⟨a,b,e,h1,h2⟩:=h.unT';⟨a,b,e,h1.sq,h2⟩
def Rp.Qo{K:Frag} (h:Rp K F as v (.ob n)):∃a,v=.ref a/\as[n]?=some a:=by rw[Rp] at h;exact h
def Rp.unD{K:Frag} (h:Rp K F as v (.QP d c)):∃(a:Addr)(b:List (DC×V)),v=.ref a/\F a=some (.dK b)/\d=b.map (λp=>uK p.1)/\Rps K F as (b.map (·.2)) c:=by rw[Rp] at h;exact h
def Rp.mkL{K:Frag} (h:E3 K F a b)(hs:Rps K F as b c):Rp K F as (.ref a) (.lst c):=by rw[Rp];exact⟨a,b,rfl,h,hs⟩
def Rp.Sm{K:Frag} (h:KG K F a b)(hs:Rps K F as b c):Rp K F as (.ref a) (.tup c):=by rw[Rp];exact⟨a,b,rfl,h,hs⟩
def Rp.Po{K:Frag} (h:as[n]?=some a):Rp K F as (.ref a) (.ob n):=by exact⟨a,rfl,h⟩
def Rps.nil{K:Frag}:Rps K F as [] []:=by rw[Rps]
def Rps.cons{K:Frag}{F:Hp}{as:List Addr}{x:V}{a:List V}{d:D}{ds:List D}(h:Rp K F as x d)(hs:Rps K F as a ds):Rps K F as (x::a) (d::ds):=by
 rw[Rps];exact⟨x,a,rfl,h,hs⟩
def Rps.un{K:Frag} (h:Rps K F as a (d::b)):∃x r,a=x::r/\Rp K F as x d/\Rps K F as r b:=by exact h
def Rps.QL{K:Frag} (h:Rps K F as a []):a=[]:=by rw[Rps] at h;exact h
theorem Rps.length{K:Frag}:∀{ds:List D}{a:List V},Rps K F as a ds->a.length=ds.length
 | [],a,h=>by rw[h.QL];rfl
 |d::ds,a,h=>by
  obtain⟨x,r,rfl,_,b⟩:=h.un;simp[Rps.length b]
theorem Rps.get{K:Frag}{F:Hp}{as:List Addr}:∀{b:List D}{a:List V}{i:Nat}{x:V},Rps K F as a b->a[i]?=some x->∃d,b[i]?=some d/\Rp K F as x d
 | [],a,i,x,h,e=>by rw[h.QL] at e;simp at e
 |d::b,a,i,x,h,e=>by
  obtain⟨y,r,rfl,f,c⟩:=h.un
  cases i with
  |zero=>simp at e;subst e;exact⟨d,rfl,f⟩
  |succ i =>
   obtain⟨j,g,q⟩:=Rps.get (i:=i) (x:=x) c (by simpa using e);exact⟨j,by simpa using g,q⟩
def Rps.get'{K:Frag}{F:Hp}{as:List Addr}:∀{b:List D}{a:List V}{i:Nat}{d:D},Rps K F as a b->b[i]?=some d->∃x,a[i]?=some x/\Rp K F as x d:=by
 intro b a i d h e;have g:=h.length
 have c:i<a.length:=by rw[g];exact(zx.mp e).1
 obtain⟨j,f,q⟩:=h.get (zB c);rw[e] at f;cases f;exact⟨_,zB c,q⟩
theorem Rps.append{K:Frag} (c:Rps K F as ys es):∀{b:List D}{a:List V},Rps K F as a b->Rps K F as (a++ys) (b++es)
 | [],a,h=>by rw[h.QL];exact c
 |e::b,a,h=>by
  obtain⟨y,r,rfl,f,d⟩:=h.un;exact Rps.cons f (Rps.append c d)
def Rps.snoc{K:Frag} (h:Rps K F as b c)(a:Rp K F as x d):Rps K F as (b++[x]) (c++[d]):=Rps.append (Rps.cons a Rps.nil) h
theorem Rps.take{K:Frag}:∀{ds:List D}{a:List V} (n:Nat),Rps K F as a ds->Rps K F as (a.take n) (ds.take n)
 | _,_,0,_=>by simpa using Rps.nil
 | [],a,n+1,h=>by rw[h.QL];simpa using Rps.nil
 |d::ds,a,n+1,h=>by
  obtain⟨y,r,rfl,c,b⟩:=h.un;exact Rps.cons c (Rps.take n b)
theorem Rps.drop{K:Frag}:∀{ds:List D}{a:List V} (n:Nat),Rps K F as a ds->Rps K F as (a.drop n) (ds.drop n)
 | _,_,0,h=>by simpa using h
 | [],a,n+1,h=>by rw[h.QL];simpa using Rps.nil
 |d::ds,a,n+1,h=>by
  obtain⟨y,r,rfl,c,b⟩:=h.un;exact Rps.drop n b
theorem Rps.set{K:Frag}{F:Hp}{as:List Addr}:∀{ds:List D}{a:List V}{x:V}{d:D} (n:Nat),Rps K F as a ds->Rp K F as x d->Rps K F as (a.set n x) (ds.set n d)
 | [],a,x,d,n,h,_=>by rw[h.QL];simpa using Rps.nil
 |e::ds,a,x,d,0,h,hx=>by
  obtain⟨y,r,rfl,c,b⟩:=h.un;exact Rps.cons hx b
 |e::ds,a,x,d,n+1,h,hx=>by
  obtain⟨y,r,rfl,c,b⟩:=h.un;exact Rps.cons c (Rps.set n b hx)
theorem Rps.rep{K:Frag} (h:Rps K F as xs ds):∀n:Nat,Rps K F as (List.replicate n xs).flatten (List.replicate n ds).flatten
 | 0=>by simpa using Rps.nil
 |n+1=>by
  exact Rps.append (Rps.rep h n) h
end
def Kt:HO->Bool
 | .ins _ _ _=>false
 | .own _=>false
 | .xd _=>false
 | _=>true
def LX:HO->Bool
 | .lst _=>true
 | .dK _=>true
 | _=>false
def GF(h:LX o=true):Kt o=true:=by
 cases o<;>first | rfl | cases h
structure Gr(H F:Hp)(as:List Addr)(H' F':Hp)(as':List Addr):Prop where
 fz:∀a o,H a=some o->a∉as->LX o=true->F' a=F a
 ff:Dx F F'
 nw:∃new,as'=as++new/\∀a∈new,H a=none
 fr:∀a o,H a=some o->a∉as->Kt o=true->H' a=some o
 dm:∀a,H' a=none->H a=none
 kz:∀a o u,H a=some (.Pp o u)->H' a=some (.Pp o u)
structure Pt where
 p:Addr->Prop
 ss:List (Nat×V×D)
instance:CoeFun Pt (λ_=>Addr->Prop):=⟨Pt.p⟩
def Pt.all(H:Hp):Pt:=⟨λa=>H a≠none,[]⟩
structure D7(P:Pt)(H F:Hp)(as:List Addr)(H' F':Hp)(as':List Addr):Prop where
 fz:∀a o,P a->H a=some o->a∉as->LX o=true->F' a=F a
 ff:Dx F F'
 nw:∃new,as'=as++new/\∀a∈new,H a=none
 fr:∀a o,P a->H a=some o->a∉as->Kt o=true->H' a=some o
 dm:∀a,H' a=none->H a=none
 kz:∀a o u,H a=some (.Pp o u)->H' a=some (.Pp o u)
def Gr.refl:Gr H F a H F a:=⟨λ_ _ _ _ _=>rfl,Dx.refl F,⟨[],by simp,λ_ h=>nomatch h⟩,λ_ _ h _ _=>h,λ_ h=>h,λ_ _ _ h=>h⟩
def Gr.trans(a:Gr H F s v x r)(b:Gr v x r t w p):Gr H F s t w p:=by
 obtain⟨l,j,i⟩:=a.nw;obtain⟨k,n,m⟩:=b.nw;refine⟨λc o g d f=>?_,a.ff.trans b.ff,⟨l++k,by rw[n,j,zz],λc g=>?_⟩,λc o e d f=>?_,λc h=>a.dm c (b.dm c h),λc o u h=>b.kz c o u (a.kz c o u h)⟩
 ·have q:=a.fr c o g d (GF f);refine(b.fz c o q ?_ f).trans (a.fz c o g d f);rw[j];intro z
  rcases zy.mp z with z | z
  ·exact d z
  ·rw[i c z] at g;cases g
 ·rcases zy.mp g with z | z
  ·exact i c z
  ·exact a.dm c (m c z)
 ·have q:=a.fr c o e d f;refine b.fr c o q ?_ f;rw[j];intro z
  rcases zy.mp z with z | z
  ·exact d z
  ·rw[i c z] at e;cases e
def Gr.toS(a:Gr H F g h i f):D7 P H F g h i f:=⟨λc o _=>a.fz c o,a.ff,a.nw,λc o _ e b d=>a.fr c o e b d,a.dm,a.kz⟩
def D7.refl:D7 P H F a H F a:=Gr.refl.toS
def D7.trans(a:D7 P H F t w y s)(b:D7 P w y s v x r):D7 P H F t v x r:=by
 obtain⟨l,j,i⟩:=a.nw;obtain⟨k,n,m⟩:=b.nw;refine⟨λc o p g d f=>?_,a.ff.trans b.ff,⟨l++k,by rw[n,j,zz],λc g=>?_⟩,λc o p e d f=>?_,λc h=>a.dm c (b.dm c h),λc o u h=>b.kz c o u (a.kz c o u h)⟩
 ·have q:=a.fr c o p g d (GF f);refine(b.fz c o p q ?_ f).trans (a.fz c o p g d f);rw[j];intro z
  rcases zy.mp z with z | z
  ·exact d z
  ·rw[i c z] at g;cases g
 ·rcases zy.mp g with z | z
  ·exact i c z
  ·exact a.dm c (m c z)
 ·have q:=a.fr c o p e d f;refine b.fr c o p q ?_ f;rw[j];intro z
  rcases zy.mp z with z | z
  ·exact d z
  ·rw[i c z] at e;cases e
def D7.gr(a:D7 (Pt.all H) H F d f g b):Gr H F d f g b:=⟨λc o e=>a.fz c o (show H c≠none by rw[e];exact λz=>nomatch z) e,a.ff,a.nw,λc o e=>a.fr c o (show H c≠none by rw[e];exact λz=>nomatch z) e,a.dm,a.kz⟩
def Gr.at_(a:Gr H F f g i d):∀(n:Nat)(c:Addr),f[n]?=some c->d[n]?=some c:=λn c h=>by
 obtain⟨b,e,_⟩:=a.nw;rw[e,zG (zx.mp h).1];exact h
def D7.at_(a:D7 P H F f g i d):∀(n:Nat)(c:Addr),f[n]?=some c->d[n]?=some c:=λn c h=>by
 obtain⟨b,e,_⟩:=a.nw;rw[e,zG (zx.mp h).1];exact h
def Gr.out(a:Gr H F i j k g) (h:c∉i)(e:H c≠none):c∉g:=by
 obtain⟨f,d,b⟩:=a.nw;rw[d];intro z
 rcases zy.mp z with z | z
 ·exact h z
 ·exact e (b c z)
def Rp.gr{K:Frag} (h:Rp K F c v d)(a:Gr H F c f e b):Rp K e b v d:=Rp.mono a.ff a.at_ d h
def Rps.gr{K:Frag} (h:Rps K F c v d)(a:Gr H F c f e b):Rps K e b v d:=Rps.mono a.ff a.at_ d h
def Rp.Sz{K:Frag} (h:Rp K F c v d)(a:D7 P H F c f e b):Rp K e b v d:=Rp.mono a.ff a.at_ d h
structure Fu(K:Frag)(F:Hp)(as:List Addr)(gs:List (Str×V))(fs:List (Str×D)):Prop where
 nm:gs.map (·.1)=fs.map (·.1)
 vl:Rps K F as (gs.map (·.2)) (fs.map (·.2))
def XF(K:Frag)(F:Hp)(e:List Addr)(a:Option Addr)(b:List (Str×D)):Prop:=b=[]\/∃c d gs,a=some c/\F c=some (.Pp d (.xd gs))/\Fu K F e gs b
def XF.mono{K:Frag} (h:XF K F o k m)(e:Dx F p)(i:∀(n:Nat)(a:Addr),o[n]?=some a->l[n]?=some a):XF K p l k m:=by
 rcases h with h | ⟨j,b,gs,g,f,d,c⟩
 ·exact .inl h
 ·exact .inr ⟨j,b,gs,g,e _ _ f,d,Rps.mono e i _ c⟩
def IY(K:Frag)(f:Str->Option Value)(H F:Hp)(d:List Addr)(a:Addr):Ob->Prop
 | .ins c fs=>∃C h gs,f c=some (.ref C)/\H a=some (.ins C h gs)/\Fu K F d gs fs
 | .ml ds=>∃b,H a=some (.lst b)/\Rps K F d b ds
 | .dt kvs=>∃b:List (List DC×V),H a=some (.dT b)/\b.map (·.1)=kvs.map (·.1)/\Rps K F d (b.map (·.2)) (kvs.map (·.2))
 | .df kvs=>∃(o:Obj)(b:List (List DC×V)),H a=some (.Pp o (.dT b))/\b.map (·.1)=kvs.map (·.1)/\Rps K F d (b.map (·.2)) (kvs.map (·.2))
 | .dk kvs=>∃b:List (DC×V),H a=some (.dK b)/\b.map (·.1)=kvs.map (·.1)/\Rps K F d (b.map (·.2)) (kvs.map (·.2))
 | .kf kvs=>∃(o:Obj)(b:List (DC×V)),H a=some (.Pp o (.dK b))/\b.map (·.1)=kvs.map (·.1)/\Rps K F d (b.map (·.2)) (kvs.map (·.2))
 | .xc c fs=>∃(C:Addr)(e:Obj)(u:HO),f c=some (.ref C)/\H a=some (.Pp e u)/\e.cls=.ref C/\(∃g,e.data=.fields g)/\XF K F d e.dict fs
 | .gone=>∃φ,H a=some (.ext φ)
 | .dn kvs=>∃b:List (NK×V),H a=some (.dN K b)/\b.map (·.1)=kvs.map (·.1)/\Rps K F d (b.map (·.2)) (kvs.map (·.2))
 | .nf kvs=>∃(o:Obj)(b:List (NK×V)),H a=some (.Pp o (.dN K b))/\b.map (·.1)=kvs.map (·.1)/\Rps K F d (b.map (·.2)) (kvs.map (·.2))
structure DD(K:Frag)(mg:Str->Option Value)(O:au)(H F:Hp)(as:List Addr):Prop where
 fh:Dx F H
 fd:∀a o,F a=some o->Kt o=true
 nd:as.Nodup
 len:as.length=O.length
 fa:∀a∈as,F a=none
 ob:∀(n:Nat)(a:Addr)(o:Ob),as[n]?=some a->O[n]?=some o->IY K mg H F as a o
inductive Md where
 | v | s | o
 deriving DecidableEq
def iY:D->Bool
 | .lst _=>false
 | _=>true
def iC(P:Pt)(K:Frag)(H F:Hp)(b:List Addr):Md->V->D->Prop
 | .v,v,d=>Rp K F b v d
 | .s,v,d=>Rp K F b v d\/∃a c e,v=.ref a/\d=.lst e/\H a=some (.lst c)/\a∉b/\P a/\Rps K F b c e
 | .o,v,d=>(iY d=true/\Rp K F b v d)\/∃a c e,v=.ref a/\d=.lst e/\H a=some (.lst c)/\F a=none/\a∉b/\¬P a/\Rps K F b c e
structure DV(K:Frag)(md:List Md)(P:Pt)(ρ:aN)(σ:St)(H F:Hp)(as:List Addr):Prop where
 len:σ.length=md.length
 P9:ρ.length=md.length
 pd:∀a,P a->H a≠none
 sl:∀(i:Nat)(m:Md)(d:D),md[i]?=some m->ρ[i]?=some (some d)->∃v,σ[i]?=some (some v)/\iC P K H F as m v d
 inj:∀(i j:Nat)(a:Addr)(ds es:List D),md[i]?=some .o->md[j]?=some .o->ρ[i]?=some (some (.lst ds))->ρ[j]?=some (some (.lst es))->σ[i]?=some (some (.ref a))->σ[j]?=some (some (.ref a))->i=j
 pin:∀x∈P.ss,md[x.1]?=some .s/\ρ[x.1]?=some (some x.2.2)/\σ[x.1]?=some (some x.2.1)
def iC.step{K:Frag} (h:iC P K H F as m v d)(g:Gr H F as H' F' as'):iC P K H' F' as' m v d:=by
 cases m with
 |v=>exact Rp.gr (show Rp K F as v d from h) g
 |s =>
  rcases h with h | ⟨a,e,k,j,i,c,b,f,e6⟩
  ·exact .inl (h.gr g)
  ·exact .inr ⟨a,e,k,j,i,g.fr _ _ c b rfl,g.out b (by rw[c];exact λz=>nomatch z),f,e6.gr g⟩
 |o =>
  rcases h with⟨n,h⟩ | ⟨a,e,k,j,i,c,p,b,f,e6⟩
  ·exact .inl ⟨n,h.gr g⟩
  ·have l:H a≠none:=by rw[c];exact λz=>nomatch z
   exact .inr ⟨a,e,k,j,i,g.fr _ _ c b rfl,by rw[g.fz a _ c b rfl];exact p,g.out b l,f,e6.gr g⟩
def DV.step{K:Frag}(h:DV K md P ρ σ H F f)(g:Gr H F f j k e):DV K md P ρ σ j k e :=
 ⟨h.len,h.P9,λa p z=>h.pd a p (g.dm a z),λi m d c b=>let ⟨v,q,r⟩:=h.sl i m d c b;⟨v,q,r.step g⟩,h.inj,h.pin⟩
def Sv(K:Frag)(H F:Hp)(b:List Addr)(v:V)(d:D):Prop :=
 Rp K F b v d\/∃a c e,v=.ref a/\d=.lst e/\H a=some (.lst c)/\a∉b/\Rps K F b c e
def Lk(K:Frag)(H F:Hp)(e:List Addr)(v:V)(d:D):Prop :=
 Rp K F e v d\/∃a b c,v=.ref a/\d=.lst c/\H a=some (.lst b)/\Rps K F e b c
def Ow(K:Frag)(N:Addr->Prop)(H F:Hp)(b:List Addr)(v:V)(d:D):Prop :=
 (iY d=true/\Rp K F b v d)\/∃a c e,v=.ref a/\d=.lst e/\H a=some (.lst c)/\F a=none/\a∉b/\N a/\Rps K F b c e
def aZ(O:au)(d:D):D:=match d with
 | .ob n=>match O[n]? with
  |some (.ml ds)=>.lst ds
  | _=>.ob n
 |d=>d
def Sv.gr{K:Frag}(h:Sv K H F m v d)(g:Gr H F m n o l):Sv K n o l v d:=by
 rcases h with h | ⟨a,e,k,j,i,c,b,f⟩
 ·exact .inl (h.gr g)
 ·exact .inr ⟨a,e,k,j,i,g.fr _ _ c b rfl,g.out b (by rw[c];exact λz=>nomatch z),f.gr g⟩
def Sv.lk{K:Frag}(h:Sv K H F m v d)(r:DD K o O H F m):Lk K H F m v (aZ O d):=by
 rcases h with h | ⟨a,b,c,rfl,rfl,i,l,g⟩
 ·cases d with
  |ob n =>
   obtain⟨a,rfl,f⟩:=h.Qo;unfold aZ
   dsimp
   split
   ·rename_i c e;obtain⟨b,k,j⟩:=r.ob n a _ f e;exact .inr ⟨a,b,c,rfl,rfl,k,j⟩
   ·exact .inl (Rp.Po f)
  | _=>exact .inl h
 ·exact .inr ⟨a,b,c,rfl,rfl,i,g⟩
def Lk.list{K:Frag} (h:Lk K H F m v (.lst l))(fh:Dx F H):∃a b,v=.ref a/\E3 K H a b/\Rps K F m b l:=by
 rcases h with h | ⟨a,b,k,j,i,g,f⟩
 ·obtain⟨a,b,e,d,c⟩:=h.Sr;exact⟨a,b,e,d.mono fh,c⟩
 ·cases i;exact⟨a,b,j,.inl (.inl g),f⟩
def Lk.rp{K:Frag}(h:Lk K H F j v d)(b:iY d=true):Rp K F j v d:=by
 rcases h with h | ⟨a,e,c,i,rfl,g,f⟩
 ·exact h
 ·cases b
def Sv.rp{K:Frag}(h:Sv K H F j v d)(b:iY d=true):Rp K F j v d:=by
 rcases h with h | ⟨a,e,c,i,rfl,g,f⟩
 ·exact h
 ·cases b
def Gr.lay(b:H p=none):Gr H F d (DB H p o) F d :=
 ⟨λ_ _ _ _ _=>rfl,Dx.refl F,⟨[],by simp,λ_ h=>nomatch h⟩,λa c e _ _=>by rw[aH (cj e b)];exact e,λa e=>by
  by_cases h:a=p
  ·subst h;exact b
  ·rwa [aH h] at e,λa c u e=>by rw[aH (cj e b)];exact e⟩
def IY.keep{K:Frag} (h:IY K mg H F as a o)(i:H' a=H a)(e:Dx F F')(j:∀(n:Nat)(a:Addr),as[n]?=some a->as'[n]?=some a):IY K mg H' F' as' a o:=by
 cases o with
 |ins c fs =>
  obtain⟨C,p,gs,b,d,f,k⟩:=h;exact⟨C,p,gs,b,by rw[i];exact d,f,Rps.mono e j _ k⟩
 |ml ds =>
  obtain⟨g,b,d⟩:=h;exact⟨g,by rw[i];exact b,Rps.mono e j _ d⟩
 |dt kvs =>
  obtain⟨g,b,d,f⟩:=h;exact⟨g,by rw[i];exact b,d,Rps.mono e j _ f⟩
 |df kvs =>
  obtain⟨o,g,b,d,f⟩:=h;exact⟨o,g,by rw[i];exact b,d,Rps.mono e j _ f⟩
 |dk kvs =>
  obtain⟨g,b,d,f⟩:=h;exact⟨g,by rw[i];exact b,d,Rps.mono e j _ f⟩
 |kf kvs =>
  obtain⟨o,g,b,d,f⟩:=h;exact⟨o,g,by rw[i];exact b,d,Rps.mono e j _ f⟩
 |xc c fs =>
  obtain⟨C,l,u,b,d,f,k,m⟩:=h;exact⟨C,l,u,b,by rw[i];exact d,f,k,m.mono e j⟩
 |gone =>
  obtain⟨φ,b⟩:=h;exact⟨φ,by rw[i];exact b⟩
 |dn kvs =>
  obtain⟨g,b,d,f⟩:=h;exact⟨g,by rw[i];exact b,d,Rps.mono e j _ f⟩
 |nf kvs =>
  obtain⟨o,g,b,d,f⟩:=h;exact⟨o,g,by rw[i];exact b,d,Rps.mono e j _ f⟩
def DD.at{K:Frag}{n:Nat} (r:DD K mg O H F as)(g:as[n]?=some a)(f:O[n]?=some o):H a≠none:=by
 have q:=r.ob n a o g f
 cases o with
 |ins c i=>obtain⟨C,k,gs,b,h,_⟩:=q;rw[h];exact λz=>nomatch z
 |ml ds=>obtain⟨e,b,_⟩:=q;rw[b];exact λz=>nomatch z
 |dt d=>obtain⟨e,b,_⟩:=q;rw[b];exact λz=>nomatch z
 |df d=>obtain⟨o,e,b,_⟩:=q;rw[b];exact λz=>nomatch z
 |dk d=>obtain⟨e,b,_⟩:=q;rw[b];exact λz=>nomatch z
 |kf d=>obtain⟨o,e,b,_⟩:=q;rw[b];exact λz=>nomatch z
 |xc c i=>obtain⟨C,j,u,_,b,_⟩:=q;rw[b];exact λz=>nomatch z
 |gone=>obtain⟨φ,b⟩:=q;rw[b];exact λz=>nomatch z
 |dn d=>obtain⟨e,b,_⟩:=q;rw[b];exact λz=>nomatch z
 |nf d=>obtain⟨o,e,b,_⟩:=q;rw[b];exact λz=>nomatch z
def DD.all{K:Frag} (r:DD K g O H F f)(c:a∈f):H a≠none:=by
 obtain⟨n,b,e⟩:=List.mem_iff_getElem.mp c
 have d:n<O.length:=by rw[<-r.len];exact b
 exact r.at (n:=n) (by rw[zB b,e]) (zB d)
def DD.lay{K:Frag} (r:DD K f O H F g)(c:H p=none):DD K f O (DB H p o) F g:=by
 refine⟨λa u e=>?_,r.fd,r.nd,r.len,r.fa,λn a u d b=>(r.ob n a u d b).keep (aH ?_) (Dx.refl F) λ_ _ h=>h⟩
 ·have q:=r.fh a u e;rw[aH (cj q c)];exact q
 ·intro z;subst z;exact r.at d b c
def Gr.Pp{H F h d:Hp}{f b:List Addr}{p:Addr}{o:HO}(j:H p=none)(g:Gr H F f h d b)(l:d p=none):Gr H F f h (DB d p o) b :=
 ⟨λa i c k m=>by rw[aH (λz=>by subst z;rw[j] at c;cases c)];exact g.fz a i c k m,λa u e=>by
  have q:=g.ff a u e
  rw[aH (cj q l)];exact q,g.nw,g.fr,g.dm,g.kz⟩
def DD.Pp{K:Frag}{c:Str->Option Value}{H F:Hp}{b:List Addr}{O:au}{p:Addr}{o:HO}(r:DD K c O H F b)(d:H p=some o)(f:F p=none)(i:p∉b)(g:Kt o=true):DD K c O H (DB F p o) b:=by
 have l:Dx F (DB F p o):=λa u e=>by rw[aH (cj e f)];exact e
 refine⟨λa u e=>?_,λa u e=>?_,r.nd,r.len,λa h=>?_,λn a u k j=>(r.ob n a u k j).keep rfl l λ_ _ h=>h⟩
 ·by_cases h:a=p
  ·subst h;rw[bG] at e;cases e;exact d
  ·rw[aH h] at e;exact r.fh a u e
 ·by_cases h:a=p
  ·subst h;rw[bG] at e;cases e;exact g
  ·rw[aH h] at e;exact r.fd a u e
 ·rw[aH (λz=>by subst z;exact i h)];exact r.fa a h
abbrev RR:=(Addr->Prop)->Hp->Hp->List Addr->V->D->Prop
def rV(K:Frag):RR:=λ_ _ F a v d=>Rp K F a v d
def rS(K:Frag):RR:=λ_ H F a v d=>Sv K H F a v d
def rO(K:Frag):RR:=λN H F a v d=>Ow K N H F a v d
def rA(K:Frag):Md->RR
 | .v=>rV K
 | _=>rS K
def eX(R:RR):Prop:=∀(N c:Addr->Prop)(H F:Hp)(b:List Addr)(v:V)(d:D),(∀a,N a->c a)->R N H F b v d->R c H F b v d
def iZ{K:Frag}:eX (rV K):=λ_ _ _ _ _ _ _ _ h=>h
def gQ{K:Frag}:eX (rO K):=λN n H F m v d c h=>by
 rcases h with h | ⟨a,b,l,k,j,i,g,f,e6,e⟩
 ·exact .inl h
 ·exact .inr ⟨a,b,l,k,j,i,g,f,c a e6,e⟩
inductive tM (K:Frag) (mg:Str->Option Value) (md:List Md) (P:Pt) (R:RR) (m:M D) (σ:St) (H:Hp) (Q:VK):Prop
 | mk (ρ:aN) (O:au) (F:Hp) (as:List Addr) (d:D) (O':au):DD K mg O H F as->DV K md P ρ σ H F as->m ρ O=.ok d O' ->
  (∀v H' F' as',Gr H F as H' F' as'->DD K mg O' H' F' as'->R (λa=>H a=none) H' F' as' v d->Q v H')->tM K mg md P R m σ H Q
inductive FU (K:Frag) (mg:Str->Option Value) (md:List Md) (P:Pt) (m:M Bool) (σ:St) (H:Hp) (Q:Bool->Hp->Prop):Prop
 | mk (ρ:aN) (O:au) (F:Hp) (as:List Addr) (b:Bool) (O':au):DD K mg O H F as->DV K md P ρ σ H F as->m ρ O=.ok b O' ->
  (∀H' F' as',Gr H F as H' F' as'->DD K mg O' H' F' as'->Q b H')->FU K mg md P m σ H Q
def cz(K:Frag)(H F:Hp)(a:List Addr):List Md->List V->List D->Prop
 | [],[],[]=>True
 |m::ms,v::vs,d::ds=>rA K m (λ_=>True) H F a v d/\cz K H F a ms vs ds
 | _,_,_=>False
inductive JA (K:Frag) (mg:Str->Option Value) (md:List Md) (P:Pt) (ms:List Md) (m:M (List D)) (σ:St) (H:Hp) (Q:List V->Hp->Prop):Prop
 | mk (ρ:aN) (O:au) (F:Hp) (as:List Addr) (ds:List D) (O':au):DD K mg O H F as->DV K md P ρ σ H F as->m ρ O=.ok ds O' ->
  (∀vs H' F' as',Gr H F as H' F' as'->DD K mg O' H' F' as'->cz K H' F' as' ms vs ds->Q vs H')->JA K mg md P ms m σ H Q
def XE(X:Cx)(a:List Md)(P:Pt)(R:RR)(e:Expr)(m:M D):Prop:=PE X e (tM X.K X.mg a P R m)
def VE(X:Cx)(a:List Md)(P:Pt)(e:Expr)(m:M D):Prop:=PE X e (tM X.K X.mg a P (rV X.K) m)
def SE(X:Cx)(a:List Md)(P:Pt)(e:Expr)(m:M D):Prop:=PE X e (tM X.K X.mg a P (rS X.K) m)
def OE(X:Cx)(a:List Md)(P:Pt)(e:Expr)(m:M D):Prop:=PE X e (tM X.K X.mg a P (rO X.K) m)
def TsE(X:Cx)(a:List Md)(P:Pt)(e:Expr)(m:M Bool):Prop:=PT X e (FU X.K X.mg a P m)
def TwE(X:Cx)(a:List Md)(P:Pt)(e:Expr)(m:M Bool):Prop:=PW X e (FU X.K X.mg a P m)
def AE(X:Cx)(a:List Md)(P:Pt)(ms:List Md)(b:List Expr)(m:M (List D)):Prop:=PA X b (JA X.K X.mg a P ms m)
def jX(K:Frag)(mg:Str->Option Value)(md:List Md)(P:Pt)(R:RR)(D:EL)(H F:Hp)(g:List Addr):Fl->Prop
 | .nx ρ' O'=>∀e c f b,D7 P H F g c f b->DD K mg O' c f b->DV K md P ρ' e c f b->D.nx e c
 | .bk ρ' O'=>∀e c f b,D7 P H F g c f b->DD K mg O' c f b->DV K md P ρ' e c f b->D.bk e c
 | .ct ρ' O'=>∀e c f b,D7 P H F g c f b->DD K mg O' c f b->DV K md P ρ' e c f b->D.ct e c
 | .rt d O'=>∀v c f b,D7 P H F g c f b->DD K mg O' c f b->R (λa=>¬P a) c f b v d->D.rt v c
 | .ex _ _=>False
 | .no=>False
inductive F9 (K:Frag) (mg:Str->Option Value) (md:List Md) (P:Pt) (R:RR) (m:MS) (D:EL) (σ:St) (H:Hp):Prop
 | mk (ρ:aN) (O:au) (F:Hp) (as:List Addr):DD K mg O H F as->DV K md P ρ σ H F as->jX K mg md P R D H F as (m ρ O)->F9 K mg md P R m D σ H
def VS(X:Cx)(a:List Md)(P:Pt)(R:RR)(st:Stmt)(m:MS):Prop:=PS X st (F9 X.K X.mg a P R m)
def VSs(X:Cx)(a:List Md)(P:Pt)(R:RR)(st:List Stmt)(m:MS):Prop:=Fs X st (F9 X.K X.mg a P R m)
section
variable {X:Cx}{md:List Md}{P:Pt}{R:RR}
def PE.imp(h:PE X e t)(k:∀σ H Q,b σ H Q->t σ H Q):PE X e b:=λa s σ H Q I q=>h a s σ H Q I (k σ H Q q)
def PT.imp(h:PT X e t)(k:∀σ H Q,b σ H Q->t σ H Q):PT X e b:=λa s σ H Q I q=>h a s σ H Q I (k σ H Q q)
def PW.imp(h:PW X e t)(k:∀σ H Q,b σ H Q->t σ H Q):PW X e b:=λw a s σ H Q I q=>h w a s σ H Q I (k σ H Q q)
def PA.imp(h:PA X e t)(k:∀σ H Q,c σ H Q->t σ H Q):PA X e c:=λb a s σ H Q I q=>h b a s σ H Q I (k σ H Q q)
def PS.imp(h:PS X e t)(k:∀D σ H,b D σ H->t D σ H):PS X e b:=λa s σ H D I q=>h a s σ H D I (k D σ H q)
def Fs.imp(h:Fs X e t)(k:∀D σ H,b D σ H->t D σ H):Fs X e b:=λa s σ H D I q=>h a s σ H D I (k D σ H q)
def aa(i:Nat):M D:=λρ O=>match ρ[i]? with
 |some (some d)=>.ok d O
 | _=>.no
def mC(d:D):M D:=λ_ O=>.ok d O
def mG(m:M D):M D:=λρ O=>match m ρ O with
 | .ok d O'=>if iY d=true then .ok d O' else .no
 |r=>r
def rm(h:aa i ρ O=.ok d b):ρ[i]?=some (some d)/\b=O:=by
 unfold aa at h;split at h
 ·rename_i a e;cases h;exact⟨e,rfl⟩
 ·cases h
def GJ(h:mG m ρ O=.ok d g):m ρ O=.ok d g/\iY d=true:=by
 unfold mG at h;split at h
 ·rename_i c f e;split at h
  ·rename_i b;cases h;exact⟨e,b⟩
  ·cases h
 ·rename_i a;exact absurd h (a _ _)
def DV.get{md:List Md}{P:Pt}{K:Frag}{ρ:aN}{σ:St}{H F:Hp}{b:List Addr}{i:Nat}{d:D}(s:DV K md P ρ σ H F b)(h:ρ[i]?=some (some d)):∃m v,md[i]?=some m/\σ[i]?=some (some v)/\iC P K H F b m v d:=by
 have a:i<md.length:=by rw[<-s.P9];exact(zx.mp h).1
 obtain⟨v,e,c⟩:=s.sl i md[i] d (zB a) h;exact⟨_,v,zB a,e,c⟩
def iC.sv{K:Frag} (h:iC P K H F as m v d):Sv K H F as v d:=by
 cases m with
 |v=>exact .inl h
 |s =>
  rcases h with h | ⟨a,b,i,g,f,e,c,j,e6⟩
  ·exact .inl h
  ·exact .inr ⟨a,b,i,g,f,e,c,e6⟩
 |o =>
  rcases h with⟨_,h⟩ | ⟨a,b,i,g,f,e,k,c,j,e6⟩
  ·exact .inl h
  ·exact .inr ⟨a,b,i,g,f,e,c,e6⟩
def Wz{X:Cx}{md:List Md}{P:Pt}(i:Nat) {a:Pos}(f:X.N[i]?=some x:=by rfl)(hv:G0 X.env.scope x:=by first | exact Or.inl rfl | exact Or.inr (Or.inl rfl) | exact Or.inr (Or.inr rfl))
  (c:SV x:=by decide) (b:(x == ("__classdict__":Str))=false:=by decide):SE X md P (.Name x a) (aa i):=by
 refine(jP f hv c b).imp λσ H Q h=>?_
 obtain⟨ρ,O,F,n,d,p,r,s,e,k⟩:=h;obtain⟨l,rfl⟩:=rm e;obtain⟨m,v,o,j,g⟩:=s.get l;exact⟨v,j,k v H F n Gr.refl r g.sv⟩
def WD{X:Cx}{P:Pt}(i:Nat){x:Str}{a:Pos}(c:md[i]?=some .v:=by rfl)(g:X.N[i]?=some x:=by rfl)(hv:G0 X.env.scope x:=by first | exact Or.inl rfl | exact Or.inr (Or.inl rfl) | exact Or.inr (Or.inr rfl))
  (f:SV x:=by decide) (b:(x == ("__classdict__":Str))=false:=by decide):VE X md P (.Name x a) (aa i):=by
 refine(jP g hv f b).imp λσ H Q h=>?_
 obtain⟨ρ,O,F,n,d,o,r,s,e,k⟩:=h;obtain⟨m,rfl⟩:=rm e;obtain⟨v,l,j⟩:=s.sl i .v d c m;exact⟨v,l,k v H F n Gr.refl r j⟩
def WK(h:VE X md P e m):SE X md P e m:=h.imp λσ H Q q=>by
 obtain⟨ρ,O,F,b,d,j,r,s,e,k⟩:=q;exact⟨ρ,_,F,b,_,_,r,s,e,λv c f i g a hv=>k v c f _ g a (.inl hv)⟩
def yo(h:SE X md P e m):VE X md P e (mG m):=h.imp λσ H Q q=>by
 obtain⟨ρ,O,F,c,d,l,r,s,e,k⟩:=q;obtain⟨e,b⟩:=GJ e;exact⟨ρ,_,F,c,_,_,r,s,e,λv f i j g a hv=>k v f i _ g a (Sv.rp hv b)⟩
def WL(h:VE X md P e m):OE X md P e (mG m):=h.imp λσ H Q q=>by
 obtain⟨ρ,O,F,i,d,n,r,s,e,k⟩:=q;obtain⟨e,f⟩:=GJ e;exact⟨ρ,_,F,i,_,_,r,s,e,λv j l a g b c=>k v j l a g b (.inl ⟨f,c⟩)⟩
def WM(h:OE X md P e m):VE X md P e m:=h.imp λσ H Q q=>by
 obtain⟨ρ,O,F,x,d,A,r,s,e,k⟩:=q;refine⟨ρ,_,F,x,_,_,r,s,e,λv n f c g l hv=>?_⟩
 rcases hv with⟨_,hv⟩ | ⟨a,j,y,rfl,rfl,w,i,t,e6,p⟩
 ·exact k v n f c g l hv
 ·have o:Dx f (DB f a (.lst j)):=λb u q=>by rw[aH (cj q i)];exact q
  refine k _ n (DB f a (.lst j)) c (g.Pp e6 i) (l.Pp w i t rfl) (Rp.mkL (.inl (.inl bG)) (Rps.mono o (λ_ _ z=>z) _ p))
def rE(h:PE X e (tC v))(b:∀K F a,Rp K F a v d):VE X md P e (mC d):=h.imp λσ H Q q=>by
 obtain⟨ρ,O,F,a,d,c,r,s,e,k⟩:=q;cases e;exact k v H F a Gr.refl r (b _ _ _)
def WN:VE X md P (.Constant (.int i) j a) (mC (.int i)):=rE Ru λ_ _ _=>Rp.int
def WQ:VE X md P (.Constant (.bool b) j a) (mC (.bl b)):=rE Rv λ_ _ _=>Rp.bl
def WR:VE X md P (.Constant .none j a) (mC .Pl):=rE Rw λ_ _ _=>Rp.Pl
def WT(l:List Nat)(a:x=S l:=by decide +kernel):VE X md P (.Constant (.str x) j pos) (mC (.str l)):=rE En λ_ _ _=>by rw[a];exact Rp.str
def GK{md:List Md}{P:Pt} {a:Pos}(h:∃u,X.mg x=some u/\C6 v u)(e:∀K F f,Rp K F f v d)(c:Gl X x:=by rfl)(b:SV x:=by decide):VE X md P (.Name x a) (mC d):=rE (Gy h c b) e
def ao:M (List D):=λ_ O=>.ok [] O
def aj(m:M D)(r:M (List D)):M (List D):=λρ O=>(m ρ O).bind λd O1=>(r ρ O1).bind λds a=>.ok (d::ds) a
def GP:AE X md P [] [] ao:=fK.imp λσ H Q q=>by
 obtain⟨ρ,O,F,a,d,b,r,s,e,k⟩:=q;cases e;exact k [] H F a Gr.refl r trivial
def rA.gr{K:Frag} (h:rA K m N H F as v d)(g:Gr H F as H' F' as'):rA K m (λ_=>True) H' F' as' v d:=by
 cases m with
 |v=>exact Rp.gr (show Rp K F as v d from h) g
 |s=>exact Sv.gr (show Sv K H F as v d from h) g
 |o=>exact Sv.gr (show Sv K H F as v d from h) g
theorem cz.gr{K:Frag} (g:Gr H F as H' F' as'):∀{b:List Md}{a:List V}{c:List D},cz K H F as b a c->cz K H' F' as' b a c
 | [],[],[],_=>trivial
 |m::b,v::a,d::c,h=>⟨rA.gr h.1 g,cz.gr g h.2⟩
 | [],[],_::_,h=>h.elim
 | [],_::_,[],h=>h.elim
 | [],_::_,_::_,h=>h.elim
 | _::_,[],[],h=>h.elim
 | _::_,[],_::_,h=>h.elim
 | _::_,_::_,[],h=>h.elim
def GQ(a:Md) (h:XE X md P (rA X.K a) e m)(o:AE X md P L J r)
  (hs:SW X.env e J:=by exact bT rfl):AE X md P (a::L) (e::J) (aj m r):=(dZ h o hs).imp λσ H Q q=>by
 obtain⟨ρ,O,F,u,d,G,l,s,e,k⟩:=q;obtain⟨d,E,t,e⟩:=C8.Pi e;obtain⟨z,C,p,e⟩:=C8.Pi e;cases e;refine⟨ρ,_,F,u,_,_,l,s,t,λv I y c g j n=>?_⟩;refine⟨ρ,_,y,c,_,_,j,s.step g,p,λB w x A f i b=>?_⟩;exact k _ w x _ (g.trans f) i ⟨rA.gr n f,b⟩
def WW(h:VE X md P e m)(a:AE X md P ms b r)
  (hs:SW X.env e b:=by exact bT rfl):AE X md P (.v::ms) (e::b) (aj m r):=GQ .v h a hs
def GR(h:SE X md P e m)(a:AE X md P ms b r)
  (hs:SW X.env e b:=by exact bT rfl):AE X md P (.s::ms) (e::b) (aj m r):=GQ .s h a hs
theorem cz.rps{K:Frag}:∀{n:Nat}{a:List V}{b:List D},cz K H F as (List.replicate n .v) a b->Rps K F as a b
 | 0,[],[],_=>Rps.nil
 |n+1,v::a,d::b,h=>by
  rw[List.replicate_succ] at h;exact Rps.cons h.1 (cz.rps h.2)
 | 0,[],_::_,h=>h.elim
 | 0,_::_,[],h=>h.elim
 | 0,_::_,_::_,h=>h.elim
 |n+1,[],[],h=>h.elim
 |n+1,[],_::_,h=>h.elim
 |n+1,_::_,[],h=>h.elim
def bf(r:M (List D)):M D:=λρ O=>(r ρ O).bind λds a=>if ds.length<=1000000 then .ok (.lst ds) a else .no
def aU(r:M (List D)):M D:=λρ O=>(r ρ O).bind λds a=>if ds.length<=1000000 then .ok (.tup ds) a else .no
def fQ(h:n<=1000000):n<=sizeLine:=zJ h (by decide)
def WX(n:Nat)(h:AE X md P (List.replicate n .v) E r):OE X md P (.List E G) (bf r):=(Uw h).imp λσ H Q q=>by
 obtain⟨ρ,O,F,x,d,B,j,s,e,k⟩:=q;obtain⟨w,A,u,e⟩:=C8.Pi e;split at e
 ·rename_i l;cases e;refine⟨ρ,_,F,x,_,_,j,s,u,λi C c y g b m=>?_⟩;have f:=m.rps;refine⟨by rw[f.length];exact fQ l,λp a=>?_⟩
  have t:c p=none:=by
   cases q:c p with
   |none=>rfl
   |some o=>rw[b.fh p o q] at a;cases a
  refine k _ _ c _ (g.trans (Gr.lay a)) (b.lay a) (.inr ⟨p,i,w,rfl,rfl,bG,t,λz=>b.all z a,g.dm p a,f⟩)
 ·cases e
def WY(n:Nat)(h:AE X md P (List.replicate n .v) J r):VE X md P (.Tuple J N L) (aU r):=(Uv h).imp λσ H Q q=>by
 obtain⟨ρ,O,F,A,d,G,m,s,e,k⟩:=q;obtain⟨C,E,y,e⟩:=C8.Pi e;split at e
 ·rename_i t;cases e;refine⟨ρ,_,F,A,_,_,m,s,y,λl I c B j f w=>?_⟩;have i:=w.rps;refine⟨by rw[i.length];exact fQ t,λp a=>?_⟩
  have g:c p=none:=by
   cases q:c p with
   |none=>rfl
   |some o=>rw[f.fh p o q] at a;cases a
  have x:Dx c (DB c p (.tup l)):=λb u q=>by rw[aH (cj q g)];exact q
  refine k _ _ _ _ ((j.trans (Gr.lay a)).Pp (j.dm p a) g) ((f.lay a).Pp bG g (λz=>f.all z a) rfl) (Rp.Sm (.inl bG) (Rps.mono x (λ_ _ z=>z) _ i))
 ·cases e
inductive rD (K:Frag) (mg:Str->Option Value) (g:D->D->Option D) (x:V) (y:V) (H:Hp) (Q:VK):Prop
 |mk:∀O F as dx dy d,DD K mg O H F as->Lk K H F as x dx->Lk K H F as y dy->g dx dy=some d->(∀v' H' F',Gr H F as H' F' as->DD K mg O H' F' as->Ow K (λa=>H a=none) H' F' as v' d->Q v' H')->rD K mg g x y H Q
abbrev E6(X:Cx)(f:Value->Value->Sem Value)(g:D->D->Option D):Prop:=EB X f (rD X.K X.mg g)
def ak(g:D->D->Option D)(ma mb:M D):M D:=λρ O=>(ma ρ O).bind λx O1=>(mb ρ O1).bind λy a=>match g (aZ a x) (aZ a y) with
 |some d=>.ok d a
 |none=>.no
def yp{K:Frag} (h:tM K Z md P (rO K) (ak g ma mb) σ H Q):Jn (rD K Z g) (tM K Z md P (rS K) ma) (tM K Z md P (rS K) mb) σ H Q:=by
 obtain⟨ρ,O,F,C,d,U,r,l,e,k⟩:=h;obtain⟨x,T,B,e⟩:=C8.Pi e;obtain⟨y,N,A,e⟩:=C8.Pi e;split at e
 ·rename_i L t;cases e;refine⟨ρ,_,F,C,_,_,r,l,B,λv Y I j f n q=>?_⟩;refine⟨ρ,_,I,j,_,_,n,l.step f,A,λu W G i c b s=>?_⟩;refine⟨_,G,i,_,_,_,b,Sv.lk (Sv.gr q c) b,Sv.lk s b,t,λm E J z o p=>?_⟩;exact k m E J _ ((f.trans c).trans z) o (gQ _ _ _ _ _ _ _ (λa w=>(f.trans c).dm a w) p)
 ·cases e
def oX(a:E6 X (binaryOp c) g)(b:SE X md P f d)(hb:SE X md P e mb):OE X md P (.BinOp f c e h) (ak g d mb):=
 (Ti a b hb).imp λ_ _ _=>yp
def GX(a:E6 X (compareOp e) g)(d:SE X md P i h)(c:SE X md P f mb)(b:behindInMarks e f=false):OE X md P (.Compare i [e] [f] j) (ak g h mb):=
 (T3 a d c b).imp λ_ _ _=>yp
def az(m:M D):M Bool:=λρ O=>(m ρ O).bind λd a=>match d with
 | .bl b=>.ok b a
 | _=>.no
def oY{K:Frag} (h:FU K mg md P (az m) σ H Q):ur (tM K mg md P (rO K) m) σ H Q:=by
 obtain⟨ρ,O,F,n,d,w,r,f,e,k⟩:=h;obtain⟨d,u,l,e⟩:=C8.Pi e
 cases d with
 |bl c =>
  cases e;refine⟨ρ,_,F,n,_,_,r,f,l,λv o p q i g b=>?_⟩
  rcases b with⟨_,b⟩ | ⟨a,s,t,_,j,_⟩
  ·exact⟨_,b.QI,k o p _ i g⟩
  ·cases j
 | _=>cases e
def rF(a:E6 X (compareOp e) g)(d:SE X md P j i)(c:SE X md P f mb)(b:behindInMarks e f=false):TsE X md P (.Compare j [e] [f] k) (az (ak g i mb)):=
 (Fj a d c b).imp λσ H Q h=>by
  have q:=oY h;exact yp q
def gG(g f:D->D->Option D)(e mb c:M D):M D:=λρ O=>(e ρ O).bind λx h=>(mb ρ h).bind λy a=>match g (aZ a x) (aZ a y) with
 |some (.bl true)=>(c ρ a).bind λz b=>match f (aZ b y) (aZ b z) with
  |some d=>.ok d b
  |none=>.no
 |some (.bl false)=>.ok (.bl false) a
 | _=>.no
def GZ{K:Frag} (h:tM K mg md P (rO K) (gG g i ma mb mc) σ H Q):
  xH (rD K mg g) (rD K mg i) (tM K mg md P (rS K) ma) (tM K mg md P (rS K) mb) (tM K mg md P (rS K) mc) σ H Q:=by
 obtain⟨ρ,O,F,as,d,O',r,l,e,k⟩:=h;obtain⟨x,O1,e1,e⟩:=C8.Pi e;obtain⟨y,O2,e2,e⟩:=C8.Pi e;refine⟨ρ,_,F,as,_,_,r,l,e1,λv H1 F1 G t Y I=>?_⟩;refine⟨ρ,_,F1,G,_,_,Y,l.step t,e2,λu H2 L c j f o=>?_⟩;split at e
 ·rename_i p;obtain⟨z,O3,e3,e⟩:=C8.Pi e;refine⟨_,L,c,_,_,_,f,Sv.lk (Sv.gr I j) f,Sv.lk o f,p,λU J A i n b=>?_⟩
  rcases b with⟨_,b⟩ | ⟨a,N,ds,_,z,_⟩
  ·refine⟨true,b.QI,?_⟩;split at e
   ·rename_i d' C;cases e;have s:=(t.trans j).trans i;refine⟨ρ,_,A,c,_,_,n,l.step s,e3,λw H4 F4 E q m Z=>?_⟩;refine⟨_,F4,E,_,_,_,m,Sv.lk (Sv.gr (Sv.gr o i) q) m,Sv.lk Z m,C,λT H5 F5 g5 W B=>?_⟩;exact k T H5 F5 _ ((s.trans q).trans g5) W (gQ _ _ _ _ _ _ _ (λa ha=>(s.trans q).dm a ha) B)
   ·cases e
  ·cases z
 ·rename_i p;cases e;refine⟨_,L,c,_,_,_,f,Sv.lk (Sv.gr I j) f,Sv.lk o f,p,λU J A i n b=>?_⟩
  rcases b with⟨_,b⟩ | ⟨a,N,ds,_,z,_⟩
  ·refine⟨false,b.QI,?_⟩;exact k _ J A _ ((t.trans j).trans i) n (.inl ⟨rfl,Rp.bl⟩)
  ·cases z
 ·cases e
def W0(e:E6 X (compareOp l) g)(d:E6 X (compareOp k) o)(j:SE X md P a n)(i:SE X md P b mb)(h:SE X md P c m)
  (f:lastMarks [l,k] [b,c]=false:=by with_unfolding_all rfl):OE X md P (.Compare a [l,k] [b,c] pos) (gG g o n mb m):=(T4 e d j i h f).imp λ_ _ _=>GZ
def W2(e:E6 X (compareOp m) g)(d:E6 X (compareOp l) p)(k:SE X md P a o)(j:SE X md P b mb)(i:SE X md P c n)
  (f:lastMarks [m,l] [b,c]=false:=by with_unfolding_all rfl):TsE X md P (.Compare a [m,l] [b,c] pos) (az (gG g p o mb n)):=(T5 e d k j i f).imp λ_ _ _ h=>GZ (oY h)
def D6:D->Bool
 | .Pl=>true
 | _=>false
def jz(m:M D):M D:=λρ O=>(m ρ O).bind λd a=>.ok (.bl (D6 d)) a
def lF(m:M D):M D:=λρ O=>(m ρ O).bind λd a=>.ok (.bl (!D6 d)) a
def Sv.isN{K:Frag} (h:Sv K H F f v d):decide (v=.Pl)=D6 d:=by
 rcases h with h | ⟨a,c,e,rfl,rfl,_⟩
 ·cases d with
  |Pl=>rw[h.Sl];rfl
  |bl b=>rw[h.QI];rfl
  |int b=>rw[h.PD];rfl
  |str b=>rw[h.PZ];rfl
  |lst b=>obtain⟨a,c,rfl,_⟩:=h.Sr;rfl
  |tup b=>obtain⟨a,c,rfl,_⟩:=h.QR;rfl
  |QP k b=>obtain⟨a,c,rfl,_⟩:=h.unD;rfl
  |ob b=>obtain⟨a,rfl,_⟩:=h.Qo;rfl
 ·rfl
def W3{K:Frag} (h:tM K q md P (rO K) (jz m) σ H Q):Eo (tM K q md P (rS K) m) σ H Q:=by
 obtain⟨ρ,O,F,i,d,p,r,a,e,k⟩:=h;obtain⟨x,o,g,e⟩:=C8.Pi e;cases e;refine⟨ρ,_,F,i,_,_,r,a,g,λv j l n f b c=>?_⟩;rw[Sv.isN c];exact k _ j l _ f b (.inl ⟨rfl,Rp.bl⟩)
def W4{K:Frag} (h:tM K q md P (rO K) (lF m) σ H Q):Ep (tM K q md P (rS K) m) σ H Q:=by
 obtain⟨ρ,O,F,i,d,p,r,a,e,k⟩:=h;obtain⟨x,o,g,e⟩:=C8.Pi e;cases e;refine⟨ρ,_,F,i,_,_,r,a,g,λv j l n f b c=>?_⟩;rw[Sv.isN c];exact k _ j l _ f b (.inl ⟨rfl,Rp.bl⟩)
def G3(h:∀a,t σ H a->b σ H a)(q:ur t σ H Q):tB b σ H Q:=h _ q
def W5(h:SE X md P a m):TsE X md P (.Compare a [.Is] [.Constant .none j b] c) (az (jz m)):=(xx (RB h)).imp λ_ _ _ q=>G3 (λ_=>W3) (oY q)
def W7(h:SE X md P a m):TsE X md P (.Compare a [.IsNot] [.Constant .none j b] c) (az (lF m)):=(xx (RC h)).imp λ_ _ _ q=>G3 (λ_=>W4) (oY q)
def mR:D->Option Bool
 | .Pl=>some false
 | .bl b=>some b
 | .int i=>some (i != 0)
 | .str l=>if l.length<=1000000 then some (!l.isEmpty) else none
 | .lst ds=>some (!ds.isEmpty)
 | .tup ds=>some (!ds.isEmpty)
 | .QP ks _=>some (!ks.isEmpty)
 | .ob _=>none
def bI(m:M D):M Bool:=λρ O=>(m ρ O).bind λd a=>match mR (aZ a d) with
 |some b=>.ok b a
 |none=>.no
def G4{α β:Type}{b:List α}{a:List β}(h:b.length=a.length):(!b.isEmpty) = !a.isEmpty:=by
 cases b<;>cases a<;>simp_all
def Lk.tru{K:Frag} (h:Lk K H F as v d)(fh:Dx F H)(e:mR d=some b):xJ K v H b:=by
 cases d with
 |Pl=>rw[(h.rp rfl).Sl];cases e;rfl
 |bl b=>rw[(h.rp rfl).QI];cases e;rfl
 |int b=>rw[(h.rp rfl).PD];cases e;rfl
 |str l =>
  rw[(h.rp rfl).PZ];simp only[mR] at e;split at e
  ·rename_i k;cases e;refine⟨by rw[fO];exact fQ k,?_⟩;rw[fO]
   cases l with
   |nil=>rfl
   |cons c l =>
    have:((((c::l).length:Nat):Int) != 0)=true:=by
     rw[bne_iff_ne,zu];omega
    rw[this];rfl
  ·cases e
 |lst ds =>
  obtain⟨a,j,rfl,f,i⟩:=h.list fh;cases e;exact .inl ⟨j,f.sq,(G4 i.length).symm⟩
 |tup ds =>
  obtain⟨a,j,rfl,f,i⟩:=(h.rp rfl).QR;cases e;exact .inr (.inl ⟨j,Dx.PY fh f,(G4 i.length).symm⟩)
 |QP ks vs =>
  obtain⟨a,g,rfl,f,rfl,i⟩:=(h.rp rfl).unD;cases e;exact .inr (.inr ⟨g,fh _ _ f,by cases g<;>rfl⟩)
 |ob n=>cases e
def W8(h:SE X md P a m)(j:∀b,isTrue a X.env b=(do let v <-b;standAt a.pos;holding [v] (truthy v)):=by intro _;rfl):TsE X md P a (bI m):=(T7 h j).imp λσ H Q q=>by
 obtain⟨ρ,O,F,p,d,x,r,g,e,k⟩:=q;obtain⟨d,w,o,e⟩:=C8.Pi e;split at e
 ·rename_i c l;cases e;exact⟨ρ,_,F,p,_,_,r,g,o,λv s t u n f i=>⟨_,Lk.tru (Sv.lk i f) f.fh l,k s t _ n f⟩⟩
 ·cases e
def bZ(a b:M Bool):M Bool:=λρ O=>(a ρ O).bind λc d=>if c=true then b ρ d else .ok false d
def cJ(a b:M Bool):M Bool:=λρ O=>(a ρ O).bind λc d=>if c=true then .ok true d else b ρ d
def d7(a:M Bool):M Bool:=λρ O=>(a ρ O).bind λc b=>.ok (!c) b
def W9{K:Frag} (h:FU K mg md P (bZ ma mb) σ H Q):Er (FU K mg md P ma) (FU K mg md P mb) σ H Q:=by
 obtain⟨ρ,O,F,n,d,u,r,f,e,k⟩:=h;obtain⟨c,t,m,e⟩:=C8.Pi e;refine⟨ρ,_,F,n,_,_,r,f,m,λp i b a g=>?_⟩
 cases c with
 |true =>
  exact⟨ρ,_,i,b,_,_,g,f.step a,e,λo q s l j=>k o q _ (a.trans l) j⟩
 |false =>
  cases e;exact k p i _ a g
def Xa{K:Frag} (h:FU K mg md P (cJ ma mb) σ H Q):MR (FU K mg md P ma) (FU K mg md P mb) σ H Q:=by
 obtain⟨ρ,O,F,n,d,u,r,f,e,k⟩:=h;obtain⟨c,t,m,e⟩:=C8.Pi e;refine⟨ρ,_,F,n,_,_,r,f,m,λp i b a g=>?_⟩
 cases c with
 |true =>
  cases e;exact k p i _ a g
 |false =>
  exact⟨ρ,_,i,b,_,_,g,f.step a,e,λo q s l j=>k o q _ (a.trans l) j⟩
def Xb(h:TsE X md P a m):TwE X md P (.BoolOp .And [a] b) m:=RG h
def Xd(h:TsE X md P a m):TwE X md P (.BoolOp .Or [a] b) m:=RJ h
def Xe{rest:List Expr} (d:TsE X md P a f)(c:TwE X md P (.BoolOp .And (b::rest) e) mb):TwE X md P (.BoolOp .And (a::b::rest) e) (bZ f mb):=(RK d c).imp λ_ _ _=>W9
def Xf{rest:List Expr} (d:TsE X md P a f)(c:TwE X md P (.BoolOp .Or (b::rest) e) mb):TwE X md P (.BoolOp .Or (a::b::rest) e) (cJ f mb):=(RL d c).imp λ_ _ _=>Xa
def Xg(h:TwE X md P e m):TsE X md P e m:=PW.pt h
def Xh(h:TsE X md P a m):TsE X md P (.UnaryOp .Not a l) (d7 m):=(RM h).imp λσ H Q q=>by
 obtain⟨ρ,O,F,g,d,j,r,b,e,k⟩:=q;obtain⟨c,i,f,e⟩:=C8.Pi e;cases e;exact⟨ρ,_,F,g,_,_,r,b,f,k⟩
def fU(b mb:M D):M D:=λρ O=>(b ρ O).bind λd a=>match d with
 | .bl true=>mb ρ a
 | .bl false=>.ok (.bl false) a
 | _=>.no
def yq(a:M D):M D:=λρ O=>(a ρ O).bind λd c=>match d with
 | .bl b=>.ok (.bl (!b)) c
 | _=>.no
def Xi(h:VE X md P a m):VE X md P (.BoolOp c [a] b) m:=RQ h
theorem Xj{rest:List Expr} (o:VE X md P a ma)(hb:VE X md P (.BoolOp .And (b::rest) pos) mb):VE X md P (.BoolOp .And (a::b::rest) pos) (fU ma mb):=(RT o hb).imp λσ H Q q=>by
 obtain⟨ρ,O,F,t,d,B,r,i,e,k⟩:=q;obtain⟨x,A,s,e⟩:=C8.Pi e;refine⟨ρ,_,F,t,_,_,r,i,s,λv w l h f j hv=>?_⟩
 cases x with
 |bl c =>
  refine⟨c,Rp.QI hv,?_⟩
  cases c with
  |true =>
   exact⟨ρ,_,l,h,_,_,j,i.step f,e,λm u y z p n g=>k m u y _ (f.trans p) n g⟩
  |false =>
   cases e;exact k _ w l _ f j Rp.bl
 | _=>cases e
theorem Xk(h:VE X md P a m):VE X md P (.UnaryOp .Not a pos) (yq m):=(RV h).imp λσ H Q q=>by
 obtain⟨ρ,O,F,j,d,s,r,b,e,k⟩:=q;obtain⟨x,p,i,e⟩:=C8.Pi e;refine⟨ρ,_,F,j,_,_,r,b,i,λv l n o g f hv=>?_⟩
 cases x with
 |bl c =>
  cases e;exact⟨c,Rp.QI hv,k _ l n _ g f Rp.bl⟩
 | _=>cases e
def EW(t:M Bool)(a b:M D):M D:=λρ O=>(t ρ O).bind λc d=>if c=true then a ρ d else b ρ d
theorem Xl(s:eX R) (o:TsE X md P c mc)(f:PE X a (tM X.K X.mg md P R ma))(p:PE X b (tM X.K X.mg md P R mb)):PE X (.IfExp c a b pos) (tM X.K X.mg md P R (EW mc ma mb)):=(Es o f p).imp λσ H Q q=>by
 obtain⟨ρ,O,F,v,d,C,r,j,e,k⟩:=q;obtain⟨x,B,u,e⟩:=C8.Pi e;refine⟨ρ,_,F,v,_,_,r,j,u,λE z i g n=>?_⟩
 cases x with
 | true
 |false =>
  exact⟨ρ,_,z,i,_,_,n,j.step g,e,λl w y A t m h=>k l w y _ (g.trans t) m (s _ _ _ _ _ _ _ (λa f=>g.dm a f) h)⟩
def Xm(d:TsE X md P c f)(e:VE X md P a g)(hb:VE X md P b mb):VE X md P (.IfExp c a b h) (EW f g mb):=Xl iZ d e hb
end
def DV.set{K:Frag} (s:DV K N P ρ σ H F O)(p:N[i]?=some m)(A:m≠.s)(J:iC P K H F O m v d)
  (B:∀(a:Addr)(ds:List D)(j:Nat)(es:List D),m=.o->v=.ref a->d=.lst ds->i≠j->N[j]?=some .o->ρ[j]?=some (some (.lst es))->σ[j]?≠some (some (.ref a))):DV K N P (ρ.set i (some d)) (σ.set i (some v)) H F O:=by
 have e:i<N.length:=(zx.mp p).1;refine⟨by rw[zX];exact s.len,by rw[zX];exact s.P9,s.pd,λj G L y u=>?_,λj k a ds es t r n l g f=>?_,λx I=>?_⟩
 ·by_cases h:i=j
  ·subst h;rw[p] at y;cases y;rw[zU (by rw[s.P9];exact e)] at u;cases u;exact⟨v,zU (by rw[s.len];exact e),J⟩
  ·rw[zi h] at u;rw[zi h];exact s.sl j G L y u
 ·by_cases c:i=j
  ·by_cases b:i=k
   ·rw[<-c,<-b]
   ·exfalso
    subst c;rw[p] at t;cases t;rw[zU (by rw[s.P9];exact e)] at n;rw[zU (by rw[s.len];exact e)] at g;rw[zi b] at l f;cases n;cases g;exact B a ds k es rfl rfl rfl b r l f
  ·by_cases b:i=k
   ·exfalso
    subst b;rw[p] at r;cases r;rw[zU (by rw[s.P9];exact e)] at l;rw[zU (by rw[s.len];exact e)] at f;rw[zi c] at n g;cases l;cases f;exact B a es j ds rfl rfl rfl c t n g
   ·rw[zi c] at n g;rw[zi b] at l f;exact s.inj j k a ds es t r n l g f
 ·obtain⟨w,E,C⟩:=s.pin x I
  have q:i≠x.1:=λz=>by
   rw[<-z,p] at w;exact A (zF w)
  exact⟨w,by rw[zi q];exact E,by rw[zi q];exact C⟩
def DV.SL{K:Frag} (s:DV K c P ρ σ H F e)(b:c[i]?=some .v)(a:Rp K F e v d):DV K c P (ρ.set i (some d)) (σ.set i (some v)) H F e :=
 s.set b (by decide) a λ_ _ _ _ z=>nomatch z
def DV.setN{K:Frag} (s:DV K e P ρ σ H F f)(c:e[i]?=some .o)(a:iY d=true)(b:Rp K F f v d):DV K e P (ρ.set i (some d)) (σ.set i (some v)) H F f :=
 s.set c (by decide) (.inl ⟨a,b⟩) λ_ _ _ _ _ _ z=>by subst z;cases a
def DV.setO{K:Frag} (s:DV K J P ρ σ L F Q)(g:Gr L F Q N O I)(h:J[i]?=some .o)(c:Ow K (λa=>L a=none) N O I v d):DV K J P (ρ.set i (some d)) (σ.set i (some v)) N O I:=by
 have s':=s.step g
 rcases c with⟨n,c⟩ | ⟨a,m,z,rfl,rfl,y,x,w,e6,u⟩
 ·exact s'.setN h n c
 ·refine s'.set h (by decide) (.inr ⟨a,m,z,rfl,rfl,y,x,w,λp=>s.pd a p e6,u⟩) λb C j G _ t E B q r hs=>?_
  cases t;obtain⟨v,k,e⟩:=s.sl j .o _ q r;rw[hs] at k;cases k
  rcases e with⟨e,_⟩ | ⟨H,A,_,l,_,f,_⟩
  ·cases e
  ·cases l;rw[e6] at f;cases f
section
variable {X:Cx}{md:List Md}{P:Pt}{R:RR}
def aK:MS:=λρ O=>.nx ρ O
def aq(a b:MS):MS:=λρ O=>match a ρ O with
 | .nx ρ' O'=>b ρ' O'
 |r=>r
def Xn:VSs X md P R [] aK:=R1.imp λD σ H q=>by
 obtain⟨ρ,O,F,a,r,s,k⟩:=q;exact k σ H F a D7.refl r s
def mU{K:Frag} {D:EL} (g:D7 P H F as H1 F1 as1) (k:jX K mg md P R D H F as f):jX K mg md P R D H1 F1 as1 f:=by
 cases f with
 | nx
 | bk
 | ct
 |rt =>exact λd b c e a=>k _ b c _ (g.trans a)
 | ex
 |no=>exact k
theorem Xo{st:Stmt}{rest:List Stmt} (i:VS X md P R st a)(h:VSs X md P R rest b):VSs X md P R (st::rest) (aq a b):=(R3 i h).imp λD σ H q=>by
 obtain⟨ρ,O,F,j,r,s,k⟩:=q;refine⟨ρ,O,F,j,r,s,?_⟩;unfold aq at k
 cases e:a ρ O with
 |nx ρ' O' =>
  rw[e] at k
  exact λm n l c g f d=>⟨ρ',O',l,c,f,d,mU g k⟩
 | bk
 | ct
 | rt
 | ex
 |no=>rw[e] at k;exact k
def Xp{st:Stmt} (b:VS X md P R st a):VSs X md P R [st] a:=R4 b
def G5:MS:=λρ O=>.bk ρ O
def Xq{a:Pos}:VS X md P R (.Break a) G5:=R6.imp λD σ H q=>by
 obtain⟨ρ,O,F,b,r,s,k⟩:=q;exact k σ H F b D7.refl r s
def iD:MS:=λ_ _=>.no
def Xr{st:Stmt}:VS X md P R st iD:=Sh.imp λD σ H q=>by
 obtain⟨ρ,O,F,a,r,s,k⟩:=q;exact False.elim k
def dY(m:M D):MS:=λρ O=>match m ρ O with
 | .ok _ O'=>.nx ρ O'
 | .ex x O'=>.ex x O'
 | .no=>.no
def Xu(h:SE X md P e m)(hs:swapsWith e none pos.line X.env=pure false:=by rfl):VS X md P R (.Expr e pos) (dY m):=(oM h hs).imp λD σ H q=>by
 obtain⟨ρ,O,F,a,r,s,k⟩:=q;unfold dY at k
 cases e:m ρ O with
 |ok =>
  rw[e] at k;exact⟨ρ,_,F,a,_,_,r,s,e,λv H' F' as' g r' _=>k σ H' F' _ g.toS r' (s.step g)⟩
 | ex
 |no=>rw[e] at k;exact False.elim k
def aB(m:M D):MS:=λρ O=>match m ρ O with
 | .ok d O'=>.rt d O'
 | .ex x O'=>.ex x O'
 | .no=>.no
theorem G6(f:eX R) (h:PE X e (tM X.K X.mg md P R m)):VS X md P R (.Return (some e) pos) (aB m):=(xA h).imp λD σ H q=>by
 obtain⟨ρ,O,F,i,r,s,k⟩:=q;unfold aB at k
 cases e:m ρ O with
 |ok =>
  rw[e] at k;exact⟨ρ,_,F,i,_,_,r,s,e,λv j l n g b c=>k v j l _ g.toS b (f _ _ _ _ _ _ _ (λa d p=>s.pd a p d) c)⟩
 | ex
 |no=>rw[e] at k;exact False.elim k
def Xv(h:VE X md P e m):VS X md P (rV X.K) (.Return (some e) a) (aB m):=G6 iZ h
def Xw(h:OE X md P e m):VS X md P (rO X.K) (.Return (some e) a) (aB m):=G6 gQ h
def Xx{X:Cx}{P:Pt}(i:Nat){x:Str}{p f:Pos}(j:md[i]?=some .o:=by rfl)(m:X.N[i]?=some x:=by rfl)(hv:G0 X.env.scope x:=by first | exact Or.inl rfl | exact Or.inr (Or.inl rfl) | exact Or.inr (Or.inr rfl))
  (l:SV x:=by decide) (g:(x == ("__classdict__":Str))=false:=by decide):VS X md P (rO X.K) (.Return (some (.Name x p)) f) (aB (aa i)):=(xA (jP (i:=i) m hv l g)).imp λD σ H q=>by
 obtain⟨ρ,O,F,B,r,s,k⟩:=q;unfold aB at k
 cases e:aa i ρ O with
 |ok d C =>
  rw[e] at k;obtain⟨c,rfl⟩:=rm e;obtain⟨v,n,b⟩:=s.sl i .o d j c;refine⟨v,n,k v H F B D7.refl r ?_⟩
  rcases b with b | ⟨a,h,A,c,y,w,z,u,t,e6⟩
  ·exact .inl b
  ·exact .inr ⟨a,h,A,c,y,w,z,u,t,e6⟩
 |ex x C=>rw[e] at k;exact False.elim k
 |no=>rw[e] at k;exact False.elim k
def aF(t:M Bool)(a b:MS):MS:=λρ O=>match t ρ O with
 | .ok c O'=>if c=true then a ρ O' else b ρ O'
 | .ex x O'=>.ex x O'
 | .no=>.no
theorem Xy(h:TsE X md P c t)(i:VSs X md P R a ma)(hb:VSs X md P R b mb):VS X md P R (.If c a b pos) (aF t ma mb):=(Sd h i hb).imp λD σ H q=>by
 obtain⟨ρ,O,F,j,r,s,k⟩:=q;unfold aF at k
 cases e:t ρ O with
 |ok c O' =>
  rw[e] at k;refine⟨ρ,_,F,j,_,_,r,s,e,λm l d g f=>?_⟩
  cases c with
  | true
  |false =>
   exact⟨ρ,O',l,d,f,s.step g,mU g.toS k⟩
 | ex
 |no=>rw[e] at k;exact False.elim k
def aA(i:Nat)(m:M D):MS:=λρ O=>match m ρ O with
 | .ok d O'=>.nx (ρ.set i (some d)) O'
 | .ex x O'=>.ex x O'
 | .no=>.no
def G7{K:Frag} (d:md[i]?=some .v)(c:∀σ H Q,tM K mg md P (rV K) m σ H Q->t σ H Q){D:EL} (q:F9 K mg md P R (aA i m) D σ H):qQ t (qP i) D σ H:=by
 obtain⟨ρ,O,F,f,r,s,k⟩:=q;unfold aA at k
 cases e:m ρ O with
 |ok =>
  rw[e] at k;exact c _ _ _ ⟨ρ,_,F,f,_,_,r,s,e,λv h j l g a b=>k _ h j _ g.toS a ((s.step g).SL d b)⟩
 | ex
 |no=>rw[e] at k;exact False.elim k
def G8{K:Frag} (d:md[i]?=some .o)(c:∀σ H Q,tM K mg md P (rO K) m σ H Q->t σ H Q){D:EL} (q:F9 K mg md P R (aA i m) D σ H):qQ t (qP i) D σ H:=by
 obtain⟨ρ,O,F,f,r,s,k⟩:=q;unfold aA at k
 cases e:m ρ O with
 |ok =>
  rw[e] at k;exact c _ _ _ ⟨ρ,_,F,f,_,_,r,s,e,λv h j l g a b=>k _ h j _ g.toS a (s.setO g d b)⟩
 | ex
 |no=>rw[e] at k;exact False.elim k
def Xz{R:RR} {b a:Pos} (g:X.N.Nodup)(f:X.N[i]?=some x)(c:HI X.env.scope x)(h:VE X md P e m)(d:md[i]?=some .v:=by rfl)(hs:swapsWith e (some (.Name x a)) b.line X.env=pure false:=by rfl)
  (j:X.fn x=true\/X.env.scope.names.lookup x=some .local:=by first | exact .inl rfl | exact .inr rfl | assumption):VS X md P R (.Assign [.Name x a] e b) (aA i m):=(Ex g f c h hs).imp λD σ H q=>G7 d (λ_ _ _ z=>z) q
def XC{R:RR} {b a:Pos} (g:X.N.Nodup)(f:X.N[i]?=some x)(c:HI X.env.scope x)(h:OE X md P e m)(d:md[i]?=some .o:=by rfl)(hs:swapsWith e (some (.Name x a)) b.line X.env=pure false:=by rfl)
  (j:X.fn x=true\/X.env.scope.names.lookup x=some .local:=by first | exact .inl rfl | exact .inr rfl | assumption):VS X md P R (.Assign [.Name x a] e b) (aA i m):=(Ex g f c h hs).imp λD σ H q=>G8 d (λ_ _ _ z=>z) q
abbrev MG:=D->aN->Option aN
inductive K2 (K:Frag) (mg:Str->Option Value) (md:List Md) (P:Pt) (g:MG) (v:V) (σ:St) (H:Hp) (Q:(St->Hp->Prop)):Prop
 | mk:∀ρ O F as d ρ',DD K mg O H F as->DV K md P ρ σ H F as->Rp K F as v d->g d ρ=some ρ'->(∀σ',DV K md P ρ' σ' H F as->Q σ' H)->K2 K mg md P g v σ H Q
inductive G9 (K:Frag) (mg:Str->Option Value) (md:List Md) (P:Pt) (g:List D->aN->Option aN) (vs:List V) (σ:St) (H:Hp) (Q:(St->Hp->Prop)):Prop
 | mk:∀ρ O F as ds ρ',DD K mg O H F as->DV K md P ρ σ H F as->Rps K F as vs ds->g ds ρ=some ρ'->(∀σ',DV K md P ρ' σ' H F as->Q σ' H)->G9 K mg md P g vs σ H Q
def VG(X:Cx)(md:List Md)(P:Pt)(a:Expr)(g:MG):Prop:=PG X a (K2 X.K X.mg md P g)
def VGs(X:Cx)(md:List Md)(P:Pt)(a:List Expr)(g:List D->aN->Option aN):Prop:=II X a (G9 X.K X.mg md P g)
def PG.imp(h:PG X e t)(k:∀v σ H Q,b v σ H Q->t v σ H Q):PG X e b:=λa s σ H v u Q I r q=>h a s σ H v u Q I r (k v σ H Q q)
def II.imp(h:II X e t)(k:∀v σ H Q,b v σ H Q->t v σ H Q):II X e b:=λa s σ H v u Q I r q=>h a s σ H v u Q I r (k v σ H Q q)
def C9(i:Nat):MG:=λd ρ=>some (ρ.set i (some d))
def XD{X:Cx}{P:Pt} {a:Pos}(h:X.N.Nodup)(g:X.N[i]?=some x)(b:HI X.env.scope x)(f:md[i]?=some .v:=by rfl)(l:X.fn x=true\/X.env.scope.names.lookup x=some .local:=by first | exact .inl rfl | exact .inr rfl | assumption):VG X md P (.Name x a) (C9 i):=
 (Sq h g b).imp λv σ H Q q=>by
  obtain⟨ρ,O,F,m,d,j,r,s,c,e,k⟩:=q;cases e;exact k _ (s.SL f c)
def cP:List D->aN->Option aN:=λds ρ=>match ds with
 | []=>some ρ
 | _=>none
def bh(g:MG)(r:List D->aN->Option aN):List D->aN->Option aN:=λds ρ=>match ds with
 |d::ds=>(g d ρ).bind λρ1=>r ds ρ1
 | []=>none
theorem XH:VGs X md P [] cP:=Sw.imp λv σ H Q q=>by
 obtain⟨ρ,O,F,d,b,c,r,s,a,e,k⟩:=q
 cases b with
 |nil=>cases e;exact⟨a.QL,k _ s⟩
 |cons =>cases e
def XJ(o:VG X md P e g)(n:VGs X md P t r)(hs:(assignEach (e::t) X.env).map (·.2)=assign e X.env::(assignEach t X.env).map (·.2):=by rfl):VGs X md P (e::t) (bh g r):=
 (Sx o n hs).imp λv σ H Q q=>by
  obtain⟨ρ,O,F,f,a,b,c,s,l,e,k⟩:=q
  cases a with
  |nil=>cases e
  |cons d a =>
   obtain⟨x,i,rfl,j,m⟩:=l.un;unfold bh at e
   dsimp at e
   cases e1:g d ρ with
   |none=>rw[e1] at e;cases e
   |some ρ1 =>
    rw[e1] at e;exact⟨x,i,rfl,ρ,O,F,f,d,ρ1,c,s,j,e1,λp h=>⟨ρ1,O,F,f,a,b,c,h,m,e,k⟩⟩
def cM(n:Nat)(r:List D->aN->Option aN):MG:=λd ρ=>match d with
 | .tup ds=>if ds.length=n then r ds ρ else none
 | _=>none
def XM{c:Pos}{k:Nat} (n:Nat)(p:X.calm=true)(h:VGs X md P w r)(m:(assignEach w X.env).length=n:=by rfl)(f:(assignEach w X.env).findIdx? (·.1)=none:=by rfl):VG X md P (.Tuple w k c) (cM n r):=
 (SJ p h m f).imp λv σ H Q q=>by
  obtain⟨ρ,O,F,u,d,b,g,s,l,e,k⟩:=q
  cases d with
  |tup ds =>
   obtain⟨a,j,rfl,t,i⟩:=l.QR;unfold cM at e
   dsimp at e
   split at e
   ·rename_i o;exact⟨a,j,rfl,Dx.PY g.fh t,by rw[i.length];exact o,ρ,O,F,u,ds,b,g,s,i,e,k⟩
   ·cases e
  | _=>cases e
def jY(m:M D)(g:MG):MS:=λρ O=>match m ρ O with
 | .ok d O'=>match g d ρ with
  |some a=>.nx a O'
  |none=>.no
 | .ex x O'=>.ex x O'
 | .no=>.no
def XN{R:RR} {a:Pos} (h:VE X md P e m)(n:VG X md P tg g)(hs:swapsWithSole [tg] e a.line X.env=pure false:=by rfl)(l:swappedStores [tg] e X.env=pure none:=by rfl)
  (o:(assignEach [tg] X.env).map (·.2)=[assign tg X.env]:=by rfl):VS X md P R (.Assign [tg] e a) (jY m g):=(Ew h n hs l o).imp λD σ H q=>by
 obtain⟨ρ,O,F,p,r,s,k⟩:=q;unfold jY at k
 cases e:m ρ O with
 |ok d O' =>
  rw[e] at k
  dsimp at k
  cases e2:g d ρ with
  |none=>rw[e2] at k;exact False.elim k
  |some ρ' =>
   rw[e2] at k;refine⟨ρ,_,F,p,_,_,r,s,e,λv t i b f c hv=>?_⟩;exact⟨ρ,O',i,b,d,ρ',c,s.step f,hv,e2,λu j=>k _ t i _ f.toS c j⟩
 | ex
 |no=>rw[e] at k;exact False.elim k
end
structure mV(K:Frag)(mg:Str->Option Value)(P:Pt)(J:It)(ds:List D)(H F:Hp)(as:List Addr):Prop where
 turn:∀(i:Nat)(d:D)(H2 F2:Hp)(as2:List Addr),D7 P H F as H2 F2 as2->(∃O,DD K mg O H2 F2 as2)->ds[i]?=some d->J.go i H2/\∀x H3,J.So i H2 x H3->∃F3,Gr H2 F2 as2 H3 F3 as2/\(∀O,DD K mg O H2 F2 as2->DD K mg O H3 F3 as2)/\Rp K F3 as2 x d
 stop:∀(H2 F2:Hp)(as2:List Addr),D7 P H F as H2 F2 as2->(∃O,DD K mg O H2 F2 as2)->J.stop ds.length H2
structure Ha(K:Frag)(mg:Str->Option Value)(J:It)(ds:List D)(H F:Hp)(as:List Addr):Prop where
 turn:∀(i:Nat)(d:D)(H2 F2:Hp)(as2:List Addr),Gr H F as H2 F2 as2->(∃O,DD K mg O H2 F2 as2)->ds[i]?=some d->J.go i H2/\∀x H3,J.So i H2 x H3->∃F3,Gr H2 F2 as2 H3 F3 as2/\(∀O,DD K mg O H2 F2 as2->DD K mg O H3 F3 as2)/\Rp K F3 as2 x d
 stop:∀(H2 F2:Hp)(as2:List Addr),Gr H F as H2 F2 as2->(∃O,DD K mg O H2 F2 as2)->J.stop ds.length H2
def mV.e{K:Frag} (h:mV K mg P J ds H F f):Ha K mg J ds H F f:=⟨λi d b c a g=>h.turn i d b c a g.toS,λb c a g=>h.stop b c a g.toS⟩
inductive yr (K:Frag) (mg:Str->Option Value) (md:List Md) (P:Pt) (m:M (List D)) (σ:St) (H:Hp) (Q:(It->Hp->Prop)):Prop
 | mk:∀ρ O F as ds O',DD K mg O H F as->DV K md P ρ σ H F as->m ρ O=.ok ds O'->(∀J H' F' as',Gr H F as H' F' as'->DD K mg O' H' F' as'->Ha K mg J ds H' F' as'->Q J H')->yr K mg md P m σ H Q
def VIc(X:Cx)(b:List Md)(P:Pt)(a iter:Expr)(m:M (List D)):Prop:=PI X a iter (yr X.K X.mg b P m)
inductive LO (K:Frag) (mg:Str->Option Value) (md:List Md) (P:Pt) (m:M (List D)) (σ:St) (H:Hp) (Q:(It->Hp->Prop)):Prop
 | mk:∀ρ O F as ds O',DD K mg O H F as->DV K md P ρ σ H F as->m ρ O=.ok ds O'->(∀J H' F' as',Gr H F as H' F' as'->DD K mg O' H' F' as'->mV K mg P J ds H' F' as'->Q J H')->LO K mg md P m σ H Q
def VI(X:Cx)(b:List Md)(P:Pt)(a iter:Expr)(m:M (List D)):Prop:=PI X a iter (LO X.K X.mg b P m)
def PI.imp(h:PI X b e t)(k:∀σ H Q,c σ H Q->t σ H Q):PI X b e c:=λa s σ H Q I q=>h a s σ H Q I (k σ H Q q)
def yt(h:VI X o P n e m):VIc X o P n e m:=h.imp λσ H Q q=>by
 obtain⟨ρ,O,F,d,c,f,r,s,e,k⟩:=q;exact⟨ρ,O,F,d,c,f,r,s,e,λJ i j l g a b=>k J i j _ g a b.e⟩
def bw(g:MG)(b:MS):List D->MS
 | [],ρ,O=>.nx ρ O
 |d::ds,ρ,O=>match g d ρ with
  |none=>.no
  |some ρ1=>match b ρ1 O with
   | .nx ρ2 O2=>bw g b ds ρ2 O2
   | .ct ρ2 O2=>bw g b ds ρ2 O2
   | .bk ρ2 O2=>.nx ρ2 O2
   |r=>r
def bV(m:M (List D))(g:MG)(b:MS):MS:=λρ O=>match m ρ O with
 | .ok ds O'=>bw g b ds ρ O'
 | .ex x O'=>.ex x O'
 | .no=>.no
def XQ{K:Frag} {D:EL} (q:F9 K mg md P R (bV m g b) D σ H):EY (LO K mg md P m) (K2 K mg md P g) (F9 K mg md P R b) D σ H:=by
 obtain⟨ρ,O,F,as,r,s,k⟩:=q;unfold bV at k
 cases e:m ρ O with
 | ex
 |no=>rw[e] at k;exact False.elim k
 |ok ds O1 =>
  rw[e] at k;refine⟨ρ,_,F,as,_,_,r,s,e,λJ U L N T r1 Q=>?_⟩;have k1:=mU T.toS k;refine⟨λi m z j=>m=ds.length - i/\i<=ds.length/\∃d c o a,D7 P U L _ j o a/\DD K mg c j o a/\DV K md P d z j o a/\jX K mg md P R D j o a (bw g b (ds.drop i) d c),⟨ds.length,by simp,Nat.zero_le _,ρ,O1,L,N,D7.refl,r1,s.step T,by exact k1⟩,?_⟩;rintro i n z j ⟨rfl,hi,d,c,o,a,g',r',s',k'⟩
  by_cases t:i<ds.length
  ·have hd:=zB t;obtain⟨go,X⟩:=Q.turn i _ j o _ g' ⟨c,r'⟩ hd;rw[List.drop_eq_getElem_cons t] at k';refine .inr ⟨go,λw h=>∃p E l u,D7 P U L _ h l _/\DD K mg E h l _/\DV K md P _ _ h l _/\jX K mg md P R D h l _ _,λw h h2=>⟨ds.length - (i+1),by omega,rfl,t,h2⟩,λx H3 y=>?_⟩;obtain⟨W,B,Z,hx⟩:=X x H3 y;have r3':=Z c r';unfold bw at k'
   cases eg:g _ _ with
   |none=>rw[eg] at k';exact False.elim k'
   |some ρ1 =>
    rw[eg] at k'
    dsimp at k'
    refine⟨d,c,W,a,ds[i],ρ1,r3',s'.step B,hx,eg,λσ4 Y=>?_⟩;refine⟨ρ1,c,W,a,r3',Y,?_⟩;have g4 :=g'.trans B.toS
    have A:=λ{f}=>mU (K:=K) (mg:=mg) (md:=md) (R:=R) (D:=D) (f:=f) B.toS (P:=P)
    cases eb:b _ c with
    | nx p E
    |ct p E =>
     rw[eb] at k'
     exact λw h l u C I G=>⟨p,E,l,u,g4.trans C,I,G,mU C (A k')⟩
    | bk
    |rt =>
     rw[eb] at k'
     exact λv h l u C I G=>k' v h l _ (B.toS.trans C) I G
    | ex
    |no=>rw[eb] at k';exact False.elim k'
  ·have hi':i=ds.length:=by omega
   subst hi';refine .inl ⟨Q.stop j o _ g' ⟨c,r'⟩,?_⟩;rw[List.drop_length] at k';exact k' _ j o _ D7.refl r' s'
def XR{a:Pos} (f:X.calm=true)(d:VI X j P k h m)(e:VG X j P k g)(hb:VSs X j P R i b)(c:PassesOwn (model X.prog X.w) X.A X.env X.xe:=by exact PassesOwn.never)
  (hs:∀x,foldedSetIterable h X.env x=pure x:=by intro _;rfl):VS X j P R (.For k h i [] a) (bV m g b):=(Tg c f d e hb hs).imp λ_ _ _ q=>XQ q
def dM(t:M Bool)(b:MS):Nat->MS
 | 0,_,_=>.no
 |n+1,ρ,O=>match t ρ O with
  | .ok true O1=>match b ρ O1 with
   | .nx ρ2 O2=>dM t b n ρ2 O2
   | .ct ρ2 O2=>dM t b n ρ2 O2
   | .bk ρ2 O2=>.nx ρ2 O2
   |r=>r
  | .ok false O1=>.nx ρ O1
  | .ex x O'=>.ex x O'
  | .no=>.no
def jZ(n:Nat)(t:M Bool)(b:MS):MS:=dM t b n
def XS{K:Frag} {D:EL} (q:F9 K mg md P R (jZ n t b) D σ H):Ey (FU K mg md P t) (F9 K mg md P R b) D σ H:=by
 refine⟨λn a i=>F9 K mg md P R (dM t b n) D a i,⟨n,q⟩,?_⟩;rintro m σ1 H1 ⟨ρ,O,F,as,r,s,k⟩
 cases m with
 |zero=>exact False.elim k
 |succ m =>
  unfold dM at k
  cases e:t ρ O with
  | ex
  |no=>rw[e] at k;exact False.elim k
  |ok c O1 =>
   rw[e] at k;refine⟨ρ,_,F,as,_,_,r,s,e,λA y v d w=>?_⟩
   cases c with
   |false =>
    exact k _ A y _ d.toS w (s.step d)
   |true =>
    refine⟨λa i=>F9 K mg md P R _ D _ i,λa i z=>⟨m,jg m,z⟩,ρ,O1,y,v,w,s.step d,?_⟩
    dsimp at k
    have h:=λ{f}=>mU (K:=K) (mg:=mg) (md:=md) (R:=R) (D:=D) (f:=f) d.toS (P:=P)
    cases eb:b ρ O1 with
    | nx ρ2 O2
    |ct ρ2 O2 =>
     rw[eb] at k
     exact λu x p g o l j=>⟨ρ2,O2,p,g,l,j,mU o (h k)⟩
    | bk
    |rt =>
     rw[eb] at k
     exact λu x p g o l j=>k _ x p _ (d.toS.trans o) l j
    | ex
    |no=>rw[eb] at k;exact False.elim k
def Hb(n:Nat) (d:TsE X f P c t)(hb:VSs X f P R e b)(a:PassesOwn (model X.prog X.w) X.A X.env X.xe:=by exact PassesOwn.never):VS X f P R (.While c e [] pos) (jZ n t b):=
 (SQ a d hb).imp λ_ _ _ q=>XS q
def cN(g:MG)(t:M Bool)(m:M D):List D->aN->au->List D->C8 (List D)
 | [],ρ,O,acc=>.ok acc O
 |d::ds,ρ,O,acc=>match g d ρ with
  |none=>.no
  |some a=>match t a O with
   | .ok true O1=>match m a O1 with
    | .ok y O2=>cN g t m ds a O2 (acc++[y])
    | .ex x O'=>.ex x O'
    | .no=>.no
   | .ok false O1=>cN g t m ds a O1 acc
   | .ex x O'=>.ex x O'
   | .no=>.no
def eY(own:Nat)(a:List Nat)(ρ:aN):aN:=List.replicate own none++a.map λj=>(ρ[j]?).join
def bJ(m:M (List D))(own:Nat)(PM:List Nat)(g:MG)(t:M Bool)(e:M D):M D:=λρ O=>(m ρ O).bind λds c=>if ds.length<=1000000 then(cN g t e ds (eY own PM ρ) c []).bind λa b=>.ok (.lst a) b else .no
def bD:M Bool:=λ_ O=>.ok true O
def EU(own:Nat)(a:List Nat)(b:List Md):List Md:=List.replicate own .v++a.map λj=>match b[j]? with
 |some .v=>.v
 | _=>.s
def Hc{K:Frag} (s:DV K B P ρ σ H F C)(r:∀j∈A,j<B.length):DV K (EU own.length A B) (Pt.all H) (eY own.length A ρ) (D9 own A σ) H F C:=by
 refine⟨by simp[D9,EU],by simp[eY,EU],λa h=>h,λi m d c b=>?_,λi j a l x e=>?_,λ_ z=>nomatch z⟩
 ·unfold eY at b;unfold EU at c;unfold D9
  by_cases f:i<own.length
  ·rw[zG (by simpa using f),List.getElem?_replicate_of_lt f] at b;cases b
  ·have hi':own.length<=i:=Nat.le_of_not_lt f;rw[zN (by simpa using hi'),List.length_replicate,zH] at b c;rw[zN (by simpa using hi'),ze,zH]
   cases q:A[i - own.length]? with
   |none=>rw[q] at b;cases b
   |some j =>
    rw[q] at c b;simp only[Option.map_some,Option.some.injEq] at c b ⊢
    cases q2:ρ[j]? with
    |none=>rw[q2] at b;cases b
    |some o =>
     rw[q2] at b;have e2':o=some d:=b;subst e2';obtain⟨t,v,e,u,g⟩:=s.get q2;rw[e] at c;refine⟨v,by rw[u];rfl,?_⟩
     cases t with
     |v=>dsimp only at c;subst c;exact g
     |s =>
      dsimp only at c;subst c
      rcases g with g | ⟨a,n,l,c,b,k,p,w,e6⟩
      ·exact .inl g
      ·exact .inr ⟨a,n,l,c,b,k,p,(show H a≠none by rw[k];exact λz=>nomatch z),e6⟩
     |o =>
      dsimp only at c;subst c
      rcases g with⟨_,g⟩ | ⟨a,n,l,c,b,k,y,p,w,e6⟩
      ·exact .inl g
      ·exact .inr ⟨a,n,l,c,b,k,p,(show H a≠none by rw[k];exact λz=>nomatch z),e6⟩
 ·exfalso
  unfold EU at e
  by_cases f:i<own.length
  ·rw[zG (by simpa using f),List.getElem?_replicate_of_lt f] at e;cases e
  ·have hi':own.length<=i:=Nat.le_of_not_lt f;rw[zN (by simpa using hi'),List.length_replicate,zH] at e
   cases q:A[i - own.length]? with
   |none=>rw[q] at e;cases e
   |some j =>
    rw[q] at e;simp only[Option.map_some,Option.some.injEq] at e
    split at e<;>cases e
def xM(K:Frag)(a:Str->Option Value)(b:List Md)(R:RR)(m:M D):TE:=λσ H Q=>∃P,tM K a b P R m σ H Q
def LJ(K:Frag)(a:Str->Option Value)(b:List Md)(m:M Bool):TT:=λσ H Q=>∃P,FU K a b P m σ H Q
def LL(K:Frag)(a:Str->Option Value)(b:List Md)(g:MG):TG:=λv σ H Q=>∃P,K2 K a b P g v σ H Q
def xm(h:∀P,PE X e (tM X.K X.mg a P R m)):PE X e (xM X.K X.mg a R m):=λpins s σ H Q I ⟨P,q⟩=>h P _ s σ H Q I q
def K0(h:∀P,VG X a P e g):PG X e (LL X.K X.mg a g):=λpins s σ H v u Q I r ⟨P,q⟩=>h P _ s σ H v u Q I r q
def KW(h:∀P,lD X e (FU X.K X.mg a P m)):lD X e (LJ X.K X.mg a m):=λpins s σ H Q I ⟨P,q⟩=>h P _ s σ H Q I q
def VIf(X:Cx)(a:List Md)(P:Pt)(e:List Expr)(m:M Bool):Prop:=lD X e (FU X.K X.mg a P m)
def XX:VIf X f P [] bD:=λa s σ H Q I q=>by
 obtain⟨ρ,O,F,b,d,c,r,s,e,k⟩:=q;cases e;exact V0 _ _ σ H Q I (k H F b Gr.refl r)
def X3(h:TsE X a P c m):VIf X a P [c] m:=V1 h
def yu{K:Frag} (X:∀j∈PM,j<md.length) (q:tM K mg md P (rO K) (bJ m own.length PM g t e) σ H Q):
  uH (yr K mg md P m) own PM (LL K mg (EU own.length PM md) g) (LJ K mg (EU own.length PM md) t) (xM K mg (EU own.length PM md) (rV K) e) σ H Q:=by
 obtain⟨ρ,O,F,as,d,OZ,r,s,A,k⟩:=q;obtain⟨l,O1,e1,A⟩:=C8.Pi A;split at A
 ·rename_i hz;obtain⟨yf,O2,e2,A⟩:=C8.Pi A;cases A;refine⟨ρ,_,F,as,_,_,r,s,e1,λJ H1 F1 E g1 r1 hJ=>?_⟩;have sb:=Hc (own:=own) (s.step g1) X
  refine⟨λi n L R I=>n=l.length - i/\i<=l.length/\∃f u h a b,Gr H1 F1 E I h a/\DD K mg u I h a/\DV K _ _ f R I h a/\Rps K h a L b/\b.length<=i /\
   cN g t e (l.drop i) f u b=.ok yf OZ,⟨l.length,by simp,Nat.zero_le _,eY _ PM ρ,O1,F1,E,[],Gr.refl,r1,sb,Rps.nil,zc _,by exact e2⟩,?_⟩
  rintro i n L R I ⟨rfl,hi,f,u,h,a,b,g',r',s',hy,hl,ec⟩
  by_cases B:i<l.length
  ·obtain⟨go,yl⟩:=hJ.turn i _ I h a g' ⟨u,r'⟩ (zB B)
   refine .inr ⟨go,?_,λL N H2=>∃T O3 F2 C v,Gr H1 F1 E H2 F2 C/\DD K mg O3 H2 F2 _/\DV K _ _ T N H2 F2 C/\Rps K F2 C L v/\v.length<=i+1 /\
    cN g t e _ T O3 _=.ok yf OZ,λys2 N H2 h2=>⟨l.length - (i+1),by omega,rfl,B,h2⟩,λx H3 y=>?_⟩
   ·rw[hy.length]
    have:=fQ hz
    omega
   obtain⟨F3,Z,r3,hx⟩:=yl x H3 y;have r3':=r3 u r';have U:=g'.trans Z;rw[List.drop_eq_getElem_cons B] at ec;unfold cN at ec
   cases eg:g _ f with
   |none=>rw[eg] at ec;cases ec
   |some ρ1 =>
    rw[eg] at ec
    dsimp at ec
    refine⟨_,f,u,F3,a,l[i],ρ1,r3',s'.step Z,hx,eg,λσ4 Y=>?_⟩
    cases et:t ρ1 u with
    | ex
    |no=>rw[et] at ec;cases ec
    |ok c O4 =>
     rw[et] at ec;refine⟨_,ρ1,u,F3,a,c,O4,r3',Y,et,λH5 F5 W w r5=>?_⟩
     cases c with
     |false =>
      exact⟨ρ1,O4,F5,W,b,U.trans w,r5,Y.step w,(hy.gr Z).gr w,by omega,ec⟩
     |true =>
      dsimp at ec
      cases em:e _ O4 with
      | ex
      |no=>rw[em] at ec;cases ec
      |ok yd O6 =>
       rw[em] at ec;refine⟨_,ρ1,O4,F5,W,yd,O6,r5,Y.step w,em,λvy H7 F7 as7 g7 r7 hvy=>?_⟩;exact⟨ρ1,O6,F7,as7,b++[yd],(U.trans w).trans g7,r7,(Y.step w).step g7,(((hy.gr Z).gr w).gr g7).snoc hvy,by rw[zg];show b.length+1<=i+1;omega,ec⟩
  ·have hi':i=l.length:=by omega
   subst hi';rw[List.drop_length] at ec;cases ec;refine .inl ⟨hJ.stop I h a g' ⟨_,r'⟩,?_,λp G=>?_⟩
   ·rw[hy.length];exact zJ hl (fQ hz)
   ·have hF:h p=none:=by
     cases q:h p with
     |none=>rfl
     |some o=>rw[r'.fh p o q] at G;cases G
    exact k _ _ h a ((g1.trans g').trans (Gr.lay G)) (r'.lay G) (.inr ⟨p,L,yf,rfl,rfl,bG,hF,λz=>r'.all z G,(g1.trans g').dm p G,hy⟩)
 ·cases A
def eZ{h:Pos}(d:Scope)(c own:List Str)(a:List Nat)(r:X.calm=true)(n:VIc X v P z u mi)
  (o:∀C s H b P,VG (bQ X scope C (bN c own a) s H b) (EU own.length a v) P z g) (m:∀C s H b P,VIf (bQ X scope C (bN c own a) s H b) (EU own.length a v) P w t)
  (p:∀C s H b P,VE (bQ X scope C (bN c own a) s H b) (EU own.length a v) P y e)
  (f:∀j∈a,j<v.length:=by decide) (i:X.env.scope=d:=by rfl) (k:X.N=c:=by rfl) (l:lC d c scope own a=true:=by decide +kernel) (hs:∀x,foldedSetIterable u X.env x=pure x:=by intro _;rfl):
  OE X v P (.ListComp y [⟨z,u,w,0⟩] scope h) (bJ mi own.length a g t e):=
 (Gv _ c _ _ r n (λC s H b=>K0 (o C s H b)) (λC s H b=>KW (m C s H b)) (λC s H b=>xm (p C s H b)) i k l hs).imp λ_ _ _ q=>yu f q
def yw{R:RR}{o:Pos} {l h:Pos}(m:Scope)(n own:List Str)(c:List Nat)(hN:X.N.Nodup)(U:X.N[i]?=some x)(Z:HI X.env.scope x)(hc:X.calm=true)(hi:VIc X md P tg iter mi)
  (hg:∀C s H f P,VG (bQ X scope C (bN n own c) s H f) (EU own.length c md) P tg g) (W:∀C s H f P,VIf (bQ X scope C (bN n own c) s H f) (EU own.length c md) P ifs t)
  (he:∀C s H f P,VE (bQ X scope C (bN n own c) s H f) (EU own.length c md) P elt e)
  (Y:md[i]?=some .v:=by rfl) (w:∀j∈c,j<md.length:=by decide) (E:swapsWith (.ListComp elt [⟨tg,iter,ifs,0⟩] scope o) (some (.Name x l)) h.line X.env=pure true:=by rfl)
  (hf:X.fn x=true\/X.env.scope.names.lookup x=some .local:=by first | exact .inl rfl | exact .inr rfl | assumption)
  (G:X.env.scope=m:=by rfl) (I:X.N=n:=by rfl) (T:lC m n scope own c=true:=by decide +kernel) (hs:∀x,foldedSetIterable iter X.env x=pure x:=by intro _;rfl):
  VS X md P R (.Assign [.Name x l] (.ListComp elt [⟨tg,iter,ifs,0⟩] scope o) h) (aA i (bJ mi own.length c g t e)):=
 (Gw (i:=i) m n own c hN U Z hc hi (λC s H f=>K0 (hg C s H f)) (λC s H f=>KW (W C s H f)) (λC s H f=>xm (he C s H f)) E hf G I T hs).imp λD σ H q =>
  G7 Y (λσ H Q z=>yu w (by
   obtain⟨ρ,O,F,as,d,O',r,s,e,k⟩:=z;refine⟨ρ,_,F,as,_,_,r,s,e,λv L y p g K A=>?_⟩
   rcases A with⟨_,A⟩ | ⟨a,J,ds,rfl,rfl,e3,B,e5,e6,e7⟩
   ·exact k v L y p g K A
   ·have ff:Dx y (DB y a (.lst J)):=λb u q=>by rw[aH (cj q B)];exact q
    exact k _ L (DB y a (.lst J)) p (g.Pp e6 B) (K.Pp e3 B e5 rfl) (Rp.mkL (.inl (.inl bG)) (Rps.mono ff (λ_ _ z=>z) _ e7)))) q
def Hd{R:RR}{k:Pos} {d c:Pos}(h:Scope)(f own:List Str)(a:List Nat)(I:X.N.Nodup)(u:X.N[i]?=some x)(y:HI X.env.scope x)(G:X.calm=true)(A:VIc X L P U J mi)
  (B:∀C s H b P,VG (bQ X scope C (bN f own a) s H b) (EU own.length a L) P U g) (v:∀C s H b P,VIf (bQ X scope C (bN f own a) s H b) (EU own.length a L) P O t)
  (F:∀C s H b P,VE (bQ X scope C (bN f own a) s H b) (EU own.length a L) P T e)
  (w:L[i]?=some .o:=by rfl) (l:∀j∈a,j<L.length:=by decide) (m:swapsWith (.ListComp T [⟨U,J,O,0⟩] scope k) (some (.Name x d)) c.line X.env=pure true:=by rfl)
  (E:X.fn x=true\/X.env.scope.names.lookup x=some .local:=by first | exact .inl rfl | exact .inr rfl | assumption)
  (n:X.env.scope=h:=by rfl) (p:X.N=f:=by rfl) (r:lC h f scope own a=true:=by decide +kernel) (hs:∀x,foldedSetIterable J X.env x=pure x:=by intro _;rfl):
  VS X L P R (.Assign [.Name x d] (.ListComp T [⟨U,J,O,0⟩] scope k) c) (aA i (bJ mi own.length a g t e)):=
 (Gw _ f _ _ I u y G A (λC s H b=>K0 (B C s H b)) (λC s H b=>KW (v C s H b)) (λC s H b=>xm (F C s H b)) m E n p r hs).imp λD σ H q =>
  G8 w (λσ H Q z=>yu l z) q
inductive EH (K:Frag) (mg:Str->Option Value) (pm:List Md) (R:RR) (c:List D->au->C8 D) (vs:List V) (H:Hp) (Q:VK) (x3_:XK):Prop
 |mk:∀ds O F as d O',DD K mg O H F as->cz K H F as pm vs ds->c ds O=.ok d O'->(∀v H' F' as',Gr H F as H' F' as'->DD K mg O' H' F' as'->R (λa=>H a=none) H' F' as' v d->Q v H')->EH K mg pm R c vs H Q x3_
def aL(n:Nat)(b:MS):List D->au->C8 D:=λa O=>match b (a.map some++List.replicate (n - a.length) none) O with
 | .rt d O'=>.ok d O'
 | .nx _ O'=>.ok .Pl O'
 | .ex x O'=>.ex x O'
 | _=>.no
theorem cz.len{K:Frag}:∀{a:List Md}{b:List V}{ds:List D},cz K H F as a b ds->b.length=a.length/\ds.length=a.length
 | [],[],[],_=>⟨rfl,rfl⟩
 |m::a,v::b,d::ds,h=>by
  have:=cz.len h.2
  simp[this.1,this.2]
 | [],[],_::_,h=>h.elim
 | [],_::_,[],h=>h.elim
 | [],_::_,_::_,h=>h.elim
 | _::_,[],[],h=>h.elim
 | _::_,[],_::_,h=>h.elim
 | _::_,_::_,[],h=>h.elim
theorem cz.get{K:Frag}{H F:Hp}{e:List Addr}:∀{b:List Md}{a:List V}{c:List D}{i:Nat}{m:Md}{d:D},cz K H F e b a c->b[i]?=some m->c[i]?=some d->∃v,a[i]?=some v/\rA K m (λ_=>True) H F e v d
 |m::b,v::a,d::c,0,m',d',h,e1,e2=>by
  simp at e1 e2
  subst e1 e2;exact⟨v,rfl,h.1⟩
 |m::b,v::a,d::c,i+1,m',d',h,e1,e2=>by
  obtain⟨f,j,g⟩:=cz.get (i:=i) (m:=m') (d:=d') h.2 (by simpa using e1) (by simpa using e2);exact⟨f,by simpa using j,g⟩
 | [],[],[],_,_,_,_,e1,_=>by simp at e1
 | [],[],_::_,_,_,_,h,_,_=>h.elim
 | [],_::_,[],_,_,_,h,_,_=>h.elim
 | [],_::_,_::_,_,_,_,h,_,_=>h.elim
 | _::_,[],[],_,_,_,h,_,_=>h.elim
 | _::_,[],_::_,_,_,_,h,_,_=>h.elim
 | _::_,_::_,[],_,_,_,h,_,_=>h.elim
def uL{K:Frag} (h:cz K H F L G I E)(y:(G++J).length=N.length)(n:∀m∈G,m≠.o):
  DV K (G++J) (Pt.all H) (E.map some++List.replicate (N.length - E.length) none) (start N I) H F L:=by
 obtain :=h.len;rw[zg] at y
 have l:∀i a,(E.map some++List.replicate (N.length - E.length) none)[i]?=some (some a)->i<E.length:=λi a e=>by
  by_cases f:i<E.length
  ·exact f
  ·rw[zN (by simpa using f),List.getElem?_replicate] at e
   split at e<;>cases e
 refine⟨by unfold start;simp;omega,by simp;omega,λa z=>z,λi m d c b=>?_,λi j a p C c b B=>?_,λ_ z=>nomatch z⟩
 ·have f:=l i d b;rw[zG (by simpa),zH] at b;rw[zG (by omega)] at c
  cases q:E[i]? with
  |none=>rw[q] at b;cases b
  |some =>
   rw[q] at b;cases b;obtain⟨v,A,g⟩:=h.get c q;refine⟨v,?_,?_⟩
   ·unfold start;rw[zG (by simp;omega),zH,A];rfl
   ·cases m with
    |v=>exact g
    |s =>
     rcases g with g | ⟨a,x,p,w,u,k,t,r⟩
     ·exact .inl g
     ·exact .inr ⟨a,x,p,w,u,k,t,(show H a≠none by rw[k];exact λz=>nomatch z),r⟩
    |o=>exact absurd rfl (n .o (zP c))
 ·have f:=l i _ B;rw[zG (by omega)] at c;exact absurd rfl (n .o (zP c))
def X4{T:Program}{w:World}{K:Frag}{l:Heap} {st:Stmt} {k:Nat}(Df:DZ K mg x st)(S:eV N ps (aQ st))
  (hb:∀(kV J n:Value)(an:Option Addr)(j ct:Value)(u:List Value),u.length=ps.length->bindArgs (PySem.W.fnOf x x (dq st) (cD st) (aQ st) .none kV J n an j ct) ⟨u,[]⟩=pure (ps.zip u))
  (n L:List Md) {b:MS} (hR:eX R) (I:∀N H F t,R N H F t .Pl .Pl) (G:n.length=ps.length:=by rfl) (hl:(n++L).length=N.length:=by rfl) (Z:∀m∈n,m≠.o:=by decide)
  (body:∀(f:Addr)(j:Value)(A:Around)(i:List Env)(s:Shared)(H:Hp)(E:XK),aY k (A.deeper (envOfC x (aQ st) s.heap.objs.size f j))->∀P,VSs ((gD FA T w K mg l N x (aQ st) f j A i s H E).QQ) (n++L) P R (cD st) b):
  GL T w K mg l x ps (k+1) (EH K mg n R (aL N.length b)):=by
 refine Df.can (k:=k) S hb (λU H Q E h=>?_) (λf j A i s H U Q E Y h=>?_)
 ·obtain⟨z,O,F,t,d,O',r,a,_⟩:=h;rw[a.len.1,G]
 ·obtain⟨z,O,F,t,d,O',r,a,e,q⟩:=h;refine⟨_,body f j A i s H E Y (Pt.all H),?_⟩;refine⟨_,O,F,t,r,uL a hl Z,?_⟩;unfold aL at e
  cases eb:b (z.map some++List.replicate (N.length - z.length) none) O with
  |rt d' O2 =>
   rw[eb] at e;cases e
   exact λv B C p g y X=>q v B C p g.gr y (hR _ _ _ _ _ _ _ (λc hc=>jx.mp hc) X)
  |nx ρ O2 =>
   rw[eb] at e;cases e
   exact λσ' B C p g y _=>q _ B C p g.gr y (I _ _ _ _)
  |bk _ _=>rw[eb] at e;cases e
  |ct _ _=>rw[eb] at e;cases e
  |ex _ _=>rw[eb] at e;cases e
  |no=>rw[eb] at e;cases e
def aC(c:List D->au->C8 D)(ma:M (List D)):M D:=λρ O=>(ma ρ O).bind λds O1=>c ds O1
def yx{K:Frag} (m:eX R) (q:tM K G I P R (aC c J) σ H Q):qY (EH K G pm R c) [] E (JA K G I P pm J) σ H Q:=by
 obtain⟨ρ,O,F,t,d,w,r,s,e,k⟩:=q;obtain⟨p,u,o,e⟩:=C8.Pi e;refine⟨ρ,_,F,t,_,_,r,s,o,λB C y b f g j=>?_⟩;rw[zE];exact⟨p,u,y,b,d,w,g,j,e,λv x z A n h i=>k v x z _ (f.trans n) h (m _ _ _ _ _ _ _ (λa l=>f.dm a l) i)⟩
def Hf{p a:Pos}(j:eX R)(C:GL X.prog X.w X.K X.mg X.base x r k (EH X.K X.mg m R c))(f:aY k X.A)(i:AE X n P m (e::l) o)(g:Gl X x:=by rfl)(d:SV x:=by decide)
  (h:SW X.env e l:=by exact bT rfl) (b:SY X.env a l:=by exact cF rfl):PE X (.Call (.Name x p) (e::l) [] a) (tM X.K X.mg n P R (aC c o)):=
 (V5 C f i g d h b).imp λ_ _ _ q=>yx j q
def X5{e:List Md}{P:Pt}{p a:Pos}(h:eX R)(C:GL X.prog X.w X.K X.mg X.base x m k (EH X.K X.mg [] R c))(f:aY k X.A)(g:Gl X x:=by rfl)(b:SV x:=by decide):PE X (.Call (.Name x p) [] [] a) (tM X.K X.mg e P R (aC c ao)):=
 (V6 C f g b).imp λσ H Q q=>by
  have:=yx (pm:=[]) (E:=E0) h q
  obtain⟨ρ,O,F,j,d,l,r,s,i,k⟩:=this;cases i;exact k [] H F j Gr.refl r trivial
def b7{K:Frag}{Q:VK} (r:DD K i O H F h)(k:∀e b c,Gr H F h b c h->DD K i O b c h->Ow K (λa=>H a=none) b c h e d->Q e b)(g:iY d=true)(f:Rp K F h v d):Q v H:=k v H F Gr.refl r (.inl ⟨g,f⟩)
def DD.frF{K:Frag}(r:DD K mg O H F as)(a:H p=none):F p=none:=by
 cases q:F p with
 |none=>rfl
 |some o=>rw[r.fh p o q] at a;cases a
def oZ{K:Frag}{Q:VK}(r:DD K i O H F f)(k:∀e c d,Gr H F f c d f->DD K i O c d f->Ow K (λa=>H a=none) c d f e (.lst h)->Q e c)(b:H p=none)(hs:Rps K F f g h):Q (.ref p) (DB H p (.lst g)):=
 k _ _ F (Gr.lay b) (r.lay b) (.inr ⟨p,g,h,rfl,rfl,bG,r.frF b,λz=>r.all z b,b,hs⟩)
def Hg{K:Frag}{Q:VK}(r:DD K l O H F i)(k:∀g d f,Gr H F i d f i->DD K l O d f i->Ow K (λa=>H a=none) d f i g (.tup m)->Q g d)(c:H p=none)(hs:Rps K F i j m):Q (.ref p) (DB H p (.tup j)):=by
 have e:=r.frF c
 have h:Dx F (DB F p (.tup j)):=λb u q=>by rw[aH (cj q e)];exact q
 exact k _ _ _ ((Gr.lay c).Pp c e) ((r.lay c).Pp bG e (λz=>r.all z c) rfl) (.inl ⟨rfl,Rp.Sm (.inl bG) (Rps.mono h (λ_ _ z=>z) _ hs)⟩)
section
variable {X:Cx}
def X6(K:Frag):R2:=λx y H Q=>∃l b c a,x=.ref l/\y=.ref b/\E3 K H l c/\E3 K H b a/\c.length+a.length<=sizeLine/\∀p,H p=none->Q (.ref p) (DB H p (.lst (c++a)))
def X7:EB X (binaryOp .Add) (X6 X.K):=by
 intro f s σ H x y v u Q I i g h;obtain⟨l,b,A,t,rfl,rfl,j,k,C,q⟩:=h;cases i;cases g;obtain⟨z,c,n,r,e⟩:=j.ok I;obtain⟨w,a,B,d,o⟩:=k.ok I;have E:=r.length;have p:=d.length;refine PySem.P.add_list e o ?_
 have m:c.toArray++a.toArray=(c++a).toArray:=by simp
 rw[m];exact⟨.ref _,_,I.SU (r.append d) (by rw[zg];omega),rfl,q _ I.fresh⟩
def X8(K:Frag):R2:=λx y H Q=>∃l k a,x=.ref l/\y=.int k/\E3 K H l a/\-(2 ^ 63)<=k/\k<2 ^ 63/\a.length * k.toNat<=sizeLine /\
 ∀p,H p=none->Q (.ref p) (DB H p (.lst (List.replicate k.toNat a).flatten))
def Yb:EB X (binaryOp .Mult) (X8 X.K):=by
 intro j s σ H x y v u Q I B A h;obtain⟨l,k,N,rfl,rfl,E,J,G,i,q⟩:=h;cases B;obtain⟨t,rfl⟩:=A;obtain⟨z,a,n,r,e⟩:=E.ok I;have C:=r.length
 have d:a.toArray.size * k.toNat<=sizeLine:=by rw[zK,<-C];exact i
 have g:¬a.toArray.size * k.toNat>(2 ^ 63 - 1) / 8:=by
  have:sizeLine<=(2 ^ 63 - 1) / 8:=by decide
  omega
 have f:¬(!Builtin.List.listFitsIndex k)=true:=by
  rw[fitsIndex_both J G];exact zA
 have b:¬Builtin.List.listTooLong (a.toArray.size * k.toNat)=true:=by
  rw[Gg d];exact zA
 have c:List.foldl (λp o=>p++o) #[] (List.replicate (if a.toArray.isEmpty=true then 0 else k.toNat) a.toArray)=(List.replicate k.toNat a).flatten.toArray:=by
  have L :=λm=>by
   have:=E8 a m []
   rw[zO] at this;exact this
  rw[L]
  cases a with
  |nil=>simp
  |cons =>rw[if_neg (by simp)]
 refine wpAny_binaryOp_repeat_ref (by decide) ⟨_,e,rfl⟩ (λw=>typeIs_int w k t) noFill_list_mul F.fills_int_mul F.slot_int_rmul repeat_list F.slot_int_index.lookup
  (call_meets F.slot_int_rmul (typeIs_int s k t) F.entry_int_rmul (F.args_int_rmul_2 _ _) (int___rmul___int_list k t l _ n)
   ⟨e,rfl,⟨_,e,rfl⟩,call_meets F.slot_list_mul ⟨_,e,rfl⟩ F.entry_list_mul (F.args_list_mul_2 _ _) (AutoListH.list___mul___list_int_3 l _ n k t f g b) ⟨e,?_⟩⟩)
 rw[c];exact⟨.ref _,_,I.SU (r.rep _) (by rw[HV,Nat.mul_comm];exact i),rfl,q _ I.fresh⟩
def aD:D->D->Option D
 | .int i,.int j=>some (.int (i+j))
 | .int i,.bl k=>some (.int (i+b2i k))
 | .str a,.str b=>if a.length+b.length<=1000000 then some (.str (a++b)) else none
 | .lst a,.lst b=>if a.length+b.length<=1000000 then some (.lst (a++b)) else none
 | .tup a,.tup b=>if a.length+b.length<=1000000/\a≠[] then some (.tup (a++b)) else none
 | _,_=>none
instance (a:List D):Decidable (a≠[]):=match a with
 | []=>isFalse λh=>h rfl
 | _::_=>isTrue λh=>nomatch h
def Yc:E6 X (binaryOp .Add) aD:=by
 intro K s σ H x y v u Q I m l h;obtain⟨O,F,N,L,w,d,r,o,n,e,k⟩:=h
 cases L with
 |int i =>
  cases(o.rp rfl).PD
  cases w with
  |int j =>
   cases(n.rp rfl).PD;cases e;exact Tq _ s σ H _ _ v u Q I m l ⟨i,j,rfl,rfl,b7 r k rfl Rp.int⟩
  |bl j =>
   cases(n.rp rfl).QI;cases e;exact TF _ s σ H _ _ v u Q I m l ⟨i,j,rfl,rfl,b7 r k rfl Rp.int⟩
  | _=>cases e
 |str a =>
  cases(o.rp rfl).PZ
  cases w with
  |str b =>
   cases(n.rp rfl).PZ;simp only[aD] at e;split at e
   ·rename_i c;cases e;refine T8 _ s σ H _ _ v u Q I m l ⟨S a,S b,rfl,rfl,by exact fQ c,?_⟩;rw[Wa];exact b7 r k rfl Rp.str
   ·cases e
  | _=>cases e
 |lst a =>
  obtain⟨p,t,rfl,G,g⟩:=o.list r.fh
  cases w with
  |lst b =>
   obtain⟨B,A,rfl,E,f⟩:=n.list r.fh;simp only[aD] at e;split at e
   ·rename_i c;cases e;exact X7 _ s σ H _ _ v u Q I m l ⟨p,B,t,A,rfl,rfl,G,E,by rw[g.length,f.length];exact fQ c,λq C=>oZ r k C (Rps.append f g)⟩
   ·cases e
  | _=>cases e
 |tup a =>
  obtain⟨p,t,rfl,G,g⟩:=(o.rp rfl).QR
  cases w with
  |tup b =>
   obtain⟨B,A,rfl,E,f⟩:=(n.rp rfl).QR;simp only[aD] at e;split at e
   ·rename_i c;cases e
    have J:t≠[]:=λz=>c.2 (List.eq_nil_of_length_eq_zero (by rw[<-g.length,z];rfl))
    refine U9 _ s σ H _ _ v u Q I m l ⟨p,B,t,A,rfl,rfl,Dx.PY r.fh G,Dx.PY r.fh E,J,by rw[g.length,f.length];exact fQ c.1,λz=>?_,λ_ q C=>Hg r k C (Rps.append f g)⟩;have hb :=List.eq_nil_of_length_eq_zero (by rw[<-f.length,z];rfl);subst hb;rw[zE] at k;exact b7 r k rfl (o.rp rfl)
   ·cases e
  | _=>cases e
 | _=>cases e
def gI(C:Int->Int->Bool)(f:Int->Int->Int):D->D->Option D
 | .int i,.int j=>if C i j=true then some (.int (f i j)) else none
 | _,_=>none
def yz(h:EB X f (rI Cp λi j=>.int (g i j)))(n:∀i j,C i j=true->Cp i j):E6 X f (gI C g):=by
 intro a s σ H x y v u Q I c b p;obtain⟨O,F,w,t,q,d,r,m,l,e,k⟩:=p
 cases t with
 |int i =>
  cases(m.rp rfl).PD
  cases q with
  |int j =>
   cases(l.rp rfl).PD;simp only[gI] at e;split at e
   ·rename_i o;cases e;exact h _ s σ H _ _ v u Q I c b ⟨i,j,rfl,rfl,n i j o,b7 r k rfl Rp.int⟩
   ·cases e
  | _=>cases e
 | _=>cases e
def gH:D->D->Option D:=gI (λ_ _=>true) λi j=>i - j
def Yd:E6 X (binaryOp .Sub) gH:=by
 intro a s σ H x y v u Q I c b h;obtain⟨O,F,n,m,l,d,r,g,f,e,k⟩:=h
 cases m with
 |int i =>
  cases(g.rp rfl).PD
  cases l with
  |int j =>
   cases(f.rp rfl).PD;cases e;exact Tr _ s σ H _ _ v u Q I c b ⟨i,j,rfl,rfl,b7 r k rfl Rp.int⟩
  | _=>cases e
 | _=>cases e
def o9(i:Int):Bool:=decide (-(2 ^ 64)<i)&&decide (i<2 ^ 64)
def yC(h:o9 i=true):-(2 ^ 64)<i/\i<2 ^ 64:=by
 unfold o9 at h;rw[zC,decide_eq_true_eq,decide_eq_true_eq] at h;exact h
def gk:D->D->Option D
 | .int i,.int j=>if(o9 i || o9 j)=true then some (.int (i * j)) else none
 | .str l,.int n=>if -1000000<n/\n<1000000/\l.length * n.toNat<=16777216 then some (.str (List.replicate n.toNat l).flatten) else none
 | .lst l,.int n=>if -1000000<n/\n<1000000/\l.length * n.toNat<=1000000 then some (.lst (List.replicate n.toNat l).flatten) else none
 | _,_=>none
def Ye:E6 X (binaryOp .Mult) gk:=by
 intro t s σ H x y v u Q I c b h;obtain⟨O,F,E,C,m,d,r,g,f,e,k⟩:=h
 cases C with
 |int i =>
  cases(g.rp rfl).PD
  cases m with
  |int j =>
   cases(f.rp rfl).PD;simp only[gk] at e;split at e
   ·rename_i a;cases e;refine Tt _ s σ H _ _ v u Q I c b ⟨i,j,rfl,rfl,?_,b7 r k rfl Rp.int⟩;rw[Bool.or_eq_true] at a
    rcases a with z | z
    ·exact .inl (yC z)
    ·exact .inr (yC z)
   ·cases e
  | _=>cases e
 |str l =>
  cases(g.rp rfl).PZ
  cases m with
  |int n =>
   cases(f.rp rfl).PD;simp only[gk] at e;split at e
   ·rename_i a;cases e;exact Ww _ s σ H _ _ v u Q I c b ⟨l,n,rfl,rfl,a.1,a.2.1,a.2.2,b7 r k rfl Rp.str⟩
   ·cases e
  | _=>cases e
 |lst l =>
  obtain⟨p,w,rfl,B,o⟩:=g.list r.fh
  cases m with
  |int n =>
   cases(f.rp rfl).PD;simp only[gk] at e;split at e
   ·rename_i a;cases e;exact Yb _ s σ H _ _ v u Q I c b ⟨p,n,w,rfl,rfl,B,by omega,by omega,by rw[o.length];exact fQ a.2.2,λq A=>oZ r k A (o.rep _)⟩
   ·cases e
  | _=>cases e
 | _=>cases e
def bK:D->D->Option D:=gI (λ_ j=>decide (0<j)) λi j=>i % j
def Yg:E6 X (binaryOp .Mod) bK:=yz Tv λ_ _ h=>zT h
def gR:D->D->Option D:=gI (λ_ j=>decide (0<j)&&decide (j<1073741824)) λi j=>i / j
def Yh:E6 X (binaryOp .FloorDiv) gR:=yz Tu λi j h=>by
 rw[zC,decide_eq_true_eq,decide_eq_true_eq] at h;exact h
def jA:D->D->Option D:=gI (λi j=>decide (0<=j)&&(decide (j<=1000000)&&o9 i)) λi j=>i ^ j.toNat
def Yi:E6 X (binaryOp .Pow) jA:=yz Tw λi j h=>by
 rw[zC,zC,decide_eq_true_eq,decide_eq_true_eq] at h
 have:=yC h.2.2
 exact⟨h.1,h.2.1,by omega⟩
def HU(g:D->Option D)(m:M D):M D:=λρ O=>(m ρ O).bind λd a=>match g (aZ a d) with
 |some y=>.ok y a
 |none=>.no
def lG:D->Option D
 | .int i=>some (.int (-i))
 | _=>none
theorem Yj(h:SE X md P a m):OE X md P (.UnaryOp .USub a pos) (HU lG m):=(Tj Tz h).imp λσ H Q q=>by
 obtain⟨ρ,O,F,j,d,t,r,s,e,k⟩:=q;obtain⟨x,l,g,e⟩:=C8.Pi e;refine⟨ρ,_,F,j,_,_,r,s,g,λv n o p f b c=>?_⟩
 cases ed:aZ l x with
 |int i =>
  rw[ed] at e;cases e
  have:=Sv.lk c b
  rw[ed] at this;exact⟨i,(this.rp rfl).PD,k _ n o _ f b (.inl ⟨rfl,Rp.int⟩)⟩
 | _=>rw[ed] at e;cases e
def LZ(f:Int->Int->Bool):D->D->Option D
 | .int i,.int j=>some (.bl (f i j))
 | _,_=>none
def Hh(h:EB X f (Iy λi j=>.bl (g i j))):E6 X f (LZ g):=by
 intro a s σ H x y v u Q I c b n;obtain⟨O,F,q,p,o,d,r,m,l,e,k⟩:=n
 cases p with
 |int i =>
  cases(m.rp rfl).PD
  cases o with
  |int j =>
   cases(l.rp rfl).PD;cases e;exact h _ s σ H _ _ v u Q I c b ⟨i,j,rfl,rfl,b7 r k rfl Rp.bl⟩
  | _=>cases e
 | _=>cases e
def E7:D->D->Option D:=LZ λi j=>decide (i<j)
def HE:D->D->Option D:=LZ λi j=>decide (j<i)
def Fm:D->D->Option D
 | .int i,.int j=>some (.bl (decide (i<=j)))
 | .str a,.str b=>some (.bl (!decide (b<a)))
 | _,_=>none
def uM:E6 X (compareOp .LtE) Fm:=by
 intro m s σ H x y v u Q I f c n;obtain⟨O,F,p,o,l,d,r,h,g,e,k⟩:=n
 cases o with
 |int i =>
  cases(h.rp rfl).PD
  cases l with
  |int j =>
   cases(g.rp rfl).PD;cases e;exact TQ _ s σ H _ _ v u Q I f c ⟨i,j,rfl,rfl,b7 r k rfl Rp.bl⟩
  | _=>cases e
 |str a =>
  cases(h.rp rfl).PZ
  cases l with
  |str b =>
   cases(g.rp rfl).PZ;cases e;refine Wb _ s σ H _ _ v u Q I f c ⟨S a,S b,rfl,rfl,?_⟩;exact b7 r k rfl Rp.bl
  | _=>cases e
 | _=>cases e
def Yk:E6 X (compareOp .Lt) E7:=Hh TJ
def Yl:E6 X (compareOp .Gt) HE:=Hh TV
mutual
def toP:D->PyData
 | .Pl=>.none
 | .bl b=>.bool b
 | .int i=>.int i
 | .str l=>.str (S l)
 | .lst ds=>.list (j0 ds)
 | .tup ds=>.tuple (j0 ds)
 | .QP _ _=>.none
 | .ob _=>.none
def j0:List D->List PyData
 | []=>[]
 |d::ds=>toP d::j0 ds
end
mutual
def d8:D->Bool
 | .lst ds=>j4 ds
 | .tup ds=>j4 ds
 | .QP _ _=>false
 | .ob _=>false
 | _=>true
def j4:List D->Bool
 | []=>true
 |d::ds=>d8 d&&j4 ds
end
section
variable {K:Frag}{F:Hp}{as:List Addr}
mutual
theorem Rp.rep:∀(d:D){v:V},d8 d=true->Rp K F as v d->Rep K F v (toP d)
 | .Pl,v,_,h=>by rw[toP,Rep];exact h.Sl
 | .bl b,v,_,h=>by rw[toP,Rep];exact h.QI
 | .int i,v,_,h=>by rw[toP,Rep];exact h.PD
 | .str x,v,_,h=>by rw[toP,Rep];exact h.PZ
 | .lst ds,v,hp,h=>by
  obtain⟨a,c,g,f,e⟩:=h.Sr;rw[toP,Rep];rw[d8] at hp;exact⟨a,c,g,f.sq,Rps.rep' ds hp e⟩
 | .tup ds,v,hp,h=>by
  obtain⟨a,c,g,f,e⟩:=h.QR;rw[toP,Rep];rw[d8] at hp;exact⟨a,c,g,f,Rps.rep' ds hp e⟩
 | .QP _ _,v,hp,h=>by rw[d8] at hp;cases hp
 | .ob _,v,hp,h=>by rw[d8] at hp;cases hp
theorem Rps.rep':∀(a:List D){b:List V},j4 a=true->Rps K F as b a->b8 K F b (j0 a)
 | [],b,_,h=>by rw[h.QL,j0];exact b8.nil
 |d::a,b,hp,h=>by
  obtain⟨x,r,rfl,e,c⟩:=h.un;rw[j4,zC] at hp;rw[j0];exact b8.cons (Rp.rep d hp.1 e) (Rps.rep' a hp.2 c)
end
def Lk.rep{K:Frag} (h:Lk K H F as v d)(fh:Dx F H)(b:d8 d=true):Rep K H v (toP d):=by
 rcases h with h | ⟨a,c,g,rfl,rfl,f,e⟩
 ·exact Rep.mono fh _ (Rp.rep d b h)
 ·exact⟨a,c,rfl,.inl (.inl f),b8.mono fh _ (Rps.rep' g b e)⟩
end
def okE(d:D):Bool:=d8 d&&GW (toP d)
def j5(a b:D):Bool:=PyData.eqv (toP a) (toP b)
def DA:D->D->Option D
 | .int i,.int j=>some (.bl (decide (i=j)))
 | .str a,.str b=>some (.bl (decide (a=b)))
 | .bl a,.bl b=>some (.bl (decide (a=b)))
 |a,b=>if(okE a&&okE b)=true then some (.bl (j5 a b)) else none
def EK:D->D->Option D
 | .int i,.int j=>some (.bl (!decide (i=j)))
 | .str a,.str b=>some (.bl (!decide (a=b)))
 | .bl a,.bl b=>some (.bl (!decide (a=b)))
 |a,b=>if(okE a&&okE b)=true then some (.bl (!j5 a b)) else none
def Hi(a b:List Nat):decide (V.str (S a)=V.str (S b))=decide (a=b):=by
 by_cases h:a=b
 ·subst h;simp
 ·rw[zo h,zo];intro z;exact h (q9 (V.str.inj z))
def Hj(a b:Int):decide (V.int a=V.int b)=decide (a=b):=by
 by_cases h:a=b
 ·simp
 ·rw[zo h,zo];intro z;exact h (V.int.inj z)
def Hk(a b:Bool):decide (V.bl a=V.bl b)=decide (a=b):=by
 cases a<;>cases b<;>rfl
def Ym(h:DA a b=some d):(∃i j,a=.int i/\b=.int j/\d=.bl (decide (i=j)))\/(∃i j,a=.str i/\b=.str j/\d=.bl (decide (i=j)))\/(∃i j,a=.bl i/\b=.bl j/\d=.bl (decide (i=j))) \/
  (okE a=true/\okE b=true/\d=.bl (j5 a b)):=by
 unfold DA at h;split at h
 ·cases h;exact .inl ⟨_,_,rfl,rfl,rfl⟩
 ·cases h;exact .inr (.inl ⟨_,_,rfl,rfl,rfl⟩)
 ·cases h;exact .inr (.inr (.inl ⟨_,_,rfl,rfl,rfl⟩))
 ·split at h
  ·rename_i c;rw[zC] at c;cases h;exact .inr (.inr (.inr ⟨c.1,c.2,rfl⟩))
  ·cases h
def Yn(h:EK a b=some d):(∃i j,a=.int i/\b=.int j/\d=.bl (!decide (i=j)))\/(∃i j,a=.str i/\b=.str j/\d=.bl (!decide (i=j)))\/(∃i j,a=.bl i/\b=.bl j/\d=.bl (!decide (i=j))) \/
  (okE a=true/\okE b=true/\d=.bl (!j5 a b)):=by
 unfold EK at h;split at h
 ·cases h;exact .inl ⟨_,_,rfl,rfl,rfl⟩
 ·cases h;exact .inr (.inl ⟨_,_,rfl,rfl,rfl⟩)
 ·cases h;exact .inr (.inr (.inl ⟨_,_,rfl,rfl,rfl⟩))
 ·split at h
  ·rename_i c;rw[zC] at c;cases h;exact .inr (.inr (.inr ⟨c.1,c.2,rfl⟩))
  ·cases h
def Hl(m:aY k X.A):E6 X (compareOp .Eq) DA:=by
 intro l s σ H x y v u Q I b a n;obtain⟨O,F,q,p,o,d,r,f,c,e,k⟩:=n
 rcases Ym e with⟨i,j,rfl,rfl,rfl⟩ | ⟨i,j,rfl,rfl,rfl⟩ | ⟨i,j,rfl,rfl,rfl⟩ | ⟨h,g,rfl⟩
 ·cases(f.rp rfl).PD;cases(c.rp rfl).PD;refine xF _ s σ H _ _ v u Q I b a ⟨rfl,?_⟩;rw[Hj];exact b7 r k rfl Rp.bl
 ·cases(f.rp rfl).PZ;cases(c.rp rfl).PZ;refine xF _ s σ H _ _ v u Q I b a ⟨rfl,?_⟩;rw[Hi];exact b7 r k rfl Rp.bl
 ·cases(f.rp rfl).QI;cases(c.rp rfl).QI;refine xF _ s σ H _ _ v u Q I b a ⟨rfl,?_⟩;rw[Hk];exact b7 r k rfl Rp.bl
 ·unfold okE at h g;rw[zC] at h g;exact V7 m _ s σ H _ _ v u Q I b a ⟨toP p,toP o,f.rep r.fh h.1,c.rep r.fh g.1,h.2,g.2,b7 r k rfl Rp.bl⟩
def Yo(m:aY k X.A):E6 X (compareOp .NotEq) EK:=by
 intro l s σ H x y v u Q I b a n;obtain⟨O,F,q,p,o,d,r,f,c,e,k⟩:=n
 rcases Yn e with⟨i,j,rfl,rfl,rfl⟩ | ⟨i,j,rfl,rfl,rfl⟩ | ⟨i,j,rfl,rfl,rfl⟩ | ⟨h,g,rfl⟩
 ·cases(f.rp rfl).PD;cases(c.rp rfl).PD;refine xG _ s σ H _ _ v u Q I b a ⟨rfl,?_⟩;rw[Hj];exact b7 r k rfl Rp.bl
 ·cases(f.rp rfl).PZ;cases(c.rp rfl).PZ;refine xG _ s σ H _ _ v u Q I b a ⟨rfl,?_⟩;rw[Hi];exact b7 r k rfl Rp.bl
 ·cases(f.rp rfl).QI;cases(c.rp rfl).QI;refine xG _ s σ H _ _ v u Q I b a ⟨rfl,?_⟩;rw[Hk];exact b7 r k rfl Rp.bl
 ·unfold okE at h g;rw[zC] at h g;exact V8 m _ s σ H _ _ v u Q I b a ⟨toP p,toP o,f.rep r.fh h.1,c.rep r.fh g.1,h.2,g.2,b7 r k rfl Rp.bl⟩
def toV:D->V
 | .bl b=>.bl b
 | .int i=>.int i
 | .str l=>.str (S l)
 | _=>.Pl
def gU:D->Bool
 | .Pl=>true
 | .bl _=>true
 | .int _=>true
 | .str _=>true
 | _=>false
def JI(x y:D):Bool:=HZ (toV x) (toV y)
def Rp.flat{K:Frag} (h:Rp K F as v d)(a:gU d=true):v=toV d/\iW v=true:=by
 cases d with
 |Pl=>rw[h.Sl];exact⟨rfl,rfl⟩
 |bl b=>rw[h.QI];exact⟨rfl,rfl⟩
 |int b=>rw[h.PD];exact⟨rfl,rfl⟩
 |str b=>rw[h.PZ];exact⟨rfl,rfl⟩
 | _=>cases a
theorem Rps.flat{K:Frag}{F:Hp}{k:List Addr}:∀{b:List D}{a:List V},Rps K F k a b->b.all gU=true->a=b.map toV/\a.all iW=true
 | [],a,h,_=>by rw[h.QL];exact⟨rfl,rfl⟩
 |d::b,a,h,hf=>by
  obtain⟨x,r,rfl,e,c⟩:=h.un;rw[List.all_cons,zC] at hf;obtain⟨j,i⟩:=e.flat hf.1;obtain⟨g,f⟩:=Rps.flat c hf.2;exact⟨by rw[zh,<-j,<-g],by rw[List.all_cons,i,f];rfl⟩
def F0(a:Bool):D->D->Option D
 | .str [c],.str l=>some (.bl (a ^^ decide (c∈l)))
 |x,.lst ds=>if(gU x&&ds.all gU)=true then some (.bl (a ^^ ds.any λy=>JI y x)) else none
 |x,.tup ds=>if(gU x&&ds.all gU)=true then some (.bl (a ^^ ds.any λy=>JI y x)) else none
 | _,_=>none
def Yp(h:F0 g a b=some d):(∃c l,a=.str [c]/\b=.str l/\d=.bl (g ^^ decide (c∈l)))\/(∃f,(b=.lst f\/b=.tup f)/\gU a=true/\f.all gU=true/\d=.bl (g ^^ f.any λy=>JI y a)):=by
 unfold F0 at h;split at h
 ·cases h;exact .inl ⟨_,_,rfl,rfl,rfl⟩
 ·split at h
  ·rename_i e;rw[zC] at e;cases h;exact .inr ⟨_,.inl rfl,e.1,e.2,rfl⟩
  ·cases h
 ·split at h
  ·rename_i e;rw[zC] at e;cases h;exact .inr ⟨_,.inr rfl,e.1,e.2,rfl⟩
  ·cases h
 ·cases h
def Yq{a:List D}:LB (toV x) (a.map toV)=a.any λy=>JI y x:=by
 unfold LB;rw[List.any_map];rfl
def Yr{K:Frag} (r:DD K j O H F i)(f:Lk K H F i v b)(g:b=.lst h\/b=.tup h):∃p a,v=.ref p/\(Ee K H p a\/ER K H p a)/\Rps K F i a h:=by
 rcases g with rfl | rfl
 ·obtain⟨p,a,e,d,c⟩:=f.list r.fh;exact⟨p,a,e,.inl d.sq,c⟩
 ·obtain⟨p,a,e,d,c⟩:=(f.rp rfl).QR;exact⟨p,a,e,.inr (Dx.PY r.fh d),c⟩
def Ys(h:gU d=true):iY d=true:=by cases d<;>first | rfl | cases h
def Hm:E6 X (compareOp .In) (F0 false):=by
 intro i s σ H x y v u Q I b a t;obtain⟨O,F,J,E,C,d,r,g,f,e,k⟩:=t
 rcases Yp e with⟨c,l,rfl,rfl,rfl⟩ | ⟨G,m,h,q,rfl⟩
 ·cases(g.rp rfl).PZ;cases(f.rp rfl).PZ;refine Wc _ s σ H _ _ v u Q I b a ⟨c,l,rfl,rfl,?_⟩;rw[Bool.false_xor] at k;exact b7 r k rfl Rp.bl
 ·obtain⟨p,j,rfl,o,n⟩:=Yr r f m;obtain⟨B,A⟩:=(g.rp (Ys h)).flat h;obtain⟨z,w⟩:=n.flat q;refine Vn _ s σ H _ _ v u Q I b a ⟨p,j,rfl,o,A,w,?_⟩;rw[B,z,Yq];rw[Bool.false_xor] at k;exact b7 r k rfl Rp.bl
def C7:D->D->Option D
 | .lst ds,.int i=>Qb ds i
 | .tup ds,.int i=>Qb ds i
 | .str l,.int i=>if l.length<=1000000 then(Qb l i).map λc=>.str [c] else none
 | _,_=>none
def Rps.Qb{K:Frag} (h:Rps K F as xs ds)(e:Qb ds i=some d):∃v,L2.Qb xs i=some v/\Rp K F as v d:=by
 unfold L2.Qb at e ⊢;rw[h.length]
 cases q:He _ i with
 |none=>rw[q] at e;cases e
 |some j =>
  rw[q] at e;exact h.get' e
inductive MX (K:Frag) (mg:Str->Option Value) (g:D->D->Option D) (x:V) (y:V) (H:Hp) (Q:VK):Prop
 | mk:∀O F as dx dy d,DD K mg O H F as->Lk K H F as x dx->Lk K H F as y dy->g dx dy=some d->(∀v',Rp K F as v' d->Q v' H)->MX K mg g x y H Q
def Yt:KO X (MX X.K X.mg C7):=by
 intro A B C s σ H x y v u Q I g f G a;obtain⟨O,F,L,J,w,d,r,j,h,e,k⟩:=G
 cases J with
 |lst =>
  obtain⟨p,b,rfl,n,m⟩:=j.list r.fh
  cases w with
  |int i =>
   cases(h.rp rfl).PD;obtain⟨z,t,o⟩:=m.Qb e;exact Ve _ _ _ s σ H _ _ v u Q I g f ⟨p,b,i,z,rfl,rfl,n.sq,t,k z o⟩ a
  | _=>cases e
 |tup =>
  obtain⟨p,b,rfl,n,m⟩:=(j.rp rfl).QR
  cases w with
  |int i =>
   cases(h.rp rfl).PD;obtain⟨z,t,o⟩:=m.Qb e;exact Vf _ _ _ s σ H _ _ v u Q I g f ⟨p,b,i,z,rfl,rfl,Dx.PY r.fh n,t,k z o⟩ a
  | _=>cases e
 |str l =>
  cases(j.rp rfl).PZ
  cases w with
  |int i =>
   cases(h.rp rfl).PD;simp only[C7] at e;split at e
   ·rename_i E
    cases q:L2.Qb l i with
    |none=>rw[q] at e;cases e
    |some c =>
     rw[q] at e;cases e;exact Vg _ _ _ s σ H _ _ v u Q I g f ⟨S l,i,c,rfl,rfl,by exact fQ E,by exact q,k _ Rp.str⟩ a
   ·cases e
  | _=>cases e
 | _=>cases e
def Yu(t:SE X L P a N)(hb:SE X L P b mb)(hs:uy b:=by intro _ _;rfl):VE X L P (.Subscript a b pos) (ak C7 N mb):=(Va Yt t hb hs).imp λσ H Q h=>by
 obtain⟨ρ,O,F,A,d,J,r,i,e,k⟩:=h;obtain⟨x,I,z,e⟩:=C8.Pi e;obtain⟨y,G,w,e⟩:=C8.Pi e;split at e
 ·rename_i E s;cases e;refine⟨ρ,_,F,A,_,_,r,i,z,λv K C g l o hv=>?_⟩;refine⟨ρ,_,C,g,_,_,o,i.step l,w,λu B m f j c q=>?_⟩;exact⟨_,m,f,_,_,_,c,Sv.lk (Sv.gr hv j) c,Sv.lk q c,s,λn p=>k n B m _ (l.trans j) c p⟩
 ·cases e
inductive MU (K:Frag) (mg:Str->Option Value) (md:List Md) (P:Pt) (m:M (Option Int)) (σ:St) (H:Hp) (Q:(Option Int->Hp->Prop)):Prop
 | mk:∀ρ O F as b O',DD K mg O H F as->DV K md P ρ σ H F as->m ρ O=.ok b O'->(∀H' F' as',Gr H F as H' F' as'->DD K mg O' H' F' as'->Q b H')->MU K mg md P m σ H Q
def VO(X:Cx)(a:List Md)(P:Pt)(e:Option Expr)(m:M (Option Int)):Prop:=PO X e (MU X.K X.mg a P m)
def PO.imp(h:PO X e t)(k:∀σ H Q,b σ H Q->t σ H Q):PO X e b:=λa s σ H Q I q=>h a s σ H Q I (k σ H Q q)
def EA:M (Option Int):=λ_ O=>.ok none O
def D2(m:M D):M (Option Int):=λρ O=>(m ρ O).bind λd O1=>match d with
 | .int i=>.ok (some i) O1
 | _=>.no
def Yv:VO X c P none EA:=U3.imp λσ H Q q=>by
 obtain⟨ρ,O,F,a,d,b,r,s,e,k⟩:=q;cases e;exact k H F a Gr.refl r
theorem Yw(h:VE X md P e m):VO X md P (some e) (D2 m):=(U4 h).imp λσ H Q q=>by
 obtain⟨ρ,O,F,g,d,p,r,s,e,k⟩:=q;obtain⟨x,o,f,e⟩:=C8.Pi e
 cases x with
 |int i =>
  cases e;exact⟨ρ,_,F,g,_,_,r,s,f,λv j l n c a b=>⟨i,Rp.PD b,k j l _ c a⟩⟩
 | _=>cases e
def GO(d:D)(lo a:Option Int):Option D:=match d with
 | .lst ds=>some (.lst (cI ds lo a))
 | .tup ds=>some (.tup (cI ds lo a))
 | .str l=>if l.length<=16777216 then some (.str (cI l lo a)) else none
 | _=>none
inductive Hn (K:Frag) (mg:Str->Option Value) (x:V) (lo:Option Int) (hi:Option Int) (H:Hp) (Q:VK):Prop
 |mk:∀O F as dx d,DD K mg O H F as->Lk K H F as x dx->GO dx lo hi=some d->(∀v' H' F',Gr H F as H' F' as->DD K mg O H' F' as->Ow K (λa=>H a=none) H' F' as v' d->Q v' H')->Hn K mg x lo hi H Q
def Rps.cut{K:Frag} (h:Rps K F d b c)(lo a:Option Int):Rps K F d (mQ b lo a) (cI c lo a):=by
 unfold mQ cI;rw[h.length];exact(h.drop _).take _
def Yx:JO X (Hn X.K X.mg):=by
 intro w s σ H x v i g lo a j Q I m hs o n h;obtain⟨O,F,B,A,d,r,c,e,k⟩:=h
 cases A with
 |lst =>
  obtain⟨p,f,rfl,u,b⟩:=c.list r.fh;cases e;exact Vl _ s σ H _ v i g lo a j Q I m hs o n ⟨p,f,rfl,u.sq,λq t=>oZ r k t (b.cut lo a)⟩
 |tup ds =>
  obtain⟨p,f,rfl,u,b⟩:=(c.rp rfl).QR;cases e;refine Wl _ rfl _ s σ H _ v i g lo a j Q I m hs o n ⟨p,f,rfl,Dx.PY r.fh u,λz=>?_,λ_ q t=>Hg r k t (b.cut lo a)⟩
  have:cI ds lo a=ds:=by
   unfold cI;rw[<-b.length,z.1,z.2,List.drop_zero,Nat.sub_zero,b.length,List.take_length]
  rw[this] at k;exact b7 r k rfl (c.rp rfl)
 |str l =>
  cases(c.rp rfl).PZ;simp only[GO] at e;split at e
  ·rename_i y;cases e;exact Wj _ s σ H _ v i g lo a j Q I m hs o n ⟨l,rfl,zJ y (Nat.le_of_eq sizeLine_eq.symm),b7 r k rfl Rp.str⟩
  ·cases e
 | _=>cases e
def D5(m:M D)(lo b:M (Option Int)):M D:=λρ O=>(m ρ O).bind λd O1=>(lo ρ O1).bind λl c=>(b ρ c).bind λh a=>match GO (aZ a d) l h with
 |some y=>.ok y a
 |none=>.no
end
section
variable {X:Cx}{md:List Md}{P:Pt}{R:RR}
def Yy{lo:Option Expr} (I:SE X md P e m)(C:VO X md P lo ml)(E:VO X md P hi mh):OE X md P (.Subscript e (.Slice lo hi none p2) pos) (D5 m ml mh):=(U5 Yx I C E).imp λσ H Q q=>by
 obtain⟨ρ,O,F,U,d,O',r,s,e,k⟩:=q;obtain⟨x,O1,T,e⟩:=C8.Pi e;obtain⟨l,O2,N,e⟩:=C8.Pi e;obtain⟨h,O3,L,e⟩:=C8.Pi e;split at e
 ·rename_i y G;cases e;refine⟨ρ,_,F,U,_,_,r,s,T,λv H1 F1 i p w B=>?_⟩;refine⟨ρ,_,F1,i,_,_,w,s.step p,N,λH2 Z g o u=>?_⟩;have c:=p.trans o;refine⟨ρ,_,Z,g,_,_,u,s.step c,L,λH3 Y f n j=>?_⟩;have b:=c.trans n;exact⟨_,Y,f,_,_,j,Sv.lk (Sv.gr (Sv.gr B o) n) j,G,λt W F' K z A=>k t W F' _ (b.trans K) z (gQ _ _ _ _ _ _ _ (λa J=>b.dm a J) A)⟩
 ·cases e
def KM(K:Frag)(H F:Hp)(a:List Addr):List V->List D->Prop
 | [],[]=>True
 |v::vs,d::ds=>Lk K H F a v d/\KM K H F a vs ds
 | _,_=>False
theorem cz.lks{K:Frag} (r:DD K mg O H F as):∀{c:List Md}{a:List V}{b:List D},cz K H F as c a b->KM K H F as a (b.map (aZ O))
 | [],[],[],_=>trivial
 |m::c,v::a,d::b,h=>by
  refine⟨?_,cz.lks r h.2⟩
  have e:Sv K H F as v d:=by
   cases m with
   |v=>exact .inl h.1
   |s=>exact h.1
   |o=>exact h.1
  exact e.lk r
 | [],[],_::_,h=>h.elim
 | [],_::_,[],h=>h.elim
 | [],_::_,_::_,h=>h.elim
 | _::_,[],[],h=>h.elim
 | _::_,[],_::_,h=>h.elim
 | _::_,_::_,[],h=>h.elim
inductive rC (K:Frag) (mg:Str->Option Value) (g:List D->Option D) (vs:List V) (H:Hp) (Q:VK):Prop
 |mk:∀O F as ds d,DD K mg O H F as->KM K H F as vs ds->g ds=some d->(∀v' H' F',Gr H F as H' F' as->DD K mg O H' F' as->Ow K (λa=>H a=none) H' F' as v' d->Q v' H')->rC K mg g vs H Q
abbrev lH(X:Cx)(f:Value)(g:List D->Option D):Prop:=gj X f (rC X.K X.mg g)
def aO(g:List D->Option D)(b:M (List D)):M D:=λρ O=>(b ρ O).bind λds a=>match g (ds.map (aZ a)) with
 |some d=>.ok d a
 |none=>.no
def yD{K:Frag} (q:tM K E md P (rO K) (aO g G) σ H Q):LP (rC K E g) (JA K E md P ms G) σ H Q:=by
 obtain⟨ρ,O,F,t,d,B,r,s,e,k⟩:=q;obtain⟨z,A,p,e⟩:=C8.Pi e;split at e
 ·rename_i y m;cases e;refine⟨ρ,_,F,t,_,_,r,s,p,λx C v b f c l=>?_⟩;exact⟨_,v,b,_,_,c,l.lks c,m,λh u w o i j=>k h u w _ (f.trans o) i (gQ _ _ _ _ _ _ _ (λa n=>f.dm a n) j)⟩
 ·cases e
def yE{p a:Pos} {id:String} (j:lH X (.builtin id) g)(f:X.mg x=none)(k:AE X md P ms (e::l) m)(hv:bootBuiltins x=some (.builtin id):=by decide +kernel)(h:Gl X x:=by rfl)
  (d:x≠"__name__":=by decide) (c:SV x:=by decide) (i:SW X.env e l:=by exact bT rfl) (b:SY X.env a l:=by exact cF rfl):
  OE X md P (.Call (.Name x p) (e::l) [] a) (aO g m):=(xR j h f hv k d c i b).imp λ_ _ _ q=>yD q
def yF{p a:Pos} (j:lH X (.type T) g)(f:X.mg x=none)(k:AE X md P ms (e::l) m)(hv:bootBuiltins x=some (.type T):=by decide +kernel)(h:Gl X x:=by rfl)
  (d:x≠"__name__":=by decide) (c:SV x:=by decide) (i:SW X.env e l:=by exact bT rfl) (b:SY X.env a l:=by exact cF rfl):
  OE X md P (.Call (.Name x p) (e::l) [] a) (aO g m):=(ux j h f hv k d c i b).imp λ_ _ _ q=>yD q
def KM.one{K:Frag}{H F:Hp}{b:List Addr}{a:List V}{d:D}(h:KM K H F b a [d]):∃v,a=[v]/\Lk K H F b v d:=by
 cases a with
 |nil=>exact h.elim
 |cons v a =>
  cases a with
  |nil=>exact⟨v,rfl,h.1⟩
  |cons =>exact h.2.elim
def aX:List D->Option D
 | [.str l]=>if l.length<=1000000 then some (.int l.length) else none
 | [.lst ds]=>some (.int ds.length)
 | [.tup ds]=>some (.int ds.length)
 | _=>none
def Yz:lH X (.builtin "len") aX:=by
 intro j s σ H b c Q I f h;obtain⟨O,F,n,m,d,r,a,e,k⟩:=h;unfold aX at e;split at e
 ·obtain⟨v,rfl,hv⟩:=a.one;split at e
  ·rename_i l;cases e;cases(hv.rp rfl).PZ;refine E2 _ s σ H _ c Q I f ⟨_,_,rfl,⟨by exact fQ l,rfl⟩,?_⟩;exact b7 r k rfl Rp.int
  ·cases e
 ·obtain⟨v,rfl,hv⟩:=a.one;cases e;obtain⟨p,b,rfl,i,g⟩:=hv.list r.fh;refine E2 _ s σ H _ c Q I f ⟨_,_,rfl,.inl ⟨b,i.sq,rfl⟩,?_⟩;rw[g.length];exact b7 r k rfl Rp.int
 ·obtain⟨v,rfl,hv⟩:=a.one;cases e;obtain⟨p,b,rfl,i,g⟩:=(hv.rp rfl).QR;refine E2 _ s σ H _ c Q I f ⟨_,_,rfl,.inr ⟨b,Dx.PY r.fh i,rfl⟩,?_⟩;rw[g.length];exact b7 r k rfl Rp.int
 ·cases e
def mW:List D->Option D
 | [.int i]=>some (.int i)
 | [.bl b]=>some (.int (if b then 1 else 0))
 | _=>none
def YB:lH X (.type "int") mW:=by
 intro a s σ H i f Q I g h;obtain⟨O,F,l,j,d,r,b,e,k⟩:=h;unfold mW at e;split at e
 ·obtain⟨v,rfl,c⟩:=b.one;cases e;cases(c.rp rfl).PD;exact Fp a s σ H _ f Q I g (.inl ⟨_,rfl,b7 r k rfl Rp.int⟩)
 ·obtain⟨v,rfl,c⟩:=b.one;cases e;cases(c.rp rfl).QI;exact Fp a s σ H _ f Q I g (.inr ⟨_,rfl,b7 r k rfl Rp.int⟩)
 ·cases e
def mX:List D->Option D
 | [.lst ds]=>some (.lst ds)
 | [.tup ds]=>some (.lst ds)
 | _=>none
def YC:lH X (.type "list") mX:=by
 intro m s σ H b i Q I j h;obtain⟨O,F,o,n,d,r,a,e,k⟩:=h;unfold mX at e;split at e
 ·obtain⟨v,rfl,hv⟩:=a.one;cases e;obtain⟨p,b,rfl,g,f⟩:=hv.list r.fh;exact Ge _ s σ H _ i Q I j ⟨p,b,rfl,.inl g.sq,λl c=>oZ r k c f⟩
 ·obtain⟨v,rfl,hv⟩:=a.one;cases e;obtain⟨p,b,rfl,g,f⟩:=(hv.rp rfl).QR;exact Ge _ s σ H _ i Q I j ⟨p,b,rfl,.inr (Dx.PY r.fh g),λl c=>oZ r k c f⟩
 ·cases e
def j6:List D->Option (List Bool)
 | []=>some []
 | .bl b::ds=>(j6 ds).map (b :: ·)
 | _=>none
theorem Rps.bools{K:Frag}{F:Hp}{j:List Addr}:∀{c:List D}{a:List V}{f:List Bool},Rps K F j a c->j6 c=some f->a=f.map V.bl
 | [],a,f,h,e=>by cases e;rw[h.QL];rfl
 |d::c,a,f,h,e=>by
  obtain⟨x,r,rfl,i,g⟩:=h.un
  cases d with
  |bl b =>
   unfold j6 at e
   cases q:j6 c with
   |none=>rw[q] at e;cases e
   |some cs =>
    rw[q] at e;cases e;rw[i.QI,Rps.bools g q];rfl
  | _=>cases e
def uN:List D->Option D
 | [.lst ds]=>(j6 ds).map λa=>.bl (a.all id)
 | _=>none
def YD(i:X.calm=true):lH X (.builtin "all") uN:=by
 intro b s σ H c f Q I g h;obtain⟨O,F,o,n,d,r,a,e,k⟩:=h;unfold uN at e;split at e
 ·rename_i m;obtain⟨v,rfl,hv⟩:=a.one;obtain⟨p,c,rfl,l,j⟩:=hv.list r.fh
  cases q:j6 m with
  |none=>rw[q] at e;cases e
  |some bs =>
   rw[q] at e;cases e;refine Wg i _ s σ H _ f Q I g ⟨p,bs,rfl,?_,b7 r k rfl Rp.bl⟩;rw[<-j.bools q];exact l.sq
 ·cases e
def gJ:List D->Option (List Int)
 | []=>some []
 | .int b::ds=>(gJ ds).map (b :: ·)
 | _=>none
theorem Rps.ints{K:Frag}{F:Hp}{j:List Addr}:∀{c:List D}{a:List V}{f:List Int},Rps K F j a c->gJ c=some f->a=f.map V.int
 | [],a,f,h,e=>by cases e;rw[h.QL];rfl
 |d::c,a,f,h,e=>by
  obtain⟨x,r,rfl,i,g⟩:=h.un
  cases d with
  |int b =>
   unfold gJ at e
   cases q:gJ c with
   |none=>rw[q] at e;cases e
   |some cs =>
    rw[q] at e;cases e;rw[i.PD,Rps.ints g q];rfl
  | _=>cases e
def YF:bootBuiltins "len" = some (.builtin "len"):=by decide
def YG:bootBuiltins "max" = some (.builtin "max"):=by decide
def YH:bootBuiltins "all" = some (.builtin "all"):=by decide
def Ho:bootBuiltins "int" = some (.type "int"):=by decide
def Hq:bootBuiltins "str" = some (.type "str"):=by decide
def YJ:bootBuiltins "bool" = some (.type "bool"):=by decide
def Hr:bootBuiltins "list" = some (.type "list"):=by decide
def GM:D->Option String
 | .Pl=>some "NoneType"
 | .bl _=>some "bool"
 | .int _=>some "int"
 | .str _=>some "str"
 | .lst _=>some "list"
 | .tup _=>some "tuple"
 | .QP _ _=>some "dict"
 | .ob _=>none
def lJ(t n:String):Bool:=t == n || (t == "bool" && n == "int")
def gV(n:String)(m:M D):M D:=λρ O=>(m ρ O).bind λd a=>match GM (aZ a d) with
 |some t=>.ok (.bl (lJ t n)) a
 |none=>.no
def yG:List String:=["str","int","bool","list","tuple","dict"]
def YK(K:Frag):∀d t,GM d=some t->∀n∈yG,PySem.W.kitOne K (.type t) (.type n)=some (lJ t n):=by
 intro d t e n a;simp [yG,or_false] at a
 cases d<;>cases e<;>rcases a with rfl | rfl | rfl | rfl | rfl | rfl<;>first | exact Wo | kernel_rfl
def Lk.ty{K:Frag} (h:Lk K H F as v d)(fh:Dx F H)(e:GM d=some t):H0 K H v t:=by
 cases d with
 |Pl=>cases e;rw[(h.rp rfl).Sl];exact .Pl
 |bl b=>cases e;rw[(h.rp rfl).QI];exact .bl _
 |int b=>cases e;rw[(h.rp rfl).PD];exact .int _
 |str b=>cases e;rw[(h.rp rfl).PZ];exact .str _
 |lst g=>cases e;obtain⟨p,c,rfl,a,f⟩:=h.list fh;exact .lst a.sq
 |tup g=>cases e;obtain⟨p,c,rfl,a,f⟩:=(h.rp rfl).QR;exact .tup (Dx.PY fh a)
 |QP j i=>cases e;obtain⟨p,c,rfl,a,f⟩:=(h.rp rfl).unD;exact .dK (fh _ _ a)
 |ob n=>cases e
def uO(n:String) {p b c:Pos} (y:X.mg "isinstance" = none)(A:X.mg T=none)(h:SE X md P a m)(hb:bootBuiltins T=some (.type n):=by decide +kernel)(w:n∈yG:=by decide)(z:Gl X "isinstance":=by rfl)(i:Gl X T:=by rfl)
  (j:T≠"__name__":=by decide) (l:SV T:=by decide)
  (f:starEach [a,.Name T b] X.env=(false,eval a X.env)::starEach [.Name T b] X.env:=by exact bT rfl) (J:starEach [.Name T b] X.env=(false,eval (.Name T b) X.env)::starEach [] X.env:=by rfl) (K:(backTo c (starEach [.Name T b] X.env)).any (·.1)=false:=by exact cF rfl):
  OE X md P (.Call (.Name "isinstance" p) [a,.Name T b] [] c) (gV n m):=
 (xR (Wn _) z y (by decide) (dZ h (dZ (Ry (v:=.ty n) i A hb rfl j l) fK) f) (by decide) (by decide) f).imp λσ H Q q=>by
  obtain⟨ρ,O,F,E,d,N,r,s,e,k⟩:=q;obtain⟨x,L,C,e⟩:=C8.Pi e;split at e
  ·rename_i t u;cases e;refine⟨ρ,_,F,E,_,_,r,s,C,λv G I o B g hv=>?_⟩;exact⟨v,n,t,_,rfl,Lk.ty (Sv.lk hv g) g.fh u,YK _ _ t u n w,k _ G I o B g (.inl ⟨rfl,Rp.bl⟩)⟩
  ·cases e
def uP(m:M D):M (List D):=λρ O=>(m ρ O).bind λd a=>match d with
 | .lst ds=>.ok ds a
 | _=>.no
def yH(m:M D):M (List D):=λρ O=>(m ρ O).bind λd a=>match d with
 | .tup ds=>.ok ds a
 | _=>.no
def YL{K:Frag} (hs:Rps K F o n s)(j:∀(c f:Hp)(b:List Addr),D7 P H F o c f b->(∃O,DD K p O c f b)->E3 K c a n):mV K p P (MH K a) s H F o:=by
 refine⟨λi d c f b g r e=>?_,λc f b g r=>⟨n,(j c f _ g r).sq,by rw[hs.length];exact zc _⟩⟩;obtain⟨x,k,l⟩:=hs.get' e;have q:=j c f _ g r;refine⟨⟨n,x,q.sq,k⟩,λy m h=>?_⟩;obtain⟨rfl,h⟩:=h
 have:=h n q.sq
 rw[k] at this;cases this;exact⟨f,Gr.refl,λ_ r=>r,l.Sz g⟩
end
def C5.QZ{σ:St}{ch:List Addr} (I:C5 X C σ H s)(d:∀b∈ch,gh X C H b)(k:∀b o,b∉ch->s.heap.get? b=some o->E.get? b=some o):C5 X C σ H {s with heap:=E,toks:=t'}:=by
 have f:∀b u,H b=some u->b∉ch:=λb u e z=>by rw[(d b z).1] at e;cases e
 refine I.step (g':=s.gens) (d':=s.drawn) (ch:=ch) (λb i=>?_) (λb o _ _ a e _=>k b o a e) (λb o _ _ a e _=>⟨o.slots,k b o a e⟩) (λ_ _ _ _ n=>n)
  (λb o a e=>⟨o,k b o a e⟩) (λ_ _ e=>e) (λ_ _ _ e=>e) (λb y e=>⟨#[],by rw[e];simp⟩) (λm h=>?_) (λb u e=>?_) I.bare
 ·obtain⟨B,t,A,p,l,j⟩:=d b i;exact⟨p,t,l,j⟩
 ·obtain⟨o,w,x,g,r⟩:=h;exact⟨o,w,x,k _ o (λz=>(d _ z).2.1 rfl) g,r⟩
 ·refine(I.Pm b u e).P6 (λc v a q=>k c v ?_ q) (λ_ q=>q) λ_ _ q=>q
  rcases a with z | z
  ·rw[z];exact f b u e
  ·exact f c _ z
def C5.Q1{σ:St}{ch:List Addr} {T:Addr} (I:C5 X N σ H s)(d:∀b∈ch,gh X N H b)(k:∀b o,b∉ch->s.heap.get? b=some o->P.get? b=some o)
  (j:s.heap.objs.size<=T) (i:IsTup P T us.toArray) (t:aJ O us) (p:O.length<=sizeLine):C5 X N σ (DB H T (.tup O)) {s with heap:=P,toks:=t'}:=by
 have f:H T=none:=I.Pm.fresh j
 have g:∀b u,H b=some u->b∉ch:=λb u e z=>by rw[(d b z).1] at e;cases e
 have l:∀b o,s.heap.get? b=some o->b≠T:=λb o e z=>by
  subst z;exact absurd (zm e) (Nat.not_lt_of_le j)
 refine I.step (g':=s.gens) (d':=s.drawn) (ch:=ch) (λb h=>?_) (λb o _ _ a e _=>k b o a e) (λb o _ _ a e _=>⟨o.slots,k b o a e⟩) (λb o _ e n=>by rw[aH (l b o e)];exact n)
  (λb o a e=>⟨o,k b o a e⟩) (λb _ e=>by rw[aH (cj e f)];exact e) (λb _ _ e=>by rw[aH (cj e f)];exact e) (λb J e=>⟨#[],by rw[aH (cj e f),e];simp⟩) (λm x=>?_) (λb u e=>?_) I.bare
 ·obtain⟨L,C,K,B,A,y⟩:=d b h;exact⟨B,C,A,y⟩
 ·obtain⟨o,E,F,w,r⟩:=x;exact⟨o,E,F,k _ o (λz=>(d _ z).2.1 rfl) w,r⟩
 ·by_cases h:b=T
  ·subst h;rw[bG] at e;cases e;exact⟨p,us,t,i⟩
  ·rw[aH h] at e
   refine(I.Pm b u e).P6 (λc v a q=>k c v ?_ q) (λc q=>by rw[aH (cj q f)];exact q) λc G q=>by rw[aH (cj q f)];exact q
   rcases a with z | z
   ·rw[z];exact g b u e
   ·exact g c _ z
def NV(K:Frag)(l:Addr):It:=⟨λi H=>∃a x,Ee K H l a/\a[i]?=some x,λi H v b=>∃T x,v=.ref T/\H T=none/\b=DB H T (.tup [.int i,x])/\∀a,Ee K H l a->a[i]?=some x,λi H=>∃a,Ee K H l a/\a.length<=i⟩
def Hs(l:List Nat):It:=⟨λi _=>i<l.length,λi H v a=>∃T c,v=.ref T/\H T=none/\a=DB H T (.tup [.int i,.str (S [c])])/\l[i]?=some c,λi _=>l.length<=i⟩
def mY{h:Heap} (e:h.get? b=some o)(d:o.data=.fields a):∃o,h.get? b=some o/\∀v,o.data≠.cell v:=⟨o,e,λv z=>by rw[d] at z;cases z⟩
def YM{K:Frag} (e it l:Addr)(hne:e≠it):EO P w K (.Tuple elts x1 pos) (NV K l) [e,it] e (λi h=>(∃old,IsEnum h e it i old)/\h.IsListIter it l i) where
 mem:=by simp
 obj:=λi h st b hb=>by
  obtain⟨⟨old,he⟩,o,ho,hc,hd⟩:=st
  rcases zk.mp hb with rfl | hb
  ·exact mY he rfl
  ·rw[zj.mp hb];exact mY ho hd
 keep:=λi h h' st k=>by
  obtain⟨⟨old,he⟩,o,ho,r⟩:=st;exact⟨⟨old,k e (by simp) _ he⟩,o,k it (by simp) o ho,r⟩
 item:=by
  intro X hP hw hK hc i pins s σ H E I hf st hg;subst hP hw hK;obtain⟨⟨old,he⟩,hit⟩:=st;obtain⟨xs,x,hq,hx⟩:=hg;obtain⟨its,rv,pl,hz⟩:=I.list hq;obtain⟨u,hu,ru⟩:=rv.get hx;have hT:H s.heap.objs.size=none:=I.Pm.fresh (zc _);have elt:e<s.heap.objs.size:=zm he
  refine wpAny_pyNext_enum_item he hit pl.isList (x:=u) (by simpa using hu) hne λh' ho hit' hTup hsz hk=>⟨_,rfl,?_⟩
  refine wpAny_letOwnedTupleGo_enum ho λh'' he'' hs''=>⟨.ref s.heap.objs.size,_,?_,rfl,⟨s.heap.objs.size,x,rfl,hT,rfl,λys hy=>by rw[I.P1 hy hq];exact hx⟩,⟨⟨_,by simpa using he''⟩,hit'.extBut hs''.extBut (Ne.symm hne)⟩,λb hb=>?_⟩
  ·show C5 X pins σ _ {s with heap:=h'',toks:=s.toks+1};refine I.Q1 (ch:=[e,it]) (us:=[.int i s.toks,u]) hf (λb o hb q=>?_) (zc _) ⟨_,hs''.extBut _ _ (Nat.ne_of_gt elt) hTup,rfl,_,rfl⟩ (.cons ⟨_,rfl⟩ (.cons ru .nil)) (by show 2<=sizeLine;decide)
   have h1:b≠e:=λz=>hb (by simp[z])
   have h2:b≠it:=λz=>hb (by simp[z])
   exact hs''.extBut _ _ h1 (hk b o h1 h2 q)
  ·have q:=hf b hb;rw[aH (λz=>?_)]
   ·exact q.1
   ·obtain⟨o,ho⟩:∃o,s.heap.get? b=some o:=by
     rcases zk.mp hb with rfl | hb
     ·exact⟨_,he⟩
     ·rw[zj.mp hb];obtain⟨o,ho,_⟩:=hit;exact⟨o,ho⟩
    exact absurd (zm ho) (by rw[z];exact zW _)
 done:=by
  intro X hP hw hK hc i pins s σ H E I hf st hg;subst hP hw hK;obtain⟨⟨old,he⟩,hit⟩:=st;obtain⟨xs,hq,hl⟩:=hg;obtain⟨its,rv,pl,hz⟩:=I.list hq
  refine wpAny_pyNext_enum_end (I.ok.hd hc) he hit pl.isList (by have:=rv.length;simp;omega) λh' hx=>⟨rfl,?_⟩
  exact I.QZ (t':=s.toks) (ch:=[e,it]) hf λb o hb q=>hx b o (λz=>hb (by simp[z])) q
 self:=λA i s Q E st h=>by
  obtain⟨⟨old,he⟩,_⟩:=st;exact wpAny_pyIter_enum he h
def YQ{K:Frag} (e it:Addr)(l:List Nat)(t:Tok)(hne:e≠it):EO P w K (.Tuple elts x1 pos) (Hs l) [e,it] e (λi h=>(∃old,IsEnum h e it i old)/\h.IsStrIter it "str_ascii_iterator" (S l) t i) where
 mem:=by simp
 obj:=λi h st b hb=>by
  obtain⟨⟨old,he⟩,o,ho,hc,hd⟩:=st
  rcases zk.mp hb with rfl | hb
  ·exact mY he rfl
  ·rw[zj.mp hb];exact mY ho hd
 keep:=λi h h' st k=>by
  obtain⟨⟨old,he⟩,o,ho,r⟩:=st;exact⟨⟨old,k e (by simp) _ he⟩,o,k it (by simp) o ho,r⟩
 item:=by
  intro X hP hw hK hc i pins s σ H E I hf st hg;subst hP hw hK;obtain⟨⟨old,he⟩,hit⟩:=st;have hg':i<l.length:=hg;have hT:H s.heap.objs.size=none:=I.Pm.fresh (zc _);have elt:e<s.heap.objs.size:=zm he;have hd:X.A.in1.handled=none:=I.ok.hd hc
  refine wpAny_pyNext_enum_itemD (Draws.strAscii hd it (S l) t) he hit (by simpa [S] using hg') hne (λz=>hne (by simpa using z)) λu h' tk hP ho hit' hTup hsz hk=>⟨_,rfl,?_⟩
  obtain⟨c,tc,hcx,rfl⟩:=hP
  have hcl:l[i]?=some c:=by
   rw[<-hcx];simp[S]
  refine wpAny_letOwnedTupleGo_enum ho λh'' he'' hs''=>⟨.ref s.heap.objs.size,_,?_,rfl,⟨s.heap.objs.size,c,rfl,hT,rfl,hcl⟩,⟨⟨_,by simpa using he''⟩,?_⟩,λb hb=>?_⟩
  ·show C5 X pins σ _ {s with heap:=h'',toks:=tk+1};refine I.Q1 (ch:=[e,it]) (us:=[.int i tk,.str ⟨#[c]⟩ tc]) hf (λb o hb q=>?_) (zc _) ⟨_,hs''.extBut _ _ (Nat.ne_of_gt elt) hTup,rfl,_,rfl⟩ (.cons ⟨_,rfl⟩ (.cons ⟨_,rfl⟩ .nil)) (by show 2<=sizeLine;decide)
   have h1:b≠e:=λz=>hb (by simp[z])
   have h2:b≠it:=λz=>hb (by simp[z])
   exact hs''.extBut _ _ h1 (hk b o h1 h2 q)
  ·obtain⟨o,ho',r⟩:=hit';exact⟨o,hs''.extBut _ _ (Ne.symm hne) ho',r⟩
  ·have q:=hf b hb;rw[aH (λz=>?_)]
   ·exact q.1
   ·obtain⟨o,ho⟩:∃o,s.heap.get? b=some o:=by
     rcases zk.mp hb with rfl | hb
     ·exact⟨_,he⟩
     ·rw[zj.mp hb];obtain⟨o,ho,_⟩:=hit;exact⟨o,ho⟩
    exact absurd (zm ho) (by rw[z];exact zW _)
 done:=by
  intro X hP hw hK hc i pins s σ H E I hf st hg;subst hP hw hK;obtain⟨⟨old,he⟩,hit⟩:=st;have hd:X.A.in1.handled=none:=I.ok.hd hc;have hg':l.length<=i:=hg;have hT:s.TypeIs (.ref e) "enumerate":=⟨_,he,rfl⟩;unfold pyNext
  refine za (wpAny_attempt (wpAny_callSpecial?_slot (name:=Str.ofString "__next__") hT F.slot_enumerate_next
   (wpAny_call_entry F.slot_enumerate_next hT F.entry_enumerate_next ?_ (F.args_enumerate_next_1 _))))
  show wpAny _ _ (field (.ref e) 2 >>= _) _ _ _;refine za (wpAny_field he rfl (x:=.ref it) rfl ?_);refine za (wpAny_nextOf_ascii_end hd hit (by simp[S];exact hg') λh' x he' hx'=>?_);obtain⟨o,ho,hc⟩:=hx';refine za (wpAny_isInstance (T:="StopIteration") (b:=true) ⟨o,ho,hc⟩ isSubtype_stop ?_);exact zb ⟨rfl,I.QZ (t':=s.toks) (ch:=[e,it]) hf λb o hb q=>he' b o (λz=>hb (by simp[z])) q⟩
 self:=λA i s Q E st h=>by
  obtain⟨⟨old,he⟩,_⟩:=st;exact wpAny_pyIter_enum he h
def YS(K:Frag)(e:TA):TI:=λσ H R=>e σ H λd b=>∃a,d=[.ref a]/\(∃c,Ee K b a c)/\R (NV K a) b
def YT(b:TA):TI:=λσ H R=>b σ H λa c=>∃l,a=[.str (S l)]/\DH l=true/\R (Hs l) c
def YW(h:DH l=true):strIterType (S l) = "str_ascii_iterator":=by
 unfold strIterType;rw[if_pos];unfold DH at h;rw[jm] at h;simp[S];intro i a;simpa using h i a
def YX(o:Gl X "enumerate")(m:X.mg "enumerate" = none)(r:PA X [a] A)(hs:starEach [a] X.env=[(false,eval a X.env)]:=by exact oW rfl):PI X (.Tuple elts x1 tpos) (.Call (.Name "enumerate" p) [a] [] pos) (YS X.K A):=by
 intro g s σ H R I h;refine Call_ (jQ I o m boot_enumerate (PyProof.Rows.callWith_type1 (thn (r _ _ s σ H _ I h) λus s1 ⟨vs,H1,I1,r1,q1⟩=>?_) hs));obtain⟨l,e,⟨w,k⟩,q⟩:=q1;subst e;obtain⟨u,rfl,i⟩:=DT r1;cases i;obtain⟨t,x,j,y⟩:=I1.list k
 refine call_enumerate_list j.isList λz f d v n=>wpAny_pyIter_enum f ?_
 refine⟨s1.heap.objs.size+1,[s1.heap.objs.size+1,s1.heap.objs.size],_,_,H1,rfl,I1.kept n,YM _ _ l (Nat.succ_ne_self _),⟨⟨_,f⟩,d⟩,λb c=>?_,q⟩
 have hb':s1.heap.objs.size<=b:=by
  rcases zk.mp c with rfl | c
  ·exact Nat.le_succ _
  ·rw[zj.mp c];exact zc _
 exact I1.Ql hb' (I1.Pm.fresh hb')
def YZ(m:Gl X "enumerate")(i:X.mg "enumerate" = none)(n:PA X [a] v)(hs:starEach [a] X.env=[(false,eval a X.env)]:=by exact oW rfl):PI X (.Tuple elts x1 tpos) (.Call (.Name "enumerate" p) [a] [] pos) (YT v):=by
 intro g s σ H R I h;refine Call_ (jQ I m i boot_enumerate (PyProof.Rows.callWith_type1 (thn (n _ _ s σ H _ I h) λus s1 ⟨vs,H1,I1,r1,q1⟩=>?_) hs));obtain⟨l,e,j,q⟩:=q1;subst e;obtain⟨u,rfl,t,rfl⟩:=DT r1
 refine call_enumerate_str λr f c o k=>wpAny_pyIter_enum f ?_
 rw[YW j] at c;refine⟨s1.heap.objs.size+1,[s1.heap.objs.size+1,s1.heap.objs.size],_,_,H1,rfl,I1.kept k,YQ _ _ l t (Nat.succ_ne_self _),⟨⟨_,f⟩,c⟩,λb d=>?_,q⟩
 have hb':s1.heap.objs.size<=b:=by
  rcases zk.mp d with rfl | d
  ·exact Nat.le_succ _
  ·rw[zj.mp d];exact zc _
 exact I1.Ql hb' (I1.Pm.fresh hb')
def rW(K:Frag)(P:Pt):RR:=λ_ H F b v d=>Rp K F b v d\/∃a c e,v=.ref a/\d=.lst e/\H a=some (.lst c)/\a∉b/\P a/\Rps K F b c e
def WE(X:Cx)(a:List Md)(P:Pt)(e:Expr)(m:M D):Prop:=PE X e (tM X.K X.mg a P (rW X.K P) m)
def Y0(h:VE X n P e m):WE X n P e m:=h.imp λσ H Q q=>by
 obtain⟨ρ,O,F,c,d,f,r,s,e,k⟩:=q;exact⟨ρ,O,F,c,d,f,r,s,e,λv i j l g a b=>k v i j _ g a (.inl b)⟩
def Y4{X:Cx}{P:Pt}(i:Nat){x:Str}{a:Pos}(f:q[i]?=some .s:=by rfl)(j:X.N[i]?=some x:=by rfl)(c:G0 X.env.scope x:=by first | exact Or.inl rfl | exact Or.inr (Or.inl rfl) | exact Or.inr (Or.inr rfl))
  (g:SV x:=by decide) (b:(x == ("__classdict__":Str))=false:=by decide):WE X q P (.Name x a) (aa i):=by
 refine(jP j c g b).imp λσ H Q h=>?_
 obtain⟨ρ,O,F,o,d,p,r,s,e,k⟩:=h;obtain⟨n,rfl⟩:=rm e;obtain⟨v,m,l⟩:=s.sl i .s d f n;exact⟨v,m,k v H F o Gr.refl r l⟩
def uQ{K:Frag} (h:rW K P N H F o v (.lst p)):
  ∃a c,v=.ref a/\Rps K F o c p/\∀(d f:Hp)(b:List Addr),D7 P H F o d f b->(∃O,DD K q O d f b)->E3 K d a c:=by
 rcases h with h | ⟨a,c,n,rfl,e,m,l,k,e6⟩
 ·obtain⟨a,c,rfl,j,i⟩:=h.Sr;exact⟨a,c,rfl,i,λd f b g ⟨O,r⟩=>(j.mono g.ff).mono r.fh⟩
 ·cases e;exact⟨a,c,rfl,e6,λd f b g _=>.inl (.inl (g.fr _ _ k m l rfl))⟩
theorem Y5(h:WE X md P e m):VI X md P tg e (uP m):=(xB h).imp λσ H Q q=>by
 obtain⟨ρ,O,F,p,u,x,r,s,e,k⟩:=q;obtain⟨d,w,o,e⟩:=C8.Pi e
 cases d with
 |lst =>
  cases e;refine⟨ρ,_,F,p,_,_,r,s,o,λv f g t n b j=>?_⟩;obtain⟨a,i,rfl,l,c⟩:=uQ j;exact⟨a,rfl,⟨i,(c f g _ D7.refl ⟨_,b⟩).sq⟩,k _ f g _ n b (YL l c)⟩
 | _=>cases e
theorem Ht(h:VE X md P e m):VI X md P tg e (yH m):=(S9 h).imp λσ H Q q=>by
 obtain⟨ρ,O,F,I,J,N,r,s,e,k⟩:=q;obtain⟨d,L,G,e⟩:=C8.Pi e
 cases d with
 |tup =>
  cases e;refine⟨ρ,_,F,I,_,_,r,s,G,λv o p t E u A=>?_⟩;obtain⟨a,j,rfl,C,z⟩:=Rp.QR A
  have n:∀(c f)(b),D7 P o p t c f b->(∃O,DD X.K X.mg O c f b)->ER _ c a j:=λc f b g ⟨O,r⟩=>Dx.PY r.fh (Dx.PY g.ff C)
  refine⟨a,rfl,⟨j,n o p _ D7.refl ⟨_,u⟩⟩,k _ o p _ E u ⟨λi d c f b g r e=>?_,λc f b g r=>⟨j,n c f _ g r,by rw[z.length];exact zc _⟩⟩⟩;obtain⟨x,w,B⟩:=z.get' e;have q:=n c f _ g r;refine⟨⟨j,x,q,w⟩,λy R l=>?_⟩;obtain⟨rfl,l⟩:=l
  have:=l j q
  rw[w] at this;cases this;exact⟨f,Gr.refl,λ_ r=>r,B.Sz g⟩
 | _=>cases e
def cL(l:List Nat):List D:=l.map λc=>.str [c]
def yI(m:M D):M (List D):=λρ O=>(m ρ O).bind λd a=>match d with
 | .str l=>if DH l=true then .ok (cL l) a else .no
 | _=>.no
def yJ{K:Frag} (c:∀(i:Nat)(d:D)(a:Hp),l[i]?=some d->J.go i a/\∀x b,J.So i a x b->b=a/\∀K F f,Rp K F f x d)(h:∀a,J.stop l.length a):mV K m P J l H F f :=
 ⟨λi d a j k _ _ e=>⟨(c i d a e).1,λx b y=>by
  obtain⟨rfl,g⟩:=(c i d a e).2 x b y
  exact⟨j,Gr.refl,λ_ r=>r,g _ _ _⟩⟩,λa _ _ _ _=>h a⟩
theorem Hu(h:SE X md P e m):VI X md P tg e (yI m):=(Wf h).imp λσ H Q q=>by
 obtain⟨ρ,O,F,o,z,C,r,s,e,k⟩:=q;obtain⟨d,B,a,e⟩:=C8.Pi e
 cases d with
 |str l =>
  dsimp at e
  split at e
  ·rename_i j;cases e;refine⟨ρ,_,F,o,_,_,r,s,a,λv t u w n f g=>?_⟩;refine⟨l,(Sv.rp g rfl).PZ,j,k _ t u _ n f (yJ (λi d p e=>?_) λp=>by simp[cL,ME])⟩;unfold cL at e;rw[zH] at e
   cases q:l[i]? with
   |none=>rw[q] at e;cases e
   |some c =>
    rw[q] at e;cases e;refine⟨(zx.mp q).1,λx E y=>?_⟩;obtain⟨a,A,b,rfl⟩:=y;rw[q] at b;cases b;exact⟨a,λ_ _ _=>Rp.str⟩
  ·cases e
 | _=>cases e
def gW(lo:Int)(n:Nat):List D:=(List.range n).map λ(k:Nat)=>.int (lo+(k:Int))
def gK(m:M (List D)):M (List D):=λρ O=>(m ρ O).bind λa b=>match a with
 | [.int j]=>if j<=1000000000/\-1000000000<=j then .ok (gW 0 j.toNat) b else .no
 | _=>.no
def Y6{K:Frag} {lo:Int}:mV K g P (KP lo n) (gW lo n) H F h:=yJ (λi d c e=>by
 unfold gW at e;rw[zH] at e
 by_cases a:i<n
 ·rw[List.getElem?_range a] at e;cases e;refine⟨a,λx f y=>?_⟩;obtain⟨b,rfl⟩:=y;exact⟨b,λ_ _ _=>Rp.int⟩
 ·rw[jr (by simpa using a)] at e
  cases e) λc=>by simp[gW,KP]
def cz.one{K:Frag}{H F:Hp}{b:List Addr}{m:Md}{a:List V}{d:D}(h:cz K H F b [m] a [d]):∃v,a=[v]/\rA K m (λ_=>True) H F b v d:=by
 cases a with
 |nil=>exact h.elim
 |cons v a =>
  cases a with
  |nil=>exact⟨v,rfl,h.1⟩
  |cons =>exact h.2.elim
def cz.two{K:Frag}{H F:Hp}{b:List Addr}{m n:Md}{a:List V}{d e:D}(h:cz K H F b [m,n] a [d,e]):∃v u,a=[v,u]/\rA K m (λ_=>True) H F b v d/\rA K n (λ_=>True) H F b u e:=by
 cases a with
 |nil=>exact h.elim
 |cons v a =>
  cases a with
  |nil=>exact h.2.elim
  |cons u us =>
   cases us with
   |nil=>exact⟨v,u,rfl,h.1,h.2.1⟩
   |cons w c=>exact h.2.2.elim
def Y7{d:Expr}{p b:Pos} (h:X.mg "range" = none)(l:AE X E P [.s] [a] m)(i:Gl X "range":=by rfl)(hs:starEach [a] X.env=[(false,eval a X.env)]:=by exact oW rfl):VI X E P d (.Call (.Name "range" p) [a] [] b) (gK m):=(Te i h l hs).imp λσ H Q q=>by
 obtain⟨ρ,O,F,t,A,C,r,s,e,k⟩:=q;obtain⟨z,B,o,e⟩:=C8.Pi e;split at e
 ·rename_i j;split at e
  ·cases e;refine⟨ρ,_,F,t,_,_,r,s,o,λy u w x n f g=>?_⟩;obtain⟨v,rfl,c⟩:=g.one
   have:=(Sv.rp c rfl).PD
   subst this;exact⟨j,rfl,by omega,by omega,k _ u w _ n f Y6⟩
  ·cases e
 ·cases e
def dz:Nat->List D->List D
 | _,[]=>[]
 |k,d::ds=>.tup [.int k,d]::dz (k+1) ds
theorem uR:∀(k:Nat)(a:List D),(dz k a).length=a.length
 | _,[]=>rfl
 |k,d::a=>by simp[dz,uR]
theorem uT:∀(k:Nat)(a:List D)(i:Nat),(dz k a)[i]?=(a[i]?).map λd=>.tup [.int ((k+i:Nat):Int),d]
 |k,[],i=>by simp[dz]
 |k,d::a,0=>by simp[dz]
 |k,d::a,i+1=>by
  rw[dz,jj,uT];congr 1
  funext d
  congr 3;omega
def yK{K:Frag} (g:∃O,DD K n O l k j)(a:l T=none)(f:Rps K k j m o):
  ∃d,Gr l k j (DB l T (.tup m)) d j/\(∀O,DD K n O l k j->DD K n O (DB l T (.tup m)) d j)/\Rp K d j (.ref T) (.tup o):=by
 obtain⟨O,r⟩:=g;have c:=r.frF a
 have h:Dx k (DB k T (.tup m)):=λb u q=>by rw[aH (cj q c)];exact q
 exact⟨DB k T _,(Gr.lay a).Pp a c,λi e=>(e.lay a).Pp bG c (λz=>e.all z a) rfl,Rp.Sm (.inl bG) (Rps.mono h (λ_ _ z=>z) _ f)⟩
def Hv(m:M D):M (List D):=λρ O=>(m ρ O).bind λd a=>match d with
 | .lst ds=>.ok (dz 0 ds) a
 | _=>.no
def Hw(m:M D):M (List D):=λρ O=>(m ρ O).bind λd a=>match d with
 | .str l=>if DH l=true then .ok (dz 0 (cL l)) a else .no
 | _=>.no
def Y8{c:List Expr}{J:Nat}{b:Pos} {p o:Pos} (N:X.mg "enumerate" = none)(h:WE X md P a m)(R:Gl X "enumerate":=by rfl)(hs:starEach [a] X.env=[(false,eval a X.env)]:=by exact oW rfl)(u:SW X.env a []:=by exact bT rfl):
  VI X md P (.Tuple c J b) (.Call (.Name "enumerate" p) [a] [] o) (Hv m):=(YX R N (dZ h fK u) hs).imp λσ H Q q=>by
 obtain⟨ρ,O,F,as,ds,O',r,s,e,k⟩:=q;obtain⟨d,O1,Z,e⟩:=C8.Pi e
 cases d with
 |lst es =>
  cases e;refine⟨ρ,_,F,as,_,_,r,s,Z,λv G I as1 Y A L=>?_⟩;obtain⟨a,f,rfl,E,j⟩:=uQ L;refine⟨a,rfl,⟨f,(j G I _ D7.refl ⟨_,A⟩).sq⟩,k _ G I _ Y A ⟨λi d l n w g r e=>?_,λl n w g r=>⟨f,(j l n _ g r).sq,by rw[uR,E.length];exact zc _⟩⟩⟩;rw[uT] at e
  cases q:es[i]? with
  |none=>rw[q] at e;cases e
  |some y =>
   rw[q] at e;cases e;obtain⟨x,C,W⟩:=E.get' q;have B:=j l n _ g r;refine⟨⟨f,x,B.sq,C⟩,λz H3 K=>?_⟩;obtain⟨T,x',rfl,U,rfl,t⟩:=K
   have:=t f B.sq
   rw[C] at this;cases this;rw[jp];exact yK r U (Rps.cons Rp.int (Rps.cons (W.Sz g) Rps.nil))
 | _=>cases e
def Y9{j:List Expr}{u:Nat}{f:Pos} {p n:Pos} (A:X.mg "enumerate" = none)(h:SE X md P a m)(C:Gl X "enumerate":=by rfl)(hs:starEach [a] X.env=[(false,eval a X.env)]:=by exact oW rfl)(o:SW X.env a []:=by exact bT rfl):
  VI X md P (.Tuple j u f) (.Call (.Name "enumerate" p) [a] [] n) (Hw m):=(YZ C A (dZ h fK o) hs).imp λσ H Q q=>by
 obtain⟨ρ,O,F,J,W,O',r,s,e,k⟩:=q;obtain⟨d,Z,I,e⟩:=C8.Pi e
 cases d with
 |str l =>
  dsimp at e
  split at e
  ·rename_i B;cases e;refine⟨ρ,_,F,J,_,_,r,s,I,λv L R U G w y=>?_⟩;refine⟨l,by rw[(Sv.rp y rfl).PZ],B,k _ L R _ G w ⟨λi d K N t g r e=>?_,λK N t g r=>?_⟩⟩
   ·rw[uT] at e;unfold cL at e;rw[zH] at e
    cases q:l[i]? with
    |none=>rw[q] at e;cases e
    |some c =>
     rw[q] at e;cases e;refine⟨(zx.mp q).1,λz H3 x=>?_⟩;obtain⟨T,Y,rfl,E,rfl,b⟩:=x;rw[q] at b;cases b;rw[jp];exact yK r E (Rps.cons Rp.int (Rps.cons Rp.str Rps.nil))
   ·show l.length<=_;rw[uR];simp[cL]
  ·cases e
 | _=>cases e
def gY:List D->Option (List (List Nat))
 | []=>some []
 | .str l::ds=>(gY ds).map (l :: ·)
 | _=>none
theorem Rps.strs{K:Frag}{F:Hp}{j:List Addr}:∀{c:List D}{a:List V}{f:List (List Nat)},Rps K F j a c->gY c=some f->a=f.map λl=>V.str (S l)
 | [],a,bs,h,e=>by cases e;rw[h.QL];rfl
 |d::c,a,bs,h,e=>by
  obtain⟨x,r,rfl,i,g⟩:=h.un
  cases d with
  |str b =>
   unfold gY at e
   cases q:gY c with
   |none=>rw[q] at e;cases e
   |some cs =>
    rw[q] at e;cases e;rw[i.PZ,Rps.strs g q];rfl
  | _=>cases e
def mZ(m:M D):M D:=λρ O=>(m ρ O).bind λd b=>match aZ b d with
 | .lst ds=>match gY ds with
  |some a=>if(a.map List.length).sum<=1000000 then .ok (.str a.flatten) b else .no
  |none=>.no
 | _=>.no
def Za{j:Nat}{p c b:Pos} (h:SE X L P e m) (t:x=S []:=by decide +kernel)
  (i:((backTo b (starEach [e] X.env)).all (λx=>!x.1)&&(backToKw b (keywordEach [] X.env)).all (λx=>x.1.isSome)&&decide ([e].length+([]:List Keyword).length+(if([]:List Keyword).isEmpty then 0 else 1)<30))=true:=by rfl)
  (f:(c.endLine == b.line)=true:=by rfl) (hs:SW X.env e []:=by exact bT rfl) (g:attributeBase (.Constant (.str x) j p) "join" X.env (eval (.Constant (.str x) j p) X.env)=eval (.Constant (.str x) j p) X.env:=by rfl) (l:SY X.env b []:=by exact cF rfl):
  OE X L P (.Call (.Attribute (.Constant (.str x) j p) "join" c) [e] [] b) (mZ m):=
 (lu PySem.F.plainAttrs_str PySem.F.slot_str_join PySem.F.type_str_join (Ws _) En (dZ h fK hs) g i f hs).imp λσ H Q q=>by
  obtain⟨ρ,O,F,B,d,K,r,s,e,k⟩:=q;obtain⟨y,C,A,e⟩:=C8.Pi e
  cases ed:aZ C y with
  |lst ds =>
   rw[ed] at e
   dsimp at e
   cases es:gY ds with
   |none=>rw[es] at e;cases e
   |some ls =>
    rw[es] at e
    dsimp at e
    split at e
    ·rename_i o;cases e;refine⟨rfl,ρ,_,F,B,_,_,r,s,A,λv E G I z n hv=>?_⟩;have q:=Sv.lk hv n;rw[ed] at q;obtain⟨a,J,rfl,w,u⟩:=q.list n.fh;refine⟨a,ls,by rw[t],rfl,?_,o,k _ E G _ z n (.inl ⟨rfl,Rp.str⟩)⟩;rw[<-u.strs es];exact w.sq
    ·cases e
  | _=>rw[ed] at e;cases e
def pq(c m:M D):M D:=λρ O=>(c ρ O).bind λa e=>(m ρ e).bind λb d=>match a,b with
 | .str l,.str n=>.ok (.bl (decide (l.take n.length=n))) d
 | _,_=>.no
def Zb{f c:Pos} (z:VE X U P o W)(h:VE X U P e m)
  (i:attributeBase o "startswith" X.env (eval o X.env)=eval o X.env:=by rfl)
  (j:((backTo c (starEach [e] X.env)).all (λx=>!x.1)&&(backToKw c (keywordEach [] X.env)).all (λx=>x.1.isSome)&&decide ([e].length+([]:List Keyword).length+(if([]:List Keyword).isEmpty then 0 else 1)<30))=true:=by rfl)
  (g:(f.endLine == c.line)=true:=by rfl) (hs:SW X.env e []:=by exact bT rfl) (l:SY X.env c []:=by exact cF rfl):
  OE X U P (.Call (.Attribute o "startswith" f) [e] [] c) (pq W m):=
 (lu PySem.F.plainAttrs_str PySem.F.slot_str_startswith PySem.F.type_str_startswith Wx z (dZ h fK hs) i j g hs).imp λσ H Q q=>by
  obtain⟨ρ,O,F,E,d,R,r,s,e,k⟩:=q;obtain⟨a,N,C,e⟩:=C8.Pi e;obtain⟨b,L,B,e⟩:=C8.Pi e;split at e
  ·cases e;refine⟨ρ,_,F,E,_,_,r,s,C,λv T J n p w hv=>?_⟩;cases Rp.PZ hv;refine⟨rfl,ρ,_,J,n,_,_,w,s.step p,B,λu G I K A t y=>?_⟩;cases Rp.PZ y;exact⟨_,_,rfl,rfl,k _ G I _ (p.trans A) t (.inl ⟨rfl,Rp.bl⟩)⟩
  ·cases e
def DV.own{K:Frag}{i:Nat}(s:DV K p P ρ σ H F n)(e:p[i]?=some .o)(d:ρ[i]?=some (some (.lst q))):∃a b,σ[i]?=some (some (.ref a))/\H a=some (.lst b)/\F a=none/\a∉n/\¬P a/\Rps K F n b q:=by
 obtain⟨v,f,c⟩:=s.sl i .o _ e d
 rcases c with⟨c,_⟩ | ⟨a,b,m,rfl,k,j,l,h,g,e6⟩
 ·cases c
 ·cases k;exact⟨a,b,f,j,l,h,g,e6⟩
def DV.RE{K:Frag}(s:DV K md P ρ σ H F as)(A:md[i]?=some .o)(t:ρ[i]?=some (some (.lst ds)))(n:σ[i]?=some (some (.ref a)))(hF:F a=none)(ha:a∉as)(Q:¬P a)(r:Rps K F as xs' ds'):DV K md P (ρ.set i (some (.lst ds'))) σ (DB H a (.lst xs')) F as:=by
 have Z:i<md.length:=(zx.mp A).1;refine⟨s.len,by rw[zX];exact s.P9,λc p=>?_,λj m d B l=>?_,λj k c b fs h1 h2 h3 h4 h5 h6=>?_,λx Y=>?_⟩
 ·have:=s.pd c p
  unfold DB
  split
  ·exact λz=>nomatch z
  ·exact this
 ·by_cases h:i=j
  ·subst h;rw[A] at B;cases B;rw[zU (by rw[s.P9];exact Z)] at l;cases l;exact⟨_,n,.inr ⟨a,xs',ds',rfl,rfl,bG,hF,ha,Q,r⟩⟩
  ·rw[zi h] at l;obtain⟨v,O,e⟩:=s.sl j m d B l;refine⟨v,O,?_⟩
   cases m with
   |v=>exact e
   |s =>
    rcases e with e | ⟨c,I,b,y,w,G,E,u,C⟩
    ·exact .inl e
    ·exact .inr ⟨c,I,b,y,w,by rw[aH (λz=>Q (by rw[<-z];exact u))];exact G,E,u,C⟩
   |o =>
    rcases e with e | ⟨c,I,b,y,w,G,R,E,u,C⟩
    ·exact .inl e
    ·refine .inr ⟨c,I,b,y,w,?_,R,E,u,C⟩;rw[aH]
     ·exact G
     ·intro z;subst z y w;exact h (s.inj i j c ds b A B t l n O)
 ·have f:∀k b,(ρ.set i (some (.lst ds')))[k]?=some (some (D.lst b))->∃g,ρ[k]?=some (some (D.lst g)):=λk b q=>by
   by_cases h:i=k
   ·subst h;exact⟨ds,t⟩
   ·rw[zi h] at q;exact⟨b,q⟩
  obtain⟨g,U⟩:=f j b h3;obtain⟨N,T⟩:=f k fs h4;exact s.inj j k c g N h1 h2 U T h5 h6
 ·obtain⟨J,X,W⟩:=s.pin x Y
  have L:i≠x.1:=λz=>by rw[<-z,A] at J;cases J
  exact⟨J,by rw[zi L];exact X,W⟩
def uU(d:H a=some (.lst i))(b:¬P a):D7 P H F g (DB H a o) F g :=
 ⟨λ_ _ _ _ _ _=>rfl,Dx.refl F,⟨[],by simp⟩,λc u p e _ _=>by rw[aH λz=>b (by rw[<-z];exact p)];exact e,λc e=>by
  by_cases h:c=a
  ·subst h;rw[bG] at e;cases e
  ·rwa [aH h] at e,λc f u e=>by rw[aH λz=>by rw[z,d] at e;cases e];exact e⟩
def DD.RE{K:Frag}(r:DD K j O H F i)(g:F a=none)(f:a∉i):DD K j O (DB H a o) F i:=by
 refine⟨λc u e=>?_,r.fd,r.nd,r.len,r.fa,λn c u b d=>(r.ob n c u b d).keep (aH ?_) (Dx.refl F) λ_ _ h=>h⟩
 ·rw[aH (cj e g)];exact r.fh c u e
 ·intro z;subst z;exact f (zP b)
def dB(i:Nat)(m:M D):MS:=λρ O=>match m ρ O with
 | .ok d O'=>match ρ[i]? with
  |some (some (.lst ds))=>if ds.length<1000000 then .nx (ρ.set i (some (.lst (ds++[d])))) O' else .no
  | _=>.no
 | .ex x O'=>.ex x O'
 | .no=>.no
def Zc(K:Frag)(c:Str->Option Value){D:EL} (k:jX K c h P R D H F j (dB i m ρ O)):
  ∃d b a,m ρ O=.ok d b/\ρ[i]?=some (some (.lst a))/\a.length<1000000/\jX K c h P R D H F j (.nx (ρ.set i (some (.lst (a++[d])))) b):=by
 unfold dB at k;split at k
 ·rename_i d b e;split at k
  ·rename_i a g;split at k
   ·rename_i f;exact⟨d,b,a,e,g,f,k⟩
   ·exact False.elim k
  ·exact False.elim k
 ·exact False.elim k
 ·exact False.elim k
def Zd{R:RR}(i:Nat){x:Str}{p c b l:Pos} (h:VE X md P e m)(G:md[i]?=some .o:=by rfl)(hN:X.N[i]?=some x:=by rfl)(hv:G0 X.env.scope x:=by first | exact Or.inl rfl | exact Or.inr (Or.inl rfl) | exact Or.inr (Or.inr rfl))
  (hd:SV x:=by decide) (w:(x == ("__classdict__":Str))=false:=by decide)
  (g:attributeBase (.Name x p) "append" X.env (eval (.Name x p) X.env)=eval (.Name x p) X.env:=by rfl)
  (n:((backTo b (starEach [e] X.env)).all (λx=>!x.1)&&(backToKw b (keywordEach [] X.env)).all (λx=>x.1.isSome)&&decide ([e].length+([]:List Keyword).length+(if([]:List Keyword).isEmpty then 0 else 1)<30))=true:=by rfl)
  (f:(c.endLine == b.line)=true:=by rfl) (hs:SW X.env e []:=by exact bT rfl) (u:SY X.env b []:=by exact cF rfl)
  (hsw:swapsWith (.Call (.Attribute (.Name x p) "append" c) [e] [] b) none l.line X.env=pure false:=by rfl):
  VS X md P R (.Expr (.Call (.Attribute (.Name x p) "append" c) [e] [] b) l) (dB i m):=
 (oM (lu PySem.F.plainAttrs_list PySem.F.slot_list_append PySem.F.type_list_append Gh (jP hN hv hd w) (dZ h fK hs) g n f hs)).imp λD σ H q=>by
  obtain⟨ρ,O,F,as,r,s,k⟩:=q;obtain⟨d,O',ds,e,L,W,k⟩:=Zc _ _ k;obtain⟨a,A,K,t,h3,v,J,I⟩:=s.own G L;refine⟨_,K,.inl ⟨rfl,A,.inl (.inl t)⟩,ρ,O,F,as,d,O',r,s,e,λy H1 Q as1 j U Y=>?_⟩;have T:=s.step j
  have Z:H a≠none:=by rw[t];exact λz=>nomatch z
  have E:=j.fr _ _ t v rfl
  have C:Q a=none:=by rw[j.fz a _ t v rfl];exact h3
  have B:=j.out v Z;exact⟨a,A,y,rfl,rfl,E,by rw[I.length];exact zM W (by decide),k σ _ Q _ (j.toS.trans (uU E J)) (U.RE C B) (T.RE G L K C B J ((I.gr j).snoc Y))⟩
def Ze(K:Frag):V->List V->Hp->VK->Prop:=λx d H Q=>∃l b c a,x=.ref l/\d=[.ref b]/\H l=some (.lst c)/\E3 K H b a/\c.length+a.length<=sizeLine/\Q .Pl (DB H l (.lst (c++a)))
def Hx:MB X "list.extend" (Ze X.K):=by
 intro j s σ H x E v G Q I k m h;obtain⟨l,b,C,A,rfl,rfl,i,t,J,q⟩:=h;cases k;obtain⟨u,rfl,o⟩:=m.one;cases o;obtain⟨z,c,n,r,L,e⟩:=I.RY i;obtain⟨B,a,p,g,w⟩:=t.ok I;have y:=g.length
 have f:c.toArray.size+a.toArray.size<=sizeLine:=by rw[zK,zK];omega
 have d:¬(!c.toArray.isEmpty&&Builtin.List.listTooLong (c.toArray.size+a.toArray.size))=true:=by
  rw[Gg f,Bool.and_false];exact zA
 refine call_meets F.slot_list_extend ⟨_,e,rfl⟩ F.entry_list_extend (F.args_list_extend_2 _ _)
  (AutoSeq1.list_extend_list_list_0 l _ n b _ p d (by omega)) ⟨e,w,?_⟩
 refine⟨.Pl,_,I.Se i e (by simp) (r.append g) ?_,rfl,q⟩;rw[zg];omega
def gZ(i:Nat)(m:M D):MS:=λρ O=>match m ρ O with
 | .ok d O'=>match ρ[i]?,aZ O' d with
  |some (some (.lst ds)),.lst es=>if ds.length+es.length<=1000000 then .nx (ρ.set i (some (.lst (ds++es)))) O' else .no
  | _,_=>.no
 | .ex x O'=>.ex x O'
 | .no=>.no
def Zf(K:Frag)(f:Str->Option Value){D:EL} (k:jX K f l P R D H F n (gZ i m ρ O)):
  ∃d c b a,m ρ O=.ok d c/\ρ[i]?=some (some (.lst b))/\aZ c d=.lst a/\b.length+a.length<=1000000/\jX K f l P R D H F n (.nx (ρ.set i (some (.lst (b++a)))) c):=by
 unfold gZ at k;split at k
 ·rename_i d c e;split at k
  ·rename_i b a j h;split at k
   ·rename_i g;exact⟨d,c,b,a,e,j,h,g,k⟩
   ·exact False.elim k
  ·exact False.elim k
 ·exact False.elim k
 ·exact False.elim k
def Zg{R:RR}(i:Nat){x:Str}{p f c n:Pos} (h:SE X md P e m)(L:md[i]?=some .o:=by rfl)(hN:X.N[i]?=some x:=by rfl)(hv:G0 X.env.scope x:=by first | exact Or.inl rfl | exact Or.inr (Or.inl rfl) | exact Or.inr (Or.inr rfl))
  (hd:SV x:=by decide) (B:(x == ("__classdict__":Str))=false:=by decide)
  (j:attributeBase (.Name x p) "extend" X.env (eval (.Name x p) X.env)=eval (.Name x p) X.env:=by rfl)
  (t:((backTo c (starEach [e] X.env)).all (λx=>!x.1)&&(backToKw c (keywordEach [] X.env)).all (λx=>x.1.isSome)&&decide ([e].length+([]:List Keyword).length+(if([]:List Keyword).isEmpty then 0 else 1)<30))=true:=by rfl)
  (g:(f.endLine == c.line)=true:=by rfl) (hs:SW X.env e []:=by exact bT rfl) (v:SY X.env c []:=by exact cF rfl)
  (hsw:swapsWith (.Call (.Attribute (.Name x p) "extend" f) [e] [] c) none n.line X.env=pure false:=by rfl):
  VS X md P R (.Expr (.Call (.Attribute (.Name x p) "extend" f) [e] [] c) n) (gZ i m):=
 (oM (lu PySem.F.plainAttrs_list PySem.F.slot_list_extend PySem.F.type_list_extend Hx (jP hN hv hd B) (dZ h fK hs) j t g hs)).imp λD σ H q=>by
  obtain⟨ρ,O,F,as,r,s,k⟩:=q;obtain⟨d,O',ds,es,e,W,e3,hz,k⟩:=Zf _ _ k;obtain⟨a,C,U,u,h3,A,T,Q⟩:=s.own L W;refine⟨_,U,.inl ⟨rfl,C,.inl (.inl u)⟩,ρ,O,F,as,d,O',r,s,e,λy H1 Y as1 l w hy=>?_⟩;have s1:=s.step l
  have hn:H a≠none:=by rw[u];exact λz=>nomatch z
  have J:=l.fr _ _ u A rfl
  have I:Y a=none:=by rw[l.fz a _ u A rfl];exact h3
  have G:=l.out A hn;have K:=Sv.lk hy w;rw[e3] at K;obtain⟨b,Z,rfl,w1,E⟩:=K.list w.fh;exact⟨a,b,C,Z,rfl,rfl,J,w1,by rw[Q.length,E.length];exact fQ hz,k σ _ Y _ (l.toS.trans (uU J T)) (w.RE I G) (s1.RE L W U I G T (Rps.append E (Q.gr l)))⟩
def pA(i:Nat)(mi m:M D):MS:=λρ O=>match m ρ O with
 | .ok d O1=>match mi ρ O1 with
  | .ok (.int j) O2=>match ρ[i]? with
   |some (some (.lst ds))=>match He ds.length j with
    |some n=>.nx (ρ.set i (some (.lst (ds.set n d)))) O2
    |none=>.no
   | _=>.no
  | _=>.no
 | .ex x O'=>.ex x O'
 | .no=>.no
def Zh{R:RR}(i:Nat){x:Str}{p c b:Pos} (h:VE X md P e m)(hi:VE X md P ix mi)(E:md[i]?=some .o:=by rfl)(hN:X.N[i]?=some x:=by rfl)(hv:G0 X.env.scope x:=by first | exact Or.inl rfl | exact Or.inr (Or.inl rfl) | exact Or.inr (Or.inr rfl))
  (hd:SV x:=by decide) (u:(x == ("__classdict__":Str))=false:=by decide)
  (ha:∀v,assign (.Subscript (.Name x p) ix b) X.env v=(do
   let ov <-holding [v] (eval (.Name x p) X.env)
   let iv <-holding [v,ov] (eval ix X.env)
   standAt b
   holding [v,ov,iv] (setItem ov iv v)
   release [v,ov,iv] []):=by intro _;rfl)
  (hs:swapsWithSole [.Subscript (.Name x p) ix b] e c.line X.env=pure false:=by rfl) (hw:swappedStores [.Subscript (.Name x p) ix b] e X.env=pure none:=by rfl)
  (t:(assignEach [.Subscript (.Name x p) ix b] X.env).map (·.2)=[assign (.Subscript (.Name x p) ix b) X.env]:=by rfl):
  VS X md P R (.Assign [.Subscript (.Name x p) ix b] e c) (pA i mi m):=
 (Ew h (SN (jP hN hv hd u) hi GT ha) hs).imp λD σ H q=>by
  obtain⟨ρ,O,F,as,r,s,k⟩:=q;unfold pA at k;split at k
  ·rename_i d Q e1;split at k
   ·rename_i j O2 e2;split at k
    ·rename_i ds L;split at k
     ·rename_i n e4;obtain⟨a,U,t,l,h3,f,I,G⟩:=s.own E L;refine⟨ρ,O,F,as,d,Q,r,s,e1,λy H1 F1 w K Y hy=>?_⟩;refine⟨_,t,ρ,Q,F1,w,.int j,O2,Y,s.step K,e2,λz H2 T as2 J W Z=>?_⟩;have g:=K.trans J
      have hn:H a≠none:=by rw[l];exact λz=>nomatch z
      have C:=g.fr _ _ l f rfl
      have B:T a=none:=by rw[g.fz a _ l f rfl];exact h3
      have A:=g.out f hn;exact⟨a,U,j,n,rfl,Rp.PD Z,C,by rw[G.length];exact e4,k σ _ T _ (g.toS.trans (uU C I)) (W.RE B A) ((s.step g).RE E L t B A I ((G.gr g).set n (Rp.gr hy J)))⟩
     ·exact False.elim k
    ·exact False.elim k
   ·exact False.elim k
  ·exact False.elim k
  ·exact False.elim k
def DS(f:Str)(v:D):List (Str×D)->List (Str×D)
 | []=>[(f,v)]
 | (g,x)::r=>if g=f then(g,v)::r else(g,x)::DS f v r
def Fu.cons_inv{K:Frag} (h:Fu K F as gs ((f,d)::fs)):∃v gs',gs=(f,v)::gs'/\Rp K F as v d/\Fu K F as gs' fs:=by
 obtain⟨a,i⟩:=h
 cases gs with
 |nil=>cases a
 |cons g gs' =>
  obtain⟨k,j⟩:=g;simp only[zh,List.cons.injEq] at a;obtain⟨x,r,e,c,b⟩:=i.un;simp only[zh,List.cons.injEq] at e;obtain⟨rfl,rfl⟩:=e;exact⟨j,gs',by rw[a.1],c,⟨a.2,b⟩⟩
def Fu.nil_inv{K:Frag} (h:Fu K F a gs []):gs=[]:=List.map_eq_nil_iff.mp h.nm
theorem Fu.get{K:Frag}{F:Hp}{b:List Addr}:∀{a:List (Str×D)}{gs:List (Str×V)}{f:Str}{d:D},Fu K F b gs a->a.lookup f=some d->∃v,gs.lookup f=some v/\Rp K F b v d
 | [],_,_,_,_,e=>by cases e
 | (g,x)::a,gs,f,d,h,e=>by
  obtain⟨v,gs',rfl,i,c⟩:=h.cons_inv;rw[List.lookup_cons] at e ⊢
  cases q:f == g with
  |true =>
   rw[q] at e;cases e;exact⟨v,rfl,i⟩
  |false =>
   rw[q] at e;exact Fu.get c e
theorem Fu.no{K:Frag}{F:Hp}{c:List Addr}:∀{a:List (Str×D)}{gs:List (Str×V)}{f:Str},Fu K F c gs a->a.lookup f=none->gs.lookup f=none
 | [],_,_,h,e=>by rw[h.nil_inv];rfl
 | (g,x)::a,gs,f,h,e=>by
  obtain⟨v,gs',rfl,d,b⟩:=h.cons_inv;rw[List.lookup_cons] at e ⊢
  cases q:f == g with
  |true=>rw[q] at e;cases e
  |false =>
   rw[q] at e;exact Fu.no b e
theorem Fu.put{K:Frag} (a:Rp K F as v d):∀{c:List (Str×D)}{gs:List (Str×V)},Fu K F as gs c->Fu K F as (dX f v gs) (DS f d c)
 | [],_,h=>by
  rw[h.nil_inv];exact⟨rfl,Rps.cons a Rps.nil⟩
 | (g,x)::c,gs,h=>by
  obtain⟨u,gs',rfl,i,b⟩:=h.cons_inv;rw[dX,DS]
  by_cases q:g=f
  ·rw[if_pos q,if_pos q];exact⟨by simp[b.nm],Rps.cons a b.vl⟩
  ·rw[if_neg q,if_neg q];have e:=Fu.put (f:=f) a b;exact⟨by simp[e.nm],Rps.cons i e.vl⟩
def Fu.length{K:Frag} (h:Fu K F a gs fs):gs.length=fs.length:=by
 have:=congrArg List.length h.nm
 simpa using this
def DD.set{K:Frag} (r:DD K s O H F q)(f:q[n]?=some a)(j:IY K s (DB H a u) F q a o):DD K s (O.set n o) (DB H a u) F q:=by
 have l:=r.fa a (zP f);refine⟨λc w e=>?_,r.fd,r.nd,by rw[zX];exact r.len,r.fa,λk c w d b=>?_⟩
 ·rw[aH (cj e l)];exact r.fh c w e
 ·by_cases h:n=k
  ·subst h;rw[f] at d;cases d;rw[zU (by rw[<-r.len];exact(zx.mp f).1)] at b;cases b;exact j
  ·rw[zi h] at b
   refine(r.ob k c w d b).keep (aH ?_) (Dx.refl F) λ_ _ h=>h
   intro z;subst z;obtain⟨p,i⟩:=zx.mp f;obtain⟨m,g⟩:=zx.mp d;exact h ((List.getElem_inj r.nd).mp (i.trans g.symm))
def KC(K:Frag)(a:Str->Option Value)(c f:Str):Prop:=∃C,a c=some (.ref C)/\F8 K C/\mL K C f
def bz(b:List Str)(f:Str)(m:M D):M D:=λρ O=>(m ρ O).bind λd a=>match d with
 | .ob n=>match a[n]? with
  |some (.ins c fs)=>if c∈b then match fs.lookup f with
   |some y=>.ok y a
   |none=>.no else .no
  | _=>.no
 | _=>.no
def Zi(j:∀c∈cs,KC X.K X.mg c f)(h:VE X md P o m)(hb:attributeBase o f X.env (eval o X.env)=eval o X.env:=by rfl):VE X md P (.Attribute o f pos) (bz cs f m):=(Uo h hb).imp λσ H Q q=>by
 obtain⟨ρ,O,F,R,d,O',r,s,e,k⟩:=q;obtain⟨x,Z,L,e⟩:=C8.Pi e
 cases x with
 |ob n =>
  dsimp at e
  split at e
  ·rename_i c Y J;split at e
   ·rename_i b;split at e
    ·rename_i y I;cases e;refine⟨ρ,_,F,R,_,_,r,s,L,λv T U W G g hv=>?_⟩;obtain⟨a,rfl,l⟩:=Rp.Qo hv;obtain⟨C,N,gs,E,B,A⟩:=g.ob n a _ l J;obtain⟨C',i,z,u⟩:=j c b;rw[E] at i;cases i;obtain⟨w,t,p⟩:=A.get I;exact⟨a,C,N,gs,w,rfl,B,z,u,t,k w T U _ G g p⟩
    ·cases e
   ·cases e
  ·cases e
 | _=>cases e
def bO(e:List Str)(f:Str)(b a:M D):MS:=λρ O=>match a ρ O with
 | .ok d O1=>match b ρ O1 with
  | .ok (.ob n) O2=>match O2[n]? with
   |some (.ins c fs)=>if c∈e/\fs.length<900 then .nx ρ (O2.set n (.ins c (DS f d fs))) else .no
   | _=>.no
  | _=>.no
 | .ex x O'=>.ex x O'
 | .no=>.no
def Zj(Y:∀c∈cs,KC X.K X.mg c f)(W:VE X md P o mo)(hv:VE X md P value mv)(hs:swapsWith value (some (.Attribute o f pos')) pos.line X.env=pure false:=by rfl):VS X md P R (.Assign [.Attribute o f pos'] value pos) (bO cs f mo mv):=(Up W hv hs).imp λD σ H q=>by
 obtain⟨ρ,O,F,as,r,s,k⟩:=q;unfold bO at k;split at k
 ·rename_i d L e1;split at k
  ·rename_i n O2 e2;split at k
   ·rename_i c fs eo;split at k
    ·rename_i t;refine⟨ρ,O,F,as,d,L,r,s,e1,λy H1 F1 v J Q U=>?_⟩;refine⟨ρ,L,F1,v,.ob n,O2,Q,s.step J,e2,λz N p i I w T=>?_⟩;have g:=J.trans I;obtain⟨a,rfl,l⟩:=Rp.Qo T;obtain⟨C,m,gs,E,B,A⟩:=w.ob n a _ l eo;obtain⟨C',x,h5,Z⟩:=Y c t.1;rw[E] at x;cases x;have j:=zP l
     have G:Gr N p i (DB N a (.ins C m (dX f y gs))) p i:=⟨λ_ _ _ _ _=>rfl,Dx.refl _,⟨[],by simp⟩,λb u e hb _=>by rw[aH λz=>hb (by rw[z];exact j)];exact e,λb e=>by
      by_cases h:b=a
      ·subst h;rw[bG] at e;cases e
      ·rwa [aH h] at e,λb o' u e=>by rw[aH λz=>by rw[z,B] at e;cases e];exact e⟩
     refine⟨a,C,m,gs,rfl,B,h5,Z,by rw[A.length];omega,?_⟩;exact k σ _ p _ (g.trans G).toS (w.set l ⟨C,m,_,E,bG,A.put (Rp.gr U I)⟩) ((s.step g).step G)
    ·exact False.elim k
   ·exact False.elim k
  ·exact False.elim k
 ·exact False.elim k
 ·exact False.elim k
section
variable {Pr:Program}{w:World}{K:Frag}{mg:Str->Option Value}{base:Heap}
def Hy{K:Frag} {st:Stmt} (Fn:HK K x qual st f fd)(S:eV N ps (aQ st))
  (l G:List Md) (X:eX R) (B:∀N H F p,R N H F p .Pl .Pl) (z:l.length=ps.length) (U:(l++G).length=N.length) (T:∀m∈l,m≠.o)
  (n:∀(j:Value)(A:Around)(i:List Env)(s:Shared)(H:Hp)(E:XK),aY k (A.deeper (envOfC qual (aQ st) s.heap.objs.size f j))->∀P,VSs ((gD FA Pr w K mg base N qual (aQ st) f j A i s H E).QQ) (l++G) P R (cD st) b):
  cX Pr w K mg base FA (k+1) f fd ps (EH K mg l R (aL N.length b)):=by
 refine Fn.ok S (λI H Q E h=>?_) λj A i s H I Q E L h=>?_
 ·obtain⟨Y,O,F,p,d,Z,r,a,_⟩:=h;rw[a.len.1,z]
 ·obtain⟨Y,O,F,p,d,Z,r,a,e,q⟩:=h;refine⟨_,n _ A _ s H E L (Pt.all H),?_⟩;refine⟨_,O,F,p,r,uL a U T,?_⟩;unfold aL at e
  cases eb:b _ O with
  |rt =>
   rw[eb] at e;cases e
   exact λv u y C g t J=>q v u y _ g.gr t (X _ _ _ _ _ _ _ (λc W=>jx.mp W) J)
  |nx =>
   rw[eb] at e;cases e
   exact λσ' u y C g t _=>q _ u y _ g.gr t (B _ _ _ _)
  | bk
  | ct
  | ex
  |no=>rw[eb] at e;cases e
def cQ(K:Frag)(mg:Str->Option Value)(c m a:Str)(st:Stmt):Prop:=∃C f b,mg c=some (.ref C)/\F8 K C/\qU K C m f/\HK K m a st f b
inductive jB (P:Program) (w:World) (K:Frag) (mg:Str->Option Value) (base:Heap) (c m:Str) (ps:List Str) (k:Nat) (sp:Sp):Prop
 | mk:∀C f fd,mg c=some (.ref C)->F8 K C->qU K C m f->DU K fd ps []->cX P w K mg base FA k f fd ps sp->jB P w K mg base c m ps k sp
inductive pB (P:Program) (w:World) (K:Frag) (mg:Str->Option Value) (base:Heap) (c:Str) (ps:List Str) (k:Nat) (sp:Sp):Prop
 | mk:∀C f fd,mg c=some (.ref C)->Mk K C f->DU K fd ps []->cX P w K mg base FA k f fd ps sp->pB P w K mg base c ps k sp
def pC(K:Frag)(mg:Str->Option Value)(c a:Str)(st:Stmt):Prop:=∃C f b,mg c=some (.ref C)/\Mk K C f/\HK K "__init__" a st f b
def Zk{Pr:Program}{w:World}{K:Frag}{base:Heap} {st:Stmt} {k:Nat}(J:cQ K mg c x L st)(S:eV N O (aQ st))
  (r:∀(kV l d:Value)(I:Option Addr)(a B:Value)(g:List Value),g.length=O.length->bindArgs (PySem.W.fnOf x L (dq st) (cD st) (aQ st) .none kV l d I a B) ⟨g,[]⟩=pure (O.zip g))
  (d h:List Md) {b:MS} (t:eX R) (j:∀N H F G,R N H F G .Pl .Pl) (i:d.length=O.length:=by rfl) (q:(d++h).length=N.length:=by rfl) (p:∀m∈d,m≠.o:=by decide)
  (body:∀(f:Addr)(a:Value)(A:Around)(e:List Env)(s:Shared)(H:Hp)(E:XK),aY k (A.deeper (envOfC L (aQ st) s.heap.objs.size f a))->∀P,VSs ((gD FA Pr w K mg base N L (aQ st) f a A e s H E).QQ) (d++h) P R (cD st) b):
  jB Pr w K mg base c x O (k+1) (EH K mg d R (aL N.length b)):=by
 obtain⟨C,f,z,y,v,u,n⟩:=J;exact⟨C,f,z,y,v,u,n.binds r,Hy n S d h t j i q p (body f)⟩
def Zm{Pr:Program}{w:World}{K:Frag}{base:Heap} {st:Stmt} {k:Nat}(G:pC K mg c I st)(S:eV N J (aQ st))
  (r:∀(kV l d:Value)(B:Option Addr)(a y:Value)(g:List Value),g.length=J.length->bindArgs (PySem.W.fnOf "__init__" I (dq st) (cD st) (aQ st) .none kV l d B a y) ⟨g,[]⟩=pure (J.zip g))
  (d h:List Md) {b:MS} (t:eX R) (j:∀N H F z,R N H F z .Pl .Pl) (i:d.length=J.length:=by rfl) (q:(d++h).length=N.length:=by rfl) (p:∀m∈d,m≠.o:=by decide)
  (body:∀(f:Addr)(a:Value)(A:Around)(e:List Env)(s:Shared)(H:Hp)(E:XK),aY k (A.deeper (envOfC I (aQ st) s.heap.objs.size f a))->∀P,VSs ((gD FA Pr w K mg base N I (aQ st) f a A e s H E).QQ) (d++h) P R (cD st) b):
  pB Pr w K mg base c J (k+1) (EH K mg d R (aL N.length b)):=by
 obtain⟨C,f,x,v,u,n⟩:=G;exact⟨C,f,x,v,u,n.binds r,Hy n S d h t j i q p (body f)⟩
end
def aV(c m:Str)(e:List D->au->C8 D)(mo:M D)(b:M (List D)):M D:=λρ O=>(mo ρ O).bind λd a=>match d with
 | .ob n=>match a[n]? with
  |some (.ins c' fs)=>if c'=c/\(fs.lookup m).isNone=true then(b ρ a).bind λds f=>e (.ob n::ds) f else .no
  | _=>.no
 | _=>.no
def Hz{K:Frag} (L:eX R)(N:mg c=some (.ref C)) (q:tM K mg md P R (aV c m cf mo ma) σ H Q):
  xO C m (EH K mg (.v::pm) R cf) [] E (tM K mg md P (rV K) mo) (JA K mg md P pm ma) σ H Q:=by
 obtain⟨ρ,O,F,as,d,O',r,s,e,k⟩:=q;obtain⟨x,y,Z,e⟩:=C8.Pi e
 cases x with
 |ob n =>
  dsimp at e
  split at e
  ·rename_i c' fs X;split at e
   ·rename_i p;obtain⟨u,w,Y,e⟩:=C8.Pi e;refine⟨ρ,O,F,as,.ob n,y,r,s,Z,λv H1 F1 j g l o=>?_⟩;obtain⟨a,rfl,J⟩:=Rp.Qo o;obtain⟨C',dx,gs,t,U,T⟩:=l.ob n a _ J X;rw[p.1,N] at t;cases t;refine⟨a,dx,gs,rfl,U,T.no (Option.isNone_iff_eq_none.mp p.2),?_⟩;refine⟨ρ,y,F1,j,u,w,l,s.step g,Y,λvs H2 F2 i f A h=>?_⟩;rw[zE];exact⟨.ob n::u,w,F2,i,d,O',A,⟨Rp.gr o f,h⟩,e,λz H' F' as' W B G=>k z H' F' _ ((g.trans f).trans W) B (L _ _ _ _ _ _ _ (λb I=>(g.trans f).dm b I) G)⟩
   ·cases e
  ·cases e
 | _=>cases e
def HB{a b:Pos}{h:Sem Bool}(p:eX R)(M:jB X.prog X.w X.K X.mg X.base c m I k (EH X.K X.mg (.v::E) R H))(j:aY k X.A)(l:VE X B P o F)(n:AE X B P E (e::z) G)
  (d:SW X.env e z:=by exact bT rfl) (g:SY X.env a z:=by exact cF rfl)
  (i:eval (.Call (.Attribute o m b) (e::z) [] a) X.env=(do
   let ov <-eval o X.env
   standAt b.atName
   let (f,first) <-holding [ov] (getMethod ov m h)
   callWith a f first (backTo a (starEach (e::z) X.env)) (backToKw a (keywordEach [] X.env))):=by rfl):
  PE X (.Call (.Attribute o m b) (e::z) [] a) (tM X.K X.mg B P R (aV c m H F G)):=by
 obtain⟨C,f,y,x,u,t,s,r⟩:=M
 exact(Uy l u t r j s .nil lz n d g i).imp λ_ _ _ q=>Hz p x q
def HD(x:eX R)(M:jB X.prog X.w X.K X.mg X.base c m ps k (EH X.K X.mg [.v] R cf))(p:aY k X.A)(u:VE X md P o mo)
  (n:eval (.Call (.Attribute o m apos) [] [] pos) X.env=(do
   let ov <-eval o X.env
   standAt apos.atName
   let (f,first) <-holding [ov] (getMethod ov m pl)
   callWith pos f first (backTo pos (starEach [] X.env)) (backToKw pos (keywordEach [] X.env))):=by rfl):
  PE X (.Call (.Attribute o m apos) [] [] pos) (tM X.K X.mg md P R (aV c m cf mo ao)):=by
 obtain⟨C,f,fd,I,G,B,z,y⟩:=M
 refine(Uz u G B y p z .nil lz n).imp λσ H Q q=>?_
 obtain⟨ρ,O,F,Y,d,Z,r,s,e,k⟩:=Hz (E:=E0) x I q;refine⟨ρ,O,F,Y,d,Z,r,s,e,λv b F' as' g i l=>?_⟩;obtain⟨a,W,J,U,T,N,t⟩:=k v b F' _ g i l;refine⟨a,W,J,U,T,N,?_⟩;obtain⟨ρ1,O1,F1,as1,ds1,O2,h,s1,L,j⟩:=t;cases L;exact j [] b F1 _ Gr.refl h trivial
def dO(c:Str)(d:List D->au->C8 D)(a:M (List D)):M D:=λρ O=>(a ρ O).bind λb O1=>match d (.ob O1.length::b) (O1++[.ins c []]) with
 | .ok .Pl O2=>.ok (.ob O1.length) O2
 | .ok _ _=>.no
 | .ex x O2=>.ex x O2
 | .no=>.no
def yL{K:Frag} (hC:mg c=some (.ref C)) (q:tM K mg md P (rV K) (dO c cf ma) σ H Q):
  xP C (EH K mg (.v::pm) (rV K) cf) [] E (JA K mg md P pm ma) σ H Q:=by
 obtain⟨ρ,O,F,as,d,O',r,s,e,k⟩:=q;obtain⟨U,t,e1,e⟩:=C8.Pi e;split at e
 ·rename_i O2 ec;cases e;refine⟨ρ,O,F,as,U,t,r,s,e1,λvs u l f g1 j I=>?_⟩;intro x m B A J;rw[zE]
  have w:DB u m (.own x) x=none:=by rw[aH J.symm];exact B
  have gA:Gr u l _ (DB u m (.own x)) l f:=Gr.lay A;have gB:Gr _ l _ (DB _ x (.ins C m [])) l f:=Gr.lay w;have i:=gA.trans gB;have T:Gr u l _ _ l _:=⟨i.fz,i.ff,⟨[x],rfl,λa g=>by rw[zj.mp g];exact B⟩,λa o e g hd=>i.fr a o e g hd,i.dm,i.kz⟩
  have Y :=λz=>j.all z B
  have G:=(j.lay A).lay (o:=.ins C m []) w
  have L:∀(n)(a),f[n]?=some a->(f++[x])[n]?=some a:=λn a h=>by
   rw[zG (zx.mp h).1];exact h
  have X:DD K mg (t++[.ins c []]) (DB (DB u m (.own x)) x (.ins C m [])) l (f++[x]):=by
   refine⟨G.fh,G.fd,?_,by simp[j.len],λa g=>?_,λn a o g p=>?_⟩
   ·rw[je];refine⟨j.nd,by simp,λa g b hb=>?_⟩;rw[zj.mp hb];intro z;subst z;exact Y g
   ·rcases zy.mp g with z | z
    ·exact j.fa a z
    ·rw[zj.mp z];exact j.frF B
   ·by_cases N:n<t.length
    ·rw[zG (by rw[j.len];exact N)] at g;rw[zG N] at p;exact(G.ob n a o g p).keep rfl (Dx.refl _) L
    ·have hn':n=t.length:=by
      have:=(zx.mp p).1
      simp at this
      omega
     subst hn';rw[zN (zc _),Nat.sub_self] at p;rw[<-j.len,zN (zc _),Nat.sub_self] at g;cases p;cases g;exact⟨C,m,[],hC,bG,⟨rfl,Rps.nil⟩⟩
  have y:Rp K l (f++[x]) _ (.ob t.length):=Rp.Po (by rw[<-j.len,zN (zc _),Nat.sub_self];rfl);refine⟨.ob _::U,_,l,f++[x],.Pl,_,X,⟨y,I.gr T⟩,ec,λv H3 F3 as3 R W Z=>?_⟩;exact⟨Rp.Sl Z,k _ H3 F3 _ ((g1.trans T).trans R) W (Rp.gr y R)⟩
 ·cases e
 ·cases e
 ·cases e
def Zn{p a:Pos}(M:pB X.prog X.w X.K X.mg X.base c z k (EH X.K X.mg (.v::t) (rV X.K) y))(h:aY (k+1) X.A)(l:AE X u P t (e::s) x)(i:Gl X c:=by rfl)(d:SV c:=by decide)
  (j:SW X.env e s:=by exact bT rfl) (b:SY X.env a s:=by exact cF rfl):VE X u P (.Call (.Name c p) (e::s) [] a) (dO c y x):=by
 obtain⟨C,f,r,g,o,n,m⟩:=M
 exact(Fy o m h i g n .nil lz l d j b).imp λ_ _ _ q=>yL g q
def Zo{g:List Md}{P:Pt}{p a:Pos}(M:pB X.prog X.w X.K X.mg X.base c y k (EH X.K X.mg [.v] (rV X.K) x))(h:aY (k+1) X.A)(i:Gl X c:=by rfl)(b:SV c:=by decide):VE X g P (.Call (.Name c p) [] [] a) (dO c x ao):=by
 obtain⟨C,f,o,d,m,l,j⟩:=M
 refine(UG m j h i d l .nil lz b).imp λσ H Q q=>?_
 obtain⟨ρ,O,F,n,t,u,r,s,e,k⟩:=yL d q;cases e;exact k [] H F n Gr.refl r trivial
def m5:D->Option (List D)
 | .lst ds=>some ds
 | .tup ds=>some ds
 | .str l=>if DH l=true then some (cL l) else none
 | _=>none
def bj(m:M D):M (List D):=λρ O=>(m ρ O).bind λd O1=>match m5 d with
 |some ds=>.ok ds O1
 |none=>.no
def yM(h:WE X z P e m):SE X z P e m:=h.imp λσ H Q q=>by
 obtain⟨ρ,O,F,p,d,t,r,s,e,k⟩:=q;refine⟨ρ,O,F,p,d,t,r,s,e,λv u w x g f b=>k v u w _ g f ?_⟩
 rcases b with b | ⟨a,c,o,n,l,j,i,y,e6⟩
 ·exact .inl b
 ·exact .inr ⟨a,c,o,n,l,j,i,e6⟩
theorem Zq(h:WE X md P e m):VI X md P tg e (bj m):=λg s σ H Q I q=>by
 obtain⟨ρ,O,F,f,n,p,r,b,e,k⟩:=q;obtain⟨d,o,c,e⟩:=C8.Pi e
 cases d with
 |lst =>
  cases e;exact Y5 h _ s σ H Q I ⟨ρ,O,F,f,_,_,r,b,by unfold uP;rw[c];rfl,k⟩
 |tup =>
  cases e;exact Ht (yo (yM h)) _ s σ H Q I ⟨ρ,O,F,f,_,_,r,b,by unfold yH mG;rw[c];rfl,k⟩
 |str l =>
  simp [m5] at e
  split at e
  ·rename_i j a;split at a
   ·rename_i i;cases a;cases e;refine Hu (yM h) _ s σ H Q I ⟨ρ,O,F,f,cL l,_,r,b,?_,k⟩;unfold yI;rw[c];show(if DH l=true then _ else _)=_;rw[if_pos i]
   ·cases a
  ·cases e
 | _=>cases e
theorem Zr(h:SE X md P e m):VIc X md P tg e (uP m):=(xB h).imp λσ H Q q=>by
 obtain⟨ρ,O,F,L,J,T,r,s,e,k⟩:=q;obtain⟨d,R,I,e⟩:=C8.Pi e
 cases d with
 |lst es =>
  cases e;refine⟨ρ,_,F,L,_,_,r,s,I,λv w p l C z u=>?_⟩
  obtain⟨a,c,rfl,o,n⟩:∃a c,v=.ref a/\Rps X.K p l c J/\∀(f j:Hp)(b:List Addr),Gr w p l f j b->(∃O,DD X.K X.mg O f j b)->E3 X.K f a c:=by
   rcases u with u | ⟨a,c,N,rfl,e,G,E,e6⟩
   ·obtain⟨a,c,rfl,o,n⟩:=u.Sr;exact⟨a,c,rfl,n,λf j b g ⟨O,r⟩=>(o.mono g.ff).mono r.fh⟩
   ·cases e;exact⟨a,c,rfl,e6,λf j b g _=>.inl (.inl (g.fr _ _ G E rfl))⟩
  refine⟨a,rfl,⟨c,(n w p l Gr.refl ⟨_,z⟩).sq⟩,k _ w p l C z ⟨λi d f j b g r e=>?_,λf j b g r=>⟨c,(n f j b g r).sq,by rw[o.length];exact zc _⟩⟩⟩;obtain⟨x,A,B⟩:=o.get' e;have q:=n f j b g r;refine⟨⟨c,x,q.sq,A⟩,λy U t=>?_⟩;obtain⟨rfl,t⟩:=t
  have:=t c q.sq
  rw[A] at this;cases this;exact⟨j,Gr.refl,λ_ r=>r,B.gr g⟩
 | _=>cases e
theorem Zt(h:SE X md P e m):VIc X md P tg e (bj m):=λg s σ H Q I q=>by
 obtain⟨ρ,O,F,f,n,p,r,b,e,k⟩:=q;obtain⟨d,o,c,e⟩:=C8.Pi e
 cases d with
 |lst =>
  cases e;exact Zr h _ s σ H Q I ⟨ρ,O,F,f,_,_,r,b,by unfold uP;rw[c];rfl,k⟩
 |tup =>
  cases e;exact yt (Ht (yo h)) _ s σ H Q I ⟨ρ,O,F,f,_,_,r,b,by unfold yH mG;rw[c];rfl,k⟩
 |str l =>
  simp [m5] at e
  split at e
  ·rename_i j a;split at a
   ·rename_i i;cases a;cases e;refine yt (Hu h) _ s σ H Q I ⟨ρ,O,F,f,cL l,_,r,b,?_,k⟩;unfold yI;rw[c];show(if DH l=true then _ else _)=_;rw[if_pos i]
   ·cases a
  ·cases e
 | _=>cases e
def pF(m:M D):M (List D):=λρ O=>(m ρ O).bind λd a=>match d with
 | .lst ds=>.ok (dz 0 ds) a
 | .str l=>if DH l=true then .ok (dz 0 (cL l)) a else .no
 | _=>.no
def Zu{f:List Expr}{v:Nat}{c:Pos} {p g:Pos} (j:X.mg "enumerate" = none)(h:WE X md P a m)(n:Gl X "enumerate":=by rfl)(hs:starEach [a] X.env=[(false,eval a X.env)]:=by exact oW rfl)(b:SW X.env a []:=by exact bT rfl):
  VI X md P (.Tuple f v c) (.Call (.Name "enumerate" p) [a] [] g) (pF m):=λu s σ H Q I q=>by
 obtain⟨ρ,O,F,t,w,x,r,i,e,k⟩:=q;obtain⟨d,y,o,e⟩:=C8.Pi e
 cases d with
 |lst =>
  cases e;exact Y8 j h n hs b _ s σ H Q I ⟨ρ,O,F,t,_,_,r,i,by unfold Hv;rw[o];rfl,k⟩
 |str l=>exact Y9 j (yM h) n hs b _ s σ H Q I ⟨ρ,O,F,t,w,x,r,i,by unfold Hw;rw[o];exact e,k⟩
 | _=>cases e
def Zv{K:PySem.W.Frag}
  (KX:K.In s₁.heap) (B:s₁.heap.Ns mainGlobals mg) (f:s₁.heap.Ns builtinsNs mb) (O:∀x:Str,x≠"__name__"->mb x=bootBuiltins x) (I:s₁.heap.NoLimit) (hg:s₁.gens = #[])
  (J:s₁.heap.get? a=some {cls:=.type "list",data:=.seq vs.toArray}) (X:IntsAre vs ns) (U:ns.length<=sizeLine) (hr:aY k callerA)
  (F:∀i:Heap,K.In i->i.Ns mainGlobals mg->cX P w K mg i CX k fa fd [x] sp) (p:∀(s:Shared)(u:Value),BindsTo s fd ⟨[u],[]⟩ [(x,u)])
  (N:∀H:Hp,uz H->E3 K H a (ns.map V.int)->sp [.ref a] H (λv _=>v=.bl true) λ_ _ _=>False)
  (Q:∀H e g,CX [] H s₁ (λ_ _ _=>False) e g->False):
  codeAny (model P w) callerA (.call (.ref fa) ⟨[.ref a],[]⟩) (λr g=>r=.ok (.ret (.bool true))/\OldK s₁.heap g.heap/\g.os=s₁.os/\AllBare g.gens) s₁:=by
 have T:=Gi X;have E:=X.length;have l:∀H:Hp,uz H->E3 K H a (ns.map V.int)->EI P w H s₁.heap->(∀b,H b≠none->b=a)->(H a≠none->K.lookup a=none) ->
   codeAny (model P w) callerA (.call (.ref fa) ⟨[.ref a],[]⟩) (λr g=>r=.ok (.ret (.bool true))/\OldK s₁.heap g.heap/\g.os=s₁.os/\AllBare g.gens) s₁:=by
  intro H Y hS A Z hK
  have c:∀{b:Addr}{o:Obj},s₁.heap.get? b=some o->H b=none->(jO s₁.heap H).get? b=some o:=λe n=>Rn e n
  have L:∀{b:Addr}{o:Obj}{t:Array DictEntry}{y:Nat},s₁.heap.get? b=some o->o.data=.dict t y->H b=none:=λ{b o t y} e d=>by
   cases q:H b with
   |none=>rfl
   |some u =>
    have e':b=a:=Z b (by rw[q];simp);subst e';rw[J] at e;cases e;have d':Data.seq vs.toArray _=Data.dict t y:=d;cases d'
  have j:∀{b:Addr}{m:Str->Option Value},s₁.heap.Ns b m->(jO s₁.heap H).Ns b m:=λ{b m} ⟨o,t,y,e,d,r⟩=>⟨o,t,y,c e (L e d),d,r⟩
  have C:K.In (jO s₁.heap H):=λb o e=>c (KX b o e) (by
   cases q:H b with
   |none=>rfl
   |some u =>
    have e':b=a:=Z b (by rw[q];simp);subst e'
    rw[hK (by rw[q];simp)] at e;cases e)
  have hM:Mod K mg (jO s₁.heap H):=⟨C,j B,⟨mb,j f,O⟩,let ⟨mc,h1,h2⟩:=I;⟨mc,j h1,h2⟩⟩;have e0:mO P w K mg (jO s₁.heap H) callerA [] s₁ H:=⟨rfl,hM,λb o e=>Ro e,Nat.le_of_eq (Rm _ _),trivial,λb f=>absurd (show b∈([]:List Addr) from f) (by simp),A,.of_eq hg⟩
  refine codeAny_mono ((F _ C (j B)).run callerA [] s₁ H ⟨[.ref a],[]⟩ [.ref a] [.ref a] _ _ hr e0 (p s₁ (.ref a)) (.cons rfl .nil) (N H Y hS)) λr g h=>?_
  cases r with
  |error e=>exact(Q H e g h).elim
  |ok fl =>
   cases fl with
   |next=>exact False.elim h
   |brk=>exact False.elim h
   |cont=>exact False.elim h
   |ret u =>
    obtain⟨v,H',os,bare,R,G,r',q⟩:=h;have q':v=.bl true:=q;subst q';obtain rfl:u=Value.bool true:=r';refine⟨rfl,OldK.of_keep λb o e=>?_,os,bare⟩
    cases q:H b with
    |none=>exact R.keep b o e q (by intro z;exact absurd (show b∈([]:List Addr) from z) (by simp)) (by simp)
    |some u =>
     rcases Y b with z | ⟨ob,xs,z⟩
     ·rw[q] at z;cases z
     ·have z2:=R.P5 b ob _ z;obtain⟨e1,_⟩:=A b _ z;obtain⟨e2,_⟩:=G b _ z2;rw[e] at e1;cases e1;exact e2
 cases hk:K.lookup a with
 |some o =>
  have e:=KX a o hk;rw[J] at e;cases e
  refine l (λ_=>none) (λ_=>.inl rfl) (.inr ⟨vs,_,hk,by rw[E];exact U,T⟩) (λb u z=>by have z':(none:Option HO)=some u:=z;cases z') (λb z=>absurd rfl z) λz=>absurd rfl z
 |none =>
  refine l (λb=>if b=a then some (.Pp {cls:=.type "list",data:=.seq vs.toArray} (.lst (ns.map V.int))) else none) (λb=>?_) (.inl (.inr ⟨{cls:=.type "list",data:=.seq vs.toArray},if_pos rfl⟩)) (λb u z=>?_) (λb z=>?_) λ_=>hk
  ·by_cases f:b=a
   ·exact .inr ⟨_,_,if_pos f⟩
   ·exact .inl (if_neg f)
  ·by_cases f:b=a
   ·have z':=(if_pos f).symm.trans z;cases z';subst f;exact⟨J,by rw[ze];exact U,vs,_,T,J⟩
   ·have z':=(if_neg f).symm.trans z;cases z'
  ·by_cases f:b=a
   ·exact f
   ·exact absurd (if_neg f) z
def walk_ofR{l:PySem.W.OpenLaw} {K:Params->PySem.W.Frag}{CX:World->JY}{sp:World->Sp}
  (hn:l.most=some n) (hn2:n<=sizeLine) (hdf:d.params.defaults=[]) (hr:aY k callerA)
  (hY:∀(w:World)(h:Heap),YP w h->(K w.params).In h)
  (F:∀(w:World)(mg:Str->Option Value)(fa:Addr)(h:Heap),(K w.params).In h->h.Ns mainGlobals mg->mg d.name=some (.ref fa) ->
   ∃fd:FuncData,(∀(s:Shared)(u:Value),BindsTo s fd ⟨[u],[]⟩ [(x,u)]) /\
    ∀base:Heap,(K w.params).In base->base.Ns mainGlobals mg->cX l.prog w (K w.params) mg base (CX w) k fa fd [x] (sp w))
  (hsp:∀(w:World)(H:Hp)(a:Addr)(ns:List Int),ns.length<=n->uz H->E3 (K w.params) H a (ns.map V.int)->sp w [.ref a] H (λv _=>v=.bl true) λ_ _ _=>False)
  (hCX:∀(w:World)(H:Hp)(s:Shared)(e:Value)(s':Shared),CX w [] H s (λ_ _ _=>False) e s'->False):
  PySem.W.WalkO q loose XP YP l.row.toRowW d [] (λf vs=>PySem.call f vs):=by
 refine Att.attach_call hn hdf λw s₀ s₁ mg mb fa o pm cd doc a vs ns G Y ho hd hcd hmg hobj hints hlen hg=>?_
 have KX:=hY w _ Y;obtain⟨fd,hb,hF⟩:=F w mg fa _ KX G.T.g hmg
 exact Zv KX G.T.g G.T.b G.T.builtins G.T.nolimit hg hobj hints (zJ hlen hn2) hr hF hb (λH hO hS=>hsp w H a ns hlen hO hS) λH e s'=>hCX w H s₁ e s'
def Zw{K:Frag}:∀c∈([]:List Str),KC K a c f:=λ_ h=>nomatch h
def Zx{K:Frag} (h:KC K e c f)(d:∀c∈g,KC K e c f):∀b∈c::g,KC K e b f:=λb a=>by
 rcases zk.mp a with rfl | a
 ·exact h
 ·exact d b a
def wF:Nat:=1000000
def uV(K:Frag):Sp:=λvs H Q _=>∃(a:Addr)(b:List Int),vs=[.ref a]/\E3 K H a (b.map V.int)/\b.length<=63/\uz H/\∀c,Q (.bl true) c
theorem Rps.ofInts{K:Frag}:∀a:List Int,Rps K F as (a.map V.int) (a.map D.int)
 | []=>Rps.nil
 |n::a=>Rps.cons Rp.int (Rps.ofInts a)
def Zy{K:Frag} (h:∀d:List Int,d.length<=63->∃i,c [.lst (d.map D.int)] []=.ok (.bl true) i):∀f H Q E,uV K f H Q E->EH K w [.s] (rV K) c f H Q E:=by
 rintro f H Q E ⟨a,d,rfl,hS,hl,hO,q⟩;obtain⟨i,e⟩:=h d hl
 have r:DD K w [] H H []:=⟨Dx.refl H,λb o e=>by
  rcases hO b with z | ⟨t,m,z⟩
  ·rw[e] at z;cases z
  ·rw[e] at z;cases z;rfl,List.nodup_nil,rfl,(λ_ z=>nomatch z),λn b o z=>by cases z⟩
 refine⟨[.lst _],[],H,[],.bl _,i,r,⟨.inl (Rp.mkL hS (Rps.ofInts d)),trivial⟩,e,λv k u l g p j=>?_⟩;rw[Rp.QI j];exact q k
def EE:D->Option DC
 | .int i=>some (.inl i)
 | .str l=>some (.inr (S l))
 | _=>none
def Rp.key{K:Frag} (h:Rp K F as v d)(e:EE d=some k):v=kV k:=by
 cases d with
 |int i=>cases e;exact h.PD
 |str l=>cases e;exact h.PZ
 | _=>cases e
def NN(K:Frag)(F:Hp)(a:List Addr):List (V×V)->List (D×D)->Prop
 | [],[]=>True
 |p::ps,d::ds=>Rp K F a p.1 d.1/\Rp K F a p.2 d.2/\NN K F a ps ds
 | _,_=>False
def OQ(X:Cx)(l:List Md)(P:Pt)(h:Pos)(d:List (Option Expr))(a:List Expr)(m:M (List (D×D))):Prop:=∃c:List (TE×TE),
 OO X h d a c/\∀σ H Q,(∃ρ O F e j k,DD X.K X.mg O H F e/\DV X.K l P ρ σ H F e/\m ρ O=.ok j k/\∀i f g b,Gr H F e f g b->DD X.K X.mg k f g b->NN X.K g b i j->Q i f)->yg c σ H Q
def Zz{p a:Pos}(C:GL X.prog X.w X.K X.mg X.base x o k (EH X.K X.mg j (rV X.K) n))(d:aY k X.A)(h:AE X l P j (e::i) m)(f:Gl X x:=by rfl)(c:SV x:=by decide)(g:SW X.env e i:=by exact bT rfl)(b:SY X.env a i:=by exact cF rfl):
  VE X l P (.Call (.Name x p) (e::i) [] a) (aC n m):=Hf iZ C d h f c g b
def ZC{p a:Pos}(C:GL X.prog X.w X.K X.mg X.base x o k (EH X.K X.mg j (rO X.K) n))(d:aY k X.A)(h:AE X l P j (e::i) m)(f:Gl X x:=by rfl)(c:SV x:=by decide)(g:SW X.env e i:=by exact bT rfl)(b:SY X.env a i:=by exact cF rfl):
  OE X l P (.Call (.Name x p) (e::i) [] a) (aC n m):=Hf gQ C d h f c g b
def ZD{c:List Md}{P:Pt}{p a:Pos}(C:GL X.prog X.w X.K X.mg X.base x g k (EH X.K X.mg [] (rV X.K) f))(d:aY k X.A)(e:Gl X x:=by rfl)(b:SV x:=by decide):VE X c P (.Call (.Name x p) [] [] a) (aC f ao):=X5 iZ C d e b
def ZF{a b:Pos}{h:Sem Bool}(M:jB X.prog X.w X.K X.mg X.base c m x k (EH X.K X.mg (.v::r) (rV X.K) u))(j:aY k X.A)(l:VE X q P o s)(n:AE X q P r (e::p) t)(d:SW X.env e p:=by exact bT rfl)(g:SY X.env a p:=by exact cF rfl)
  (i:eval (.Call (.Attribute o m b) (e::p) [] a) X.env=(do
   let ov <-eval o X.env
   standAt b.atName
   let (f,first) <-holding [ov] (getMethod ov m h)
   callWith a f first (backTo a (starEach (e::p) X.env)) (backToKw a (keywordEach [] X.env))):=by rfl):VE X q P (.Call (.Attribute o m b) (e::p) [] a) (aV c m u s t):=HB iZ M j l n d g i
def ZG{a b:Pos}{h:Sem Bool}(M:jB X.prog X.w X.K X.mg X.base c m x k (EH X.K X.mg (.v::r) (rO X.K) u))(j:aY k X.A)(l:VE X q P o s)(n:AE X q P r (e::p) t)(d:SW X.env e p:=by exact bT rfl)(g:SY X.env a p:=by exact cF rfl)
  (i:eval (.Call (.Attribute o m b) (e::p) [] a) X.env=(do
   let ov <-eval o X.env
   standAt b.atName
   let (f,first) <-holding [ov] (getMethod ov m h)
   callWith a f first (backTo a (starEach (e::p) X.env)) (backToKw a (keywordEach [] X.env))):=by rfl):OE X q P (.Call (.Attribute o m b) (e::p) [] a) (aV c m u s t):=HB gQ M j l n d g i
def ZJ(M:jB X.prog X.w X.K X.mg X.base c m l k (EH X.K X.mg [.v] (rV X.K) j))(b:aY k X.A)(d:VE X i P o h)
  (a:eval (.Call (.Attribute o m g) [] [] e) X.env=(do
   let ov <-eval o X.env
   standAt g.atName
   let (f,first) <-holding [ov] (getMethod ov m n)
   callWith e f first (backTo e (starEach [] X.env)) (backToKw e (keywordEach [] X.env))):=by rfl):VE X i P (.Call (.Attribute o m g) [] [] e) (aV c m j h ao):=HD iZ M b d a
def ZK(M:jB X.prog X.w X.K X.mg X.base c m l k (EH X.K X.mg [.v] (rO X.K) j))(b:aY k X.A)(d:VE X i P o h)
  (a:eval (.Call (.Attribute o m g) [] [] e) X.env=(do
   let ov <-eval o X.env
   standAt g.atName
   let (f,first) <-holding [ov] (getMethod ov m n)
   callWith e f first (backTo e (starEach [] X.env)) (backToKw e (keywordEach [] X.env))):=by rfl):OE X i P (.Call (.Attribute o m g) [] [] e) (aV c m j h ao):=HD gQ M b d a
def NS(K:Frag)(d c:Addr):It:=⟨λi H=>∃b a x y,Ee K H d b/\Ee K H c a/\b[i]?=some x/\a[i]?=some y,
 λi H v e=>∃T x y,v=.ref T/\H T=none/\e=DB H T (.tup [x,y])/\(∀b,Ee K H d b->b[i]?=some x)/\∀a,Ee K H c a->a[i]?=some y,
 λi H=>∃b a,Ee K H d b/\Ee K H c a/\(b.length<=i\/a.length<=i)⟩
def ZL{K:Frag} (z TI TO i1 i2 l1 l2:Addr)(D:ZipApart z TI TO i1 i2 l1 l2):EO P w K (.Tuple elts x1 pos) (NS K l1 l2) [z,TI,TO,i1,i2] z
  (λi h=>IsZip h z TI TO .none/\IsPair h TI (.ref i1) (.ref i2)/\(∃a b,IsPair h TO a b)/\h.IsListIter i1 l1 i/\h.IsListIter i2 l2 i) where
 mem:=by simp
 obj:=λi h st b hb=>by
  obtain⟨hz,hTI,⟨a,b',hTO⟩,⟨o1,ho1,hc1,hd1⟩,⟨o2,ho2,hc2,hd2⟩⟩:=st;simp only[zk,List.not_mem_nil,or_false] at hb
  rcases hb with rfl | rfl | rfl | rfl | rfl
  ·exact mY hz rfl
  ·exact⟨_,hTI,λv z=>nomatch z⟩
  ·exact⟨_,hTO,λv z=>nomatch z⟩
  ·exact mY ho1 hd1
  ·exact mY ho2 hd2
 keep:=λi h h' st k=>by
  obtain⟨hz,hTI,⟨a,b',hTO⟩,h1,h2⟩:=st;exact⟨k z (by simp) _ hz,k TI (by simp) _ hTI,⟨a,b',k TO (by simp) _ hTO⟩,h1.at λo e=>k i1 (by simp) o e,h2.at λo e=>k i2 (by simp) o e⟩
 item:=by
  intro X hP hw hK hc i pins s σ H E I hf st hg;subst hP hw hK;obtain⟨hz,hTI,⟨a,b',hTO⟩,h1,h2⟩:=st;obtain⟨xs,ys,x,y,hq1,hq2,hx,hy⟩:=hg;obtain⟨its1,rv1,pl1,hz1⟩:=I.list hq1;obtain⟨its2,rv2,pl2,hz2⟩:=I.list hq2;obtain⟨u1,hu1,ru1⟩:=rv1.get hx;obtain⟨u2,hu2,ru2⟩:=rv2.get hy;have hT:H s.heap.objs.size=none:=I.Pm.fresh (zc _);have elt:z<s.heap.objs.size:=zm hz
  refine wpAny_pyNext_zip_item D hz hTI hTO h1 h2 pl1.isList pl2.isList (x:=u1) (y:=u2) (by simpa using hu1) (by simpa using hu2) λh' a1 a2 a3 a4 a5 a6 hk=>⟨_,rfl,?_⟩
  refine wpAny_letOwnedTupleGo_zip a1 λh'' hz'' hs''=>⟨.ref s.heap.objs.size,_,?_,rfl,⟨s.heap.objs.size,x,y,rfl,hT,rfl,λys' hy'=>by rw[I.P1 hy' hq1];exact hx,λys' hy'=>by rw[I.P1 hy' hq2];exact hy⟩,⟨hz'',hs''.extBut _ _ D.TIz (hk _ _ D.TIz D.TITO D.TIi1 D.TIi2 hTI),⟨_,_,hs''.extBut _ _ D.TOz a2⟩,a3.extBut hs''.extBut D.i1z,a4.extBut hs''.extBut D.i2z⟩,λb hb=>?_⟩
  ·show C5 X pins σ _ {s with heap:=h'',toks:=s.toks};refine I.Q1 (ch:=[z,TI,TO,i1,i2]) (us:=[u1,u2]) hf (λb o hb q=>?_) (zc _) ⟨_,hs''.extBut _ _ (Nat.ne_of_gt elt) a5,rfl,_,rfl⟩ (.cons ru1 (.cons ru2 .nil)) (by show 2<=sizeLine;decide)
   have n1:b≠z:=λe=>hb (by simp[e])
   have n2:b≠TO:=λe=>hb (by simp[e])
   have n3:b≠i1:=λe=>hb (by simp[e])
   have n4:b≠i2:=λe=>hb (by simp[e])
   exact hs''.extBut _ _ n1 (hk b o n1 n2 n3 n4 q)
  ·have q:=hf b hb;rw[aH (λe=>?_)]
   ·exact q.1
   ·obtain⟨o,ho⟩:∃o,s.heap.get? b=some o:=by
     obtain⟨o1,ho1,_⟩:=h1;obtain⟨o2,ho2,_⟩:=h2;simp only[zk,List.not_mem_nil,or_false] at hb
     rcases hb with rfl | rfl | rfl | rfl | rfl
     ·exact⟨_,hz⟩
     ·exact⟨_,hTI⟩
     ·exact⟨_,hTO⟩
     ·exact⟨_,ho1⟩
     ·exact⟨_,ho2⟩
    exact absurd (zm ho) (by rw[e];exact zW _)
 done:=by
  intro X hP hw hK hc i pins s σ H E I hf st hg;subst hP hw hK;obtain⟨hz,hTI,⟨a,b',hTO⟩,h1,h2⟩:=st;obtain⟨xs,ys,hq1,hq2,hl⟩:=hg;obtain⟨its1,rv1,pl1,hz1⟩:=I.list hq1;obtain⟨its2,rv2,pl2,hz2⟩:=I.list hq2;have l1:=rv1.length;have l2:=rv2.length
  refine wpAny_pyNext_zip_end (I.ok.hd hc) D hz hTI hTO h1 h2 pl1.isList pl2.isList (by
   rcases hl with hl | hl
   ·left;simp;omega
   ·right;simp;omega) λh' hx=>⟨rfl,?_⟩
  exact I.QZ (t':=s.toks) (ch:=[z,TI,TO,i1,i2]) hf λb o hb q=>hx b o (λe=>hb (by simp[e])) (λe=>hb (by simp[e])) (λe=>hb (by simp[e])) (λe=>hb (by simp[e])) q
 self:=λA i s Q E st h=>wpAny_pyIter_zip st.1 h
def ZM(K:Frag)(g:TA):TI:=λσ H R=>g σ H λf c=>∃a b,f=[.ref a,.ref b]/\(∃e,Ee K c a e)/\(∃d,Ee K c b d)/\R (NS K a b) c
def ZP{k:List Expr}{C:Nat}{g:Pos} {p c:Pos}(G:Gl X "zip")(E:X.mg "zip" = none)(J:PA X [a,b] ta)(hs:SW X.env a [b]:=by exact bT rfl)(r:SY X.env c [b]:=by exact cF rfl):
  PI X (.Tuple k C g) (.Call (.Name "zip" p) [a,b] [] c) (ZM X.K ta):=by
 intro z s σ H R I h;refine Call_ (jQ I G E boot_zip (PyProof.Rows.callWith_type1 (thn (J _ _ s σ H _ I h) λus s1 ⟨vs,H1,I1,r1,q1⟩=>?_) hs r));obtain⟨w,v,e,⟨Y,o⟩,⟨W,n⟩,q⟩:=q1;subst e;obtain⟨u1,Z,rfl,m,l⟩:=Ic r1;cases m;cases l;obtain⟨B,P,f,T⟩:=I1.list o;obtain⟨A,O,d,Q⟩:=I1.list n
 have N:w<s1.heap.objs.size:=by obtain⟨_,e,_⟩:=f.isList;exact zm e
 have L:v<s1.heap.objs.size:=by obtain⟨_,e,_⟩:=d.isList;exact zm e
 refine call_zip_2 f.isList d.isList λh' x u t j i U F=>wpAny_pyIter_zip x ?_
 refine⟨s1.heap.objs.size+4,[s1.heap.objs.size+4,s1.heap.objs.size+2,s1.heap.objs.size+3,s1.heap.objs.size,s1.heap.objs.size+1],_,_,H1,rfl,I1.kept F,ZL _ _ _ _ _ w v (zipApart_new N L),⟨x,u,⟨_,_,t⟩,j,i⟩,λb y=>?_,q⟩
 have hb':s1.heap.objs.size<=b:=by
  simp at y
  rcases y with rfl | rfl | rfl | rfl | rfl
  ·exact jc _ _
  ·exact jc _ _
  ·exact jc _ _
  ·exact zc _
  ·exact jc _ _
 exact I1.Ql hb' (I1.Pm.fresh hb')
def gm:List D->List D->List D
 |d::ds,e::es=>.tup [d,e]::gm ds es
 | _,_=>[]
theorem HF:∀(b a:List D)(i:Nat)(x:D),(gm b a)[i]?=some x->∃d e,b[i]?=some d/\a[i]?=some e/\x=.tup [d,e]
 | [],a,i,x,h=>by simp[gm] at h
 |d::b,[],i,x,h=>by simp[gm] at h
 |d::b,e::a,0,x,h=>by
  simp[gm] at h
  exact⟨d,e,rfl,rfl,h.symm⟩
 |d::b,e::a,i+1,x,h=>by
  obtain⟨g,f,k,j,c⟩:=HF b a i x (by simpa);exact⟨g,f,by simpa,by simpa,c⟩
theorem HH:∀(b a:List D),b.length<=(gm b a).length\/a.length<=(gm b a).length
 | [],a=>.inl (Nat.zero_le _)
 |d::b,[]=>.inr (Nat.zero_le _)
 |d::b,e::a=>by
  rcases HH b a with h | h
  ·left;simp[gm];exact h
  ·right;simp[gm];exact h
def rG(a mb:M D):M (List D):=λρ O=>(a ρ O).bind λd O1=>(mb ρ O1).bind λe b=>match d,e with
 | .lst ds,.lst es=>.ok (gm ds es) b
 | _,_=>.no
def ZQ{n:List Expr}{x1:Nat}{m:Pos} {p l:Pos} (hm:X.mg "zip" = none)(h:WE X md P a ma)(h':WE X md P b mb)(hg:Gl X "zip":=by rfl)(hs:SW X.env a [b]:=by exact bT rfl)(J:SW X.env b []:=by exact bT rfl)(K:SY X.env l [b]:=by exact cF rfl):
  VI X md P (.Tuple n x1 m) (.Call (.Name "zip" p) [a,b] [] l) (rG ma mb):=(ZP hg hm (dZ h (dZ h' fK J) hs) hs K).imp λσ H Q q=>by
 obtain⟨ρ,O,F,as,ds,O',r,s,e,k⟩:=q;obtain⟨d1,O1,e1,e⟩:=C8.Pi e;obtain⟨d2,O2,e2,e⟩:=C8.Pi e
 cases d1 with
 |lst =>
  cases d2 with
  |lst =>
   cases e;refine⟨ρ,_,F,as,_,_,r,s,e1,λv H1 F1 L g1 r1 hv=>?_⟩;refine⟨ρ,_,F1,L,_,_,r1,s.step g1,e2,λu C E as2 B w hu=>?_⟩;obtain⟨a,t,rfl,h1,h2⟩:=uQ hv;obtain⟨b,o,rfl,h3,A⟩:=uQ hu
   have h2' :=λc f j g r=>h2 c f j (B.toS.trans g) r
   have h1':=h1.gr B;refine⟨a,b,rfl,⟨t,(h2' C E _ D7.refl ⟨_,w⟩).sq⟩,⟨o,(A C E _ D7.refl ⟨_,w⟩).sq⟩,k _ C E _ (g1.trans B) w ⟨λi d c f j g r e=>?_,λc f j g r=>⟨t,o,(h2' c f _ g r).sq,(A c f _ g r).sq,?_⟩⟩⟩
   ·obtain⟨x',y',q1,q2,rfl⟩:=HF _ _ _ _ e;obtain⟨x,Z,rx⟩:=h1'.get' q1;obtain⟨y,Y,ry⟩:=h3.get' q2;have W:=(h2' c f _ g r).sq;have U:=(A c f _ g r).sq;refine⟨⟨t,o,x,y,W,U,Z,Y⟩,λz H4 hz=>?_⟩;obtain⟨T,x2,y2,rfl,hT,rfl,I,G⟩:=hz;have R:=I t W;have N:=G o U;rw[Z] at R;rw[Y] at N;cases R;cases N;exact yK r hT (Rps.cons (rx.Sz g) (Rps.cons (ry.Sz g) Rps.nil))
   ·rw[h1'.length,h3.length];exact HH _ _
  | _=>cases e
 | _=>cases e
def j7(m:MS):MS:=λρ O=>match m ρ O with
 | .rt d O'=>.rt d O'
 | _=>.no
def DV.toV{K:Frag} (s:DV K md P ρ σ H F as)(E:md[i]?=some .o)(g:Dx F F')
  (l:∀(j:Nat)(b:List D)(a:Addr),j≠i->md[j]?=some .o->ρ[j]?=some (some (.lst b))->σ[j]?=some (some (.ref a))->F' a=F a)
  (Q:∀d,ρ[i]?=some (some d)->∃v,σ[i]?=some (some v)/\Rp K F' as v d):DV K (md.set i .v) P ρ σ H F' as:=by
 have G :=(zx.mp E).1
 have c:∀(j),(md.set i Md.v)[j]?=some Md.o->j≠i/\md[j]?=some .o:=λj e=>by
  by_cases f:j=i
  ·subst f;rw[zU G] at e;cases e
  ·rw[zi (Ne.symm f)] at e;exact⟨f,e⟩
 refine⟨by rw[zX];exact s.len,by rw[zX];exact s.P9,s.pd,λj m d h B=>?_,λj k a b Z Y X W U T R=>s.inj j k a b Z (c j Y).2 (c k X).2 W U T R,λx O=>?_⟩
 ·by_cases f:j=i
  ·subst f;rw[zU G] at h;cases h;exact Q d B
  ·rw[zi (Ne.symm f)] at h;obtain⟨v,q,t⟩:=s.sl j m d h B;refine⟨v,q,?_⟩
   cases m with
   |v=>exact Rp.mono g (λ_ _ z=>z) _ t
   |s =>
    rcases t with t | ⟨a,n,b,J,I,w,u,r,p⟩
    ·exact .inl (Rp.mono g (λ_ _ z=>z) _ t)
    ·exact .inr ⟨a,n,b,J,I,w,u,r,Rps.mono g (λ_ _ z=>z) _ p⟩
   |o =>
    rcases t with⟨y,t⟩ | ⟨a,n,b,rfl,rfl,w,y,u,r,p⟩
    ·exact .inl ⟨y,Rp.mono g (λ_ _ z=>z) _ t⟩
    ·exact .inr ⟨a,n,b,rfl,rfl,w,by rw[l j b a f h B q];exact y,u,r,Rps.mono g (λ_ _ z=>z) _ p⟩
 ·obtain⟨A,N,L⟩:=s.pin x O
  have C:i≠x.1:=λz=>by rw[<-z,E] at A;cases A
  exact⟨by rw[zi C];exact A,N,L⟩
def ZR{K:Frag} (l:md[i]?=some .o){D:EL} (q:F9 K mg md P R (j7 m) D σ H):F9 K mg (md.set i .v) P R m D σ H:=by
 obtain⟨ρ,O,F,x,r,s,k⟩:=q;unfold j7 at k
 cases e:m ρ O with
 |rt =>
  rw[e] at k
  by_cases C:∃t,ρ[i]?=some (some (.lst t))
  ·obtain⟨t,f⟩:=C;obtain⟨a,A,w,n,E,W,U,T⟩:=s.own l f
   have y:Dx F (DB F a (.lst A)):=λb u q=>by rw[aH (cj q E)];exact q
   have X:D7 P H F x H _ x:=⟨λc _ p _ _ _=>aH λz=>U (by rw[<-z];exact p),y,⟨[],by simp⟩,λ_ _ _ h _ _=>h,λ_ h=>h,λ_ _ _ h=>h⟩;refine⟨ρ,O,DB F a _,x,r.Pp n E W rfl,s.toV l y (λj Y b Q L J B=>?_) λG d=>?_,?_⟩
   ·refine aH λz=>Q ?_
    rw[z] at B;exact s.inj j i a Y t L l J f B w
   ·rw[f] at d;cases d;exact⟨_,w,Rp.mkL (.inl (.inl bG)) (Rps.mono y (λ_ _ z=>z) _ T)⟩
   ·rw[e]
    exact λv Z F' as' g I N=>k v Z F' _ (X.trans g) I N
  ·refine⟨ρ,O,F,x,r,s.toV l (Dx.refl F) (λ_ _ _ _ _ _ _=>rfl) λG d=>?_,by rw[e];exact k⟩;obtain⟨v,w,n⟩:=s.sl i .o G l d
   rcases n with⟨_,n⟩ | ⟨a,A,t,_,rfl,_⟩
   ·exact⟨v,w,n⟩
   ·exact absurd ⟨t,d⟩ C
 | _=>rw[e] at k;exact False.elim k
def yN(i:Nat){st:Stmt} (a:b[i]?=some .o)(h:VS X (b.set i .v) P R st m):VS X b P R st (j7 m):=h.imp λ_ _ _=>ZR a
def IE(m:M D):M D:=λρ O=>(m ρ O).bind λd a=>match d with
 | .lst ds=>.ok (.ob a.length) (a++[.ml ds])
 |d=>.ok d a
def yO:∀(n:Nat)(c:Addr),b[n]?=some c->(b++[a])[n]?=some c:=λn c h=>by
 rw[zG (zx.mp h).1];exact h
def DD.Sf{K:Frag} (r:DD K p O H F l)(j:H a=some (.lst m))(k:F a=none)(i:a∉l)(g:Rps K F l m q):DD K p (O++[.ml q]) H F (l++[a]):=by
 refine⟨r.fh,r.fd,je.mpr ⟨r.nd,by simp,λc b d h=>by rw[zj.mp h];exact λz=>i (z ▸ b)⟩,by rw[zg,zg,r.len];rfl,λc b=>?_,λn c o b e=>?_⟩
 ·rcases zy.mp b with b | b
  ·exact r.fa c b
  ·rw[zj.mp b];exact k
 ·by_cases f:n<l.length
  ·rw[zG f] at b;rw[zG (by rw[<-r.len];exact f)] at e;exact(r.ob n c o b e).keep rfl (Dx.refl F) yO
  ·have hn':n=l.length:=by
    have:=(zx.mp b).1
    rw[zg,zR] at this;omega
   subst hn';rw[zN (zc _),Nat.sub_self] at b;rw[r.len,zN (zc _),Nat.sub_self] at e;cases b;cases e;exact⟨m,j,Rps.mono (Dx.refl F) yO _ g⟩
def ZS(h:OE X J P e m):VE X J P e (IE m):=h.imp λσ H Q q=>by
 obtain⟨ρ,O,F,A,d,I,r,s,e,k⟩:=q;obtain⟨x,G,z,e⟩:=C8.Pi e;refine⟨ρ,_,F,A,_,_,r,s,z,λv l n B b g hv=>?_⟩
 rcases hv with⟨o,hv⟩ | ⟨a,C,E,rfl,rfl,y,w,u,e6,t⟩
 ·cases x with
  |lst =>cases o
  | _=>cases e;exact k v l n _ b g hv
 ·cases e;obtain⟨i,p,j⟩:=b.nw;refine k _ l n _ ⟨b.fz,b.ff,⟨i++[a],by rw[p,zz],λc f=>?_⟩,b.fr,b.dm,b.kz⟩ (g.Sf y w u t) (Rp.Po ?_)
  ·rcases zy.mp f with f | f
   ·exact j c f
   ·rw[zj.mp f];exact e6
  ·rw[<-g.len,zN (zc _),Nat.sub_self];rfl
def rH(f:a∈i)(b:H a=some h) (d:∀o u,h≠.Pp o u:=by intro _ _ z;cases z):Gr H F i (DB H a o) F i :=
 ⟨λ_ _ _ _ _=>rfl,Dx.refl F,⟨[],by simp⟩,λc u e hn _=>by rw[aH λz=>hn (by rw[z];exact f)];exact e,λc e=>by
  by_cases h:c=a
  ·subst h;rw[bG] at e;cases e
  ·rwa [aH h] at e,λc g u e=>by rw[aH λz=>by rw[z,b] at e;cases e;exact d _ _ rfl];exact e⟩
def DD.SK{K:Frag} (r:DD K w O H F t)(d:t[n]?=some a)(l:Rps K F t v x):DD K w (O.set n (.ml x)) (DB H a (.lst v)) F t:=by
 have p:=zP d;refine⟨λc u e=>?_,r.fd,r.nd,by rw[zX];exact r.len,r.fa,λm c o f b=>?_⟩
 ·rw[aH (λz=>by rw[z,r.fa a p] at e;cases e)];exact r.fh c u e
 ·by_cases g:m=n
  ·subst g;rw[d] at f;cases f
   have i:m<O.length:=by rw[<-r.len];exact(zx.mp d).1
   rw[zU i] at b;cases b;exact⟨v,bG,l⟩
  ·rw[zi (Ne.symm g)] at b
   refine(r.ob m c o f b).keep (aH λz=>g ?_) (Dx.refl F) λ_ _ h=>h
   obtain⟨q,j⟩:=zx.mp f;obtain⟨s,k⟩:=zx.mp d;exact(List.getElem_inj r.nd).mp (j.trans (z.trans k.symm))
def DD.ml{K:Frag} {n:Nat} (r:DD K f O H F e)(c:e[n]?=some a)(d:O[n]?=some (.ml ds)):∃b,H a=some (.lst b)/\Rps K F e b ds:=r.ob n a _ c d
def g8(a m:M D):MS:=λρ O=>match a ρ O with
 | .ok (.ob n) O1=>match O1[n]? with
  |some (.ml _)=>match m ρ O1 with
   | .ok d O2=>match O2[n]? with
    |some (.ml ds)=>if ds.length<1000000 then .nx ρ (O2.set n (.ml (ds++[d]))) else .no
    | _=>.no
   | _=>.no
  | _=>.no
 | _=>.no
def ZW{R:RR} {c b j:Pos} (U:VE X md P o mo)(h:VE X md P e m)
  (i:attributeBase o "append" X.env (eval o X.env)=eval o X.env:=by rfl)
  (l:((backTo b (starEach [e] X.env)).all (λx=>!x.1)&&(backToKw b (keywordEach [] X.env)).all (λx=>x.1.isSome)&&decide ([e].length+([]:List Keyword).length+(if([]:List Keyword).isEmpty then 0 else 1)<30))=true:=by rfl)
  (g:(c.endLine == b.line)=true:=by rfl) (hs:SW X.env e []:=by exact bT rfl) (p:SY X.env b []:=by exact cF rfl)
  (hsw:swapsWith (.Call (.Attribute o "append" c) [e] [] b) none j.line X.env=pure false:=by rfl):
  VS X md P R (.Expr (.Call (.Attribute o "append" c) [e] [] b) j) (g8 mo m):=
 (oM (lu PySem.F.plainAttrs_list PySem.F.slot_list_append PySem.F.type_list_append Gh U (dZ h fK hs) i l g hs)).imp λD σ H q=>by
  obtain⟨ρ,O,F,as,r,s,k⟩:=q;unfold g8 at k;split at k
  ·rename_i n O1 e1;split at k
   ·rename_i ds0 Z;split at k
    ·rename_i d O2 Y;split at k
     ·rename_i ds W;split at k
      ·rename_i Q;refine⟨ρ,O,F,as,_,_,r,s,e1,λv H1 F1 A u I hv=>?_⟩;obtain⟨a,rfl,J⟩:=Rp.Qo hv;obtain⟨z,N,x2⟩:=I.ml J Z;refine⟨.inl ⟨rfl,z,.inl (.inl N)⟩,ρ,O1,F1,A,d,O2,I,s.step u,Y,λy L w as2 t G T=>?_⟩;have f:=t.at_ n a J;obtain⟨E,C,B⟩:=G.ml f W;have K:Gr L w _ (DB L a (.lst (E++[y]))) w _:=rH (zP f) C;exact⟨a,E,y,rfl,rfl,C,by rw[B.length];exact zM Q (by decide),k σ _ w _ ((u.trans t).trans K).toS (G.SK f (B.snoc T)) (s.step ((u.trans t).trans K))⟩
      ·exact False.elim k
     ·exact False.elim k
    ·exact False.elim k
   ·exact False.elim k
  ·exact False.elim k
def uW(K:Frag)(c:Str->Option Value)(x:Str)(d:List (List Nat)):Prop:=∃(a:Addr)(o:Obj)(b:Array Value)(n:Nat),c x=some (.ref a)/\K.lookup a=some o/\o.cls=.type "tuple"/\o.data=.seq b n/\b.size<=sizeLine/\aJ (d.map λl=>V.str (S l)) b.toList
theorem Rps.texts{K:Frag}:∀a:List (List Nat),Rps K F as (a.map λl=>V.str (S l)) (a.map D.str)
 | []=>Rps.nil
 |l::a=>Rps.cons Rp.str (Rps.texts a)
def ZX{g:List Md}{P:Pt} {b:Pos}(h:uW X.K X.mg x z)(l:Gl X x:=by rfl)(f:SV x:=by decide):VE X g P (.Name x b) (mC (.tup (z.map D.str))):=by
 obtain⟨a,o,c,n,i,j,u,t,p,m⟩:=h
 refine(Gy (v:=.ref a) ⟨_,i,rfl⟩ l f).imp λσ H Q q=>?_
 obtain⟨ρ,O,F,w,d,y,r,s,e,k⟩:=q;cases e;exact k _ H F w Gr.refl r (Rp.Sm (.inr ⟨o,c,n,j,u,t,p,m⟩) (Rps.texts z))
theorem rJ{α:Type}{p:List α->Prop}(h:p []):∀b:List α,b.length=0->p b:=λb e=>by
 cases b with
 |nil=>exact h
 |cons a c=>cases e
theorem gM{α:Type}{p:List α->Prop} (h:∀a,∀b:List α,b.length=n->p (a::b)):∀b:List α,b.length=n+1->p b:=λb e=>by
 cases b with
 |nil=>cases e
 |cons a c=>exact h a c (Nat.succ.inj e)
def DD.QU{K:Frag} (r:DD K l O H F k)(j:F a=none)(i:a∉k)(g:IY K l H F (k++[a]) a o):DD K l (O++[o]) H F (k++[a]):=by
 refine⟨r.fh,r.fd,je.mpr ⟨r.nd,by simp,λc b d h=>by rw[zj.mp h];exact λz=>i (z ▸ b)⟩,by rw[zg,zg,r.len];rfl,λc b=>?_,λn c u b e=>?_⟩
 ·rcases zy.mp b with b | b
  ·exact r.fa c b
  ·rw[zj.mp b];exact j
 ·by_cases f:n<k.length
  ·rw[zG f] at b;rw[zG (by rw[<-r.len];exact f)] at e;exact(r.ob n c u b e).keep rfl (Dx.refl F) yO
  ·have hn':n=k.length:=by
    have:=(zx.mp b).1
    rw[zg,zR] at this;omega
   subst hn';rw[zN (zc _),Nat.sub_self] at b;rw[r.len,zN (zc _),Nat.sub_self] at e;cases b;cases e;exact g
def DD.Re{K:Frag} (r:DD K v O H F t)(d:t[n]?=some a)(l:IY K v (DB H a h) F t a o):DD K v (O.set n o) (DB H a h) F t:=by
 have p:=zP d;refine⟨λc u e=>?_,r.fd,r.nd,by rw[zX];exact r.len,r.fa,λm c u f b=>?_⟩
 ·rw[aH (λz=>by rw[z,r.fa a p] at e;cases e)];exact r.fh c u e
 ·by_cases g:m=n
  ·subst g;rw[d] at f;cases f
   have i:m<O.length:=by rw[<-r.len];exact(zx.mp d).1
   rw[zU i] at b;cases b;exact l
  ·rw[zi (Ne.symm g)] at b
   refine(r.ob m c u f b).keep (aH λz=>g ?_) (Dx.refl F) λ_ _ h=>h
   obtain⟨q,j⟩:=zx.mp f;obtain⟨s,k⟩:=zx.mp d;exact(List.getElem_inj r.nd).mp (j.trans (z.trans k.symm))
def DD.unF{K:Frag} (r:DD K mg O H F as)(a:H p=none):F p=none:=by
 cases e:F p with
 |none=>rfl
 |some o=>rw[r.fh p o e] at a;cases a
def Gr.snoc(b:H p=none):Gr H F d (DB H p o) F (d++[p]):=
 ⟨λ_ _ _ _ _=>rfl,Dx.refl F,⟨[p],rfl,λa h=>by rw[zj.mp h];exact b⟩,λa u e _ _=>by rw[aH (cj e b)];exact e,λa e=>by
  by_cases h:a=p
  ·subst h;exact b
  ·rwa [aH h] at e,λa c u e=>by rw[aH (cj e b)];exact e⟩
def dC(O:au):Nat->D->D
 | 0,d=>d
 |n+1,.ob i=>match O[i]? with
  |some (.ml ds)=>.lst (ds.map (dC O n))
  | _=>.ob i
 |n+1,.lst ds=>.lst (ds.map (dC O n))
 |n+1,.tup ds=>.tup (ds.map (dC O n))
 | _+1,d=>d
theorem uX{K:Frag}{O:au}{H F:Hp}{e:List Addr}{n:Nat}(c:∀(d:D)(v:V),Rp K F e v d->d8 (dC O n d)=true->Rep K H v (toP (dC O n d))):∀(a:List D)(b:List V),Rps K F e b a->j4 (a.map (dC O n))=true->b8 K H b (j0 (a.map (dC O n)))
 | [],b,h,_=>by rw[h.QL];exact b8.nil
 |d::a,b,h,hp=>by
  obtain⟨x,r,rfl,g,f⟩:=h.un;rw[zh,j4,zC] at hp;exact b8.cons (c d x g hp.1) (uX c a r f hp.2)
theorem rK{K:Frag}{k:Str->Option Value}{O:au}{H F:Hp}{j:List Addr}(r:DD K k O H F j):∀(n:Nat)(d:D)(v:V),Rp K F j v d->d8 (dC O n d)=true->Rep K H v (toP (dC O n d))
 | 0,d,v,h,hp=>Lk.rep (Or.inl h) r.fh hp
 |n+1,.ob i,v,h,hp=>by
  unfold dC at hp ⊢;split at hp
  ·rename_i g e;obtain⟨a,rfl,l⟩:=h.Qo;obtain⟨b,f,c⟩:=r.ml l e;exact⟨a,b,rfl,.inl (.inl f),uX (rK r n) g b c hp⟩
  ·cases hp
 |n+1,.lst g,v,h,hp=>by
  obtain⟨a,b,rfl,f,c⟩:=h.Sr;exact⟨a,b,rfl,(f.mono r.fh).sq,uX (rK r n) g b c hp⟩
 |n+1,.tup g,v,h,hp=>by
  obtain⟨a,b,rfl,f,c⟩:=h.QR;exact⟨a,b,rfl,Dx.PY r.fh f,uX (rK r n) g b c hp⟩
 |n+1,.Pl,v,h,hp=>Lk.rep (Or.inl h) r.fh hp
 |n+1,.bl _,v,h,hp=>Lk.rep (Or.inl h) r.fh hp
 |n+1,.int _,v,h,hp=>Lk.rep (Or.inl h) r.fh hp
 |n+1,.str _,v,h,hp=>Lk.rep (Or.inl h) r.fh hp
 |n+1,.QP _ _,v,h,hp=>Lk.rep (Or.inl h) r.fh hp
open PySem.W PySem.Calls
def Keeps(s:Shared)(a:Addr)(c:Heap):Prop:=∀b o,b≠a->s.heap.get? b=some o->c.get? b=some o
structure ZZ(mg:Str->Option Value):Prop extends OR mg where
 sorted_:mg "sorted" = none
def Z0(i:Int)(h:0<=i):Str.ofString (toString i)=S ((Nat.toDigits 10 i.toNat).map Char.toNat):=by
 obtain⟨m,rfl⟩:∃m:Nat,i=(m:Int):=⟨i.toNat,(Int.toNat_of_nonneg h).symm⟩;rw[Int.toNat_natCast,<-PySem.W.KIN.signs_num m,V9]
def pH:List D->Option D
 | [.int i]=>if 0<=i/\i<1000000000 then some (.str ((Nat.toDigits 10 i.toNat).map Char.toNat)) else none
 | _=>none
def Z1:lH X (.type "str") pH:=by
 intro a s σ H j c Q I f h;obtain⟨O,F,m,l,d,r,b,e,k⟩:=h;unfold pH at e;split at e
 ·rename_i i;split at e
  ·rename_i g;obtain⟨v,rfl,hv⟩:=b.one;cases e;cases(hv.rp rfl).PD;refine T9 a s σ H _ c Q I f ⟨i,rfl,shown (N:=2 ^ 1920) (by omega) (by omega) (Int.le_refl _),?_⟩;have z:=Z0 i g.1;refine b7 (v:=.str (Str.ofString (toString i))) r k rfl ?_;rw[z];exact Rp.str
  ·cases e
 ·cases e
def FB:Option Int->List Int->Option Int
 |b,[]=>b
 |none,n::r=>FB (some n) r
 |some m,n::r=>FB (some (if n<m then n else m)) r
def OP(d v:Value):Option Int->Prop
 |none=>v=d
 |some m=>∃t,v=.int m t
def NR(a:Array Value):Option Int->Prop
 |none=>a = #[]
 |some m=>∃t,a = #[.int m t,.int m t]
theorem Z2{id:String} {s:Shared} (i:builtinKind id=none)(h:plainId id=true)(j:entryFor table id=some b)(g:argsOk id ⟨as,kw⟩)
  (d:wpAny (model prog w) A.in1 (b ⟨as,kw⟩) (λfin a=>match fin with
   | .done f=>(match(Except.ok f:Result) with | .ok (.ret v)=>Q v a | .ok _=>False | .error e=>E e a)
   | .again c=>c.quiet=true/\codeAny (model prog w) A c (λr a=>match r with | .ok (.ret v)=>Q v a | .ok _=>False | .error e=>E e a) a) E s):
  wpAny (model prog w) A (call (.builtin id) as kw) Q E s:=by
 refine wpAny_call (codeAny_call_builtin h j ?_);simp [checkBuiltinCall,i]
 cases g0:Manifest.signature? id with
 |none=>exact zb d
 |some sg =>
  simp [argsOk,g0] at g
  have z :=g;show wpAny _ _ (Bind.checkArgs id sg _) _ _ s;rw[z];exact zb d
def Z3(q:Q (.bool (decide (n<m))) s):wpAny (model a w) A (richCompare .Lt (.int n t) (.int m u)) Q E s :=
 CmpOf.ints_lt (λi=>if i=0 then n else m) (λ_ _ z=>z) 0 1 _ _ s Q E ⟨t,rfl⟩ ⟨u,rfl⟩ q
def Z4{w:World}{A:Around}{R:Result->Shared->Prop}{l p S:Addr}{i:List Value}{d:Value}(hh:A.in1.handled=none)(n1:l≠p)(n2:S≠p)(n3:S≠l):
  ∀(G:List Value)(h:List Int)(g:List Value)(b:Option Int)(J:Array Value)(s:Shared)(c:Nat),i=g++G->aJ (h.map V.int) G->s.heap.IsListIter p l g.length->s.heap.IsList l i.toArray->NR J b ->
   s.heap.get? S=some {cls:=.type "list",dict:=none,data:=.seq J c,slots:=#[]} ->
   (∀v h' tk,OP d v (FB b h)->(∀x o,x≠p->x≠S->s.heap.get? x=some o->h'.get? x=some o)->R (.ok (.ret v)) {s with heap:=h',toks:=tk}) ->
   codeAny (model prog w) A (.builtin "min.loop" ⟨[.ref p,.none,.ref S],[("default",d)]⟩) R s:=by
 have W:=Walks.list (prog:=prog) (w:=w) hh p l n1 i.toArray
 have nm:(toString "min" ++ toString ".loop":String) = "min.loop":=by decide
 have nS:S∉[p]:=λz=>n2 (zj.mp z)
 have ni:∀x:Addr,x≠p->x∉[p]:=λx z y=>z (zj.mp y)
 intro G
 induction G with
 |nil =>
  intro h g b J s c e U it hl N O X
  have ens:h=[]:=by
   cases h with
   |nil=>rfl
   |cons=>cases U
  subst ens
  have el:g.length=i.toArray.size:=by rw[e];simp
  rw[el] at it;refine jb PySem.F.entry_min_loop ?_;rw[Around.under_plainId PySem.F.plain_min_loop _];show wpAny _ A.in1 (seqItems? (.ref S) >>= _) _ _ s;refine za (wpAny_seqItems O rfl ?_);show wpAny _ A.in1 (tryCatch (pyNext (.ref p)) _ >>= _) _ _ s;refine za (wpAny_tryCatch (W.done s _ _ ⟨it,hl⟩ λY tk I=>?_));have k:=I S _ nS O
  cases b with
  |none =>
   have j:J = #[]:=N;subst j;show wpAny _ A.in1 (rule _ >>= _) _ _ _;refine za (zZ ?_);exact zb (X d Y tk rfl λx o K T q=>I x o (ni x K) q)
  |some m =>
   obtain⟨t,j⟩:=N;subst j;show wpAny _ A.in1 (updateSeq S (λ_=>#[]) >>= _) _ _ _;refine za ?_;refine ju k rfl (za (wpAny_letGo (zb ?_)))
   exact X (.int m t) _ tk ⟨t,rfl⟩ λx o K T q=>(jq _ _ (Ne.symm T)).trans (I x o (ni x K) q)
 |cons u G ih =>
  intro h g b J s c e U it hl N O X
  cases h with
  |nil=>cases U
  |cons n h =>
   have rv':aJ (V.int n::h.map V.int) (u::G):=U
   obtain⟨ru,rus⟩:C6 (.int n) u/\aJ (h.map V.int) G:=by
    cases rv' with
    |cons a b=>exact⟨a,b⟩
   obtain⟨r,rfl⟩:=ru
   have el:g.length<i.toArray.size:=by rw[e];simp
   have e':i=(g++[Value.int n r])++G:=by rw[e];simp
   have eg:i.toArray[g.length]?=some (Value.int n r):=by rw[e];simp
   refine jb PySem.F.entry_min_loop ?_;rw[Around.under_plainId PySem.F.plain_min_loop _];show wpAny _ A.in1 (seqItems? (.ref S) >>= _) _ _ s;refine za (wpAny_seqItems O rfl ?_);show wpAny _ A.in1 (tryCatch (pyNext (.ref p)) _ >>= _) _ _ s;refine za (wpAny_tryCatch (W.item g.length s _ _ el ⟨it,hl⟩ λv Y tk hv st I=>?_));rw[eg] at hv;cases hv;have k:=I S _ nS O
   have H:∀(B:Heap)(y:Addr)(o:Obj),y≠S->B.get? y=some o->∀f,(B.update S f).get? y=some o:=λB y o z q f=>(jq _ _ (Ne.symm z)).trans q
   have go:∀(Z:Option Int)(E:Array Value)(B:Heap)(P:Nat)(c2:Nat),NR E Z->FB Z h=FB b (n::h)->B.get? S=some {cls:=.type "list",dict:=none,data:=.seq E c2,slots:=#[]} ->
     (∀x o,x≠S->Y.get? x=some o->B.get? x=some o)->codeAny (model prog w) A (.builtin "min.loop" ⟨[.ref p,.none,.ref S],[("default",d)]⟩) R {s with heap:=B,toks:=P}:=λZ E B P c2 q1 q2 q3 q4=>by
    have Q:=W.frame _ Y B st λx L o q=>q4 x o (λz=>by
     rcases zk.mp L with rfl | L
     ·exact n2 z.symm
     ·rcases zk.mp L with rfl | L
      ·exact n3 z.symm
      ·cases L) q
    refine ih h (g++[Value.int n r]) Z E _ c2 e' rus (by rw[zg];exact Q.1) Q.2 q1 q3 λv h3 tk3 K T=>?_
    exact X v h3 tk3 (q2 ▸ K) λx o y1 y2 q=>T x o y1 y2 (q4 x o y2 (I x o (ni x y1) q))
   cases b with
   |none =>
    have j:J = #[]:=N;subst j;show wpAny _ A.in1 (updateSeq S (λ_=>#[Value.int n r,Value.int n r]) >>= _) _ _ _;refine za ?_;refine ju k rfl ?_;rw[nm];exact zb ⟨plainId_quiet PySem.F.plain_min_loop _,go (some n) _ _ _ _ ⟨r,rfl⟩ rfl (Heap.get?_update_self _ k rfl) λx o z q=>H _ x o z q _⟩
   |some m =>
    obtain⟨t,j⟩:=N;subst j;show wpAny _ A.in1 (tryCatch (holding [Value.int n r,Value.int n r] (richCompare .Lt (.int n r) (.int m t) >>= _)) _ >>= _) _ _ _;refine za (wpAny_tryCatch (zS (za (Z3 ?_))));refine za (zS (wpAny_truthy_bool ?_));refine za (wpAny_letGo (zb ?_))
    by_cases C:n<m
    ·rw[zw C];simp only[if_true];refine za ?_;refine ju k rfl (za (wpAny_letGo ?_));rw[nm];exact zb ⟨plainId_quiet PySem.F.plain_min_loop _,go (some n) _ _ _ _ ⟨r,rfl⟩ (by show _=FB (some (if n<m then n else m)) h;rw[if_pos C]) (Heap.get?_update_self _ k rfl) λx o z q=>H _ x o z q _⟩
    ·rw[zo C];simp only[Bool.false_eq_true,if_false];refine za (wpAny_letGo ?_);rw[nm];exact zb ⟨plainId_quiet PySem.F.plain_min_loop _,go (some m) _ _ _ _ ⟨t,rfl⟩ (by show _=FB (some (if n<m then n else m)) h;rw[if_neg C]) k λx o z q=>q⟩
def uY:List D->Option D
 | [.lst ds]=>(gJ ds).map λa=>match FB none a with
  |some m=>.int m
  |none=>.Pl
 | _=>none
def Z5(a d:Value):argsOk "min" ⟨[a],[("default",d)]⟩:=by kernel_rfl
def Z6(n:X.calm=true) {σ:St} (I:C5 X pins σ H s)(l:Ee X.K H a (ns.map V.int))(q:Q (match FB none ns with | some m=>.int m | none=>.Pl) H):
  wpAny (model X.prog X.w) X.A (call (.builtin "min") [.ref a] [("default",.none)]) (EP X pins σ Q) X.xe s:=by
 obtain⟨p,h,i,_⟩:=I.list l;have d:=i.isList
 have f:a<s.heap.objs.size:=by obtain⟨_,z,_⟩:=d;exact zm z
 refine Z2 PySem.F.kind_min PySem.F.plain_min PySem.F.entry_min (Z5 _ _) ?_;refine za (wpAny_of_eq ((rfl)) ?_);refine za (zb ?_);refine za (wpAny_pyIter_list d ?_);refine za (wpAny_newObj_type ?_);have c:(s.heap.push {cls:=.type "list_iterator",data:=.fields #[.ref a,.int 0 0]}).objs.size=s.heap.objs.size+1:=Heap.size_push ..
 refine zb ⟨plainId_quiet PySem.F.plain_min_loop _,Z4 (I.ok.hd n) (zt f) (Nat.ne_of_gt (by rw[c];exact jg _)) (Nat.ne_of_gt (by rw[c];exact jo f)) _ ns [] none _ _ 0 rfl h
  ⟨_,zq _ (zD _ rfl),rfl,rfl⟩ ((d.push _).push _) rfl (zD _ rfl) λv r tk g j=>?_⟩
 have k :=λb o z=>j b o (zt (zm z)) (zt (by rw[c];exact jo (zm z))) (zq _ (zq _ z))
 refine⟨_,H,I.kept k,?_,q⟩
 cases e:FB _ ns with
 | none
 |some m =>
  rw[e] at g;exact g
def Z7{p b l i:Pos}{j:Nat} (x:X.calm=true)(o:X.mg "min" = none)(y:SE X J P e m)(t:Gl X "min":=by rfl)(hs:SW X.env e []:=by exact bT rfl)(f:SY X.env b [e]:=by exact cF rfl)
  (w:backTo b (starEach [e] X.env)=(false,eval e X.env)::backTo b (starEach [] X.env):=by rfl):
  OE X J P (.Call (.Name "min" p) [e] [⟨some "default",.Constant .none j l,i⟩] b) (aO uY (aj m ao)):=by
 intro g s σ H Q I q;refine wpAny_Call_Name_kw (jQ I t o boot_min ?_);have q':=yD (ms:=[.s]) q;refine callWith_kw (thn (GR y GP hs _ _ s σ H _ I q') λus s1 ⟨vs,H1,I1,r1,q1⟩=>?_) w f;refine kws_cons (Constant_none (kws_nil ?_));obtain⟨O,F,G,E,d,r,c,e,k⟩:=q1;unfold uY at e;split at e
 ·rename_i B;obtain⟨v,rfl,hv⟩:=c.one;obtain⟨a,C,rfl,A,z⟩:=hv.list r.fh;obtain⟨u,rfl,h⟩:=DT r1;cases h
  cases hi:gJ B with
  |none=>rw[hi] at e;cases e
  |some ns =>
   rw[hi] at e;cases e;have n:=z.ints hi;refine Z6 x I1 (by rw[<-n];exact A.sq) ?_
   cases em:FB _ ns with
   |none =>
    dsimp at k
    rw[em] at k;exact b7 r k rfl Rp.Pl
   |some m =>
    dsimp at k
    rw[em] at k;exact b7 r k rfl Rp.int
 ·cases e
def LH(lo:Int)(n:Nat):It:=⟨λi _=>i<n,λi H x a=>a=H/\x=.int (lo - i),λi _=>n<=i⟩
def j8(lo:Int)(n:Nat):List D:=(List.range n).map λi:Nat=>.int (lo - i)
def Z8{K:PySem.W.Frag} (it:Addr)(lo:Int)(n:Nat):EO P w K tg (LH lo n) [it] it (λi h=>IsRangeIter h it (lo+(i:Nat) * (-1)) ((n:Int) - (i:Nat)) (-1)) where
 mem:=by simp
 obj:=λi h st b hb=>by
  have e:b=it:=by simpa using hb
  subst e
  exact⟨_,st,λv z=>by
   have z':Data.fields _=Data.cell v:=z
   cases z'⟩
 keep:=λi h h' st k=>k it (by simp) _ st
 item:=by
  intro X hP hw hK hc i pins s σ H E I hf st hg;subst hP hw hK;obtain⟨f0,f1,f2,f3,f4,f5⟩:=hf it (by simp);have W:=Walks.range (prog:=X.prog) (w:=X.w) (I.ok.hd hc) it lo (-1) n
  refine W.item i s _ _ hg st λv h' tk hv st' kk=>?_
  obtain⟨t,rfl⟩:=hv;have I1:C5 X pins σ H {s with heap:=h',toks:=tk}:=I.turned (λb o hb e=>kk b o (by simpa using hb) e) f0 f1 f3 f4 f5;refine⟨_,rfl,oN (s:={s with heap:=h',toks:=tk}) (n:="range_iterator") st' rfl rfl (by decide) ⟨.int (lo - i),H,I1,⟨t,?_⟩,⟨rfl,rfl⟩,st',λb hb=>(hf b hb).1⟩⟩;rw[show lo+(i:Int) * (-1)=lo - i by omega]
 done:=by
  intro X hP hw hK hc i pins s σ H E I hf st hg;subst hP hw hK;obtain⟨f0,f1,f2,f3,f4,f5⟩:=hf it (by simp)
  exact wpAny_pyNext_range_end (I.ok.hd hc) st (by have:n<=i:=hg;omega) λh' eb=>⟨rfl,I.turned (t':=s.toks) (λb o hb e=>eb b o hb e) f0 f1 f3 f4 f5⟩
 self:=λ_ _ _ _ _ st h=>wpAny_pyIter_rangeiter st h
def HJ(a b:Int):Builtin.Range.rangeSize a b (-1)=if a>b then a - b else 0:=by
 unfold Builtin.Range.rangeSize;rw[if_neg (by decide)]
 split
 ·rw[show -(-1)=1 by decide];omega
 ·rfl
def FL(f:-(2 ^ 62)<=a)(d:a<2 ^ 62)(e:-(2 ^ 62)<=b)(c:b<2 ^ 62):Builtin.Range.small a b (-1)=true:=by
 unfold Builtin.Range.small;rw[HJ];simp [Builtin.Range.rangeFitsLong,if_false]
 split<;>omega
def Z9(b:TA):TI:=λσ H R=>b σ H λa c=>∃i j:Int,a=[.int i,.int j,.int (-1)]/\(-(2 ^ 62)<=i/\i<2 ^ 62/\-(2 ^ 62)<=j/\j<2 ^ 62)/\R (LH i (i - j).toNat) c
def ab{j:Expr} {p g:Pos}(l:Gl X "range")(k:X.mg "range" = none)(n:PA X [a,b,c] ta)(hs:starEach [a,b,c] X.env=[(false,eval a X.env),(false,eval b X.env),(false,eval c X.env)]:=by rfl)(d:starEach [b,c] X.env=[(false,eval b X.env),(false,eval c X.env)]:=by rfl):
  PI X j (.Call (.Name "range" p) [a,b,c] [] g) (Z9 ta):=by
 intro i s σ H R I h;refine Call_ (jQ I l k boot_range (PyProof.Rows.callWith_type1 (thn (n _ _ s σ H _ I h) λus s1 ⟨vs,H1,I1,r1,q1⟩=>?_) (by rw[hs,d]) (by rw[d];rfl)));obtain⟨lo,f,e,⟨z,y,x,w⟩,q⟩:=q1;subst e
 cases r1 with
 |cons r rr =>
  cases rr with
  |cons r' rr =>
   cases rr with
   |cons r'' rr =>
    cases rr;obtain⟨t,rfl⟩:=r;obtain⟨u,rfl⟩:=r';obtain⟨v,rfl⟩:=r'';refine call_range_3 (by decide) ?_;refine wpAny_pyIter_range (IsRange.new ..) (FL z y x w) ?_
    have J:C5 X _ σ H1 {s1 with heap:=s1.heap.push {cls:=.type "range",data:=.fields #[.int lo t,.int f u,.int (-1) v]}}:=I1.kept λb o e=>zq _ e
    refine⟨(s1.heap.push _).objs.size,[(s1.heap.push _).objs.size],_,_,H1,rfl,
     J.kept λb o e=>zq _ e,Z8 _ lo _,?_,λb m=>?_,q⟩
    ·have B:lo+(0:) * -1=lo:=by simp
     have A:(lo - f).toNat - (0:)=Builtin.Range.rangeSize lo f (-1):=by rw[HJ];split<;>omega
     rw[B,A];exact zD _ rfl
    ·have e:b=(s1.heap.push {cls:=.type "range",data:=.fields #[.int lo t,.int f u,.int (-1) v]}).objs.size:=by simpa using m
     subst e;exact J.Ql (zc _) (J.Pm.fresh (zc _))
def ae{K:Frag} {lo:Int}:mV K g P (LH lo n) (j8 lo n) H F h:=yJ (λi d c e=>by
 unfold j8 at e;rw[zH] at e
 by_cases a:i<n
 ·rw[List.getElem?_range a] at e;cases e;refine⟨a,λx f y=>?_⟩;obtain⟨b,rfl⟩:=y;exact⟨b,λ_ _ _=>Rp.int⟩
 ·rw[jr (by simpa using a)] at e
  cases e) λc=>by simp[j8,LH]
def uZ(m:M (List D)):M (List D):=λρ O=>(m ρ O).bind λa b=>match a with
 | [.int i,.int j,.int c]=>if c = -1/\i<=1000000000/\-1000000000<=i/\j<=1000000000/\-1000000000<=j then .ok (j8 i (i - j).toNat) b else .no
 | _=>.no
def cz.three{K:Frag} (h:cz K H F as [m1,m2,m3] vs [d,e,f]):∃v u z,vs=[v,u,z]/\rA K m1 (λ_=>True) H F as v d/\rA K m2 (λ_=>True) H F as u e/\rA K m3 (λ_=>True) H F as z f:=by
 cases vs with
 |nil=>exact h.elim
 |cons v vs =>
  obtain⟨g,c⟩:=h;obtain⟨u,z,rfl,b,a⟩:=cz.two c;exact⟨v,u,z,rfl,g,b,a⟩
def af{h:Expr} {p d:Pos} (w:X.mg "range" = none)(A:AE X Z P [.s,.s,.s] [a,b,c] m)(y:Gl X "range":=by rfl)(hs:starEach [a,b,c] X.env=[(false,eval a X.env),(false,eval b X.env),(false,eval c X.env)]:=by rfl)(g:starEach [b,c] X.env=[(false,eval b X.env),(false,eval c X.env)]:=by rfl):
  VI X Z P h (.Call (.Name "range" p) [a,b,c] [] d) (uZ m):=(ab y w A hs g).imp λσ H Q q=>by
 obtain⟨ρ,O,F,J,U,Y,r,s,e,k⟩:=q;obtain⟨T,W,I,e⟩:=C8.Pi e;split at e
 ·rename_i i j c;split at e
  ·rename_i x;cases e;obtain⟨rfl⟩:=x;refine⟨ρ,_,F,J,_,_,r,s,I,λR K L N B l o=>?_⟩;obtain⟨v,u,z,rfl,f,t,n⟩:=o.three;have G:=(Sv.rp f rfl).PD;have E:=(Sv.rp t rfl).PD;have C:=(Sv.rp n rfl).PD;subst G E C;exact⟨i,j,rfl,⟨by omega,by omega⟩,k _ K L _ B l ae⟩
  ·cases e
 ·cases e
section
variable {X:Cx}{pins:List (Addr×Obj)}{σ:List (Option V)}{H:Hp}{s:Shared}{a:Addr}{xs:List (List DC×V)}{o:Obj}
def C5.QY{u:HO}(I:C5 X pins σ H s)(ha:H a≠none)(hn:∀ys,H a≠some (.tup ys))(ho:∀y,H a≠some (.own y))(hb:∀ps,H a≠some (.RI ps))(hf:∀o u,X.H₀ a≠some (.Pp o u))(new:cC X.prog X.w (DB H a u) s.heap a u):C5 X pins σ (DB H a u) s where
 ok:=I.ok
 os:=I.os
 bare:=I.bare
 base:={
  keep:=I.base.keep
  slot:=I.base.slot
  free:=λb o' q n hx=>by
   have z:=I.base.free b o' q n hx;rw[aH (by intro e;have w:=z;rw[e] at w;exact ha w)];exact z
  there:=I.base.there
  Qr:=λb ys q=>by
   have z:=I.base.Qr b ys q;rw[aH (by intro e;have w:=z;rw[e] at w;exact hn ys w)];exact z
  P5:=λb o' u' q=>by
   have z:=I.base.P5 b o' u' q;rw[aH (by intro e;have w:=q;rw[e] at w;exact hf o' u' w)];exact z
  QA:=λb ps q=>by
   obtain⟨m,z⟩:=I.base.QA b ps q
   exact⟨m,by rw[aH (by intro e;have w:=z;rw[e] at w;exact hb _ w)];exact z⟩}
 loc:=I.loc
 cell:=I.cell
 free:=by rw[aH (by intro e;have w:=I.free;rw[e] at w;exact ha w)];exact I.free
 Pw:=λx c q=>by rw[aH (by intro e;have w:=I.Pw x c q;rw[e] at w;exact ha w)];exact I.Pw x c q
 pin:=λp hp=>by
  obtain⟨h1,h2,h3,h4,h5⟩:=I.pin p hp;exact⟨h1,by rw[aH (by intro e;have w:=h2;rw[e] at w;exact ha w)];exact h2,h3,h4,h5⟩
 Pm:=λb u' q=>by
  by_cases e:b=a
  ·subst e;rw[bG] at q;cases q;exact new
  ·rw[aH e] at q
   exact(I.Pm b u' q).P6 (λ_ _ _ z=>z) (λc z=>by rw[aH (by intro e;have w:=z;rw[e] at w;exact ho b w)];exact z) λc ys z=>by rw[aH (by intro e;have w:=z;rw[e] at w;exact hn ys w)];exact z
 len:=I.len
end
def ag(f:(d == sysModules)=false)(b:s.heap.get? d=some o)(e:o.ExactDict)(a:o.data=.dict h i)
  (g:Q (.ref s.heap.objs.size) {s with heap:=s.heap.push {cls:=.type "dict_keyiterator",data:=.fields #[.ref d,.int 0 0,.int h.size 0,.int i 0]}}):
  wpAny (model prog w) A (pyIter (.ref d)) Q E s:=by
 have c:s.TypeIs (.ref d) _:=⟨o,b,e.1⟩;refine wpAny_pyIter_slot c PySem.F.slot_dict_iter (wpAny_call_entry PySem.F.slot_dict_iter c PySem.F.entry_dict_iter ?_);refine za ?_;refine za (wpAny_notOrdered_dict c ?_);refine zb ?_;show wpAny _ _ (Builtin.Dict.showsAll d >>= _) _ _ s;unfold Builtin.Dict.showsAll;rw[if_neg (by rw[f];exact zA)];refine za (zb ?_);refine za (wpAny_dictEntries b a ?_);refine za (wpAny_dictEpoch b a ?_);refine za (wpAny_newObj_type (zb ⟨_,rfl,"dict_keyiterator",_,⟨_,zD _ rfl,rfl⟩,PySem.F.slot_dict_keyiterator_next.lookup,?_⟩));simpa
def ah{n:Nat} {g:Array DictEntry} (a:s.heap.IsKeyIter it d i n q)(c:s.heap.get? d=some r)(e:r.data=.dict g q)(b:g.size=n)(k:i<n)
  (p:∀j,j.IsKeyIter it d (i+1) n q->Heap.SameBut it s.heap j->Q (some (g[i]'(by omega)).key) {s with heap:=j}):
  wpAny (model prog w) A (pyNext (.ref it)) Q E s:=by
 obtain⟨o,h,m,f⟩:=id a;unfold pyNext
 refine za (wpAny_attempt (wpAny_callSpecial?_slot a.typeIs PySem.F.slot_dict_keyiterator_next
  (wpAny_call_entry PySem.F.slot_dict_keyiterator_next a.typeIs PySem.F.entry_dict_keyiterator_next ?_)))
 refine za (zb ?_);refine za ?_;refine za ?_
 first | refine za (wpAny_typeNameOfWhole_keyiter a.typeIs (zb ?_)) | refine za
 refine za (wpAny_fieldsOf h f ?_)
 have l:Builtin.Dict_items.ownsTuple "dict_keyiterator" = false:=by decide
 refine za (zb ?_);refine za (wpAny_dictEntries c e ?_);rw[if_neg (by rw[b];simp)];refine za (zb ?_);refine za (wpAny_dictEpoch c e ?_);rw[if_neg (by simp)];refine zb ?_
 have hlt':i<g.size:=by rw[b];exact k
 simp only[if_false,Int.toNat_natCast,Array.getElem?_eq_getElem hlt'];refine za ?_
 first | refine za (wpAny_typeNameOfWhole_keyiter a.typeIs (zb ?_)) | refine za
 refine za (wpAny_isOneOf_keyiter a.typeIs ?_);show wpAny _ _ (setField (.ref it) 1 (rawInt ((i:Int)+1)) >>= _) _ _ s;refine za (wpAny_setField h f (by simp) ?_);have hit':(s.heap.update it (Obj.mapFields (·.setIfInBounds 1 (rawInt ((i:Int)+1))))).IsKeyIter it d (i+1) n q :=
  ⟨_,Heap.get?_update_self _ h (Obj.isFreed_of_fields (Obj.data_mapFields f _)),(Obj.cls_mapFields ..).trans m,by rw[Obj.data_mapFields f];simp[rawInt]⟩
 refine za (zS ?_);refine za (wpAny_isOneOf_keyiter hit'.typeIs ?_);exact zb (zb ⟨_,rfl,zb (p _ hit' (Heap.SameBut.update ..))⟩)
def ai(q:A.handled=none)(c:s.heap.IsKeyIter it d i n x)(f:s.heap.get? d=some v)(g:v.data=.dict u x)(e:u.size=n)(h:n<=i)
  (r:∀l,Heap.ExtBut it s.heap l->Q none {s with heap:=l}):wpAny (model prog w) A (pyNext (.ref it)) Q E s:=by
 obtain⟨o,j,t,k⟩:=id c;unfold pyNext
 refine za (wpAny_attempt (wpAny_callSpecial?_slot c.typeIs PySem.F.slot_dict_keyiterator_next
  (wpAny_call_entry PySem.F.slot_dict_keyiterator_next c.typeIs PySem.F.entry_dict_keyiterator_next ?_)))
 refine za (zb ?_);refine za ?_;refine za ?_
 first | refine za (wpAny_typeNameOfWhole_keyiter c.typeIs (zb ?_)) | refine za
 refine za (wpAny_fieldsOf j k ?_)
 have p:Builtin.Dict_items.ownsTuple "dict_keyiterator" = false:=by decide
 refine za (zb ?_);refine za (wpAny_dictEntries f g ?_);rw[if_neg (by rw[e];simp)];refine za (zb ?_);refine za (wpAny_dictEpoch f g ?_);rw[if_neg (by simp)];refine zb ?_
 have hge':u.size<=i:=by rw[e];exact h
 simp only[if_false,Int.toNat_natCast,Array.getElem?_eq_none hge'];refine za ?_
 first | refine za (wpAny_typeNameOfWhole_keyiter c.typeIs (zb ?_)) | refine za
 show wpAny _ _ (setField (.ref it) 0 .none >>= _) _ _ s;refine za (wpAny_setField j k (by simp) ?_);refine za ?_;refine za (m:=firstArgMember _ _) (wpAny_of_eq (a:=Value.none) (by first | rfl | (rfl)) ?_);refine wpAny_newObj_type ?_ (by size_fits);simp only[raiseNew];refine za (wpAny_handled ?_);rw[(q)];refine za (zb (wpAny_throw ?_));refine za (wpAny_isInstance (T:="StopIteration") (b:=true) ⟨_,zD _ rfl,rfl⟩ isSubtype_stop ?_);exact zb (r _ (((Heap.SameBut.update ..).extBut.push _).push _))
def ar{β:Type}{R:α->β->Prop}{l:List α}{m:List β}(h:Paired R l m):∀{i:Nat}{x:α}{y:β},l[i]?=some x->m[i]?=some y->R x y:=by
 induction h with
 |nil=>intro i x y h;cases h
 |cons a b ih =>
  intro i x y d c
  cases i with
  |zero=>cases d;cases c;exact a
  |succ i=>exact ih d c
section
variable {K:Frag}{mg:Str->Option Value}{O:au}{H F:Hp}{as:List Addr}
def Gr.tupF{b:Addr}{c:List V}(g:H b=some (.tup c))(d:F b=none):Gr H F as H (DB F b (.tup c)) as :=
 ⟨λa o e _ f=>aH (λz=>by rw[z,g] at e;cases e;cases f),λa u e=>by rw[aH (cj e d)];exact e,⟨[],by simp,λ_ h=>nomatch h⟩,λ_ _ h _ _=>h,λ_ h=>h,λ_ _ _ h=>h⟩
def DD.noT{b:Addr}{g:List V}(r:DD K mg O H F as)(f:H b=some (.tup g)):b∉as:=λj=>by
 obtain⟨n,h,e⟩:=List.mem_iff_getElem.mp j
 have k:n<O.length:=by rw[<-r.len];exact h
 have q:=r.ob n b O[n] (by rw[zB h,e]) (zB k)
 revert q
 cases O[n] with
 |ins c l=>rintro⟨C,p,gs,_,i,_⟩;rw[f] at i;cases i
 |ml s=>rintro⟨g,a,_⟩;rw[f] at a;cases a
 |dt d=>rintro⟨g,a,_⟩;rw[f] at a;cases a
 |df d=>rintro⟨o,g,a,_⟩;rw[f] at a;cases a
 |dk d=>rintro⟨g,a,_⟩;rw[f] at a;cases a
 |kf d=>rintro⟨o,g,a,_⟩;rw[f] at a;cases a
 |xc c l=>rintro⟨C,m,u,_,a,_⟩;rw[f] at a;cases a
 |gone=>rintro⟨φ,a⟩;rw[f] at a;cases a
 |dn d=>rintro⟨g,a,_⟩;rw[f] at a;cases a
 |nf d=>rintro⟨o,g,a,_⟩;rw[f] at a;cases a
theorem u0{K:Frag}:∀a:List DC,Rps K F as (a.map kV) (a.map uK)
 | []=>Rps.nil
 | .inl i::a=>Rps.cons (show Rp K F as (.int i) (.int i) from rfl) (u0 a)
 | .inr x::a=>Rps.cons (show Rp K F as (.str x) (.str x.cps.toList) from by
   show V.str x=V.str (S x.cps.toList)
   rw[show S x.cps.toList=x by cases x;simp[S]]) (u0 a)
end
section
variable {K:Frag}{mg:Str->Option Value}{md:List Md}{P:Pt}{ρ:aN}{σ:St}{O:au}{H F H' F':Hp}{as as':List Addr}
def iC.reH{m:Md}{v:V}{d:D}{a:Addr}{h:HO}(q:iC P K H F as m v d)(l:a∈as):iC P K (DB H a h) F as m v d:=by
 cases m with
 |v=>exact q
 |s =>
  rcases q with q | ⟨c,e,k,j,i,g,b,f,e6⟩
  ·exact .inl q
  ·exact .inr ⟨c,e,k,j,i,by rw[aH (λz=>b (by rw[z];exact l))];exact g,b,f,e6⟩
 |o =>
  rcases q with⟨n,q⟩ | ⟨c,e,k,j,i,g,p,b,f,e6⟩
  ·exact .inl ⟨n,q⟩
  ·exact .inr ⟨c,e,k,j,i,by rw[aH (λz=>b (by rw[z];exact l))];exact g,p,b,f,e6⟩
def DV.reH{a:Addr}{h:HO}(s:DV K md P ρ σ H F as)(b:a∈as):DV K md P ρ σ (DB H a h) F as :=
 ⟨s.len,s.P9,λc p z=>s.pd c p (by
  by_cases e:c=a
  ·rw[e,bG] at z;cases z
  ·rwa [aH e] at z),λi m d g f=>let ⟨v,q,r⟩:=s.sl i m d g f;⟨v,q,r.reH b⟩,s.inj,s.pin⟩
def DV.obAt{i n:Nat}(s:DV K md P ρ σ H F as)(e:ρ[i]?=some (some (.ob n))):∃a,as[n]?=some a:=by
 have c:i<md.length:=by rw[<-s.P9];exact(zx.mp e).1
 obtain⟨v,_,q⟩:=s.sl i _ _ (zB c) e
 have b:Rp K F as v (.ob n):=by
  revert q
  cases md[i] with
  |v=>exact λq=>q
  |s =>
   rintro(q | ⟨a,xs,ds,_,z,_⟩)
   ·exact q
   ·cases z
  |o =>
   rintro(⟨_,q⟩ | ⟨a,xs,ds,_,z,_⟩)
   ·exact q
   ·cases z
 obtain⟨a,_,d⟩:=Rp.Qo b;exact⟨a,d⟩
end
def cA(a:List (DC×D))(k:DC):Option D:=(a.find? λp=>decide (p.1=k)).map (·.2)
def cT(a:List (DC×D))(k:DC)(d:D):List (DC×D):=
 if(a.any λp=>decide (p.1=k))=true then a.map (λp=>if p.1=k then(p.1,d) else p) else a++[(k,d)]
def EJ(K:Frag)(F:Hp)(c:List Addr)(b:List (DC×V))(a:List (DC×D)):Prop:=b.map (·.1)=a.map (·.1)/\Rps K F c (b.map (·.2)) (a.map (·.2))
def EJ.len{K:Frag} (h:EJ K F c b a):b.length=a.length:=by
 have:=congrArg List.length h.1
 simpa using this
def EJ.un{K:Frag} (h:EJ K F as xs (p::kvs)):∃v r,xs=(p.1,v)::r/\Rp K F as v p.2/\EJ K F as r kvs:=by
 obtain⟨a,f⟩:=h
 cases xs with
 |nil=>cases a
 |cons x r =>
  obtain⟨v,g,e,d,c⟩:=f.un;cases e;rw[zh,zh] at a;have b:=(List.cons.inj a).1;refine⟨x.2,r,?_,d,(List.cons.inj a).2,c⟩;rw[<-b]
theorem EJ.val{K:Frag}:∀{a:List (DC×D)}{b:List (DC×V)},EJ K F as b a->(cA a k=none/\dw b k=none)\/∃d v,cA a k=some d/\dw b k=some v/\Rp K F as v d
 | [],b,h=>by
  have:=h.len
  cases b with
  |nil=>exact .inl ⟨rfl,rfl⟩
  |cons=>cases this
 |p::a,b,h=>by
  obtain⟨v,r,rfl,f,c⟩:=h.un
  by_cases e:p.1=k
  ·exact .inr ⟨p.2,v,by simp[cA,List.find?_cons,e],oR e,f⟩
  ·rw[show cA (p::a) k=cA a k by simp[cA,List.find?_cons,e],oU (p:=(p.1,v)) e];exact EJ.val c
theorem EJ.any{K:Frag}:∀{a:List (DC×D)}{b:List (DC×V)},EJ K F as b a->(b.any λp=>decide (p.1=k))=a.any λp=>decide (p.1=k)
 | [],b,h=>by
  have:=h.len
  cases b with
  |nil=>rfl
  |cons=>cases this
 |p::a,b,h=>by
  obtain⟨v,r,rfl,d,c⟩:=h.un;rw[List.any_cons,List.any_cons,EJ.any c]
theorem EJ.P7{K:Frag} (g:Rp K F as v d):∀{a:List (DC×D)}{b:List (DC×V)},EJ K F as b a ->
  EJ K F as (b.map λp=>if p.1=k then(p.1,v) else p) (a.map λp=>if p.1=k then(p.1,d) else p)
 | [],b,h=>by
  have:=h.len
  cases b with
  |nil=>exact⟨rfl,Rps.nil⟩
  |cons=>cases this
 |p::a,b,h=>by
  obtain⟨u,r,rfl,j,i⟩:=h.un;obtain⟨f,c⟩:=EJ.P7 (k:=k) g i
  by_cases e:p.1=k
  ·rw[zh,zh,if_pos e,if_pos e];exact⟨by rw[zh,zh,f],Rps.cons g c⟩
  ·rw[zh,zh,if_neg e,if_neg e];exact⟨by rw[zh,zh,f],Rps.cons j c⟩
def EJ.put{K:Frag} (h:EJ K F c e b)(k:DC) (a:Rp K F c v d):EJ K F c (D0 e k v) (cT b k d):=by
 unfold D0 cT;rw[h.any]
 split
 ·exact h.P7 a
 ·exact⟨by rw[zI,zI,h.1];rfl,by rw[zI,zI];exact Rps.snoc h.2 a⟩
def DD.dk{K:Frag}{n:Nat} (r:DD K g O H F f)(c:f[n]?=some a)(d:O[n]?=some (.dk e)):∃b,H a=some (.dK b)/\EJ K F f b e:=let ⟨b,h1,h2,h3⟩:=r.ob n a _ c d;⟨b,h1,h2,h3⟩
def u6:M D:=λ_ O=>.ok (.ob O.length) (O++[.dk []])
def av:VE X g P (.Dict [] [] f) u6:=VP.imp λσ H Q q p a=>by
 obtain⟨ρ,O,F,b,d,c,r,s,e,k⟩:=q;cases e;refine k _ _ F _ (Gr.snoc a) ((r.lay a).QU (r.unF a) (λz=>r.all z a) ⟨[],bG,rfl,Rps.nil⟩) (Rp.Po ?_);rw[<-r.len,zN (zc _),Nat.sub_self];rfl
def kh(c a b:M D):MS:=λρ O=>match b ρ O with
 | .ok d O1=>match c ρ O1 with
  | .ok (.ob n) O2=>match a ρ O2 with
   | .ok y O3=>match EE y,O3[n]? with
    |some k,some (.dk kvs)=>if kvs.length<1000000 then .nx ρ (O3.set n (.dk (cT kvs k d))) else .no
    | _,_=>.no
   | _=>.no
  | _=>.no
 | _=>.no
def aw(T:aY kk X.A) (U:VE X md P o mo)(Y:VE X md P i my)(hv:VE X md P value mv)
  (hs:swapsWith value (some (.Subscript o i pos')) pos.line X.env=pure false:=by rfl):VS X md P R (.Assign [.Subscript o i pos'] value pos) (kh mo my mv):=
 (VL (xW T) U Y hv hs).imp λD σ H q=>by
  obtain⟨ρ,O,F,as,r,s,k⟩:=q;unfold kh at k;split at k
  ·rename_i d O1 e1;split at k
   ·rename_i n O2 e2;split at k
    ·rename_i y O3 e3;split at k
     ·rename_i B kvs e4 e5;split at k
      ·rename_i L;refine⟨ρ,O,F,as,_,_,r,s,e1,λv H1 F1 m f K hv=>⟨ρ,O1,F1,m,_,_,K,s.step f,e2,λx H2 F2 l e J N=>⟨ρ,O2,F2,l,_,_,J,s.step (f.trans e),e3,λu E g as3 c z Q=>?_⟩⟩⟩;obtain⟨a,rfl,Z⟩:=Rp.Qo N;have b:=c.at_ n a Z;obtain⟨p,w,t⟩:=z.dk b e5;have j :=(Q).key e4;subst j;have h:=(hv).gr (e.trans c)
       have W:p.length<sizeLine:=by rw[t.len];exact zM L (by decide)
       have g4:Gr E g _ (DB E a (.dK (D0 p B v))) g _:=rH (zP b) w;have C:=((f.trans e).trans c).trans g4;obtain⟨I,G⟩:=t.put B h;exact⟨a,_,rfl,qZ.k w W,k σ _ g _ C.toS (z.Re b ⟨_,bG,I,G⟩) (s.step C)⟩
      ·exact False.elim k
     ·exact False.elim k
    ·exact False.elim k
   ·exact False.elim k
  ·exact False.elim k
def fV(c b:M D):M D:=λρ O=>(c ρ O).bind λx e=>match x with
 | .ob n=>(b ρ e).bind λy a=>match EE y,a[n]? with
  |some k,some (.dk kvs)=>match cA kvs k with
   |some d=>.ok d a
   |none=>.no
  | _,_=>.no
 | _=>.no
def ax(E:aY kk X.A) (G:VE X md P o mo)(I:VE X md P i my)(hs:uy i:=by intro _ _;rfl):VE X md P (.Subscript o i pos) (fV mo my):=
 (VH (xW E) G I hs).imp λσ H Q q=>by
  obtain⟨ρ,O,F,T,d,O',r,s,e,k⟩:=q;obtain⟨x,O1,R,e⟩:=C8.Pi e
  cases x with
  |ob n =>
   obtain⟨y,O2,N,e⟩:=C8.Pi e;split at e
   ·rename_i ks Z L K;split at e
    ·rename_i d' b;cases e;refine⟨ρ,_,F,T,_,_,r,s,R,λx H1 Y g m z B=>⟨ρ,_,Y,g,_,_,z,s.step m,N,λu U W as2 l j C=>?_⟩⟩;obtain⟨a,rfl,J⟩:=Rp.Qo B;obtain⟨xs,v,t⟩:=j.dk (l.at_ n a J) K;have f :=(C).key L;subst f
     rcases t.val with⟨c,h⟩ | ⟨d2,w,c,h,p⟩
     ·rw[c] at b;cases b
     ·rw[c] at b;cases b;refine⟨a,w,rfl,?_,k _ U W _ (m.trans l) j p⟩;rw[<-h];exact jT.k v
    ·cases e
   ·cases e
  | _=>cases e
def vd(a:Bool)(c d:M D):M D:=λρ O=>(c ρ O).bind λy e=>(d ρ e).bind λx b=>match x with
 | .ob n=>match EE y,b[n]? with
  |some k,some (.dk kvs)=>.ok (.bl (a != (cA kvs k).isSome)) b
  | _,_=>.no
 | _=>.no
def ay{X:Cx} (q:tM X.K X.mg md P (rO X.K) (vd true my mo) σ H Q):Gm (tM X.K X.mg md P (rV X.K) my) (tM X.K X.mg md P (rV X.K) mo) σ H Q:=by
 obtain⟨ρ,O,F,E,d,Z,r,s,e,k⟩:=q;obtain⟨y,Y,C,e⟩:=C8.Pi e;obtain⟨x,W,B,e⟩:=C8.Pi e;split at e
 ·split at e
  ·rename_i T I A z;cases e;refine⟨ρ,_,F,E,_,_,r,s,C,λu H1 G j h p v=>⟨ρ,_,G,j,_,_,p,s.step h,B,λx l m J g f t=>?_⟩⟩;obtain⟨a,rfl,w⟩:=Rp.Qo t;obtain⟨N,o,n⟩:=f.dk w z;have i :=((v).gr g).key A;subst i;refine⟨a,_,rfl,jT.k o,?_⟩
   rcases n.val with⟨c,b⟩ | ⟨U,R,c,b,L⟩
   ·rw[c] at k;rw[b];exact k _ l m _ (h.trans g) f (.inl ⟨rfl,Rp.bl⟩)
   ·rw[c] at k;rw[b];exact k _ l m _ (h.trans g) f (.inl ⟨rfl,Rp.bl⟩)
  ·cases e
 ·cases e
def aE(a:aY j X.A) (d:VE X e P i f)(b:VE X e P o g)(c:behindInMarks .NotIn o=false:=by with_unfolding_all rfl):TsE X e P (.Compare i [.NotIn] [o] pos) (az (vd true f g)):=
 (xx (VJ (xW a) d b) c).imp λσ H Q h=>ay (oY h)
theorem Rps.reverse{K:Frag}:∀{b:List D}{a:List V},Rps K F as a b->Rps K F as a.reverse b.reverse
 | [],a,h=>by rw[h.QL];exact Rps.nil
 |d::b,a,h=>by
  obtain⟨x,r,rfl,e,c⟩:=h.un;rw[List.reverse_cons,List.reverse_cons];exact Rps.snoc (Rps.reverse c) e
def vf(i:Nat):MS:=λρ O=>match ρ[i]? with
 |some (some (.lst ds))=>.nx (ρ.set i (some (.lst ds.reverse))) O
 | _=>.no
def aI{X:Cx}{P:Pt}{R:RR}(i:Nat){x:Str}{p c b f:Pos}(m:I[i]?=some .o:=by rfl)(A:X.N[i]?=some x:=by rfl)(hv:G0 X.env.scope x:=by first | exact Or.inl rfl | exact Or.inr (Or.inl rfl) | exact Or.inr (Or.inr rfl))
  (y:SV x:=by decide) (j:(x == ("__classdict__":Str))=false:=by decide)
  (e:attributeBase (.Name x p) "reverse" X.env (eval (.Name x p) X.env)=eval (.Name x p) X.env:=by rfl) (d:(c.endLine == b.line)=true:=by rfl)
  (h:swapsWith (.Call (.Attribute (.Name x p) "reverse" c) [] [] b) none f.line X.env=pure false:=by rfl):
  VS X I P R (.Expr (.Call (.Attribute (.Name x p) "reverse" c) [] [] b) f) (vf i):=
 (oM (Vp PySem.F.plainAttrs_list PySem.F.slot_list_reverse PySem.F.type_list_reverse Vs (jP (i:=i) A hv y j) e d) h).imp λD σ H q=>by
  obtain⟨ρ,O,F,C,r,s,k⟩:=q;unfold vf at k;split at k
  ·rename_i G w;obtain⟨a,l,v,g,u,t,n,B⟩:=s.own m w
   have E:H a≠none:=by rw[g];exact λz=>nomatch z
   exact⟨_,v,.inl ⟨rfl,l,.inl (.inl g)⟩,a,l,rfl,rfl,g,k σ _ F C (uU g n) (r.RE u t) (s.RE m w v u t n (Rps.reverse B))⟩
  ·exact False.elim k
def jC:List Int->Option Int
 | []=>none
 |n::ns=>match jC ns with
  |some m=>some (if m<n then n else m)
  |none=>some n
theorem yP:∀{ns:List Int}{M:Int},M∈ns->(∀a,a∈ns->a<=M)->jC ns=some M
 | [],M,h,_=>nomatch h
 |n::ns,M,h,hM=>by
  unfold jC
  rcases zk.mp h with rfl | h
  ·cases e:jC ns with
   |none=>rfl
   |some m =>
    dsimp only
    have:∀{ns:List Int}{m:Int},jC ns=some m->m∈ns:=by
     intro ns
     induction ns with
     |nil=>intro m h;cases h
     |cons n ns ih =>
      intro m h;unfold jC at h
      cases e:jC ns with
      |none=>rw[e] at h;cases h;exact zd
      |some k =>
       rw[e] at h;dsimp only at h;cases h
       split
       ·exact zd
       ·exact zl _ (ih e)
    have d:=hM m (zl _ (this e))
    by_cases b:m<M
    ·rw[if_pos b]
    ·rw[if_neg b];exact congrArg some (by omega)
  ·rw[yP h λa c=>hM a (zl _ c)];dsimp only
   have:=hM n zd
   by_cases b:M<n
   ·omega
   ·rw[if_neg b]
def m6:List D->Option D
 | [.lst ds]=>match gJ ds with
  |some a=>(jC a).map D.int
  |none=>none
 | _=>none
def aS(G:X.calm=true):gj X (.builtin "max") (λb H Q=>∃(a:Addr)(ns:List Int)(M:Int),b=[.ref a]/\Ee X.K H a (ns.map V.int)/\jC ns=some M/\Q (.int M) H):=by
 intro y s σ H b L Q I r h;obtain⟨a,ns,M,rfl,f,w,q⟩:=h;obtain⟨u,rfl,A⟩:=DT r;cases A;obtain⟨d,z,p,N⟩:=I.list f;have k:=FO z;have o:=p.isList;obtain⟨b,e⟩:=k.allInts.items;have C:=k.numsOf
 have m:0<ns.length:=by
  cases ns with
  |nil=>cases w
  |cons n ns=>exact Nat.succ_pos _
 have l:0<b.size:=by
  have x:d.toArray.size=b.size:=by rw[e];simp[intItems]
  rw[<-x,zK,k.length];exact m
 rw[e] at o
 refine max_intList (I.ok.hd G) o l λv O tk B E=>?_
 obtain⟨t,rfl⟩:=intItems_at B;have g:numsOf d=numsOf d.toArray.toList:=rfl;rw[e,nums_intItems] at g;rw[C] at g;obtain⟨x,J⟩:=argBest_gt (numAt b) (b.size - 1)
 have c:=yP (ns:=ns) (M:=numAt b (argBest (λi j=>decide (numAt b i>numAt b j)) (b.size - 1))) (by
  rw[g,numAt_eq]
  exact getD_mem (by rw[ze,Array.length_toList];omega)) (λa f=>by
  rw[g] at f;obtain⟨j,F,rfl⟩:=mem_getD f;rw[ze,Array.length_toList] at F;rw[<-numAt_eq]
  exact J j (by omega))
 rw[w] at c
 have:=zF c
 rw[<-this];exact⟨.int M,H,I.kept (t':=tk) E,⟨t,rfl⟩,q⟩
def aT(l:X.calm=true):lH X (.builtin "max") m6:=by
 intro b s σ H f g Q I i h;obtain⟨O,F,q,p,d,r,c,e,k⟩:=h;unfold m6 at e;split at e
 ·rename_i o;obtain⟨v,rfl,hv⟩:=c.one;obtain⟨a,f,rfl,n,m⟩:=hv.list r.fh
  cases hi:gJ o with
  |none=>rw[hi] at e;cases e
  |some ns =>
   rw[hi] at e;dsimp only at e
   cases hm:jC ns with
   |none=>rw[hm] at e;cases e
   |some M =>
    rw[hm] at e;cases e;have j:=m.ints hi;exact aS l b s σ H _ g Q I i ⟨a,ns,M,rfl,by rw[<-j];exact n.sq,hm,b7 r k rfl Rp.int⟩
 ·cases e
def fX(a:List Str)(x:Str):List Str:=if x∈a then a else a++[x]
def m7(es:Array (Int×Value)):List Str:=es.toList.map λe=>strOf e.2
def dR(prog:Program)(w:World)(h:Heap)(a:Addr)(ss:List Str)(o:Obj)(es:Array (Int×Value))(ep:Nat)(t:SetTable):Prop :=
 h.get? a=some o/\o.ExactSet/\o.data=.set es ep t/\ElemsOf (PySem.strKind prog w) es.toList/\(m7 es).Perm ss/\es.size<scanBound/\t.fits es.size=true/\(es.size=0\/t.plain=false)/\t.led = !w.params.followText "set-order"
def cY(prog:Program)(w:World)(h:Heap)(a:Addr)(ss:List Str):Prop:=∃o es ep t,dR prog w h a ss o es ep t
section
variable {prog:Program}{w:World}{A:Around}{E:Value->Shared->Prop}{s:Shared}{a:Addr}{ss:List Str}
def cY.at{h h':Heap}(x:cY prog w h a ss)(k:∀o,h.get? a=some o->h'.get? a=some o):cY prog w h' a ss :=
 let ⟨o,es,ep,t,h1,r⟩:=x;⟨o,es,ep,t,k o h1,r⟩
def cY.len{h:Heap}(x:cY prog w h a ss):ss.length<scanBound:=by
 obtain⟨o,i,j,t,g,f,e,d,c,b,_⟩:=x;rw[<-c.length_eq];unfold m7;rw[ze];exact b
def a0(t:SetTable)(c:Array (Int×Value))(n:Nat)(h:t.plain=false):(relayAll t c n).2.1.plain=false:=by
 unfold relayAll
 split
 ·rename_i d b e
  dsimp
  split
  ·unfold SetTable.relaid SetTable.laid at e
   cases q:SetTable.layClean _ _ with
   |none=>rw[q] at e;cases e
   |some =>
    rw[q] at e;cases e;exact h
  ·rfl
 ·rfl
def a7(t:SetTable)(c:Array (Int×Value))(n:Nat):(relayAll t c n).2.1.led=t.led:=by
 unfold relayAll
 split
 ·rename_i d b e
  dsimp
  split
  ·unfold SetTable.relaid SetTable.laid at e
   cases q:SetTable.layClean _ _ with
   |none=>rw[q] at e;cases e
   |some =>
    rw[q] at e;cases e;rfl
  ·rfl
 ·rfl
def a8(t:SetTable)(n:Nat):(t.orStandIn n).led=t.led:=by
 unfold SetTable.orStandIn
 split<;>rfl
def a9(t:SetTable)(b:Array (Int×Value))(h:Int)(x:Value):(layNew t b h x).2.1.led=t.led:=by
 unfold layNew
 split
 ·exact a8 _ _
 ·rfl
def HN{h:Heap} (i:h.get? a=some o)(hex:o.ExactSet)(f:o.data=.set p n t)
   (d:ElemsOf (PySem.strKind prog w) l.toList) (g:(m7 l).Perm ss) (k:l.size<scanBound) (j:m.fits l.size=true) (c:m.plain=false) (b:m.led = !w.params.followText "set-order"):
  (h.update a (Obj.putSet l m)).get? a=some {o with data:=.set l (n+1) m}/\cY prog w (h.update a (Obj.putSet l m)) a ss:=by
 have e :=by
  have:=Heap.get?_update_self (Obj.putSet l m) i (by rw[putSet_of _ m f];rfl)
  rw[putSet_of _ m f] at this;exact this
 exact⟨e,_,l,n+1,m,e,hex,rfl,d,g,k,j,.inr c,b⟩
def HQ{g:Bool->Sem Unit}(I:∀(b:Bool)(c:Shared)(H:Unit->Shared->Prop),H () c->wpAny (model prog w) A (g b) H E c)
    (F:s.heap.get? a=some o) (hex:o.ExactSet) (G:o.data=.set O P t)
   (f:ElemsOf (PySem.strKind prog w) L.toList) (l:(m7 L).Perm ss) (i:L.size<scanBound) (z:N.fits L.size=true) (k:N.plain=false) (e:N.led = !w.params.followText "set-order")
  (h:∀x,Heap.SameBut a s.heap x->cY prog w x a ss->R (some true) {s with heap:=x}):
  wpAny (model prog w) A (do
    storeSet a L N
    if(!wasDummy&&N.tooFull)=true then do
      g (relayAll N L (SetTable.grown L.size)).2.2
      storeSet a (relayAll N L (SetTable.grown L.size)).1 (relayAll N L (SetTable.grown L.size)).2.1
      pure (some true)
     else pure (some true)) R E s:=by
 refine za (wpAny_storeSet_of F G ?_ (fits_of_scanBound i));obtain⟨m,C⟩:=HN F hex G f l i z k e;have d:=Heap.SameBut.update s.heap a (Obj.putSet L N)
 split
 ·have v:=relayAll_perm N L (SetTable.grown L.size);have p:=relayAll_fits N L (SetTable.grown L.size);have j:=a0 N L (SetTable.grown L.size) k;have n:=a7 N L (SetTable.grown L.size)
  generalize relayAll N _ _=J at v p j n ⊢
  obtain⟨r⟩:=J;have u :=f.perm v
  have y:r.size=L.size:=by rw[<-Array.length_toList,v.length_eq,Array.length_toList]
  have q:r.size<scanBound:=by rw[y];exact i
  refine za (I _ _ _ ?_);refine za (wpAny_storeSet_of m rfl ?_ (fits_of_scanBound q));obtain⟨_,B⟩:=HN m hex rfl u ((v.map _).trans l) q p j (n.trans e);exact zb (h _ (d.trans (Heap.SameBut.update _ a _)) B)
 ·exact zb (h _ d C)
def ba(hS:cY prog w s.heap a ss)(B:ss.length+1<scanBound)
  (h:∀r b,Heap.SameBut a s.heap r->cY prog w r a (fX ss x)->Q b {s with heap:=r}):
  wpAny (model prog w) A (setAddHashed a (.str x tk) ((PySem.strKind prog w).hash x)) Q E s:=by
 obtain⟨o,l,ep,t,H,hex,I,g,G,hb,T,U,i⟩:=hS
 have n:(PySem.strKind prog w).is x (.str x tk)=true:=by
  show Value.isStrOf x (.str x tk)=true;simp[Value.isStrOf]
 have P:l.size=ss.length:=by rw[<-G.length_eq];unfold m7;rw[ze,Array.length_toList]
 have Z:l.size+1<scanBound:=by rw[P];exact B
 have K:(Value.str x tk).scannable=true:=rfl
 have key:∀e∈l.toList,∀y,(PySem.strKind prog w).is y e.2=true↔strOf e.2=y:=λe R y=>by
  obtain⟨⟨k,hk,_⟩,_⟩:=g e R;obtain⟨t',ht⟩:=Value.isStrOf_shape hk;rw[ht];show Value.isStrOf y (.str k t')=true↔k=y;simp[Value.isStrOf]
 refine zS (za (wpAny_setState_of H I T ?_));dsimp only;rw[byScan_of K hb g];refine za ?_;refine za (zZ ?_);refine za (wpAny_setScan_of n H I T g ?_)
 cases hr:List.findIdx? _ l.toList with
 |some j =>
  obtain⟨hj,W,_⟩:=List.findIdx?_eq_some_iff_getElem.mp hr;have F:x∈ss:=G.mem_iff.mp (zv.mpr ⟨l.toList[j],jh hj,(key _ (jh hj) x).mp W⟩);refine zb (zb ?_)
  have e:s = {s with heap:=s.heap}:=by cases s;rfl
  rw[e];exact h s.heap _ (Heap.SameBut.refl a s.heap) ⟨o,l,ep,t,H,hex,I,g,by rw[fX,if_pos F];exact G,hb,T,U,i⟩
 |none =>
  have F:x∉ss:=λF=>by
   obtain⟨e,R,q⟩:=zv.mp (G.mem_iff.mpr F)
   have:=List.findIdx?_eq_none_iff.mp hr e R
   rw[(key e R x).mpr q] at this;exact Bool.noConfusion this
  have Y:∀(b:Bool){d:Shared}{J},J () d->wpAny (model prog w) A (match b with | true=>rule "set.scan.the-table-gave-way" | false=>pure ()) J E d :=
   λb d J m=>by cases b<;>first | exact zb m | exact zZ m
  have c:=layNew_perm t l ((PySem.strKind prog w).hash x) (.str x tk);have f:=layNew_fits t l ((PySem.strKind prog w).hash x) (.str x tk);have v:=a9 t l ((PySem.strKind prog w).hash x) (.str x tk)
  generalize hL:layNew t l _ (.str x tk)=L at c f v ⊢
  obtain⟨O,t1,C,gave⟩:=L;rw[Array.toList_push] at c;have p :=(g.push n K).perm c
  have N:(m7 O).Perm (fX ss x):=by
   rw[fX,if_neg F];refine(c.map _).trans ?_;rw[zI];exact G.append_right _
  have hb1':O.size<scanBound:=by rw[<-Array.length_toList,c.length_eq,zg];simpa using Z
  refine za (Y _ ?_)
  split
  ·refine za ?_;refine zb ?_;refine HQ ?_ H hex I p N hb1' (SetTable.fits_plain_off f) rfl (v.trans i) ?_
   ·intro b d J m;cases b<;>first | exact zb m | exact zZ m
   ·intro r u z;dsimp only;exact zb (h r _ u z)
  ·rename_i X;refine za (zb ?_);refine HQ ?_ H hex I p N hb1' f (by simpa using X) (v.trans i) ?_
   ·intro b d J m;cases b<;>first | exact zb m | exact zZ m
   ·intro r u z;dsimp only;exact zb (h r _ u z)
def OK(x:Str)(t:Tok):(PySem.strKind prog w).is x (.str x t)=true:=by
 show Value.isStrOf x (.str x t)=true;simp[Value.isStrOf]
def GY(b:List Str):(List.range' 0 b.length).map (λi=>b.getD i ⟨#[]⟩)=b:=by
 apply List.ext_getElem
 ·simp
 ·intro i d c;simp[c]
def bg{R:Result->Shared->Prop}{I:Addr}{fp l:List Addr}{G:Array GenState->Array GenState->Prop}{n:Nat}{P:Nat->Value->Prop}{St:Nat->Shared->Prop}(W:WalksS prog w A.in1 I fp l G n P St)(S:Addr)(u:S∉fp)
  (c:Nat->Str) (x:∀i v,P i v->∃t,v=.str (c i) t) (j:n+1<scanBound):
  ∀(k i:Nat)(s:Shared)(ss:List Str),n - i=k->i<=n->St i s->ss.length<=i->cY prog w s.heap S ss ->
   (∀d,Moved (S::l) G s d->cY prog w d.heap S (((List.range' i (n - i)).map c).foldl fX ss)->R (.ok (.ret .none)) d) ->
   codeAny (model prog w) A (.builtin "set.update.loop" ⟨[.ref S,.ref I],[]⟩) R s:=by
 have r:S∉l:=λh=>u (W.sub _ h)
 have f:∀b∈l,b∈S::l:=λb j=>zl _ j
 intro k
 induction k with
 |zero =>
  intro i s ss O Q g K C H
  have L:i=n:=by omega
  subst L;refine jb PyProof.Rows.F.entry_set_update_loop ?_;rw[Around.under_plainId PyProof.Rows.F.plain_set_update_loop _];show wpAny _ A.in1 (pyNext (.ref I) >>= _) _ _ s;refine za (W.done s _ _ g λd m=>?_);show wpAny _ A.in1 (ret Value.none) _ _ d;refine zb (H d (m.mono f) ?_);rw[Nat.sub_self]
  exact C.at λo e=>m.heap S _ r e
 |succ k ih =>
  intro i s ss O Q g K C H
  have q:i<n:=by omega
  refine jb PyProof.Rows.F.entry_set_update_loop ?_;rw[Around.under_plainId PyProof.Rows.F.plain_set_update_loop _];show wpAny _ A.in1 (pyNext (.ref I) >>= _) _ _ s;refine za (W.item i s _ _ q g λv d T y m=>?_);obtain⟨t,rfl⟩:=x i v T
  have hS':cY prog w d.heap S ss:=C.at λo e=>m.heap S _ r e
  show wpAny _ A.in1 (holding [Value.str (c i) t] (setAdd S (.str (c i) t)) >>= _) _ _ d;refine za (zS ?_);unfold setAdd;refine zS ?_;refine za ((PySem.strKind prog w).pyHash (k:=c i) (OK _ _) ?_)
  refine ba (s:={d with toks:=d.toks+1}) hS' (by omega) λU b p N=>?_
  refine zb ⟨plainId_quiet PyProof.Rows.F.plain_set_update_loop _,ih (i+1) _ (fX ss (c i)) (by omega) q (W.frame _ d _ _ y (Nat.le_succ _) λb j o e=>?_) ?_ N λJ z B=>?_⟩
  ·rw[p.2 b (λh:b=S=>u (by rw[<-h];exact j))];exact e
  ·unfold fX
   split
   ·omega
   ·rw[zg,zR];omega
  ·refine H J (Moved.trans W.gtrans ((m.mono f).then_heap (Nat.le_succ _) λb o j e=>?_) z) ?_
   ·rw[p.2 b (λh:b=S=>j (by rw[h];exact zd))];exact e
   ·rw[show n - i=(n - (i+1))+1 by omega,List.range'_succ,zh,List.foldl_cons];exact B
def bo(x:Value)
  (h:Q₁ (.ref s.heap.objs.size) {s with heap:=s.heap.push {cls:=.type "set",dict:=none,data:=.set #[] 0 (.fresh 0 0 (!w.params.followText "set-order"))}}):
  codeAny (model prog w) A (.call (.builtin "set.__new__") ⟨[.type "set",x],[]⟩) (wants Q₁ E) s:=by
 refine codeAny_of_tree ?_;refine za (wpAny_of_eq (PySem.F.newCall_set_1 x) (zb ⟨plainId_quiet PySem.F.plain_set_new _,jb PySem.F.entry_set_new ?_⟩));have b:=sub_set_self
 wp_walk
 refine wpAny_askSetting (zb ?_);refine za (wpAny_alloc (zb ?_));exact zb h
def HR{h:Heap}:cY prog w (h.push {cls:=.type "set",dict:=none,data:=.set #[] 0 (.fresh 0 0 (!w.params.followText "set-order"))}) h.objs.size []:=
 ⟨_,#[],0,_,zD _ rfl,⟨rfl,rfl,rfl⟩,rfl,λe b=>by simp at b,.nil,by decide,by rfl,.inl rfl,rfl⟩
set_option maxHeartbeats 8000000 in
def bp
  (hh:A.handled=none) (hl:s.heap.IsList l items) (L:StrsAre items.toList ns) (hb:items.size+1<scanBound)
  (h:∀(g:Heap)(tk:Nat),cY prog w g s.heap.objs.size (ns.foldl fX []) ->
   (∀b o,s.heap.get? b=some o->g.get? b=some o)->Q (.ref s.heap.objs.size) {s with heap:=g,toks:=tk}):
  wpAny (model prog w) A (call (.type "set") [.ref l]) Q E s:=by
 obtain⟨c,tl,hmro⟩:=PySem.F.called_set.mro;have hmade:=PySem.F.called_set.made;have hsub:=PySem.F.called_set.sub;refine wpAny_call (codeAny_of_tree ?_);show wpAny _ _ (callAny (.type "set") _) _ _ _;refine zb ⟨Code.quiet_builtin _ (by decide +kernel),jb PySem.F.entry_type_call ?_⟩;rw[Around.under_plain (weight_type_call_type "set" [.ref l] []) rfl];have h1:=PySem.F.called_set.notType;have h2:=PySem.F.called_set.canCreate;have hct:=PySem.F.typeCall_set_1 (.ref l)
 repeat (any_goals (first | assumption | wp_step))
 generalize hO:({cls:=.type "set",dict:=none,data:=.set #[] 0 (.fresh 0 0 (!w.params.followText "set-order"))}:Obj)=O0
 refine codeAny_mono (bo (.ref l) (E:=E) (Q₁:=λq m=>q=.ref s.heap.objs.size/\m = {s with heap:=s.heap.push O0}) (by rw[hO];exact⟨rfl,rfl⟩)) λr m K=>?_
 cases r with
 |error e=>exact K
 |ok fl =>
  cases fl with
  |ret q =>
   obtain⟨rfl,rfl⟩:=K
   have hfr:cY prog w (s.heap.push O0) s.heap.objs.size []:=by rw[<-hO];exact HR
   have hS:(s.heap.push O0).get? s.heap.objs.size=some O0:=by rw[<-hO];exact zD _ rfl
   have J:O0.cls=.type "set":=by rw[<-hO]
   have hdat:O0.data=.set #[] 0 (.fresh 0 0 (!w.params.followText "set-order")):=by rw[<-hO]
   have hT:Shared.TypeIs {s with heap:=s.heap.push O0} (.ref s.heap.objs.size) "set":=⟨_,hS,J⟩;have hli:=PySem.F.called_set.init.lookup;have hbi:=PySem.F.called_set.init.bind (.ref s.heap.objs.size)
   repeat (any_goals (first | assumption | wp_step))
   refine codeAny_mono (codeAny_call_builtin (R:=wants (λr k=>r=.none/\∃g tk,k = {s with heap:=g,toks:=tk} /\
     cY prog w g s.heap.objs.size (ns.foldl fX []) /\
     (∀b o,s.heap.get? b=some o->g.get? b=some o)) E) PySem.F.called_set.init.plain PySem.F.entry_set_init (check_set_init_1 hT ?_)) λG k d=>?_
   ·subst hO;obtain⟨ol,u,C,nl,B⟩:=hl;obtain⟨ocls,p,Z,j⟩:=ol;simp only at C B;subst C;subst B;have hol':(s.heap.push {cls:=.type "set",dict:=none,data:=.set #[] 0 (.fresh 0 0 (!w.params.followText "set-order"))}).get? l=some {cls:=.type "list",dict:=p,data:=.seq items nl,slots:=j}:=zq _ u;have hsls:=PySem.F.sub_list_set;have hslf:=PySem.F.sub_list_frozenset
    have hne:(Value.type "list" == Value.type "dict")=false:=by decide
    have z:(s.heap.push {cls:=.type "set",dict:=none,data:=.set #[] 0 (.fresh 0 0 (!w.params.followText "set-order"))}).IsList l items:=⟨_,hol',rfl,nl,rfl⟩;unfold Builtin.«set.__init__» noKeywords Builtin.Frozenset.updateFrom
    generalize hPI:pyIter=PI
    wp_walk
    subst hPI;refine wpAny_pyIter_list z ?_;refine za (wpAny_runValue ?_);have y:l<s.heap.objs.size:=zm u
    have U:A.in1.in1.in1.handled=none:=by simp[hh]
    have I:l≠(s.heap.push {cls:=.type "set",dict:=none,data:=.set #[] 0 (.fresh 0 0 (!w.params.followText "set-order"))}).objs.size:=by
     rw[Heap.size_push];exact zt (jo y)
    have Y:s.heap.objs.size∉[(s.heap.push {cls:=.type "set",dict:=none,data:=.set #[] 0 (.fresh 0 0 (!w.params.followText "set-order"))}).objs.size,l]:=by
     rw[Heap.size_push];simp only[zk,zj,List.not_mem_nil,or_false,not_or];exact⟨zt (jg _),Nat.ne_of_gt y⟩
    have P:ns.length=items.size:=by rw[<-L.strs,ze,Array.length_toList]
    have H:∀(i:Nat)(v:Value),items[i]?=some v->∃t,v=.str ((λi=>ns.getD i ⟨#[]⟩) i) t:=λi v hv=>by
     have hv':items.toList[i]?=some v:=by rw[Array.getElem?_toList];exact hv
     obtain⟨x,t,rfl⟩:=L.all v (zP hv');refine⟨t,?_⟩
     have n:(items.toList.map strOf)[i]?=some x:=by rw[zH,hv'];rfl
     rw[L.strs] at n;show Value.str x t=Value.str (ns.getD i ⟨#[]⟩) t;rw[jt,n];rfl
    refine bg ((Walks.list U _ l I items).toS) s.heap.objs.size
     Y (λi=>ns.getD i ⟨#[]⟩) H hb (items.size - 0) 0 _ [] (by omega) (Nat.zero_le _)
     ⟨⟨_,zD _ rfl,rfl,rfl⟩,(z.push _)⟩ (zc _) (HR.at λo e=>zq _ e) ?hR
    intro s' n f;rw[Nat.sub_zero,<-P] at f;rw[GY] at f;obtain⟨g,g',d',N,O⟩:=s';have eg:g'=s.gens:=n.gens;have ed:d'=s.drawn:=n.drawn;have eo:O=s.os:=n.os;subst eg;subst ed;subst eo;show wpAny _ _ _ _ _ _;refine zb ?_;show wpAny _ _ (ret Value.none) _ _ _;refine zb ⟨rfl,g,N,rfl,f,λb o e=>?_⟩;have hb':=zm e;have X:b≠s.heap.objs.size:=zt hb'
    have W:b≠(s.heap.push {cls:=.type "set",dict:=none,data:=.set #[] 0 (.fresh 0 0 (!w.params.followText "set-order"))}).objs.size:=by
     rw[Heap.size_push];exact zt (jo hb')
    exact n.heap b o (by simp only[zk,zj,List.not_mem_nil,or_false,not_or];exact⟨X,W⟩) (zq _ (zq _ e))
   ·cases G with
    |error e=>exact d
    |ok fl₂ =>
     cases fl₂ with
     |ret r =>
      obtain⟨rfl,g,tk,rfl,f,T⟩:=d
      repeat (any_goals (first | assumption | wp_step))
      exact h _ _ f T
     | _=>exact d.elim
  | _=>exact K.elim
end
def iG:Slot "set_iterator" "__next__" "set_iterator.__next__" :=
 .of (owner:="set_iterator") (n:="__next__") (by kernel_rfl) (by decide) (by decide) (by decide)
  (by first | exact .inl (by decide) | exact .inr) (by kernel_rfl)
def vg:entryFor table "set_iterator.__next__" = some Builtin.«set_iterator.__next__»:=entryFor_of_tree (by kernel_rfl)
def bq(a:Value):argsOk "set_iterator.__next__" ⟨[a],[]⟩:=by kernel_rfl
def HS:Slot "set_iterator" "__iter__" "set_iterator.__iter__" :=
 .of (owner:="set_iterator") (n:="__iter__") (by kernel_rfl) (by decide) (by decide) (by decide)
  (by first | exact .inl (by decide) | exact .inr) (by kernel_rfl)
def br:entryFor table "set_iterator.__iter__" = some Builtin.«dict_keyiterator.__iter__» :=
 entryFor_alias (id':="dict_keyiterator.__iter__") (by kernel_rfl) rfl (by decide +kernel) (by kernel_rfl)
def y7(a:Value):argsOk "set_iterator.__iter__" ⟨[a],[]⟩:=by kernel_rfl
def bt:entryFor table "set.__iter__" = some Builtin.«frozenset.__iter__» :=
 entryFor_alias (id':="frozenset.__iter__") (by kernel_rfl) rfl (by decide +kernel) (by kernel_rfl)
def FE(h:Heap)(I a:Addr)(first:Value)(i n ep:Nat):Prop:=∃o,h.get? I=some o/\o.cls=.type "set_iterator"/\o.data=.fields #[first,.int i 0,.ref a,.int n 0,.int ep 0]
section
variable {prog:Program}{w:World}{A:Around}{E:Value->Shared->Prop}{s:Shared}{a:Addr}{ss:List Str}{o:Obj}{es:Array (Int×Value)}{ep:Nat}{t:SetTable}
def FE.typeIs{I:Addr}{first:Value}{i n:Nat}(h:FE s.heap I a first i n ep):s.TypeIs (.ref I) "set_iterator":=let ⟨o,h1,h2,_⟩:=h;⟨o,h1,h2⟩
def bS{M:Model} (b:n≠0)(h:∀i d,i<n->Q i {s with drawn:=d}):wpAny M A (choose src n) Q E s :=
 λΓ p c=>⟨b,h _ _ (Nat.mod_lt _ (Nat.pos_of_ne_zero b))⟩
theorem yQ{α:Type}:∀(l:List α)(i:Nat)(h:i<l.length),(l[i]::l.eraseIdx i).Perm l
 |x::xs,0,_=>.refl _
 |x::xs,i+1,h=>(List.Perm.swap _ _ _).trans ((yQ xs i _).cons x)
theorem HW{M:Model}{α:Type}:∀(n:Nat)(b:List α)(s:Shared)(Q:List α->Shared->Prop),b.length=n->(∀c d,c.Perm b->Q c {s with drawn:=d})->wpAny M A (drawOrder n b) Q E s
 | 0,b,s,Q,hl,h=>by
  rw[List.length_eq_zero_iff.mp hl] at h;exact zb (h [] s.drawn .nil)
 |n+1,[],s,Q,hl,h=>by cases hl
 |n+1,x::b,s,Q,hl,h=>by
  unfold drawOrder;refine za (bS (by simp) λi d e=>?_);rw[zB e];refine za (HW n _ _ _ ?_ λc g f=>?_)
  ·rw[List.length_eraseIdx_of_lt e];omega
  ·exact zb (h _ g ((f.cons _).trans (yQ _ _ e)))
def bX(x:dR prog w s.heap a ss o es ep t)
  (r:(w.params.followText "set-order" = true\/es.size<=1)->Q (.ref s.heap.objs.size) {s with heap:=s.heap.push {cls:=.type "set_iterator",data:=.fields #[.int 0 0,.int 0 0,.ref a,.int es.size 0,.int ep 0]}})
  (q:w.params.followText "set-order" = false->∀(ps:List Nat) d,ps.Perm (List.range es.size)->Q (.ref (s.heap.objs.size+1)) {s with drawn:=d,heap:=(s.heap.push {cls:=.type "tuple",data:=.seq (ps.map λi=>Value.int (i:Nat) 0).toArray}).push {cls:=.type "set_iterator",data:=.fields #[.ref s.heap.objs.size,.int 0 0,.ref a,.int es.size 0,.int ep 0]}}):
  wpAny (model prog w) A (pyIter (.ref a)) Q E s:=by
 obtain⟨f,hex,k,u,v,p,j,c,n⟩:=x;have m:s.TypeIs (.ref a) "set":=⟨o,f,hex.1⟩;refine wpAny_pyIter_slot m PySem.F.slot_set_iter (wpAny_call_entry PySem.F.slot_set_iter m bt ?_);unfold Builtin.«frozenset.__iter__» Builtin.Frozenset.slot0 slotArgs;simp only[List.isEmpty_nil,Bool.not_true,Bool.false_eq_true,↓reduceIte,bind_assoc,jd,bne_self_eq_false];refine za (zb ?_);dsimp only;refine za (zb ?_);refine za (za (wpAny_setEntries_of f k j (zb ?_)));refine za (za (wpAny_setState_of f k j ?_));refine za (za (wpAny_askSetting (zb ?_)));refine zb ?_;refine wpAny_ite_split (λb=>?_) (λb=>?_)
 ·change (!w.params.followText "set-order" && (!t.plain&&decide (es.size>1)))=true at b
  have e:w.params.followText "set-order" = false:=by
   cases h:w.params.followText "set-order" with
   |false=>rfl
   |true=>rw[h] at b;cases b
  refine za (HW _ _ _ _ List.length_range λps d g=>?_)
  have c:ps.length=es.size:=by rw[g.length_eq,List.length_range]
  refine za (wpAny_newTuple ?_ (by rw[ze,c,sizeLine_eq];unfold scanBound at p;omega));have ho':(s.heap.push {cls:=.type "tuple",data:=.seq (ps.map λi=>rawInt (i:Nat)).toArray}).get? a=some o:=zq _ f;refine za (wpAny_setEpoch_of ho' k j ?_);unfold newFields;refine za (wpAny_newObj_type (zb ⟨_,rfl,"set_iterator",_,⟨_,zD _ rfl,rfl⟩,iG.lookup,?_⟩))
  have:=q e ps d g
  rw[Heap.size_push];exact this
 ·change ¬(!w.params.followText "set-order" && (!t.plain&&decide (es.size>1)))=true at b
  have e:w.params.followText "set-order" = true\/es.size<=1:=by
   cases h:w.params.followText "set-order" with
   |true=>exact .inl rfl
   |false =>
    rw[h] at b
    rcases c with l | l
    ·omega
    ·rw[l] at b;simpa using b
  refine za (zb ?_);refine za (wpAny_setEpoch_of f k j ?_);unfold newFields;exact za (wpAny_newObj_type (zb ⟨_,rfl,"set_iterator",_,⟨_,zD _ rfl,rfl⟩,iG.lookup,r e⟩))
def vh{h:Heap} (d:h.get? I=some o)(c:o.data=.fields e):∃b,(h.update I (Obj.mapFields (·.setIfInBounds i x))).get? I=some b/\b.cls=o.cls/\b.data=.fields (e.setIfInBounds i x):=
 ⟨_,Heap.get?_update_self _ d (Obj.isFreed_of_fields (Obj.data_mapFields c _)),Obj.cls_mapFields ..,by rw[Obj.data_mapFields c]⟩
def HY(b:FE s.heap I a (.int O 0) i n ep)(x:dR prog w s.heap a ss o es ep t)(l:es.size=n)
  (hs:∀(F:Around)(g:Option (Value×Nat)->Shared->Prop)(C:Value->Shared->Prop),g (some (v,nx)) s->wpAny (model prog w) F (setNext a O.toNat i ep) g C s)
  (r:∀d,FE d I a (.int nx 0) (i+1) n ep->Heap.SameBut I s.heap d->Q (some v) {s with heap:=d}):wpAny (model prog w) A (pyNext (.ref I)) Q E s:=by
 obtain⟨J,hI,q,c⟩:=id b;obtain⟨k,hex,p,H,L,N,m,G,h⟩:=x;unfold pyNext
 refine za (wpAny_attempt (wpAny_callSpecial?_slot (name:=Str.ofString "__next__") b.typeIs iG
  (wpAny_call_entry iG b.typeIs vg ?_ (bq _))))
 unfold Builtin.«set_iterator.__next__» slotArgs;simp only[List.isEmpty_nil,Bool.not_true,Bool.false_eq_true,↓reduceIte,bind_assoc,jd,bne_self_eq_false];refine za (zb ?_);dsimp only;refine za (wpAny_fieldsOf hI c ?_);dsimp only;refine za (wpAny_setEntries_of k p m ?_);rw[if_neg (by rw[l];simp)];refine za (hs _ _ _ ?_);dsimp only;refine za (wpAny_setField hI c (by simp) ?_);obtain⟨K,e,B,f⟩:=vh (i:=0) (x:=rawInt (nx:Nat)) hI c;refine za (wpAny_setField (s:={s with heap:=s.heap.update I (Obj.mapFields (·.setIfInBounds 0 (rawInt (nx:Nat))))}) e f (by simp) ?_);obtain⟨j,u,z,y⟩:=vh (i:=1) (x:=rawInt ((i:Int)+1)) e f
 refine zb ⟨_,rfl,zb (r _ ⟨j,u,z.trans (B.trans q),by rw[y];simp[rawInt]⟩ ((Heap.SameBut.update ..).trans (Heap.SameBut.update ..)))⟩
def H9(h:A.handled=none)(b:FE s.heap I a (.int C 0) i n ep)(x:dR prog w s.heap a ss o es ep t)(g:es.size=n)
  (hs:∀(q:Around)(e:Option (Value×Nat)->Shared->Prop)(p:Value->Shared->Prop),e none s->wpAny (model prog w) q (setNext a C.toNat i ep) e p s)
  (l:∀d,Heap.ExtBut I s.heap d->Q none {s with heap:=d}):wpAny (model prog w) A (pyNext (.ref I)) Q E s:=by
 obtain⟨v,hI,z,c⟩:=id b;obtain⟨f,hex,k,u,y,B,j,r⟩:=x
 refine za (wpAny_attempt (wpAny_callSpecial?_slot b.typeIs iG
  (wpAny_call_entry iG b.typeIs vg ?_)))
 refine za (zb ?_);refine za (wpAny_fieldsOf hI c ?_);refine za (wpAny_setEntries_of f k j ?_);rw[if_neg (by rw[g];simp)];refine za (hs _ _ _ ?_);refine za (wpAny_setField hI c (by simp) ?_);refine za ?_;refine za (m:=firstArgMember _ _) (wpAny_of_eq (by first | rfl | (rfl)) ?_);refine wpAny_newObj_type ?_;refine za (wpAny_handled ?_);rw[(h)];refine za (zb (wpAny_throw ?_));refine za (wpAny_isInstance ⟨_,zD _ rfl,rfl⟩ isSubtype_stop ?_);exact zb (l _ (((Heap.SameBut.update ..).extBut.push _).push _))
def b0(b:FE s.heap I a (.ref T) i n ep)(x:dR prog w s.heap a ss o es ep t)(l:es.size=n)
  (r:s.heap.get? T=some N) (e:N.data=.seq L O) (k:L[i]?=some (.int (p:Nat) 0)) (m:es[p]?=some (hs,v))
  (u:∀d,FE d I a (.ref T) (i+1) n ep->Heap.SameBut I s.heap d->Q (some v) {s with heap:=d}):wpAny (model prog w) A (pyNext (.ref I)) Q E s:=by
 obtain⟨G,hI,q,c⟩:=id b;obtain⟨f,hex,h,F,H,J,g,C⟩:=x
 refine za (wpAny_attempt (wpAny_callSpecial?_slot b.typeIs iG
  (wpAny_call_entry iG b.typeIs vg ?_)))
 refine za (zb ?_);refine za (wpAny_fieldsOf hI c ?_);refine za (wpAny_setEntries_of f h g ?_);rw[if_neg (by rw[l];simp)];refine za (wpAny_seqItems r e ?_);dsimp only;rw[show(i:Int).toNat=i from rfl,k];refine za (za (wpAny_setState_of f h g ?_));dsimp only;rw[if_neg (by simp)];rw[show(p:Int).toNat=p from rfl,m];refine zb ?_;refine za (wpAny_setField hI c (by simp) ?_);obtain⟨j,y,B,z⟩:=vh hI c;exact zb ⟨_,rfl,zb (u _ ⟨j,y,B.trans q,by rw[z];simp[rawInt]⟩ (Heap.SameBut.update ..))⟩
def b4(k:A.handled=none)(b:FE s.heap I a (.ref T) i n ep)(x:dR prog w s.heap a ss o es ep t)(j:es.size=n)
  (q:s.heap.get? T=some N) (d:N.data=.seq L O) (g:L[i]?=none)
  (r:∀e,Heap.ExtBut I s.heap e->Q none {s with heap:=e}):wpAny (model prog w) A (pyNext (.ref I)) Q E s:=by
 obtain⟨B,hI,G,c⟩:=id b;obtain⟨h,hex,p,z,F,H,l,y,f⟩:=x
 refine za (wpAny_attempt (wpAny_callSpecial?_slot b.typeIs iG
  (wpAny_call_entry iG b.typeIs vg ?_)))
 refine za (zb ?_);refine za (wpAny_fieldsOf hI c ?_);refine za (wpAny_setEntries_of h p l ?_);rw[if_neg (by rw[j];simp)];refine za (wpAny_seqItems q d ?_);dsimp only;rw[show(i:Int).toNat=i from rfl,g];refine za (wpAny_setField hI c (by simp) ?_);obtain⟨C,u,J,v⟩:=vh hI c;refine za (wpAny_setField u v (by simp) ?_);refine za ?_;refine za (m:=firstArgMember _ _) (wpAny_of_eq (by first | rfl | (rfl)) ?_);refine wpAny_newObj_type ?_;refine za (wpAny_handled ?_);rw[(k)];refine za (zb (wpAny_throw ?_));refine za (wpAny_isInstance ⟨_,zD _ rfl,rfl⟩ isSubtype_stop ?_)
 exact zb (r _ ((((Heap.SameBut.update ..).trans (Heap.SameBut.update ..)).extBut.push _).push _))
def yR(b:FE s.heap I a first i n ep)(h:Q (.ref I) s):wpAny (model prog w) A (pyIter (.ref I)) Q E s:=by
 refine wpAny_pyIter_slot b.typeIs HS (wpAny_call_entry HS b.typeIs br ?_);exact zb ⟨_,rfl,"set_iterator",_,b.typeIs,iG.lookup,h⟩
def Ia(x:dR prog w s.heap a ss o es ep t)(b:w.params.followText "set-order" = true)
  (h:n (((pickOrder (w.params.setOrder a ep) es)[i]?).map λe=>(e.2,m)) s):wpAny (model prog w) q (setNext a m i ep) n p s:=by
 obtain⟨c,hex,f,j,k,l,d,g⟩:=x;refine za (wpAny_setState_of c f d ?_);refine za (za (wpAny_askSetting (zb ?_)));rw[if_pos (show(⟨(model _ w).prog,(model _ w).w.params⟩:Setting).params.followText _=true from b)];rw[if_neg (by simp)];refine za (za (wpAny_setState_of c f d ?_));refine za (za (wpAny_askSetting (zb ?_)));rw[if_pos (show(⟨(model _ w).prog,(model _ w).w.params⟩:Setting).params.followText _=true from b)];exact za (wpAny_askSetting (zb (zb h)))
def Ib(x:dR prog w s.heap a ss o es ep t)(b:w.params.followText "set-order" = false)(q:es.size<=1)
  (h:u (match es[SetTable.below t.place r]?,t.place[SetTable.below t.place r]? with | some (_,x),some j=>some (x,j+1) | _,_=>none) s):wpAny (model prog w) v (setNext a r i ep) u y s:=by
 obtain⟨f,hex,k,m,n,p,g,l,c⟩:=x
 have e:t.led=true:=by rw[c,b];rfl
 refine za (wpAny_setState_of f k g ?_);refine za (za (wpAny_askSetting (zb ?_)));rw[if_neg (λz=>by have:=b.symm.trans z;cases this)]
 refine wpAny_ite_split (λd=>?_) λd=>?_
 ·change (!t.plain&&decide _)=true at d
  rw[zC,decide_eq_true_eq] at d;omega
 ·refine za ?_;show wpAny _ v (if(!t.led && !es.isEmpty)=true then unsupported _ else pure ()) _ _ _;rw[if_neg (by rw[e];simp)];refine zb ?_;exact zb h
theorem Ie(next:Nat->Nat):∀(fuel k:Nat)(left:List α)(b:Array α),left.length=fuel->(pickOrder.go next fuel k left b).toList.Perm (b.toList++left)
 | 0,k,left,b,h=>by
  rw[List.length_eq_zero_iff.mp h];unfold pickOrder.go;simp
 |fuel+1,k,left,b,h=>by
  unfold pickOrder.go;have c:next k % left.length<left.length:=Nat.mod_lt _ (by omega);rw[zB c];refine(Ie _ _ _ _ _ (by rw[List.length_eraseIdx_of_lt c];omega)).trans ?_;rw[Array.toList_push,zz];exact List.Perm.append_left _ (yQ _ _ c)
def rM(next:Nat->Nat)(b:Array α):(pickOrder next b).toList.Perm b.toList:=by
 have:=Ie next b.size 0 _ #[] Array.length_toList
 simpa
def GA{α:Type}(b:Array α)(ps:List Nat)(h:ps.Perm (List.range b.size)):∃g:List α,g.Perm b.toList/\ps.length=g.length/\∀(i p:Nat),ps[i]?=some p->b[p]?=g[i]?:=by
 have d:∀p∈ps,p<b.size:=λp k=>List.mem_range.mp (h.mem_iff.mp k)
 refine⟨ps.filterMap λp=>b[p]?,?_,?_,?_⟩
 ·refine(h.filterMap _).trans ?_
  have :=by
   have e:∀l:List α,(List.range l.length).filterMap (λp=>l[p]?)=l:=λl=>by
    induction l with
    |nil=>rfl
    |cons =>
     rw[zu,List.range_succ_eq_map,List.filterMap_cons];simp;congr 1
   have:=e b.toList
   simpa
  rw[this]
 ·have e:∀l:List _,(∀p∈l,p<b.size)->l.length=(l.filterMap λp=>b[p]?).length:=λl=>by
   induction l with
   |nil=>intro _;rfl
   |cons p l ih =>
    intro c;rw[List.filterMap_cons,Array.getElem?_eq_getElem (c p zd)];rw[zu,zu,ih λq j=>c q (zl _ j)]
  exact e ps d
 ·have e:∀(l:List _),(∀p∈l,p<b.size)->∀(i p:Nat),l[i]?=some p->b[p]?=(l.filterMap λp=>b[p]?)[i]?:=λl=>by
   induction l with
   |nil=>intro _ i p f;cases f
   |cons q l ih =>
    intro c i p f;rw[List.filterMap_cons,Array.getElem?_eq_getElem (c q zd)]
    cases i with
    |zero =>
     cases f;rw[Array.getElem?_eq_getElem];rfl
    |succ i=>exact ih (λq j=>c q (zl _ j)) i p f
  exact e ps d
end
def IH(a:List Str)(i:Nat)(v:Value):Prop:=∃x t,a[i]?=some x/\v=.str x t
section
variable {prog:Program}{w:World}{A:Around}{E:Value->Shared->Prop}{s:Shared}{a:Addr}{ss:List Str}{o:Obj}{es:Array (Int×Value)}{ep:Nat}{t:SetTable}
def FE.at{h h':Heap}{I:Addr}{first:Value}{i n:Nat}(x:FE h I a first i n ep)(e:∀o,h.get? I=some o->h'.get? I=some o):FE h' I a first i n ep:=let ⟨o,ho,r⟩:=x;⟨o,e _ ho,r⟩
def dR.at{h h':Heap}(x:dR prog w h a ss o es ep t)(e:∀o,h.get? a=some o->h'.get? a=some o):dR prog w h' a ss o es ep t:=⟨e _ x.1,x.2⟩
def yS(e:Heap.SameBut I s.heap d):Moved [I] Eq s {s with heap:=d}:=⟨λb o c q=>(e.2 b λz=>c (by rw[z];exact zj.mpr rfl)).trans q,rfl,rfl,rfl,zc _⟩
def yU(e:Heap.ExtBut I s.heap d):Moved [I] Eq s {s with heap:=d}:=⟨λb o c q=>e b o (λz=>c (by rw[z];exact zj.mpr rfl)) q,rfl,rfl,rfl,zc _⟩
def yV{s:Shared}{x:dR prog w s.heap a ss o es ep t}{l:List (Int×Value)}(f:l.Perm es.toList) (c:l[i]?=some e):IH (l.map λe=>strOf e.2) i e.2:=by
 obtain⟨⟨k,g,_⟩⟩:=x.2.2.2.1 e (f.mem_iff.mp (zP c));obtain⟨d,b⟩:=Value.isStrOf_shape g;exact⟨k,d,by rw[zH,c,Option.map_some,b];rfl,b⟩
def b5(hh:A.handled=none)(hne:a≠I)(hft:w.params.followText "set-order" = true):
  WalksS prog w A I [I,a] [I] Eq es.size (IH ((pickOrder (w.params.setOrder a ep) es).toList.map λe=>strOf e.2)) (λi s=>FE s.heap I a (.int 0 0) i es.size ep/\dR prog w s.heap a ss o es ep t) where
 sub:=by simp
 grefl:=λ_=>rfl
 gtrans:=λ_ _ _ h1 h2=>h1.trans h2
 frame:=λi s h' tk st _ k=>⟨st.1.at λo e=>k I (by simp) o e,st.2.at λo e=>k a (by simp) o e⟩
 item:=λi s Q E hi st hQ=>by
  have hsz:(pickOrder (w.params.setOrder a ep) es).size=es.size:=by rw[<-Array.length_toList,(rM _ es).length_eq,Array.length_toList]
  have he:(pickOrder (w.params.setOrder a ep) es)[i]?=some ((pickOrder (w.params.setOrder a ep) es)[i]'(by omega)):=Array.getElem?_eq_getElem (by omega)
  refine HY (nx:=0) st.1 st.2 rfl (λA' Q' E' q=>Ia st.2 hft (by rw[he];exact q)) λh' it' sb=>hQ _ _ ?_ ⟨it',st.2.at λo e=>(sb.2 a hne).trans e⟩ (yS sb)
  exact yV (x:=st.2) (rM _ es) (by rw[Array.getElem?_toList];exact he)
 done:=λs Q E st hQ=>by
  have hsz:(pickOrder (w.params.setOrder a ep) es).size=es.size:=by rw[<-Array.length_toList,(rM _ es).length_eq,Array.length_toList]
  have he:(pickOrder (w.params.setOrder a ep) es)[es.size]?=none:=Array.getElem?_eq_none (by omega)
  exact H9 hh st.1 st.2 rfl (λA' Q' E' q=>Ia st.2 hft (by rw[he];exact q)) λh' e=>hQ _ (yU e)
 self:=λi s Q E st h=>yR st.1 h
def Ig(j k:Nat):SetTable.below #[j] k=if j<k then 1 else 0:=by
 show SetTable.below.go _ k 1 0 1=_;rfl
def b6(hh:A.handled=none)(hne:a≠I)(hft:w.params.followText "set-order" = false)(hes:es = #[e])(hj:t.place = #[j]):
  WalksS prog w A I [I,a] [I] Eq 1 (IH (es.toList.map λe=>strOf e.2)) (λi s=>FE s.heap I a (.int (if i=0 then 0 else((j+1:Nat):Int)) 0) i 1 ep/\dR prog w s.heap a ss o es ep t) where
 sub:=by simp
 grefl:=λ_=>rfl
 gtrans:=λ_ _ _ h1 h2=>h1.trans h2
 frame:=λi s h' tk st _ k=>⟨st.1.at λo e=>k I (by simp) o e,st.2.at λo e=>k a (by simp) o e⟩
 item:=λi s Q E hi st hQ=>by
  have hi0:i=0:=by omega
  subst hi0
  refine HY (nx:=j+1) (v:=e.2) st.1 st.2 (by rw[hes];rfl) (λA' Q' E' q=>Ib st.2 hft (by rw[hes];exact zc _) ?_) λh' it' sb=>hQ _ _ ?_ ⟨it',st.2.at λo e=>(sb.2 a hne).trans e⟩ (yS sb)
  ·rw[hj,show(if(0:Nat)=0 then(0:Int) else((j+1:Nat):Int)).toNat=0 from rfl,Ig,if_neg (Nat.not_lt_zero _),hes];exact q
  ·exact yV (x:=st.2) (.refl _) (e:=e) (by rw[hes];rfl)
 done:=λs Q E st hQ=>by
  refine H9 hh st.1 st.2 (by rw[hes];rfl) (λA' Q' E' q=>Ib st.2 hft (by rw[hes];exact zc _) ?_) λh' e=>hQ _ (yU e)
  rw[hj,show(if(1:Nat)=0 then(0:Int) else((j+1:Nat):Int)).toNat=j+1 from rfl,Ig,if_pos (jg _),hes];exact q
 self:=λi s Q E st h=>yR st.1 h
def b9{ps:List Nat} {ys:List (Int×Value)}(hh:A.handled=none)(hne:a≠I)(hnT:T≠I)(hTd:oT.data=.seq (ps.map λi=>Value.int (i:Nat) 0).toArray nT)
  (hy:ys.Perm es.toList) (hl:ps.length=es.size) (hp:∀(i p:Nat),ps[i]?=some p->es[p]?=ys[i]?):
  WalksS prog w A I [I,a,T] [I] Eq es.size (IH (ys.map λe=>strOf e.2)) (λi s=>FE s.heap I a (.ref T) i es.size ep/\dR prog w s.heap a ss o es ep t/\s.heap.get? T=some oT) where
 sub:=by simp
 grefl:=λ_=>rfl
 gtrans:=λ_ _ _ h1 h2=>h1.trans h2
 frame:=λi s h' tk st _ k=>⟨st.1.at λo e=>k I (by simp) o e,st.2.1.at λo e=>k a (by simp) o e,k T (by simp) _ st.2.2⟩
 item:=λi s Q E hi st hQ=>by
  have hi':i<ps.length:=by omega
  have e1:=zB hi'
  have hyl:ys.length=es.size:=by rw[hy.length_eq,Array.length_toList]
  have e2:=zB (l:=ys) (i:=i) (by omega);have e3:=(hp i _ e1).trans e2
  refine b0 (hs:=_) st.1 st.2.1 rfl st.2.2 hTd (p:=ps[i]) ?_ (v:=(ys[i]'(by omega)).2) e3 λh' it' sb=>hQ _ _ ?_ ⟨it',st.2.1.at λo e=>(sb.2 a hne).trans e,(sb.2 T hnT).trans st.2.2⟩ (yS sb)
  ·rw[List.getElem?_toArray,zH,e1];rfl
  ·exact yV (x:=st.2.1) hy e2
 done:=λs Q E st hQ=>by
  refine b4 hh st.1 st.2.1 rfl st.2.2 hTd ?_ λh' e=>hQ _ (yU e)
  rw[List.getElem?_toArray,zH,jr (by omega)];rfl
 self:=λi s Q E st h=>yR st.1 h
theorem Ih{α:Type}:∀{x:Array α},x.size=1->∃e,x = #[e]
 | ⟨[e]⟩,_=>⟨e,rfl⟩
def cb{Q:Value->Shared->Prop}(v:A.handled=none)(L:cY prog w s.heap a ss)(B:ss≠[])
  (h:∀(m:Shared)(I:Addr)(fp:List Addr)(St:Nat->Shared->Prop)(r:List Str),(∀b o,s.heap.get? b=some o->m.heap.get? b=some o)->m.gens=s.gens->m.os=s.os->m.toks=s.toks->r.Perm ss->s.heap.objs.size<=I ->
   (∀b∈fp,b=a\/s.heap.objs.size<=b)->WalksS prog w A I fp [I] Eq r.length (IH r) St->St 0 m->Q (.ref I) m):wpAny (model prog w) A (pyIter (.ref a)) Q E s:=by
 obtain⟨o,es,ep,t,x⟩:=L;have l:=zm x.1
 have p:es.size=ss.length:=by rw[<-x.2.2.2.2.1.length_eq];unfold m7;rw[ze,Array.length_toList]
 have G:0<es.size:=by rw[p];exact List.length_pos_iff.mpr B
 refine bX x (λn=>?_) (λk ps d g=>?_)
 ·have F:dR prog w (s.heap.push {cls:=.type "set_iterator",data:=.fields #[.int 0 0,.int 0 0,.ref a,.int es.size 0,.int ep 0]}) a ss o es ep t:=x.at λo e=>zq _ e
  cases k:w.params.followText "set-order" with
  |true =>
   have W:=b5 (prog:=prog) (o:=o) (ss:=ss) (es:=es) (ep:=ep) (t:=t) v (zt l) k;refine h _ _ [s.heap.objs.size,a] (λi f=>FE f.heap s.heap.objs.size a (.int 0 0) i es.size ep/\dR prog w f.heap a ss o es ep t) ((pickOrder (w.params.setOrder a ep) es).toList.map λe:Int×Value=>strOf e.2) (λb o e=>zq _ e) rfl rfl rfl (((rM _ es).map λe:Int×Value=>strOf e.2).trans (show(es.toList.map λe:Int×Value=>strOf e.2).Perm ss from x.2.2.2.2.1)) (zc _) (λb c=>?_) ?_ ⟨⟨_,zD _ rfl,rfl,rfl⟩,F⟩
   ·rcases zk.mp c with rfl | c
    ·exact .inr (zc _)
    ·exact .inl (zj.mp c)
   ·rw[ze,(rM _ es).length_eq,Array.length_toList];exact W
  |false =>
   have y:es.size=1:=by
    rcases n with n | n
    ·rw[k] at n;cases n
    ·omega
   obtain⟨e,C⟩:=Ih y;have q:=x.2.2.2.2.2.2.1
   obtain⟨j,K⟩:∃j,t.place = #[j]:=by
    have g:t.place.size=1:=by
     simp only[SetTable.fits,zC,beq_iff_eq] at q;omega
    exact Ih g
   have W:=b6 (prog:=prog) (o:=o) (ss:=ss) (ep:=ep) v (zt l) k C K;refine h _ _ [s.heap.objs.size,a] (λi f=>FE f.heap s.heap.objs.size a (.int (if i=0 then 0 else((j+1:Nat):Int)) 0) i 1 ep/\dR prog w f.heap a ss o es ep t) (es.toList.map λe:Int×Value=>strOf e.2) (λb o e=>zq _ e) rfl rfl rfl (show(es.toList.map λe:Int×Value=>strOf e.2).Perm ss from x.2.2.2.2.1) (zc _) (λb c=>?_) ?_ ⟨⟨_,zD _ rfl,rfl,by rw[y];rfl⟩,F⟩
   ·rcases zk.mp c with rfl | c
    ·exact .inr (zc _)
    ·exact .inl (zj.mp c)
   ·rw[ze,Array.length_toList,y];exact W
 ·obtain⟨H,u,N,J⟩:=GA es ps g
  have hl':ps.length=es.size:=by rw[g.length_eq,List.length_range]
  have z:(s.heap.push {cls:=.type "tuple",data:=.seq (ps.map λi=>Value.int (i:Nat) 0).toArray}).objs.size=s.heap.objs.size+1:=Heap.size_push _ _;have W:=b9 (prog:=prog) (w:=w) (A:=A) (a:=a) (ss:=ss) (o:=o) (ep:=ep) (t:=t) (I:=s.heap.objs.size+1) (T:=s.heap.objs.size) (oT:={cls:=.type "tuple",data:=.seq (ps.map λi=>Value.int (i:Nat) 0).toArray}) (ps:=ps) v (zt (jo l)) (zt (jg _)) rfl u hl' J;refine h _ _ [s.heap.objs.size+1,a,s.heap.objs.size] (λi f=>FE f.heap (s.heap.objs.size+1) a (.ref s.heap.objs.size) i es.size ep/\dR prog w f.heap a ss o es ep t/\f.heap.get? s.heap.objs.size=some {cls:=.type "tuple",data:=.seq (ps.map λi=>Value.int (i:Nat) 0).toArray}) (H.map λe:Int×Value=>strOf e.2) (λb o e=>zq _ (zq _ e)) rfl rfl rfl ((u.map λe:Int×Value=>strOf e.2).trans (show(es.toList.map λe:Int×Value=>strOf e.2).Perm ss from x.2.2.2.2.1)) (Nat.le_succ _) (λb c=>?_) ?_ ⟨⟨_,by rw[<-z];exact zD _ rfl,rfl,rfl⟩,x.at λo e=>zq _ (zq _ e),zq _ (zD _ rfl)⟩
  ·rcases zk.mp c with rfl | c
   ·exact .inr (Nat.le_succ _)
   ·rcases zk.mp c with rfl | c
    ·exact .inl rfl
    ·exact .inr (by rw[zj.mp c];exact zc _)
  ·rw[ze,u.length_eq,Array.length_toList];exact W
def ck(c:s.TypeIs (.ref r) "set")(h:Q false s):wpAny (model prog w) A (Builtin.List.listLengthHint (.ref r)) Q E s:=by
 refine za (wpAny_specialOf c PySem.F.slot_set_len.lookup ?_)
 generalize hid:"set.__len__" = id0
 subst hid;refine za (wpAny_isInstance (b:=true) c (by kernel_rfl) ?_);refine za (wpAny_typeOf c ?_);exact zb h
def cm:∀{b:List Str}{c:Array Value},ItemsOf (IH b) c b.length->StrsAre c.toList b:=by
 intro b c h
 have e:∀(d)(b),d.length=b.length->(∀i v,d[i]?=some v->IH b i v)->StrsAre d b:=λd=>by
  induction d with
  |nil=>intro b g _;cases b with
   |nil=>exact .nil
   |cons =>cases g
  |cons v d ih =>
   intro b g f
   cases b with
   |nil=>cases g
   |cons x b =>
    obtain⟨y,t,k,j⟩:=f 0 v rfl;cases k;subst j;refine .cons x t (ih b (Nat.succ.inj g) λi u m=>?_);obtain⟨y,l,k,j⟩:=f (i+1) u m;exact⟨y,l,k,j⟩
 refine e _ _ ?_ λi v f=>?_
 ·exact h.1
 ·rw[Array.getElem?_toList] at f;exact h.2 i v f
def cp(hh:A.handled=none)(N:cY prog w s.heap a ss)(Q:ss≠[])
  (h:∀(c:Shared)(K:List Value)(f:List Str),(∀b o,s.heap.get? b=some o->c.heap.get? b=some o)->c.gens=s.gens->c.os=s.os->s.heap.objs.size<c.heap.objs.size->StrsAre K f->f.Perm ss->R K c):
  wpAny (model prog w) A (collect (.ref a)) R E s:=by
 have J:a<s.heap.objs.size:=by obtain⟨_,_,_,_,x⟩:=N;exact zm x.1
 unfold collect;refine za (wpAny_runValue (jb entry_proto_collect' ?_));rw[Around.under_plainId PySem.F.plain_proto_collect _];refine za (wpAny_newObj_type ?_);refine zb ⟨plainId_quiet PySem.F.plain_list_iadd _,jb entry_list_iadd' ?_⟩;rw[Around.under_plainId PySem.F.plain_list_iadd _];have y:(s.heap.push {cls:=.type "list",data:=.seq ([]:List Value).toArray}).get? s.heap.objs.size=some {cls:=.type "list",data:=.seq #[]}:=zD _ rfl
 have n:cY prog w (s.heap.push {cls:=.type "list",data:=.seq ([]:List Value).toArray}) a ss:=N.at λo e=>zq _ e
 show wpAny _ A.in1 (Builtin.List.listExtendWith (.ref s.heap.objs.size) (.ref a) (.ref s.heap.objs.size)) _ _ _;unfold Builtin.List.listExtendWith
 have hT:Shared.TypeIs {s with heap:=s.heap.push {cls:=.type "list",data:=.seq ([]:List Value).toArray}} (.ref a) "set":=by
  obtain⟨o,_,_,_,x⟩:=n;exact⟨o,x.1,x.2.1.1⟩
 refine za (wpAny_typeOf (T:="set") hT ?_)
 have h1:Builtin.List.listSameRef (.ref s.heap.objs.size) (.ref a)=false:=by simp[Builtin.List.listSameRef,Nat.ne_of_gt J]
 simp only[h1,show(Value.type "set" == Value.type "list")=false by decide,show(Value.type "set" == Value.type "tuple")=false by decide,Bool.or_false,Bool.false_eq_true,if_false];refine za (cb (by simp[hh]) n Q λl I fp St f k eg eo et Y hI U W st=>?_);have u:=k _ _ y;have P:(s.heap.push {cls:=.type "list",data:=.seq ([]:List Value).toArray}).objs.size=s.heap.objs.size+1:=Heap.size_push _ _
 have p:s.heap.objs.size∉fp:=λj=>by
  rcases U _ j with z | z
  ·exact Nat.ne_of_gt J z
  ·change (s.heap.push {cls:=.type "list",data:=.seq ([]:List Value).toArray}).objs.size<=_ at z
   omega
 have Z:f.length<=sizeLine:=by
  have:=N.len
  rw[Y.length_eq,sizeLine_eq];unfold scanBound at this;omega
 refine za (zS (ck ?_ ?_))
 ·obtain⟨o,ho,hc⟩:=hT;exact⟨o,k _ _ ho,hc⟩
 have fin:∀(c:Shared)(d:Array Value)(B:Nat),(∀b o,s.heap.get? b=some o->c.heap.get? b=some o)->c.gens=s.gens->c.os=s.os->s.toks<=c.toks->c.heap.get? s.heap.objs.size=some {cls:=.type "list",dict:=none,data:=.seq d B,slots:=#[]}->ItemsOf (IH f) d f.length ->
   wpAny (model prog w) A (load s.heap.objs.size >>= λo=>match o.data with | .seq f _=>pure f.toList | _=>unsupported "internal:collect") R E c:=λc d B H G C L e5 e6 =>
  za (wpAny_load e5 (zb (h c _ f H G C (zm e5) (cm e6) Y)))
 have X:∀(c:Shared)(O:Heap),(∀b o,b≠s.heap.objs.size->l.heap.get? b=some o->O.get? b=some o)->Moved (s.heap.objs.size :: [I]) Eq {l with heap:=O} c->(∀b o,s.heap.get? b=some o->c.heap.get? b=some o)/\c.gens=s.gens/\c.os=s.os/\s.toks<=c.toks:=λc O q j=>by
  refine⟨λb o e=>?_,?_,j.os.trans eo,?_⟩
  ·have m:=zm e;refine j.heap b o (λz=>?_) (q b o (zt m) (k b o (zq _ e)))
   rcases zk.mp z with z | z
   ·exact zt m z
   ·have z':=zj.mp z;rw[<-z',P] at hI;exact absurd m (Nat.not_lt.mpr (Nat.le_of_succ_le hI))
  ·exact j.gens.symm.trans eg
  ·have:=j.toks
   have et':l.toks=s.toks:=et;rw[<-et'];exact this
 refine wpAny_ite_split (λ_=>?_) (λ_=>zb ⟨plainId_quiet PySem.F.plain_extend_loop _,?_⟩)
 ·refine za (zZ ?_);refine za ?_;refine za (ju u rfl ?_);have i:=Heap.get?_update_self (Obj.mapSeq (·.push Value.none)) u rfl;refine ju (hz:=by seq_fits) i rfl ?_;have v:=Heap.get?_update_self (Obj.mapSeq (·.pop)) i rfl
  have hk:∀b o,b≠s.heap.objs.size->l.heap.get? b=some o->((l.heap.update s.heap.objs.size (Obj.mapSeq (·.push Value.none))).update s.heap.objs.size (Obj.mapSeq (·.pop))).get? b=some o:=λb o m e =>
   (jq _ _ (Ne.symm m)).trans ((jq _ _ (Ne.symm m)).trans e)
  refine zb ⟨plainId_quiet PySem.F.plain_extend_loop _,?_⟩
  refine codeAny_extend_loopS W Z s.heap.objs.size p (.ref s.heap.objs.size) f.length 0 _ #[] _ rfl (Nat.zero_le _) ?_ v (ItemsOf.nil _) λc d B j r g=>?_
  ·exact W.frame 0 l _ l.toks st (zc _) λb m o e=>hk b o (λz=>p (z ▸ m)) e
  ·obtain⟨H,G,C,L⟩:=X c _ hk j;exact fin c d B H G C L r g
 ·refine codeAny_extend_loopS W Z s.heap.objs.size p (.ref s.heap.objs.size) f.length 0 _ #[] _ rfl (Nat.zero_le _) st u (ItemsOf.nil _) λc d B j r g=>?_
  obtain⟨H,G,C,L⟩:=X c l.heap (λb o _ e=>e) j;exact fin c d B H G C L r g
def cq{s:Shared} (B:A.handled=none)(F:cY prog w s.heap a ss)(n:ss≠[])(L:ss.length<64)
  (h:∀(j:Shared)(D:Addr)(c:Nat)(out:List Value)(d:List Str),(∀b o,s.heap.get? b=some o->j.heap.get? b=some o)->j.gens=s.gens->j.os=s.os->s.heap.objs.size<=D->j.heap.get? D=some (seqObj "list" out.toArray c) ->
   StrsAre out d->d.Perm ss->sortedS d=true->Q (.ref D) j):
  wpAny (model prog w) A (call (.builtin "sorted") [.ref a]) Q E s:=by
 refine Calls.call_function_entry kind_sorted plain_sorted entry_sorted (args_sorted1 _) ?_;unfold Builtin.«sorted»;refine za (m:=checkCount "sorted" 1 1 _) (zb ?_);refine za (cp (by simp[B]) F n λf vs N k I H G g p=>?_)
 have v:vs.length=ss.length:=by rw[<-p.length_eq,<-g.strs,ze]
 refine za (wpAny_newList ?_ (by rw[sizeLine_eq];omega));have i:(f.heap.push (seqObj "list" vs.toArray 0)).get? f.heap.objs.size=some (seqObj "list" vs.toArray 0):=zD _ rfl;show wpAny _ _ _ _ _ {f with heap:=f.heap.push (seqObj "list" vs.toArray 0)};refine za (zS (wpAny_call_entry slot_list_sort ⟨_,i,rfl⟩ entry_list_sort (list_sort_treeK (s:={f with heap:=f.heap.push (seqObj "list" vs.toArray 0)}) strKind_oneLt i g.keysOf (λu r rest e=>keyKind_strs (by rw[<-e];exact g)) (by omega) λl K J=>⟨_,rfl,?_⟩) (args_list_sort _)));obtain⟨d,z,y,x⟩:=sorted_out_str g K J
 obtain⟨c,C⟩:=sortedHeap_at (vs:=vs) (out:=((arrOf l).map (·.2))) i;refine zb ⟨_,rfl,h _ f.heap.objs.size c _ d (λb o e=>?_) I H ?_ (by rw[Array.toArray_toList];exact C) z (y.trans p) x⟩
 ·have q:=zm (k b o e);show(sortedHeap (f.heap.push (seqObj "list" vs.toArray 0)) f.heap.objs.size vs ((arrOf l).map (·.2))).get? b=some o;rw[sortedHeap_old (zt q) (by rw[size_push'];exact jo q)];exact zq _ (k b o e)
 ·exact Nat.le_of_lt G
end
def yW{a:List Nat}(h:¬b<a):a<b\/a=b:=by
 by_cases q:a<b
 ·exact .inl q
 ·exact .inr (List.le_antisymm (List.not_lt.mp h) (List.not_lt.mp q))
def lK(x:List Nat):List (List Nat)->List (List Nat)
 | []=>[x]
 |y::r=>if x<y then x::y::r else if x=y then y::r else y::lK x r
def kj(l:List (List Nat)):List (List Nat):=l.foldr lK []
def ED(a:List (List Nat))(x:List Nat):List (List Nat):=if x∈a then a else a++[x]
theorem yX(x y:List Nat):∀l,y∈lK x l↔y=x\/y∈l
 | []=>by simp[lK]
 |z::r=>by
  unfold lK
  split
  ·simp
  ·split
   ·rename_i e;subst e;simp
   ·rw[zk,yX,zk];constructor
    ·rintro(h | h | h)
     ·exact .inr (.inl h)
     ·exact .inl h
     ·exact .inr (.inr h)
    ·rintro(h | h | h)
     ·exact .inr (.inl h)
     ·exact .inl h
     ·exact .inr (.inr h)
theorem Ii(x:List Nat):∀l,l.Pairwise (· < ·)->(lK x l).Pairwise (· < ·)
 | [],_=>List.pairwise_singleton _ _
 |y::r,h=>by
  obtain⟨c,f⟩:=List.pairwise_cons.mp h;unfold lK
  split
  ·rename_i b;refine List.pairwise_cons.mpr ⟨λz a=>?_,h⟩
   rcases zk.mp a with rfl | a
   ·exact b
   ·exact List.lt_trans b (c z a)
  ·split
   ·exact h
   ·rename_i d e;refine List.pairwise_cons.mpr ⟨λz a=>?_,Ii x r f⟩
    rcases(yX x z r).mp a with rfl | a
    ·rcases yW d with q | q
     ·exact q
     ·exact absurd q.symm e
    ·exact c z a
theorem yZ:∀l,(kj l).Pairwise (· < ·)
 | []=>.nil
 |x::l=>Ii x _ (yZ l)
theorem vm(y:List Nat):∀l,y∈kj l↔y∈l
 | []=>Iff.rfl
 |x::l=>by
  show y∈lK x (kj l)↔_;rw[yX,vm,zk]
theorem Ij:∀(b a:List (List Nat)),b.Pairwise (· < ·)->a.Pairwise (· < ·)->(∀x,x∈b↔x∈a)->b=a
 | [],[],_,_,_=>rfl
 | [],y::a,_,_,h=>nomatch (h y).mpr zd
 |x::b,[],_,_,h=>nomatch (h x).mp zd
 |x::b,y::a,h1,h2,h=>by
  obtain⟨f,i⟩:=List.pairwise_cons.mp h1;obtain⟨d,g⟩:=List.pairwise_cons.mp h2
  have e:x=y:=by
   rcases zk.mp ((h x).mp zd) with e | e
   ·exact e
   ·rcases zk.mp ((h y).mpr zd) with q | q
    ·exact q.symm
    ·exact absurd (List.lt_trans (d x e) (f y q)) (List.lt_irrefl y)
  subst e;rw[Ij b a i g λz=>?_];constructor
  ·intro c
   rcases zk.mp ((h z).mp (zl _ c)) with q | q
   ·subst q;exact absurd (f z c) (List.lt_irrefl z)
   ·exact q
  ·intro c
   rcases zk.mp ((h z).mpr (zl _ c)) with q | q
   ·subst q;exact absurd (d z c) (List.lt_irrefl z)
   ·exact q
def cv(l:List (List Nat))(x:List Nat):fX (l.map S) (S x)=(ED l x).map S:=by
 unfold fX ED
 by_cases h:x∈l
 ·rw[if_pos h,if_pos (zv.mpr ⟨x,h,rfl⟩)]
 ·rw[if_neg h,if_neg λz=>?_,zI];rfl;obtain⟨y,a,e⟩:=zv.mp z;rw[q9 e] at a;exact h a
theorem vo:∀(b a:List (List Nat)),(b.map S).foldl fX (a.map S)=(b.foldl ED a).map S
 | [],a=>rfl
 |x::b,a=>by
  rw[zh,List.foldl_cons,cv];exact vo b _
theorem vp(y:List Nat):∀(b a:List (List Nat)),y∈b.foldl ED a↔y∈a\/y∈b
 | [],a=>by simp
 |x::b,a=>by
  rw[List.foldl_cons,vp];unfold ED
  split
  ·rename_i h;constructor
   ·rintro(q | q)
    ·exact .inl q
    ·exact .inr (zl _ q)
   ·rintro(q | q)
    ·exact .inl q
    ·rcases zk.mp q with rfl | q
     ·exact .inl h
     ·exact .inr q
  ·rw[zy,zj,zk,or_assoc]
theorem z7:∀(d c:List (List Nat)),c.Nodup->(d.foldl ED c).Nodup
 | [],c,h=>h
 |x::d,c,h=>by
  refine z7 d _ ?_;unfold ED
  split
  ·exact h
  ·rename_i g;rw[je];refine⟨h,by simp,λa i b f=>?_⟩;rw[zj] at f;subst f;intro e;subst e;exact g i
theorem Ik:∀(l:List Str),sortedS l=true->(l.map λx=>x.cps.toList).Pairwise (λa b=>¬b<a)
 | [],_=>.nil
 | [x],_=>List.pairwise_singleton _ _
 |x::y::r,h=>by
  have h':risingS x _=true:=h;unfold risingS at h';rw[zC,Bool.not_eq_true',ltCps_eq,decide_eq_false_iff_not] at h';have e:=Ik (y::r) h'.2;rw[zh];refine List.pairwise_cons.mpr ⟨λz d=>?_,e⟩
  rcases zk.mp d with rfl | d
  ·exact h'.1
  ·have:=(List.pairwise_cons.mp e).1 z d
   intro q
   rcases yW h'.1 with c | c
   ·exact this (List.lt_trans q c)
   ·rw[c] at q;exact this q
def cw(d:j.Perm ((l.map S).foldl fX []))(hs:sortedS j=true):j=(kj l).map S:=by
 have e:=vo l [];rw[zY] at e;rw[e] at d
 have f:(j.map λx:Str=>x.cps.toList)=kj l:=by
  have c:(j.map λx:Str=>x.cps.toList).Perm (l.foldl ED []):=by
   refine(d.map _).trans ?_;rw[zL];rw[show((λx:Str=>x.cps.toList) ∘ S)=id from funext λa=>iB a,List.map_id]
  have g:=c.nodup_iff.mpr (z7 l [] .nil)
  refine Ij _ _ ?_ (yZ l) λx=>?_
  ·refine(List.Pairwise.and (Ik j hs) g).imp λ{a b} h=>?_
   rcases yW h.1 with q | q
   ·exact q
   ·exact absurd q h.2
  ·rw[vm,c.mem_iff,vp];simp
 have i:∀x:Str,S x.cps.toList=x:=λx=>by cases x;simp[S]
 rw[<-f,zL]
 conv=>lhs;rw[<-List.map_id j]
 exact ja λx _=>(i x).symm
section
variable {X:Cx}
def C5.drew{X:Cx}{a:List (Addr×Obj)}{σ:St}{H:Hp}{s:Shared}{d:Drawn}(I:C5 X a σ H s):C5 X a σ H {s with drawn:=d}:=⟨I.ok,I.os,I.bare,I.base,I.loc,I.cell,I.free,I.Pw,I.pin,I.Pm,I.len⟩
theorem Il:∀{d:List Str}{c:List Value},aJ (d.map V.str) c->StrsAre c d
 | [],_,h=>by cases h;exact .nil
 |x::d,_,h=>by
  cases h with
  |cons a b =>
   obtain⟨t,rfl⟩:=a;exact .cons x t (Il b)
theorem Im:∀{b:List Str}{a:List Value},StrsAre a b->aJ (b.map V.str) a
 | _,_,.nil=>.nil
 | _,_,.cons x t h=>.cons ⟨t,rfl⟩ (Im h)
def cx(P:Program)(w:World)(K:Frag):List V->Hp->VK->Prop:=λc H Q=>∃(a:Addr)(b:List Str),c=[.ref a]/\Ee K H a (b.map V.str)/\b.length<4000/\∀l,H l=none->Q (.ref l) (DB H l (.ext λh=>cY P w h l (b.foldl fX [])))
def cy(m:X.calm=true):gj X (.type "set") (cx X.prog X.w X.K):=by
 intro d s σ H t v Q I r h;obtain⟨a,y,rfl,l,A,q⟩:=h;obtain⟨u,rfl,f⟩:=DT r;cases f;obtain⟨p,b,j,z⟩:=I.list l
 have e :=by have:=b.length;rw[ze] at this;exact this.symm
 refine bp (I.ok.hd m) j.isList (Il b) (by rw[zK];unfold scanBound;omega) λn tk c k=>?_
 refine⟨.ref _,_,I.laid k (zc _) (show cC _ _ _ n _ (.ext _) from⟨c,?_,λC B i g=>cY.at i g⟩),rfl,q _ (I.Pm.fresh (zc _))⟩;obtain⟨o,_,_,_,x⟩:=c;exact⟨o,x.1⟩
def cE(P:Program)(w:World):List V->Hp->VK->Prop:=λd H Q=>∃(a:Addr)(c:List Str),d=[.ref a]/\H a=some (.ext λh=>cY P w h a c)/\c≠[]/\c.length<64/\∀l b,b.Perm c->sortedS b=true->H l=none->Q (.ref l) (DB H l (.lst (b.map V.str)))
def cK(p:X.calm=true):gj X (.builtin "sorted") (cE X.prog X.w):=by
 intro m s σ H A B Q I r h;obtain⟨a,C,rfl,t,g,j,q⟩:=h;obtain⟨u,rfl,o⟩:=DT r;cases o;have v :=(I.Pm a _ t).1
 refine cq (I.ok.hd p) v g j λn D c d b k z y hD i e l hs=>?_
 obtain⟨x⟩:=n;subst z;subst y
 have f:(b.map V.str).length<=sizeLine:=by rw[ze,l.length_eq,sizeLine_eq];omega
 exact⟨.ref D,_,(I.laid k hD (show cC _ _ _ x _ (.lst _) from⟨f,d,c,Im e,i⟩)).drew,rfl,q _ _ l hs (I.Pm.fresh hD)⟩
def PV:List D->Option (List (List Nat))
 | []=>some []
 | .str l::ds=>(PV ds).map (l :: ·)
 | _=>none
def vq(d:D):Option D:=match d with
 | .lst ds=>match PV ds with
  |some l=>if l.length<4000/\l≠[]/\(l.foldl ED []).length<64 then some (.lst ((kj l).map .str)) else none
  |none=>none
 | _=>none
def vz:List D->Option D
 | [d]=>vq d
 | _=>none
theorem Rps.PV{K:Frag}{F:Hp}{g:List Addr}:∀{b:List D}{a:List V}{l:List (List Nat)},Rps K F g a b->L2.PV b=some l->a=(l.map S).map V.str
 | [],a,l,h,e=>by cases e;exact h
 |d::b,a,l,h,e=>by
  obtain⟨x,i,rfl,f,c⟩:=h.un
  cases d with
  |str t =>
   unfold L2.PV at e
   cases q:L2.PV b with
   |none=>rw[q] at e;cases e
   |some =>
    rw[q] at e;cases e;rw[Rps.PV c q];rw[f];rfl
  | _=>cases e
theorem Rps.ofStrs{K:Frag}{F:Hp}{a:List Addr}:∀l:List (List Nat),Rps K F a ((l.map S).map V.str) (l.map D.str)
 | []=>Rps.nil
 |x::l=>Rps.cons (show Rp K F a (V.str (S x)) (.str x) from rfl) (Rps.ofStrs l)
variable {md:List Md}{P:Pt}
def cS{Z R o i:Pos} (t:X.calm=true)(I:X.mg "sorted" = none)(G:X.mg "set" = none)(ha:AE X md P ms [e] ma)(L:Gl X "sorted":=by rfl)(K:Gl X "set":=by rfl)
  (he:SW X.env e []:=by exact bT rfl) (C:SY X.env i []:=by exact cF rfl)
  (m:starEach [Expr.Call (.Name "set" o) [e] [] i] X.env=(false,eval (Expr.Call (.Name "set" o) [e] [] i) X.env)::starEach [] X.env:=by exact bT rfl) (n:SY X.env R []:=by exact cF rfl):
  OE X md P (.Call (.Name "sorted" Z) [.Call (.Name "set" o) [e] [] i] [] R) (aO vz ma):=by
 have J:PE X (.Call (.Name "set" o) [e] [] i) _:=ux (cy t) K G (by decide +kernel) ha (by decide) (by decide) he C
 refine(xR (cK t) L I (by decide +kernel) (dZ J fK m) (by decide) (by decide) m n).imp λσ H Q q=>?_
 obtain⟨ρ,O,F,as,d,O',r,s,e,k⟩:=q;obtain⟨ds,O1,e1,e⟩:=C8.Pi e;split at e
 ·rename_i y g;cases e;refine⟨ρ,_,F,as,_,_,r,s,e1,λvs H1 F1 N U u hv=>?_⟩;have j:=hv.lks u
  generalize hds:ds.map (aZ O')=es at g j
  unfold vz at g;split at g
  ·rename_i d0;obtain⟨v,rfl,B⟩:=j.one;unfold vq at g;split at g
   ·rename_i ds0;split at g
    ·rename_i l hl;split at g
     ·rename_i f;cases g;obtain⟨p,xs,rfl,h1,h2⟩:=B.list u.fh;have A:=Rps.PV h2 hl;subst A;refine⟨p,l.map S,rfl,h1.sq,by rw[ze];exact f.1,λa w=>?_⟩
      have E:(l.map S).foldl fX []≠[]:=λz=>by
       have h:=vo l [];rw[zY,z] at h
       cases hq:l.foldl ED [] with
       |nil =>
        cases l with
        |nil=>exact f.2.1 rfl
        |cons x T =>
         have:=(vp x (x::T) []).mpr (.inr zd)
         rw[hq] at this;cases this
       |cons x T=>rw[hq] at h;cases h
      refine⟨a,_,rfl,bG,E,?_,λb ss' hp hs hB=>?_⟩
      ·have h:=vo l [];rw[zY] at h;rw[h,ze];exact f.2.2
      ·rw[cw hp hs];refine oZ (u.lay w) (λW H' F' g' Y hw=>k W H' F' N (U.trans ((Gr.lay w).trans g')) Y (gQ _ _ _ _ _ _ _ (λc t=>?_) hw)) hB (Rps.ofStrs _);refine U.dm c ?_
       rcases Decidable.em (c=a) with z | z
       ·rw[z];exact w
       ·rwa [aH z] at t
     ·cases g
    ·cases g
   ·cases g
  ·cases g
 ·cases e
end
structure c6(mg:Str->Option Value):Prop extends ZZ mg where
 set_:mg "set" = none
def rN(a m:M D):MS:=λρ O=>match a ρ O with
 | .ok (.ob n) O1=>match O1[n]? with
  |some (.ml _)=>match m ρ O1 with
   | .ok d O2=>match O2[n]?,aZ O2 d with
    |some (.ml ds),.lst es=>if ds.length+es.length<=1000000 then .nx ρ (O2.set n (.ml (ds++es))) else .no
    | _,_=>.no
   | _=>.no
  | _=>.no
 | _=>.no
def c8{R:RR} {f c t:Pos} (ho:VE X md P o mo)(h:SE X md P e m)
  (p:attributeBase o "extend" X.env (eval o X.env)=eval o X.env:=by rfl)
  (u:((backTo c (starEach [e] X.env)).all (λx=>!x.1)&&(backToKw c (keywordEach [] X.env)).all (λx=>x.1.isSome)&&decide ([e].length+([]:List Keyword).length+(if([]:List Keyword).isEmpty then 0 else 1)<30))=true:=by rfl)
  (l:(f.endLine == c.line)=true:=by rfl) (hs:SW X.env e []:=by exact bT rfl) (g:SY X.env c []:=by exact cF rfl)
  (E:swapsWith (.Call (.Attribute o "extend" f) [e] [] c) none t.line X.env=pure false:=by rfl):
  VS X md P R (.Expr (.Call (.Attribute o "extend" f) [e] [] c) t) (rN mo m):=
 (oM (lu PySem.F.plainAttrs_list PySem.F.slot_list_extend PySem.F.type_list_extend Hx ho (dZ h fK hs) p u l hs g) E).imp λD σ H q=>by
  obtain⟨ρ,O,F,as,r,s,k⟩:=q;unfold rN at k;split at k
  ·rename_i n O1 e1;split at k
   ·rename_i ds0 e2;split at k
    ·rename_i d O2 e3;split at k
     ·rename_i ds es e4 e5;split at k
      ·rename_i hz;refine⟨ρ,O,F,as,_,_,r,s,e1,λv H1 F1 G A Q hv=>?_⟩;obtain⟨a,rfl,U⟩:=Rp.Qo hv;obtain⟨C,Z,x2⟩:=Q.ml U e2;refine⟨.inl ⟨rfl,C,.inl (.inl Z)⟩,ρ,O1,F1,G,d,O2,Q,s.step A,e3,λy Y B j z w hy=>?_⟩;have i:=z.at_ n a U;obtain⟨L,K,J⟩:=w.ml i e4;have T:=Sv.lk hy w;rw[e5] at T;obtain⟨b,I,rfl,w1,N⟩:=T.list w.fh;have W:Gr Y B j (DB Y a (.lst (L++I))) B j:=rH (zP i) K;exact⟨a,b,L,I,rfl,rfl,K,w1,by rw[J.length,N.length];exact fQ hz,k σ _ B j ((A.trans z).trans W).toS (w.SK i (Rps.append N J)) (s.step ((A.trans z).trans W))⟩
      ·exact False.elim k
     ·exact False.elim k
    ·exact False.elim k
   ·exact False.elim k
  ·exact False.elim k
def jD(n L:Nat)(g:MG)(t:M Bool)(m:M D):Nat->aN->au->List D->C8 (List D)
 | 0,ρ,O,acc=>match O[n]? with
  |some (.ml es)=>if es.length=L then .ok acc O else .no
  | _=>.no
 |k+1,ρ,O,acc=>match O[n]? with
  |some (.ml es)=>match es[L - (k+1)]? with
   |some d=>match g d ρ with
    |none=>.no
    |some a=>match t a O with
     | .ok true O1=>match m a O1 with
      | .ok y O2=>jD n L g t m k a O2 (acc++[y])
      | _=>.no
     | .ok false O1=>jD n L g t m k a O1 acc
     | _=>.no
   |none=>.no
  | _=>.no
def pI(m:M D)(own:Nat)(a:List Nat)(g:MG)(t:M Bool)(e:M D):M D:=λρ O=>(m ρ O).bind λd b=>match d with
 | .ob n=>match b[n]? with
  |some (.ml ds)=>if ds.length<=1000000 then(jD n ds.length g t e ds.length (eY own a ρ) b []).bind λc f=>.ok (.lst c) f else .no
  | _=>.no
 | _=>.no
def c9{K:Frag} (hcap:∀j∈PM,j<md.length) (q:tM K mg md P (rO K) (pI m own.length PM g t e) σ H Q):
  uH (Ez K (tM K mg md P (rV K) m)) own PM (LL K mg (EU own.length PM md) g) (LJ K mg (EU own.length PM md) t) (xM K mg (EU own.length PM md) (rV K) e) σ H Q:=by
 obtain⟨ρ,O,F,as,d,OZ,r,s,l,k⟩:=q;obtain⟨d1,O1,e1,l⟩:=C8.Pi l;split at l
 ·rename_i n;split at l
  ·rename_i f e2;split at l
   ·rename_i hz;obtain⟨yf,O2,e3,l⟩:=C8.Pi l;cases l;refine⟨ρ,_,F,as,_,_,r,s,e1,λv H1 F1 G g1 r1 hv=>?_⟩;obtain⟨a,rfl,ha⟩:=Rp.Qo hv;obtain⟨xs0,x1,x2⟩:=r1.ml ha e2;have sb:=Hc (own:=own) (s.step g1) hcap
    refine⟨a,rfl,⟨xs0,.inl (.inl x1)⟩,λi k L X U=>k=f.length - i/\i<=f.length/\∃A J u b c,Gr H1 F1 G U u b/\DD K mg J U u b/\DV K (EU own.length PM md) (Pt.all H1) A X U u b/\Rps K u b L c/\c.length<=i /\
     jD n f.length g t e (f.length - i) A J c=.ok yf OZ,⟨f.length,by simp,Nat.zero_le _,eY own.length PM ρ,O1,F1,G,[],Gr.refl,r1,sb,Rps.nil,zc _,by rw[Nat.sub_zero];exact e3⟩,?_⟩
    rintro i kk L X U ⟨rfl,hi,A,J,u,b,c,g',r',s',hy,hl,ec⟩;have ha':=g'.at_ n a ha
    by_cases hlt:i<f.length
    ·rw[show f.length - i=(f.length - (i+1))+1 by omega] at ec;unfold jD at ec;split at ec
     ·rename_i es ee;obtain⟨N,y1,y2⟩:=r'.ml ha' ee;rw[show f.length - (f.length - (i+1)+1)=i by omega] at ec;split at ec
      ·rename_i d' ed;obtain⟨x,hx,rx⟩:=y2.get' ed;have hsq:Ee K U a N:=.inl (.inl y1)
       refine .inr ⟨⟨N,x,hsq,hx⟩,?_,λL W H2=>∃Y O3 F2 B w,Gr H1 F1 G H2 F2 B/\DD K mg O3 H2 F2 B/\DV K (EU own.length PM md) (Pt.all H1) Y W H2 F2 B/\Rps K F2 B L w/\w.length<=i+1 /\
        jD n f.length g t e (f.length - (i+1)) Y O3 w=.ok yf OZ,λys2 W H2 h2=>⟨f.length - (i+1),by omega,rfl,hlt,h2⟩,λx' H3 y=>?_⟩
       ·rw[hy.length]
        have:=fQ hz
        omega
       obtain⟨rfl,hyy⟩:=y;have Z:=hyy N hsq;rw[hx] at Z;cases Z;split at ec
       ·cases ec
       ·rename_i h eg;refine⟨_,A,J,u,b,d',h,r',s',rx,eg,λσ4 R=>?_⟩;split at ec
        ·rename_i T et;refine⟨_,h,J,u,b,true,T,r',R,et,λH5 F5 E C r5=>?_⟩;dsimp only;rw[if_pos rfl];split at ec
         ·rename_i yd O6 em;refine⟨_,h,T,F5,E,yd,O6,r5,R.step C,em,λvy H7 F7 as7 g7 r7 hvy=>?_⟩;exact⟨h,O6,F7,as7,c++[yd],(g'.trans C).trans g7,r7,(R.step C).step g7,((hy.gr C).gr g7).snoc hvy,by rw[zg];show c.length+1<=i+1;omega,ec⟩
         ·cases ec
        ·rename_i T et;refine⟨_,h,J,u,b,false,T,r',R,et,λH5 F5 E C r5=>?_⟩;dsimp only;rw[if_neg zA];exact⟨h,T,F5,E,c,g'.trans C,r5,R.step C,hy.gr C,by omega,ec⟩
        ·cases ec
      ·cases ec
     ·cases ec
    ·have hi':i=f.length:=by omega
     subst hi';rw[Nat.sub_self] at ec;unfold jD at ec;split at ec
     ·rename_i es ee;split at ec
      ·rename_i hle;cases ec;obtain⟨N,y1,y2⟩:=r'.ml ha' ee;refine .inl ⟨⟨N,.inl (.inl y1),by rw[y2.length,hle];exact zc _⟩,?_,λp I=>?_⟩
       ·rw[hy.length];exact zJ hl (fQ hz)
       ·have hF:u p=none:=by
         cases q:u p with
         |none=>rfl
         |some o=>rw[r'.fh p o q] at I;cases I
        exact k _ _ u b ((g1.trans g').trans (Gr.lay I)) (r'.lay I) (.inr ⟨p,L,yf,rfl,rfl,bG,hF,λz=>r'.all z I,(g1.trans g').dm p I,hy⟩)
      ·cases ec
     ·cases ec
   ·cases l
  ·cases l
 ·cases l
def Io{h:Pos}(c:Scope)(d own:List Str)(a:List Nat)(r:X.calm=true)(n:VE X v P u mi)
  (o:∀C s H b P,VG (bQ X scope C (bN d own a) s H b) (EU own.length a v) P z g) (m:∀C s H b P,VIf (bQ X scope C (bN d own a) s H b) (EU own.length a v) P w t)
  (p:∀C s H b P,VE (bQ X scope C (bN d own a) s H b) (EU own.length a v) P y e)
  (f:∀j∈a,j<v.length:=by decide) (i:X.env.scope=c:=by rfl) (k:X.N=d:=by rfl) (l:lC c d scope own a=true:=by decide +kernel) (hs:∀x,foldedSetIterable u X.env x=pure x:=by intro _;rfl):
  OE X v P (.ListComp y [⟨z,u,w,0⟩] scope h) (pI mi own.length a g t e):=
 (Gv c d own a r (xB n) (λC s H b=>K0 (o C s H b)) (λC s H b=>KW (m C s H b)) (λC s H b=>xm (p C s H b)) i k l hs).imp λ_ _ _ q=>c9 f q
def M0(m:MS):MS:=λρ O=>match m ρ O with
 | .ex _ _=>.no
 |f=>f
section
open PySem.Builtin PySem.Builtin.ObjectAttr PySem.Builtin.Getset_descriptor
def HX(a C:Addr)(h:Heap):Prop:=∃o,h.get? a=some o/\o.cls=.ref C
end
section
open PySem.Builtin PySem.Builtin.ObjectAttr
def z5(K:Frag)(C:Addr)(b:List Value)(a:String)(c:Addr):Bool:=match K.lookup C with
 |some ⟨.type "type",_,.cls cd,sl⟩=>(match cd.mro,sl.toList with
  | .ref C'::bm,[_,_,_,_,some (.builtin n),_]=>C' == C&&n == a && !cd.hasDel&&tailIn K b bm&&nsOkIn K cd.ns&&nsIn K cd.ns "__init__" == some (some (.ref c))&&cd.hasDict
  | _,_=>false)
 | _=>false
end
section
variable {X:Cx}{md:List Md}{P:Pt}{R:RR}
def da:V->List V->Hp->VK->Prop:=λx a H Q=>∃(l n:List Nat)(i:Nat)(r:List Nat),x=.str (S l)/\a=[.str (S n)]/\Builtin.Str.occurrences (S l) (S n) 0 (S l).length 1=i::r/\Q (.int (i:Int)) H
def dd:JU X "str.index" da:=by
 intro c s σ H x j v k Q I d f h;obtain⟨l,n,i,r,rfl,rfl,g,q⟩:=h;obtain⟨a,rfl⟩:=d;obtain⟨u,rfl,e⟩:=DT f;obtain⟨b,rfl⟩:=e;exact SC.index g ⟨.int _,H,I.tok _,⟨_,rfl⟩,q⟩
def pJ(c m:M D):M D:=λρ O=>(c ρ O).bind λa e=>(m ρ e).bind λb d=>match a,b with
 | .str l,.str n=>match Builtin.Str.occurrences (S l) (S n) 0 (S l).length 1 with
  |i::_=>.ok (.int (i:Int)) d
  | []=>.no
 | _,_=>.no
def de{f c:Pos} (B:VE X md P o mo)(h:VE X md P e m)
  (j:attributeBase o "index" X.env (eval o X.env)=eval o X.env:=by rfl) (l:((backTo c (starEach [e] X.env)).all (λx=>!x.1)&&(backToKw c (keywordEach [] X.env)).all (λx=>x.1.isSome)&&decide ([e].length+([]:List Keyword).length+(if([]:List Keyword).isEmpty then 0 else 1)<30))=true:=by rfl)
  (g:(f.endLine == c.line)=true:=by rfl) (hs:SW X.env e []:=by exact bT rfl) (n:SY X.env c []:=by exact cF rfl):
  OE X md P (.Call (.Attribute o "index" f) [e] [] c) (pJ mo m):=
 (lu PySem.F.plainAttrs_str PySem.F.slot_str_index PySem.F.type_str_index dd B (dZ h fK hs) j l g hs).imp λσ H Q q=>by
  obtain⟨ρ,O,F,J,d,Z,r,s,e,k⟩:=q;obtain⟨a,Y,I,e⟩:=C8.Pi e;obtain⟨b,W,G,e⟩:=C8.Pi e;split at e
  ·split at e
   ·rename_i i U E;cases e;refine⟨ρ,_,F,J,_,_,r,s,I,λv H1 N p t y z=>?_⟩;cases Rp.PZ z;refine⟨rfl,ρ,_,N,p,_,_,y,s.step t,G,λu K L T C w A=>?_⟩;cases Rp.PZ A;exact⟨_,_,_,_,rfl,rfl,E,k _ K L _ (t.trans C) w (.inl ⟨rfl,Rp.int⟩)⟩
   ·cases e
  ·cases e
end
abbrev KN(K:Frag)(H:Hp):List (NK×V)->List (NK×Addr×Value)->Prop:=Paired λp q=>p.1=q.1/\GH K H p.1 q.2.1/\C6 p.2 q.2.2
def KN.val{K:Frag} (r:KN K H kvs xs)(k:NK):dJ (dw kvs k) ((atKey xs k).map (·.2)):=by
 induction r with
 |nil=>exact True.intro
 | @cons p q ps qs h t ih =>
  obtain⟨a,_,c⟩:=h
  by_cases e:p.1=k
  ·have e' :=a.symm.trans e
   have b:atKey (q::qs) k=some q.2:=by simp[atKey,e']
   rw[oR e,b];exact c
  ·have e':¬q.1=k:=λz=>e (a.trans z)
   have b:atKey (q::qs) k=atKey qs k:=by simp[atKey,e']
   rw[oU e,b];exact ih
def KN.P7{K:Frag} (r:KN K H kvs xs)(k:NK) (d:C6 y u):
  KN K H (kvs.map λb=>if b.1=k then(b.1,y) else b) (xs.map (putAt k u)):=by
 induction r with
 |nil=>exact .nil
 | @cons p q ps qs h t ih =>
  rw[zh];refine .cons ?_ ih;obtain⟨a,c,f⟩:=h;unfold putAt
  by_cases e:p.1=k
  ·rw[if_pos e,if_pos (a.symm.trans e)];exact⟨a,c,d⟩
  ·rw[if_neg e,if_neg λz=>e (a.trans z)];exact⟨a,c,f⟩
def KN.put{K:Frag} (r:KN K H f g)(k:NK) (d:GH K H k b)(a:C6 y u):
  KN K H (D0 f k y) (storedH g k b u):=by
 have e:(f.any λc=>decide (c.1=k))=(atKey g k).isSome:=by
  rw[xX,(r.val k).PU,Option.isSome_map]
 unfold D0 storedH;rw[e]
 by_cases q:(atKey g k).isSome=true
 ·rw[if_pos q,if_pos q];exact r.P7 k a
 ·rw[if_neg q,if_neg q];exact Paired.snoc r ⟨rfl,d,a⟩
def KN.keeps{K:Frag} (r:KN K H d e)(c:∀b a,H b=some (.tup a)->f b=some (.tup a)):KN K f d e :=
 Paired.QX r λ_ _ z=>⟨z.1,z.2.1.mono c,z.2.2⟩
def Aa{K:Frag} (i:EI P w H h)(f:K.In h)(e:GH K H k a):(oK P w).is h k a:=by
 obtain⟨c,E,d⟩:=e;obtain⟨_,F,r,o,C,B,n,A⟩:=(i a _ E);have r' :=r
 cases r' with
 | @cons _ u _ us r1 r2 =>
  cases r2 with
  | @cons _ u2 _ us2 r3 r4 =>
   cases r4;obtain rfl :=r3;refine⟨o,_,n,u,c,C,B,A,by simp,oV r1,?_⟩
   rcases d with d | ⟨p,g,t,z,y,l3,G,x⟩
   ·obtain⟨_,b,q,s,m,l,v,j⟩:=(i c _ d);exact⟨s,b.toArray,v,m,l,j,by simpa using uB q⟩
   ·exact⟨p,g,t,f _ _ z,y,l3,uB x⟩
def Ab{K:Frag} (f:EI P w H h)(d:K.In h)(e:Rd H a (.dN K v)):v.length<=sizeLine/\(a == sysModules)=false /\
  ∃c,KN K H v c/\h.DictOfH (oK P w) a c:=by
 obtain⟨z,y,c,r,o,s,u,n,k,j,i,g⟩:=(xY f e);refine⟨z,y,c,r,o,s,u,n,k,j,i,λx b=>?_,g⟩
 have all:∀{l}{m},KN K H l m->∀x∈m,(oK P w).is h x.1 x.2.1:=by
  intro l m q
  induction q with
  |nil=>intro x b;exact nomatch b
  | @cons p q ps qs hq t ih =>
   intro x b
   rcases zk.mp b with e | b
   ·subst e;exact Aa f d (by rw[<-hq.1];exact hq.2.1)
   ·exact ih x b
 exact all r x b
def Ip{A:Around}(a:A.units+6<cLine):(oK P w).room A.in1:=by
 show A.units+1+4<cLine;omega
def n6(a:aY k A):A.units+6<cLine:=Nat.lt_of_le_of_lt (Nat.add_le_add_left (by decide) _) a.units
def Ac(K:Frag)(H:Hp)(a:Addr)(y:V)(r:Option V):Prop:=∃c k b,Rd H a (.dN K c)/\y=.ref b/\GH K H k b/\r=dw c k
def di{σ:St} (o:A.units+6<cLine)(I:C5 X G σ H s)(g:Ac X.K H a y (some v))(m:C6 y u)(h:∀c j,C5 X G σ H j->C6 v c->Q c j):
  wpAny (model X.prog X.w) A (getItem (.ref a) u) Q E s:=by
 obtain⟨B,k,b,e,r,t,l⟩:=g;subst r;cases(m);obtain⟨z,F,C,f,x⟩:=Ab I.Pm I.PR e;obtain⟨c,n,d⟩:=dJ.some_of (by rw[l];exact f.val k);obtain⟨p,q,i⟩:=js.mp n;refine wpAny_getItem_heap (Ip o) (Aa I.Pm I.PR t) x q ?_;rw[i];exact h c _ (I.tok _) d
def dv{σ:St}(I:C5 X j σ H s)(g:Ac X.K H a y o):∃c,s.heap.get? a=some c/\c.cls=.type "dict":=by
 obtain⟨h,k,b,e,l⟩:=g;obtain⟨_,_,i,_,c,_,_,f,d,_⟩:=Ab I.Pm I.PR e;exact⟨c,f,d.1⟩
def dA{σ:St} (p:A.units+6<cLine)(I:C5 X R σ H s)(e:H a=some (.dN X.K P))(m:GH X.K H k b)(l:P.length<sizeLine)(o:C6 v r)(h:∀g,C5 X R σ (DB H a (.dN X.K (D0 P k v))) g->Q () g):
  wpAny (model X.prog X.w) A (setItem (.ref a) (.ref b) r) Q E s:=by
 obtain⟨z,u,n,d,J⟩:=Ab I.Pm I.PR (.inl e)
 have N:n.length<=sizeLine:=by rw[<-Paired.length d];exact z
 have t:(D0 P k v).length<=sizeLine:=by have:=uA P k v;omega
 refine wpAny_setItem_heap (Ip p) (Aa I.Pm I.PR m) J λO f hs=>h _ ?_
 obtain⟨q,F,G,i,C,B,y,_,x⟩:=f;refine xZ I (by rw[e];exact True.intro) hs ⟨q,i⟩ ⟨t,u,_,(d.put k m o).keeps λc L j=>?_,q,F,G,i,C,B,y,x⟩;rw[aH (IB j e λz=>nomatch z)];exact j
def dE(K:Frag)(d c:TE):TE:=λσ H Q=>d σ H λx e=>c σ e λy b=>∃a v,x=.ref a/\Ac K b a y (some v)/\Q v b
def dP(K:Frag)(g e f:TE):TS:=λD σ H=>f σ H λv i=>g σ i λx h=>e σ h λy d=>∃a c k b,x=.ref a/\y=.ref b/\d a=some (.dN K c)/\GH K d k b/\c.length<sizeLine/\D.nx σ (DB d a (.dN K (D0 c k v)))
def dQ(K:Frag):TE:=λ_ H Q=>∀p,H p=none->Q (.ref p) (DB H p (.dN K []))
def dS(d:X.A.units+6<cLine)(e:PE X o n)(f:PE X i m)(hs:ye i):PE X (.Subscript o i p) (dE X.K n m):=by
 intro c s σ H Q I h;refine Gk PySem.F.slot_dict_getitem.lookup hs (thn (e _ s σ H _ I h) λu s1 ⟨x,H1,I1,rx,q1⟩=>thn (f _ s1 σ H1 _ I1 q1) λiv s2 ⟨y,H2,I2,ry,a,v,ex,g,q2⟩=>?_);subst ex;obtain rfl :=rx;exact⟨dv I2 g,di d I2 g ry λk l j b=>⟨v,H2,j,b,q2⟩⟩
def d4(f:X.A.units+6<cLine)(g:PE X o B)(j:PE X i w)(d:PE X p z)(hs:swapsWith p (some (.Subscript o i q)) t.line X.env=pure false):
  PS X (.Assign [.Subscript o i q] p t) (dP X.K B w z):=by
 intro c s σ H D I h;refine wpAny_Assign_Subscript (thn (d _ s σ H _ I h) λr s1 ⟨v,H1,I1,rv,q1⟩=>thn (g _ s1 σ H1 _ I1 q1) λu s2 ⟨x,H2,I2,rx,q2⟩=>thn (j _ s2 σ H2 _ I2 q2) λiv s3 ⟨y,H3,I3,ry,a,kvs,k,b,ex,ey,e,eb,l,q3⟩=>?_) hs;subst ex ey;obtain rfl :=rx;obtain rfl :=ry
 exact dA f I3 e eb l rv λn m=>⟨σ,_,m,q3⟩
def d5:PE X (.Dict [] [] a) (dQ X.K):=λpins s σ H Q I h =>
 wpAny_Dict_empty ⟨.ref _,_,I.laid (o:=.dN _ []) (λ_ _ q=>zq _ q) (zc _)
  (⟨Nat.zero_le _,beq_eq_false_iff_ne.mpr (Ne.symm (zt I.big)),[],.nil,_,#[],0,zD _ rfl,⟨rfl,rfl,rfl⟩,rfl,rfl,List.nodup_nil⟩),rfl,h _ (I.Pm.fresh (zc _))⟩
section
variable {X:Cx}{pins:List (Addr×Obj)}{σ:List (Option V)}{H:Hp}{s:Shared}{a:Addr}{xs:List (NK×V)}{o:Obj}
def C5.QW(I:C5 X pins σ H s)(e:H a=some (.dN X.K xs)):∀o u,X.H₀ a≠some (.Pp o u):=λo u z=>by
 have:=I.base.P5 a o u z
 rw[e] at this;cases this
def C5.Rl(I:C5 X pins σ H s)(e:H a=some (.dN X.K xs)):∃o,s.heap.get? a=some o/\C5 X pins σ (DB H a (.Pp o (.dN X.K xs))) s:=by
 have b:=I.Pm a _ e
 obtain⟨o,d⟩:∃u,s.heap.get? a=some u:=by
  obtain⟨_,_,_,_,_,_,_,z,_⟩:=b;exact⟨_,z⟩
 refine⟨o,d,I.QY (by rw[e];exact λz=>nomatch z) (by rw[e];exact λ_ z=>nomatch z) (by rw[e];exact λ_ z=>nomatch z) (by rw[e];exact λ_ z=>nomatch z) (I.QW e) ⟨d,?_⟩⟩
 exact cC.P6 b (λ_ _ _ z=>z) (λc z=>by rw[aH (λq=>by rw[q,e] at z;cases z)];exact z) λc f z=>by rw[aH (λq=>by rw[q,e] at z;cases z)];exact z
def C5.SG(I:C5 X pins σ H s)(e:H a=some (.Pp o (.dN X.K xs)))(d:∀o u,X.H₀ a≠some (.Pp o u)):C5 X pins σ (DB H a (.dN X.K xs)) s:=by
 obtain⟨g,b⟩:=(show cC X.prog X.w H s.heap a (.Pp o (.dN X.K xs)) from I.Pm a _ e);refine I.QY (by rw[e];exact λz=>nomatch z) (by rw[e];exact λ_ z=>nomatch z) (by rw[e];exact λ_ z=>nomatch z) (by rw[e];exact λ_ z=>nomatch z) d ?_
 exact cC.P6 b (λ_ _ _ z=>z) (λc z=>by rw[aH (λq=>by rw[q,e] at z;cases z)];exact z) λc f z=>by rw[aH (λq=>by rw[q,e] at z;cases z)];exact z
end
def Ir(K:Frag)(a:Addr)(o:Obj):It :=
 ⟨λi H=>∃c:List (NK×V),H a=some (.Pp o (.dN K c))/\i<c.length,
  λi H x d=>d=H/\∀c:List (NK×V),H a=some (.Pp o (.dN K c))->∃b p,x=.ref b/\c[i]?=some p/\GH K H p.1 b,
  λi H=>∃c:List (NK×V),H a=some (.Pp o (.dN K c))/\c.length<=i⟩
def Ad{σ:St} (I:C5 X F σ H s)(e:H a=some (.Pp o (.dN X.K E))):
  s.heap.get? a=some o/\(a == sysModules)=false/\o.ExactDict/\∃c g,o.data=.dict c g/\c.size=E.length/\∀(i:Nat)(h:i<c.size),∃b p,c[i].key=.ref b/\E[i]?=some p/\GH X.K H p.1 b:=by
 obtain⟨m,z,y,d,r,x,c,g,l,v,u,k,C⟩:=(I.Pm a _ e);rw[m] at l;cases l
 have B:c.size=d.length:=by rw[<-Array.length_toList,k,ze]
 have A :=r.length;refine⟨m,y,v,c,g,u,by omega,λi q=>?_⟩
 have n:i<d.length:=by omega
 have j:i<E.length:=by omega
 have f:c.toList[i]?=some (entryOfKey (oK X.prog X.w) d[i]):=by rw[k,zH,zB];rfl
 rw[Array.getElem?_toList,Array.getElem?_eq_getElem q] at f;have t:=ar r (zB j) (zB n);refine⟨d[i].2.1,E[i],?_,zB j,t.2.1⟩
 injection f with f
 rw[f];rfl
def d6{K:Frag} (a it:Addr)(o:Obj)(es:Array DictEntry)(ep:Nat)(hd:o.data=.dict es ep):EO P w K tg (Ir K a o) [it] it (λi h=>h.IsKeyIter it a i es.size ep) where
 mem:=by simp
 obj:=λi h st b hb=>by
  have e:b=it:=by simpa using hb
  subst e;obtain⟨o,e,c,d⟩:=st;exact⟨o,e,λv z=>by rw[d] at z;cases z⟩
 keep:=λi h h' st k=>st.at λo e=>k it (by simp) o e
 item:=by
  intro X hP hw hK hc i pins s σ H E I hf st hg;subst hP hw hK;obtain⟨ys,hq,hlt⟩:=hg;obtain⟨q1,q2,q3,es',ep',q4,q5,q6⟩:=Ad I hq;rw[hd] at q4;cases q4;obtain⟨f0,f1,f2,f3,f4,f5⟩:=hf it (by simp)
  have hi:i<es.size:=by omega
  refine ah st q1 hd rfl hi λh' st' sb=>?_
  have I1:C5 X pins σ H {s with heap:=h'}:=I.turned (t':=s.toks) (λb o hb e=>(sb.2 b hb).trans e) f0 f1 f3 f4 f5;obtain⟨b,p,k1,k2,k3⟩:=q6 i hi;rw[k1];obtain⟨o2,e,c,d⟩:=id st';refine⟨_,rfl,oN (s:={s with heap:=h'}) e c d (by decide) ⟨.ref b,H,I1,rfl,⟨rfl,λzs hz=>?_⟩,st',λb hb=>(hf b hb).1⟩⟩;rw[hq] at hz;cases hz;exact⟨b,p,rfl,k2,k3⟩
 done:=by
  intro X hP hw hK hc i pins s σ H E I hf st hg;subst hP hw hK;obtain⟨ys,hq,hge⟩:=hg;obtain⟨q1,q2,q3,es',ep',q4,q5,q6⟩:=Ad I hq;rw[hd] at q4;cases q4;obtain⟨f0,f1,f2,f3,f4,f5⟩:=hf it (by simp)
  exact ai (I.ok.hd hc) st q1 hd rfl (by omega) λh' eb=>⟨rfl,I.turned (t':=s.toks) (λb o hb e=>eb b o hb e) f0 f1 f3 f4 f5⟩
 self:=λ_ _ _ _ _ st h=>wpAny_pyIter_keyiter st h
def ef(K:Frag)(d:TE):TI:=λσ H R=>d σ H λx c=>∃a b,x=.ref a/\c a=some (.dN K b)/\∀o,R (Ir K a o) (DB c a (.Pp o (.dN K b)))
def eh(m:PE X l y):PI X z l (ef X.K y):=by
 intro g s σ H R I h
 refine thn (m _ s σ H _ I h) λv s1 ⟨x,H1,I1,r1,d⟩=>?_
 obtain⟨a,t,e,k,q⟩:=d;subst e;cases r1;obtain⟨o,w,c⟩:=I1.Rl k;obtain⟨d,j,i,p,r,f,u⟩:=Ad c bG;refine ag j d i f ?_;refine⟨s1.heap.objs.size,[s1.heap.objs.size],_,_,DB H1 a _,rfl,c.kept λb o e=>zq _ e,d6 a _ o p r f,⟨_,zD _ rfl,rfl,rfl⟩,λb n=>?_,q o⟩
 have e :=by simpa using n
 subst e;exact c.Ql (zc _) (c.Pm.fresh (zc _))
def EN(a:List (NK×D))(k:NK):Option D:=(a.find? λp=>decide (p.1=k)).map (·.2)
def FF(a:List (NK×D))(k:NK)(d:D):List (NK×D):=
 if(a.any λp=>decide (p.1=k))=true then a.map (λp=>if p.1=k then(p.1,d) else p) else a++[(k,d)]
def Fh(K:Frag)(F:Hp)(c:List Addr)(b:List (NK×V))(a:List (NK×D)):Prop:=b.map (·.1)=a.map (·.1)/\Rps K F c (b.map (·.2)) (a.map (·.2))
def Fh.len{K:Frag} (h:Fh K F c b a):b.length=a.length:=by
 have:=congrArg List.length h.1
 simpa
def Fh.un{K:Frag} (h:Fh K F as xs (p::kvs)):∃v r,xs=(p.1,v)::r/\Rp K F as v p.2/\Fh K F as r kvs:=by
 obtain⟨a,f⟩:=h
 cases xs with
 |nil=>cases a
 |cons x r =>
  obtain⟨v,g,e,d,c⟩:=f.un;cases e;rw[zh,zh] at a;have b:=(List.cons.inj a).1;refine⟨x.2,r,?_,d,(List.cons.inj a).2,c⟩;rw[<-b]
theorem Fh.val{K:Frag}:∀{a:List (NK×D)}{b:List (NK×V)},Fh K F as b a->(EN a k=none/\dw b k=none)\/∃d v,EN a k=some d/\dw b k=some v/\Rp K F as v d
 | [],b,h=>by
  have:=h.len
  cases b with
  |nil=>exact .inl ⟨rfl,rfl⟩
  |cons=>cases this
 |p::a,b,h=>by
  obtain⟨v,r,rfl,f,c⟩:=h.un
  by_cases e:p.1=k
  ·exact .inr ⟨p.2,v,by simp[EN,e],oR e,f⟩
  ·rw[show EN _ k=EN a k by simp[EN,e],oU e];exact Fh.val c
theorem Fh.any{K:Frag}:∀{a:List (NK×D)}{b:List (NK×V)},Fh K F as b a->(b.any λp=>decide (p.1=k))=a.any λp=>decide (p.1=k)
 | [],b,h=>by
  have:=h.len
  cases b with
  |nil=>rfl
  |cons=>cases this
 |p::a,b,h=>by
  obtain⟨v,r,rfl,d,c⟩:=h.un;rw[List.any_cons,List.any_cons,Fh.any c]
theorem Fh.P7{K:Frag} (g:Rp K F as v d):∀{a:List (NK×D)}{b:List (NK×V)},Fh K F as b a ->
  Fh K F as (b.map λp=>if p.1=k then(p.1,v) else p) (a.map λp=>if p.1=k then(p.1,d) else p)
 | [],b,h=>by
  have:=h.len
  cases b with
  |nil=>exact⟨rfl,Rps.nil⟩
  |cons=>cases this
 |p::a,b,h=>by
  obtain⟨u,r,rfl,j,i⟩:=h.un;obtain⟨f,c⟩:=Fh.P7 g i
  by_cases e:p.1=k
  ·rw[zh,zh,if_pos e,if_pos e];exact⟨by rw[zh,zh,f],Rps.cons g c⟩
  ·rw[zh,zh,if_neg e,if_neg e];exact⟨by rw[zh,zh,f],Rps.cons j c⟩
def Fh.put{K:Frag} (h:Fh K F c e b)(k:NK) (a:Rp K F c v d):Fh K F c (D0 e k v) (FF b k d):=by
 unfold D0 FF;rw[h.any]
 split
 ·exact h.P7 a
 ·exact⟨by rw[zI,zI,h.1];rfl,by rw[zI,zI];exact Rps.snoc h.2 a⟩
def DD.dn{K:Frag}{n:Nat} (r:DD K g O H F f)(c:f[n]?=some a)(d:O[n]?=some (.dn e)):∃b,H a=some (.dN K b)/\Fh K F f b e:=let ⟨b,h1,h2,h3⟩:=r.ob n a _ c d;⟨b,h1,h2,h3⟩
def DD.nf{K:Frag}{n:Nat} (r:DD K g O H F f)(c:f[n]?=some a)(d:O[n]?=some (.nf e)):∃o b,H a=some (.Pp o (.dN K b))/\Fh K F f b e:=let ⟨o,b,h1,h2,h3⟩:=r.ob n a _ c d;⟨o,b,h1,h2,h3⟩
def vA:List D->Option (List DC)
 | []=>some []
 | .int i::ds=>(vA ds).map (Sum.inl i :: ·)
 | .str l::ds=>(vA ds).map (Sum.inr (S l) :: ·)
 | _=>none
def rP:D->Option NK
 | .tup [.int i,.tup ds]=>(vA ds).map λa=>(i,a)
 | _=>none
theorem Rps.Q2{K:Frag}{F:Hp}{k:List Addr}:∀{c:List D}{a:List V}{b:List DC},Rps K F k a c->vA c=some b->a=b.map kV
 | [],a,b,h,e=>by cases e;exact h.QL
 | .int i::c,a,b,h,e=>by
  obtain⟨x,r,rfl,f,d⟩:=h.un;obtain⟨j,g,rfl⟩:=js.mp (e);rw[f.PD,Rps.Q2 d g];rfl
 | .str l::c,a,b,h,e=>by
  obtain⟨x,r,rfl,f,d⟩:=h.un;obtain⟨j,g,rfl⟩:=js.mp (e);rw[f.PZ,Rps.Q2 d g];rfl
 | .Pl::c,a,b,h,e=>by cases e
 | .bl _::c,a,b,h,e=>by cases e
 | .lst _::c,a,b,h,e=>by cases e
 | .tup _::c,a,b,h,e=>by cases e
 | .QP _ _::c,a,b,h,e=>by cases e
 | .ob _::c,a,b,h,e=>by cases e
def Iu:List Value->Bool
 | [.int _ _,.ref _]=>true
 | _=>false
def lL:Frag->Bool
 | []=>true
 |p::r=>(match p.2.data with
  | .seq its _=>!Iu its.toList
  | _=>true)&&lL r
theorem Iv:∀{K:Frag},lL K=true->List.lookup a K=some o->o.data=.seq its n->Iu its.toList=false
 | [],_,h,_=>by cases h
 |p::r,hk,h,hd=>by
  unfold lL at hk;rw[zC] at hk;rw[List.lookup_cons] at h;split at h
  ·cases h
   have:=hk.1
   rw[hd] at this;simpa
  ·exact Iv hk.2 h hd
def Rp.Si{K:Frag} (p:lL K=true)(h:Rp K F L v d)(e:rP d=some k):∃b,v=.ref b/\GH K F k b:=by
 unfold rP at e;split at e
 ·obtain⟨J,E,rfl⟩:=js.mp e;obtain⟨b,H,rfl,a,B⟩:=h.unT';obtain⟨x,r,rfl,A,z⟩:=B.un;obtain⟨I,g,rfl,y,w⟩:=z.un;obtain rfl:=w.QL;obtain⟨c,G,rfl,i,s⟩:=y.unT';have C:=s.Q2 E;rw[A.PD] at a
  rcases a with a | ⟨o,f,n,m,_,l3,_,l⟩
  ·refine⟨b,rfl,c,a,?_⟩;rw[C] at i;exact i
  ·have q:=Iv p m l3;have l5' :=l
   generalize f.toList=j at q l5'
   cases l5' with
   | @cons _ u _ j r1 g =>
    cases g with
    | @cons _ u2 _ us2 r3 r4 =>
     cases r4;obtain⟨t,rfl⟩ :=r1;obtain rfl :=r3;cases q
 ·cases e
def Ae:M D:=λ_ O=>.ok (.ob O.length) (O++[.dn []])
def ei:VE X g P (.Dict [] [] f) Ae:=d5.imp λσ H Q q p a=>by
 obtain⟨ρ,O,F,b,d,c,r,s,e,k⟩:=q;cases e;refine k _ _ F _ (Gr.snoc a) ((r.lay a).QU (r.unF a) (λz=>r.all z a) ⟨[],bG,rfl,Rps.nil⟩) (Rp.Po ?_);rw[<-r.len,zN (zc _),Nat.sub_self];rfl
def ig(c a b:M D):MS:=λρ O=>match b ρ O with
 | .ok d O1=>match c ρ O1 with
  | .ok (.ob n) O2=>match a ρ O2 with
   | .ok y O3=>match rP y,O3[n]? with
    |some k,some (.dn kvs)=>if kvs.length<1000000 then .nx ρ (O3.set n (.dn (FF kvs k d))) else .no
    | _,_=>.no
   | _=>.no
  | _=>.no
 | _=>.no
def ej(hk:lL X.K=true)(W:aY kk X.A) (Y:VE X md P o mo)(hi:VE X md P i my)(hv:VE X md P value mv)
  (hs:swapsWith value (some (.Subscript o i pos')) pos.line X.env=pure false:=by rfl):VS X md P R (.Assign [.Subscript o i pos'] value pos) (ig mo my mv):=
 (d4 (n6 W) Y hi hv hs).imp λD σ H q=>by
  obtain⟨ρ,O,F,as,r,s,k⟩:=q;unfold ig at k;split at k
  ·rename_i d O1 e1;split at k
   ·rename_i n O2 e2;split at k
    ·rename_i y O3 e3;split at k
     ·rename_i h kvs e4 e5;split at k
      ·rename_i Q;refine⟨ρ,O,F,as,_,_,r,s,e1,λv H1 F1 z m N hv=>⟨ρ,O1,F1,z,_,_,N,s.step m,e2,λx H2 F2 w l L T=>⟨ρ,O2,F2,w,_,_,L,s.step (m.trans l),e3,λu G p as3 j g U=>?_⟩⟩⟩;obtain⟨a,rfl,ha⟩:=Rp.Qo T;have e:=j.at_ n a ha;obtain⟨f,C,B⟩:=g.dn e e5;obtain⟨b,rfl,hb⟩:=Rp.Si hk U e4;have t:=(hv).gr (l.trans j)
       have Z:f.length<sizeLine:=by rw[B.len];exact zM Q (by decide)
       have g4:Gr G p _ (DB G a (.dN X.K (D0 f h v))) p _:=rH (zP e) C;have E:=((m.trans l).trans j).trans g4;obtain⟨J,I⟩:=B.put h t;exact⟨a,f,h,b,rfl,rfl,C,hb.mono λc ys hc=>g.fh _ _ hc,Z,k σ _ p _ E.toS (g.Re e ⟨_,bG,J,I⟩) (s.step E)⟩
      ·exact False.elim k
     ·exact False.elim k
    ·exact False.elim k
   ·exact False.elim k
  ·exact False.elim k
def Lm(n:Nat)(y:D)(O:au):C8 D:=match rP y,O[n]? with
 |some k,some (.nf kvs)=>match EN kvs k with
  |some d=>.ok d O
  |none=>.no
 |some k,some (.dn kvs)=>match EN kvs k with
  |some d=>.ok d O
  |none=>.no
 | _,_=>.no
def fY(b a:M D):M D:=λρ O=>(b ρ O).bind λx d=>match x with
 | .ob n=>(a ρ d).bind λy c=>Lm n y c
 | _=>.no
def ek(hk:lL X.K=true)(hr:aY kk X.A) (ho:VE X md P o mo)(hi:VE X md P i my)(hs:uy i:=by intro _ _;rfl):VE X md P (.Subscript o i pos) (fY mo my):=
 (dS (n6 hr) ho hi hs).imp λσ H Q q=>by
  obtain⟨ρ,O,F,as,d,O',r,s,e,k⟩:=q;obtain⟨x,O1,e1,e⟩:=C8.Pi e
  cases x with
  |ob n =>
   obtain⟨y,O2,e2,e⟩:=C8.Pi e;unfold Lm at e;split at e
   ·rename_i E Y R N;split at e
    ·rename_i d' f;cases e;refine⟨ρ,_,F,as,_,_,r,s,e1,λx H1 W j p C G=>⟨ρ,_,W,j,_,_,C,s.step p,e2,λu T U Z m h I=>?_⟩⟩;obtain⟨a,rfl,L⟩:=Rp.Qo G;obtain⟨o,v,z,w⟩:=h.nf (m.at_ n a L) N;obtain⟨b,rfl,hb⟩:=Rp.Si hk I R
     rcases w.val with⟨g,l⟩ | ⟨d2,B,g,l,t⟩
     ·rw[g] at f;cases f
     ·rw[g] at f;cases f;exact⟨a,B,rfl,⟨v,E,b,.inr ⟨o,z⟩,rfl,hb.mono λc ys J=>h.fh _ _ J,l.symm⟩,k _ T U _ (p.trans m) h t⟩
    ·cases e
   ·rename_i E Y R N;split at e
    ·rename_i d' f;cases e;refine⟨ρ,_,F,as,_,_,r,s,e1,λx H1 W j p C G=>⟨ρ,_,W,j,_,_,C,s.step p,e2,λu T U Z m h I=>?_⟩⟩;obtain⟨a,rfl,L⟩:=Rp.Qo G;obtain⟨v,z,w⟩:=h.dn (m.at_ n a L) N;obtain⟨b,rfl,hb⟩:=Rp.Si hk I R
     rcases w.val with⟨g,l⟩ | ⟨d2,B,g,l,t⟩
     ·rw[g] at f;cases f
     ·rw[g] at f;cases f;exact⟨a,B,rfl,⟨v,E,b,.inl z,rfl,hb.mono λc ys J=>h.fh _ _ J,l.symm⟩,k _ T U _ (p.trans m) h t⟩
    ·cases e
   ·cases e
  | _=>cases e
def Iw{K:Frag} (a:H b=some (.tup xs))(hs:∃O,DD K mg O H F as):∃c,Gr H F as H c as/\(∀O,DD K mg O H F as->DD K mg O H c as)/\c b=some (.tup xs):=by
 cases hF:F b with
 |some u =>
  obtain⟨e,d⟩:=hs
  have:=d.fh b u hF
  rw[a] at this;cases this;exact⟨F,Gr.refl,λ_ r=>r,hF⟩
 |none=>exact⟨DB F b (.tup xs),Gr.tupF a hF,λ_ r=>r.Pp a hF (r.noT a) rfl,bG⟩
def Iz(p:NK×D):D:=.tup [.int p.1.1,.tup (p.1.2.map uK)]
def pK(m:M D):M (List D):=λρ O=>(m ρ O).bind λd a=>match d with
 | .ob n=>match a[n]? with
  |some (.dn kvs)=>.ok (kvs.map Iz) (a.set n (.nf kvs))
  | _=>.no
 | _=>.no
def er(h:VE X md P e m):VI X md P tg e (pK m):=(eh h).imp λσ H Q q=>by
 obtain⟨ρ,O,F,as,ds,O',r,s,e,k⟩:=q;obtain⟨d,O1,e1,e⟩:=C8.Pi e;split at e
 ·split at e
  ·rename_i B e2;cases e;refine⟨ρ,_,F,as,_,_,r,s,e1,λv H1 F1 as1 g1 I Y=>?_⟩;obtain⟨a,rfl,u⟩:=Rp.Qo Y;obtain⟨g,G,j⟩:=I.dn u e2;refine⟨a,g,rfl,G,λo=>k _ _ F1 _ (g1.trans (rH (zP u) G)) (I.Re u ⟨o,g,bG,j.1,j.2⟩) ⟨λi d H2 F2 E w t l=>?_,λH2 F2 E w t=>?_⟩⟩
   ·have J:=w.kz a o _ bG
    have L :=by have:=(zx.mp l).1;rwa [ze] at this
    have hi':i<g.length:=by rw[j.len];exact L
    refine⟨⟨g,J,hi'⟩,λx H3 y=>?_⟩;obtain⟨rfl,W⟩:=y;obtain⟨b,p,rfl,Z,hb⟩:=W g J
    have K:p.1=B[i].1:=by
     have n:(g.map (·.1))[i]?=some p.1:=by rw[zH,Z];rfl
     rw[j.1,zH,zB] at n
     injection n with n
     exact n.symm
    rw[zH,zB L] at l
    injection l with l
    subst l;obtain⟨c,C,f⟩:=hb;obtain⟨U,A⟩:=id t;obtain⟨F3,R,z,T⟩:=Iw C t
    rcases f with f | f
    ·obtain⟨F4,N,f4,e4⟩:=Iw f ⟨U,z U A⟩;refine⟨F4,R.trans N,λO r=>f4 O (z O r),b,_,rfl,.inl (N.ff _ _ T),?_⟩;rw[<-K];exact Rps.cons (rfl) (Rps.cons ⟨c,_,rfl,.inl e4,u0 _⟩ Rps.nil)
    ·refine⟨F3,R,z,b,_,rfl,.inl T,?_⟩;rw[<-K];exact Rps.cons (rfl) (Rps.cons ⟨c,_,rfl,.inr f,u0 _⟩ Rps.nil)
   ·exact⟨g,w.kz a o _ bG,by rw[ze,j.len];exact zc _⟩
  ·cases e
 ·cases e
def rQ(i:Nat)(a:MS):MS:=λρ O=>match ρ[i]? with
 |some (some (.ob n))=>match O[n]? with
  |some (.dn _)=>match a ρ O with
   | .nx ρ2 O2=>match O2[n]? with
    |some (.nf kvs)=>.nx ρ2 (O2.set n (.dn kvs))
    | _=>.no
   | _=>.no
  | _=>.no
 | _=>.no
def D7.reHN{K:Frag} (g:D7 P H F k l m j)(i:a∈k)(d:H a=some (.dN K n)):D7 P H F k (DB l a h) m j :=
 ⟨g.fz,g.ff,g.nw,λc o p e b f=>by rw[aH λz=>b (by rw[z];exact i)];exact g.fr c o p e b f,λc e=>by
  by_cases z:c=a
  ·rw[z,bG] at e;cases e
  ·rw[aH z] at e;exact g.dm c e,λc o u e=>by rw[aH λz=>by rw[z,d] at e;cases e];exact g.kz c o u e⟩
def eu(i:Nat){st:Stmt} (h:VS X Z P R st ms):VS X Z P R st (rQ i ms):=λx s σ H D I q=>by
 obtain⟨ρ,O,F,w,r,p,k⟩:=q;unfold rQ at k;split at k
 ·rename_i n K;split at k
  ·rename_i W J;split at k
   ·rename_i Q L G;split at k
    ·rename_i U E;obtain⟨a,j⟩:=p.obAt K;obtain⟨T,m,_⟩:=r.dn j J;have C:=I.QW m
     refine thn (h _ s σ H {nx:=λb c=>∃d e,D7 P H F w c d _/\DD _ _ L c d _/\DV _ Z P _ _ c d _,rt:=λ_ _=>False} I ⟨ρ,O,F,w,r,p,by rw[G];exact λb c d e g r s=>⟨d,e,g,r,s⟩⟩) λf Y z=>?_
     cases f with
     |next =>
      obtain⟨b,c,N,d,e,g,t,B⟩:=z;have ha':=g.at_ n a j;have hm':=zP ha';obtain⟨o,A,y,l⟩:=t.nf ha' E;exact⟨b,_,N.SG y C,k _ _ d _ (g.reHN (zP j) m) (t.Re ha' ⟨A,bG,l.1,l.2⟩) (B.reH hm')⟩
     | brk
     |cont=>obtain⟨b,c,_,z⟩:=z;exact z.elim
     |ret u=>obtain⟨v,b,c,_,_,z⟩:=z;exact z.elim
    ·exact False.elim k
   ·exact False.elim k
  ·exact False.elim k
 ·exact False.elim k
section
variable {X:Cx}{md:List Md}{P:Pt}{R:RR}
def ew(i:Nat){c b:Expr}{x:Str}{p u h:Pos}{j:M Bool}{mb:M D}(Q:TsE X md P c j)(hb:OE X md P b mb)(J:md[i]?=some .o:=by rfl)(T:X.N[i]?=some x:=by rfl)(hv:G0 X.env.scope x:=by first | exact Or.inl rfl | exact Or.inr (Or.inl rfl) | exact Or.inr (Or.inr rfl))
  (L:SV x:=by decide) (z:(x == ("__classdict__":Str))=false:=by decide):VS X md P (rO X.K) (.Return (some (.IfExp c (.Name x p) b u)) h) (aB (EW j (aa i) mb)):=(xA (Es Q (jP (i:=i) T hv L z) hb)).imp λD σ H q=>by
 obtain⟨ρ,O,F,as,r,s,k⟩:=q;unfold aB at k
 cases e:EW j (aa i) mb ρ O with
 |ok d O' =>
  rw[e] at k;obtain⟨y,O1,t,e⟩:=C8.Pi e;refine⟨ρ,_,F,as,_,_,r,s,t,λH1 C g f B=>?_⟩
  cases y with
  |true =>
   rw[if_pos rfl] at e ⊢;obtain⟨n,rfl⟩:=rm e;obtain⟨v,U,m⟩:=(s.step f).sl i .o d J n;refine⟨v,U,k v H1 C g f.toS B ?_⟩
   rcases m with m | ⟨a,E,ds,t,n,e3,e0,Z,Y,e6⟩
   ·exact .inl m
   ·exact .inr ⟨a,E,ds,t,n,e3,e0,Z,Y,e6⟩
  |false =>
   rw[if_neg zA] at e ⊢;exact⟨ρ,_,C,g,_,_,B,s.step f,e,λG H2 F2 A W I w=>k G H2 F2 A (f.trans W).toS I (gQ _ _ _ _ _ _ _ (λa l p=>s.pd a p l) (gQ _ _ _ _ _ _ _ (λa l=>f.dm a l) w))⟩
 |ex x O'=>rw[e] at k;exact False.elim k
 |no=>rw[e] at k;exact False.elim k
end
def rR(l:List Nat)(i:Int):List Nat:=l++List.replicate (i.toNat - l.length) 32
def ez(l:List Nat)(i:Int):Txt.ljust (S l) i=S (rR l i):=by
 unfold Txt.ljust rR;rw[fO]
 split
 ·rw[show i.toNat - l.length=0 by omega];simp
 ·unfold Builtin.Str.padded;simp[S]
def eA:V->List V->Hp->VK->Prop:=λx a H Q=>∃(l:List Nat)(i:Int),x=.str (S l)/\a=[.int i]/\-1000000<i/\i<1000000/\Q (.str (S (rR l i))) H
def eB:JU X "str.ljust" eA:=by
 intro c s σ H x o v p Q I e g h;obtain⟨l,i,rfl,rfl,t,r,q⟩:=h;obtain⟨a,rfl⟩:=e;obtain⟨u,rfl,f⟩:=DT g;obtain⟨b,rfl⟩:=f
 refine SC.ljust ?_ λd k=>⟨.str (S (rR l i)),H,I.tok _,⟨d,by rw[ez]⟩,q⟩
 unfold PadOk fitsSsize;have n:decide (i < -(2 ^ 63:Int))=false:=zo (by omega);have m:decide (i>=(2 ^ 63:Int))=false:=zo (by omega)
 have j:Builtin.Str.tooLong i.toNat=false:=by
  unfold Builtin.Str.tooLong;exact zo (by have:=sizeLine_eq;omega)
 rw[n,m,j];rfl
def vB(c m:M D):M D:=λρ O=>(c ρ O).bind λa e=>(m ρ e).bind λb d=>match a,b with
 | .str l,.int i=>if -1000000<i/\i<1000000 then .ok (.str (rR l i)) d else .no
 | _,_=>.no
def eC{g c:Pos} (B:VE X W P o Y)(h:VE X W P e m)
  (j:attributeBase o "ljust" X.env (eval o X.env)=eval o X.env:=by rfl)
  (l:((backTo c (starEach [e] X.env)).all (λx=>!x.1)&&(backToKw c (keywordEach [] X.env)).all (λx=>x.1.isSome)&&decide ([e].length+([]:List Keyword).length+(if([]:List Keyword).isEmpty then 0 else 1)<30))=true:=by rfl)
  (i:(g.endLine == c.line)=true:=by rfl) (hs:SW X.env e []:=by exact bT rfl) (f:SY X.env c []:=by exact cF rfl):
  OE X W P (.Call (.Attribute o "ljust" g) [e] [] c) (vB Y m):=
 (lu PySem.F.plainAttrs_str PySem.F.slot_str_ljust PySem.F.type_str_ljust eB B (dZ h fK hs) j l i hs f).imp λσ H Q q=>by
  obtain⟨ρ,O,F,I,d,T,r,s,e,k⟩:=q;obtain⟨a,R,G,e⟩:=C8.Pi e;obtain⟨b,N,E,e⟩:=C8.Pi e;split at e
  ·split at e
   ·rename_i t;cases e;refine⟨ρ,_,F,I,_,_,r,s,G,λv U L p w z hv=>?_⟩;cases Rp.PZ hv;refine⟨rfl,ρ,_,L,p,_,_,z,s.step w,E,λu J K n C y A=>?_⟩;cases Rp.PD A;exact⟨_,_,rfl,rfl,t.1,t.2,k _ J K n (w.trans C) y (.inl ⟨rfl,Rp.str⟩)⟩
   ·cases e
  ·cases e
section
variable {prog:Program}{w:World}{A:Around}{E:Value->Shared->Prop}{s:Shared}
def eD(r:s.heap.get? a=some o)(u:o.cls=.type "list")(f:o.data=.seq O k)(t:o.dict=none)(z:A.handled=none)
  (h:∀n tk,(∀b q,s.heap.get? b=some q->n.get? b=some q)->Q none {s with heap:=n,toks:=tk}):wpAny (model prog w) A (getAttr? (.ref a) "keys") Q E s:=by
 obtain⟨c,B,C,x⟩:=o;simp only at u f t;subst u f t;obtain⟨y,g,d,tk,os⟩:=s
 have v:∀l,(⟨y,g,d,l,os⟩:Shared).TypeIs (.ref a) "list":=λ_=>⟨_,r,rfl⟩
 have j:typeLookup (.type "list") "keys" = pure none:=am_miss_of_fast (by kernel_rfl)
 have i:(["__module__","__name__","__qualname__","__doc__","__annotations__"]:List Str).contains "keys" = false:=by decide
 have p:("keys":Str).length+100<=sizeLine:=by rw[sizeLine_eq];decide
 have N:=sub_AttributeError;have L:=F.slot_list_getattribute.lookup;have K:=F.slot_list_getattribute.bind (.ref a);have J:=am_list_getattr_none;unfold getAttr? getAttrBy? getAttrBy
 repeat (any_goals (first | assumption | exact v _ | (refine call_meets F.slot_list_getattribute (v _) am_entry_list_getattribute (F.args_list_getattribute_2 _ _) (meets_getattribute_miss_list a O k x "keys" _ j i p) ⟨r,z,λn l e m=>?_⟩) | wp_step))
 obtain⟨H,G,I⟩:=m.there;show wpAny _ _ (getattributeRaised _ _ _ _ _ _ _) _ _ _;unfold getattributeRaised
 repeat (any_goals (first | assumption | wp_step))
 exact h _ _ m.keeps
def IK:entryFor table "dict.update.loop" = some Builtin.«dict.update.loop»:=entryFor_of_tree (by kernel_rfl)
def vC:plainId "dict.update.loop" = true:=by decide +kernel
def GU(b:s.heap.get? a=some o)(d:o.cls=.type "tuple")(c:o.data=.seq e m)(h:Q e.toList s):wpAny (model prog w) A (Builtin.Dict.pairItems (.ref a)) Q E s:=by
 refine za (wpAny_typeOf ⟨o,b,d⟩ ?_);refine za ?_;refine za (wpAny_load b ?_);rw[c];exact zb (zb h)
theorem IV:∀(b a:List (DC×Value)),(merged a b).length<=a.length+b.length
 | [],a=>zc _
 |p::r,a=>by
  have d:=IV r (stored a p.1 p.2)
  have c:(stored a p.1 p.2).length<=a.length+1:=by
   unfold stored
   split
   ·rw[ze];omega
   ·rw[zg,zR];omega
  show(merged (stored _ _ _) r).length<=_;rw[zu];omega
def eF{R:Result->Shared->Prop}{I:Addr}{fp q:List Addr}{G:Array GenState->Array GenState->Prop}{n:Nat}{Pv:Nat->Value->Prop}{St:Nat->Shared->Prop}(W:WalksS prog w A.in1 I fp q G n Pv St)(S:Addr)(J:S∉fp)(h0:Heap)(c:List (DC×Value×Value))(hl:c.length=n)(hz:n<=1000000)
  (Z:∀i v p,Pv i v->c[i]?=some p->∃a o t m,v=.ref a/\a≠S/\a∉q/\h0.get? a=some o/\o.cls=.type "tuple"/\o.data=.seq t m/\t.toList=[p.2.1,p.2.2]/\(cW prog w).is p.1 p.2.1=true):
  ∀(k i:Nat)(s:Shared),n - i=k->i<=n->St i s->(∀b o,b≠S->b∉q->h0.get? b=some o->s.heap.get? b=some o)->s.heap.DictOf (cW prog w) S (merged [] ((c.take i).map λp=>(p.1,p.2.2))) ->
   (∀f,Moved (S::q) G s f->f.heap.DictOf (cW prog w) S (merged [] (c.map λp=>(p.1,p.2.2)))->R (.ok (.ret .none)) f) ->
   ∀j:Int,codeAny (model prog w) A (.builtin "dict.update.loop" ⟨[.ref S,.ref I,.int j 0,.none],[]⟩) R s:=by
 have H:S∉q:=λh=>J (W.sub _ h)
 have g:∀b∈q,b∈S::q:=λb y=>zl _ y
 intro k
 induction k with
 |zero =>
  intro i s hk hi u d hD P j
  have hin:i=n:=by omega
  subst hin;refine jb IK ?_;rw[Around.under_plainId vC _];show wpAny _ A.in1 (pyNext (.ref I) >>= _) _ _ s;refine za (W.done s _ _ u λf r=>?_);show wpAny _ A.in1 (Builtin.Dict.addKeywords S [] >>= _) _ _ f;refine za (zb (zb (P f (r.mono g) ?_)));rw[<-hl,List.take_length] at hD;obtain⟨o,U,X,T,Q⟩:=hD;exact⟨o,U,X,r.heap S _ H T,Q⟩
 |succ k ih =>
  intro i s hk hi u d hD P j
  have z:i<n:=by omega
  have hp:=zB (l:=c) (i:=i) (by omega);refine jb IK ?_;rw[Around.under_plainId vC _];show wpAny _ A.in1 (pyNext (.ref I) >>= _) _ _ s;refine za (W.item i s _ _ z u λv f hP K r=>?_);obtain⟨a,o,t,m,rfl,ha1,F,ho,hc,hd,hi2,N⟩:=Z i v _ hP hp;have ho':f.heap.get? a=some o:=r.heap a o F (d a o ha1 F ho)
  have hD':f.heap.DictOf (cW prog w) S (merged [] ((c.take i).map λp=>(p.1,p.2.2))):=by
   obtain⟨o,U,X,T,Q⟩:=hD;exact⟨o,U,X,r.heap S _ H T,Q⟩
  dsimp only;refine za (zS (za (wpAny_tryCatch (GU ho' hc hd ?_))));rw[hi2];dsimp only;refine zS (wpAny_dictSet_pairs N hD' (λh' hD2 x=>?_) ?_)
  ·refine zb ⟨plainId_quiet vC _,ih (i+1) _ (by omega) z (W.frame _ f _ _ K (Nat.le_succ _) λb y o e=>?_) (λb o C B e=>?_) ?_ (λY L O=>?_) _⟩
   ·rw[x.2 b (λh:b=S=>J (by rw[<-h];exact y))];exact e
   ·show h'.get? b=some o;rw[x.2 b C];exact r.heap b o B (d b o C B e)
   ·rw[List.take_add_one,hp]
    have e:merged [] ((c.take i++(some c[i]).toList).map λp=>(p.1,p.2.2))=stored (merged [] ((c.take i).map λp=>(p.1,p.2.2))) c[i].1 c[i].2.2:=by
     rw[Option.toList_some,zI];unfold merged;rw[List.foldl_append];rfl
    rw[e];exact hD2
   ·refine P Y (Moved.trans W.gtrans ((r.mono g).then_heap (Nat.le_succ _) λb o y e=>?_) L) O;rw[x.2 b (λh:b=S=>y (by rw[h];exact zd))];exact e
  ·have:=IV ((c.take i).map λp=>(p.1,p.2.2)) []
   rw[ze,List.length_take,jd] at this;rw[sizeLine_eq];omega
set_option maxHeartbeats 8000000 in
def eH{g:List (DC×Value×Value)} (N:A.handled=none)(B:s.heap.get? l=some (seqObj "list" items 0)\/∃c,s.heap.get? l=some (seqObj "list" items c))(Y:g.length=items.size)(U:items.size<=1000000)
  (I:∀(i:Nat)(v:Value)(p:DC×Value×Value),items[i]?=some v->g[i]?=some p->∃(a:Addr)(o:Obj)(j:Array Value)(m:Nat),v=.ref a/\s.heap.get? a=some o/\o.cls=.type "tuple"/\o.data=.seq j m/\j.toList=[p.2.1,p.2.2]/\(cW prog w).is p.1 p.2.1=true)
  (h:∀n tk,n.DictOf (cW prog w) s.heap.objs.size (merged [] (g.map λp=>(p.1,p.2.2)))->(∀b o,s.heap.get? b=some o->n.get? b=some o)->Q (.ref s.heap.objs.size) {s with heap:=n,toks:=tk}):
  wpAny (model prog w) A (call (.type "dict") [.ref l]) Q E s:=by
 obtain⟨c,B⟩:∃c,s.heap.get? l=some (seqObj "list" items c):=by
  rcases B with h | h
  ·exact⟨0,h⟩
  ·exact h
 refine callType_codes (Q₁:=λt q=>t=.ref s.heap.objs.size/\q = {s with heap:=s.heap.push _}) F.kt_called_dict (F.kt_typeCall_dict_1 _) F.entry_dict_init (kt_code_dict_new _ ⟨rfl,rfl⟩) ?_;rintro t q ⟨rfl,rfl⟩;have f:(s.heap.push _).DictOf (cW prog w) s.heap.objs.size []:=Heap.DictOf.new s.heap;have r:(s.heap.push {cls:=.type "dict",data:=.dict #[]}).get? l=some (seqObj "list" items c):=zq _ B;refine⟨f.typeIs,F.args_dict_init_2 _ _,?_⟩;refine za ?_;refine za (wpAny_notOrdered_dict f.typeIs ?_);refine zb ?_;show wpAny _ _ (Builtin.Dict.updateFrom "dict.__init__" s.heap.objs.size (.ref l) [] .none) _ _ _
 refine za (wpAny_typeOf (T:="list") ⟨_,r,rfl⟩ ?_);refine za (eD r rfl rfl rfl (by simp[N]) λn tk d=>?_);rw[if_pos (by rfl)];refine za (zZ ?_);have x:=d _ _ r;refine za (wpAny_pyIter_list ⟨_,x,rfl,c,rfl⟩ ?_);have k :=zm (d _ _ (zD _ rfl));have u:l<s.heap.objs.size:=zm B;refine zb ⟨plainId_quiet vC _,?_⟩;have y:l≠n.objs.size:=zt (Nat.lt_trans u k)
 have J:s.heap.objs.size∉[n.objs.size,l]:=by
  simp only[zk,zj,List.not_mem_nil,or_false,not_or];exact⟨zt k,Nat.ne_of_gt u⟩
 have H:n.IsList l items:=⟨_,x,rfl,c,rfl⟩;refine eF ((Walks.list (by simp[N]) _ l y items).toS) s.heap.objs.size J n g Y U (λi v p W X=>?_) (items.size - 0) 0 _ (by omega) (Nat.zero_le _) ⟨⟨_,zD _ rfl,rfl,rfl⟩,H.push _⟩ (λb o _ _ e=>zq _ e) ?hD (λR z K=>?hR) _
 ·obtain⟨a,o,j,m,rfl,L,hc,hd,hi,Z⟩:=I i v p W X;have P:=zm L;refine⟨a,o,j,m,rfl,zt P,?_,d _ _ (zq _ L),hc,hd,hi,Z⟩;rw[zj];exact zt (Nat.lt_trans P k)
 case hD =>
  obtain⟨o,es,ep,g1,g2⟩:=f;exact⟨o,es,ep,zq _ (d _ _ g1),g2⟩
 case hR =>
  obtain⟨h3,g3,d3,C,G⟩:=R;have eg:g3=s.gens:=z.gens;have ed:d3=s.drawn:=z.drawn;have eo:G=s.os:=z.os;subst eg;subst ed;subst eo;refine⟨rfl,h h3 C K λb o e=>?_⟩;have O:=zm e;exact z.heap b o (by simp only[zk,zj,List.not_mem_nil,or_false,not_or];exact⟨zt O,zt (Nat.lt_trans O k)⟩) (zq _ (d _ _ (zq _ e)))
end
def m8(K:Frag)(H:Hp)(a:List (DC×V)):List (DC×V)->Bool->Prop
 | [],r=>r=true
 |p::rest,r=>(dw a p.1=none/\r=false)\/∃y d e b,dw a p.1=some y/\Rep K H p.2 d/\Rep K H y e/\GW d=true/\GW e=true/\m8 K H a rest b/\r=(PyData.eqv d e&&b)
theorem m8.keq{b:List (Addr×Obj)}{σ:St}{H:Hp}{s:Shared}{A:Around}(I:C5 X b σ H s)(x:A.units+64<cLine){c:List (DC×V)}{m:List (DC×Value)}(n:KV c m):∀{i:List (DC×V)}{f:List (DC×Value)}{r:Bool},KV i f->m8 X.K H c i r->KeqHits A s m f r
 | [],f,r,hk,h=>by
  cases hk;cases(show r=true from h);exact .nil
 |p::i,f,r,hk,h=>by
  cases hk with
  | @cons _ q _ qs hpq hk =>
   obtain⟨k,v⟩:=p;obtain⟨w,L⟩:=q;obtain⟨J,G⟩:=hpq;cases(show k=w from J);have g:=n.val k
   rcases h with⟨a,rfl⟩ | ⟨y,d,e,N,a,C,B,l,j,z,rfl⟩
   ·change dw c k=none at a
    rw[a] at g;exact .miss (dJ.none_of g)
   ·change dw c k=some y at a
    rw[a] at g;obtain⟨u,F,E⟩:=dJ.some_of g;obtain⟨P,t⟩:=Rep.reads I d C G;obtain⟨O,o⟩:=Rep.reads I e B E;unfold GW at l j;simp only[zC,decide_eq_true_eq] at l j;exact .hit F (SeqAt.eqAt_reads d e A s _ _ _ _ t o l.1 j.1 (by omega)) (m8.keq I x n hk z)
def m9(O:au)(n:Nat)(a:List (DC×D)):List (DC×D)->Option Bool
 | []=>some true
 |p::rest=>match cA a p.1 with
  |none=>some false
  |some e=>if(okE (dC O n p.2)&&okE (dC O n e))=true then(m9 O n a rest).map (j5 (dC O n p.2) (dC O n e) && ·) else none
theorem IW{K:Frag}{x:Str->Option Value}{O:au}{H F:Hp}{m:List Addr}(r:DD K x O H F m){n:Nat}{l:List (DC×D)}{s:List (DC×V)}(t:EJ K F m s l):∀{c:List (DC×D)}{a:List (DC×V)}{b:Bool},EJ K F m a c->m9 O n l c=some b->m8 K H s a b
 | [],a,b,h,e=>by
  have:=h.len
  cases a with
  |nil=>cases e;rfl
  |cons=>cases this
 |p::c,a,b,h,e=>by
  obtain⟨v,A,rfl,z,y⟩:=h.un;unfold m9 at e
  rcases t.val (k:=p.1) with⟨j,i⟩ | ⟨d,o,j,i,w⟩
  ·rw[j] at e;cases e;exact .inl ⟨i,rfl⟩
  ·rw[j] at e;simp only at e;split at e
   ·rename_i u;rw[zC] at u;obtain⟨g,f⟩:=u;unfold okE at g f;rw[zC] at g f
    cases q:m9 O n l c with
    |none=>rw[q] at e;cases e
    |some b' =>
     rw[q] at e;cases e;exact .inr ⟨o,_,_,b',i,rK r n p.2 v z g.1,rK r n d o w f.1,g.2,f.2,IW r t y q,rfl⟩
   ·cases e
def pM(K:Frag)(H:Hp):List V->List (DC×V)->Prop
 |ys,[]=>ys=[]
 |ys,p::r=>∃b a,ys=.ref b::a/\ER K H b [kV p.1,p.2]/\pM K H a r
def eI(K:Frag):List V->Hp->VK->Prop:=λd H Q=>∃a c b,d=[.ref a]/\E3 K H a c/\pM K H c b/\b.length<=1000000/\∀l,H l=none->Q (.ref l) (DB H l (.dK (lA [] b)))
theorem pM.RF{j:List (Addr×Obj)}{σ:St}{H:Hp}{s:Shared}(I:C5 X j σ H s):∀{f:List (DC×V)}{g:List V}{c:List Value},pM X.K H g f->aJ g c->∃RF:List (DC×Value×Value),RF.length=c.length/\f.length=c.length/\KV f (RF.map λp=>(p.1,p.2.2)) /\
  ∀(i:Nat)(v:Value)(p:DC×Value×Value),c[i]?=some v->RF[i]?=some p->∃(a:Addr)(o:Obj)(k:Array Value)(m:Nat),v=.ref a/\s.heap.get? a=some o/\o.cls=.type "tuple"/\o.data=.seq k m/\k.toList=[p.2.1,p.2.2]/\(cW X.prog X.w).is p.1 p.2.1=true
 | [],g,c,h,r=>by
  cases(show g=[] from h);cases r;exact⟨[],rfl,rfl,.nil,λi v p e=>by cases e⟩
 |q::f,g,c,h,r=>by
  obtain⟨b,G,rfl,F,E⟩:=h
  cases r with
  | @cons _ u _ us a1 r =>
   cases(show u=Value.ref b from a1);obtain⟨RF,A,z,y,x⟩:=pM.RF I E r;obtain⟨k,d,⟨o,e,C,n,B⟩,_⟩:=I.tuple F
   cases d with
   | @cons _ k' _ _ a2 d =>
    cases d with
    | @cons _ v' _ _ a3 d =>
     cases d;refine⟨(q.1,k',v')::RF,by rw[zu,zu,A],by rw[zu,zu,z],.cons ⟨rfl,a3⟩ y,λi v p t l=>?_⟩
     cases i with
     |zero =>
      cases t;cases l;exact⟨b,o,_,n,rfl,e,C,B,rfl,oV a2⟩
     |succ i=>exact x i v p t l
def eJ(x:X.calm=true):gj X (.type "dict") (eI X.K):=by
 intro c s σ H J L Q I r h;obtain⟨a,G,b,rfl,y,t,w,q⟩:=h;obtain⟨u,rfl,d⟩:=DT r;cases d;obtain⟨_,F,n,f,e⟩:=y.ok I;obtain⟨E,m,l,j,g⟩:=t.RF I f
 refine eH (I.ok.hd x) (.inr ⟨n,e⟩) (by rw[m,zK]) (by rw[zK,<-l];exact w) (λi v p C B=>g i v p (by simpa using C) B) λN tk hD k=>?_
 have o:(lA [] b).length<=sizeLine:=by
  have A:=Gn b [];rw[jd] at A;rw[sizeLine_eq];omega
 have z :=beq_eq_false_iff_ne.mpr (Nat.ne_of_gt I.big);exact⟨.ref _,_,I.laid k (zc _) (yc o z (j.merge .nil) hD),rfl,q _ (I.Pm.fresh (zc _))⟩
def nj:List D->Option (List (DC×D))
 | []=>some []
 |d::r=>match d,nj r with
  | .tup [k,v],some l=>(EE k).map λa=>(a,v)::l
  | _,_=>none
def Af(a:List (DC×D)):List (DC×D):=a.foldl (λb p=>cT b p.1 p.2) []
theorem Ja{K:Frag}{F H:Hp}{m:List Addr}(fh:Dx F H):∀{g:List D}{c:List V}{b:List (DC×D)},Rps K F m c g->nj g=some b->∃f,pM K H c f/\EJ K F m f b
 | [],c,b,h,e=>by
  cases e;exact⟨[],h.QL,rfl,Rps.nil⟩
 |d::g,c,b,h,e=>by
  obtain⟨y,i,rfl,p,o⟩:=h.un;unfold nj at e;split at e
  ·rename_i k v l q
   cases hk:EE k with
   |none=>rw[hk] at e;cases e
   |some k' =>
    rw[hk] at e;cases e;obtain⟨f,r,j⟩:=Ja fh o q;obtain⟨a,A,rfl,z,x⟩:=p.QR;obtain⟨B,zr,rfl,w,u⟩:=x.un;obtain⟨n,zr,rfl,t,s⟩:=u.un;cases s.QL;cases w.key hk;exact⟨(k',n)::f,⟨a,i,rfl,Dx.PY fh z,r⟩,by rw[zh,zh,j.1],Rps.cons t j.2⟩
  ·cases e
theorem EJ.merge{K:Frag}{F:Hp}{e:List Addr}:∀{a:List (DC×D)}{b:List (DC×V)}{d:List (DC×D)}{c:List (DC×V)},EJ K F e b a->EJ K F e c d->EJ K F e (lA c b) (a.foldl (λf p=>cT f p.1 p.2) d)
 | [],b,d,c,h,g=>by
  have:=h.len
  cases b with
  |nil=>exact g
  |cons=>cases this
 |p::a,b,d,c,h,g=>by
  obtain⟨v,r,rfl,j,i⟩:=h.un;have q:=EJ.merge i (g.put p.1 j);exact q
def EJ.gr{K:Frag} (h:EJ K F d c a)(g:Gr H F d f e b):EJ K e b c a:=⟨h.1,h.2.gr g⟩
def vD(c:M (List D)):M D:=λρ O=>(c ρ O).bind λd b=>match d.map (aZ b) with
 | [.lst es]=>match nj es with
  |some a=>if a.length<=1000000 then .ok (.ob b.length) (b++[.dk (Af a)]) else .no
  |none=>.no
 | _=>.no
def eK{E x:Pos} (J:X.calm=true)(o:X.mg "dict" = none)(L:AE X md P ms [e] ma)(t:Gl X "dict":=by rfl)
  (I:SW X.env e []:=by exact bT rfl) (n:SY X.env x []:=by exact cF rfl):VE X md P (.Call (.Name "dict" E) [e] [] x) (vD ma):=by
 refine(ux (eJ J) t o (by decide +kernel) L (by decide) (by decide) I n).imp λσ H Q q=>?_
 obtain⟨ρ,O,F,Y,d,O',r,s,e,k⟩:=q;obtain⟨W,Z,U,e⟩:=C8.Pi e;refine⟨ρ,_,F,Y,_,_,r,s,U,λvs A h a T b hv=>?_⟩;have c:=hv.lks b
 generalize hds:W.map (aZ Z)=es at e c
 split at e
 ·rename_i ds0;obtain⟨v,rfl,m⟩:=c.one;split at e
  ·rename_i j G;split at e
   ·rename_i f;cases e;obtain⟨p,B,rfl,R,N⟩:=m.list b.fh;obtain⟨i,C,w⟩:=Ja b.fh N G;refine⟨p,B,i,rfl,R,C,by rw[w.len];exact f,λl g=>?_⟩;have y:Gr A h a (DB A l (.dK (lA [] i))) h (a++[l]):=Gr.snoc g;have u:EJ X.K h (a++[l]) (lA [] i) (Af j):=(w.merge ⟨rfl,Rps.nil⟩).gr y;refine k _ _ h (a++[l]) (T.trans y) ((b.lay g).QU (b.unF g) (λz=>b.all z g) ⟨_,bG,u.1,u.2⟩) (Rp.Po ?_);rw[<-b.len,zN (zc _),Nat.sub_self];rfl
   ·cases e
  ·cases e
 ·cases e
def mkD{K:Frag} {st:Stmt} {kV:Value}(X:K.In h)(G:h.Ns mainGlobals b)(a:nsIn K mainGlobals x=some (some (.ref f)))(l:K.lookup f=some ⟨j,i,.func (fnOf x x (dq st) (cD st) (aQ st) .none kV m g o d n),e⟩)(c:codeIn K d x=true)(k:keepIn K (.ref f)=true):DZ K b x st:=⟨_,_,mg_of X G a,Gj l c k⟩
structure DI(K:Frag)(c:Str)(A:Addr):Prop where
 ns:nsIn K mainGlobals c=some (some (.ref A))
 pg:plainGet K A Str.empty=true
 hd:hasDictIn K A=true
 po:plainOver K A=true
 sa:findIn K (.ref A) "__setattr__" = some (some (.builtin "object.__setattr__"))
 mks:makesIn K A=true
 kc:keepIn K (.ref A)=true
def FR(K:Frag)(A:Addr)(m a:Str)(st:Stmt):Prop:=∃f b,findIn K (.ref A) m=some (some (.ref f))/\isFn K (.ref f)=true/\keepIn K (.ref f)=true/\HK K m a st f b
def M1{K:Frag} {st:Stmt} {kV:Value}(a:findIn K (.ref A) m=some (some (.ref f)))(i:isFn K (.ref f)=true)(l:K.lookup f=some ⟨j,h,.func (fnOf m b (dq st) (cD st) (aQ st) .none kV n g p d o),e⟩)(c:codeIn K d b=true)(k:keepIn K (.ref f)=true):FR K A m b st:=⟨_,_,a,i,k,Gj l c k⟩
def DI.cl{K:Frag}(z:DI K c A):F8 K A:=⟨z.pg,z.hd,z.po,z.sa⟩
def DI.dm{K:Frag}(z:DI K c A)(X:K.In h)(G:h.Ns mainGlobals g) {st:Stmt}(q:FR K A m e st):cQ K g c m e st:=by
 obtain⟨f,d,a,i,k,b⟩:=q;exact⟨_,_,_,mg_of X G z.ns,z.cl,⟨a,i,k⟩,b⟩
def DI.dc{K:Frag}(z:DI K c A)(X:K.In h)(G:h.Ns mainGlobals g) {st:Stmt}(q:FR K A "__init__" e st):pC K g c e st:=by
 obtain⟨f,d,a,i,k,b⟩:=q;exact⟨_,_,_,mg_of X G z.ns,⟨z.mks,a,i,z.kc⟩,b⟩
def DI.kf{K:Frag}(z:DI K c A)(X:K.In h)(G:h.Ns mainGlobals a) (n:findIn K (.ref A) f=some none):KC K a c f:=⟨_,mg_of X G z.ns,z.cl,n⟩
def Ag(K:Frag)(i:Str->Option Value)(x:Str)(st:Stmt)(c:Array Value):Prop:=∃(f:Addr)(h:Value)(g:Option Addr)(T:Addr)(kV d e:Value)(k:Option Addr)(a j:Value)(b:Array (Option Value))(o:Obj)(n:Nat),
 i x=some (.ref f)/\K.lookup f=some ⟨h,g,.func (fnOf x x (dq st) (cD st) (aQ st) (.ref T) kV d e k a j),b⟩/\codeIn K a x=true/\keepIn K (.ref f)=true/\K.lookup T=some o/\o.data=.seq c n
def eM{K:Frag} {st:Stmt} {kV:Value} (X:K.In h)(G:h.Ns mainGlobals m)(a:nsIn K mainGlobals x=some (some (.ref f)))(l:K.lookup f=some ⟨j,i,.func (fnOf x x (dq st) (cD st) (aQ st) (.ref T) kV o g q d p),e⟩)(c:codeIn K d x=true)(k:keepIn K (.ref f)=true)(t:K.lookup T=some ⟨u,s,.seq b n,r⟩):Ag K m x st b :=
 ⟨f,j,i,T,kV,o,g,q,d,p,e,_,n,mg_of X G a,l,c,k,t,rfl⟩
def eP(h:AE X b P (List.replicate a.length .v) a r):VE X b P (.Tuple a d c) (aU r):=WY _ h
def eR(h:AE X b P (List.replicate a.length .v) a r):OE X b P (.List a c) (bf r):=WX _ h
def eS{X:Cx}{c:List Md}{P:Pt} {a:Pos} (h:uW X.K X.mg x f)(d:m=mC (.tup (f.map D.str)):=by rfl)(e:Gl X x:=by rfl)(b:SV x:=by decide):VE X c P (.Name x a) m:=d ▸ ZX h e b
def Ah{K:Frag}(N H F a):rV K N H F a .Pl .Pl:=Rp.Pl
def eT{K:Frag}(N H F a):rO K N H F a .Pl .Pl:=.inl ⟨rfl,Rp.Pl⟩
def Ai(K:Frag)(k:Str->Option Value)(c a:Str)(st:Stmt)(e:Array Value):Prop:=∃(C f:Addr)(j:Value)(i:Option Addr)(T:Addr)(kV g h:Value)(m:Option Addr)(b l:Value)(d:Array (Option Value))(o:Obj)(n:Nat),
 k c=some (.ref C)/\Mk K C f/\K.lookup f=some ⟨j,i,.func (fnOf "__init__" a (dq st) (cD st) (aQ st) (.ref T) kV g h m b l),d⟩/\codeIn K b a=true/\K.lookup T=some o/\o.data=.seq e n
inductive pN (P:Program) (w:World) (K:Frag) (mg:Str->Option Value) (base:Heap) (c:Str) (ps:List Str) (ds:List Value) (k:Nat) (sp:Sp):Prop
 | mk:∀C f fd,mg c=some (.ref C)->Mk K C f->DU K fd ps []->DU K fd ps ds->cX P w K mg base FA k f fd ps sp->pN P w K mg base c ps ds k sp
def pN.canC{P:Program}{w:World}{K:Frag}{l:Str->Option Value}{e:Heap}{c:Str}{j:List Str}{m:List Value}{k:Nat}{i:Sp}(h:pN P w K l e c j m k i):pB P w K l e c j k i:=let ⟨C,f,fd,a,b,d,_,g⟩:=h;⟨C,f,fd,a,b,d,g⟩
section
variable {Pr:Program}{w:World}{K:Frag}{mg:Str->Option Value}{base:Heap}
def F6(K:Frag)(A:Addr)(a:Str)(st:Stmt)(d:Array Value):Prop:=∃(f:Addr)(i:Value)(h:Option Addr)(T:Addr)(kV e g:Value)(k:Option Addr)(b j:Value)(c:Array (Option Value))(o:Obj)(n:Nat),
 findIn K (.ref A) "__init__" = some (some (.ref f))/\isFn K (.ref f)=true/\K.lookup f=some ⟨i,h,.func (fnOf "__init__" a (dq st) (cD st) (aQ st) (.ref T) kV e g k b j),c⟩/\codeIn K b a=true/\K.lookup T=some o/\o.data=.seq d n
def eW{K:Frag} {st:Stmt} {kV:Value}
  (a:findIn K (.ref A) "__init__" = some (some (.ref f))) (i:isFn K (.ref f)=true) (l:K.lookup f=some ⟨k,j,.func (fnOf "__init__" b (dq st) (cD st) (aQ st) (.ref T) kV m h p d o),g⟩) (e:codeIn K d b=true) (t:K.lookup T=some ⟨s,r,.seq c n,q⟩):F6 K A b st c :=
 ⟨f,k,j,T,kV,m,h,p,d,o,g,_,n,a,i,l,e,t,rfl⟩
def DI.dcd{A:Addr}{c:Str}(z:DI K c A){h:Heap}(X:K.In h)(G:h.Ns mainGlobals mg){b:Str}{st:Stmt}{g:Array Value}(q:F6 K A b st g):Ai K mg c b st g:=by
 obtain⟨f,p,m,T,kV,dc,k,u,s,r,j,o,n,a,i,l,e,t,d⟩:=q;exact⟨_,f,p,m,T,kV,dc,k,u,s,r,j,o,n,mg_of X G z.ns,⟨z.mks,a,i,z.kc⟩,l,e,t,d⟩
def fb{Pr:Program}{w:World}{K:Frag}{base:Heap} {st:Stmt} {k:Nat} (Df:Ai K mg c qual st its)(S:eV N ps (aQ st))
  (hb:∀(T:Addr)(kV t p:Value)(y:Option Addr)(i x:Value)(j:List Value),j.length=ps.length->∃g,bindArgs (fnOf "__init__" qual (dq st) (cD st) (aQ st) (.ref T) kV t p y i x) ⟨j,[]⟩=seqItems? (.ref T) >>= g/\g (some its)=pure (ps.zip j))
  (m:Nat) (Y:∀(T:Addr)(kV t p:Value)(y:Option Addr)(i x:Value)(j:List Value),j.length=m->∃g,bindArgs (fnOf "__init__" qual (dq st) (cD st) (aQ st) (.ref T) kV t p y i x) ⟨j,[]⟩=seqItems? (.ref T) >>= g/\g (some its)=pure (ps.zip (j++its.toList)))
  (p lm:List Md) {b:MS} (hR:eX R) (Z:∀N H F z,R N H F z .Pl .Pl) (hm:m+its.toList.length=ps.length:=by rfl) (W:p.length=ps.length:=by rfl) (u:(p++lm).length=N.length:=by rfl) (hp:∀m∈p,m≠.o:=by decide)
  (body:∀(f:Addr)(i:Value)(A:Around)(l:List Env)(s:Shared)(H:Hp)(E:XK),aY k (A.deeper (envOfC qual (aQ st) s.heap.objs.size f i))->∀P,VSs ((gD FA Pr w K mg base N qual (aQ st) f i A l s H E).QQ) (p++lm) P R (cD st) b):
  pN Pr w K mg base c ps its.toList (k+1) (EH K mg p R (aL N.length b)):=by
 obtain⟨C,f,oc,od,T,kV,t,pmv,y,i,x,osl,o,n,h1,h2,lk,X,ht,hd⟩:=Df;refine⟨C,f,_,h1,h2,λs j J u=>?_,λs j J u=>?_,xQ lk X S (λvs H Q E h=>?_) λA l s H vs Q E hr h=>?_⟩
 ·rw[zE] at u ⊢;obtain⟨g,I,G⟩:=hb T kV _ _ y _ x j u;exact BindsTo.of_defaults rfl (J _ _ ht) hd I G
 ·rw[zg] at u;obtain⟨g,I,G⟩:=Y T kV _ _ y _ x j (by omega);exact BindsTo.of_defaults rfl (J _ _ ht) hd I G
 ·obtain⟨ds,O,F,z,d,O',r,a,_⟩:=h;rw[a.len.1,W]
 ·obtain⟨ds,O,F,z,d,O',r,a,e,q⟩:=h;refine⟨_,(body f _ A _ s H E hr (Pt.all H)).QQ,?_⟩;refine⟨_,O,F,z,r,uL a u hp,?_⟩;unfold aL at e
  cases eb:b _ O<;>rw[eb] at e<;>cases e
  ·exact λσ' L U as' g B _=>q _ L U _ g.gr B (Z _ _ _ _)
  ·exact λv L U as' g B hv=>q v L U _ g.gr B (hR _ _ _ _ _ _ _ (λc hc=>jx.mp hc) hv)
theorem cz.snoc{H F:Hp}{a:List Addr}{v:V}{d:D}(h:Rp K F a v d):∀{c:List Md}{b:List V}{e:List D},cz K H F a c b e->cz K H F a (c++[.v]) (b++[v]) (e++[d])
 | [],[],[],_=>⟨h,True.intro⟩
 | _::_,_::_,_::_,q=>⟨q.1,cz.snoc h q.2⟩
end
def IT(m:M (List D))(d:D):M (List D):=λρ O=>(m ρ O).bind λa O1=>.ok (a++[d]) O1
def fg{p a:Pos}(M:pN X.prog X.w X.K X.mg X.base c ps [.bool b] k (EH X.K X.mg (.v::pm) (rV X.K) cf))(z:aY (k+1) X.A)(L:AE X md P pm.dropLast (e::es) ma)(h:pm=pm.dropLast++[.v]:=by rfl)(G:Gl X c:=by rfl)(j:SV c:=by decide)
  (I:SW X.env e es:=by exact bT rfl) (i:SY X.env a es:=by exact cF rfl):VE X md P (.Call (.Name c p) (e::es) [] a) (dO c cf (IT ma (.bl b))):=by
 obtain⟨C,f,fd,o,T,h4,R,N⟩:=M
 refine(Fy (E:=E0) (dvs:=[.bl b]) T N z G o R (.cons rfl .nil) lz L j I i).imp λσ H Q q=>?_
 obtain⟨ρ,O,F,as,ds,O1,r,s,Z,q⟩:=yL (E:=E0) o q;obtain⟨l,O2,Y,W⟩:=C8.Pi Z;cases W;refine⟨ρ,O,F,as,l,O1,r,s,Y,λt H1 F1 m U u g x dx y J B=>?_⟩;have n:=g.snoc (v:=.bl b) (d:=.bl b) Rp.bl;rw[<-h] at n
 have:=q (t++[.bl b]) H1 F1 m U u n x dx y J B
 rwa [zE] at this
def fk(h:Fs X.QQ body t):PS X (.Try body (b::hs) [] [] pos) t:=by
 intro a s σ H D I q;refine wpAny_Try_except (zV (h _ s σ H D (I.P8 _) q) (λf c z=>?_) λ_ _ z=>z.elim);have z:=z.PH
 cases f with
 |next=>exact wpAny_execs_nil z
 | ret v
 | brk
 |cont=>exact z
def fm(h:VSs X.QQ c P R b m):VS X c P R (.Try b (a::hs) [] [] d) m:=fk h
inductive pO (P:Program) (w:World) (K:Frag) (mg:Str->Option Value) (base:Heap) (x:Str) (ps:List Str) (ds:List Value) (k:Nat) (sp:Sp):Prop
 | mk:∀f fd,mg x=some (.ref f)->keepIn K (.ref f)=true->DU K fd ps []->DU K fd ps ds->cX P w K mg base FA k f fd ps sp->(∃oc od osl,K.lookup f=some ⟨oc,od,.func fd,osl⟩)->pO P w K mg base x ps ds k sp
def pO.can{K:Frag} (h:pO r w K q n x p s k o):GL r w K q n x p k o:=by
 obtain⟨f,l,j,i,g,m,e,c,b,a,d⟩:=h;exact⟨f,l,j,i,g,e,c,b,a,d⟩
def fo{Pr:Program}{w:World}{K:Frag}{u:Heap} {st:Stmt} {k:Nat} (Df:Ag K mg x st its)(S:eV N ps (aQ st))
  (hb:∀(T:Addr)(kV t p:Value)(B:Option Addr)(i z:Value)(j:List Value),j.length=ps.length->∃g,bindArgs (fnOf x x (dq st) (cD st) (aQ st) (.ref T) kV t p B i z) ⟨j,[]⟩=seqItems? (.ref T) >>= g/\g (some its)=pure (ps.zip j))
  (m:Nat) (hb2:∀(T:Addr)(kV t p:Value)(B:Option Addr)(i z:Value)(j:List Value),j.length=m->∃g,bindArgs (fnOf x x (dq st) (cD st) (aQ st) (.ref T) kV t p B i z) ⟨j,[]⟩=seqItems? (.ref T) >>= g/\g (some its)=pure (ps.zip (j++its.toList)))
  (p lm:List Md) {b:MS} (hR:eX R) (hR0:∀N H F C,R N H F C .Pl .Pl) (hm:m+its.toList.length=ps.length:=by rfl) (Y:p.length=ps.length:=by rfl) (y:(p++lm).length=N.length:=by rfl) (hp:∀m∈p,m≠.o:=by decide)
  (body:∀(f:Addr)(i:Value)(A:Around)(l:List Env)(s:Shared)(H:Hp)(E:XK),aY k (A.deeper (envOfC x (aQ st) s.heap.objs.size f i))->∀P,VSs ((gD FA Pr w K mg u N x (aQ st) f i A l s H E).QQ) (p++lm) P R (cD st) b):
  pO Pr w K mg u x ps its.toList (k+1) (EH K mg p R (aL N.length b)):=by
 obtain⟨f,oc,od,T,kV,t,pmv,B,i,z,X,o,n,h1,lk,Z,h2,ht,hd⟩:=Df;refine⟨f,_,h1,h2,λs j L y=>?_,λs j L y=>?_,xQ lk Z S (λvs H Q E h=>?_) λA l s H vs Q E hr h=>?_,oc,od,X,lk⟩
 ·rw[zE] at y ⊢;obtain⟨g,J,I⟩:=hb T kV _ _ B _ z j y;exact BindsTo.of_defaults rfl (L _ _ ht) hd J I
 ·rw[zg] at y;obtain⟨g,J,I⟩:=hb2 T kV _ _ B _ z j (by omega);exact BindsTo.of_defaults rfl (L _ _ ht) hd J I
 ·obtain⟨ds,O,F,C,d,O',r,a⟩:=h;rw[a.len.1,Y]
 ·obtain⟨ds,O,F,C,d,O',r,a,e,q⟩:=h;refine⟨_,(body f _ A _ s H E hr (Pt.all H)).QQ,?_⟩;refine⟨_,O,F,C,r,uL a y hp,?_⟩;unfold aL at e
  cases eb:b _ O<;>rw[eb] at e<;>cases e
  ·exact λσ' U W as' g G _=>q _ U W _ g.gr G (hR0 _ _ _ _)
  ·exact λv U W as' g G hv=>q v U W _ g.gr G (hR _ _ _ _ _ _ _ (λc hc=>jx.mp hc) hv)
def fq{p a:Pos}(C:pO X.prog X.w X.K X.mg X.base x ps [.bool b] k (EH X.K X.mg pm (rV X.K) cf))(m:aY k X.A)(t:AE X md P pm.dropLast (e::es) ma)(g:pm=pm.dropLast++[.v]:=by rfl)(n:Gl X x:=by rfl)(i:SV x:=by decide)
  (o:SW X.env e es:=by exact bT rfl) (h:SY X.env a es:=by exact cF rfl):VE X md P (.Call (.Name x p) (e::es) [] a) (aC cf (IT ma (.bl b))):=by
 obtain⟨f,Y,z,c,W,y,u⟩:=C
 refine(Fw (dvs:=[.bl b]) u m n z c y (.cons rfl .nil) lz t i o h).imp λσ H Q q=>?_
 obtain⟨ρ,O,F,J,Z,L,r,s,I,q⟩:=yx iZ q;obtain⟨j,O2,G,E⟩:=C8.Pi I;cases E;refine⟨ρ,O,F,J,j,L,r,s,G,λU N R T B l d=>?_⟩;have c:=d.snoc (v:=.bl b) Rp.bl;rw[<-g] at c
 have:=q _ N R _ B l c
 rwa [zE] at this
section
variable {X:Cx}{md:List Md}{P:Pt}{R:RR}
def ft:gj X (.type "dict") (λg H Q=>∃a c,g=[V.ref a]/\H a=some (.dK c)/\∀l,H l=none->Q (.ref l) (DB H l (.dK c))):=by
 intro i s σ H g v Q I r h;obtain⟨a,c,rfl,m,q⟩:=h;obtain⟨u,rfl,k⟩:=DT r;cases k;obtain⟨z,f,t,d,p⟩:=uD I.Pm m;have w:=d.length
 refine kt_call_dict f p (by omega) λx hD j=>?_
 have n:(s.heap.objs.size == sysModules)=false:=beq_eq_false_iff_ne.mpr (Nat.ne_of_gt I.big);exact⟨.ref s.heap.objs.size,_,I.laid (t':=s.toks) (λb o e=>(j.2 b (zt (zm e))).trans (zq _ e)) (zc _) (yc z n d hD),rfl,q _ (I.Pm.fresh (zc _))⟩
def Aj(b:M D):M D:=λρ O=>(b ρ O).bind λx a=>match x with
 | .ob n=>match a[n]? with
  |some (.dk kvs)=>.ok (.ob a.length) (a++[.dk kvs])
  | _=>.no
 | _=>.no
def fu{e:Expr}{E u:Pos}{m:M D}(j:X.mg "dict" = none)(g:VE X md P e m)(o:Gl X "dict":=by rfl)
  (w:SW X.env e []:=by exact bT rfl) (i:SY X.env u []:=by exact cF rfl):VE X md P (.Call (.Name "dict" E) [e] [] u) (Aj m):=by
 refine(ux ft o j (by decide +kernel) (dZ g fK w) (by decide) (by decide) w i).imp λσ H Q q=>?_
 obtain⟨ρ,O,F,K,d,T,r,s,e,k⟩:=q;obtain⟨x,N,J,e⟩:=C8.Pi e;split at e
 ·rename_i n;split at e
  ·rename_i L I;cases e;refine⟨ρ,_,F,K,_,_,r,s,J,λv A h b G c hv=>?_⟩;obtain⟨a,rfl,g⟩:=Rp.Qo hv;obtain⟨p,C,B⟩:=c.dk g I;refine⟨a,p,rfl,C,λl f=>?_⟩;have y:Gr A h b (DB A l (.dK p)) h (b++[l]):=Gr.snoc f;have t:=EJ.gr B y;refine k _ _ h (b++[l]) (G.trans y) ((c.lay f).QU (c.unF f) (λz=>c.all z f) ⟨_,bG,t.1,t.2⟩) (Rp.Po ?_);rw[<-c.len,zN (zc _),Nat.sub_self];rfl
  ·cases e
 ·cases e
end
section
variable {X:Cx}{md:List Md}{P:Pt}{R:RR}
def Jb(K:Frag):R2:=λx y H Q=>∃(p q:Addr)(b a:List (DC×V))(r:Bool),x=.ref p/\y=.ref q/\H p=some (.dK b)/\H q=some (.dK a)/\m8 K H a b r/\Q (.bl (!(b.length == a.length&&r))) H
def fv{k:Nat}(i:aY k X.A):EB X (compareOp .NotEq) (Jb X.K):=by
 intro c s σ H x y v u Q I g f h;obtain⟨p,q,E,B,r,rfl,rfl,l,j,m,k⟩:=h;cases g;cases f;obtain⟨w,e,C,b,o⟩:=uD I.Pm l;obtain⟨t,d,z,a,n⟩:=uD I.Pm j;have F:=i.un;refine keq_ne e d o n (by omega) (λ_=>m8.keq I (by show X.A.units+1+64<_;omega) a b m) ⟨.bl _,H,I,rfl,?_⟩;rw[<-b.length,<-a.length];exact k
def pQ(n:Nat)(c mb:M D):M D:=λρ O=>(c ρ O).bind λx d=>(mb ρ d).bind λy a=>match x,y with
 | .ob i,.ob j=>match a[i]?,a[j]? with
  |some (.dk ks),some (.dk ls)=>match m9 a n ls ks with
   |some b=>.ok (.bl (!(ks.length == ls.length&&b))) a
   |none=>.no
  | _,_=>.no
 | _,_=>.no
def fx{K:Frag}{c:Str->Option Value}{n:Nat}{s mb:M D}{σ:St}{H:Hp}{Q:VK}(h:tM K c md P (rO K) (pQ n s mb) σ H Q):Jn (Jb K) (tM K c md P (rV K) s) (tM K c md P (rV K) mb) σ H Q:=by
 obtain⟨ρ,O,F,as,d,O',r,m,e,k⟩:=h;obtain⟨x,O1,Z,e⟩:=C8.Pi e;obtain⟨y,O2,Y,e⟩:=C8.Pi e;split at e
 ·rename_i i j;split at e
  ·rename_i ks ls E C;split at e
   ·rename_i b B;cases e;refine⟨ρ,_,F,as,_,_,r,m,Z,λv H1 F1 l z A N=>?_⟩;refine⟨ρ,_,F1,l,_,_,A,m.step z,Y,λu H2 F2 g w a T=>?_⟩;have f:=Rp.gr N w;obtain⟨p,rfl,W⟩:=Rp.Qo f;obtain⟨q,rfl,U⟩:=Rp.Qo T;obtain⟨L,I,t⟩:=a.dk W E;obtain⟨J,G,o⟩:=a.dk U C;refine⟨p,q,L,J,b,rfl,rfl,I,G,IW a o t B,?_⟩;rw[t.len,o.len];exact k _ H2 F2 g (z.trans w) a (.inl ⟨rfl,Rp.bl⟩)
   ·cases e
  ·cases e
 ·cases e
def fy(n:Nat){k:Nat}(e:aY k X.A){d c:Expr}{a:Pos}{b mb:M D}(g:VE X md P d b)(f:VE X md P c mb):TsE X md P (.Compare d [.NotEq] [c] a) (az (pQ n b mb)):=
 (Fj (fv e) g f (oO _)).imp λσ H Q h=>by
  have q:=oY h;exact fx q
end
def FY(o:Option D)(O:au):C8 D:=match o with
 |some d=>.ok d O
 |none=>.no
@[simp]theorem iH:FY (some d) O=.ok d O:=rfl
@[simp]theorem aR{a:α} {f:α->au->C8 β}:(C8.ok a O).bind f=f a O:=rfl
@[simp]theorem z6:aZ O .Pl=.Pl:=rfl
@[simp]theorem nu:aZ O (.bl b)=.bl b:=rfl
@[simp]theorem lM:aZ O (.int b)=.int b:=rfl
@[simp]theorem pR:aZ O (.str b)=.str b:=rfl
@[simp]theorem km:aZ O (.lst b)=.lst b:=rfl
@[simp]theorem As:aZ O (.tup b)=.tup b:=rfl
@[simp]theorem Au:aZ O (.QP a b)=.QP a b:=rfl
@[simp]theorem d9:aa i ρ O=(match ρ[i]? with | some (some d)=>.ok d O | _=>.no):=rfl
@[simp]theorem JE:mC d ρ O=.ok d O:=rfl
@[simp]theorem Ak:ak g a b ρ O=(a ρ O).bind λx d=>(b ρ d).bind λy c=>FY (g (aZ c x) (aZ c y)) c:=rfl
def gF(r:C8 D):C8 D:=match r with
 | .ok d O'=>if iY d=true then .ok d O' else .no
 |r=>r
@[simp]theorem OH:mG m ρ O=gF (m ρ O):=rfl
@[simp]theorem fA:gF (.ok (.int i) O)=.ok (.int i) O:=rfl
@[simp]theorem AA:gF (.ok (.str i) O)=.ok (.str i) O:=rfl
@[simp]theorem AB:gF (.ok (.bl i) O)=.ok (.bl i) O:=rfl
@[simp]theorem AC:gF (.ok .Pl O)=.ok .Pl O:=rfl
@[simp]theorem AD:gF (.ok (.tup l) O)=.ok (.tup l) O:=rfl
@[simp]theorem AF:gF (.ok (.ob n) O)=.ok (.ob n) O:=rfl
def L0(o:Option D)(O:au)(f:Unit->C8 D):C8 D:=match o with
 |some (.bl true)=>f ()
 |some (.bl false)=>.ok (.bl false) O
 | _=>.no
@[simp]theorem fE:L0 (some (.bl b)) O f=if b=true then f () else .ok (.bl false) O:=by cases b<;>rfl
@[simp]theorem Jc:gG g h a b c ρ O=(a ρ O).bind λx f=>(b ρ f).bind λy d=>L0 (g (aZ d x) (aZ d y)) d λ_=>(c ρ d).bind λz e=>FY (h (aZ e y) (aZ e z)) e:=by
 unfold gG;congr 1
@[simp]theorem fF:jz m ρ O=(m ρ O).bind λd a=>.ok (.bl (D6 d)) a:=rfl
@[simp]theorem AG:lF m ρ O=(m ρ O).bind λd a=>.ok (.bl (!D6 d)) a:=rfl
@[simp]theorem AH:D6 .Pl=true:=rfl
@[simp]theorem AI:D6 (.lst l)=false:=rfl
@[simp]theorem AJ:D6 (.tup l)=false:=rfl
@[simp]theorem AK:D6 (.str l)=false:=rfl
@[simp]theorem AL:D6 (.int l)=false:=rfl
@[simp]theorem AM:D6 (.ob l)=false:=rfl
def MQ(d:D)(O:au):C8 Bool:=match d with
 | .bl b=>.ok b O
 | _=>.no
@[simp]theorem Jd:MQ (.bl b) O=.ok b O:=rfl
@[simp]theorem Je:az m ρ O=(m ρ O).bind MQ:=rfl
def LV(o:Option Bool)(O:au):C8 Bool:=match o with
 |some d=>.ok d O
 |none=>.no
@[simp]theorem pU:LV (some d) O=.ok d O:=rfl
@[simp]theorem kE:bI m ρ O=(m ρ O).bind λd a=>LV (mR (aZ a d)) a:=rfl
@[simp]theorem nC:mR (.bl b)=some b:=rfl
@[simp]theorem AN:mR (.lst b)=some (!b.isEmpty):=rfl
@[simp]theorem vG:bZ a b ρ O=(a ρ O).bind λc d=>if c=true then b ρ d else .ok false d:=rfl
@[simp]theorem pX:cJ a b ρ O=(a ρ O).bind λc d=>if c=true then .ok true d else b ρ d:=rfl
@[simp]theorem nD:d7 a ρ O=(a ρ O).bind λc b=>.ok (!c) b:=rfl
def NM(d:D)(O:au)(f:Unit->C8 D):C8 D:=match d with
 | .bl true=>f ()
 | .bl false=>.ok (.bl false) O
 | _=>.no
@[simp]theorem AO:NM (.bl b) O f=if b=true then f () else .ok (.bl false) O:=by cases b<;>rfl
@[simp]theorem fI:fU a b ρ O=(a ρ O).bind λd c=>NM d c λ_=>b ρ c:=by
 congr 1
def MZ(d:D)(O:au):C8 D:=match d with
 | .bl b=>.ok (.bl (!b)) O
 | _=>.no
@[simp]theorem AQ:MZ (.bl b) O=.ok (.bl (!b)) O:=rfl
@[simp]theorem AR:yq a ρ O=(a ρ O).bind MZ:=rfl
@[simp]theorem jE:EW t a b ρ O=(t ρ O).bind λc d=>if c=true then a ρ d else b ρ d:=rfl
@[simp]theorem lN:ao ρ O=.ok [] O:=rfl
@[simp]theorem jF:aj m r ρ O=(m ρ O).bind λd b=>(r ρ b).bind λds a=>.ok (d::ds) a:=rfl
@[simp]theorem Jf:bf r ρ O=(r ρ O).bind λa b=>if a.length<=1000000 then .ok (.lst a) b else .no:=rfl
@[simp]theorem Jg:aU r ρ O=(r ρ O).bind λa b=>if a.length<=1000000 then .ok (.tup a) b else .no:=rfl
@[simp]theorem nF:aC c b ρ O=(b ρ O).bind λds a=>c ds a:=rfl
@[simp]theorem Al:aO g c ρ O=(c ρ O).bind λb a=>FY (g (b.map (aZ a))) a:=rfl
@[simp]theorem AS:HU g b ρ O=(b ρ O).bind λd a=>FY (g (aZ a d)) a:=rfl
def Nn(n:String)(o:Option String)(O:au):C8 D:=match o with
 |some t=>.ok (.bl (lJ t n)) O
 |none=>.no
@[simp]theorem Jh:Nn n (some t) O=.ok (.bl (lJ t n)) O:=rfl
@[simp]theorem Ji:gV n m ρ O=(m ρ O).bind λd a=>Nn n (GM (aZ a d)) a:=rfl
@[simp]theorem AU:GM .Pl=some "NoneType":=rfl
@[simp]theorem AV:GM (.bl b)=some "bool":=rfl
@[simp]theorem AW:GM (.int b)=some "int":=rfl
@[simp]theorem fN:GM (.str b)=some "str":=rfl
@[simp]theorem AX:GM (.lst b)=some "list":=rfl
@[simp]theorem AY:GM (.tup b)=some "tuple":=rfl
@[simp]theorem AZ:GM (.QP a b)=some "dict":=rfl
@[simp]theorem A0:EA ρ O=.ok none O:=rfl
def MY(d:D)(O:au):C8 (Option Int):=match d with
 | .int i=>.ok (some i) O
 | _=>.no
@[simp]theorem fR:MY (.int i) O=.ok (some i) O:=rfl
@[simp]theorem fT:D2 m ρ O=(m ρ O).bind MY:=rfl
@[simp]theorem gc{lo:M (Option Int)}:D5 m lo e ρ O=(m ρ O).bind λd c=>(lo ρ c).bind λl b=>(e ρ b).bind λh a=>FY (GO (aZ a d) l h) a:=rfl
@[simp]theorem Jj{lo:Option Int}:GO (.str l) lo a=if l.length<=16777216 then some (.str (cI l lo a)) else none:=rfl
@[simp]theorem vH{lo:Option Int}:GO (.lst l) lo a=some (.lst (cI l lo a)):=rfl
@[simp]theorem A3{lo:Option Int}:GO (.tup l) lo a=some (.tup (cI l lo a)):=rfl
def iI(f:Fl)(b:MS):Fl:=match f with
 | .nx ρ' O'=>b ρ' O'
 |r=>r
@[simp]theorem cZ:aq a b ρ O=iI (a ρ O) b:=rfl
@[simp]theorem iJ:iI (.nx ρ O) b=b ρ O:=rfl
@[simp]theorem gd:iI (.rt d O) b=.rt d O:=rfl
@[simp]theorem A4:iI (.bk ρ O) b=.bk ρ O:=rfl
@[simp]theorem A5:iI (.ct ρ O) b=.ct ρ O:=rfl
@[simp]theorem A6:iI .no b=.no:=rfl
@[simp]theorem Am:aK ρ O=.nx ρ O:=rfl
def lO(r:C8 D):Fl:=match r with
 | .ok d O'=>.rt d O'
 | .ex x O'=>.ex x O'
 | .no=>.no
@[simp]theorem fc:aB m ρ O=lO (m ρ O):=rfl
@[simp]theorem Jk:lO (.ok d O)=.rt d O:=rfl
def Jl(r:C8 D)(ρ:aN):Fl:=match r with
 | .ok _ O'=>.nx ρ O'
 | .ex x O'=>.ex x O'
 | .no=>.no
@[simp]theorem rT:dY m ρ O=Jl (m ρ O) ρ:=rfl
@[simp]theorem vI:Jl (.ok d O) ρ=.nx ρ O:=rfl
def Kx(r:C8 Bool)(a b:MS)(ρ:aN):Fl:=match r with
 | .ok c O'=>if c=true then a ρ O' else b ρ O'
 | .ex x O'=>.ex x O'
 | .no=>.no
@[simp]theorem jG:aF t a b ρ O=Kx (t ρ O) a b ρ:=rfl
@[simp]theorem rY:Kx (.ok c O) a b ρ=if c=true then a ρ O else b ρ O:=rfl
def rZ(i:Nat)(r:C8 D)(ρ:aN):Fl:=match r with
 | .ok d O'=>.nx (ρ.set i (some d)) O'
 | .ex x O'=>.ex x O'
 | .no=>.no
@[simp]theorem sr:aA i m ρ O=rZ i (m ρ O) ρ:=rfl
@[simp]theorem su:rZ i (.ok d O) ρ=.nx (ρ.set i (some d)) O:=rfl
def Jm(r:C8 (List D))(g:MG)(b:MS)(ρ:aN):Fl:=match r with
 | .ok ds O'=>bw g b ds ρ O'
 | .ex x O'=>.ex x O'
 | .no=>.no
@[simp]theorem sE:bV m g b ρ O=Jm (m ρ O) g b ρ:=rfl
@[simp]theorem sG:Jm (.ok a O) g b ρ=bw g b a ρ O:=rfl
@[simp]theorem Kn:C9 i d ρ=some (ρ.set i (some d)):=rfl
def bx(f:Fl):C8 D:=match f with
 | .rt d O'=>.ok d O'
 | .nx _ O'=>.ok .Pl O'
 | .ex x O'=>.ex x O'
 | _=>.no
@[simp]theorem gg:aL n b a O=bx (b (a.map some++List.replicate (n - a.length) none) O):=rfl
@[simp]theorem gi:bx (.rt d O)=.ok d O:=rfl
@[simp]theorem Jo:bx (.nx ρ O)=.ok .Pl O:=rfl
@[simp]theorem gp:gK m ρ O=(m ρ O).bind λa b=>match a with
 | [.int j]=>if j<=1000000000/\-1000000000<=j then .ok (gW 0 j.toNat) b else .no
 | _=>.no:=rfl
def itF(o:Option (List D))(O:au):C8 (List D):=match o with
 |some a=>.ok a O
 |none=>.no
@[simp]theorem An:itF (some a) O=.ok a O:=rfl
@[simp]theorem nG:bj m ρ O=(m ρ O).bind λd O1=>itF (m5 d) O1:=rfl
@[simp]theorem gu:m5 (.lst a)=some a:=rfl
@[simp]theorem A7:m5 (.tup a)=some a:=rfl
def Jp(h:DH l=true):m5 (.str l)=some (cL l):=by
 show(if DH l=true then some _ else none)=_;rw[if_pos h]
@[simp]theorem sH:bJ m own f g t e ρ O=(m ρ O).bind λa d=>if a.length<=1000000 then(cN g t e a (eY own f ρ) d []).bind λb c=>.ok (.lst b) c else .no:=rfl
@[simp]theorem A8:aD (.int i) (.int j)=some (.int (i+j)):=rfl
@[simp]theorem gv:aD (.str a) (.str b)=if a.length+b.length<=1000000 then some (.str (a++b)) else none:=rfl
@[simp]theorem gx:aD (.lst a) (.lst b)=if a.length+b.length<=1000000 then some (.lst (a++b)) else none:=rfl
@[simp]theorem A9:gH (.int i) (.int j)=some (.int (i - j)):=rfl
@[simp]theorem gy:bK (.int i) (.int j)=if 0<j then some (.int (i % j)) else none:=by
 unfold bK gI
 by_cases 0<j<;>simp
@[simp]theorem gz:gR (.int i) (.int j)=if 0<j/\j<1073741824 then some (.int (i / j)) else none:=by
 unfold gR gI
 by_cases 0<j/\j<1073741824<;>simp
def Jq(h:(-(2 ^ 64)<i/\i<2 ^ 64)\/(-(2 ^ 64)<j/\j<2 ^ 64)):gk (.int i) (.int j)=some (.int (i * j)):=by
 unfold gk
 dsimp
 rw[if_pos];rw[Bool.or_eq_true];unfold o9;rw[zC,zC,decide_eq_true_eq,decide_eq_true_eq,decide_eq_true_eq,decide_eq_true_eq];exact h
@[simp]theorem Bi:E7 (.int i) (.int j)=some (.bl (decide (i<j))):=rfl
@[simp]theorem Bn:HE (.int i) (.int j)=some (.bl (decide (j<i))):=rfl
@[simp]theorem gE:Fm (.int i) (.int j)=some (.bl (decide (i<=j))):=rfl
def Jr(a b:Nat):(([a]:List Nat) < [b])↔a<b:=by
 constructor
 ·intro h
  rcases List.cons_lt_cons_iff.mp h with h | ⟨_,h⟩
  ·exact h
  ·exact absurd h (List.not_lt_nil _)
 ·intro h;exact List.cons_lt_cons_iff.mpr (.inl h)
@[simp]theorem Bz:Fm (.str [a]) (.str [b])=some (.bl (decide (a<=b))):=by
 show some _=_
 have:decide ([b] < [a])=decide (b<a):=by
  by_cases h:b<a
  ·rw[zw h,zw ((Jr _ _).mpr h)]
  ·rw[zo h,zo λz=>h ((Jr _ _).mp z)]
 rw[this]
 by_cases h:b<a
 ·rw[zw h,zo (by omega)];rfl
 ·rw[zo h,zw (by omega)];rfl
@[simp]theorem BA:DA (.int i) (.int j)=some (.bl (decide (i=j))):=rfl
@[simp]theorem gL:DA (.str i) (.str j)=some (.bl (decide (i=j))):=rfl
@[simp]theorem BB:DA (.bl i) (.bl j)=some (.bl (decide (i=j))):=rfl
@[simp]theorem gN:DA (.lst i) (.lst j)=if(okE (.lst i)&&okE (.lst j))=true then some (.bl (j5 (.lst i) (.lst j))) else none:=rfl
@[simp]theorem BC:EK (.int i) (.int j)=some (.bl (!decide (i=j))):=rfl
@[simp]theorem BD:EK (.str i) (.str j)=some (.bl (!decide (i=j))):=rfl
@[simp]theorem BE:EK (.bl i) (.bl j)=some (.bl (!decide (i=j))):=rfl
@[simp]theorem Ao:EK (.lst i) (.lst j)=if(okE (.lst i)&&okE (.lst j))=true then some (.bl (!j5 (.lst i) (.lst j))) else none:=rfl
@[simp]theorem Js:F0 n (.str [c]) (.str l)=some (.bl (n ^^ decide (c∈l))):=rfl
def vJ:C7 (.lst a) (.int i)=Qb a i:=rfl
def Jt:C7 (.str l) (.int i)=if l.length<=1000000 then(Qb l i).map (λc=>.str [c]) else none:=rfl
@[simp]theorem Ju:aX [.str l]=if l.length<=1000000 then some (.int l.length) else none:=rfl
@[simp]theorem BF:aX [.lst l]=some (.int l.length):=rfl
@[simp]theorem BG:aX [.tup l]=some (.int l.length):=rfl
@[simp]theorem BH:mW [.int i]=some (.int i):=rfl
@[simp]theorem BI:mW [.bl b]=some (.int (if b then 1 else 0)):=rfl
@[simp]theorem BM:jA (.int 10) (.int 18)=some (.int 1000000000000000000):=by rfl
@[simp]theorem BN:jA (.int 10) (.int 9)=some (.int 1000000000):=by rfl
@[simp]theorem pY{a:List α}{j:Nat}:Qb a (j:Int)=a[j]?:=by
 unfold Qb He;rw[if_pos (by omega)]
 by_cases j<a.length
 ·rw[if_pos (by omega)];simp
 ·rw[if_neg (by omega),jr (by omega)];rfl
def Jv{a:List α}{i:Int}(c:0<=i)(d:i<a.length):∃x,Qb a i=some x/\x∈a:=by
 obtain⟨j,rfl⟩:=Int.eq_ofNat_of_zero_le c
 have b:j<a.length:=by omega
 exact⟨a[j],by show Qb a (j:Int)=_;rw[pY,zB b],jh b⟩
section
variable {c:Prop}[Decidable c]
@[simp]theorem BO{a b:Fl}:bx (if c then a else b)=if c then bx a else bx b:=by split<;>rfl
@[simp]theorem BQ{a b:C8 D}:lO (if c then a else b)=if c then lO a else lO b:=by split<;>rfl
@[simp]theorem BS{a b:Fl}{r:MS}:iI (if c then a else b) r=if c then iI a r else iI b r:=by split<;>rfl
@[simp]theorem BU{α β:Type}{a b:C8 α}{f:α->au->C8 β}:(if c then a else b).bind f=if c then a.bind f else b.bind f:=by split<;>rfl
@[simp]theorem BY{a b:C8 Bool}{x y:MS}{ρ:aN}:Kx (if c then a else b) x y ρ=if c then Kx a x y ρ else Kx b x y ρ:=by split<;>rfl
@[simp]theorem B0{a b:C8 D}{i:Nat}{ρ:aN}:rZ i (if c then a else b) ρ=if c then rZ i a ρ else rZ i b ρ:=by split<;>rfl
@[simp]theorem B1{a b:Option D}{O:au}:FY (if c then a else b) O=if c then FY a O else FY b O:=by split<;>rfl
end
@[simp]theorem gS:lJ "str" "str" = true:=by decide
@[simp]theorem B2:lJ "int" "int" = true:=by decide
@[simp]theorem B3:lJ "int" "bool" = false:=by decide
theorem vK(l:Nat->aN->au->Prop):∀(f:List D)(k:Nat)(ρ:aN)(O:au),l k ρ O ->
  (∀i d ρ O,f[i]?=some d->l (k+i) ρ O->∃e,g d ρ=some e/\∃c m,(b e O=.nx c m\/b e O=.ct c m)/\l (k+i+1) c m)->∃a j,bw g b f ρ O=.nx a j/\l (k+f.length) a j
 | [],k,ρ,O,h,_=>⟨ρ,O,rfl,h⟩
 |d::f,k,ρ,O,h,hs=>by
  obtain⟨e,t,c,m,n,r⟩:=hs 0 d ρ O rfl h
  obtain⟨a,j,s,q⟩:=vK l f (k+1) c m r λi u a j p o=>by
   have:=hs (i+1) u a j (by simpa using p) (by rw[show k+(i+1)=k+1+i by omega];exact o)
   rw[show k+(i+1)+1=k+1+i+1 by omega] at this;exact this
  refine⟨a,j,?_,by rw[zu,show k+(f.length+1)=k+1+f.length by omega];exact q⟩;unfold bw;rw[t];dsimp only
  rcases n with n | n<;>rw[n]<;>exact s
theorem Jw(e:aN->Prop)(f:D->D):∀(c:List D)(ρ:aN)(O:au)(b:List D),e ρ->(∀d∈c,∀ρ,e ρ->∃a,g d ρ=some a/\e a/\t a O=.ok true O/\m a O=.ok (f d) O)->cN g t m c ρ O b=.ok (b++c.map f) O
 | [],ρ,O,b,_,_=>by simp[cN]
 |d::c,ρ,O,b,h,hs=>by
  obtain⟨a,n,j,l,k⟩:=hs d zd ρ h;unfold cN;rw[n];dsimp only;rw[l];dsimp only;rw[k];dsimp only;rw[Jw e f c a O _ j λo i=>hs o (zl _ i)];simp
theorem Jx{g:MG}{t:M Bool}{m:M D}(e:aN->Prop)(p:D->Bool):∀(c:List D)(ρ:aN)(O:au)(b:List D),e ρ->(∀d∈c,∀ρ,e ρ->∃a,g d ρ=some a/\e a/\t a O=.ok (p d) O/\m a O=.ok d O)->cN g t m c ρ O b=.ok (b++c.filter p) O
 | [],ρ,O,b,_,_=>by simp[cN]
 |d::c,ρ,O,b,h,hs=>by
  obtain⟨a,n,j,l,k⟩:=hs d zd ρ h
  have i:=λb=>Jx e p c a O b j λo f=>hs o (zl _ f)
  unfold cN;rw[n];dsimp only;rw[l]
  cases q:p d with
  |true =>
   dsimp only;rw[k];dsimp only;rw[i,List.filter_cons,q];simp
  |false =>
   dsimp only;rw[i,List.filter_cons,q];simp
@[simp]theorem B4:EE (.int i)=some (.inl i):=rfl
@[simp]theorem B5:EE (.str i)=some (.inr (S i)):=rfl
def LW(o:Option (List (List Nat)))(O:au):C8 D:=match o with
 |some a=>if(a.map List.length).sum<=1000000 then .ok (.str a.flatten) O else .no
 |none=>.no
@[simp]theorem gT:LW (some a) O=if(a.map List.length).sum<=1000000 then .ok (.str a.flatten) O else .no:=rfl
def Nc(d:D)(O:au):C8 D:=match d with
 | .lst ds=>LW (gY ds) O
 | _=>.no
@[simp]theorem gX:Nc (.lst a) O=LW (gY a) O:=rfl
@[simp]theorem g9:mZ m ρ O=(m ρ O).bind λd a=>Nc (aZ a d) a:=rfl
theorem Jy{α:Type}{f:α->List Nat}:∀l:List α,gY (l.map λx=>.str (f x))=some (l.map f)
 | []=>rfl
 |x::l=>by
  show(gY _).map _=_;rw[Jy];rfl
@[simp]theorem B6:eY own a ρ=List.replicate own none++a.map λj=>(ρ[j]?).join:=rfl
@[simp]theorem B7:cN g t m [] ρ O a=.ok a O:=rfl
theorem pZ:∀ds:List D,j0 ds=ds.map toP
 | []=>rfl
 |d::ds=>by rw[j0,pZ];rfl
theorem vL:∀{ds:List D},(∀d∈ds,d8 d=true)->j4 ds=true
 | [],_=>rfl
 |d::ds,h=>by rw[j4,h d zd,vL λx a=>h x (zl _ a)];rfl
def qb(c:n<60) (h:∀d∈e,d8 d=true/\(toP d).canLay0=true/\(toP d).depth<=n):okE (.lst e)=true:=by
 unfold okE;rw[zC];refine⟨?_,?_⟩
 ·exact vL λd a=>(h d a).1
 ·rw[toP,pZ]
  refine Wq c λd a=>?_
  obtain⟨x,b,rfl⟩:=zv.mp a;exact(h x b).2
def nH(h:∀c∈l,c<1114112):(PyData.str (S l)).canLay0=true:=by
 show PyData.strOk _=true;unfold PyData.strOk S;simp;exact h
def Aq(h:okE d=true):j5 d d=true:=by
 unfold okE at h;rw[zC] at h
 have:=h.2
 unfold GW at this;rw[zC] at this;exact SeqAt.eqv_refl _ this.1
def it(f:Int->Int):Nat->Int->Int
 | 0,x=>x
 |n+1,x=>f (it f n x)
def EM(n k:Int):Int:=if n>1000000000000000000 then it (λr=>r / 1000000000) k.toNat n % 1000000000
 else
  let m:=it (λm=>(m * 48271+104729) % 2147483629) (k+2).toNat (n % 2147483647+7919)
  m * m % 998244353 / 11
def Jz(j:Nat)(x:Int)(b:0<=x)(a:x<2147491566):0<=it (λm=>(m * 48271+104729) % 2147483629) j x/\it (λm=>(m * 48271+104729) % 2147483629) j x<2147491566:=by
 induction j with
 |zero=>exact⟨b,a⟩
 |succ j ih =>
  refine⟨jv _ (by decide),?_⟩
  have:=jw (it (λm=>(m * 48271+104729) % 2147483629) j x * 48271+104729) (show(0:Int)<2147483629 by decide)
  show(it (λm=>(m * 48271+104729) % 2147483629) j x * 48271+104729) % 2147483629<_;omega
def Ar:MS:=(aq (aF (az (ak HE (aa 0) (ak jA (mC (.int 10)) (mC (.int 18))))) (aq (aA 2 (mG (aa 0)))
  (aq (bV (gK (aj (aa 1) ao)) (C9 3) (aA 2 (ak gR (aa 2) (ak jA (mC (.int 10)) (mC (.int 9))))))
  (aB (ak bK (aa 2) (ak jA (mC (.int 10)) (mC (.int 9))))))) aK)
  (aq (aA 4 (ak aD (ak bK (aa 0) (mC (.int 2147483647))) (mC (.int 7919))))
  (aq (bV (gK (aj (ak aD (aa 1) (mC (.int 2))) ao)) (C9 3) (aA 4 (ak bK (ak aD (ak gk (aa 4) (mC (.int 48271))) (mC (.int 104729))) (mC (.int 2147483629)))))
  (aB (ak gR (ak bK (ak gk (aa 4) (aa 4)) (mC (.int 998244353))) (mC (.int 11)))))))
def JB(lo:Int)(n:Nat):(gW lo n).length=n:=by simp[gW]
def hA(n k:Int)(v:0<=k)(u:k<=1000000)(O:au):aL 5 Ar [.int n,.int k] O=.ok (.int (EM n k)) O:=by
 unfold EM
 by_cases p:n>1000000000000000000
 ·obtain⟨o,c,e,rfl,a,rfl⟩:=vK (g:=C9 3) (b:=aA 2 (ak gR (aa 2) (ak jA (mC (.int 10)) (mC (.int 9)))))
   (λi ρ c=>c=O/\∃a,ρ=[some (.int n),some (.int k),some (.int (it (λr=>r / 1000000000) i n)),a,none]) (gW 0 k.toNat) 0 [some (.int n),some (.int k),some (.int n),none,none] O ⟨rfl,none,rfl⟩ (by
    rintro i d ρ c hi ⟨rfl,a,rfl⟩;refine⟨_,rfl,?_⟩;simp;rw[show it (λr=>r / 1000000000) (i+1) n=it (λr=>r / 1000000000) i n / 1000000000 from rfl]
    exact⟨_,_,⟨rfl,rfl⟩,rfl,_,rfl⟩)
  rw[JB,jp] at e
  have l:k<=1000000000/\-1000000000<=k:=by omega
  simp[Ar,p,l,e]
 ·have h:0<=n % 2147483647+7919:=by have:=jv n (show(2147483647:Int)≠0 by decide);omega
  have f:n % 2147483647+7919<2147491566:=by have:=jw n (show(0:Int)<2147483647 by decide);omega
  obtain⟨o,c,e,rfl,a,rfl⟩:=vK (g:=C9 3) (b:=aA 4 (ak bK (ak aD (ak gk (aa 4) (mC (.int 48271))) (mC (.int 104729))) (mC (.int 2147483629))))
   (λi ρ c=>c=O/\∃a,ρ=[some (.int n),some (.int k),none,a,some (.int (it (λm=>(m * 48271+104729) % 2147483629) i (n % 2147483647+7919)))]) (gW 0 (k+2).toNat) 0 [some (.int n),some (.int k),none,none,some (.int (n % 2147483647+7919))] O ⟨rfl,none,rfl⟩ (by
    rintro i d ρ c hi ⟨rfl,a,rfl⟩;refine⟨_,rfl,?_⟩;obtain⟨t,s⟩:=Jz i _ h f
    have:=Jq (i:=it (λm=>(m * 48271+104729) % 2147483629) i (n % 2147483647+7919)) (j:=48271) (.inr ⟨by decide,by decide⟩)
    simp[this]
    rw[show it (λm=>(m * 48271+104729) % 2147483629) (i+1) (n % 2147483647+7919)=(it (λm=>(m * 48271+104729) % 2147483629) i (n % 2147483647+7919) * 48271+104729) % 2147483629 from rfl]
    exact⟨_,_,⟨rfl,rfl⟩,rfl,_,rfl⟩)
  rw[JB,jp] at e
  have l:k+2<=1000000000/\-1000000000<=k+2:=by omega
  obtain⟨t,s⟩:=Jz (k+2).toNat _ h f;have q:=Jq (i:=it (λm=>(m * 48271+104729) % 2147483629) (k+2).toNat (n % 2147483647+7919)) (j:=it (λm=>(m * 48271+104729) % 2147483629) (k+2).toNat (n % 2147483647+7919)) (.inl ⟨by omega,by omega⟩);simp[Ar,p,l,e,q]
def fj(a:List Str)(f:Str)(d:D)(O:au):C8 D:=match d with
 | .ob n=>match O[n]? with
  |some (.ins c fs)=>if c∈a then match fs.lookup f with
   |some y=>.ok y O
   |none=>.no else .no
  | _=>.no
 | _=>.no
@[simp]theorem JC:bz a f m ρ O=(m ρ O).bind (fj a f):=rfl
def E1(a:List Str)(f:Str)(d:D)(ρ:aN)(r:C8 D):Fl:=match r with
 | .ok (.ob n) O2=>match O2[n]? with
  |some (.ins c fs)=>if c∈a/\fs.length<900 then .nx ρ (O2.set n (.ins c (DS f d fs))) else .no
  | _=>.no
 | _=>.no
def LS(b:List Str)(f:Str)(a:M D)(r:C8 D)(ρ:aN):Fl:=match r with
 | .ok d O1=>E1 b f d ρ (a ρ O1)
 | .ex x O'=>.ex x O'
 | .no=>.no
@[simp]theorem Av:bO c f b a ρ O=LS c f b (a ρ O) ρ:=by
 unfold bO LS E1
 cases a ρ O<;>rfl
@[simp]theorem Aw:LS b f a (.ok d O) ρ=E1 b f d ρ (a ρ O):=rfl
def IS(c m:Str)(e:List D->au->C8 D)(b:au->C8 (List D))(d:D)(a:au):C8 D:=match d with
 | .ob n=>match a[n]? with
  |some (.ins c' fs)=>if c'=c/\(fs.lookup m).isNone=true then(b a).bind λds f=>e (.ob n::ds) f else .no
  | _=>.no
 | _=>.no
@[simp]theorem vM:aV c m d a b ρ O=(a ρ O).bind (IS c m d (b ρ)):=rfl
def Na(n:Nat)(r:C8 D):C8 D:=match r with
 | .ok .Pl O2=>.ok (.ob n) O2
 | .ok _ _=>.no
 | .ex x O2=>.ex x O2
 | .no=>.no
@[simp]theorem JD:dO c e d ρ O=(d ρ O).bind λb a=>Na a.length (e (.ob a.length::b) (a++[.ins c []])):=by
 unfold dO;congr 1
@[simp]theorem JF:Na n (.ok .Pl O)=.ok (.ob n) O:=rfl
def Mo(i:Nat)(r:C8 D)(ρ:aN):Fl:=match r with
 | .ok d O'=>match ρ[i]? with
  |some (some (.lst ds))=>if ds.length<1000000 then .nx (ρ.set i (some (.lst (ds++[d])))) O' else .no
  | _=>.no
 | .ex x O'=>.ex x O'
 | .no=>.no
@[simp]theorem vN:dB i m ρ O=Mo i (m ρ O) ρ:=rfl
def vO(h:ρ[i]?=some (some (.lst ds)))(a:ds.length<1000000):Mo i (.ok d O) ρ=.nx (ρ.set i (some (.lst (ds++[d])))) O:=by
 unfold Mo;rw[h];dsimp;rw[if_pos a]
def LD(i:Nat)(r:C8 D)(ρ:aN):Fl:=match r with
 | .ok d O'=>match ρ[i]?,aZ O' d with
  |some (some (.lst ds)),.lst es=>if ds.length+es.length<=1000000 then .nx (ρ.set i (some (.lst (ds++es)))) O' else .no
  | _,_=>.no
 | .ex x O'=>.ex x O'
 | .no=>.no
@[simp]theorem JG:gZ i m ρ O=LD i (m ρ O) ρ:=rfl
def JH(h:ρ[i]?=some (some (.lst ds)))(a:ds.length+b.length<=1000000):LD i (.ok (.lst b) O) ρ=.nx (ρ.set i (some (.lst (ds++b)))) O:=by
 unfold LD;rw[h];dsimp;rw[if_pos a]
def ND(d:D)(a:au):C8 (List D):=match d with
 | .lst ds=>.ok (dz 0 ds) a
 | .str l=>if DH l=true then .ok (dz 0 (cL l)) a else .no
 | _=>.no
@[simp]theorem B8:pF m ρ O=(m ρ O).bind ND:=rfl
def JK(h:DH l=true):ND (.str l) O=.ok (dz 0 (cL l)) O:=by
 show(if DH l=true then _ else _)=_;rw[if_pos h]
def Mn(r:C8 D)(g:MG)(ρ:aN):Fl:=match r with
 | .ok d O'=>match g d ρ with
  |some a=>.nx a O'
  |none=>.no
 | .ex x O'=>.ex x O'
 | .no=>.no
@[simp]theorem Ay:jY m g ρ O=Mn (m ρ O) g ρ:=rfl
def Az(h:g d ρ=some a):Mn (.ok d O) g ρ=.nx a O:=by
 unfold Mn;dsimp;rw[h]
@[simp]theorem JL:cM 2 (bh (C9 i) (bh (C9 j) cP)) (.tup [a,b]) ρ=some ((ρ.set i (some a)).set j (some b)):=rfl
def MV(a b:D)(O:au):C8 D:=match a,b with
 | .str l,.str n=>.ok (.bl (decide (l.take n.length=n))) O
 | _,_=>.no
@[simp]theorem hE:pq a b ρ O=(a ρ O).bind λx d=>(b ρ d).bind λy c=>MV x y c:=rfl
@[simp]theorem B9:MV (.str l) (.str n) O=.ok (.bl (decide (l.take n.length=n))) O:=rfl
theorem JM(d:Nat->aN->au->Prop):∀(n:Nat)(k:Nat)(ρ:aN)(O:au),k<n->d k ρ O ->
  (∀k ρ O,d (k+1) ρ O->t ρ O=.ok true O/\∃j a e,j<=k/\b ρ O=.nx a e/\d j a e)->(∀ρ O,d 0 ρ O->t ρ O=.ok false O)->∃c f,dM t b n ρ O=.nx c f/\d 0 c f
 | 0,k,ρ,O,hk,_,_,_=>absurd hk (Nat.not_lt_zero _)
 |n+1,0,ρ,O,_,h,_,h0=>by
  refine⟨ρ,O,?_,h⟩;unfold dM;rw[h0 ρ O h]
 |n+1,k+1,ρ,O,hk,h,hs,h0=>by
  obtain⟨o,j,a,e,p,m,i⟩:=hs k ρ O h;obtain⟨c,f,l,g⟩:=JM d n j a e (by omega) i hs h0;refine⟨c,f,?_,g⟩;unfold dM;rw[o];dsimp only;rw[m];exact l
theorem gO{α:Type}{g:MG}{t:M Bool}{m:M D}(d:aN->Prop)(f h:α->D):∀(c:List α)(ρ:aN)(O:au)(b:List D),d ρ->(∀x∈c,∀ρ,d ρ->∃a,g (f x) ρ=some a/\d a/\t a O=.ok true O/\m a O=.ok (h x) O)->cN g t m (c.map f) ρ O b=.ok (b++c.map h) O
 | [],ρ,O,b,_,_=>by simp
 |x::c,ρ,O,b,hp,hs=>by
  obtain⟨a,l,i,k,j⟩:=hs x zd ρ hp;rw[zh];unfold cN;rw[l]
  dsimp
  rw[k]
  dsimp
  rw[j]
  dsimp
  rw[gO d f h c _ O _ i λn e=>hs n (zl _ e)];simp
def kJ:List Nat:=[101,110,100]
def nJ:List Nat:=[97,110,101,119]
def jH:List Nat:=[112,108,97,105,110]
def bM:List Nat:=[115,105,103,110]
def fB:List Nat:=[105,110,107]
def fZ:List Nat:=[103,114,111,117,110,100]
def item(p:Int)(k v:List Nat):D:=.tup [.int p,.str k,.str v]
def D3(c:Nat):Bool:=decide (c∈[97,98,99,100,101,102,103,104,46])
def nM(h:D3 c=true):c≠91/\c≠93/\c≠47/\c≠10/\c≠9:=by
 have :=zT h
 have q:∀c∈[97,98,99,100,101,102,103,104,46],c≠91/\c≠93/\c≠47/\c≠10/\c≠9:=by decide
 exact q c this
def gn(x:Nat):List Nat->List Nat×List Nat×Nat
 | []=>(bM,[91],0)
 |e::_=>if e=93 then(fZ,[x],3) else(bM,[91],0)
def gb:List Nat->List Nat×List Nat×Nat
 | []=>(bM,[91],0)
 |x::t=>if D3 x=true then gn x t else(bM,[91],0)
def il(x:Nat):List Nat->List Nat×List Nat×Nat
 | []=>(bM,[91],0)
 |e::_=>if e=93 then(fB,[x],2) else(bM,[91],0)
def cG:List Nat->List Nat×List Nat×Nat
 | []=>(bM,[91],0)
 |d::t=>if d=93 then(jH,[],1) else if d=91 then(bM,[91],1) else if D3 d=true then il d t else if d=47 then gb t else(bM,[91],0)
def one(c:Nat)(t:List Nat):List Nat×List Nat×Nat :=
 if c=10 then(kJ,[],0) else if c=9 then(nJ,[],0) else if c=91 then cG t else(bM,[c],0)
def items(p:Int):List Nat->List D
 | []=>[]
 |c::t=>item p (one c t).1 (one c t).2.1::items (p+((one c t).2.2+1:Nat)) (t.drop (one c t).2.2)
termination_by l=>l.length
decreasing_by
 simp only[List.length_drop,zu];omega
def kO(p:Int):items p []=[]:=by rw[items]
def qd(p:Int)(c:Nat)(t:List Nat):items p (c::t)=item p (one c t).1 (one c t).2.1::items (p+((one c t).2.2+1:Nat)) (t.drop (one c t).2.2):=by rw[items]
def own(p:Int)(c:Nat):D:=if c=10 then item p kJ [] else if c=9 then item p nJ [] else item p bM [c]
def DO:Int->List Nat->List D
 | _,[]=>[]
 |p,c::l=>own p c::DO (p+1) l
def eE(h:c≠91):items p (c::t)=own p c::items (p+1) t:=by
 rw[qd];unfold one own
 by_cases b:c=10
 ·simp[b]
 ·by_cases a:c=9
  ·simp[a]
  ·simp[b,a,h]
def iK(h:cG t=(bM,[91],0)):items p (91::t)=own p 91::items (p+1) t:=by
 rw[qd]
 have:one 91 t=(bM,[91],0):=h
 rw[this];rfl
def vP(h:cG t=(k,v,n)):items p (91::t)=item p k v::items (p+(n+1:Nat)) (t.drop n):=by
 rw[qd]
 have:one 91 t=(k,v,n):=h
 rw[this]
def bu:List Nat->Bool
 | [a]=>decide (a=91)
 | [a,b]=>decide (a=91)&&(decide (b=47) || D3 b)
 | [a,b,c]=>decide (a=91)&&(decide (b=47)&&D3 c)
 | _=>false
def DE:List Nat->Option (List Nat×List Nat)
 | [a,b]=>if a=91/\b=93 then some (jH,[]) else if a=91/\b=91 then some (bM,[91]) else none
 | [a,b,c]=>if a=91/\D3 b=true/\c=93 then some (fB,[b]) else none
 | [a,b,c,d]=>if a=91/\b=47/\D3 c=true/\d=93 then some (fZ,[c]) else none
 | _=>none
def tk(h:List Nat)(c:Nat)(p:Int):List D×List Nat :=
 if bu (h++[c])=true then([],h++[c]) else match DE (h++[c]) with
 |some (k,v)=>([item p k v],[])
 |none=>if c=91 then(DO p h,[91]) else(DO p (h++[c]),[])
inductive bL:List Nat->Prop where
 | h0:bL []
 | h1:bL [91]
 | h2:bL [91,47]
 | h3 (x:Nat) (h:D3 x=true):bL [91,x]
 | h4 (x:Nat) (h:D3 x=true):bL [91,47,x]
def bL.len(H:bL h):h.length<=3:=by cases H<;>simp
def sJ:D3 91=false:=by decide
def Ba:D3 93=false:=by decide
theorem gq:D3 47=false:=by decide
def Bb(H:bL h)(c:Nat)(p:Int)(rest:List Nat):
  bL (tk h c p).2/\items p (h++c::rest)=(tk h c p).1++items (p+h.length+1 - (tk h c p).2.length) ((tk h c p).2++rest):=by
 cases H with
 |h0 =>
  by_cases h1:c=91
  ·subst h1;refine⟨bL.h1,?_⟩;simp[tk,bu]
  ·have:tk [] c p=([own p c],[]):=by simp[tk,bu,DE,h1,DO]
   rw[this];refine⟨bL.h0,?_⟩;simp[eE h1]
 |h1 =>
  by_cases h2:c=93
  ·subst h2
   have:tk [91] 93 p=([item p jH []],[]):=by simp[tk,bu,DE,Ba]
   rw[this];refine⟨bL.h0,?_⟩;show items p (91::93::rest)=_;rw[vP (k:=jH) (v:=[]) (n:=1) rfl];simp[Int.add_assoc]
  ·by_cases h1:c=91
   ·subst h1
    have:tk [91] 91 p=([item p bM [91]],[]):=by simp[tk,bu,DE,sJ]
    rw[this];refine⟨bL.h0,?_⟩;show items p (91::91::rest)=_;rw[vP (k:=bM) (v:=[91]) (n:=1) rfl];simp[Int.add_assoc]
   ·by_cases h3:c=47
    ·subst h3
     have:tk [91] 47 p=([],[91,47]):=by simp[tk,bu]
     rw[this];exact⟨bL.h2,by simp;congr 1;omega⟩
    ·by_cases h4:D3 c=true
     ·have:tk [91] c p=([],[91,c]):=by simp[tk,bu,h4]
      rw[this];exact⟨bL.h3 c h4,by simp;congr 1;omega⟩
     ·have:tk [91] c p=([own p 91,own (p+1) c],[]):=by simp[tk,bu,DE,h1,h2,h3,h4,DO]
      rw[this];refine⟨bL.h0,?_⟩;show items p (91::c::rest)=_;rw[iK (by simp[cG,h1,h2,h3,h4]),eE h1];simp
 |h2 =>
  by_cases h4:D3 c=true
  ·have:tk [91,47] c p=([],[91,47,c]):=by simp[tk,bu,h4]
   rw[this];exact⟨bL.h4 c h4,by simp;congr 1;omega⟩
  ·by_cases h1:c=91
   ·subst h1
    have:tk [91,47] 91 p=([own p 91,own (p+1) 47],[91]):=by simp[tk,bu,DE,gq,sJ,DO]
    rw[this];refine⟨bL.h1,?_⟩;show items p (91::47::91::rest)=_;rw[iK (by simp[cG,gb,gq,sJ]),eE (by decide)];simp;congr 1;omega
   ·have:tk [91,47] c p=([own p 91,own (p+1) 47,own (p+1+1) c],[]):=by simp[tk,bu,DE,h1,h4,gq,DO]
    rw[this];refine⟨bL.h0,?_⟩;show items p (91::47::c::rest)=_;rw[iK (by simp[cG,gb,gq,h4]),eE (by decide),eE h1];simp;congr 1;omega
 |h3 x hx =>
  obtain⟨a,b,d,f,e⟩:=nM hx
  by_cases h2:c=93
  ·subst h2
   have:tk [91,x] 93 p=([item p fB [x]],[]):=by simp[tk,bu,DE,Ba,hx]
   rw[this];refine⟨bL.h0,?_⟩;show items p (91::x::93::rest)=_;rw[vP (k:=fB) (v:=[x]) (n:=2) (by simp[cG,il,a,b,hx])];simp;congr 1;omega
  ·by_cases h1:c=91
   ·subst h1
    have:tk [91,x] 91 p=([own p 91,own (p+1) x],[91]):=by simp[tk,bu,DE,d,DO]
    rw[this];refine⟨bL.h1,?_⟩;show items p (91::x::91::rest)=_;rw[iK (by simp[cG,il,a,b,hx]),eE a];simp;congr 1;omega
   ·have:tk [91,x] c p=([own p 91,own (p+1) x,own (p+1+1) c],[]):=by simp[tk,bu,DE,h1,h2,d,DO]
    rw[this];refine⟨bL.h0,?_⟩;show items p (91::x::c::rest)=_;rw[iK (by simp[cG,il,a,b,hx,h2]),eE a,eE h1];simp;congr 1;omega
 |h4 x hx =>
  obtain⟨a,b,d,f,e⟩:=nM hx
  by_cases h2:c=93
  ·subst h2
   have:tk [91,47,x] 93 p=([item p fZ [x]],[]):=by simp[tk,bu,DE,hx]
   rw[this];refine⟨bL.h0,?_⟩;show items p (91::47::x::93::rest)=_;rw[vP (k:=fZ) (v:=[x]) (n:=3) (by simp[cG,gb,gn,gq,hx])];simp;congr 1;omega
  ·by_cases h1:c=91
   ·subst h1
    have:tk [91,47,x] 91 p=([own p 91,own (p+1) 47,own (p+1+1) x],[91]):=by simp[tk,bu,DE,DO]
    rw[this];refine⟨bL.h1,?_⟩;show items p (91::47::x::91::rest)=_;rw[iK (by simp[cG,gb,gn,gq,hx]),eE (by decide),eE a];simp;congr 1;omega
   ·have:tk [91,47,x] c p=([own p 91,own (p+1) 47,own (p+1+1) x,own (p+1+1+1) c],[]):=by simp[tk,bu,DE,h1,h2,DO]
    rw[this];refine⟨bL.h0,?_⟩;show items p (91::47::x::c::rest)=_;rw[iK (by simp[cG,gb,gn,gq,hx,h2]),eE (by decide),eE a,eE h1];simp;congr 1;omega
def hG(H:bL h)(p:Int):items p h=DO p h:=by
 cases H with
 |h0=>rw[kO];rfl
 |h1=>rw[iK rfl,kO];rfl
 |h2=>rw[iK rfl,eE (by decide),kO];rfl
 |h3 x hx =>
  obtain⟨a,b⟩:=nM hx;rw[iK (by simp[cG,il,a,b]),eE a,kO];rfl
 |h4 x hx =>
  obtain⟨a⟩:=nM hx;rw[iK (by simp[cG,gb,gn,gq]),eE (by decide),eE a,kO];rfl
def aP:List Nat->Int->List Nat->List D×List Nat
 |h,_,[]=>([],h)
 |h,p,c::t=>((tk h c (p - h.length)).1++(aP (tk h c (p - h.length)).2 (p+1) t).1,(aP (tk h c (p - h.length)).2 (p+1) t).2)
theorem JN:∀(t:List Nat){h:List Nat}(_:bL h)(p:Int)(rest:List Nat),bL (aP h p t).2/\items (p - h.length) (h++(t++rest))=(aP h p t).1++items (p+t.length - (aP h p t).2.length) ((aP h p t).2++rest)
 | [],h,H,p,rest=>⟨H,by simp[aP]⟩
 |c::t,h,H,p,rest=>by
  obtain⟨a,b⟩:=Bb H c _ _;obtain⟨g,f⟩:=JN t a _ _;refine⟨g,?_⟩;show items _ (h++c::(t++rest))=_;rw[b]
  have e:p - h.length+h.length+1 - (tk h c (p - h.length)).2.length=p+1 - (tk h c (p - h.length)).2.length:=by omega
  rw[e,f];show _=(tk h c _).1++(aP _ _ t).1++items (p+(c::t).length - (aP _ _ t).2.length) ((aP _ _ t).2++rest);rw[zz]
  have d:p+1+t.length=p+(c::t).length:=by simp;omega
  rw[d]
def JP(t:List Nat):bL (aP [] 0 t).2/\items 0 t=(aP [] 0 t).1++DO (t.length - (aP [] 0 t).2.length) (aP [] 0 t).2:=by
 obtain⟨a,b⟩:=JN t bL.h0 0 [];refine⟨a,?_⟩;simp at b;rw[b,hG a]
@[simp]theorem hH:mX [.lst l]=some (.lst l):=rfl
def NA(f:Fl):Fl:=match f with
 | .rt d O'=>.rt d O'
 | _=>.no
@[simp]theorem Cb:j7 m ρ O=NA (m ρ O):=rfl
@[simp]theorem Cc:NA (.rt d O)=.rt d O:=rfl
def ML(d e:D)(O:au):C8 (List D):=match d,e with
 | .lst ds,.lst es=>.ok (gm ds es) O
 | _,_=>.no
@[simp]theorem hU:rG b mb ρ O=(b ρ O).bind λd O1=>(mb ρ O1).bind λe a=>ML d e a:=by
 unfold rG;congr 1
@[simp]theorem Cf:ML (.lst b) (.lst a) O=.ok (gm b a) O:=rfl
def gw(h:a ρ O=.nx c d):aq a b ρ O=b c d:=by rw[cZ,h,iJ]
def hV(h:a ρ O=.rt d c):aq a b ρ O=.rt d c:=by rw[cZ,h,gd]
def cH(h:m ρ O=.rt d a):M0 m ρ O=.rt d a:=by unfold M0;rw[h]
end L2
namespace K56
open PySem L2
abbrev Ax:List Str:=["_law_script","_law_cell_here","_law_names_here","_law_most","_law_other_names","_law_one","_law_two","_law_texts","_law_piece_here","_law_name","_law_other","_law_due","_law_parts_here","_law_wide","_law_plain","_law_mine","_law_others"]
abbrev OS:List Str:=["_law_cell_here","_law_many","_law_letters","_law_base","_law_names_here","_law_size","_law_at","_law_first"]
abbrev OT:List Str:=["_law_texts","_law_names_here","_law_cells","_law_left","_law_deeds","_law_k","_law_open_names","_law_cell_here","_law_name","_law_size"]
abbrev OU:List Str:=["Maker"]
abbrev OV:List Str:=["Reader"]
abbrev OW:List Str:=["self"]
abbrev OX:List Str:=["_law_text","_law_items_here","_law_at","_law_item_here","_law_size"]
abbrev OY:List Str:=["_law_rows","_law_name","_law_wide"]
abbrev Pc:List Str:=["Leaps"]
abbrev Pd:List Str:=["moves","prices","costs"]
abbrev Pe:List Str:=["Roll"]
abbrev Pf:=List Nat
abbrev kS(l:Pf):=mC (.str l)
abbrev kI(i:Int):=mC (.int i)
seal VE SE OE WE TsE TwE AE VS VSs VG VGs VI VIc VO VIf OQ
def top(i:Nat):Stmt:=PySem.Challenge.pw_outweave_k56_whole_woven_otherwise.main.body.getD i (.Pass ⟨0,0,0,0⟩)
abbrev hZ:=top 17
abbrev JQ:=top 18
abbrev h7:=top 19
abbrev h8:=top 20
abbrev ia:=top 22
abbrev ib:=top 23
abbrev ic:=top 24
abbrev JR:=top 25
abbrev ij:=Da (top 26) 0
abbrev ip:=Da (top 26) 4
abbrev iq:=Da (top 26) 1
abbrev iA:=Da (top 26) 3
abbrev iE:=top 27
abbrev iF:=top 28
abbrev iL:=top 31
abbrev iN:=top 33
abbrev iO:=top 34
abbrev iP:=Da (top 37) 5
abbrev iS:=Da (top 37) 0
abbrev iX:=Da (top 37) 8
abbrev i0:=Da (top 37) 6
abbrev i3:=Da (top 37) 7
abbrev i4:=Da (top 37) 1
abbrev i5:=Da (top 37) 3
abbrev i8:=Da (top 37) 4
abbrev i9:=Da (top 39) 0
abbrev ji:=Da (top 39) 5
abbrev jl:=Da (top 39) 6
abbrev jn:=Da (top 39) 1
abbrev jS:=Da (top 39) 2
abbrev j1:=top 40
abbrev j2:=top 42
abbrev JS:=top 43
abbrev j3:=top 46
abbrev vQ:=top 47
abbrev ka:=Da (top 56) 2
abbrev JT:=Da (top 56) 3
abbrev kb:=top 54
abbrev kd:=top 55
abbrev ke:=Da (top 56) 4
abbrev kg:=Da (top 56) 5
abbrev ki:=top 48
abbrev kl:=top 49
abbrev JV:=top 50
abbrev kn:=Da (top 56) 1
abbrev ko:=top 51
abbrev JW:=top 53
abbrev kq:=Da (top 56) 0
abbrev kr:=top 57
abbrev ku:=top 58
abbrev kx:=top 59
abbrev ky:=top 62
abbrev kA:=top 63
abbrev JX:=top 64
abbrev JZ:=Da (top 65) 0
abbrev kB:=Da (top 65) 5
abbrev kC:=Da (top 65) 1
abbrev kD:=Da (top 65) 2
abbrev kF:=Da (top 65) 3
abbrev kG:=top 67
abbrev kH:=top 68
abbrev kK:=top 69
abbrev J0:=top 70
abbrev kL:=top 72
abbrev kM:=top 73
abbrev kN:=top 74
abbrev kP:=top 75
abbrev kQ:=top 76
abbrev kR:=top 77
abbrev kT:=top 78
abbrev kU:=top 79
abbrev kX:=top 80
abbrev sO:=top 81
abbrev J1:=top 82
abbrev k5:=top 83
abbrev k7:=top 84
abbrev Bc:=top 85
abbrev J2:=top 86
abbrev fC:=top 87
structure Fc(Pr:Program)(w:World)(K:Frag)(mg:Str->Option Value)(base:Heap):Prop where
 f0:DZ K mg "is_sign" hZ
 B:c6 mg
 NK:lL K=true
 f3:∃u,mg "FIRST_SIGN" = some u/\C6 (.str (S [32])) u
 f4:∃u,mg "LAST_SIGN" = some u/\C6 (.str (S [125])) u
 f5:DZ K mg "is_name" JQ
 f6:∃u,mg "LONGEST_NAME" = some u/\C6 (.int 8) u
 f7:DZ K mg "is_colour" h7
 f8:∃u,mg "COLOURS" = some u/\C6 (.str (S [97,98,99,100,101,102,103,104,46])) u
 f9:DZ K mg "checked" h8
 f10:∃u,mg "ANEW_SIGN" = some u/\C6 (.str (S [9])) u
 f11:∃u,mg "ROW_END" = some u/\C6 (.str (S [10])) u
 f12:DZ K mg "mark_of" ia
 f13:DZ K mg "may_become_mark" ib
 f14:DZ K mg "own_item" ic
 f15:DZ K mg "own_items" JR
 f16:pC K mg "Reader" "Reader.__init__" ij
 f17:KC K mg "Reader" "held"
 f18:KC K mg "Reader" "place"
 f19:cQ K mg "Reader" "take" "Reader.take" ip
 f20:cQ K mg "Reader" "feed" "Reader.feed" iq
 f21:cQ K mg "Reader" "finish" "Reader.finish" iA
 f22:DZ K mg "items_of" iE
 f23:DZ K mg "written" iF
 f24:DZ K mg "pair_behind" iL
 Sk:uW K mg "PLAIN" [[46],[46]]
 f26:DZ K mg "is_whole" iN
 f27:DZ K mg "is_within" iO
 f28:cQ K mg "Maker" "begin_row" "Maker.begin_row" iP
 SS:KC K mg "Maker" "letters"
 f30:KC K mg "Maker" "pair"
 f31:KC K mg "Maker" "stale"
 f32:pC K mg "Maker" "Maker.__init__" iS
 f33:∃u,mg "GREATEST_MOST" = some u/\C6 (.int 200) u
 f34:KC K mg "Maker" "most"
 f35:KC K mg "Maker" "last_word"
 f36:cQ K mg "Maker" "tell" "Maker.tell" iX
 f37:cQ K mg "Maker" "empty_stale" "Maker.empty_stale" i0
 f38:cQ K mg "Maker" "add_letter" "Maker.add_letter" i3
 f39:cQ K mg "Maker" "put" "Maker.put" i4
 f40:cQ K mg "Maker" "going_on" "Maker.going_on" i5
 f41:cQ K mg "Maker" "finish" "Maker.finish" i8
 f42:pC K mg "Hand" "Hand.__init__" i9
 f43:KC K mg "Hand" "name"
 f44:KC K mg "Hand" "reader"
 f45:KC K mg "Hand" "maker"
 f46:KC K mg "Hand" "closed"
 f47:cQ K mg "Hand" "refuse_closed" "Hand.refuse_closed" ji
 f48:cQ K mg "Hand" "put_all" "Hand.put_all" jl
 f49:cQ K mg "Hand" "feed" "Hand.feed" jn
 f50:cQ K mg "Hand" "close" "Hand.close" jS
 f51:DZ K mg "of_name" j1
 f52:DZ K mg "shown_ink" j2
 f53:DZ K mg "look" JS
 f54:DZ K mg "cost_over" j3
 f55:DZ K mg "least_cost" vQ
 f56:cQ K mg "Leaps" "last_at" "Leaps.last_at" ka
 f57:KC K mg "Leaps" "look"
 f58:cQ K mg "Leaps" "nodes_at" "Leaps.nodes_at" JT
 f59:KC K mg "Leaps" "inks"
 f60:DZ K mg "marks_to" kb
 f61:DZ K mg "marks_between" kd
 f62:cQ K mg "Leaps" "moves_from" "Leaps.moves_from" ke
 f63:cQ K mg "Leaps" "is_end" "Leaps.is_end" kg
 f64:DZ K mg "price_nodes" ki
 f65:DZ K mg "priced" kl
 f66:DZ K mg "first_cheapest" JV
 f67:cQ K mg "Leaps" "first_node" "Leaps.first_node" kn
 f68:DZ K mg "way_of" ko
 f69:DZ K mg "colours_of" JW
 f70:pC K mg "Leaps" "Leaps.__init__" kq
 f71:DZ K mg "shaded_way" kr
 f72:DZ K mg "shaded" ku
 f73:DZ K mg "unshaded" kx
 f74:DZ K mg "check_names" ky
 f75:∃u,mg "MOST_HANDS" = some u/\C6 (.int 6) u
 f76:DZ K mg "number_ahead" kA
 f77:DZ K mg "head_of" JX
 f78:Ai K mg "Roll" "Roll.__init__" JZ #[(.bool false)]
 f79:KC K mg "Roll" "names"
 f80:KC K mg "Roll" "numbered"
 f81:KC K mg "Roll" "rows"
 f82:KC K mg "Roll" "hands"
 f83:cQ K mg "Roll" "add_rows" "Roll.add_rows" kB
 f84:cQ K mg "Roll" "feed" "Roll.feed" kC
 f85:cQ K mg "Roll" "close" "Roll.close" kD
 f86:cQ K mg "Roll" "told_rows" "Roll.told_rows" kF
 f87:DZ K mg "heads_of" kG
 f88:DZ K mg "look_or_none" kH
 f89:DZ K mg "read_row" kK
 f90:Ag K mg "unroll" J0 #[(.bool false)]
 f91:DZ K mg "_law_cell" kL
 f92:DZ K mg "_law_mix" kM
 f93:DZ K mg "_law_signs" kN
 f94:DZ K mg "_law_token" kP
 f95:DZ K mg "_law_item" kQ
 f96:DZ K mg "_law_items" kR
 f97:DZ K mg "_law_is_held" kT
 f98:DZ K mg "_law_sure" kU
 f99:DZ K mg "_law_parts" kX
 f100:DZ K mg "_law_names" sO
 f101:DZ K mg "_law_look" J1
 f102:DZ K mg "_law_told" k5
 f103:DZ K mg "_law_piece" k7
 f104:DZ K mg "_law_other_cuts" Bc
 f105:DZ K mg "_law_of" J2
 f106:DZ K mg "law" fC
local macro_rules | `(tactic| trivial) => `(tactic| exact ⟨rfl,rfl,rfl,by decide +kernel,rfl,by decide +kernel,by decide +kernel⟩)
set_option hygiene false
local macro_rules | `(tactic| left) => `(tactic| first|exact iZ|exact gQ|exact Ah|exact eT|(intro _ _ _ _ _ _;repeat first|exact rJ rfl|refine gM fun _ => ?_)|exact zn|exact .inl rfl|exact .inr rfl|exact Zw|(show (bN _ _ _).Nodup;decide +kernel)|(refine Zx ‹_› ?_;left))
local macro_rules | `(tactic| symm) => `(tactic| repeat' first|(show VE _ _ _ _ _;first|(show VE _ _ _ (.Call _ _ _ _) _;first|refine fg ‹_› (zr.mono (by decide)) ?_|refine fq ‹_› (zr.mono (by decide)) ?_|refine Zz ‹_› (zr.mono (by decide)) ?_|refine ZJ ‹_› (zr.mono (by decide)) ?_|refine Zn ‹_› (zr.mono (by decide)) ?_|exact Zo ‹_› (zr.mono (by decide))|refine ZF ‹_› (zr.mono (by decide)) ?_ ?_|exact ZD ‹_› (zr.mono (by decide))|refine fu B.dict_ ?_|refine eK (ms:=[.s]) rfl B.dict_ ?_)|(show VE _ _ _ (.Name _ _) _;first|exact WD _|exact GK ‹_› (fun _ _ _ => Rp.str)|exact eS (by assumption)|exact GK ‹_› (fun _ _ _ => Rp.int))|(show VE _ _ _ (.Constant _ _ _) _;first|exact WN|exact WT _|exact WQ|exact WR)|(show VE _ _ _ (.Subscript _ _ _) _;first|refine Yu ?_ ?_|refine ax zr ?_ ?_|refine ek NK zr ?_ ?_)|(show VE _ _ _ (.Tuple _ _ _) _;refine eP ?_)|(show VE _ _ _ (.Attribute _ _ _) _;refine Zi (by left) ?_)|(show VE _ _ _ (.BoolOp _ _ _) _;first|refine Xj ?_ ?_|refine Xi ?_)|(show VE _ _ _ (.IfExp _ _ _ _) _;refine Xm ?_ ?_ ?_)|(show VE _ _ _ (.Dict _ _ _) _;first|exact av|exact ei)|(show VE _ _ _ (.UnaryOp _ _ _) _;refine Xk ?_)|refine ZS ?_|refine yo ?_|refine WM ?_)|(show SE _ _ _ _ _;first|(show SE _ _ _ (.Name _ _) _;exact Wz _)|refine WK ?_)|(show AE _ _ _ _ _ _;first|exact GP|refine GR ?_ ?_|refine WW ?_ ?_)|(show VSs _ _ _ _ _ _;first|refine Xo ?_ ?_|refine Xp ?_|exact Xn)|(show VS _ _ _ _ _ _;first|refine Xz (by left) rfl (by left) ?_|refine Xv ?_|refine Xy ?_ ?_ ?_|refine Zj (by left) ?_ ?_|refine XR rfl ?_ ?_ ?_|refine XC (by left) rfl (by left) ?_|exact Xx _|refine Xu ?_|refine Zd _ ?_|exact Xr|refine ZW ?_ ?_|refine aw zr ?_ ?_ ?_|refine Zg _ ?_|refine ej NK zr ?_ ?_ ?_|refine XN ?_ ?_|refine Hb _ ?_ ?_|refine Hb wF ?_ ?_|refine Zh _ ?_ ?_|refine eu _ ?_|refine ew _ ?_ ?_|refine c8 ?_ ?_|refine fm ?_|exact aI _|exact Xq|refine Xw ?_)|(show OE _ _ _ _ _;first|(show OE _ _ _ (.BinOp _ .Add _ _) _;refine oX Yc ?_ ?_)|(show OE _ _ _ (.List _ _) _;refine eR ?_)|(show OE _ _ _ (.Call _ _ _ _) _;first|refine yE (ms:=[.s]) (hv:=YF) Yz B.len_ ?_|refine ZG ‹_› (zr.mono (by decide)) ?_ ?_|refine ZC ‹_› (zr.mono (by decide)) ?_|refine ZK ‹_› (zr.mono (by decide)) ?_|refine uO "str" (hb:=Hq) B.isinstance_ B.str_ ?_|refine Zb ?_ ?_|refine yF (ms:=[.s]) (hv:=Hr) YC B.list_ ?_|refine Za ?_|refine yE (ms:=[.s]) (hv:=YG) (aT rfl) B.max_ ?_|refine yE (ms:=[.s]) (hv:=YH) (YD rfl) B.all_ ?_|refine uO "int" (hb:=Ho) B.isinstance_ B.int_ ?_|refine uO "bool" (hb:=YJ) B.isinstance_ B.bool_ ?_|refine Z7 rfl B.min_ ?_|refine cS (ms:=[.s]) rfl B.sorted_ B.set_ ?_|refine uO "list" (hb:=Hr) B.isinstance_ B.list_ ?_|refine yF (ms:=[.s]) (hv:=Hq) Z1 B.str_ ?_|refine eC ?_ ?_|refine yF (ms:=[.s]) (hv:=Ho) YB B.int_ ?_|refine de ?_ ?_)|(show OE _ _ _ (.BinOp _ .Mod _ _) _;refine oX Yg ?_ ?_)|(show OE _ _ _ (.Subscript _ _ _) _;refine Yy ?_ ?_ ?_)|(show OE _ _ _ (.Compare _ [.Eq] _ _) _;refine GX (Hl zr) ?_ ?_ (oO _))|(show OE _ _ _ (.BinOp _ .Sub _ _) _;refine oX Yd ?_ ?_)|(show OE _ _ _ (.Compare _ _ _ _) _;refine W0 uM uM ?_ ?_ ?_)|(show OE _ _ _ (.BinOp _ .FloorDiv _ _) _;refine oX Yh ?_ ?_)|(show OE _ _ _ (.Compare _ [.In] _ _) _;refine GX Hm ?_ ?_ (by with_unfolding_all rfl))|(show OE _ _ _ (.UnaryOp _ _ _) _;refine Yj ?_)|(show OE _ _ _ (.BinOp _ .Pow _ _) _;refine oX Yi ?_ ?_)|(show OE _ _ _ (.BinOp _ .Mult _ _) _;refine oX Ye ?_ ?_)|refine WL ?_)|(show TsE _ _ _ _ _;first|(show TsE _ _ _ (.Compare _ [.Eq] _ _) _;refine rF (Hl zr) ?_ ?_ (oO _))|(show TsE _ _ _ (.UnaryOp _ _ _) _;refine Xh ?_)|(show TsE _ _ _ (.Compare _ [.Lt] _ _) _;refine rF Yk ?_ ?_ (oO _))|(show TsE _ _ _ (.Compare _ [.NotEq] _ _) _;refine rF (Yo zr) ?_ ?_ (oO _))|(show TsE _ _ _ (.Compare _ _ _ _) _;first|refine W5 ?_|refine W7 ?_|refine fy _ zr ?_ ?_|refine aE zr ?_ ?_|refine W2 uM uM ?_ ?_ ?_)|(show TsE _ _ _ (.Compare _ [.Gt] _ _) _;refine rF Yl ?_ ?_ (oO _))|(show TsE _ _ _ (.Compare _ [.In] _ _) _;refine rF Hm ?_ ?_ (by with_unfolding_all rfl))|refine W8 ?_|refine Xg ?_)|(show VG _ _ _ _ _;first|(show VG _ _ _ (.Name _ _) _;exact XD (by left) rfl (by left))|(show VG _ _ _ (.Tuple _ _ _) _;refine XM _ rfl ?_))|(show TwE _ _ _ _ _;(show TwE _ _ _ (.BoolOp _ _ _) _;first|refine Xe ?_ ?_|refine Xf ?_ ?_|refine Xd ?_|refine Xb ?_))|(show VO _ _ _ _ _;first|refine Yw ?_|exact Yv)|(show VGs _ _ _ _ _;first|refine XJ ?_ ?_|exact XH)|(show VI _ _ _ _ _ _;first|refine Zq ?_|refine Y7 B.range_ ?_|refine Zu B.enumerate_ ?_|refine er ?_|refine af B.range_ ?_|refine ZQ B.zip_ ?_ ?_)|(show VIf _ _ _ _ _;first|exact XX|refine X3 ?_)|(show WE _ _ _ _ _;first|(show WE _ _ _ (.Name _ _) _;exact Y4 _)|refine Y0 ?_)|(show VIc _ _ _ _ _ _;first|refine Zt ?_|refine yt ?_))
local macro_rules | `(tactic| exists $d,$n,$l) => `(tactic| (have B:=G.B;have NK:=G.NK;(first|refine X4 $d (N:=$n) (by trivial) (by left) _ $l (by left) (by left) (body:=fun f cdv A outer s H E zr P => ?_)|refine Zk $d (N:=$n) (by trivial) (by left) _ $l (by left) (by left) (body:=fun f cdv A outer s H E zr P => ?_)|refine Zm $d (N:=$n) (by trivial) (by left) _ $l (by left) (by left) (body:=fun f cdv A outer s H E zr P => ?_));have zn:List.Nodup (($n):List Str):=(by decide +kernel);symm))
def k8:eV Pd ["moves","prices"] (aQ vQ):=by trivial
def J3:eV ["self","names","most","numbered","name"] ["self","names","most","numbered"] (aQ JZ):=by trivial
def J4:eV ["names","rows","numbered","heads","parts","name","place","row","told"] ["names","rows","numbered"] (aQ J0):=by trivial
def J5:eV OS ["_law_cell_here","_law_many"] (aQ sO):=by trivial
def lh:eV OT ["_law_texts","_law_names_here","_law_cells"] (aQ Bc):=by trivial
def lj:eV Ax ["_law_script"] (aQ fC):=by trivial
section
variable {Pr:Program}{w:World}{K:Frag}{mg:Str->Option Value}{base:Heap}(G:Fc Pr w K mg base)
include G
abbrev ZV(_:Fc Pr w K mg base)(x:Str)(ps:List Str)(k:Nat)(ms:List Md)(c:List D->au->C8 D):Prop:=GL Pr w K mg base x ps k (EH K mg ms (rV K) c)
abbrev ZO(_:Fc Pr w K mg base)(x:Str)(ps:List Str)(k:Nat)(ms:List Md)(c:List D->au->C8 D):Prop:=GL Pr w K mg base x ps k (EH K mg ms (rO K) c)
abbrev lQ(_:Fc Pr w K mg base)(x y:Str)(ps:List Str)(k:Nat)(ms:List Md)(c:List D->au->C8 D):Prop:=jB Pr w K mg base x y ps k (EH K mg ms (rV K) c)
abbrev gf(_:Fc Pr w K mg base)(x y:Str)(ps:List Str)(k:Nat)(ms:List Md)(c:List D->au->C8 D):Prop:=jB Pr w K mg base x y ps k (EH K mg ms (rO K) c)
abbrev vR(_:Fc Pr w K mg base)(x:Str)(ps:List Str)(k:Nat)(ms:List Md)(c:List D->au->C8 D):Prop:=pB Pr w K mg base x ps k (EH K mg ms (rV K) c)
def J6:=
 (aB (fU (gV "str" (aa 0)) (fU (ak DA (aO aX (aj (aa 0) ao)) (kI 1)) (gG Fm Fm (kS [32]) (aa 0) (kS [125])))))
def qe:=aL 1 J6
def lp:ZV G "is_sign" ["thing"] 1 [.s] qe:=by
 have:=G.f3
 have:=G.f4
 exists G.f0,["thing"],[]
def Bd:=
 (aq (aF (d7 (bI (gV "str" (aa 0)))) (aB (mC (.bl false))) aK)
  (aB (fU (gG Fm Fm (kI 1) (aO aX (aj (aa 0) ao)) (kI 8)) (aO uN (aj (bJ (bj (aa 0)) 1 [] (C9 0) bD (gG Fm Fm (kS [97]) (aa 0) (kS [122]))) ao)))))
def Be:=aL 1 Bd
def lx:ZV G "is_name" ["thing"] 1 [.s] Be:=by
 have:=G.f6
 exists G.f5,["thing"],[]
 refine eZ (aQ JQ) ["thing"] ["letter"] [] rfl ?_ (λ_ _ _ _ P=>?_) (λ_ _ _ _ P=>?_) (λ_ _ _ _ P=>?_)
 symm
def J7:=
 (aB (fU (gV "str" (aa 0)) (fU (ak DA (aO aX (aj (aa 0) ao)) (kI 1)) (ak (F0 false) (aa 0) (kS [97,98,99,100,101,102,103,104,46])))))
def nO:=aL 1 J7
def J8:ZV G "is_colour" ["thing"] 1 [.s] nO:=by
 have:=G.f8
 exists G.f7,["thing"],[]
def J9:=
 (aq (aF (d7 (bI (gV "str" (aa 0)))) iD aK)
  (bV (pF (aa 0)) (cM 2 (bh (C9 1) (bh (C9 2) cP))) (aF (d7 (cJ (bI (aC qe (aj (aa 2) ao))) (cJ (az (ak DA (aa 2) (kS [10]))) (az (ak DA (aa 2) (kS [9])))))) iD aK)))
def vU:=aL 3 J9
def ly:ZV G "checked" ["text"] 2 [.s] vU:=by
 have:=G.f10
 have:=G.f11
 have:=lp G
 exists G.f9,["text","place","sign"],[.v,.v]
def sS:=
 (aq (aF (az (ak DA (aa 0) (kS [91,93]))) (aB (aU (aj (kS [112,108,97,105,110]) (aj (kS []) ao)))) aK)
  (aq (aF (az (ak DA (aa 0) (kS [91,91]))) (aB (aU (aj (kS [115,105,103,110]) (aj (kS [91]) ao)))) aK)
  (aq (aF (bZ (az (ak DA (aO aX (aj (aa 0) ao)) (kI 3))) (bZ (az (ak DA (ak C7 (aa 0) (kI 0)) (kS [91]))) (bZ (bI (aC nO (aj (ak C7 (aa 0) (kI 1)) ao))) (az (ak DA (ak C7 (aa 0) (kI 2)) (kS [93])))))) (aB (aU (aj (kS [105,110,107]) (aj (ak C7 (aa 0) (kI 1)) ao)))) aK)
  (aq (aF (bZ (az (ak DA (aO aX (aj (aa 0) ao)) (kI 4))) (bZ (bI (pq (mG (aa 0)) (kS [91,47]))) (bZ (bI (aC nO (aj (ak C7 (aa 0) (kI 2)) ao))) (az (ak DA (ak C7 (aa 0) (kI 3)) (kS [93])))))) (aB (aU (aj (kS [103,114,111,117,110,100]) (aj (ak C7 (aa 0) (kI 2)) ao)))) aK)
  (aB (mC .Pl))))))
def nP:=aL 1 sS
def lI:ZV G "mark_of" ["text"] 2 [.s] nP:=by
 have:=J8 G
 exists G.f12,["text"],[]
def sU:=
 (aq (aF (cJ (az (ak DA (aa 0) (kS [91]))) (az (ak DA (aa 0) (kS [91,47])))) (aB (mC (.bl true))) aK)
  (aq (aF (az (ak DA (aO aX (aj (aa 0) ao)) (kI 2))) (aB (fU (ak DA (ak C7 (aa 0) (kI 0)) (kS [91])) (aC nO (aj (ak C7 (aa 0) (kI 1)) ao)))) aK)
  (aB (fU (ak DA (aO aX (aj (aa 0) ao)) (kI 3)) (fU (pq (mG (aa 0)) (kS [91,47])) (aC nO (aj (ak C7 (aa 0) (kI 2)) ao)))))))
def nQ:=aL 1 sU
def lP:ZV G "may_become_mark" ["text"] 2 [.s] nQ:=by
 have:=J8 G
 exists G.f13,["text"],[]
def Ka:=
 (aq (aF (az (ak DA (aa 1) (kS [10]))) (aB (aU (aj (mG (aa 0)) (aj (kS [101,110,100]) (aj (kS []) ao))))) aK)
  (aq (aF (az (ak DA (aa 1) (kS [9]))) (aB (aU (aj (mG (aa 0)) (aj (kS [97,110,101,119]) (aj (kS []) ao))))) aK)
  (aB (aU (aj (mG (aa 0)) (aj (kS [115,105,103,110]) (aj (mG (aa 1)) ao)))))))
def sV:=aL 2 Ka
def lS:ZV G "own_item" ["place","sign"] 1 [.s,.s] sV:=by
 have:=G.f10
 have:=G.f11
 exists G.f14,["place","sign"],[]
def Kc:=
 (aB (bJ (pF (aa 1)) 2 [0] (cM 2 (bh (C9 0) (bh (C9 1) cP))) bD (aC sV (aj (ak aD (aa 2) (aa 0)) (aj (aa 1) ao)))))
def qg:=aL 2 Kc
def Kd:ZO G "own_items" ["place","signs"] 2 [.s,.s] qg:=by
 have:=lS G
 exists G.f15,["place","signs"],[]
 refine eZ (aQ JR) ["place","signs"] ["k","sign"] [0] rfl ?_ (λ_ _ _ _ P=>?_) (λ_ _ _ _ P=>?_) (λ_ _ _ _ P=>?_)
 symm
def Ke:=
 (aq (bO OV "held" (aa 0) (kS []))
  (bO OV "place" (aa 0) (kI 0)))
def qi:=aL 1 Ke
def Kf:vR G "Reader" OW 1 [.v] qi:=by
 have:=G.f17
 have:=G.f18
 exists G.f16,OW,[]
def Kg:=
 (aq (aA 2 (ak aD (bz OV "held" (aa 0)) (aa 1)))
  (aq (aA 3 (ak gH (bz OV "place" (aa 0)) (aO aX (aj (bz OV "held" (aa 0)) ao))))
  (aq (bO OV "place" (aa 0) (ak aD (bz OV "place" (aa 0)) (kI 1)))
  (aq (aF (bI (aC nQ (aj (aa 2) ao))) (aq (bO OV "held" (aa 0) (aa 2))
  (aB (bf ao))) aK)
  (aq (aA 4 (aC nP (aj (aa 2) ao)))
  (aq (aF (az (lF (aa 4))) (aq (bO OV "held" (aa 0) (kS []))
  (aB (bf (aj (aU (aj (aa 3) (aj (ak C7 (aa 4) (kI 0)) (aj (ak C7 (aa 4) (kI 1)) ao)))) ao)))) aK)
  (aq (aF (az (ak DA (aa 1) (kS [91]))) (aq (aA 5 (aC qg (aj (aa 3) (aj (bz OV "held" (aa 0)) ao))))
  (aq (bO OV "held" (aa 0) (mG (aa 1)))
  (aB (aa 5)))) aK)
  (aq (bO OV "held" (aa 0) (kS []))
  (aB (aC qg (aj (aa 3) (aj (aa 2) ao))))))))))))
def jJ:=aL 6 Kg
def lT:gf G "Reader" "take" ["self","sign"] 3 [.v,.s] jJ:=by
 have:=G.f18
 have:=G.f17
 have:=lP G
 have:=lI G
 have:=Kd G
 exists G.f19,["self","sign","seen","first","mark","told"],[.v,.v,.v,.o]
def Kh:=
 (aq (dY (aC vU (aj (aa 1) ao)))
  (aq (aA 2 (bf ao))
  (aq (bV (bj (aa 1)) (C9 3) (gZ 2 (aV "Reader" "take" jJ (aa 0) (aj (aa 3) ao))))
  (aB (aa 2)))))
def sW:=aL 4 Kh
def Kl:gf G "Reader" "feed" ["self","piece"] 4 [.v,.s] sW:=by
 have:=ly G
 have:=lT G
 exists G.f20,["self","piece","told","sign"],[.o,.v]
def Km:=
 (aq (aA 1 (aC qg (aj (ak gH (bz OV "place" (aa 0)) (aO aX (aj (bz OV "held" (aa 0)) ao))) (aj (bz OV "held" (aa 0)) ao))))
  (aq (bO OV "held" (aa 0) (kS []))
  (aB (aa 1))))
def sX:=aL 2 Km
def Ko:gf G "Reader" "finish" OW 3 [.v] sX:=by
 have:=G.f17
 have:=G.f18
 have:=Kd G
 exists G.f21,["self","told"],[.o]
def l0:=
 (aq (aA 1 (dO "Reader" qi ao))
  (aq (aA 2 (aV "Reader" "feed" sW (aa 1) (aj (aa 0) ao)))
  (aB (ak aD (aa 2) (aV "Reader" "finish" sX (aa 1) ao)))))
def Bf:=aL 3 l0
def l5:ZO G "items_of" ["text"] 5 [.s] Bf:=by
 have:=Kf G
 have:=Kl G
 have:=Ko G
 exists G.f22,["text","reader","told"],[.v,.v]
def Kq:=
 (aq (aF (az (ak DA (aa 0) (kS [115,105,103,110]))) (aB (EW (az (ak DA (aa 1) (kS [91]))) (kS [91,91]) (mG (aa 1)))) aK)
  (aq (aF (az (ak DA (aa 0) (kS [105,110,107]))) (aB (ak aD (ak aD (kS [91]) (aa 1)) (kS [93]))) aK)
  (aq (aF (az (ak DA (aa 0) (kS [103,114,111,117,110,100]))) (aB (ak aD (ak aD (kS [91,47]) (aa 1)) (kS [93]))) aK)
  (aq (aF (az (ak DA (aa 0) (kS [112,108,97,105,110]))) (aB (kS [91,93])) aK)
  (aB (EW (az (ak DA (aa 0) (kS [101,110,100]))) (kS [10]) (kS [9])))))))
def kY:=aL 2 Kq
def Bg:ZV G "written" ["kind","value"] 1 [.s,.s] kY:=by
 have:=G.f10
 have:=G.f11
 exists G.f23,["kind","value"],[]
def l9:=
 (aq (aF (az (ak DA (aa 1) (kS [105,110,107]))) (aB (aU (aj (mG (aa 2)) (aj (ak C7 (aa 0) (kI 1)) ao)))) aK)
  (aq (aF (az (ak DA (aa 1) (kS [103,114,111,117,110,100]))) (aB (aU (aj (ak C7 (aa 0) (kI 0)) (aj (mG (aa 2)) ao)))) aK)
  (aq (aF (az (ak DA (aa 1) (kS [115,105,103,110]))) (aB (mG (aa 0))) aK)
  (aB (mC (.tup [.str [46],.str [46]]))))))
def sY:=aL 3 l9
def Kr:ZV G "pair_behind" ["pair","kind","value"] 1 [.s,.s,.s] sY:=by
 have:=G.Sk
 exists G.f24,["pair","kind","value"],[]
def Ks:=
 (aB (fU (gV "int" (aa 0)) (yq (gV "bool" (aa 0)))))
def Bh:=aL 1 Ks
def me:ZV G "is_whole" ["thing"] 1 [.s] Bh:=by
 exists G.f26,["thing"],[]
def Ku:=
 (aB (fU (aC Bh (aj (aa 0) ao)) (gG Fm Fm (aa 1) (aa 0) (aa 2))))
def vV:=aL 3 Ku
def mm:ZV G "is_within" ["thing","least","greatest"] 2 [.s,.s,.s] vV:=by
 have:=me G
 exists G.f27,["thing","least","greatest"],[]
def vW:=
 (aq (bO OU "letters" (aa 0) (IE (bf ao)))
  (aq (bO OU "pair" (aa 0) (mC (.tup [.str [46],.str [46]])))
  (bO OU "stale" (aa 0) (mC (.bl false)))))
def lR:=aL 1 vW
def Kv:lQ G "Maker" "begin_row" OW 1 [.v] lR:=by
 have:=G.Sk
 have:=G.SS
 have:=G.f30
 have:=G.f31
 exists G.f28,OW,[]
def Bj:=
 (aq (aF (d7 (bI (aC vV (aj (aa 1) (aj (kI 1) (aj (kI 200) ao)))))) iD aK)
  (aq (bO OU "most" (aa 0) (mG (aa 1)))
  (aq (bO OU "last_word" (aa 0) (kS [119,104,111,108,101]))
  (dY (aV "Maker" "begin_row" lR (aa 0) ao)))))
def vX:=aL 2 Bj
def mn:vR G "Maker" ["self","most"] 3 [.v,.s] vX:=by
 have:=G.f33
 have:=G.f34
 have:=G.f35
 have:=mm G
 have:=Kv G
 exists G.f32,["self","most"],[]
def Kw:=
 (aq (aA 2 (aU (aj (bz OU "letters" (aa 0)) (aj (mG (aa 1)) ao))))
  (aq (bO OU "letters" (aa 0) (IE (bf ao)))
  (aq (bO OU "last_word" (aa 0) (mG (aa 1)))
  (aB (bf (aj (aa 2) ao))))))
def qj:=aL 3 Kw
def Bk:gf G "Maker" "tell" ["self","word"] 1 [.v,.s] qj:=by
 have:=G.SS
 have:=G.f35
 exists G.f36,["self","word","part"],[.v]
def Bl:=
 (aF (bI (bz OU "stale" (aa 0))) (aq (bO OU "letters" (aa 0) (IE (bf ao)))
  (bO OU "stale" (aa 0) (mC (.bl false)))) aK)
def nR:=aL 1 Bl
def mu:lQ G "Maker" "empty_stale" OW 1 [.v] nR:=by
 have:=G.f31
 have:=G.SS
 exists G.f37,OW,[]
def Bm:=
 (aq (aA 2 (bf ao))
  (aq (aF (az (ak DA (aO aX (aj (bz OU "letters" (aa 0)) ao)) (bz OU "most" (aa 0)))) (aA 2 (aV "Maker" "tell" qj (aa 0) (aj (kS [109,111,114,101]) ao))) aK)
  (aq (g8 (bz OU "letters" (aa 0)) (aU (aj (ak C7 (aa 1) (kI 2)) (aj (ak C7 (bz OU "pair" (aa 0)) (kI 0)) (aj (ak C7 (bz OU "pair" (aa 0)) (kI 1)) (aj (ak C7 (aa 1) (kI 0)) ao))))))
  (aB (aa 2)))))
def vY:=aL 3 Bm
def mw:gf G "Maker" "add_letter" ["self","item"] 2 [.v,.s] vY:=by
 have:=G.f34
 have:=G.SS
 have:=G.f30
 have:=Bk G
 exists G.f38,["self","item","told"],[.o]
def Ky:=
 (aq (aA 2 (ak C7 (aa 1) (kI 1)))
  (aq (aA 3 (bf ao))
  (aq (aF (az (ak DA (aa 2) (kS [101,110,100]))) (aq (aA 3 (aV "Maker" "tell" qj (aa 0) (aj (kS [119,104,111,108,101]) ao)))
  (bO OU "stale" (aa 0) (mC (.bl false)))) (aF (az (ak DA (aa 2) (kS [97,110,101,119]))) (bO OU "stale" (aa 0) (mC (.bl true))) (dY (aV "Maker" "empty_stale" nR (aa 0) ao))))
  (aq (aF (az (ak DA (aa 2) (kS [115,105,103,110]))) (aA 3 (aV "Maker" "add_letter" vY (aa 0) (aj (aa 1) ao))) aK)
  (aq (bO OU "pair" (aa 0) (aC sY (aj (bz OU "pair" (aa 0)) (aj (aa 2) (aj (ak C7 (aa 1) (kI 2)) ao)))))
  (aB (aa 3)))))))
def sZ:=aL 4 Ky
def mx:gf G "Maker" "put" ["self","item"] 3 [.v,.s] sZ:=by
 have:=G.f30
 have:=G.f31
 have:=Bk G
 have:=mu G
 have:=mw G
 have:=Kr G
 exists G.f39,["self","item","kind","told"],[.v,.o]
def mB:=
 (aB (ak DA (bz OU "last_word" (aa 0)) (kS [109,111,114,101])))
def Bo:=aL 1 mB
def mE:lQ G "Maker" "going_on" OW 1 [.v] Bo:=by
 have:=G.f35
 exists G.f40,OW,[]
def mI:=
 (aq (aA 1 (bf ao))
  (aq (aF (cJ (az (ak HE (aO aX (aj (bz OU "letters" (aa 0)) ao)) (kI 0))) (bI (aV "Maker" "going_on" Bo (aa 0) ao))) (aA 1 (aV "Maker" "tell" qj (aa 0) (aj (kS [119,104,111,108,101]) ao))) aK)
  (aq (dY (aV "Maker" "begin_row" lR (aa 0) ao))
  (aB (aa 1)))))
def Bp:=aL 2 mI
def mM:lQ G "Maker" "finish" OW 2 [.v] Bp:=by
 have:=G.SS
 have:=mE G
 have:=Bk G
 have:=Kv G
 exists G.f41,["self","told"],[.v]
def Bq:=
 (aq (bO ["Hand"] "name" (aa 0) (mG (aa 1)))
  (aq (bO ["Hand"] "reader" (aa 0) (dO "Reader" qi ao))
  (aq (bO ["Hand"] "maker" (aa 0) (dO "Maker" vX (aj (aa 2) ao)))
  (bO ["Hand"] "closed" (aa 0) (mC (.bl false))))))
def Br:=aL 3 Bq
def mN:vR G "Hand" ["self","name","most"] 5 [.v,.s,.s] Br:=by
 have:=G.f43
 have:=G.f44
 have:=G.f45
 have:=G.f46
 have:=Kf G
 have:=mn G
 exists G.f42,["self","name","most"],[]
def Kz:=
 (aF (bI (bz ["Hand"] "closed" (aa 0))) iD aK)
def vZ:=aL 1 Kz
def KD:lQ G "Hand" "refuse_closed" OW 1 [.v] vZ:=by
 have:=G.f46
 have:=G.f43
 exists G.f47,OW,[]
def mP:=
 (aq (aA 2 (bf ao))
  (aq (bV (bj (aa 1)) (C9 3) (gZ 2 (aV "Maker" "put" sZ (bz ["Hand"] "maker" (aa 0)) (aj (aa 3) ao))))
  (aB (aa 2))))
def v7:=aL 4 mP
def KH:gf G "Hand" "put_all" ["self","items"] 4 [.v,.s] v7:=by
 have:=G.f45
 have:=mx G
 exists G.f48,["self","items","parts","item"],[.o,.v]
def mS:=
 (aq (dY (aV "Hand" "refuse_closed" vZ (aa 0) ao))
  (aB (aV "Hand" "put_all" v7 (aa 0) (aj (aV "Reader" "feed" sW (bz ["Hand"] "reader" (aa 0)) (aj (aa 1) ao)) ao))))
def Bs:=aL 2 mS
def mT:gf G "Hand" "feed" ["self","piece"] 5 [.v,.s] Bs:=by
 have:=G.f44
 have:=KD G
 have:=KH G
 have:=Kl G
 exists G.f49,["self","piece"],[]
def nc:=
 (aq (dY (aV "Hand" "refuse_closed" vZ (aa 0) ao))
  (aq (aA 1 (aV "Hand" "put_all" v7 (aa 0) (aj (aV "Reader" "finish" sX (bz ["Hand"] "reader" (aa 0)) ao) ao)))
  (aq (gZ 1 (aV "Maker" "finish" Bp (bz ["Hand"] "maker" (aa 0)) ao))
  (aq (bO ["Hand"] "closed" (aa 0) (mC (.bl true)))
  (aB (aa 1))))))
def Bt:=aL 2 nc
def ng:gf G "Hand" "close" OW 5 [.v] Bt:=by
 have:=G.f46
 have:=G.f44
 have:=G.f45
 have:=KD G
 have:=KH G
 have:=Ko G
 have:=mM G
 exists G.f50,["self","parts"],[.o]
def nh:=
 (aq (aF (cJ (d7 (bI (gV "str" (aa 1)))) (az (vd true (mG (aa 1)) (mG (aa 0))))) iD aK)
  (aB (fV (mG (aa 0)) (mG (aa 1)))))
def tD:=aL 2 nh
def KJ:ZV G "of_name" ["things","name"] 1 [.s,.s] tD:=by
 exists G.f51,["things","name"],[]
def KQ:=
 (aB (EW (az (ak DA (aa 0) (kS [32]))) (kS [46]) (mG (aa 1))))
def v8:=aL 2 KQ
def KR:ZV G "shown_ink" ["sign","ink"] 1 [.s,.s] v8:=by
 exists G.f52,["sign","ink"],[]
def nk:=
 (aB (pI (mG (aa 0)) 1 [] (C9 0) bD (aU (aj (ak C7 (aa 0) (kI 0)) (aj (aC v8 (aj (ak C7 (aa 0) (kI 0)) (aj (ak C7 (aa 0) (kI 1)) ao))) (aj (ak C7 (aa 0) (kI 2)) ao))))))
def Bu:=aL 1 nk
def nq:ZO G "look" ["letters"] 2 [.s] Bu:=by
 have:=KR G
 exists G.f53,["letters"],[]
 refine Io (aQ JS) ["letters"] ["letter"] [] rfl ?_ (λ_ _ _ _ P=>?_) (λ_ _ _ _ P=>?_) (λ_ _ _ _ P=>?_)
 symm
def Bv:=
 (aq (aA 2 (fY (mG (aa 1)) (ak C7 (aa 0) (kI 2))))
  (aB (EW (az (jz (aa 2))) (mC .Pl) (ak aD (ak C7 (aa 0) (kI 0)) (aa 2)))))
def qm:=aL 3 Bv
def KY:ZV G "cost_over" ["move","prices"] 1 [.s,.s] qm:=by
 exists G.f54,["move","prices","beyond"],[.v]
def Bw:=
 (aq (aA 2 (bJ (bj (aa 0)) 1 [1] (C9 0) bD (aC qm (aj (aa 0) (aj (aa 1) ao)))))
  (aB (aO uY (aj (bJ (bj (aa 2)) 1 [] (C9 0) (az (lF (aa 0))) (aa 0)) ao))))
def tE:=aL 3 Bw
def KZ:ZV G "least_cost" ["moves","prices"] 2 [.s,.s] tE:=by
 have:=KY G
 exists G.f55,Pd,[.v]
 refine yw (i:=2) (aQ vQ) Pd ["move"] [1] k8.nd rfl (.inl rfl) rfl ?_ (λ_ _ _ _ P=>?_) (λ_ _ _ _ P=>?_) (λ_ _ _ _ P=>?_)
 symm
 refine eZ (aQ vQ) Pd ["cost"] [] rfl ?_ (λ_ _ _ _ P=>?_) (λ_ _ _ _ P=>?_) (λ_ _ _ _ P=>?_)
 symm
def Bx:=
 (aB (ak aD (aO aX (aj (bz Pc "look" (aa 0)) ao)) (kI 1)))
def lU:=aL 1 Bx
def v9:lQ G "Leaps" "last_at" OW 1 [.v] lU:=by
 have:=G.f57
 exists G.f56,OW,[]
def K1:=
 (aq (aF (cJ (az (ak DA (aa 1) (kI 0))) (az (ak DA (aa 1) (aV "Leaps" "last_at" lU (aa 0) ao)))) (aB (bf (aj (aU (aj (mG (aa 1)) (aj (mC (.tup [.str [46],.str [46]])) ao))) ao))) aK)
  (aq (aA 2 (ak C7 (bz Pc "look" (aa 0)) (ak gH (aa 1) (kI 1))))
  (aq (aF (az (ak DA (ak C7 (aa 2) (kI 0)) (kS [32]))) (aB (bJ (bj (bz Pc "inks" (aa 0))) 1 [1,2] (C9 0) bD (aU (aj (mG (aa 1)) (aj (aU (aj (aa 0) (aj (ak C7 (aa 2) (kI 2)) ao))) ao))))) aK)
  (aB (bf (aj (aU (aj (mG (aa 1)) (aj (aU (aj (ak C7 (aa 2) (kI 1)) (aj (ak C7 (aa 2) (kI 2)) ao))) ao))) ao))))))
def qp:=aL 3 K1
def K3:gf G "Leaps" "nodes_at" ["self","at"] 2 [.v,.s] qp:=by
 have:=G.Sk
 have:=G.f57
 have:=G.f59
 have:=v9 G
 exists G.f58,["self","at","letter"],[.v]
 refine eZ (aQ JT) ["self","at","letter"] ["ink"] [1,2] rfl ?_ (λ_ _ _ _ P=>?_) (λ_ _ _ _ P=>?_) (λ_ _ _ _ P=>?_)
 symm
def tG:=
 (aq (aA 3 (EW (az (ak DA (aa 1) (kS [105,110,107]))) (kI 0) (kI 1)))
  (aB (EW (az (ak DA (ak C7 (aa 0) (aa 3)) (aa 2))) (kS []) (aC kY (aj (aa 1) (aj (aa 2) ao))))))
def nU:=aL 4 tG
def nr:ZV G "marks_to" ["pair","kind","colour"] 2 [.s,.s,.s] nU:=by
 have:=Bg G
 exists G.f60,["pair","kind","colour","place"],[.v]
def By:=
 (aq (aA 2 (ak aD (aC nU (aj (aa 0) (aj (kS [105,110,107]) (aj (ak C7 (aa 1) (kI 0)) ao)))) (aC nU (aj (aa 0) (aj (kS [103,114,111,117,110,100]) (aj (ak C7 (aa 1) (kI 1)) ao))))))
  (aq (aA 3 (ak aD (ak aD (aC kY (aj (kS [112,108,97,105,110]) (aj (kS []) ao))) (aC nU (aj (mC (.tup [.str [46],.str [46]])) (aj (kS [105,110,107]) (aj (ak C7 (aa 1) (kI 0)) ao))))) (aC nU (aj (mC (.tup [.str [46],.str [46]])) (aj (kS [103,114,111,117,110,100]) (aj (ak C7 (aa 1) (kI 1)) ao))))))
  (aB (EW (az (ak E7 (aO aX (aj (aa 3) ao)) (aO aX (aj (aa 2) ao)))) (aa 3) (aa 2)))))
def wg:=aL 4 By
def nt:ZV G "marks_between" ["pair","other"] 3 [.s,.s] wg:=by
 have:=G.Sk
 have:=nr G
 have:=Bg G
 exists G.f61,["pair","other","straight","anew"],[.v,.v]
def BJ:=
 (aq (aA 2 (ak C7 (aa 1) (kI 0)))
  (aq (aF (az (ak DA (aa 2) (aV "Leaps" "last_at" lU (aa 0) ao))) (aB (bf ao)) aK)
  (aq (aA 3 (EW (az (ak E7 (aa 2) (aO aX (aj (bz Pc "look" (aa 0)) ao)))) (aC kY (aj (kS [115,105,103,110]) (aj (ak C7 (ak C7 (bz Pc "look" (aa 0)) (aa 2)) (kI 0)) ao))) (kS [])))
  (aq (aA 4 (bf ao))
  (aq (bV (bj (aV "Leaps" "nodes_at" qp (aa 0) (aj (ak aD (aa 2) (kI 1)) ao))) (C9 5) (aq (aA 6 (aC wg (aj (ak C7 (aa 1) (kI 1)) (aj (ak C7 (aa 5) (kI 1)) ao))))
  (dB 4 (aU (aj (aO aX (aj (aa 6) ao)) (aj (ak aD (aa 6) (aa 3)) (aj (aa 5) ao)))))))
  (aB (aa 4)))))))
def nW:=aL 7 BJ
def K4:gf G "Leaps" "moves_from" ["self","node"] 4 [.v,.s] nW:=by
 have:=G.f57
 have:=v9 G
 have:=Bg G
 have:=K3 G
 have:=nt G
 exists G.f62,["self","node","at","sign","moves","beyond","marks"],[.v,.v,.o,.v,.v]
def BK:=
 (aB (ak DA (ak C7 (aa 1) (kI 0)) (aV "Leaps" "last_at" lU (aa 0) ao)))
def lV:=aL 2 BK
def K5:lQ G "Leaps" "is_end" ["self","node"] 2 [.v,.s] lV:=by
 have:=v9 G
 exists G.f63,["self","node"],[]
def K6:=
 (aq (aA 3 Ae)
  (aq (bV (bj (aV "Leaps" "nodes_at" qp (mG (aa 0)) (aj (aa 1) ao))) (C9 4) (aq (ig (aa 3) (aa 4) (aV "Leaps" "moves_from" nW (mG (aa 0)) (aj (aa 4) ao)))
  (ig (mG (aa 2)) (aa 4) (EW (bI (aV "Leaps" "is_end" lV (mG (aa 0)) (aj (aa 4) ao))) (kI 0) (mC .Pl)))))
  (aq (aA 5 (mC (.bl true)))
  (jZ 10 (bI (aa 5)) (aq (aA 5 (mC (.bl false)))
  (rQ 3 (bV (pK (aa 3)) (C9 4) (aq (aA 6 (aC tE (aj (fY (aa 3) (aa 4)) (aj (aa 2) ao))))
  (aF (bZ (az (lF (aa 6))) (cJ (az (jz (fY (mG (aa 2)) (aa 4)))) (az (ak E7 (aa 6) (fY (mG (aa 2)) (aa 4)))))) (aq (ig (mG (aa 2)) (aa 4) (aa 6))
  (aA 5 (mC (.bl true)))) aK)))))))))
def tH:=aL 7 K6
def nv:ZV G "price_nodes" ["trail","at","prices"] 5 [.s,.s,.s] tH:=by
 have:=K3 G
 have:=K4 G
 have:=K5 G
 have:=KZ G
 exists G.f64,["trail","at","prices","moves","node","changed","cost"],[.v,.v,.v,.v]
def ny:=
 (aq (aA 1 Ae)
  (aq (bV (uZ (aj (aV "Leaps" "last_at" lU (mG (aa 0)) ao) (aj (HU lG (kI 1)) (aj (HU lG (kI 1)) ao)))) (C9 2) (dY (aC tH (aj (aa 0) (aj (aa 2) (aj (aa 1) ao))))))
  (aB (aa 1))))
def BL:=aL 3 ny
def nz:ZV G "priced" ["trail"] 6 [.s] BL:=by
 have:=v9 G
 have:=nv G
 exists G.f65,["trail","prices","at"],[.v,.v]
def BP:=
 (aq (aA 2 (aC tE (aj (aa 0) (aj (aa 1) ao))))
  (aB (ak C7 (bJ (bj (aa 0)) 1 [1,2] (C9 0) (az (ak DA (aC qm (aj (aa 0) (aj (aa 1) ao))) (aa 2))) (aa 0)) (kI 0))))
def wj:=aL 3 BP
def nE:ZV G "first_cheapest" ["moves","prices"] 3 [.s,.s] wj:=by
 have:=KZ G
 have:=KY G
 exists G.f66,["moves","prices","least"],[.v]
 refine eZ (aQ JV) ["moves","prices","least"] ["move"] [1,2] rfl ?_ (λ_ _ _ _ P=>?_) (λ_ _ _ _ P=>?_) (λ_ _ _ _ P=>?_)
 symm
def nI:=
 (aB (aU (aj (kI 0) (aj (mC (.tup [.str [46],.str [46]])) ao))))
def BR:=aL 1 nI
def nK:lQ G "Leaps" "first_node" OW 1 [.v] BR:=by
 have:=G.Sk
 exists G.f67,OW,[]
def BV:=
 (aq (aA 1 (aC BL (aj (aa 0) ao)))
  (aq (aA 2 (aV "Leaps" "first_node" BR (mG (aa 0)) ao))
  (aq (aA 3 (fY (aa 1) (aa 2)))
  (aq (aF (az (jz (aa 3))) (aB (mC .Pl)) aK)
  (aq (aA 4 (bf ao))
  (aq (jZ 300 (d7 (bI (aV "Leaps" "is_end" lV (mG (aa 0)) (aj (aa 2) ao)))) (aq (aA 5 (aC wj (aj (aV "Leaps" "moves_from" nW (mG (aa 0)) (aj (aa 2) ao)) (aj (aa 1) ao))))
  (aq (dB 4 (ak C7 (aa 5) (kI 1)))
  (aA 2 (ak C7 (aa 5) (kI 2))))))
  (j7 (aB (aU (aj (aa 3) (aj (aa 4) ao)))))))))))
def BW:=aL 6 BV
def nL:ZV G "way_of" ["trail"] 7 [.s] BW:=by
 have:=nz G
 have:=nK G
 have:=K5 G
 have:=nE G
 have:=K4 G
 exists G.f68,["trail","prices","node","cost","names","move"],[.v,.v,.v,.o,.v]
 refine yN 4 rfl ?_
 symm
def BX:=
 (aB (aO vz (aj (ak aD (bf (aj (ak C7 (mC (.tup [.str [46],.str [46]])) (kI 0)) ao)) (bJ (bj (aa 0)) 1 [1] (C9 0) bD (ak C7 (aa 0) (aa 1)))) ao)))
def tK:=aL 2 BX
def nN:ZO G "colours_of" ["look","place"] 1 [.s,.s] tK:=by
 have:=G.Sk
 exists G.f69,["look","place"],[]
 refine eZ (aQ JW) ["look","place"] ["letter"] [1] rfl ?_ (λ_ _ _ _ P=>?_) (λ_ _ _ _ P=>?_) (λ_ _ _ _ P=>?_)
 symm
def K7:=
 (aq (bO Pc "look" (aa 0) (aO mX (aj (aa 1) ao)))
  (bO Pc "inks" (aa 0) (aC tK (aj (aa 1) (aj (kI 1) ao)))))
def wk:=aL 2 K7
def nV:vR G "Leaps" ["self","look"] 2 [.v,.s] wk:=by
 have:=G.f57
 have:=G.f59
 have:=nN G
 exists G.f70,["self","look"],[]
def BZ:=
 (aq (aA 1 (aC BW (aj (dO "Leaps" wk (aj (aa 0) ao)) ao)))
  (aB (aU (aj (ak C7 (aa 1) (kI 0)) (aj (mZ (ak C7 (aa 1) (kI 1))) ao)))))
def Ca:=aL 2 BZ
def nX:ZV G "shaded_way" ["look"] 8 [.s] Ca:=by
 have:=nL G
 have:=nV G
 exists G.f71,["look","way"],[.v]
def K8:=
 (aB (ak C7 (aC Ca (aj (aa 0) ao)) (kI 1)))
def wu:=aL 1 K8
def n0:ZV G "shaded" ["look"] 9 [.s] wu:=by
 have:=nX G
 exists G.f72,["look"],[]
def NF:MS:=(aq (aA 4 (ak C7 (aa 3) (kI 1)))
  (aq (aF (cJ (az (ak DA (aa 4) (kS [101,110,100]))) (az (ak DA (aa 4) (kS [97,110,101,119])))) (aB (mG (mC .Pl))) aK)
  (aq (aF (az (ak DA (aa 4) (kS [115,105,103,110]))) (dB 2 (aU (aj (ak C7 (aa 3) (kI 2)) (aj (aC v8 (aj (ak C7 (aa 3) (kI 2)) (aj (ak C7 (aa 1) (kI 0)) ao))) (aj (ak C7 (aa 1) (kI 1)) ao))))) aK)
  (aA 1 (aC sY (aj (aa 1) (aj (aa 4) (aj (ak C7 (aa 3) (kI 2)) ao))))))))
def n5:MS :=
  (aq (aA 1 (mC (.tup [.str [46],.str [46]]))) (aq (aA 2 (bf ao)) (aq (bV (bj (aC Bf (aj (aa 0) ao))) (C9 3) NF) (aB (EW (az (ak DA (aa 1) (mC (.tup [.str [46],.str [46]])))) (aa 2) (mG (mC .Pl)))))))
def qt:=aL 5 n5
def n7:ZO G "unshaded" ["text"] 6 [.s] qt:=by
 have:=G.Sk
 have:=l5 G
 have:=KR G
 have:=Kr G
 exists G.f73,["text","pair","told","item","kind"],[.v,.o,.v,.v]
def NI:MS:=(aq (aF (d7 (bI (aC Be (aj (aa 2) ao)))) iD aK)
  (aF (az (ak (F0 false) (aa 2) (D5 (aa 0) EA (D2 (aa 1))))) iD aK))
def n9:MS :=
  (aq (aF (cJ (d7 (bI (gV "list" (aa 0)))) (d7 (az (gG Fm Fm (kI 1) (aO aX (aj (aa 0) ao)) (kI 6))))) iD aK) (bV (pF (aa 0)) (cM 2 (bh (C9 1) (bh (C9 2) cP))) NI))
def Cd:=aL 3 n9
def oe:ZV G "check_names" ["names"] 2 [.s] Cd:=by
 have:=G.f75
 have:=lx G
 exists G.f74,["names","place","name"],[.v,.v]
def og:=
 (aB (EW (bI (aa 1)) (ak aD (aO pH (aj (aa 0) ao)) (kS [32])) (kS [])))
def wy:=aL 2 og
def K9:ZV G "number_ahead" ["number","numbered"] 1 [.s,.s] wy:=by
 exists G.f76,["number","numbered"],[]
def La:=
 (aq (aA 3 (aO m6 (aj (bJ (bj (aa 1)) 1 [] (C9 0) bD (aO aX (aj (aa 0) ao))) ao)))
  (aB (ak aD (vB (mG (aa 0)) (aa 3)) (EW (az (ak DA (aa 2) (kS [119,104,111,108,101]))) (kS [124]) (kS [62])))))
def wz:=aL 4 La
def Lb:ZV G "head_of" ["name","names","word"] 1 [.s,.s,.s] wz:=by
 exists G.f77,["name","names","word","longest"],[.v]
 refine eZ (aQ JX) ["name","names","word","longest"] ["one"] [] rfl ?_ (λ_ _ _ _ P=>?_) (λ_ _ _ _ P=>?_) (λ_ _ _ _ P=>?_)
 symm
def L6:MS:=(kh (bz Pe "hands" (aa 0)) (aa 4) (dO "Hand" Br (aj (aa 4) (aj (aa 2) ao))))
def Ce:MS :=
  (aq (dY (aC Cd (aj (aa 1) ao))) (aq (bO Pe "names" (aa 0) (aO mX (aj (aa 1) ao))) (aq (bO Pe "numbered" (aa 0) (aa 3)) (aq (bO Pe "rows" (aa 0) (IE (bf ao))) (aq (bO Pe "hands" (aa 0) u6) (bV (bj (aa 1)) (C9 4) L6))))))
def wA:=aL 5 Ce
def Ld:pN Pr w K mg base "Roll" ["self","names","most","numbered"] [(.bool false)] 7 (EH K mg [.v,.s,.s,.v] (rV K) wA):=by
 have B:=G.B;have NK:=G.NK
 have:=G.f79
 have:=G.f80
 have:=G.f81
 have:=G.f82
 have:=oe G
 have:=mN G
 refine fb (k:=6) (b:=Ce) G.f78 J3 (λ_ _ _ _ _ _ _=>gM λ_=>gM λ_=>gM λ_=>gM λ_=>rJ ⟨_,rfl,rfl⟩) 3 (λ_ _ _ _ _ _ _=>gM λ_=>gM λ_=>gM λ_=>rJ ⟨_,rfl,rfl⟩) [.v,.s,.s,.v] [.v] iZ Ah (body:=λf c A a s H E zr P=>?_);have zn:=J3.nd
 symm
def NJ:MS:=(aq (aA 5 (aC wy (aj (ak aD (ak aD (aO aX (aj (bz Pe "rows" (aa 0)) ao)) (aO aX (aj (aa 3) ao))) (kI 1)) (aj (bz Pe "numbered" (aa 0)) ao))))
  (dB 3 (ak aD (ak aD (aa 5) (aC wz (aj (aa 1) (aj (bz Pe "names" (aa 0)) (aj (ak C7 (aa 4) (kI 1)) ao))))) (aC wu (aj (aC Bu (aj (ak C7 (aa 4) (kI 0)) ao)) ao)))))
def oi:MS :=
  (aq (aA 3 (bf ao)) (aq (bV (bj (aa 2)) (C9 4) NJ) (aq (rN (bz Pe "rows" (aa 0)) (aa 3)) (aB (aa 3)))))
def wB:=aL 6 oi
def Le:gf G "Roll" "add_rows" ["self","name","parts"] 10 [.v,.s,.s] wB:=by
 have:=G.f80
 have:=G.f81
 have:=G.f79
 have:=K9 G
 have:=Lb G
 have:=n0 G
 have:=nq G
 exists G.f83,["self","name","parts","told","part","ahead"],[.o,.v,.v]
def Cg:=
 (aB (aV "Roll" "add_rows" wB (aa 0) (aj (aa 1) (aj (aV "Hand" "feed" Bs (aC tD (aj (bz Pe "hands" (aa 0)) (aj (aa 1) ao))) (aj (aa 2) ao)) ao))))
def qw:=aL 3 Cg
def oj:gf G "Roll" "feed" ["self","name","piece"] 11 [.v,.s,.s] qw:=by
 have:=G.f82
 have:=Le G
 have:=mT G
 have:=KJ G
 exists G.f84,["self","name","piece"],[]
def Ci:=
 (aB (aV "Roll" "add_rows" wB (aa 0) (aj (aa 1) (aj (aV "Hand" "close" Bt (aC tD (aj (bz Pe "hands" (aa 0)) (aj (aa 1) ao))) ao) ao))))
def qx:=aL 2 Ci
def om:gf G "Roll" "close" ["self","name"] 11 [.v,.s] qx:=by
 have:=G.f82
 have:=Le G
 have:=ng G
 have:=KJ G
 exists G.f85,["self","name"],[]
def oo:=
 (aB (aO mX (aj (bz Pe "rows" (aa 0)) ao)))
def lW:=aL 1 oo
def oq:gf G "Roll" "told_rows" OW 1 [.v] lW:=by
 have:=G.f81
 exists G.f86,OW,[]
def bH:MS:=(bV (bj (aU (aj (kS [119,104,111,108,101]) (aj (kS [109,111,114,101]) ao)))) (C9 3) (dB 1 (aU (aj (aC wz (aj (aa 2) (aj (aa 0) (aj (aa 3) ao)))) (aj (aa 2) (aj (aa 3) ao))))))
def ot:MS :=
  (aq (aA 1 (bf ao)) (aq (bV (bj (aa 0)) (C9 2) bH) (aB (aa 1))))
def Cj:=aL 4 ot
def ow:ZO G "heads_of" ["names"] 2 [.s] Cj:=by
 have:=Lb G
 exists G.f87,["names","heads","name","word"],[.o,.v,.v]
def ox:=
 (aB (aC qt (aj (aa 0) ao)))
def Lf:=aL 1 ox
def oy:ZO G "look_or_none" ["text"] 7 [.s] Lf:=by
 have:=n7 G
 exists G.f88,["text"],[]
def NG:MS:=(aF (bI (pq (mG (aa 0)) (ak aD (aa 1) (aa 3)))) (aq (aA 6 (aC Lf (aj (D5 (aa 0) (D2 (aO aX (aj (ak aD (aa 1) (aa 3)) ao))) EA) ao)))
  (aB (EW (az (jz (aa 6))) (mC .Pl) (aU (aj (aa 4) (aj (aa 6) (aj (aa 5) ao))))))) aK)
def oz:MS :=
  (aq (aF (d7 (bI (gV "str" (aa 0)))) (aB (mC .Pl)) aK) (aq (bV (bj (aa 2)) (cM 3 (bh (C9 3) (bh (C9 4) (bh (C9 5) cP)))) NG) (aB (mC .Pl))))
def Ck:=aL 7 oz
def oB:ZV G "read_row" ["row","ahead","heads"] 8 [.s,.s,.s] Ck:=by
 have:=oy G
 exists G.f89,["row","ahead","heads","head","name","word","shown"],[.v,.v,.v,.v]
def bP:MS:=(kh (aa 4) (aa 5) (IE (bf ao)))
def bE:MS:=(aq (aA 8 (aC Ck (aj (aa 7) (aj (aC wy (aj (ak aD (aa 6) (kI 1)) (aj (aa 2) ao))) (aj (aa 3) ao)))))
  (aq (aF (az (jz (aa 8))) iD aK)
  (g8 (fV (aa 4) (ak C7 (aa 8) (kI 0))) (aU (aj (ak C7 (aa 8) (kI 1)) (aj (ak C7 (aa 8) (kI 2)) ao))))))
def Lg:MS :=
  (aq (aA 3 (aC Cj (aj (aa 0) ao))) (aq (aA 4 u6) (aq (bV (bj (aa 0)) (C9 5) bP) (aq (bV (pF (aa 1)) (cM 2 (bh (C9 6) (bh (C9 7) cP))) bE) (aB (aa 4))))))
def wC:=aL 9 Lg
def Lh:pO Pr w K mg base "unroll" ["names","rows","numbered"] [(.bool false)] 9 (EH K mg [.s,.s,.v] (rV K) wC):=by
 have B:=G.B;have NK:=G.NK
 have:=ow G
 have:=oB G
 have:=K9 G
 refine fo (k:=8) (b:=Lg) G.f90 J4 (λ_ _ _ _ _ _ _=>gM λ_=>gM λ_=>gM λ_=>rJ ⟨_,rfl,rfl⟩) 2 (λ_ _ _ _ _ _ _=>gM λ_=>gM λ_=>rJ ⟨_,rfl,rfl⟩) [.s,.s,.v] [.v,.v,.v,.v,.v,.v] iZ Ah (body:=λf c A a s H E zr P=>?_);have zn:=J4.nd
 symm
def Li:=
 (aq (aF (az (ak E7 (aa 1) (aO aX (aj (aa 0) ao)))) (aB (ak C7 (aa 0) (aa 1))) aK)
  (aB (kI 0)))
def wD:=aL 2 Li
def Lj:ZV G "_law_cell" ["_law_script","_law_k"] 1 [.s,.s] wD:=by
 exists G.f91,["_law_script","_law_k"],[]
def oI:=
 (aq (aF (az (ak HE (aa 0) (ak jA (kI 10) (kI 18)))) (aq (aA 2 (mG (aa 0)))
  (aq (bV (gK (aj (aa 1) ao)) (C9 3) (aA 2 (ak gR (aa 2) (ak jA (kI 10) (kI 9)))))
  (aB (ak bK (aa 2) (ak jA (kI 10) (kI 9)))))) aK)
  (aq (aA 4 (ak aD (ak bK (aa 0) (kI 2147483647)) (kI 7919)))
  (aq (bV (gK (aj (ak aD (aa 1) (kI 2)) ao)) (C9 3) (aA 4 (ak bK (ak aD (ak gk (aa 4) (kI 48271)) (kI 104729)) (kI 2147483629))))
  (aB (ak gR (ak bK (ak gk (aa 4) (aa 4)) (kI 998244353)) (kI 11))))))
def c7:=aL 5 oI
def tL:ZV G "_law_mix" ["_law_cell_here","_law_k"] 1 [.s,.s] c7:=by
 exists G.f92,["_law_cell_here","_law_k","_law_rest","_law_turn","_law_number"],[.v,.v,.v]
def oP:=
 (aq (aA 0 (kS [32,33,34,35,36,38,39,40,41,42,43,44,45,46,47,48,49,50,51,52,53,54,55,56,57,58,59,60,61,62,63,64,65,66,67,68,69,70,71,72,73,74,75,76,77,78,79,80,81,82,83,84,85,86,87,88,89,90]))
  (aB (ak aD (aa 0) (kS [91,92,93,94,95,96,97,98,99,100,101,102,103,104,105,106,107,108,109,110,111,112,113,114,115,116,117,118,119,120,121,122,123,124,125]))))
def Ln:=aL 1 oP
def oQ:ZV G "_law_signs" [] 1 [] Ln:=by
 exists G.f93,["_law_some"],[.v]
def Cm:=
 (aq (aA 1 (ak C7 (kS [97,98,99,100,101,102,103,104,46]) (ak bK (aC c7 (aj (aa 0) (aj (kI 2) ao))) (kI 9))))
  (aq (aA 2 (ak bK (aC c7 (aj (aa 0) (aj (kI 0) ao))) (kI 12)))
  (aq (aA 3 (aC c7 (aj (aa 0) (aj (kI 1) ao))))
  (aq (aA 4 (bf (aj (kS [91]) (aj (kS [91,47]) (aj (ak aD (kS [91]) (aa 1)) (aj (ak aD (kS [91,47]) (aa 1)) (aj (kS [91,105,93]) (aj (kS [91,47,93]) (aj (ak aD (ak aD (ak aD (kS [91]) (aa 1)) (aa 1)) (kS [93])) (aj (kS [91,65,93]) (aj (kS [91,47,105,93]) (aj (kS [91,91,91]) ao))))))))))))
  (aq (aA 4 (ak aD (aa 4) (bf (aj (kS [91,47,91]) (aj (ak aD (ak aD (kS [91]) (aa 1)) (kS [91])) (aj (ak aD (ak aD (kS [91,47]) (aa 1)) (kS [47,93])) (aj (ak aD (ak aD (kS [91,47,47]) (aa 1)) (kS [93])) (aj (ak aD (ak aD (kS [91]) (aa 1)) (kS [10])) (aj (kS [93]) (aj (kS [47]) ao))))))))))
  (aq (dB 4 (ak aD (ak aD (kS [91,47]) (aa 1)) (kS [9,93])))
  (aq (aF (az (ak E7 (aa 2) (kI 3))) (aB (ak C7 (aC Ln ao) (ak bK (aa 3) (kI 93)))) aK)
  (aq (aF (az (ak DA (aa 2) (kI 3))) (aB (ak C7 (kS [32,65,66,90]) (ak bK (aa 3) (kI 4)))) aK)
  (aq (aF (az (ak DA (aa 2) (kI 4))) (aB (ak aD (ak aD (kS [91]) (aa 1)) (kS [93]))) aK)
  (aq (aF (az (ak DA (aa 2) (kI 5))) (aB (ak aD (ak aD (kS [91,47]) (aa 1)) (kS [93]))) aK)
  (aq (aF (az (ak DA (aa 2) (kI 6))) (aB (ak C7 (bf (aj (kS [91,93]) (aj (kS [91,91]) (aj (kS [91,93,93]) (aj (kS [91,91,93]) ao))))) (ak bK (aa 3) (kI 4)))) aK)
  (aq (aF (az (ak DA (aa 2) (kI 9))) (aB (ak C7 (bf (aj (kS [10]) (aj (kS [9]) (aj (kS [10]) ao)))) (ak bK (aa 3) (kI 3)))) aK)
  (aq (aF (az (ak DA (aa 2) (kI 10))) (aB (aa 1)) aK)
  (aq (aF (az (ak DA (aa 2) (kI 11))) (aB (D5 (kS [111,117,116,119,101,97,118,101,115]) EA (D2 (ak aD (kI 2) (ak bK (aa 3) (kI 8)))))) aK)
  (aB (ak C7 (aa 4) (ak bK (aa 3) (kI 18))))))))))))))))))
def wG:=aL 5 Cm
def oS:ZV G "_law_token" ["_law_cell_here"] 2 [.s] wG:=by
 have:=tL G
 have:=oQ G
 exists G.f94,["_law_cell_here","_law_colour","_law_way","_law_pick","_law_odd"],[.v,.v,.v,.o]
def Cq:=
 (aq (aA 2 (kS [97,98,99,100,101,102,103,104,46]))
  (aq (aA 3 (D5 (aa 0) (D2 (mG (aa 1))) (D2 (ak aD (aa 1) (kI 4)))))
  (aq (aF (az (ak DA (ak C7 (aa 3) (kI 0)) (kS [10]))) (aB (aU (aj (aU (aj (mG (aa 1)) (aj (kS [101,110,100]) (aj (kS []) ao)))) (aj (kI 1) ao)))) aK)
  (aq (aF (az (ak DA (ak C7 (aa 3) (kI 0)) (kS [9]))) (aB (aU (aj (aU (aj (mG (aa 1)) (aj (kS [97,110,101,119]) (aj (kS []) ao)))) (aj (kI 1) ao)))) aK)
  (aq (aF (az (ak DA (D5 (aa 3) EA (D2 (kI 2))) (kS [91,93]))) (aB (aU (aj (aU (aj (mG (aa 1)) (aj (kS [112,108,97,105,110]) (aj (kS []) ao)))) (aj (kI 2) ao)))) aK)
  (aq (aF (az (ak DA (D5 (aa 3) EA (D2 (kI 2))) (kS [91,91]))) (aB (aU (aj (aU (aj (mG (aa 1)) (aj (kS [115,105,103,110]) (aj (kS [91]) ao)))) (aj (kI 2) ao)))) aK)
  (aq (aF (bZ (az (ak HE (aO aX (aj (aa 3) ao)) (kI 2))) (bZ (az (ak DA (ak C7 (aa 3) (kI 0)) (kS [91]))) (bZ (az (ak (F0 false) (ak C7 (aa 3) (kI 1)) (aa 2))) (az (ak DA (ak C7 (aa 3) (kI 2)) (kS [93])))))) (aB (aU (aj (aU (aj (mG (aa 1)) (aj (kS [105,110,107]) (aj (ak C7 (aa 3) (kI 1)) ao)))) (aj (kI 3) ao)))) aK)
  (aq (aF (bZ (az (ak DA (aO aX (aj (aa 3) ao)) (kI 4))) (bZ (az (ak DA (D5 (aa 3) EA (D2 (kI 2))) (kS [91,47]))) (bZ (az (ak (F0 false) (ak C7 (aa 3) (kI 2)) (aa 2))) (az (ak DA (ak C7 (aa 3) (kI 3)) (kS [93])))))) (aB (aU (aj (aU (aj (mG (aa 1)) (aj (kS [103,114,111,117,110,100]) (aj (ak C7 (aa 3) (kI 2)) ao)))) (aj (kI 4) ao)))) aK)
  (aB (aU (aj (aU (aj (mG (aa 1)) (aj (kS [115,105,103,110]) (aj (ak C7 (aa 3) (kI 0)) ao)))) (aj (kI 1) ao))))))))))))
def qy:=aL 4 Cq
def Lp:ZV G "_law_item" ["_law_text","_law_at"] 1 [.s,.s] qy:=by
 exists G.f95,["_law_text","_law_at","_law_colours","_law_here"],[.v,.v]
def o5:=
 (aq (aA 1 (bf ao))
  (aq (aA 2 (kI 0))
  (aq (jZ wF (az (ak E7 (aa 2) (aO aX (aj (aa 0) ao)))) (aq (jY (aC qy (aj (aa 0) (aj (aa 2) ao))) (cM 2 (bh (C9 3) (bh (C9 4) cP))))
  (aq (dB 1 (aa 3))
  (aA 2 (ak aD (aa 2) (aa 4))))))
  (aB (aa 1)))))
def Cr:=aL 5 o5
def o6:ZO G "_law_items" ["_law_text"] 2 [.s] Cr:=by
 have:=Lp G
 exists G.f96,OX,[.o,.v,.v,.v]
def wH:=
 (aq (aA 1 (kS [97,98,99,100,101,102,103,104,46]))
  (aq (aF (cJ (az (ak DA (aa 0) (kS [91]))) (az (ak DA (aa 0) (kS [91,47])))) (aB (mC (.bl true))) aK)
  (aq (aF (az (ak DA (aO aX (aj (aa 0) ao)) (kI 2))) (aB (fU (ak DA (ak C7 (aa 0) (kI 0)) (kS [91])) (ak (F0 false) (ak C7 (aa 0) (kI 1)) (aa 1)))) aK)
  (aB (fU (ak DA (aO aX (aj (aa 0) ao)) (kI 3)) (fU (ak DA (D5 (aa 0) EA (D2 (kI 2))) (kS [91,47])) (ak (F0 false) (ak C7 (aa 0) (kI 2)) (aa 1))))))))
def lX:=aL 2 wH
def o7:ZV G "_law_is_held" ["_law_rest"] 1 [.s] lX:=by
 exists G.f97,["_law_rest","_law_colours"],[.v]
def o8:=
 (aq (aA 1 (bf ao))
  (aq (aA 2 (kI 0))
  (aq (jZ wF (az (ak E7 (aa 2) (aO aX (aj (aa 0) ao)))) (aq (aF (bZ (az (ak E7 (ak gH (aO aX (aj (aa 0) ao)) (aa 2)) (kI 4))) (bI (aC lX (aj (D5 (aa 0) (D2 (aa 2)) EA) ao)))) (j7 (aB (aU (aj (aa 1) (aj (D5 (aa 0) (D2 (aa 2)) EA) ao))))) aK)
  (aq (jY (aC qy (aj (aa 0) (aj (aa 2) ao))) (cM 2 (bh (C9 3) (bh (C9 4) cP))))
  (aq (dB 1 (aa 3))
  (aA 2 (ak aD (aa 2) (aa 4)))))))
  (j7 (aB (aU (aj (aa 1) (aj (kS []) ao))))))))
def Cu:=aL 5 o8
def pa:ZV G "_law_sure" ["_law_text"] 2 [.s] Cu:=by
 have:=o7 G
 have:=Lp G
 exists G.f98,OX,[.o,.v,.v,.v]
 refine yN 1 rfl ?_
 symm
 refine yN 1 rfl ?_
 symm
def pb:=
 (aq (aA 2 (IE (bf ao)))
  (aq (aA 3 (bf ao))
  (aq (aA 4 (mC (.bl false)))
  (aq (aA 5 (bf (aj (kS [46]) (aj (kS [46]) ao))))
  (aq (bV (bj (aa 0)) (cM 3 (bh (C9 6) (bh (C9 7) (bh (C9 8) cP)))) (aq (aF (bZ (bI (aa 4)) (bZ (az (ak EK (aa 7) (kS [101,110,100]))) (az (ak EK (aa 7) (kS [97,110,101,119]))))) (aq (aA 3 (bf ao))
  (aA 4 (mC (.bl false)))) aK)
  (aq (aF (az (ak DA (aa 7) (kS [115,105,103,110]))) (aq (aF (az (ak DA (aO aX (aj (aa 3) ao)) (aa 1))) (aq (g8 (aa 2) (aU (aj (aa 3) (aj (kS [109,111,114,101]) ao))))
  (aA 3 (bf ao))) aK)
  (aA 3 (ak aD (aa 3) (bf (aj (aU (aj (aa 8) (aj (ak C7 (aa 5) (kI 0)) (aj (ak C7 (aa 5) (kI 1)) (aj (aa 6) ao))))) ao))))) (aF (az (ak DA (aa 7) (kS [105,110,107]))) (pA 5 (kI 0) (aa 8)) (aF (az (ak DA (aa 7) (kS [103,114,111,117,110,100]))) (pA 5 (kI 1) (aa 8)) (aA 5 (bf (aj (kS [46]) (aj (kS [46]) ao)))))))
  (aq (aF (az (ak DA (aa 7) (kS [97,110,101,119]))) (aA 4 (mC (.bl true))) aK)
  (aF (az (ak DA (aa 7) (kS [101,110,100]))) (aq (g8 (aa 2) (aU (aj (aa 3) (aj (kS [119,104,111,108,101]) ao))))
  (aq (aA 3 (bf ao))
  (aA 4 (mC (.bl false))))) aK)))))
  (aB (aU (aj (aa 2) (aj (aa 3) ao)))))))))
def Cv:=aL 9 pb
def pe:ZV G "_law_parts" ["_law_items_here","_law_most"] 1 [.s,.s] Cv:=by
 exists G.f99,["_law_items_here","_law_most","_law_parts_here","_law_row","_law_stale","_law_colours","_law_place","_law_kind","_law_value"],[.v,.v,.v,.o,.v,.v,.v]
def Cw:=
 (aq (aA 2 (kS [97,98,99,100,101,102,103,104,105,106,107,108,109,110,111,112,113,114,115,116,117,118,119,120,121,122]))
  (aq (aA 3 (mZ (bJ (gK (aj (kI 8) ao)) 1 [0,2] (C9 0) bD (ak C7 (aa 2) (ak bK (aC c7 (aj (aa 1) (aj (ak aD (kI 20) (aa 0)) ao))) (kI 26))))))
  (aq (aA 4 (bJ (gK (aj (aa 1) ao)) 1 [3] (C9 0) bD (D5 (aa 1) EA (D2 (ak gH (kI 8) (aa 0))))))
  (aq (aF (az (ak HE (ak bK (aC c7 (aj (aa 0) (aj (kI 28) ao))) (kI 3)) (kI 0))) (aq (aA 5 (ak aD (kI 1) (ak bK (aC c7 (aj (aa 0) (aj (kI 29) ao))) (kI 8))))
  (aq (aA 6 (ak bK (aC c7 (aj (aa 0) (aj (kI 30) ao))) (aa 5)))
  (aq (aA 7 (ak bK (aC c7 (aj (aa 0) (aj (kI 31) ao))) (kI 20)))
  (aA 4 (bJ (gK (aj (aa 1) ao)) 1 [2,3,5,6,7] (C9 0) bD (ak aD (ak aD (D5 (aa 2) EA (D2 (aa 4))) (ak C7 (aa 1) (ak aD (aa 5) (aa 0)))) (D5 (aa 2) (D2 (ak aD (aa 4) (kI 1))) (D2 (aa 3))))))))) aK)
  (aq (aF (az (ak DA (ak bK (aC c7 (aj (aa 0) (aj (kI 32) ao))) (kI 2)) (kI 0))) (vf 4) aK)
  (aB (aa 4)))))))
def Cy:=aL 8 Cw
def pf:ZO G "_law_names" ["_law_cell_here","_law_many"] 2 [.s,.s] Cy:=by
 have:=tL G
 exists G.f100,OS,[.v,.v,.o,.v,.v,.v]
 refine eZ (aQ sO) OS ["_law_k"] [0,2] rfl ?_ (λ_ _ _ _ P=>?_) (λ_ _ _ _ P=>?_) (λ_ _ _ _ P=>?_)
 symm
 refine Hd (i:=4) (aQ sO) OS ["_law_k"] [3] J5.nd rfl (.inl rfl) rfl ?_ (λ_ _ _ _ P=>?_) (λ_ _ _ _ P=>?_) (λ_ _ _ _ P=>?_)
 symm
 refine Hd (i:=4) (aQ sO) OS ["_law_k"] [2,3,5,6,7] J5.nd rfl (.inl rfl) rfl ?_ (λ_ _ _ _ P=>?_) (λ_ _ _ _ P=>?_) (λ_ _ _ _ P=>?_)
 symm
def Lq:=
 (aB (bJ (bj (aa 0)) 1 [] (C9 0) bD (aU (aj (ak C7 (aa 0) (kI 0)) (aj (ak C7 (bf (aj (ak C7 (aa 0) (kI 1)) (aj (kS [46]) ao))) (aO mW (aj (ak DA (ak C7 (aa 0) (kI 0)) (kS [32])) ao))) (aj (ak C7 (aa 0) (kI 2)) ao))))))
def Cz:=aL 1 Lq
def pj:ZO G "_law_look" ["_law_letters"] 1 [.s] Cz:=by
 exists G.f101,["_law_letters"],[]
 refine eZ (aQ J1) ["_law_letters"] ["_law_one"] [] rfl ?_ (λ_ _ _ _ P=>?_) (λ_ _ _ _ P=>?_) (λ_ _ _ _ P=>?_)
 symm
def CG:=
 (aq (aA 3 (ak C7 (aC Cu (aj (aa 0) ao)) (kI 0)))
  (aq (aF (bI (aa 2)) (aA 3 (aC Cr (aj (aa 0) ao))) aK)
  (aq (jY (aC Cv (aj (aa 3) (aj (aa 1) ao))) (cM 2 (bh (C9 4) (bh (C9 5) cP))))
  (aq (aF (bZ (bI (aa 2)) (cJ (az (ak EK (aa 5) (bf ao))) (bZ (az (ak EK (aa 4) (bf ao))) (az (ak DA (ak C7 (ak C7 (aa 4) (HU lG (kI 1))) (kI 1)) (kS [109,111,114,101])))))) (g8 (aa 4) (aU (aj (aa 5) (aj (kS [119,104,111,108,101]) ao)))) aK)
  (aB (aU (aj (aa 4) (aj (aa 5) ao))))))))
def CJ:=aL 6 CG
def pk:ZV G "_law_told" ["_law_text","_law_most","_law_closed"] 3 [.s,.s,.s] CJ:=by
 have:=pa G
 have:=o6 G
 have:=pe G
 exists G.f102,["_law_text","_law_most","_law_closed","_law_items_here","_law_parts_here","_law_row"],[.v,.v,.v]
def pv:=
 (aq (aA 1 (aC wG (aj (aa 0) ao)))
  (aq (aF (az (ak DA (ak bK (aC c7 (aj (aa 0) (aj (kI 10) ao))) (kI 4)) (kI 0))) (aB (kS [10])) aK)
  (aq (aF (az (ak DA (ak bK (aC c7 (aj (aa 0) (aj (kI 11) ao))) (kI 5)) (kI 0))) (aB (D5 (aa 1) EA (D2 (ak bK (aC c7 (aj (aa 0) (aj (kI 12) ao))) (ak aD (aO aX (aj (aa 1) ao)) (kI 1)))))) aK)
  (aB (aa 1)))))
def tO:=aL 2 pv
def pw:ZV G "_law_piece" ["_law_cell_here"] 3 [.s] tO:=by
 have:=oS G
 have:=tL G
 exists G.f103,["_law_cell_here","_law_piece_here"],[.v]
def L7:MS:=(dB 4 (aU (aj (aa 8) (aj (fV (aa 3) (aa 8)) ao))))
def L8:MS:=(aq (aA 6 (bJ (bj (aa 1)) 1 [3] (C9 0) (az (ak EK (fV (aa 1) (aa 0)) (kS []))) (aa 0)))
  (aq (aF (az (ak DA (aa 6) (bf ao))) G5 aK)
  (aq (aA 7 (aC wD (aj (aa 2) (aj (ak bK (aa 5) (kI 50)) ao))))
  (aq (aA 8 (ak C7 (aa 6) (ak bK (aC c7 (aj (aa 7) (aj (ak aD (kI 5) (ak gR (aa 5) (kI 50))) ao))) (aO aX (aj (aa 6) ao)))))
  (aq (aA 9 (ak aD (kI 1) (ak bK (aC c7 (aj (aa 7) (aj (ak aD (kI 9) (ak gR (aa 5) (kI 50))) ao))) (kI 9))))
  (aq (dB 4 (aU (aj (aa 8) (aj (D5 (fV (aa 3) (aa 8)) EA (D2 (aa 9))) ao))))
  (kh (aa 3) (aa 8) (D5 (fV (aa 3) (aa 8)) (D2 (aa 9)) EA))))))))
def CK:MS :=
  (aq (aA 3 (Aj (aa 0))) (aq (aA 4 (bf ao)) (aq (bV (gK (aj (kI 200) ao)) (C9 5) L8) (aq (bV (bj (aa 1)) (C9 8) L7) (aB (aa 4))))))
def CN:=aL 10 CK
def px:ZO G "_law_other_cuts" ["_law_texts","_law_names_here","_law_cells"] 2 [.v,.s,.s] CN:=by
 have:=Lj G
 have:=tL G
 exists G.f104,OT,[.v,.o,.v,.v,.v,.v,.v]
 refine yw (i:=6) (aQ Bc) OT ["_law_name"] [3] lh.nd rfl (.inl rfl) rfl ?_ (λ_ _ _ _ P=>?_) (λ_ _ _ _ P=>?_) (λ_ _ _ _ P=>?_)
 symm
def Lr:=
 (aB (bJ (bj (aa 0)) 1 [1,2] (C9 0) (az (ak DA (D5 (aa 0) EA (D2 (mG (aa 2)))) (ak aD (aa 1) (ak gk (kS [32]) (ak gH (aa 2) (aO aX (aj (aa 1) ao))))))) (aa 0)))
def qz:=aL 3 Lr
def pz:ZO G "_law_of" OY 1 [.s,.s,.s] qz:=by
 exists G.f105,OY,[]
 refine eZ (aQ J2) OY ["_law_row"] [1,2] rfl ?_ (λ_ _ _ _ P=>?_) (λ_ _ _ _ P=>?_) (λ_ _ _ _ P=>?_)
 symm
def L9:MS:=(dY (aV "Roll" "feed" qw (aa 6) (aj (aa 9) (aj (aa 8) ao))))
def Me:MS:=(aq (dY (aV "Roll" "close" qx (aa 5) (aj (aa 9) ao)))
  (dY (aV "Roll" "close" qx (aa 6) (aj (aa 10) ao))))
def Mc:MS:=(aq (aA 12 (ak C7 (aC CJ (aj (fV (aa 7) (aa 9)) (aj (aa 3) (aj (mC (.bl true)) ao)))) (kI 0)))
  (kh (aa 11) (aa 9) (pI (aa 12) 2 [] (cM 2 (bh (C9 0) (bh (C9 1) cP))) bD (aU (aj (aC Cz (aj (aa 0) ao)) (aj (aa 1) ao))))))
def Mb:MS:=(aq (aA 9 (ak C7 (aa 2) (ak bK (aC c7 (aj (aa 8) (aj (kI 3) ao))) (aO aX (aj (aa 2) ao)))))
  (aq (kh (aa 7) (aa 9) (ak aD (fV (aa 7) (aa 9)) (aC tO (aj (aa 8) ao))))
  (dY (aV "Roll" "feed" qw (aa 5) (aj (aa 9) (aj (aC tO (aj (aa 8) ao)) ao))))))
def CP:MS :=
  (aq (aA 1 (aC wD (aj (aa 0) (aj (kI 0) ao)))) (aq (aA 2 (aC Cy (aj (aa 1) (aj (ak aD (kI 2) (ak bK (aC c7 (aj (aa 1) (aj (kI 33) ao))) (kI 3))) ao)))) (aq (aA 3 (ak aD (kI 1) (ak bK (aC c7 (aj (aa 1) (aj (kI 34) ao))) (kI 9)))) (aq (aA 4 (ak aD (D5 (aa 2) (D2 (kI 1)) EA) (D5 (aa 2) EA (D2 (kI 1))))) (aq (aA 5 (dO "Roll" wA (IT (aj (aa 2) (aj (aa 3) ao)) (.bl false)))) (aq (aA 6 (dO "Roll" wA (aj (aa 4) (aj (aa 3) (aj (mC (.bl true)) ao))))) (aq (aA 7 (vD (aj (bJ (bj (aa 2)) 1 [] (C9 0) bD (aU (aj (aa 0) (aj (kS []) ao)))) ao))) (aq (bV (bj (D5 (aa 0) (D2 (kI 1)) (D2 (kI 31)))) (C9 8) Mb) (aq (bV (bj (aC CN (aj (aa 7) (aj (aa 4) (aj (aa 0) ao))))) (cM 2 (bh (C9 9) (bh (C9 8) cP))) L9) (aq (bV (rG (aa 2) (aa 4)) (cM 2 (bh (C9 9) (bh (C9 10) cP))) Me) (aq (aA 11 u6) (aq (bV (bj (aa 2)) (C9 9) Mc) (aq (aF (cJ (az (pQ 4 (aC wC (IT (aj (aa 2) (aj (aV "Roll" "told_rows" lW (aa 5) ao) ao)) (.bl false))) (aa 11))) (az (pQ 4 (aC wC (aj (aa 4) (aj (aV "Roll" "told_rows" lW (aa 6) ao) (aj (mC (.bl true)) ao)))) (aa 11)))) (aB (mC (.bl false))) aK) (aq (aA 13 (aO m6 (aj (bJ (bj (aa 2)) 1 [] (C9 0) bD (aO aX (aj (aa 0) ao))) ao))) (aq (aA 14 (bJ (bj (aV "Roll" "told_rows" lW (aa 6) ao)) 1 [] (C9 0) bD (D5 (aa 0) (D2 (ak aD (pJ (aa 0) (kS [32])) (kI 1))) EA))) (aq (bV (bj (aa 2)) (C9 9) (aq (aA 15 (aC qz (aj (aV "Roll" "told_rows" lW (aa 5) ao) (aj (aa 9) (aj (aa 13) ao))))) (aq (aA 16 (aC qz (aj (aa 14) (aj (aa 9) (aj (aa 13) ao))))) (aq (aF (az (ak EK (bJ (bj (aa 15)) 1 [13] (C9 0) bD (D5 (aa 0) EA (D2 (ak aD (aa 1) (kI 1))))) (bJ (bj (aa 16)) 1 [13] (C9 0) bD (D5 (aa 0) EA (D2 (ak aD (aa 1) (kI 1))))))) (aB (mC (.bl false))) aK) (aF (az (ak EK (bJ (bj (aa 15)) 1 [] (C9 0) bD (aO aX (aj (aa 0) ao))) (bJ (bj (aa 16)) 1 [] (C9 0) bD (aO aX (aj (aa 0) ao))))) (aB (mC (.bl false))) aK))))) (aB (ak DA (aO aX (aj (aV "Roll" "told_rows" lW (aa 5) ao) ao)) (aO aX (aj (aa 14) ao))))))))))))))))))))
def Ls:=aL 17 CP
def pE:ZV G "law" ["_law_script"] 12 [.s] Ls:=by
 have:=Lj G
 have:=pf G
 have:=tL G
 have:=Ld G
 have:=(Ld G).canC
 have:=pw G
 have:=oj G
 have:=px G
 have:=om G
 have:=pk G
 have:=pj G
 have:=Lh G
 have:=(Lh G).can
 have:=oq G
 have:=pz G
 exists G.f106,Ax,[.v,.v,.v,.v,.v,.v,.v,.v,.v,.v,.v,.v,.v,.v,.v,.v]
 refine eZ (aQ fC) Ax ["_law_name"] [] rfl ?_ (λ_ _ _ _ P=>?_) (λ_ _ _ _ P=>?_) (λ_ _ _ _ P=>?_)
 symm
 refine Io (aQ fC) Ax ["_law_letters","_law_word"] [] rfl ?_ (λ_ _ _ _ P=>?_) (λ_ _ _ _ P=>?_) (λ_ _ _ _ P=>?_)
 symm
 refine eZ (aQ fC) Ax ["_law_name"] [] rfl ?_ (λ_ _ _ _ P=>?_) (λ_ _ _ _ P=>?_) (λ_ _ _ _ P=>?_)
 symm
 refine yw (i:=14) (aQ fC) Ax ["_law_row"] [] lj.nd rfl (.inl rfl) rfl ?_ (λ_ _ _ _ P=>?_) (λ_ _ _ _ P=>?_) (λ_ _ _ _ P=>?_)
 symm
 refine eZ (aQ fC) Ax ["_law_row"] [13] rfl ?_ (λ_ _ _ _ P=>?_) (λ_ _ _ _ P=>?_) (λ_ _ _ _ P=>?_)
 symm
 refine eZ (aQ fC) Ax ["_law_row"] [13] rfl ?_ (λ_ _ _ _ P=>?_) (λ_ _ _ _ P=>?_) (λ_ _ _ _ P=>?_)
 symm
 refine eZ (aQ fC) Ax ["_law_row"] [] rfl ?_ (λ_ _ _ _ P=>?_) (λ_ _ _ _ P=>?_) (λ_ _ _ _ P=>?_)
 symm
 refine eZ (aQ fC) Ax ["_law_row"] [] rfl ?_ (λ_ _ _ _ P=>?_) (λ_ _ _ _ P=>?_) (λ_ _ _ _ P=>?_)
 symm
end
def aW(d:a ρ O=.ok x O)(c:b ρ O=.ok y O)(h:g (aZ O x) (aZ O y)=some z):ak g a b ρ O=.ok z O:=by
 rw[Ak,d,aR,c,aR,h,iH]
def DF(h:a ρ O=.ok x O):aj a ao ρ O=.ok [x] O:=by
 rw[jF,h,aR,lN,aR]
def DJ(h:a ρ O=.ok x O)(b:r ρ O=.ok c O):aj a r ρ O=.ok (x::c) O:=by
 rw[jF,h,aR,b,aR]
def tQ(h:m ρ O=.ok b O)(a:b.length<=1000000):aU m ρ O=.ok (.tup b) O:=by
 rw[Jg,h,aR,if_pos a]
def Co(h:m ρ O=.ok b O)(a:b.length<=1000000):bf m ρ O=.ok (.lst b) O:=by
 rw[Jf,h,aR,if_pos a]
def iM(h:m ρ O=.ok b O)(a:g (b.map (aZ O))=some z):aO g m ρ O=.ok z O:=by
 rw[Al,h,aR,a,iH]
def nY(a:m ρ O=.ok d O)(h:ρ[i]?=some (some (.lst ds)))(b:ds.length<1000000):dB i m ρ O=.nx (ρ.set i (some (.lst (ds++[d])))) O:=by
 rw[vN,a,vO h b]
def bc(h:m ρ O=.ok d O):aA i m ρ O=.nx (ρ.set i (some d)) O:=by
 rw[sr,h,su]
def bA(h:a ρ O=.ok ds O):aC c a ρ O=c ds O:=by
 rw[nF,h,aR]
def cg(h:m ρ O=.ok (.bl b) O):az m ρ O=.ok b O:=by
 rw[Je,h,aR,Jd]
def dh(h:t ρ O=.ok true O):aF t a b ρ O=a ρ O:=by
 rw[jG,h,rY,if_pos rfl]
def cO(h:t ρ O=.ok false O):aF t a b ρ O=b ρ O:=by
 rw[jG,h,rY,if_neg zA]
def jK(h:m ρ O=.ok (.lst l) O):aO aX (aj m ao) ρ O=.ok (.int (l.length:Int)) O:=iM (DF h) rfl
def Lw(h:m ρ O=.ok (.int (n:Int)) O)(a:n<=1000000):gK (aj m ao) ρ O=.ok (gW 0 n) O:=by
 rw[gp,DF h];show(if(n:Int)<=1000000000/\-1000000000<=(n:Int) then C8.ok _ O else .no)=_;rw[if_pos ⟨by omega,by omega⟩,Int.toNat_natCast]
def dj(e:a ρ O=.ok (.int i) O)(d:b ρ O=.ok (.int j) O)(c:0<j):ak bK a b ρ O=.ok (.int (i % j)) O:=aW e d (by rw[lM,lM,gy,if_pos c])
def nZ(d:a ρ O=.ok (.int i) O)(c:b ρ O=.ok (.int j) O):ak aD a b ρ O=.ok (.int (i+j)) O:=aW d c rfl
def CQ(d:a ρ O=.ok (.int i) O)(c:b ρ O=.ok (.int j) O):ak gH a b ρ O=.ok (.int (i - j)) O:=aW d c rfl
def wI(d:a ρ O=.ok (.int i) O)(c:b ρ O=.ok (.int j) O):az (ak E7 a b) ρ O=.ok (decide (i<j)) O:=cg (aW d c rfl)
def kZ(d:a ρ O=.ok (.int i) O)(c:b ρ O=.ok (.int j) O):az (ak DA a b) ρ O=.ok (decide (i=j)) O:=cg (aW d c rfl)
def Lx(h:a ρ O=.ok x e)(b:r ρ e=.ok c d):aj a r ρ O=.ok (x::c) d:=by
 rw[jF,h,aR,b,aR]
def qC(h:a ρ O=.ok x b):aj a ao ρ O=.ok [x] b:=Lx h rfl
def ir(h:m ρ O=.ok d O1):aA i m ρ O=.nx (ρ.set i (some d)) O1:=by
 rw[sr,h,su]
def pT(d:a ρ O=.ok false f)(c:b ρ f=.ok false e):cJ a b ρ O=.ok false e:=by
 rw[pX,d,aR,if_neg zA,c]
def OM(h:t ρ O=.ok false b):aF t a aK ρ O=.nx ρ b:=by
 rw[jG,h];rfl
def OL(h:t ρ O=.ok true c):aF t a b ρ O=a ρ c:=by
 rw[jG,h];rfl
def Ly(h:a ρ O=.ok b d):aC c a ρ O=c b d:=by
 rw[nF,h,aR]
def wJ(d:a ρ O=.ok x f)(c:b ρ f=.ok y e)(h:g (aZ e x) (aZ e y)=some z):ak g a b ρ O=.ok z e:=by
 rw[Ak,d,aR,c,aR,h,iH]
def pV(h:m ρ O=.ok (.bl b) a):az m ρ O=.ok b a:=by
 rw[Je,h,aR,Jd]
def dF(a:g d ρ=some ρ1)(c:b ρ1 O=.nx e f):bw g b (d::ds) ρ O=bw g b ds e f:=by
 conv=>lhs;unfold bw
 rw[a]
 dsimp
 rw[c]
def p3(a:g d ρ=some e)(c:b e O=.rt x f):bw g b (d::h) ρ O=.rt x f:=by
 conv=>lhs;unfold bw
 rw[a]
 dsimp
 rw[c]
def st(c:Nat):D:=.str [c]
def kz(a:Pf):List Pf:=a.map λc=>[c]
def CT:[c]∈kz a↔c∈a:=by simp[kz]
theorem Lz:∀a:Pf,PV (a.map st)=some (kz a)
 | []=>rfl
 |c::a=>by
  show(PV _).map _=_;rw[Lz];rfl
def n8(ks:Pf):Pf:=(kj (kz ks)).map λl=>l.headD 0
def LC(h:l∈kz b):∃c,l=[c]/\c∈b:=by
 obtain⟨c,a,rfl⟩:=zv.mp h;exact⟨c,rfl,a⟩
def CV(a:Pf):kj (kz a)=kz (n8 a):=by
 unfold n8 kz;rw[zL]
 conv=>lhs;rw[<-List.map_id (kj _)]
 refine ja λl b=>?_
 obtain⟨c,rfl,_⟩:=LC ((vm l _).mp b);rfl
def CW(a:Pf)(c:Nat):c∈n8 a↔c∈a:=by
 rw[<-CT,<-CV,vm,CT]
def LK(c:Pf):(n8 c).Nodup:=by
 have h:=yZ (kz c);rw[CV] at h;unfold kz at h;rw[List.pairwise_map] at h
 exact h.imp λ{a b} hab e=>by
  subst e;exact List.lt_irrefl _ hab
theorem Fk{α:Type}[DecidableEq α]:∀(l m:List α),l.Nodup->(∀x∈l,x∈m)->l.length<=m.length
 | [],_,_,_=>Nat.zero_le _
 |x::l,m,h,hs=>by
  obtain⟨d,c⟩:=List.nodup_cons.mp h;have b:=hs x zd
  have:=Fk l (m.erase x) c λy a=>(List.mem_erase_of_ne λe=>d (by rw[<-e];exact a)).mpr (hs y (zl _ a))
  rw[List.length_erase_of_mem b] at this;have f:=List.length_pos_of_mem b;rw[zu];omega
def p4{M:Pf}(h:∀c∈b,c∈M):(n8 b).length<=M.length:=Fk _ _ (LK b) λc a=>h c ((CW b c).mp a)
def p5{M:Pf}(h:∀c∈d,c∈M):((kz d).foldl ED []).length<=M.length:=by
 have:=Fk _ _ (z7 _ [] .nil) λl a=>by
  rcases(vp l _ []).mp a with z | z
  ·cases z
  ·obtain⟨c,rfl,b⟩:=LC z;exact CT.mpr (h c b)
 unfold kz at this ⊢
 rwa [ze] at this
def p7{M:Pf}(d:ks≠[])(a:ks.length<4000)(h:∀c∈ks,c∈M)(b:M.length<64):vz [.lst (ks.map st)]=some (.lst ((n8 ks).map st)):=by
 show vq (.lst _)=_;unfold vq
 dsimp
 rw[Lz]
 dsimp
 have hl':(kz ks).length<4000:=by unfold kz;rw[ze];exact a
 have h0':kz ks≠[]:=λe=>d (by exact List.map_eq_nil_iff.mp e)
 rw[if_pos ⟨hl',h0',Nat.lt_of_le_of_lt (p5 h) b⟩,CV];unfold kz;rw[zL];rfl
def iQ(a:i ρ O=.ok d O1)(b:j ρ O1=.ok (.ob n) O1)(h:O1[n]?=some (.ins c fs))(g:c∈k)(e:fs.length<900):
  bO k f j i ρ O=.nx ρ (O1.set n (.ins c (DS f d fs))):=by
 rw[Av,a,Aw,b];unfold E1
 dsimp
 rw[h]
 dsimp
 rw[if_pos ⟨g,e⟩]
def fD(b:m ρ O=.ok (.ob n) O)(e:O[n]?=some (.ins c g))(d:c∈h)(a:g.lookup f=some y):
  bz h f m ρ O=.ok y O:=by
 rw[JC,b];unfold fj
 dsimp
 rw[e]
 dsimp
 rw[if_pos d,a]
def dG(a:mo ρ O=.ok (.ob n) O)(e:O[n]?=some (.ins c f))(b:(f.lookup m).isNone=true)(d:ma ρ O=.ok g O):
  aV c m cf mo ma ρ O=cf (.ob n::g) O:=by
 rw[vM,a];unfold IS
 dsimp
 rw[e]
 dsimp
 rw[if_pos ⟨rfl,b⟩,d,aR]
def dU{O:au}:(O++[o])[O.length]?=some o:=by
 rw[zN (zc _),Nat.sub_self];rfl
def oh{O:au}{o:Ob}:(O++[o]).set O.length a=O++[a]:=by
 rw[List.set_append_right _ _ (zc _),Nat.sub_self];rfl
def cU(h:m ρ O=.ok (.lst l) O):bj m ρ O=.ok l O:=by
 rw[nG,h,aR,gu,An]
def iu{own:Nat} (h:m ρ O=.ok ds O)(a:ds.length<=1000000)(c:eY own PM ρ=d)(b:cN g t e ds d O []=.ok f i):bJ m own PM g t e ρ O=.ok (.lst f) i:=by
 rw[sH,h,aR,if_pos a,c,b,aR]
def CZ(h:m ρ O=.ok d O)(a:aZ O d=.lst l):aO mX (aj m ao) ρ O=.ok (.lst l) O:=by
 rw[Al,DF h,aR,zh,zY,a,hH,iH]
def IR(h:m ρ O=.ok (.bl true) O):aF (d7 (bI m)) s aK ρ O=.nx ρ O:=by
 rw[jG,nD,kE,h,aR,nu,nC,pU,aR];rfl
def Dc(h:m ρ O=.ok (.bl true) O):d7 (bI m) ρ O=.ok false O:=by
 rw[nD,kE,h,aR,nu,nC];rfl
def Kk(b:d ρ O=.ok false O)(a:c ρ O=.ok false O):cJ d c ρ O=.ok false O:=by
 rw[pX,b,aR,if_neg zA,a]
def wK(h:m ρ O=.ok d a):aA i m ρ O=.nx (ρ.set i (some d)) a:=by
 rw[sr,h,su]
def Dd(h:m ρ O=.ok (.bl b) O):bI m ρ O=.ok b O:=by
 rw[kE,h,aR,nu,nC,pU]
def De(h:m ρ O=.ok d O)(a:GM (aZ O d)=some t):gV n m ρ O=.ok (.bl (lJ t n)) O:=by
 rw[Ji,h,aR,a,Jh]
def fG(h:m ρ O=.ok d a):aB m ρ O=.rt d a:=by rw[fc,h];rfl
def aM(h:a ρ O=.nx c d):aq a b ρ O=b c d:=by rw[cZ,h,iJ]
def iR(h:t ρ O=.ok false O):aF t a aK ρ O=.nx ρ O:=by rw[cO h];rfl
def LQ(h:t ρ O=.ok true O)(c:a ρ O=.nx d e):aF t a b ρ O=.nx d e:=by rw[dh h];exact c
def KB(a:b ρ O=.ok false O):bZ b c ρ O=.ok false O:=by rw[vG,a,aR,if_neg zA]
def LR(c:e ρ O=.ok true O)(a:d ρ O=.ok b O):bZ e d ρ O=.ok b O:=by rw[vG,c];exact a
abbrev L3:=Nat×Nat×Nat
def dK(x:L3):D:=.tup [st x.1,st x.2.1,st x.2.2]
def pr(p:Nat×Nat):D:=.tup [st p.1,st p.2]
def HM(c:Nat):Pf:=if c=91 then[91,91] else[c]
def p8(c:Nat)(O:au):kY [.str bM,st c] O=.ok (.str (HM c)) O:=by
 unfold HM
 by_cases h:c=91
 ·subst h;rfl
 ·have e:DA (.str [c]) (.str [91])=some (.bl false):=by rw[gL,zo λz=>h (by injection z)]
  rw[if_neg h];show bx _=_;unfold Kq;rw[cZ,dh rfl,fc,jE,cg (aW rfl rfl e)];rfl
def Cs(c:Nat)(O:au):kY [.str fB,st c] O=.ok (.str [91,c,93]) O:=rfl
def Ct(c:Nat)(O:au):kY [.str fZ,st c] O=.ok (.str [91,47,c,93]) O:=rfl
def p9(O:au):kY [.str jH,.str []] O=.ok (.str [91,93]) O:=rfl
def wL(a b:Nat):DA (st a) (st b)=some (.bl (decide (a=b))):=by
 show some _=_;rw[show decide _=decide (a=b) from decide_eq_decide.mpr ⟨λh=>by injection h,λh=>by rw[h]⟩]
def KF(d:a ρ O=.ok (.lst l) O)(c:b ρ O=.ok (.lst m) O)(h:l.length+m.length<=1000000):ak aD a b ρ O=.ok (.lst (l++m)) O:=aW d c (by
 show(if l.length+m.length<=1000000 then some _ else none)=_
 rw[if_pos h])
def qa{i:Nat} (h:(i=1/\c=x.2.1)\/(i=2/\c=x.2.2)):C7 (dK x) (.int (i:Int))=some (st c):=by
 rcases h with⟨rfl,rfl⟩ | ⟨rfl,rfl⟩<;>rfl
def qc(l:List L3)(i:Nat)(f:L3->Nat)(k:∀x,(i=1/\f x=x.2.1)\/(i=2/\f x=x.2.2)){M:Pf}(o:l.length<=1000)(n:M.length<64)(d:46∈M)(h:∀x∈l,f x∈M)(O:au):
  tK [.lst (l.map dK),.int (i:Int)] O=.ok (.lst ((n8 (46::l.map f)).map st)) O:=by
 show bx (BX [some _,some _] O)=_;unfold BX
 have c:=gO (g:=C9 0) (t:=bD) (m:=ak _ (aa 0) (aa 1)) (λρ=>∃a,ρ=[a,some _]) dK _ l [none,some (.int _)] O [] ⟨_,rfl⟩ (by
  rintro x j ρ ⟨a,rfl⟩
  exact⟨_,rfl,⟨_,rfl⟩,rfl,aW rfl rfl (qa (k x))⟩)
 rw[zO] at c;have e:=iu (m:=bj (aa 0)) (ρ:=[some _,some _]) (own:=1) (PM:=[1]) (cU rfl) (by rw[ze];omega) rfl c;rw[fc,iM (DF (KF rfl e (by rw[ze];show 1+_<=_;omega)))]
 ·rfl
 ·have:=p7 (ks:=46::l.map f) (by simp) (by rw[zu,ze];omega) (λc b=>by
   rcases zk.mp b with rfl | b
   ·exact d
   ·obtain⟨x,j,rfl⟩:=zv.mp b
    exact h x j) n
  rw[zh,zL] at this;exact this
def Dg(h:T ρ O=.ok true O):bZ T U ρ O=U ρ O:=by rw[vG,h];rfl
def qf(h:T ρ O=.ok true O):cJ T U ρ O=.ok true O:=by rw[pX,h];rfl
def Ma(h:T ρ O=.ok false O):cJ T U ρ O=U ρ O:=by rw[pX,h];rfl
def Dh(h:m ρ O=.ok d O):jz m ρ O=.ok (.bl (D6 d)) O:=by rw[fF,h];rfl
def lq(h:T ρ O=.ok b O)(a:U ρ O=.ok c O):bZ T U ρ O=.ok (b&&c) O:=by
 rw[vG,h,aR,a];cases b<;>rfl
def qD(h:r ρ O=.ok b O)(a:b.length<=1000000):aU r ρ O=.ok (.tup b) O:=by rw[Jg,h,aR,if_pos a]
def JJ(h:m ρ O=.ok d a):dY m ρ O=.nx ρ a:=by rw[rT,h];rfl
def LU(h:T ρ O=.ok b O)(a:U ρ O=.ok c O):cJ T U ρ O=.ok (b || c) O:=by
 rw[pX,h,aR,a];cases b<;>rfl
def xK(h:m ρ O=.ok (.bl b) O):bI m ρ O=.ok b O:=by rw[kE,h];rfl
def qh(a b:Pf):(S a == S b)=decide (a=b):=by
 by_cases h:a=b
 ·subst h;rw[zw rfl];exact beq_self_eq_true _
 ·rw[zo h]
  refine beq_eq_false_iff_ne.mpr λz=>h ?_
  have:=congrArg (λx =>x.cps.toList) z
  simpa [iB]
def sq(h:a ρ O=.nx ρ' c):aq a b ρ O=b ρ' c:=by
 rw[cZ,h,iJ]
def dW(h:m ρ O=.ok c O1)(a:bw g b c ρ O1=r):bV m g b ρ O=r:=by rw[sE,h,sG,a]
def Di(h:m ρ O=.ok d a):aA i m ρ O=.nx (ρ.set i (some d)) a:=by
 rw[sr,h,su]
abbrev Nd:=Int×(Nat×Nat)
def dN(n:Nd):D:=.tup [.int n.1,pr n.2]
def key(n:Nd):NK:=(n.1,[.inr (S [n.2.1]),.inr (S [n.2.2])])
def Dj(n:Nd):rP (dN n)=some (key n):=rfl
def q9(h:S [a]=S [b]):a=b:=by
 have:=qh [a] [b]
 rw[h,beq_self_eq_true] at this;have q:=zT this.symm
 injection q
def tR:key a=key b↔a=b:=by
 constructor
 ·intro h;have f:=congrArg Prod.fst h;have e:=congrArg Prod.snd h;have h2' :=e
  injection h2' with d c
  injection d with d
  injection c with c _
  injection c with c
  exact Prod.ext f (Prod.ext (q9 d) (q9 c))
 ·intro h;rw[h]
structure M3 where
 cost:Int
 name:Pf
 other:Nd
def d3(m:M3):D:=.tup [.int m.cost,.str m.name,dN m.other]
def pD:Option Int->D
 |none=>.Pl
 |some i=>.int i
abbrev Tb:=List (Nd×Option Int)
def D8(a:Tb):List (NK×D):=a.map λx=>(key x.1,pD x.2)
def lk(a:Tb)(n:Nd):Option (Option Int):=(a.find? λx=>decide (x.1=n)).map (·.2)
def put(a:Tb)(n:Nd)(v:Option Int):Tb:=if(a.any λx=>decide (x.1=n))=true then a.map (λx=>if x.1=n then(x.1,v) else x) else a++[(n,v)]
theorem Mf(n:Nd):∀a:Tb,EN (D8 a) (key n)=(lk a n).map pD
 | []=>rfl
 |x::a=>by
  have b:=Mf n a;unfold EN lk D8;rw[zh,List.find?_cons,List.find?_cons]
  by_cases h:x.1=n
  ·simp[h]
  ·have h':¬key _=key n:=λz=>h (tR.mp z)
   simp only[h,h'];exact b
theorem Mg(n:Nd):∀a:Tb,((D8 a).any λp=>decide (p.1=key n))=a.any λx=>decide (x.1=n)
 | []=>rfl
 |x::a=>by
  have b:=Mg n a;unfold D8;rw[zh,List.any_cons];congr 1;exact decide_eq_decide.mpr tR
def qk(a:Tb)(n:Nd)(v:Option Int):FF (D8 a) (key n) (pD v)=D8 (put a n v):=by
 unfold FF put;rw[Mg]
 split
 ·unfold D8;rw[zL,zL]
  refine ja λx _=>?_
  by_cases h:x.1=n
  ·simp[h]
  ·have h':¬key _=key n:=λz=>h (tR.mp z)
   simp[h,h']
 ·unfold D8;rw[zI];rfl
theorem Dk:∀{a:Tb},(a.any λx=>decide (x.1=n))=false->lk a n=none
 | [],_=>rfl
 |x::a,h=>by
  rw[List.any_cons,Bool.or_eq_false_iff] at h
  have:=Dk h.2
  unfold lk;rw[List.find?_cons,h.1];exact this
def qF(x:Nd×Option Int)(a:Tb)(n:Nd):lk (x::a) n=if x.1=n then some x.2 else lk a n:=by
 unfold lk
 by_cases h:x.1=n
 ·simp[h]
 ·simp[h]
theorem Mh(n:Nd)(y:Nd×Option Int):∀a:Tb,lk (a++[y]) n=if(lk a n).isSome=true then lk a n else if y.1=n then some y.2 else none
 | []=>by
  rw[zO,qF];rfl
 |x::a=>by
  rw[List.cons_append,qF,qF,Mh]
  by_cases h:x.1=n
  ·simp[h]
  ·simp[h]
theorem Mi(n m:Nd)(v:Option Int):∀a:Tb,lk (a.map λx=>if x.1=n then(x.1,v) else x) m=if m=n then(lk a m).map λ_=>v else lk a m
 | []=>by simp[lk]
 |x::a=>by
  rw[zh,qF,qF,Mi]
  by_cases h:x.1=n
  ·by_cases c:m=n
   ·subst c;simp[h]
   ·have:¬n=m:=λz=>c z.symm
    simp[h,this]
  ·by_cases b:x.1=m
   ·have:¬m=n:=λz=>h (b.trans z)
    simp[h,this]
   ·simp[h,b]
theorem Mj:∀{a:Tb},(a.any λx=>decide (x.1=n))=true->(lk a n).isSome=true
 |x::a,h=>by
  rw[qF]
  by_cases b:x.1=n
  ·simp[b]
  ·rw[if_neg b];rw[List.any_cons,zo b] at h;exact Mj h
def Ml(b:Tb)(n m:Nd)(v:Option Int):lk (put b n v) m=if m=n then some v else lk b m:=by
 unfold put
 split
 ·rename_i h;rw[Mi]
  split
  ·rename_i a;subst a
   have:=Mj h
   cases e:lk b m with
   |none=>rw[e] at this;cases this
   |some w=>rfl
  ·rfl
 ·rename_i h;have c:=Dk (Bool.eq_false_iff.mpr h);rw[Mh]
  by_cases a:m=n
  ·subst a;simp[c]
  ·have:¬n=m:=λz=>a z.symm
   simp[a,this]
   cases lk b m<;>simp
def ql(a:Tb)(n:Nd)(v:Option Int):(put a n v).length<=a.length+1:=by
 unfold put
 split
 ·rw[ze];omega
 ·rw[zg];exact zc _
def qo(h:(lk b n).isSome=true):(put b n v).length=b.length:=by
 unfold put
 split
 ·rw[ze]
 ·rename_i a;rw[Dk (Bool.eq_false_iff.mpr a)] at h;cases h
def ou(d:g ρ O=.ok (.ob p) O)(c:O[p]?=some (.dn (D8 e)))(b:f ρ O=.ok (dN n) O)(a:lk e n=some v):fY g f ρ O=.ok (pD v) O:=by
 unfold fY;rw[d]
 dsimp
 rw[b]
 dsimp
 unfold Lm;rw[Dj,c]
 dsimp
 rw[Mf,a];rfl
def qq(e:h ρ O=.ok (.ob q) O)(c:O[q]?=some (.nf f))(b:g ρ O=.ok (dN n) O)(a:EN f (key n)=some d):fY h g ρ O=.ok d O:=by
 unfold fY;rw[e]
 dsimp
 rw[b]
 dsimp
 unfold Lm;rw[Dj,c]
 dsimp
 rw[a]
def Mm(f:h ρ O=.ok d O)(e:mo ρ O=.ok (.ob p) O)(c:O[p]?=some (.dn g))(b:my ρ O=.ok (dN n) O)(a:g.length<1000000):ig mo my h ρ O=.nx ρ (O.set p (.dn (FF g (key n) d))):=by
 unfold ig;rw[f]
 dsimp
 rw[e]
 dsimp
 rw[b]
 dsimp
 rw[Dj,c]
 dsimp
 rw[if_pos a]
def Mp(e:h ρ O=.ok (pD v) O)(d:i ρ O=.ok (.ob p) O)(c:O[p]?=some (.dn (D8 f)))(b:g ρ O=.ok (dN n) O)(a:f.length<1000000):ig i g h ρ O=.nx ρ (O.set p (.dn (D8 (put f n v)))):=
 (Mm e d c b (by unfold D8;rw[ze];exact a)).trans (by rw[qk])
def co(a:Tb)(m:M3):Option Int:=match lk a m.other with
 |some (some b)=>some (m.cost+b)
 | _=>none
def lc(a:Tb)(b:List M3):Option Int:=FB none (b.filterMap (co a))
def Mq(d:O[p]?=some (.dn (D8 ps)))(e:(lk ps m.other).isSome=true):qm [d3 m,.ob p] O=.ok (pD (co ps m)) O:=by
 obtain⟨v,a⟩:=Option.isSome_iff_exists.mp e;have c:fY (mG (aa 1)) (ak C7 (aa 0) (kI 2)) [some (d3 m),some (.ob p),none] O=.ok _ O:=ou rfl d (aW rfl rfl rfl) a;show bx (Bv [some _,some _,none] O)=_;unfold Bv;rw[sq (bc c)];unfold co;rw[a]
 cases v with
 | none
 |some b=>rfl
theorem FH:∀a:List Int,gJ (a.map D.int)=some a
 | []=>rfl
 |i::a=>by
  show(gJ _).map _=_;rw[FH];rfl
theorem Mr(a:Tb):∀b:List M3,(b.map λm=>pD (co a m)).filter (λd=>!D6 d)=(b.filterMap (co a)).map D.int
 | []=>rfl
 |m::b=>by
  rw[zh,List.filter_cons,List.filterMap_cons,Mr]
  cases co a m<;>rfl
def Ms(f:O[p]?=some (.dn (D8 l)))(g:∀m∈k,(lk l m.other).isSome=true)(j:k.length<=1000):tE [.lst (k.map d3),.ob p] O=.ok (pD (lc l k)) O:=by
 have i:cN (C9 0) bD (aC qm (aj (aa 0) (aj (aa 1) ao))) (k.map d3) [none,some (.ob p)] O []=.ok (k.map λm=>pD (co l m)) O:=by
  rw[gO (λρ=>∃a,ρ=[a,some _]) d3 _ k _ _ _ ⟨none,rfl⟩ (by
   rintro m hm' ρ ⟨a,rfl⟩
   exact⟨_,rfl,⟨_,rfl⟩,rfl,(bA (DJ rfl (DF rfl))).trans (Mq f (g m hm'))⟩)]
  rw[zO]
 have e:bJ (bj (aa 0)) 1 [1] _ _ _ [some _,some _,none] O=.ok _ O:=iu (cU rfl) (by rw[ze];omega) rfl i
 have h:cN (C9 0) (az (lF (aa 0))) (aa 0) (k.map λm=>pD (co l m)) [none] O []=.ok ((k.filterMap (co l)).map D.int) O:=by
  rw[Jx (λρ=>∃a,ρ=[a]) _ _ _ _ _ ⟨none,rfl⟩ (by
   rintro d hd ρ ⟨a,rfl⟩
   exact⟨_,rfl,⟨_,rfl⟩,rfl,rfl⟩)]
  rw[zO,Mr]
 have c:bJ (bj (aa 2)) 1 [] _ _ _ [some (.lst (k.map d3)),some (.ob p),some _] O=.ok _ O:=iu (cU rfl) (by rw[ze];omega) rfl h
 have b:aO uY _ _ O=.ok (pD (lc l k)) O:=iM (DF c) (by
  show(gJ _).map _=_;rw[FH];show some (match FB _ _ with | some m=>D.int m | none=>D.Pl)=some (pD (FB _ _))
  cases FB _ _<;>rfl)
 show bx (Bw [some _,some _,none] O)=_;unfold Bw;rw[sq (bc e)];exact congrArg (λr=>bx (lO r)) b
theorem Mt:∀{a:List M3},(∀m∈a,lk ps' m.other=lk ps m.other)->a.filterMap (co ps')=a.filterMap (co ps)
 | [],_=>rfl
 |m::a,h=>by
  have e:co ps' m=co ps m:=by
   unfold co;rw[h m zd]
  rw[List.filterMap_cons,List.filterMap_cons,e,Mt λx b=>h x (zl _ b)]
def wM(h:∀m∈b,lk a m.other=lk c m.other):lc a b=lc c b:=by
 unfold lc;rw[Mt h]
structure GG(t:Nat)(fs:List (Str×D))(N:Nat)(nodes:Nat->List Nd)(mv:Nd->List M3)(fin:Nd->Bool):Prop where
 na:∀(O:au)(a:Nat),O[t]?=some (.ins "Leaps" fs)->a<=N->qp [.ob t,.int a] O=.ok (.lst ((nodes a).map dN)) O
 mf:∀(O:au)(a:Nat)(n:Nd),O[t]?=some (.ins "Leaps" fs)->a<=N->n∈nodes a->nW [.ob t,dN n] O=.ok (.lst ((mv n).map d3)) O
 ie:∀(O:au)(a:Nat)(n:Nd),O[t]?=some (.ins "Leaps" fs)->a<=N->n∈nodes a->lV [.ob t,dN n] O=.ok (.bl (fin n)) O
 la:∀O:au,O[t]?=some (.ins "Leaps" fs)->lU [.ob t] O=.ok (.int N) O
 fi:∀O:au,O[t]?=some (.ins "Leaps" fs)->BR [.ob t] O=.ok (dN (0,(46,46))) O
 f0:((0,(46,46)):Nd)∈nodes 0
 nd:∀a,(nodes a).Nodup
 ln:∀a,(nodes a).length<=10
 fw:∀(a:Nat)(n:Nd),a<=N->n∈nodes a->∀m∈mv n,∃b,a<b/\b<=N/\m.other∈nodes b
 sp:∀(a b:Nat)(n:Nd),n∈nodes a->n∈nodes b->a=b
 ml:∀n,(mv n).length<=1000
 fe:∀n,fin n=true->mv n=[]
 u1:(fs.lookup ("nodes_at":Str)).isNone=true
 u2:(fs.lookup ("moves_from":Str)).isNone=true
 u3:(fs.lookup ("is_end":Str)).isNone=true
 u4:(fs.lookup ("last_at":Str)).isNone=true
 u5:(fs.lookup ("first_node":Str)).isNone=true
 hN:N<=1000
def cR(b:Nd->List M3)(a:List Nd):List (NK×D):=a.map λn=>(key n,D.lst ((b n).map d3))
theorem Mu(b:Nd->List M3)(n:Nd):∀a:List Nd,((cR b a).any λp=>decide (p.1=key n))=decide (n∈a)
 | []=>rfl
 |x::a=>by
  have c:=Mu b n a;unfold cR at *;rw[zh,List.any_cons,c]
  by_cases h:x=n
  ·subst h;simp
  ·have e:¬key x=key n:=λz=>h (tR.mp z)
   have d:¬n=x:=λz=>h z.symm
   simp[e,d]
def qr(h:n∉a):FF (cR b a) (key n) (.lst ((b n).map d3))=cR b (a++[n]):=by
 unfold FF;rw[Mu,zo h];unfold cR;rw[zI];rfl
theorem Mv(b:Nd->List M3)(n:Nd):∀a:List Nd,n∈a->EN (cR b a) (key n)=some (.lst ((b n).map d3))
 |x::a,h=>by
  unfold EN cR;rw[zh,List.find?_cons]
  by_cases c:x=n
  ·subst c;simp
  ·have d:¬key x=key n:=λz=>c (tR.mp z)
   simp only[d]
   rcases zk.mp h with rfl | h
   ·exact absurd rfl c
   ·exact Mv b n a h
def qu(b:Nd->List M3)(a:List Nd):(cR b a).map Iz=a.map dN:=by
 unfold cR;rw[zL];rfl
def MI:MS:=(aq (ig (aa 3) (aa 4) (aV "Leaps" "moves_from" nW (mG (aa 0)) (aj (aa 4) ao)))
  (ig (mG (aa 2)) (aa 4) (EW (bI (aV "Leaps" "is_end" lV (mG (aa 0)) (aj (aa 4) ao))) (kI 0) (mC .Pl))))
def HA(fin:Nd->Bool)(n:Nd):Option Int:=if fin n=true then some 0 else none
def fH{O:au}{i:Nat} (a:O[i]?=some x)(b:O[j]?=some y)(h:x≠y):i≠j:=λz=>by
 rw[z,b] at a;exact h (zF a).symm
def tU{O:au} (e:O[i]?=some x):(O.set i y)[i]?=some y:=by
 obtain⟨h⟩:=zx.mp e;simp[h]
def qv(T:GG t x N v w fin) (l:a<=N) (k:n∈v a) (g:n∉s) (b:O[t]?=some (.ins "Leaps" x))(m:O[p]?=some (.dn (D8 u)))(j:O[q]?=some (.dn (cR w s)))(e:p≠q)(o:u.length<1000000)(h:s.length<1000000)(d c:Option D):
  MI [some (.ob t),some (.int a),some (.ob p),some (.ob q),some (dN n),d,c] O=.nx [some (.ob t),some (.int a),some (.ob p),some (.ob q),some (dN n),d,c] ((O.set q (.dn (cR w (s++[n])))).set p (.dn (D8 (put u n (HA fin n))))):=by
 have ht':(O.set q (.dn (cR w (s++[n]))))[t]?=some (.ins "Leaps" x):=by rw[zi (fH j b λz=>nomatch z)];exact b
 have f:(O.set q (.dn (cR w (s++[n]))))[p]?=some (.dn (D8 u)):=by rw[zi (Ne.symm e)];exact m
 have r:∀ρ,EW (bI (aV _ _ _ (mG (aa 0)) (aj (aa 4) _))) (mC _) (mC _) ([some (.ob t),some (.int a),some (.ob p),some (.ob q),some _]++ρ) _=.ok (pD (HA fin n)) _:=λρ=>by
  rw[jE,kE,(dG rfl ht' T.u3 (DF rfl)).trans (T.ie _ a n ht' l k),aR,nu,nC,pU];unfold HA
  cases fin n<;>rfl
 have i:=Mm (my:=aa 4) (mo:=aa 3) (ρ:=[some (.ob t),some (.int a),some (.ob p),some _,some _,d,c]) ((dG (mo:=mG (aa 0)) rfl b T.u2 (DF (a:=aa 4) rfl)).trans (T.mf O a n b l k)) rfl j rfl (by unfold cR;rw[ze];exact h);rw[qr g] at i;exact .trans (sq i) (Mp (r _) rfl f rfl o)
theorem Mw{B:List (Str×D)}{N:Nat}{g:Nat->List Nd}{u:Nd->List M3}{fin:Nd->Bool}{p q:Nat}(T:GG t B N g u fin){a:Nat}(y:a<=N)(h:p≠q)(k l:Option D):∀(rest d:List Nd)(O:au)(b:Tb)(o:Option D),(∀n∈rest,n∈g a)->(d++rest).Nodup->O[t]?=some (.ins "Leaps" B)->O[p]?=some (.dn (D8 b))->O[q]?=some (.dn (cR u d))->b.length+rest.length<1000000->d.length+rest.length<1000000 ->
  ∃f c i,bw (C9 4) MI (rest.map dN) [some (.ob t),some (.int a),some (.ob p),some (.ob q),o,k,l] O=.nx [some (.ob t),some (.int a),some (.ob p),some (.ob q),i,k,l] f/\f[p]?=some (.dn (D8 c))/\f[q]?=some (.dn (cR u (d++rest)))/\(∀j,j≠p->j≠q->f[j]?=O[j]?)/\(∀n,lk c n=if n∈rest then some (HA fin n) else lk b n)/\c.length<=b.length+rest.length
 | [],d,O,b,o,_,_,_,hp,hq,_,_=>⟨O,b,o,rfl,hp,by rw[zE];exact hq,λ_ _ _=>rfl,λn=>by simp,zc _⟩
 |n::rest,d,O,b,o,hr,hd,ht,hp,hq,hl,hl2=>by
  rw[zu] at hl hl2;have F:=hr n zd
  have v :=λz=>(je.mp hd).2.2 n z n zd rfl
  have J:=qv T y F v ht hp hq h (by omega) (by omega) k
  have C :=fH ht hq λz=>nomatch z
  have E :=fH ht hp λz=>nomatch z
  have K:=ql b n (HA fin n);obtain⟨f,c,i,e,I,A,H,G,L⟩:=Mw T y h k l _ (d++[n]) ((O.set q (.dn _)).set p _) (put b n (HA fin n)) _ (λm s=>hr m (zl _ s)) (by rw[zz];exact hd)
   (by rw[zi (Ne.symm E),zi (Ne.symm C)];exact ht) (tU (by rw[zi (Ne.symm h)];exact hp)) (by rw[zi h];exact tU hq) (by omega) (by rw[zg,zR];omega)
  refine⟨f,c,i,?_,I,by rw[zz] at A;exact A,λj x w=>?_,λm=>?_,by rw[zu];omega⟩
  ·show(match MI [some _,some _,some _,some _,some _,k,l] O with
    | .nx ρ' f=>bw _ _ _ _ f | .ct ρ' f=>bw _ _ _ _ f | .bk ρ' f=>Fl.nx _ f | r=>r)=_
   rw[J];exact e
  ·rw[H j x w,zi (Ne.symm x),zi (Ne.symm w)]
  ·rw[G,Ml]
   by_cases s:m=n
   ·subst s;simp
   ·simp[s]
def Kb:MS:=(aq (aA 6 (aC tE (aj (fY (aa 3) (aa 4)) (aj (aa 2) ao))))
  (aF (bZ (az (lF (aa 6))) (cJ (az (jz (fY (mG (aa 2)) (aa 4)))) (az (ak E7 (aa 6) (fY (mG (aa 2)) (aa 4)))))) (aq (ig (mG (aa 2)) (aa 4) (aa 6))
  (aA 5 (mC (.bl true)))) aK))
def DM(v L:Option Int):Bool:=match L with
 |none=>false
 |some c=>match v with
  |none=>true
  |some w=>decide (c<w)
section
variable {t:Nat}{fs:List (Str×D)}{N:Nat}{nodes:Nat->List Nd}{mv:Nd->List M3}{fin:Nd->Bool}{p q:Nat}
def qA(k:n∈ns) (a:O[p]?=some (.dn (D8 cur)))(j:O[q]?=some (.nf (cR mv ns)))(d:lk cur n=some v)(l:∀m∈mv n,(lk cur m.other).isSome=true)(h:(mv n).length<=1000)(o:cur.length<1000000)(b:Bool)(g f i:Option D):
  Kb [g,f,some (.ob p),some (.ob q),some (dN n),some (.bl b),i] O=.nx [g,f,some (.ob p),some (.ob q),some (dN n),some (.bl (b || DM v (lc cur (mv n)))),some (pD (lc cur (mv n)))] (if DM v (lc cur (mv n))=true then O.set p (.dn (D8 (put cur n (lc cur (mv n))))) else O):=by
 refine .trans (sq (bc ((bA (DJ (qq rfl j rfl (Mv mv n ns k)) (DF rfl))).trans (Ms a l h)))) ?_
 cases lc _ _ with
 |none=>exact .trans (cO rfl) (by simp[DM])
 |some c =>
  have P:aq (ig (mG (aa 2)) (aa 4) (aa 6)) (aA 5 (mC (.bl true))) [g,f,some (.ob p),some (.ob q),some (dN n),some (.bl b),some (pD (some c))] O=_:=sq (Mp rfl rfl a rfl o)
  cases v with
  |none=>exact .trans (dh (.trans (Dg rfl) (qf (cg (Dh (ou rfl a rfl d)))))) (P.trans (by simp[DM]))
  |some w =>
   by_cases e:c<w
   ·exact .trans (dh (.trans (Dg rfl) (.trans (Ma (cg (Dh (ou rfl a rfl d)))) (.trans (cg (aW rfl (ou rfl a rfl d) rfl)) (by simp[e]))))) (P.trans (by simp[DM,e]))
   ·exact .trans (cO (.trans (Dg rfl) (.trans (Ma (cg (Dh (ou rfl a rfl d)))) (.trans (cg (aW rfl (ou rfl a rfl d) rfl)) (by simp[e]))))) (by simp[DM,e])
def E9(fin:Nd->Bool)(L:Nd->Option Int)(n:Nd):Option Int:=if fin n=true then some 0 else L n
def qB(b:fin n=true->L n=none)(a:v=HA fin n\/v=E9 fin L n):(if DM v (L n)=true then L n else v)=E9 fin L n:=by
 unfold E9 HA at *
 cases h:fin n with
 |true =>
  have:=b h
  rw[this];rw[h] at a
  rcases a with rfl | rfl<;>rfl
 |false =>
  rw[h] at a
  rcases a with rfl | rfl
  ·cases L n<;>rfl
  ·simp only[Bool.false_eq_true,if_false]
   split<;>rfl
def qE(a:fin n=true->L n=none):DM (E9 fin L n) (L n)=false:=by
 unfold E9
 cases h:fin n with
 |true =>
  rw[a h];rfl
 |false =>
  cases L n with
  | none
  |some c=>simp[DM]
theorem Mx(T:GG t fs N nodes mv fin){a:Nat}(K:a<=N){c:Tb}(J:∀n∈nodes a,∀m∈mv n,(lk c m.other).isSome=true)(st:Nd->Option Int)(C:∀n∈nodes a,st n=HA fin n\/st n=E9 fin (λn=>lc c (mv n)) n)(w v:Option D):
  ∀(rest:List Nd)(O:au)(d:Tb)(b:Bool)(y u:Option D),(∀n∈rest,n∈nodes a)->rest.Nodup->O[p]?=some (.dn (D8 d))->O[q]?=some (.nf (cR mv (nodes a)))->p≠q->(∀m,m∉nodes a->lk d m=lk c m)->(∀n∈rest,lk d n=some (st n))->d.length<1000000 ->
  ∃k f o l,bw (C9 4) Kb (rest.map dN) [w,v,some (.ob p),some (.ob q),y,some (.bl b),u] O=.nx [w,v,some (.ob p),some (.ob q),o,some (.bl (b || rest.any λn=>DM (st n) (lc c (mv n)))),l] k/\k[p]?=some (.dn (D8 f))/\(∀j,j≠p->k[j]?=O[j]?)/\(∀m,lk f m=if m∈rest then some (E9 fin (λn=>lc c (mv n)) m) else lk d m)/\f.length<=d.length
 | [],O,d,b,y,u,_,_,hp,_,_,_,_,_=>⟨O,d,y,u,by simp[bw],hp,λ_ _=>rfl,λm=>by simp,zc _⟩
 |n::rest,O,d,b,y,u,hr,W,hp,hq,hpq,hc,hs,hl=>by
  have A:=hr n zd;have hd':=List.nodup_cons.mp W
  have E:∀m∈mv n,m.other∉nodes a:=λm i z=>by
   obtain⟨b,b1,b2,b3⟩:=T.fw a n K A m i
   have:=T.sp a b _ z b3
   omega
  have eL:lc d (mv n)=lc c (mv n):=wM λm i=>hc _ (E m i)
  have i:∀m∈mv n,(lk d m.other).isSome=true:=λm i=>by rw[hc _ (E m i)];exact J n A m i
  have Q:=qA A hp hq (hs n zd) i (T.ml n) hl b w v u;rw[eL] at Q;have G:=qB (L:=λn=>lc c (mv n)) (λh=>by show lc c (mv n)=none;rw[T.fe n h];rfl) (C n A)
  have x:(lk d n).isSome=true:=by rw[hs n zd];rfl
  have P:∀(B:au)(g:Tb),B[p]?=some (.dn (D8 g))->(∀j,j≠p->B[j]?=O[j]?)->(∀m,lk g m=if m=n then some (E9 fin (λn=>lc c (mv n)) n) else lk d m)->g.length<=d.length->(if DM (st n) (lc c (mv n))=true then O.set p (.dn (D8 (put d n (lc c (mv n))))) else O)=B ->
    ∃k f o l,bw (C9 4) Kb ((n::rest).map dN) [w,v,some (.ob p),some (.ob q),y,some (.bl b),u] O=.nx [w,v,some (.ob p),some (.ob q),o,some (.bl (b || (n::rest).any λn=>DM (st n) (lc c (mv n)))),l] k/\k[p]?=some (.dn (D8 f))/\(∀j,j≠p->k[j]?=O[j]?)/\(∀m,lk f m=if m∈n::rest then some (E9 fin (λn=>lc c (mv n)) m) else lk d m)/\f.length<=d.length:=λB g U I H k4 R=>by
   obtain⟨k,f,o,l,e,Z,Y,X,g4⟩:=Mx T K J st C w v rest B g (b || DM (st n) (lc c (mv n))) (some (dN n)) (some (pD (lc c (mv n)))) (λm i=>hr m (zl _ i)) hd'.2 U ((I q (Ne.symm hpq)).trans hq) hpq (λm i=>by
     rw[H m,if_neg (λz:m=n=>i (by rw[z];exact A))]
     exact hc m i) (λm i=>by
     rw[H m,if_neg (λz:m=n=>hd'.1 (by rw[<-z];exact i))]
     exact hs m (zl _ i)) (by omega)
   refine⟨k,f,o,l,?_,Z,λj F=>(Y j F).trans (I j F),λm=>?_,by omega⟩
   ·rw[zh];unfold bw;rw[Kn];dsimp only
    show(match Kb [w,v,some (.ob p),some (.ob q),some (dN n),some (.bl b),u] O with
     | .nx ρ' k=>bw _ _ (rest.map dN) ρ' k | .ct ρ' k=>bw _ _ (rest.map dN) ρ' k | .bk ρ' k=>Fl.nx ρ' k | r=>r)=_
    rw[Q,R];rw[List.any_cons,<-Bool.or_assoc];exact e
   ·rw[X m,H m]
    by_cases s:m=n
    ·subst s;simp[hd'.1]
    ·simp[s]
  cases hbt:DM (st n) (lc c (mv n)) with
  |true =>
   rw[hbt] at G;refine P (O.set p (.dn (D8 (put d n (lc c (mv n)))))) (put d n (lc c (mv n))) (tU hp) (λj F=>by rw[zi (Ne.symm F)]) (λm=>?_) (Nat.le_of_eq (qo x)) (by rw[hbt];rfl);rw[Ml,<-G];rfl
  |false =>
   rw[hbt] at G;refine P O d hp (λ_ _=>rfl) (λm=>?_) (zc _) (by rw[hbt];rfl)
   split
   ·rename_i s;rw[s,<-G];exact hs n zd
   ·rfl
end
def NX:MS:=(aq (aA 5 (mC (.bl false)))
  (rQ 3 (bV (pK (aa 3)) (C9 4) Kb)))
def My(T:GG t Y N R X fin) (J:a<=N) (I:∀n∈R a,∀m∈X n,(lk U m.other).isSome=true)(st:Nd->Option Int)(v:∀n∈R a,st n=HA fin n\/st n=E9 fin (λn=>lc U (X n)) n)(i g o C l:Option D)
  (F:O[p]?=some (.dn (D8 W))) (u:O[q]?=some (.dn (cR X (R a)))) (f:p≠q) (z:∀m,m∉R a->lk W m=lk U m) (hs:∀n∈R a,lk W n=some (st n)) (H:W.length<1000000):
  ∃k b d c,NX [i,g,some (.ob p),some (.ob q),o,C,l] O=.nx [i,g,some (.ob p),some (.ob q),d,some (.bl ((R a).any λn=>DM (st n) (lc U (X n)))),c] k/\k[p]?=some (.dn (D8 b))/\k[q]?=some (.dn (cR X (R a)))/\(∀j,j≠p->j≠q->k[j]?=O[j]?)/\(∀m,m∉R a->lk b m=lk U m)/\(∀n∈R a,lk b n=some (E9 fin (λn=>lc U (X n)) n))/\b.length<=W.length:=by
 have s:(O.set q _)[q]?=some (.nf (cR X (R a))):=tU u
 have w:(O.set q (.nf (cR X (R a))))[p]?=some (.dn (D8 W)):=by rw[zi (Ne.symm f)];exact F
 obtain⟨k,b,d,c,e,L,B,A,K⟩:=Mx T J I st v i g _ _ _ _ o l (λn h=>h) (T.nd a) w s f z hs H;rw[Bool.false_or] at e;have r :=(B q (Ne.symm f)).trans s;refine⟨k.set q _,b,d,c,?_,?_,tU r,λj E x=>?_,λm y=>?_,λn G=>?_,K⟩
 ·have P:pK (aa 3) [i,g,some (.ob p),some (.ob q),o,some (.bl false),l] O=.ok ((R a).map dN) (O.set q (.nf (cR X (R a)))):=by
   unfold pK;rw[show aa 3 _ O=.ok _ O from rfl]
   dsimp
   rw[u]
   dsimp
   rw[qu]
  have Q:bV (pK (aa 3)) (C9 4) Kb [i,g,some (.ob p),some (.ob q),o,some (.bl false),l] O=.nx [i,g,some (.ob p),some (.ob q),d,some (.bl ((R a).any λn=>DM (st n) (lc U (X n)))),c] k:=by
   rw[sE,P,sG,e]
  show rQ 3 _ [i,g,some _,some (.ob q),o,some _,l] O=_;show(match O[q]? with | some (.dn _)=>_ | _=>Fl.no)=_;rw[u];rw[Q]
  dsimp
  rw[r]
 ·rw[zi (Ne.symm f)];exact L
 ·rw[zi (Ne.symm x),B j E,zi (Ne.symm x)]
 ·rw[A,if_neg y];exact z m y
 ·rw[A,if_pos G]
def wN(h:t ρ O=.ok true O)(a:b ρ O=.nx d c):dM t b (k+1) ρ O=dM t b k d c:=by
 show(match t ρ O with | .ok true O1=>(match b ρ O1 with | .nx _ c=>dM t b k _ c | .ct _ c=>dM t b k _ c | .bk _ c=>Fl.nx _ c | r=>r) | .ok false O1=>.nx ρ O1 | .ex x O'=>.ex x O' | .no=>.no)=_;rw[h]
 dsimp
 rw[a]
def Dl(h:t ρ O=.ok false O):dM t b (k+1) ρ O=.nx ρ O:=by
 show(match t ρ O with | .ok true O1=>(match b ρ O1 with | .nx _ O2=>dM t b k _ O2 | .ct _ O2=>dM t b k _ O2 | .bk _ O2=>Fl.nx _ O2 | r=>r) | .ok false O1=>.nx ρ O1 | .ex x O'=>.ex x O' | .no=>.no)=_;rw[h]
def qS(T:GG t fs N nodes mv fin) (q:a<=N) (B:O[t]?=some (.ins "Leaps" fs))(C:O[p]?=some (.dn (D8 cur)))(E:∀n∈nodes a,∀m∈mv n,(lk cur m.other).isSome=true)(hl:cur.length<900000):
  ∃g b,tH [.ob t,.int a,.ob p] O=.ok .Pl g/\g[p]?=some (.dn (D8 b))/\(∀(j:Nat)(x:Ob),j≠p->O[j]?=some x->g[j]?=some x)/\(∀m,m∉nodes a->lk b m=lk cur m)/\(∀n∈nodes a,lk b n=some (E9 fin (λn=>lc cur (mv n)) n))/\b.length<=cur.length+10:=by
 have hln:=T.ln a;have k:=(zx.mp C).1;have w:=(zx.mp B).1;have f :=zt k
 have e:(O++[Ob.dn []])[t]?=some (.ins "Leaps" fs):=by rw[zG w];exact B
 have z:(O++[Ob.dn []])[p]?=some (.dn (D8 cur)):=by rw[zG k];exact C
 have y:(O++[Ob.dn []])[O.length]?=some (.dn (cR mv [])):=by simp[cR]
 obtain⟨L,R,A,e1,f1,f2,f3,J,f5⟩:=Mw T q f none none _ [] _ cur none (λn h=>h) (T.nd a) e z y (by omega) (by simp;omega)
 have hf:∀n,fin n=true->lc cur (mv n)=none:=λn h=>by rw[T.fe n h];rfl
 obtain⟨O2,o,v,u,r,I,g2,H,G,F,g6⟩:=My T q E _ (λn _=>.inl rfl) _ _ A _ none f1 f2 f (λm hm=>by rw[J m,if_neg hm]) (λn hn=>by rw[J n,if_pos hn]) (by omega);obtain⟨O3,l,Q,P,K,Z,k2,Y,X,W,k6⟩:=My T q E _ (λn _=>.inr rfl) _ _ v _ u I g2 f G F (by omega)
 have U:((nodes a).any λn=>DM (E9 fin (λn=>lc cur (mv n)) n) (lc cur (mv n)))=false:=by
  rw[List.any_eq_false];intro n _;rw[qE (hf n)];exact zA
 rw[U] at K
 have i:∀(j:Nat)(x:Ob),j≠p->O[j]?=some x->L[j]?=some x:=λj x d c=>by
  have:=(zx.mp c).1
  rw[f3 j d (by omega),zG this];exact c
 have s:∀(j:Nat)(x:Ob),O[j]?=some x->j≠O.length:=λj x c=>zt (zx.mp c).1
 have fin':∀{g x4 x6},dM _ NX 10 [some (.ob t),some _,some (.ob p),some _,A,some _,none] L=.nx [some (.ob t),some (.int a),some (.ob p),some (.ob O.length),x4,some (.bl false),x6] g->tH [.ob t,.int a,.ob p] O=.ok .Pl g:=λhw=>congrArg bx (Eq.trans (a:=K6 [some (.ob t),some (.int a),some (.ob p),none,none,none,none] O) (sq (Di rfl)) (.trans (sq (dW (cU ((dG rfl e T.u1 (DF rfl)).trans (T.na _ a e q))) e1)) (.trans (sq (bc JE)) hw)))
 cases hb1:(nodes a).any _ with
 |true =>
  rw[hb1] at r;exact⟨O3,l,fin' (by rw[wN rfl r,wN rfl K,Dl rfl]),Z,λj x d c=>by rw[Y j d (s j x c),H j d (s j x c)];exact i j x d c,X,W,by omega⟩
 |false =>
  rw[hb1] at r;exact⟨O2,o,fin' (by rw[wN rfl r,Dl rfl]),I,λj x d c=>by rw[H j d (s j x c)];exact i j x d c,G,F,by omega⟩
theorem wO{α:Type}{g:MG}{t:L2.M Bool}{m:L2.M D}(c:aN->Prop)(p:α->Bool)(f:α->D):∀(b:List α)(ρ:aN)(O:au)(a:List D),c ρ->(∀x∈b,∀ρ,c ρ->∃ρ1,g (f x) ρ=some ρ1/\c ρ1/\t ρ1 O=.ok (p x) O/\m ρ1 O=.ok (f x) O)->cN g t m (b.map f) ρ O a=.ok (a++(b.filter p).map f) O
 | [],ρ,O,a,_,_=>by simp
 |x::b,ρ,O,a,h,hs=>by
  obtain⟨ρ1,l,i,k,j⟩:=hs x zd ρ h
  have e:=λa=>wO c p f b _ O a i λn d=>hs n (zl _ d)
  rw[zh];unfold cN;rw[l]
  dsimp
  rw[k]
  cases q:p x with
  |true =>
   dsimp
   rw[j]
   dsimp
   rw[e,List.filter_cons,q];simp
  |false =>
   dsimp
   rw[e,List.filter_cons,q];simp
def qV(b:Nat):j8 (((b+1:Nat):Int) - 1) (b+1)=.int (b:Int)::j8 ((b:Int) - 1) b:=by
 unfold j8;rw[List.range_succ_eq_map,zh,zL];congr 1
 ·congr 1;omega
 ·refine ja λi _=>?_
  show D.int _=D.int _;congr 1;omega
def G2(N:Nat)(a:Nat->List Nd)(e:Nd->List M3)(fin:Nd->Bool)(b:Nat)(d:Tb):Prop:=∀c,b<=c->c<=N->∀n∈a c,lk d n=some (E9 fin (λn=>lc d (e n)) n)
def KU:MS:=(dY (aC tH (aj (aa 0) (aj (aa 2) (aj (aa 1) ao)))))
theorem Mz(T:GG t fs N nodes mv fin):∀(b:Nat)(O:au)(f:Tb)(q:Option D),b<=N+1->O[t]?=some (.ins "Leaps" fs)->O[p]?=some (.dn (D8 f))->G2 N nodes mv fin b f->f.length+10 * b<=800000 ->
  ∃i g k,bw (C9 2) KU (j8 ((b:Int) - 1) b) [some (.ob t),some (.ob p),q] O=.nx [some (.ob t),some (.ob p),k] i/\i[p]?=some (.dn (D8 g))/\(∀(j:Nat)(x:Ob),j≠p->O[j]?=some x->i[j]?=some x)/\G2 N nodes mv fin 0 g
 | 0,O,f,q,_,_,hp,hP,_=>⟨O,f,q,rfl,hp,λ_ _ _ h=>h,hP⟩
 |a+1,O,f,q,hb,ht,hp,hP,hl=>by
  have C:a<=N:=by omega
  have v:∀n∈nodes a,∀m∈mv n,(lk _ _).isSome=true:=λn l m u=>by
   obtain⟨c,Y,s,X⟩:=T.fw a n C l m u;rw[hP c (by omega) s _ X];rfl
  obtain⟨G,o,e,Q,F,E,P,Z⟩:=qS T C ht hp v (by omega)
  have H :=fH ht hp λz=>nomatch z
  have w:G2 N _ mv _ a _:=λc Y s n l=>by
   have y :=λm u=>E _ λz=>by
    obtain⟨d,d1,d2,d3⟩:=T.fw c n s l m u
    have:=T.sp a d _ z d3
    omega
   have eL :=wM y
   have U:E9 fin (λn=>lc o (mv n)) n=E9 fin (λn=>lc f (mv n)) n:=by
    show(if fin n=true then some 0 else lc _ _)=_;rw[eL];rfl
   rw[U]
   by_cases B:c=a
   ·subst B;exact P n l
   ·rw[E n λz=>B (T.sp c a n l z)];exact hP c (by omega) s n l
  obtain⟨i,g,k,W,K,J,I⟩:=Mz T a G _ _ (by omega) (F t _ H ht) Q w (by omega);refine⟨i,g,k,?_,K,λj x A L=>J j x A (F j x A L),I⟩;rw[qV]
  have R:KU [some (.ob t),some (.ob p),some (.int a)] O=.nx [some (.ob t),some (.ob p),some (.int a)] G:=by
   unfold KU;rw[rT,bA (DJ rfl (DJ rfl (DF rfl))),e,vI]
  show(match KU [some _,some _,some _] O with
   | .nx ρ' i=>bw _ _ _ _ i | .ct ρ' i=>bw _ _ _ _ i | .bk ρ' i=>Fl.nx _ i | r=>r)=_
  rw[R];exact W
def q0(T:GG t u N s v fin) (h:O[t]?=some (.ins "Leaps" u)):∃d a,BL [.ob t] O=.ok (.ob O.length) d/\d[O.length]?=some (.dn (D8 a))/\(∀(j:Nat)(x:Ob),O[j]?=some x->d[j]?=some x)/\G2 N s v fin 0 a:=by
 have q:=T.hN;have f:=(zx.mp h).1
 have b:(O++[Ob.dn []])[t]?=some (.ins "Leaps" u):=by rw[zG f];exact h
 obtain⟨d,a,o,e,l,k,i⟩:=Mz (p:=O.length) T _ _ [] _ (zc _) b (by simp[D8]) (λc n r=>absurd n (by omega)) (by simp;omega);refine⟨d,a,?_,l,λj x g=>?_,i⟩
 ·have m:uZ (aj (aV "Leaps" "last_at" lU (mG (aa 0)) ao) (aj (HU lG (kI 1)) (aj (HU lG (kI 1)) ao))) [some (.ob t),some (.ob O.length),none] (O++[Ob.dn []])=.ok (j8 ((N+1:) - 1) (N+1)) (O++[Ob.dn []]):=by
   unfold uZ;rw[DJ ((dG rfl b T.u4 rfl).trans (T.la _ b)) (DJ rfl (DF rfl))];dsimp only[aR];rw[if_pos ⟨rfl,by omega⟩];rw[show((N:Int) - -1).toNat=N+1 by omega,show((N+1:) - 1)=(N:Int) by omega]
  unfold KU at e;show bx (aq _ _ [some _,some _,none] _)=_;rw[cZ,sE,m,sG,e];rfl
 ·have:=(zx.mp g).1
  exact k j x (by omega) (by rw[zG this];exact g)
theorem Dm:∀(l:List Int)(b:Option Int)(c:Int),FB b l=some c->b=some c\/c∈l
 | [],b,c,h=>.inl (by cases b<;>exact h)
 |n::r,none,c,h=>by
  rcases Dm r _ c h with h | h
  ·exact .inr (by rw[zF h];exact zd)
  ·exact .inr (zl _ h)
 |n::r,some m,c,h=>by
  rcases Dm r _ c h with h | h
  ·split at h
   ·exact .inr (by rw[zF h];exact zd)
   ·exact .inl h
  ·exact .inr (zl _ h)
theorem MF:∀(l:List Int)(b:Int),∃c,FB (some b) l=some c
 | [],b=>⟨b,rfl⟩
 |n::r,b=>MF r _
def ra(h:l≠[]):∃c,FB none l=some c:=by
 cases l with
 |nil=>exact absurd rfl h
 |cons n r=>exact MF r n
def rb(x y:Option Int):DA (pD x) (pD y)=some (.bl (decide (x=y))):=by
 cases x with
 |none=>cases y<;>rfl
 |some i =>
  cases y with
  |none=>rfl
  |some j =>
   show some _=_;congr 2;exact decide_eq_decide.mpr ⟨λh=>by rw[h],λh=>zF h⟩
theorem MJ{α:Type}(f:α->Bool)(g:α->D)(h:α->Bool):∀(a:List α)(m:α),a.find? f=some m->((a.filter f).map g)[0]?=some (g m)
 |x::a,m,e=>by
  rw[List.find?_cons] at e
  cases hx:f x with
  |true =>
   rw[hx] at e;cases e;simp[hx]
  |false =>
   rw[hx] at e;rw[List.filter_cons,hx];exact MJ f g h a m e
def rf(j:O[p]?=some (.dn (D8 v)))(k:∀m∈u,(lk v m.other).isSome=true)(s:u.length<=1000)(d:lc v u=some c):
  ∃m,u.find? (λm=>decide (co v m=lc v u))=some m/\m∈u/\co v m=some c/\wj [.lst (u.map d3),.ob p] O=.ok (d3 m) O:=by
 obtain⟨x,q,f⟩:∃x∈u,co v x=some c:=by
  rcases Dm _ _ _ d with h | h
  ·cases h
  ·exact List.mem_filterMap.mp h
 obtain⟨m,b⟩:∃m,u.find? (λm=>decide (co v m=lc v u))=some m:=by
  cases e:u.find? _ with
  |some m=>exact⟨m,rfl⟩
  |none =>
   have:=List.find?_eq_none.mp e x q
   rw[f,d] at this;simp at this
 have g:=List.mem_of_find?_eq_some b
 have i:co v m=some c:=by
  have:=List.find?_some b
  rw[<-d];exact zT this
 refine⟨m,b,g,i,?_⟩;have o:aC _ (aj (aa 0) (aj (aa 1) _)) [some _,some _,none] O=.ok _ O:=(bA (DJ rfl (DF rfl))).trans (Ms j k s)
 have t:cN (C9 0) (az (ak DA (aC qm (aj (aa 0) (aj (aa 1) ao))) (aa 2))) (aa 0) (u.map d3) [none,some (.ob p),some (pD (lc v u))] O []=.ok ((u.filter λm=>decide (co v m=lc v u)).map d3) O:=by
  rw[wO (λρ=>∃a,ρ=[a,some _,some _]) _ d3 u _ _ _ ⟨none,rfl⟩ (by
   rintro m' hm' ρ ⟨a,rfl⟩
   exact⟨_,rfl,⟨_,rfl⟩,cg (aW ((bA (DJ rfl (DF rfl))).trans (Mq j (k m' hm'))) rfl (by
    rw[show aZ O _=pD (co v m') by cases co v m'<;>rfl,show aZ O _=pD (lc v u) by cases lc v u<;>rfl,rb])),rfl⟩)]
  rw[zO]
 have n:bJ (bj (aa 0)) 1 [1,2] _ _ _ [some _,some _,some _] O=.ok _ O:=iu (cU rfl) (by rw[ze];omega) rfl t
 have l:ak C7 _ (kI 0) _ O=.ok _ O:=aW n JE (by
  exact pY.trans (MJ _ d3 (λ_=>true) u m b))
 show bx (BP [some _,some _,none] O)=_;unfold BP;rw[sq (bc o)];exact congrArg (λr=>bx (lO r)) l
def Wy(b:Tb)(a:Nd->List M3)(fin:Nd->Bool):Nd->List M3->Prop
 |n,[]=>fin n=true
 |n,m::ms=>fin n=false/\m∈a n/\(a n).find? (λm=>decide (co b m=lc b (a n)))=some m/\Wy b a fin m.other ms
def LI:MS:=(aq (aA 5 (aC wj (aj (aV "Leaps" "moves_from" nW (mG (aa 0)) (aj (aa 2) ao)) (aj (aa 1) ao))))
  (aq (dB 4 (ak C7 (aa 5) (kI 1)))
  (aA 2 (ak C7 (aa 5) (kI 2)))))
def rg{G:List (Str×D)}{N:Nat}{d:Nat->List Nd}{w:Nd->List M3}{fin:Nd->Bool}{p:Nat}(T:GG t G N d w fin){j:Tb}(F:G2 N d w fin 0 j){O:au}(x:O[t]?=some (.ins "Leaps" G))(K:O[p]?=some (.dn (D8 j)))(o:Option D):∀(k a:Nat)(n:Nd)(c:Int)(g:List D)(f:Nat)(l:Option D),a+k=N->n∈d a->lk j n=some (some c)->k<f->g.length+k<1000000 ->
  ∃q y h,dM (d7 (bI (aV "Leaps" "is_end" lV (mG (aa 0)) (aj (aa 2) ao)))) LI f [some (.ob t),some (.ob p),some (dN n),o,some (.lst g),l] O=.nx [some (.ob t),some (.ob p),some (dN y),o,some (.lst (g++q.map λm=>.str m.name)),h] O/\Wy j w fin n q/\q.length<=k:=by
 intro k
 induction k using Nat.strongRecOn with
 | _ k ih =>
  intro a n c g f l Y r L hf Z;obtain⟨B,rfl⟩:∃B,f=B+1:=⟨f - 1,by omega⟩
  have v:d7 (bI (aV "Leaps" "is_end" lV (mG (aa 0)) (aj (aa 2) ao))) [some (.ob t),some (.ob p),some (dN n),o,some (.lst g),l] O=.ok (!fin n) O:=by
   rw[nD,kE,(dG rfl x T.u3 (DF rfl)).trans (T.ie O a n x (by omega) r),aR,nu,nC,pU,aR]
  cases hfin:fin n with
  |true =>
   rw[hfin] at v;exact⟨[],n,l,by rw[Dl v];simp,hfin,Nat.zero_le _⟩
  |false =>
   rw[hfin] at v
   have P :=by
    have:=F a (Nat.zero_le _) (by omega) n r
    rw[L] at this;have A :=zF this;unfold E9 at A;rw[hfin] at A;exact A.symm
   have z:∀m∈w n,(lk j m.other).isSome=true:=λm z=>by
    obtain⟨b,X,H,C⟩:=T.fw a n (by omega) r m z;rw[F b (Nat.zero_le _) H _ C];rfl
   obtain⟨m,W,u,i,U⟩:=rf K z (T.ml n) P;obtain⟨b,X,H,C⟩:=T.fw a n (by omega) r m u
   obtain⟨s,E⟩:∃s,lk j m.other=some (some s):=by
    unfold co at i;split at i
    ·rename_i s e;exact⟨s,e⟩
    ·cases i
   have J:aC _ (aj (aV "Leaps" _ _ (mG (aa 0)) (aj (aa 2) ao)) (aj (aa 1) ao)) [some (.ob t),some (.ob p),some (dN n),o,some (.lst g),l] O=.ok (d3 m) O:=(bA (DJ ((dG rfl x T.u2 (DF rfl)).trans (T.mf O a n x (by omega) r)) (DF rfl))).trans U
   have Q:LI [some (.ob t),some (.ob p),some (dN n),o,some (.lst g),l] O=.nx [some (.ob t),some (.ob p),some (dN m.other),o,some (.lst (g++[.str m.name])),some (d3 m)] O:=by
    unfold LI;rw[sq (bc J)];rw[sq (nY (aW rfl rfl rfl) rfl (by omega))];rfl
   obtain⟨q,y,h,R,I,l3⟩:=ih (N - b) (by omega) b m.other s (g++[.str m.name]) B _ (by omega) C E (by omega) (by rw[zg,zR];omega);refine⟨m::q,y,h,?_,⟨hfin,u,W,I⟩,by rw[zu];omega⟩;rw[wN v Q,R,zz];rfl
def rh{u:List (Str×D)}{N:Nat}{d:Nat->List Nd}{f:Nd->List M3}{fin:Nd->Bool}(T:GG t u N d f fin)(h:∀(a:Nat)(n:Nd),a<=N->n∈d a->fin n=false->f n≠[]){e:Tb}(r:G2 N d f fin 0 e):∀(k a:Nat)(n:Nd),a+k=N->n∈d a->∃c,lk e n=some (some c):=by
 intro k
 induction k using Nat.strongRecOn with
 | _ k ih =>
  intro a n x g;have p:=r a (Nat.zero_le _) (by omega) n g
  cases hfin:fin n with
  |true =>
   refine⟨0,?_⟩;rw[p];unfold E9;rw[hfin,if_pos rfl]
  |false =>
   have s:lk e n=some (lc e (f n)):=by
    rw[p];unfold E9;rw[hfin,if_neg zA]
   obtain⟨m,o⟩:=List.exists_mem_of_ne_nil _ (h a n (by omega) g hfin);obtain⟨b,A,y,w⟩:=T.fw a n (by omega) g m o;obtain⟨c,q⟩:=ih (N - b) (by omega) b _ (by omega) w
   have i:co e m=some (m.cost+c):=by
    unfold co;rw[q]
   obtain⟨v,j⟩:=ra (l:=(f n).filterMap _) λz=>by
    have:=List.mem_filterMap.mpr ⟨m,o,i⟩
    rw[z] at this;cases this
   exact⟨v,by rw[s];exact congrArg _ j⟩
def ri(T:GG t C N A B fin)(h:∀(a:Nat)(n:Nd),a<=N->n∈A a->fin n=false->B n≠[])(z:N<300) (i:O[t]?=some (.ins "Leaps" C)):
  ∃b d c e,BW [.ob t] O=.ok (.tup [.int c,.lst (e.map λm=>.str m.name)]) b/\(∀(j:Nat)(x:Ob),O[j]?=some x->b[j]?=some x)/\G2 N A B fin 0 d/\lk d (0,(46,46))=some (some c)/\Wy d B fin (0,(46,46)) e:=by
 obtain⟨b,d,u,l,k,g⟩:=q0 T i;obtain⟨c,f⟩:=rh T h g N 0 _ (jp _) T.f0;have ht':=k t _ i;obtain⟨e,w,v,o,p,y⟩:=rg T g ht' l _ N 0 _ c [] _ _ (jp _) T.f0 f (by omega) (by simp;omega);refine⟨b,d,c,e,?_,k,g,f,p⟩;have s:aC _ (aj (aa 0) _) [some _,none,none,none,none,none] O=.ok _ b:=(bA (DF rfl)).trans u;have r:aV _ _ _ (mG (aa 0)) ao [some (.ob t),some (.ob O.length),none,none,none,none] b=.ok _ b:=(dG rfl ht' T.u5 rfl).trans (T.fi b ht');have q:fY (aa 1) (aa 2) [some (.ob t),some _,some _,none,none,none] b=.ok _ b:=ou rfl l rfl f
 unfold LI at o;show bx (BV [some _,none,none,none,none,none] O)=_;unfold BV;rw[sq (Di s)];show bx (aq _ _ [some _,some _,none,none,none,none] b)=_;rw[sq (bc r)];show bx (aq _ _ [some _,some _,some _,none,none,none] b)=_;rw[sq (bc q)];show bx (aq _ _ [some _,some _,some _,some _,some _,none] b)=_;unfold jZ;rw[sq o];rfl
def lY(h:m ρ O=.ok (.str t) O)(a:t.length<=1000000):aO aX (aj m ao) ρ O=.ok (.int (t.length:Int)) O:=iM (DF h) (by
 show aX [D.str t]=_
 rw[Ju,if_pos a])
def iw(e:a ρ O=.ok (.str x) O)(d:b ρ O=.ok (.str y) O)(c:x.length+y.length<=1000000):ak aD a b ρ O=.ok (.str (x++y)) O:=aW e d (by rw[pR,pR,gv,if_pos c])
def mi(p:Nat×Nat)(c:Nat):Pf:=if p.1=c then[] else[91,c,93]
def IC(p:Nat×Nat)(c:Nat):Pf:=if p.2=c then[] else[91,47,c,93]
def HP(p q:Nat×Nat):Pf:=mi p q.1++IC p q.2
def ID(q:Nat×Nat):Pf:=[91,93]++mi (46,46) q.1++IC (46,46) q.2
def mb(p q:Nat×Nat):Pf:=if(ID q).length<(HP p q).length then ID q else HP p q
def wQ(p:Nat×Nat)(c:Nat):(mi p c).length<=3:=by unfold mi;split<;>simp
def wR(p:Nat×Nat)(c:Nat):(IC p c).length<=4:=by unfold IC;split<;>simp
def rj(p q:Nat×Nat):(HP p q).length<=7:=by
 unfold HP;rw[zg]
 have:=wQ p q.1
 have:=wR p q.2
 omega
def MK(q:Nat×Nat):(ID q).length<=9:=by
 unfold ID;rw[zg,zg]
 have:=wQ (46,46) q.1
 have:=wR (46,46) q.2
 show 2+_+_<=9;omega
def MN(p q:Nat×Nat):(mb p q).length<=9:=by
 unfold mb
 have:=MK q
 split<;>omega
def MP(p:Nat×Nat)(c:Nat)(O:au):nU [pr p,.str [105,110,107],st c] O=.ok (.str (mi p c)) O:=by
 have b:aA 3 (EW (az (ak DA (aa 1) (kS [105,110,107]))) (mC _) (kI 1)) [some (pr p),some (.str [105,110,107]),some (st c),none] O=.nx [some _,some _,some _,some (.int 0)] O:=rfl;have a:az (ak _ (ak C7 (aa 0) (aa 3)) (aa 2)) [some (pr p),some (.str [105,110,107]),some (st c),some (.int 0)] O=.ok _ O:=cg (aW rfl rfl (wL _ _));show bx (tG [some _,some _,some _,none] O)=_;unfold tG mi;rw[sq b,fc,jE,a]
 by_cases h:p.1=c
 ·rw[zw h,if_pos h];rfl
 ·rw[zo h,if_neg h];rfl
def MT(p:Nat×Nat)(c:Nat)(O:au):nU [pr p,.str [103,114,111,117,110,100],st c] O=.ok (.str (IC p c)) O:=by
 have b:aA 3 (EW (az (ak DA (aa 1) (kS [105,110,107]))) (kI 0) (kI 1)) [some _,some (.str [103,114,111,117,110,100]),some (st c),none] O=.nx [some (pr p),some _,some _,some _] O:=rfl;have a:az (ak _ (ak C7 (aa 0) (aa 3)) (aa 2)) [some (pr p),some (.str [103,114,111,117,110,100]),some (st c),some (.int 1)] O=.ok _ O:=cg (aW rfl rfl (wL _ _));show bx (tG [some _,some _,some _,none] O)=_;unfold tG IC;rw[sq b,fc,jE,a]
 by_cases h:p.2=c
 ·rw[zw h,if_pos h];rfl
 ·rw[zo h,if_neg h];rfl
def rk(p q:Nat×Nat)(O:au):wg [pr p,pr q] O=.ok (.str (mb p q)) O:=by
 have g:=rj p q;have i:=MK q;have f:=wQ p q.1;have e:=wR p q.2;have l3:=wQ (46,46) q.1;have d:=wR (46,46) q.2;have c:ak aD (aC _ (aj (aa 0) (aj (mC _) (aj (ak C7 (aa 1) (kI 0)) ao)))) (aC _ (aj (aa 0) (aj (mC _) (aj (ak C7 (aa 1) (kI 1)) ao)))) [some _,some (pr q),none,none] O=.ok (.str (HP p q)) O :=
  iw ((bA (DJ rfl (DJ rfl (DF (aW rfl rfl rfl))))).trans (MP p q.1 O)) ((bA (DJ rfl (DJ rfl (DF (aW rfl rfl rfl))))).trans (MT p q.2 O)) (by omega)
 have b:ak aD (ak aD (aC _ (aj (kS [112,108,97,105,110]) (aj (mC _) ao))) (aC _ (aj (mC (.tup [.str [46],.str [46]])) (aj (mC _) (aj (ak C7 (aa 1) (kI 0)) ao))))) (aC _ (aj (mC (.tup [.str [46],.str [46]])) (aj (mC _) (aj (ak C7 (aa 1) (kI 1)) ao)))) [some (pr p),some (pr q),some (.str (HP p q)),none] O=.ok _ O :=
  iw (iw ((bA (DJ rfl (DF rfl))).trans (p9 O)) ((bA (DJ rfl (DJ rfl (DF (aW rfl rfl rfl))))).trans (MP (46,46) q.1 O)) (by show 2+_<=_;omega)) ((bA (DJ rfl (DJ rfl (DF (aW rfl rfl rfl))))).trans (MT (46,46) q.2 O)) (by rw[zg];show 2+_+_<=_;omega)
 have a:az (ak E7 (aO aX (aj (aa 3) ao)) (aO aX (aj (aa 2) ao))) [some (pr p),some (pr q),some (.str (HP p q)),some (.str (ID q))] O=.ok _ O:=wI (lY rfl (by omega)) (lY rfl (by omega));show bx (By [some _,some (pr q),none,none] O)=_;unfold By mb;rw[sq (bc c)];show bx (aq _ _ [some (pr p),some (pr q),some _,none] O)=_;rw[sq (bc b)];show bx (aB _ [some (pr p),some (pr q),some _,some (.str (ID q))] O)=_;rw[fc,jE,a]
 by_cases h:(ID q).length<(HP p q).length
 ·rw[zw (by omega),if_pos h];rfl
 ·rw[zo (by omega),if_neg h];rfl
def IU(l:List L3)(a:Pf):List (Str×D):=[("look",.lst (l.map dK)),("inks",.lst (a.map st))]
def EV(l:List L3)(b:Pf)(a:Nat):List Nd:=if a=0\/a=l.length+1 then[((a:Int),(46,46))] else match l[a - 1]? with
 |some x=>if x.1=32 then b.map λc=>((a:Int),(c,x.2.2)) else[((a:Int),(x.2.1,x.2.2))]
 |none=>[]
def sg(l:List L3)(a:Nat):Pf:=match l[a]? with
 |some x=>HM x.1
 |none=>[]
def GB(l:List L3)(a:Pf)(n:Nd):List M3:=if n.1=(l.length:Int)+1 then[] else(EV l a (n.1.toNat+1)).map λb=>⟨((mb n.2 b.2).length:Int),mb n.2 b.2++sg l n.1.toNat,b⟩
def qG(l:List L3)(n:Nd):Bool:=decide (n.1=(l.length:Int)+1)
def lZ(h:n∈EV l b a):n.1=(a:Int):=by
 unfold EV at h;split at h
 ·rw[zj.mp h]
 ·split at h
  ·split at h
   ·obtain⟨c,_,rfl⟩:=zv.mp h;rfl
   ·rw[zj.mp h]
  ·cases h
def rq(c:Nat):(HM c).length<=2:=by unfold HM;split<;>simp
def M4(l:List L3)(a:Nat):(sg l a).length<=2:=by
 unfold sg
 split
 ·exact rq _
 ·exact Nat.zero_le _
def tV(b:O[t]?=some (.ins "Leaps" (IU l c))):lU [.ob t] O=.ok (.int ((l.length:Int)+1)) O:=by
 have h:bz Pc "look" (aa 0) [some _] O=.ok _ O:=fD rfl b zd rfl;have a:=jK h;rw[ze] at a;show bx (Bx [some _] O)=_;unfold Bx;rw[fc,nZ a rfl];rfl
def M5{l:List L3}{k:Nat} (h:l[k]?=some x):C7 (.lst (l.map dK)) (.int (k:Int))=some (dK x):=by
 rw[vJ,pY,zH,h];rfl
def MW(h:a ρ O=.rt d c):aq a b ρ O=.rt d c:=by rw[cZ,h];rfl
def M6{O:au}{t:Nat}(d:O[t]?=some (.ins "Leaps" (IU l p)))(n:p.length<=100) (o:a<=l.length+1):qp [.ob t,.int (a:Int)] O=.ok (.lst ((EV l p a).map dN)) O:=by
 unfold EV
 by_cases h:a=0\/a=l.length+1
 ·rw[if_pos h];exact congrArg bx (Eq.trans (MW (.trans (dh (.trans (LU (kZ rfl rfl) (kZ rfl ((dG rfl d rfl rfl).trans (tV d)))) (by simp;omega))) rfl)) rfl)
 ·rw[if_neg h]
  have i:a - 1<l.length:=by omega
  have f :=zB i
  generalize l[a - 1]=x at f
  rw[f]
  suffices g:K1 _ O=.rt (.lst ((if x.1=32 then p.map _ else[((a:Int),(x.2.1,x.2.2))]).map dN)) O from congrArg bx g
  refine .trans (sq (cO (.trans (LU (kZ rfl rfl) (kZ rfl ((dG rfl d rfl rfl).trans (tV d)))) (by simp;omega)))) (.trans (sq (bc (aW (fD rfl d zd rfl) (CQ rfl rfl) (by
   rw[show a - 1=((a - 1:Nat):Int) by omega]
   exact M5 f)))) ?_)
  by_cases e:x.1=32
  ·rw[if_pos e];have j:bz Pc "inks" (aa 0) [some _,some (dK x)] O=.ok _ O:=fD rfl d zd rfl
   have k:=gO (g:=C9 0) (t:=bD) (m:=aU (aj (mG (aa 1)) (aj (aU (aj (aa 0) (aj (ak C7 (aa 2) (kI 2)) ao))) ao))) (λρ=>∃b,ρ=[b,some _,some (dK x)]) st _ p [none,some (.int a),some (dK x)] O [] ⟨_,rfl⟩ (by
    rintro c _ ρ ⟨b,rfl⟩
    exact⟨_,rfl,⟨_,rfl⟩,rfl,rfl⟩)
   exact MW (.trans (dh (.trans (cg (aW rfl rfl (wL _ _))) (by simp[e]))) (.trans (fG (iu (cU j) (by rw[ze];omega) rfl k)) (by rw[zL];rfl)))
  ·rw[if_neg e];exact .trans (sq (cO (.trans (cg (aW rfl rfl (wL _ _))) (by simp[e])))) rfl
def wU:MS:=(aq (aA 6 (aC wg (aj (ak C7 (aa 1) (kI 1)) (aj (ak C7 (aa 5) (kI 1)) ao))))
  (dB 4 (aU (aj (aO aX (aj (aa 6) ao)) (aj (ak aD (aa 6) (aa 3)) (aj (aa 5) ao))))))
theorem M7(n:Nd)(s:Pf)(hs:s.length<=2)(i h:Option D):∀(g:List Nd)(a:List D)(j f:Option D),a.length+g.length<1000000->∃d c,bw (C9 5) wU (g.map dN) [i,some (dN n),h,some (.str s),some (.lst a),j,f] O=.nx [i,some (dN n),h,some (.str s),some (.lst (a++g.map λb=>d3 ⟨((mb n.2 b.2).length:Int),mb n.2 b.2++s,b⟩)),d,c] O
 | [],a,j,f,_=>⟨j,f,by rw[zY,zY,zE];rfl⟩
 |b::g,a,j,f,hl=>by
  rw[zu] at hl;have l:=MN n.2 b.2;obtain⟨d,c,e⟩:=M7 n s hs i h g (a++[d3 _]) _ _ (by rw[zg,zR];omega);refine⟨d,c,?_⟩
  have k:wU [i,some (dN n),h,some (.str s),some (.lst a),some (dN b),f] O=.nx [i,some (dN n),h,some (.str s),some (.lst (a++[d3 ⟨(mb n.2 b.2).length,mb n.2 b.2++s,b⟩])),some (dN b),some (.str (mb n.2 b.2))] O:=by
   unfold wU;rw[sq (bc ((bA (DJ (aW rfl rfl rfl) (DF (aW rfl rfl rfl)))).trans (rk _ _ O)))];rw[nY (tQ (DJ (lY rfl (by omega)) (DJ (iw rfl rfl (by omega)) (DF rfl))) (show 3<=1000000 by decide)) rfl (by omega)];rfl
  rw[zh,dF rfl k,e,zz];rfl
def rB(b:O[t]?=some (.ins "Leaps" (IU l x)))(g:x.length<=100) (w:a<=l.length+1) (q:n∈EV l x a):nW [.ob t,dN n] O=.ok (.lst ((GB l x n).map d3)) O:=by
 have r:=lZ q;have m:aA 2 (ak C7 (aa 1) (kI 0)) [some (.ob t),some (dN n),none,none,none,none,none] O=.nx [some (.ob t),some (dN n),some (.int n.1),none,none,none,none] O:=rfl;have p:aV "Leaps" "last_at" _ (aa 0) ao [some (.ob t),some (dN n),some (.int n.1),none,none,none,none] O=.ok _ O:=(dG rfl b rfl rfl).trans (tV b);have d:az (ak DA (aa 2) _) _ O=.ok _ O:=kZ rfl p;show bx (BJ [some (.ob t),some (dN n),none,none,none,none,none] O)=_;unfold BJ GB;rw[sq m]
 by_cases h:n.1=(l.length:Int)+1
 ·rw[zw h] at d;rw[if_pos h,cZ,OL d];rfl
 ·rw[zo h] at d;rw[if_neg h,sq (OM d)];have i:bz Pc "look" (aa 0) [some (.ob t),some (dN n),some (.int n.1),none,none,none,none] O=.ok _ O:=fD (n:=t) rfl b zd rfl;have f:=jK i;rw[ze] at f
  have j:n.1.toNat=a:=by omega
  have k:EW (az (ak E7 (aa 2) (aO aX (aj (bz Pc "look" (aa 0)) ao)))) (aC kY (aj (kS [115,105,103,110]) (aj (ak C7 (ak C7 (bz Pc "look" (aa 0)) (aa 2)) (kI 0)) ao))) (kS []) [some (.ob t),some (dN n),some (.int n.1),none,none,none,none] O=.ok (.str (sg l n.1.toNat)) O:=by
   rw[jE,wI rfl f,aR,j];unfold sg
   by_cases c:a<l.length
   ·rw[zw (by omega),zB c];exact(bA (DJ rfl (DF (aW (aW i rfl (by rw[r];exact M5 (zB c))) rfl rfl)))).trans (p8 _ O)
   ·rw[zo (by omega),jr (by omega)];rfl
  rw[sq (bc k)];show bx (aq _ _ [some (.ob t),some (dN n),some (.int n.1),some _,none,none,none] O)=_;rw[sq (show aA 4 _ _ O=.nx [some (.ob t),some (dN n),some (.int n.1),some _,some (.lst []),none,none] O from rfl)]
  have o:aV "Leaps" "nodes_at" qp (aa 0) (aj (ak aD (aa 2) (kI 1)) ao) [some (.ob t),some (dN n),some (.int n.1),some (.str (sg l n.1.toNat)),some (.lst []),none,none] O=.ok (.lst ((EV l x (n.1.toNat+1)).map dN)) O:=by
   refine(dG rfl b rfl (DF ((nZ rfl rfl).trans ?_))).trans (M6 b g (by omega));congr 2;omega
  have s:(EV l x (n.1.toNat+1)).length<=100:=by
   unfold EV
   split
   ·show 1<=100;decide
   ·split
    ·split
     ·rw[ze];exact g
     ·show 1<=100;decide
    ·exact Nat.zero_le _
  obtain⟨v,u,e⟩:=M7 (O:=O) n _ (M4 _ _) _ _ (EV l x (n.1.toNat+1)) [] none none (by rw[jd];omega);unfold wU at e;rw[cZ,sE,cU o,sG,e,iJ,zL];rfl
def rL(a:O[t]?=some (.ins "Leaps" (IU l c)))(n:Nd):lV [.ob t,dN n] O=.ok (.bl (qG l n)) O:=by
 have b:aV _ "last_at" _ (aa 0) ao [some _,some (dN n)] O=.ok _ O:=(dG rfl a rfl rfl).trans (tV a);show bx (BK [some _,some _] O)=_;unfold BK;rw[fc,aW (aW rfl rfl rfl) b rfl];rfl
def wV(t:Nat) (hl:l.length<=250)(hc:cs.length<=10)(hcn:cs.Nodup):GG t (IU l cs) (l.length+1) (EV l cs) (GB l cs) (qG l) where
 na:=λO a ht ha=>M6 ht (by omega) ha
 mf:=λO a n ht ha hn=>rB ht (by omega) ha hn
 ie:=λO a n ht _ _=>rL ht n
 la:=λO ht=>tV ht
 fi:=λO ht=>rfl
 f0:=by
  unfold EV;rw[if_pos (.inl rfl)];exact zd
 nd:=λa=>by
  unfold EV
  split
  ·exact List.pairwise_singleton _ _
  ·split
   ·split
    ·refine List.Pairwise.map _ (R:=λa b=>a≠b) (λa b h z=>h ?_) hcn;exact congrArg (λn:Nd=>n.2.1) z
    ·exact List.pairwise_singleton _ _
   ·exact List.nodup_nil
 ln:=λa=>by
  unfold EV
  split
  ·show 1<=10;decide
  ·split
   ·split
    ·rw[ze];exact hc
    ·show 1<=10;decide
   ·exact Nat.zero_le _
 fw:=λa n ha hn m hm=>by
  have h1:=lZ hn;unfold GB at hm;split at hm
  ·cases hm
  ·rename_i hne;obtain⟨b,hb,rfl⟩:=zv.mp hm
   have ta:n.1.toNat=a:=by omega
   rw[ta] at hb;exact⟨a+1,by omega,by omega,hb⟩
 sp:=λa b n h1 h2=>by
  have:=lZ h1
  have:=lZ h2
  omega
 ml:=λn=>by
  unfold GB
  split
  ·exact Nat.zero_le _
  ·rw[ze];unfold EV
   split
   ·show 1<=1000;decide
   ·split
    ·split
     ·rw[ze];omega
     ·show 1<=1000;decide
    ·exact Nat.zero_le _
 fe:=λn h=>by
  unfold GB;rw[if_pos (zT h)]
 u1:=rfl
 u2:=rfl
 u3:=rfl
 u4:=rfl
 u5:=rfl
 hN:=by omega
structure LG(l:List L3)(cs:Pf):Prop where
 ll:l.length<=250
 cl:cs.length<=10
 cn:cs.Nodup
 c0:cs≠[]
def HL(a:List M3):Pf:=(a.map (·.name)).flatten
def Dn(m:M3)(a:List M3):HL (m::a)=m.name++HL a:=rfl
def rX(h:LG l c)(a:Nat)(b:a<=l.length+1):EV l c a≠[]:=by
 unfold EV
 split
 ·exact List.cons_ne_nil _ _
 ·rw[zB (show a - 1<l.length by omega)]
  dsimp
  split
  ·intro z;exact h.c0 (List.map_eq_nil_iff.mp z)
  ·exact List.cons_ne_nil _ _
def sd(h:LG l g)(a:Nat)(n:Nd)(e:a<=l.length+1)(c:n∈EV l g a)(d:qG l n=false):GB l g n≠[]:=by
 have f:=lZ c;have b :=of_decide_eq_false d;unfold GB;rw[if_neg b];intro z;exact rX h _ (by omega) (List.map_eq_nil_iff.mp z)
theorem M8:∀a:List M3,gY (a.map λm=>D.str m.name)=some (a.map (·.name))
 | []=>rfl
 |m::a=>by
  show(gY _).map _=_;rw[M8];rfl
theorem M9:∀a:List M3,((a.map (·.name)).map List.length).sum=(HL a).length
 | []=>rfl
 |m::a=>by
  rw[Dn,zg,<-M9];rfl
def Nb(l:List L3):List (Str×D):=[("look",.lst (l.map dK))]
def OC(l:List L3):DS "look" (.lst (l.map dK)) []=Nb l:=rfl
def se(O:au) (a:∀O,tK [.lst (l.map dK),.int 1] O=.ok (.lst (b.map st)) O):wk [.ob O.length,.lst (l.map dK)] (O++[.ins "Leaps" []])=.ok .Pl (O++[.ins "Leaps" (IU l b)]):=by
 show bx _=_;unfold K7;rw[sq (iQ (c:="Leaps") (fs:=[]) (CZ rfl rfl) rfl dU zd (by decide)),oh,OC];rw[iQ (c:="Leaps") (fs:=Nb l) ((bA (DJ rfl (DF rfl))).trans (a _)) rfl dU zd (by show 1<900;decide),oh];rfl
theorem Do:∀(c:List M3)(a:Nat)(n:Nd),a<=l.length+1->n∈EV l cs a->Wy ps (GB l cs) (qG l) n c->(HL c).length<=11 * (l.length+1 - a)
 | [],a,n,ha,hn,w=>Nat.zero_le _
 |m::c,a,n,ha,hn,⟨hf,hm,_,w⟩=>by
  have g:=lZ hn;have d :=of_decide_eq_false hf;unfold GB at hm;rw[if_neg d] at hm;obtain⟨b,e,rfl⟩:=zv.mp hm;have i:=Do c _ b (by omega) e w;have lb:=MN n.2 b.2;have f:=M4 l n.1.toNat;rw[Dn];rw[zg,zg];omega
def Kp(O a:au):Prop:=∀(j:Nat)(x:Ob),O[j]?=some x->a[j]?=some x
def sf{o:List (Str×D)}{N:Nat}{c:Nat->List Nd}{f:Nd->List M3}{fin:Nd->Bool}(T:GG t o N c f fin){i d:Tb}(h:G2 N c f fin 0 i)(l:G2 N c f fin 0 d):∀(k a:Nat)(n:Nd),a+k=N->n∈c a->lk d n=lk i n:=by
 intro k
 induction k using Nat.strongRecOn with
 | _ k ih =>
  intro a n q g
  have e :=wM λm j=>by
   obtain⟨b,s,r,p⟩:=T.fw a n (by omega) g m j;exact ih (N - b) (by omega) b _ (by omega) p
  rw[h a (Nat.zero_le _) (by omega) n g,l a (Nat.zero_le _) (by omega) n g];unfold E9
  dsimp
  rw[e]
theorem Nf{α:Type}{f g:α->Bool}:∀{l:List α},(∀x∈l,f x=g x)->l.find? f=l.find? g
 | [],_=>rfl
 |x::l,h=>by
  rw[List.find?_cons,List.find?_cons,h x zd,Nf λy a=>h y (zl _ a)]
theorem Ng{u:List (Str×D)}{N:Nat}{c:Nat->List Nd}{f:Nd->List M3}{fin:Nd->Bool}(T:GG t u N c f fin){l g:Tb}(h:G2 N c f fin 0 l)(r:G2 N c f fin 0 g):∀(i d:List M3)(a:Nat)(n:Nd),a<=N->n∈c a->Wy l f fin n i->Wy g f fin n d->d=i
 | [],[],_,_,_,_,_,_=>rfl
 | [],m'::d,a,n,_,_,w,w'=>by
  have p :=w;have j :=w'.1;rw[p] at j;cases j
 |m::i,[],a,n,_,_,w,w'=>by
  have p :=w';have j :=w.1;rw[p] at j;cases j
 |m::i,m'::d,a,n,ha,hn,⟨_,hm,f1,w⟩,⟨_,hm',f2,w'⟩=>by
  have k:∀x∈f n,lk _ _=lk l _:=λx o=>by
   obtain⟨b,z,s,q⟩:=T.fw a n ha hn x o;exact sf T h r (N - b) b _ (by omega) q
  have e :=wM k
  have y:(f n).find? (λm=>decide (co _ m=lc _ _))=(f n).find? _:=Nf λx o=>by
   have:co g x=co l x:=by
    unfold co;rw[k x o]
   rw[this,e]
  rw[y,f1] at f2;have v:=zF f2;subst v;obtain⟨b,z,s,q⟩:=T.fw a n ha hn m hm;rw[Ng T h r i _ b _ s q w w']
def sh(h:LG l A)(w:∀O,tK [.lst (l.map dK),.int 1] O=.ok (.lst (A.map st)) O):∃b o,Wy o (GB l A) (qG l) (0,(46,46)) b/\∀O,∃a,wu [.lst (l.map dK)] O=.ok (.str (HL b)) a/\Kp O a:=by
 have z:=h.ll
 have d:=λO:au=>ri (wV O.length h.ll h.cl h.cn) (sd h) (by omega) dU
 obtain⟨_,i,_,f,_,_,n,_,g⟩:=d [];have r:=(wV 0 h.ll h.cl h.cn).f0;refine⟨f,i,g,λO=>?_⟩;obtain⟨a,o,c,b,e,k,y,_,q⟩:=d O;obtain rfl :=Ng (wV 0 h.ll h.cl h.cn) n y f b 0 _ (Nat.zero_le _) r g q;have s:=Do b 0 _ (Nat.zero_le _) r q;refine⟨a,?_,λj x p=>k j x (by rw[zG (zx.mp p).1];exact p)⟩
 have mk:dO "Leaps" wk (aj (aa 0) ao) [some (.lst (l.map dK)),none] O=.ok (.ob O.length) (O++[.ins "Leaps" (IU l A)]):=by
  rw[JD,DF rfl,aR,se O w,JF]
 have u :=(Ly (qC mk)).trans e
 have v:mZ (ak C7 (aa 1) (kI 1)) [some (.lst (l.map dK)),some (.tup [.int c,.lst (b.map λm=>.str m.name)])] a=.ok (.str (HL b)) a:=by
  unfold mZ;rw[show ak C7 (aa 1) _ _ a=.ok _ a from rfl,aR];dsimp only[km];rw[M8];dsimp only;rw[if_pos (by rw[M9];omega)];rfl
 have t:Ca [.lst (l.map dK)] O=.ok (.tup [.int c,.str (HL b)]) a:=by
  show bx (BZ [some _,none] O)=_;unfold BZ;rw[sq (Di u)];show bx (aB _ [some _,some _] a)=_;rw[fc,tQ (DJ rfl (DF v)) (show 2<=1000000 by decide)];rfl
 show bx _=_;unfold K8;rw[fc,wJ ((Ly (qC rfl)).trans t) rfl rfl];rfl
structure ES(t:Pf):Prop where
 len:t.length<=5000
 ok:∀c∈t,(32<=c/\c<=125)\/c=10\/c=9
def ES.lt(h:ES t):∀c∈t,c<128:=λc a=>by
 have:=h.ok c a
 omega
def ES.asc(h:ES t):DH t=true:=by
 unfold DH;rw[jm];intro c a;exact zw (h.lt c a)
@[simp]theorem CA:C7 (.str [a]) (.int 0)=some (.str [a]):=rfl
@[simp]theorem CB:C7 (.str [a,b]) (.int 0)=some (.str [a]):=rfl
@[simp]theorem CC:C7 (.str [a,b]) (.int 1)=some (.str [b]):=rfl
@[simp]theorem CD:C7 (.str [a,b,c]) (.int 0)=some (.str [a]):=rfl
@[simp]theorem CF:C7 (.str [a,b,c]) (.int 1)=some (.str [b]):=rfl
@[simp]theorem CH:C7 (.str [a,b,c]) (.int 2)=some (.str [c]):=rfl
@[simp]theorem CI:C7 (.str [a,b,c,d]) (.int 0)=some (.str [a]):=rfl
@[simp]theorem CL:C7 (.str [a,b,c,d]) (.int 1)=some (.str [b]):=rfl
@[simp]theorem CM:C7 (.str [a,b,c,d]) (.int 2)=some (.str [c]):=rfl
@[simp]theorem CO:C7 (.str [a,b,c,d]) (.int 3)=some (.str [d]):=rfl
@[simp]theorem CS:C7 (.tup [a,b]) (.int 0)=some a:=rfl
@[simp]theorem CU:C7 (.tup [a,b]) (.int 1)=some b:=rfl
@[simp]theorem CY:C7 (.tup [a,b,c]) (.int 0)=some a:=rfl
@[simp]theorem C0:C7 (.tup [a,b,c]) (.int 1)=some b:=rfl
@[simp]theorem C1:C7 (.tup [a,b,c]) (.int 2)=some c:=rfl
def wW(c:Nat)(O:au):nO [.str [c]] O=.ok (.bl (D3 c)) O:=by
 simp[nO,J7,D3]
def sj(c:Nat)(O:au):qe [.str [c]] O=.ok (.bl (decide (32<=c/\c<=125))) O:=by
 simp[qe,J6]
 grind
def Nh{i:Nat}(h:(dz 0 (cL t))[i]?=some d):∃c,c∈t/\d=.tup [.int i,.str [c]]:=by
 rw[uT] at h;unfold cL at h
 grind
def sk(t:Pf)(h:ES t)(O:au):vU [.str t] O=.ok .Pl O:=by
 obtain⟨l,j,f⟩:=vK (g:=cM 2 (bh (C9 1) (bh (C9 2) cP)))
  (b:=aF (d7 (cJ (bI (aC qe (aj (aa 2) ao))) (cJ (az (ak DA (aa 2) (kS [10]))) (az (ak DA (aa 2) (kS [9])))))) _ aK)
  (λi ρ a=>a=O/\∃j f,ρ=[some (.str t),j,f]) _ 0 _ O ⟨rfl,none,none,rfl⟩ (by
   rintro i d ρ a hi ⟨rfl,j,f,rfl⟩;obtain⟨c,k,rfl⟩:=Nh hi;refine⟨_,rfl,_,_,.inl ?_,rfl,some (.int i),some (.str [c]),rfl⟩
   have:=h.ok c k
   have e:cJ (bI (aC qe (aj (aa 2) ao))) (cJ (az (ak DA (aa 2) (kS [10]))) (az (ak DA (aa 2) (kS [9])))) [some (.str t),some (.int i),some (.str [c])] a=.ok true a:=by
    simp[sj]
    omega
   show aF _ iD _ [some _,some _,some _] a=_;simp only[jG,nD,e]
   rfl)
 simp [vU,J9,JK h.asc]
 simp_all
def mkD:Option (Pf×Pf)->D
 |some (k,v)=>.tup [.str k,.str v]
 |none=>.Pl
def sm(s:Pf)(j:1<=s.length)(i:s.length<=4)(O:au):nP [.str s] O=.ok (mkD (DE s)) O:=by
 match s,j,i with
 | [a],_,_=>simp[nP,sS,DE,mkD]
 | [a,b],_,_ =>
  simp[nP,sS,DE]
  by_cases e:a=91/\b=93
  ·simp[e,mkD,jH]
  ·by_cases f:a=91/\b=91
   ·simp[f,mkD,bM]
   ·simp[e,f,mkD]
 | [a,b,c],_,_ =>
  simp[nP,sS,DE,wW]
  by_cases e:a=91
  ·by_cases f:D3 b=true
   ·by_cases g:c=93
    ·simp[e,f,g,mkD,fB]
    ·simp[e,f,g,mkD]
   ·simp[e,f,mkD]
  ·simp[e,mkD]
 | [a,b,c,d],_,_ =>
  simp[nP,sS,DE,wW]
  by_cases e:a=91
  ·by_cases h:b=47
   ·by_cases f:D3 c=true
    ·by_cases g:d=93
     ·simp[e,f,g,h,mkD,fZ]
     ·simp[e,f,g,h,mkD]
    ·simp[e,f,h,mkD]
   ·simp[e,h,mkD]
  ·simp[e,mkD]
def so(s:Pf)(f:1<=s.length)(e:s.length<=4)(O:au):nQ [.str s] O=.ok (.bl (bu s)) O:=by
 match s,f,e with
 | [a],_,_ =>
  simp[nQ,sU,bu]
  grind
 | [a,b],_,_ =>
  simp[nQ,sU,bu,wW]
  grind
 | [a,b,c],_,_ =>
  simp[nQ,sU,bu,wW]
  grind
 | [a,b,c,d],_,_ =>
  simp[nQ,sU,bu]
def sx(p:Int)(c:Nat)(O:au):sV [.int p,.str [c]] O=.ok (own p c) O:=by
 simp[sV,Ka,own,item]
 by_cases b:c=10
 ·simp[b,kJ]
 ·by_cases a:c=9
  ·simp[a,nJ]
  ·simp[b,a,bM]
theorem Ni(p:Int):∀(l:Pf)(k:Nat),(dz k (cL l)).map (λd=>match d with | .tup [.int i,.str [c]]=>own (p+i) c | _=>.Pl)=DO (p+k) l
 | [],k=>rfl
 |c::l,k=>by
  show own _ c::(dz _ (cL l)).map _=own _ c::DO _ l;rw[Ni]
  grind
def Dp(p:Int)(l:Pf)(f:DH l=true)(h:l.length<=100000)(O:au):qg [.int p,.str l] O=.ok (.lst (DO p l)) O:=by
 have hl':(dz 0 (cL l)).length<=1000000:=by rw[uR];unfold cL;grind
 have g:cN (cM 2 (bh (C9 0) (bh (C9 1) cP))) bD (aC sV (aj (ak aD (aa 2) (aa 0)) (aj (aa 1) ao))) (dz 0 (cL l)) [none,none,some (.int p)] O []=.ok (DO p l) O:=by
  rw[Jw (λρ=>∃a b,ρ=[a,b,some _]) (λd=>match d with | .tup [.int i,.str [c]]=>own (p+i) c | _=>.Pl) _ _ _ _ ⟨none,none,rfl⟩ (by
   rintro d hd ρ ⟨a,b,rfl⟩;obtain⟨i,e⟩:=List.mem_iff_getElem?.mp hd;obtain⟨c,j,rfl⟩:=Nh e;refine⟨_,rfl,⟨_,_,rfl⟩,rfl,?_⟩
   simp[sx])]
  rw[Ni];simp
 simp[qg,Kc,JK f,hl',g]
def RO(h:Pf)(p:Int):Ob:=.ins "Reader" [("held",.str h),("place",.int p)]
def fh(e:O[n]?=some (RO h p)):fj OV "held" (.ob n) O=.ok (.str h) O:=by
 unfold fj;dsimp;rw[e];rfl
def fp(e:O[n]?=some (RO h p)):fj OV "place" (.ob n) O=.ok (.int p) O:=by
 unfold fj;dsimp;rw[e];rfl
def ph(e:O[n]?=some (RO h p)):E1 OV "held" (.str a) ρ (.ok (.ob n) O)=.nx ρ (O.set n (RO a p)):=by
 unfold E1;dsimp;rw[e];rfl
def pp(e:O[n]?=some (RO h p)):E1 OV "place" (.int a) ρ (.ok (.ob n) O)=.nx ρ (O.set n (RO h a)):=by
 unfold E1;dsimp;rw[e];rfl
def gs{O:au} (e:O[n]?=some x):(O.set n y)[n]?=some y:=by
 grind
def Dq(H:bL h):DH h=true:=by
 cases H with
 | h0
 | h1
 |h2=>rfl
 | h3 x hx
 |h4 x hx =>
  have :=zT hx
  have q:∀c∈[97,98,99,100,101,102,103,104,46],c<128:=by decide
  simp[DH,q x this]
def sy(h:DH a=true)(b:c<128):DH (a++[c])=true:=by
 unfold DH at *
 grind
def sA(e:O[n]?=some (RO h p))(H:bL h)(c:Nat)(j:c<128):jJ [.ob n,.str [c]] O=.ok (.lst (tk h c (p - h.length)).1) (O.set n (RO (tk h c (p - h.length)).2 (p+1))):=by
 have q:=H.len;have a:(O.set n _)[n]?=some (RO h (p+1)):=gs e
 have i:h.length+1<=1000000:=by omega
 have g:h.length<=1000000:=by omega
 have s0:1<=(h++[c]).length:=by simp
 have b:(h++[c]).length<=4:=by simp;omega
 have o:=so _ s0 b;have m:=sm _ s0 b
 have l:=λO=>Dp (p - h.length) h (Dq H) (by omega) O
 have k:=λO=>Dp (p - h.length) _ (sy (Dq H) j) (by omega) O
 unfold tk;simp[jJ,Kg,fh e,fp e,pp e,i,g,o]
 by_cases f:bu (h++[c])=true
 ·simp[f,ph a]
 ·simp[f,m]
  cases DE _ with
  |some =>
   simp[mkD,ph a,item]
  |none =>
   simp[mkD]
   by_cases d:c=91
   ·subst d;simp[fh a,l,ph a]
   ·simp[d,ph a,k]
theorem Dr:∀(l:Pf)(p:Int),(DO p l).length=l.length
 | [],_=>rfl
 |c::l,p=>by show(DO _ l).length+1=l.length+1;rw[Dr]
def Nj(H:bL h)(c:Nat)(p:Int):(tk h c p).1.length<=4:=by
 have:=H.len
 unfold tk
 split
 ·simp
 ·split
  ·simp
  ·split<;>simp[Dr]<;>omega
theorem Nk:∀(t:Pf){h:Pf}(_:bL h)(p:Int),(aP h p t).1.length<=4 * t.length
 | [],h,H,p=>by simp[aP]
 |c::t,h,H,p=>by
  have a:=Nj H c (p - h.length);have b:=Nk t (Bb H c (p - h.length) []).1 (p+1);simp only[aP,zg,zu];omega
def sC{O:au}:(O.set n x).set n y=O.set n y:=by simp
theorem Nm{n:Nat}{t0:Pf}:∀(t:Pf)(h:Pf)(_:bL h)(p:Int)(a:List D)(O:au)(f:Option D),O[n]?=some (RO h p)->(∀c∈t,c<128)->a.length+4 * t.length<=1000000 ->
  ∃b,bw (C9 3) (gZ 2 (aV "Reader" "take" jJ (aa 0) (aj (aa 3) ao))) (cL t) [some (.ob n),some (.str t0),some (.lst a),f] O=.nx [some (.ob n),some (.str t0),some (.lst (a++(aP h p t).1)),b] (O.set n (RO (aP h p t).2 (p+t.length)))
 | [],h,H,p,a,O,f,e,_,_=>by
  refine⟨f,?_⟩;obtain⟨o,l⟩:=zx.mp e;show Fl.nx _ O=_;simp only[aP,zE,jd]
  have:O.set n (RO h p)=O:=by rw[<-l];exact List.set_getElem_self _
  simp[this]
 |c::t,h,H,p,a,O,f,e,hc,hl=>by
  have j:=sA e H c (hc c zd)
  have g:IS "Reader" "take" jJ (aj (aa 3) ao [some (.ob n),some (.str t0),some (.lst a),some (.str [c])]) (.ob n) O=jJ [.ob n,.str [c]] O:=by
   unfold IS;dsimp only;rw[e];rfl
  have m:=Nj H c (p - h.length);simp only[zu] at hl;obtain⟨b,q⟩:=Nm t (tk h c (p - h.length)).2 (Bb H c (p - h.length) []).1 (p+1) (a++(tk h c (p - h.length)).1) (O.set n (RO (tk h c (p - h.length)).2 (p+1))) (some (.str [c])) (gs e) (λd i=>hc d (zl _ i)) (by rw[zg];omega);refine⟨b,?_⟩
  have k:(gZ 2 (aV "Reader" "take" jJ (aa 0) (aj (aa 3) ao))) [some (.ob n),some (.str t0),some (.lst a),some (.str [c])] O=.nx [some (.ob n),some (.str t0),some (.lst (a++(tk h c (p - h.length)).1)),some (.str [c])] (O.set n (RO (tk h c (p - h.length)).2 (p+1))):=by
   rw[JG,vM,d9];show LD 2 (IS "Reader" "take" jJ _ (.ob n) O) _=_;rw[g,j,JH (ds:=a) rfl (by omega)];rfl
  show bw _ _ (D.str [c]::cL t) _ O=_;unfold bw;rw[Kn];dsimp only
  show(match(gZ 2 (aV "Reader" "take" jJ (aa 0) (aj (aa 3) ao))) [some (.ob n),some (.str t0),some (.lst a),some (.str [c])] O with
   | .nx ρ' O'=>bw _ _ (cL t) ρ' O' | .ct ρ' O'=>bw _ _ (cL t) ρ' O' | .bk ρ' O'=>Fl.nx ρ' O' | r=>r)=_
  rw[k];dsimp only;rw[q,sC];simp only[aP,zz,zu];congr 3
  push_cast
  omega
def Np(e:O[n]?=some (RO h p))(H:bL h)(t:Pf)(a:ES t):sW [.ob n,.str t] O=.ok (.lst (aP h p t).1) (O.set n (RO (aP h p t).2 (p+t.length))):=by
 have c:=a.len;obtain⟨b,q⟩:=Nm (t0:=t) t h H p [] O none e a.lt (by simp;omega);have q' :=q;simp only[sW,Kh,gg,zh,zY,zu,jd,List.replicate,List.cons_append,zO,cZ,rT,nF,jF,lN,d9,jf,jj,aR,sk t a,vI,iJ,sr,Jf,Nat.zero_le,if_true,su,List.set_cons_succ,List.set_cons_zero,sE,nG,Jp a.asc,An,sG,q',fc,Jk,gi]
def Nq(e:O[n]?=some (RO h p))(H:bL h):sX [.ob n] O=.ok (.lst (DO (p - h.length) h)) (O.set n (RO [] p)):=by
 have c:=H.len
 have a:h.length<=1000000:=by omega
 have b:=λO=>Dp (p - h.length) h (Dq H) (by omega) O
 simp[sX,Km,fh e,fp e,a,b,ph e]
def sD(O:au):qi [.ob O.length] (O++[.ins "Reader" []])=.ok .Pl (O++[RO [] 0]):=by
 have a:(O++[Ob.ins "Reader" []])[O.length]?=some (.ins "Reader" []):=by simp
 have d:∀ρ,E1 OV "held" (.str []) ρ (.ok (.ob _) _)=.nx ρ (O++[.ins "Reader" [("held",.str [])]]):=λρ=>by
  unfold E1
  dsimp
  rw[a];simp[DS]
 have b:(O++[Ob.ins "Reader" [("held",.str [])]])[O.length]?=some (.ins "Reader" [("held",.str [])]):=by simp
 have c:∀ρ,E1 OV _ _ ρ (.ok (.ob _) _)=.nx ρ (O++[RO [] 0]):=λρ=>by
  unfold E1
  dsimp
  rw[b]
  dsimp
  have:DS "place" (.int 0) [("held",.str [])]=[(("held":Str),D.str []),("place",.int 0)]:=by rfl
  rw[this];simp[RO]
 simp[qi,Ke,d,c]
def Nr(ρ:aN)(O:au):dO "Reader" qi ao ρ O=.ok (.ob O.length) (O++[RO [] 0]):=by
 simp[sD]
def Dt(O:au):(O++[RO [] 0])[O.length]?=some (RO [] 0):=by simp
def Dv(l:List α)(a b:Nat):cI l (some (a:Int)) (some (b:Int))=(l.drop a).take (b - a):=by
 unfold cI;rw[HT.sIx_nat,HT.sIx_nat]
 by_cases h:a<=l.length
 ·rw[Nat.min_eq_left h]
  by_cases b<=l.length
  ·grind
  ·rw[List.take_of_length_le (by grind),List.take_of_length_le (by grind)]
 ·rw[Nat.min_eq_right (show l.length<=a by omega),List.drop_eq_nil_of_le (show l.length<=a by omega)];simp
def tW(l:List α)(b:Nat):cI l none (some (b:Int))=l.take b:=by
 unfold cI;rw[HT.sIx_nat,HT.sIx_none];simp
def tX(l:List α)(a:Nat):cI l (some (a:Int)) none=l.drop a:=by
 unfold cI;rw[HT.sIx_nat,HT.sIx_none]
 by_cases h:a<=l.length
 ·rw[Nat.min_eq_left h,List.take_of_length_le (by simp)]
 ·rw[List.drop_eq_nil_of_le (by omega),List.drop_eq_nil_of_le (by omega)];simp
@[simp]theorem sF{a:Nat}:cI [a] none (some 2)=[a]:=rfl
@[simp]theorem sL{a:Nat}:cI [a,b] none (some 2)=[a,b]:=rfl
@[simp]theorem sM{a:Nat}:cI [a,b,c] none (some 2)=[a,b]:=rfl
@[simp]theorem sN{a:Nat}:cI [a,b,c,d] none (some 2)=[a,b]:=rfl
def Dw:F0 false (.str [c]) (.str [97,98,99,100,101,102,103,104,46])=some (.bl (D3 c)):=by
 simp[D3]
def itF(a:Nat)(x:Pf×Pf×Nat):D:=.tup [item a x.1 x.2.1,.int (x.2.2+1:Nat)]
def HC(h:T ρ O=.ok b O)(c:b=true->∃x,e ρ O=.ok (itF p x) O/\x=y)(a:b=false->r ρ O=.rt (itF p y) O):aq (aF T (aB e) aK) r ρ O=.rt (itF p y) O:=by
 cases b
 ·simp_all
 simp_all
def Dy(h:e ρ O=.ok (itF p x) O)(a:x=y):aB e ρ O=.rt (itF p y) O:=by simp_all
def HG(d:m ρ O=.ok (.str a) O)(c:q ρ O=.ok (.str b) O):az (ak DA m q) ρ O=.ok (decide (a=b)) O:=cg (aW d c rfl)
def LY(b:m ρ O=.ok (.str [c]) O)(a:q ρ O=.ok (.str [97,98,99,100,101,102,103,104,46]) O):az (ak (F0 false) m q) ρ O=.ok (D3 c) O:=cg (aW b a Dw)
def Nt(t:Pf)(l:t.length<=1000000)(a:Nat)(c:Nat)(r:Pf)(i:t.drop a=c::r)(O:au):qy [.str t,.int a] O=.ok (.tup [item a (one c r).1 (one c r).2.1,.int ((one c r).2.2+1:Nat)]) O:=by
 have hs:D5 (aa 0) (D2 (mG (aa 1))) (D2 (ak aD (aa 1) (kI 4))) [some (.str t),some (.int a),some (.str [97,98,99,100,101,102,103,104,46]),none] O=.ok (.str ((c::r).take 4)) O:=by
  show FY (GO (.str t) (some (a:Int)) (some ((a:Int)+4))) O=_;rw[Jj,if_pos (by omega),show(a:Int)+4=((a+4:Nat):Int) by push_cast;rfl,Dv,i,show a+4 - a=4 by omega];rfl
 suffices h:Cq [some (.str t),some (.int a),none,none] O=.rt (itF a (one c r)) O from congrArg bx h
 unfold Cq;refine(sq (bc JE)).trans ((sq (bc hs)).trans ?_)
 rcases r with _ | ⟨d,_ | ⟨e,_ | ⟨f,g⟩⟩⟩<;>refine HC (HG rfl rfl) (λh=>⟨(kJ,[],0),rfl,?_⟩) λp=>HC (HG rfl rfl) (λh=>⟨(nJ,[],0),rfl,?_⟩) λo=>HC (HG rfl rfl) (λh=>⟨(jH,[],1),rfl,?_⟩) λn=>HC (HG rfl rfl) (λh=>⟨(bM,[91],1),rfl,?_⟩) λm=>?_
 all_goals first
  |refine HC (lq (b:=true) rfl (lq (HG rfl rfl) (lq (LY rfl rfl) (HG rfl rfl)))) (λh=>⟨(fB,[_],2),rfl,?_⟩) λk=>HC (lq (b:=true) rfl (lq (HG rfl rfl) (lq (LY rfl rfl) (HG rfl rfl)))) (λh=>⟨(fZ,[_],3),rfl,?_⟩) λj=>Dy (x:=(bM,[c],0)) rfl ?_
  |refine HC (lq (b:=true) rfl (lq (HG rfl rfl) (lq (LY rfl rfl) (HG rfl rfl)))) (λh=>⟨(fB,[_],2),rfl,?_⟩) λk=>HC (b:=false) rfl nofun λj=>Dy (x:=(bM,[c],0)) rfl ?_
  |refine HC (b:=false) rfl nofun λk=>HC (b:=false) rfl nofun λj=>Dy (x:=(bM,[c],0)) rfl ?_
  | skip
 all_goals
  clear hs i l
  simp only[List.take_succ_cons,List.take_nil,List.take_zero,sF,sL,sM,sN,decide_eq_true_eq,decide_eq_false_iff_not,List.cons.injEq,and_true,zC,Bool.true_and] at *
  grind [one,cG,il,gb,gn,gq]
def GV(c:Nat)(r:Pf):(one c r).2.2<=r.length:=by
 unfold one
 split
 ·simp
 split
 ·simp
 split
 ·unfold cG
  cases r with
  |nil=>simp
  |cons d r =>
   dsimp
   split
   ·simp
   split
   ·simp
   split
   ·unfold il
    grind
   split
   ·unfold gb
    cases r with
    |nil=>simp
    |cons =>
     dsimp
     split
     ·unfold gn
      grind
     ·simp
   ·simp
 ·simp
def sP(t:Pf)(v:t.length<=5000)(O:au):Cr [.str t] O=.ok (.lst (items 0 t)) O:=by
 obtain⟨u,f,e,rfl,d,a,l,j,rfl,p,o,i,n⟩:=JM (t:=az (ak E7 (aa 2) (aO aX (aj (aa 0) ao))))
  (b:=aq (jY (aC qy (aj (aa 0) (aj (aa 2) ao))) (cM 2 (bh (C9 3) (bh (C9 4) cP)))) (aq (dB 1 (aa 3)) (aA 2 (ak aD (aa 2) (aa 4)))))
  (λk ρ f=>f=O/\∃(d:List D)(a:Nat)(l j:Option D),ρ=[some (.str t),some (.lst d),some (.int a),l,j]/\a<=t.length/\k=t.length - a/\d++items a (t.drop a)=items 0 t/\d.length<=a)
  wF t.length [some (.str t),some (.lst []),some (.int 0),none,none] O (by unfold wF;omega) ⟨rfl,[],0,none,none,rfl,Nat.zero_le _,by omega,by simp,by simp⟩ (by
   rintro k ρ f ⟨rfl,d,a,l,j,rfl,p,o,i,n⟩
   have m:t.length<=1000000:=by omega
   have g:a<t.length:=by omega
   refine⟨by simp[m,g],?_⟩
   cases h:t.drop a with
   |nil =>
    simp_all
   |cons c r =>
    have q:=congrArg List.length h;simp at q;have w:=GV c r;have s:=Nt t m a c r h f;refine⟨t.length - (a+((one c r).2.2+1)),[some (.str t),some (.lst (d++[item a (one c r).1 (one c r).2.1])),some _,some (item a (one c r).1 (one c r).2.1),some (.int ((one c r).2.2+1:Nat))],f,by omega,?_,rfl,_,_,_,_,rfl,by omega,rfl,?_,?_⟩
    ·rw[cZ,Ay];simp only[nF,jF,lN,d9,jf,jj,aR,s];rw[Az JL];simp only[iJ,cZ,vN,d9,List.set_cons_succ,List.set_cons_zero,jf,jj];rw[vO (ds:=d) rfl (by omega)];simp
    ·rw[h,qd] at i;rw[<-i,zz];congr 1
     have:t.drop (a+((one c r).2.2+1))=r.drop (one c r).2.2:=by
      rw[<-List.drop_drop,h,Nat.add_comm,<-List.drop_drop];rfl
     rw[this];simp
    ·simp
     omega) (by
   rintro ρ f ⟨rfl,d,a,l,j,rfl,p,o,i,n⟩
   have m:t.length<=1000000:=by omega
   have g:t.length<=a:=by omega
   simp[m,g])
 have h:t.drop a=[]:=List.drop_eq_nil_of_le (by omega);rw[h,kO,zE] at i;subst i;show bx (iI (jZ wF _ _ [some (.str t),some (.lst []),some (.int 0),none,none] f) _)=_;unfold jZ;rw[e];rfl
theorem Nu:∀(a:Pf)(h:Pf)(p:Int)(b:Pf),aP h p (a++b)=((aP h p a).1++(aP (aP h p a).2 (p+a.length) b).1,(aP (aP h p a).2 (p+a.length) b).2)
 | [],h,p,b=>by simp[aP]
 |c::a,h,p,b=>by
  have e:p+1+a.length=p+(c::a).length:=by simp;omega
  simp [aP]
  rw[Nu,e];simp
def sQ(d:r.length<=3)(h:bu r=true)(p:Int):aP [] p r=([],r):=by
 match r,d with
 | [],_=>cases h
 | [a],_ =>
  have e :=by simpa [bu] using h
  subst e;rfl
 | [a,b],_ =>
  simp[bu] at h
  simp[aP,tk,bu,h]
 | [a,b,c],_ =>
  simp[bu] at h
  simp[aP,tk,bu,h]
def sR(c:Nat)(b:Pf)(p:Int)(a:¬((c::b).length<=3/\bu (c::b)=true)):
  aP [] p (c::b)=(item p (one c b).1 (one c b).2.1::(aP [] (p+(((one c b).2.2+1:Nat):Int)) (b.drop (one c b).2.2)).1,(aP [] (p+(((one c b).2.2+1:Nat):Int)) (b.drop (one c b).2.2)).2):=by
 have f:p+1 - 1=p:=by omega
 have g:p+1+1 - 2=p:=by omega
 have s:p+1+1+1 - 3=p:=by omega
 have q2':p+(1+1) - 2=p:=by omega
 have q3':p+(1+(1+1)) - 3=p:=by omega
 by_cases o:c=91
 ·subst o
  match b,a with
  | [],a=>exact absurd ⟨by simp,by simp[bu]⟩ a
  |d::tl2,a =>
   by_cases n:d=93
   ·subst n;simp[aP,tk,bu,DE,one,cG,Ba,f]
    constructor<;>congr 2<;>omega
   by_cases m:d=91
   ·subst m;simp[aP,tk,bu,DE,one,cG,sJ,f]
    constructor<;>congr 2<;>omega
   by_cases d3:D3 d=true
   ·obtain⟨t,y,r,j,i⟩:=nM d3
    match tl2,a with
    | [],a=>exact absurd ⟨by simp,by simp[bu,d3]⟩ a
    |e::tl3,a =>
     by_cases l:e=93
     ·subst l;simp[aP,tk,bu,DE,one,cG,il,n,m,d3,r,f,g,q2']
      constructor<;>congr 2<;>omega
     by_cases k:e=91
     ·subst k;simp[aP,tk,bu,DE,one,cG,il,DO,own,item,n,m,d3,r,j,i,f,g,q2']
     ·simp[aP,tk,bu,DE,one,cG,il,DO,own,item,n,m,d3,l,k,r,j,i,f,g,q2']
   by_cases v:d=47
   ·subst v
    match tl2,a with
    | [],a=>exact absurd ⟨by simp,by simp[bu]⟩ a
    |x::tl3,a =>
     by_cases h:D3 x=true
     ·obtain⟨t,y,r,j,i⟩:=nM h
      match tl3,a with
      | [],a=>exact absurd ⟨by simp,by simp[bu,h]⟩ a
      |e::tl4,a =>
       by_cases l:e=93
       ·subst l;simp[aP,tk,bu,DE,one,cG,gb,gn,gq,h,f,g,s,q2',q3']
        constructor<;>congr 2<;>omega
       by_cases k:e=91
       ·subst k;simp[aP,tk,bu,DE,one,cG,gb,gn,gq,DO,own,item,h,t,j,i,f,g,s,q2',q3']
       ·simp[aP,tk,bu,DE,one,cG,gb,gn,gq,DO,own,item,h,l,k,t,j,i,f,g,s,q2',q3']
     ·by_cases u:x=91
      ·subst u;simp[aP,tk,bu,DE,one,cG,gb,gn,gq,sJ,DO,own,item,f,g,q2']
      ·simp[aP,tk,bu,DE,one,cG,gb,gn,gq,DO,own,item,h,u,f,g,q2']
   ·simp[aP,tk,bu,DE,one,cG,DO,own,item,n,m,d3,v,f]
 ·by_cases q:c=10
  ·subst q;simp[aP,tk,bu,DE,one,DO,own]
  by_cases w:c=9
  ·subst w;simp[aP,tk,bu,DE,one,DO,own]
  ·simp[aP,tk,bu,DE,one,DO,own,o,q,w]
def Nv(s:Pf)(f:1<=s.length)(e:s.length<=3)(O:au):lX [.str s] O=.ok (.bl (bu s)) O:=by
 match s,f,e with
 | [a],_,_ =>
  by_cases h:a=91<;>simp[lX,wH,bu,h]
 | [a,b],_,_ =>
  by_cases h:a=91<;>by_cases d:b=47<;>simp[-Js,Dw,lX,wH,bu,h,d]
 | [a,b,c],_,_ =>
  by_cases h:a=91<;>by_cases d:b=47<;>simp[-Js,Dw,lX,wH,bu,h,d]
def tY:M Bool:=az (ak E7 (aa 2) (aO aX (aj (aa 0) ao)))
def tZ:MS:=aq (aF (bZ (az (ak E7 (ak gH (aO aX (aj (aa 0) ao)) (aa 2)) (kI 4))) (bI (aC lX (aj (D5 (aa 0) (D2 (aa 2)) EA) ao)))) (j7 (aB (aU (aj (aa 1) (aj (D5 (aa 0) (D2 (aa 2)) EA) ao))))) aK)
  (aq (jY (aC qy (aj (aa 0) (aj (aa 2) ao))) (cM 2 (bh (C9 3) (bh (C9 4) cP))))
  (aq (dB 1 (aa 3))
  (aA 2 (ak aD (aa 2) (aa 4)))))
theorem Nx(t:Pf)(s:t.length<=5000)(O:au):∀(n a:Nat)(b:List D)(f e:Option D),t.length - a<n->a<=t.length->b++(aP [] (a:Int) (t.drop a)).1=(aP [] 0 t).1->(aP [] (a:Int) (t.drop a)).2=(aP [] 0 t).2->b.length<=a ->
  bx (iI (dM tY tZ n [some (.str t),some (.lst b),some (.int (a:Int)),f,e] O) (j7 (aB (aU (aj (aa 1) (aj (kS []) ao))))))=.ok (.tup [.lst (aP [] 0 t).1,.str (aP [] 0 t).2]) O
 | 0,a,b,f,e,h,_,_,_,_=>absurd h (Nat.not_lt_zero _)
 |n+1,a,b,f,e,h,hat,h1,h2,h3=>by
  have i:t.length<=1000000:=by omega
  have hz':t.length<=16777216:=by omega
  unfold dM
  by_cases q:a<t.length
  ·have m:tY [some (.str t),some (.lst b),some (.int (a:Int)),f,e] O=.ok true O:=by
    unfold tY;simp[i,q]
   rw[m];dsimp only
   cases d:t.drop a with
   |nil =>
    have:=congrArg List.length d
    simp at this
    omega
   |cons c r =>
    have u:=congrArg List.length d;simp at u
    have g:cI t (some (a:Int)) none=c::r:=by rw[tX,d]
    by_cases j:(c::r).length<=3/\bu (c::r)=true
    ·have o:=Nv (c::r) (by simp) j.1 O
     have l:(t.length:Int) - (a:Int)<4:=by have:=j.1;simp at this;omega
     have p:tZ [some (.str t),some (.lst b),some (.int (a:Int)),f,e] O=.rt (.tup [.lst b,.str (c::r)]) O:=by
      unfold tZ;simp[i,hz',l,g,o,j.2]
     rw[p];rw[d,sQ j.1 j.2] at h1 h2;simp at h1 h2;rw[<-h1,<-h2];rfl
    ·have A:=GV c r;have y:=Nt t i a c r d O
     have z:(bZ (az (ak E7 (ak gH (aO aX (aj (aa 0) ao)) (aa 2)) (kI 4))) (bI (aC lX (aj (D5 (aa 0) (D2 (aa 2)) EA) ao)))) [some (.str t),some (.lst b),some (.int (a:Int)),f,e] O=.ok false O:=by
      by_cases l:(t.length:Int) - (a:Int)<4
      ·have w:(c::r).length<=3:=by simp;omega
       have v:bu (c::r)=false:=by
        grind
       have o:=Nv (c::r) (by simp) w O;simp[i,hz',l,g,o,v]
      ·simp[i,l]
     have p:tZ [some (.str t),some (.lst b),some (.int (a:Int)),f,e] O=.nx [some (.str t),some (.lst (b++[item a (one c r).1 (one c r).2.1])),some (.int ((a+((one c r).2.2+1):Nat):Int)),some (item a (one c r).1 (one c r).2.1),some (.int ((one c r).2.2+1:Nat))] O:=by
      unfold tZ;rw[cZ,jG,z];simp only[rY,Bool.false_eq_true,if_false,Am,iJ];rw[cZ,Ay];simp only[nF,jF,lN,d9,jf,jj,aR,y];rw[Az JL];simp only[iJ,cZ,vN,d9,List.set_cons_succ,List.set_cons_zero,jf,jj];rw[vO (ds:=b) rfl (by omega)];simp
     rw[p];dsimp only;rw[d,sR c r _ j] at h1 h2
     have k:t.drop (a+((one c r).2.2+1))=r.drop (one c r).2.2:=by
      rw[<-List.drop_drop,d,Nat.add_comm,<-List.drop_drop];rfl
     have x:(a:Int)+(((one c r).2.2+1:Nat):Int)=((a+((one c r).2.2+1):Nat):Int):=by push_cast;rfl
     rw[x] at h1 h2;refine Nx t s O n _ _ _ _ (by omega) (by omega) ?_ ?_ (by simp;omega)
     ·rw[k,zz];exact h1
     ·rw[k];exact h2
  ·have m:tY [some (.str t),some (.lst b),some (.int (a:Int)),f,e] O=.ok false O:=by
    unfold tY;simp[i];omega
   rw[m];dsimp only;have d:t.drop a=[]:=List.drop_eq_nil_of_le (by omega);rw[d] at h1 h2;simp[aP] at h1 h2;rw[<-h1,h2];simp
def sT(t:Pf)(a:t.length<=5000)(O:au):Cu [.str t] O=.ok (.tup [.lst (aP [] 0 t).1,.str (aP [] 0 t).2]) O:=by
 have:=Nx t a O wF 0 [] none none (by unfold wF;omega) (Nat.zero_le _) (by simp) (by simp) (by simp)
 exact this
abbrev LT:=Nat×Nat×Nat×Int
def dL(x:LT):D:=.tup [.str [x.1],.str [x.2.1],.str [x.2.2.1],.int x.2.2.2]
def Ny(h:D3 c=true):c<=125:=by
 have q:∀c∈[97,98,99,100,101,102,103,104,46],c<=125:=by decide
 exact q c (zT h)
def FK(x:LT):Prop:=(32<=x.1/\x.1<=125)/\D3 x.2.1=true/\D3 x.2.2.1=true
def Nz(h:FK x):d8 (dL x)=true/\(toP (dL x)).canLay0=true/\(toP (dL x)).depth<=5:=by
 obtain⟨f,e,d⟩:=h;have e:=Ny e;have d:=Ny d;refine⟨rfl,?_,?_⟩
 ·have a:=nH (l:=[x.1]) (by simp;omega);have b:=nH (l:=[x.2.1]) (by simp;omega);have c:=nH (l:=[x.2.2.1]) (by simp;omega);show PyData.canLay0 (.tuple [.str _,.str _,.str _])=true;simp[PyData.canLay0,PyData.canLayAll0]
  try exact⟨a,b,c⟩
 ·show PyData.depth (.tuple [])<=5;simp[PyData.depth,PyData.depthAll]
def s9(l:List LT)(h:∀x∈l,FK x):okE (.lst (l.map dL))=true:=qb (n:=5) (by decide) λd b=>by
 obtain⟨x,a,rfl⟩:=zv.mp b;exact Nz (h x a)
def bB:Pf:=[119,104,111,108,101]
def bW:Pf:=[109,111,114,101]
def Po(M:Int)(a:Pf)(n:Nat)(i g:Nat)(st:Bool):Ob:=.ins "Maker" [("most",.int M),("last_word",.str a),("letters",.ob n),("pair",.tup [.str [i],.str [g]]),("stale",.bl st)]
def fM{M:Int}{st:Bool}(e:O[o]?=some (Po M a n i g st)):fj OU "most" (.ob o) O=.ok (.int M) O:=by
 unfold fj;dsimp;rw[e];rfl
def fW{M:Int}{st:Bool}(e:O[o]?=some (Po M a n i g st)):fj OU "last_word" (.ob o) O=.ok (.str a) O:=by
 unfold fj;dsimp;rw[e];rfl
def fL{M:Int}{st:Bool}(e:O[o]?=some (Po M a n i g st)):fj OU "letters" (.ob o) O=.ok (.ob n) O:=by
 unfold fj;dsimp;rw[e];rfl
def fP{M:Int}{st:Bool}(e:O[o]?=some (Po M a n i g st)):fj OU "pair" (.ob o) O=.ok (.tup [.str [i],.str [g]]) O:=by
 unfold fj;dsimp;rw[e];rfl
def fS{M:Int}{st:Bool}(e:O[o]?=some (Po M a n i g st)):fj OU "stale" (.ob o) O=.ok (.bl st) O:=by
 unfold fj;dsimp;rw[e];rfl
def pW{M:Int}{st:Bool} (e:O[o]?=some (Po M a n i g st)):E1 OU "last_word" (.str w) ρ (.ok (.ob o) O)=.nx ρ (O.set o (Po M w n i g st)):=by
 unfold E1;dsimp;rw[e];rfl
def pL{M:Int}{st:Bool} (e:O[o]?=some (Po M a n i g st)):E1 OU "letters" (.ob m) ρ (.ok (.ob o) O)=.nx ρ (O.set o (Po M a m i g st)):=by
 unfold E1;dsimp;rw[e];rfl
def pP{M:Int}{st:Bool} (e:O[o]?=some (Po M a n i g st)):E1 OU "pair" (.tup [.str [b],.str [c]]) ρ (.ok (.ob o) O)=.nx ρ (O.set o (Po M a n b c st)):=by
 unfold E1;dsimp;rw[e];rfl
def pS{M:Int}{st:Bool} (e:O[o]?=some (Po M a n i g st)):E1 OU "stale" (.bl b) ρ (.ok (.ob o) O)=.nx ρ (O.set o (Po M a n i g b)):=by
 unfold E1;dsimp;rw[e];rfl
def gs'{O:au} (e:O[o]?=some x):(O.set o y)[o]?=some y:=by
 obtain⟨h⟩:=zx.mp e;simp[h]
def E5{O:au}{o:Nat} (e:O[o]?=some x):(O++[y])[o]?=some x:=by
 rw[zG (zx.mp e).1];exact e
def IF{O:au}:(O++[y])[O.length]?=some y:=by simp
@[simp]theorem C2:IE m ρ O=(m ρ O).bind λd a=>match d with
 | .lst ds=>.ok (.ob a.length) (a++[.ml ds])
 |d=>.ok d a:=rfl
def Dz{M:Int}{st:Bool} (e:O[o]?=some (Po M c n i g st)):qj [.ob o,.str w] O=.ok (.lst [.tup [.ob n,.str w]]) ((O++[Ob.ml []]).set o (Po M w O.length i g st)):=by
 have a:(O++[Ob.ml []])[o]?=some _:=E5 e;have b:((O++[Ob.ml []]).set o _)[o]?=some (Po M c O.length i g st):=gs' a;simp[qj,Kw,fL e,pL a,pW b]
def tf{M:Int}{st:Bool}(e:O[o]?=some (Po M lw n i g st)):nR [.ob o] O=.ok .Pl (if st=true then(O++[Ob.ml []]).set o (Po M lw O.length i g false) else O):=by
 have a:(O++[Ob.ml []])[o]?=some _:=E5 e;have b:((O++[Ob.ml []]).set o (Po M lw O.length i g st))[o]?=some _:=gs' a
 cases st with
 |true=>simp[nR,Bl,fS e,pL a,pS b]
 |false=>simp[nR,Bl,fS e]
def uc(e:mo ρ O=.ok (.ob n) O)(c:O[n]?=some (.ml ds))(b:m ρ O=.ok d O)(a:ds.length<1000000):g8 mo m ρ O=.nx ρ (O.set n (.ml (ds++[d]))):=by
 unfold g8
 grind
def oA(h:O[n]?=some (.ml ds)):aZ O (.ob n)=.lst ds:=by
 unfold aZ
 dsimp
 rw[h]
structure EZ where
 row:List LT
 st:Bool
 i:Nat
 g:Nat
structure FC(M:Int)(s:EZ):Prop where
 len:(s.row.length:Int)<=M
 ok:∀x∈s.row,FK x
 i:D3 s.i=true
 g:D3 s.g=true
def Mk(O:au)(o:Nat)(M:Int)(a:Pf)(s:EZ):Prop:=∃n,O[o]?=some (Po M a n s.i s.g s.st)/\O[n]?=some (.ml (s.row.map dL))
def G1(O:au)(told:List D)(due:List (List LT×Pf)):Prop:=(told=[]/\due=[])\/∃n r w,told=[.tup [.ob n,.str w]]/\due=[(r,w)]/\O[n]?=some (.ml (r.map dL))/\(w=bB\/w=bW)/\(∀x∈r,FK x)/\r.length<=1000
inductive EC:Pf->Pf->Prop where
 | anew:EC nJ []
 | end_:EC kJ []
 | plain:EC jH []
 | Sb (c:Nat) (h:D3 c=true):EC fB [c]
 | ground (c:Nat) (h:D3 c=true):EC fZ [c]
 | sign (c:Nat) (h:32<=c/\c<=125):EC bM [c]
def bare(s:EZ):List LT:=if s.st=true then[] else s.row
def IM(M:Int)(s:EZ)(p:Int)(c:Nat):EZ:=if((bare s).length:Int)=M then⟨[(c,s.i,s.g,p)],false,s.i,s.g⟩ else⟨bare s++[(c,s.i,s.g,p)],false,s.i,s.g⟩
def jL(M:Int)(s:EZ):List (List LT×Pf):=if((bare s).length:Int)=M then[(bare s,bW)] else[]
def QO(M:Int)(s:EZ)(p:Int)(k v:Pf):EZ :=
 if k=nJ then⟨s.row,true,46,46⟩ else if k=kJ then⟨[],false,46,46⟩ else if k=bM then IM M s p (v.headD 0) else if k=fB then⟨bare s,false,v.headD 0,s.g⟩ else if k=fZ then⟨bare s,false,s.i,v.headD 0⟩ else⟨bare s,false,46,46⟩
def due(M:Int)(s:EZ)(k:Pf):List (List LT×Pf):=if k=kJ then[(s.row,bB)] else if k=bM then jL M s else[]
def LA(M:Int)(s:EZ)(a k:Pf):Pf:=match due M s k with
 | [(_,w)]=>w
 | _=>a
def bY(x:List LT×Pf):D:=.tup [.lst (x.1.map dL),.str x.2]
@[simp]theorem C3:cM 3 (bh (C9 i) (bh (C9 j) (bh (C9 k) cP))) (.tup [a,b,c]) ρ=some (((ρ.set i (some a)).set j (some b)).set k (some c)):=rfl
def cV{O:au} (e:O[o]?=some x):o<O.length:=(zx.mp e).1
def th{M:Int}{st:Bool} (e:O[o]?=some (Po M l n i g st))(b:O[n]?=some (.ml k))(f:k.length<1000000):
  vY [.ob o,item p bM [c]] O=if(k.length:Int)=M then .ok (.lst [.tup [.ob n,.str bW]]) (((O++[Ob.ml []]).set o (Po M bW O.length i g st)).set O.length (.ml [dL (c,i,g,p)])) else .ok (.lst []) (O.set n (.ml (k++[dL (c,i,g,p)]))):=by
 by_cases a:k.length=M
 ·rw[if_pos a];have d:((O++[Ob.ml []]).set o (Po M bW O.length i g st))[o]?=some _:=gs' (E5 e)
  have j:((O++[Ob.ml []]).set o (Po M bW O.length i g st))[O.length]?=some (.ml []):=by
   rw[zi (zt (cV e))];exact IF
  suffices h:Bm _ O=.rt _ _ from congrArg bx h
  exact .trans (sq rfl) (.trans (sq (.trans (dh (.trans (cg (aW (iM (DF (fL e)) (by rw[zh,oA b];rfl)) (fM e) rfl)) (by rw[zw a]))) (wK ((dG rfl e rfl rfl).trans (Dz e))))) (.trans (sq (uc (fL d) j (qD (DJ rfl (DJ (aW (fP d) rfl rfl) (DJ (aW (fP d) rfl rfl) (DF rfl)))) (by simp)) (by decide))) rfl))
 ·rw[if_neg a]
  suffices h:Bm _ O=.rt _ _ from congrArg bx h
  exact .trans (sq rfl) (.trans (sq (cO (.trans (cg (aW (iM (DF (fL e)) (by rw[zh,oA b];rfl)) (fM e) rfl)) (by rw[zo a])))) (.trans (sq (uc (fL e) b (qD (DJ rfl (DJ (aW (fP e) rfl rfl) (DJ (aW (fP e) rfl rfl) (DF rfl)))) (by simp)) f)) rfl))
def ti(h:EC k v)(O:au):sY [.tup [.str [i],.str [g]],.str k,.str v] O=.ok (if k=fB then .tup [.str [v.headD 0],.str [g]] else if k=fZ then .tup [.str [i],.str [v.headD 0]] else if k=bM then .tup [.str [i],.str [g]] else .tup [.str [46],.str [46]]) O:=by
 cases h<;>rfl
def NB{M:Int}{st:Bool} (e:O[o]?=some (Po M d n i g st)):lR [.ob o] O=.ok .Pl ((O++[Ob.ml []]).set o (Po M d O.length 46 46 false)):=by
 have a:(O++[Ob.ml []])[o]?=some _:=E5 e;have c:((O++[Ob.ml []]).set o (Po M d O.length i g st))[o]?=some _:=gs' a;have b:((O++[Ob.ml []]).set o (Po M d O.length 46 46 st))[o]?=some _:=gs' a;simp[lR,vW,pL a,pP c,pS b]
def tj{M:Int}{st:Bool}(e:O[o]?=some (Po M a n i g st)):Bo [.ob o] O=.ok (.bl (decide (a=bW))) O:=congrArg (λr=>bx (lO r)) (aW (fW e) rfl rfl)
def iT{O:au}{o:Nat}{M:Int} {st:Bool} (e:O[o]?=some (Po M b m i g st))(a:O[n]?=some (.ml c)):o≠n:=λz=>by
 rw[z,a] at e;cases e
def G1.set{M:Int} {st:Bool} (h:G1 O told du)(e:O[o]?=some (Po M f m i g st)):G1 (O.set o x) told du:=by
 rcases h with h | ⟨n,r,w,d,c,a,b⟩
 ·exact .inl h
 ·exact .inr ⟨n,r,w,d,c,by rw[zi (iT e a)];exact a,b⟩
def FI(O:au)(o:Nat)(told:List D):Prop:=∀n w,told=[.tup [.ob n,.str w]]->∀(M:Int)(a:Pf)(m i g:Nat)(st:Bool),O[o]?=some (Po M a m i g st)->m≠n
def DG{M:Int} {st:Bool}(h:Po M c n i g st=Po f b m d e a):n=m:=by
 cases h;rfl
def FI.nil:FI O o []:=λn w h=>nomatch h
def FI.one{O:au}{o n:Nat}{w:Pf}{M:Int}{b:Pf}{m i g:Nat}{st:Bool}(e:O[o]?=some (Po M b m i g st))(h:m≠n):FI O o [.tup [.ob n,.str w]]:=λj f p r d k l q c a=>by
 rw[e] at a
 have:=DG (zF a)
 grind
def LF(O:au)(o n:Nat)(b:List D):Prop:=O[n]?=some (.ml b)/\∀(M:Int)(a:Pf)(m i g:Nat)(st:Bool),O[o]?=some (Po M a m i g st)->m≠n
def Keeps(O b:au)(o:Nat):Prop:=(∀n a,LF O o n a->LF b o n a)/\∀(r:Nat)(x:Ob),r≠o->(∀a,x≠.ml a)->O[r]?=some x->b[r]?=some x
def Keeps.refl:Keeps O O o:=⟨λ_ _ h=>h,λ_ _ _ _ h=>h⟩
def Keeps.trans(a:Keeps O O1 o)(b:Keeps O1 e o):Keeps O e o:=⟨λn ds h=>b.1 n ds (a.1 n ds h),λr c f d h=>b.2 r c f d (a.2 r c f d h)⟩
def qH{M:Int} {st:Bool}(b:O[n]?=some (.ml p))(e:O[o]?=some (Po M q m i g st))(h:m≠n):LF O o n p:=⟨b,λl d f j k c a=>by
 rw[e] at a;rw[<-DG (zF a)]
 exact h⟩
def qI{M:Int} {st:Bool}(e:O[o]?=some (Po M l n i g st)):Keeps O ((O++[Ob.ml []]).set o (Po s k O.length p q j)) o:=by
 refine⟨λm d h=>?_,λr c a f h=>by grind⟩;have b:=(zx.mp h.1).1;refine qH (by rw[zi (iT e h.1)];exact E5 h.1) (gs' (E5 e)) (by omega)
def NP{M:Int} {st:Bool}(e:O[o]?=some (Po M j n i g st)):Keeps O (O.set o (Po p d n k l b)) o:=⟨λm ds h =>
 qH (by rw[zi (iT e h.1)];exact h.1) (gs' e) (h.2 _ _ _ _ _ _ e),λr c a f h=>by rw[zi (Ne.symm a)];exact h⟩
def NQ{M:Int} {st:Bool} (e:O[o]?=some (Po M k n i g st))(a:O[n]?=some (.ml j)):Keeps O (O.set n (.ml d)) o:=⟨λm ds h =>
 qH (by rw[zi (h.2 _ _ _ _ _ _ e)];exact h.1) (by rw[zi (Ne.symm (iT e a))];exact e) (h.2 _ _ _ _ _ _ e),λr c b f h=>by rw[zi λz=>by rw[z,h] at a;exact f _ (zF a)];exact h⟩
def tm{M:Int} (h:Mk O o M lw s):∃a,nR [.ob o] O=.ok .Pl a/\Mk a o M lw ⟨bare s,false,s.i,s.g⟩/\Keeps O a o:=by
 obtain⟨n,e,b⟩:=h;have q:=tf e
 cases hs:s.st with
 |true =>
  rw[hs,if_pos rfl] at q;refine⟨_,q,⟨O.length,gs' (E5 e),?_⟩,qI e⟩;rw[zi (zt (cV e))];unfold bare;rw[hs];exact IF
 |false =>
  rw[hs] at q;refine⟨_,q,⟨n,by rw[hs] at e;exact e,?_⟩,Keeps.refl⟩;unfold bare;rw[hs];exact b
def tp{M:Int} (h:Mk O o M r s)(l:s.row.length<=1000)(j:∀x∈s.row,FK x):∃f a,vY [.ob o,item p bM [c]] O=.ok (.lst a) f /\
  Mk f o M (if(s.row.length:Int)=M then bW else r) ⟨if(s.row.length:Int)=M then[(c,s.i,s.g,p)] else s.row++[(c,s.i,s.g,p)],s.st,s.i,s.g⟩/\G1 f a (if(s.row.length:Int)=M then[(s.row,bW)] else[])/\FI f o a/\Keeps O f o:=by
 obtain⟨n,e,d⟩:=h;have q:=th (p:=p) (c:=c) e d (by grind);rw[ze] at q;have m:=cV d
 by_cases b:s.row.length=M
 ·rw[if_pos b] at q;rw[if_pos b,if_pos b,if_pos b]
  have k:(((O++[Ob.ml []]).set o (Po M bW O.length s.i s.g s.st)).set O.length (.ml [dL (c,s.i,s.g,p)]))[o]?=some (Po M bW O.length s.i s.g s.st):=by
   grind
  refine⟨_,_,q,⟨O.length,k,?_⟩,.inr ⟨n,s.row,bW,rfl,rfl,?_,.inr rfl,j,l⟩,FI.one k (by omega),(qI e).trans (NQ (gs' (E5 e)) (by rw[zi (zt (cV e))];exact IF))⟩
  ·simp
  ·rw[zi (by omega),zi (iT e d)];exact E5 d
 ·rw[if_neg b] at q;rw[if_neg b,if_neg b,if_neg b];refine⟨_,_,q,⟨n,?_,?_⟩,.inl ⟨rfl,rfl⟩,FI.nil,NQ e d⟩
  ·rw[zi (Ne.symm (iT e d))];exact e
  grind
def ud(s:EZ)(k v:Pf):Nat×Nat:=if k=fB then(v.headD 0,s.g) else if k=fZ then(s.i,v.headD 0) else if k=bM then(s.i,s.g) else(46,46)
def qJ{M:Int} (h:Mk O o M C s)(it:EC k v)(t:G1 O told du)(b:FI O o told):
  ∃a,(aq (bO OU "pair" (aa 0) (aC sY (aj (bz OU "pair" (aa 0)) (aj (aa 2) (aj (ak C7 (aa 1) (kI 2)) ao))))) (aB (aa 3))) [some (.ob o),some (item p k v),some (.str k),some (.lst told)] O=.rt (.lst told) a/\Mk a o M C ⟨s.row,s.st,(ud s k v).1,(ud s k v).2⟩/\G1 a told du/\FI a o told/\Keeps O a o:=by
 obtain⟨n,e,d⟩:=h;have q:C7 (item p k v) (.int 2)=some _:=rfl;have c:=ti (i:=s.i) (g:=s.g) it
 have l:(if k=fB then D.tup [.str [v.headD 0],.str [s.g]] else if k=fZ then .tup [.str [s.i],.str [v.headD 0]] else if k=bM then .tup [.str [s.i],.str [s.g]] else .tup [.str [46],.str [46]])=.tup [.str [(ud s k v).1],.str [(ud s k v).2]]:=by
  unfold ud
  split
  ·rfl
  ·split
   ·rfl
   ·split<;>rfl
 rw[l] at c;have u:aZ O (item p k v)=item p k v:=rfl;refine⟨O.set o _,?_,⟨n,gs' e,by rw[zi (iT e d)];exact d⟩,t.set e,?_,NP e⟩
 rotate_left
 ·intro m j r B x y z A w f;rw[gs' e] at f;rw[<-DG (zF f)];exact b m j r _ _ _ _ _ _ e
 simp only[cZ,Av,nF,jF,lN,JC,d9,jf,jj,aR,fP e,Ak,JE,u,lM,q,iH,c,Aw,pP e,iJ,fc,Jk]
def NC{M:Int} {st:Bool}{ρ:aN}(e:O[o]?=some (Po M a n i g st)):bO OU "stale" (aa 0) (mC (.bl b)) (some (.ob o)::ρ) O=.nx (some (.ob o)::ρ) (O.set o (Po M a n i g b)):=pS e
def tq{M:Int} (h:Mk O o M lw s)(hs:FC M s)(W:M<=200)(it:EC k v):∃a told,sZ [.ob o,item p k v] O=.ok (.lst told) a/\Mk a o M (LA M s lw k) (QO M s p k v)/\G1 a told (due M s k)/\FI a o told/\Keeps O a o:=by
 have H:=hs.len
 have G:s.row.length<=1000:=by omega
 have J:∀x∈bare s,FK x:=λx A=>by
  unfold bare at A;split at A
  ·cases A
  ·exact hs.ok x A
 have F:(bare s).length<=1000:=by
  unfold bare
  split
  ·simp
  ·exact G
 obtain⟨n,e,u⟩:=id h;obtain⟨Y,I,t,z⟩:=tm h
 have C:=λρ=>(dG (ρ:=some (.ob o)::ρ) (m:="empty_stale") (cf:=nR) (mo:=aa 0) (ma:=ao) rfl e rfl rfl).trans I
 have fin:∀{told:List D}{a:au},Ky [some (.ob o),some (item p k v),none,none] O=.rt (.lst told) a->sZ [.ob o,item p k v] O=.ok (.lst told) a:=λh=>congrArg bx h
 cases it with
 |anew =>
  have E:Mk (O.set o (Po M lw n s.i s.g true)) o M lw ⟨s.row,true,s.i,s.g⟩:=⟨n,gs' e,by rw[zi (iT e u)];exact u⟩;obtain⟨a,q,l,j,f,d⟩:=qJ (p:=p) (told:=[]) (du:=[]) E EC.anew (.inl ⟨rfl,rfl⟩) FI.nil;exact⟨a,[],fin (.trans (sq rfl) (.trans (sq rfl) (.trans (sq (.trans (cO rfl) (.trans (dh rfl) (NC e)))) (.trans (sq (cO rfl)) q)))),l,j,f,(NP e).trans d⟩
 |end_ =>
  have B:=NC (b:=false) (ρ:=[some (item p kJ []),some (.str kJ),some (.lst [.tup [.ob n,.str bB]])]) (gs' (O:=O++[.ml []]) (y:=Po M bB O.length s.i s.g s.st) (E5 e));have E:Mk _ o M bB ⟨[],false,s.i,s.g⟩:=⟨O.length,gs' (E5 e),by rw[zi (zt (cV e))];exact IF⟩;obtain⟨a,q,l,j,f,d⟩:=qJ (p:=p) (told:=[.tup [.ob n,.str bB]]) (du:=[(s.row,bB)]) E EC.end_ (.inr ⟨n,s.row,bB,rfl,rfl,by rw[zi (iT e u)];exact E5 u,.inl rfl,hs.ok,G⟩) (FI.one (gs' (E5 e)) (Nat.ne_of_gt (cV u)));rw[List.set_set] at B;exact⟨a,[.tup [.ob n,.str bB]],fin (.trans (sq rfl) (.trans (sq rfl) (.trans (sq (.trans (dh rfl) (.trans (sq (wK ((dG rfl e rfl rfl).trans (Dz (w:=bB) e)))) B))) (.trans (sq (cO rfl)) q)))),l,j,f,(qI e).trans d⟩
 |plain =>
  obtain⟨a,q,l,j,f,d⟩:=qJ (p:=p) (told:=[]) (du:=[]) t EC.plain (.inl ⟨rfl,rfl⟩) FI.nil;exact⟨a,[],fin (.trans (sq rfl) (.trans (sq rfl) (.trans (sq (.trans (cO rfl) (.trans (cO rfl) (JJ (C _))))) (.trans (sq (cO rfl)) q)))),l,j,f,z.trans d⟩
 |Sb c hc =>
  obtain⟨a,q,l,j,f,d⟩:=qJ (p:=p) (told:=[]) (du:=[]) t (EC.Sb c hc) (.inl ⟨rfl,rfl⟩) FI.nil;exact⟨a,[],fin (.trans (sq rfl) (.trans (sq rfl) (.trans (sq (.trans (cO rfl) (.trans (cO rfl) (JJ (C _))))) (.trans (sq (cO rfl)) q)))),l,j,f,z.trans d⟩
 |ground c hc =>
  obtain⟨a,q,l,j,f,d⟩:=qJ (p:=p) (told:=[]) (du:=[]) t (EC.ground c hc) (.inl ⟨rfl,rfl⟩) FI.nil;exact⟨a,[],fin (.trans (sq rfl) (.trans (sq rfl) (.trans (sq (.trans (cO rfl) (.trans (cO rfl) (JJ (C _))))) (.trans (sq (cO rfl)) q)))),l,j,f,z.trans d⟩
 |sign c hc =>
  obtain⟨X,told,T,R,Q,P,N⟩:=tp (p:=p) (c:=c) t F J;obtain⟨a,q,l,j,f,d⟩:=qJ (p:=p) R (EC.sign c hc) Q P;obtain⟨U,B,_⟩:=id t;refine⟨a,told,fin (.trans (sq rfl) (.trans (sq rfl) (.trans (sq (.trans (cO rfl) (.trans (cO rfl) (JJ (C _))))) (.trans (sq (.trans (dh rfl) (wK ((dG rfl B rfl rfl).trans T)))) q)))),?_,?_,f,(z.trans N).trans d⟩
  ·have L:QO M s p bM [c]=IM M s p c:=rfl
   have K:LA M s lw bM=if((bare s).length:Int)=M then bW else lw:=by
    show(match jL M s with | [(_,w)]=>w | _=>lw)=_;unfold jL
    by_cases r:((bare s).length:Int)=M
    ·rw[if_pos r,if_pos r]
    ·rw[if_neg r,if_neg r]
   rw[L,K];have t2' :=l;unfold IM
   by_cases r:((bare s).length:Int)=M
   ·rw[if_pos r,if_pos r] at t2' ⊢;exact t2'
   ·rw[if_neg r,if_neg r] at t2' ⊢;exact t2'
  ·have d3:due M s bM=jL M s:=rfl;rw[d3];unfold jL;exact j
def FC.QO{M:Int} (h:FC M s)(f:1<=M) (it:EC k v):FC M (QO M s p k v):=by
 have e:∀x∈bare s,FK x:=λx a=>by
  unfold bare at a;split at a
  ·cases a
  ·exact h.ok x a
 have b:(bare s).length<=M:=by
  unfold bare
  split
  ·simp;omega
  ·exact h.len
 cases it with
 |anew=>exact⟨h.len,h.ok,(rfl),(rfl)⟩
 |end_=>exact⟨(show 0<=M by omega),(λx a=>nomatch a),(rfl),(rfl)⟩
 |plain=>exact⟨b,e,(rfl),(rfl)⟩
 |Sb c d=>exact⟨b,e,d,h.g⟩
 |ground c d=>exact⟨b,e,h.i,d⟩
 |sign c d =>
  show FC M (IM M s p c);unfold IM
  split
  ·refine⟨by omega,?_,h.i,h.g⟩;intro x a;rw[zj.mp a];exact⟨d,h.i,h.g⟩
  ·refine⟨by simp;omega,?_,h.i,h.g⟩;intro x a
   rcases zy.mp a with a | a
   ·exact e x a
   ·rw[zj.mp a];exact⟨d,h.i,h.g⟩
def Nl(b:l.length<=1000000)(h:(l.length:Int)=n)(a:0<n):∃c,c∈l/\C7 (.str l) (.int (v % n))=some (.str [c]):=by
 obtain⟨c,e,d⟩:=Jv (i:=v % n) (jv _ (by omega)) (by rw[h];exact jw _ a);exact⟨c,d,by rw[Jt,if_pos b,e];rfl⟩
def OI(h:(l.length:Int)=n)(a:0<n):∃c,c∈l/\C7 (.lst l) (.int (v % n))=some c:=by
 obtain⟨c,d,b⟩:=Jv (i:=v % n) (jv _ (by omega)) (by rw[h];exact jw _ a);exact⟨c,b,d⟩
def tr(n k:Int)(b:0<=k)(a:k<=1000000)(O:au):c7 [.int n,.int k] O=.ok (.int (EM n k)) O:=hA n k b a O
abbrev FS:=Int×Pf×Pf
def FG(x:FS):D:=item x.1 x.2.1 x.2.2
def pG(e:O[o]?=some (.ins "Maker" a))(h:a.length<900):E1 OU f d ρ (.ok (.ob o) O)=.nx ρ (O.set o (.ins "Maker" (DS f d a))):=by
 unfold E1
 dsimp
 rw[e]
 dsimp
 rw[if_pos ⟨by simp,h⟩]
def ts{M:Int} (e:O[o]?=some (.ins "Maker" [("most",.int M),("last_word",.str k)])):lR [.ob o] O=.ok .Pl ((O++[Ob.ml []]).set o (Po M k O.length 46 46 false)):=by
 have a:(O++[Ob.ml []])[o]?=some _:=E5 e
 have g:=λρ=>pG (f:="letters") (d:=.ob O.length) (ρ:=ρ) a (by simp)
 have j:=gs' (y:=.ins "Maker" (DS "letters" (.ob O.length) [("most",.int M),("last_word",.str k)])) a
 have c:=λρ=>pG (f:="pair") (d:=.tup [.str [46],.str [46]]) (ρ:=ρ) j (by show 3<900;decide)
 have i:=gs' (y:=.ins "Maker" (DS "pair" (.tup [.str [46],.str [46]]) (DS "letters" (.ob O.length) [("most",.int M),("last_word",.str k)]))) a
 have b:=λρ=>pG (f:="stale") (d:=.bl false) (ρ:=ρ) i (by show 4<900;decide)
 have h:Ob.ins _ (DS "stale" _ (DS "pair" _ (DS "letters" _ [("most",.int M),("last_word",.str k)])))=Po M k O.length 46 46 false:=rfl;rw[h] at b;show bx (vW [some _] O)=_;unfold vW;simp [g,c,b,Jo]
def tu(M:Int)(h:1<=M/\M<=200)(O:au):vV [.int M,.int 1,.int 200] O=.ok (.bl true) O:=by
 simp[vV,Ku,Bh,Ks,h]
def tw(M:Int)(h:1<=M/\M<=200)(O:au)(ρ:aN)(e:∀O,aa 2 ρ O=.ok (.int M) O):∃a n,dO "Maker" vX (aj (aa 2) ao) ρ O=.ok (.ob O.length) a/\a[O.length]?=some (Po M bB n 46 46 false)/\a[n]?=some (.ml [])/\O.length<n/\∀(m:Nat)(x:Ob),O[m]?=some x->a[m]?=some x:=by
 have k:(O++[Ob.ins "Maker" []])[O.length]?=some _:=IF
 have p:=λρ=>pG (f:="most") (d:=.int M) (ρ:=ρ) k (by decide)
 have j:=gs' (y:=.ins "Maker" (DS "most" (.int M) [])) k
 have o:=λρ=>pG (f:="last_word") (d:=.str bB) (ρ:=ρ) j (by show 1<900;decide)
 have c:(((O++[Ob.ins _ []]).set _ _).set _ (.ins "Maker" (DS "last_word" (.str bB) (DS "most" (.int M) []))))[O.length]?=some _:=gs' j;have s:=ts c
 have r:∀(a)(l),a[O.length]?=some (.ins "Maker" [("most",.int M),("last_word",.str bB)])->(aV "Maker" "begin_row" lR (aa 0) ao) [some (.ob _),l] a=lR _ a:=λa l q=>by
  rw[vM];simp [d9,jf,aR];unfold IS
  dsimp
  rw[q];rfl
 have i:vX [.ob O.length,.int M] (O++[Ob.ins "Maker" []])=.ok .Pl ((((O++[Ob.ins "Maker" []]).set O.length (.ins "Maker" (DS "most" (.int M) []))).set O.length (.ins "Maker" (DS "last_word" (.str bB) (DS "most" (.int M) [])))++[Ob.ml []]).set O.length (Po M bB (((O++[Ob.ins "Maker" []]).set O.length (.ins "Maker" (DS "most" (.int M) []))).set O.length (.ins "Maker" (DS "last_word" (.str bB) (DS "most" (.int M) [])))).length 46 46 false)):=by
  show bx (Bj [some _,some _] _)=_;unfold Bj;have p1':∀ρ,E1 _ _ (.str [119,104,111,108,101]) ρ _=_:=o;simp only[cZ,jG,nD,kE,nF,jF,lN,d9,JE,jf,jj,aR,tu M h,nu,nC,pU,Bool.not_true,rY,Bool.false_eq_true,if_false,Am,iJ,Av,OH,fA,Aw,p,p1',rT,r _ _ c,s,vI,Jo]
 obtain⟨a,b⟩:∃a,a=(((O++[Ob.ins "Maker" []]).set O.length (.ins "Maker" (DS "most" (.int M) []))).set O.length (.ins "Maker" (DS "last_word" (.str bB) (DS "most" (.int M) [])))++[Ob.ml []]).set O.length (Po M bB (((O++[Ob.ins "Maker" []]).set O.length (.ins "Maker" (DS "most" (.int M) []))).set O.length (.ins "Maker" (DS "last_word" (.str bB) (DS "most" (.int M) [])))).length 46 46 false):=⟨_,rfl⟩;rw[<-b] at i;refine⟨a,_,?_,by rw[b];exact gs' (E5 c),?_,by simp,λm x g=>?_⟩
 ·rw[JD];simp only[jF,lN,e,aR,i,JF]
 ·rw[b,zi (by simp)];exact IF
 ·have t:=(zx.mp g).1;rw[b,zi (by omega),zG (by simp;omega),zi (by omega),zi (by omega)];exact E5 g
def tF(h:∀x∈c::r,(32<=x/\x<=125)\/x=10\/x=9):EC (one c r).1 (one c r).2.1:=by
 have b:=h c zd;have a :=EC.sign 91 (by decide);unfold one
 split
 ·exact EC.end_
 split
 ·exact EC.anew
 split
 ·unfold cG
  cases r with
  |nil=>exact a
  |cons d r =>
   dsimp
   split
   ·exact EC.plain
   split
   ·exact a
   split
   ·unfold il
    cases r with
    |nil=>exact a
    |cons =>
     dsimp
     split
     ·exact EC.Sb d (by assumption)
     ·exact a
   split
   ·unfold gb
    cases r with
    |nil=>exact a
    |cons e r =>
     dsimp
     split
     ·unfold gn
      cases r with
      |nil=>exact a
      |cons =>
       dsimp
       split
       ·exact EC.ground e (by assumption)
       ·exact a
     ·exact a
   ·exact a
 ·exact EC.sign c (by omega)
theorem NT:∀(n:Nat)(t:Pf)(p:Int),t.length<=n->(∀c∈t,(32<=c/\c<=125)\/c=10\/c=9)->∃a:List FS,items p t=a.map FG/\(∀x∈a,EC x.2.1 x.2.2)/\a.length<=t.length
 | 0,[],p,_,_=>⟨[],by rw[kO];rfl,by simp⟩
 | 0,c::t,p,h,_=>by simp at h
 |n+1,[],p,_,_=>⟨[],by rw[kO];rfl,by simp⟩
 |n+1,c::t,p,h,hc=>by
  simp at h
  obtain⟨a,e,f,d⟩:=NT n (t.drop (one c t).2.2) _ (by rw[List.length_drop];omega) λx b=>hc x (zl _ (jy b))
  refine⟨(p,(one c t).1,(one c t).2.1)::a,by rw[qd,e];rfl,λx b=>?_,by rw[List.length_drop] at d;simp;omega⟩
  rcases zk.mp b with rfl | b
  ·exact tF hc
  ·exact f x b
abbrev Du:=List LT×Pf
def rn(M:Int):EZ->List FS->EZ×List Du
 |s,[]=>(s,[])
 |s,x::xs=>((rn M (QO M s x.1 x.2.1 x.2.2) xs).1,due M s x.2.1++(rn M (QO M s x.1 x.2.1 x.2.2) xs).2)
def s0:EZ:=⟨[],false,46,46⟩
def jM{M:Int}(h:1<=M):FC M s0:=⟨(show 0<=M by omega),(λx a=>nomatch a),(rfl),(rfl)⟩
def wX(M:Int)(s:EZ)(k:Pf):(due M s k).length<=1:=by
 unfold due jL
 split
 ·simp
 ·split
  ·split<;>simp
  ·simp
theorem iU{M:Int}(c:1<=M):∀(b:List FS)(s:EZ),FC M s->(∀x∈b,EC x.2.1 x.2.2)->FC M (rn M s b).1/\(rn M s b).2.length<=b.length
 | [],s,h,_=>⟨h,zc _⟩
 |x::xs,s,h,hi=>by
  obtain⟨a⟩:=iU c xs _ (h.QO c (hi x zd)) λy d=>hi y (zl _ d)
  have:=wX M s x.2.1
  refine⟨a,?_⟩;simp [rn,zu];omega
def DK:MS:=(aq (aF (bZ (bI (aa 4)) (bZ (az (ak EK (aa 7) (kS [101,110,100]))) (az (ak EK (aa 7) (kS [97,110,101,119]))))) (aq (aA 3 (bf ao))
  (aA 4 (mC (.bl false)))) aK)
  (aq (aF (az (ak DA (aa 7) (kS [115,105,103,110]))) (aq (aF (az (ak DA (aO aX (aj (aa 3) ao)) (aa 1))) (aq (g8 (aa 2) (aU (aj (aa 3) (aj (kS [109,111,114,101]) ao))))
  (aA 3 (bf ao))) aK)
  (aA 3 (ak aD (aa 3) (bf (aj (aU (aj (aa 8) (aj (ak C7 (aa 5) (kI 0)) (aj (ak C7 (aa 5) (kI 1)) (aj (aa 6) ao))))) ao))))) (aF (az (ak DA (aa 7) (kS [105,110,107]))) (pA 5 (kI 0) (aa 8)) (aF (az (ak DA (aa 7) (kS [103,114,111,117,110,100]))) (pA 5 (kI 1) (aa 8)) (aA 5 (bf (aj (kS [46]) (aj (kS [46]) ao)))))))
  (aq (aF (az (ak DA (aa 7) (kS [97,110,101,119]))) (aA 4 (mC (.bl true))) aK)
  (aF (az (ak DA (aa 7) (kS [101,110,100]))) (aq (g8 (aa 2) (aU (aj (aa 3) (aj (kS [119,104,111,108,101]) ao))))
  (aq (aA 3 (bf ao))
  (aA 4 (mC (.bl false))))) aK))))
def cH{b:MS} (h:b ρ O=.rt d a):bx (b ρ O)=.ok d a:=by rw[h];rfl
def NL(i g f e d c b:Option D)(r:D)(w:Pf)(a:List D)(O:au)(h:a.length<1000000):g8 (aa 2) (aU (aj (aa 3) (aj (mC (.str w)) ao))) [i,g,some (.ob O.length),some r,f,e,d,c,b] (O++[.ml a])=.nx [i,g,some (.ob O.length),some r,f,e,d,c,b] (O++[.ml (a++[.tup [r,.str w]])]):=by
 rw[uc rfl dU rfl h,oh]
def NZ{R:List LT}{M:Int} {ρ:aN}:az (ak DA (aO aX (aj (aa 3) ao)) (aa 1)) (a::some (.int M)::b::some (.lst (R.map dL))::ρ) O=.ok (decide ((R.length:Int)=M)) O:=by
 rw[<-ze];rfl
def tI(s:EZ)(M p:Int)(k v:Pf)(h:EC k v)(l:s.row.length<=1000)(a:List Du)(m:a.length<=10000)(d:Option D)(O:au):
  DK [d,some (.int M),some (.ob O.length),some (.lst (s.row.map dL)),some (.bl s.st),some (.lst [.str [s.i],.str [s.g]]),some (.int p),some (.str k),some (.str v)] (O++[.ml (a.map bY)])=.nx [d,some (.int M),some (.ob O.length),some (.lst ((QO M s p k v).row.map dL)),some (.bl (QO M s p k v).st),some (.lst [.str [(QO M s p k v).i],.str [(QO M s p k v).g]]),some (.int p),some (.str k),some (.str v)] (O++[.ml ((a++due M s k).map bY)]):=by
 have e:a.length<1000000:=by omega
 unfold DK
 cases h with
 |anew=>rw[show due M s nJ=[] from rfl,zE];obtain⟨_,st,_,_⟩:=s;cases st<;>rfl
 |end_ =>
  rw[zI];obtain⟨_,st,_,_⟩:=s
  cases st<;>exact(sq rfl).trans ((sq rfl).trans ((sq rfl).trans ((dh rfl).trans ((sq (NL _ _ _ _ _ _ _ _ _ (a.map bY) _ (by rw[ze];exact e))).trans rfl))))
 |plain=>rw[show due M s jH=[] from rfl,zE];obtain⟨_,st,_,_⟩:=s;cases st<;>rfl
 |Sb c f=>rw[show due M s fB=[] from rfl,zE];obtain⟨_,st,_,_⟩:=s;cases st<;>rfl
 |ground c f=>rw[show due M s fZ=[] from rfl,zE];obtain⟨_,st,_,_⟩:=s;cases st<;>rfl
 |sign c f =>
  obtain⟨R,st,i,g⟩:=s
  have j:(bare ⟨R,st,i,g⟩).length<=1000:=by cases st<;>simp_all [bare]
  refine(sq (ρ':=[d,some (.int M),some (.ob O.length),some (.lst ((bare ⟨R,st,i,g⟩).map dL)),some (.bl false),some (.lst [.str [i],.str [g]]),some (.int p),some (.str bM),some (.str [c])]) (by cases st<;>rfl)).trans ?_;rw[show QO M ⟨R,st,i,g⟩ p bM [c]=IM M ⟨R,st,i,g⟩ p c from rfl,show due M ⟨R,st,i,g⟩ bM=jL M ⟨R,st,i,g⟩ from rfl];unfold IM jL
  generalize bare ⟨R,st,i,g⟩=R' at j ⊢
  by_cases b:(R'.length:Int)=M
  ·rw[if_pos b,if_pos b,zI];exact .trans (sq (.trans (dh rfl) (.trans (sq (.trans (dh (NZ.trans (by rw[zw b]))) (.trans (sq (NL _ _ _ _ _ _ _ _ _ (a.map bY) _ (by rw[ze];exact e))) rfl))) rfl))) rfl
  ·rw[if_neg b,if_neg b,zE,zI];exact .trans (sq (.trans (dh rfl) (.trans (sq (cO (NZ.trans (by rw[zo b])))) (bc (aW rfl rfl (if_pos (by rw[ze];exact zJ (Nat.succ_le_succ j) (by decide)))))))) rfl
theorem N5{M:Int}(l:1<=M/\M<=200)(k:Option D)(O:au):∀(a:List FS)(s:EZ)(b:List Du)(j h f:Option D),FC M s->(∀x∈a,EC x.2.1 x.2.2)->b.length+a.length<=10000 ->
  ∃e d c,bw (cM 3 (bh (C9 6) (bh (C9 7) (bh (C9 8) cP)))) DK (a.map FG) [k,some (.int M),some (.ob O.length),some (.lst (s.row.map dL)),some (.bl s.st),some (.lst [.str [s.i],.str [s.g]]),j,h,f] (O++[.ml (b.map bY)])=.nx [k,some (.int M),some (.ob O.length),some (.lst ((rn M s a).1.row.map dL)),some (.bl (rn M s a).1.st),some (.lst [.str [(rn M s a).1.i],.str [(rn M s a).1.g]]),e,d,c] (O++[.ml ((b++(rn M s a).2).map bY)])
 | [],s,b,j,h,f,_,_,_=>⟨j,h,f,by show Fl.nx _ _=_;simp[rn]⟩
 |x::a,s,b,j,h,f,hs,hi,hl=>by
  have it:=hi x zd;simp at hl;have m:=hs.len;have dl:=wX M s x.2.1;have p:=tI s M x.1 _ _ it (by omega) b (by omega) k O;obtain⟨e,d,c,o⟩:=N5 l k O _ _ (b++due M s x.2.1) _ _ _ (hs.QO l.1 it) (λy n=>hi y (zl _ n)) (by rw[zg];omega);refine⟨e,d,c,?_⟩;refine(dF rfl p).trans ?_;rw[o,zz];rfl
def tJ{M:Int}(b:1<=M/\M<=200)(a:List FS)(c:∀x∈a,EC x.2.1 x.2.2)(h:a.length<=5000)(O:au):Cv [.lst (a.map FG),.int M] O=.ok (.tup [.ob O.length,.lst ((rn M s0 a).1.row.map dL)]) (O++[.ml ((rn M s0 a).2.map bY)]):=by
 obtain⟨g,f,d,e⟩:=N5 b _ O _ s0 [] _ _ _ (jM b.1) c (by simp;omega);have e' :=e;refine cH ?_;refine(aM (dW (cU rfl) e')).trans ?_;rfl
def tN{M:Int} (h:FC M s)(k:Pf):∀x∈due M s k,(x.1.length:Int)<=M:=by
 intro x a;unfold due jL at a;split at a
 ·rw[zj.mp a];exact h.len
 ·split at a
  ·split at a
   ·rename_i b;rw[zj.mp a];exact Int.le_of_eq b
   ·cases a
  ·cases a
theorem wY{M:Int}(c:1<=M):∀(b:List FS)(s:EZ),FC M s->(∀x∈b,EC x.2.1 x.2.2)->∀x∈(rn M s b).2,(x.1.length:Int)<=M
 | [],s,_,_,x,a=>nomatch a
 |y::b,s,h,hi,x,a=>by
  have hx' :=a
  rcases zy.mp hx' with a | a
  ·exact tN h _ x a
  ·exact wY c _ _ (h.QO c (hi y zd)) (λz d=>hi z (zl _ d)) x a
theorem ue(M:Int):∀(a b:List FS)(s:EZ),rn M s (a++b)=((rn M (rn M s a).1 b).1,(rn M s a).2++(rn M (rn M s a).1 b).2)
 | [],b,s=>rfl
 |x::a,b,s=>by
  show((rn M _ (a++b)).1,due M s _++(rn M _ (a++b)).2)=_;rw[ue];show _=(_,due M s _++_++_);rw[zz];rfl
def FM(a:Pf)(ds:List Du):Pf:=(ds.map (·.2)).getLastD a
def DN(c:Pf)(a b:List Du):FM c (a++b)=FM (FM c a) b:=by
 unfold FM
 cases b with
 | nil
 |cons =>simp
def tP(M:Int)(s:EZ)(a k:Pf):LA M s a k=FM a (due M s k):=by
 have dl:=wX M s k;unfold LA FM
 generalize due M s k=d at *
 match d,dl with
 | [],_=>rfl
 | [_],_=>rfl
 | _::_::_,h=>simp at h
def PD:D->FS
 | .tup [.int p,.str k,.str v]=>(p,k,v)
 | _=>(0,[],[])
def DP(l:List FS):(l.map FG).map PD=l:=by
 rw[zL]
 exact List.map_id' _ |>.symm ▸ ja λ_ _=>rfl
def sI(t:Pf):List FS:=(aP [] 0 t).1.map PD
def hI(t:Pf):List FS:=(DO (t.length - (aP [] 0 t).2.length) (aP [] 0 t).2).map PD
structure SI(t:Pf):Prop where
 s:(aP [] 0 t).1=(sI t).map FG
 h:DO (t.length - (aP [] 0 t).2.length) (aP [] 0 t).2=(hI t).map FG
 i:∀x∈sI t++hI t,EC x.2.1 x.2.2
 l:(sI t++hI t).length<=t.length
 a:items 0 t=(sI t++hI t).map FG
 H:bL (aP [] 0 t).2
def si(i:ES t):SI t:=by
 obtain⟨m,e,k,j⟩:=NT _ t 0 (zc _) λc l=>by have:=i.ok c l;omega
 obtain⟨H,q⟩:=JP t;have e':=e;rw[q] at e';obtain⟨a,b,rfl,h,g⟩:=List.map_eq_append_iff.mp e'.symm
 have f:sI t=a:=by unfold sI;rw[<-h,DP]
 have d:hI t=b:=by unfold hI;rw[<-g,DP]
 refine⟨by rw[f,h],by rw[d,g],?_,?_,?_,H⟩
 all_goals rw[f,d]
 ·exact k
 ·exact j
 ·exact e
def jI(t p:Pf):List FS:=(aP (aP [] 0 t).2 (t.length) p).1.map PD
def DQ(h:ES (t++p)):sI (t++p)=sI t++jI t p/\(aP (aP [] 0 t).2 (t.length) p).1=(jI t p).map FG/\(aP [] 0 (t++p)).2=(aP (aP [] 0 t).2 (t.length) p).2:=by
 have e:=Nu t [] 0;rw[Int.zero_add] at e
 have d:sI (t++p)=sI t++jI t p:=by unfold sI jI;rw[e,zI]
 have q:=(si h).s;rw[e] at q;refine⟨d,?_,by rw[e]⟩;obtain⟨a,b,g,f,c⟩:=List.map_eq_append_iff.mp q.symm
 have:jI t p=b:=by unfold jI;rw[<-c,DP]
 rw[this,c]
def gC(x:List LT×Pf):Prop:=(∀y∈x.1,FK y)/\(x.2=bB\/x.2=bW)
def TD(O:au)(o:Nat):List D->List Du->Prop
 | [],[]=>True
 |d::T,x::Ds=>(∃n,d=.tup [.ob n,.str x.2]/\LF O o n (x.1.map dL))/\gC x/\TD O o T Ds
 | _,_=>False
theorem TD.keeps(k:Keeps O O' o):∀{T:List D}{a:List Du},TD O o T a->TD O' o T a
 | [],[],_=>True.intro
 |d::T,x::a,h=>by
  obtain⟨⟨n,e,c⟩,f,b⟩:=h;exact⟨⟨n,e,k.1 n _ c⟩,f,TD.keeps k b⟩
 | [],_::_,h=>h.elim
 | _::_,[],h=>h.elim
theorem TD.app(b:TD O o T' Ds'):∀{T:List D}{a:List Du},TD O o T a->TD O o (T++T') (a++Ds')
 | [],[],_=>b
 |d::T,x::a,h=>⟨h.1,h.2.1,TD.app b h.2.2⟩
 | [],_::_,h=>h.elim
 | _::_,[],h=>h.elim
theorem TD.len:∀{T:List D}{a:List Du},TD O o T a->T.length=a.length
 | [],[],_=>rfl
 |d::T,x::a,h=>by simp[TD.len h.2.2]
 | [],_::_,h=>h.elim
 | _::_,[],h=>h.elim
def tS{M:Int} {a:List Du}(m:Mk O o M h s)(p:G1 O g a)(b:FI O o g):TD O o g a:=by
 rcases p with⟨rfl,rfl⟩ | ⟨n,r,w,rfl,rfl,f,d,c,_⟩
 ·exact True.intro
 ·obtain⟨k,e,_⟩:=m;exact⟨⟨n,rfl,qH f e (b n w rfl _ _ _ _ _ _ e)⟩,⟨c,d⟩,True.intro⟩
def TE(O:au):List D->List Du->Prop
 | [],[]=>True
 |d::T,x::Ds=>(∃n,d=.tup [.ob n,.str x.2]/\O[n]?=some (.ml (x.1.map dL)))/\gC x/\TE O T Ds
 | _,_=>False
theorem TD.te:∀{T:List D}{a:List Du},TD O o T a->TE O T a
 | [],[],_=>True.intro
 |d::T,x::a,h=>by
  obtain⟨⟨n,e,c⟩,f,b⟩:=h;exact⟨⟨n,e,c.1⟩,f,TD.te b⟩
 | [],_::_,h=>h.elim
 | _::_,[],h=>h.elim
def tT{M:Int} (h:Mk O o M u s)(p:∀x∈s.row,FK x)(t:s.row.length<=1000):∃l c,Bp [.ob o] O=.ok (.lst c) l/\Mk l o M (if s.row≠[]\/u=bW then bB else u) ⟨[],false,46,46⟩/\G1 l c (if s.row≠[]\/u=bW then[(s.row,bB)] else[])/\Keeps O l o:=by
 obtain⟨n,e,m⟩:=h;have r:(cJ (az (ak HE (aO aX (aj (bz _ _ (aa 0)) _)) (kI 0))) (bI (aV _ "going_on" _ (aa 0) ao))) [some _] O=.ok (decide (s.row≠[]\/u=bW)) O :=
  (LU (b:=decide (s.row≠[])) (.trans (cg (aW (iM (DF (fL e)) (by rw[zh,oA m];rfl)) rfl rfl)) (by cases s.row<;>simp)) (xK ((dG rfl e rfl rfl).trans (tj e)))).trans (by rw[Bool.decide_or])
 by_cases d:s.row≠[]\/u=bW
 ·rw[if_pos d,if_pos d];have q:=Dz (w:=bB) e;obtain⟨j,a⟩:∃j,j=(O++[Ob.ml []]).set o (Po M bB O.length s.i s.g s.st):=⟨_,rfl⟩
  have f:j[o]?=some (Po M bB O.length s.i s.g s.st):=by rw[a];exact gs' (E5 e)
  have k:j[n]?=some (.ml (s.row.map dL)):=by rw[a,zi (iT e m)];exact E5 m
  rw[<-a] at q;exact⟨(j++[Ob.ml []]).set o _,[.tup _],cH (.trans (sq rfl) (.trans (sq (.trans (dh (r.trans (by rw[zw d]))) (wK ((dG rfl e rfl rfl).trans q)))) (.trans (sq (JJ ((dG rfl f rfl rfl).trans (NB f)))) rfl))),⟨j.length,gs' (E5 f),by rw[zi (zt (cV f))];exact IF⟩,.inr ⟨n,s.row,bB,rfl,rfl,by rw[zi (iT f k)];exact E5 k,.inl rfl,p,t⟩,(a ▸ qI e).trans (qI f)⟩
 ·rw[if_neg d,if_neg d];exact⟨(O++[Ob.ml []]).set o _,[],cH (.trans (sq rfl) (.trans (sq (cO (r.trans (by rw[zo d])))) (.trans (sq (JJ ((dG rfl e rfl rfl).trans (NB e)))) rfl))),⟨O.length,gs' (E5 e),by rw[zi (zt (cV e))];exact IF⟩,.inl ⟨rfl,rfl⟩,qI e⟩
def dg(a:g ρ O=.ok (.ob n) f)(e:f[n]?=some (.ins c i))(b:(i.lookup m).isNone=true)(d:h ρ f=.ok ds k):
  aV c m j g h ρ O=j (.ob n::ds) k:=by
 rw[vM,a];unfold IS
 dsimp
 rw[e]
 dsimp
 rw[if_pos ⟨rfl,b⟩,d,aR]
def N6(h:m ρ O=.ok (.lst c) d)(b:ρ[i]?=some (some (.lst ds)))(a:ds.length+c.length<=1000000):gZ i m ρ O=.nx (ρ.set i (some (.lst (ds++c)))) d:=by
 rw[JG,h,JH b a]
def Fr(O a:au)(S:Pf):Prop:=∀(m:Nat)(x:Ob),m∉S->O[m]?=some x->a[m]?=some x
def Fr.trans{S:Pf}(a:Fr O O1 S)(b:Fr O1 e T)(hs:∀x∈S,x∈U)(d:∀x∈T,x∈U):Fr O e U:=λm x c h=>b m x (λz=>c (d _ z)) (a m x (λz=>c (hs _ z)) h)
def Fr.set:Fr O (O.set n y) [n]:=λm x a h=>by
 rw[zi λz=>a (by rw[z];exact List.mem_singleton_self _)];exact h
def Kp.fr(k:Kp O a):Fr O a []:=λm x _ h=>k m x h
def GI(O:au)(o n:Nat)(M:Int)(a:Pf)(s:EZ):Prop:=O[o]?=some (Po M a n s.i s.g s.st)/\O[n]?=some (.ml (s.row.map dL))
def GI.mk{M:Int} (h:GI O o n M a s):Mk O o M a s:=⟨n,h⟩
def Keeps.fr{M:Int} (k:Keeps O c o)(h:GI O o n M d s):Fr O c [o,n]:=λm x b a=>by
 by_cases z:∃ds,x=.ml ds
 ·obtain⟨ds,rfl⟩:=z;exact(k.1 m ds (qH a h.1 λe=>b (by rw[e];simp))).1
 ·exact k.2 m x (λe=>b (by rw[e];simp)) (λds e=>z ⟨ds,e⟩) a
def Nw(O:au)(n a:Nat):Prop:=∀(m:Nat)(ds:List D),m≠n->O[m]?=some (.ml ds)->a≠m
def Keeps.nw{M:Int} (k:Keeps O i o)(h:GI O o n M l s)(f:Mk i o M g j):∃c,GI i o c M g j/\Nw O n c:=by
 obtain⟨c,a,b⟩:=f;exact⟨c,⟨a,b⟩,λm ds e d=>(k.1 m ds (qH d h.1 (Ne.symm e))).2 _ _ _ _ _ _ a⟩
def mj(b:Pf)(a mk:Nat)(c:Bool):Ob:=.ins "Hand" [("name",.str b),("reader",.ob a),("maker",.ob mk),("closed",.bl c)]
theorem N7{w mk:Nat}{c:Bool}{B:Pf}{M:Int}(o:1<=M/\M<=200)(j:Option D):∀(a:List FS)(O:au)(i:Pf)(s:EZ)(T:List D)(l:List Du)(g:Option D),(∀x∈a,EC x.2.1 x.2.2)->T.length+a.length<=10000->O[hd]?=some (mj B w mk c)->Mk O mk M i s->FC M s->TD O mk T l ->
  ∃d k b,bw (C9 3) (gZ 2 (aV "Maker" "put" sZ (bz ["Hand"] "maker" (aa 0)) (aj (aa 3) ao))) (a.map FG) [some (.ob hd),j,some (.lst T),g] O=.nx [some (.ob hd),j,some (.lst k),b] d/\Mk d mk M (FM i (rn M s a).2) (rn M s a).1/\TD d mk k (l++(rn M s a).2)/\Keeps O d mk
 | [],O,i,s,T,l,g,_,_,_,h,_,td=>⟨O,T,g,rfl,h,by simpa [rn],Keeps.refl⟩
 |x::a,O,i,s,T,l,g,hi,hl,hh,h,hs,td=>by
  have it:=hi x zd;rw[zu] at hl;obtain⟨G,u,q,p,A,v,m⟩:=tq h hs o.2 it;obtain⟨n,e,_⟩:=id h;have f:=tS p A v;have H:=f.len;have dl:=wX M s x.2.1;obtain⟨d,k,b,F,t,r,E⟩:=N7 o j _ G _ _ _ _ _ (λy C=>hi y (zl _ C)) (by rw[zg];omega) (m.2 hd _ (λz=>by rw[z,e] at hh;cases hh) (λI z=>nomatch z) hh) p (hs.QO o.1 it) (TD.app f (td.keeps m));rw[tP,<-DN] at t;rw[zz] at r;refine⟨d,k,b,(dF (ρ1:=[some _,j,some _,some _]) rfl (N6 ((dg (fD rfl hh zd rfl) e rfl (DF rfl)).trans q) rfl (by omega))).trans F,t,r,m.trans E⟩
def N8{M:Int}(k:1<=M/\M<=200) (i:∀x∈q,EC x.2.1 x.2.2)(p:q.length<=5000)(j:O[t]?=some (mj v u mk c))(h:GI O mk n M r s)(hs:FC M s):
  ∃d f T,v7 [.ob t,.lst (q.map FG)] O=.ok (.lst T) d/\GI d mk f M (FM r (rn M s q).2) (rn M s q).1/\Nw O n f/\TD d mk T (rn M s q).2/\Fr O d [mk,n]:=by
 obtain⟨d,T,o,e,m,l,g⟩:=N7 k _ _ O r s [] [] _ i (by simp;omega) j h.mk hs True.intro;obtain⟨f,a,b⟩:=g.nw h m;refine⟨d,f,T,cH ?_,a,b,l,g.fr h⟩;exact(aM (bc rfl)).trans ((aM (dW (cU rfl) e)).trans rfl)
def cls:Ob->Str
 | .ins c _=>c
 | _=>""
def aG{O:au}{i:Nat} (c d:Str)(b:O[i]?=some x)(f:O[j]?=some y)(a:cls x=c:=by rfl)(e:cls y=d:=by rfl)(h:c≠d:=by decide):i≠j:=λz=>by
 rw[z,f] at b;rw[<-zF b,e] at a;exact h a.symm
def bF{a:Nat}(h:a≠b):a∉[b]:=λz=>h (zj.mp z)
def lr{a:Nat}(h:a≠b)(d:a≠c):a∉[b,c]:=λz=>by simp at z;omega
def IZ(O:au)(M:Int)(c a mk n:Nat)(b t:Pf):Prop:=O[c]?=some (mj b a mk false)/\O[a]?=some (RO (aP [] 0 t).2 t.length)/\GI O mk n M (FM bB (rn M s0 (sI t)).2) (rn M s0 (sI t)).1
def GI.fr{M:Int} {S:Pf}(h:GI O o n M c s)(f:Fr O d S)(b:o∉S)(a:n∉S):GI d o n M c s:=⟨f _ _ b h.1,f _ _ a h.2⟩
def Oa(h:O[a]?=some (mj c b mk false)):vZ [.ob a] O=.ok .Pl O:=by
 show bx _=_;unfold Kz;rw[cO (Dd (fD rfl h zd rfl))];rfl
def oE(h:m ρ O=.ok d O1):dY m ρ O=.nx ρ O1:=by rw[rT,h,vI]
def mq{M:Int}(a:1<=M) (c:ES t):FC M (rn M s0 (sI t)).1:=(iU a _ s0 (jM a) λx b=>(si c).i x (jk _ b)).1
def t2{M:Int} (A:1<=M/\M<=200)(h:IZ O M P N mk n Q t)(z:ES t)(J:ES p)(g:ES (t++p)):
  ∃j r T,Bs [.ob P,.str p] O=.ok (.lst T) j/\IZ j M P N mk r Q (t++p)/\Nw O n r/\TE j T (rn M (rn M s0 (sI t)).1 (jI t p)).2/\Fr O j [N,mk,n]:=by
 obtain⟨c,d,k⟩:=h;have S:=si z;obtain⟨u,G,F⟩:=DQ g;have C:=si g;have f:=Np d S.H p J;have s:Fr O (O.set N (RO (aP (aP [] 0 t).2 t.length p).2 (t.length+p.length))) _:=Fr.set;have o :=aG "Maker" "Reader" k.1 d;have y :=aG "" "Reader" k.2 d;have q:=s _ _ (bF (aG "Hand" "Reader" c d)) c
 obtain⟨j,r,T,e,a,b,E,v⟩:=N8 A (λx I=>C.i x (jk _ (by rw[u];exact zQ _ I))) (by
  have l:=C.l
  have:=g.len
  rw[zg,u,zg] at l
  omega) q (k.fr s (bF o) (bF y)) (mq A.1 z)
 have w:=v N _ (lr (Ne.symm o) (Ne.symm y)) (gs d);refine⟨j,r,T,cH ?_,⟨v P _ (lr (aG "Hand" "Maker" c k.1) (aG "Hand" "" c k.2)) q,?_,?_⟩,λm L K B=>b m L K (s m _ (bF (aG "" "Reader" B d)) B),E.te,s.trans v (by simp) (by simp)⟩
 ·refine(aM (oE ((dg rfl c rfl rfl).trans (Oa c)))).trans (fG (dg rfl c rfl (qC ((dg (fD rfl c zd rfl) d rfl (DF rfl)).trans (f.trans (by rw[G])))) |>.trans e))
 ·rw[F,zg];exact w
 ·rw[u,ue,DN];exact a
theorem TE.fr{S:Pf}(f:Fr O O' S)(hs:∀(m:Nat)(ds:List D),O[m]?=some (.ml ds)->m∉S):∀{T:List D}{a:List Du},TE O T a->TE O' T a
 | [],[],_=>True.intro
 |d::T,x::a,h=>by
  obtain⟨⟨n,e,b⟩,g,c⟩:=h;exact⟨⟨n,e,f n _ (hs n _ b) b⟩,g,TE.fr f hs c⟩
 | [],_::_,h=>h.elim
 | _::_,[],h=>h.elim
theorem TE.app(b:TE O T' Ds'):∀{T:List D}{a:List Du},TE O T a->TE O (T++T') (a++Ds')
 | [],[],_=>b
 |d::T,x::a,h=>⟨h.1,h.2.1,TE.app b h.2.2⟩
 | [],_::_,h=>h.elim
 | _::_,[],h=>h.elim
theorem TE.len:∀{T:List D}{a:List Du},TE O T a->T.length=a.length
 | [],[],_=>rfl
 |d::T,x::a,h=>by simp[TE.len h.2.2]
 | [],_::_,h=>h.elim
 | _::_,[],h=>h.elim
def G1.te{a:List Du}(p:G1 O e a):TE O e a:=by
 rcases p with⟨rfl,rfl⟩ | ⟨n,r,w,rfl,rfl,d,c,b,_⟩
 ·exact True.intro
 ·exact⟨⟨n,rfl,d⟩,⟨b,c⟩,True.intro⟩
def NW(O:au)(M:Int)(d a mk n:Nat)(b:Pf):Prop:=O[d]?=some (mj b a mk true)/\(∃p,O[a]?=some (RO [] p))/\∃c,GI O mk n M c ⟨[],false,46,46⟩
def ET(M:Int)(t:Pf):List Du:=if(rn M s0 (sI t++hI t)).1.row≠[]\/FM bB (rn M s0 (sI t++hI t)).2=bW then[((rn M s0 (sI t++hI t)).1.row,bB)] else[]
def t4{M:Int} (v:1<=M/\M<=200)(h:IZ O M hd rd mk n nm t)(F:ES t):
  ∃I X T,Bt [.ob hd] O=.ok (.lst T) I/\NW I M hd rd mk X nm/\Nw O n X/\TE I T ((rn M (rn M s0 (sI t)).1 (hI t)).2++ET M t)/\Fr O I [hd,rd,mk,n]:=by
 obtain⟨o,p,k⟩:=h;have S:=si F;have f:=Nq p S.H;have w:Fr O (O.set rd (RO [] t.length)) [rd]:=Fr.set;have B:mk≠rd:=aG "Maker" "Reader" k.1 p;have W:n≠rd:=aG "" "Reader" k.2 p;have E:=w _ _ (bF (aG "Hand" "Reader" o p)) o
 have Y :=λx g=>S.i x (zQ _ g)
 have hl:=S.l;have hl2:=F.len;rw[zg] at hl;obtain⟨O2,n2,T,e,a,b,Q,G⟩:=N8 v Y (by omega) E (k.fr w (bF B) (bF W)) (mq v.1 F);have r:=G rd _ (lr (Ne.symm B) (Ne.symm W)) (gs p);have j:=G hd _ (lr (aG "Hand" "Maker" o k.1) (aG "Hand" "" o k.2)) E;have ok:=iU v.1 _ s0 (jM v.1) S.i;have R:=ue
 have A:FC M (rn M (rn M s0 (sI t)).1 (hI t)).1:=by
  have:=ok.1
  rw[R] at this;exact this
 obtain⟨P,d,q,m3,U,K⟩:=tT a.mk A.ok (by have:=A.len;omega);obtain⟨n3,N,b3⟩:=K.nw a m3;have u:=K.fr a;have c:=u hd _ (lr (aG "Hand" "Maker" j a.1) (aG "Hand" "" j a.2)) j;have C:=u rd _ (lr (aG "Reader" "Maker" r a.1) (aG "Reader" "" r a.2)) r;have J:Fr P (P.set hd (mj nm rd mk true)) [hd]:=Fr.set;have tl:=Q.len;have dl:=(iU v.1 (hI t) _ (mq v.1 F) Y).2
 have tl2:d.length<=1:=by
  rw[U.te.len]
  split<;>simp
 have te:TE P (T++d) ((rn M (rn M s0 (sI t)).1 (hI t)).2++ET M t):=by
  unfold ET;rw[R,DN];exact TE.app U.te (Q.keeps K).te
 refine⟨_,n3,T++d,cH ?_,⟨gs c,⟨_,J _ _ (bF (aG "Reader" "Hand" C c)) C⟩,_,N.fr J (bF (aG "Maker" "Hand" N.1 c)) (bF (aG "" "Hand" N.2 c))⟩,λm ds Z L=>?_,TE.fr J (λm ds k=>bF (aG "" "Hand" k c)) te,?_⟩
 ·refine(aM (oE ((dg rfl o rfl rfl).trans (Oa o)))).trans ?_;refine(aM (ir (dg (n:=hd) rfl o rfl (qC ((dg (n:=rd) (fD (n:=hd) rfl o zd rfl) p rfl rfl).trans (f.trans (by rw[S.h])))) |>.trans e))).trans ?_;refine(aM (N6 (ds:=T) ((dg (n:=mk) (fD (n:=hd) rfl j zd rfl) a.1 rfl rfl).trans q) rfl (by omega))).trans ?_;exact(aM (iQ (n:=hd) rfl rfl c zd (by show 4<900;decide))).trans rfl
 ·have z:=w m _ (bF (aG "" "Reader" L p)) L;exact b3 m ds (Ne.symm (b m ds Z z)) (G m _ (lr (aG "" "Maker" L k.1) Z) z)
 ·intro m x g s;simp only[zk,List.not_mem_nil,or_false,not_or] at g;have z:=G m x (lr g.2.2.1 g.2.2.2) (w m x (bF g.2.1) s)
  by_cases y:m=n2
  ·have e':=a.2;rw[<-y,z] at e';rw[zF e'] at s;exact absurd y.symm (b m _ g.2.2.2 (w m _ (bF g.2.1) s))
  ·exact J m x (bF g.1) (u m x (lr g.2.2.1 y) z)
def mz(h:m ρ O=.ok (.int i) O):D2 m ρ O=.ok (some i) O:=by rw[fT,h,aR,fR]
def wZ(d:a ρ O=.ok (.str i) O)(c:b ρ O=.ok (.str j) O):az (ak DA a b) ρ O=.ok (decide (i=j)) O:=cg (aW d c rfl)
def mD(c:m ρ O=.ok (.str t) O)(e:a ρ O=.ok x O)(d:b ρ O=.ok y O)(f:t.length<=1000000):D5 m a b ρ O=.ok (.str (cI t x y)) O:=by
 rw[gc,c,aR,e,aR,d,aR,pR,Jj,if_pos (by omega),iH]
theorem Oc{α:Type}(f:α->Int):∀l:List α,gJ (l.map λx=>.int (f x))=some (l.map f)
 | []=>rfl
 |x::l=>by
  show(gJ _).map _=_;rw[Oc];rfl
structure IJ(n:Pf):Prop where
 l1:1<=n.length
 l8:n.length<=8
 ok:∀c∈n,97<=c/\c<=122
structure D1(N:List Pf):Prop where
 ok:∀n∈N,IJ n
 ne:N≠[]
 l4:N.length<=4
 nd:N.Nodup
def wd:List Pf->Nat
 | []=>0
 |n::r=>max n.length (wd r)
theorem qK:∀{N:List Pf}{n:Pf},n∈N->n.length<=wd N
 |m::r,n,h=>by
  rcases zk.mp h with rfl | h
  ·exact Nat.le_max_left _ _
  ·exact zJ (qK h) (Nat.le_max_right _ _)
theorem uf:∀{N:List Pf},N≠[]->∃n∈N,n.length=wd N
 | [m],_=>⟨m,by simp[wd]⟩
 |m::k::r,_=>by
  obtain⟨n,b,a⟩:=uf (N:=k::r) (by simp);unfold wd
  rcases Nat.le_total _ _ with h | h
  ·exact⟨n,zl _ b,by rw[Nat.max_eq_right h];exact a⟩
  ·exact⟨m,zd,by rw[Nat.max_eq_left h]⟩
def Ki(h:D1 N):wd N<=8:=by
 obtain⟨n,b,a⟩:=uf h.ne;rw[<-a];exact(h.ok n b).l8
def DL(N:List Pf):D:=.lst (N.map D.str)
def Od(h:D1 N) (c:ρ[i]?=some (some (DL N))):aO m6 (aj (bJ (bj (aa i)) 1 [] (C9 0) bD (aO aX (aj (aa 0) ao))) ao) ρ O=.ok (.int (wd N:Int)) O:=by
 have z:=gO (g:=C9 0) (t:=bD) (m:=aO _ (aj (aa 0) _)) (λρ=>∃a,ρ=[a]) D.str _ N _ O [] ⟨none,rfl⟩ (by
  rintro y hy ρ ⟨a,rfl⟩
  exact⟨_,rfl,⟨_,rfl⟩,rfl,lY rfl (by have:=(h.ok y hy).l8;omega)⟩)
 rw[zO] at z;have k:=h.l4
 have j:bJ (bj (aa i)) 1 [] (C9 0) bD (aO aX (aj (aa 0) ao)) ρ O=.ok (.lst (N.map λn=>.int n.length)) O:=by
  rw[sH,nG,d9,c];show(if(N.map _).length<=1000000 then _ else _)=_;rw[if_pos (by rw[ze];omega),show eY 1 [] ρ=[none] from rfl,z,aR]
 refine iM (DF j) ?_;show m6 [.lst _]=_;unfold m6
 dsimp
 rw[Oc]
 dsimp
 obtain⟨n,f,e⟩:=uf h.ne
 rw[yP (zv.mpr ⟨n,f,by rw[e]⟩) λa d=>by
  obtain⟨m,b,rfl⟩:=zv.mp d
  have:=qK b
  omega]
 rfl
def GN(w:Nat)(n:Pf):Pf:=n++List.replicate (w - n.length) 32
def w5(h:n∈N):(GN (wd N) n).length=wd N:=by
 have:=qK h
 unfold GN;rw[zg,List.length_replicate];omega
def kW:Pf:=[119,104,111,108,101]
def Oe(h:D1 N) (b:n∈N)(W:Pf)(O:au):wz [.str n,DL N,.str W] O=.ok (.str (GN (wd N) n++[if W=kW then 124 else 62])) O:=by
 have f:=Ki h;have g:=w5 b;show bx _=_;unfold La;rw[gw (bc (Od h rfl))];refine congrArg bx (a₂:=.rt _ O) ?_
 have e:vB (mG (aa 0)) (aa 3) [some (.str n),some (DL N),some (.str W),some (.int (wd N))] O=.ok (.str (GN (wd N) n)) O:=by
  unfold vB;rw[show mG _ _ O=.ok _ O from rfl,aR,show aa 3 _ O=.ok _ O from rfl,aR]
  dsimp
  rw[if_pos (by omega)];rfl
 have d:EW (az (ak DA (aa 2) (kS [119,104,111,108,101]))) (kS [124]) (kS [62]) [some (.str n),some (DL N),some (.str W),some (.int (wd N))] O=.ok (.str [if W=kW then 124 else 62]) O:=by
  rw[jE,wZ (j:=kW) rfl rfl]
  by_cases a:W=kW
  ·rw[zw a,if_pos a];rfl
  ·rw[zo a,if_neg a];rfl
 rw[fc];have c:=iw e d (by rw[zR];omega);exact congrArg _ c
def Lc{a:Nat}(c:m ρ O=.ok (.str t) O)(b:q ρ O=.ok (.int (a:Int)) O)(d:t.length<=1000):D5 m EA (D2 q) ρ O=.ok (.str (t.take a)) O:=(mD c rfl (mz b) (by omega)).trans (by rw[tW])
def N9{a:Nat}(c:m ρ O=.ok (.str t) O)(b:q ρ O=.ok (.int (a:Int)) O)(d:t.length<=1000):D5 m (D2 q) EA ρ O=.ok (.str (t.drop a)) O:=(mD c (mz b) rfl (by omega)).trans (by rw[tX])
def EF(d:m ρ O=.ok (.int (a:Int)) O)(c:q ρ O=.ok (.int (b:Int)) O):ak aD m q ρ O=.ok (.int ((a+b:Nat):Int)) O:=(nZ d c).trans (by rfl)
def DR(h:T ρ O=.ok true O)(a:m ρ O=.ok d O):aF T (aB m) aK ρ O=.rt d O:=(dh h).trans (by rw[fc,a];rfl)
def ug(h:T ρ O=.ok false O):aF T x aK ρ O=.nx ρ O:=cO h
def t5(b:m ρ O=.ok (.int i) O)(a:q ρ O=.ok (.int j) O)(h:i<j):az (ak E7 m q) ρ O=.ok true O:=(wI b a).trans (by rw[zw h])
def t6(b:m ρ O=.ok (.int i) O)(a:q ρ O=.ok (.int j) O)(h:¬i<j):az (ak E7 m q) ρ O=.ok false O:=(wI b a).trans (by rw[zo h])
def Og(b:m ρ O=.ok (.int i) O)(a:q ρ O=.ok (.int j) O)(h:i=j):az (ak DA m q) ρ O=.ok true O:=(kZ b a).trans (by rw[zw h])
def IX(b:m ρ O=.ok (.int i) O)(a:q ρ O=.ok (.int j) O)(h:¬i=j):az (ak DA m q) ρ O=.ok false O:=(kZ b a).trans (by rw[zo h])
def eG(b:m ρ O=.ok (.int c) O)(a:q ρ O=.ok (.int k) O)(e:0<=k)(d:k<=1000000):aC c7 (aj m (aj q ao)) ρ O=.ok (.int (EM c k)) O:=(bA (DJ b (DF a))).trans (tr c k e d O)
def mF(v:Int){n:Nat}(h:0<n):∃a:Nat,v % (n:Int)=(a:Int)/\a<n:=⟨(v % n).toNat,by have:=jv v (b:=n);have:=jw v (b:=n);omega⟩
def IG:Pf:=[97,98,99,100,101,102,103,104,105,106,107,108,109,110,111,112,113,114,115,116,117,118,119,120,121,122]
def t9:∀i:Nat,i<26->IG[i]?=some (97+i):=by decide
def Oh{i:Nat}(h:i<26):C7 (.str IG) (.int (i:Int))=some (.str [97+i]):=by
 rw[Jt,pY,t9 i h];rfl
def lb(c:Int)(k:Nat):Nat:=97+(EM c (20+(0+(k:Int))) % 26).toNat
theorem Oi{α:Type}(f:α->Nat):∀l:List α,(l.map λi=>[f i]).flatten=l.map f
 | []=>rfl
 |x::l=>by rw[zh,List.flatten_cons,Oi];rfl
theorem Oj{α:Type}(f:α->Nat):∀l:List α,((l.map λi=>[f i]).map List.length).sum=l.length
 | []=>rfl
 |x::l=>by rw[zh,zh,List.sum_cons,Oj];simp;omega
def Ol{ρc:aN} (c:eY 1 d ρ=none::ρc)(b:∀k:Nat,k<8->e (some (.int (0+(k:Int)))::ρc) O=.ok (.str [g k]) O):mZ (bJ (gK (aj (kI 8) ao)) 1 d (C9 0) bD e) ρ O=.ok (.str ((List.range 8).map g)) O:=by
 have z:=gO (g:=C9 0) (t:=bD) (λρ=>∃a,ρ=a::ρc) _ _ _ _ O [] ⟨none,rfl⟩ (by
  rintro k hk ρ ⟨a,rfl⟩
  exact⟨_,rfl,⟨_,rfl⟩,rfl,b k (List.mem_range.mp hk)⟩)
 rw[zO] at z;rw[g9,sH,c];show((cN _ _ _ ((List.range 8).map _) _ O []).bind _).bind _=_;rw[z,aR,aR,km,gX,Jy,gT,Oj,if_pos (by decide),Oi]
def ub(c:Int):((List.range 8).map (lb c)).length=8/\∀x∈(List.range 8).map (lb c),97<=x/\x<=122:=by
 refine⟨by simp,λx a=>?_⟩;obtain⟨k,_,rfl⟩:=zv.mp a;unfold lb;omega
def nA(a:Pf)(k:Nat):Pf:=a.take (8 - k)
def nB(b:Pf)(a s f k:Nat):Pf:=b.take a++[97+(f+k)]++(b.drop (a+1)).take (s - (a+1))
def Om(i:1<=m)(h:m<=4) (c:∀k,k<m->IJ (g k))(d:∀j k,j<k->k<m->g j≠g k):D1 ((List.range m).map g):=by
 refine⟨λn e=>?_,?_,by simpa,?_⟩
 ·obtain⟨k,f,rfl⟩:=zv.mp e;exact c k (List.mem_range.mp f)
 ·intro z
  have:=congrArg List.length z
  simp at this
  omega
 ·show List.Pairwise _ _;rw[List.pairwise_map];exact List.Pairwise.imp_of_mem (λ{a b} ha hb hab=>d a b hab (List.mem_range.mp hb)) List.pairwise_lt_range
def D1.rev(h:D1 N):D1 N.reverse:=⟨λn c=>h.ok n (List.mem_reverse.mp c),by simpa using h.ne,by simpa using h.l4,List.pairwise_reverse.mpr (List.Pairwise.imp (λ{a b} z=>Ne.symm z) h.nd)⟩
def ui(g:i.length=8)(c:∀x∈i,97<=x/\x<=122) (f:1<=m)(d:m<=4):D1 ((List.range m).map (nA i)):=Om f d (λk b=>⟨by unfold nA;rw[List.length_take];omega,by unfold nA;rw[List.length_take];omega,λx a=>c x (List.mem_of_mem_take a)⟩) λj k h b e=>by
 have:=congrArg List.length e
 unfold nA at this;rw[List.length_take,List.length_take] at this;omega
def uj(l:q.length=8)(g:∀x∈q,97<=x/\x<=122) (p:a<s)(hs:s<=8)(o:f<20) (d:1<=m)(i:m<=4):D1 ((List.range m).map (nB q a s f)):=by
 have len:∀k,(nB q a s f k).length=s:=λk=>by
  unfold nB;rw[zg,zg,List.length_take,List.length_take,List.length_drop,zR];omega
 have c:∀k,(nB q a s f k)[a]?=some _:=λk=>by
  unfold nB;rw[zz,zN (by rw[List.length_take];omega),List.length_take,show a - min a _=0 by omega];rfl
 refine Om d i (λk h=>⟨by rw[len];omega,by rw[len];omega,λx b=>?_⟩) λj k n h e=>?_
 ·rcases zy.mp b with b | b
  ·rcases zy.mp b with b | b
   ·exact g x (List.mem_of_mem_take b)
   ·rw[zj.mp b];omega
  ·exact g x (jy (List.mem_of_mem_take b))
 ·have d:=c j;rw[e,c] at d
  have:=zF d
  omega
def DW(f:m<=4) {ρc:aN} (d:ρ[1]?=some (some (.int (m:Int))))(c:eY 1 h ρ=none::ρc)(b:∀k,k<m->e (some (.int (0+(k:Int)))::ρc) O=.ok (.str (g k)) O):bJ (gK (aj (aa 1) ao)) 1 h (C9 0) bD e ρ O=.ok (DL ((List.range m).map g)) O:=by
 have z:=gO (g:=C9 0) (t:=bD) (λρ=>∃a,ρ=a::ρc) _ _ _ _ O [] ⟨none,rfl⟩ (by
  rintro k hk ρ ⟨a,rfl⟩
  exact⟨_,rfl,⟨_,rfl⟩,rfl,b k (List.mem_range.mp hk)⟩)
 rw[sH,Lw (by rw[d9,d]) (by omega),aR,if_pos (by unfold gW;rw[ze,List.length_range];omega),c];show(cN _ _ _ ((List.range m).map _) _ O []).bind _=_;rw[z];unfold DL;rw[zL];rfl
def Oo{T:L2.M Bool} (h:T [a,b,c,d,some (DL N),e,f,g] O=.ok bb O):aF T (vf 4) aK [a,b,c,d,some (DL N),e,f,g] O=.nx [a,b,c,d,some (DL (if bb then N.reverse else N)),e,f,g] O:=by
 cases bb with
 |true=>exact(dh h).trans (by unfold DL;rw[if_pos rfl,List.map_reverse];rfl)
 |false=>exact cO h
def uk(c:Int){m:Nat}(e:1<=m)(d:m<=4)(O:au):∃N,D1 N/\Cy [.int c,.int (m:Int)] O=.ok (DL N) O:=by
 obtain⟨o,r⟩:=ub c
 have l:∀{N:List Pf}(g:Bool),D1 N->D1 (if g then N.reverse else N):=λg h=>by
  cases g with
  |true=>exact h.rev
  |false=>exact h
 suffices h:∃N,D1 N/\Cw [some (.int c),some (.int (m:Int)),none,none,none,none,none,none] O=.rt (DL N) O by
  obtain⟨N,e,A⟩:=h;exact⟨N,e,congrArg bx A⟩
 unfold Cw
 have u:∀k:Nat,k<8->ak C7 (aa 2) (ak bK (aC c7 (aj (aa 1) (aj (ak aD (kI 20) (aa 0)) ao))) (kI 26)) [some (.int (0+(k:Int))),some (.int c),some (.str IG)] O=.ok (.str [lb c k]) O:=λk p=>aW (x:=.str IG) rfl (dj (eG rfl (nZ rfl rfl) (by omega) (by omega)) rfl (by decide)) (by
  rw[pR,lM,show EM c (20+(0+(k:Int))) % 26=((EM c (20+(0+(k:Int))) % 26).toNat:Int) by omega,Oh (by omega)]
  rfl)
 have v:∀k:Nat,k<m->D5 (aa 1) EA (D2 (ak gH (kI 8) (aa 0))) [some (.int (0+(k:Int))),some (.str ((List.range 8).map (lb c)))] O=.ok (.str (nA ((List.range 8).map (lb c)) k)) O:=λk p=>Lc (a:=8 - k) rfl ((CQ rfl rfl).trans (by rw[show(8:Int) - (0+(k:Int))=((8 - k:Nat):Int) by omega])) (by omega)
 by_cases q:EM c 28 % 3>0
 ·obtain⟨s,hs,C⟩:=mF (EM c 29) (n:=8) (by omega);obtain⟨a,z,B⟩:=mF (EM c 30) (n:=1+s) (by omega);obtain⟨f,w,i⟩:=mF (EM c 31) (n:=20) (by omega);refine⟨_,l (decide (EM c 32 % 2=0)) (uj o r (s:=1+s) B (by omega) i e d),(gw (bc rfl)).trans ((gw (bc (Ol (ρc:=[some (.int c),some (.str IG)]) rfl u))).trans ((gw (bc (DW d (ρc:=[some (.str ((List.range 8).map (lb c)))]) rfl rfl v))).trans ((gw ((dh (cg (aW (dj (eG rfl rfl (by decide) (by decide)) rfl (by decide)) (y:=.int 0) rfl (show HE (.int (EM c 28 % 3)) (.int 0)=some (.bl true) from congrArg (λx=>some (D.bl x)) (zw q))))).trans ((gw (bc (EF (a:=1) rfl ((dj (eG rfl rfl (by decide) (by decide)) rfl (by decide)).trans (congrArg (λx=>C8.ok (D.int x) O) hs))))).trans ((gw (bc ((dj (eG rfl rfl (by decide) (by decide)) rfl (by omega)).trans (congrArg (λx=>C8.ok (D.int x) O) z)))).trans ((gw (bc ((dj (eG rfl rfl (by decide) (by decide)) rfl (by decide)).trans (congrArg (λx=>C8.ok (D.int x) O) w)))).trans (bc (DW d rfl rfl λk p=>?_))))))).trans ((gw (Oo (kZ (dj (eG rfl rfl (by decide) (by decide)) rfl (by decide)) rfl))).trans rfl))))⟩
  have j:=mD (m:=aa 2) (b:=D2 (aa 3)) (ρ:=[some (.int (0+(k:Int))),some (.str IG),some (.str ((List.range 8).map (lb c))),some (.int ((1+s:Nat):Int)),some (.int (a:Int)),some (.int (f:Int))]) (O:=O) (t:=(List.range 8).map (lb c)) (x:=some ((a+1:Nat):Int)) (y:=some ((1+s:Nat):Int)) rfl (mz (m:=ak aD (aa 4) (kI 1)) (EF (b:=1) rfl rfl)) rfl (by omega);rw[Dv] at j;exact iw (iw (Lc rfl rfl (by omega)) (aW (x:=.str IG) (y:=.int ((f+k:Nat):Int)) rfl ((nZ rfl rfl).trans (by rw[show(f:Int)+(0+(k:Int))=((f+k:Nat):Int) by omega])) (Oh (by omega))) (by rw[List.length_take,zR];omega)) j (by rw[zg,List.length_take,List.length_take,List.length_drop,zR];omega)
 ·exact⟨_,l (decide (EM c 32 % 2=0)) (ui o r e d),(gw (bc rfl)).trans ((gw (bc (Ol (ρc:=[some (.int c),some (.str IG)]) rfl u))).trans ((gw (bc (DW d (ρc:=[some (.str ((List.range 8).map (lb c)))]) rfl rfl v))).trans ((gw (ug (cg (aW (dj (eG rfl rfl (by decide) (by decide)) rfl (by decide)) (y:=.int 0) rfl (show HE (.int (EM c 28 % 3)) (.int 0)=some (.bl false) from congrArg (λx=>some (D.bl x)) (zo q)))))).trans ((gw (Oo (kZ (dj (eG rfl rfl (by decide) (by decide)) rfl (by decide)) rfl))).trans rfl))))⟩
def IJ.asc(h:IJ n):DH n=true:=by
 unfold DH;rw[jm];intro c a
 have:=h.ok c a
 exact zw (by omega)
def uu(h:IJ n)(O:au):Be [.str n] O=.ok (.bl true) O:=by
 have l:=h.l1;have k:=h.l8
 have f:cN (C9 0) bD (gG Fm Fm (kS [97]) (aa 0) (kS [122])) (cL n) [none] O []=.ok (n.map λ_=>.bl true) O:=by
  have z:=gO (g:=C9 0) (t:=bD) (m:=gG Fm Fm (kS [97]) (aa 0) (kS [122])) (λρ=>∃a,ρ=[a]) (λc =>D.str [c]) (λ_=>.bl true) n _ O [] ⟨none,rfl⟩ (by
   rintro c hc ρ ⟨a,rfl⟩;have q:=h.ok c hc;refine⟨_,rfl,⟨_,rfl⟩,rfl,?_⟩
   simp[q])
  exact z
 have i:∀n:Pf,j6 (n.map λ_=>D.bl true)=some (n.map λ_=>true):=λn=>by
  induction n with
  |nil=>rfl
  |cons c n e=>simp only[zh,j6,e];rfl
 have j:uN [.lst (n.map λ_=>.bl true)]=some (.bl true):=by
  show(j6 _).map _=_;rw[i];simp
 show bx (Bd [some _] O)=_;unfold Bd;have d:(n.length:Int)<=8/\(1:Int)<=n.length:=⟨by omega,by omega⟩
 have hs:(cL n).length<=1000000:=by unfold cL;rw[ze];omega
 have b:n.length<=1000000:=by omega
 simp only[cZ,jG,nD,kE,Ji,d9,jf,aR,pR,fN,Jh,gS,nu,nC,pU,Bool.not_true,rY,Bool.false_eq_true,if_false,Am,iJ,fc,fI,Jc,JE,Al,jF,lN,lM,zh,zY,Ju,if_pos b,iH,gE,zw d.1,zw d.2,fE,if_true,sH,nG,Jp h.asc,An,if_pos hs,show eY 1 [] _=[none] from rfl,f,km,j];rfl
theorem Oq{α:Type}{g:MG}{t:L2.M Bool}{m:L2.M D}(d:aN->Prop)(f h:α->D)(a:List α)(O:au)(n:Nat)(e:O[n]?=some (.ml (a.map f)))
  (hs:∀x∈a,∀ρ,d ρ->∃b,g (f x) ρ=some b/\d b/\t b O=.ok true O/\m b O=.ok (h x) O):∀(k:Nat)(ρ:aN)(c:List D),k<=a.length->d ρ->jD n a.length g t m k ρ O c=.ok (c++(a.drop (a.length - k)).map h) O
 | 0,ρ,c,_,_=>by
  unfold jD;rw[e];dsimp only;rw[if_pos (ze _),Nat.sub_zero,List.drop_length,zY,zE]
 |k+1,ρ,c,hk,hp=>by
  have i:a.length - (k+1)<a.length:=by omega
  unfold jD;rw[e]
  dsimp
  rw[zH,zB]
  dsimp
  obtain⟨b,p,j,o,l⟩:=hs _ (jh _) ρ hp;rw[p]
  dsimp
  rw[o]
  dsimp
  rw[l]
  dsimp
  rw[Oq d f h a O n e hs k _ _ (by omega) j,zz,List.drop_eq_getElem_cons i,show a.length - (k+1)+1=a.length - k by omega];rfl
def Ot{α:Type}{mi:L2.M D}{own:Nat} (c:aN->Prop)(f h:α->D)(b:List α) (i:mi ρ O=.ok (.ob n) O)(d:O[n]?=some (.ml (b.map f)))(e:b.length<=1000000)(j:c (eY own k ρ))
  (hs:∀x∈b,∀ρ,c ρ->∃a,g (f x) ρ=some a/\c a/\t a O=.ok true O/\m a O=.ok (h x) O):pI mi own k g t m ρ O=.ok (.lst (b.map h)) O:=by
 unfold pI;rw[i,aR];dsimp only;rw[d];dsimp only;rw[if_pos (by rw[ze];exact e),ze,Oq c f h b O n d hs _ _ [] (zc _) j,aR,Nat.sub_self,List.drop_zero,zO]
def Of:Pf:=[32,33,34,35,36]++List.range' 38 88
structure Tok(l:Pf):Prop where
 len:l.length<=9
 ok:∀c∈l,(32<=c/\c<=125)\/c=10\/c=9
def Ou:Pf:=[97,98,99,100,101,102,103,104,46]
def TR(r:MS)(ρ:aN):Prop:=∃l,Tok l/\∀O,r ρ O=.rt (.str l) O
def Tk(m:L2.M D)(ρ:aN):Prop:=∃l,Tok l/\∀O,m ρ O=.ok (.str l) O
def IP(h:∀O,s ρ O=.nx b O)(a:TR r b):TR (aq s r) ρ:=let ⟨l,k,e⟩:=a;⟨l,k,λO=>(sq (h O)).trans (e O)⟩
def NY(h:Tk e ρ):TR (aB e) ρ:=let ⟨l,k,e⟩:=h;⟨l,k,λO=>fG (e O)⟩
def Iq(h:∀O,T ρ O=.ok b O)(c:Tk e ρ)(a:TR r ρ):TR (aq (aF T (aB e) aK) r) ρ:=by
 cases b with
 |true=>exact let ⟨l,k,e⟩:=c;⟨l,k,λO=>by rw[cZ,dh (h O),fG (e O)];rfl⟩
 |false=>exact IP (λO=>cO (h O)) a
def MO(f:∀O,m ρ O=.ok (.str l) O)(b:∀O,aa 3 ρ O=.ok (.int v) O)(d:∀c∈l,32<=c/\c<=125)(h:(l.length:Int)=n)(a:0<n)(g:n<=1000000):Tk (ak C7 m (ak bK (aa 3) (mC (.int n)))) ρ :=
 let ⟨c,hc,e⟩:=Nl (by omega) h a
 ⟨[c],⟨by simp,by simp[d c hc]⟩,λO=>aW (f O) (dj (b O) rfl a) e⟩
def LN(o:32<=c/\c<=125)(W:List Pf)(i:∀O,m ρ O=.ok (.lst (W.map λw=>.str (w.map λx=>if x=0 then c else x))) O)(f:∀O,aa 3 ρ O=.ok (.int v) O)(g:∀w∈W,w.length<=9/\∀x∈w,x=0\/(32<=x/\x<=125)\/x=10\/x=9)(h:(W.length:Int)=n)(a:0<n):Tk (ak C7 m (ak bK (aa 3) (mC (.int n)))) ρ:=by
 obtain⟨d,j,e⟩:=OI (l:=W.map λw=>.str _) (by rw[ze];exact h) a;obtain⟨w,b,rfl⟩:=zv.mp j;refine⟨w.map _,⟨by rw[ze];exact(g w b).1,λy k=>?_⟩,λO=>aW (i O) (dj (f O) rfl a) e⟩
 grind
def DX(n:Int):∃l,Tok l/\∀O,wG [.int n] O=.ok (.str l) O:=by
 obtain⟨c,f,g⟩:=Nl (l:=Ou) (v:=EM n 2) (n:=9) (by decide) (by decide) (by decide)
 have a:32<=c/\c<=125:=by
  have:∀c∈Ou,32<=c/\c<=125:=by decide
  exact this c f
 have b:∀{k:Int}{ρ:aN}{O:au},0<=k->k<=1000000->aC c7 (aj (aa 0) (aj (mC (.int k)) ao)) (some (.int n)::ρ) O=.ok (.int (EM n k)) O:=eG rfl rfl
 suffices h:TR Cm _ from let ⟨l,k,e⟩:=h;⟨l,k,λO=>congrArg bx (e O)⟩
 unfold Cm;refine IP (λO=>bc (aW rfl (dj (b (by decide) (by decide)) rfl (by decide)) g)) (IP (λO=>bc (dj (b (by decide) (by decide)) rfl (by decide))) (IP (λO=>bc (b (by decide) (by decide))) (IP (λO=>bc rfl) (IP (λO=>bc rfl) (IP (λO=>nY rfl rfl (by simp)) ?_)))));refine Iq (λ_=>rfl) (MO (l:=Of) (λ_=>rfl) (λ_=>rfl) (by decide) rfl (by decide) (by decide)) (Iq (λ_=>rfl) (MO (λ_=>rfl) (λ_=>rfl) (by decide) rfl (by decide) (by decide)) (Iq (λ_=>rfl) ⟨[91,c,93],⟨by simp,by simp[a]⟩,λ_=>rfl⟩ (Iq (λ_=>rfl) ⟨[91,47,c,93],⟨by simp,by simp[a]⟩,λ_=>rfl⟩ (Iq (λ_=>rfl) (LN a [[91,93],[91,91],[91,93,93],[91,91,93]] (λ_=>rfl) (λ_=>rfl) (by decide) rfl (by decide)) (Iq (λ_=>rfl) (LN a [[10],[9],[10]] (λ_=>rfl) (λ_=>rfl) (by decide) rfl (by decide)) (Iq (λ_=>rfl) ⟨[c],⟨by simp,by simp[a]⟩,λ_=>rfl⟩ (Iq (λ_=>rfl) ?_ (NY (LN a [[91],[91,47],[91,0],[91,47,0],[91,105,93],[91,47,93],[91,0,0,93],[91,65,93],[91,47,105,93],[91,91,91],[91,47,91],[91,0,91],[91,47,0,47,93],[91,47,47,0,93],[91,0,10],[93],[47],[91,47,0,9,93]] (λ_=>rfl) (λ_=>rfl) (by decide) rfl (by decide))))))))))
 refine⟨cI _ none (some (2+EM n 1 % 8)),⟨?_,λx d=>?_⟩,λO=>mD rfl rfl (mz (nZ rfl (dj rfl rfl (by decide)))) (by decide)⟩
 ·unfold cI;simp;omega
 ·have q:∀x∈[111,117,116,119,101,97,118,101,115],32<=x/\x<=125:=by decide
  exact .inl (q x (jy (List.mem_of_mem_take d)))
def tok(n:Int):Pf:=(DX n).choose
def uS(n:Int):Tok (tok n):=(DX n).choose_spec.1
def u7(n:Int)(O:au):wG [.int n] O=.ok (.str (tok n)) O:=(DX n).choose_spec.2 O
structure Cl(Q:Pf->Nat×Nat->List L3->Prop):Prop where
 Sb:∀{c:Nat}{r:Pf}{p:Nat×Nat}{acc:List L3},D3 c=true->Q r (c,p.2) acc->Q (91::c::93::r) p acc
 gr:∀{c:Nat}{r:Pf}{p:Nat×Nat}{acc:List L3},D3 c=true->Q r (p.1,c) acc->Q (91::47::c::93::r) p acc
 pl:∀{r:Pf}{p:Nat×Nat}{acc:List L3},Q r (46,46) acc->Q (91::93::r) p acc
 sg:∀{c:Nat}{r:Pf}{p:Nat×Nat}{acc:List L3},32<=c/\c<=125->acc.length<1000->Q r p (acc++[(c,if c=32 then 46 else p.1,p.2)])->Q (HM c++r) p acc
def Cl.mi_(C:Cl Q) (h:D3 c=true)(k:Q t (c,j) a):Q (mi p c++t) (p.1,j) a:=by
 unfold mi
 by_cases e:p.1=c
 ·rw[if_pos e,e];exact k
 ·rw[if_neg e];exact C.Sb h k
def Cl.mg_(C:Cl Q) (h:D3 c=true)(k:Q t (j,c) a):Q (IC p c++t) (j,p.2) a:=by
 unfold IC
 by_cases e:p.2=c
 ·rw[if_pos e,e];exact k
 ·rw[if_neg e];exact C.gr h k
def Cl.mb_(C:Cl Q)(b:D3 c.1=true)(a:D3 c.2=true)(k:Q t c d):Q (mb p c++t) p d:=by
 unfold mb
 split
 ·unfold ID;rw[zz];exact C.pl (C.mi_ b (C.mg_ a k))
 ·unfold HP;rw[zz];exact C.mi_ b (C.mg_ a k)
structure MD(l:List L3)(cs:Pf):Prop where
 lo:∀x∈l,(32<=x.1/\x.1<=125)/\(x.1=32->x.2.1=46)
 cc:∀c∈cs,D3 c=true
 li:∀x∈l,D3 x.2.1=true
 lg:∀x∈l,D3 x.2.2=true
def va(h:MD l g) (b:n∈EV l g a):D3 n.2.1=true/\D3 n.2.2=true:=by
 unfold EV at b;split at b
 ·rw[zj.mp b];exact⟨rfl,rfl⟩
 ·split at b
  ·rename_i x e;have d:=zP e;split at b
   ·obtain⟨c,f,rfl⟩:=zv.mp b;exact⟨h.cc c f,h.lg x d⟩
   ·rw[zj.mp b];exact⟨h.li x d,h.lg x d⟩
  ·cases b
def Ov(h:D3 c=true):c<128:=by
 have :=zT h
 have q:∀c∈[97,98,99,100,101,102,103,104,46],c<128:=by decide
 exact q c this
theorem DY(C:Cl Q){l:List L3}{o:Pf}(h:MD l o){r:Pf}{y:Tb}:∀(f:List M3)(a:Nat)(n:Nd)(acc:List L3),a<=l.length+1->n∈EV l o a->Wy y (GB l o) (qG l) n f->acc.length+(l.length - a)<1000->Q r (46,46) (acc++l.drop a)->Q (HL f++r) n.2 acc
 | [],a,n,acc,ha,hn,w,_,q=>by
  have z:=lZ hn;have t :=zT w
  have e:a=l.length+1:=by omega
  unfold EV at hn;rw[if_pos (.inr e)] at hn;rw[List.drop_eq_nil_of_le (by omega),zE] at q;rw[zj.mp hn];exact q
 |m::f,a,n,acc,ha,hn,⟨t,hm,_,w⟩,hac,q=>by
  have z:=lZ hn;have p :=of_decide_eq_false t;unfold GB at hm;rw[if_neg p] at hm;obtain⟨b,d,rfl⟩:=zv.mp hm
  have s:n.1.toNat=a:=by omega
  rw[s] at d;obtain⟨v,u⟩:=va h d;rw[Dn];rw[s,zz,zz]
  by_cases k:a<l.length
  ·have j :=zB k;have i:=h.lo _ (jh k);rw[List.drop_eq_getElem_cons k] at q
   generalize l[a]=x at j i q
   have A:(x.1,if x.1=32 then 46 else b.2.1,b.2.2)=x:=by
    unfold EV at d;rw[if_neg (by omega),Nat.add_sub_cancel,j] at d
    dsimp at d
    by_cases g:x.1=32
    ·rw[if_pos g] at d;obtain⟨c,_,rfl⟩:=zv.mp d;rw[if_pos g,<-i.2 g]
    ·rw[if_neg g] at d;rw[zj.mp d,if_neg g]
   rw[show sg l a=HM _ by unfold sg;rw[j]];refine C.mb_ v u (C.sg i.1 (by omega) ?_);rw[A];exact DY C h f _ b _ (by omega) d w (by rw[zg];show _+1+_<_;omega) (by rw[zz];exact q)
  ·rw[show sg l a=[] by unfold sg;rw[jr (by omega)]];refine C.mb_ v u (DY C h f _ b acc (by omega) d w (by omega) ?_);rw[List.drop_eq_nil_of_le (by omega)] at q ⊢;exact q
def OG(h:∀d∈L,∃t,d=.str t/\∀c∈t,c<1114112):okE (.lst L)=true:=qb (n:=5) (by decide) λd b=>by
 obtain⟨t,rfl,a⟩:=h d b;exact⟨rfl,nH a,by show PyData.depth (.str _)<=5;simp[PyData.depth]⟩
def Ox(h:okE (.lst L)=true):EK (.lst L) (.lst L)=some (.bl false):=by
 rw[Ao,h,Aq h];rfl
def I0(t:Pf):Prop:=∀x∈t,32<=x/\x<=125
def vb:Cl λt _ _=>I0 t:=by
 have q:∀{l r},I0 l->I0 r->I0 _:=λh k x a=>(zy.mp a).elim (h x) (k x)
 have b:∀{c},D3 c=true->32<=c/\c<=125:=λh=>by
  have z:∀c∈[97,98,99,100,101,102,103,104,46],32<=c/\c<=125:=by decide
  exact z _ (zT h)
 refine⟨λ{c r p acc} h k=>?_,λ{c r p acc} h k=>?_,λ{r p acc} k=>?_,λ{c r p acc} h _ k=>?_⟩
 ·have:=b h
  exact q (l:=[91,c,93]) (by intro x a;simp at a;omega) k
 ·have:=b h
  exact q (l:=[91,47,c,93]) (by intro x a;simp at a;omega) k
 ·exact q (l:=[91,93]) (by intro x a;simp at a;omega) k
 ·exact q (by intro x a;unfold HM at a;split at a<;>simp at a<;>omega) k
def vc(h:D3 c=true):one 91 (c::93::r)=(fB,[c],2):=by
 have q:=nM h;show(if c=93 then _ else if c=91 then _ else if D3 c=true then il c _ else _)=_;rw[if_neg q.2.1,if_neg q.1,if_pos h];rfl
def ve(h:D3 c=true):one 91 (47::c::93::r)=(fZ,[c],3):=by
 show(if D3 c=true then gn c _ else _)=_;rw[if_pos h];rfl
def vi{Q:Pf->Nat×Nat->List L3->Prop}(st:∀{c:Nat}{r k v:Pf}{n:Nat}{p f:Nat×Nat}{b a:List L3},one c r=(k,v,n)->(k=fB/\(∃d,v=[d]/\f=(d,p.2))/\a=b\/k=fZ/\(∃d,v=[d]/\f=(p.1,d))/\a=b\/k=jH/\v=[]/\f=(46,46)/\a=b\/k=bM/\(∃d,v=[d]/\a=b++[(d,if d=32 then 46 else p.1,p.2)])/\f=p/\b.length<1000)->Q (r.drop n) f a->Q (c::r) p b):Cl Q:=by
 refine⟨λh k=>st (vc h) (.inl ⟨rfl,⟨_,rfl,rfl⟩,rfl⟩) k,λh k=>st (ve h) (.inr (.inl ⟨rfl,⟨_,rfl,rfl⟩,rfl⟩)) k,λk=>st rfl (.inr (.inr (.inl ⟨rfl,rfl,rfl,rfl⟩))) k,λ{c r p b} h hl k=>?_⟩;unfold HM
 by_cases e:c=91
 ·rw[if_pos e];rw[e] at k;exact st rfl (.inr (.inr (.inr ⟨rfl,⟨91,rfl,rfl⟩,rfl,hl⟩))) k
 ·rw[if_neg e];exact st (show one c r=(bM,[c],0) by unfold one;rw[if_neg (by omega),if_neg (by omega),if_neg e]) (.inr (.inr (.inr ⟨rfl,⟨c,rfl,rfl⟩,rfl,hl⟩))) k
def eU(T:Pf)(a:List L3)(p:Nat×Nat)(c b:Option D):aN:=[some (.str T),some (.tup [st p.1,st p.2]),some (.lst (a.map dK)),c,b]
def RU(T:Pf)(O:au)(F:List L3)(t:Pf)(p:Nat×Nat)(a:List L3):Prop:=∀(k:Int)(e d:Option D),∃c b,bw (C9 3) NF (items k t) (eU T a p e d) O=.nx (eU T F (46,46) c b) O
abbrev w6:Pf:=[97,98,99,100,101,102,103,104,46]
def l3(x:LT):L3:=(x.1,if x.1=32 then 46 else x.2.1,x.2.2.1)
def Oz(c i:Nat)(O:au):v8 [.str [c],.str [i]] O=.ok (.str [if c=32 then 46 else i]) O:=by
 show bx _=_;unfold KQ;rw[fc,jE,wZ rfl rfl,aR]
 by_cases h:c=32
 ·subst h;rfl
 ·rw[if_neg (by simp[h]),if_neg h];rfl
def vj{r:List LT}(h:O[n]?=some (.ml (r.map dL)))(b:r.length<=1000):Bu [.ob n] O=.ok (.lst ((r.map l3).map dK)) O:=by
 refine cH ?_;rw[zL];refine fG (Ot (λρ=>∃a,ρ=[a]) dL _ r rfl h (by omega) ⟨_,rfl⟩ ?_);rintro x hx ρ ⟨a,rfl⟩;exact⟨_,rfl,⟨_,rfl⟩,rfl,tQ (DJ rfl (DJ ((bA (DJ rfl (DF rfl))).trans (Oz _ _ _)) (DF rfl))) (by simp)⟩
def vk(h:D3 c=true):c∈w6:=zT h
def dH:Kp O (O++[x]):=λj y h=>by grind
def Kp.trans{O O1 c:au}(a:Kp O O1)(b:Kp O1 c):Kp O c:=λj y h=>b j y (a j y h)
def dI(M:Int)(t:Pf):List Du:=(rn M s0 (sI t++hI t)).2++ET M t
def uh(k:Kp O b)(h:O.length<=n):Kp O (b.set n y):=λj x a=>by
 rw[zi (Nat.ne_of_gt (zM (zx.mp a).1 h))];exact k j x a
def vn(h:m ρ O=.ok (.lst l) a):bj m ρ O=.ok l a:=by rw[nG,h];rfl
def vr:Cl (RU T O F):=vi λ{c r k v n p p' acc acc'} h1 hs q i o3 o4=>by
 obtain⟨b,a,e⟩:=q (i+(n+1)) (some (item i k v)) (some (.str k));refine⟨b,a,?_⟩;rw[qd,h1];refine(dF rfl ?_).trans e
 rcases hs with⟨rfl,⟨d,rfl,rfl⟩,rfl⟩ | ⟨rfl,⟨d,rfl,rfl⟩,rfl⟩ | ⟨rfl,rfl,rfl,rfl⟩ | ⟨rfl,⟨d,rfl,rfl⟩,rfl,f⟩
 ·rfl
 ·rfl
 ·rfl
 ·refine .trans (aM (bc rfl)) (.trans (aM (iR rfl)) (.trans (aM (.trans (dh rfl) (nY (tQ (DJ rfl (DJ ((bA (DJ rfl (DF rfl))).trans (Oz _ _ _)) (DF rfl))) (by show 3<=_;decide)) rfl (by rw[ze];omega)))) ?_));unfold eU;rw[zI];rfl
def vt(t:Pf)(b:ES t)(O:au):∃e,Bf [.str t] O=.ok (.lst (items 0 t)) e/\Kp O e:=by
 obtain⟨H,q⟩:=JP t;have d:=Np (Dt O) bL.h0 t b;have a:((O++[RO [] 0]).set _ (RO (aP [] 0 t).2 (0+t.length)))[O.length]?=some _:=gs (Dt O);have c:=Nq a H;have h:=b.len;have g:=Nk t bL.h0 0;have f:=H.len;have z':=Int.zero_add;rw[z'] at d c a;rw[q];refine⟨((O++[RO [] 0]).set _ _).set _ _,cH (.trans (aM (ir (Nr _ O))) (.trans (aM (ir ((dg rfl (Dt O) rfl (DF rfl)).trans d))) (fG (wJ rfl ((dg rfl a rfl rfl).trans c) ?_)))),uh (uh dH (zc _)) (zc _)⟩;exact if_pos (by rw[Dr];omega)
def vv:DA (.tup [.str [46],.str [46]]) (.tup [.str [46],.str [46]])=some (.bl true):=by
 have a:okE (.tup [.str [46],.str [46]])=true:=by decide +kernel
 show(if(okE _&&okE _)=true then _ else _)=_;rw[a,Bool.and_self,if_pos rfl,Aq a]
def vw(b:ES T) (h:∀O,RU T O F T (46,46) [])(O:au):∃a,qt [.str T] O=.ok (.lst (F.map dK)) a/\Kp O a:=by
 obtain⟨a,c,k⟩:=vt T b O;obtain⟨f,d,e⟩:=h a 0 _ _;refine⟨a,cH ?_,k⟩;refine .trans (aM (bc rfl)) (.trans (aM (bc rfl)) (.trans (aM (dW (vn ((bA (DF rfl)).trans c)) e)) (fG ?_)));rw[jE,cg (aW rfl rfl vv)];rfl
structure SH(r:List LT)(T:Pf):Prop where
 l:T.length<=2300
 c:I0 T
 s:∀O,∃O',wu [.lst ((r.map l3).map dK)] O=.ok (.str T) O'/\Kp O O'
 q:∀{Q:Pf->Nat×Nat->List L3->Prop},Cl Q->∀{t:Pf}{acc:List L3},acc.length<=500->Q t (46,46) (acc++r.map l3)->Q (T++t) (46,46) acc
def vx(o:r.length<=200)(e:∀x∈r,FK x):∃T,SH r T:=by
 have f:∀x∈r.map l3,x.2.1∈w6:=λx a=>by
  obtain⟨y,b,rfl⟩:=zv.mp a;show(if y.1=32 then 46 else y.2.1)∈w6
  split
  ·decide
  ·exact vk (e y b).2.1
 have l:=qc _ 1 _ (λx=>.inl ⟨rfl,rfl⟩) (by rw[ze];omega) (by decide) (by decide) f
 have k:∀c∈46::(r.map l3).map λx=>x.2.1,c∈w6:=λc a=>by
  rcases zk.mp a with rfl | a
  ·decide
  ·obtain⟨y,b,rfl⟩:=zv.mp a;exact f y b
 have n:(r.map l3).length<=200:=by rw[ze];omega
 have K:LG (r.map l3) _:=⟨by omega,zJ (p4 k) (by decide),LK _,λz=>by
  have:=(CW (46::(r.map l3).map λx=>x.2.1) 46).mpr zd
  rw[z] at this
  cases this⟩
 obtain⟨d,m,g,hs⟩:=sh K l
 have R:MD _ _:=⟨λx a=>by
  obtain⟨y,b,rfl⟩:=zv.mp a
  exact⟨(e y b).1,λz=>if_pos z⟩,λc h=>zw (k c ((CW _ c).mp h)),λx a=>zw (f x a),λx a=>by
  obtain⟨y,b,rfl⟩:=zv.mp a
  exact(e y b).2.2⟩
 have i:=(wV 0 K.ll K.cl K.cn).f0;have len:=Do d 0 _ (Nat.zero_le _) i g
 have j:=λ{Q}(C:Cl Q){t}{acc} (p:acc.length<=500) (q:Q t _ _)=>DY C R d 0 _ acc (Nat.zero_le _) i g (by omega) q
 refine⟨HL d,by omega,?_,hs,j⟩
 have:=j vb (t:=[]) (acc:=[]) (by decide) λ_ z=>nomatch z
 rwa [zE] at this
open Classical in
def IQ(r:List LT):Pf:=if h:∃T,SH r T then h.choose else[]
def xf(b:r.length<=200)(a:∀x∈r,FK x):SH r (IQ r):=by
 unfold IQ;rw[dif_pos];exact(vx b a).choose_spec
def I0.okt{T:Pf}(h:I0 T)(a:T.length<=5000):ES T:=⟨a,λc b=>.inl (h c b)⟩
def iV(k:Nat):Pf:=(Nat.toDigits 10 k).map Char.toNat
def Ea(h:k<=100000):(iV k).length<=6:=by
 unfold iV;rw[ze];exact(Nat.length_toDigits_le_iff (by decide) (by decide)).mpr (by omega)
def vy(a:m ρ O=.ok (.int (k:Int)) O)(b:k<=100000):aO pH (aj m ao) ρ O=.ok (.str (iV k)) O:=iM (DF a) (by
 show pH [.int _]=_;unfold pH
 dsimp
 rw[if_pos (by omega)]
 rfl)
def KE(b:Bool)(k:Nat):Pf:=if b=true then iV k++[32] else[]
def EG(N:List Pf)(a W:Pf):Pf:=GN (wd N) a++[if W=kW then 124 else 62]
def qL(b:Bool)(N:List Pf)(a:Pf)(k:Nat)(x:Du):Pf:=(KE b k++EG N a x.2)++IQ x.1
def iy(b:Bool)(N:List Pf)(a:Pf):Nat->List Du->List D
 | _,[]=>[]
 |k,x::l=>.str (qL b N a (k+1) x)::iy b N a (k+1) l
theorem OD:∀{k:Nat}{l:List Du},(iy b N nm k l).length=l.length
 | _,[]=>rfl
 |k,x::l=>congrArg _ OD
def OJ(h:k<=100000):(KE b k).length<=7:=by
 have:=Ea h
 unfold KE
 split
 ·rw[zg];show _+1<=_;omega
 ·exact Nat.zero_le _
def Pa(b:Bool){k:Nat}(h:k<=100000)(O:au):wy [.int (k:Int),.bl b] O=.ok (.str (KE b k)) O:=by
 have:=Ea h
 refine cH ?_;refine fG ?_;rw[jE,show bI _ _ O=.ok b O from rfl,aR]
 cases b with
 |true=>exact(if_pos rfl).trans (iw (vy rfl h) rfl (by show _+1<=_;omega))
 |false=>exact if_neg zA
def qM(b:Bool)(N:List Pf)(a hs:Nat):Ob:=.ins "Roll" [("names",DL N),("numbered",.bl b),("rows",.ob a),("hands",.ob hs)]
theorem Pb{N:List Pf}(v:D1 N){c:Pf}(u:c∈N){r C hs:Nat}{R:List D}(A:Option D):∀(T:List D)(i:List Du)(O:au)(a:List D)(p o:Option D),O[r]?=some (qM b N C hs)->O[C]?=some (.ml R)->TE O T i->(∀x∈i,x.1.length<=200)->R.length+a.length+T.length<100000 ->
  ∃q g f,bw (C9 4) NJ T [some (.ob r),some (.str c),A,some (.lst a),p,o] O=.nx [some (.ob r),some (.str c),A,some (.lst (a++iy b N c (R.length+a.length) i)),g,f] q/\Kp O q
 | [],[],O,a,p,o,_,_,_,_,_=>⟨O,p,o,by rw[iy,zE];rfl,λ_ _ h=>h⟩
 |d::T,x::i,O,a,p,o,hr,hR,⟨⟨n,e,H⟩,hk,ht⟩,hb,ha=>by
  subst e;rw[zu] at ha;have I:=hb x zd;have B:=xf I hk.1;obtain⟨J,F,j⟩:=B.s O;have w:=Ki v;have L:=w5 u;have P:=OJ (b:=b) (k:=R.length+a.length+1)
  have hl':(EG N c x.2).length<=9:=by unfold EG;rw[zg];show _+1<=_;omega
  have K:=B.l;obtain⟨q,g,f,E,G⟩:=Pb v u A T i J (a++[.str _]) _ _ (j _ _ hr) (j _ _ hR) (TE.fr j.fr (λ_ _ _ z=>nomatch z) ht) (λy t=>hb y (zl _ t)) (by rw[zg,zR];omega);rw[zg,zz] at E;refine⟨q,g,f,(dF rfl ?_).trans E,λm y t=>G m y (j m y t)⟩;refine(aM (bc ((bA (DJ (EF (b:=1) (EF (iM (DF (fD rfl hr zd rfl)) (by show aX [aZ O _]=_;rw[oA hR];rfl)) (jK rfl)) rfl) (DF (fD rfl hr zd rfl)))).trans (Pa b (by omega) O)))).trans ?_;rw[vN,wJ (iw rfl ((bA (DJ rfl (DJ (fD rfl hr zd rfl) (DF rfl)))).trans (Oe v u _ O)) (by show _+(EG N c _).length<=_;omega)) ((bA (DF ((bA (DF rfl)).trans (vj H (by omega))))).trans F) (by exact if_pos (by rw[zg];show _+(EG N c x.2).length+_<=_;omega))]
  exact vO rfl (by omega)
 | [],_::_,_,_,_,_,_,_,h,_,_=>h.elim
 | _::_,[],_,_,_,_,_,_,h,_,_=>h.elim
def vE(d:g ρ O=.ok (.ob n) O)(c:O[n]?=some (.ml f))(b:m ρ O=.ok (.lst e) O)(a:f.length+e.length<=1000000):rN g m ρ O=.nx ρ (O.set n (.ml (f++e))):=by
 unfold rN;simp_all
def Pg(k:D1 N) (i:r∈N) (e:O[s]?=some (qM b N p hs))(f:O[p]?=some (.ml R))(d:TE O T q)(j:∀x∈q,x.1.length<=200)(o:R.length+T.length<100000):
  ∃c,wB [.ob s,.str r,.lst T] O=.ok (.lst (iy b N r R.length q)) c/\c[p]?=some (.ml (R++iy b N r R.length q))/\Fr O c [p]:=by
 obtain⟨l,n,m,h,a⟩:=Pb k i _ T q O [] _ _ e f d j (by omega);have g:=a _ _ f;refine⟨l.set p _,cH ?_,gs g,a.fr.trans Fr.set (by simp) (by simp)⟩;refine(aM (bc rfl)).trans ((aM (dW (cU rfl) h)).trans ?_);exact(aM (vE (fD rfl (a _ _ e) zd rfl) g rfl (by rw[OD,<-d.len];omega))).trans rfl
def oF(p:DC×D)(r:List (DC×D))(k:DC):cA (p::r) k=if p.1=k then some p.2 else cA r k:=by
 unfold cA
 grind
theorem Eb:∀a:List (DC×D),(a.any λp=>decide (p.1=k))=false->cA a k=none
 | [],_=>rfl
 |p::r,h=>by
  rw[List.any_cons,Bool.or_eq_false_iff] at h;rw[oF,if_neg (of_decide_eq_false h.1)];exact Eb r h.2
theorem Ec:∀a:List (DC×D),(a.any λp=>decide (p.1=k))=true->cA (a.map λp=>if p.1=k then(p.1,d) else p) k'=if k'=k then some d else cA a k'
 | [],h=>absurd h zA
 |p::r,h=>by
  rw[zh,oF,oF]
  by_cases c:p.1=k
  ·rw[if_pos c]
   by_cases b:k'=k
   ·grind
   ·have e:¬p.1=k':=λz=>b (by rw[<-z,c])
    rw[if_neg b,if_neg e,if_neg e]
    cases hr:r.any _ with
    |true=>rw[Ec r hr,if_neg b]
    |false =>
     rw[show r.map _=r from ?_];exact(ja λq f=>if_neg (of_decide_eq_false (List.any_eq_false.mp hr q f |> λz=>by simpa using z))).trans (List.map_id _)
  ·rw[List.any_cons,zo c] at h;rw[Ec r h]
   grind
theorem Ph:∀a:List (DC×D),cA (a++[(k,d)]) k'=match cA a k' with
  |some x=>some x
  |none=>if k'=k then some d else none
 | []=>by
  rw[zO,oF]
  by_cases h:k'=k
  ·rw[if_pos h.symm];exact(if_pos h).symm
  grind
 |p::r=>by
  rw[List.cons_append,oF,oF,Ph]
  grind
def Ed(a:List (DC×D))(k b:DC)(d:D):cA (cT a k d) b=if b=k then some d else cA a b:=by
 unfold cT
 cases h:a.any _ with
 |true=>rw[if_pos rfl,Ec _ h]
 |false =>
  rw[if_neg zA,Ph]
  by_cases c:b=k
  ·subst c;rw[Eb _ h]
  grind
def Pj(a:List (DC×D))(k:DC)(d:D):(cT a k d).length<=a.length+1:=by
 unfold cT
 grind
def mH(c:i ρ O=.ok (.ob n) O)(a:h ρ O=.ok y O)(e:EE y=some k)(f:O[n]?=some (.dk g))(b:cA g k=some d):fV i h ρ O=.ok d O:=by
 unfold fV;simp_all
def um(b:l ρ O=.ok d h)(c:m ρ h=.ok (.ob n) h)(a:j ρ h=.ok y h)(f:EE y=some k)(g:h[n]?=some (.dk i))(e:i.length<1000000):kh m j l ρ O=.nx ρ (h.set n (.dk (cT i k d))):=by
 unfold kh
 grind
structure Ix where
 hd:Nat
 rd:Nat
 mr:Nat
 n:Nat
def D4(n:Pf):DC:=.inr (S n)
def oG(h:D4 a=D4 b):a=b:=by
 have:=congrArg (λx =>x.cps.toList) (Sum.inr.inj h)
 simpa [iB]
def HX(O:au)(M:Int)(i:Ix)(a t:Pf)(c:Bool):Prop:=if c=true then NW O M i.hd i.rd i.mr i.n a else IZ O M i.hd i.rd i.mr i.n a t
def HX.ex{M:Int} (h:HX O M i f t c):(∃c,O[i.hd]?=some (mj f i.rd i.mr c))/\(∃h p,O[i.rd]?=some (RO h p))/\∃e s,GI O i.mr i.n M e s:=by
 unfold HX at h;split at h
 ·obtain⟨a,⟨p,b⟩,e,d⟩:=h;exact⟨⟨_,a⟩,⟨_,p,b⟩,e,_,d⟩
 ·exact⟨⟨_,h.1⟩,⟨_,_,h.2.1⟩,_,_,h.2.2⟩
def HX.fr{M:Int} {S:Pf}(h:HX O M i o t c)(f:Fr O q S)(l:i.hd∉S)(k:i.rd∉S)(j:i.mr∉S)(g:i.n∉S):HX q M i o t c:=by
 unfold HX at *
 by_cases e:c=true
 ·rw[if_pos e] at h ⊢;obtain⟨a,⟨p,b⟩,m,d⟩:=h;exact⟨f _ _ l a,⟨p,f _ _ k b⟩,m,d.fr f j g⟩
 ·rw[if_neg e] at h ⊢;exact⟨f _ _ l h.1,f _ _ k h.2.1,h.2.2.fr f j g⟩
def up{α:Type}(f:Pf->α)(a:Pf)(v:α):Pf->α:=λn=>if n=a then v else f n
def bR:up f a v a=v:=if_pos rfl
def bU{f:Pf->α} {v:α}(h:n≠a):up f a v n=f n:=if_neg h
structure RW(O:au)(M:Int)(N G:List Pf)(ro rl hs:Nat)(q:Pf->Ix)(tt:Pf->Pf)(cl:Pf->Bool)(bn:Bool)(K:List D):Prop where
 r:O[ro]?=some (qM bn G rl hs)
 rows:O[rl]?=some (.ml K)
 hs:∃kv,O[hs]?=some (.dk kv)/\kv.length<=N.length/\∀n∈N,cA kv (D4 n)=some (.ob (q n).hd)
 hx:∀n∈N,HX O M (q n) n (tt n) (cl n)
 ne:∀a∈N,∀b∈N,a≠b->(q a).hd≠(q b).hd/\(q a).rd≠(q b).rd/\(q a).mr≠(q b).mr/\(q a).n≠(q b).n
 nl:∀a∈N,(q a).n≠rl
def RW.kp{M:Int} {hs:Nat} (w:RW O M N G h i hs q g j l K)(k:Kp O m):RW m M N G h i hs q g j l K:=by
 have a:=w.rows;obtain⟨b,e,f,d⟩:=w.hs;exact⟨k _ _ w.r,k _ _ a,⟨b,k _ _ e,f,d⟩,λn c=>(w.hx n c).fr k.fr (λz=>nomatch z) (λz=>nomatch z) (λz=>nomatch z) (λz=>nomatch z),w.ne,w.nl⟩
def RW.turn{O H:au}{M:Int}{N G:List Pf}{R k hs:Nat}{X:Bool}{K Y:List D}{q:Pf->Ix}{P:Pf->Pf}{U:Pf->Bool}(w:RW O M N G R k hs q P U X K){a t':Pf}(v:a∈N){W:Bool}{J:Nat}
  (hx:HX H M ⟨(q a).hd,(q a).rd,(q a).mr,J⟩ a t' W) (I:Nw O (q a).n J) (hl:H[k]?=some (.ml Y)) (f:Fr O H [(q a).hd,(q a).rd,(q a).mr,(q a).n,k]):
  RW H M N G R k hs (up q a ⟨(q a).hd,(q a).rd,(q a).mr,J⟩) (up P a t') (up U a W) X Y:=by
 have l:=w.rows;obtain⟨Z,p,d0,d2⟩:=w.hs;obtain⟨⟨c0,t⟩,⟨h0,p0,s⟩,lw0,s0',h⟩:=(w.hx a v).ex
 have c:∀{m:Nat},m≠(q a).hd->m≠(q a).rd->m≠(q a).mr->m≠(q a).n->m≠k->m∉[(q a).hd,(q a).rd,(q a).mr,(q a).n,k]:=λT h2 h3 h4 h5 z=>by
  simp only[zk,List.not_mem_nil,or_false] at z
  rcases z with z | z | z | z | z
  ·exact T z
  ·exact h2 z
  ·exact h3 z
  ·exact h4 z
  ·exact h5 z
 refine⟨f _ _ (c (aG "Roll" "Hand" w.r t) (aG "Roll" "Reader" w.r s) (aG "Roll" "Maker" w.r h.1) (aG "Roll" "" w.r h.2) (aG "Roll" "" w.r l)) w.r,hl,⟨Z,f _ _ (c (aG "" "Hand" p t) (aG "" "Reader" p s) (aG "" "Maker" p h.1) (fH p h.2 (λz=>nomatch z)) (fH p l (λz=>nomatch z))) p,d0,λn o=>?_⟩,λn o=>?_,λb u d L C=>?_,λb u=>?_⟩
 ·rw[d2 n o]
  by_cases e:n=a
  ·rw[e,bR]
  ·rw[bU e]
 ·by_cases e:n=a
  ·rw[e,bR,bR,bR];exact hx
  ·rw[bU e,bU e,bU e];obtain⟨⟨c1,F⟩,⟨T,p1,E⟩,B,Q,g⟩:=(w.hx n o).ex;obtain⟨A,i,y,x⟩:=w.ne n o a v e;exact(w.hx n o).fr f (c A (aG "Hand" "Reader" F s) (aG "Hand" "Maker" F h.1) (aG "Hand" "" F h.2) (aG "Hand" "" F l)) (c (aG "Reader" "Hand" E t) i (aG "Reader" "Maker" E h.1) (aG "Reader" "" E h.2) (aG "Reader" "" E l))
    (c (aG "Maker" "Hand" g.1 t) (aG "Maker" "Reader" g.1 s) y (aG "Maker" "" g.1 h.2) (aG "Maker" "" g.1 l)) (c (aG "" "Hand" g.2 t) (aG "" "Reader" g.2 s) (aG "" "Maker" g.2 h.1) x (w.nl n o))
 ·by_cases e:b=a
  ·have i:d≠a:=λz=>C (by rw[e,z])
   obtain⟨_,_,B,Q,g⟩:=(w.hx d L).ex;obtain⟨A,j,y,x⟩:=w.ne a v d L (λz=>i z.symm);rw[e,bR,bU i];exact⟨A,j,y,I _ _ (Ne.symm x) g.2⟩
  ·by_cases i:d=a
   ·obtain⟨_,_,B,Q,g⟩:=(w.hx b u).ex;obtain⟨A,j,y,x⟩:=w.ne b u a v e;rw[i,bR,bU e];exact⟨A,j,y,Ne.symm (I _ _ x g.2)⟩
   ·rw[bU e,bU i];exact w.ne b u d L C
 ·by_cases e:b=a
  ·rw[e,bR];exact I _ _ (Ne.symm (w.nl a v)) l
  ·rw[bU e];exact w.nl b u
def vF(h:O[hs]?=some (.dk c))(b:cA c (D4 a)=some (.ob d)):tD [.ob hs,.str a] O=.ok (.ob d) O:=by
 have k:vd true (mG (aa 1)) (mG (aa 0)) [some (.ob hs),some (.str a)] O=.ok (.bl false) O:=by
  show(match EE _,O[hs]? with
   |some k,some (.dk _)=>C8.ok _ O
   | _,_=>.no)=_
  rw[h];show C8.ok (D.bl (true != (cA c (D4 a)).isSome)) O=_;rw[b];rfl
 refine cH ?_;exact(aM (iR (Kk (Dc (De (t:="str") rfl rfl)) (cg k)))).trans (fG (mH rfl rfl rfl h b))
def Pk(h:a ρ O=.ok x O)(b:r ρ O=.ok c d):aj a r ρ O=.ok (x::c) d:=Lx h b
section
variable {O:au}{M:Int}{N G:List Pf}{ro rl hs:Nat}{bn:Bool}{K:List D}{q:Pf->Ix}{tt:Pf->Pf}{cl:Pf->Bool}{a:Pf}
def RW.opn{M:Int}{hs:Nat}(w:RW O M N G ro rl hs q tt cl bn K)(c:a∈N)(b:cl a=false):IZ O M (q a).hd (q a).rd (q a).mr (q a).n a (tt a):=by
 have:=w.hx a c
 rw[b] at this;exact this
def RW.nm{M:Int}{hs:Nat}(w:RW O M N G ro rl hs q tt cl bn K)(d:a∈N) (c:m ρ O=.ok (.str a) O) (b:i ρ O=.ok (.ob ro) O):aC tD (aj (bz Pe "hands" i) (aj m ao)) ρ O=.ok (.ob (q a).hd) O:=by
 obtain⟨g,f,h,e⟩:=w.hs;exact(bA (DJ (fD b w.r zd rfl) (DF c))).trans (vF f (e a d))
def RW.feed(w:RW O M N G ro rl hs q tt cl bn K)(k:1<=M/\M<=200)(R:D1 G)(P:a∈G)(g:a∈N)(Q:cl a=false){p:Pf}(y:ES (tt a))(L:ES p)(d:ES (tt a++p))(Y:K.length+((tt a).length+p.length)<=90000):
  ∃B o,qw [.ob ro,.str a,.str p] O=.ok (.lst (iy bn G a K.length (rn M (rn M s0 (sI (tt a))).1 (jI (tt a) p)).2)) B/\RW B M N G ro rl hs (up q a ⟨(q a).hd,(q a).rd,(q a).mr,o⟩) (up tt a (tt a++p)) (up cl a false) bn (K++iy bn G a K.length (rn M (rn M s0 (sI (tt a))).1 (jI (tt a) p)).2)/\Nw O (q a).n o/\Fr O B [(q a).hd,(q a).rd,(q a).mr,(q a).n,rl]:=by
 have h:=w.opn g Q;have s:=w.rows;obtain⟨O1,o,T,W,e,v,E,A⟩:=t2 k h y L d
 have c:∀{m:Nat},m≠(q a).rd->m≠(q a).mr->m≠(q a).n->m∉[(q a).rd,(q a).mr,(q a).n]:=λh1 h2 Z z=>by simp at z;omega
 have J:=A ro _ (c (aG "Roll" "Reader" w.r h.2.1) (aG "Roll" "Maker" w.r h.2.2.1) (aG "Roll" "" w.r h.2.2.2)) w.r;have l3:=A rl _ (c (aG "" "Reader" s h.2.1) (aG "" "Maker" s h.2.2.1) (Ne.symm (w.nl a g))) s;have H:=si d;have j:=(DQ d).1
 have F:∀x∈jI (tt a) p,EC x.2.1 x.2.2:=λx hx=>H.i x (jk _ (by rw[j];exact zQ _ hx))
 have dl:=(iU k.1 (jI (tt a) p) _ (mq k.1 y) F).2
 have X:(jI (tt a) p).length<=(tt a).length+p.length:=by
  have l:=H.l;rw[zg,j,zg,zg] at l;omega
 obtain⟨I,U,C,u⟩:=Pg R P J l3 E (λx hx=>by have:=wY k.1 _ _ (mq k.1 y) F x hx;omega) (by rw[E.len];omega);have f:Fr O I [(q a).hd,(q a).rd,(q a).mr,(q a).n,rl]:=A.trans u (by simp) (by simp)
 have t:∀{m:Nat},m≠rl->m∉[rl]:=λh=>bF h
 refine⟨I,o,cH (b:=Cg) (ρ:=[some (.ob ro),some (.str a),some (.str p)]) ?_,w.turn g ?_ v C f,v,f⟩
 ·unfold Cg;exact fG ((dg (n:=ro) rfl w.r rfl (Pk rfl (qC ((dg (n:=(q a).hd) (w.nm g rfl rfl) h.1 rfl (DF (x:=.str p) rfl)).trans W)))).trans U)
 ·unfold HX;rw[if_neg zA];exact⟨u _ _ (t (aG "Hand" "" e.1 l3)) e.1,u _ _ (t (aG "Reader" "" e.2.1 l3)) e.2.1,e.2.2.fr u (t (aG "Maker" "" e.2.2.1 l3)) (t (v _ _ (Ne.symm (w.nl a g)) s))⟩
end
def vS{M:Int} (h:FC M s)(k:Pf):∀x∈due M s k,gC x:=by
 intro x a;unfold due jL at a;split at a
 ·rw[zj.mp a];exact⟨h.ok,.inl rfl⟩
 ·split at a
  ·split at a
   ·rw[zj.mp a];refine⟨λy b=>?_,.inr rfl⟩;unfold bare at b;split at b
    ·cases b
    ·exact h.ok y b
   ·cases a
  ·cases a
theorem Ef{M:Int}(c:1<=M):∀(b:List FS)(s:EZ),FC M s->(∀x∈b,EC x.2.1 x.2.2)->∀x∈(rn M s b).2,gC x
 | [],s,_,_,x,a=>nomatch a
 |y::b,s,h,hi,x,a=>by
  have hx' :=a
  rcases zy.mp hx' with a | a
  ·exact vS h _ x a
  ·exact Ef c _ _ (h.QO c (hi y zd)) (λz d=>hi z (zl _ d)) x a
section
variable {O:au}{M:Int}{N G:List Pf}{ro rl hs:Nat}{bn:Bool}{K:List D}{q:Pf->Ix}{tt:Pf->Pf}{cl:Pf->Bool}{a:Pf}
def Pn{M:Int}:(ET M t).length<=1:=by
 unfold ET
 split<;>simp
def RW.close(w:RW O M N G ro rl hs q tt cl bn K)(d:1<=M/\M<=200)(W:D1 G)(R:a∈G)(j:a∈N)(U:cl a=false)(g:ES (tt a))(hK:K.length+(tt a).length<=90000):
  ∃y k,qx [.ob ro,.str a] O=.ok (.lst (iy bn G a K.length ((rn M (rn M s0 (sI (tt a))).1 (hI (tt a))).2++ET M (tt a)))) y/\RW y M N G ro rl hs (up q a ⟨(q a).hd,(q a).rd,(q a).mr,k⟩) (up tt a (tt a)) (up cl a true) bn (K++iy bn G a K.length ((rn M (rn M s0 (sI (tt a))).1 (hI (tt a))).2++ET M (tt a)))/\Nw O (q a).n k/\Fr O y [(q a).hd,(q a).rd,(q a).mr,(q a).n,rl]:=by
 have h:=w.opn j U;have e:=w.rows;obtain⟨O1,k,T,Y,J,u,F,v⟩:=t4 d h g
 have c:∀{m:Nat},m≠(q a).hd->m≠(q a).rd->m≠(q a).mr->m≠(q a).n->m∉[(q a).hd,(q a).rd,(q a).mr,(q a).n]:=λh0 h1 h2 h3 z=>by simp at z;omega
 have L:=v ro _ (c (aG "Roll" "Hand" w.r h.1) (aG "Roll" "Reader" w.r h.2.1) (aG "Roll" "Maker" w.r h.2.2.1) (aG "Roll" "" w.r h.2.2.2)) w.r;have l3:=v rl _ (c (aG "" "Hand" e h.1) (aG "" "Reader" e h.2.1) (aG "" "Maker" e h.2.2.1) (Ne.symm (w.nl a j))) e;have S:=si g
 have H:∀x∈hI (tt a),EC x.2.1 x.2.2:=λx hx=>S.i x (zQ _ hx)
 have dl:=(iU d.1 (hI (tt a)) _ (mq d.1 g) H).2;have Q:=S.l;have Z:=g.len;have ll:=Pn (M:=M) (t:=tt a);rw[zg] at Q
 obtain⟨I,X,A,s⟩:=Pg W R L l3 F (λx hx=>by
  rcases zy.mp hx with hx | hx
  ·have:=wY d.1 _ _ (mq d.1 g) H x hx
   omega
  ·have o:=(iU d.1 _ s0 (jM d.1) S.i).1.len;unfold ET at hx;split at hx
   ·rw[zj.mp hx];show(rn M s0 (sI (tt a)++hI (tt a))).1.row.length<=200;omega
   ·cases hx) (by rw[F.len,zg];omega)
 have f:Fr O I [(q a).hd,(q a).rd,(q a).mr,(q a).n,rl]:=v.trans s (by simp) (by simp);refine⟨I,k,cH (b:=Ci) (ρ:=[some (.ob ro),some (.str a)]) ?_,w.turn j ?_ u A f,u,f⟩
 ·unfold Ci;exact fG ((dg (n:=ro) rfl w.r rfl (Pk rfl (qC ((dg (n:=(q a).hd) (w.nm j rfl rfl) h.1 rfl rfl).trans Y)))).trans X)
 ·unfold HX;rw[if_pos rfl];obtain⟨E,⟨p,C⟩,P,B⟩:=J;exact⟨s _ _ (bF (aG "Hand" "" E l3)) E,⟨p,s _ _ (bF (aG "Reader" "" C l3)) C⟩,P,B.fr s (bF (aG "Maker" "" B.1 l3)) (bF (u _ _ (Ne.symm (w.nl a j)) e))⟩
def uo(b:O[ro]?=some (qM bn N rl hs))(c:O[rl]?=some (.ml L)):lW [.ob ro] O=.ok (.lst L) O :=
 cH (fG (CZ (fD rfl b zd rfl) (oA c)))
end
def Pq(e:List D)(w:Pf)(b:∀d∈e,d8 d=true/\(toP d).canLay0=true/\(toP d).depth<=5)(h:w=bB\/w=bW):d8 (.tup [.lst e,.str w])=true/\(toP (.tup [.lst e,.str w])).canLay0=true/\(toP (.tup [.lst e,.str w])).depth<=10:=by
 have g:∀c∈w,c<1114112:=by
  rcases h with rfl | rfl
  ·decide
  ·decide
 refine⟨?_,?_,?_⟩
 ·refine vL λd hd=>?_
  rcases zk.mp hd with rfl | hd
  ·exact vL λd hd=>(b d hd).1
  ·rw[zj.mp hd];rfl
 ·show PyData.canLayAll0 _=true;rw[pZ]
  refine uI λd hd=>?_
  obtain⟨f,a,rfl⟩:=zv.mp hd
  rcases zk.mp a with rfl | a
  ·show PyData.canLayAll0 _=true;rw[pZ]
   exact uI λd hd=>by
    obtain⟨f,a,rfl⟩:=zv.mp hd;exact(b f a).2.1
  ·rw[zj.mp a];exact nH g
 ·show PyData.depthAll _+1<=10;rw[pZ]
  have:=uJ (ds:=[D.lst e,.str w].map toP) λd hd=>by
   obtain⟨f,a,rfl⟩:=zv.mp hd
   rcases zk.mp a with rfl | a
   ·show PyData.depthAll _+1<=8;rw[pZ]
    have:=uJ λd hd=>by
     obtain⟨f,a,rfl⟩:=zv.mp hd;exact(b f a).2.2
    omega
   ·rw[zj.mp a];show PyData.depth (.str _)<=8;simp[PyData.depth]
  omega
def vT(r:List LT)(w:Pf)(c:∀x∈r,FK x)(b:w=bB\/w=bW):d8 (bY (r,w))=true/\(toP (bY (r,w))).canLay0=true/\(toP (bY (r,w))).depth<=10:=Pq _ w (λd e=>by
 obtain⟨x,a,rfl⟩:=zv.mp e
 exact Nz (c x a)) b
def v3(l:List (List LT×Pf))(h:∀x∈l,gC x):okE (.lst (l.map bY))=true:=qb (n:=10) (by decide) λd b=>by
 obtain⟨x,a,rfl⟩:=zv.mp b;exact vT _ _ (h x a).1 (h x a).2
def C4(d:D)(a:List D):j5 (.lst (d::a)) (.lst [])=false:=rfl
def OF:okE (.lst [])=true:=rfl
def v5(l:List LT)(h:∀x∈l,FK x):EK (.lst (l.map dL)) (.lst [])=some (.bl (decide (l≠[]))):=by
 rw[Ao,s9 l h]
 cases l with
 | nil
 |cons =>rfl
def wa(h:m ρ O=.ok d c)(a:g d ρ=some b):jY m g ρ O=.nx b c:=by rw[Ay,h,Az a]
def wb(n:Nat):He (n+1) (-1)=some n:=by
 unfold He
 grind
def wc(R:List Du)(c:Du):C7 (.lst ((R++[c]).map bY)) (.int (-1))=some (bY c):=by
 rw[vJ];unfold Qb;rw[show((R++[c]).map _).length=R.length+1 by simp,wb];simp
def we(l:List Du)(h:∀x∈l,gC x):EK (.lst (l.map bY)) (.lst [])=some (.bl (decide (l≠[]))):=by
 rw[Ao,v3 l h]
 cases l<;>rfl
def wh{M:Int}(e:1<=M/\M<=200)(m:ES t)(O:au):∃d,CJ [.str t,.int M,.bl true] O=.ok (.tup [.ob O.length,d]) (O++[.ml ((dI M t).map bY)]):=by
 have S:=si m;have v:=S.l;have f:=m.len;have j:=iU e.1 _ s0 (jM e.1) S.i;have o:=Ef e.1 _ s0 (jM e.1) S.i;refine⟨.lst ((rn M s0 (sI t++hI t)).1.row.map dL),cH (b:=CG) (ρ:=[some (.str t),some (.int M),some (.bl true),none,none,none]) ?_⟩;unfold CG;refine(aM (bc (d:=.lst ((sI t).map FG)) (aW ((bA (DF (x:=.str t) rfl)).trans (sT t f O)) rfl (by rw[S.s];rfl)))).trans ?_;refine(aM (LQ (Dd rfl) (bc (d:=.lst ((sI t++hI t).map FG)) ((bA (DF (x:=.str t) rfl)).trans (by rw[sP t f,S.a]))))).trans ?_;refine(aM (wa ((bA (DJ (x:=.lst ((sI t++hI t).map FG)) rfl (DF (x:=.int M) rfl))).trans (tJ e (sI t++hI t) S.i (by omega) O)) rfl)).trans ?_
 unfold dI ET
 generalize hP:(rn M s0 (sI t++hI t)).2=P at o j ⊢
 generalize hR:(rn M s0 (sI t++hI t)).1.row=R
 have k:∀x∈R,FK x:=by rw[<-hR];exact j.1.ok
 have r:P.length<1000000:=by have:=j.2;omega
 have at':(O++[Ob.ml (P.map bY)])[O.length]?=some (.ml (P.map bY)):=dU;have q:az (ak EK (aa 5) (bf ao)) [some (.str t),some (.int M),some (.bl true),some (.lst ((sI t++hI t).map FG)),some (.ob O.length),some (.lst (R.map dL))] (O++[.ml (P.map bY)])=.ok (decide (R≠[])) (O++[.ml (P.map bY)]):=cg (aW (x:=.lst (R.map dL)) (y:=.lst []) rfl rfl (v5 R k))
 have p:bZ (az (ak EK (aa 4) (bf ao))) (az (ak DA (ak C7 (ak C7 (aa 4) (HU lG (kI 1))) (kI 1)) (kS [109,111,114,101]))) [some (.str t),some (.int M),some (.bl true),some (.lst ((sI t++hI t).map FG)),some (.ob O.length),some (.lst (R.map dL))] (O++[.ml (P.map bY)])=.ok (decide (FM bB P=bW)) (O++[.ml (P.map bY)]):=by
  have u:az (ak EK (aa 4) (bf ao)) [some (.str t),some (.int M),some (.bl true),some (.lst ((sI t++hI t).map FG)),some (.ob O.length),some (.lst (R.map dL))] (O++[.ml (P.map bY)])=.ok (decide (P≠[])) (O++[.ml (P.map bY)]):=cg (aW (x:=.ob O.length) (y:=.lst []) rfl rfl (by rw[oA at'];exact we P o))
  rcases List.eq_nil_or_concat P with rfl | ⟨Q,x,rfl⟩
  ·exact KB u
  ·rw[List.concat_eq_append] at u at' ⊢;refine(LR (u.trans (by simp)) (b:=decide (x.2=bW)) (wZ (aW (x:=bY x) (y:=.int 1) (aW (x:=.ob O.length) (y:=.int (-1)) rfl rfl (by rw[oA at'];exact wc Q x)) rfl rfl) rfl)).trans ?_
   have:FM bB (Q++[x])=x.2:=by unfold FM;simp
   rw[this]
 have g:bZ (bI (aa 2)) (cJ (az (ak EK (aa 5) (bf ao))) (bZ (az (ak EK (aa 4) (bf ao))) (az (ak DA (ak C7 (ak C7 (aa 4) (HU lG (kI 1))) (kI 1)) (kS [109,111,114,101]))))) [some (.str t),some (.int M),some (.bl true),some (.lst ((sI t++hI t).map FG)),some (.ob O.length),some (.lst (R.map dL))] (O++[.ml (P.map bY)])=.ok (decide (R≠[]\/FM bB P=bW)) (O++[.ml (P.map bY)]):=by
  refine LR (Dd rfl) ?_;rw[pX,q,aR]
  by_cases h:R≠[]
  ·rw[zw h,if_pos rfl,zw (.inl h)]
  ·rw[zo h,if_neg zA,p];simp[h]
 by_cases c:R≠[]\/FM bB P=bW
 ·rw[if_pos c];rw[zw c] at g;refine(aM (LQ g (uc (n:=O.length) (ds:=P.map bY) (d:=.tup [.lst (R.map dL),.str bB]) rfl at' rfl (by rw[ze];exact r)))).trans ?_;rw[oh,show(P++[(R,bB)]).map bY=P.map bY++[.tup [.lst (R.map dL),.str bB]] by simp[bY]];rfl
 ·rw[if_neg c,zE];rw[zo c] at g;exact(aM (iR g)).trans rfl
def Eg{b:MS} (h:b ρ O=.nx ρ2 a):bx (b ρ O)=.ok .Pl a:=by rw[h];rfl
def Pu(h:b ρ O=.ok d O)(a:e (.ob O.length::d) (O++[.ins c []])=.ok .Pl O1):dO c e b ρ O=.ok (.ob O.length) O1:=by
 simp_all
def wm{M:Int}(x:1<=M/\M<=200)(a:Pf)(O:au) (w:ma ρ O=.ok [.str a,.int M] O):
  ∃i n,dO "Hand" Br ma ρ O=.ok (.ob O.length) i/\IZ i M O.length (O.length+1) (O.length+2) n a []/\Kp O i/\O.length<=n:=by
 have H:(O++[Ob.ins "Hand" []])[O.length]?=some (.ins "Hand" []):=dU;have C:(O++[Ob.ins "Hand" [("name",.str a)]])[O.length]?=some _:=dU
 have l:(O++[Ob.ins "Hand" [("name",.str a)]]).length=O.length+1:=by simp
 have v:Kp O (O++[Ob.ins "Hand" [("name",.str a)]]):=dH
 generalize hO1:O++[Ob.ins "Hand" [("name",.str a)]]=c at *
 have r:=λρ=>Nr ρ c
 rw[l] at r;have p:(c++[RO [] 0])[O.length]?=some _:=dH _ _ C
 have G:(c++[RO [] 0])[O.length+1]?=some (RO [] 0):=by rw[<-l];exact dU
 have B:Fr (c++[RO [] 0]) ((c++[RO [] 0]).set O.length (.ins "Hand" [("name",.str a),("reader",.ob (O.length+1))])) [O.length]:=Fr.set
 have t:((c++[RO [] 0]).set O.length (.ins "Hand" [("name",.str a),("reader",.ob (O.length+1))])).length=O.length+2:=by grind
 have u:Kp O ((c++[RO [] 0]).set O.length (.ins "Hand" [("name",.str a),("reader",.ob (O.length+1))])):=uh (v.trans dH) (zc _);have F:=gs (y:=.ins "Hand" [("name",.str a),("reader",.ob (O.length+1))]) p;have E:=B _ _ (bF (by omega)) G
 generalize hO2:(c++[RO [] 0]).set O.length _=I at *
 obtain⟨g,n,k,j,s,q,e⟩:=tw M x I [some (.ob O.length),some (.str a),some (.int M)] (λ_=>rfl);rw[t] at k j q;have o:=e _ _ F;have A:Fr g (g.set O.length (.ins "Hand" [("name",.str a),("reader",.ob (O.length+1)),("maker",.ob (O.length+2))])) [O.length]:=Fr.set;have m:=gs (y:=.ins "Hand" [("name",.str a),("reader",.ob (O.length+1)),("maker",.ob (O.length+2))]) o;have z:Fr _ ((g.set O.length (.ins "Hand" [("name",.str a),("reader",.ob (O.length+1)),("maker",.ob (O.length+2))])).set O.length (mj a (O.length+1) (O.length+2) false)) [O.length]:=Fr.set;have f:=A.trans z (U:=[O.length]) (λ_ h=>h) (λ_ h=>h)
 refine⟨_,n,Pu w (Eg (b:=Bq) (ρ2:=[some (.ob O.length),some (.str a),some (.int M)]) ?_),⟨gs m,f _ _ (bF (by omega)) (e _ _ E),f _ _ (bF (by omega)) j,f _ _ (bF (by omega)) s⟩,uh (uh (u.trans e) (zc _)) (zc _),by omega⟩;unfold Bq;refine(aM (iQ (n:=O.length) (d:=.str a) rfl rfl H zd (by decide))).trans ?_;rw[oh];show aq _ _ _ (O++[Ob.ins "Hand" [("name",.str a)]])=_;rw[hO1];refine(aM (iQ (n:=O.length) (r _) rfl p zd (by show 1<900;decide))).trans ?_;show aq _ _ _ ((c++[RO [] 0]).set O.length (.ins "Hand" [("name",.str a),("reader",.ob (O.length+1))]))=_
 rw[hO2];refine(aM (iQ (n:=O.length) k rfl o zd (by show 2<900;decide))).trans ?_;exact iQ (n:=O.length) (d:=.bl false) rfl rfl m zd (by show 3<900;decide)
def wo(b:Bool)(s:Pf)(c:List D):F0 b (.str s) (.lst c)=if(gU (.str s)&&c.all gU)=true then some (.bl (b ^^ c.any λy=>JI y (.str s))) else none:=by
 cases s with
 |nil=>rfl
 |cons a t=>cases t<;>rfl
def wt(a b:Pf):JI (.str a) (.str b)=decide (a=b):=by
 show decide _=_
 by_cases h:a=b
 ·grind
 ·rw[zo h,zo λz=>h (oG (congrArg Sum.inr z))]
def wx{l:List Pf} (h:s∉l):F0 false (.str s) (.lst (l.map D.str))=some (.bl false):=by
 rw[wo,if_pos]
 ·rw[Bool.false_xor,(List.any_eq_false.mpr λd a=>by
   obtain⟨x,b,rfl⟩:=zv.mp a;rw[wt,zo (λz=>h (by grind))]
   simp)]
 ·rw[show gU _=true from rfl,Bool.true_and,jm];intro d a;obtain⟨r,c,rfl⟩:=zv.mp a;rfl
theorem Px(h:D1 N)(O:au):∀(R P:List Pf)(d c:Option D),N=P++R->∃b a,bw (cM 2 (bh (C9 1) (bh (C9 2) cP))) NI (dz P.length (R.map D.str)) [some (DL N),d,c] O=.nx [some (DL N),b,a] O
 | [],P,d,c,_=>⟨d,c,rfl⟩
 |n::R,P,d,c,e=>by
  obtain⟨b,a,q⟩:=Px h O R (P++[n]) _ _ (by rw[e];simp);rw[zg] at q;have g:=h.nd;rw[e,je] at g
  have i :=λz=>g.2.2 n z n zd rfl
  have j:n∈N:=by rw[e];simp
  have f:D5 (aa 0) EA (D2 (aa 1)) [some (DL N),some (.int P.length)] O=.ok (.lst (P.map D.str)) O:=by
   show FY (GO (aZ O (.lst _)) _ _) O=_;rw[km,vH,iH,tW,e,zI,List.take_left' (ze _)]
  refine⟨b,a,(dF rfl ?_).trans q⟩;exact(aM (IR ((bA (DF rfl)).trans (uu (h.ok n j) O)))).trans (iR (cg (aW rfl f (wx i))))
def w4(h:D1 N)(O:au):Cd [DL N] O=.ok .Pl O:=by
 obtain⟨b,a,q⟩:=Px h O N [] _ _ rfl;refine Eg (ρ:=[some _,none,none]) (ρ2:=[some (DL N),b,a]) ?_;have e:=h.l4;have f :=List.length_pos_iff.mpr h.ne
 have c:gG Fm Fm (kI 1) (aO aX (aj (aa 0) ao)) (kI 6) [some (DL N),none,none] O=.ok (.bl true) O:=by
  rw[Jc,show kI _ _ O=.ok _ O from rfl,aR,jK rfl,aR,ze];show L0 (some _) O _=_;rw[zw (by omega)];show C8.ok _ O=_
  grind
 refine(aM (iR (Kk (Dc (De (d:=DL N) rfl rfl)) ?_))).trans (dW ?_ q)
 ·rw[nD,cg c];rfl
 ·rfl
def RW.lt{M:Int}{hs:Nat}(w:RW O M N G l m hs q k o p K) (e:b∈N):(q b).hd<O.length/\(q b).rd<O.length/\(q b).mr<O.length/\(q b).n<O.length:=by
 obtain⟨⟨j,d⟩,⟨i,h,c⟩,f,g,a⟩:=(w.hx b e).ex;exact⟨cV d,cV c,cV a.1,cV a.2⟩
def RW.add{M:Int}{hs:Nat}(w:RW O M N G ro rl hs q Z cl bn K)(J:a∉N) (hx:IZ X M i.hd i.rd i.mr i.n a [])(k:Kp O X)(T:O.length<=i.hd)(R:O.length<=i.rd)(Q:O.length<=i.mr)(P:O.length<=i.n) (v:O[hs]?=some (.dk Y)):
  RW (X.set hs (.dk (cT Y (D4 a) (.ob i.hd)))) M (N++[a]) G ro rl hs (up q a i) (up Z a []) (up cl a false) bn K:=by
 have o:=w.rows;obtain⟨E,l,U,A⟩:=w.hs;rw[v] at l;cases l;have m:=w.kp k;have c:=k _ _ v;have f:Fr X (X.set hs (.dk (cT Y (D4 a) (.ob i.hd)))) _:=Fr.set;have H:=Pj Y (D4 a) (.ob i.hd);have C:=cV o;refine⟨f _ _ (bF (aG "Roll" "" m.r c)) m.r,f _ _ (bF (fH (k _ _ o) c λz=>nomatch z)) (k _ _ o),⟨_,gs c,by rw[zg,zR];omega,λn p=>?_⟩,λn p=>?_,λb s d u j=>?_,λb s=>?_⟩
 ·rw[Ed]
  by_cases e:n=a
  ·rw[e,if_pos rfl,bR]
  ·rw[if_neg λz=>e (oG z),bU e];exact A n ((zy.mp p).resolve_right λz=>e (zj.mp z))
 ·by_cases e:n=a
  ·rw[e,bR,bR,bR];exact⟨f _ _ (bF (aG "Hand" "" hx.1 c)) hx.1,f _ _ (bF (aG _ "" hx.2.1 c)) hx.2.1,hx.2.2.fr f (bF (aG "Maker" "" hx.2.2.1 c)) (bF (fH hx.2.2.2 c λz=>nomatch z))⟩
  ·rw[bU e,bU e,bU e];have h:=m.hx n ((zy.mp p).resolve_right λz=>e (zj.mp z));obtain⟨⟨W,y⟩,⟨L,I,x⟩,B,F,t⟩:=h.ex;exact h.fr f (bF (aG "Hand" "" y c)) (bF (aG "Reader" "" x c)) (bF (aG "Maker" "" t.1 c)) (bF (fH t.2 c λz=>nomatch z))
 ·by_cases e:b=a
  ·have g:d≠a:=λz=>j (by rw[e,z])
   have:=w.lt ((zy.mp u).resolve_right λz=>g (zj.mp z))
   rw[e,bR,bU g];omega
  ·have hb':=(zy.mp s).resolve_right λz=>e (zj.mp z)
   have:=w.lt hb'
   by_cases g:d=a
   ·rw[g,bR,bU e];omega
   ·rw[bU e,bU g];exact w.ne b hb' d ((zy.mp u).resolve_right λz=>g (zj.mp z)) j
 ·by_cases e:b=a
  ·rw[e,bR];omega
  ·rw[bU e];exact w.nl b ((zy.mp s).resolve_right λz=>e (zj.mp z))
def Lo(B:Nat)(i:Ix):Prop:=B<=i.hd/\B<=i.rd/\B<=i.mr/\B<=i.n
theorem Py{M:Int}(C:1<=M/\M<=200){G:List Pf}{c t hs B:Nat}(J:B<=hs)(l g:Option D):∀(R P:List Pf)(O:au)(q:Pf->Ix)(f:Option D),B<=O.length->(∀n∈P,Lo B (q n))->(P++R).Nodup->(P++R).length<=100->RW O M P G c t hs q (λ_=>[]) (λ_=>false) bn [] ->
  ∃b d a,bw (C9 4) L6 (R.map D.str) [some (.ob c),l,some (.int M),g,f] O=.nx [some (.ob c),l,some (.int M),g,a] b/\RW b M (P++R) G c t hs d (λ_=>[]) (λ_=>false) bn []/\(∀n∈P++R,Lo B (d n))/\∀(j:Nat)(x:Ob),j<B->O[j]?=some x->b[j]?=some x
 | [],P,O,q,f,_,hq,_,_,w=>⟨O,q,f,rfl,by rw[zE];exact⟨w,hq,λ_ _ _ h=>h⟩⟩
 |n::R,P,O,q,f,hO,hq,nd,hl,w=>by
  obtain⟨Q,E,T⟩:=w.hs;obtain⟨O1,m,e,v,k,A⟩:=wm C n O (ma:=aj (aa 4) (aj (aa 2) ao)) (ρ:=[some _,l,some _,g,some _]) rfl
  have F :=λz=>(je.mp nd).2.2 n z n zd rfl
  have s:=w.add F (i:=⟨O.length,O.length+1,O.length+2,m⟩) v k (zc _) (jc _ _) (jc _ _) A E
  have L:up (λ_ =>([]:Pf)) n []=λ_=>[]:=by funext x;unfold up;split<;>rfl
  have K:up (λ_ =>false) n false=λ_=>false:=by funext x;unfold up;split<;>rfl
  rw[L,K] at s
  obtain⟨b,d,a,N,p,u,H⟩:=Py C J l g R _ _ _ _ (by rw[zX];have:=cV v.1;omega) (λm o=>by
   by_cases z:m=n
   ·rw[z,bR];exact⟨hO,zJ hO (jc _ _),zJ hO (jc _ _),zJ hO A⟩
   ·rw[bU z]
    exact hq m ((zy.mp o).resolve_right λy=>z (zj.mp y))) (by rw[zz];exact nd) (by rw[zz];exact hl) s
  rw[zz] at p u;rw[zg] at hl;refine⟨b,d,a,(dF rfl (um e (fD rfl (k _ _ w.r) zd rfl) rfl rfl (k _ _ E) (by omega))).trans N,p,u,λj x I h=>H j x I (by rw[zi (by omega)];exact k j x h)⟩
def Pz{M:Int}(E:1<=M/\M<=200) (h:D1 N) (C:ma ρ O=.ok [DL N,.int M,.bl bn] O):∃g k hs q,dO "Roll" wA ma ρ O=.ok (.ob O.length) g/\RW g M N N O.length k hs q (λ_=>[]) (λ_=>false) bn []/\Kp O g/\O.length<=k/\O.length<=hs/\∀n∈N,Lo O.length (q n):=by
 have P:(O++[Ob.ins "Roll" []])[O.length]?=some (.ins "Roll" []):=dU;have L:(O++[Ob.ins "Roll" [("names",DL N)]])[O.length]?=some _:=dU;have K:(O++[Ob.ins "Roll" [("names",DL N),("numbered",.bl bn)]])[O.length]?=some _:=dU
 have i:(O++[Ob.ins "Roll" [("names",DL N),("numbered",.bl bn)]]).length=O.length+1:=by simp
 generalize hO2:O++[Ob.ins "Roll" [("names",DL N),("numbered",.bl bn)]]=a at *
 have p:(a++[Ob.ml []])[O.length]?=some _:=dH _ _ K
 have J:(a++[Ob.ml []])[O.length+1]?=some (.ml []):=by rw[<-i];exact dU
 have F:Fr (a++[Ob.ml []]) ((a++[Ob.ml []]).set O.length (.ins "Roll" [("names",DL N),("numbered",.bl bn),("rows",.ob (O.length+1))])) [O.length]:=Fr.set
 have l3:((a++[Ob.ml []]).set O.length (.ins "Roll" [("names",DL N),("numbered",.bl bn),("rows",.ob (O.length+1))])).length=O.length+2:=by rw[zX,zg,i];rfl
 have I:=gs (y:=.ins "Roll" [("names",DL N),("numbered",.bl bn),("rows",.ob (O.length+1))]) p;have d3:=F _ _ (bF (by omega)) J
 generalize hO3:(a++[Ob.ml []]).set O.length _=c at *
 have o:(c++[Ob.dk []])[O.length]?=some _:=dH _ _ I;have H:(c++[Ob.dk []])[O.length+1]?=some (.ml []):=dH _ _ d3
 have G:(c++[Ob.dk []])[O.length+2]?=some (.dk []):=by rw[<-l3];exact dU
 have m:Fr (c++[Ob.dk []]) ((c++[Ob.dk []]).set O.length (qM bn N (O.length+1) (O.length+2))) [O.length]:=Fr.set;have w:RW _ M [] N O.length (O.length+1) (O.length+2) (λ_=>⟨0,0,0,0⟩) (λ_=>[]) (λ_=>false) bn []:=
  ⟨gs o,m _ _ (bF (by omega)) H,⟨[],m _ _ (bF (by omega)) G,Nat.zero_le _,λ_ z=>nomatch z⟩,λ_ z=>(nomatch z),λ_ z=>(nomatch z),λ_ z=>(nomatch z)⟩
 have Q:=h.l4
 have A:Kp O ((c++[Ob.dk []]).set O.length (qM bn N (O.length+1) (O.length+2))):=λj x f=>by
  have R:=cV f;rw[zi (by omega)];refine dH _ _ ?_;rw[<-hO3,zi (by omega)];refine dH _ _ ?_;rw[<-hO2];exact dH _ _ f
 obtain⟨g,t,u,e,r,s,v⟩:=Py (B:=O.length) E (by omega) (some (DL N)) (some (.bl bn)) N [] _ _ none (by rw[zX,zg];omega) (λ_ z=>nomatch z) h.nd (by rw[zO];omega) w;unfold L6 at e;refine⟨g,O.length+1,O.length+2,t,Pu C (Eg (b:=Ce) (ρ2:=[some (.ob O.length),some (DL N),some (.int M),some (.bl bn),u]) ?_),r,λj x f=>v j x (cV f) (A j x f),by omega,by omega,s⟩;refine(aM (oE ((bA (DF (x:=DL N) rfl)).trans (w4 h _)))).trans ?_;refine(aM (iQ (n:=O.length) (d:=DL N) (CZ (d:=DL N) rfl rfl) rfl P zd (by decide))).trans ?_;rw[oh];refine(aM (iQ (n:=O.length) (d:=.bl bn) rfl rfl L zd (by show 1<900;decide))).trans ?_
 rw[oh];show aq _ _ _ (O++[Ob.ins "Roll" [("names",DL N),("numbered",.bl bn)]])=_;rw[hO2];refine(aM (iQ (n:=O.length) (d:=.ob (O.length+1)) (O1:=a++[.ml []]) (by rw[<-i];rfl) rfl p zd (by show 2<900;decide))).trans ?_;show aq _ _ _ ((a++[Ob.ml []]).set O.length (.ins "Roll" [("names",DL N),("numbered",.bl bn),("rows",.ob (O.length+1))]))=_;rw[hO3];refine(aM (iQ (n:=O.length) (d:=.ob (O.length+2)) (O1:=c++[.dk []]) (by rw[<-l3];rfl) rfl o zd (by show 3<900;decide))).trans ?_;exact dW (cU (l:=N.map D.str) rfl) e
def hD(N:List Pf)(y:Pf×Pf):D:=.tup [.str (EG N y.1 y.2),.str y.1,.str y.2]
def hs(N:List Pf):List (Pf×Pf):=N.flatMap λn=>[(n,bB),(n,bW)]
theorem PB(g:D1 N)(O:au):∀(M:List Pf)(a:List D)(c b:Option D),(∀n∈M,n∈N)->a.length+2 * M.length<=1000->∃f d,bw (C9 2) bH (M.map D.str) [some (DL N),some (.lst a),c,b] O=.nx [some (DL N),some (.lst (a++(hs M).map (hD N))),f,d] O
 | [],a,c,b,_,_=>⟨c,b,by rw[show(hs []).map _=[] from rfl,zE];rfl⟩
 |n::M,a,c,b,hM,hl=>by
  rw[zu] at hl
  have one:∀(W)(a),a.length<1000->dB 1 (aU (aj (aC _ (aj (aa 2) (aj (aa 0) (aj (aa 3) _)))) (aj (aa 2) (aj (aa 3) _)))) [some _,some (.lst a),some _,some _] O=.nx _ O:=λW a i=>nY (tQ (DJ ((bA (DJ rfl (DJ rfl (DF rfl)))).trans (Oe g (hM n zd) W O)) (DJ rfl (DF rfl))) (by show 3<=_;decide)) rfl (by omega)
  obtain⟨f,d,e⟩:=PB g O M (a++[hD N (n,bB)]++[hD N (n,bW)]) _ _ (λm h=>hM m (zl _ h)) (by rw[zg,zg];show _+1+1+_<=_;omega);refine⟨f,d,(dF rfl (dW rfl (.trans (dF rfl (one _ _ (by omega))) (.trans (dF rfl (one _ _ (by rw[zg];show _+1<_;omega))) rfl)))).trans (e.trans ?_)⟩;rw[zz,zz];rfl
def w9(a:D1 N)(O:au):Cj [DL N] O=.ok (.lst ((hs N).map (hD N))) O:=by
 have:=a.l4
 obtain⟨c,b,e⟩:=PB a O N [] _ _ (λ_ z=>z) (by show 0+_<=_;omega);exact cH (.trans (aM (bc rfl)) (.trans (aM (dW (cU rfl) e)) rfl))
def PJ(d:IJ n)(f:IJ a)(e:GN w n=GN w a):n=a:=by
 have q:∀{n},IJ n->(GN w n).filter _=n:=λ{n} h=>by
  unfold GN;rw[List.filter_append,List.filter_eq_self.mpr λc b=>zw (h.ok c b).1,List.filter_eq_nil_iff.mpr λc b=>by rw[(List.mem_replicate.mp b).2];decide,zE]
 rw[<-q d,e,q f]
def xg(a:n∈N):(EG N n W).length=wd N+1:=by
 unfold EG;rw[zg,w5 a];rfl
def xa(b:D1 N) (f:n∈N)(g:a∈N)(d:w=bB\/w=bW)(h:W=bB\/W=bW)(e:EG N n w=EG N a W):n=a/\w=W:=by
 obtain⟨i,c⟩:=List.append_inj' e rfl;refine⟨PJ (b.ok n f) (b.ok a g) i,?_⟩
 rcases d with rfl | rfl<;>rcases h with rfl | rfl
 ·rfl
 ·exact absurd c (by decide)
 ·exact absurd c (by decide)
 ·rfl
theorem PK(g:D1 N){A T a W:Pf}{F:List D}(x:A.length<=10)(w:T.length<=5000)(f:a∈N)(m:W=bB\/W=bW)(h:∀O,∃b,qt [.str T] O=.ok (.lst F) b/\Kp O b)(d:D)(O:au):∀(L:List (Pf×Pf))(k j i c:Option D),(∀y∈L,y.1∈N/\(y.2=bB\/y.2=bW))->(a,W)∈L ->
  ∃b,bw (cM 3 (bh (C9 3) (bh (C9 4) (bh (C9 5) cP)))) NG (L.map (hD N)) [some (.str ((A++EG N a W)++T)),some (.str A),some d,k,j,i,c] O=.rt (.tup [.str a,.lst F,.str W]) b/\Kp O b
 |y::L,k,j,i,c,hL,hm=>by
  obtain⟨l,v⟩:=hL y zd;have C:=xg (W:=y.2) l;have B:=xg (W:=W) f;have G:=Ki g
  have n:∀c,ak aD (aa 1) (aa 3) [some (.str ((A++EG N a W)++T)),some (.str A),some d,some (.str (EG N y.1 y.2)),some (.str y.1),some (.str y.2),c] O=.ok _ O:=λ_=>iw rfl rfl (by omega)
  have tk:((A++EG N a W)++T).take (A++EG N y.1 y.2).length=A++EG N a W:=by rw[show(A++EG N y.1 y.2).length=(A++EG N a W).length by rw[zg,zg,C,B],List.take_left]
  have st:bI (pq (mG (aa 0)) (ak aD (aa 1) (aa 3))) [some (.str ((A++EG N a W)++T)),some (.str A),some d,some (.str (EG N y.1 y.2)),some (.str y.1),some (.str y.2),c] O=.ok (decide (A++EG N a W=A++EG N y.1 y.2)) O:=by
   rw[kE,hE,show mG (aa 0) _ O=.ok _ O from rfl,aR,n];show LV (mR (aZ O (.bl _))) O=_;rw[tk];rfl
  by_cases e:(a,W)=y
  ·subst e;obtain⟨b,r,q⟩:=h O;refine⟨b,p3 rfl ?_,q⟩;exact .trans (dh (st.trans (by rw[zw rfl]))) (.trans (aM (ir (.trans (bA (DF ((mD rfl (mz (lY (n c) (by rw[zg];omega))) rfl (by rw[zg,zg];omega)).trans (by rw[tX,List.drop_left])))) (cH (fG ((bA (DF rfl)).trans r)))))) rfl)
  ·have s:¬A++EG N a W=A++EG N y.1 y.2:=λz=>by
    obtain⟨p,o⟩:=xa g f l m v (List.append_cancel_left z);exact e (Prod.ext p o)
   obtain⟨b,E,t⟩:=PK g x w f m h d O L _ _ _ c (λz u=>hL z (zl _ u)) ((zk.mp hm).resolve_left e);exact⟨b,(dF rfl (iR (st.trans (by rw[zo s])))).trans E,t⟩
def PL:y∈hs N↔y.1∈N/\(y.2=bB\/y.2=bW):=by
 unfold hs;rw[List.mem_flatMap];constructor
 ·rintro⟨n,b,a⟩;simp at a
  rcases a with rfl | rfl
  ·exact⟨b,.inl rfl⟩
  ·exact⟨b,.inr rfl⟩
 ·rintro⟨c,h2⟩;refine⟨y.1,c,?_⟩
  rcases h2 with h2 | h2
  ·rw[show y=(y.1,bB) from Prod.ext rfl h2];exact zd
  ·rw[show y=(y.1,bW) from Prod.ext rfl h2];exact zl _ zd
def xb(i:D1 N) (j:A.length<=10)(h:T.length<=5000)(c:a∈N)(d:W=bB\/W=bW)(f:∀O,∃b,qt [.str T] O=.ok (.lst F) b/\Kp O b)(O:au):∃b,Ck [.str ((A++EG N a W)++T),.str A,.lst ((hs N).map (hD N))] O=.ok (.tup [.str a,.lst F,.str W]) b/\Kp O b:=by
 obtain⟨b,e,k⟩:=PK i j h c d f _ O _ _ _ _ _ (λy g=>PL.mp g) (PL.mpr ⟨c,d⟩);refine⟨b,cH ?_,k⟩;exact .trans (aM (iR (Dc (De (t:="str") rfl rfl)))) (hV (dW (cU rfl) e))
structure E4(N:List Pf)(O:au)(d:Nat)(f:Pf->Nat)(X:Pf->List D)(B:Nat):Prop where
 dk:O[d]?=some (.dk (N.map λn=>(D4 n,.ob (f n))))
 ml:∀n∈N,O[f n]?=some (.ml (X n))
 inj:∀n∈N,∀m∈N,f n=f m->n=m
 lo:B<=d/\∀n∈N,B<=f n
def IL(B:Nat)(O a:au):Prop:=∀(j:Nat)(x:Ob),j<B->O[j]?=some x->a[j]?=some x
def IL.trans(a:IL B O O1)(b:IL B O1 d):IL B O d:=λj y c h=>b j y c (a j y c h)
def Kp.b(k:Kp O a)(B:Nat):IL B O a:=λj x _ h=>k j x h
def PN(h:B<=n):IL B O (O.set n y):=λj x b a=>by rw[zi (by omega)];exact a
def E4.kp(T:E4 N O d f X B)(h:Kp O b):E4 N b d f X B:=⟨h _ _ T.dk,λn a=>h _ _ (T.ml n a),T.inj,T.lo⟩
def E4.ne(T:E4 N O d f X B) (a:n∈N):f n≠d:=fH (T.ml n a) T.dk λz=>nomatch z
def E4.app(T:E4 N O d f X B) (b:n∈N)(v:List D):E4 N (O.set (f n) (.ml v)) d f (up X n v) B:=by
 refine⟨?_,λm a=>?_,T.inj,T.lo⟩
 ·rw[zi (T.ne b)];exact T.dk
 ·by_cases e:m=n
  ·subst e;rw[bR];exact gs (T.ml m a)
  ·rw[bU e,zi λz=>e (T.inj m a n b z.symm)];exact T.ml m a
theorem PP(f:Pf->Nat):∀{N:List Pf},n∈N->cA (N.map λn=>(D4 n,D.ob (f n))) (D4 n)=some (.ob (f n))
 |m::N,h=>by
  rw[zh,oF]
  by_cases e:m=n
  ·rw[if_pos (by rw[e]),e]
  ·rw[if_neg λz=>e (oG z)];exact PP f ((zk.mp h).resolve_left λz=>e z.symm)
def E4.sub(T:E4 N O d f X B) (a:n∈N) (c:mo ρ O=.ok (.ob d) O)(b:my ρ O=.ok (.str n) O):fV mo my ρ O=.ok (.ob (f n)) O:=mH c b rfl T.dk (PP f a)
def xh{N:List Pf}{f:Pf->Nat} (a:n∉N)(d:D):cT (N.map λm=>(D4 m,D.ob (f m))) (D4 n) d=(N.map λm=>(D4 m,D.ob (f m)))++[(D4 n,d)]:=by
 unfold cT;rw[if_neg];intro z;obtain⟨p,e,c⟩:=List.any_eq_true.mp z;obtain⟨m,b,rfl⟩:=zv.mp e;exact a (oG (zT c) ▸ b)
def E4.new(T:E4 N O d f (λ_=>[]) B) (i:n∉N)(j:B<=O.length):E4 (N++[n]) ((O++[Ob.ml []]).set d (.dk ((N.map λm=>(D4 m,D.ob (f m)))++[(D4 n,D.ob O.length)]))) d (up f n O.length) (λ_=>[]) B:=by
 have k:=cV T.dk
 have q:∀x∈N,up f n O.length x=f x/\f x<O.length:=λx h=>⟨bU λz=>i (z ▸ h),cV (T.ml x h)⟩
 refine⟨?_,λm hm=>?_,λa g b c e=>?_,T.lo.1,λm hm=>?_⟩
 ·rw[zU (by rw[zg];omega),zI,show(N.map λm=>(D4 m,D.ob (up f n _ m)))=N.map _ from ja λm hm=>by rw[(q m hm).1],zh,zY,bR]
 ·rcases zy.mp hm with hm | hm
  ·rw[(q m hm).1,zi λz=>T.ne hm z.symm,zG (q m hm).2];exact T.ml m hm
  ·rw[zj.mp hm,bR,zi (by omega)];exact dU
 ·rcases zy.mp g with g | g<;>rcases zy.mp c with c | c
  ·rw[(q a g).1,(q b c).1] at e;exact T.inj a g b c e
  ·rw[zj.mp c,bR,(q a g).1] at e
   have:=(q a g).2
   omega
  ·rw[zj.mp g,bR,(q b c).1] at e
   have:=(q b c).2
   omega
  ·rw[zj.mp g,zj.mp c]
 ·rcases zy.mp hm with hm | hm
  ·rw[(q m hm).1];exact T.lo.2 m hm
  ·rw[zj.mp hm,bR];exact j
theorem PQ{p d3 o:D}{d B:Nat}{l j i:Option D}:∀(M P:List Pf)(O:au)(f:Pf->Nat)(c:Option D),E4 P O d f (λ_=>[]) B->B<=O.length->(P++M).Nodup->P.length+M.length<=100 ->
  ∃a m g,E4 (P++M) a d m (λ_=>[]) B/\IL B O a/\bw (C9 5) bP (M.map D.str) [some o,some d1,some p,some d3,some (.ob d),c,l,j,i] O=.nx [some o,some d1,some p,some d3,some (.ob d),g,l,j,i] a
 | [],P,O,f,c,T,_,_,_=>⟨O,f,c,by rw[zE];exact T,λ_ _ _ h=>h,rfl⟩
 |n::M,P,O,f,c,T,hB,nd,hl=>by
  have q :=λz=>(je.mp nd).2.2 n z n zd rfl
  rw[zu] at hl;obtain⟨a,m,g,r,k,e⟩:=PQ M _ _ _ _ (T.new q hB) (by rw[zX,zg];omega) (by rw[zz];exact nd) (by rw[zg,zR];omega);rw[zz] at r;refine⟨a,m,g,r,((dH.b B).trans (PN T.lo.1)).trans k,(dF (ρ1:=[some o,some d1,some p,some d3,some _,some _,l,j,i]) rfl ((um (k:=D4 n) rfl rfl rfl rfl (dH _ _ T.dk) (by rw[ze];omega)).trans ?_)).trans e⟩;rw[xh q]
def EX(x:Du):D:=.tup [.lst ((x.1.map l3).map dK),.str x.2]
def eQ(b:Bool)(N:List Pf):Nat->List (Pf×Du)->List D
 | _,[]=>[]
 |k,r::l=>.str (qL b N r.1 (k+1) r.2)::eQ b N (k+1) l
theorem oH:∀{k:Nat}{l:List (Pf×Du)},(eQ b N k l).length=l.length
 | _,[]=>rfl
 |k,x::l=>congrArg _ oH
def iz(N:List Pf)(r:Pf×Du):Prop:=r.1∈N/\gC r.2/\r.2.1.length<=200
def IA(R:List (Pf×Du))(n:Pf):List D:=(R.filter λr=>decide (r.1=n)).map λr=>EX r.2
def xi(f:r.length<=200)(e:∀x∈r,FK x)(O:au):∃a,qt [.str (IQ r)] O=.ok (.lst ((r.map l3).map dK)) a/\Kp O a:=by
 have s:=xf f e;refine vw (s.c.okt (by have:=s.l;omega)) (λO=>?_) O
 have:=s.q (vr (T:=IQ r) (O:=O)) (acc:=[]) (by decide) λk d b=>⟨d,b,by rw[kO];rfl⟩
 rwa [zE] at this
theorem PX(x:D1 N)(b:Bool)(p:D){d B:Nat}{f:Pf->Nat}:∀(R:List (Pf×Du))(k:Nat)(O:au)(X:Pf->List D)(a o j i:Option D),E4 N O d f X B->(∀r∈R,iz N r)->k+R.length<=90000->(∀n,(X n).length+R.length<=90000) ->
  ∃g t s q,bw (cM 2 (bh (C9 6) (bh (C9 7) cP))) bE (dz k (eQ b N k R)) [some (DL N),some p,some (.bl b),some (.lst ((hs N).map (hD N))),some (.ob d),a,o,j,i] O=.nx [some (DL N),some p,some (.bl b),some (.lst ((hs N).map (hD N))),some (.ob d),a,t,s,q] g/\E4 N g d f (λn=>X n++IA R n) B/\IL B O g
 | [],k,O,X,a,o,j,i,T,_,_,_=>⟨O,o,j,i,rfl,by simpa [IA],λ_ _ _ h=>h⟩
 |r::R,k,O,X,a,o,j,i,T,hR,hk,hX=>by
  rw[zu] at hk;obtain⟨c,u,y⟩:=hR r zd;have L:=OJ (b:=b) (k:=k+1);have K:=(xf y u.1).l;obtain⟨P,J,w⟩:=xb x (A:=KE b (k+1)) (by omega) (by omega) c u.2 (xi y u.1) O;have v:=T.kp w;have E:=hX r.1;rw[zu] at E;have H:=uc (d:=EX r.2) (m:=aU (aj (ak C7 (aa 8) (kI 1)) (aj (ak C7 (aa 8) (kI 2)) ao))) (v.sub c (mo:=aa 4) (my:=ak C7 (aa 8) (kI 0)) (ρ:=[some (DL N),some p,some (.bl b),some (.lst ((hs N).map (hD N))),some (.ob d),a,some (.int k),some (.str (qL b N r.1 (k+1) r.2)),some (.tup [.str r.1,.lst _,.str r.2.2])]) rfl rfl) (v.ml _ c) rfl (by omega)
  obtain⟨g,t,s,q,I,C,F⟩:=PX x b p R (k+1) _ _ a _ _ _ (v.app c (X r.1++[EX r.2])) (λz G=>hR z (zl _ G)) (by omega) λn=>by
   have:=hX n
   rw[zu] at this
   by_cases e:n=r.1
   ·rw[e,bR,zg];show _+1+_<=_;omega
   ·rw[bU e];omega
  refine⟨g,t,s,q,(dF rfl (.trans (aM (ir ((bA (DJ rfl (DJ ((bA (DJ (EF rfl rfl) (DF rfl))).trans (Pa b (by omega) O)) (DF rfl)))).trans J))) (.trans (aM (iR rfl)) H))).trans I,?_,((w.b B).trans (PN (T.lo.2 _ c))).trans F⟩
  have:(λn=>up X r.1 (X r.1++[EX r.2]) n++IA R n)=λn=>X n++IA (r::R) n:=by
   funext n
   unfold IA
   by_cases e:n=r.1
   ·rw[e,bR,List.filter_cons,if_pos (zw rfl),zz];rfl
   ·rw[bU e,List.filter_cons,if_neg (by simpa using λz=>e z.symm)]
  rw[this] at C;exact C
def P0(c:D1 N)(b:Bool) (l:∀r∈R,iz N r)(v:R.length<=80000)(O:au):∃e d f,wC [DL N,.lst (eQ b N 0 R),.bl b] O=.ok (.ob d) e/\E4 N e d f (IA R) O.length/\Kp O e:=by
 have u:=c.l4;obtain⟨O1,f,g,T,k,m⟩:=PQ N [] (O++[Ob.dk []]) (λ_=>0) _ ⟨dU,λn a=>(nomatch a),λn a=>(nomatch a),zc _,λn a=>nomatch a⟩ (by rw[zg];omega) c.nd (by show 0+_<=_;omega)
 obtain⟨p,t,s,q,e6,o,i⟩:=PX c b _ R 0 O1 _ g _ _ _ T l (by omega) λn=>by show 0+_<=_;omega
 refine⟨p,O.length,f,cH ?_,o,λj x h=>((dH.b _).trans k).trans i j x (cV h) h⟩;exact .trans (aM (bc ((bA (DF rfl)).trans (w9 c O)))) (.trans (aM (ir rfl)) (.trans (aM (dW (cU rfl) m)) (.trans (aM (dW rfl e6)) rfl)))
structure Ap(N N':List Pf)(q q':Pf->Ix)(rl rl':Nat):Prop where
 i:∀a∈N,∀b∈N',(q a).hd≠(q' b).hd/\(q a).rd≠(q' b).rd/\(q a).mr≠(q' b).mr/\(q a).n≠(q' b).n
 l:∀a∈N,(q a).n≠rl'
 l':∀b∈N',(q' b).n≠rl
 r:rl≠rl'
section
variable {O O':au}{M:Int}{N G N' G':List Pf}{ro rl hs ro' rl' hs' n':Nat}{bn bn':Bool}{K K':List D}{q q':Pf->Ix}{tt tt':Pf->Pf}{cl cl':Pf->Bool}{a:Pf}
def Ap.symm(p:Ap N N' q q' rl rl'):Ap N' N q' q rl' rl:=⟨λa c b hb=>by
 obtain⟨g,f,e,d⟩:=p.i b hb a c
 exact⟨Ne.symm g,Ne.symm f,Ne.symm e,Ne.symm d⟩,p.l',p.l,Ne.symm p.r⟩
def mJ{m a b c d e:Nat}(j:m≠a)(i:m≠b)(h:m≠c)(g:m≠d)(f:m≠e):m∉[a,b,c,d,e]:=λz=>by
 simp only[zk,List.not_mem_nil,or_false] at z;omega
def RW.oth(w:RW O M N G ro rl hs q tt cl bn K)(c:RW O M N' G' ro' rl' hs' q' tt' cl' bn' K')(p:Ap N N' q q' rl rl')(u:a∈N)(H:Nw O (q a).n n')(f:Fr O O' [(q a).hd,(q a).rd,(q a).mr,(q a).n,rl]):
  RW O' M N' G' ro' rl' hs' q' tt' cl' bn' K'/\Ap N N' (up q a ⟨(q a).hd,(q a).rd,(q a).mr,n'⟩) q' rl rl':=by
 have t:=w.rows;have s:=c.rows;obtain⟨J,o,P,L⟩:=c.hs;obtain⟨⟨Z,m⟩,⟨X,U,k⟩,R,Q,g⟩:=(w.hx a u).ex
 refine⟨⟨f _ _ (mJ (aG "Roll" "Hand" c.r m) (aG "Roll" "Reader" c.r k) (aG "Roll" "Maker" c.r g.1) (aG "Roll" "" c.r g.2) (aG "Roll" "" c.r t)) c.r,f _ _ (mJ (aG "" "Hand" s m) (aG "" "Reader" s k) (aG "" "Maker" s g.1) (Ne.symm (p.l a u)) (Ne.symm p.r)) s,
  ⟨J,f _ _ (mJ (aG "" "Hand" o m) (aG "" "Reader" o k) (aG "" "Maker" o g.1) (fH o g.2 (λz=>nomatch z)) (fH o t (λz=>nomatch z))) o,P,L⟩,λb j=>?_,c.ne,c.nl⟩,⟨λb j d y=>?_,λb j=>?_,p.l',p.r⟩⟩
 ·obtain⟨⟨Y,x⟩,⟨W,T,v⟩,F,I,h⟩:=(c.hx b j).ex;obtain⟨E,C,B,A⟩:=p.i a u b j;exact(c.hx b j).fr f (mJ (Ne.symm E) (aG "Hand" "Reader" x k) (aG "Hand" "Maker" x g.1) (aG "Hand" "" x g.2) (aG "Hand" "" x t)) (mJ (aG "Reader" "Hand" v m) (Ne.symm C) (aG "Reader" "Maker" v g.1) (aG "Reader" "" v g.2) (aG "Reader" "" v t))
   (mJ (aG "Maker" "Hand" h.1 m) (aG "Maker" "Reader" h.1 k) (Ne.symm B) (aG "Maker" "" h.1 g.2) (aG "Maker" "" h.1 t)) (mJ (aG "" "Hand" h.2 m) (aG "" "Reader" h.2 k) (aG "" "Maker" h.2 g.1) (Ne.symm A) (p.l' b j))
 ·by_cases e:b=a
  ·obtain⟨_,_,F,I,h⟩:=(c.hx d y).ex;obtain⟨E,C,B,A⟩:=p.i a u d y;rw[e,bR];exact⟨E,C,B,H _ _ (Ne.symm A) h.2⟩
  ·rw[bU e];exact p.i b j d y
 ·by_cases e:b=a
  ·rw[e,bR];exact H _ _ (Ne.symm (p.l a u)) s
  ·rw[bU e];exact p.l b j
end
structure FD(t:Pf):Prop where
 len:t.length<=300
 ok:∀c∈t,(32<=c/\c<=125)\/c=10\/c=9
def FD.t{t:Pf}(h:FD t):ES t:=⟨by have:=h.len;omega,h.ok⟩
def FD.tk{t:Pf}(h:FD t)(k:Nat):FD (t.take k):=⟨by have:=h.len;rw[List.length_take];omega,λc a=>h.ok c (List.mem_of_mem_take a)⟩
def FD.dr{t:Pf}(h:FD t)(k:Nat):FD (t.drop k):=⟨by have:=h.len;rw[List.length_drop];omega,λc a=>h.ok c (jy a)⟩
def Qa:up f a (f a)=f:=by
 unfold up
 grind
section
variable {M:Int}{t p:Pf}
def Qc{M:Int}(c:1<=M/\M<=200) (hs:FC M s)(b:∀x∈d,EC x.2.1 x.2.2):∀x∈(rn M s d).2,gC x/\x.1.length<=200:=λx a=>⟨Ef c.1 _ s hs b x a,by have:=wY c.1 _ s hs b x a;omega⟩
def ON{M:Int}(b:1<=M/\M<=200)(e:ES t)(a:ES (t++p)):(rn M s0 (sI (t++p))).2=(rn M s0 (sI t)).2++(rn M (rn M s0 (sI t)).1 (jI t p)).2/\∀x∈(rn M (rn M s0 (sI t)).1 (jI t p)).2,gC x/\x.1.length<=200:=by
 have j:=(DQ a).1;have S:=si a
 have c :=λx d=>S.i x (jk _ (by rw[j];exact zQ _ d))
 exact⟨by rw[j,ue],Qc b (mq b.1 e) c⟩
def Eh{M:Int}(b:1<=M/\M<=200)(c:ES t):∀x∈dI M t,gC x/\x.1.length<=200:=λx a=>by
 have S:=si c
 rcases zy.mp a with a | a
 ·exact Qc b (jM b.1) S.i x a
 ·have o:=(iU b.1 _ s0 (jM b.1) S.i).1;unfold ET at a;split at a
  ·rw[zj.mp a]
   have:=o.len
   exact⟨⟨o.ok,.inl rfl⟩,by show(rn M s0 _).1.row.length<=200;omega⟩
  ·cases a
def Qd{M:Int}:dI M t=(rn M s0 (sI t)).2++((rn M (rn M s0 (sI t)).1 (hI t)).2++ET M t):=by
 unfold dI;rw[ue,zz]
def xj(M:Int)(t:Pf)(c:Bool):List Du:=if c=true then dI M t else(rn M s0 (sI t)).2
def Qe{M:Int}(a:1<=M/\M<=200)(e:ES t)(c:Bool):(xj M t c).length<=t.length+1:=by
 have S:=si e;have l:=S.l;have b:=(iU a.1 _ s0 (jM a.1) S.i).2;have f:=(iU a.1 _ s0 (jM a.1) λx d=>S.i x (jk _ d)).2;have g:=Pn (M:=M) (t:=t);rw[zg] at l b;unfold xj dI
 split
 ·rw[zg];omega
 ·omega
end
theorem Ei:∀{k:Nat}{c:List Du},iy b N a k c=eQ b N k (c.map λx=>(a,x))
 | _,[]=>rfl
 |k,x::c=>by
  show D.str _::iy b N a _ c=D.str _::eQ b N _ _;rw[Ei]
theorem Ej:∀{k:Nat}{l:List (Pf×Du)},eQ b N k (l++m)=eQ b N k l++eQ b N (k+l.length) m
 | _,[]=>rfl
 |k,x::l=>by
  show D.str _::eQ b N _ (l++m)=D.str _::(eQ b N _ l++_);rw[Ej,zu,show k+1+l.length=k+(l.length+1) by omega]
def cB(L:List (Pf×Du))(n:Pf):List Du:=(L.filter λr=>decide (r.1=n)).map Prod.snd
def Qf:cB (L++a) n=cB L n++cB a n:=by
 unfold cB;rw[List.filter_append,zI]
theorem Ek:∀b:List Du,cB (b.map λx=>(a,x)) a=b
 | []=>rfl
 |x::b=>by
  have:=Ek (a:=a) b
  unfold cB at this ⊢;rw[zh,List.filter_cons_of_pos (p:=λr:List _×Du=>decide (r.1=a)) (zw rfl),zh,this]
theorem El(h:n≠a):∀b:List Du,cB (b.map λx=>(a,x)) n=[]
 | []=>rfl
 |x::b=>by
  have:=El h b
  unfold cB at this ⊢;rw[zh,List.filter_cons_of_neg λz=>h (zT z).symm,this]
theorem FV{N:List Pf}(b:N.Nodup):∀(L:List (Pf×Du)),(∀r∈L,r.1∈N)->(N.map λn=>(cB L n).length).sum=L.length
 | [],_=>by
  have z:∀N:List Pf,(N.map λn=>0).sum=0:=λN=>by
   induction N with
   |nil=>rfl
   |cons a N c=>rw[zh,List.sum_cons,c]
  exact z N
 |r::L,h=>by
  have i:=FV b L λx d=>h x (zl _ d)
  have f:=h r zd;rw[zu,<-i]
  have st:∀n,(cB (r::L) n).length=(if r.1=n then 1 else 0)+(cB L n).length:=λn=>by
   unfold cB
   by_cases e:r.1=n
   ·rw[List.filter_cons_of_pos (p:=λr:Pf×Du=>decide (r.1=n)) (zw e),zh,zu,if_pos e];omega
   ·rw[List.filter_cons_of_neg (p:=λr:Pf×Du=>decide (r.1=n)) (λz=>e (zT z)),if_neg e];omega
  have k:∀N:List Pf,N.Nodup->(N.map λn=>(cB (r::L) n).length).sum=(if r.1∈N then 1 else 0)+(N.map λn=>(cB L n).length).sum:=λN=>by
   induction N with
   |nil=>intro _;rfl
   |cons a N c =>
    intro b;obtain⟨j,g⟩:=List.nodup_cons.mp b;rw[zh,List.sum_cons,c g,zh,List.sum_cons,st]
    by_cases e:r.1=a
    ·rw[if_pos e,if_neg (by rw[e];exact j),if_pos (by rw[e];exact zd)];omega
    ·rw[if_neg e]
     by_cases z:r.1∈N
     ·rw[if_pos z,if_pos (zl _ z)];omega
     ·rw[if_neg z,if_neg (λy=>(zk.mp y).elim e z)];omega
  rw[k N b,if_pos f];omega
theorem Qg{α:Type}{f:α->Nat}{B:Nat}:∀{N:List α},(∀n∈N,f n<=B)->(N.map f).sum<=N.length * B
 | [],_=>Nat.zero_le _
 |a::N,h=>by
  have i:=Qg (f:=f) (B:=B) λn b=>h n (zl _ b)
  have:=h a zd
  rw[zh,List.sum_cons,zu,Nat.succ_mul];omega
structure W6(O:au)(M:Int)(N:List Pf)(ro rl hs:Nat)(q:Pf->Ix)(tt:Pf->Pf)(cl:Pf->Bool)(b:Bool)(L:List (Pf×Du)):Prop where
 w:RW O M N N ro rl hs q tt cl b (eQ b N 0 L)
 ok:∀n∈N,FD (tt n)
 rz:∀r∈L,iz N r
 tl:∀n∈N,cB L n=xj M (tt n) (cl n)
section
variable {O:au}{M:Int}{N:List Pf}{ro rl hs:Nat}{q:Pf->Ix}{tt:Pf->Pf}{cl:Pf->Bool}{b:Bool}{L:List (Pf×Du)}{a:Pf}
def W6.ll(w:W6 O M N ro rl hs q tt cl b L)(i:1<=M/\M<=200)(d:D1 N):L.length<=1300:=by
 rw[<-FV d.nd L λr g=>(w.rz r g).1]
 have:=Qg (f:=λn=>(cB L n).length) (B:=301) (N:=N) λn c=>by
  have h:=Qe i (w.ok n c).t (cl n)
  have:=(w.ok n c).len
  show(cB L n).length<=301;rw[w.tl n c];omega
 have e:=d.l4
 have:N.length * 301<=4 * 301:=Nat.mul_le_mul_right _ e
 omega
def W6.feed(w:W6 O M N ro rl hs q tt cl b L)(m:1<=M/\M<=200)(v:D1 N)(j:a∈N)(l:cl a=false){p:Pf}(g:FD (tt a++p)):
  ∃o i H A,qw [.ob ro,.str a,.str p] O=.ok (.lst A) o/\W6 o M N ro rl hs (up q a ⟨(q a).hd,(q a).rd,(q a).mr,i⟩) (up tt a (tt a++p)) cl b H/\Nw O (q a).n i/\Fr O o [(q a).hd,(q a).rd,(q a).mr,(q a).n,rl]:=by
 have u:=(w.ok a j).t;have y:=g.len;rw[zg] at y;have I:=w.ll m v;obtain⟨E,C⟩:=ON m u g.t;obtain⟨G,i,F,s,z,f⟩:=w.w.feed m v j j l u ⟨by omega,λc h=>g.ok c (zQ _ h)⟩ g.t (by rw[oH];omega);rw[Ei,oH,show L.length=0+L.length by omega,<-Ej,show up cl a false=cl from by rw[<-l];exact Qa] at s;refine⟨G,i,_,_,F,⟨s,λn k=>?_,λr d=>?_,λn k=>?_⟩,z,f⟩
 ·by_cases e:n=a
  ·rw[e,bR];exact g
  ·rw[bU e];exact w.ok n k
 ·rcases zy.mp d with d | d
  ·exact w.rz r d
  ·obtain⟨x,B,rfl⟩:=zv.mp d;exact⟨j,C x B⟩
 ·rw[Qf,w.tl n k]
  by_cases e:n=a
  ·rw[e,bR,Ek,l];exact E.symm
  ·rw[bU e,El e,zE]
def W6.close(w:W6 O M N ro rl hs q tt cl b L)(h:1<=M/\M<=200)(m:D1 N)(d:a∈N)(l:cl a=false):
  ∃i g y A,qx [.ob ro,.str a] O=.ok (.lst A) i/\W6 i M N ro rl hs (up q a ⟨(q a).hd,(q a).rd,(q a).mr,g⟩) tt (up cl a true) b y/\Nw O (q a).n g/\Fr O i [(q a).hd,(q a).rd,(q a).mr,(q a).n,rl]:=by
 have k:=(w.ok a d).t;have z:=(w.ok a d).len;have B:=w.ll h m;obtain⟨v,g,u,j,o,f⟩:=w.w.close h m d d l k (by rw[oH];omega);rw[Ei,oH,show L.length=0+L.length by omega,<-Ej,Qa] at j;refine⟨v,g,_,_,u,⟨j,w.ok,λr c=>?_,λn s=>?_⟩,o,f⟩
 ·rcases zy.mp c with c | c
  ·exact w.rz r c
  ·obtain⟨x,p,rfl⟩:=zv.mp c;exact⟨d,Eh h k x (by rw[Qd];exact zQ _ p)⟩
 ·rw[Qf,w.tl n s]
  by_cases e:n=a
  ·rw[e,bR,Ek,l];exact Qd.symm
  ·rw[bU e,El e,zE]
end
structure S6(O:au)(M:Int)(N N':List Pf)(ro rl hs ro' rl' hs':Nat)(q q':Pf->Ix)(tt tt':Pf->Pf)(cl cl':Pf->Bool)(b b':Bool)(L L':List (Pf×Du)):Prop where
 a:W6 O M N ro rl hs q tt cl b L
 b:W6 O M N' ro' rl' hs' q' tt' cl' b' L'
 p:Ap N N' q q' rl rl'
def KS(O b:au):Prop:=∀(i:Nat)(a:List (DC×D)),O[i]?=some (.dk a)->b[i]?=some (.dk a)
def TX(O:au)(N:List Pf)(tx:Nat)(b:Pf->Pf):Prop:=∃a,O[tx]?=some (.dk a)/\a.length<=1000/\∀n∈N,cA a (D4 n)=some (.str (b n))
def TX.Sn{O b:au}{N:List Pf}{tx:Nat}{a:Pf->Pf}(h:TX O N tx a)(k:KS O b):TX b N tx a:=by
 obtain⟨c,e,f,d⟩:=h;exact⟨c,k _ _ e,f,d⟩
section
variable {O:au}{M:Int}{N N' G:List Pf}{ro rl hs ro' rl' hs' tx:Nat}{q q':Pf->Ix}{tt tt':Pf->Pf}{cl cl':Pf->Bool}{b b' bn:Bool}{L L':List (Pf×Du)}{K:List D}{a:Pf}
def S6.swap(s:S6 O M N N' ro rl hs ro' rl' hs' q q' tt tt' cl cl' b b' L L'):S6 O M N' N ro' rl' hs' ro rl hs q' q tt' tt cl' cl b' b L' L:=⟨s.b,s.a,s.p.symm⟩
def RW.stx(w:RW O M N G ro rl hs q tt cl bn K){k:List (DC×D)}(d:O[tx]?=some (.dk k))(l:tx≠hs)(y:Ob):RW (O.set tx y) M N G ro rl hs q tt cl bn K:=by
 have g:=w.rows;obtain⟨c,o,p,m⟩:=w.hs;have f:Fr O (O.set tx y) [tx]:=Fr.set;refine⟨f _ _ (bF (aG "Roll" "" w.r d)) w.r,f _ _ (bF (fH g d (λz=>nomatch z))) g,⟨c,f _ _ (bF (Ne.symm l)) o,p,m⟩,λn h=>?_,w.ne,w.nl⟩;obtain⟨⟨x,j⟩,⟨v,u,i⟩,s,t,e⟩:=(w.hx n h).ex;exact(w.hx n h).fr f (bF (aG "Hand" "" j d)) (bF (aG "Reader" "" i d)) (bF (aG "Maker" "" e.1 d)) (bF (fH e.2 d (λz=>nomatch z)))
def RW.apart(w:RW O M N G ro rl hs q tt cl bn K)(i:a∈N){h:List (DC×D)}(d:O[tx]?=some (.dk h)):tx∉[(q a).hd,(q a).rd,(q a).mr,(q a).n,rl]:=by
 have g:=w.rows;obtain⟨⟨o,f⟩,⟨m,l,e⟩,j,k,c⟩:=(w.hx a i).ex;exact mJ (aG "" "Hand" d f) (aG "" "Reader" d e) (aG "" "Maker" d c.1) (fH d c.2 (λz=>nomatch z)) (fH d g (λz=>nomatch z))
def S6.feed(s:S6 O M N N' ro rl hs ro' rl' hs' q q' tt tt' cl cl' b b' L L')(t:1<=M/\M<=200)(o:D1 N)(g:a∈N)(n:cl a=false){p:Pf}(m:FD (tt a++p)):
  ∃c k h A,qw [.ob ro,.str a,.str p] O=.ok (.lst A) c/\S6 c M N N' ro rl hs ro' rl' hs' k q' (up tt a (tt a++p)) tt' cl cl' b b' h L'/\KS O c:=by
 obtain⟨c,u,h,A,e,j,l,f⟩:=s.a.feed t o g n m;obtain⟨r,p⟩:=s.a.w.oth s.b.w s.p g l f;exact⟨c,_,h,A,e,⟨j,⟨r,s.b.ok,s.b.rz,s.b.tl⟩,p⟩,λi v d=>f i _ (s.a.w.apart g d) d⟩
def S6.close(s:S6 O M N N' ro rl hs ro' rl' hs' q q' tt tt' cl cl' b b' L L')(o:1<=M/\M<=200)(n:D1 N)(g:a∈N)(m:cl a=false):
  ∃c k h A,qx [.ob ro,.str a] O=.ok (.lst A) c/\S6 c M N N' ro rl hs ro' rl' hs' k q' tt tt' (up cl a true) cl' b b' h L'/\KS O c:=by
 obtain⟨c,t,h,A,e,j,l,f⟩:=s.a.close o n g m;obtain⟨r,p⟩:=s.a.w.oth s.b.w s.p g l f;exact⟨c,_,h,A,e,⟨j,⟨r,s.b.ok,s.b.rz,s.b.tl⟩,p⟩,λi u d=>f i _ (s.a.w.apart g d) d⟩
def S6.stx(s:S6 O M N N' ro rl hs ro' rl' hs' q q' tt tt' cl cl' b b' L L'){e:List (DC×D)}(d:O[tx]?=some (.dk e))(f:tx≠hs)(c:tx≠hs')(y:Ob):S6 (O.set tx y) M N N' ro rl hs ro' rl' hs' q q' tt tt' cl cl' b b' L L':=⟨⟨s.a.w.stx d f y,s.a.ok,s.a.rz,s.a.tl⟩,⟨s.b.w.stx d c y,s.b.ok,s.b.rz,s.b.tl⟩,s.p⟩
def S6.kp{c:au}(s:S6 O M N N' ro rl hs ro' rl' hs' q q' tt tt' cl cl' b b' L L')(k:Kp O c):S6 c M N N' ro rl hs ro' rl' hs' q q' tt tt' cl cl' b b' L L':=⟨⟨s.a.w.kp k,s.a.ok,s.a.rz,s.a.tl⟩,⟨s.b.w.kp k,s.b.ok,s.b.rz,s.b.tl⟩,s.p⟩
def xk(h:cA kv k=some e):(cT kv k d).length=kv.length:=by
 unfold cT
 cases z:kv.any _ with
 |true=>simp
 |false=>rw[Eb kv z] at h;cases h
def TX.put{c:List (DC×D)}(h:O[tx]?=some (.dk c))(i:c.length<=1000)(d:∀n∈N,cA c (D4 n)=some (.str (tt n)))(g:a∈N)(x:Pf):TX (O.set tx (.dk (cT c (D4 a) (.str x)))) N tx (up tt a x):=
 ⟨_,gs h,by rw[xk (d a g)];exact i,λn f=>by
  rw[Ed]
  by_cases e:n=a
  ·rw[e,if_pos rfl,bR]
  ·rw[if_neg (λz=>e (oG z)),d n f,bU e]⟩
end
def xl(n:Int):∃l,Tok l/\∀O,tO [.int n] O=.ok (.str l) O:=by
 have tk:=uS n;have m:=tk.len;obtain⟨j,g,k⟩:=mF _ (n:=(tok n).length+1) (by omega)
 have run:∀O l,(aq _
  _) [some _,some _] O=.rt _ O->tO [.int n] O=.ok (.str l) O:=λO l h=>by
  refine cH ?_;exact(aM (bc ((bA (DF rfl)).trans (u7 n O)))).trans h
 have a:∀O,ak _ (aC _ (aj (aa 0) (aj (kI 10) _))) (kI 4) [some (.int n),some (.str (tok n))] O=.ok _ O:=λO=>dj (eG rfl rfl (by decide) (by decide)) rfl (by decide)
 have d:∀O,ak _ (aC _ (aj (aa 0) (aj (kI 11) _))) (kI 5) [some (.int n),some (.str (tok n))] O=.ok _ O:=λO=>dj (eG rfl rfl (by decide) (by decide)) rfl (by decide)
 by_cases e:EM n 10 % 4=0
 ·exact⟨[10],⟨by decide,by simp⟩,λO=>run O _ (by
   rw[cZ,DR (Og (a O) rfl e) rfl]
   rfl)⟩
 ·by_cases f:EM n 11 % 5=0
  ·refine⟨(tok n).take j,⟨by grind,λc i=>tk.ok c (List.mem_of_mem_take i)⟩,λO=>run O _ ((aM (ug (IX (a O) rfl e))).trans ?_)⟩;rw[cZ,DR (Og (d O) rfl f) (Lc rfl ((dj (eG rfl rfl (by decide) (by decide)) (EF (b:=1) (lY rfl (by omega)) rfl) (by omega)).trans (by rw[g])) (by omega))];rfl
  ·exact⟨tok n,tk,λO=>run O _ ((aM (ug (IX (a O) rfl e))).trans ((aM (ug (IX (d O) rfl f))).trans rfl))⟩
section
variable {X:D}{c0:Option D}{M:Int}{N N':List Pf}{ro rl hs ro' rl' hs' tx:Nat}{q':Pf->Ix}{tt':Pf->Pf}{cl':Pf->Bool}{L':List (Pf×Du)}{tl:aN}
def e6(X:D)(c0:Option D)(M:Int)(N N':List Pf)(ro ro' tx:Nat)(tl:aN):aN:=some X::c0::some (DL N)::some (.int M)::some (DL N')::some (.ob ro)::some (.ob ro')::some (.ob tx)::tl
def Qh{N:List Pf}{k:Nat}(h:k<N.length):C7 (DL N) (.int (k:Int))=some (.str N[k]):=by
 show C7 (.lst (N.map D.str)) (.int (k:Int))=_;rw[vJ,pY,zH,zB h];rfl
theorem Qi(E:1<=M/\M<=200)(v:D1 N)(G:tx≠hs)(F:tx≠hs'):∀(j:List Int)(O:au)(q:Pf->Ix)(b:Pf->Pf)(L:List (Pf×Du))(x8 d:Option D),(∀n∈N,(b n).length+9 * j.length<=300)->S6 O M N N' ro rl hs ro' rl' hs' q q' b tt' (λ_=>false) cl' false true L L'->TX O N tx b ->
  ∃g T h L1 u o,bw (C9 8) Mb (j.map D.int) (e6 X c0 M N N' ro ro' tx (x8::d::tl)) O=.nx (e6 X c0 M N N' ro ro' tx (u::o::tl)) g/\S6 g M N N' ro rl hs ro' rl' hs' T q' h tt' (λ_=>false) cl' false true L1 L'/\TX g N tx h
 | [],O,q,b,L,x8,d,_,s,t=>⟨O,q,b,L,x8,d,rfl,s,t⟩
 |i::j,O,q,b,L,x8,d,hB,s,t=>by
  rw[zu] at hB;have U:0<N.length:=List.length_pos_iff.mpr v.ne;obtain⟨k,hk,C⟩:=mF (EM i 3) (n:=N.length) U;have f:N[k]∈N:=jh C;obtain⟨p,tk,H⟩:=xl i;have pl:=tk.len;obtain⟨W,m,d0,I⟩:=t;have hb:=hB _ f;have Z:FD (b N[k]++p):=⟨by rw[zg];omega,λc hc=>(zy.mp hc).elim ((s.a.ok _ f).ok c) (tk.ok c)⟩;have B:=s.stx m G F (.dk (cT W (D4 N[k]) (.str (b N[k]++p))));have h:=TX.put m d0 I f (b N[k]++p);obtain⟨O2,R,L2,A,e2,P,Y⟩:=B.feed E v f rfl Z
  obtain⟨g,Q,J,L3,u,o,e3,K,z⟩:=Qi E v G F j O2 R _ L2 (some (.int i)) (some (.str N[k])) (λn hn=>by
   by_cases e:n=N[k]
   ·rw[e,bR,zg];omega
   ·rw[bU e]
    have:=hB n hn
    omega) P (h.Sn Y)
  refine⟨g,Q,J,L3,u,o,(dF (ρ1:=e6 X c0 M N N' ro ro' tx (some (.int i)::d::tl)) rfl ?_).trans e3,K,z⟩;exact .trans (aM (bc (aW (x:=DL N) (y:=.int (k:Int)) rfl ((dj (eG (c:=i) rfl rfl (by decide) (by decide)) (jK (l:=N.map D.str) rfl) (by rw[ze];omega)).trans (by rw[ze,hk])) (Qh C)))) (.trans (aM (um (y:=.str N[k]) (k:=D4 N[k]) (iw (x:=b N[k]) (y:=p) (mH (y:=.str N[k]) rfl rfl rfl m (I _ f)) ((bA (DF (x:=.int i) rfl)).trans (H O)) (by omega)) rfl rfl rfl m (by omega))) (oE ((dg (n:=ro) rfl B.a.w.r rfl (DJ (x:=.str N[k]) rfl (DF ((bA (DF (x:=.int i) rfl)).trans (H _))))).trans e2)))
def GE(a:Pf->Pf)(ds:List (Pf×Pf)):Pf->Pf:=ds.foldl (λf d=>up f d.1 (f d.1++d.2)) a
def dD(d:Pf×Pf):D:=.tup [.str d.1,.str d.2]
theorem Qj{q:Pf->Ix}{p:Pf->Pf}{z:Pf->Bool}{L:List (Pf×Du)}(y:1<=M/\M<=200)(v:D1 N'):∀(a:List (Pf×Pf))(O:au)(q':Pf->Ix)(tt':Pf->Pf)(L':List (Pf×Du))(x8 j:Option D),(∀d∈a,d.1∈N')->(∀n∈N',FD (GE tt' a n))->S6 O M N N' ro rl hs ro' rl' hs' q q' p tt' z (λ_=>false) false true L L' ->
  ∃g G U l k,bw (cM 2 (bh (C9 9) (bh (C9 8) cP))) L9 (a.map dD) (e6 X c0 M N N' ro ro' tx (x8::j::tl)) O=.nx (e6 X c0 M N N' ro ro' tx (l::k::tl)) g/\S6 g M N N' ro rl hs ro' rl' hs' q G p (GE tt' a) z (λ_=>false) false true L U/\KS O g
 | [],O,q',tt',L',x8,j,_,_,s=>⟨O,q',L',x8,j,rfl,s,λ_ _ h=>h⟩
 |d::a,O,q',tt',L',x8,j,hd,ho,s=>by
  have u:=hd d zd
  have m:∀(a:List (Pf×Pf))(f:Pf->Pf)(n:Pf),∃r,GE f a n=f n++r:=λa=>by
   induction a with
   |nil=>exact λf n=>⟨[],(zE _).symm⟩
   |cons x a ih =>
    intro f n;obtain⟨r,c⟩:=ih (up f x.1 (f x.1++x.2)) n
    refine(by
     by_cases e:n=x.1
     ·rw[e,bR] at c;exact⟨x.2++r,by rw[e];exact c.trans (zz ..)⟩
     ·rw[bU e] at c
      exact⟨r,c⟩)
  obtain⟨r,c⟩:=m a (up tt' d.1 (tt' d.1++d.2)) d.1;rw[bR] at c;have o:=ho _ u
  have K:FD (tt' d.1++d.2):=by
   have:FD ((tt' d.1++d.2)++r):=c ▸ o
   have:=this.tk (tt' d.1++d.2).length
   rwa [List.take_left' rfl] at this
  obtain⟨R,F,T,A,Q,C,I⟩:=s.swap.feed y v u rfl K;obtain⟨g,E,L3,l,k,P,B,H⟩:=Qj y v a R F _ T (some (.str d.2)) (some (.str d.1)) (λx J=>hd x (zl _ J)) ho C.swap;exact⟨g,E,L3,l,k,(dF (ρ1:=e6 X c0 M N N' ro ro' tx (some (.str d.2)::some (.str d.1)::tl)) rfl (oE ((dg (n:=ro') rfl s.b.w.r rfl (DJ (x:=.str d.1) rfl (DF (x:=.str d.2) rfl))).trans Q))).trans P,B,λi t h=>H i t (I i t h)⟩
end
def Qk(ns:List Int)(k:Nat)(O:au):∃v,wD [.lst (ns.map D.int),.int (k:Int)] O=.ok (.int v) O:=by
 by_cases h:k<ns.length
 ·refine⟨ns[k],cH ?_⟩;unfold Li
  rw[cZ,DR (t5 rfl (jK rfl) (by rw[ze];omega)) (aW rfl rfl (by
   show C7 (.lst _) (.int _)=_;rw[vJ,pY,zH,zB h]
   rfl))]
  rfl
 ·refine⟨0,cH ?_⟩;exact(aM (ug (t6 rfl (jK rfl) (by rw[ze];omega)))).trans rfl
def xo(a:g d ρ=some ρ1)(c:b ρ1 O=.bk e f):bw g b (d::ds) ρ O=.nx e f:=by
 simp[bw,a,c]
def xp(e:a ρ O=.ok (.int i) O)(d:b ρ O=.ok (.int j) O)(c:0<j/\j<1073741824):ak gR a b ρ O=.ok (.int (i / j)) O:=aW e d (by rw[lM,lM,gz,if_pos c])
def xr(d:a ρ O=.ok (.str i) O)(c:b ρ O=.ok (.str j) O):az (ak EK a b) ρ O=.ok (decide (i≠j)) O:=(cg (aW d c rfl)).trans (by by_cases i=j<;>simp)
def xt{P:List Pf}(h:∀n∈P,∀c∈n,c<1114112):okE (.lst (P.map D.str))=true:=qb (n:=2) (by decide) λd b=>by
 obtain⟨x,a,rfl⟩:=zv.mp b;exact⟨rfl,nH (h x a),by show PyData.depth (.str _)<=2;simp[PyData.depth]⟩
def xv:GE f (ds++[d])=up (GE f ds) d.1 (GE f ds d.1++d.2):=by
 unfold GE;rw[List.foldl_append];rfl
def eO(a:Nat)(N:List Pf)(c:List Int)(l:Nat)(ds:List (Pf×Pf))(b:aN):aN:=some (.ob a)::some (DL N)::some (.lst (c.map D.int))::some (.ob l)::some (.lst (ds.map dD))::b
theorem Qm{ns:List Int}{tx l:Nat}{I:Pf->Pf}(W:D1 N)(U:∀n∈N,∀c∈n,c<1114112)(R:∀n∈N,FD (I n)):∀(m j:Nat)(O:au)(f:Pf->Pf)(ds:List (Pf×Pf))(x5 x6 x7 p x9:Option D),j+m<=200->ds.length<=j->(∀d∈ds,d.1∈N)->(∀n∈N,GE (λ_=>[]) ds n++f n=I n)->TX O N l f ->
  ∃B lt' o H G F E C,bw (C9 5) L8 ((List.range' j m).map λi:Nat=>D.int (i:Int)) (eO tx N ns l ds [x5,x6,x7,p,x9]) O=.nx (eO tx N ns l o [H,G,F,E,C]) B/\o.length<=200/\(∀d∈o,d.1∈N)/\(∀n∈N,GE (λ_=>[]) o n++lt' n=I n)/\TX B N l lt'/\∀(i:Nat)(x:Ob),i≠l->O[i]?=some x->B[i]?=some x
 | 0,j,O,f,ds,x5,x6,x7,p,x9,hj,hd,h1,h2,t=>⟨O,f,ds,x5,x6,x7,p,x9,rfl,by omega,h1,h2,t,λ_ _ _ h=>h⟩
 |m+1,j,O,f,ds,x5,x6,x7,p,x9,hj,hd,h1,h2,t=>by
  have ⟨kv,d1,d0,d2⟩:=t;have l6:=W.l4
  have ol:∀n∈N,FD (f n):=λn q=>by
   have:=(R n q).dr (GE (λ_=>[]) ds n).length
   rwa [<-h2 n q,List.drop_left' rfl] at this
  have J:∀x6 x7 p x9:Option D,bJ (bj (aa 1)) 1 [3] (C9 0) (az (ak EK (fV (aa 1) (aa 0)) (kS []))) (aa 0) (eO tx N ns l ds [some (.int (j:Int)),x6,x7,p,x9]) O=.ok (DL (N.filter λn=>decide (f n≠[]))) O:=λx6 x7 p x9=>by
   have z:=wO (g:=C9 0) (t:=az (ak EK (fV (aa 1) (aa 0)) (kS []))) (m:=aa 0) (λρ=>∃a,ρ=[a,some (.ob l)]) (λn=>decide (f n≠[])) D.str N [none,some (.ob l)] O [] ⟨none,rfl⟩ (by
    rintro n q ρ ⟨a,rfl⟩
    exact⟨_,rfl,⟨_,rfl⟩,xr (mH (y:=.str n) rfl rfl rfl d1 (d2 n q)) rfl,rfl⟩)
   exact iu (cU (l:=N.map D.str) rfl) (by rw[ze];omega) rfl z
  generalize hP:(N.filter λn=>decide (f n≠[]))=P at J
  rw[List.range'_succ,zh]
  by_cases K:P=[]
  ·subst K;refine⟨O,f,ds,_,_,_,_,_,xo (ρ1:=eO tx N ns l ds [some (.int (j:Int)),x6,x7,p,x9]) rfl (.trans (aM (bc (J _ _ _ _))) (.trans (by rw[cZ,dh (cg (aW (x:=.lst []) (y:=.lst []) rfl rfl rfl))];rfl) rfl)),by omega,h1,h2,t,λ_ _ _ h=>h⟩
  ·have p0:0<P.length:=List.length_pos_iff.mpr K;obtain⟨v,ev⟩:=Qk ns (j % 50) O;obtain⟨k,hk,Q⟩:=mF (EM v ((5+j / 50:Nat):Int)) (n:=P.length) p0;obtain⟨z,hz,z9⟩:=mF (EM v ((9+j / 50:Nat):Int)) (n:=9) (by decide);have r:P[k]∈N:=(List.mem_filter.mp (by rw[hP];exact jh Q)).1;have la:=ol _ r;have ll:=la.len;have t1:=TX.put d1 d0 d2 r ((f P[k]).drop (1+z))
   obtain⟨B,lt',o,H,G,F,E,C,e3,c1,c2,c3,c4,c5⟩:=Qm W U R m (j+1) _ _ (ds++[(P[k],(f P[k]).take (1+z))]) (some (.int (j:Int))) (some (DL P)) (some (.int v)) (some (.str P[k])) (some (.int ((1+z:Nat):Int))) (by omega) (by rw[zg,zR];omega) (λd L=>(zy.mp L).elim (h1 d) λy=>by rw[zj.mp y];exact r) (λn q=>by
    rw[xv]
    by_cases e:n=P[k]
    ·subst e;rw[bR,bR,zz];show _++((f P[k]).take (1+z)++(f P[k]).drop (1+z))=_;rw[List.take_append_drop];exact h2 _ q
    ·rw[bU e,bU e]
     exact h2 n q) t1
   refine⟨B,lt',o,H,G,F,E,C,(dF (ρ1:=eO tx N ns l ds [some (.int (j:Int)),x6,x7,p,x9]) rfl ?_).trans e3,c1,c2,c3,c4,λi x T h=>c5 i x T (by rw[zi (Ne.symm T)];exact h)⟩
   have X:∀(c:Nat)(A u Y s:Option D),ak aD (mC (.int (c:Int))) (ak gR (aa 5) (kI 50)) (eO tx N ns l ds [some (.int (j:Int)),A,u,Y,s]) O=.ok (.int ((c+j / 50:Nat):Int)) O:=λc A u Y s=>EF rfl ((xp (i:=(j:Int)) (j:=50) rfl rfl (by decide)).trans rfl)
   have ks:∀Z A u s:Option D,∀w:List (Pf×Pf),fV (aa 3) (aa 8) (eO tx N ns l w [Z,A,u,some (.str P[k]),s]) O=.ok (.str (f P[k])) O:=λZ A u s w=>mH (y:=.str P[k]) rfl rfl rfl d1 (d2 _ r)
   refine .trans (aM (bc (J _ _ _ _))) (.trans (aM (iR (cg (aW (x:=DL P) (y:=.lst []) rfl rfl ?a)))) (.trans (aM (bc ((bA (DJ (x:=.lst (ns.map D.int)) rfl (DF ((dj (i:=(j:Int)) (j:=50) rfl rfl (by decide)).trans rfl)))).trans ev))) (.trans (aM (bc (aW (x:=DL P) (y:=.int (k:Int)) rfl ((dj (eG (c:=v) rfl (X 5 _ _ _ _) (by omega) (by omega)) (jK (l:=P.map D.str) rfl) (by rw[ze];omega)).trans (by rw[ze,hk])) (Qh Q)))) (.trans (aM (bc (EF (a:=1) (b:=z) rfl ((dj (eG (c:=v) rfl (X 9 _ _ _ _) (by omega) (by omega)) rfl (by decide)).trans (by rw[<-hz];rfl))))) (.trans (aM (nY (d:=dD (P[k],(f P[k]).take (1+z))) (ds:=ds.map dD) (qD (DJ (x:=.str P[k]) rfl (DF (Lc (t:=f P[k]) (a:=1+z) (ks _ _ _ _ _) rfl (by omega)))) (show 2<=1000000 by decide)) rfl (by rw[ze];omega))) (.trans (um (y:=.str P[k]) (k:=D4 P[k]) (N9 (t:=f P[k]) (a:=1+z) (mH (y:=.str P[k]) rfl rfl rfl d1 (d2 _ r)) rfl (by omega)) rfl rfl rfl d1 (by omega)) ?b))))))
   case a =>
    cases P with
    |nil=>exact absurd rfl K
    |cons x P =>
     show DA (.lst ((x::P).map D.str)) (.lst [])=_;rw[gN,xt λn q=>U n (List.mem_filter.mp (by rw[hP];exact q)).1,OF];rfl
   case b =>
    unfold eO;rw[zI];rfl
section
variable {N:List Pf}{ns:List Int}{tx l:Nat}{lt:Pf->Pf}{O:au}
theorem Qn{ns:List Int}{tx l:Nat}{lt:Pf->Pf}{O:au}{G:List Pf}(t:TX O G l lt){x5 x6 x7 x9:Option D}:∀(R:List Pf)(b:List (Pf×Pf))(c:Option D),(∀n∈R,n∈G)->b.length+R.length<=300 ->
  ∃d,bw (C9 8) L7 (R.map D.str) (eO tx N ns l b [x5,x6,x7,c,x9]) O=.nx (eO tx N ns l (b++R.map λn=>(n,lt n)) [x5,x6,x7,d,x9]) O
 | [],b,c,_,_=>⟨c,by rw[zY,zY,zE];rfl⟩
 |a::R,b,c,hR,hl=>by
  rw[zu] at hl;have ⟨kv,d1,d0,d2⟩:=t;have g:=hR a zd;obtain⟨d,e⟩:=Qn t R (b++[(a,lt a)]) _ (λn f=>hR n (zl _ f)) (by rw[zg,zR];omega);refine⟨d,(dF rfl ((nY (qD (DJ rfl (DF (mH rfl rfl rfl d1 (d2 a g)))) (show 2<=1000000 by decide)) rfl (by rw[ze];omega)).trans ?_)).trans (e.trans (by rw[zz];rfl))⟩;unfold eO;rw[zI];rfl
theorem Qp{lt:Pf->Pf}:∀(R:List Pf)(f:Pf->Pf)(n:Pf),R.Nodup->GE f (R.map λn=>(n,lt n)) n=if n∈R then f n++lt n else f n
 | [],f,n,_=>(if_neg λz=>nomatch z).symm
 |a::R,f,n,nd=>by
  obtain⟨c,b⟩:=List.nodup_cons.mp nd;have i:=Qp (lt:=lt) R (up f a (f a++lt a)) n b;refine Eq.trans i ?_
  by_cases e:n=a
  ·subst e;rw[if_neg c,bR,if_pos zd]
  ·rw[bU e]
   by_cases z:n∈R
   ·rw[if_pos z,if_pos (zl _ z)]
   ·rw[if_neg z,if_neg λy=>(zk.mp y).elim e z]
def xw{f:Pf->Pf}(g:D1 N)(w:∀n∈N,∀c∈n,c<1114112)(u:∀n∈N,FD (f n))(t:TX O N tx f):
  ∃m a,CN [.ob tx,DL N,.lst (ns.map D.int)] O=.ok (.lst (a.map dD)) m/\(∀d∈a,d.1∈N)/\(∀n∈N,GE (λ_=>[]) a n=f n)/\Kp O m:=by
 have ⟨kv,d1,d0,d2⟩:=t;have E:=g.l4;obtain⟨O1,lt,a,s,r,q,p,o,k,F,B,A,z,y⟩:=Qm (tx:=tx) (ns:=ns) (l:=O.length) g w u 200 0 (O++[.dk kv]) f [] none none none none none (by omega) (zc _) (λ_ h=>nomatch h) (λn e=>rfl) ⟨kv,dU,d0,d2⟩;obtain⟨C,j⟩:=Qn (N:=N) (ns:=ns) (tx:=tx) z (x5:=s) (x6:=r) (x7:=q) (x9:=o) N a p (λ_ h=>h) (by omega);refine⟨O1,a++N.map λn=>(n,lt n),cH (b:=CK) (ρ:=[some (.ob tx),some (DL N),some (.lst (ns.map D.int)),none,none,none,none,none,none,none]) ?_,λd v=>?_,λn e=>?_,λi x h=>y i x (zt (cV h)) (dH i x h)⟩
 ·unfold L8 at k;unfold L7 at j;unfold CK;refine .trans (aM (ir (d:=.ob O.length) (O1:=O++[.dk kv]) ?_)) (.trans (aM (bc (d:=.lst []) rfl)) (.trans (aM (dW (Lw (n:=200) rfl (by decide)) (.trans (by rw[gW,List.range_eq_range'];rfl) k))) (.trans (aM (dW (cU (l:=N.map D.str) rfl) j)) rfl)));unfold Aj;show C8.bind (C8.ok (D.ob tx) O) _=_;rw[aR];dsimp only;rw[d1]
 ·rcases zy.mp v with h | h
  ·exact B d h
  ·obtain⟨n,e,rfl⟩:=zv.mp h;exact e
 ·have:=A n e
  unfold GE at this ⊢;rw[List.foldl_append];exact(Qp N _ n g.nd).trans ((if_pos e).trans this)
end
section
variable {X:D}{c0 x8:Option D}{M:Int}{N N':List Pf}{ro rl hs ro' rl' hs' tx:Nat}{tt tt':Pf->Pf}{tl:aN}
def Qq{b:Pf->Bool}{a n:Pf}(h:b n=true):up b a true n=true:=by
 unfold up
 split
 ·rfl
 ·exact h
theorem Qs(B:1<=M/\M<=200)(G:D1 N)(g:D1 N'):∀(R:List (Pf×Pf))(O:au)(q k:Pf->Ix)(d c:Pf->Bool)(L o:List (Pf×Du))(j x10:Option D),(∀r∈R,(r.1∈N/\d r.1=false)/\r.2∈N'/\c r.2=false)->(R.map Prod.fst).Nodup->(R.map Prod.snd).Nodup->S6 O M N N' ro rl hs ro' rl' hs' q k tt tt' d c false true L o ->
  ∃f u t m l E C p e,bw (cM 2 (bh (C9 9) (bh (C9 10) cP))) Me (R.map dD) (e6 X c0 M N N' ro ro' tx (x8::j::x10::tl)) O=.nx (e6 X c0 M N N' ro ro' tx (x8::p::e::tl)) f/\S6 f M N N' ro rl hs ro' rl' hs' u t tt tt' m l false true E C/\(∀n,d n=true\/n∈R.map Prod.fst->m n=true)/\(∀n,c n=true\/n∈R.map Prod.snd->l n=true)/\KS O f
 | [],O,q,k,d,c,L,o,j,x10,_,_,_,s=>⟨O,q,k,d,c,L,o,j,x10,rfl,s,λn h=>h.elim id (λz=>nomatch z),λn h=>h.elim id (λz=>nomatch z),λ_ _ h=>h⟩
 |r::R,O,q,k,d,c,L,o,j,x10,hR,n1,n2,s=>by
  obtain⟨⟨a1,a2⟩,b1,b2⟩:=hR r zd;rw[zh] at n1 n2;obtain⟨Z,Y⟩:=List.nodup_cons.mp n1;obtain⟨W,n6⟩:=List.nodup_cons.mp n2;obtain⟨O1,u,E,A1,e1,F,k1⟩:=s.close B G a1 a2;obtain⟨O2,t,C,A2,e2,Q,k2⟩:=F.swap.close B g b1 b2
  obtain⟨f,U,T,m,l,L3,L4,p,e,e3,P,m1,m2,k3⟩:=Qs B G g R O2 u t (up d r.1 true) (up c r.2 true) E C (some (.str r.1)) (some (.str r.2)) (λx A=>by
   obtain⟨⟨K,J⟩,I,H⟩:=hR x (zl _ A)
   exact⟨⟨K,by rw[bU (λy=>Z (by rw[<-y];exact List.mem_map_of_mem A))];exact J⟩,I,by rw[bU (λy=>W (by rw[<-y];exact List.mem_map_of_mem A))];exact H⟩) Y n6 Q.swap
  refine⟨f,U,T,m,l,L3,L4,p,e,(dF (ρ1:=e6 X c0 M N N' ro ro' tx (x8::some (.str r.1)::some (.str r.2)::tl)) rfl ?_).trans e3,P,λn h=>m1 n ?_,λn h=>m2 n ?_,λi v h=>k3 i v (k2 i v (k1 i v h))⟩
  ·exact .trans (aM (oE ((dg (n:=ro) rfl s.a.w.r rfl (DF (x:=.str r.1) rfl)).trans e1))) (oE ((dg (n:=ro') rfl F.b.w.r rfl (DF (x:=.str r.2) rfl)).trans e2))
  ·rcases h with h | h
   ·exact .inl (Qq h)
   ·exact(zk.mp h).elim (λz=>.inl (by rw[z];exact bR)) .inr
  ·rcases h with h | h
   ·exact .inl (Qq h)
   ·exact(zk.mp h).elim (λz=>.inl (by rw[z];exact bR)) .inr
end
def xy(r:List LT)(c:r.length<=200)(O:au):Cz [.lst (r.map dL)] O=.ok (.lst ((r.map l3).map dK)) O:=by
 refine cH (b:=Lq) (ρ:=[some (.lst (r.map dL))]) (fG ?_)
 have z:=gO (g:=C9 0) (t:=bD) (m:=aU (aj (ak C7 (aa 0) (kI 0)) (aj (ak C7 (bf (aj (ak C7 (aa 0) (kI 1)) (aj (kS [46]) ao))) (aO mW (aj (ak DA (ak C7 (aa 0) (kI 0)) (kS [32])) ao))) (aj (ak C7 (aa 0) (kI 2)) ao)))) (λρ=>∃a,ρ=[a]) dL (λx=>dK (l3 x)) r [none] O [] ⟨none,rfl⟩ (by
  rintro x hx ρ ⟨a,rfl⟩;refine⟨_,rfl,⟨_,rfl⟩,rfl,?_⟩
  have e:aO mW (aj (ak DA (ak C7 (aa 0) (kI 0)) (kS [32])) ao) [some (dL x)] O=.ok (.int (if x.1=32 then 1 else 0)) O:=by
   refine iM (DF (aW (x:=.str [x.1]) (y:=.str [32]) rfl rfl rfl)) ?_
   by_cases h:x.1=32
   ·rw[h];rfl
   ·rw[if_neg h,show decide ([x.1]=[32])=false from zo (λz=>h (by injection z))];rfl
  refine qD (DJ (x:=.str [x.1]) rfl (DJ (x:=.str [if x.1=32 then 46 else x.2.1]) (aW (x:=.lst [.str [x.2.1],.str [46]]) rfl e ?_) (DF (x:=.str [x.2.2.1]) rfl))) (show 3<=1000000 by decide)
  by_cases h:x.1=32
  ·rw[if_pos h,if_pos h];rfl
  ·rw[if_neg h,if_neg h];rfl)
 rw[zO] at z;refine(iu (m:=bj (aa 0)) (own:=1) (PM:=[]) (cU (l:=r.map dL) rfl) (by rw[ze];omega) rfl z).trans ?_;rw[zL];rfl
def qN(M:Int)(t:Pf):D:=.lst ((dI M t).map EX)
def xI{v:Pf->D}{P:List Pf}{a:Pf}(b:a∉P):cT (P.map λn=>(D4 n,v n)) (D4 a) (v a)=(P++[a]).map λn=>(D4 n,v n):=by
 unfold cT;rw[if_neg,zI]
 ·rfl
 ·intro z;obtain⟨p,e,d⟩:=List.any_eq_true.mp z;obtain⟨m,c,rfl⟩:=zv.mp e;exact b (oG (zT d) ▸ c)
section
variable {X:D}{c0 x8 x10:Option D}{M:Int}{N N':List Pf}{ro rl hs ro' rl' hs' tx du:Nat}{tt t':Pf->Pf}{cl cl':Pf->Bool}{q q':Pf->Ix}{L L':List (Pf×Du)}{tl:aN}
theorem Qt(j:1<=M/\M<=200)(I:D1 N)(A:du≠hs)(w:du≠hs')(u:du≠tx):∀(R P:List Pf)(O:au)(f x12:Option D),(P++R).Nodup->(∀n∈R,n∈N)->P.length+R.length<=100->S6 O M N N' ro rl hs ro' rl' hs' q q' tt t' cl cl' false true L L'->TX O N tx tt->O[du]?=some (.dk (P.map λn=>(D4 n,qN M (tt n)))) ->
  ∃e l c,bw (C9 9) Mc (R.map D.str) (e6 X c0 M N N' ro ro' tx (x8::f::x10::some (.ob du)::x12::tl)) O=.nx (e6 X c0 M N N' ro ro' tx (x8::l::x10::some (.ob du)::c::tl)) e/\S6 e M N N' ro rl hs ro' rl' hs' q q' tt t' cl cl' false true L L'/\TX e N tx tt/\e[du]?=some (.dk ((P++R).map λn=>(D4 n,qN M (tt n))))
 | [],P,O,f,x12,_,_,_,s,t,d=>⟨O,f,x12,rfl,s,t,by rw[zE];exact d⟩
 |a::R,P,O,f,x12,nd,hR,hl,s,t,d=>by
  rw[zu] at hl;have r:=hR a zd
  have m:a∉P:=λz=>(je.mp nd).2.2 a z a zd rfl
  have ⟨H,d1,d0,d2⟩:=t;have g:=s.a.ok a r;have T:=g.len
  have U:(dI M (tt a)).length<=301:=by
   have:=Qe j g.t true
   unfold xj at this;rw[if_pos rfl] at this;omega
  have J:=Eh j g.t;obtain⟨v,Q⟩:=wh j g.t O;have G:=s.kp (dH (O:=O) (x:=.ml ((dI M (tt a)).map bY)));have C:=t.Sn (λi H h=>dH (O:=O) (x:=.ml ((dI M (tt a)).map bY)) i _ h);have o:=dH (O:=O) (x:=.ml ((dI M (tt a)).map bY)) _ _ d;have F:=G.stx o A w (.dk (cT (P.map λn=>(D4 n,qN M (tt n))) (D4 a) (qN M (tt a))));have ⟨kv',k1,k0,k2⟩:=C
  obtain⟨e,l,c,K,E,B,d3⟩:=Qt j I A w u R (P++[a]) _ (some (.str a)) (some (.ob O.length)) (by rw[zz];exact nd) (λn m=>hR n (zl _ m)) (by rw[zg,zR];omega) F ⟨kv',by rw[zi u];exact k1,k0,k2⟩ (by
   rw[gs o]
   exact congrArg (λx=>some (Ob.dk x)) (xI (v:=λn=>qN M (tt n)) m))
  rw[zz] at d3;refine⟨e,l,c,(dF (ρ1:=e6 X c0 M N N' ro ro' tx (x8::some (.str a)::x10::some (.ob du)::x12::tl)) rfl ?_).trans K,E,B,d3⟩;refine .trans (aM (ir (d:=.ob O.length) (wJ ((bA (DJ (mH (y:=.str a) rfl rfl rfl d1 (d2 a r)) (DJ (x:=.int M) rfl (DF (x:=.bl true) rfl)))).trans Q) rfl rfl))) (um (y:=.str a) (k:=D4 a) (d:=qN M (tt a)) ?_ rfl rfl rfl o (by rw[ze];omega));refine Ot (λρ=>∃a b,ρ=[a,b]) bY EX (dI M (tt a)) rfl dU (by omega) ⟨_,_,rfl⟩ ?_;rintro x hx ρ ⟨p,q,rfl⟩;exact⟨_,rfl,⟨_,_,rfl⟩,rfl,qD (DJ ((bA (DF (x:=.lst (x.1.map dL)) rfl)).trans (xy x.1 (J x hx).2 _)) (DF (x:=.str x.2) rfl)) (show 2<=1000000 by decide)⟩
end
def xS{r:List LT}(g:∀x∈r,FK x):∀d∈(r.map l3).map dK,d8 d=true/\(toP d).canLay0=true/\(toP d).depth<=5:=λd h=>by
 obtain⟨y,f,rfl⟩:=zv.mp h;obtain⟨x,a,rfl⟩:=zv.mp f;obtain⟨j,e,b⟩:=g x a;have e:=Ov e;have b:=Ov b
 have q:∀c,c<1114112->(PyData.str _).canLay0=true:=λc i=>nH λx a=>by rw[zj.mp a];exact i
 refine⟨rfl,?_,Nat.le_of_ble_eq_true rfl⟩;show((PyData.str (S [x.1])).canLay0&&((PyData.str (S [if x.1=32 then 46 else x.2.1])).canLay0&&((PyData.str (S [x.2.2.1])).canLay0&&true)))=true;rw[q _ (by omega),q _ (by split<;>omega),q _ (by omega)];rfl
def x3{l:List Du}(h:∀x∈l,gC x):okE (.lst (l.map EX))=true:=qb (n:=10) (by decide) λd b=>by
 obtain⟨x,a,rfl⟩:=zv.mp b;exact Pq _ x.2 (xS (h x a).1) (h x a).2
def ya(O:au)(x:Du):dC O 3 (EX x)=EX x:=by
 show D.tup [.lst (((x.1.map l3).map dK).map (dC O 1)),.str x.2]=_;unfold EX;rw[zL,zL,zL];rfl
theorem Qu(v:Pf->D){n:Pf}:∀{N:List Pf},n∈N->cA (N.map λn=>(D4 n,v n)) (D4 n)=some (v n)
 |m::N,h=>by
  unfold cA;rw[zh,List.find?_cons]
  by_cases e:m=n
  ·subst e;rw[zw rfl];rfl
  ·rw[zo (λz=>e (oG z))];exact Qu v ((zk.mp h).resolve_left (Ne.symm e))
theorem Qv{O:au}{N:List Pf}{f:Pf->Nat}{w:Pf->List Du}(e:∀n∈N,∀x∈w n,gC x)(g:∀n∈N,O[f n]?=some (.ml ((w n).map EX))):∀G:List Pf,(∀n∈G,n∈N)->m9 O 4 (N.map λn=>(D4 n,D.lst ((w n).map EX))) (G.map λn=>(D4 n,.ob (f n)))=some true
 | [],_=>rfl
 |a::G,h=>by
  have b:=h a zd
  have i:=Qv e g G λn j=>h n (zl _ j)
  have d:((w a).map EX).map (dC O 3)=(w a).map EX:=by rw[zL];exact ja λx _=>ya O x
  have l:dC O 4 (.ob (f a))=.lst ((w a).map EX):=by
   show(match O[f a]? with | some (.ml ds)=>D.lst (ds.map (dC O 3)) | _=>.ob (f a))=_;rw[g a b];exact congrArg D.lst d
  have k:dC O 4 (.lst ((w a).map EX))=.lst ((w a).map EX):=congrArg D.lst d;have c:=x3 (e a b);rw[zh];unfold m9;dsimp only;rw[Qu _ b];dsimp only;rw[l,k,c,Bool.and_self,if_pos rfl,i,Aq c];rfl
def Qw{O:au}{N G:List Pf}{d b B:Nat}{f:Pf->Nat}{w:Pf->List Du}{ρ:aN}{a mb:L2.M D}{c:au}(k:∀n∈G,n∈N)(i:G.length=N.length)(T:E4 G O d f (λn=>(w n).map EX) B)(j:∀n∈N,n∈G)(e:∀n∈N,∀x∈w n,gC x)(h:O[b]?=some (.dk (N.map λn=>(D4 n,D.lst ((w n).map EX)))))
  (m:a ρ c=.ok (.ob d) O) (l:mb ρ O=.ok (.ob b) O):az (pQ 4 a mb) ρ c=.ok false O:=by
 refine pV ?_;unfold pQ;rw[m,aR,l,aR];dsimp only;rw[T.dk,h];dsimp only;rw[Qv e (λn g=>T.ml n (j n g)) G k];dsimp only;rw[ze,ze,i];simp
theorem Qx{l:Pf}{x:Nat}:∀(a b:Pf)(k:Nat),l.drop k=a++x::b->x∉a->∀n,a.length<n->(forIn (List.range' k n) (#[],0) (StrLaws.occBody (S l) (S [x]) l.length 1)).run.fst = #[k+a.length]
 | [],b,k,d,_,0,hn=>absurd hn (zW _)
 | [],b,k,d,_,n+1,_=>by
  have o:k<l.length:=by
   have:=congrArg List.length d
   rw[List.length_drop,zg,zu] at this;omega
  have e:Builtin.Str.subAt (S l) (S [x]) k=true:=by
   rw[StrLaws.subAt_eq,iB,iB,fO,d];simp
  rw[List.range'_succ,List.forIn_cons]
  have g:∀(m:Pf)(f:Nat),(forIn m (#[k],f) (StrLaws.occBody (S l) (S [x]) l.length 1)).run.fst = #[k]:=λm=>by
   induction m with
   |nil=>intro f;rfl
   |cons c m ih =>
    intro f;rw[List.forIn_cons]
    have:StrLaws.occBody (S l) (S [x]) l.length 1 c (#[k],f)=pure (ForInStep.yield (#[k],f)):=by
     unfold StrLaws.occBody;rw[if_neg (λz=>absurd z.1.1.1 (by simp))]
    rw[this];exact ih f
  have:StrLaws.occBody (S l) (S [x]) l.length 1 k (#[],0)=pure (ForInStep.yield (#[k],k+(S [x]).length)):=by
   unfold StrLaws.occBody;rw[if_pos ⟨⟨⟨by simp,Nat.zero_le _⟩,by rw[fO];show k+1<=l.length;omega⟩,e⟩];rfl
  rw[this];exact g _ _
 |c::a,b,k,d,hx,0,hn=>absurd hn (Nat.not_lt_zero _)
 |c::a,b,k,d,hx,n+1,hn=>by
  rw[List.range'_succ,List.forIn_cons]
  have i:c≠x:=λz=>hx (by rw[z];exact zd)
  have:StrLaws.occBody (S l) (S [x]) l.length 1 k (#[],0)=pure (ForInStep.yield (#[],0)):=by
   unfold StrLaws.occBody;rw[if_neg];rintro⟨_,h⟩;rw[StrLaws.subAt_eq,iB,iB,fO,d,beq_iff_eq] at h;have j:[c]=[x]:=h;exact i (List.cons.inj j).1
  rw[this]
  have hd':l.drop (k+1)=a++x::b:=by
   rw[<-List.drop_drop,d];rfl
  have q:=Qx a b (k+1) hd' (λz=>hx (zl _ z)) n (by rw[zu] at hn;omega);show(forIn (List.range' (k+1) n) (#[],0) (StrLaws.occBody (S l) (S [x]) l.length 1)).run.fst=_;rw[q,zu];congr 2;omega
def Gc(a b:Pf)(x:Nat)(c:x∉a):Builtin.Str.occurrences (S (a++x::b)) (S [x]) 0 (S (a++x::b)).length 1=[a.length]:=by
 rw[StrLaws.occ_eq,fO];have q:=Qx (l:=a++x::b) a b 0 rfl c ((a++x::b).length+1 - 0) (by rw[zg];omega);rw[q,jp]
theorem Qy{b:Bool}{N:List Pf}:∀(L:List (Pf×Du))(k:Nat),eQ b N k L=(L.zipIdx (k+1)).map λp=>D.str (qL b N p.1.1 p.2 p.1.2)
 | [],k=>rfl
 |r::L,k=>by
  rw[List.zipIdx_cons,zh,<-Qy L (k+1)];rfl
def bC(N:List Pf)(r:Pf×Du):Pf:=EG N r.1 r.2.2++IQ r.2.1
theorem Qz{N:List Pf}:∀(L:List (Pf×Du))(k:Nat),eQ false N k L=L.map λr=>D.str (bC N r)
 | [],k=>rfl
 |r::L,k=>by
  rw[zh,<-Qz L (k+1)];rfl
def yb(k:Nat):32∉iV k:=λh=>by
 obtain⟨c,a,e⟩:=zv.mp h;have d:=Nat.isDigit_of_mem_toDigits (by decide) (by decide) a;unfold Char.isDigit at d;rw[zC,decide_eq_true_eq,decide_eq_true_eq] at d
 have:=d.1
 have z:(48:Nat)<=c.toNat:=this;omega
def yi{m:L2.M D}{ρ:aN}{O:au}{a b:Pf}(h:32∉a)(c:m ρ O=.ok (.str (a++32::b)) O):pJ m (kS [32]) ρ O=.ok (.int (a.length:Int)) O:=by
 unfold pJ;rw[c,aR];show(match Builtin.Str.occurrences (S (a++32::b)) (S [32]) 0 (S (a++32::b)).length 1 with | i::_=>C8.ok (D.int (i:Int)) O | []=>.no)=_;rw[Gc a b 32 h]
section
variable {N:List Pf}{L:List (Pf×Du)}{ρ:aN}{O:au}{m:L2.M D}
def xn(b:D1 N){r:Pf×Du}(h:iz N r):wd N+1<=(bC N r).length/\(bC N r).length<=6000:=by
 have c:=Ki b;have d:=(xf h.2.2 h.2.1.1).l;have a:=xg (W:=r.2.2) h.1;unfold bC;rw[zg,a];omega
def yk(f:D1 N)(h:∀r∈L,iz N r)(l:L.length<=90000)(d:m ρ O=.ok (.lst (eQ true N 0 L)) O):bJ (bj m) 1 [] (C9 0) bD (D5 (aa 0) (D2 (ak aD (pJ (aa 0) (kS [32])) (kI 1))) EA) ρ O=.ok (.lst (L.map λr=>D.str (bC N r))) O:=by
 have z:=gO (g:=C9 0) (t:=bD) (m:=D5 (aa 0) (D2 (ak aD (pJ (aa 0) (kS [32])) (kI 1))) EA) (λρ=>∃a,ρ=[a]) (λp:(Pf×Du)×Nat=>D.str (qL true N p.1.1 p.2 p.1.2)) (λp=>D.str (bC N p.1)) (L.zipIdx 1) [none] O [] ⟨none,rfl⟩ (by
  rintro p hp ρ ⟨a,rfl⟩;have c:=h p.1 (List.fst_mem_of_mem_zipIdx hp);have j:=xn f c
  have i:p.2<=90001:=by
   have:=List.snd_lt_of_mem_zipIdx hp
   omega
  have e:qL true N p.1.1 p.2 p.1.2=iV p.2++32::bC N p.1:=by
   show((iV p.2++[32])++EG N p.1.1 p.1.2.2)++IQ p.1.2.1=_;unfold bC;simp
  have dl:=Ea (k:=p.2) (by omega);refine⟨_,rfl,⟨_,rfl⟩,rfl,?_⟩;rw[e];refine(mD (t:=iV p.2++32::bC N p.1) rfl (mz (EF (a:=(iV p.2).length) (b:=1) (yi (yb p.2) rfl) rfl)) rfl (by rw[zg,zu];omega)).trans ?_
  rw[tX,show iV p.2++32::bC N p.1=(iV p.2++[32])++bC N p.1 by simp,List.drop_left' (by rw[zg];rfl)])
 rw[zO,<-Qy L 0] at z;refine(iu (m:=bj m) (own:=1) (PM:=[]) (cU d) (by rw[oH];omega) rfl z).trans ?_
 have q:(L.zipIdx 1).map (λp=>D.str (bC N p.1))=((L.zipIdx 1).map Prod.fst).map λr=>D.str (bC N r):=by rw[zL];rfl
 rw[q,List.zipIdx_map_fst]
end
section
variable {N:List Pf}{L:List (Pf×Du)}{O:au}{n:Pf}
def yn{a b:L2.M D}{ρ:aN}{O:au}{k:Nat}(d:a ρ O=.ok (.str [32]) O)(c:b ρ O=.ok (.int (k:Int)) O)(e:k<=8):ak gk a b ρ O=.ok (.str (List.replicate k 32)) O:=aW d c (by
 rw[pR,lM]
 have:k=0\/k=1\/k=2\/k=3\/k=4\/k=5\/k=6\/k=7\/k=8:=by omega
 rcases this with rfl | rfl | rfl | rfl | rfl | rfl | rfl | rfl | rfl<;>rfl)
def QB(c:D1 N)(k:∀r∈L,iz N r)(q:L.length<=90000)(d:n∈N)(O:au):qz [.lst (L.map λr=>D.str (bC N r)),.str n,.int (wd N:Int)] O=.ok (.lst ((L.filter λr=>decide (r.1=n)).map λr=>D.str (bC N r))) O:=by
 have o:=Ki c;have f:=qK d;refine cH (b:=Lr) (ρ:=[some (.lst (L.map λr=>D.str (bC N r))),some (.str n),some (.int (wd N:Int))]) (fG ?_)
 have z:=wO (g:=C9 0) (t:=az (ak DA (D5 (aa 0) EA (D2 (mG (aa 2)))) (ak aD (aa 1) (ak gk (kS [32]) (ak gH (aa 2) (aO aX (aj (aa 1) ao))))))) (m:=aa 0) (λρ=>∃a,ρ=[a,some (.str n),some (.int (wd N:Int))]) (λr=>decide (r.1=n)) (λr=>D.str (bC N r)) L [none,some (.str n),some (.int (wd N:Int))] O [] ⟨none,rfl⟩ (by
  rintro r hr ρ ⟨a,rfl⟩;have h:=k r hr;have p:=xn c h;refine⟨_,rfl,⟨_,rfl⟩,(wZ (i:=(bC N r).take (wd N)) (j:=GN (wd N) n) ((mD (t:=bC N r) rfl rfl (mz (i:=(wd N:Int)) rfl) (by omega)).trans (by rw[tW])) (iw (x:=n) (y:=List.replicate (wd N - n.length) 32) rfl (yn rfl ((CQ (i:=(wd N:Int)) (j:=(n.length:Int)) rfl (lY (t:=n) rfl (by omega))).trans (by rw[Int.ofNat_sub f])) (by omega)) (by rw[List.length_replicate];omega))).trans ?_,rfl⟩
  have tk:(bC N r).take (wd N)=GN (wd N) r.1:=by
   unfold bC EG;rw[zz,List.take_left' (w5 h.1)]
  rw[tk]
  by_cases e:r.1=n
  ·rw[e,zw rfl,zw rfl]
  ·rw[zo (λy=>e (PJ (c.ok _ h.1) (c.ok n d) y)),zo e])
 rw[zO] at z;exact iu (own:=1) (PM:=[1,2]) (cU (l:=L.map λr=>D.str (bC N r)) rfl) (by rw[ze];omega) rfl z
end
theorem QC{N:List Pf}{n:Pf}:∀L:List (Pf×Du),(L.filter λr=>decide (r.1=n)).map (λr=>D.str (bC N r))=(cB L n).map λx=>D.str (bC N (n,x))
 | []=>rfl
 |r::L=>by
  have i:=QC (N:=N) (n:=n) L;unfold cB at i ⊢
  by_cases e:r.1=n
  ·rw[List.filter_cons_of_pos (p:=λr:Pf×Du=>decide (r.1=n)) (zw e),zh,zh,zh,i];subst e;rfl
  ·rw[List.filter_cons_of_neg (p:=λr:Pf×Du=>decide (r.1=n)) (λz=>e (zT z)),i]
def yv{N N':List Pf}(h:∀n,n∈N↔n∈N')(f:N≠[])(e:N'≠[]):wd N=wd N':=by
 obtain⟨a,d,i⟩:=uf f;obtain⟨b,c,g⟩:=uf e
 have:=qK ((h a).mp d)
 have:=qK ((h b).mpr c)
 omega
def yy{N a:List Pf}(h:wd N=wd a)(r:Pf×Du):bC N r=bC a r:=by
 unfold bC EG;rw[h]
def yA{N:List Pf}(d:D1 N){n W:Pf}(b:n∈N):∀c∈EG N n W,c<1114112:=λc a=>by
 unfold EG GN at a
 rcases zy.mp a with h | h
 ·rcases zy.mp h with h | h
  ·have:=((d.ok n b).ok c h).2
   omega
  ·rw[(List.mem_replicate.mp h).2];decide
 ·rw[zj.mp h]
  split<;>decide
def yB{l:Pf}:okE (.lst (l.map λn:Nat=>D.int (n:Int)))=true:=qb (n:=5) (by decide) λd a=>by
 obtain⟨x,b,rfl⟩:=zv.mp a;exact⟨rfl,rfl,by show PyData.depth (.int _)<=5;simp[PyData.depth]⟩
section
variable {N:List Pf}{n:Pf}{Q:List Du}{ρ:aN}{O:au}{i:Nat}
def yT(e:D1 N)(c:n∈N)(d:∀x∈Q,iz N (n,x))(k:Q.length<=90000)(h:ρ[i]?=some (some (.lst (Q.map λx=>D.str (bC N (n,x))))))(f:ρ[13]?=some (some (.int (wd N:Int)))):bJ (bj (aa i)) 1 [13] (C9 0) bD (D5 (aa 0) EA (D2 (ak aD (aa 1) (kI 1)))) ρ O=.ok (.lst (Q.map λx=>D.str (EG N n x.2))) O:=by
 have z:=gO (g:=C9 0) (t:=bD) (m:=D5 (aa 0) EA (D2 (ak aD (aa 1) (kI 1)))) (λρ=>∃a,ρ=[a,some (.int (wd N:Int))]) (λx=>D.str (bC N (n,x))) (λx=>D.str (EG N n x.2)) Q [none,some (.int (wd N:Int))] O [] ⟨none,rfl⟩ (by
  rintro x hx ρ ⟨a,rfl⟩;have j:=xn e (d x hx);refine⟨_,rfl,⟨_,rfl⟩,rfl,(mD (t:=bC N (n,x)) rfl rfl (mz (EF (a:=wd N) (b:=1) rfl rfl)) (by omega)).trans ?_⟩;rw[tW];unfold bC
  rw[List.take_left' (xg c)])
 rw[zO] at z;refine iu (own:=1) (PM:=[13]) (cU (l:=Q.map λx=>D.str (bC N (n,x))) ?_) (by rw[ze];omega) ?_ z
 ·rw[d9,h]
 ·unfold eY;simp[f]
def yY(c:D1 N)(f:n∈N)(b:∀x∈Q,iz N (n,x))(h:Q.length<=90000)(d:ρ[i]?=some (some (.lst (Q.map λx=>D.str (bC N (n,x)))))):bJ (bj (aa i)) 1 [] (C9 0) bD (aO aX (aj (aa 0) ao)) ρ O=.ok (.lst ((Q.map λx=>(bC N (n,x)).length).map λn:Nat=>D.int (n:Int))) O:=by
 have z:=gO (g:=C9 0) (t:=bD) (m:=aO aX (aj (aa 0) ao)) (λρ=>∃a,ρ=[a]) (λx=>D.str (bC N (n,x))) (λx=>D.int ((bC N (n,x)).length:Int)) Q [none] O [] ⟨none,rfl⟩ (by
  rintro x hx ρ ⟨a,rfl⟩;have e:=xn c (b x hx)
  exact⟨_,rfl,⟨_,rfl⟩,rfl,lY rfl (by omega)⟩)
 rw[zO] at z;rw[zL];refine iu (own:=1) (PM:=[]) (cU (l:=Q.map λx=>D.str (bC N (n,x))) ?_) (by rw[ze];omega) rfl z;rw[d9,d]
end
def Lv(i:Nat):L2.M D:=bJ (bj (aa i)) 1 [13] (C9 0) bD (D5 (aa 0) EA (D2 (ak aD (aa 1) (kI 1))))
def Lu(i:Nat):L2.M D:=bJ (bj (aa i)) 1 [] (C9 0) bD (aO aX (aj (aa 0) ao))
def NH:MS:=(aq (aA 15 (aC qz (aj (aV "Roll" "told_rows" lW (aa 5) ao) (aj (aa 9) (aj (aa 13) ao)))))
  (aq (aA 16 (aC qz (aj (aa 14) (aj (aa 9) (aj (aa 13) ao)))))
  (aq (aF (az (ak EK (Lv 15) (Lv 16))) (aB (mC (.bl false))) aK)
  (aF (az (ak EK (Lu 15) (Lu 16))) (aB (mC (.bl false))) aK))))
section
variable {X:D}{c0 x8 x10 x11 x12:Option D}{M:Int}{N N':List Pf}{ro rl hs tx ro':Nat}{L L':List (Pf×Du)}{b:Bool}{q:Pf->Ix}{tt:Pf->Pf}{cl:Pf->Bool}{O:au}
def eL(X:D)(c0:Option D)(M:Int)(N N':List Pf)(ro ro' tx:Nat)(L':List (Pf×Du))(x8 d x10 x11 x12 c a:Option D):aN:=e6 X c0 M N N' ro ro' tx [x8,d,x10,x11,x12,some (.int (wd N:Int)),some (.lst (L'.map λr=>D.str (bC N r))),c,a]
theorem QD(k:D1 N)(w:RW O M N N ro rl hs q tt cl false (eQ false N 0 L))(y:∀r∈L,iz N r)(l:∀r∈L',iz N r)(u:L.length<=90000)(C:L'.length<=90000)(E:∀n∈N,cB L n=cB L' n):∀(R:List Pf)(m f c:Option D),(∀n∈R,n∈N) ->
  ∃s j h,bw (C9 9) NH (R.map D.str) (eL X c0 M N N' ro ro' tx L' x8 m x10 x11 x12 f c) O=.nx (eL X c0 M N N' ro ro' tx L' x8 s x10 x11 x12 j h) O
 | [],m,f,c,_=>⟨m,f,c,rfl⟩
 |a::R,m,f,c,hR=>by
  have g:=hR a zd
  have z:∀x∈cB L a,iz N (a,x):=λx F=>by
   obtain⟨r,G,rfl⟩:=zv.mp F;obtain⟨I,J⟩:=List.mem_filter.mp G
   have:=y r I
   exact⟨g,this.2⟩
  have A:(cB L a).length<=90000:=by
   unfold cB;rw[ze];exact zJ (List.length_filter_le _ _) u
  have t:=QB k y u g O;have o:=QB k l C g O;rw[QC] at t o;rw[<-E a g] at o
  generalize cB L a=Q at z A t o
  obtain⟨s,j,h,e⟩:=QD k w y l u C E R (some (.str a)) (some (.lst (Q.map λx=>D.str (bC N (a,x))))) (some (.lst (Q.map λx=>D.str (bC N (a,x))))) λn H=>hR n (zl _ H)
  refine⟨s,j,h,(dF (ρ1:=eL X c0 M N N' ro ro' tx L' x8 (some (.str a)) x10 x11 x12 f c) rfl ?_).trans e⟩
  have p:∀(i:Nat),(i=15\/i=16)->Lv i (eL X c0 M N N' ro ro' tx L' x8 (some (.str a)) x10 x11 x12 (some (.lst (Q.map λx=>D.str (bC N (a,x))))) (some (.lst (Q.map λx=>D.str (bC N (a,x)))))) O=.ok (.lst (Q.map λx=>D.str (EG N a x.2))) O:=λi v=>yT k g z A (by rcases v with rfl | rfl<;>rfl) rfl
  have B:∀(i:Nat),(i=15\/i=16)->Lu i (eL X c0 M N N' ro ro' tx L' x8 (some (.str a)) x10 x11 x12 (some (.lst (Q.map λx=>D.str (bC N (a,x))))) (some (.lst (Q.map λx=>D.str (bC N (a,x)))))) O=.ok (.lst ((Q.map λx=>(bC N (a,x)).length).map λn:Nat=>D.int (n:Int))) O:=λi v=>yY k g z A (by rcases v with rfl | rfl<;>rfl)
  exact .trans (aM (bc ((bA (DJ ((dg (n:=ro) rfl w.r rfl rfl).trans ((uo w.r w.rows).trans (by rw[Qz]))) (DJ (x:=.str a) rfl (DF (x:=.int (wd N:Int)) rfl)))).trans t))) (.trans (aM (bc ((bA (DJ (x:=.lst (L'.map λr=>D.str (bC N r))) rfl (DJ (x:=.str a) rfl (DF (x:=.int (wd N:Int)) rfl)))).trans o))) (.trans (aM (iR (cg (aW (p 15 (.inl rfl)) (p 16 (.inr rfl)) (Ox (OG λd p=>by
   obtain⟨x,_,rfl⟩:=zv.mp p
   exact⟨_,rfl,yA k g⟩)))))) (iR (cg (aW (B 15 (.inl rfl)) (B 16 (.inr rfl)) (Ox yB))))))
end
theorem QF:∀N:List Pf,nj (N.map λn=>.tup [.str n,.str []])=some (N.map λn=>(D4 n,.str []))
 | []=>rfl
 |n::N=>by
  have i:=QF N;simp [nj,i];rfl
theorem QG:∀(R:List Pf)(P:List Pf)(b:List (DC×D)),b.length<=P.length->(∀n∈P,cA b (D4 n)=some (.str []))->(((R.map λn=>(D4 n,D.str [])).foldl (λc p=>cT c p.1 p.2) b).length<=(P++R).length/\∀n∈P++R,cA ((R.map λn=>(D4 n,D.str [])).foldl (λc p=>cT c p.1 p.2) b) (D4 n)=some (.str []))
 | [],P,b,hl,h=>by grind
 |a::R,P,b,hl,h=>by
  have d:=Pj
  have i:=QG R (P++[a]) (cT b (D4 a) (.str [])) (by grind) λn e=>by
   rw[Ed]
   grind
  grind
def QH(h:m ρ O=.ok a O):IT m d ρ O=.ok (a++[d]) O:=by unfold IT;rw[h];rfl
def On(a:D1 N):D1 (N.drop 1++N.take 1)/\(∀n,n∈N.drop 1++N.take 1↔n∈N)/\(N.drop 1++N.take 1).length=N.length:=by
 have p:(N.drop 1++N.take 1).Perm N:=List.perm_append_comm.trans (by rw[List.take_append_drop]);exact⟨⟨λn h=>a.ok n (p.mem_iff.mp h),λz=>a.ne (by have:=p.length_eq;rw[z] at this;exact List.length_eq_zero_iff.mp this.symm),by rw[p.length_eq];exact a.l4,p.nodup_iff.mpr a.nd⟩,λn=>p.mem_iff,p.length_eq⟩
theorem QJ:∀N c:List Pf,gm (N.map D.str) (c.map D.str)=(N.zip c).map dD
 | [],_=>rfl
 |a::N,[]=>rfl
 |a::N,b::c=>by
  show D.tup _::gm _ _=_;rw[QJ];rfl
def QK(L:List (Pf×Du)):IA L=λn=>(cB L n).map EX:=by
 funext n
 unfold IA cB;rw[zL];rfl
def y0(d:D1 N):∀n∈N,∀c∈n,c<1114112:=λn a c b=>by
 have:=((d.ok n a).ok c b).2
 omega
def start{M:Int} {hs:Nat} (w:RW O1 M N N m o hs q (λ_=>[]) (λ_=>false) false [])(f:RW l M N' N' ro' h i j (λ_=>[]) (λ_=>false) true [])(k:Kp O1 l)(g:O1.length<=h)(e:∀n∈N',Lo O1.length (j n)):S6 l M N N' m o hs ro' h i q j (λ_=>[]) (λ_=>[]) (λ_=>false) (λ_=>false) false true [] []:=
 ⟨⟨w.kp k,λ_ _=>⟨Nat.zero_le _,λ_ z=>nomatch z⟩,λ_ z=>(nomatch z),λ_ _=>rfl⟩,⟨f,λ_ _=>⟨Nat.zero_le _,λ_ z=>nomatch z⟩,λ_ z=>(nomatch z),λ_ _=>rfl⟩,⟨λa d b c=>by
  obtain :=w.lt d;obtain⟨⟩:=e b c
  omega,λa d=>by
  obtain :=w.lt d
  omega,λb c=>by
  obtain⟨⟩:=e b c
  have:=cV w.rows
  omega,by
  have:=cV w.rows
  omega⟩⟩
def y3(f:D1 N) (h:ρ[2]?=some (some (DL N))):∃e,vD (aj (bJ (bj (aa 2)) 1 [] (C9 0) bD (aU (aj (aa 0) (aj (kS []) ao)))) ao) ρ O=.ok (.ob O.length) (O++[.dk e])/\TX (O++[.dk e]) N O.length (λ_=>[]):=by
 have i:=f.l4
 have z:=gO (g:=C9 0) (t:=bD) (m:=aU (aj (aa 0) (aj (kS []) ao))) (λρ=>∃a,ρ=[a]) D.str _ N _ O [] ⟨none,rfl⟩ (by
  rintro n hn' ρ ⟨a,rfl⟩
  exact⟨_,rfl,⟨_,rfl⟩,rfl,rfl⟩)
 rw[zO] at z
 obtain⟨d,c⟩:=QG N [] [] (zc _) λ_ z=>nomatch z
 rw[zO] at d c;refine⟨Af _,?_,_,dU,zJ d (by omega),c⟩;unfold vD;rw[DF (iu (cU (by rw[d9,h];rfl)) (by rw[ze];omega) rfl z)]
 show(match nj _ with
  |some b=>if b.length<=1000000 then C8.ok _ _ else .no
  |none=>.no)=_
 rw[QF];exact if_pos (by rw[ze];omega)
def y4(h:t ρ O=.ok false b):aF t a aK ρ O=.nx ρ b:=by rw[jG,h];rfl
def E4.to{N:List Pf}{O:au}{d B:Nat}{f:Pf->Nat}{X Y:Pf->List D}(T:E4 N O d f X B)(h:∀n∈N,X n=Y n):E4 N O d f Y B:=⟨T.dk,λn a=>by rw[<-h n a];exact T.ml n a,T.inj,T.lo⟩
def y6(ns:List Int)(hn:ns.length<=63):∃O',Ls [.lst (ns.map D.int)] []=.ok (.bl true) O':=by
 obtain⟨v,ev⟩:=Qk ns 0 [];obtain⟨m,hm,hm2⟩:=mF (EM v 33) (n:=3) (by decide);obtain⟨N,j,eN⟩:=uk v (m:=2+m) (by omega) (by omega) [];have h4:=j.l4
 have p:(1:Int)<=1+EM v 34 % 9/\1+EM v 34 % 9<=200:=by omega
 obtain⟨X,hX⟩:∃X,X=D.lst (ns.map D.int):=⟨_,rfl⟩
 have em:∀(ρ:aN)(O:au),ak aD (kI 1) (ak bK (aC c7 (aj (aa 1) (aj (kI 34) ao))) (kI 9)) (some X::some (.int v)::ρ) O=.ok (.int (1+EM v 34 % 9)) O:=λρ O=>nZ rfl (dj (eG (c:=v) rfl rfl (by decide) (by decide)) rfl (by decide))
 generalize 1+EM v 34 % 9=M at p em
 obtain⟨N',Q⟩:∃N',N'=N.drop 1++N.take 1:=⟨_,rfl⟩;obtain⟨o,g,len⟩:=On j
 have en:∀(ρ:aN)(O:au),ak aD (D5 (aa 2) (D2 (kI 1)) EA) (D5 (aa 2) EA (D2 (kI 1))) (some X::some (.int v)::some (DL N)::ρ) O=.ok (DL N') O:=λρ O=>by
  refine aW (x:=.lst ((N.drop 1).map D.str)) (y:=.lst ((N.take 1).map D.str)) ?_ ?_ ?_
  ·show FY (GO (aZ O (.lst (N.map D.str))) (some 1) none) O=_;rw[km,vH,iH,show(some 1:Option Int)=some ((1:Nat):Int) from rfl,tX,List.map_drop]
  ·show FY (GO (aZ O (.lst (N.map D.str))) none (some 1)) O=_;rw[km,vH,iH,show(some 1:Option Int)=some ((1:Nat):Int) from rfl,tW,List.map_take]
  ·rw[km,km,gx,if_pos (by rw[ze,ze,List.length_drop,List.length_take];omega),<-zI,<-Q];rfl
 rw[<-Q] at o g len;obtain⟨O1,rl,hs,q,e5,w1,k1,a1,b1,c1⟩:=Pz p j (O:=[]) (bn:=false) (ma:=IT (aj (aa 2) (aj (aa 3) ao)) (.bl false)) (ρ:=[some X,some (.int v),some (DL N),some (.int M),some (DL N'),none,none,none,none,none,none,none,none,none,none,none,none]) (QH (DJ (x:=DL N) rfl (DF (x:=.int M) rfl)));obtain⟨F,rl',hs',q',e6,w2,k2,a2,b2,c2⟩:=Pz p o (O:=O1) (bn:=true) (ma:=aj (aa 4) (aj (aa 3) (aj (mC (.bl true)) ao))) (ρ:=[some X,some (.int v),some (DL N),some (.int M),some (DL N'),some (.ob 0),none,none,none,none,none,none,none,none,none,none,none]) (DJ (x:=DL N') rfl (DJ (x:=.int M) rfl (DF (x:=.bl true) rfl)))
 obtain⟨I,e7,t7⟩:=y3 j (O:=F) (ρ:=[some X,some (.int v),some (DL N),some (.int M),some (DL N'),some (.ob 0),some (.ob O1.length),none,none,none,none,none,none,none,none,none,none]) rfl;have s7:=(start w1 w2 k2 a2 c2).kp (dH (x:=.dk I))
 have Z:∀{O:au}{N G:List Pf}{ro rl hs:Nat}{q:Pf->Ix}{s:Pf->Pf}{cl:Pf->Bool}{b:Bool}{K:List D},RW O M N G ro rl hs q s cl b K->O.length≠hs:=λw=>by
  obtain⟨_,z,_⟩:=w.hs;exact Nat.ne_of_gt (cV z)
 obtain⟨O3,q3,s,L3,y8,y9,e8,s8,t8⟩:=Qi (X:=X) (c0:=some (.int v)) (tl:=[none,none,none,none,none,none,none]) p j (Z (w1.kp k2)) (Z w2) ((ns.drop 1).take 30) _ q (λ_=>[]) [] none none (λn _=>by rw[List.length_take];show 0+_<=_;omega) s7 t7
 obtain⟨O4,ds,e9,d1,d2,k9⟩:=xw (ns:=ns) o (y0 o) (λn h=>s8.a.ok n ((g n).mp h)) (by
  obtain⟨I,z1,z2,z3⟩:=t8
  exact⟨I,z1,z2,λn h=>z3 n ((g n).mp h)⟩)
 obtain⟨O5,q5,L5,z8,z9,W,s10,k10⟩:=Qj (X:=X) (c0:=some (.int v)) (tx:=F.length) (tl:=[none,none,none,none,none,none,none]) p o ds O4 q' (λ_=>[]) [] y8 y9 d1 (λn h=>by rw[d2 n h];exact s8.a.ok n ((g n).mp h)) (s8.kp k9);have zf:(N.zip N').map Prod.fst=N:=List.map_fst_zip (by omega);have zs:(N.zip N').map Prod.snd=N':=List.map_snd_zip (by omega);obtain⟨J,q6,p6,f6,h6,H,A,x9,x10,U,B,m1,m2,k11⟩:=Qs (X:=X) (c0:=some (.int v)) (x8:=z8) (tx:=F.length) (tl:=[none,none,none,none,none,none]) p j o (N.zip N') O5 q3 q5 (λ_=>false) (λ_=>false) L3 L5 z9 none (λr hr=>⟨⟨(List.of_mem_zip hr).1,rfl⟩,(List.of_mem_zip hr).2,rfl⟩) (by rw[zf];exact j.nd) (by rw[zs];exact o.nd) s10
 rw[zf] at m1;rw[zs] at m2;have L:=((t8.Sn λi I h=>k9 i _ h).Sn k10).Sn k11
 have tl:J.length≠F.length:=by
  obtain⟨_,z,_⟩:=L;exact Nat.ne_of_gt (cV z)
 obtain⟨O7,u9,u12,T,e,t12,E⟩:=Qt (X:=X) (c0:=some (.int v)) (x8:=z8) (x10:=x10) (tl:=[none,none,none,none]) p j (Z B.a.w) (Z B.b.w) tl N [] (J++[.dk []]) x9 none j.nd (λ_ h=>h) (by show 0+_<=_;omega) (B.kp dH) (L.Sn λi I h=>dH i _ h) dU;rw[zO] at E;have l6:=e.a.ll p j;have l7:=e.b.ll p o
 have i6:∀n∈N,cB H n=dI M (s n):=λn h=>by rw[e.a.tl n h,m1 n (.inr h)];exact if_pos rfl
 have i7:∀n∈N,cB A n=dI M (s n):=λn h=>by
  have h:=(g n).mpr h;rw[e.b.tl n h,m2 n (.inr h),d2 n h];exact if_pos rfl
 have ok:∀n∈N,∀x∈dI M (s n),gC x:=λn h x hx=>(Eh p (e.a.ok n h).t x hx).1
 obtain⟨O8,u1,v1,e13,T1,C⟩:=P0 j false e.a.rz (by omega) O7;obtain⟨O9,u2,v2,e14,T2,P⟩:=P0 o true e.b.rz (by omega) O8;have u:=e.kp C;have k:=u.kp P
 have T1:=T1.to (Y:=λn=>(dI M (s n)).map EX) λn h=>by rw[QK];show(cB H n).map EX=_;rw[i6 n h]
 have T2:=T2.to (Y:=λn=>(dI M (s n)).map EX) λn h=>by rw[QK];show(cB A n).map EX=_;rw[i7 n ((g n).mp h)]
 have r7:∀r∈A,iz N r:=λr h=>⟨(g r.1).mp (e.b.rz r h).1,(e.b.rz r h).2⟩
 have wq:wd N'=wd N:=yv g o.ne j.ne
 obtain⟨j9,j15,j16,R⟩:=QD (X:=X) (c0:=some (.int v)) (N':=N') (ro':=O1.length) (tx:=F.length) (x8:=z8) (x10:=x10) (x11:=some (.ob J.length)) (x12:=u12) j k.a.w e.a.rz r7 (by omega) (by omega) (λn h=>by rw[i6 n h,i7 n h]) N u9 none none λ_ h=>h
 have ll:H.length=A.length:=by
  rw[<-FV j.nd H λr h=>(e.a.rz r h).1,<-FV j.nd A λr h=>(r7 r h).1];exact congrArg List.sum (ja λn h=>by rw[i6 n h,i7 n h])
 have sl:∀(ρ:aN)(O:au),bj (D5 (aa 0) (D2 (kI 1)) (D2 (kI 31))) (some X::ρ) O=.ok (((ns.drop 1).take 30).map D.int) O:=λρ O=>by
  rw[nG,hX];show(FY (GO (aZ O (.lst (ns.map D.int))) (some 1) (some 31)) O).bind _=_;rw[km,vH,iH,aR,show(some 1:Option Int)=some ((1:Nat):Int) from rfl,show(some 31:Option Int)=some ((31:Nat):Int) from rfl,Dv,<-List.map_drop,<-List.map_take];rfl
 have zp:∀ρ:aN,ρ[2]?=some (some (DL N))->ρ[4]?=some (some (DL N'))->∀O,rG (aa 2) (aa 4) ρ O=.ok ((N.zip N').map dD) O:=λρ h1 h2 O=>by
  rw[hU,d9,h1];show C8.bind (C8.ok (DL N) O) _=_;rw[aR,d9,h2];show C8.bind (C8.ok (DL N') O) _=_;rw[aR,<-QJ];rfl
 rw[<-hX] at ev e9 ⊢;unfold Mb at e8;unfold L9 at W;unfold Me at U;unfold Mc at T;unfold NH Lv Lu eL at R;refine⟨O9,cH (b:=CP) (ρ:=[some X,none,none,none,none,none,none,none,none,none,none,none,none,none,none,none,none]) ?_⟩;unfold CP;refine .trans (aM (bc ((bA (DJ rfl (DF (x:=.int 0) rfl))).trans ev))) (.trans (aM (bc ((bA (DJ (x:=.int v) rfl (DF (EF (a:=2) (b:=m) rfl ((dj (eG (c:=v) rfl rfl (by decide) (by decide)) rfl (by decide)).trans (by rw[<-hm];rfl)))))).trans eN))) (.trans (aM (bc (em _ _))) (.trans (aM (bc (en _ _))) (.trans (aM (ir e5)) (.trans (aM (ir e6)) (.trans (aM (ir e7)) (.trans (aM (dW (sl _ _) e8)) (.trans (aM (dW ?_ W)) (.trans (aM (dW (zp _ rfl rfl _) U)) (.trans (aM (ir (d:=.ob J.length) (O1:=J++[Ob.dk []]) rfl)) (.trans (aM (dW (cU (l:=N.map D.str) rfl) T)) ?_)))))))))))
 ·rw[nG,bA (DJ (x:=.ob F.length) rfl (DJ (x:=DL N') rfl (DF (x:=X) rfl))),e9];rfl
 ·refine .trans (aM (y4 (pT (Qw (w:=λn=>dI M (s n)) (λ_ h=>h) rfl T1 (λ_ h=>h) ok (C _ _ E) ((bA (QH (DJ (x:=DL N) rfl (DF ((dg (n:=0) rfl e.a.w.r rfl rfl).trans (uo e.a.w.r e.a.w.rows)))))).trans e13) rfl) (Qw (w:=λn=>dI M (s n)) (λn h=>(g n).mp h) len T2 (λn h=>(g n).mpr h) ok (P _ _ (C _ _ E)) ((bA (DJ (x:=DL N') rfl (DJ ((dg (n:=O1.length) rfl u.b.w.r rfl rfl).trans (uo u.b.w.r u.b.w.rows)) (DF (x:=.bl true) rfl)))).trans e14) rfl)))) (.trans (aM (bc (Od j (i:=2) rfl))) (.trans (aM (bc ((yk o e.b.rz (by omega) ((dg (n:=O1.length) rfl k.b.w.r rfl rfl).trans (uo k.b.w.r k.b.w.rows))).trans (congrArg (λf=>C8.ok (D.lst (A.map f)) O9) (funext λr=>congrArg D.str (yy wq r)))))) (.trans (aM (dW (cU (l:=N.map D.str) rfl) R)) ?_)))
  exact fG (aW (x:=.int (H.length:Int)) (y:=.int (A.length:Int)) ((jK (l:=eQ false N 0 H) ((dg (n:=0) rfl k.a.w.r rfl rfl).trans (uo k.a.w.r k.a.w.rows))).trans (by rw[oH])) ((jK (l:=A.map λr=>D.str (bC N r)) rfl).trans (by rw[ze])) (congrArg (λx=>some (D.bl x)) (zw (by rw[ll]))))
def mkK{K:PySem.W.Frag}{h:Heap}{b:Str->Option Value}{x:Str}{u:Value}{v:V}(X:K.In h)(G:h.Ns mainGlobals b)(a:PySem.W.nsIn K mainGlobals x=some (some u))(r:C6 v u):∃u,b x=some u/\C6 v u:=⟨_,PySem.W.mg_of X G a,r⟩
def Sm{K:PySem.W.Frag}{h:Heap}{b:Str->Option Value}{x:Str}{p:Addr}{c:Value}{d:Option Addr}{i:Array Value}{n:Nat}{s:Array (Option Value)}{e:List Pf}(X:K.In h)(G:h.Ns mainGlobals b)(a:PySem.W.nsIn K mainGlobals x=some (some (.ref p)))(l:K.lookup p=some ⟨c,d,.seq i n,s⟩)(t:c=.type "tuple")(z:i.size<=sizeLine)(v:aJ (e.map λl=>V.str (S l)) i.toList):uW K b x e:=⟨_,_,_,_,PySem.W.mg_of X G a,l,t,rfl,z,v⟩
def fin{l:PySem.W.OpenLaw}{w:World}{K:PySem.W.Frag}{h:Heap}{b:Str->Option Value}{n:Addr}(X:K.In h)(G:h.Ns mainGlobals b)(f:b "law" = some (.ref n))
  {A z y x u t:Addr}{j r:Option Addr}{k:Array (Option Value)}{g q p o E C:Value}
  (B:PySem.W.nsIn K mainGlobals "law" = some (some (.ref A))) (i:K.lookup A=some ⟨g,j,.func (PySem.W.fnOf "law" "law" (dq fC) (cD fC) (aQ fC) .none q p o r E C),k⟩)
  (F:(DI K "Reader" z)->(DI K "Maker" y)->(DI K "Hand" x)->(DI K "Leaps" u)->(DI K "Roll" t)->∀a,Fc l.prog w K b a) (O:DI K "Reader" z) (N:DI K "Maker" y) (L:DI K "Hand" x) (J:DI K "Leaps" u) (I:DI K "Roll" t):
  ∃m:FuncData,(∀(s:Shared)(v:Value),BindsTo s m ⟨[v],[]⟩ [("_law_script",v)])/\∀a:Heap,K.In a->a.Ns mainGlobals b->cX l.prog w K b a FA 12 n m ["_law_script"] (uV K):=by
 have e:=f.symm.trans (PySem.W.mg_of X G B);cases e;refine⟨PySem.W.fnOf "law" "law" (dq fC) (cD fC) (aQ fC) .none q p o r E C,λs v=>.of_eq rfl,λa _ _=>?_⟩;obtain⟨f',fd',d,Y,Z,R,U,T,H,c⟩:=pE (F O N L J I a);have Q:=(PySem.W.mg_of X G B).symm.trans d;cases Q;have P:=i.symm.trans c;cases P;exact R.imp (Zy y6)
def walk{l:PySem.W.OpenLaw} {K:Params->PySem.W.Frag}(hn:l.most=some 63)(hdf:d.params.defaults=[])
  (hY:∀(w:World)(h:Heap),YP w h->(K w.params).In h)
  (F:∀(w:World)(mg:Str->Option Value)(fa:Addr)(h:Heap),(K w.params).In h->h.Ns mainGlobals mg->mg d.name=some (.ref fa) ->
   ∃fd:FuncData,(∀(s:Shared)(u:Value),BindsTo s fd ⟨[u],[]⟩ [("_law_script",u)])/\∀base:Heap,(K w.params).In base->base.Ns mainGlobals mg->cX l.prog w (K w.params) mg base FA 12 fa fd ["_law_script"] (uV (K w.params))):
  PySem.W.WalkO q loose XP YP l.row.toRowW d [] (λf vs=>PySem.call f vs):=
 L2.walk_ofR (n:=63) (k:=12) (x:="_law_script") (CX:=λ_=>FA) (sp:=λw=>uV (K w.params)) hn (by decide) hdf ⟨rfl,by decide,by decide⟩ hY F (λ_ _ a ns hl ho hS=>⟨a,ns,rfl,hS,hl,ho,λ_=>rfl⟩) λ_ _ _ _ _ z=>z
end K56
open PySem PySem.W PyProof.Rows L2
set_option maxRecDepth 100000 in
set_option maxHeartbeats 0 in
theorem PySem.Challenge.cw_outweave_k56_whole_woven_otherwise_holds : PySem.Challenge.rw_outweave_k56_whole_woven_otherwise.Holds := by
 w_on;o_law;k_head;(case hw=>w_witness2)
 k_fill
 refine K56.walk (l:=PySem.Challenge.rw_outweave_k56_whole_woven_otherwise) rfl rfl (λw h Y=>PySem.W.kIn_of Y) ?F
 case F =>
  intro w mg fa h X G hmg
  refine' K56.fin X G hmg ?a ?b (λ_ _ _ _ _=>?f) ?z0 ?z1 ?z2 ?z3 ?z4
  (case a|b=>k_is)
  (case z0|z1|z2|z3|z4=>constructor;all_goals k_is)
  (case f=>intro base;constructor;all_goals repeat' first|((with_reducible apply mkD X G)<;>k_is)|((with_reducible refine DI.dm ‹_› X G ?_);apply M1<;>k_is)|((with_reducible refine DI.kf ‹_› X G ?_);k_is)|((with_reducible refine DI.dc ‹_› X G ?_);apply M1<;>k_is)|((with_reducible refine DI.dcd ‹_› X G ?_);apply eW<;>k_is)|((with_reducible apply eM X G)<;>k_is)|((with_reducible apply K56.mkK X G)<;>first|exact⟨_,rfl⟩|k_is)|((with_reducible apply K56.Sm X G)<;>first|exact rfl|k_is|decide +kernel|repeat (first|exact .nil|refine .cons ⟨_,rfl⟩ ?_))|((with_reducible apply PySem.W.mg_none_of X G)<;>k_is)|((with_reducible show lL _=true);first|kernel_rfl|decide +kernel)|constructor)
